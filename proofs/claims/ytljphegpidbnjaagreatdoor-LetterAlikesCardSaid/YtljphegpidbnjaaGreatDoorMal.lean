/- Part of the proof of a statement of YtljphegpidbnjaaGreatDoor: a logic of values by content, the lifted functions, and what follows. -/
import Derived.Test.YtljphegpidbnjaaGreatDoorMak
set_option linter.unusedVariables false
set_option linter.unusedSimpArgs false
set_option linter.unusedSectionVars false
set_option linter.constructorNameAsVariable false
section
/- Rules for running code on states by simplification: one for each form. -/
namespace Go.V
open Go

theorem upd_apply (f : Nat → VV) (d : Nat) (x : VV) (i : Nat) : upd f d x i = if i = d then x else f i := rfl
theorem updH_apply (H : Nat → Option VObj) (d : Nat) (o : VObj) (i : Nat) : updH H d o i = if i = d then some o else H i := rfl
theorem without_apply (H : Nat → Option VObj) (d i : Nat) : without H d i = if i = d then none else H i := rfl

def ev (G : Glob) (tm : Nat → VV) : Operand → VV
  | .tmp t => tm t
  | .const v => ofVal v
  | .global g => match G g with
    | some cs => .tp cs
    | none => .lit (.pointer (some ⟨g, 0, none⟩))
  | .func f => .fn (.func f) [] []

theorem ev_eq {G : Glob} {tm : Nat → VV} {H : Nat → Option VObj} {nx : Nat} {df : List VDef} : St.ρ G ⟨tm, H, nx, df⟩ = ev G tm := by
  funext y; cases y <;> rfl

/-- What is done with a value and an effect. -/
def fin (d : Option Tmp) (γ : Nat) (tm : Nat → VV) (H : Nat → Option VObj) (nx : Nat) (df : List VDef) (K : St → Prop) (x : VV) : VEff → Prop
  | .none => match d with | some d => K ⟨upd tm d x, H, nx, df⟩ | none => K ⟨tm, H, nx, df⟩
  | .new o => match d with | some d => K ⟨upd tm d x, updH H γ o, nx, df⟩ | none => K ⟨tm, updH H γ o, nx, df⟩
  | .upd β o => match d with | some d => K ⟨upd tm d x, updH H β o, nx, df⟩ | none => K ⟨tm, updH H β o, nx, df⟩
  | .mv β el cs => match d with | some d => K ⟨upd tm d x, updH (without H β) γ (.cells el cs), nx, df⟩ | none => K ⟨tm, updH (without H β) γ (.cells el cs), nx, df⟩
  | .kill β => match d with | some d => K ⟨upd tm d x, without H β, nx, df⟩ | none => K ⟨tm, without H β, nx, df⟩

theorem fin_eq {d : Option Tmp} {γ : Nat} {tm : Nat → VV} {H : Nat → Option VObj} {nx : Nat} {df : List VDef} {K : St → Prop} {x : VV} {eff : VEff} :
    K (stepTo ⟨tm, H, nx, df⟩ d x eff γ) = fin d γ tm H nx df K x eff := by
  cases d <;> cases eff <;> rfl

section
variable {P : Program} {G : Glob} {n : Nat} {γ : Nat} {tm : Nat → VV} {H : Nat → Option VObj} {nx : Nat} {df : List VDef} {K : St → Prop} {Qp : VV → St → Prop} {Q : VExit → St → Prop}
  {d : Option Tmp} {ty : TypeId} {pos : String} {af : Array Edge} {g : Option (Nat × Bool)} {l : List Oper}

theorem stepK_go {op : Op} {st : St} : stepK P G ⟨l⟩ γ ⟨d, op, ty, pos, af, none⟩ st K Qp = bodyK P G γ ⟨d, op, ty, pos, af, none⟩ st K Qp := by
  simp [stepK, wantV]

def guardK (x : VV) (w : Bool) (yes no : Prop) : Prop :=
  match x with
  | .lit (.bool b) => (b = w → yes) ∧ (b ≠ w → no)
  | .lit (.tuple _) => no
  | _ => False

theorem stepK_guard {op : Op} {j : Nat} {w : Bool} {o' : Oper} {t : Tmp} (ho : l[j]? = some o') (hd : o'.dst = some t) : stepK P G ⟨l⟩ γ ⟨d, op, ty, pos, af, some (j, w)⟩ ⟨tm, H, nx, df⟩ K Qp =
    guardK (tm t) w (bodyK P G γ ⟨d, op, ty, pos, af, some (j, w)⟩ ⟨tm, H, nx, df⟩ K Qp) (fin d γ tm H nx df K (.lit undef) .none) := by
  have e : ((⟨l⟩ : Array Oper)[j]?).bind (·.dst) = some t := by simp [ho, hd]
  have e2 : ∀ st : St, K (st.put d (.lit undef)) = K (stepTo st d (.lit undef) .none γ) := fun st => by rw [stepTo_none]
  unfold stepK wantV
  simp only [e, e2, fin_eq]
  unfold guardK
  cases htm : tm t with
  | lit v =>
    cases v with
    | bool b => cases b <;> cases w <;> simp
    | tuple a => simp
    | _ => simp
  | _ => simp

/-- A value that there may be. -/
def oK (x : Option VV) (k : VV → Prop) : Prop := match x with | some y => k y | none => False
theorem oK_some {y : VV} {k : VV → Prop} : oK (some y) k = k y := rfl
theorem oK_none {k : VV → Prop} : oK none k = False := rfl
def oeK (x : Option (VV × VEff)) (k : VV → VEff → Prop) : Prop := match x with | some (y, e) => k y e | none => False
theorem oeK_some {y : VV} {e : VEff} {k : VV → VEff → Prop} : oeK (some (y, e)) k = k y e := rfl

theorem oK_map {x : Option VV} {k : VV → VEff → Prop} : oeK (x.map fun y => (y, VEff.none)) k = oK x (fun y => k y .none) := by cases x <;> rfl

theorem oK_mapF {α : Type} {x : Option α} {f : α → VV} {k : VV → VEff → Prop} : oeK (x.map fun y => (f y, VEff.none)) k = oK (x.map f) (fun y => k y .none) := by cases x <;> rfl

def gK (t : Option Tmp) (tm : Nat → VV) (w : Bool) (yes no : Prop) : Prop := match t with
  | none => no
  | some t => guardK (tm t) w yes no
theorem gK_some {t : Tmp} {w : Bool} {a b : Prop} : gK (some t) tm w a b = guardK (tm t) w a b := rfl
theorem stepK_if {op : Op} {j : Nat} {w : Bool} : stepK P G ⟨l⟩ γ ⟨d, op, ty, pos, af, some (j, w)⟩ ⟨tm, H, nx, df⟩ K Qp =
    gK ((l[j]?).bind (·.dst)) tm w (bodyK P G γ ⟨d, op, ty, pos, af, some (j, w)⟩ ⟨tm, H, nx, df⟩ K Qp) (fin d γ tm H nx df K (.lit undef) .none) := by
  cases ho : l[j]? with
  | none =>
    have e2 : ∀ st : St, K (st.put d (.lit undef)) = K (stepTo st d (.lit undef) .none γ) := fun st => by rw [stepTo_none]
    simp [stepK, wantV, ho, gK, e2, fin_eq]
  | some o' =>
    cases hd : o'.dst with
    | none =>
      have e2 : ∀ st : St, K (st.put d (.lit undef)) = K (stepTo st d (.lit undef) .none γ) := fun st => by rw [stepTo_none]
      simp [stepK, wantV, ho, hd, gK, e2, fin_eq]
    | some t => rw [stepK_guard ho hd]; simp [hd, gK]

theorem body_op {op : Op} (h : ∀ k, op ≠ .call k) (h' : ∀ x, op ≠ .panic x) (h'' : ∀ k, op ≠ .defer k) :
    bodyK P G γ ⟨d, op, ty, pos, af, g⟩ ⟨tm, H, nx, df⟩ K Qp = oeK (vop P ⟨d, op, ty, pos, af, g⟩ (ev G tm) H γ) (fun x eff => fin d γ tm H nx df K x eff) := by
  unfold bodyK
  cases op <;> first | exact absurd rfl (h _) | exact absurd rfl (h' _) | exact absurd rfl (h'' _) | (simp only [opK, ev_eq, fin_eq, oeK]; rfl)

theorem body_move {x : Operand} : bodyK P G γ ⟨d, .move x, ty, pos, af, g⟩ ⟨tm, H, nx, df⟩ K Qp = fin d γ tm H nx df K (ev G tm x) .none := by
  rw [body_op (by simp) (by simp) (by simp)]; rfl
theorem body_assign {x : Operand} : bodyK P G γ ⟨d, .assign x, ty, pos, af, g⟩ ⟨tm, H, nx, df⟩ K Qp = fin d γ tm H nx df K (ev G tm x) .none := by
  rw [body_op (by simp) (by simp) (by simp)]; rfl

def pickK (c : VV) (a b : VV) (k : VV → Prop) : Prop := match c with
  | .lit (.bool t) => (t = true → k a) ∧ (t = false → k b)
  | _ => False
theorem body_pick {c a b : Operand} : bodyK P G γ ⟨d, .pick c a b, ty, pos, af, g⟩ ⟨tm, H, nx, df⟩ K Qp = pickK (ev G tm c) (ev G tm a) (ev G tm b) (fun x => fin d γ tm H nx df K x .none) := by
  rw [body_op (by simp) (by simp) (by simp)]
  simp only [vop, pickK, oeK]
  cases ev G tm c with
  | lit v => cases v <;> first | rfl | (rename_i t; cases t <;> simp)
  | _ => rfl

theorem body_load {t : TypeId} {x : Operand} : bodyK P G γ ⟨d, .load t x, ty, pos, af, g⟩ ⟨tm, H, nx, df⟩ K Qp = oK ((tgt H (ev G tm x)).bind (vload P t)) (fun x => fin d γ tm H nx df K x .none) := by
  rw [body_op (by simp) (by simp) (by simp)]
  simp only [vop]
  cases tgt H (ev G tm x) with
  | none => rfl
  | some cs => simp only [Option.bind_some]; exact oK_map
theorem body_fieldAddr {t f : Nat} {x : Operand} : bodyK P G γ ⟨d, .fieldAddr t x f, ty, pos, af, g⟩ ⟨tm, H, nx, df⟩ K Qp = oK (vfieldAddr P H t (ev G tm x) f) (fun x => fin d γ tm H nx df K x .none) := by
  rw [body_op (by simp) (by simp) (by simp)]; simp only [vop]; exact oK_map
theorem body_field {t f : Nat} {x : Operand} : bodyK P G γ ⟨d, .field t x f, ty, pos, af, g⟩ ⟨tm, H, nx, df⟩ K Qp = oK (vfield P t (ev G tm x) f) (fun x => fin d γ tm H nx df K x .none) := by
  rw [body_op (by simp) (by simp) (by simp)]; simp only [vop]; exact oK_map
theorem body_indexAddr {t : Nat} {x i : Operand} : bodyK P G γ ⟨d, .indexAddr t x i, ty, pos, af, g⟩ ⟨tm, H, nx, df⟩ K Qp = oK (vindexAddr P H t (ev G tm x) (ev G tm i)) (fun x => fin d γ tm H nx df K x .none) := by
  rw [body_op (by simp) (by simp) (by simp)]; simp only [vop]; exact oK_map
theorem body_index {t : Nat} {x i : Operand} : bodyK P G γ ⟨d, .index t x i, ty, pos, af, g⟩ ⟨tm, H, nx, df⟩ K Qp = oK (vindex P t (ev G tm x) (ev G tm i)) (fun x => fin d γ tm H nx df K x .none) := by
  rw [body_op (by simp) (by simp) (by simp)]; simp only [vop]; exact oK_map

def binV (P : Program) (H : Nat → Option VObj) (op : BinOp) (t : TypeId) (x y : Operand) (a b : VV) : Option VV :=
  match a.val?, b.val? with
  | some a, some b => (vbin P op t x y a b).map ofVal
  | _, _ => vptrEq P H op t a b
theorem body_bin {op : BinOp} {t u : TypeId} {x y : Operand} : bodyK P G γ ⟨d, .binOp op t x y u, ty, pos, af, g⟩ ⟨tm, H, nx, df⟩ K Qp = oK (binV P H op t x y (ev G tm x) (ev G tm y)) (fun x => fin d γ tm H nx df K x .none) := by
  rw [body_op (by simp) (by simp) (by simp)]
  simp only [vop, binV]
  cases (ev G tm x).val? with
  | none => simp only []; cases vptrEq P H op t (ev G tm x) (ev G tm y) <;> rfl
  | some a => cases (ev G tm y).val? with
    | none => simp only []; cases vptrEq P H op t (ev G tm x) (ev G tm y) <;> rfl
    | some b => exact oK_mapF
def unV (P : Program) (op : UnOp) (a : VV) : Option VV := match a.val? with | some a => (evalP P (Op.unary op a)).map ofVal | none => none
theorem body_un {op : UnOp} {t : TypeId} {x : Operand} : bodyK P G γ ⟨d, .unOp op t x, ty, pos, af, g⟩ ⟨tm, H, nx, df⟩ K Qp = oK (unV P op (ev G tm x)) (fun x => fin d γ tm H nx df K x .none) := by
  rw [body_op (by simp) (by simp) (by simp)]
  simp only [vop, unV]
  cases (ev G tm x).val? with
  | none => rfl
  | some a => exact oK_mapF
theorem body_alloc {t : TypeId} : bodyK P G γ ⟨d, .alloc t, ty, pos, af, g⟩ ⟨tm, H, nx, df⟩ K Qp = (match vzero P t with | some z => fin d γ tm H nx df K (.ptr γ 0) (.new (.cells (some t) (z.toList.map ofVal1))) | none => False) := by
  rw [body_op (by simp) (by simp) (by simp)]; simp only [vop]; cases vzero P t <;> rfl
theorem body_box {t : TypeId} {x : Operand} : bodyK P G γ ⟨d, .box t x, ty, pos, af, g⟩ ⟨tm, H, nx, df⟩ K Qp = (match vcells (ev G tm x) with | some cs => fin d γ tm H nx df K (.ptr γ 0) (.new (.cells (some t) cs)) | none => False) := by
  rw [body_op (by simp) (by simp) (by simp)]; simp only [vop]; cases vcells (ev G tm x) <;> rfl
theorem body_build {t : TypeId} {ps : Array (Nat × Operand)} : bodyK P G γ ⟨d, .build t ps, ty, pos, af, g⟩ ⟨tm, H, nx, df⟩ K Qp = oK (vbuild P t (ps.toList.map fun p => (p.1, ev G tm p.2))) (fun x => fin d γ tm H nx df K x .none) := by
  rw [body_op (by simp) (by simp) (by simp)]; simp only [vop]; exact oK_map
theorem body_buildSlice {t k : Nat} {ps : Array (Nat × Operand)} : bodyK P G γ ⟨d, .buildSlice t k ps, ty, pos, af, g⟩ ⟨tm, H, nx, df⟩ K Qp =
    (match vbuildSlice P t k (ps.toList.map fun p => (p.1, ev G tm p.2)) with | some p => fin d γ tm H nx df K (.ref γ 0 k p.2 k) (.new (.cells (elemT P t) p.1)) | none => False) := by
  rw [body_op (by simp) (by simp) (by simp)]; simp only [vop]; cases vbuildSlice P t k (ps.toList.map fun p => (p.1, ev G tm p.2)) <;> rfl
theorem body_store {t : TypeId} {a x : Operand} : bodyK P G γ ⟨d, .store t a x, ty, pos, af, g⟩ ⟨tm, H, nx, df⟩ K Qp = oeK (vop P ⟨d, .store t a x, ty, pos, af, g⟩ (ev G tm) H γ) (fun x e => fin d γ tm H nx df K x e) := by
  rw [body_op (by simp) (by simp) (by simp)]
theorem body_extract {t : Operand} {i : Nat} : bodyK P G γ ⟨d, .extract t i, ty, pos, af, g⟩ ⟨tm, H, nx, df⟩ K Qp = (match ev G tm t with | .tup vs => oK (vs[i]?) (fun x => fin d γ tm H nx df K x .none) | _ => False) := by
  rw [body_op (by simp) (by simp) (by simp)]
  simp only [vop]
  cases ev G tm t <;> try rfl
  exact oK_map
theorem body_slice {t : TypeId} {x : Operand} {lo hi mx : Option Operand} : bodyK P G γ ⟨d, .slice t x lo hi mx, ty, pos, af, g⟩ ⟨tm, H, nx, df⟩ K Qp = oeK (vop P ⟨d, .slice t x lo hi mx, ty, pos, af, g⟩ (ev G tm) H γ) (fun x e => fin d γ tm H nx df K x e) := by
  rw [body_op (by simp) (by simp) (by simp)]
theorem body_makeSlice {t : TypeId} {x y : Operand} : bodyK P G γ ⟨d, .makeSlice t x y, ty, pos, af, g⟩ ⟨tm, H, nx, df⟩ K Qp = oeK (vop P ⟨d, .makeSlice t x y, ty, pos, af, g⟩ (ev G tm) H γ) (fun x e => fin d γ tm H nx df K x e) := by
  rw [body_op (by simp) (by simp) (by simp)]
theorem body_builtin {b : Builtin} {as : Array Operand} {ats : Array TypeId} : bodyK P G γ ⟨d, .call ⟨.builtin b, as, ats⟩, ty, pos, af, g⟩ ⟨tm, H, nx, df⟩ K Qp = oeK (vbuiltin P ⟨.builtin b, as, ats⟩ (ev G tm) H γ) (fun x e => fin d γ tm H nx df K x e) := by
  simp only [bodyK, opK, vop, ev_eq, oeK, fin_eq]
  rfl
theorem body_len {t : TypeId} {x : Operand} : bodyK P G γ ⟨d, .call ⟨.builtin .len, #[x], #[t]⟩, ty, pos, af, g⟩ ⟨tm, H, nx, df⟩ K Qp = oK (vlen P H t (ev G tm x)) (fun x => fin d γ tm H nx df K x .none) := by
  rw [body_builtin]; exact oK_map
theorem body_append {t t2 : TypeId} {x y : Operand} : bodyK P G γ ⟨d, .call ⟨.builtin .append, #[x, y], #[t, t2]⟩, ty, pos, af, g⟩ ⟨tm, H, nx, df⟩ K Qp = oeK (vappend P H γ t t2 (ev G tm x) (ev G tm y)) (fun x e => fin d γ tm H nx df K x e) := by
  rw [body_builtin]; rfl
theorem body_call {f : Nat} {as : Array Operand} {ats : Array TypeId} : bodyK P G γ ⟨d, .call ⟨.value (.func f), as, ats⟩, ty, pos, af, g⟩ ⟨tm, H, nx, df⟩ K Qp = callK P G f (as.toList.map (ev G tm)) ⟨tm, H, nx, df⟩ d γ K Qp := by
  simp only [bodyK, ev_eq, ev, List.nil_append, List.append_nil]

/-- A call of a function of which it is known what it gives. -/
theorem ktree {f : FuncId} {args args0 : List VV} {x : VV} (hn : normL args = args0) (ht : treeL args = true) (hp : VPure P G f args0 (.tree x)) (h : fin d γ tm H nx df K x .none) : callK P G f args ⟨tm, H, nx, df⟩ d γ K Qp := by
  subst hn
  refine .inl ⟨ht, .tree x, hp.norm, ?_⟩
  rw [← fin_eq (K := K), stepTo_none] at h
  exact h
/-- The same, of what its arguments show. -/
theorem kseen {f : FuncId} {args args0 : List VV} {x : VV} (hn : normL (args.map (showV H 3)) = args0) (ht : treeL (args.map (showV H 3)) = true) (hp : VPure P G f args0 (.tree x)) (hf : x.flat = true) (h : fin d γ tm H nx df K x .none) : callK P G f args ⟨tm, H, nx, df⟩ d γ K Qp := by
  subst hn
  refine .inr (.inl ⟨ht, .tree x, hp.norm, hf, ?_⟩)
  rw [← fin_eq (K := K), stepTo_none] at h
  exact h
theorem kown {f : FuncId} {args args0 cs : List VV} {len es : Nat} (hn : normL args = args0) (ht : treeL args = true) (hp : VPure P G f args0 (.own cs len es)) (h : fin d γ tm H nx df K (.ref γ 0 len es len) (.new (.cells none cs))) : callK P G f args ⟨tm, H, nx, df⟩ d γ K Qp := by
  subst hn
  refine .inl ⟨ht, .own cs len es, hp.norm, ?_⟩
  rw [← fin_eq (K := K)] at h
  exact h
theorem kseenOwn {f : FuncId} {args args0 cs : List VV} {len es : Nat} (hn : normL (args.map (showV H 3)) = args0) (ht : treeL (args.map (showV H 3)) = true) (hp : VPure P G f args0 (.own cs len es)) (hf : flatL cs = true) (h : fin d γ tm H nx df K (.ref γ 0 len es len) (.new (.cells none cs))) : callK P G f args ⟨tm, H, nx, df⟩ d γ K Qp := by
  subst hn
  refine .inr (.inl ⟨ht, .own cs len es, hp.norm, hf, ?_⟩)
  rw [← fin_eq (K := K)] at h
  exact h
theorem kopen {f : FuncId} {args : List VV} {st : St} (h : openK P G f args st d K Qp) : callK P G f args st d γ K Qp := .inr (.inr h)
theorem openK_eq {f : FuncId} {args : List VV} : openK P G f args ⟨tm, H, nx, df⟩ d K Qp = VOpen P G f args H nx (fun x H' nx' => match d with | some d => K ⟨upd tm d x, H', nx', df⟩ | none => K ⟨tm, H', nx', df⟩) (fun x H' nx' => Qp x ⟨tm, H', nx', df⟩) := by
  cases d <;> rfl
theorem treeL_nil : treeL [] = true := rfl
theorem treeL_cons {x : VV} {xs : List VV} : treeL (x :: xs) = (x.tree && treeL xs) := rfl
theorem tree_lit {v : Value} : (VV.lit v).tree = true := rfl
theorem tree_agg {cs : List VV} : (VV.agg cs).tree = treeL cs := rfl
theorem tree_tup {cs : List VV} : (VV.tup cs).tree = treeL cs := rfl
theorem tree_sl {cs : List VV} {k : Nat} {b : Bool} : (VV.sl cs k b).tree = treeL cs := rfl

theorem fin_some {t : Nat} {x : VV} : fin (some t) γ tm H nx df K x .none = K ⟨upd tm t x, H, nx, df⟩ := rfl
theorem fin_new {t : Nat} {x : VV} {o : VObj} : fin (some t) γ tm H nx df K x (.new o) = K ⟨upd tm t x, updH H γ o, nx, df⟩ := rfl
theorem fin_upd {x : VV} {β : Nat} {o : VObj} : fin none γ tm H nx df K x (.upd β o) = K ⟨tm, updH H β o, nx, df⟩ := rfl
theorem fin_mv {t : Nat} {x : VV} {β : Nat} {el : Option TypeId} {cs : List VV} : fin (some t) γ tm H nx df K x (.mv β el cs) = K ⟨upd tm t x, updH (without H β) γ (.cells el cs), nx, df⟩ := rfl

theorem seqK_nil {ops : Array Oper} {base i : Nat} {st : St} : seqK P G ops base Q i [] st = Q .normal st := rfl
theorem seqK_cons {ops : Array Oper} {base i : Nat} {o : Oper} {st : St} : seqK P G ops base Q i (o :: l) st = stepK P G ops (base + i) o st (seqK P G ops base Q (i + 1) l) (fun x st' => Q (.panic x) st') := rfl

theorem cwp_seq {a b : Code} {st : St} : CWp P G n (.seq a b) Q st = CWp P G n a (VExit.then (CWp P G n b Q) Q) st := rfl
theorem cwp_skip {st : St} : CWp P G n .skip Q st = Q .normal st := rfl
theorem cwp_exit {id : Nat} {st : St} : CWp P G n (.exit id) Q st = Q (.exit id) st := rfl
theorem cwp_ret {st : St} : CWp P G n .ret Q st = Q .ret st := rfl
theorem cwp_block {id : Nat} {a : Code} {st : St} : CWp P G n (.block id a) Q st = CWp P G n a (VExit.inBlock id Q) st := rfl
def condK (x : VV) (a b : Prop) : Prop := match x with
  | .lit (.bool t) => (t = true → a) ∧ (t = false → b)
  | _ => False
theorem condK_bool {t : Bool} {a b : Prop} : condK (.lit (.bool t)) a b = ((t = true → a) ∧ (t = false → b)) := rfl
theorem cwp_cond {c : Operand} {a b : Code} : CWp P G n (.cond c a b) Q ⟨tm, H, nx, df⟩ = condK (ev G tm c) (CWp P G n a Q ⟨tm, H, nx, df⟩) (CWp P G n b Q ⟨tm, H, nx, df⟩) := by
  simp only [CWp, ev_eq, condK]
  rfl
theorem cwp_region {id : Nat} : CWp P G n (.region id ⟨l⟩ false) Q ⟨tm, H, nx, df⟩ = seqK P G ⟨l⟩ nx Q 0 l ⟨tm, H, nx + l.length, df⟩ := rfl
theorem then_normal {next : St → Prop} {st : St} : VExit.then next Q .normal st = next st := rfl
theorem then_exit {next : St → Prop} {id : Nat} {st : St} : VExit.then next Q (.exit id) st = Q (.exit id) st := rfl
theorem then_ret {next : St → Prop} {st : St} : VExit.then next Q .ret st = Q .ret st := rfl
theorem then_panic {next : St → Prop} {x : VV} {st : St} : VExit.then next Q (.panic x) st = Q (.panic x) st := rfl
theorem block_normal {id : Nat} {st : St} : VExit.inBlock id Q .normal st = Q .normal st := rfl
theorem block_ret {id : Nat} {st : St} : VExit.inBlock id Q .ret st = Q .ret st := rfl
theorem block_exit {id id' : Nat} {st : St} : VExit.inBlock id Q (.exit id') st = if id' = id then Q .normal st else Q (.exit id') st := rfl
theorem block_panic {id : Nat} {x : VV} {st : St} : VExit.inBlock id Q (.panic x) st = Q (.panic x) st := rfl
theorem pickK_bool {t : Bool} {a b : VV} {k : VV → Prop} : pickK (.lit (.bool t)) a b k = ((t = true → k a) ∧ (t = false → k b)) := rfl
theorem guardK_bool {t w : Bool} {a b : Prop} : guardK (.lit (.bool t)) w a b = ((t = w → a) ∧ (t ≠ w → b)) := rfl
theorem guardK_undef {w : Bool} {a b : Prop} {v : Array Value} : guardK (.lit (.tuple v)) w a b = b := rfl
theorem ev_tmp {t : Tmp} : ev G tm (.tmp t) = tm t := rfl
theorem ev_int {k : IntKind} {i : Int} : ev G tm (.const (.int k i)) = .lit (.int k i) := rfl
theorem ev_bool {b : Bool} : ev G tm (.const (.bool b)) = .lit (.bool b) := rfl
theorem ev_str {s : ByteArray} : ev G tm (.const (.string s)) = .lit (.string s) := rfl
theorem ev_nilslice : ev G tm (.const (.slice none 0 0)) = .lit (.slice none 0 0) := rfl
theorem ev_func {f : FuncId} : ev G tm (.func f) = .fn (.func f) [] [] := rfl

theorem bin_lss {k : IntKind} {t : TypeId} {x y : Operand} {a b : Int} : binV P H .lss t x y (.lit (.int k a)) (.lit (.int k b)) = some (.lit (.bool (decide (a < b)))) := by simp [binV, VV.val?, vbin, ofVal, ofVal2, ofVal1]
theorem bin_leq {k : IntKind} {t : TypeId} {x y : Operand} {a b : Int} : binV P H .leq t x y (.lit (.int k a)) (.lit (.int k b)) = some (.lit (.bool (decide (a ≤ b)))) := by simp [binV, VV.val?, vbin, ofVal, ofVal2, ofVal1]
theorem bin_gtr {k : IntKind} {t : TypeId} {x y : Operand} {a b : Int} : binV P H .gtr t x y (.lit (.int k a)) (.lit (.int k b)) = some (.lit (.bool (decide (a > b)))) := by simp [binV, VV.val?, vbin, ofVal, ofVal2, ofVal1]
theorem bin_geq {k : IntKind} {t : TypeId} {x y : Operand} {a b : Int} : binV P H .geq t x y (.lit (.int k a)) (.lit (.int k b)) = some (.lit (.bool (decide (a ≥ b)))) := by simp [binV, VV.val?, vbin, ofVal, ofVal2, ofVal1]
theorem bin_eql {k : IntKind} {t : TypeId} {x y : Operand} {a b : Int} : binV P H .eql t x y (.lit (.int k a)) (.lit (.int k b)) = some (.lit (.bool (a == b))) := by simp [binV, VV.val?, vbin, ofVal, ofVal2, ofVal1]
theorem bin_neq {k : IntKind} {t : TypeId} {x y : Operand} {a b : Int} : binV P H .neq t x y (.lit (.int k a)) (.lit (.int k b)) = some (.lit (.bool (a != b))) := by simp [binV, VV.val?, vbin, ofVal, ofVal2, ofVal1]
theorem bin_add {k : IntKind} {t : TypeId} {x y : Operand} {a b : Int} : binV P H .add t x y (.lit (.int k a)) (.lit (.int k b)) = some (.lit (.int k (k.wrap (a + b)))) := by simp [binV, VV.val?, vbin, ofVal, ofVal2, ofVal1]
theorem bin_sub {k : IntKind} {t : TypeId} {x y : Operand} {a b : Int} : binV P H .sub t x y (.lit (.int k a)) (.lit (.int k b)) = some (.lit (.int k (k.wrap (a - b)))) := by simp [binV, VV.val?, vbin, ofVal, ofVal2, ofVal1]
theorem bin_mul {k : IntKind} {t : TypeId} {x y : Operand} {a b : Int} : binV P H .mul t x y (.lit (.int k a)) (.lit (.int k b)) = some (.lit (.int k (k.wrap (a * b)))) := by simp [binV, VV.val?, vbin, ofVal, ofVal2, ofVal1]
theorem un_not {b : Bool} : unV P .not (.lit (.bool b)) = some (.lit (.bool (!b))) := by simp [unV, VV.val?, Op.unary, evalP_pure, ofVal, ofVal2, ofVal1]

/-! ### What simplification looks into -/
@[congr] theorem oK_congr {x x' : Option VV} {k : VV → Prop} (h : x = x') : oK x k = oK x' k := by rw [h]
@[congr] theorem oeK_congr {x x' : Option (VV × VEff)} {k : VV → VEff → Prop} (h : x = x') : oeK x k = oeK x' k := by rw [h]
@[congr] theorem cwp_congr {code : Code} {st st' : St} (h : st = st') : CWp P G n code Q st = CWp P G n code Q st' := by rw [h]
@[congr] theorem seqK_congr {ops : Array Oper} {base i : Nat} {st st' : St} (h : st = st') : seqK P G ops base Q i l st = seqK P G ops base Q i l st' := by rw [h]
@[congr] theorem stepK_congr {ops : Array Oper} {o : Oper} {st st' : St} (h : st = st') : stepK P G ops γ o st K Qp = stepK P G ops γ o st' K Qp := by rw [h]
@[congr] theorem bodyK_congr {o : Oper} {st st' : St} (h : st = st') : bodyK P G γ o st K Qp = bodyK P G γ o st' K Qp := by rw [h]
@[congr] theorem fin_congr {x x' : VV} {e e' : VEff} (h : x = x') (h2 : e = e') : fin d γ tm H nx df K x e = fin d γ tm H nx df K x' e' := by rw [h, h2]
@[congr] theorem gK_congr {t t' : Option Tmp} {w : Bool} {a b : Prop} (h : t = t') : gK t tm w a b = gK t' tm w a b := by rw [h]
@[congr] theorem guardK_congr {x x' : VV} {w : Bool} {a b : Prop} (h : x = x') : guardK x w a b = guardK x' w a b := by rw [h]
@[congr] theorem condK_congr {x x' : VV} {a b : Prop} (h : x = x') : condK x a b = condK x' a b := by rw [h]
@[congr] theorem pickK_congr {c c' a b : VV} {k : VV → Prop} (h : c = c') : pickK c a b k = pickK c' a b k := by rw [h]
@[congr] theorem callK_congr {f : FuncId} {args args' : List VV} {st : St} (h : args = args') : callK P G f args st d γ K Qp = callK P G f args' st d γ K Qp := by rw [h]

theorem argsTm0 : argsTm [] = fun _ => .lit undef := by funext t; simp [argsTm]
theorem argsTm1 {a : VV} : argsTm [a] = upd (fun _ => .lit undef) 0 a := by
  funext t; rcases t with _ | t <;> simp [argsTm, upd]
theorem argsTm2 {a b : VV} : argsTm [a, b] = upd (upd (fun _ => .lit undef) 0 a) 1 b := by
  funext t; rcases t with _ | _ | t <;> simp [argsTm, upd]
theorem argsTm3 {a b c : VV} : argsTm [a, b, c] = upd (upd (upd (fun _ => .lit undef) 0 a) 1 b) 2 c := by
  funext t; rcases t with _ | _ | _ | t <;> simp [argsTm, upd]
theorem argsTm4 {a b c e : VV} : argsTm [a, b, c, e] = upd (upd (upd (upd (fun _ => .lit undef) 0 a) 1 b) 2 c) 3 e := by
  funext t; rcases t with _ | _ | _ | _ | t <;> simp [argsTm, upd]
theorem argsTm5 {a b c e f : VV} : argsTm [a, b, c, e, f] = upd (upd (upd (upd (upd (fun _ => .lit undef) 0 a) 1 b) 2 c) 3 e) 4 f := by
  funext t; rcases t with _ | _ | _ | _ | _ | t <;> simp [argsTm, upd]

theorem post_ret {fn : Func} {r : PRes} {st : St} (h : st.df = [] ∧ ∃ x, resV P st fn.results.toList = some x ∧ SealsTo st.H x r) : PurePost P fn r .ret st := h
/-- One result. -/
theorem post1 {fn : Func} {t : Tmp} {x : VV} (hr : fn.results = #[.tmp t]) (hx : tm t = x) (ht : x.tree = true) : PurePost P fn (.tree x) .ret ⟨tm, H, nx, []⟩ :=
  ⟨rfl, x, by simp [hr, resV, resL, resV1, hx], 1, by simp [sealV, ht]⟩
theorem post2 {fn : Func} {t u : Tmp} {x y : VV} (hr : fn.results = #[.tmp t, .tmp u]) (hx : tm t = x) (hy : tm u = y) (ht : x.tree = true) (hu : y.tree = true) : PurePost P fn (.tree (.tup [x, y])) .ret ⟨tm, H, nx, []⟩ :=
  ⟨rfl, .tup [x, y], by simp [hr, resV, resL, resV1, hx, hy], 1, by simp [sealV, VV.tree, treeL, ht, hu]⟩

/-- A fact that ends a case. -/
theorem and_intro' {a b : Prop} (ha : a) (hb : b) : a ∧ b := ⟨ha, hb⟩
end

end Go.V
end
section
/- Rules for regions whose order is open. -/
namespace Go.V
open Go

/-- A quiet piece, its guard met. -/
def dbodyK (P : Program) (G : Glob) (γ : Nat) (o : Oper) (st : St) (K : List Nat → List Nat → St → Prop) : Prop :=
    match o.op with
    | .call { callee := .value fo, args := as, .. } =>
      match st.ρ G fo with
      | .fn (.func f) first captured =>
        (treeL (first ++ as.toList.map (st.ρ G) ++ captured) = true ∧ ∃ r, VPure P G f (first ++ as.toList.map (st.ρ G) ++ captured) r ∧ match r with
          | .tree x => K [] [] (st.put o.dst x)
          | .own cs len es => K [] [γ] (stepTo st o.dst (.ref γ 0 len es len) (.new (.cells none cs)) γ)
          | .panic _ => False) ∨
        (∃ args' x, sealL st.H fuelS (first ++ as.toList.map (st.ρ G) ++ captured) = some args' ∧ VPure P G f args' (.tree x) ∧ x.flat = true ∧ K (nmL st.H fuelS (first ++ as.toList.map (st.ρ G) ++ captured)) [] (st.put o.dst x))
      | _ => False
    | _ => match vop P o (st.ρ G) st.H γ with
      | some (x, eff) => K (rdV o (st.ρ G)) (eff.wr γ) (stepTo st o.dst x eff γ)
      | none => False

theorem dstepK_eq {P : Program} {G : Glob} {ops : Array Oper} {γ : Nat} {o : Oper} {st : St} {K : List Nat → List Nat → St → Prop} :
    dstepK P G ops γ o st K = (match wantV ops st.tm o with
      | none => False
      | some b => (b = true → dbodyK P G γ o st K) ∧ (b = false → K [] [] (st.put o.dst (.lit undef)))) := rfl

section
variable {P : Program} {G : Glob} {n : Nat} {γ : Nat} {tm : Nat → VV} {H : Nat → Option VObj} {nx : Nat} {df : List VDef} {K : List Nat → List Nat → St → Prop} {Q : VExit → St → Prop}
  {d : Option Tmp} {ty : TypeId} {pos : String} {af : Array Edge} {g : Option (Nat × Bool)} {l : List Oper}

theorem dstepK_go {op : Op} {st : St} : dstepK P G ⟨l⟩ γ ⟨d, op, ty, pos, af, none⟩ st K = dbodyK P G γ ⟨d, op, ty, pos, af, none⟩ st K := by
  simp [dstepK_eq, wantV]

theorem dstepK_if {op : Op} {j : Nat} {w : Bool} : dstepK P G ⟨l⟩ γ ⟨d, op, ty, pos, af, some (j, w)⟩ ⟨tm, H, nx, df⟩ K =
    gK ((l[j]?).bind (·.dst)) tm w (dbodyK P G γ ⟨d, op, ty, pos, af, some (j, w)⟩ ⟨tm, H, nx, df⟩ K) (fin d γ tm H nx df (K [] []) (.lit undef) .none) := by
  have e2 : ∀ st : St, K [] [] (st.put d (.lit undef)) = K [] [] (stepTo st d (.lit undef) .none γ) := fun st => by rw [stepTo_none]
  have e3 : fin d γ tm H nx df (K [] []) (.lit undef) .none = K [] [] (stepTo ⟨tm, H, nx, df⟩ d (.lit undef) .none γ) := fin_eq.symm
  cases ho : l[j]? with
  | none => simp [dstepK_eq, wantV, ho, gK, e2, e3]
  | some o' =>
    cases hd : o'.dst with
    | none => simp [dstepK_eq, wantV, ho, hd, gK, e2, e3]
    | some t =>
      simp only [dstepK_eq, wantV, List.getElem?_toArray, ho, hd, Option.bind_some, gK, e2, e3]
      unfold guardK
      cases htm : tm t with
      | lit v =>
        cases v with
        | bool b => cases b <;> cases w <;> simp
        | tuple a => simp
        | _ => simp
      | _ => simp

theorem dbody_op {op : Op} (h : ∀ k, op ≠ .call k) :
    dbodyK P G γ ⟨d, op, ty, pos, af, g⟩ ⟨tm, H, nx, df⟩ K = oeK (vop P ⟨d, op, ty, pos, af, g⟩ (ev G tm) H γ) (fun x eff => fin d γ tm H nx df (K (rdV ⟨d, op, ty, pos, af, g⟩ (ev G tm)) (eff.wr γ)) x eff) := by
  unfold dbodyK
  cases op <;> first | exact absurd rfl (h _) | (simp only [ev_eq, oeK, ← fin_eq]; rfl)

theorem dbody_move {x : Operand} : dbodyK P G γ ⟨d, .move x, ty, pos, af, g⟩ ⟨tm, H, nx, df⟩ K = fin d γ tm H nx df (K (rdV ⟨d, .move x, ty, pos, af, g⟩ (ev G tm)) []) (ev G tm x) .none := by
  rw [dbody_op (by simp)]; rfl
theorem dbody_assign {x : Operand} : dbodyK P G γ ⟨d, .assign x, ty, pos, af, g⟩ ⟨tm, H, nx, df⟩ K = fin d γ tm H nx df (K (rdV ⟨d, .assign x, ty, pos, af, g⟩ (ev G tm)) []) (ev G tm x) .none := by
  rw [dbody_op (by simp)]; rfl
theorem dbody_pick {c a b : Operand} : dbodyK P G γ ⟨d, .pick c a b, ty, pos, af, g⟩ ⟨tm, H, nx, df⟩ K = pickK (ev G tm c) (ev G tm a) (ev G tm b) (fun v => fin d γ tm H nx df (K (rdV ⟨d, .pick c a b, ty, pos, af, g⟩ (ev G tm)) []) v .none) := by
  rw [dbody_op (by simp)]
  simp only [vop, pickK, oeK]
  cases ev G tm c with
  | lit v => cases v <;> first | rfl | (rename_i t; cases t <;> simp [VEff.wr])
  | _ => rfl
theorem dbody_load {t : TypeId} {x : Operand} : dbodyK P G γ ⟨d, .load t x, ty, pos, af, g⟩ ⟨tm, H, nx, df⟩ K = oK ((tgt H (ev G tm x)).bind (vload P t)) (fun v => fin d γ tm H nx df (K (rdV ⟨d, .load t x, ty, pos, af, g⟩ (ev G tm)) []) v .none) := by
  rw [dbody_op (by simp)]
  simp only [vop]
  cases tgt H (ev G tm x) with
  | none => rfl
  | some cs => simp only [Option.bind_some]; cases vload P t cs <;> rfl
theorem dbody_fieldAddr {t f : Nat} {x : Operand} : dbodyK P G γ ⟨d, .fieldAddr t x f, ty, pos, af, g⟩ ⟨tm, H, nx, df⟩ K = oK (vfieldAddr P H t (ev G tm x) f) (fun v => fin d γ tm H nx df (K (rdV ⟨d, .fieldAddr t x f, ty, pos, af, g⟩ (ev G tm)) []) v .none) := by
  rw [dbody_op (by simp)]
  simp only [vop]; cases vfieldAddr P H t (ev G tm x) f <;> rfl
theorem dbody_field {t f : Nat} {x : Operand} : dbodyK P G γ ⟨d, .field t x f, ty, pos, af, g⟩ ⟨tm, H, nx, df⟩ K = oK (vfield P t (ev G tm x) f) (fun v => fin d γ tm H nx df (K (rdV ⟨d, .field t x f, ty, pos, af, g⟩ (ev G tm)) []) v .none) := by
  rw [dbody_op (by simp)]
  simp only [vop]; cases vfield P t (ev G tm x) f <;> rfl
theorem dbody_indexAddr {t : Nat} {x i : Operand} : dbodyK P G γ ⟨d, .indexAddr t x i, ty, pos, af, g⟩ ⟨tm, H, nx, df⟩ K = oK (vindexAddr P H t (ev G tm x) (ev G tm i)) (fun v => fin d γ tm H nx df (K (rdV ⟨d, .indexAddr t x i, ty, pos, af, g⟩ (ev G tm)) []) v .none) := by
  rw [dbody_op (by simp)]
  simp only [vop]; cases vindexAddr P H t (ev G tm x) (ev G tm i) <;> rfl
theorem dbody_index {t : Nat} {x i : Operand} : dbodyK P G γ ⟨d, .index t x i, ty, pos, af, g⟩ ⟨tm, H, nx, df⟩ K = oK (vindex P t (ev G tm x) (ev G tm i)) (fun v => fin d γ tm H nx df (K (rdV ⟨d, .index t x i, ty, pos, af, g⟩ (ev G tm)) []) v .none) := by
  rw [dbody_op (by simp)]
  simp only [vop]; cases vindex P t (ev G tm x) (ev G tm i) <;> rfl
theorem dbody_bin {op : BinOp} {t u : TypeId} {x y : Operand} : dbodyK P G γ ⟨d, .binOp op t x y u, ty, pos, af, g⟩ ⟨tm, H, nx, df⟩ K = oK (binV P H op t x y (ev G tm x) (ev G tm y)) (fun v => fin d γ tm H nx df (K (rdV ⟨d, .binOp op t x y u, ty, pos, af, g⟩ (ev G tm)) []) v .none) := by
  rw [dbody_op (by simp)]
  simp only [vop, binV]
  cases (ev G tm x).val? with
  | none => simp only []; cases vptrEq P H op t (ev G tm x) (ev G tm y) <;> rfl
  | some a => cases (ev G tm y).val? with
    | none => simp only []; cases vptrEq P H op t (ev G tm x) (ev G tm y) <;> rfl
    | some b => simp only []; cases vbin P op t x y a b <;> rfl
theorem dbody_un {op : UnOp} {t : TypeId} {x : Operand} : dbodyK P G γ ⟨d, .unOp op t x, ty, pos, af, g⟩ ⟨tm, H, nx, df⟩ K = oK (unV P op (ev G tm x)) (fun v => fin d γ tm H nx df (K (rdV ⟨d, .unOp op t x, ty, pos, af, g⟩ (ev G tm)) []) v .none) := by
  rw [dbody_op (by simp)]
  simp only [vop, unV]
  cases (ev G tm x).val? with
  | none => rfl
  | some a => simp only []; cases evalP P (Op.unary op a) <;> rfl
theorem dbody_build {t : TypeId} {ps : Array (Nat × Operand)} : dbodyK P G γ ⟨d, .build t ps, ty, pos, af, g⟩ ⟨tm, H, nx, df⟩ K = oK (vbuild P t (ps.toList.map fun p => (p.1, ev G tm p.2))) (fun v => fin d γ tm H nx df (K (rdV ⟨d, .build t ps, ty, pos, af, g⟩ (ev G tm)) []) v .none) := by
  rw [dbody_op (by simp)]
  simp only [vop]; cases vbuild P t (ps.toList.map fun p => (p.1, ev G tm p.2)) <;> rfl
theorem dbody_alloc {t : TypeId} : dbodyK P G γ ⟨d, .alloc t, ty, pos, af, g⟩ ⟨tm, H, nx, df⟩ K = (match vzero P t with | some z => fin d γ tm H nx df (K (rdV ⟨d, .alloc t, ty, pos, af, g⟩ (ev G tm)) [γ]) (.ptr γ 0) (.new (.cells (some t) (z.toList.map ofVal1))) | none => False) := by
  rw [dbody_op (by simp)]; simp only [vop]; cases vzero P t <;> rfl
theorem dbody_box {t : TypeId} {x : Operand} : dbodyK P G γ ⟨d, .box t x, ty, pos, af, g⟩ ⟨tm, H, nx, df⟩ K = (match vcells (ev G tm x) with | some cs => fin d γ tm H nx df (K (rdV ⟨d, .box t x, ty, pos, af, g⟩ (ev G tm)) [γ]) (.ptr γ 0) (.new (.cells (some t) cs)) | none => False) := by
  rw [dbody_op (by simp)]; simp only [vop]; cases vcells (ev G tm x) <;> rfl
theorem dbody_buildSlice {t k : Nat} {ps : Array (Nat × Operand)} : dbodyK P G γ ⟨d, .buildSlice t k ps, ty, pos, af, g⟩ ⟨tm, H, nx, df⟩ K =
    (match vbuildSlice P t k (ps.toList.map fun p => (p.1, ev G tm p.2)) with | some p => fin d γ tm H nx df (K (rdV ⟨d, .buildSlice t k ps, ty, pos, af, g⟩ (ev G tm)) [γ]) (.ref γ 0 k p.2 k) (.new (.cells (elemT P t) p.1)) | none => False) := by
  rw [dbody_op (by simp)]; simp only [vop]; cases vbuildSlice P t k (ps.toList.map fun p => (p.1, ev G tm p.2)) <;> rfl
theorem dbody_extract {t : Operand} {i : Nat} : dbodyK P G γ ⟨d, .extract t i, ty, pos, af, g⟩ ⟨tm, H, nx, df⟩ K = (match ev G tm t with | .tup vs => oK (vs[i]?) (fun v => fin d γ tm H nx df (K (rdV ⟨d, .extract t i, ty, pos, af, g⟩ (ev G tm)) []) v .none) | _ => False) := by
  rw [dbody_op (by simp)]
  simp only [vop]
  cases ev G tm t with
  | tup vs => simp only []; cases vs[i]? <;> rfl
  | _ => rfl
theorem dbody_store {t : TypeId} {a x : Operand} : dbodyK P G γ ⟨d, .store t a x, ty, pos, af, g⟩ ⟨tm, H, nx, df⟩ K = oeK (vop P ⟨d, .store t a x, ty, pos, af, g⟩ (ev G tm) H γ) (fun v e => fin d γ tm H nx df (K (rdV ⟨d, .store t a x, ty, pos, af, g⟩ (ev G tm)) (e.wr γ)) v e) := by
  rw [dbody_op (by simp)]
theorem dbody_slice {t : TypeId} {x : Operand} {lo hi mx : Option Operand} : dbodyK P G γ ⟨d, .slice t x lo hi mx, ty, pos, af, g⟩ ⟨tm, H, nx, df⟩ K = oeK (vop P ⟨d, .slice t x lo hi mx, ty, pos, af, g⟩ (ev G tm) H γ) (fun v e => fin d γ tm H nx df (K (rdV ⟨d, .slice t x lo hi mx, ty, pos, af, g⟩ (ev G tm)) (e.wr γ)) v e) := by
  rw [dbody_op (by simp)]
theorem dbody_makeSlice {t : TypeId} {x y : Operand} : dbodyK P G γ ⟨d, .makeSlice t x y, ty, pos, af, g⟩ ⟨tm, H, nx, df⟩ K = oeK (vop P ⟨d, .makeSlice t x y, ty, pos, af, g⟩ (ev G tm) H γ) (fun v e => fin d γ tm H nx df (K (rdV ⟨d, .makeSlice t x y, ty, pos, af, g⟩ (ev G tm)) (e.wr γ)) v e) := by
  rw [dbody_op (by simp)]
theorem dbody_builtin {b : Builtin} {as : Array Operand} {ats : Array TypeId} : dbodyK P G γ ⟨d, .call ⟨.builtin b, as, ats⟩, ty, pos, af, g⟩ ⟨tm, H, nx, df⟩ K = oeK (vbuiltin P ⟨.builtin b, as, ats⟩ (ev G tm) H γ) (fun v e => fin d γ tm H nx df (K (rdV ⟨d, .call ⟨.builtin b, as, ats⟩, ty, pos, af, g⟩ (ev G tm)) (e.wr γ)) v e) := by
  simp only [dbodyK, vop, ev_eq, oeK, ← fin_eq]
  rfl
theorem dbody_len {t : TypeId} {x : Operand} : dbodyK P G γ ⟨d, .call ⟨.builtin .len, #[x], #[t]⟩, ty, pos, af, g⟩ ⟨tm, H, nx, df⟩ K = oK (vlen P H t (ev G tm x)) (fun y => fin d γ tm H nx df (K (rdV ⟨d, .call ⟨.builtin .len, #[x], #[t]⟩, ty, pos, af, g⟩ (ev G tm)) []) y .none) := by
  rw [dbody_builtin]
  show oeK ((vlen P H t (ev G tm x)).map fun y => (y, VEff.none)) _ = _
  cases vlen P H t (ev G tm x) <;> rfl
theorem dbody_append {t t2 : TypeId} {x y : Operand} : dbodyK P G γ ⟨d, .call ⟨.builtin .append, #[x, y], #[t, t2]⟩, ty, pos, af, g⟩ ⟨tm, H, nx, df⟩ K = oeK (vappend P H γ t t2 (ev G tm x) (ev G tm y)) (fun z e => fin d γ tm H nx df (K (rdV ⟨d, .call ⟨.builtin .append, #[x, y], #[t, t2]⟩, ty, pos, af, g⟩ (ev G tm)) (e.wr γ)) z e) := by
  rw [dbody_builtin]; rfl

/-- A quiet call. -/
def dcallK (P : Program) (G : Glob) (f : FuncId) (args : List VV) (tm : Nat → VV) (H : Nat → Option VObj) (nx : Nat) (df : List VDef) (d : Option Tmp) (γ : Nat) (K : List Nat → List Nat → St → Prop) : Prop :=
  (treeL args = true ∧ ∃ r, VPure P G f args r ∧ match r with
    | .tree x => fin d γ tm H nx df (K [] []) x .none
    | .own cs len es => fin d γ tm H nx df (K [] [γ]) (.ref γ 0 len es len) (.new (.cells none cs))
    | .panic _ => False) ∨
  (∃ args' x, sealL H fuelS args = some args' ∧ VPure P G f args' (.tree x) ∧ x.flat = true ∧ fin d γ tm H nx df (K (nmL H fuelS args) []) x .none)
theorem dktree {f : FuncId} {args args0 : List VV} {x : VV} (hn : normL args = args0) (ht : treeL args = true) (hp : VPure P G f args0 (.tree x)) (h : fin d γ tm H nx df (K [] []) x .none) : dcallK P G f args tm H nx df d γ K := by
  subst hn
  exact .inl ⟨ht, .tree x, hp.norm, h⟩
theorem dkown {f : FuncId} {args args0 cs : List VV} {len es : Nat} (hn : normL args = args0) (ht : treeL args = true) (hp : VPure P G f args0 (.own cs len es)) (h : fin d γ tm H nx df (K [] [γ]) (.ref γ 0 len es len) (.new (.cells none cs))) : dcallK P G f args tm H nx df d γ K := by
  subst hn
  exact .inl ⟨ht, .own cs len es, hp.norm, h⟩
theorem dkseen {f : FuncId} {args args0 args1 : List VV} {x : VV} (hs : sealL H fuelS args = some args1) (hn : normL args1 = args0) (hp : VPure P G f args0 (.tree x)) (hf : x.flat = true) (h : fin d γ tm H nx df (K (nmL H fuelS args) []) x .none) : dcallK P G f args tm H nx df d γ K := by
  subst hn
  exact .inr ⟨args1, x, hs, hp.norm, hf, h⟩
@[congr] theorem dcallK_congr {f : FuncId} {args args' : List VV} (h : args = args') : dcallK P G f args tm H nx df d γ K = dcallK P G f args' tm H nx df d γ K := by rw [h]

theorem dbody_call {f : Nat} {as : Array Operand} {ats : Array TypeId} : dbodyK P G γ ⟨d, .call ⟨.value (.func f), as, ats⟩, ty, pos, af, g⟩ ⟨tm, H, nx, df⟩ K = dcallK P G f (as.toList.map (ev G tm)) tm H nx df d γ K := by
  simp only [dbodyK, ev_eq, ev, List.nil_append, List.append_nil, dcallK]
  refine propext (or_congr (and_congr_right fun _ => exists_congr fun r => and_congr_right fun _ => ?_) (exists_congr fun a => exists_congr fun x => and_congr_right fun _ => and_congr_right fun _ => and_congr_right fun _ => ?_))
  · cases r with
    | tree x =>
      simp only
      rw [← stepTo_none _ _ _ γ]
      exact iff_of_eq (fin_eq (K := K [] []))
    | own cs len es => exact iff_of_eq (fin_eq (K := K [] [γ]))
    | panic x => rfl
  · rw [← stepTo_none _ _ _ γ]
    exact iff_of_eq (fin_eq (K := K (nmL H fuelS (as.toList.map (ev G tm))) []))

@[congr] theorem dstepK_congr {ops : Array Oper} {o : Oper} {st st' : St} (h : st = st') : dstepK P G ops γ o st K = dstepK P G ops γ o st' K := by rw [h]
@[congr] theorem dbodyK_congr {o : Oper} {st st' : St} (h : st = st') : dbodyK P G γ o st K = dbodyK P G γ o st' K := by rw [h]
@[congr] theorem drawK_congr {ops : Array Oper} {base i : Nat} {tr : Tr} {st st' : St} (h : st = st') : drawK P G ops base Q i l tr st = drawK P G ops base Q i l tr st' := by rw [h]

/-! ### The trace -/
def quietB : Tr → Bool
  | [] => true
  | p :: tr => p.2.2.isEmpty && quietB tr
theorem quietB_nil : quietB [] = true := by simp [quietB]
theorem quietB_cons {i : Nat} {rd : List Nat} {tr : Tr} : quietB ((i, rd, []) :: tr) = quietB tr := by simp [quietB]

theorem quiet_mem : ∀ {tr : Tr}, quietB tr = true → ∀ p ∈ tr, p.2.2 = []
  | [], _, _, h => by cases h
  | q :: tr, hq, p, hp => by
    simp only [quietB, Bool.and_eq_true, List.isEmpty_iff] at hq
    rcases List.mem_cons.1 hp with rfl | hp
    · exact hq.1
    · exact quiet_mem hq.2 p hp

theorem traceK_quiet {ops : Array Oper} : ∀ {tr : Tr}, (∀ p ∈ tr, p.2.2 = []) → traceK ops tr
  | [], _ => trivial
  | p :: tr, h => ⟨fun q hq => .inr ⟨by rw [h p List.mem_cons_self]; simp, by rw [h q (List.mem_cons_of_mem _ hq)]; simp⟩, traceK_quiet fun q hq => h q (List.mem_cons_of_mem _ hq)⟩

theorem drawK_quiet {ops : Array Oper} {base i : Nat} {tr : Tr} {st : St} (h : quietB tr = true) : drawK P G ops base Q i [] tr st = Q .normal st := by
  refine propext ⟨fun h => h.2, fun hq => ⟨traceK_quiet fun p hp => quiet_mem h p (List.mem_reverse.1 hp), hq⟩⟩

/-- What came before, the last one first. -/
def hitK (ops : Array Oper) (j : Nat) (rd wr : List Nat) : Tr → Prop
  | [] => True
  | p :: tr => (isBefore ops ops.size p.1 j = true ∨ ((∀ β ∈ p.2.2, β ∉ rd ∧ β ∉ wr) ∧ ∀ β ∈ wr, β ∉ p.2.1)) ∧ hitK ops j rd wr tr
def traceR (ops : Array Oper) : Tr → Prop
  | [] => True
  | p :: tr => hitK ops p.1 p.2.1 p.2.2 tr ∧ traceR ops tr

theorem hitK_all {ops : Array Oper} {j : Nat} {rd wr : List Nat} : ∀ {tr : Tr}, hitK ops j rd wr tr → ∀ p ∈ tr, isBefore ops ops.size p.1 j = true ∨ Indep p (j, rd, wr)
  | [], _, _, hp => by cases hp
  | q :: tr, h, p, hp => by
    rcases List.mem_cons.1 hp with rfl | hp
    · exact h.1
    · exact hitK_all h.2 p hp

theorem traceK_append {ops : Array Oper} {q : Nat × List Nat × List Nat} : ∀ {tr : Tr}, traceK ops tr → (∀ p ∈ tr, isBefore ops ops.size p.1 q.1 = true ∨ Indep p q) → traceK ops (tr ++ [q])
  | [], _, h => ⟨fun q hq => (List.not_mem_nil hq).elim, trivial⟩
  | p :: tr, h, h' => ⟨fun r hr => by
      rcases List.mem_append.1 hr with hr | hr
      · exact h.1 r hr
      · rw [List.mem_singleton.1 hr]; exact h' p List.mem_cons_self, traceK_append h.2 fun r hr => h' r (List.mem_cons_of_mem _ hr)⟩

theorem traceR_sound {ops : Array Oper} : ∀ {tr : Tr}, traceR ops tr → traceK ops tr.reverse
  | [], _ => trivial
  | p :: tr, h => by
    rw [List.reverse_cons]
    exact traceK_append (traceR_sound h.2) fun q hq => hitK_all h.1 q (List.mem_reverse.1 hq)

theorem drawK_nil {ops : Array Oper} {base i : Nat} {tr : Tr} {st : St} (h : traceR ops tr ∧ Q .normal st) : drawK P G ops base Q i [] tr st := ⟨traceR_sound h.1, h.2⟩
theorem drawK_cons {ops : Array Oper} {base i : Nat} {o : Oper} {tr : Tr} {st : St} : drawK P G ops base Q i (o :: l) tr st = dstepK P G ops (base + i) o st fun rd wr st' => drawK P G ops base Q (i + 1) l ((i, rd, wr) :: tr) st' := rfl
theorem cwp_draw {id : Nat} : CWp P G n (.region id ⟨l⟩ true) Q ⟨tm, H, nx, df⟩ = drawK P G ⟨l⟩ nx Q 0 l [] ⟨tm, H, nx + l.length, df⟩ := rfl

theorem hitK_nil {ops : Array Oper} {j : Nat} {rd wr : List Nat} : hitK ops j rd wr [] = True := rfl
theorem hitK_quiet {ops : Array Oper} {i j : Nat} {rd rd' : List Nat} {tr : Tr} : hitK ops j rd [] ((i, rd', []) :: tr) = hitK ops j rd [] tr := by
  simp [hitK]
theorem hitK_cons {ops : Array Oper} {i j : Nat} {rd wr rd' wr' : List Nat} {tr : Tr} : hitK ops j rd wr ((i, rd', wr') :: tr) = ((isBefore ops ops.size i j = true ∨ ((∀ β ∈ wr', β ∉ rd ∧ β ∉ wr) ∧ ∀ β ∈ wr, β ∉ rd')) ∧ hitK ops j rd wr tr) := rfl
theorem traceR_nil {ops : Array Oper} : traceR ops [] = True := rfl
theorem traceR_cons {ops : Array Oper} {i : Nat} {rd wr : List Nat} {tr : Tr} : traceR ops ((i, rd, wr) :: tr) = (hitK ops i rd wr tr ∧ traceR ops tr) := rfl
end
end Go.V
end
