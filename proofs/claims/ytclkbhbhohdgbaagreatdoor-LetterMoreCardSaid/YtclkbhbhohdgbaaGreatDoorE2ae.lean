/- Part of a proof. -/
import Derived.Test.YtclkbhbhohdgbaaGreatDoorE2ad
set_option linter.all false
section
namespace Go.V
open Go
theorem fL (f : Nat → VV) (d : Nat) (x : VV) (i : Nat) : upd f d x i = if i = d then x else f i := rfl
theorem aQ (H : Nat → Option Vo) (d : Nat) (o : Vo) (i : Nat) : updH H d o i = if i = d then some o else H i := rfl
theorem bp (H : Nat → Option Vo) (d i : Nat) : without H d i = if i = d then none else H i := rfl
def ev (G : Gb) (tm : Nat → VV) : Operand → VV
 | .tmp t => tm t
 | .const v => ofVal v
 | .global g => match G g with
  | some cs => .tp cs
  | none => .lit (.pointer (some ⟨g, 0, none⟩))
 | .func f => .fn (.func f) [] []
variable {tm : Nat → VV} {H : Nat → Option Vo} {df : List VDef}
theorem ev_eq {G : Gb} {nx : Nat} : St.ρ G ⟨tm, H, nx, df⟩ = ev G tm := by
 funext y; cases y <;> rfl
def fin (d : Option Tmp) (γ : Nat) (tm : Nat → VV) (H : Nat → Option Vo) (nx : Nat) (df : List VDef) (K : St → Prop) (x : VV) : Ve → Prop
 | .none => match d with | some d => K ⟨upd tm d x, H, nx, df⟩ | none => K ⟨tm, H, nx, df⟩
 | .new o => match d with | some d => K ⟨upd tm d x, updH H γ o, nx, df⟩ | none => K ⟨tm, updH H γ o, nx, df⟩
 | .upd β o => match d with | some d => K ⟨upd tm d x, updH H β o, nx, df⟩ | none => K ⟨tm, updH H β o, nx, df⟩
 | .mv β el cs => match d with | some d => K ⟨upd tm d x, updH (without H β) γ (.cells el cs), nx, df⟩ | none => K ⟨tm, updH (without H β) γ (.cells el cs), nx, df⟩
 | .kill β => match d with | some d => K ⟨upd tm d x, without H β, nx, df⟩ | none => K ⟨tm, without H β, nx, df⟩
theorem iU {d : Option Tmp} {γ : Nat} {nx : Nat} {K : St → Prop} {x : VV} {eff : Ve} :
  K (bl ⟨tm, H, nx, df⟩ d x eff γ) = fin d γ tm H nx df K x eff := by
 cases d <;> cases eff <;> rfl
variable {x y : Operand} {op : Op} {w : Bool} {t : TypeId} {k : IntKind} {a b : Int} {c x' : VV} {f : FuncId} {i aa id : Nat} {ps : Array (Nat × Operand)} {as : Array Operand} {ats : Array TypeId} {args args0 cs : List VV} {ops : Array Oper} {o : Oper} {next : St → Prop} {st' : St}
section
variable {P : Program} {G : Gb} {n : Nat} {γ : Nat} {tm : Nat → VV} {H : Nat → Option Vo} {nx : Nat} {df : List VDef} {K : St → Prop} {Qp : VV → St → Prop} {Q : Vx → St → Prop}
 {d : Option Tmp} {ty : TypeId} {pos : String} {af : Array Edge} {g : Option (Nat × Bool)} {l : List Oper}
theorem GR {st : St} : stepK P G ⟨l⟩ γ ⟨d, op, ty, pos, af, none⟩ st K Qp = bd P G γ ⟨d, op, ty, pos, af, none⟩ st K Qp := by
 simp [stepK, aO]
def guardK (x : VV) (w : Bool) (yes no : Prop) : Prop :=
 match x with
 | .lit (.bool b) => (b = w → yes) ∧ (b ≠ w → no)
 | .lit (.tuple _) => no
 | _ => False
theorem GS {j : Nat} {o' : Oper} {t : Tmp} (ho : l[j]? = some o') (hd : o'.dst = some t) : stepK P G ⟨l⟩ γ ⟨d, op, ty, pos, af, some (j, w)⟩ ⟨tm, H, nx, df⟩ K Qp =
  guardK (tm t) w (bd P G γ ⟨d, op, ty, pos, af, some (j, w)⟩ ⟨tm, H, nx, df⟩ K Qp) (fin d γ tm H nx df K (.lit undef) .none) := by
 have e : ((⟨l⟩ : Array Oper)[j]?).bind (·.dst) = some t := by simp [ho, hd]
 have e2 : ∀ st : St, K (st.put d (.lit undef)) = K (bl st d (.lit undef) .none γ) := fun st => by rw [jP]
 unfold stepK aO
 simp only [e, e2, iU]
 unfold guardK
 cases htm : tm t with
 | lit v =>
  cases v with
  | bool b => cases b <;> cases w <;> simp
  | tuple a => simp
  | _ => simp
 | _ => simp
def oK (x : Option VV) (k : VV → Prop) : Prop := match x with | some y => k y | none => False
theorem GU {y : VV} {k : VV → Prop} : oK (some y) k = k y := rfl
theorem GV {k : VV → Prop} : oK none k = False := rfl
def oeK (x : Option (VV × Ve)) (k : VV → Ve → Prop) : Prop := match x with | some (y, e) => k y e | none => False
theorem GW {y : VV} {e : Ve} {k : VV → Ve → Prop} : oeK (some (y, e)) k = k y e := rfl
theorem qs {x : Option VV} {k : VV → Ve → Prop} : oeK (x.map fun y => (y, Ve.none)) k = oK x (fun y => k y .none) := by cases x <;> rfl
theorem zl {α : Type} {x : Option α} {f : α → VV} {k : VV → Ve → Prop} : oeK (x.map fun y => (f y, Ve.none)) k = oK (x.map f) (fun y => k y .none) := by cases x <;> rfl
def gK (t : Option Tmp) (tm : Nat → VV) (w : Bool) (yes no : Prop) : Prop := match t with
 | none => no
 | some t => guardK (tm t) w yes no
theorem GX {t : Tmp} {a b : Prop} : gK (some t) tm w a b = guardK (tm t) w a b := rfl
theorem GY {j : Nat} : stepK P G ⟨l⟩ γ ⟨d, op, ty, pos, af, some (j, w)⟩ ⟨tm, H, nx, df⟩ K Qp =
  gK ((l[j]?).bind (·.dst)) tm w (bd P G γ ⟨d, op, ty, pos, af, some (j, w)⟩ ⟨tm, H, nx, df⟩ K Qp) (fin d γ tm H nx df K (.lit undef) .none) := by
 cases ho : l[j]? with
 | none =>
  have e2 : ∀ st : St, K (st.put d (.lit undef)) = K (bl st d (.lit undef) .none γ) := fun st => by rw [jP]
  simp [stepK, aO, ho, gK, e2, iU]
 | some o' =>
  cases hd : o'.dst with
  | none =>
   have e2 : ∀ st : St, K (st.put d (.lit undef)) = K (bl st d (.lit undef) .none γ) := fun st => by rw [jP]
   simp [stepK, aO, ho, hd, gK, e2, iU]
  | some t => rw [GS ho hd]; simp [hd, gK]
theorem iD (h : ∀ k, op ≠ .call k) (h' : ∀ x, op ≠ .panic x) (h'' : ∀ k, op ≠ .defer k) :
  bd P G γ ⟨d, op, ty, pos, af, g⟩ ⟨tm, H, nx, df⟩ K Qp = oeK (vop P ⟨d, op, ty, pos, af, g⟩ (ev G tm) H γ) (fun x eff => fin d γ tm H nx df K x eff) := by
 unfold bd
 cases op <;> first | exact absurd rfl (h _) | exact absurd rfl (h' _) | exact absurd rfl (h'' _) | (simp only [opK, ev_eq, iU, oeK]; rfl)
theorem GZ : bd P G γ ⟨d, .move x, ty, pos, af, g⟩ ⟨tm, H, nx, df⟩ K Qp = fin d γ tm H nx df K (ev G tm x) .none := by
 rw [iD (by simp) (by simp) (by simp)]; rfl
theorem Hd : bd P G γ ⟨d, .assign x, ty, pos, af, g⟩ ⟨tm, H, nx, df⟩ K Qp = fin d γ tm H nx df K (ev G tm x) .none := by
 rw [iD (by simp) (by simp) (by simp)]; rfl
def pickK (c : VV) (a b : VV) (k : VV → Prop) : Prop := match c with
 | .lit (.bool t) => (t = true → k a) ∧ (t = false → k b)
 | _ => False
theorem He {c a b : Operand} : bd P G γ ⟨d, .pick c a b, ty, pos, af, g⟩ ⟨tm, H, nx, df⟩ K Qp = pickK (ev G tm c) (ev G tm a) (ev G tm b) (fun x => fin d γ tm H nx df K x .none) := by
 rw [iD (by simp) (by simp) (by simp)]
 simp only [vop, pickK, oeK]
 cases ev G tm c with
 | lit v => cases v <;> first | rfl | (rename_i t; cases t <;> simp)
 | _ => rfl
theorem Hf : bd P G γ ⟨d, .load t x, ty, pos, af, g⟩ ⟨tm, H, nx, df⟩ K Qp = oK ((tgt H (ev G tm x)).bind (aS P t)) (fun x => fin d γ tm H nx df K x .none) := by
 rw [iD (by simp) (by simp) (by simp)]
 simp only [vop]
 cases tgt H (ev G tm x) with
 | none => rfl
 | some cs => simp only [Option.bind_some]; exact qs
theorem Wd {t f : Nat} : bd P G γ ⟨d, .fieldAddr t x f, ty, pos, af, g⟩ ⟨tm, H, nx, df⟩ K Qp = oK (ag P H t (ev G tm x) f) (fun x => fin d γ tm H nx df K x .none) := by
 rw [iD (by simp) (by simp) (by simp)]; simp only [vop]; exact qs
theorem Hg {t f : Nat} : bd P G γ ⟨d, .field t x f, ty, pos, af, g⟩ ⟨tm, H, nx, df⟩ K Qp = oK (vfield P t (ev G tm x) f) (fun x => fin d γ tm H nx df K x .none) := by
 rw [iD (by simp) (by simp) (by simp)]; simp only [vop]; exact qs
theorem We {t : Nat} {i : Operand} : bd P G γ ⟨d, .indexAddr t x i, ty, pos, af, g⟩ ⟨tm, H, nx, df⟩ K Qp = oK (aJ P H t (ev G tm x) (ev G tm i)) (fun x => fin d γ tm H nx df K x .none) := by
 rw [iD (by simp) (by simp) (by simp)]; simp only [vop]; exact qs
theorem S0 {t : Nat} {i : Operand} : bd P G γ ⟨d, .index t x i, ty, pos, af, g⟩ ⟨tm, H, nx, df⟩ K Qp = oK (vindex P t (ev G tm x) (ev G tm i)) (fun x => fin d γ tm H nx df K x .none) := by
 rw [iD (by simp) (by simp) (by simp)]; simp only [vop]; exact qs
def binV (P : Program) (H : Nat → Option Vo) (op : BinOp) (t : TypeId) (x y : Operand) (a b : VV) : Option VV :=
 match a.val?, b.val? with
 | some a, some b => (vbin P op t x y a b).map ofVal
 | _, _ => vptrEq P H op t a b
theorem Hh {op : BinOp} {u : TypeId} : bd P G γ ⟨d, .binOp op t x y u, ty, pos, af, g⟩ ⟨tm, H, nx, df⟩ K Qp = oK (binV P H op t x y (ev G tm x) (ev G tm y)) (fun x => fin d γ tm H nx df K x .none) := by
 rw [iD (by simp) (by simp) (by simp)]
 simp only [vop, binV]
 cases (ev G tm x).val? with
 | none => simp only []; cases vptrEq P H op t (ev G tm x) (ev G tm y) <;> rfl
 | some a => cases (ev G tm y).val? with
  | none => simp only []; cases vptrEq P H op t (ev G tm x) (ev G tm y) <;> rfl
  | some b => exact zl
def unV (P : Program) (op : UnOp) (a : VV) : Option VV := match a.val? with | some a => (aG P (Op.unary op a)).map ofVal | none => none
theorem Hi {op : UnOp} : bd P G γ ⟨d, .unOp op t x, ty, pos, af, g⟩ ⟨tm, H, nx, df⟩ K Qp = oK (unV P op (ev G tm x)) (fun x => fin d γ tm H nx df K x .none) := by
 rw [iD (by simp) (by simp) (by simp)]
 simp only [vop, unV]
 cases (ev G tm x).val? with
 | none => rfl
 | some a => exact zl
theorem Hj : bd P G γ ⟨d, .alloc t, ty, pos, af, g⟩ ⟨tm, H, nx, df⟩ K Qp = (match vzero P t with | some z => fin d γ tm H nx df K (.ptr γ 0) (.new (.cells (some t) (z.toList.map ofVal1))) | none => False) := by
 rw [iD (by simp) (by simp) (by simp)]; simp only [vop]; cases vzero P t <;> rfl
theorem Hk : bd P G γ ⟨d, .box t x, ty, pos, af, g⟩ ⟨tm, H, nx, df⟩ K Qp = (match bc (ev G tm x) with | some cs => fin d γ tm H nx df K (.ptr γ 0) (.new (.cells (some t) cs)) | none => False) := by
 rw [iD (by simp) (by simp) (by simp)]; simp only [vop]; cases bc (ev G tm x) <;> rfl
theorem Hl : bd P G γ ⟨d, .build t ps, ty, pos, af, g⟩ ⟨tm, H, nx, df⟩ K Qp = oK (vbuild P t (ps.toList.map fun p => (p.1, ev G tm p.2))) (fun x => fin d γ tm H nx df K x .none) := by
 rw [iD (by simp) (by simp) (by simp)]; simp only [vop]; exact qs
theorem Wf {t k : Nat} : bd P G γ ⟨d, .buildSlice t k ps, ty, pos, af, g⟩ ⟨tm, H, nx, df⟩ K Qp =
  (match aC P t k (ps.toList.map fun p => (p.1, ev G tm p.2)) with | some p => fin d γ tm H nx df K (.ref γ 0 k p.2 k) (.new (.cells (elemT P t) p.1)) | none => False) := by
 rw [iD (by simp) (by simp) (by simp)]; simp only [vop]; cases aC P t k (ps.toList.map fun p => (p.1, ev G tm p.2)) <;> rfl
theorem Hm {a : Operand} : bd P G γ ⟨d, .store t a x, ty, pos, af, g⟩ ⟨tm, H, nx, df⟩ K Qp = oeK (vop P ⟨d, .store t a x, ty, pos, af, g⟩ (ev G tm) H γ) (fun x e => fin d γ tm H nx df K x e) := by
 rw [iD (by simp) (by simp) (by simp)]
theorem Wg {t : Operand} : bd P G γ ⟨d, .extract t i, ty, pos, af, g⟩ ⟨tm, H, nx, df⟩ K Qp = (match ev G tm t with | .tup vs => oK (vs[i]?) (fun x => fin d γ tm H nx df K x .none) | _ => False) := by
 rw [iD (by simp) (by simp) (by simp)]
 simp only [vop]
 cases ev G tm t <;> try rfl
 exact qs
theorem Ho {lo hi mx : Option Operand} : bd P G γ ⟨d, .slice t x lo hi mx, ty, pos, af, g⟩ ⟨tm, H, nx, df⟩ K Qp = oeK (vop P ⟨d, .slice t x lo hi mx, ty, pos, af, g⟩ (ev G tm) H γ) (fun x e => fin d γ tm H nx df K x e) := by
 rw [iD (by simp) (by simp) (by simp)]
theorem Wh : bd P G γ ⟨d, .makeSlice t x y, ty, pos, af, g⟩ ⟨tm, H, nx, df⟩ K Qp = oeK (vop P ⟨d, .makeSlice t x y, ty, pos, af, g⟩ (ev G tm) H γ) (fun x e => fin d γ tm H nx df K x e) := by
 rw [iD (by simp) (by simp) (by simp)]
theorem Dg {b : Builtin} : bd P G γ ⟨d, .call ⟨.builtin b, as, ats⟩, ty, pos, af, g⟩ ⟨tm, H, nx, df⟩ K Qp = oeK (vbuiltin P ⟨.builtin b, as, ats⟩ (ev G tm) H γ) (fun x e => fin d γ tm H nx df K x e) := by
 simp only [bd, opK, vop, ev_eq, oeK, iU]
 rfl
theorem Hp : bd P G γ ⟨d, .call ⟨.builtin .len, #[x], #[t]⟩, ty, pos, af, g⟩ ⟨tm, H, nx, df⟩ K Qp = oK (vlen P H t (ev G tm x)) (fun x => fin d γ tm H nx df K x .none) := by
 rw [Dg]; exact qs
theorem Hq {t2 : TypeId} : bd P G γ ⟨d, .call ⟨.builtin .append, #[x, y], #[t, t2]⟩, ty, pos, af, g⟩ ⟨tm, H, nx, df⟩ K Qp = oeK (vappend P H γ t t2 (ev G tm x) (ev G tm y)) (fun x e => fin d γ tm H nx df K x e) := by
 rw [Dg]; rfl
theorem Hr {f : Nat} : bd P G γ ⟨d, .call ⟨.value (.func f), as, ats⟩, ty, pos, af, g⟩ ⟨tm, H, nx, df⟩ K Qp = callK P G f (as.toList.map (ev G tm)) ⟨tm, H, nx, df⟩ d γ K Qp := by
 simp only [bd, ev_eq, ev, List.nil_append, List.append_nil]
theorem ktree {x : VV} (hn : normL args = args0) (ht : tl args = true) (hp : ah P G f args0 (.tree x)) (h : fin d γ tm H nx df K x .none) : callK P G f args ⟨tm, H, nx, df⟩ d γ K Qp := by
 subst hn
 refine .inl ⟨ht, .tree x, hp.norm, ?_⟩
 rw [← iU (K := K), jP] at h
 exact h
theorem kseen {x : VV} (hn : normL (args.map (showV H 3)) = args0) (ht : tl (args.map (showV H 3)) = true) (hp : ah P G f args0 (.tree x)) (hf : x.flat = true) (h : fin d γ tm H nx df K x .none) : callK P G f args ⟨tm, H, nx, df⟩ d γ K Qp := by
 subst hn
 refine .inr (.inl ⟨ht, .tree x, hp.norm, hf, ?_⟩)
 rw [← iU (K := K), jP] at h
 exact h
theorem kopen {st : St} (h : openK P G f args st d K Qp) : callK P G f args st d γ K Qp := .inr (.inr h)
theorem FJ : openK P G f args ⟨tm, H, nx, df⟩ d K Qp = aX P G f args H nx (fun x H' nx' => match d with | some d => K ⟨upd tm d x, H', nx', df⟩ | none => K ⟨tm, H', nx', df⟩) (fun x H' nx' => Qp x ⟨tm, H', nx', df⟩) := by
 cases d <;> rfl
theorem S1 : tl [] = true := rfl
theorem S2 {x : VV} {xs : List VV} : tl (x :: xs) = (x.tree && tl xs) := rfl
theorem zm {v : Value} : (VV.lit v).tree = true := rfl
theorem zn : (VV.agg cs).tree = tl cs := rfl
theorem zo : (VV.tup cs).tree = tl cs := rfl
theorem zp {k : Nat} {b : Bool} : (VV.sl cs k b).tree = tl cs := rfl
theorem Hs {t : Nat} {x : VV} : fin (some t) γ tm H nx df K x .none = K ⟨upd tm t x, H, nx, df⟩ := rfl
theorem Ht {t : Nat} {x : VV} {o : Vo} : fin (some t) γ tm H nx df K x (.new o) = K ⟨upd tm t x, updH H γ o, nx, df⟩ := rfl
theorem Hu {x : VV} {β : Nat} {o : Vo} : fin none γ tm H nx df K x (.upd β o) = K ⟨tm, updH H β o, nx, df⟩ := rfl
theorem Hv {t : Nat} {x : VV} {β : Nat} {el : Option TypeId} : fin (some t) γ tm H nx df K x (.mv β el cs) = K ⟨upd tm t x, updH (without H β) γ (.cells el cs), nx, df⟩ := rfl
theorem Hw {st : St} : seqK P G ops aa Q i [] st = Q .normal st := rfl
theorem Hx {st : St} : seqK P G ops aa Q i (o :: l) st = stepK P G ops (aa + i) o st (seqK P G ops aa Q (i + 1) l) (fun x st' => Q (.panic x) st') := rfl
theorem Hy {a b : Code} {st : St} : CWp P G n (.seq a b) Q st = CWp P G n a (Vx.then (CWp P G n b Q) Q) st := rfl
theorem Hz {st : St} : CWp P G n .skip Q st = Q .normal st := rfl
theorem HA {st : St} : CWp P G n (.exit id) Q st = Q (.exit id) st := rfl
theorem HB {st : St} : CWp P G n .ret Q st = Q .ret st := rfl
theorem HC {a : Code} {st : St} : CWp P G n (.block id a) Q st = CWp P G n a (Vx.inBlock id Q) st := rfl
def condK (x : VV) (a b : Prop) : Prop := match x with
 | .lit (.bool t) => (t = true → a) ∧ (t = false → b)
 | _ => False
theorem HD {c : Operand} {a b : Code} : CWp P G n (.cond c a b) Q ⟨tm, H, nx, df⟩ = condK (ev G tm c) (CWp P G n a Q ⟨tm, H, nx, df⟩) (CWp P G n b Q ⟨tm, H, nx, df⟩) := by
 simp only [CWp, ev_eq, condK]
 rfl
theorem HE : CWp P G n (.region id ⟨l⟩ false) Q ⟨tm, H, nx, df⟩ = seqK P G ⟨l⟩ nx Q 0 l ⟨tm, H, nx + l.length, df⟩ := rfl
theorem HF {st : St} : Vx.then next Q .normal st = next st := rfl
theorem HG {st : St} : Vx.then next Q (.exit id) st = Q (.exit id) st := rfl
theorem HH {st : St} : Vx.then next Q .ret st = Q .ret st := rfl
theorem HI {x : VV} {st : St} : Vx.then next Q (.panic x) st = Q (.panic x) st := rfl
theorem Wi {st : St} : Vx.inBlock id Q .normal st = Q .normal st := rfl
theorem HJ {st : St} : Vx.inBlock id Q .ret st = Q .ret st := rfl
theorem S3 {id' : Nat} {st : St} : Vx.inBlock id Q (.exit id') st = if id' = id then Q .normal st else Q (.exit id') st := rfl
theorem HK {x : VV} {st : St} : Vx.inBlock id Q (.panic x) st = Q (.panic x) st := rfl
theorem Wj {a b : Prop} {v : Array Value} : guardK (.lit (.tuple v)) w a b = b := rfl
theorem gi {t : Tmp} : ev G tm (.tmp t) = tm t := rfl
theorem gT {i : Int} : ev G tm (.const (.int k i)) = .lit (.int k i) := rfl
theorem HL {b : Bool} : ev G tm (.const (.bool b)) = .lit (.bool b) := rfl
theorem HM {s : ByteArray} : ev G tm (.const (.string s)) = .lit (.string s) := rfl
theorem HN : ev G tm (.const (.slice none 0 0)) = .lit (.slice none 0 0) := rfl
theorem gj : ev G tm (.func f) = .fn (.func f) [] [] := rfl
theorem HO : binV P H .lss t x y (.lit (.int k a)) (.lit (.int k b)) = some (.lit (.bool (decide (a < b)))) := by simp [binV, VV.val?, vbin, ofVal, ofVal2, ofVal1]
theorem HP : binV P H .leq t x y (.lit (.int k a)) (.lit (.int k b)) = some (.lit (.bool (decide (a ≤ b)))) := by simp [binV, VV.val?, vbin, ofVal, ofVal2, ofVal1]
theorem HQ : binV P H .gtr t x y (.lit (.int k a)) (.lit (.int k b)) = some (.lit (.bool (decide (a > b)))) := by simp [binV, VV.val?, vbin, ofVal, ofVal2, ofVal1]
theorem HR : binV P H .geq t x y (.lit (.int k a)) (.lit (.int k b)) = some (.lit (.bool (decide (a ≥ b)))) := by simp [binV, VV.val?, vbin, ofVal, ofVal2, ofVal1]
theorem HS : binV P H .eql t x y (.lit (.int k a)) (.lit (.int k b)) = some (.lit (.bool (a == b))) := by simp [binV, VV.val?, vbin, ofVal, ofVal2, ofVal1]
theorem HT : binV P H .neq t x y (.lit (.int k a)) (.lit (.int k b)) = some (.lit (.bool (a != b))) := by simp [binV, VV.val?, vbin, ofVal, ofVal2, ofVal1]
theorem HU : binV P H .add t x y (.lit (.int k a)) (.lit (.int k b)) = some (.lit (.int k (k.wrap (a + b)))) := by simp [binV, VV.val?, vbin, ofVal, ofVal2, ofVal1]
theorem HV : binV P H .sub t x y (.lit (.int k a)) (.lit (.int k b)) = some (.lit (.int k (k.wrap (a - b)))) := by simp [binV, VV.val?, vbin, ofVal, ofVal2, ofVal1]
theorem HW : binV P H .mul t x y (.lit (.int k a)) (.lit (.int k b)) = some (.lit (.int k (k.wrap (a * b)))) := by simp [binV, VV.val?, vbin, ofVal, ofVal2, ofVal1]
theorem HX {b : Bool} : unV P .not (.lit (.bool b)) = some (.lit (.bool (!b))) := by simp [unV, VV.val?, Op.unary, jl, ofVal, ofVal2, ofVal1]
@[congr] theorem Wk {x x' : Option VV} {k : VV → Prop} (h : x = x') : oK x k = oK x' k := by rw [h]
@[congr] theorem Wl {x x' : Option (VV × Ve)} {k : VV → Ve → Prop} (h : x = x') : oeK x k = oeK x' k := by rw [h]
@[congr] theorem Wm {code : Code} {st : St} (h : st = st') : CWp P G n code Q st = CWp P G n code Q st' := by rw [h]
@[congr] theorem Wn {st : St} (h : st = st') : seqK P G ops aa Q i l st = seqK P G ops aa Q i l st' := by rw [h]
@[congr] theorem Wo {st : St} (h : st = st') : stepK P G ops γ o st K Qp = stepK P G ops γ o st' K Qp := by rw [h]
@[congr] theorem Wp {st : St} (h : st = st') : bd P G γ o st K Qp = bd P G γ o st' K Qp := by rw [h]
@[congr] theorem Wq {x : VV} {e e' : Ve} (h : x = x') (h2 : e = e') : fin d γ tm H nx df K x e = fin d γ tm H nx df K x' e' := by rw [h, h2]
@[congr] theorem Wr {t t' : Option Tmp} {a b : Prop} (h : t = t') : gK t tm w a b = gK t' tm w a b := by rw [h]
@[congr] theorem Ws {x : VV} {a b : Prop} (h : x = x') : guardK x w a b = guardK x' w a b := by rw [h]
@[congr] theorem Wt {x : VV} {a b : Prop} (h : x = x') : condK x a b = condK x' a b := by rw [h]
@[congr] theorem Wu {c' a b : VV} {k : VV → Prop} (h : c = c') : pickK c a b k = pickK c' a b k := by rw [h]
@[congr] theorem Wv {args' : List VV} {st : St} (h : args = args') : callK P G f args st d γ K Qp = callK P G f args' st d γ K Qp := by rw [h]
theorem argsTm1 {a : VV} : bk [a] = upd (fun _ => .lit undef) 0 a := by
 funext t; rcases t with _ | t <;> simp [bk, upd]
theorem argsTm2 {a b : VV} : bk [a, b] = upd (upd (fun _ => .lit undef) 0 a) 1 b := by
 funext t; rcases t with _ | _ | t <;> simp [bk, upd]
theorem argsTm3 {a b : VV} : bk [a, b, c] = upd (upd (upd (fun _ => .lit undef) 0 a) 1 b) 2 c := by
 funext t; rcases t with _ | _ | _ | t <;> simp [bk, upd]
theorem argsTm4 {a b e : VV} : bk [a, b, c, e] = upd (upd (upd (upd (fun _ => .lit undef) 0 a) 1 b) 2 c) 3 e := by
 funext t; rcases t with _ | _ | _ | _ | t <;> simp [bk, upd]
theorem argsTm5 {a b e f : VV} : bk [a, b, c, e, f] = upd (upd (upd (upd (upd (fun _ => .lit undef) 0 a) 1 b) 2 c) 3 e) 4 f := by
 funext t; rcases t with _ | _ | _ | _ | _ | t <;> simp [bk, upd]
end
end Go.V
end
