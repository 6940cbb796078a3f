/- Part of a proof. -/
import Derived.Test.YtclkbhbhohdgbaaGreatDoorE2ae
set_option linter.all false
section
namespace Go.V
open Go
def aR (P : Program) (G : Gb) (γ : Nat) (o : Oper) (st : St) (K : List Nat → List Nat → St → Prop) : Prop :=
  match o.op with
  | .call { callee := .value fo, args := as, .. } =>
   match st.ρ G fo with
   | .fn (.func f) first captured =>
    (tl (first ++ as.toList.map (st.ρ G) ++ captured) = true ∧ ∃ r, ah P G f (first ++ as.toList.map (st.ρ G) ++ captured) r ∧ match r with
     | .tree x => K [] [] (st.put o.dst x)
     | .own cs len es => K [] [γ] (bl st o.dst (.ref γ 0 len es len) (.new (.cells none cs)) γ)
     | .panic _ => False) ∨
    (∃ args' x, aW st.H fuelS (first ++ as.toList.map (st.ρ G) ++ captured) = some args' ∧ ah P G f args' (.tree x) ∧ x.flat = true ∧ K (nmL st.H fuelS (first ++ as.toList.map (st.ρ G) ++ captured)) [] (st.put o.dst x)) ∨
    (∃ β es' x, UpdC P G f (first ++ as.toList.map (st.ρ G) ++ captured) st.H st.nx β es' x ∧ K [β] [β] (bl st o.dst x (.upd β (.map es')) γ)) ∨
    (∃ cs, tl (first ++ as.toList.map (st.ρ G) ++ captured) = true ∧ NewC P G f (first ++ as.toList.map (st.ρ G) ++ captured) cs ∧ K [] [γ] (bl st o.dst (.agg (cs ++ [.mp γ])) (.new (.map [])) γ))
   | _ => False
  | .call { callee := .invoke rc m, args := as, .. } =>
   match recvV P m (st.ρ G rc) with
   | .fn (.func f) first captured =>
    (tl (first ++ as.toList.map (st.ρ G) ++ captured) = true ∧ ∃ r, ah P G f (first ++ as.toList.map (st.ρ G) ++ captured) r ∧ match r with
     | .tree x => K [] [] (st.put o.dst x)
     | .own cs len es => K [] [γ] (bl st o.dst (.ref γ 0 len es len) (.new (.cells none cs)) γ)
     | .panic _ => False) ∨
    (∃ args' x, aW st.H fuelS (first ++ as.toList.map (st.ρ G) ++ captured) = some args' ∧ ah P G f args' (.tree x) ∧ x.flat = true ∧ K (nmL st.H fuelS (first ++ as.toList.map (st.ρ G) ++ captured)) [] (st.put o.dst x)) ∨
    (∃ β es' x, UpdC P G f (first ++ as.toList.map (st.ρ G) ++ captured) st.H st.nx β es' x ∧ K [β] [β] (bl st o.dst x (.upd β (.map es')) γ)) ∨
    (∃ cs, tl (first ++ as.toList.map (st.ρ G) ++ captured) = true ∧ NewC P G f (first ++ as.toList.map (st.ρ G) ++ captured) cs ∧ K [] [γ] (bl st o.dst (.agg (cs ++ [.mp γ])) (.new (.map [])) γ))
   | _ => False
  | _ => match vop P o (st.ρ G) st.H γ with
   | some (x, eff) => K (rdV o (st.ρ G)) (eff.wr γ) (bl st o.dst x eff γ)
   | none => False
variable {ops : Array Oper} {o : Oper}
theorem Eh {P : Program} {G : Gb} {γ : Nat} {st : St} {K : List Nat → List Nat → St → Prop} :
  dstepK P G ops γ o st K = (match aO ops st.tm o with
   | none => False
   | some b => (b = true → aR P G γ o st K) ∧ (b = false → K [] [] (st.put o.dst (.lit undef)))) := rfl
variable {op : Op} {j i aa : Nat} {x y : Operand} {t : TypeId} {f : FuncId} {ps : Array (Nat × Operand)} {as : Array Operand} {ats : Array TypeId} {args args0 : List VV} {st' : St} {tr : Tr} {rd rd' : List Nat}
section
variable {P : Program} {G : Gb} {n : Nat} {γ : Nat} {tm : Nat → VV} {H : Nat → Option Vo} {nx : Nat} {df : List VDef} {K : List Nat → List Nat → St → Prop} {Q : Vx → St → Prop}
 {d : Option Tmp} {ty : TypeId} {pos : String} {af : Array Edge} {g : Option (Nat × Bool)} {l : List Oper}
theorem JA {st : St} : dstepK P G ⟨l⟩ γ ⟨d, op, ty, pos, af, none⟩ st K = aR P G γ ⟨d, op, ty, pos, af, none⟩ st K := by
 simp [Eh, aO]
theorem QI {w : Bool} : dstepK P G ⟨l⟩ γ ⟨d, op, ty, pos, af, some (j, w)⟩ ⟨tm, H, nx, df⟩ K =
  gK ((l[j]?).bind (·.dst)) tm w (aR P G γ ⟨d, op, ty, pos, af, some (j, w)⟩ ⟨tm, H, nx, df⟩ K) (fin d γ tm H nx df (K [] []) (.lit undef) .none) := by
 have e2 : ∀ st : St, K [] [] (st.put d (.lit undef)) = K [] [] (bl st d (.lit undef) .none γ) := fun st => by rw [jP]
 have e3 : fin d γ tm H nx df (K [] []) (.lit undef) .none = K [] [] (bl ⟨tm, H, nx, df⟩ d (.lit undef) .none γ) := iU.symm
 cases ho : l[j]? with
 | none => simp [Eh, aO, ho, gK, e2, e3]
 | some o' =>
  cases hd : o'.dst with
  | none => simp [Eh, aO, ho, hd, gK, e2, e3]
  | some t =>
   simp only [Eh, aO, List.getElem?_toArray, ho, hd, Option.bind_some, gK, e2, e3]
   unfold guardK
   cases htm : tm t with
   | lit v =>
    cases v with
    | bool b => cases b <;> cases w <;> simp
    | tuple a => simp
    | _ => simp
   | _ => simp
theorem jb (h : ∀ k, op ≠ .call k) :
  aR P G γ ⟨d, op, ty, pos, af, g⟩ ⟨tm, H, nx, df⟩ K = oeK (vop P ⟨d, op, ty, pos, af, g⟩ (ev G tm) H γ) (fun x eff => fin d γ tm H nx df (K (rdV ⟨d, op, ty, pos, af, g⟩ (ev G tm)) (eff.wr γ)) x eff) := by
 unfold aR
 cases op <;> first | exact absurd rfl (h _) | (simp only [ev_eq, oeK, ← iU]; done) | (simp only [ev_eq, oeK, ← iU]; rfl)
theorem QJ : aR P G γ ⟨d, .move x, ty, pos, af, g⟩ ⟨tm, H, nx, df⟩ K = fin d γ tm H nx df (K (rdV ⟨d, .move x, ty, pos, af, g⟩ (ev G tm)) []) (ev G tm x) .none := by
 rw [jb (by simp)]; rfl
theorem ZR : aR P G γ ⟨d, .assign x, ty, pos, af, g⟩ ⟨tm, H, nx, df⟩ K = fin d γ tm H nx df (K (rdV ⟨d, .assign x, ty, pos, af, g⟩ (ev G tm)) []) (ev G tm x) .none := by
 rw [jb (by simp)]; rfl
theorem QK {c a b : Operand} : aR P G γ ⟨d, .pick c a b, ty, pos, af, g⟩ ⟨tm, H, nx, df⟩ K = pickK (ev G tm c) (ev G tm a) (ev G tm b) (fun v => fin d γ tm H nx df (K (rdV ⟨d, .pick c a b, ty, pos, af, g⟩ (ev G tm)) []) v .none) := by
 rw [jb (by simp)]
 simp only [vop, pickK, oeK]
 cases ev G tm c with
 | lit v => cases v <;> first | rfl | (rename_i t; cases t <;> simp [Ve.wr])
 | _ => rfl
theorem QL : aR P G γ ⟨d, .load t x, ty, pos, af, g⟩ ⟨tm, H, nx, df⟩ K = oK ((tgt H (ev G tm x)).bind (aS P t)) (fun v => fin d γ tm H nx df (K (rdV ⟨d, .load t x, ty, pos, af, g⟩ (ev G tm)) []) v .none) := by
 rw [jb (by simp)]
 simp only [vop]
 cases tgt H (ev G tm x) with
 | none => rfl
 | some cs => simp only [Option.bind_some]; cases aS P t cs <;> rfl
theorem ZS {t f : Nat} : aR P G γ ⟨d, .fieldAddr t x f, ty, pos, af, g⟩ ⟨tm, H, nx, df⟩ K = oK (ag P H t (ev G tm x) f) (fun v => fin d γ tm H nx df (K (rdV ⟨d, .fieldAddr t x f, ty, pos, af, g⟩ (ev G tm)) []) v .none) := by
 rw [jb (by simp)]
 simp only [vop]; cases ag P H t (ev G tm x) f <;> rfl
theorem QM {t f : Nat} : aR P G γ ⟨d, .field t x f, ty, pos, af, g⟩ ⟨tm, H, nx, df⟩ K = oK (vfield P t (ev G tm x) f) (fun v => fin d γ tm H nx df (K (rdV ⟨d, .field t x f, ty, pos, af, g⟩ (ev G tm)) []) v .none) := by
 rw [jb (by simp)]
 simp only [vop]; cases vfield P t (ev G tm x) f <;> rfl
theorem ZT {t : Nat} {i : Operand} : aR P G γ ⟨d, .indexAddr t x i, ty, pos, af, g⟩ ⟨tm, H, nx, df⟩ K = oK (aJ P H t (ev G tm x) (ev G tm i)) (fun v => fin d γ tm H nx df (K (rdV ⟨d, .indexAddr t x i, ty, pos, af, g⟩ (ev G tm)) []) v .none) := by
 rw [jb (by simp)]
 simp only [vop]; cases aJ P H t (ev G tm x) (ev G tm i) <;> rfl
theorem QN {t : Nat} {i : Operand} : aR P G γ ⟨d, .index t x i, ty, pos, af, g⟩ ⟨tm, H, nx, df⟩ K = oK (vindex P t (ev G tm x) (ev G tm i)) (fun v => fin d γ tm H nx df (K (rdV ⟨d, .index t x i, ty, pos, af, g⟩ (ev G tm)) []) v .none) := by
 rw [jb (by simp)]
 simp only [vop]; cases vindex P t (ev G tm x) (ev G tm i) <;> rfl
theorem QO {op : BinOp} {u : TypeId} : aR P G γ ⟨d, .binOp op t x y u, ty, pos, af, g⟩ ⟨tm, H, nx, df⟩ K = oK (binV P H op t x y (ev G tm x) (ev G tm y)) (fun v => fin d γ tm H nx df (K (rdV ⟨d, .binOp op t x y u, ty, pos, af, g⟩ (ev G tm)) []) v .none) := by
 rw [jb (by simp)]
 simp only [vop, binV]
 cases (ev G tm x).val? with
 | none => simp only []; cases vptrEq P H op t (ev G tm x) (ev G tm y) <;> rfl
 | some a => cases (ev G tm y).val? with
  | none => simp only []; cases vptrEq P H op t (ev G tm x) (ev G tm y) <;> rfl
  | some b => simp only []; cases vbin P op t x y a b <;> rfl
theorem QP {op : UnOp} : aR P G γ ⟨d, .unOp op t x, ty, pos, af, g⟩ ⟨tm, H, nx, df⟩ K = oK (unV P op (ev G tm x)) (fun v => fin d γ tm H nx df (K (rdV ⟨d, .unOp op t x, ty, pos, af, g⟩ (ev G tm)) []) v .none) := by
 rw [jb (by simp)]
 simp only [vop, unV]
 cases (ev G tm x).val? with
 | none => rfl
 | some a => simp only []; cases aG P (Op.unary op a) <;> rfl
theorem QQ : aR P G γ ⟨d, .build t ps, ty, pos, af, g⟩ ⟨tm, H, nx, df⟩ K = oK (vbuild P t (ps.toList.map fun p => (p.1, ev G tm p.2))) (fun v => fin d γ tm H nx df (K (rdV ⟨d, .build t ps, ty, pos, af, g⟩ (ev G tm)) []) v .none) := by
 rw [jb (by simp)]
 simp only [vop]; cases vbuild P t (ps.toList.map fun p => (p.1, ev G tm p.2)) <;> rfl
theorem Q6 : aR P G γ ⟨d, .alloc t, ty, pos, af, g⟩ ⟨tm, H, nx, df⟩ K = (match vzero P t with | some z => fin d γ tm H nx df (K (rdV ⟨d, .alloc t, ty, pos, af, g⟩ (ev G tm)) [γ]) (.ptr γ 0) (.new (.cells (some t) (z.toList.map ofVal1))) | none => False) := by
 rw [jb (by simp)]; simp only [vop]; cases vzero P t <;> rfl
theorem QT : aR P G γ ⟨d, .box t x, ty, pos, af, g⟩ ⟨tm, H, nx, df⟩ K = (match bc (ev G tm x) with | some cs => fin d γ tm H nx df (K (rdV ⟨d, .box t x, ty, pos, af, g⟩ (ev G tm)) [γ]) (.ptr γ 0) (.new (.cells (some t) cs)) | none => False) := by
 rw [jb (by simp)]; simp only [vop]; cases bc (ev G tm x) <;> rfl
theorem ZV {t k : Nat} : aR P G γ ⟨d, .buildSlice t k ps, ty, pos, af, g⟩ ⟨tm, H, nx, df⟩ K =
  (match aC P t k (ps.toList.map fun p => (p.1, ev G tm p.2)) with | some p => fin d γ tm H nx df (K (rdV ⟨d, .buildSlice t k ps, ty, pos, af, g⟩ (ev G tm)) [γ]) (.ref γ 0 k p.2 k) (.new (.cells (elemT P t) p.1)) | none => False) := by
 rw [jb (by simp)]; simp only [vop]; cases aC P t k (ps.toList.map fun p => (p.1, ev G tm p.2)) <;> rfl
theorem ZU {t : Operand} : aR P G γ ⟨d, .extract t i, ty, pos, af, g⟩ ⟨tm, H, nx, df⟩ K = (match ev G tm t with | .tup vs => oK (vs[i]?) (fun v => fin d γ tm H nx df (K (rdV ⟨d, .extract t i, ty, pos, af, g⟩ (ev G tm)) []) v .none) | _ => False) := by
 rw [jb (by simp)]
 simp only [vop]
 cases ev G tm t with
 | tup vs => simp only []; cases vs[i]? <;> rfl
 | _ => rfl
theorem QU {lo hi mx : Option Operand} : aR P G γ ⟨d, .slice t x lo hi mx, ty, pos, af, g⟩ ⟨tm, H, nx, df⟩ K = oeK (vop P ⟨d, .slice t x lo hi mx, ty, pos, af, g⟩ (ev G tm) H γ) (fun v e => fin d γ tm H nx df (K (rdV ⟨d, .slice t x lo hi mx, ty, pos, af, g⟩ (ev G tm)) (e.wr γ)) v e) := by
 rw [jb (by simp)]
theorem ZX : aR P G γ ⟨d, .makeSlice t x y, ty, pos, af, g⟩ ⟨tm, H, nx, df⟩ K = oeK (vop P ⟨d, .makeSlice t x y, ty, pos, af, g⟩ (ev G tm) H γ) (fun v e => fin d γ tm H nx df (K (rdV ⟨d, .makeSlice t x y, ty, pos, af, g⟩ (ev G tm)) (e.wr γ)) v e) := by
 rw [jb (by simp)]
theorem UU {b : Builtin} : aR P G γ ⟨d, .call ⟨.builtin b, as, ats⟩, ty, pos, af, g⟩ ⟨tm, H, nx, df⟩ K = oeK (vbuiltin P ⟨.builtin b, as, ats⟩ (ev G tm) H γ) (fun v e => fin d γ tm H nx df (K (rdV ⟨d, .call ⟨.builtin b, as, ats⟩, ty, pos, af, g⟩ (ev G tm)) (e.wr γ)) v e) := by
 simp only [aR, vop, ev_eq, oeK, ← iU]
 rfl
theorem QR : aR P G γ ⟨d, .call ⟨.builtin .len, #[x], #[t]⟩, ty, pos, af, g⟩ ⟨tm, H, nx, df⟩ K = oK (vlen P H t (ev G tm x)) (fun y => fin d γ tm H nx df (K (rdV ⟨d, .call ⟨.builtin .len, #[x], #[t]⟩, ty, pos, af, g⟩ (ev G tm)) []) y .none) := by
 rw [UU]
 show oeK ((vlen P H t (ev G tm x)).map fun y => (y, Ve.none)) _ = _
 cases vlen P H t (ev G tm x) <;> rfl
theorem ZW {t2 : TypeId} : aR P G γ ⟨d, .call ⟨.builtin .append, #[x, y], #[t, t2]⟩, ty, pos, af, g⟩ ⟨tm, H, nx, df⟩ K = oeK (vappend P H γ t t2 (ev G tm x) (ev G tm y)) (fun z e => fin d γ tm H nx df (K (rdV ⟨d, .call ⟨.builtin .append, #[x, y], #[t, t2]⟩, ty, pos, af, g⟩ (ev G tm)) (e.wr γ)) z e) := by
 rw [UU]; rfl
def dcallK (P : Program) (G : Gb) (f : FuncId) (args : List VV) (tm : Nat → VV) (H : Nat → Option Vo) (nx : Nat) (df : List VDef) (d : Option Tmp) (γ : Nat) (K : List Nat → List Nat → St → Prop) : Prop :=
 (tl args = true ∧ ∃ r, ah P G f args r ∧ match r with
  | .tree x => fin d γ tm H nx df (K [] []) x .none
  | .own cs len es => fin d γ tm H nx df (K [] [γ]) (.ref γ 0 len es len) (.new (.cells none cs))
  | .panic _ => False) ∨
 (∃ args' x, aW H fuelS args = some args' ∧ ah P G f args' (.tree x) ∧ x.flat = true ∧ fin d γ tm H nx df (K (nmL H fuelS args) []) x .none) ∨
 (∃ β es' x, UpdC P G f args H nx β es' x ∧ fin d γ tm H nx df (K [β] [β]) x (.upd β (.map es'))) ∨
 (∃ cs, tl args = true ∧ NewC P G f args cs ∧ fin d γ tm H nx df (K [] [γ]) (.agg (cs ++ [.mp γ])) (.new (.map [])))
theorem dktree {x : VV} (hn : normL args = args0) (ht : tl args = true) (hp : ah P G f args0 (.tree x)) (h : fin d γ tm H nx df (K [] []) x .none) : dcallK P G f args tm H nx df d γ K := by
 subst hn
 exact .inl ⟨ht, .tree x, hp.norm, h⟩
theorem dkown {cs : List VV} {len es : Nat} (hn : normL args = args0) (ht : tl args = true) (hp : ah P G f args0 (.own cs len es)) (h : fin d γ tm H nx df (K [] [γ]) (.ref γ 0 len es len) (.new (.cells none cs))) : dcallK P G f args tm H nx df d γ K := by
 subst hn
 exact .inl ⟨ht, .own cs len es, hp.norm, h⟩
theorem dkseen {args1 : List VV} {x : VV} (hs : aW H fuelS args = some args1) (hn : normL args1 = args0) (hp : ah P G f args0 (.tree x)) (hf : x.flat = true) (h : fin d γ tm H nx df (K (nmL H fuelS args) []) x .none) : dcallK P G f args tm H nx df d γ K := by
 subst hn
 exact .inr (.inl ⟨args1, x, hs, hp.norm, hf, h⟩)
@[congr] theorem zano {args' : List VV} (h : args = args') : dcallK P G f args tm H nx df d γ K = dcallK P G f args' tm H nx df d γ K := by rw [h]
theorem QS {f : Nat} : aR P G γ ⟨d, .call ⟨.value (.func f), as, ats⟩, ty, pos, af, g⟩ ⟨tm, H, nx, df⟩ K = dcallK P G f (as.toList.map (ev G tm)) tm H nx df d γ K := by
 simp only [aR, ev_eq, ev, List.nil_append, List.append_nil, dcallK]
 refine propext (or_congr (and_congr_right fun _ => exists_congr fun r => and_congr_right fun _ => ?_) (or_congr (exists_congr fun a => exists_congr fun x => and_congr_right fun _ => and_congr_right fun _ => and_congr_right fun _ => ?_) (or_congr (exists_congr fun β => exists_congr fun es' => exists_congr fun x => and_congr_right fun _ => ?_) (exists_congr fun cs => and_congr_right fun _ => and_congr_right fun _ => ?_))))
 ·cases r with
  | tree x =>
   simp only
   rw [← jP _ _ _ γ]
   exact iff_of_eq (iU (K := K [] []))
  | own cs len es => exact iff_of_eq (iU (K := K [] [γ]))
  | panic x => rfl
 ·rw [← jP _ _ _ γ]
  exact iff_of_eq (iU (K := K (nmL H fuelS (as.toList.map (ev G tm))) []))
 ·exact iff_of_eq (iU (K := K [β] [β]))
 ·exact iff_of_eq (iU (K := K [] [γ]))
@[congr] theorem zamq {st : St} (h : st = st') : dstepK P G ops γ o st K = dstepK P G ops γ o st' K := by rw [h]
@[congr] theorem zapd {st : St} (h : st = st') : aR P G γ o st K = aR P G γ o st' K := by rw [h]
@[congr] theorem zapf {st : St} (h : st = st') : drawK P G ops aa Q i l tr st = drawK P G ops aa Q i l tr st' := by rw [h]
def quietB : Tr → Bool
 | [] => true
 | p :: tr => p.2.2.isEmpty && quietB tr
theorem QG : quietB [] = true := by simp [quietB]
theorem QH : quietB ((i, rd, []) :: tr) = quietB tr := by simp [quietB]
theorem UW : ∀ {tr : Tr}, quietB tr = true → ∀ p ∈ tr, p.2.2 = []
 | [], _, _, h => by cases h
 | q :: tr, hq, p, hp => by
  simp only [quietB, Bool.and_eq_true, List.isEmpty_iff] at hq
  rcases List.mem_cons.1 hp with rfl | hp
  ·exact hq.1
  ·exact UW hq.2 p hp
theorem J4 {ops : Array Oper} : ∀ {tr : Tr}, (∀ p ∈ tr, p.2.2 = []) → traceK ops tr
 | [], _ => trivial
 | p :: tr, h => ⟨fun q hq => .inr ⟨by rw [h p qZb]; simp, by rw [h q (qZa _ hq)]; simp⟩, J4 fun q hq => h q (qZa _ hq)⟩
theorem QF {st : St} (h : quietB tr = true) : drawK P G ops aa Q i [] tr st = Q .normal st := by
 refine propext ⟨fun h => h.2, fun hq => ⟨J4 fun p hp => UW h p (List.mem_reverse.1 hp), hq⟩⟩
def hitK (ops : Array Oper) (j : Nat) (rd wr : List Nat) : Tr → Prop
 | [] => True
 | p :: tr => (aK ops ops.size p.1 j = true ∨ ((∀ β ∈ p.2.2, β ∉ rd ∧ β ∉ wr) ∧ ∀ β ∈ wr, β ∉ p.2.1)) ∧ hitK ops j rd wr tr
def traceR (ops : Array Oper) : Tr → Prop
 | [] => True
 | p :: tr => hitK ops p.1 p.2.1 p.2.2 tr ∧ traceR ops tr
theorem C4 {ops : Array Oper} {j : Nat} {rd wr : List Nat} : ∀ {tr : Tr}, hitK ops j rd wr tr → ∀ p ∈ tr, aK ops ops.size p.1 j = true ∨ Indep p (j, rd, wr)
 | [], _, _, hp => by cases hp
 | q :: tr, h, p, hp => by
  rcases List.mem_cons.1 hp with rfl | hp
  ·exact h.1
  ·exact C4 h.2 p hp
theorem PO {ops : Array Oper} {q : Nat × List Nat × List Nat} : ∀ {tr : Tr}, traceK ops tr → (∀ p ∈ tr, aK ops ops.size p.1 q.1 = true ∨ Indep p q) → traceK ops (tr ++ [q])
 | [], _, h => ⟨fun q hq => (List.not_mem_nil hq).elim, trivial⟩
 | p :: tr, h, h' => ⟨fun r hr => by
   rcases List.mem_append.1 hr with hr | hr
   ·exact h.1 r hr
   ·rw [List.mem_singleton.1 hr]; exact h' p qZb, PO h.2 fun r hr => h' r (qZa _ hr)⟩
theorem UX {ops : Array Oper} : ∀ {tr : Tr}, traceR ops tr → traceK ops tr.reverse
 | [], _ => trivial
 | p :: tr, h => by
  rw [List.reverse_cons]
  exact PO (UX h.2) fun q hq => C4 h.1 q (List.mem_reverse.1 hq)
theorem lq {st : St} (h : traceR ops tr ∧ Q .normal st) : drawK P G ops aa Q i [] tr st := ⟨UX h.1, h.2⟩
theorem lv {wr : List Nat} : hitK ops j rd wr [] = True := rfl
theorem gf : hitK ops j rd [] ((i, rd', []) :: tr) = hitK ops j rd [] tr := by
 simp [hitK]
theorem ly {wr wr' : List Nat} : hitK ops j rd wr ((i, rd', wr') :: tr) = ((aK ops ops.size i j = true ∨ ((∀ β ∈ wr', β ∉ rd ∧ β ∉ wr) ∧ ∀ β ∈ wr, β ∉ rd')) ∧ hitK ops j rd wr tr) := rfl
theorem lu : traceR ops [] = True := rfl
theorem lr {wr : List Nat} : traceR ops ((i, rd, wr) :: tr) = (hitK ops i rd wr tr ∧ traceR ops tr) := rfl
end
end Go.V
end
