/- Part of a proof. -/
import Derived.Test.YtclkbhbhohdgbaaGreatDoorE2bb
import Derived.Test.YtclkbhbhohdgbaaGreatDoorE2aj
set_option linter.all false
section
namespace Go.V
open Go IntKind
section
variable {P : Program} {G : Gb} {n : Nat} {Q : Vx → St → Prop} {st : St}
theorem Ex {l : Nat} : CWp P G n (.label l) Q st = Q .normal st := rfl
theorem Ey : Vx.noGoto Q .normal st = Q .normal st := rfl
theorem Ez : Vx.noGoto Q .ret st = Q .ret st := rfl
theorem E0 {id : Nat} : Vx.noGoto Q (.exit id) st = Q (.exit id) st := rfl
theorem yd {x : VV} : Vx.noGoto Q (.panic x) st = Q (.panic x) st := rfl
end
end Go.V
end
section
namespace Go.V
open Go IntKind
variable {P : Program} {G : Gb} {o : Oper} {K K' : St → Prop}
theorem RoundStart.mono {n β : Nat} {bo : Code} {st : St} (hk : ∀ s, K s → K' s) : ∀ e s, RoundStart P G n β bo o st K e s → RoundStart P G n β bo o st K' e s := by
 intro e s h
 cases e with
 | normal =>
  obtain ⟨pe, tm, ps, as, bo', df, h1, h2⟩ := h
  refine ⟨pe, tm, ps, as, bo', df, h1, h2.mono ?_⟩
  intro e s h
  cases e with
  | panic x => exact h
  | normal => obtain ⟨a, b, c, d, e, f, g, h1, h2⟩ := h; exact ⟨a, b, c, d, e, f, g, h1, hk _ h2⟩
  | ret => obtain ⟨a, b, c, d, e, f, g, h1, h2⟩ := h; exact ⟨a, b, c, d, e, f, g, h1, hk _ h2⟩
  | exit _ => obtain ⟨a, b, c, d, e, f, g, h1, h2⟩ := h; exact ⟨a, b, c, d, e, f, g, h1, hk _ h2⟩
  | goto _ => obtain ⟨a, b, c, d, e, f, g, h1, h2⟩ := h; exact ⟨a, b, c, d, e, f, g, h1, hk _ h2⟩
 | _ => exact h
variable {f : FuncId} {args : List VV} {γ : Nat} {Qp Qp' : VV → St → Prop}
theorem TT {st : St} {dst : Option Tmp} (hk : ∀ s, K s → K' s) (hq : ∀ x s, Qp x s → Qp' x s) (h : callK P G f args st dst γ K Qp) : callK P G f args st dst γ K' Qp' := by
 rcases h with ⟨h1, r, h2, h3⟩ | ⟨h1, r, h2, h3⟩ | h
 ·refine .inl ⟨h1, r, h2, ?_⟩
  cases r with
  | tree x => exact hk _ h3
  | own cs len es => exact hk _ h3
  | panic x => exact hq _ _ h3
 ·refine .inr (.inl ⟨h1, r, h2, ?_⟩)
  cases r with
  | tree x => exact ⟨h3.1, hk _ h3.2⟩
  | own cs len es => exact ⟨h3.1, hk _ h3.2⟩
  | panic x => exact h3
 ·exact .inr (.inr (aX.mono h (fun _ _ _ h => hk _ h) (fun _ _ _ h => hq _ _ h)))
theorem Bs {st : St} (hk : ∀ s, K s → K' s) (h : opK P G o γ st K) : opK P G o γ st K' := by
 unfold opK at h ⊢
 split
 ·rename_i h2; rw [h2] at h; exact hk _ h
 ·rename_i h2; rw [h2] at h; exact h
theorem LY {β : Nat} {st : St} (hk : ∀ s, K s → K' s) (h : yieldK P G o β args st K) : yieldK P G o β args st K' := by
 unfold yieldK at h ⊢
 cases hβ : st.H β with
 | none => rw [hβ] at h; exact h
 | some ob =>
  rw [hβ] at h
  cases ob with
  | loop s pe tm ps as bo df => cases s <;> first | exact h | exact ⟨h.1, h.2.mono (RoundStart.mono hk)⟩
  | _ => exact h
theorem LZ {x : VV} {st : St} (hk : ∀ s, K s → K' s) (h : deferK G o x args st K) : deferK G o x args st K' := by
 unfold deferK at h ⊢
 cases x with
 | fn f a b => exact ⟨h.1, hk _ h.2⟩
 | _ => exact h
theorem Ma {st : St} (hk : ∀ s, K s → K' s) (hq : ∀ x s, Qp x s → Qp' x s) (h : bd P G γ o st K Qp) : bd P G γ o st K' Qp' := by
 unfold bd at h ⊢
 cases hop : o.op with
 | call k =>
  simp only [hop] at h ⊢
  cases hc : k.callee with
  | value fo =>
   simp only [hc] at h ⊢
   cases hf : st.ρ G fo with
   | fn f a b =>
    simp only [hf] at h ⊢
    cases f with
    | func f => exact TT hk hq h
    | _ => exact h
   | yl β => simp only [hf] at h ⊢; exact LY hk h
   | _ => simp only [hf] at h
  | invoke r m =>
   simp only [hc] at h ⊢
   cases hf : recvV P m (st.ρ G r) with
   | fn f a b =>
    simp only [hf] at h ⊢
    cases f with
    | func f => exact TT hk hq h
    | _ => exact h
   | _ => simp only [hf] at h
  | _ => simp only [hc] at h ⊢; exact Bs hk h
 | defer k =>
  simp only [hop] at h ⊢
  cases hc : k.callee with
  | value fo => simp only [hc] at h ⊢; exact LZ hk h
  | _ => simp only [hc] at h
 | panic x =>
  simp only [hop] at h ⊢
  cases hf : st.ρ G x with
  | ifc t y => simp only [hf] at h ⊢; exact hq _ _ h
  | _ => simp only [hf] at h
 | _ => simp only [hop] at h ⊢; exact Bs hk h
theorem Mb {ops : Array Oper} {st : St} (hk : ∀ s, K s → K' s) (hq : ∀ x s, Qp x s → Qp' x s) (h : stepK P G ops γ o st K Qp) : stepK P G ops γ o st K' Qp' := by
 unfold stepK at h ⊢
 cases hw : aO ops st.tm o with
 | none => rw [hw] at h; exact h
 | some b => rw [hw] at h; exact ⟨fun hb => Ma hk hq (h.1 hb), fun hb => hk _ (h.2 hb)⟩
theorem Bt {P : Program} {G : Gb} {ops : Array Oper} {aa : Nat} {Q Q' : Vx → St → Prop} (hq : ∀ e s, Q e s → Q' e s) : ∀ (l : List Oper) (i : Nat) (st : St), seqK P G ops aa Q i l st → seqK P G ops aa Q' i l st
 | [], _, _, h => hq _ _ h
 | _ :: l, i, _, h => Mb (Bt hq l (i + 1)) (fun x s => hq (.panic x) s) h
theorem TU {P : Program} {G : Gb} {ops : Array Oper} {aa : Nat} {Q Q' : Vx → St → Prop} (hq : ∀ e s, Q e s → Q' e s) : ∀ (l : List Oper) (i : Nat) (tr : Tr) (st : St), drawK P G ops aa Q i l tr st → drawK P G ops aa Q' i l tr st
 | [], _, _, _, h => ⟨h.1, hq _ _ h.2⟩
 | _ :: l, i, _, _, h => Tg (fun _ _ s hs => TU hq l (i + 1) _ s hs) h
variable {Q Q' : Vx → St → Prop}
theorem T4 {next next' : St → Prop} (hn : ∀ s, next s → next' s) (hq : ∀ e s, Q e s → Q' e s) : ∀ e s, Vx.then next Q e s → Vx.then next' Q' e s := by
 intro e s h; cases e <;> first | exact hn _ h | exact hq _ _ h
theorem Yk {id : Nat} (hq : ∀ e s, Q e s → Q' e s) : ∀ e s, Vx.inBlock id Q e s → Vx.inBlock id Q' e s := by
 intro e s h
 cases e with
 | exit i =>
  simp only [Vx.inBlock] at h ⊢
  split at h
  ·rename_i hi; rw [if_pos hi]; exact hq _ _ h
  ·rename_i hi; rw [if_neg hi]; exact hq _ _ h
 | _ => exact hq _ _ h
theorem Mc {n : Nat} (hq : ∀ e s, Q e s → Q' e s) : ∀ (pe : Option Code) (st : St), jumpK P G n Q pe st → jumpK P G n Q' pe st
 | none, _, h => hq _ _ h
 | some _, _, h => VWp.mono h hq
theorem CWp.mono {P : Program} {G : Gb} {n : Nat} : ∀ (code : Code) {Q Q' : Vx → St → Prop} (st : St), (∀ e s, Q e s → Q' e s) → CWp P G n code Q st → CWp P G n code Q' st
 | .skip, _, _, _, hq, h => hq _ _ h
 | .label _, _, _, _, hq, h => hq _ _ h
 | .exit _, _, _, _, hq, h => hq _ _ h
 | .ret, _, _, _, hq, h => hq _ _ h
 | .seq a b, _, _, st, hq, h => CWp.mono a st (T4 (fun s hs => CWp.mono b s hq hs) hq) h
 | .cond c a b, Q, Q', st, hq, h => by
  unfold CWp at h ⊢
  cases hc : st.ρ G c with
  | lit v =>
   cases v with
   | bool t => rw [hc] at h; exact ⟨fun ht => CWp.mono a st hq (h.1 ht), fun ht => CWp.mono b st hq (h.2 ht)⟩
   | _ => rw [hc] at h; exact h
  | _ => rw [hc] at h; exact h
 | .block _ a, _, _, st, hq, h => CWp.mono a st (Yk hq) h
 | .region _ ops false, _, _, _, hq, h => Bt hq _ _ _ h
 | .region _ ops true, _, _, _, hq, h => h.imp (TU hq _ _ _ _) (fun h => VWp.mono h hq)
 | .loop _, _, _, _, hq, h => VWp.mono h hq
 | .rangeFunc g ps as bo, Q, Q', st, hq, h => by
  unfold CWp at h ⊢
  refine ⟨h.1, ?_⟩
  have h2 := h.2
  cases hg : st.ρ G g with
  | fn f a b =>
   rw [hg] at h2
   cases f with
   | func f =>
    refine aX.mono h2 (fun _ H n hR => ?_) (fun _ _ _ hR => hq _ _ hR)
    obtain ⟨s, pe, tm, ps, as, bo, df, g1, g2, g3⟩ := hR
    exact ⟨s, pe, tm, ps, as, bo, df, g1, g2, Mc hq _ _ g3⟩
   | _ => exact h2
  | _ => rw [hg] at h2; exact h2
 | .scope _, _, _, _, hq, h => VWp.mono h hq
 | .goto _, _, _, _, hq, h => VWp.mono h hq
 | .refuse _, _, _, _, hq, h => VWp.mono h hq
def roundsK (P : Program) (G : Gb) (n : Nat) (x : Code) (Q : Vx → St → Prop) : Nat → St → Prop
 | 0, _ => False
 | k + 1, st => CWp P G n x (Vx.then (roundsK P G n x Q k) Q) st
theorem ah.of_openT {y : VV} (h : aX P G f args (fun _ => none) 0 (fun x H _ => (outV H x).tree = true ∧ outV H x = y) (fun _ _ _ => False)) : ah P G f args (.tree y) := by
 refine ⟨h.1, fun A W vs hA hG bD => (h.2 (PCtx A) W vs (zf hA) rfl (fun β hb => hb.elim) hG bD).mono ?_⟩
 rintro e W' ⟨c', H', nx', aM, hs', hH', hu, hu', hle, hres⟩
 have hbelow := zg aM
 have hge : ∀ β, c'.live β → W.heap.size ≤ c'.φ β := by
  intro β hl
  rcases Nat.lt_or_ge (c'.φ β) W.heap.size with h | h
  ·obtain ⟨γ, hγ, _⟩ := aM.old β hl h
   simp [PCtx, Ctx.live] at hγ
  ·exact h
 have hold : ∀ b, c'.A b → A b ∨ W.heap.size ≤ b := by
  intro b hb
  rcases aM.newA b hb with h | h | ⟨β, h, _⟩
  ·exact .inl h
  ·exact .inr h
  ·simp [PCtx, Ctx.live] at h
 have held : ∀ {H0 : Nat → Option Vo}, aj H0 c'.H → ∀ b, heldIn c' H0 b → A b ∨ W.heap.size ≤ b := by
  intro H0 bh b hb
  rcases hb with h | ⟨β, h, e⟩
  ·exact hold b h
  ·exact .inr (e ▸ hge β (bh.live h))
 have heldlt : ∀ {H0 : Nat → Option Vo}, aj H0 c'.H → ∀ b, heldIn c' H0 b → b < W'.heap.size := by
  intro H0 bh b hb
  rcases hb with h | ⟨β, h, e⟩
  ·exact hs'.ltA b h
  ·exact e ▸ hs'.lt β (bh.live h)
 rcases hres with ⟨x, v, rfl, hrv, ht, rfl⟩ | ⟨x, v, rfl, hv, hF⟩
 ·subst hH'
  refine ⟨heldIn c' c'.H, fun b hb => .inl (aM.A b hb), held (aj.refl _), heldlt (aj.refl _), hbelow, v, rfl, ?_⟩
  have ht' : (showV c'.H 5 x).tree = true := Md _ ht
  exact DO _ (vO hs' 5 x v ht' hrv)
 ·exact hF.elim
theorem ah.of_openP {y : VV} (h : aX P G f args (fun _ => none) 0 (fun _ _ _ => False) (fun x H _ => (outV H x).tree = true ∧ outV H x = y)) : ah P G f args (.panic y) := by
 refine ⟨h.1, fun A W vs hA hG bD => (h.2 (PCtx A) W vs (zf hA) rfl (fun β hb => hb.elim) hG bD).mono ?_⟩
 rintro e W' ⟨c', H', nx', aM, hs', hH', hu, hu', hle, hres⟩
 have hbelow := zg aM
 have hge : ∀ β, c'.live β → W.heap.size ≤ c'.φ β := by
  intro β hl
  rcases Nat.lt_or_ge (c'.φ β) W.heap.size with h | h
  ·obtain ⟨γ, hγ, _⟩ := aM.old β hl h
   simp [PCtx, Ctx.live] at hγ
  ·exact h
 have hold : ∀ b, c'.A b → A b ∨ W.heap.size ≤ b := by
  intro b hb
  rcases aM.newA b hb with h | h | ⟨β, h, _⟩
  ·exact .inl h
  ·exact .inr h
  ·simp [PCtx, Ctx.live] at h
 have held : ∀ {H0 : Nat → Option Vo}, aj H0 c'.H → ∀ b, heldIn c' H0 b → A b ∨ W.heap.size ≤ b := by
  intro H0 bh b hb
  rcases hb with h | ⟨β, h, e⟩
  ·exact hold b h
  ·exact .inr (e ▸ hge β (bh.live h))
 have heldlt : ∀ {H0 : Nat → Option Vo}, aj H0 c'.H → ∀ b, heldIn c' H0 b → b < W'.heap.size := by
  intro H0 bh b hb
  rcases hb with h | ⟨β, h, e⟩
  ·exact hs'.ltA b h
  ·exact e ▸ hs'.lt β (bh.live h)
 rcases hres with ⟨x, v, rfl, hrv, hF⟩ | ⟨x, v, rfl, hv, ht, rfl⟩
 ·exact hF.elim
 ·subst hH'
  refine ⟨heldIn c' c'.H, fun b hb => .inl (aM.A b hb), held (aj.refl _), heldlt (aj.refl _), hbelow, v, rfl, ?_⟩
  have ht' : (showV c'.H 5 x).tree = true := Md _ ht
  exact DO _ (vO hs' 5 x v ht' hv)
end Go.V
end
section
namespace Go.V
open Go IntKind
variable {f : Fn} {as : Array Operand} {ats : Array TypeId} {args a b : List VV} {β : Nat} {x y : Operand} {t : TypeId} {k k' : IntKind}
section
variable {P : Program} {G : Gb} {n : Nat} {γ : Nat} {tm : Nat → VV} {H : Nat → Option Vo} {nx : Nat} {df : List VDef} {K : St → Prop} {Kd : List Nat → List Nat → St → Prop} {Qp : VV → St → Prop} {Q : Vx → St → Prop}
 {d : Option Tmp} {ty : TypeId} {pos : String} {af : Array Edge} {g : Option (Nat × Bool)}
theorem Yl {a b : Array Operand} : bd P G γ ⟨d, .makeFunc f a b, ty, pos, af, g⟩ ⟨tm, H, nx, df⟩ K Qp = fin d γ tm H nx df K (.fn f (a.toList.map (ev G tm)) (b.toList.map (ev G tm))) .none := by
 rw [iD (by simp) (by simp) (by simp)]; rfl
def cvalK (P : Program) (G : Gb) (o : Oper) (x : VV) (args : List VV) (st : St) (d : Option Tmp) (γ : Nat) (K : St → Prop) (Qp : VV → St → Prop) : Prop := match x with
 | .fn (.func f) first captured => callK P G f (first ++ args ++ captured) st d γ K Qp
 | .yl β => yieldK P G o β args st K
 | _ => False
theorem Me {t : Tmp} : bd P G γ ⟨d, .call ⟨.value (.tmp t), as, ats⟩, ty, pos, af, g⟩ ⟨tm, H, nx, df⟩ K Qp = cvalK P G ⟨d, .call ⟨.value (.tmp t), as, ats⟩, ty, pos, af, g⟩ (tm t) (as.toList.map (ev G tm)) ⟨tm, H, nx, df⟩ d γ K Qp := by
 simp only [bd, ev_eq, cvalK]
 rfl
theorem Mf {o : Oper} {f : FuncId} {first captured : List VV} {st : St} : cvalK P G o (.fn (.func f) first captured) args st d γ K Qp = callK P G f (first ++ args ++ captured) st d γ K Qp := rfl
theorem Mg {o : Oper} {st : St} : cvalK P G o (.yl β) args st d γ K Qp = yieldK P G o β args st K := rfl
def panK (x : VV) (k : VV → Prop) : Prop := match x with | .ifc t y => k (.ifc t y) | _ => False
theorem Mh : bd P G γ ⟨d, .panic x, ty, pos, af, g⟩ ⟨tm, H, nx, df⟩ K Qp = panK (ev G tm x) (fun y => Qp y ⟨tm, H, nx, df⟩) := by
 simp only [bd, ev_eq, panK]
 cases ev G tm x <;> rfl
theorem Mi {y : VV} {k : VV → Prop} : panK (.ifc t y) k = k (.ifc t y) := rfl
def dfrK (G : Gb) (x : VV) (args : List VV) (tm : Nat → VV) (H : Nat → Option Vo) (nx : Nat) (df : List VDef) (d : Option Tmp) (γ : Nat) (K : St → Prop) : Prop := match x with
 | .fn f first captured => G.rg = some none ∧ fin d γ tm H nx (.fn f captured (first ++ args) :: df) K (.lit undef) .none
 | _ => False
theorem Mj {t : Tmp} : bd P G γ ⟨d, .defer ⟨.value (.tmp t), as, ats⟩, ty, pos, af, g⟩ ⟨tm, H, nx, df⟩ K Qp = dfrK G (tm t) (as.toList.map (ev G tm)) tm H nx df d γ K := by
 simp only [bd, ev_eq, dfrK, deferK]
 show (match tm t with | .fn f first captured => _ | _ => False) = _
 cases tm t with
 | fn f a b => cases d <;> rfl
 | _ => rfl
theorem Mk : dfrK (Gb.at G (some none)) (.fn f a b) args tm H nx df none γ K = K ⟨tm, H, nx, .fn f b (a ++ args) :: df⟩ := by
 exact propext ⟨fun h => h.2, fun h => ⟨rfl, h⟩⟩
def mkIfcV (P : Program) (t : TypeId) (x : VV) : Option VV := match P.underlying t with | some (.interface _) => none | some _ => some (.ifc t x) | none => none
theorem Ym : bd P G γ ⟨d, .makeInterface t x, ty, pos, af, g⟩ ⟨tm, H, nx, df⟩ K Qp = oK (mkIfcV P t (ev G tm x)) (fun x => fin d γ tm H nx df K x .none) := by
 rw [iD (by simp) (by simp) (by simp)]; simp only [vop, mkIfcV]
 cases P.underlying t with
 | none => rfl
 | some x => cases x <;> rfl
theorem Yn {a : TypeId} {ok : Bool} : bd P G γ ⟨d, .typeAssert x t a ok, ty, pos, af, g⟩ ⟨tm, H, nx, df⟩ K Qp = oK (vtypeAssert P (ev G tm x) a ok) (fun x => fin d γ tm H nx df K x .none) := by
 rw [iD (by simp) (by simp) (by simp)]; simp only [vop]; exact qs
def minV (x y : VV) : Option VV := match x.val?, y.val? with
 | some (.int k a), some (.int _ b) => some (.lit (.int k (if b < a then b else a)))
 | _, _ => none
def maxV (x y : VV) : Option VV := match x.val?, y.val? with
 | some (.int k a), some (.int _ b) => some (.lit (.int k (if a < b then b else a)))
 | _, _ => none
theorem Ml : bd P G γ ⟨d, .call ⟨.builtin .min, #[x, y], ats⟩, ty, pos, af, g⟩ ⟨tm, H, nx, df⟩ K Qp = oK (minV (ev G tm x) (ev G tm y)) (fun x => fin d γ tm H nx df K x .none) := by
 rw [Dg]
 simp only [vbuiltin, minV]
 split <;> simp_all [oeK, oK]
theorem Mm : bd P G γ ⟨d, .call ⟨.builtin .max, #[x, y], ats⟩, ty, pos, af, g⟩ ⟨tm, H, nx, df⟩ K Qp = oK (maxV (ev G tm x) (ev G tm y)) (fun x => fin d γ tm H nx df K x .none) := by
 rw [Dg]
 simp only [vbuiltin, maxV]
 split <;> simp_all [oeK, oK]
theorem Mn {a b : Int} : minV (.lit (.int k a)) (.lit (.int k' b)) = some (.lit (.int k (if b < a then b else a))) := by simp [minV, VV.val?]
theorem Mo {a b : Int} : maxV (.lit (.int k a)) (.lit (.int k' b)) = some (.lit (.int k (if a < b then b else a))) := by simp [maxV, VV.val?]
theorem Mp : (VV.fn f a b).leaf = true := rfl
theorem Mq {o : Nat} : (VV.ptr β o).leaf = true := rfl
theorem Mr : bc (.fn f a b) = some [.fn f a b] := rfl
theorem Ms {o : Nat} : bc (.ptr β o) = some [.ptr β o] := rfl
end
end Go.V
end
section
namespace Go.V
open Go IntKind
def quietO (o : Oper) : Bool := match o.op with
 | .call _ => false
 | .defer _ => false
 | .panic _ => false
 | _ => true
theorem Mt {P : Program} {G : Gb} {ops : Array Oper} {aa : Nat} {Q : Vx → St → Prop} {K : St → Prop} (hk : ∀ s, Q .normal s → K s) : ∀ (l : List Oper) (i : Nat) (st : St), (∀ k, l[k]? = ops[i + k]?) → l.all quietO = true →
  seqK P G ops aa Q i l st → VOps P G ops aa K (List.range' i l.length) st
 | [], _, _, _, _, h => hk _ h
 | o :: l, i, st, hl, hq, h => by
  have ho : ops[i]? = some o := by have := hl 0; simpa using this.symm
  simp only [List.all_cons, Bool.and_eq_true] at hq
  have hl' : ∀ k, l[k]? = ops[i + 1 + k]? := fun k => by have := hl (k + 1); simp at this; rw [this]; congr 1; omega
  have h0 : stepK P G ops (aa + i) o st (seqK P G ops aa Q (i + 1) l) (fun x st' => Q (.panic x) st') := h
  refine ⟨o, ho, ?_⟩
  unfold stepK at h0
  cases hw : aO ops st.tm o with
  | none => rw [hw] at h0; exact h0.elim
  | some b =>
   rw [hw] at h0
   cases b with
   | false => exact .inl ⟨rfl, Mt hk l (i + 1) _ hl' hq.2 (h0.2 rfl)⟩
   | true =>
    refine .inr ⟨rfl, ?_⟩
    have h1 := h0.1 rfl
    have h2 : opK P G o (aa + i) st (seqK P G ops aa Q (i + 1) l) := by
     unfold bd at h1
     cases hop : o.op with
     | call k => simp [quietO, hop] at hq
     | defer k => simp [quietO, hop] at hq
     | panic k => simp [quietO, hop] at hq
     | _ => simp only [hop] at h1; exact h1
    unfold opK at h2
    split at h2
    ·rename_i x eff hv
     exact ⟨x, eff, hv, Mt hk l (i + 1) _ hl' hq.2 h2⟩
    ·exact h2.elim
def DPostU (P : Program) (fn : Func) (R : VMode → (Nat → Option Vo) → Nat → Prop) (u : VMode) : Vx → St → Prop := fun e s => DPost P fn R e u s
def DMid (P : Program) (G : Gb) (fn : Func) (rest : Code) (R : VMode → (Nat → Option Vo) → Nat → Prop) (u : VMode) : Vx → St → Prop
 | .normal, s => CWp P G fn.ntmps rest (DPostU P fn R u) s
 | _, _ => False
variable {P : Program} {G : Gb} {f : FuncId} {rest : Code} {args : List VV} {u : VMode}
theorem VDeferred.run (hm : P.follows .mixedOrders = true) {fn : Func} {id d : Nat} {as : Array Operand} {ats : Array TypeId} {ty : TypeId} {pos : String} {af : Array Edge} {l : List Oper} {H : Nat → Option Vo} {nx : Nat} {R : VMode → (Nat → Option Vo) → Nat → Prop}
  (hc : Callable P f) (hf : P.funcs[f]? = some fn) (hb : fn.body = some (.seq (.region id ⟨⟨some d, .call ⟨.builtin .recover, as, ats⟩, ty, pos, af, none⟩ :: l⟩ false) rest))
  (hst : (decide (args.length ≤ fn.ntmps) && (dstsOk fn.ntmps ⟨⟨some d, .call ⟨.builtin .recover, as, ats⟩, ty, pos, af, none⟩ :: l⟩ && (l.all quietO && codeOk fn.ntmps rest))) = true)
  (h : seqK P (G.at (some none)) ⟨⟨some d, .call ⟨.builtin .recover, as, ats⟩, ty, pos, af, none⟩ :: l⟩ nx (DMid P (G.at (some none)) fn rest R (recoverV u).2) 1 l ⟨upd (bk args) d (recoverV u).1, H, nx + (l.length + 1), []⟩) : VDeferred P G f args H nx u R := by
 simp only [Bool.and_eq_true, decide_eq_true_eq] at hst
 obtain ⟨h1, h2, h3, h4⟩ := hst
 refine VDeferred.of_body hc hf hb h1 (VWpS.seq (VWpS.recover h2 rfl rfl rfl ?_))
 refine Mt ?_ l 1 _ (fun k => by simp [Nat.add_comm]) h3 h
 intro s hs
 exact VWpS.of rfl (pn (G := G.at (some none)) hm rest _ s h4 hs)
def RR (r : PRes) (x : VV) (H : Nat → Option Vo) (_ : Nat) : Prop := ∃ y, r = .tree y ∧ (outV H x).tree = true ∧ outV H x = y
def RPn (r : PRes) (x : VV) (H : Nat → Option Vo) (_ : Nat) : Prop := ∃ y, r = .panic y ∧ (outV H x).tree = true ∧ outV H x = y
theorem ah.of_openR {r : PRes} (h : aX P G f args (fun _ => none) 0 (RR r) (RPn r)) : ah P G f args r := by
 cases r with
 | tree y =>
  refine ah.of_openT (aX.mono h ?_ ?_)
  ·rintro x H n ⟨y', e, h1, h2⟩; cases e; exact ⟨h1, h2⟩
  ·rintro x H n ⟨y', e, h1, h2⟩; cases e
 | own cs len es =>
  refine ah.of_open (aX.mono h ?_ ?_)
  ·rintro x H n ⟨y', e, h1, h2⟩; cases e
  ·rintro x H n ⟨y', e, h1, h2⟩; cases e
 | panic y =>
  refine ah.of_openP (aX.mono h ?_ ?_)
  ·rintro x H n ⟨y', e, h1, h2⟩; cases e
  ·rintro x H n ⟨y', e, h1, h2⟩; cases e; exact ⟨h1, h2⟩
theorem ah.runR (hm : P.follows .mixedOrders = true) {fn : Func} {code : Code} {r : PRes} (hc : Callable P f) (hf : P.funcs[f]? = some fn) (hb : fn.body = some code)
  (hst : (decide (args.length ≤ fn.ntmps) && codeOk fn.ntmps code) = true) (h : CWp P (G.at (some none)) fn.ntmps code (OpenPostD P G fn (RR r) (RPn r)) { tm := bk args, H := fun _ => none, nx := 0, df := [] }) : ah P G f args r :=
 ah.of_openR (aX.run hm hc hf hb hst h)
variable {RD : VMode → (Nat → Option Vo) → Nat → Prop}
section
variable {P : Program} {G : Gb} {fn : Func} {tm : Nat → VV} {H : Nat → Option Vo} {nx : Nat} {R Rp : VV → (Nat → Option Vo) → Nat → Prop} {x y : VV} {F : FuncId} {cap args : List VV}
theorem bO (hx : resV P ⟨tm, H, nx, []⟩ fn.results.toList = some x) (h : R x H nx) : OpenPostD P G fn R Rp .ret ⟨tm, H, nx, []⟩ := ⟨x, hx, h⟩
theorem Fp (hx : resV P ⟨tm, H, nx, []⟩ fn.results.toList = some x) (h : R x H nx) : OpenPostD P G fn R Rp .normal ⟨tm, H, nx, []⟩ := ⟨x, hx, h⟩
theorem Fq (h : Rp x H nx) : OpenPostD P G fn R Rp (.panic x) ⟨tm, H, nx, []⟩ := h
def AfterD (P : Program) (fn : Func) (tm : Nat → VV) (R Rp : VV → (Nat → Option Vo) → Nat → Prop) (u : VMode) (H : Nat → Option Vo) (nx : Nat) : Prop := match settleV u with
 | .ret => ∃ x, resV P ⟨tm, H, nx, []⟩ fn.results.toList = some x ∧ R x H nx
 | .pan x false => Rp x H nx
 | .pan _ true => False
theorem TV {df : List VDef} {H0 : Nat → Option Vo} {eT : Nat} (h : AfterD P fn tm R Rp u H nx) : leavesK P G (finK P fn ⟨tm, H0, eT, df⟩ R Rp) [] (settleV u) H nx := by
 unfold AfterD at h
 cases hu : settleV u with
 | ret => rw [hu] at h; exact h
 | pan x b => rw [hu] at h; cases b <;> exact h
theorem Fx (h : VDeferred P G F (args ++ cap) H nx .ret (AfterD P fn tm R Rp)) : OpenPostD P G fn R Rp .ret ⟨tm, H, nx, [.fn (.func F) cap args]⟩ :=
 ⟨h.1, fun c W vs u0 a1 a2 a3 a4 a5 a6 => (h.2 c W vs u0 a1 a2 a3 a4 a5 a6).mono fun e u0' W' ⟨v, c', H', nx', u', b1, b2, b3, b4, b5, b6, b7, b8, b9⟩ => ⟨v, c', H', nx', u', b1, b2, b3, b4, b5, b6, b7, b8, TV b9⟩⟩
theorem Fz (h : VDeferred P G F (args ++ cap) H nx (.pan x false) (AfterD P fn tm R Rp)) : OpenPostD P G fn R Rp (.panic x) ⟨tm, H, nx, [.fn (.func F) cap args]⟩ :=
 ⟨h.1, fun c W vs u0 a1 a2 a3 a4 a5 a6 => (h.2 c W vs u0 a1 a2 a3 a4 a5 a6).mono fun e u0' W' ⟨v, c', H', nx', u', b1, b2, b3, b4, b5, b6, b7, b8, b9⟩ => ⟨v, c', H', nx', u', b1, b2, b3, b4, b5, b6, b7, b8, TV b9⟩⟩
theorem Fy (hx : resV P ⟨tm, H, nx, []⟩ fn.results.toList = some x) (h : R x H nx) : AfterD P fn tm R Rp .ret H nx := ⟨x, hx, h⟩
theorem F0 (hx : resV P ⟨tm, H, nx, []⟩ fn.results.toList = some x) (h : R x H nx) : AfterD P fn tm R Rp (.pan y true) H nx := ⟨x, hx, h⟩
theorem RN (hr : fn.results = #[]) (h : RD u H nx) : DPostU P fn RD u .normal ⟨tm, H, nx, []⟩ := ⟨rfl, ⟨.tup [], by simp [hr, resV, resL]⟩, h⟩
theorem Mu {st : St} : DMid P G fn rest RD u .normal st = CWp P G fn.ntmps rest (DPostU P fn RD u) st := rfl
theorem cm (ht : y.tree = true) (h : outV H x = y) : RR (.tree y) x H nx := ⟨y, rfl, by rw [h]; exact ht, h⟩
theorem Fs (ht : y.tree = true) (h : outV H x = y) : RPn (.panic y) x H nx := ⟨y, rfl, by rw [h]; exact ht, h⟩
end
theorem Mv : recoverV .ret = (.lit .nilIface, .ret) := rfl
theorem Mw {x : VV} : recoverV (.pan x false) = (x, .pan x true) := rfl
end Go.V
namespace Go.V
open Go IntKind
theorem Mx {P : Program} {G : Gb} {ops : Array Oper} {aa : Nat} {Q : Vx → St → Prop} : ∀ (l : List Oper) (i : Nat) (tr : Tr) (st : St), (∀ k o, l[k]? = some o → ops[i + k]? = some o) →
  drawK P G ops aa Q i l tr st → ∃ st' tr', QSteps P G ops aa (List.range' i l.length) st st' tr' ∧ traceK ops (tr.reverse ++ tr') ∧ Q .normal st'
 | [], i, tr, st, _, h => ⟨st, [], .nil, by simpa using h.1, h.2⟩
 | o :: l, i, tr, st, hl, h => by
  have ho : ops[i]? = some o := by have := hl 0 o rfl; simpa using this
  obtain ⟨rd, wr, s1, hq, hk⟩ := TW h
  obtain ⟨st', tr', hqs, htr, hQ⟩ := Mx l (i + 1) ((i, rd, wr) :: tr) s1 (fun k o' hk' => by have := hl (k + 1) o' (by simpa using hk'); rw [show i + 1 + k = i + (k + 1) by omega]; exact this) hk
  exact ⟨st', (i, rd, wr) :: tr', .cons ho hq hqs, by simpa using htr, hQ⟩
def MidQ (P : Program) (G : Gb) (ops : Array Oper) (aa k : Nat) (o : Oper) (l2 : List Oper) (Q : Vx → St → Prop) : Vx → St → Prop
 | .normal, st => stepK P G ops (aa + k) o st (fun s => drawK P G ops aa Q (k + 1) l2 [] s) (fun x s => Q (.panic x) s)
 | _, _ => False
variable {P : Program} {l2 : List Oper} {Q : Vx → St → Prop}
theorem My {G : Gb} {ops : Array Oper} {aa k : Nat} {o : Oper} {st : St} : MidQ P G ops aa k o l2 Q .normal st = stepK P G ops (aa + k) o st (fun s => drawK P G ops aa Q (k + 1) l2 [] s) (fun x s => Q (.panic x) s) := rfl
def segOk (n : Nat) (ops : Array Oper) (k m : Nat) : Bool := backOk ops && dstsOk n ops && barOk ops [(List.range' 0 k, k)] (List.range' (k + 1) m) && decide (flat [(List.range' 0 k, k)] (List.range' (k + 1) m) = List.range ops.size) && apartOk ops
theorem RY {G : Gb} (hm : P.follows .mixedOrders = true) {n id : Nat} {l l1 : List Oper} {o : Oper} {tm : Nat → VV} {H : Nat → Option Vo} {nx : Nat} {df : List VDef} 
  (k : Nat) (eQ : l.take k = l1) (ho : l[k]? = some o) (nq : l.drop (k + 1) = l2) (hstat : segOk n ⟨l⟩ k (l.length - (k + 1)) = true) (h : drawK P G ⟨l⟩ nx (MidQ P G ⟨l⟩ nx k o l2 Q) 0 l1 [] ⟨tm, H, nx + l.length, df⟩) :
  CWp P G n (.region id ⟨l⟩ true) Q ⟨tm, H, nx, df⟩ := by
 subst eQ nq
 unfold segOk at hstat
 simp only [Bool.and_eq_true] at hstat
 obtain ⟨hst, hap⟩ := hstat
 have hk : k < l.length := by
  rcases Nat.lt_or_ge k l.length with h | h
  ·exact h
  ·rw [List.getElem?_eq_none h] at ho; cases ho
 have hlen1 : (l.take k).length = k := by simp; omega
 have hlen2 : (l.drop (k + 1)).length = l.length - (k + 1) := by simp
 obtain ⟨st', tr, hqs, htr, hQ⟩ := Mx (l.take k) 0 [] _ (fun j o' hj => by
  have : j < k := by
   rcases Nat.lt_or_ge j k with h | h
   ·exact h
   ·rw [List.getElem?_eq_none (by simp; omega)] at hj; cases hj
  rw [List.getElem?_take_of_lt this] at hj
  simpa using hj) h
 rw [hlen1] at hqs
 refine .inr (VWp.regionDraw hm [(List.range' 0 k, k)] (List.range' (k + 1) (l.length - (k + 1))) (by simp only [Bool.and_eq_true]; exact hst) ?_)
 refine ⟨st', tr, hqs, Al hap tr ?_ (by simpa using htr), ?_⟩
 ·rw [hqs.fst]
  exact List.pairwise_lt_range'
 ·have mO : stepK P G ⟨l⟩ (nx + k) o st' (fun s => drawK P G ⟨l⟩ nx Q (k + 1) (l.drop (k + 1)) [] s) (fun x s => Q (.panic x) s) := hQ
  have hdst : dstsOk n ⟨l⟩ = true := hst.1.1.2
  refine (TX (by simpa using ho) hdst mO).mono (fun s hs => ?_) (fun _ _ h => h)
  obtain ⟨dN, TY, vM, Mz, Yo⟩ := Mx (l.drop (k + 1)) (k + 1) [] s (fun j o' hj => by rw [List.getElem?_drop] at hj; simpa using hj) hs
  rw [hlen2] at vM
  refine ⟨dN, TY, vM, Al hap TY ?_ (by simpa using Mz), Yo⟩
  rw [vM.fst]
  exact List.pairwise_lt_range'
end Go.V
end
section
namespace Go.V
open Go IntKind
def sumB {R E X : Type} (x : R ⊕ E) (f : R → Option X) (g : E → Option X) : Option X := match x with
 | .inl a => f a
 | .inr e => g e
theorem Ev {R E X : Type} {a : R} {f : R → Option X} {g : E → Option X} : sumB (.inl a) f g = f a := rfl
theorem Ew {R E X : Type} {e : E} {f : R → Option X} {g : E → Option X} : sumB (.inr e) f g = g e := rfl
section
variable {A1 A2 A3 A4 A5 A6 A7 A8 A9 A10 A11 A12 X : Type}
end
variable {b : Nat}
theorem wo {a m : Nat} (h : a + m ≤ b) : (∀ i j, i < m → (a + i = b + j) = False ∧ (b + j = a + i) = False) ∧ (∀ i, i < m → (a + i = b) = False ∧ (b = a + i) = False) ∧ (0 < m → (∀ j, (a = b + j) = False ∧ (b + j = a) = False) ∧ (a = b) = False ∧ (b = a) = False) :=
 ⟨fun i j hi => ⟨by simp; omega, by simp; omega⟩, fun i hi => ⟨by simp; omega, by simp; omega⟩, fun hm => ⟨fun j => ⟨by simp; omega, by simp; omega⟩, by simp; omega, by simp; omega⟩⟩
theorem ib {m : Nat} (h : m ≤ b) : (∀ i j, i < m → (i = b + j) = False ∧ (b + j = i) = False) ∧ (∀ i, i < m → (i = b) = False ∧ (b = i) = False) :=
 ⟨fun i j hi => ⟨by simp; omega, by simp; omega⟩, fun i hi => ⟨by simp; omega, by simp; omega⟩⟩
theorem jH {β nx : Nat} (h : β < nx) : (β = nx) = False ∧ (nx = β) = False ∧ (∀ c, (β = nx + c) = False) ∧ ∀ c, (nx + c = β) = False :=
 ⟨by simp; omega, by simp; omega, fun c => by simp; omega, fun c => by simp; omega⟩
theorem ne_f {a : Nat} (h : a ≠ b) : (a = b) = False ∧ (b = a) = False := ⟨by simp [h], by simp; exact fun e => h e.symm⟩
variable {ats : Array TypeId} {y : Operand}
section
variable {P : Program} {G : Gb} {n : Nat} {γ : Nat} {tm : Nat → VV} {H : Nat → Option Vo} {nx : Nat} {df : List VDef} {K : St → Prop} {Kd : List Nat → List Nat → St → Prop} {Qp : VV → St → Prop} {Q : Vx → St → Prop}
 {d : Option Tmp} {ty : TypeId} {pos : String} {af : Array Edge} {g : Option (Nat × Bool)} {x : Code} {st : St}
theorem Yp : roundsK P G n x Q 1 st = CWp P G n x (Vx.then (roundsK P G n x Q 0) Q) st := rfl
theorem Yq : roundsK P G n x Q 2 st = CWp P G n x (Vx.then (roundsK P G n x Q 1) Q) st := rfl
theorem Yr : roundsK P G n x Q 3 st = CWp P G n x (Vx.then (roundsK P G n x Q 2) Q) st := rfl
theorem Ys : roundsK P G n x Q 4 st = CWp P G n x (Vx.then (roundsK P G n x Q 3) Q) st := rfl
theorem Yt : roundsK P G n x Q 5 st = CWp P G n x (Vx.then (roundsK P G n x Q 4) Q) st := rfl
theorem Yu : roundsK P G n x Q 6 st = CWp P G n x (Vx.then (roundsK P G n x Q 5) Q) st := rfl
theorem Yv : roundsK P G n x Q 7 st = CWp P G n x (Vx.then (roundsK P G n x Q 6) Q) st := rfl
@[congr] theorem Yw {k : Nat} {st st' : St} (h : st = st') : roundsK P G n x Q k st = roundsK P G n x Q k st' := by rw [h]
theorem kpan {f : FuncId} {args args0 : List VV} {y : VV} (hn : normL args = args0) (ht : tl args = true) (hp : ah P G f args0 (.panic y)) (h : Qp y ⟨tm, H, nx, df⟩) : callK P G f args ⟨tm, H, nx, df⟩ d γ K Qp := by
 subst hn
 exact .inl ⟨ht, _, hp.norm, h⟩
section
variable {i : Nat} {a : Oper} {l : List Oper}
theorem M0 : (a :: l).take (i + 1) = a :: l.take i := rfl
theorem M1 : l.take 0 = [] := by simp
theorem M3 : (a :: l).drop (i + 1) = l.drop i := rfl
theorem M4 : l.drop 0 = l := by simp
end
theorem Yx {f : Fn} {a b : Array Operand} : aR P G γ ⟨d, .makeFunc f a b, ty, pos, af, g⟩ ⟨tm, H, nx, df⟩ Kd = fin d γ tm H nx df (Kd (rdV ⟨d, .makeFunc f a b, ty, pos, af, g⟩ (ev G tm)) []) (.fn f (a.toList.map (ev G tm)) (b.toList.map (ev G tm))) .none := by
 rw [jb (by simp)]; rfl
theorem Yy {t : TypeId} {x : Operand} : aR P G γ ⟨d, .makeInterface t x, ty, pos, af, g⟩ ⟨tm, H, nx, df⟩ Kd = oK (mkIfcV P t (ev G tm x)) (fun y => fin d γ tm H nx df (Kd (rdV ⟨d, .makeInterface t x, ty, pos, af, g⟩ (ev G tm)) []) y .none) := by
 rw [jb (by simp)]; simp only [vop, mkIfcV]
 cases P.underlying t with
 | none => rfl
 | some x => cases x <;> rfl
theorem TZ {b : Builtin} {as : Array Operand} : aR P G γ ⟨d, .call ⟨.builtin b, as, ats⟩, ty, pos, af, g⟩ ⟨tm, H, nx, df⟩ Kd = oeK (vbuiltin P ⟨.builtin b, as, ats⟩ (ev G tm) H γ) (fun x e => fin d γ tm H nx df (Kd (rdV ⟨d, .call ⟨.builtin b, as, ats⟩, ty, pos, af, g⟩ (ev G tm)) (e.wr γ)) x e) := by
 unfold aR
 simp only [vop, ev_eq, oeK, ← iU]
 rfl
theorem M5 {x : Operand} : aR P G γ ⟨d, .call ⟨.builtin .min, #[x, y], ats⟩, ty, pos, af, g⟩ ⟨tm, H, nx, df⟩ Kd = oK (minV (ev G tm x) (ev G tm y)) (fun z => fin d γ tm H nx df (Kd (rdV ⟨d, .call ⟨.builtin .min, #[x, y], ats⟩, ty, pos, af, g⟩ (ev G tm)) []) z .none) := by
 rw [TZ]
 simp only [vbuiltin, minV]
 split <;> simp_all [oeK, oK, Ve.wr]
theorem M6 {x : Operand} : aR P G γ ⟨d, .call ⟨.builtin .max, #[x, y], ats⟩, ty, pos, af, g⟩ ⟨tm, H, nx, df⟩ Kd = oK (maxV (ev G tm x) (ev G tm y)) (fun z => fin d γ tm H nx df (Kd (rdV ⟨d, .call ⟨.builtin .max, #[x, y], ats⟩, ty, pos, af, g⟩ (ev G tm)) []) z .none) := by
 rw [TZ]
 simp only [vbuiltin, maxV]
 split <;> simp_all [oeK, oK, Ve.wr]
end
end Go.V
namespace Go.V
open Go IntKind
section
variable {P : Program} {G : Gb} {γ : Nat} {tm : Nat → VV} {H : Nat → Option Vo} {nx : Nat} {df : List VDef} {Kd : List Nat → List Nat → St → Prop} {d : Option Tmp} {ty : TypeId} {pos : String} {af : Array Edge} {g : Option (Nat × Bool)}
def dvalK (P : Program) (G : Gb) (x : VV) (args : List VV) (tm : Nat → VV) (H : Nat → Option Vo) (nx : Nat) (df : List VDef) (d : Option Tmp) (γ : Nat) (K : List Nat → List Nat → St → Prop) : Prop := match x with
 | .fn (.func f) first captured => dcallK P G f (first ++ args ++ captured) tm H nx df d γ K
 | _ => False
theorem M7 {t : Tmp} {as : Array Operand} {ats : Array TypeId} : aR P G γ ⟨d, .call ⟨.value (.tmp t), as, ats⟩, ty, pos, af, g⟩ ⟨tm, H, nx, df⟩ Kd = dvalK P G (tm t) (as.toList.map (ev G tm)) tm H nx df d γ Kd := by
 have e : ev G tm (.tmp t) = tm t := rfl
 simp only [aR, ev_eq, e, dvalK]
 cases tm t with
 | fn f first captured =>
  cases f with
  | func f =>
   simp only [dcallK]
   refine propext (or_congr (and_congr_right fun _ => exists_congr fun r => and_congr_right fun _ => ?_) (or_congr (exists_congr fun a => exists_congr fun x => and_congr_right fun _ => and_congr_right fun _ => and_congr_right fun _ => ?_) (or_congr (exists_congr fun β => exists_congr fun es' => exists_congr fun x => and_congr_right fun _ => ?_) (exists_congr fun cs => and_congr_right fun _ => and_congr_right fun _ => ?_))))
   ·cases r with
    | tree x =>
     simp only
     rw [← jP _ _ _ γ]
     exact iff_of_eq (iU (K := Kd [] []))
    | own cs len es => exact iff_of_eq (iU (K := Kd [] [γ]))
    | panic x => rfl
   ·rw [← jP _ _ _ γ]
    exact iff_of_eq (iU (K := Kd (nmL H fuelS (first ++ as.toList.map (ev G tm) ++ captured)) []))
   ·exact iff_of_eq (iU (K := Kd [β] [β]))
   ·exact iff_of_eq (iU (K := Kd [] [γ]))
  | _ => rfl
 | _ => rfl
theorem M8 {f : FuncId} {first captured args : List VV} : dvalK P G (.fn (.func f) first captured) args tm H nx df d γ Kd = dcallK P G f (first ++ args ++ captured) tm H nx df d γ Kd := rfl
end
end Go.V
namespace Go.V
open Go IntKind
variable {t : TypeId}
section
variable {P : Program} {G : Gb} {n : Nat} {tm : Nat → VV} {H : Nat → Option Vo} {nx : Nat} {df : List VDef} {Q : Vx → St → Prop} {code : Code}
theorem CS (F : (Nat → VV) → Prop) (hF : F tm) (h : ∀ tm', F tm' → CWp P G n code Q ⟨tm', H, nx, df⟩) : CWp P G n code Q ⟨tm, H, nx, df⟩ := h _ hF
theorem Fu {d : Nat} {x : VV} : showV H d (.ifc t x) = .ifc t x := by cases d <;> rfl
theorem Fv {x : VV} : normV (.ifc t x) = .ifc t x := by simp [normV]
theorem Ft {x : VV} : (VV.ifc t x).tree = x.tree := rfl
end
theorem Yz : IntKind.i64.wrap 0 = 0 := by decide
theorem Y0 : IntKind.i64.wrap 1 = 1 := by decide
theorem Y1 : IntKind.i64.wrap 2 = 2 := by decide
theorem Y2 : IntKind.i64.wrap 3 = 3 := by decide
theorem Y3 : IntKind.i64.wrap 4 = 4 := by decide
theorem Y4 : IntKind.i64.wrap 5 = 5 := by decide
theorem Y5 : IntKind.i64.wrap 6 = 6 := by decide
set_option linter.defProp false
def placeT (P : Program) (t : TypeId) (i : Nat) : Option (Nat × Nat) := match P.underlying t with
 | some (.struct fields) => placeS P fields i
 | some (.array _ e) => (szT P e).map fun n => (i * n, n)
 | _ => none
def buildOk (P : Program) (t : TypeId) : Bool := match P.underlying t with
 | some (.struct fields) => fields.all fun f => (szT P f.type).isSome
 | some (.array _ e) => (szT P e).isSome
 | _ => false
variable {P : Program}
theorem qK {z : List VV} {parts : List (Nat × VV)} (hz : vzl P t = some z) (hok : buildOk P t = true) : vbuild P t parts = (vfill (placeT P t) z parts).map .agg := by
 unfold vzl at hz
 cases hv : vzero P t with
 | none => rw [hv] at hz; cases hz
 | some z0 =>
  rw [hv] at hz
  simp only [Option.map_some, Option.some.injEq] at hz
  subst hz
  unfold vbuild buildOk at *
  simp only [hv]
  cases hu : P.underlying t with
  | none => rw [hu] at hok; cases hok
  | some d =>
   rw [hu] at hok
   cases d with
   | struct fields =>
    have e : placeT P t = placeS P fields := by funext i; simp [placeT, hu]
    simp only [e]
    rw [if_pos hok]
   | array n e =>
    simp only at hok ⊢
    cases he : szT P e with
    | none => rw [he] at hok; cases hok
    | some w =>
     have e2 : placeT P t = fun i => some (i * w, w) := by funext i; simp [placeT, hu, he]
     simp only [e2]
   | _ => cases hok
variable {x : Operand} {γ : Nat}
theorem Y6 {G : Gb} {tm : Nat → VV} {H : Nat → Option Vo} {nx : Nat} {df : List VDef} {Kd : List Nat → List Nat → St → Prop} {d : Option Tmp} {ty : TypeId} {pos : String} {af : Array Edge} {g : Option (Nat × Bool)} {a : Operand} :
  aR P G γ ⟨d, .store t a x, ty, pos, af, g⟩ ⟨tm, H, nx, df⟩ Kd = oeK (vstoreV P H t (ev G tm a) (ev G tm x)) (fun y e => fin d γ tm H nx df (Kd (rdV ⟨d, .store t a x, ty, pos, af, g⟩ (ev G tm)) (e.wr γ)) y e) := by
 rw [jb (by simp)]; rfl
variable {β : Nat}
theorem M9 {o : Vo} : (Ve.upd β o).wr γ = [β] := rfl
theorem MA {o : Vo} : (Ve.new o).wr γ = [γ] := rfl
theorem MB : Ve.none.wr γ = [] := rfl
@[reducible] def presB {R E : Type} (x : R ⊕ E) (f : R → PRes) (g : E → PRes) : PRes := match x with
 | .inl a => f a
 | .inr e => g e
variable {l : List Nat} {cs : List VV} {k : Nat} {y : Operand} {ps : List (Nat × Operand)}
section
variable {G : Gb} {tm : Nat → VV} {d : Option Tmp} {ty : TypeId} {pos : String} {af : Array Edge} {g : Option (Nat × Bool)}
def tnL (v : VV) (l : List Nat) : List Nat := match topName v with
 | some β => β :: l
 | none => l
def rdL (ρ : Operand → VV) : List Operand → List Nat
 | [] => []
 | x :: xs => tnL (ρ x) (rdL ρ xs)
theorem jc {ρ : Operand → VV} : ∀ l : List Operand, l.filterMap (fun y => topName (ρ y)) = rdL ρ l
 | [] => rfl
 | x :: xs => by
  rw [List.filterMap_cons, jc xs]
  simp only [rdL, tnL]
  cases topName (ρ x) <;> rfl
theorem MC {ρ : Operand → VV} : rdL ρ [] = [] := rfl
theorem MD {ρ : Operand → VV} {xs : List Operand} : rdL ρ (x :: xs) = tnL (ρ x) (rdL ρ xs) := rfl
theorem ME {v : Value} : tnL (.lit v) l = l := rfl
theorem MF {o : Nat} : tnL (.ptr β o) l = β :: l := rfl
theorem MG {o n w c : Nat} : tnL (.ref β o n w c) l = β :: l := rfl
theorem MH : tnL (.tp cs) l = l := rfl
theorem MI : tnL (.agg cs) l = l := rfl
theorem MJ {n : Nat} {f : Bool} : tnL (.sl cs n f) l = l := rfl
theorem MK : tnL (.tup cs) l = l := rfl
theorem ML {f : Fn} {a b : List VV} : tnL (.fn f a b) l = l := rfl
theorem MM {x : VV} : tnL (.ifc t x) l = l := rfl
theorem MN : rdV ⟨d, .move x, ty, pos, af, g⟩ (ev G tm) = rdL (ev G tm) [] := jc []
theorem MO : rdV ⟨d, .assign x, ty, pos, af, g⟩ (ev G tm) = rdL (ev G tm) [] := jc []
theorem MP : rdV ⟨d, .load t x, ty, pos, af, g⟩ (ev G tm) = rdL (ev G tm) [x] := jc [x]
theorem Y7 {t : Nat} : rdV ⟨d, .fieldAddr t x k, ty, pos, af, g⟩ (ev G tm) = rdL (ev G tm) [x] := jc [x]
theorem MQ {t : Nat} : rdV ⟨d, .field t x k, ty, pos, af, g⟩ (ev G tm) = rdL (ev G tm) [x] := jc [x]
theorem Y8 : rdV ⟨d, .indexAddr t x y, ty, pos, af, g⟩ (ev G tm) = rdL (ev G tm) [x, y] := jc [x, y]
theorem MR : rdV ⟨d, .index t x y, ty, pos, af, g⟩ (ev G tm) = rdL (ev G tm) [x, y] := jc [x, y]
theorem MS {b : BinOp} {u : TypeId} : rdV ⟨d, .binOp b t x y u, ty, pos, af, g⟩ (ev G tm) = rdL (ev G tm) [x, y] := jc [x, y]
theorem MT {b : UnOp} : rdV ⟨d, .unOp b t x, ty, pos, af, g⟩ (ev G tm) = rdL (ev G tm) [x] := jc [x]
theorem MU : rdV ⟨d, .alloc t, ty, pos, af, g⟩ (ev G tm) = rdL (ev G tm) [] := jc []
theorem MV : rdV ⟨d, .box t x, ty, pos, af, g⟩ (ev G tm) = rdL (ev G tm) [x] := jc [x]
theorem MW : rdV ⟨d, .store t x y, ty, pos, af, g⟩ (ev G tm) = rdL (ev G tm) [x, y] := jc [x, y]
theorem MX {c : Operand} : rdV ⟨d, .pick c x y, ty, pos, af, g⟩ (ev G tm) = rdL (ev G tm) [c, x, y] := jc [c, x, y]
theorem MY : rdV ⟨d, .extract x k, ty, pos, af, g⟩ (ev G tm) = rdL (ev G tm) [x] := jc [x]
theorem MZ : rdV ⟨d, .makeInterface t x, ty, pos, af, g⟩ (ev G tm) = rdL (ev G tm) [x] := jc [x]
theorem Y9 : rdV ⟨d, .makeSlice t x y, ty, pos, af, g⟩ (ev G tm) = rdL (ev G tm) [x, y] := jc [x, y]
theorem Na : rdV ⟨d, .build t ⟨ps⟩, ty, pos, af, g⟩ (ev G tm) = rdL (ev G tm) (ps.map (·.2)) := by rw [← jc]; simp [rdV, rdO, Op.operands]
theorem YA {t : Nat} : rdV ⟨d, .buildSlice t k ⟨ps⟩, ty, pos, af, g⟩ (ev G tm) = rdL (ev G tm) (ps.map (·.2)) := by rw [← jc]; simp [rdV, rdO, Op.operands]
theorem Nb {b : Builtin} {as : List Operand} {ats : Array TypeId} : rdV ⟨d, .call ⟨.builtin b, ⟨as⟩, ats⟩, ty, pos, af, g⟩ (ev G tm) = rdL (ev G tm) as := by rw [← jc]; simp [rdV, rdO, Op.operands, Call.operands]
theorem Nc {o : Nat × Operand} {os : List (Nat × Operand)} : (o :: os).map (·.2) = o.2 :: os.map (·.2) := rfl
theorem Nd : ([] : List (Nat × Operand)).map (·.2) = [] := rfl
end
variable {a : Nat}
theorem nr {i j : Nat} : (a + i = a + j) = (i = j) := by simp
theorem lV {j : Nat} : (a = a + j) = (j = 0) := by simp
theorem iT {i : Nat} : (a + i = a) = (i = 0) := by simp
def nmB := (qZj @nr (qZj @lV @iT))
def Vd := (qZj (qZj (qZj (qZj (qZj (qZj @Yl @Me) (qZj @Mf (qZj @Mh @Mi))) (qZj (qZj @Mj @Mk) (qZj @Ym (qZj @Yn @Ml)))) (qZj (qZj (qZj @Mm @Mn) (qZj @Mo (qZj @Mp @Mq))) (qZj (qZj @Mr @Ms) (qZj @Yp (qZj @Yq @Yr))))) (qZj (qZj (qZj (qZj @Ys @Yt) (qZj @Yu (qZj @Yv @M0))) (qZj (qZj @M1 @M3) (qZj @M4 (qZj @My @Mu)))) (qZj (qZj (qZj @Yx @Yy) (qZj @M5 (qZj @M6 @M7))) (qZj (qZj @M8 (qZj @Mv @Mw)) (qZj @Yz (qZj @Y0 @Y1)))))) (qZj (qZj (qZj (qZj (qZj @Y2 @Y3) (qZj @Y4 (qZj @Y5 @S0))) (qZj (qZj @yd @Y6) (qZj @M9 (qZj @MA @MB)))) (qZj (qZj (qZj @MC @MD) (qZj @ME (qZj @MF @MG))) (qZj (qZj @MH (qZj @MI @MJ)) (qZj @MK (qZj @ML @MM))))) (qZj (qZj (qZj (qZj @MN @MO) (qZj @MP (qZj @Y7 @MQ))) (qZj (qZj @Y8 @MR) (qZj @MS (qZj @MT @MU)))) (qZj (qZj (qZj @MV @MW) (qZj @MX (qZj @MY @MZ))) (qZj (qZj @Y9 (qZj @Na @YA)) (qZj @Nb (qZj @Nc @Nd)))))))
end Go.V
end
section
namespace Go.V
open Go IntKind
variable {P : Program}
theorem Bu : aG P program = some P := rfl
variable {t : TypeId}
theorem x9 {d : TypeDesc} (h : P.underlying t = some d) : aG P (underlying t) = some d := by
 unfold underlying
 rw [eg, Bu]
 simp only [Option.bind_some, h]
 exact jl P d
variable {b : Bool}
theorem Ua (h : aggT P t = some b) : aG P (isAgg t) = some b := by
 unfold aggT at h
 cases hu : P.underlying t with
 | none => simp [hu] at h
 | some d =>
  unfold isAgg
  rw [eg, x9 hu]
  cases d <;> simp [hu] at h <;> subst h <;> simp [jl]
theorem Nf {cs : Array Value} {off : Nat} {v : Value} (h : aggT P t = some false) (hv : cs[off]? = some v) : aG P (part t cs off) = some v := by
 unfold part
 rw [eg, Ua h]
 simp [hv, jl]
def eq1 : Value → Value → Bool
 | .int _ a, .int _ b => a == b
 | .bool a, .bool b => a == b
 | _, _ => false
def po (P : Program) (t : TypeId) : Value → Value → Bool
 | .int k _, .int k' _ => k == k' && (match P.underlying t with | some (.int _) => true | _ => false)
 | .bool _, .bool _ => (match P.underlying t with | some .bool => true | _ => false)
 | _, _ => false
theorem Ng {a b : Value} (h : po P t a b = true) : aggT P t = some false := by
 unfold aggT
 cases hu : P.underlying t with
 | none => cases a <;> cases b <;> simp [po, hu] at h
 | some d => cases d <;> first | rfl | (cases a <;> cases b <;> simp [po, hu] at h)
theorem DP {d : Nat} {a b : Value} (h : po P t a b = true) : aG P (Op.equalIn (d + 1) t a b) = some (eq1 a b) := by
 cases hu : P.underlying t with
 | none => cases a <;> cases b <;> simp [po, hu] at h
 | some dd =>
  unfold Op.equalIn
  rw [eg, x9 hu]
  simp only [Option.bind_some]
  cases a <;> cases b <;> simp only [po, hu, Bool.false_eq_true, Bool.and_eq_true, beq_iff_eq] at h
  ·cases dd <;> first | (cases h; done) | exact jl P _
  ·obtain ⟨rfl, h⟩ := h
   cases dd <;> first | (cases h; done) | (simp only [if_true]; exact jl P _)
def eqF (P : Program) : List Field → Array Value → Array Value → Option Bool
 | [], _, _ => some true
 | f :: fs, xs, ys => match xs[f.offset]?, ys[f.offset]? with
  | some a, some b => if f.name ≠ "_" ∧ po P f.type a b = true then (match eqF P fs xs ys with | some r => some (eq1 a b && r) | none => none) else none
  | _, _ => none
theorem Ub {P : Program} {d : Nat} {xs ys : Array Value} : ∀ (fs : List Field) (r : Bool), eqF P fs xs ys = some r →
  aG P (forIn fs ((none, ()) : Option Bool × Unit) fun f __s => if f.name ≠ "_" then do
         let __do_lift ← part f.type xs f.offset
         let __do_lift_1 ← part f.type ys f.offset
         let __do_lift ← Op.equalIn (d + 1) f.type __do_lift __do_lift_1
         if (!__do_lift) = true then pure (ForInStep.done (some false, ()))
          else pure (ForInStep.yield (none, ()))
        else pure (ForInStep.yield (none, ()))) = some (if r = true then none else some false, ())
 | [], r, h => by
  cases h
  rfl
 | f :: fs, r, h => by
  unfold eqF at h
  split at h
  ·rename_i a b ha hb
   split at h
   ·rename_i hc
    split at h
    ·rename_i r' hr
     cases h
     have hp := Ng hc.2
     have ih := Ub (d := d) fs r' hr
     rw [List.forIn_cons, eg, if_pos hc.1, eg, Nf hp ha, Option.bind_some, eg, Nf hp hb, Option.bind_some, eg, DP hc.2, Option.bind_some]
     cases he : eq1 a b with
     | true =>
      simp only [Bool.not_true, Bool.false_eq_true, if_false, jl, Option.bind_some, Bool.true_and]
      exact ih
     | false =>
      simp only [Bool.not_false, if_true, jl, Option.bind_some, Bool.false_and, Bool.false_eq_true, if_false]
    ·cases h
   ·cases h
  ·cases h
variable {fs : Array Field} {r : Bool}
theorem Uc {d : Nat} {xs ys : Array Value} (hu : P.underlying t = some (.struct fs)) (hs : P.stoodInHeld t = false) (h : eqF P fs.toList xs ys = some r) : aG P (Op.equalIn (d + 2) t (.agg xs) (.agg ys)) = some r := by
 unfold Op.equalIn
 rw [eg, x9 hu]
 simp only [Option.bind_some]
 rw [eg, Bu]
 simp only [Option.bind_some, hs, Bool.false_eq_true, if_false]
 rw [eg, ← Array.forIn_toList]
 have := Ub (d := d) fs.toList r h
 rw [this]
 cases r <;> rfl
variable {x y : Operand} {xs ys : List Value}
theorem Nh (hu : P.underlying t = some (.struct fs)) (hs : P.stoodInHeld t = false) (hg : P.eqGuardType P.depth t = false) (h : eqF P fs.toList ⟨xs⟩ ⟨ys⟩ = some r) :
  vbin P .eql t x y (.agg ⟨xs⟩) (.agg ⟨ys⟩) = some (.bool r) ∧ vbin P .neq t x y (.agg ⟨xs⟩) (.agg ⟨ys⟩) = some (.bool (!r)) := by
 have e : Op.maxDepth = 9998 + 2 := rfl
 have key : ∀ op, op = .eql ∨ op = .neq → aG P (eqGuard op t x y (.agg ⟨xs⟩) (.agg ⟨ys⟩)) = some () := by
  intro op hop
  unfold eqGuard
  rcases hop with rfl | rfl <;> simp [eg, Bu, jl, hg]
 constructor
 ·simp only [vbin]
  rw [eg, key _ (.inl rfl), Option.bind_some]
  show aG P (do pure (Value.bool (← Op.equal t (.agg ⟨xs⟩) (.agg ⟨ys⟩)))) = _
  rw [eg]
  unfold Op.equal
  rw [e, Uc hu hs h]
  rfl
 ·simp only [vbin]
  rw [eg, key _ (.inr rfl), Option.bind_some]
  show aG P (do pure (Value.bool (!(← Op.equal t (.agg ⟨xs⟩) (.agg ⟨ys⟩))))) = _
  rw [eg]
  unfold Op.equal
  rw [e, Uc hu hs h]
  rfl
variable {H : Nat → Option Vo}
theorem binS {ax ay : VV} (hx : ax.val? = some (.agg ⟨xs⟩)) (hy : ay.val? = some (.agg ⟨ys⟩)) (hu : P.underlying t = some (.struct fs)) (hs : P.stoodInHeld t = false) (hg : P.eqGuardType P.depth t = false) (h : eqF P fs.toList ⟨xs⟩ ⟨ys⟩ = some r) :
  binV P H .eql t x y ax ay = some (.lit (.bool r)) ∧ binV P H .neq t x y ax ay = some (.lit (.bool (!r))) := by
 obtain ⟨h1, h2⟩ := Nh (x := x) (y := y) hu hs hg h
 constructor
 ·simp only [binV, hx, hy, h1]; rfl
 ·simp only [binV, hx, hy, h2]; rfl
theorem Ni {a : Bool} (hu : P.underlying t = some .bool) : binV P H .eql t x y (.lit (.bool a)) (.lit (.bool b)) = some (.lit (.bool (a == b))) := by
 have e : aG P (Op.equalIn (9999 + 1) t (.bool a) (.bool b)) = some (eq1 (.bool a) (.bool b)) := DP (by simp [po, hu])
 have key : vbin P .eql t x y (.bool a) (.bool b) = some (.bool (a == b)) := by
  simp only [vbin]
  rw [eg]
  show (aG P (pure ())).bind (fun _ => aG P (do pure (Value.bool (← Op.equal t (.bool a) (.bool b))))) = _
  rw [jl, Option.bind_some, eg]
  unfold Op.equal
  rw [show Op.maxDepth = 9999 + 1 from rfl, e]
  rfl
 simp only [binV, VV.val?, key]
 rfl
theorem Nj {a : Bool} (hu : P.underlying t = some .bool) : binV P H .neq t x y (.lit (.bool a)) (.lit (.bool b)) = some (.lit (.bool (a != b))) := by
 have e : aG P (Op.equalIn (9999 + 1) t (.bool a) (.bool b)) = some (eq1 (.bool a) (.bool b)) := DP (by simp [po, hu])
 have key : vbin P .neq t x y (.bool a) (.bool b) = some (.bool (a != b)) := by
  simp only [vbin]
  rw [eg]
  show (aG P (pure ())).bind (fun _ => aG P (do pure (Value.bool (!(← Op.equal t (.bool a) (.bool b)))))) = _
  rw [jl, Option.bind_some, eg]
  unfold Op.equal
  rw [show Op.maxDepth = 9999 + 1 from rfl, e]
  rfl
 simp only [binV, VV.val?, key]
 rfl
end Go.V
end
section
namespace Go.V
open Go IntKind
def MidG (P : Program) (G : Gb) (ops : Array Oper) (aa k : Nat) (o : Oper) (next : St → Prop) (Qp : VV → St → Prop) : Vx → St → Prop
 | .normal, st => stepK P G ops (aa + k) o st next Qp
 | _, _ => False
theorem Nk {P : Program} {G : Gb} {ops : Array Oper} {aa k : Nat} {o : Oper} {next : St → Prop} {Qp : VV → St → Prop} {st : St} : MidG P G ops aa k o next Qp .normal st = stepK P G ops (aa + k) o st next Qp := rfl
section
variable {P : Program} {G : Gb} {ops : Array Oper} {aa : Nat} {Q : Vx → St → Prop} {i k : Nat} {ks : List Nat} {l l1 l2 : List Oper} {o : Oper} {st : St}
end
end Go.V
namespace Go.V
open Go IntKind
end Go.V
end
section
namespace Go.V
open Go IntKind
variable {P : Program} {t : TypeId}
theorem Ud {n : Nat} (h : szT P t = some n) : aG P (sizeOf t) = some n := by
 unfold szT at h
 cases hi : P.info? t with
 | none => simp [hi] at h
 | some i =>
  simp [hi] at h
  subst h
  unfold sizeOf typeInfo
  rw [eg, eg, Bu]
  simp [hi, jl]
def partO (P : Program) (t : TypeId) (cs : Array Value) (off : Nat) : Option Value :=
 match aggT P t, szT P t with
 | some true, some n => some (.agg (cs.extract off (off + n)))
 | some false, _ => cs[off]?
 | _, _ => none
theorem DQ {cs : Array Value} {off : Nat} {v : Value} (h : partO P t cs off = some v) : aG P (part t cs off) = some v := by
 unfold partO at h
 split at h
 ·rename_i n h1 h2
  cases h
  unfold part
  rw [eg, Ua h1]
  simp only [Option.bind_some, if_true]
  rw [eg, Ud h2]
  rfl
 ·rename_i h1
  exact Nf h1 h
 ·cases h
def eqFs (E : TypeId → Value → Value → Option Bool) (P : Program) : List Field → Array Value → Array Value → Option Bool
 | [], _, _ => some true
 | f :: fs, xs, ys => match partO P f.type xs f.offset, partO P f.type ys f.offset with
  | some a, some b => if f.name ≠ "_" then (match E f.type a b, eqFs E P fs xs ys with | some r, some r' => some (r && r') | _, _ => none) else none
  | _, _ => none
theorem Ue {P : Program} {E : TypeId → Value → Value → Option Bool} {d : Nat} (hE : ∀ t a b r, E t a b = some r → aG P (Op.equalIn d t a b) = some r) {xs ys : Array Value} : ∀ (fs : List Field) (r : Bool), eqFs E P fs xs ys = some r →
  aG P (forIn fs ((none, ()) : Option Bool × Unit) fun f __s => if f.name ≠ "_" then do
         let __do_lift ← part f.type xs f.offset
         let __do_lift_1 ← part f.type ys f.offset
         let __do_lift ← Op.equalIn d f.type __do_lift __do_lift_1
         if (!__do_lift) = true then pure (ForInStep.done (some false, ()))
          else pure (ForInStep.yield (none, ()))
        else pure (ForInStep.yield (none, ()))) = some (if r = true then none else some false, ())
 | [], r, h => by
  cases h
  rfl
 | f :: fs, r, h => by
  unfold eqFs at h
  split at h
  ·rename_i a b ha hb
   split at h
   ·rename_i hc
    split at h
    ·rename_i r1 r2 jX mf
     cases h
     have ih := Ue hE fs r2 mf
     rw [List.forIn_cons, eg, if_pos hc, eg, DQ ha, Option.bind_some, eg, DQ hb, Option.bind_some, eg, hE _ _ _ _ jX, Option.bind_some]
     cases r1 with
     | true =>
      simp only [Bool.not_true, Bool.false_eq_true, if_false, jl, Option.bind_some, Bool.true_and]
      exact ih
     | false =>
      simp only [Bool.not_false, if_true, jl, Option.bind_some, Bool.false_and, Bool.false_eq_true, if_false]
    ·cases h
   ·cases h
  ·cases h
def eqAs (E : Value → Value → Option Bool) (P : Program) (e : TypeId) (n : Nat) (xs ys : Array Value) : List Nat → Option Bool
 | [] => some true
 | i :: l => match partO P e xs (i * n), partO P e ys (i * n) with
  | some a, some b => (match E a b, eqAs E P e n xs ys l with | some r, some r' => some (r && r') | _, _ => none)
  | _, _ => none
theorem Uf {P : Program} {E : Value → Value → Option Bool} {d n : Nat} {e : TypeId} (hE : ∀ a b r, E a b = some r → aG P (Op.equalIn d e a b) = some r) {xs ys : Array Value} : ∀ (l : List Nat) (r : Bool), eqAs E P e n xs ys l = some r →
  aG P (forIn l ((none, ()) : Option Bool × Unit) fun i __s => do
         let __do_lift ← part e xs (i * n)
         let __do_lift_1 ← part e ys (i * n)
         let __do_lift ← Op.equalIn d e __do_lift __do_lift_1
         if (!__do_lift) = true then pure (ForInStep.done (some false, ()))
          else pure (ForInStep.yield (none, ()))) = some (if r = true then none else some false, ())
 | [], r, h => by
  cases h
  rfl
 | i :: l, r, h => by
  unfold eqAs at h
  split at h
  ·rename_i a b ha hb
   split at h
   ·rename_i r1 r2 jX mf
    cases h
    have ih := Uf hE l r2 mf
    rw [List.forIn_cons, eg, eg, DQ ha, Option.bind_some, eg, DQ hb, Option.bind_some, eg, hE _ _ _ jX, Option.bind_some]
    cases r1 with
    | true =>
     simp only [Bool.not_true, Bool.false_eq_true, if_false, jl, Option.bind_some, Bool.true_and]
     exact ih
    | false =>
     simp only [Bool.not_false, if_true, jl, Option.bind_some, Bool.false_and, Bool.false_eq_true, if_false]
   ·cases h
  ·cases h
def eqD (P : Program) : Nat → TypeId → Value → Value → Option Bool
 | 0, _, _, _ => none
 | d + 1, t, x, y => if po P t x y = true then some (eq1 x y) else
  match P.underlying t, x, y with
  | some (.struct fs), .agg xs, .agg ys => if P.stoodInHeld t = true then none else eqFs (eqD P d) P fs.toList xs ys
  | some (.array len e), .agg xs, .agg ys => (match szT P e with | some n => eqAs (eqD P d e) P e n xs ys (List.range' 0 len) | none => none)
  | _, _, _ => none
theorem Ju {P : Program} : ∀ (d : Nat) (t : TypeId) (x y : Value) (r : Bool), eqD P d t x y = some r → ∀ m, aG P (Op.equalIn (m + d) t x y) = some r
 | 0, _, _, _, _, h, _ => by cases h
 | d + 1, t, x, y, r, h, m => by
  unfold eqD at h
  split at h
  ·rename_i h1
   cases h
   exact DP h1
  ·split at h
   ·rename_i fs xs ys hu _
    split at h
    ·cases h
    ·rename_i hs
     rw [Nat.add_succ]
     unfold Op.equalIn
     rw [eg, x9 hu]
     simp only [Option.bind_some]
     rw [eg, Bu]
     simp only [Option.bind_some, hs, Bool.false_eq_true, if_false]
     rw [eg, ← Array.forIn_toList]
     have := Ue (P := P) (d := m + d) (fun t a b r h => Ju d t a b r h m) fs.toList r h
     rw [this]
     cases r <;> rfl
   ·rename_i len e xs ys hu _
    split at h
    ·rename_i n hn
     rw [Nat.add_succ]
     unfold Op.equalIn
     rw [eg, x9 hu]
     simp only [Option.bind_some]
     rw [eg, Ud hn]
     simp only [Option.bind_some]
     rw [eg, Std.Legacy.Range.forIn_eq_forIn_range']
     have := Uf (P := P) (d := m + d) (n := n) (fun a b r h => Ju d e a b r h m) (List.range' 0 len) r h
     simp only [Std.Legacy.Range.size, Nat.sub_zero, Nat.add_sub_cancel, Nat.div_one]
     rw [this]
     cases r <;> rfl
    ·cases h
   ·cases h
end Go.V
end
