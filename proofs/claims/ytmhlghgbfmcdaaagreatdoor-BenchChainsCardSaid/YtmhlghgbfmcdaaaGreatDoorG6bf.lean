/- Part of a proof. -/
import Derived.Test.YtmhlghgbfmcdaaaGreatDoorG6be
import Derived.Test.YtmhlghgbfmcdaaaGreatDoorG6am
set_option linter.all false
section
namespace Go.V
open Go IntKind
section
variable {P : Program} {G : Glob} {n : Nat} {Q : VExit → St → Prop} {st : St}
theorem By {l : Nat} : CWp P G n (.label l) Q st = Q .normal st := rfl
theorem Bz : VExit.noGoto Q .normal st = Q .normal st := rfl
theorem B1 : VExit.noGoto Q .ret st = Q .ret st := rfl
theorem B2 {id : Nat} : VExit.noGoto Q (.exit id) st = Q (.exit id) st := rfl
theorem t6 {x : VV} : VExit.noGoto Q (.panic x) st = Q (.panic x) st := rfl
end
end Go.V
end
section
namespace Go.V
open Go IntKind
theorem RoundStart.mono {P : Program} {G : Glob} {n β : Nat} {bo : Code} {o : Oper} {st : St} {K K' : St → Prop} (hk : ∀ s, K s → K' s) : ∀ e s, RoundStart P G n β bo o st K e s → RoundStart P G n β bo o st K' e s := by
 intro e s h
 cases e with
 | normal =>
  obtain ⟨pe, tm, ps, as, bo', df, h1, h2⟩ := h
  refine ⟨pe, tm, ps, as, bo', df, h1, h2.mono ?_⟩
  intro e s h
  cases e with
  | panic x => exact h
  | normal => obtain ⟨a, b, c, d, e, f, g, h1, h2⟩ := h; exact ⟨a, b, c, d, e, f, g, h1, hk _ h2⟩
  | ret => obtain ⟨a, b, c, d, e, f, g, h1, h2⟩ := h; exact ⟨a, b, c, d, e, f, g, h1, hk _ h2⟩
  | exit _ => obtain ⟨a, b, c, d, e, f, g, h1, h2⟩ := h; exact ⟨a, b, c, d, e, f, g, h1, hk _ h2⟩
  | goto _ => obtain ⟨a, b, c, d, e, f, g, h1, h2⟩ := h; exact ⟨a, b, c, d, e, f, g, h1, hk _ h2⟩
 | _ => exact h
theorem Ls {P : Program} {G : Glob} {f : FuncId} {args : List VV} {st : St} {dst : Option Tmp} {γ : Nat} {K K' : St → Prop} {Qp Qp' : VV → St → Prop} (hk : ∀ s, K s → K' s) (hq : ∀ x s, Qp x s → Qp' x s) (h : callK P G f args st dst γ K Qp) : callK P G f args st dst γ K' Qp' := by
 rcases h with ⟨h1, r, h2, h3⟩ | ⟨h1, r, h2, h3⟩ | h
 ·refine .inl ⟨h1, r, h2, ?_⟩
  cases r with
  | tree x => exact hk _ h3
  | own cs len es => exact hk _ h3
  | panic x => exact hq _ _ h3
 ·refine .inr (.inl ⟨h1, r, h2, ?_⟩)
  cases r with
  | tree x => exact ⟨h3.1, hk _ h3.2⟩
  | own cs len es => exact ⟨h3.1, hk _ h3.2⟩
  | panic x => exact h3
 ·exact .inr (.inr (au.mono h (fun _ _ _ h => hk _ h) (fun _ _ _ h => hq _ _ h)))
theorem t7 {P : Program} {G : Glob} {o : Oper} {γ : Nat} {st : St} {K K' : St → Prop} (hk : ∀ s, K s → K' s) (h : opK P G o γ st K) : opK P G o γ st K' := by
 unfold opK at h ⊢
 split
 ·rename_i h2; rw [h2] at h; exact hk _ h
 ·rename_i h2; rw [h2] at h; exact h
theorem O7 {P : Program} {G : Glob} {o : Oper} {β : Nat} {args : List VV} {st : St} {K K' : St → Prop} (hk : ∀ s, K s → K' s) (h : yieldK P G o β args st K) : yieldK P G o β args st K' := by
 unfold yieldK at h ⊢
 cases hβ : st.H β with
 | none => rw [hβ] at h; exact h
 | some ob =>
  rw [hβ] at h
  cases ob with
  | loop s pe tm ps as bo df => cases s <;> first | exact h | exact ⟨h.1, h.2.mono (RoundStart.mono hk)⟩
  | _ => exact h
theorem O8 {G : Glob} {o : Oper} {x : VV} {args : List VV} {st : St} {K K' : St → Prop} (hk : ∀ s, K s → K' s) (h : deferK G o x args st K) : deferK G o x args st K' := by
 unfold deferK at h ⊢
 cases x with
 | fn f a b => exact ⟨h.1, hk _ h.2⟩
 | _ => exact h
theorem B3 {P : Program} {G : Glob} {γ : Nat} {o : Oper} {st : St} {K K' : St → Prop} {Qp Qp' : VV → St → Prop} (hk : ∀ s, K s → K' s) (hq : ∀ x s, Qp x s → Qp' x s) (h : aR P G γ o st K Qp) : aR P G γ o st K' Qp' := by
 unfold aR at h ⊢
 cases hop : o.op with
 | call k =>
  simp only [hop] at h ⊢
  cases hc : k.callee with
  | value fo =>
   simp only [hc] at h ⊢
   cases hf : st.ρ G fo with
   | fn f a b =>
    simp only [hf] at h ⊢
    cases f with
    | func f => exact Ls hk hq h
    | _ => exact h
   | yl β => simp only [hf] at h ⊢; exact O7 hk h
   | _ => simp only [hf] at h
  | invoke r m =>
   simp only [hc] at h ⊢
   cases hf : recvV P m (st.ρ G r) with
   | fn f a b =>
    simp only [hf] at h ⊢
    cases f with
    | func f => exact Ls hk hq h
    | _ => exact h
   | _ => simp only [hf] at h
  | _ => simp only [hc] at h ⊢; exact t7 hk h
 | defer k =>
  simp only [hop] at h ⊢
  cases hc : k.callee with
  | value fo => simp only [hc] at h ⊢; exact O8 hk h
  | _ => simp only [hc] at h
 | panic x =>
  simp only [hop] at h ⊢
  cases hf : st.ρ G x with
  | ifc t y => simp only [hf] at h ⊢; exact hq _ _ h
  | _ => simp only [hf] at h
 | _ => simp only [hop] at h ⊢; exact t7 hk h
theorem B4 {P : Program} {G : Glob} {ops : Array Oper} {γ : Nat} {o : Oper} {st : St} {K K' : St → Prop} {Qp Qp' : VV → St → Prop} (hk : ∀ s, K s → K' s) (hq : ∀ x s, Qp x s → Qp' x s) (h : stepK P G ops γ o st K Qp) : stepK P G ops γ o st K' Qp' := by
 unfold stepK at h ⊢
 cases hw : aN ops st.tm o with
 | none => rw [hw] at h; exact h
 | some b => rw [hw] at h; exact ⟨fun hb => B3 hk hq (h.1 hb), fun hb => hk _ (h.2 hb)⟩
theorem Lt {P : Program} {G : Glob} {ops : Array Oper} {base : Nat} {Q Q' : VExit → St → Prop} (hq : ∀ e s, Q e s → Q' e s) : ∀ (l : List Oper) (i : Nat) (st : St), seqK P G ops base Q i l st → seqK P G ops base Q' i l st
 | [], _, _, h => hq _ _ h
 | _ :: l, i, _, h => B4 (Lt hq l (i + 1)) (fun x s => hq (.panic x) s) h
theorem Lu {P : Program} {G : Glob} {ops : Array Oper} {base : Nat} {Q Q' : VExit → St → Prop} (hq : ∀ e s, Q e s → Q' e s) : ∀ (l : List Oper) (i : Nat) (tr : Tr) (st : St), drawK P G ops base Q i l tr st → drawK P G ops base Q' i l tr st
 | [], _, _, _, h => ⟨h.1, hq _ _ h.2⟩
 | _ :: l, i, _, _, h => KW (fun _ _ s hs => Lu hq l (i + 1) _ s hs) h
theorem B5 {next next' : St → Prop} {Q Q' : VExit → St → Prop} (hn : ∀ s, next s → next' s) (hq : ∀ e s, Q e s → Q' e s) : ∀ e s, VExit.then next Q e s → VExit.then next' Q' e s := by
 intro e s h; cases e <;> first | exact hn _ h | exact hq _ _ h
theorem O9 {id : Nat} {Q Q' : VExit → St → Prop} (hq : ∀ e s, Q e s → Q' e s) : ∀ e s, VExit.inBlock id Q e s → VExit.inBlock id Q' e s := by
 intro e s h
 cases e with
 | exit i =>
  simp only [VExit.inBlock] at h ⊢
  split at h
  ·rename_i hi; rw [if_pos hi]; exact hq _ _ h
  ·rename_i hi; rw [if_neg hi]; exact hq _ _ h
 | _ => exact hq _ _ h
theorem B7 {P : Program} {G : Glob} {n : Nat} {Q Q' : VExit → St → Prop} (hq : ∀ e s, Q e s → Q' e s) : ∀ (pe : Option Code) (st : St), jumpK P G n Q pe st → jumpK P G n Q' pe st
 | none, _, h => hq _ _ h
 | some _, _, h => VWp.mono h hq
theorem CWp.mono {P : Program} {G : Glob} {n : Nat} : ∀ (code : Code) {Q Q' : VExit → St → Prop} (st : St), (∀ e s, Q e s → Q' e s) → CWp P G n code Q st → CWp P G n code Q' st
 | .skip, _, _, _, hq, h => hq _ _ h
 | .label _, _, _, _, hq, h => hq _ _ h
 | .exit _, _, _, _, hq, h => hq _ _ h
 | .ret, _, _, _, hq, h => hq _ _ h
 | .seq a b, _, _, st, hq, h => CWp.mono a st (B5 (fun s hs => CWp.mono b s hq hs) hq) h
 | .cond c a b, Q, Q', st, hq, h => by
  unfold CWp at h ⊢
  cases hc : st.ρ G c with
  | lit v =>
   cases v with
   | bool t => rw [hc] at h; exact ⟨fun ht => CWp.mono a st hq (h.1 ht), fun ht => CWp.mono b st hq (h.2 ht)⟩
   | _ => rw [hc] at h; exact h
  | _ => rw [hc] at h; exact h
 | .block _ a, _, _, st, hq, h => CWp.mono a st (O9 hq) h
 | .region _ ops false, _, _, _, hq, h => Lt hq _ _ _ h
 | .region _ ops true, _, _, _, hq, h => h.imp (Lu hq _ _ _ _) (fun h => VWp.mono h hq)
 | .loop _, _, _, _, hq, h => VWp.mono h hq
 | .rangeFunc g ps as bo, Q, Q', st, hq, h => by
  unfold CWp at h ⊢
  refine ⟨h.1, ?_⟩
  have h2 := h.2
  cases hg : st.ρ G g with
  | fn f a b =>
   rw [hg] at h2
   cases f with
   | func f =>
    refine au.mono h2 (fun _ H n hR => ?_) (fun _ _ _ hR => hq _ _ hR)
    obtain ⟨s, pe, tm, ps, as, bo, df, g1, g2, g3⟩ := hR
    exact ⟨s, pe, tm, ps, as, bo, df, g1, g2, B7 hq _ _ g3⟩
   | _ => exact h2
  | _ => rw [hg] at h2; exact h2
 | .scope _, _, _, _, hq, h => VWp.mono h hq
 | .goto _, _, _, _, hq, h => VWp.mono h hq
 | .refuse _, _, _, _, hq, h => VWp.mono h hq
def roundsK (P : Program) (G : Glob) (n : Nat) (x : Code) (Q : VExit → St → Prop) : Nat → St → Prop
 | 0, _ => False
 | k + 1, st => CWp P G n x (VExit.then (roundsK P G n x Q k) Q) st
theorem ak.of_openT {P : Program} {G : Glob} {f : FuncId} {args : List VV} {y : VV} (h : au P G f args (fun _ => none) 0 (fun x H _ => (outV H x).tree = true ∧ outV H x = y) (fun _ _ _ => False)) : ak P G f args (.tree y) := by
 refine ⟨h.1, fun A W vs hA hG hargs => (h.2 (PCtx A) W vs (tk hA) rfl (fun β hb => hb.elim) hG hargs).mono ?_⟩
 rintro e W' ⟨c', H', nx', hext, hs', hH', hu, hu', hle, hres⟩
 have hbelow := tl hext
 have hge : ∀ β, c'.live β → W.heap.size ≤ c'.φ β := by
  intro β hl
  rcases Nat.lt_or_ge (c'.φ β) W.heap.size with h | h
  ·obtain ⟨γ, hγ, _⟩ := hext.old β hl h
   simp [PCtx, Ctx.live] at hγ
  ·exact h
 have hold : ∀ b, c'.A b → A b ∨ W.heap.size ≤ b := by
  intro b hb
  rcases hext.newA b hb with h | h | ⟨β, h, _⟩
  ·exact .inl h
  ·exact .inr h
  ·simp [PCtx, Ctx.live] at h
 have held : ∀ {H0 : Nat → Option VObj}, ar H0 c'.H → ∀ b, heldIn c' H0 b → A b ∨ W.heap.size ≤ b := by
  intro H0 hsub b hb
  rcases hb with h | ⟨β, h, e⟩
  ·exact hold b h
  ·exact .inr (e ▸ hge β (hsub.live h))
 have heldlt : ∀ {H0 : Nat → Option VObj}, ar H0 c'.H → ∀ b, heldIn c' H0 b → b < W'.heap.size := by
  intro H0 hsub b hb
  rcases hb with h | ⟨β, h, e⟩
  ·exact hs'.ltA b h
  ·exact e ▸ hs'.lt β (hsub.live h)
 rcases hres with ⟨x, v, rfl, hrv, ht, rfl⟩ | ⟨x, v, rfl, hv, hF⟩
 ·subst hH'
  refine ⟨heldIn c' c'.H, fun b hb => .inl (hext.A b hb), held (ar.refl _), heldlt (ar.refl _), hbelow, v, rfl, ?_⟩
  have ht' : (showV c'.H 5 x).tree = true := B8 _ ht
  exact t5 _ (oV hs' 5 x v ht' hrv)
 ·exact hF.elim
theorem ak.of_openP {P : Program} {G : Glob} {f : FuncId} {args : List VV} {y : VV} (h : au P G f args (fun _ => none) 0 (fun _ _ _ => False) (fun x H _ => (outV H x).tree = true ∧ outV H x = y)) : ak P G f args (.panic y) := by
 refine ⟨h.1, fun A W vs hA hG hargs => (h.2 (PCtx A) W vs (tk hA) rfl (fun β hb => hb.elim) hG hargs).mono ?_⟩
 rintro e W' ⟨c', H', nx', hext, hs', hH', hu, hu', hle, hres⟩
 have hbelow := tl hext
 have hge : ∀ β, c'.live β → W.heap.size ≤ c'.φ β := by
  intro β hl
  rcases Nat.lt_or_ge (c'.φ β) W.heap.size with h | h
  ·obtain ⟨γ, hγ, _⟩ := hext.old β hl h
   simp [PCtx, Ctx.live] at hγ
  ·exact h
 have hold : ∀ b, c'.A b → A b ∨ W.heap.size ≤ b := by
  intro b hb
  rcases hext.newA b hb with h | h | ⟨β, h, _⟩
  ·exact .inl h
  ·exact .inr h
  ·simp [PCtx, Ctx.live] at h
 have held : ∀ {H0 : Nat → Option VObj}, ar H0 c'.H → ∀ b, heldIn c' H0 b → A b ∨ W.heap.size ≤ b := by
  intro H0 hsub b hb
  rcases hb with h | ⟨β, h, e⟩
  ·exact hold b h
  ·exact .inr (e ▸ hge β (hsub.live h))
 have heldlt : ∀ {H0 : Nat → Option VObj}, ar H0 c'.H → ∀ b, heldIn c' H0 b → b < W'.heap.size := by
  intro H0 hsub b hb
  rcases hb with h | ⟨β, h, e⟩
  ·exact hs'.ltA b h
  ·exact e ▸ hs'.lt β (hsub.live h)
 rcases hres with ⟨x, v, rfl, hrv, hF⟩ | ⟨x, v, rfl, hv, ht, rfl⟩
 ·exact hF.elim
 ·subst hH'
  refine ⟨heldIn c' c'.H, fun b hb => .inl (hext.A b hb), held (ar.refl _), heldlt (ar.refl _), hbelow, v, rfl, ?_⟩
  have ht' : (showV c'.H 5 x).tree = true := B8 _ ht
  exact t5 _ (oV hs' 5 x v ht' hv)
end Go.V
end
section
namespace Go.V
open Go IntKind
section
variable {P : Program} {G : Glob} {n : Nat} {γ : Nat} {tm : Nat → VV} {H : Nat → Option VObj} {nx : Nat} {df : List VDef} {K : St → Prop} {Kd : List Nat → List Nat → St → Prop} {Qp : VV → St → Prop} {Q : VExit → St → Prop}
 {d : Option Tmp} {ty : TypeId} {pos : String} {af : Array Edge} {g : Option (Nat × Bool)}
theorem OA {f : Fn} {a b : Array Operand} : aR P G γ ⟨d, .makeFunc f a b, ty, pos, af, g⟩ ⟨tm, H, nx, df⟩ K Qp = fin d γ tm H nx df K (.fn f (a.toList.map (ev G tm)) (b.toList.map (ev G tm))) .none := by
 rw [fv (by simp) (by simp) (by simp)]; rfl
def cvalK (P : Program) (G : Glob) (o : Oper) (x : VV) (args : List VV) (st : St) (d : Option Tmp) (γ : Nat) (K : St → Prop) (Qp : VV → St → Prop) : Prop := match x with
 | .fn (.func f) first captured => callK P G f (first ++ args ++ captured) st d γ K Qp
 | .yl β => yieldK P G o β args st K
 | _ => False
theorem BA {t : Tmp} {as : Array Operand} {ats : Array TypeId} : aR P G γ ⟨d, .call ⟨.value (.tmp t), as, ats⟩, ty, pos, af, g⟩ ⟨tm, H, nx, df⟩ K Qp = cvalK P G ⟨d, .call ⟨.value (.tmp t), as, ats⟩, ty, pos, af, g⟩ (tm t) (as.toList.map (ev G tm)) ⟨tm, H, nx, df⟩ d γ K Qp := by
 simp only [aR, ev_eq, cvalK]
 rfl
theorem BC {o : Oper} {f : FuncId} {first captured args : List VV} {st : St} : cvalK P G o (.fn (.func f) first captured) args st d γ K Qp = callK P G f (first ++ args ++ captured) st d γ K Qp := rfl
theorem Ar {o : Oper} {β : Nat} {args : List VV} {st : St} : cvalK P G o (.yl β) args st d γ K Qp = yieldK P G o β args st K := rfl
def panK (x : VV) (k : VV → Prop) : Prop := match x with | .ifc t y => k (.ifc t y) | _ => False
theorem BD {x : Operand} : aR P G γ ⟨d, .panic x, ty, pos, af, g⟩ ⟨tm, H, nx, df⟩ K Qp = panK (ev G tm x) (fun y => Qp y ⟨tm, H, nx, df⟩) := by
 simp only [aR, ev_eq, panK]
 cases ev G tm x <;> rfl
theorem BE {t : TypeId} {y : VV} {k : VV → Prop} : panK (.ifc t y) k = k (.ifc t y) := rfl
def dfrK (G : Glob) (x : VV) (args : List VV) (tm : Nat → VV) (H : Nat → Option VObj) (nx : Nat) (df : List VDef) (d : Option Tmp) (γ : Nat) (K : St → Prop) : Prop := match x with
 | .fn f first captured => G.rg = some none ∧ fin d γ tm H nx (.fn f captured (first ++ args) :: df) K (.lit undef) .none
 | _ => False
theorem BF {t : Tmp} {as : Array Operand} {ats : Array TypeId} : aR P G γ ⟨d, .defer ⟨.value (.tmp t), as, ats⟩, ty, pos, af, g⟩ ⟨tm, H, nx, df⟩ K Qp = dfrK G (tm t) (as.toList.map (ev G tm)) tm H nx df d γ K := by
 simp only [aR, ev_eq, dfrK, deferK]
 show (match tm t with | .fn f first captured => _ | _ => False) = _
 cases tm t with
 | fn f a b => cases d <;> rfl
 | _ => rfl
theorem BG {f : Fn} {a b args : List VV} : dfrK (Glob.at G (some none)) (.fn f a b) args tm H nx df none γ K = K ⟨tm, H, nx, .fn f b (a ++ args) :: df⟩ := by
 exact propext ⟨fun h => h.2, fun h => ⟨rfl, h⟩⟩
def mkIfcV (P : Program) (t : TypeId) (x : VV) : Option VV := match P.underlying t with | some (.interface _) => none | some _ => some (.ifc t x) | none => none
theorem OB {t : TypeId} {x : Operand} : aR P G γ ⟨d, .makeInterface t x, ty, pos, af, g⟩ ⟨tm, H, nx, df⟩ K Qp = oK (mkIfcV P t (ev G tm x)) (fun x => fin d γ tm H nx df K x .none) := by
 rw [fv (by simp) (by simp) (by simp)]; simp only [vop, mkIfcV]
 cases P.underlying t with
 | none => rfl
 | some x => cases x <;> rfl
theorem OC {x : Operand} {t a : TypeId} {ok : Bool} : aR P G γ ⟨d, .typeAssert x t a ok, ty, pos, af, g⟩ ⟨tm, H, nx, df⟩ K Qp = oK (vtypeAssert P (ev G tm x) a ok) (fun x => fin d γ tm H nx df K x .none) := by
 rw [fv (by simp) (by simp) (by simp)]; simp only [vop]; exact lE
def minV (x y : VV) : Option VV := match x.val?, y.val? with
 | some (.int k a), some (.int _ b) => some (.lit (.int k (if b < a then b else a)))
 | _, _ => none
def maxV (x y : VV) : Option VV := match x.val?, y.val? with
 | some (.int k a), some (.int _ b) => some (.lit (.int k (if a < b then b else a)))
 | _, _ => none
theorem BI {x y : Operand} {ats : Array TypeId} : aR P G γ ⟨d, .call ⟨.builtin .min, #[x, y], ats⟩, ty, pos, af, g⟩ ⟨tm, H, nx, df⟩ K Qp = oK (minV (ev G tm x) (ev G tm y)) (fun x => fin d γ tm H nx df K x .none) := by
 rw [xk]
 simp only [vbuiltin, minV]
 split <;> simp_all [oeK, oK]
theorem BJ {x y : Operand} {ats : Array TypeId} : aR P G γ ⟨d, .call ⟨.builtin .max, #[x, y], ats⟩, ty, pos, af, g⟩ ⟨tm, H, nx, df⟩ K Qp = oK (maxV (ev G tm x) (ev G tm y)) (fun x => fin d γ tm H nx df K x .none) := by
 rw [xk]
 simp only [vbuiltin, maxV]
 split <;> simp_all [oeK, oK]
theorem BK {k k' : IntKind} {a b : Int} : minV (.lit (.int k a)) (.lit (.int k' b)) = some (.lit (.int k (if b < a then b else a))) := by simp [minV, VV.val?]
theorem BL {k k' : IntKind} {a b : Int} : maxV (.lit (.int k a)) (.lit (.int k' b)) = some (.lit (.int k (if a < b then b else a))) := by simp [maxV, VV.val?]
theorem BM {f : Fn} {a b : List VV} : (VV.fn f a b).leaf = true := rfl
theorem BN {β o : Nat} : (VV.ptr β o).leaf = true := rfl
theorem BO {f : Fn} {a b : List VV} : aY (.fn f a b) = some [.fn f a b] := rfl
theorem BP {β o : Nat} : aY (.ptr β o) = some [.ptr β o] := rfl
end
end Go.V
end
section
namespace Go.V
open Go IntKind
def quietO (o : Oper) : Bool := match o.op with
 | .call _ => false
 | .defer _ => false
 | .panic _ => false
 | _ => true
theorem BQ {P : Program} {G : Glob} {ops : Array Oper} {base : Nat} {Q : VExit → St → Prop} {K : St → Prop} (hk : ∀ s, Q .normal s → K s) : ∀ (l : List Oper) (i : Nat) (st : St), (∀ k, l[k]? = ops[i + k]?) → l.all quietO = true →
  seqK P G ops base Q i l st → VOps P G ops base K (List.range' i l.length) st
 | [], _, _, _, _, h => hk _ h
 | o :: l, i, st, hl, hq, h => by
  have ho : ops[i]? = some o := by have := hl 0; simpa using this.symm
  simp only [List.all_cons, Bool.and_eq_true] at hq
  have hl' : ∀ k, l[k]? = ops[i + 1 + k]? := fun k => by have := hl (k + 1); simp at this; rw [this]; congr 1; omega
  have h0 : stepK P G ops (base + i) o st (seqK P G ops base Q (i + 1) l) (fun x st' => Q (.panic x) st') := h
  refine ⟨o, ho, ?_⟩
  unfold stepK at h0
  cases hw : aN ops st.tm o with
  | none => rw [hw] at h0; exact h0.elim
  | some b =>
   rw [hw] at h0
   cases b with
   | false => exact .inl ⟨rfl, BQ hk l (i + 1) _ hl' hq.2 (h0.2 rfl)⟩
   | true =>
    refine .inr ⟨rfl, ?_⟩
    have h1 := h0.1 rfl
    have h2 : opK P G o (base + i) st (seqK P G ops base Q (i + 1) l) := by
     unfold aR at h1
     cases hop : o.op with
     | call k => simp [quietO, hop] at hq
     | defer k => simp [quietO, hop] at hq
     | panic k => simp [quietO, hop] at hq
     | _ => simp only [hop] at h1; exact h1
    unfold opK at h2
    split at h2
    ·rename_i x eff hv
     exact ⟨x, eff, hv, BQ hk l (i + 1) _ hl' hq.2 h2⟩
    ·exact h2.elim
def DPostU (P : Program) (fn : Func) (R : VMode → (Nat → Option VObj) → Nat → Prop) (u : VMode) : VExit → St → Prop := fun e s => DPost P fn R e u s
def DMid (P : Program) (G : Glob) (fn : Func) (rest : Code) (R : VMode → (Nat → Option VObj) → Nat → Prop) (u : VMode) : VExit → St → Prop
 | .normal, s => CWp P G fn.ntmps rest (DPostU P fn R u) s
 | _, _ => False
theorem VDeferred.run {P : Program} {G : Glob} (hm : P.follows .mixedOrders = true) {f : FuncId} {fn : Func} {id d : Nat} {as : Array Operand} {ats : Array TypeId} {ty : TypeId} {pos : String} {af : Array Edge} {l : List Oper} {rest : Code} {args : List VV} {H : Nat → Option VObj} {nx : Nat} {u : VMode} {R : VMode → (Nat → Option VObj) → Nat → Prop}
  (hc : Callable P f) (hf : P.funcs[f]? = some fn) (hb : fn.body = some (.seq (.region id ⟨⟨some d, .call ⟨.builtin .recover, as, ats⟩, ty, pos, af, none⟩ :: l⟩ false) rest))
  (hst : (decide (args.length ≤ fn.ntmps) && (aX fn.ntmps ⟨⟨some d, .call ⟨.builtin .recover, as, ats⟩, ty, pos, af, none⟩ :: l⟩ && (l.all quietO && codeOk fn.ntmps rest))) = true)
  (h : seqK P (G.at (some none)) ⟨⟨some d, .call ⟨.builtin .recover, as, ats⟩, ty, pos, af, none⟩ :: l⟩ nx (DMid P (G.at (some none)) fn rest R (recoverV u).2) 1 l ⟨upd (argsTm args) d (recoverV u).1, H, nx + (l.length + 1), []⟩) : VDeferred P G f args H nx u R := by
 simp only [Bool.and_eq_true, decide_eq_true_eq] at hst
 obtain ⟨h1, h2, h3, h4⟩ := hst
 refine VDeferred.of_body hc hf hb h1 (VWpS.seq (VWpS.recover h2 rfl rfl rfl ?_))
 refine BQ ?_ l 1 _ (fun k => by simp [Nat.add_comm]) h3 h
 intro s hs
 exact VWpS.of rfl (kG (G := G.at (some none)) hm rest _ s h4 hs)
def RR (r : PRes) (x : VV) (H : Nat → Option VObj) (_ : Nat) : Prop := ∃ y, r = .tree y ∧ (outV H x).tree = true ∧ outV H x = y
def RPn (r : PRes) (x : VV) (H : Nat → Option VObj) (_ : Nat) : Prop := ∃ y, r = .panic y ∧ (outV H x).tree = true ∧ outV H x = y
theorem ak.of_openR {P : Program} {G : Glob} {f : FuncId} {args : List VV} {r : PRes} (h : au P G f args (fun _ => none) 0 (RR r) (RPn r)) : ak P G f args r := by
 cases r with
 | tree y =>
  refine ak.of_openT (au.mono h ?_ ?_)
  ·rintro x H n ⟨y', e, h1, h2⟩; cases e; exact ⟨h1, h2⟩
  ·rintro x H n ⟨y', e, h1, h2⟩; cases e
 | own cs len es =>
  refine ak.of_open (au.mono h ?_ ?_)
  ·rintro x H n ⟨y', e, h1, h2⟩; cases e
  ·rintro x H n ⟨y', e, h1, h2⟩; cases e
 | panic y =>
  refine ak.of_openP (au.mono h ?_ ?_)
  ·rintro x H n ⟨y', e, h1, h2⟩; cases e
  ·rintro x H n ⟨y', e, h1, h2⟩; cases e; exact ⟨h1, h2⟩
theorem ak.runR {P : Program} {G : Glob} (hm : P.follows .mixedOrders = true) {f : FuncId} {fn : Func} {code : Code} {args : List VV} {r : PRes} (hc : Callable P f) (hf : P.funcs[f]? = some fn) (hb : fn.body = some code)
  (hst : (decide (args.length ≤ fn.ntmps) && codeOk fn.ntmps code) = true) (h : CWp P (G.at (some none)) fn.ntmps code (OpenPostD P G fn (RR r) (RPn r)) { tm := argsTm args, H := fun _ => none, nx := 0, df := [] }) : ak P G f args r :=
 ak.of_openR (au.run hm hc hf hb hst h)
section
variable {P : Program} {G : Glob} {fn : Func} {tm : Nat → VV} {H : Nat → Option VObj} {nx : Nat} {R Rp : VV → (Nat → Option VObj) → Nat → Prop} {x y : VV} {F : FuncId} {cap args : List VV}
theorem ct (hx : resV P ⟨tm, H, nx, []⟩ fn.results.toList = some x) (h : R x H nx) : OpenPostD P G fn R Rp .ret ⟨tm, H, nx, []⟩ := ⟨x, hx, h⟩
theorem BR (hx : resV P ⟨tm, H, nx, []⟩ fn.results.toList = some x) (h : R x H nx) : OpenPostD P G fn R Rp .normal ⟨tm, H, nx, []⟩ := ⟨x, hx, h⟩
theorem Lv (h : Rp x H nx) : OpenPostD P G fn R Rp (.panic x) ⟨tm, H, nx, []⟩ := h
def AfterD (P : Program) (fn : Func) (tm : Nat → VV) (R Rp : VV → (Nat → Option VObj) → Nat → Prop) (u : VMode) (H : Nat → Option VObj) (nx : Nat) : Prop := match settleV u with
 | .ret => ∃ x, resV P ⟨tm, H, nx, []⟩ fn.results.toList = some x ∧ R x H nx
 | .pan x false => Rp x H nx
 | .pan _ true => False
theorem BS {u : VMode} {df : List VDef} {H0 : Nat → Option VObj} {c8 : Nat} (h : AfterD P fn tm R Rp u H nx) : leavesK P G (finK P fn ⟨tm, H0, c8, df⟩ R Rp) [] (settleV u) H nx := by
 unfold AfterD at h
 cases hu : settleV u with
 | ret => rw [hu] at h; exact h
 | pan x b => rw [hu] at h; cases b <;> exact h
theorem BT (h : VDeferred P G F (args ++ cap) H nx (.pan x false) (AfterD P fn tm R Rp)) : OpenPostD P G fn R Rp (.panic x) ⟨tm, H, nx, [.fn (.func F) cap args]⟩ :=
 ⟨h.1, fun c W vs u0 a1 a2 a3 a4 a5 a6 => (h.2 c W vs u0 a1 a2 a3 a4 a5 a6).mono fun e u0' W' ⟨v, c', H', nx', u', b1, b2, b3, b4, b5, b6, b7, b8, b9⟩ => ⟨v, c', H', nx', u', b1, b2, b3, b4, b5, b6, b7, b8, BS b9⟩⟩
theorem BU (hx : resV P ⟨tm, H, nx, []⟩ fn.results.toList = some x) (h : R x H nx) : AfterD P fn tm R Rp (.pan y true) H nx := ⟨x, hx, h⟩
theorem OD {RD : VMode → (Nat → Option VObj) → Nat → Prop} {u : VMode} (hr : fn.results = #[]) (h : RD u H nx) : DPostU P fn RD u .normal ⟨tm, H, nx, []⟩ := ⟨rfl, ⟨.tup [], by simp [hr, resV, resL]⟩, h⟩
theorem OE {rest : Code} {RD : VMode → (Nat → Option VObj) → Nat → Prop} {u : VMode} {st : St} : DMid P G fn rest RD u .normal st = CWp P G fn.ntmps rest (DPostU P fn RD u) st := rfl
theorem fB (ht : y.tree = true) (h : outV H x = y) : RR (.tree y) x H nx := ⟨y, rfl, by rw [h]; exact ht, h⟩
end
theorem BV : recoverV .ret = (.lit .nilIface, .ret) := rfl
theorem BW {x : VV} : recoverV (.pan x false) = (x, .pan x true) := rfl
end Go.V
namespace Go.V
open Go IntKind
def MidQ (P : Program) (G : Glob) (ops : Array Oper) (base k : Nat) (o : Oper) (l2 : List Oper) (Q : VExit → St → Prop) : VExit → St → Prop
 | .normal, st => stepK P G ops (base + k) o st (fun s => drawK P G ops base Q (k + 1) l2 [] s) (fun x s => Q (.panic x) s)
 | _, _ => False
theorem BX {P : Program} {G : Glob} {ops : Array Oper} {base k : Nat} {o : Oper} {l2 : List Oper} {Q : VExit → St → Prop} {st : St} : MidQ P G ops base k o l2 Q .normal st = stepK P G ops (base + k) o st (fun s => drawK P G ops base Q (k + 1) l2 [] s) (fun x s => Q (.panic x) s) := rfl
end Go.V
end
section
namespace Go.V
open Go IntKind
def sumB {R E X : Type} (x : R ⊕ E) (f : R → Option X) (g : E → Option X) : Option X := match x with
 | .inl a => f a
 | .inr e => g e
theorem BY {R E X : Type} {a : R} {f : R → Option X} {g : E → Option X} : sumB (.inl a) f g = f a := rfl
theorem BZ {R E X : Type} {e : E} {f : R → Option X} {g : E → Option X} : sumB (.inr e) f g = g e := rfl
section
variable {A1 A2 A3 A4 A5 A6 A7 A8 A9 T1 T2 T3 X : Type}
theorem call7 {f : A1 → A2 → A3 → A4 → A5 → A6 → A7 → X} {a1 : A1} {a2 : A2} {a3 : A3} {a4 : A4} {a5 : A5} {a6 : A6} {a7 : A7} {K : X → Prop} (h : K (f a1 a2 a3 a4 a5 a6 a7)) : ∃ f', f' = f ∧ K (f' a1 a2 a3 a4 a5 a6 a7) := ⟨f, rfl, h⟩
end
theorem kH {a m b : Nat} (h : a + m ≤ b) : (∀ i j, i < m → (a + i = b + j) = False ∧ (b + j = a + i) = False) ∧ (∀ i, i < m → (a + i = b) = False ∧ (b = a + i) = False) ∧ (0 < m → (∀ j, (a = b + j) = False ∧ (b + j = a) = False) ∧ (a = b) = False ∧ (b = a) = False) :=
 ⟨fun i j hi => ⟨by simp; omega, by simp; omega⟩, fun i hi => ⟨by simp; omega, by simp; omega⟩, fun hm => ⟨fun j => ⟨by simp; omega, by simp; omega⟩, by simp; omega, by simp; omega⟩⟩
theorem fw {m b : Nat} (h : m ≤ b) : (∀ i j, i < m → (i = b + j) = False ∧ (b + j = i) = False) ∧ (∀ i, i < m → (i = b) = False ∧ (b = i) = False) :=
 ⟨fun i j hi => ⟨by simp; omega, by simp; omega⟩, fun i hi => ⟨by simp; omega, by simp; omega⟩⟩
theorem fZ {β nx : Nat} (h : β < nx) : (β = nx) = False ∧ (nx = β) = False ∧ (∀ c, (β = nx + c) = False) ∧ ∀ c, (nx + c = β) = False :=
 ⟨by simp; omega, by simp; omega, fun c => by simp; omega, fun c => by simp; omega⟩
theorem ne_f {a b : Nat} (h : a ≠ b) : (a = b) = False ∧ (b = a) = False := ⟨by simp [h], by simp; exact fun e => h e.symm⟩
section
variable {P : Program} {G : Glob} {n : Nat} {γ : Nat} {tm : Nat → VV} {H : Nat → Option VObj} {nx : Nat} {df : List VDef} {K : St → Prop} {Kd : List Nat → List Nat → St → Prop} {Qp : VV → St → Prop} {Q : VExit → St → Prop}
 {d : Option Tmp} {ty : TypeId} {pos : String} {af : Array Edge} {g : Option (Nat × Bool)} {x : Code} {st : St}
theorem OF : roundsK P G n x Q 1 st = CWp P G n x (VExit.then (roundsK P G n x Q 0) Q) st := rfl
theorem OG : roundsK P G n x Q 2 st = CWp P G n x (VExit.then (roundsK P G n x Q 1) Q) st := rfl
theorem OH : roundsK P G n x Q 3 st = CWp P G n x (VExit.then (roundsK P G n x Q 2) Q) st := rfl
theorem OI : roundsK P G n x Q 4 st = CWp P G n x (VExit.then (roundsK P G n x Q 3) Q) st := rfl
theorem OJ : roundsK P G n x Q 5 st = CWp P G n x (VExit.then (roundsK P G n x Q 4) Q) st := rfl
theorem OK : roundsK P G n x Q 6 st = CWp P G n x (VExit.then (roundsK P G n x Q 5) Q) st := rfl
theorem OL : roundsK P G n x Q 7 st = CWp P G n x (VExit.then (roundsK P G n x Q 6) Q) st := rfl
@[congr] theorem OM {k : Nat} {st st' : St} (h : st = st') : roundsK P G n x Q k st = roundsK P G n x Q k st' := by rw [h]
section
variable {i : Nat} {a : Oper} {l : List Oper}
theorem Ca : (a :: l).take (i + 1) = a :: l.take i := rfl
theorem Cb : l.take 0 = [] := by simp
theorem Cc : (a :: l).drop (i + 1) = l.drop i := rfl
theorem Cd : l.drop 0 = l := by simp
end
theorem ON {f : Fn} {a b : Array Operand} : aJ P G γ ⟨d, .makeFunc f a b, ty, pos, af, g⟩ ⟨tm, H, nx, df⟩ Kd = fin d γ tm H nx df (Kd (rdV ⟨d, .makeFunc f a b, ty, pos, af, g⟩ (ev G tm)) []) (.fn f (a.toList.map (ev G tm)) (b.toList.map (ev G tm))) .none := by
 rw [f8 (by simp)]; rfl
theorem OO {t : TypeId} {x : Operand} : aJ P G γ ⟨d, .makeInterface t x, ty, pos, af, g⟩ ⟨tm, H, nx, df⟩ Kd = oK (mkIfcV P t (ev G tm x)) (fun y => fin d γ tm H nx df (Kd (rdV ⟨d, .makeInterface t x, ty, pos, af, g⟩ (ev G tm)) []) y .none) := by
 rw [f8 (by simp)]; simp only [vop, mkIfcV]
 cases P.underlying t with
 | none => rfl
 | some x => cases x <;> rfl
theorem Lw {b : Builtin} {as : Array Operand} {ats : Array TypeId} : aJ P G γ ⟨d, .call ⟨.builtin b, as, ats⟩, ty, pos, af, g⟩ ⟨tm, H, nx, df⟩ Kd = oeK (vbuiltin P ⟨.builtin b, as, ats⟩ (ev G tm) H γ) (fun x e => fin d γ tm H nx df (Kd (rdV ⟨d, .call ⟨.builtin b, as, ats⟩, ty, pos, af, g⟩ (ev G tm)) (e.wr γ)) x e) := by
 unfold aJ
 simp only [vop, ev_eq, oeK, ← dT]
 rfl
theorem Ce {x y : Operand} {ats : Array TypeId} : aJ P G γ ⟨d, .call ⟨.builtin .min, #[x, y], ats⟩, ty, pos, af, g⟩ ⟨tm, H, nx, df⟩ Kd = oK (minV (ev G tm x) (ev G tm y)) (fun z => fin d γ tm H nx df (Kd (rdV ⟨d, .call ⟨.builtin .min, #[x, y], ats⟩, ty, pos, af, g⟩ (ev G tm)) []) z .none) := by
 rw [Lw]
 simp only [vbuiltin, minV]
 split <;> simp_all [oeK, oK, VEff.wr]
theorem Cf {x y : Operand} {ats : Array TypeId} : aJ P G γ ⟨d, .call ⟨.builtin .max, #[x, y], ats⟩, ty, pos, af, g⟩ ⟨tm, H, nx, df⟩ Kd = oK (maxV (ev G tm x) (ev G tm y)) (fun z => fin d γ tm H nx df (Kd (rdV ⟨d, .call ⟨.builtin .max, #[x, y], ats⟩, ty, pos, af, g⟩ (ev G tm)) []) z .none) := by
 rw [Lw]
 simp only [vbuiltin, maxV]
 split <;> simp_all [oeK, oK, VEff.wr]
end
end Go.V
namespace Go.V
open Go IntKind
section
variable {P : Program} {G : Glob} {γ : Nat} {tm : Nat → VV} {H : Nat → Option VObj} {nx : Nat} {df : List VDef} {Kd : List Nat → List Nat → St → Prop} {d : Option Tmp} {ty : TypeId} {pos : String} {af : Array Edge} {g : Option (Nat × Bool)}
def dvalK (P : Program) (G : Glob) (x : VV) (args : List VV) (tm : Nat → VV) (H : Nat → Option VObj) (nx : Nat) (df : List VDef) (d : Option Tmp) (γ : Nat) (K : List Nat → List Nat → St → Prop) : Prop := match x with
 | .fn (.func f) first captured => dcallK P G f (first ++ args ++ captured) tm H nx df d γ K
 | _ => False
theorem OP {t : Tmp} {as : Array Operand} {ats : Array TypeId} : aJ P G γ ⟨d, .call ⟨.value (.tmp t), as, ats⟩, ty, pos, af, g⟩ ⟨tm, H, nx, df⟩ Kd = dvalK P G (tm t) (as.toList.map (ev G tm)) tm H nx df d γ Kd := by
 have e : ev G tm (.tmp t) = tm t := rfl
 simp only [aJ, ev_eq, e, dvalK]
 cases tm t with
 | fn f first captured =>
  cases f with
  | func f =>
   simp only [dcallK]
   refine propext (or_congr (and_congr_right fun _ => exists_congr fun r => and_congr_right fun _ => ?_) (or_congr (exists_congr fun a => exists_congr fun x => and_congr_right fun _ => and_congr_right fun _ => and_congr_right fun _ => ?_) (or_congr (exists_congr fun β => exists_congr fun es' => exists_congr fun x => and_congr_right fun _ => ?_) (exists_congr fun cs => and_congr_right fun _ => and_congr_right fun _ => ?_))))
   ·cases r with
    | tree x =>
     simp only
     rw [← fY _ _ _ γ]
     exact iff_of_eq (dT (K := Kd [] []))
    | own cs len es => exact iff_of_eq (dT (K := Kd [] [γ]))
    | panic x => rfl
   ·rw [← fY _ _ _ γ]
    exact iff_of_eq (dT (K := Kd (nmL H fuelS (first ++ as.toList.map (ev G tm) ++ captured)) []))
   ·exact iff_of_eq (dT (K := Kd [β] [β]))
   ·exact iff_of_eq (dT (K := Kd [] [γ]))
  | _ => rfl
 | _ => rfl
theorem Cg {f : FuncId} {first captured args : List VV} : dvalK P G (.fn (.func f) first captured) args tm H nx df d γ Kd = dcallK P G f (first ++ args ++ captured) tm H nx df d γ Kd := rfl
end
end Go.V
namespace Go.V
open Go IntKind
section
variable {P : Program} {G : Glob} {n : Nat} {tm : Nat → VV} {H : Nat → Option VObj} {nx : Nat} {df : List VDef} {Q : VExit → St → Prop} {code : Code}
theorem t8 (F : (Nat → VV) → Prop) (hF : F tm) (h : ∀ tm', F tm' → CWp P G n code Q ⟨tm', H, nx, df⟩) : CWp P G n code Q ⟨tm, H, nx, df⟩ := h _ hF
end
theorem OQ : IntKind.i64.wrap 0 = 0 := by decide
theorem OR : IntKind.i64.wrap 1 = 1 := by decide
theorem OS : IntKind.i64.wrap 2 = 2 := by decide
theorem OT : IntKind.i64.wrap 3 = 3 := by decide
theorem OU : IntKind.i64.wrap 4 = 4 := by decide
theorem OV : IntKind.i64.wrap 5 = 5 := by decide
theorem OW : IntKind.i64.wrap 6 = 6 := by decide
set_option linter.defProp false
def placeT (P : Program) (t : TypeId) (i : Nat) : Option (Nat × Nat) := match P.underlying t with
 | some (.struct fields) => placeS P fields i
 | some (.array _ e) => (szT P e).map fun n => (i * n, n)
 | _ => none
def buildOk (P : Program) (t : TypeId) : Bool := match P.underlying t with
 | some (.struct fields) => fields.all fun f => (szT P f.type).isSome
 | some (.array _ e) => (szT P e).isSome
 | _ => false
theorem rC {P : Program} {t : TypeId} {z : List VV} {parts : List (Nat × VV)} (hz : vzl P t = some z) (hok : buildOk P t = true) : vbuild P t parts = (vfill (placeT P t) z parts).map .agg := by
 unfold vzl at hz
 cases hv : vzero P t with
 | none => rw [hv] at hz; cases hz
 | some z0 =>
  rw [hv] at hz
  simp only [Option.map_some, Option.some.injEq] at hz
  subst hz
  unfold vbuild buildOk at *
  simp only [hv]
  cases hu : P.underlying t with
  | none => rw [hu] at hok; cases hok
  | some d =>
   rw [hu] at hok
   cases d with
   | struct fields =>
    have e : placeT P t = placeS P fields := by funext i; simp [placeT, hu]
    simp only [e]
    rw [if_pos hok]
   | array n e =>
    simp only at hok ⊢
    cases he : szT P e with
    | none => rw [he] at hok; cases hok
    | some w =>
     have e2 : placeT P t = fun i => some (i * w, w) := by funext i; simp [placeT, hu, he]
     simp only [e2]
   | _ => cases hok
theorem OX {P : Program} {G : Glob} {γ : Nat} {tm : Nat → VV} {H : Nat → Option VObj} {nx : Nat} {df : List VDef} {Kd : List Nat → List Nat → St → Prop} {d : Option Tmp} {ty : TypeId} {pos : String} {af : Array Edge} {g : Option (Nat × Bool)} {t : TypeId} {a x : Operand} :
  aJ P G γ ⟨d, .store t a x, ty, pos, af, g⟩ ⟨tm, H, nx, df⟩ Kd = oeK (vstoreV P H t (ev G tm a) (ev G tm x)) (fun y e => fin d γ tm H nx df (Kd (rdV ⟨d, .store t a x, ty, pos, af, g⟩ (ev G tm)) (e.wr γ)) y e) := by
 rw [f8 (by simp)]; rfl
theorem Ch {β γ : Nat} {o : VObj} : (VEff.upd β o).wr γ = [β] := rfl
theorem Ci {γ : Nat} {o : VObj} : (VEff.new o).wr γ = [γ] := rfl
theorem Cj {γ : Nat} : VEff.none.wr γ = [] := rfl
@[reducible] def presB {R E : Type} (x : R ⊕ E) (f : R → PRes) (g : E → PRes) : PRes := match x with
 | .inl a => f a
 | .inr e => g e
section
variable {G : Glob} {tm : Nat → VV} {d : Option Tmp} {ty : TypeId} {pos : String} {af : Array Edge} {g : Option (Nat × Bool)}
def tnL (v : VV) (l : List Nat) : List Nat := match topName v with
 | some β => β :: l
 | none => l
def rdL (ρ : Operand → VV) : List Operand → List Nat
 | [] => []
 | x :: xs => tnL (ρ x) (rdL ρ xs)
theorem fA {ρ : Operand → VV} : ∀ l : List Operand, l.filterMap (fun y => topName (ρ y)) = rdL ρ l
 | [] => rfl
 | x :: xs => by
  rw [List.filterMap_cons, fA xs]
  simp only [rdL, tnL]
  cases topName (ρ x) <;> rfl
theorem Ck {ρ : Operand → VV} : rdL ρ [] = [] := rfl
theorem Cl {ρ : Operand → VV} {x : Operand} {xs : List Operand} : rdL ρ (x :: xs) = tnL (ρ x) (rdL ρ xs) := rfl
theorem Cm {v : Value} {l : List Nat} : tnL (.lit v) l = l := rfl
theorem Cn {β o : Nat} {l : List Nat} : tnL (.ptr β o) l = β :: l := rfl
theorem Co {β o n w c : Nat} {l : List Nat} : tnL (.ref β o n w c) l = β :: l := rfl
theorem Cp {cs : List VV} {l : List Nat} : tnL (.tp cs) l = l := rfl
theorem Cq {cs : List VV} {l : List Nat} : tnL (.agg cs) l = l := rfl
theorem Cr {cs : List VV} {n : Nat} {f : Bool} {l : List Nat} : tnL (.sl cs n f) l = l := rfl
theorem Cs {cs : List VV} {l : List Nat} : tnL (.tup cs) l = l := rfl
theorem Ct {f : Fn} {a b : List VV} {l : List Nat} : tnL (.fn f a b) l = l := rfl
theorem Cu {t : TypeId} {x : VV} {l : List Nat} : tnL (.ifc t x) l = l := rfl
theorem Cv {x : Operand} : rdV ⟨d, .move x, ty, pos, af, g⟩ (ev G tm) = rdL (ev G tm) [] := fA []
theorem Cw {x : Operand} : rdV ⟨d, .assign x, ty, pos, af, g⟩ (ev G tm) = rdL (ev G tm) [] := fA []
theorem Cx {t : TypeId} {x : Operand} : rdV ⟨d, .load t x, ty, pos, af, g⟩ (ev G tm) = rdL (ev G tm) [x] := fA [x]
theorem OY {t k : Nat} {x : Operand} : rdV ⟨d, .fieldAddr t x k, ty, pos, af, g⟩ (ev G tm) = rdL (ev G tm) [x] := fA [x]
theorem Cy {t k : Nat} {x : Operand} : rdV ⟨d, .field t x k, ty, pos, af, g⟩ (ev G tm) = rdL (ev G tm) [x] := fA [x]
theorem OZ {t : TypeId} {x y : Operand} : rdV ⟨d, .indexAddr t x y, ty, pos, af, g⟩ (ev G tm) = rdL (ev G tm) [x, y] := fA [x, y]
theorem Cz {t : TypeId} {x y : Operand} : rdV ⟨d, .index t x y, ty, pos, af, g⟩ (ev G tm) = rdL (ev G tm) [x, y] := fA [x, y]
theorem C0 {b : BinOp} {t u : TypeId} {x y : Operand} : rdV ⟨d, .binOp b t x y u, ty, pos, af, g⟩ (ev G tm) = rdL (ev G tm) [x, y] := fA [x, y]
theorem C1 {b : UnOp} {t : TypeId} {x : Operand} : rdV ⟨d, .unOp b t x, ty, pos, af, g⟩ (ev G tm) = rdL (ev G tm) [x] := fA [x]
theorem C2 {t : TypeId} : rdV ⟨d, .alloc t, ty, pos, af, g⟩ (ev G tm) = rdL (ev G tm) [] := fA []
theorem C3 {t : TypeId} {x : Operand} : rdV ⟨d, .box t x, ty, pos, af, g⟩ (ev G tm) = rdL (ev G tm) [x] := fA [x]
theorem C4 {t : TypeId} {x y : Operand} : rdV ⟨d, .store t x y, ty, pos, af, g⟩ (ev G tm) = rdL (ev G tm) [x, y] := fA [x, y]
theorem C5 {c x y : Operand} : rdV ⟨d, .pick c x y, ty, pos, af, g⟩ (ev G tm) = rdL (ev G tm) [c, x, y] := fA [c, x, y]
theorem C6 {x : Operand} {k : Nat} : rdV ⟨d, .extract x k, ty, pos, af, g⟩ (ev G tm) = rdL (ev G tm) [x] := fA [x]
theorem C7 {t : TypeId} {x : Operand} : rdV ⟨d, .makeInterface t x, ty, pos, af, g⟩ (ev G tm) = rdL (ev G tm) [x] := fA [x]
theorem Pa {t : TypeId} {x y : Operand} : rdV ⟨d, .makeSlice t x y, ty, pos, af, g⟩ (ev G tm) = rdL (ev G tm) [x, y] := fA [x, y]
theorem C8 {t : TypeId} {ps : List (Nat × Operand)} : rdV ⟨d, .build t ⟨ps⟩, ty, pos, af, g⟩ (ev G tm) = rdL (ev G tm) (ps.map (·.2)) := by rw [← fA]; simp [rdV, rdO, Op.operands]
theorem Pb {t k : Nat} {ps : List (Nat × Operand)} : rdV ⟨d, .buildSlice t k ⟨ps⟩, ty, pos, af, g⟩ (ev G tm) = rdL (ev G tm) (ps.map (·.2)) := by rw [← fA]; simp [rdV, rdO, Op.operands]
theorem C9 {b : Builtin} {as : List Operand} {ats : Array TypeId} : rdV ⟨d, .call ⟨.builtin b, ⟨as⟩, ats⟩, ty, pos, af, g⟩ (ev G tm) = rdL (ev G tm) as := by rw [← fA]; simp [rdV, rdO, Op.operands, Call.operands]
theorem CA {o : Nat × Operand} {os : List (Nat × Operand)} : (o :: os).map (·.2) = o.2 :: os.map (·.2) := rfl
theorem CB : ([] : List (Nat × Operand)).map (·.2) = [] := rfl
end
theorem j5 {a i j : Nat} : (a + i = a + j) = (i = j) := by simp
theorem iP {a j : Nat} : (a = a + j) = (j = 0) := by simp
theorem fL {a i : Nat} : (a + i = a) = (i = 0) := by simp
def nmB := (And.intro @j5 (And.intro @iP @fL))
def Pc := (And.intro (And.intro (And.intro (And.intro (And.intro (And.intro @OA @BA) (And.intro @BC (And.intro @BD @BE))) (And.intro (And.intro @BF @BG) (And.intro @OB (And.intro @OC @BI)))) (And.intro (And.intro (And.intro @BJ @BK) (And.intro @BL (And.intro @BM @BN))) (And.intro (And.intro @BO @BP) (And.intro @OF (And.intro @OG @OH))))) (And.intro (And.intro (And.intro (And.intro @OI @OJ) (And.intro @OK (And.intro @OL @Ca))) (And.intro (And.intro @Cb @Cc) (And.intro @Cd (And.intro @BX @OE)))) (And.intro (And.intro (And.intro @ON @OO) (And.intro @Ce (And.intro @Cf @OP))) (And.intro (And.intro @Cg (And.intro @BV @BW)) (And.intro @OQ (And.intro @OR @OS)))))) (And.intro (And.intro (And.intro (And.intro (And.intro @OT @OU) (And.intro @OV (And.intro @OW @Lx))) (And.intro (And.intro @t6 @OX) (And.intro @Ch (And.intro @Ci @Cj)))) (And.intro (And.intro (And.intro @Ck @Cl) (And.intro @Cm (And.intro @Cn @Co))) (And.intro (And.intro @Cp (And.intro @Cq @Cr)) (And.intro @Cs (And.intro @Ct @Cu))))) (And.intro (And.intro (And.intro (And.intro @Cv @Cw) (And.intro @Cx (And.intro @OY @Cy))) (And.intro (And.intro @OZ @Cz) (And.intro @C0 (And.intro @C1 @C2)))) (And.intro (And.intro (And.intro @C3 @C4) (And.intro @C5 (And.intro @C6 @C7))) (And.intro (And.intro @Pa (And.intro @C8 @Pb)) (And.intro @C9 (And.intro @CA @CB)))))))
end Go.V
end
section
namespace Go.V
open Go IntKind
theorem t9 {P : Program} : aE P program = some P := rfl
theorem rA {P : Program} {t : TypeId} {d : TypeDesc} (h : P.underlying t = some d) : aE P (underlying t) = some d := by
 unfold underlying
 rw [cK, t9]
 simp only [Option.bind_some, h]
 exact gF P d
theorem Ly {P : Program} {t : TypeId} {b : Bool} (h : aggT P t = some b) : aE P (isAgg t) = some b := by
 unfold aggT at h
 cases hu : P.underlying t with
 | none => simp [hu] at h
 | some d =>
  unfold isAgg
  rw [cK, rA hu]
  cases d <;> simp [hu] at h <;> subst h <;> simp [gF]
theorem CD {P : Program} {t : TypeId} {cs : Array Value} {off : Nat} {v : Value} (h : aggT P t = some false) (hv : cs[off]? = some v) : aE P (part t cs off) = some v := by
 unfold part
 rw [cK, Ly h]
 simp [hv, gF]
def eq1 : Value → Value → Bool
 | .int _ a, .int _ b => a == b
 | .bool a, .bool b => a == b
 | _, _ => false
def kI (P : Program) (t : TypeId) : Value → Value → Bool
 | .int k _, .int k' _ => k == k' && (match P.underlying t with | some (.int _) => true | _ => false)
 | .bool _, .bool _ => (match P.underlying t with | some .bool => true | _ => false)
 | _, _ => false
theorem CE {P : Program} {t : TypeId} {a b : Value} (h : kI P t a b = true) : aggT P t = some false := by
 unfold aggT
 cases hu : P.underlying t with
 | none => cases a <;> cases b <;> simp [kI, hu] at h
 | some d => cases d <;> first | rfl | (cases a <;> cases b <;> simp [kI, hu] at h)
theorem xl {P : Program} {d : Nat} {t : TypeId} {a b : Value} (h : kI P t a b = true) : aE P (Op.equalIn (d + 1) t a b) = some (eq1 a b) := by
 cases hu : P.underlying t with
 | none => cases a <;> cases b <;> simp [kI, hu] at h
 | some dd =>
  unfold Op.equalIn
  rw [cK, rA hu]
  simp only [Option.bind_some]
  cases a <;> cases b <;> simp only [kI, hu, Bool.false_eq_true, Bool.and_eq_true, beq_iff_eq] at h
  ·cases dd <;> first | (cases h; done) | exact gF P _
  ·obtain ⟨rfl, h⟩ := h
   cases dd <;> first | (cases h; done) | (simp only [if_true]; exact gF P _)
def eqF (P : Program) : List Field → Array Value → Array Value → Option Bool
 | [], _, _ => some true
 | f :: fs, xs, ys => match xs[f.offset]?, ys[f.offset]? with
  | some a, some b => if f.name ≠ "_" ∧ kI P f.type a b = true then (match eqF P fs xs ys with | some r => some (eq1 a b && r) | none => none) else none
  | _, _ => none
theorem Lz {P : Program} {d : Nat} {xs ys : Array Value} : ∀ (fs : List Field) (r : Bool), eqF P fs xs ys = some r →
  aE P (forIn fs ((none, ()) : Option Bool × Unit) fun f __s => if f.name ≠ "_" then do
         let __do_lift ← part f.type xs f.offset
         let __do_lift_1 ← part f.type ys f.offset
         let __do_lift ← Op.equalIn (d + 1) f.type __do_lift __do_lift_1
         if (!__do_lift) = true then pure (ForInStep.done (some false, ()))
          else pure (ForInStep.yield (none, ()))
        else pure (ForInStep.yield (none, ()))) = some (if r = true then none else some false, ())
 | [], r, h => by
  cases h
  rfl
 | f :: fs, r, h => by
  unfold eqF at h
  split at h
  ·rename_i a b ha hb
   split at h
   ·rename_i hc
    split at h
    ·rename_i r' hr
     cases h
     have hp := CE hc.2
     have ih := Lz (d := d) fs r' hr
     rw [List.forIn_cons, cK, if_pos hc.1, cK, CD hp ha, Option.bind_some, cK, CD hp hb, Option.bind_some, cK, xl hc.2, Option.bind_some]
     cases he : eq1 a b with
     | true =>
      simp only [Bool.not_true, Bool.false_eq_true, if_false, gF, Option.bind_some, Bool.true_and]
      exact ih
     | false =>
      simp only [Bool.not_false, if_true, gF, Option.bind_some, Bool.false_and, Bool.false_eq_true, if_false]
    ·cases h
   ·cases h
  ·cases h
theorem L0 {P : Program} {d : Nat} {t : TypeId} {fs : Array Field} {xs ys : Array Value} {r : Bool} (hu : P.underlying t = some (.struct fs)) (hs : P.stoodInHeld t = false) (h : eqF P fs.toList xs ys = some r) : aE P (Op.equalIn (d + 2) t (.agg xs) (.agg ys)) = some r := by
 unfold Op.equalIn
 rw [cK, rA hu]
 simp only [Option.bind_some]
 rw [cK, t9]
 simp only [Option.bind_some, hs, Bool.false_eq_true, if_false]
 rw [cK, ← Array.forIn_toList]
 have := Lz (d := d) fs.toList r h
 rw [this]
 cases r <;> rfl
theorem CF {P : Program} {t : TypeId} {x y : Operand} {fs : Array Field} {xs ys : List Value} {r : Bool} (hu : P.underlying t = some (.struct fs)) (hs : P.stoodInHeld t = false) (hg : P.eqGuardType P.depth t = false) (h : eqF P fs.toList ⟨xs⟩ ⟨ys⟩ = some r) :
  vbin P .eql t x y (.agg ⟨xs⟩) (.agg ⟨ys⟩) = some (.bool r) ∧ vbin P .neq t x y (.agg ⟨xs⟩) (.agg ⟨ys⟩) = some (.bool (!r)) := by
 have e : Op.maxDepth = 9998 + 2 := rfl
 have key : ∀ op, op = .eql ∨ op = .neq → aE P (eqGuard op t x y (.agg ⟨xs⟩) (.agg ⟨ys⟩)) = some () := by
  intro op hop
  unfold eqGuard
  rcases hop with rfl | rfl <;> simp [cK, t9, gF, hg]
 constructor
 ·simp only [vbin]
  rw [cK, key _ (.inl rfl), Option.bind_some]
  show aE P (do pure (Value.bool (← Op.equal t (.agg ⟨xs⟩) (.agg ⟨ys⟩)))) = _
  rw [cK]
  unfold Op.equal
  rw [e, L0 hu hs h]
  rfl
 ·simp only [vbin]
  rw [cK, key _ (.inr rfl), Option.bind_some]
  show aE P (do pure (Value.bool (!(← Op.equal t (.agg ⟨xs⟩) (.agg ⟨ys⟩))))) = _
  rw [cK]
  unfold Op.equal
  rw [e, L0 hu hs h]
  rfl
theorem binS {P : Program} {H : Nat → Option VObj} {t : TypeId} {x y : Operand} {fs : Array Field} {ax ay : VV} {xs ys : List Value} {r : Bool} (hx : ax.val? = some (.agg ⟨xs⟩)) (hy : ay.val? = some (.agg ⟨ys⟩)) (hu : P.underlying t = some (.struct fs)) (hs : P.stoodInHeld t = false) (hg : P.eqGuardType P.depth t = false) (h : eqF P fs.toList ⟨xs⟩ ⟨ys⟩ = some r) :
  binV P H .eql t x y ax ay = some (.lit (.bool r)) ∧ binV P H .neq t x y ax ay = some (.lit (.bool (!r))) := by
 obtain ⟨h1, h2⟩ := CF (x := x) (y := y) hu hs hg h
 constructor
 ·simp only [binV, hx, hy, h1]; rfl
 ·simp only [binV, hx, hy, h2]; rfl
theorem CG {P : Program} {H : Nat → Option VObj} {t : TypeId} {x y : Operand} {a b : Bool} (hu : P.underlying t = some .bool) : binV P H .eql t x y (.lit (.bool a)) (.lit (.bool b)) = some (.lit (.bool (a == b))) := by
 have e : aE P (Op.equalIn (9999 + 1) t (.bool a) (.bool b)) = some (eq1 (.bool a) (.bool b)) := xl (by simp [kI, hu])
 have key : vbin P .eql t x y (.bool a) (.bool b) = some (.bool (a == b)) := by
  simp only [vbin]
  rw [cK]
  show (aE P (pure ())).bind (fun _ => aE P (do pure (Value.bool (← Op.equal t (.bool a) (.bool b))))) = _
  rw [gF, Option.bind_some, cK]
  unfold Op.equal
  rw [show Op.maxDepth = 9999 + 1 from rfl, e]
  rfl
 simp only [binV, VV.val?, key]
 rfl
theorem CH {P : Program} {H : Nat → Option VObj} {t : TypeId} {x y : Operand} {a b : Bool} (hu : P.underlying t = some .bool) : binV P H .neq t x y (.lit (.bool a)) (.lit (.bool b)) = some (.lit (.bool (a != b))) := by
 have e : aE P (Op.equalIn (9999 + 1) t (.bool a) (.bool b)) = some (eq1 (.bool a) (.bool b)) := xl (by simp [kI, hu])
 have key : vbin P .neq t x y (.bool a) (.bool b) = some (.bool (a != b)) := by
  simp only [vbin]
  rw [cK]
  show (aE P (pure ())).bind (fun _ => aE P (do pure (Value.bool (!(← Op.equal t (.bool a) (.bool b)))))) = _
  rw [gF, Option.bind_some, cK]
  unfold Op.equal
  rw [show Op.maxDepth = 9999 + 1 from rfl, e]
  rfl
 simp only [binV, VV.val?, key]
 rfl
end Go.V
end
section
namespace Go.V
open Go IntKind
def MidG (P : Program) (G : Glob) (ops : Array Oper) (base k : Nat) (o : Oper) (next : St → Prop) (Qp : VV → St → Prop) : VExit → St → Prop
 | .normal, st => stepK P G ops (base + k) o st next Qp
 | _, _ => False
theorem CI {P : Program} {G : Glob} {ops : Array Oper} {base k : Nat} {o : Oper} {next : St → Prop} {Qp : VV → St → Prop} {st : St} : MidG P G ops base k o next Qp .normal st = stepK P G ops (base + k) o st next Qp := rfl
section
variable {P : Program} {G : Glob} {ops : Array Oper} {base : Nat} {Q : VExit → St → Prop} {i k : Nat} {ks : List Nat} {l l1 l2 : List Oper} {o : Oper} {st : St}
end
end Go.V
namespace Go.V
open Go IntKind
end Go.V
end
section
namespace Go.V
open Go IntKind
theorem L1 {P : Program} {t : TypeId} {n : Nat} (h : szT P t = some n) : aE P (sizeOf t) = some n := by
 unfold szT at h
 cases hi : P.info? t with
 | none => simp [hi] at h
 | some i =>
  simp [hi] at h
  subst h
  unfold sizeOf typeInfo
  rw [cK, cK, t9]
  simp [hi, gF]
def partO (P : Program) (t : TypeId) (cs : Array Value) (off : Nat) : Option Value :=
 match aggT P t, szT P t with
 | some true, some n => some (.agg (cs.extract off (off + n)))
 | some false, _ => cs[off]?
 | _, _ => none
theorem xm {P : Program} {t : TypeId} {cs : Array Value} {off : Nat} {v : Value} (h : partO P t cs off = some v) : aE P (part t cs off) = some v := by
 unfold partO at h
 split at h
 ·rename_i n h1 h2
  cases h
  unfold part
  rw [cK, Ly h1]
  simp only [Option.bind_some, if_true]
  rw [cK, L1 h2]
  rfl
 ·rename_i h1
  exact CD h1 h
 ·cases h
def eqFs (E : TypeId → Value → Value → Option Bool) (P : Program) : List Field → Array Value → Array Value → Option Bool
 | [], _, _ => some true
 | f :: fs, xs, ys => match partO P f.type xs f.offset, partO P f.type ys f.offset with
  | some a, some b => if f.name ≠ "_" then (match E f.type a b, eqFs E P fs xs ys with | some r, some r' => some (r && r') | _, _ => none) else none
  | _, _ => none
theorem L2 {P : Program} {E : TypeId → Value → Value → Option Bool} {d : Nat} (hE : ∀ t a b r, E t a b = some r → aE P (Op.equalIn d t a b) = some r) {xs ys : Array Value} : ∀ (fs : List Field) (r : Bool), eqFs E P fs xs ys = some r →
  aE P (forIn fs ((none, ()) : Option Bool × Unit) fun f __s => if f.name ≠ "_" then do
         let __do_lift ← part f.type xs f.offset
         let __do_lift_1 ← part f.type ys f.offset
         let __do_lift ← Op.equalIn d f.type __do_lift __do_lift_1
         if (!__do_lift) = true then pure (ForInStep.done (some false, ()))
          else pure (ForInStep.yield (none, ()))
        else pure (ForInStep.yield (none, ()))) = some (if r = true then none else some false, ())
 | [], r, h => by
  cases h
  rfl
 | f :: fs, r, h => by
  unfold eqFs at h
  split at h
  ·rename_i a b ha hb
   split at h
   ·rename_i hc
    split at h
    ·rename_i r1 r2 gm oW
     cases h
     have ih := L2 hE fs r2 oW
     rw [List.forIn_cons, cK, if_pos hc, cK, xm ha, Option.bind_some, cK, xm hb, Option.bind_some, cK, hE _ _ _ _ gm, Option.bind_some]
     cases r1 with
     | true =>
      simp only [Bool.not_true, Bool.false_eq_true, if_false, gF, Option.bind_some, Bool.true_and]
      exact ih
     | false =>
      simp only [Bool.not_false, if_true, gF, Option.bind_some, Bool.false_and, Bool.false_eq_true, if_false]
    ·cases h
   ·cases h
  ·cases h
def eqAs (E : Value → Value → Option Bool) (P : Program) (e : TypeId) (n : Nat) (xs ys : Array Value) : List Nat → Option Bool
 | [] => some true
 | i :: l => match partO P e xs (i * n), partO P e ys (i * n) with
  | some a, some b => (match E a b, eqAs E P e n xs ys l with | some r, some r' => some (r && r') | _, _ => none)
  | _, _ => none
theorem L3 {P : Program} {E : Value → Value → Option Bool} {d n : Nat} {e : TypeId} (hE : ∀ a b r, E a b = some r → aE P (Op.equalIn d e a b) = some r) {xs ys : Array Value} : ∀ (l : List Nat) (r : Bool), eqAs E P e n xs ys l = some r →
  aE P (forIn l ((none, ()) : Option Bool × Unit) fun i __s => do
         let __do_lift ← part e xs (i * n)
         let __do_lift_1 ← part e ys (i * n)
         let __do_lift ← Op.equalIn d e __do_lift __do_lift_1
         if (!__do_lift) = true then pure (ForInStep.done (some false, ()))
          else pure (ForInStep.yield (none, ()))) = some (if r = true then none else some false, ())
 | [], r, h => by
  cases h
  rfl
 | i :: l, r, h => by
  unfold eqAs at h
  split at h
  ·rename_i a b ha hb
   split at h
   ·rename_i r1 r2 gm oW
    cases h
    have ih := L3 hE l r2 oW
    rw [List.forIn_cons, cK, cK, xm ha, Option.bind_some, cK, xm hb, Option.bind_some, cK, hE _ _ _ gm, Option.bind_some]
    cases r1 with
    | true =>
     simp only [Bool.not_true, Bool.false_eq_true, if_false, gF, Option.bind_some, Bool.true_and]
     exact ih
    | false =>
     simp only [Bool.not_false, if_true, gF, Option.bind_some, Bool.false_and, Bool.false_eq_true, if_false]
   ·cases h
  ·cases h
def eqD (P : Program) : Nat → TypeId → Value → Value → Option Bool
 | 0, _, _, _ => none
 | d + 1, t, x, y => if kI P t x y = true then some (eq1 x y) else
  match P.underlying t, x, y with
  | some (.struct fs), .agg xs, .agg ys => if P.stoodInHeld t = true then none else eqFs (eqD P d) P fs.toList xs ys
  | some (.array len e), .agg xs, .agg ys => (match szT P e with | some n => eqAs (eqD P d e) P e n xs ys (List.range' 0 len) | none => none)
  | _, _, _ => none
theorem CJ {P : Program} : ∀ (d : Nat) (t : TypeId) (x y : Value) (r : Bool), eqD P d t x y = some r → ∀ m, aE P (Op.equalIn (m + d) t x y) = some r
 | 0, _, _, _, _, h, _ => by cases h
 | d + 1, t, x, y, r, h, m => by
  unfold eqD at h
  split at h
  ·rename_i h1
   cases h
   exact xl h1
  ·split at h
   ·rename_i fs xs ys hu _
    split at h
    ·cases h
    ·rename_i hs
     rw [Nat.add_succ]
     unfold Op.equalIn
     rw [cK, rA hu]
     simp only [Option.bind_some]
     rw [cK, t9]
     simp only [Option.bind_some, hs, Bool.false_eq_true, if_false]
     rw [cK, ← Array.forIn_toList]
     have := L2 (P := P) (d := m + d) (fun t a b r h => CJ d t a b r h m) fs.toList r h
     rw [this]
     cases r <;> rfl
   ·rename_i len e xs ys hu _
    split at h
    ·rename_i n hn
     rw [Nat.add_succ]
     unfold Op.equalIn
     rw [cK, rA hu]
     simp only [Option.bind_some]
     rw [cK, L1 hn]
     simp only [Option.bind_some]
     rw [cK, Std.Legacy.Range.forIn_eq_forIn_range']
     have := L3 (P := P) (d := m + d) (n := n) (fun a b r h => CJ d e a b r h m) (List.range' 0 len) r h
     simp only [Std.Legacy.Range.size, Nat.sub_zero, Nat.add_sub_cancel, Nat.div_one]
     rw [this]
     cases r <;> rfl
    ·cases h
   ·cases h
end Go.V
end
