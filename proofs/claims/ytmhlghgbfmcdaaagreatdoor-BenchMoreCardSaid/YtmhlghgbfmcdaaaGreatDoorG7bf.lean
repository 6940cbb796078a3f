/- Part of a proof. -/
import Derived.Test.YtmhlghgbfmcdaaaGreatDoorG7be
import Derived.Test.YtmhlghgbfmcdaaaGreatDoorG7am
set_option linter.all false
section
namespace Go.V
open Go IntKind
section
variable {P : Program} {G : Glob} {n : Nat} {Q : VExit → St → Prop} {st : St}
theorem xH {l : Nat} : CWp P G n (.label l) Q st = Q .normal st := rfl
theorem xI : VExit.noGoto Q .normal st = Q .normal st := rfl
theorem xJ : VExit.noGoto Q .ret st = Q .ret st := rfl
theorem xK {id : Nat} : VExit.noGoto Q (.exit id) st = Q (.exit id) st := rfl
theorem rL {x : VV} : VExit.noGoto Q (.panic x) st = Q (.panic x) st := rfl
end
end Go.V
end
section
namespace Go.V
open Go IntKind
theorem RoundStart.mono {P : Program} {G : Glob} {n β : Nat} {bo : Code} {o : Oper} {st : St} {K K' : St → Prop} (hk : ∀ s, K s → K' s) : ∀ e s, RoundStart P G n β bo o st K e s → RoundStart P G n β bo o st K' e s := by
 intro e s h
 cases e with
 | normal =>
  obtain ⟨pe, tm, ps, as, bo', df, h1, h2⟩ := h
  refine ⟨pe, tm, ps, as, bo', df, h1, h2.mono ?_⟩
  intro e s h
  cases e with
  | panic x => exact h
  | normal => obtain ⟨a, b, c, d, e, f, g, h1, h2⟩ := h; exact ⟨a, b, c, d, e, f, g, h1, hk _ h2⟩
  | ret => obtain ⟨a, b, c, d, e, f, g, h1, h2⟩ := h; exact ⟨a, b, c, d, e, f, g, h1, hk _ h2⟩
  | exit _ => obtain ⟨a, b, c, d, e, f, g, h1, h2⟩ := h; exact ⟨a, b, c, d, e, f, g, h1, hk _ h2⟩
  | goto _ => obtain ⟨a, b, c, d, e, f, g, h1, h2⟩ := h; exact ⟨a, b, c, d, e, f, g, h1, hk _ h2⟩
 | _ => exact h
theorem IA {P : Program} {G : Glob} {f : FuncId} {args : List VV} {st : St} {dst : Option Tmp} {γ : Nat} {K K' : St → Prop} {Qp Qp' : VV → St → Prop} (hk : ∀ s, K s → K' s) (hq : ∀ x s, Qp x s → Qp' x s) (h : callK P G f args st dst γ K Qp) : callK P G f args st dst γ K' Qp' := by
 rcases h with ⟨h1, r, h2, h3⟩ | ⟨h1, r, h2, h3⟩ | h
 ·refine .inl ⟨h1, r, h2, ?_⟩
  cases r with
  | tree x => exact hk _ h3
  | own cs len es => exact hk _ h3
  | panic x => exact hq _ _ h3
 ·refine .inr (.inl ⟨h1, r, h2, ?_⟩)
  cases r with
  | tree x => exact ⟨h3.1, hk _ h3.2⟩
  | own cs len es => exact ⟨h3.1, hk _ h3.2⟩
  | panic x => exact h3
 ·exact .inr (.inr (an.mono h (fun _ _ _ h => hk _ h) (fun _ _ _ h => hq _ _ h)))
theorem rM {P : Program} {G : Glob} {o : Oper} {γ : Nat} {st : St} {K K' : St → Prop} (hk : ∀ s, K s → K' s) (h : opK P G o γ st K) : opK P G o γ st K' := by
 unfold opK at h ⊢
 split
 ·rename_i h2; rw [h2] at h; exact hk _ h
 ·rename_i h2; rw [h2] at h; exact h
theorem LZ {P : Program} {G : Glob} {o : Oper} {β : Nat} {args : List VV} {st : St} {K K' : St → Prop} (hk : ∀ s, K s → K' s) (h : yieldK P G o β args st K) : yieldK P G o β args st K' := by
 unfold yieldK at h ⊢
 cases hβ : st.H β with
 | none => rw [hβ] at h; exact h
 | some ob =>
  rw [hβ] at h
  cases ob with
  | loop s pe tm ps as bo df => cases s <;> first | exact h | exact ⟨h.1, h.2.mono (RoundStart.mono hk)⟩
  | _ => exact h
theorem Ma {G : Glob} {o : Oper} {x : VV} {args : List VV} {st : St} {K K' : St → Prop} (hk : ∀ s, K s → K' s) (h : deferK G o x args st K) : deferK G o x args st K' := by
 unfold deferK at h ⊢
 cases x with
 | fn f a b => exact ⟨h.1, hk _ h.2⟩
 | _ => exact h
theorem Mb {P : Program} {G : Glob} {γ : Nat} {o : Oper} {st : St} {K K' : St → Prop} {Qp Qp' : VV → St → Prop} (hk : ∀ s, K s → K' s) (hq : ∀ x s, Qp x s → Qp' x s) (h : aK P G γ o st K Qp) : aK P G γ o st K' Qp' := by
 unfold aK at h ⊢
 cases hop : o.op with
 | call k =>
  simp only [hop] at h ⊢
  cases hc : k.callee with
  | value fo =>
   simp only [hc] at h ⊢
   cases hf : st.ρ G fo with
   | fn f a b =>
    simp only [hf] at h ⊢
    cases f with
    | func f => exact IA hk hq h
    | _ => exact h
   | yl β => simp only [hf] at h ⊢; exact LZ hk h
   | _ => simp only [hf] at h
  | invoke r m =>
   simp only [hc] at h ⊢
   cases hf : recvV P m (st.ρ G r) with
   | fn f a b =>
    simp only [hf] at h ⊢
    cases f with
    | func f => exact IA hk hq h
    | _ => exact h
   | _ => simp only [hf] at h
  | _ => simp only [hc] at h ⊢; exact rM hk h
 | defer k =>
  simp only [hop] at h ⊢
  cases hc : k.callee with
  | value fo => simp only [hc] at h ⊢; exact Ma hk h
  | _ => simp only [hc] at h
 | panic x =>
  simp only [hop] at h ⊢
  cases hf : st.ρ G x with
  | ifc t y => simp only [hf] at h ⊢; exact hq _ _ h
  | _ => simp only [hf] at h
 | _ => simp only [hop] at h ⊢; exact rM hk h
theorem Mc {P : Program} {G : Glob} {ops : Array Oper} {γ : Nat} {o : Oper} {st : St} {K K' : St → Prop} {Qp Qp' : VV → St → Prop} (hk : ∀ s, K s → K' s) (hq : ∀ x s, Qp x s → Qp' x s) (h : stepK P G ops γ o st K Qp) : stepK P G ops γ o st K' Qp' := by
 unfold stepK at h ⊢
 cases hw : aG ops st.tm o with
 | none => rw [hw] at h; exact h
 | some b => rw [hw] at h; exact ⟨fun hb => Mb hk hq (h.1 hb), fun hb => hk _ (h.2 hb)⟩
theorem IB {P : Program} {G : Glob} {ops : Array Oper} {base : Nat} {Q Q' : VExit → St → Prop} (hq : ∀ e s, Q e s → Q' e s) : ∀ (l : List Oper) (i : Nat) (st : St), seqK P G ops base Q i l st → seqK P G ops base Q' i l st
 | [], _, _, h => hq _ _ h
 | _ :: l, i, _, h => Mc (IB hq l (i + 1)) (fun x s => hq (.panic x) s) h
theorem IC {P : Program} {G : Glob} {ops : Array Oper} {base : Nat} {Q Q' : VExit → St → Prop} (hq : ∀ e s, Q e s → Q' e s) : ∀ (l : List Oper) (i : Nat) (tr : Tr) (st : St), drawK P G ops base Q i l tr st → drawK P G ops base Q' i l tr st
 | [], _, _, _, h => ⟨h.1, hq _ _ h.2⟩
 | _ :: l, i, _, _, h => ID (fun _ _ s hs => IC hq l (i + 1) _ s hs) h
theorem xL {next next' : St → Prop} {Q Q' : VExit → St → Prop} (hn : ∀ s, next s → next' s) (hq : ∀ e s, Q e s → Q' e s) : ∀ e s, VExit.then next Q e s → VExit.then next' Q' e s := by
 intro e s h; cases e <;> first | exact hn _ h | exact hq _ _ h
theorem Md {id : Nat} {Q Q' : VExit → St → Prop} (hq : ∀ e s, Q e s → Q' e s) : ∀ e s, VExit.inBlock id Q e s → VExit.inBlock id Q' e s := by
 intro e s h
 cases e with
 | exit i =>
  simp only [VExit.inBlock] at h ⊢
  split at h
  ·rename_i hi; rw [if_pos hi]; exact hq _ _ h
  ·rename_i hi; rw [if_neg hi]; exact hq _ _ h
 | _ => exact hq _ _ h
theorem xM {P : Program} {G : Glob} {n : Nat} {Q Q' : VExit → St → Prop} (hq : ∀ e s, Q e s → Q' e s) : ∀ (pe : Option Code) (st : St), jumpK P G n Q pe st → jumpK P G n Q' pe st
 | none, _, h => hq _ _ h
 | some _, _, h => VWp.mono h hq
theorem CWp.mono {P : Program} {G : Glob} {n : Nat} : ∀ (code : Code) {Q Q' : VExit → St → Prop} (st : St), (∀ e s, Q e s → Q' e s) → CWp P G n code Q st → CWp P G n code Q' st
 | .skip, _, _, _, hq, h => hq _ _ h
 | .label _, _, _, _, hq, h => hq _ _ h
 | .exit _, _, _, _, hq, h => hq _ _ h
 | .ret, _, _, _, hq, h => hq _ _ h
 | .seq a b, _, _, st, hq, h => CWp.mono a st (xL (fun s hs => CWp.mono b s hq hs) hq) h
 | .cond c a b, Q, Q', st, hq, h => by
  unfold CWp at h ⊢
  cases hc : st.ρ G c with
  | lit v =>
   cases v with
   | bool t => rw [hc] at h; exact ⟨fun ht => CWp.mono a st hq (h.1 ht), fun ht => CWp.mono b st hq (h.2 ht)⟩
   | _ => rw [hc] at h; exact h
  | _ => rw [hc] at h; exact h
 | .block _ a, _, _, st, hq, h => CWp.mono a st (Md hq) h
 | .region _ ops false, _, _, _, hq, h => IB hq _ _ _ h
 | .region _ ops true, _, _, _, hq, h => h.imp (IC hq _ _ _ _) (fun h => VWp.mono h hq)
 | .loop _, _, _, _, hq, h => VWp.mono h hq
 | .rangeFunc g ps as bo, Q, Q', st, hq, h => by
  unfold CWp at h ⊢
  refine ⟨h.1, ?_⟩
  have h2 := h.2
  cases hg : st.ρ G g with
  | fn f a b =>
   rw [hg] at h2
   cases f with
   | func f =>
    refine an.mono h2 (fun _ H n hR => ?_) (fun _ _ _ hR => hq _ _ hR)
    obtain ⟨s, pe, tm, ps, as, bo, df, g1, g2, g3⟩ := hR
    exact ⟨s, pe, tm, ps, as, bo, df, g1, g2, xM hq _ _ g3⟩
   | _ => exact h2
  | _ => rw [hg] at h2; exact h2
 | .scope _, _, _, _, hq, h => VWp.mono h hq
 | .goto _, _, _, _, hq, h => VWp.mono h hq
 | .refuse _, _, _, _, hq, h => VWp.mono h hq
theorem rN {P : Program} {G : Glob} {n : Nat} {a b : Code} {Q : VExit → St → Prop} {st : St} (I : St → Prop) (h : CWp P G n a (VExit.then I Q) st) (h2 : ∀ s, I s → CWp P G n b Q s) : CWp P G n (.seq a b) Q st :=
 CWp.mono a st (xL h2 (fun _ _ h => h)) h
def roundsK (P : Program) (G : Glob) (n : Nat) (x : Code) (Q : VExit → St → Prop) : Nat → St → Prop
 | 0, _ => False
 | k + 1, st => CWp P G n x (VExit.then (roundsK P G n x Q k) Q) st
theorem aj.of_openT {P : Program} {G : Glob} {f : FuncId} {args : List VV} {y : VV} (h : an P G f args (fun _ => none) 0 (fun x H _ => (outV H x).tree = true ∧ outV H x = y) (fun _ _ _ => False)) : aj P G f args (.tree y) := by
 refine ⟨h.1, fun A W vs hA hG hargs => (h.2 (PCtx A) W vs (rO hA) rfl (fun β hb => hb.elim) hG hargs).mono ?_⟩
 rintro e W' ⟨c', H', nx', hext, hs', hH', hu, hu', hle, hres⟩
 have hbelow := rP hext
 have hge : ∀ β, c'.live β → W.heap.size ≤ c'.φ β := by
  intro β hl
  rcases Nat.lt_or_ge (c'.φ β) W.heap.size with h | h
  ·obtain ⟨γ, hγ, _⟩ := hext.old β hl h
   simp [PCtx, Ctx.live] at hγ
  ·exact h
 have hold : ∀ b, c'.A b → A b ∨ W.heap.size ≤ b := by
  intro b hb
  rcases hext.newA b hb with h | h | ⟨β, h, _⟩
  ·exact .inl h
  ·exact .inr h
  ·simp [PCtx, Ctx.live] at h
 have held : ∀ {H0 : Nat → Option VObj}, au H0 c'.H → ∀ b, heldIn c' H0 b → A b ∨ W.heap.size ≤ b := by
  intro H0 hsub b hb
  rcases hb with h | ⟨β, h, e⟩
  ·exact hold b h
  ·exact .inr (e ▸ hge β (hsub.live h))
 have heldlt : ∀ {H0 : Nat → Option VObj}, au H0 c'.H → ∀ b, heldIn c' H0 b → b < W'.heap.size := by
  intro H0 hsub b hb
  rcases hb with h | ⟨β, h, e⟩
  ·exact hs'.ltA b h
  ·exact e ▸ hs'.lt β (hsub.live h)
 rcases hres with ⟨x, v, rfl, hrv, ht, rfl⟩ | ⟨x, v, rfl, hv, hF⟩
 ·subst hH'
  refine ⟨heldIn c' c'.H, fun b hb => .inl (hext.A b hb), held (au.refl _), heldlt (au.refl _), hbelow, v, rfl, ?_⟩
  have ht' : (showV c'.H 5 x).tree = true := xN _ ht
  exact rQ _ (nW hs' 5 x v ht' hrv)
 ·exact hF.elim
theorem aj.of_openP {P : Program} {G : Glob} {f : FuncId} {args : List VV} {y : VV} (h : an P G f args (fun _ => none) 0 (fun _ _ _ => False) (fun x H _ => (outV H x).tree = true ∧ outV H x = y)) : aj P G f args (.panic y) := by
 refine ⟨h.1, fun A W vs hA hG hargs => (h.2 (PCtx A) W vs (rO hA) rfl (fun β hb => hb.elim) hG hargs).mono ?_⟩
 rintro e W' ⟨c', H', nx', hext, hs', hH', hu, hu', hle, hres⟩
 have hbelow := rP hext
 have hge : ∀ β, c'.live β → W.heap.size ≤ c'.φ β := by
  intro β hl
  rcases Nat.lt_or_ge (c'.φ β) W.heap.size with h | h
  ·obtain ⟨γ, hγ, _⟩ := hext.old β hl h
   simp [PCtx, Ctx.live] at hγ
  ·exact h
 have hold : ∀ b, c'.A b → A b ∨ W.heap.size ≤ b := by
  intro b hb
  rcases hext.newA b hb with h | h | ⟨β, h, _⟩
  ·exact .inl h
  ·exact .inr h
  ·simp [PCtx, Ctx.live] at h
 have held : ∀ {H0 : Nat → Option VObj}, au H0 c'.H → ∀ b, heldIn c' H0 b → A b ∨ W.heap.size ≤ b := by
  intro H0 hsub b hb
  rcases hb with h | ⟨β, h, e⟩
  ·exact hold b h
  ·exact .inr (e ▸ hge β (hsub.live h))
 have heldlt : ∀ {H0 : Nat → Option VObj}, au H0 c'.H → ∀ b, heldIn c' H0 b → b < W'.heap.size := by
  intro H0 hsub b hb
  rcases hb with h | ⟨β, h, e⟩
  ·exact hs'.ltA b h
  ·exact e ▸ hs'.lt β (hsub.live h)
 rcases hres with ⟨x, v, rfl, hrv, hF⟩ | ⟨x, v, rfl, hv, ht, rfl⟩
 ·exact hF.elim
 ·subst hH'
  refine ⟨heldIn c' c'.H, fun b hb => .inl (hext.A b hb), held (au.refl _), heldlt (au.refl _), hbelow, v, rfl, ?_⟩
  have ht' : (showV c'.H 5 x).tree = true := xN _ ht
  exact rQ _ (nW hs' 5 x v ht' hv)
end Go.V
end
section
namespace Go.V
open Go IntKind
section
variable {P : Program} {G : Glob} {n : Nat} {γ : Nat} {tm : Nat → VV} {H : Nat → Option VObj} {nx : Nat} {df : List VDef} {K : St → Prop} {Kd : List Nat → List Nat → St → Prop} {Qp : VV → St → Prop} {Q : VExit → St → Prop}
 {d : Option Tmp} {ty : TypeId} {pos : String} {af : Array Edge} {g : Option (Nat × Bool)}
theorem Me {f : Fn} {a b : Array Operand} : aK P G γ ⟨d, .makeFunc f a b, ty, pos, af, g⟩ ⟨tm, H, nx, df⟩ K Qp = fin d γ tm H nx df K (.fn f (a.toList.map (ev G tm)) (b.toList.map (ev G tm))) .none := by
 rw [dE (by simp) (by simp) (by simp)]; rfl
def cvalK (P : Program) (G : Glob) (o : Oper) (x : VV) (args : List VV) (st : St) (d : Option Tmp) (γ : Nat) (K : St → Prop) (Qp : VV → St → Prop) : Prop := match x with
 | .fn (.func f) first captured => callK P G f (first ++ args ++ captured) st d γ K Qp
 | .yl β => yieldK P G o β args st K
 | _ => False
theorem Mf {t : Tmp} {as : Array Operand} {ats : Array TypeId} : aK P G γ ⟨d, .call ⟨.value (.tmp t), as, ats⟩, ty, pos, af, g⟩ ⟨tm, H, nx, df⟩ K Qp = cvalK P G ⟨d, .call ⟨.value (.tmp t), as, ats⟩, ty, pos, af, g⟩ (tm t) (as.toList.map (ev G tm)) ⟨tm, H, nx, df⟩ d γ K Qp := by
 simp only [aK, ev_eq, cvalK]
 rfl
theorem xO {o : Oper} {f : FuncId} {first captured args : List VV} {st : St} : cvalK P G o (.fn (.func f) first captured) args st d γ K Qp = callK P G f (first ++ args ++ captured) st d γ K Qp := rfl
theorem xP {o : Oper} {β : Nat} {args : List VV} {st : St} : cvalK P G o (.yl β) args st d γ K Qp = yieldK P G o β args st K := rfl
def panK (x : VV) (k : VV → Prop) : Prop := match x with | .ifc t y => k (.ifc t y) | _ => False
theorem xQ {x : Operand} : aK P G γ ⟨d, .panic x, ty, pos, af, g⟩ ⟨tm, H, nx, df⟩ K Qp = panK (ev G tm x) (fun y => Qp y ⟨tm, H, nx, df⟩) := by
 simp only [aK, ev_eq, panK]
 cases ev G tm x <;> rfl
theorem xR {t : TypeId} {y : VV} {k : VV → Prop} : panK (.ifc t y) k = k (.ifc t y) := rfl
def dfrK (G : Glob) (x : VV) (args : List VV) (tm : Nat → VV) (H : Nat → Option VObj) (nx : Nat) (df : List VDef) (d : Option Tmp) (γ : Nat) (K : St → Prop) : Prop := match x with
 | .fn f first captured => G.rg = some none ∧ fin d γ tm H nx (.fn f captured (first ++ args) :: df) K (.lit undef) .none
 | _ => False
theorem Mg {t : Tmp} {as : Array Operand} {ats : Array TypeId} : aK P G γ ⟨d, .defer ⟨.value (.tmp t), as, ats⟩, ty, pos, af, g⟩ ⟨tm, H, nx, df⟩ K Qp = dfrK G (tm t) (as.toList.map (ev G tm)) tm H nx df d γ K := by
 simp only [aK, ev_eq, dfrK, deferK]
 show (match tm t with | .fn f first captured => _ | _ => False) = _
 cases tm t with
 | fn f a b => cases d <;> rfl
 | _ => rfl
theorem xS {f : Fn} {a b args : List VV} : dfrK (Glob.at G (some none)) (.fn f a b) args tm H nx df none γ K = K ⟨tm, H, nx, .fn f b (a ++ args) :: df⟩ := by
 exact propext ⟨fun h => h.2, fun h => ⟨rfl, h⟩⟩
def mkIfcV (P : Program) (t : TypeId) (x : VV) : Option VV := match P.underlying t with | some (.interface _) => none | some _ => some (.ifc t x) | none => none
theorem Mh {t : TypeId} {x : Operand} : aK P G γ ⟨d, .makeInterface t x, ty, pos, af, g⟩ ⟨tm, H, nx, df⟩ K Qp = oK (mkIfcV P t (ev G tm x)) (fun x => fin d γ tm H nx df K x .none) := by
 rw [dE (by simp) (by simp) (by simp)]; simp only [vop, mkIfcV]
 cases P.underlying t with
 | none => rfl
 | some x => cases x <;> rfl
theorem Mi {x : Operand} {t a : TypeId} {ok : Bool} : aK P G γ ⟨d, .typeAssert x t a ok, ty, pos, af, g⟩ ⟨tm, H, nx, df⟩ K Qp = oK (vtypeAssert P (ev G tm x) a ok) (fun x => fin d γ tm H nx df K x .none) := by
 rw [dE (by simp) (by simp) (by simp)]; simp only [vop]; exact lD
def minV (x y : VV) : Option VV := match x.val?, y.val? with
 | some (.int k a), some (.int _ b) => some (.lit (.int k (if b < a then b else a)))
 | _, _ => none
def maxV (x y : VV) : Option VV := match x.val?, y.val? with
 | some (.int k a), some (.int _ b) => some (.lit (.int k (if a < b then b else a)))
 | _, _ => none
theorem xT {x y : Operand} {ats : Array TypeId} : aK P G γ ⟨d, .call ⟨.builtin .min, #[x, y], ats⟩, ty, pos, af, g⟩ ⟨tm, H, nx, df⟩ K Qp = oK (minV (ev G tm x) (ev G tm y)) (fun x => fin d γ tm H nx df K x .none) := by
 rw [vV]
 simp only [vbuiltin, minV]
 split <;> simp_all [oeK, oK]
theorem xU {x y : Operand} {ats : Array TypeId} : aK P G γ ⟨d, .call ⟨.builtin .max, #[x, y], ats⟩, ty, pos, af, g⟩ ⟨tm, H, nx, df⟩ K Qp = oK (maxV (ev G tm x) (ev G tm y)) (fun x => fin d γ tm H nx df K x .none) := by
 rw [vV]
 simp only [vbuiltin, maxV]
 split <;> simp_all [oeK, oK]
theorem xV {k k' : IntKind} {a b : Int} : minV (.lit (.int k a)) (.lit (.int k' b)) = some (.lit (.int k (if b < a then b else a))) := by simp [minV, VV.val?]
theorem xW {k k' : IntKind} {a b : Int} : maxV (.lit (.int k a)) (.lit (.int k' b)) = some (.lit (.int k (if a < b then b else a))) := by simp [maxV, VV.val?]
theorem xX {f : Fn} {a b : List VV} : (VV.fn f a b).leaf = true := rfl
theorem xY {β o : Nat} : (VV.ptr β o).leaf = true := rfl
theorem xZ {f : Fn} {a b : List VV} : aR (.fn f a b) = some [.fn f a b] := rfl
theorem ya {β o : Nat} : aR (.ptr β o) = some [.ptr β o] := rfl
end
end Go.V
end
section
namespace Go.V
open Go IntKind
def quietO (o : Oper) : Bool := match o.op with
 | .call _ => false
 | .defer _ => false
 | .panic _ => false
 | _ => true
theorem yb {P : Program} {G : Glob} {ops : Array Oper} {base : Nat} {Q : VExit → St → Prop} {K : St → Prop} (hk : ∀ s, Q .normal s → K s) : ∀ (l : List Oper) (i : Nat) (st : St), (∀ k, l[k]? = ops[i + k]?) → l.all quietO = true →
  seqK P G ops base Q i l st → VOps P G ops base K (List.range' i l.length) st
 | [], _, _, _, _, h => hk _ h
 | o :: l, i, st, hl, hq, h => by
  have ho : ops[i]? = some o := by have := hl 0; simpa using this.symm
  simp only [List.all_cons, Bool.and_eq_true] at hq
  have hl' : ∀ k, l[k]? = ops[i + 1 + k]? := fun k => by have := hl (k + 1); simp at this; rw [this]; congr 1; omega
  have h0 : stepK P G ops (base + i) o st (seqK P G ops base Q (i + 1) l) (fun x st' => Q (.panic x) st') := h
  refine ⟨o, ho, ?_⟩
  unfold stepK at h0
  cases hw : aG ops st.tm o with
  | none => rw [hw] at h0; exact h0.elim
  | some b =>
   rw [hw] at h0
   cases b with
   | false => exact .inl ⟨rfl, yb hk l (i + 1) _ hl' hq.2 (h0.2 rfl)⟩
   | true =>
    refine .inr ⟨rfl, ?_⟩
    have h1 := h0.1 rfl
    have h2 : opK P G o (base + i) st (seqK P G ops base Q (i + 1) l) := by
     unfold aK at h1
     cases hop : o.op with
     | call k => simp [quietO, hop] at hq
     | defer k => simp [quietO, hop] at hq
     | panic k => simp [quietO, hop] at hq
     | _ => simp only [hop] at h1; exact h1
    unfold opK at h2
    split at h2
    ·rename_i x eff hv
     exact ⟨x, eff, hv, yb hk l (i + 1) _ hl' hq.2 h2⟩
    ·exact h2.elim
def DPostU (P : Program) (fn : Func) (R : VMode → (Nat → Option VObj) → Nat → Prop) (u : VMode) : VExit → St → Prop := fun e s => DPost P fn R e u s
def DMid (P : Program) (G : Glob) (fn : Func) (rest : Code) (R : VMode → (Nat → Option VObj) → Nat → Prop) (u : VMode) : VExit → St → Prop
 | .normal, s => CWp P G fn.ntmps rest (DPostU P fn R u) s
 | _, _ => False
theorem VDeferred.run {P : Program} {G : Glob} (hm : P.follows .mixedOrders = true) {f : FuncId} {fn : Func} {id d : Nat} {as : Array Operand} {ats : Array TypeId} {ty : TypeId} {pos : String} {af : Array Edge} {l : List Oper} {rest : Code} {args : List VV} {H : Nat → Option VObj} {nx : Nat} {u : VMode} {R : VMode → (Nat → Option VObj) → Nat → Prop}
  (hc : Callable P f) (hf : P.funcs[f]? = some fn) (hb : fn.body = some (.seq (.region id ⟨⟨some d, .call ⟨.builtin .recover, as, ats⟩, ty, pos, af, none⟩ :: l⟩ false) rest))
  (hst : (decide (args.length ≤ fn.ntmps) && (dstsOk fn.ntmps ⟨⟨some d, .call ⟨.builtin .recover, as, ats⟩, ty, pos, af, none⟩ :: l⟩ && (l.all quietO && codeOk fn.ntmps rest))) = true)
  (h : seqK P (G.at (some none)) ⟨⟨some d, .call ⟨.builtin .recover, as, ats⟩, ty, pos, af, none⟩ :: l⟩ nx (DMid P (G.at (some none)) fn rest R (recoverV u).2) 1 l ⟨upd (aP args) d (recoverV u).1, H, nx + (l.length + 1), []⟩) : VDeferred P G f args H nx u R := by
 simp only [Bool.and_eq_true, decide_eq_true_eq] at hst
 obtain ⟨h1, h2, h3, h4⟩ := hst
 refine VDeferred.of_body hc hf hb h1 (VWpS.seq (VWpS.recover h2 rfl rfl rfl ?_))
 refine yb ?_ l 1 _ (fun k => by simp [Nat.add_comm]) h3 h
 intro s hs
 exact VWpS.of rfl (jZ (G := G.at (some none)) hm rest _ s h4 hs)
def RR (r : PRes) (x : VV) (H : Nat → Option VObj) (_ : Nat) : Prop := ∃ y, r = .tree y ∧ (outV H x).tree = true ∧ outV H x = y
def RPn (r : PRes) (x : VV) (H : Nat → Option VObj) (_ : Nat) : Prop := ∃ y, r = .panic y ∧ (outV H x).tree = true ∧ outV H x = y
theorem aj.of_openR {P : Program} {G : Glob} {f : FuncId} {args : List VV} {r : PRes} (h : an P G f args (fun _ => none) 0 (RR r) (RPn r)) : aj P G f args r := by
 cases r with
 | tree y =>
  refine aj.of_openT (an.mono h ?_ ?_)
  ·rintro x H n ⟨y', e, h1, h2⟩; cases e; exact ⟨h1, h2⟩
  ·rintro x H n ⟨y', e, h1, h2⟩; cases e
 | own cs len es =>
  refine aj.of_open (an.mono h ?_ ?_)
  ·rintro x H n ⟨y', e, h1, h2⟩; cases e
  ·rintro x H n ⟨y', e, h1, h2⟩; cases e
 | panic y =>
  refine aj.of_openP (an.mono h ?_ ?_)
  ·rintro x H n ⟨y', e, h1, h2⟩; cases e
  ·rintro x H n ⟨y', e, h1, h2⟩; cases e; exact ⟨h1, h2⟩
theorem aj.runR {P : Program} {G : Glob} (hm : P.follows .mixedOrders = true) {f : FuncId} {fn : Func} {code : Code} {args : List VV} {r : PRes} (hc : Callable P f) (hf : P.funcs[f]? = some fn) (hb : fn.body = some code)
  (hst : (decide (args.length ≤ fn.ntmps) && codeOk fn.ntmps code) = true) (h : CWp P (G.at (some none)) fn.ntmps code (OpenPostD P G fn (RR r) (RPn r)) { tm := aP args, H := fun _ => none, nx := 0, df := [] }) : aj P G f args r :=
 aj.of_openR (an.run hm hc hf hb hst h)
section
variable {P : Program} {G : Glob} {fn : Func} {tm : Nat → VV} {H : Nat → Option VObj} {nx : Nat} {R Rp : VV → (Nat → Option VObj) → Nat → Prop} {x y : VV} {F : FuncId} {cap args : List VV}
theorem cH (hx : resV P ⟨tm, H, nx, []⟩ fn.results.toList = some x) (h : R x H nx) : OpenPostD P G fn R Rp .ret ⟨tm, H, nx, []⟩ := ⟨x, hx, h⟩
theorem IE (hx : resV P ⟨tm, H, nx, []⟩ fn.results.toList = some x) (h : R x H nx) : OpenPostD P G fn R Rp .normal ⟨tm, H, nx, []⟩ := ⟨x, hx, h⟩
theorem Mj {rest : Code} {RD : VMode → (Nat → Option VObj) → Nat → Prop} {u : VMode} {st : St} : DMid P G fn rest RD u .normal st = CWp P G fn.ntmps rest (DPostU P fn RD u) st := rfl
theorem ka (ht : y.tree = true) (h : outV H x = y) : RR (.tree y) x H nx := ⟨y, rfl, by rw [h]; exact ht, h⟩
end
theorem yc : recoverV .ret = (.lit .nilIface, .ret) := rfl
theorem yd {x : VV} : recoverV (.pan x false) = (x, .pan x true) := rfl
end Go.V
namespace Go.V
open Go IntKind
theorem rR {P : Program} {G : Glob} {ops : Array Oper} {base : Nat} {Q : VExit → St → Prop} : ∀ (l : List Oper) (i : Nat) (tr : Tr) (st : St), (∀ k o, l[k]? = some o → ops[i + k]? = some o) →
  drawK P G ops base Q i l tr st → ∃ st' tr', QSteps P G ops base (List.range' i l.length) st st' tr' ∧ traceK ops (tr.reverse ++ tr') ∧ Q .normal st'
 | [], i, tr, st, _, h => ⟨st, [], .nil, by simpa using h.1, h.2⟩
 | o :: l, i, tr, st, hl, h => by
  have ho : ops[i]? = some o := by have := hl 0 o rfl; simpa using this
  obtain ⟨rd, wr, s1, hq, hk⟩ := IF h
  obtain ⟨st', tr', hqs, htr, hQ⟩ := rR l (i + 1) ((i, rd, wr) :: tr) s1 (fun k o' hk' => by have := hl (k + 1) o' (by simpa using hk'); rw [show i + 1 + k = i + (k + 1) by omega]; exact this) hk
  exact ⟨st', (i, rd, wr) :: tr', .cons ho hq hqs, by simpa using htr, hQ⟩
def MidQ (P : Program) (G : Glob) (ops : Array Oper) (base k : Nat) (o : Oper) (l2 : List Oper) (Q : VExit → St → Prop) : VExit → St → Prop
 | .normal, st => stepK P G ops (base + k) o st (fun s => drawK P G ops base Q (k + 1) l2 [] s) (fun x s => Q (.panic x) s)
 | _, _ => False
theorem Mk {P : Program} {G : Glob} {ops : Array Oper} {base k : Nat} {o : Oper} {l2 : List Oper} {Q : VExit → St → Prop} {st : St} : MidQ P G ops base k o l2 Q .normal st = stepK P G ops (base + k) o st (fun s => drawK P G ops base Q (k + 1) l2 [] s) (fun x s => Q (.panic x) s) := rfl
def segOk (n : Nat) (ops : Array Oper) (k m : Nat) : Bool := backOk ops && dstsOk n ops && barOk ops [(List.range' 0 k, k)] (List.range' (k + 1) m) && decide (flat [(List.range' 0 k, k)] (List.range' (k + 1) m) = List.range ops.size) && apartOk ops
theorem ye {P : Program} {G : Glob} (hm : P.follows .mixedOrders = true) {n id : Nat} {l l1 l2 : List Oper} {o : Oper} {tm : Nat → VV} {H : Nat → Option VObj} {nx : Nat} {df : List VDef} {Q : VExit → St → Prop}
  (k : Nat) (cI : l.take k = l1) (ho : l[k]? = some o) (dA : l.drop (k + 1) = l2) (hstat : segOk n ⟨l⟩ k (l.length - (k + 1)) = true) (h : drawK P G ⟨l⟩ nx (MidQ P G ⟨l⟩ nx k o l2 Q) 0 l1 [] ⟨tm, H, nx + l.length, df⟩) :
  CWp P G n (.region id ⟨l⟩ true) Q ⟨tm, H, nx, df⟩ := by
 subst cI dA
 unfold segOk at hstat
 simp only [Bool.and_eq_true] at hstat
 obtain ⟨hst, hap⟩ := hstat
 have hk : k < l.length := by
  rcases Nat.lt_or_ge k l.length with h | h
  ·exact h
  ·rw [List.getElem?_eq_none h] at ho; cases ho
 have hlen1 : (l.take k).length = k := by simp; omega
 have hlen2 : (l.drop (k + 1)).length = l.length - (k + 1) := by simp
 obtain ⟨st', tr, hqs, htr, hQ⟩ := rR (l.take k) 0 [] _ (fun j o' hj => by
  have : j < k := by
   rcases Nat.lt_or_ge j k with h | h
   ·exact h
   ·rw [List.getElem?_eq_none (by simp; omega)] at hj; cases hj
  rw [List.getElem?_take_of_lt this] at hj
  simpa using hj) h
 rw [hlen1] at hqs
 refine .inr (VWp.regionDraw hm [(List.range' 0 k, k)] (List.range' (k + 1) (l.length - (k + 1))) (by simp only [Bool.and_eq_true]; exact hst) ?_)
 refine ⟨st', tr, hqs, nX hap tr ?_ (by simpa using htr), ?_⟩
 ·rw [hqs.fst]
  exact List.pairwise_lt_range'
 ·have hstep : stepK P G ⟨l⟩ (nx + k) o st' (fun s => drawK P G ⟨l⟩ nx Q (k + 1) (l.drop (k + 1)) [] s) (fun x s => Q (.panic x) s) := hQ
  have hdst : dstsOk n ⟨l⟩ = true := hst.1.1.2
  refine (yf (by simpa using ho) hdst hstep).mono (fun s hs => ?_) (fun _ _ h => h)
  obtain ⟨bK, IG, nY, yg, Ml⟩ := rR (l.drop (k + 1)) (k + 1) [] s (fun j o' hj => by rw [List.getElem?_drop] at hj; simpa using hj) hs
  rw [hlen2] at nY
  refine ⟨bK, IG, nY, nX hap IG ?_ (by simpa using yg), Ml⟩
  rw [nY.fst]
  exact List.pairwise_lt_range'
end Go.V
end
section
namespace Go.V
open Go IntKind
def sumB {R E X : Type} (x : R ⊕ E) (f : R → Option X) (g : E → Option X) : Option X := match x with
 | .inl a => f a
 | .inr e => g e
theorem yh {R E X : Type} {a : R} {f : R → Option X} {g : E → Option X} : sumB (.inl a) f g = f a := rfl
theorem yi {R E X : Type} {e : E} {f : R → Option X} {g : E → Option X} : sumB (.inr e) f g = g e := rfl
section
variable {A1 A2 A3 A4 A5 A6 A7 A8 A9 RK RL RM X : Type}
end
theorem mT {a m b : Nat} (h : a + m ≤ b) : (∀ i j, i < m → (a + i = b + j) = False ∧ (b + j = a + i) = False) ∧ (∀ i, i < m → (a + i = b) = False ∧ (b = a + i) = False) ∧ (0 < m → (∀ j, (a = b + j) = False ∧ (b + j = a) = False) ∧ (a = b) = False ∧ (b = a) = False) :=
 ⟨fun i j hi => ⟨by simp; omega, by simp; omega⟩, fun i hi => ⟨by simp; omega, by simp; omega⟩, fun hm => ⟨fun j => ⟨by simp; omega, by simp; omega⟩, by simp; omega, by simp; omega⟩⟩
theorem je {m b : Nat} (h : m ≤ b) : (∀ i j, i < m → (i = b + j) = False ∧ (b + j = i) = False) ∧ (∀ i, i < m → (i = b) = False ∧ (b = i) = False) :=
 ⟨fun i j hi => ⟨by simp; omega, by simp; omega⟩, fun i hi => ⟨by simp; omega, by simp; omega⟩⟩
theorem gZ {β nx : Nat} (h : β < nx) : (β = nx) = False ∧ (nx = β) = False ∧ (∀ c, (β = nx + c) = False) ∧ ∀ c, (nx + c = β) = False :=
 ⟨by simp; omega, by simp; omega, fun c => by simp; omega, fun c => by simp; omega⟩
theorem ne_f {a b : Nat} (h : a ≠ b) : (a = b) = False ∧ (b = a) = False := ⟨by simp [h], by simp; exact fun e => h e.symm⟩
section
variable {P : Program} {G : Glob} {n : Nat} {γ : Nat} {tm : Nat → VV} {H : Nat → Option VObj} {nx : Nat} {df : List VDef} {K : St → Prop} {Kd : List Nat → List Nat → St → Prop} {Qp : VV → St → Prop} {Q : VExit → St → Prop}
 {d : Option Tmp} {ty : TypeId} {pos : String} {af : Array Edge} {g : Option (Nat × Bool)} {x : Code} {st : St}
theorem Mm : roundsK P G n x Q 1 st = CWp P G n x (VExit.then (roundsK P G n x Q 0) Q) st := rfl
theorem Mn : roundsK P G n x Q 2 st = CWp P G n x (VExit.then (roundsK P G n x Q 1) Q) st := rfl
theorem Mo : roundsK P G n x Q 3 st = CWp P G n x (VExit.then (roundsK P G n x Q 2) Q) st := rfl
theorem Mp : roundsK P G n x Q 4 st = CWp P G n x (VExit.then (roundsK P G n x Q 3) Q) st := rfl
theorem Mq : roundsK P G n x Q 5 st = CWp P G n x (VExit.then (roundsK P G n x Q 4) Q) st := rfl
theorem Mr : roundsK P G n x Q 6 st = CWp P G n x (VExit.then (roundsK P G n x Q 5) Q) st := rfl
theorem Ms : roundsK P G n x Q 7 st = CWp P G n x (VExit.then (roundsK P G n x Q 6) Q) st := rfl
@[congr] theorem Mt {k : Nat} {st st' : St} (h : st = st') : roundsK P G n x Q k st = roundsK P G n x Q k st' := by rw [h]
section
variable {i : Nat} {a : Oper} {l : List Oper}
theorem yj : (a :: l).take (i + 1) = a :: l.take i := rfl
theorem yk : l.take 0 = [] := by simp
theorem ym : (a :: l).drop (i + 1) = l.drop i := rfl
theorem yn : l.drop 0 = l := by simp
end
theorem Mu {f : Fn} {a b : Array Operand} : aF P G γ ⟨d, .makeFunc f a b, ty, pos, af, g⟩ ⟨tm, H, nx, df⟩ Kd = fin d γ tm H nx df (Kd (rdV ⟨d, .makeFunc f a b, ty, pos, af, g⟩ (ev G tm)) []) (.fn f (a.toList.map (ev G tm)) (b.toList.map (ev G tm))) .none := by
 rw [dM (by simp)]; rfl
theorem Mv {t : TypeId} {x : Operand} : aF P G γ ⟨d, .makeInterface t x, ty, pos, af, g⟩ ⟨tm, H, nx, df⟩ Kd = oK (mkIfcV P t (ev G tm x)) (fun y => fin d γ tm H nx df (Kd (rdV ⟨d, .makeInterface t x, ty, pos, af, g⟩ (ev G tm)) []) y .none) := by
 rw [dM (by simp)]; simp only [vop, mkIfcV]
 cases P.underlying t with
 | none => rfl
 | some x => cases x <;> rfl
theorem IH {b : Builtin} {as : Array Operand} {ats : Array TypeId} : aF P G γ ⟨d, .call ⟨.builtin b, as, ats⟩, ty, pos, af, g⟩ ⟨tm, H, nx, df⟩ Kd = oeK (vbuiltin P ⟨.builtin b, as, ats⟩ (ev G tm) H γ) (fun x e => fin d γ tm H nx df (Kd (rdV ⟨d, .call ⟨.builtin b, as, ats⟩, ty, pos, af, g⟩ (ev G tm)) (e.wr γ)) x e) := by
 unfold aF
 simp only [vop, ev_eq, oeK, ← cR]
 rfl
theorem yo {x y : Operand} {ats : Array TypeId} : aF P G γ ⟨d, .call ⟨.builtin .min, #[x, y], ats⟩, ty, pos, af, g⟩ ⟨tm, H, nx, df⟩ Kd = oK (minV (ev G tm x) (ev G tm y)) (fun z => fin d γ tm H nx df (Kd (rdV ⟨d, .call ⟨.builtin .min, #[x, y], ats⟩, ty, pos, af, g⟩ (ev G tm)) []) z .none) := by
 rw [IH]
 simp only [vbuiltin, minV]
 split <;> simp_all [oeK, oK, VEff.wr]
theorem yp {x y : Operand} {ats : Array TypeId} : aF P G γ ⟨d, .call ⟨.builtin .max, #[x, y], ats⟩, ty, pos, af, g⟩ ⟨tm, H, nx, df⟩ Kd = oK (maxV (ev G tm x) (ev G tm y)) (fun z => fin d γ tm H nx df (Kd (rdV ⟨d, .call ⟨.builtin .max, #[x, y], ats⟩, ty, pos, af, g⟩ (ev G tm)) []) z .none) := by
 rw [IH]
 simp only [vbuiltin, maxV]
 split <;> simp_all [oeK, oK, VEff.wr]
end
end Go.V
namespace Go.V
open Go IntKind
section
variable {P : Program} {G : Glob} {γ : Nat} {tm : Nat → VV} {H : Nat → Option VObj} {nx : Nat} {df : List VDef} {Kd : List Nat → List Nat → St → Prop} {d : Option Tmp} {ty : TypeId} {pos : String} {af : Array Edge} {g : Option (Nat × Bool)}
def dvalK (P : Program) (G : Glob) (x : VV) (args : List VV) (tm : Nat → VV) (H : Nat → Option VObj) (nx : Nat) (df : List VDef) (d : Option Tmp) (γ : Nat) (K : List Nat → List Nat → St → Prop) : Prop := match x with
 | .fn (.func f) first captured => dcallK P G f (first ++ args ++ captured) tm H nx df d γ K
 | _ => False
theorem Mw {t : Tmp} {as : Array Operand} {ats : Array TypeId} : aF P G γ ⟨d, .call ⟨.value (.tmp t), as, ats⟩, ty, pos, af, g⟩ ⟨tm, H, nx, df⟩ Kd = dvalK P G (tm t) (as.toList.map (ev G tm)) tm H nx df d γ Kd := by
 have e : ev G tm (.tmp t) = tm t := rfl
 simp only [aF, ev_eq, e, dvalK]
 cases tm t with
 | fn f first captured =>
  cases f with
  | func f =>
   simp only [dcallK]
   refine propext (or_congr (and_congr_right fun _ => exists_congr fun r => and_congr_right fun _ => ?_) (or_congr (exists_congr fun a => exists_congr fun x => and_congr_right fun _ => and_congr_right fun _ => and_congr_right fun _ => ?_) (or_congr (exists_congr fun β => exists_congr fun es' => exists_congr fun x => and_congr_right fun _ => ?_) (exists_congr fun cs => and_congr_right fun _ => and_congr_right fun _ => ?_))))
   ·cases r with
    | tree x =>
     simp only
     rw [← fh _ _ _ γ]
     exact iff_of_eq (cR (K := Kd [] []))
    | own cs len es => exact iff_of_eq (cR (K := Kd [] [γ]))
    | panic x => rfl
   ·rw [← fh _ _ _ γ]
    exact iff_of_eq (cR (K := Kd (nmL H fuelS (first ++ as.toList.map (ev G tm) ++ captured)) []))
   ·exact iff_of_eq (cR (K := Kd [β] [β]))
   ·exact iff_of_eq (cR (K := Kd [] [γ]))
  | _ => rfl
 | _ => rfl
theorem yq {f : FuncId} {first captured args : List VV} : dvalK P G (.fn (.func f) first captured) args tm H nx df d γ Kd = dcallK P G f (first ++ args ++ captured) tm H nx df d γ Kd := rfl
end
end Go.V
namespace Go.V
open Go IntKind
section
variable {P : Program} {G : Glob} {n : Nat} {tm : Nat → VV} {H : Nat → Option VObj} {nx : Nat} {df : List VDef} {Q : VExit → St → Prop} {code : Code}
theorem vW (F : (Nat → VV) → Prop) (hF : F tm) (h : ∀ tm', F tm' → CWp P G n code Q ⟨tm', H, nx, df⟩) : CWp P G n code Q ⟨tm, H, nx, df⟩ := h _ hF
end
theorem Mx : IntKind.i64.wrap 0 = 0 := by decide
theorem My : IntKind.i64.wrap 1 = 1 := by decide
theorem Mz : IntKind.i64.wrap 2 = 2 := by decide
theorem M0 : IntKind.i64.wrap 3 = 3 := by decide
theorem M1 : IntKind.i64.wrap 4 = 4 := by decide
theorem M3 : IntKind.i64.wrap 5 = 5 := by decide
theorem M4 : IntKind.i64.wrap 6 = 6 := by decide
set_option linter.defProp false
def placeT (P : Program) (t : TypeId) (i : Nat) : Option (Nat × Nat) := match P.underlying t with
 | some (.struct fields) => placeS P fields i
 | some (.array _ e) => (szT P e).map fun n => (i * n, n)
 | _ => none
def buildOk (P : Program) (t : TypeId) : Bool := match P.underlying t with
 | some (.struct fields) => fields.all fun f => (szT P f.type).isSome
 | some (.array _ e) => (szT P e).isSome
 | _ => false
theorem rS {P : Program} {t : TypeId} {z : List VV} {parts : List (Nat × VV)} (hz : vzl P t = some z) (hok : buildOk P t = true) : vbuild P t parts = (vfill (placeT P t) z parts).map .agg := by
 unfold vzl at hz
 cases hv : vzero P t with
 | none => rw [hv] at hz; cases hz
 | some z0 =>
  rw [hv] at hz
  simp only [Option.map_some, Option.some.injEq] at hz
  subst hz
  unfold vbuild buildOk at *
  simp only [hv]
  cases hu : P.underlying t with
  | none => rw [hu] at hok; cases hok
  | some d =>
   rw [hu] at hok
   cases d with
   | struct fields =>
    have e : placeT P t = placeS P fields := by funext i; simp [placeT, hu]
    simp only [e]
    rw [if_pos hok]
   | array n e =>
    simp only at hok ⊢
    cases he : szT P e with
    | none => rw [he] at hok; cases hok
    | some w =>
     have e2 : placeT P t = fun i => some (i * w, w) := by funext i; simp [placeT, hu, he]
     simp only [e2]
   | _ => cases hok
theorem M5 {P : Program} {G : Glob} {γ : Nat} {tm : Nat → VV} {H : Nat → Option VObj} {nx : Nat} {df : List VDef} {Kd : List Nat → List Nat → St → Prop} {d : Option Tmp} {ty : TypeId} {pos : String} {af : Array Edge} {g : Option (Nat × Bool)} {t : TypeId} {a x : Operand} :
  aF P G γ ⟨d, .store t a x, ty, pos, af, g⟩ ⟨tm, H, nx, df⟩ Kd = oeK (vstoreV P H t (ev G tm a) (ev G tm x)) (fun y e => fin d γ tm H nx df (Kd (rdV ⟨d, .store t a x, ty, pos, af, g⟩ (ev G tm)) (e.wr γ)) y e) := by
 rw [dM (by simp)]; rfl
theorem yr {β γ : Nat} {o : VObj} : (VEff.upd β o).wr γ = [β] := rfl
theorem yu {γ : Nat} {o : VObj} : (VEff.new o).wr γ = [γ] := rfl
theorem yv {γ : Nat} : VEff.none.wr γ = [] := rfl
@[reducible] def presB {R E : Type} (x : R ⊕ E) (f : R → PRes) (g : E → PRes) : PRes := match x with
 | .inl a => f a
 | .inr e => g e
section
variable {G : Glob} {tm : Nat → VV} {d : Option Tmp} {ty : TypeId} {pos : String} {af : Array Edge} {g : Option (Nat × Bool)}
def tnL (v : VV) (l : List Nat) : List Nat := match topName v with
 | some β => β :: l
 | none => l
def rdL (ρ : Operand → VV) : List Operand → List Nat
 | [] => []
 | x :: xs => tnL (ρ x) (rdL ρ xs)
theorem dN {ρ : Operand → VV} : ∀ l : List Operand, l.filterMap (fun y => topName (ρ y)) = rdL ρ l
 | [] => rfl
 | x :: xs => by
  rw [List.filterMap_cons, dN xs]
  simp only [rdL, tnL]
  cases topName (ρ x) <;> rfl
theorem yw {ρ : Operand → VV} : rdL ρ [] = [] := rfl
theorem yx {ρ : Operand → VV} {x : Operand} {xs : List Operand} : rdL ρ (x :: xs) = tnL (ρ x) (rdL ρ xs) := rfl
theorem yy {v : Value} {l : List Nat} : tnL (.lit v) l = l := rfl
theorem yz {β o : Nat} {l : List Nat} : tnL (.ptr β o) l = β :: l := rfl
theorem y6 {β o n w c : Nat} {l : List Nat} : tnL (.ref β o n w c) l = β :: l := rfl
theorem y7 {cs : List VV} {l : List Nat} : tnL (.tp cs) l = l := rfl
theorem y8 {cs : List VV} {l : List Nat} : tnL (.agg cs) l = l := rfl
theorem y9 {cs : List VV} {n : Nat} {f : Bool} {l : List Nat} : tnL (.sl cs n f) l = l := rfl
theorem yA {cs : List VV} {l : List Nat} : tnL (.tup cs) l = l := rfl
theorem yB {f : Fn} {a b : List VV} {l : List Nat} : tnL (.fn f a b) l = l := rfl
theorem yC {t : TypeId} {x : VV} {l : List Nat} : tnL (.ifc t x) l = l := rfl
theorem yD {x : Operand} : rdV ⟨d, .move x, ty, pos, af, g⟩ (ev G tm) = rdL (ev G tm) [] := dN []
theorem yE {x : Operand} : rdV ⟨d, .assign x, ty, pos, af, g⟩ (ev G tm) = rdL (ev G tm) [] := dN []
theorem yF {t : TypeId} {x : Operand} : rdV ⟨d, .load t x, ty, pos, af, g⟩ (ev G tm) = rdL (ev G tm) [x] := dN [x]
theorem M6 {t k : Nat} {x : Operand} : rdV ⟨d, .fieldAddr t x k, ty, pos, af, g⟩ (ev G tm) = rdL (ev G tm) [x] := dN [x]
theorem yG {t k : Nat} {x : Operand} : rdV ⟨d, .field t x k, ty, pos, af, g⟩ (ev G tm) = rdL (ev G tm) [x] := dN [x]
theorem M7 {t : TypeId} {x y : Operand} : rdV ⟨d, .indexAddr t x y, ty, pos, af, g⟩ (ev G tm) = rdL (ev G tm) [x, y] := dN [x, y]
theorem yH {t : TypeId} {x y : Operand} : rdV ⟨d, .index t x y, ty, pos, af, g⟩ (ev G tm) = rdL (ev G tm) [x, y] := dN [x, y]
theorem yI {b : BinOp} {t u : TypeId} {x y : Operand} : rdV ⟨d, .binOp b t x y u, ty, pos, af, g⟩ (ev G tm) = rdL (ev G tm) [x, y] := dN [x, y]
theorem yJ {b : UnOp} {t : TypeId} {x : Operand} : rdV ⟨d, .unOp b t x, ty, pos, af, g⟩ (ev G tm) = rdL (ev G tm) [x] := dN [x]
theorem yK {t : TypeId} : rdV ⟨d, .alloc t, ty, pos, af, g⟩ (ev G tm) = rdL (ev G tm) [] := dN []
theorem yL {t : TypeId} {x : Operand} : rdV ⟨d, .box t x, ty, pos, af, g⟩ (ev G tm) = rdL (ev G tm) [x] := dN [x]
theorem yM {t : TypeId} {x y : Operand} : rdV ⟨d, .store t x y, ty, pos, af, g⟩ (ev G tm) = rdL (ev G tm) [x, y] := dN [x, y]
theorem yN {c x y : Operand} : rdV ⟨d, .pick c x y, ty, pos, af, g⟩ (ev G tm) = rdL (ev G tm) [c, x, y] := dN [c, x, y]
theorem yO {x : Operand} {k : Nat} : rdV ⟨d, .extract x k, ty, pos, af, g⟩ (ev G tm) = rdL (ev G tm) [x] := dN [x]
theorem M8 {t : TypeId} {x : Operand} : rdV ⟨d, .makeInterface t x, ty, pos, af, g⟩ (ev G tm) = rdL (ev G tm) [x] := dN [x]
theorem M9 {t : TypeId} {x y : Operand} : rdV ⟨d, .makeSlice t x y, ty, pos, af, g⟩ (ev G tm) = rdL (ev G tm) [x, y] := dN [x, y]
theorem yP {t : TypeId} {ps : List (Nat × Operand)} : rdV ⟨d, .build t ⟨ps⟩, ty, pos, af, g⟩ (ev G tm) = rdL (ev G tm) (ps.map (·.2)) := by rw [← dN]; simp [rdV, rdO, Op.operands]
theorem MA {t k : Nat} {ps : List (Nat × Operand)} : rdV ⟨d, .buildSlice t k ⟨ps⟩, ty, pos, af, g⟩ (ev G tm) = rdL (ev G tm) (ps.map (·.2)) := by rw [← dN]; simp [rdV, rdO, Op.operands]
theorem yQ {b : Builtin} {as : List Operand} {ats : Array TypeId} : rdV ⟨d, .call ⟨.builtin b, ⟨as⟩, ats⟩, ty, pos, af, g⟩ (ev G tm) = rdL (ev G tm) as := by rw [← dN]; simp [rdV, rdO, Op.operands, Call.operands]
theorem yR {o : Nat × Operand} {os : List (Nat × Operand)} : (o :: os).map (·.2) = o.2 :: os.map (·.2) := rfl
theorem yS : ([] : List (Nat × Operand)).map (·.2) = [] := rfl
end
theorem jf {a i j : Nat} : (a + i = a + j) = (i = j) := by simp
theorem ik {a j : Nat} : (a = a + j) = (j = 0) := by simp
theorem dT {a i : Nat} : (a + i = a) = (i = 0) := by simp
def nmB := (And.intro @jf (And.intro @ik @dT))
def MB := (And.intro (And.intro (And.intro (And.intro (And.intro (And.intro @Me @Mf) (And.intro @xO (And.intro @xQ @xR))) (And.intro (And.intro @Mg @xS) (And.intro @Mh (And.intro @Mi @xT)))) (And.intro (And.intro (And.intro @xU @xV) (And.intro @xW (And.intro @xX @xY))) (And.intro (And.intro @xZ @ya) (And.intro @Mm (And.intro @Mn @Mo))))) (And.intro (And.intro (And.intro (And.intro @Mp @Mq) (And.intro @Mr (And.intro @Ms @yj))) (And.intro (And.intro @yk @ym) (And.intro @yn (And.intro @Mk @Mj)))) (And.intro (And.intro (And.intro @Mu @Mv) (And.intro @yo (And.intro @yp @Mw))) (And.intro (And.intro @yq (And.intro @yc @yd)) (And.intro @Mx (And.intro @My @Mz)))))) (And.intro (And.intro (And.intro (And.intro (And.intro @M0 @M1) (And.intro @M3 (And.intro @M4 @II))) (And.intro (And.intro @rL @M5) (And.intro @yr (And.intro @yu @yv)))) (And.intro (And.intro (And.intro @yw @yx) (And.intro @yy (And.intro @yz @y6))) (And.intro (And.intro @y7 (And.intro @y8 @y9)) (And.intro @yA (And.intro @yB @yC))))) (And.intro (And.intro (And.intro (And.intro @yD @yE) (And.intro @yF (And.intro @M6 @yG))) (And.intro (And.intro @M7 @yH) (And.intro @yI (And.intro @yJ @yK)))) (And.intro (And.intro (And.intro @yL @yM) (And.intro @yN (And.intro @yO @M8))) (And.intro (And.intro @M9 (And.intro @yP @MA)) (And.intro @yQ (And.intro @yR @yS)))))))
end Go.V
end
section
namespace Go.V
open Go IntKind
theorem rT {P : Program} : aD P program = some P := rfl
theorem qw {P : Program} {t : TypeId} {d : TypeDesc} (h : P.underlying t = some d) : aD P (underlying t) = some d := by
 unfold underlying
 rw [bS, rT]
 simp only [Option.bind_some, h]
 exact fj P d
theorem IJ {P : Program} {t : TypeId} {b : Bool} (h : aggT P t = some b) : aD P (isAgg t) = some b := by
 unfold aggT at h
 cases hu : P.underlying t with
 | none => simp [hu] at h
 | some d =>
  unfold isAgg
  rw [bS, qw hu]
  cases d <;> simp [hu] at h <;> subst h <;> simp [fj]
theorem yT {P : Program} {t : TypeId} {cs : Array Value} {off : Nat} {v : Value} (h : aggT P t = some false) (hv : cs[off]? = some v) : aD P (part t cs off) = some v := by
 unfold part
 rw [bS, IJ h]
 simp [hv, fj]
def eq1 : Value → Value → Bool
 | .int _ a, .int _ b => a == b
 | .bool a, .bool b => a == b
 | _, _ => false
def kc (P : Program) (t : TypeId) : Value → Value → Bool
 | .int k _, .int k' _ => k == k' && (match P.underlying t with | some (.int _) => true | _ => false)
 | .bool _, .bool _ => (match P.underlying t with | some .bool => true | _ => false)
 | _, _ => false
theorem yU {P : Program} {t : TypeId} {a b : Value} (h : kc P t a b = true) : aggT P t = some false := by
 unfold aggT
 cases hu : P.underlying t with
 | none => cases a <;> cases b <;> simp [kc, hu] at h
 | some d => cases d <;> first | rfl | (cases a <;> cases b <;> simp [kc, hu] at h)
theorem vX {P : Program} {d : Nat} {t : TypeId} {a b : Value} (h : kc P t a b = true) : aD P (Op.equalIn (d + 1) t a b) = some (eq1 a b) := by
 cases hu : P.underlying t with
 | none => cases a <;> cases b <;> simp [kc, hu] at h
 | some dd =>
  unfold Op.equalIn
  rw [bS, qw hu]
  simp only [Option.bind_some]
  cases a <;> cases b <;> simp only [kc, hu, Bool.false_eq_true, Bool.and_eq_true, beq_iff_eq] at h
  ·cases dd <;> first | (cases h; done) | exact fj P _
  ·obtain ⟨rfl, h⟩ := h
   cases dd <;> first | (cases h; done) | (simp only [if_true]; exact fj P _)
def eqF (P : Program) : List Field → Array Value → Array Value → Option Bool
 | [], _, _ => some true
 | f :: fs, xs, ys => match xs[f.offset]?, ys[f.offset]? with
  | some a, some b => if f.name ≠ "_" ∧ kc P f.type a b = true then (match eqF P fs xs ys with | some r => some (eq1 a b && r) | none => none) else none
  | _, _ => none
theorem IK {P : Program} {d : Nat} {xs ys : Array Value} : ∀ (fs : List Field) (r : Bool), eqF P fs xs ys = some r →
  aD P (forIn fs ((none, ()) : Option Bool × Unit) fun f __s => if f.name ≠ "_" then do
         let __do_lift ← part f.type xs f.offset
         let __do_lift_1 ← part f.type ys f.offset
         let __do_lift ← Op.equalIn (d + 1) f.type __do_lift __do_lift_1
         if (!__do_lift) = true then pure (ForInStep.done (some false, ()))
          else pure (ForInStep.yield (none, ()))
        else pure (ForInStep.yield (none, ()))) = some (if r = true then none else some false, ())
 | [], r, h => by
  cases h
  rfl
 | f :: fs, r, h => by
  unfold eqF at h
  split at h
  ·rename_i a b ha hb
   split at h
   ·rename_i hc
    split at h
    ·rename_i r' hr
     cases h
     have hp := yU hc.2
     have ih := IK (d := d) fs r' hr
     rw [List.forIn_cons, bS, if_pos hc.1, bS, yT hp ha, Option.bind_some, bS, yT hp hb, Option.bind_some, bS, vX hc.2, Option.bind_some]
     cases he : eq1 a b with
     | true =>
      simp only [Bool.not_true, Bool.false_eq_true, if_false, fj, Option.bind_some, Bool.true_and]
      exact ih
     | false =>
      simp only [Bool.not_false, if_true, fj, Option.bind_some, Bool.false_and, Bool.false_eq_true, if_false]
    ·cases h
   ·cases h
  ·cases h
theorem IL {P : Program} {d : Nat} {t : TypeId} {fs : Array Field} {xs ys : Array Value} {r : Bool} (hu : P.underlying t = some (.struct fs)) (hs : P.stoodInHeld t = false) (h : eqF P fs.toList xs ys = some r) : aD P (Op.equalIn (d + 2) t (.agg xs) (.agg ys)) = some r := by
 unfold Op.equalIn
 rw [bS, qw hu]
 simp only [Option.bind_some]
 rw [bS, rT]
 simp only [Option.bind_some, hs, Bool.false_eq_true, if_false]
 rw [bS, ← Array.forIn_toList]
 have := IK (d := d) fs.toList r h
 rw [this]
 cases r <;> rfl
theorem yV {P : Program} {t : TypeId} {x y : Operand} {fs : Array Field} {xs ys : List Value} {r : Bool} (hu : P.underlying t = some (.struct fs)) (hs : P.stoodInHeld t = false) (hg : P.eqGuardType P.depth t = false) (h : eqF P fs.toList ⟨xs⟩ ⟨ys⟩ = some r) :
  vbin P .eql t x y (.agg ⟨xs⟩) (.agg ⟨ys⟩) = some (.bool r) ∧ vbin P .neq t x y (.agg ⟨xs⟩) (.agg ⟨ys⟩) = some (.bool (!r)) := by
 have e : Op.maxDepth = 9998 + 2 := rfl
 have key : ∀ op, op = .eql ∨ op = .neq → aD P (eqGuard op t x y (.agg ⟨xs⟩) (.agg ⟨ys⟩)) = some () := by
  intro op hop
  unfold eqGuard
  rcases hop with rfl | rfl <;> simp [bS, rT, fj, hg]
 constructor
 ·simp only [vbin]
  rw [bS, key _ (.inl rfl), Option.bind_some]
  show aD P (do pure (Value.bool (← Op.equal t (.agg ⟨xs⟩) (.agg ⟨ys⟩)))) = _
  rw [bS]
  unfold Op.equal
  rw [e, IL hu hs h]
  rfl
 ·simp only [vbin]
  rw [bS, key _ (.inr rfl), Option.bind_some]
  show aD P (do pure (Value.bool (!(← Op.equal t (.agg ⟨xs⟩) (.agg ⟨ys⟩))))) = _
  rw [bS]
  unfold Op.equal
  rw [e, IL hu hs h]
  rfl
theorem binS {P : Program} {H : Nat → Option VObj} {t : TypeId} {x y : Operand} {fs : Array Field} {ax ay : VV} {xs ys : List Value} {r : Bool} (hx : ax.val? = some (.agg ⟨xs⟩)) (hy : ay.val? = some (.agg ⟨ys⟩)) (hu : P.underlying t = some (.struct fs)) (hs : P.stoodInHeld t = false) (hg : P.eqGuardType P.depth t = false) (h : eqF P fs.toList ⟨xs⟩ ⟨ys⟩ = some r) :
  binV P H .eql t x y ax ay = some (.lit (.bool r)) ∧ binV P H .neq t x y ax ay = some (.lit (.bool (!r))) := by
 obtain ⟨h1, h2⟩ := yV (x := x) (y := y) hu hs hg h
 constructor
 ·simp only [binV, hx, hy, h1]; rfl
 ·simp only [binV, hx, hy, h2]; rfl
theorem yW {P : Program} {H : Nat → Option VObj} {t : TypeId} {x y : Operand} {a b : Bool} (hu : P.underlying t = some .bool) : binV P H .eql t x y (.lit (.bool a)) (.lit (.bool b)) = some (.lit (.bool (a == b))) := by
 have e : aD P (Op.equalIn (9999 + 1) t (.bool a) (.bool b)) = some (eq1 (.bool a) (.bool b)) := vX (by simp [kc, hu])
 have key : vbin P .eql t x y (.bool a) (.bool b) = some (.bool (a == b)) := by
  simp only [vbin]
  rw [bS]
  show (aD P (pure ())).bind (fun _ => aD P (do pure (Value.bool (← Op.equal t (.bool a) (.bool b))))) = _
  rw [fj, Option.bind_some, bS]
  unfold Op.equal
  rw [show Op.maxDepth = 9999 + 1 from rfl, e]
  rfl
 simp only [binV, VV.val?, key]
 rfl
theorem yX {P : Program} {H : Nat → Option VObj} {t : TypeId} {x y : Operand} {a b : Bool} (hu : P.underlying t = some .bool) : binV P H .neq t x y (.lit (.bool a)) (.lit (.bool b)) = some (.lit (.bool (a != b))) := by
 have e : aD P (Op.equalIn (9999 + 1) t (.bool a) (.bool b)) = some (eq1 (.bool a) (.bool b)) := vX (by simp [kc, hu])
 have key : vbin P .neq t x y (.bool a) (.bool b) = some (.bool (a != b)) := by
  simp only [vbin]
  rw [bS]
  show (aD P (pure ())).bind (fun _ => aD P (do pure (Value.bool (!(← Op.equal t (.bool a) (.bool b)))))) = _
  rw [fj, Option.bind_some, bS]
  unfold Op.equal
  rw [show Op.maxDepth = 9999 + 1 from rfl, e]
  rfl
 simp only [binV, VV.val?, key]
 rfl
end Go.V
end
section
namespace Go.V
open Go IntKind
def segsOf (m : Nat) : Nat → List Nat → List (List Nat × Nat)
 | _, [] => []
 | i, k :: ks => (List.range' i (k - i), k) :: segsOf m (k + 1) ks
def segsLast (m : Nat) : Nat → List Nat → List Nat
 | i, [] => List.range' i (m - i)
 | _, k :: ks => segsLast m (k + 1) ks
def MidG (P : Program) (G : Glob) (ops : Array Oper) (base k : Nat) (o : Oper) (next : St → Prop) (Qp : VV → St → Prop) : VExit → St → Prop
 | .normal, st => stepK P G ops (base + k) o st next Qp
 | _, _ => False
theorem IM {P : Program} {G : Glob} {ops : Array Oper} {base k : Nat} {o : Oper} {next : St → Prop} {Qp : VV → St → Prop} {st : St} : MidG P G ops base k o next Qp .normal st = stepK P G ops (base + k) o st next Qp := rfl
def segRun (P : Program) (G : Glob) (ops : Array Oper) (base : Nat) (Q : VExit → St → Prop) : Nat → List Nat → List Oper → St → Prop
 | i, [], l, st => drawK P G ops base Q i l [] st
 | i, k :: ks, l, st => i ≤ k ∧ match l.drop (k - i) with
  | o :: l2 => drawK P G ops base (MidG P G ops base k o (segRun P G ops base Q (k + 1) ks l2) (fun x s => Q (.panic x) s)) i (l.take (k - i)) [] st
  | [] => False
section
variable {P : Program} {G : Glob} {ops : Array Oper} {base : Nat} {Q : VExit → St → Prop} {i k : Nat} {ks : List Nat} {l l1 l2 : List Oper} {o : Oper} {st : St}
theorem yY (hi : i ≤ k) (h1 : l.take (k - i) = l1) (h2 : l.drop (k - i) = o :: l2) (h : drawK P G ops base (MidG P G ops base k o (segRun P G ops base Q (k + 1) ks l2) (fun x s => Q (.panic x) s)) i l1 [] st) : segRun P G ops base Q i (k :: ks) l st := by
 unfold segRun
 rw [h2]
 exact ⟨hi, by rw [h1]; exact h⟩
theorem IN (h : drawK P G ops base Q i l [] st) : segRun P G ops base Q i [] l st := h
theorem IP {n : Nat} (hd : dstsOk n ops = true) (hap : apartOk ops = true) : ∀ (ks : List Nat) (i : Nat) (l : List Oper) (st : St), (∀ j, l[j]? = ops[i + j]?) → i + l.length = ops.size → segRun P G ops base Q i ks l st →
  VDraw P G n ops base Q (segsOf ops.size i ks) (segsLast ops.size i ks) st
 | [], i, l, st, hl, hlen, h => by
  obtain ⟨st', tr, hqs, htr, hQ⟩ := rR l i [] st (fun j o' hj => by rw [← hl j]; exact hj) h
  have e : ops.size - i = l.length := by omega
  refine ⟨st', tr, by show QSteps P G ops base (List.range' i (ops.size - i)) st st' tr; rw [e]; exact hqs, nX hap tr ?_ (by simpa using htr), hQ⟩
  rw [hqs.fst]
  exact List.pairwise_lt_range'
 | k :: ks, i, l, st, hl, hlen, h => by
  unfold segRun at h
  obtain ⟨hi, h⟩ := h
  cases f9 : l.drop (k - i) with
  | nil => rw [f9] at h; exact h.elim
  | cons o l2 =>
   rw [f9] at h
   have hlt : k - i < l.length := by
    rcases Nat.lt_or_ge (k - i) l.length with h' | h'
    ·exact h'
    ·rw [List.drop_eq_nil_of_le h'] at f9; cases f9
   have hlen1 : (l.take (k - i)).length = k - i := by simp; omega
   have hok : l[k - i]? = some o := by
    have : (l.drop (k - i))[0]? = some o := by rw [f9]; rfl
    simpa using this
   have dA : l2 = l.drop (k + 1 - i) := by
    have : (l.drop (k - i)).drop 1 = l2 := by rw [f9]; rfl
    rw [List.drop_drop] at this
    rw [← this]
    congr 1
    omega
   obtain ⟨st', tr, hqs, htr, hQ⟩ := rR (l.take (k - i)) i [] st (fun j o' hj => by
    have : j < k - i := by
     rcases Nat.lt_or_ge j (k - i) with h | h
     ·exact h
     ·rw [List.getElem?_eq_none (by simp; omega)] at hj; cases hj
    rw [List.getElem?_take_of_lt this] at hj
    rw [← hl j]; exact hj) h
   rw [hlen1] at hqs
   refine ⟨st', tr, hqs, nX hap tr ?_ (by simpa using htr), ?_⟩
   ·rw [hqs.fst]
    exact List.pairwise_lt_range'
   ·have hstep : stepK P G ops (base + k) o st' (segRun P G ops base Q (k + 1) ks l2) (fun x s => Q (.panic x) s) := hQ
    have ho : ops[k]? = some o := by
     have := hl (k - i)
     rw [hok, show i + (k - i) = k by omega] at this
     exact this.symm
    refine (yf ho hd hstep).mono (fun s hs => ?_) (fun _ _ h => h)
    refine IP hd hap ks (k + 1) l2 s (fun j => ?_) ?_ hs
    ·rw [dA, List.getElem?_drop, hl, show i + (k + 1 - i + j) = k + 1 + j by omega]
    ·rw [dA, List.length_drop]; omega
end
def segsOk (n : Nat) (ops : Array Oper) (ks : List Nat) : Bool := backOk ops && dstsOk n ops && barOk ops (segsOf ops.size 0 ks) (segsLast ops.size 0 ks) && decide (flat (segsOf ops.size 0 ks) (segsLast ops.size 0 ks) = List.range ops.size) && apartOk ops
theorem yZ {P : Program} {G : Glob} (hm : P.follows .mixedOrders = true) {n id : Nat} {l : List Oper} {tm : Nat → VV} {H : Nat → Option VObj} {nx : Nat} {df : List VDef} {Q : VExit → St → Prop}
  (ks : List Nat) (hstat : segsOk n ⟨l⟩ ks = true) (h : segRun P G ⟨l⟩ nx Q 0 ks l ⟨tm, H, nx + l.length, df⟩) : CWp P G n (.region id ⟨l⟩ true) Q ⟨tm, H, nx, df⟩ := by
 unfold segsOk at hstat
 simp only [Bool.and_eq_true] at hstat
 obtain ⟨hst, hap⟩ := hstat
 refine .inr (VWp.regionDraw hm _ _ (by simp only [Bool.and_eq_true]; exact hst) ?_)
 exact IP hst.1.1.2 hap ks 0 l _ (fun j => by simp) (by simp) h
end Go.V
namespace Go.V
open Go IntKind
end Go.V
end
section
namespace Go.V
open Go IntKind
theorem IQ {P : Program} {t : TypeId} {n : Nat} (h : szT P t = some n) : aD P (sizeOf t) = some n := by
 unfold szT at h
 cases hi : P.info? t with
 | none => simp [hi] at h
 | some i =>
  simp [hi] at h
  subst h
  unfold sizeOf typeInfo
  rw [bS, bS, rT]
  simp [hi, fj]
def partO (P : Program) (t : TypeId) (cs : Array Value) (off : Nat) : Option Value :=
 match aggT P t, szT P t with
 | some true, some n => some (.agg (cs.extract off (off + n)))
 | some false, _ => cs[off]?
 | _, _ => none
theorem vY {P : Program} {t : TypeId} {cs : Array Value} {off : Nat} {v : Value} (h : partO P t cs off = some v) : aD P (part t cs off) = some v := by
 unfold partO at h
 split at h
 ·rename_i n h1 h2
  cases h
  unfold part
  rw [bS, IJ h1]
  simp only [Option.bind_some, if_true]
  rw [bS, IQ h2]
  rfl
 ·rename_i h1
  exact yT h1 h
 ·cases h
def eqFs (E : TypeId → Value → Value → Option Bool) (P : Program) : List Field → Array Value → Array Value → Option Bool
 | [], _, _ => some true
 | f :: fs, xs, ys => match partO P f.type xs f.offset, partO P f.type ys f.offset with
  | some a, some b => if f.name ≠ "_" then (match E f.type a b, eqFs E P fs xs ys with | some r, some r' => some (r && r') | _, _ => none) else none
  | _, _ => none
theorem IS {P : Program} {E : TypeId → Value → Value → Option Bool} {d : Nat} (hE : ∀ t a b r, E t a b = some r → aD P (Op.equalIn d t a b) = some r) {xs ys : Array Value} : ∀ (fs : List Field) (r : Bool), eqFs E P fs xs ys = some r →
  aD P (forIn fs ((none, ()) : Option Bool × Unit) fun f __s => if f.name ≠ "_" then do
         let __do_lift ← part f.type xs f.offset
         let __do_lift_1 ← part f.type ys f.offset
         let __do_lift ← Op.equalIn d f.type __do_lift __do_lift_1
         if (!__do_lift) = true then pure (ForInStep.done (some false, ()))
          else pure (ForInStep.yield (none, ()))
        else pure (ForInStep.yield (none, ()))) = some (if r = true then none else some false, ())
 | [], r, h => by
  cases h
  rfl
 | f :: fs, r, h => by
  unfold eqFs at h
  split at h
  ·rename_i a b ha hb
   split at h
   ·rename_i hc
    split at h
    ·rename_i r1 r2 eQ nZ
     cases h
     have ih := IS hE fs r2 nZ
     rw [List.forIn_cons, bS, if_pos hc, bS, vY ha, Option.bind_some, bS, vY hb, Option.bind_some, bS, hE _ _ _ _ eQ, Option.bind_some]
     cases r1 with
     | true =>
      simp only [Bool.not_true, Bool.false_eq_true, if_false, fj, Option.bind_some, Bool.true_and]
      exact ih
     | false =>
      simp only [Bool.not_false, if_true, fj, Option.bind_some, Bool.false_and, Bool.false_eq_true, if_false]
    ·cases h
   ·cases h
  ·cases h
def eqAs (E : Value → Value → Option Bool) (P : Program) (e : TypeId) (n : Nat) (xs ys : Array Value) : List Nat → Option Bool
 | [] => some true
 | i :: l => match partO P e xs (i * n), partO P e ys (i * n) with
  | some a, some b => (match E a b, eqAs E P e n xs ys l with | some r, some r' => some (r && r') | _, _ => none)
  | _, _ => none
theorem IT {P : Program} {E : Value → Value → Option Bool} {d n : Nat} {e : TypeId} (hE : ∀ a b r, E a b = some r → aD P (Op.equalIn d e a b) = some r) {xs ys : Array Value} : ∀ (l : List Nat) (r : Bool), eqAs E P e n xs ys l = some r →
  aD P (forIn l ((none, ()) : Option Bool × Unit) fun i __s => do
         let __do_lift ← part e xs (i * n)
         let __do_lift_1 ← part e ys (i * n)
         let __do_lift ← Op.equalIn d e __do_lift __do_lift_1
         if (!__do_lift) = true then pure (ForInStep.done (some false, ()))
          else pure (ForInStep.yield (none, ()))) = some (if r = true then none else some false, ())
 | [], r, h => by
  cases h
  rfl
 | i :: l, r, h => by
  unfold eqAs at h
  split at h
  ·rename_i a b ha hb
   split at h
   ·rename_i r1 r2 eQ nZ
    cases h
    have ih := IT hE l r2 nZ
    rw [List.forIn_cons, bS, bS, vY ha, Option.bind_some, bS, vY hb, Option.bind_some, bS, hE _ _ _ eQ, Option.bind_some]
    cases r1 with
    | true =>
     simp only [Bool.not_true, Bool.false_eq_true, if_false, fj, Option.bind_some, Bool.true_and]
     exact ih
    | false =>
     simp only [Bool.not_false, if_true, fj, Option.bind_some, Bool.false_and, Bool.false_eq_true, if_false]
   ·cases h
  ·cases h
def eqD (P : Program) : Nat → TypeId → Value → Value → Option Bool
 | 0, _, _, _ => none
 | d + 1, t, x, y => if kc P t x y = true then some (eq1 x y) else
  match P.underlying t, x, y with
  | some (.struct fs), .agg xs, .agg ys => if P.stoodInHeld t = true then none else eqFs (eqD P d) P fs.toList xs ys
  | some (.array len e), .agg xs, .agg ys => (match szT P e with | some n => eqAs (eqD P d e) P e n xs ys (List.range' 0 len) | none => none)
  | _, _, _ => none
theorem za {P : Program} : ∀ (d : Nat) (t : TypeId) (x y : Value) (r : Bool), eqD P d t x y = some r → ∀ m, aD P (Op.equalIn (m + d) t x y) = some r
 | 0, _, _, _, _, h, _ => by cases h
 | d + 1, t, x, y, r, h, m => by
  unfold eqD at h
  split at h
  ·rename_i h1
   cases h
   exact vX h1
  ·split at h
   ·rename_i fs xs ys hu _
    split at h
    ·cases h
    ·rename_i hs
     rw [Nat.add_succ]
     unfold Op.equalIn
     rw [bS, qw hu]
     simp only [Option.bind_some]
     rw [bS, rT]
     simp only [Option.bind_some, hs, Bool.false_eq_true, if_false]
     rw [bS, ← Array.forIn_toList]
     have := IS (P := P) (d := m + d) (fun t a b r h => za d t a b r h m) fs.toList r h
     rw [this]
     cases r <;> rfl
   ·rename_i len e xs ys hu _
    split at h
    ·rename_i n hn
     rw [Nat.add_succ]
     unfold Op.equalIn
     rw [bS, qw hu]
     simp only [Option.bind_some]
     rw [bS, IQ hn]
     simp only [Option.bind_some]
     rw [bS, Std.Legacy.Range.forIn_eq_forIn_range']
     have := IT (P := P) (d := m + d) (n := n) (fun a b r h => za d e a b r h m) (List.range' 0 len) r h
     simp only [Std.Legacy.Range.size, Nat.sub_zero, Nat.add_sub_cancel, Nat.div_one]
     rw [this]
     cases r <;> rfl
    ·cases h
   ·cases h
end Go.V
end
