/- Part of a proof. -/
import Derived.Test.YtekhjalgmlflpaaGreatDoorZbh
set_option linter.all false
set_option maxRecDepth 4000
set_option maxHeartbeats 40000000
section
namespace Go.V
open Go Go.Proofs IntKind
def gone (H H' : Nat → Option VObj) : Nat → Option VObj := fun β => if (H' β).isSome then none else H β
theorem al.gone (H H' : Nat → Option VObj) : al (gone H H') H := fun x o h => by
 unfold Go.V.gone at h
 split at h
 ·cases h
 ·exact h
def Frozen (H H' : Nat → Option VObj) (x y : VV) : Prop := y = x ∨ y = .any ∨ ∃ n, sealV (gone H H') n x = some y
def FrozenL (H H' : Nat → Option VObj) : List VV → List VV → Prop
 | [], [] => True
 | x :: xs, y :: ys => Frozen H H' x y ∧ FrozenL H H' xs ys
 | _, _ => False
def FrozenO (H H' : Nat → Option VObj) (o o' : VObj) : Prop := o' = o ∨ ∃ el cs cs', o = .cells el cs ∧ o' = .cells el cs' ∧ FrozenL H H' cs cs'
def Ctx.frz (c : Ctx) (H' : Nat → Option VObj) : Ctx := { c with H := H', A := fun b => c.A b ∨ ∃ β, c.live β ∧ (H' β).isSome = false ∧ c.φ β = b }
section
variable {c : Ctx} {W : World} {H' : Nat → Option VObj}
theorem wV (hl : ∀ β, (H' β).isSome = true → c.live β) : Abides c W (c.frz H') W := ⟨fun _ h => .inl h, fun _ _ => rfl, fun _ h => h, fun β _ h => hl β h, fun _ _ _ => rfl, fun _ _ _ => rfl⟩
theorem rp (hl : ∀ β, (H' β).isSome = true → c.live β) : Ext c W (c.frz H') W where
 A _ h := .inl h
 newA b h := h.imp id fun ⟨β, h1, _, e⟩ => .inr ⟨β, h1, e⟩
 used _ h := h
 live β _ h := hl β h
 φ _ _ _ := rfl
 room _ _ _ := rfl
 keep _ _ _ := rfl
 old x h _ := ⟨x, hl x h, rfl⟩
 size := Nat.le_refl _
 os := rfl
 tape := rfl
 output := rfl
theorem Rk (s : Sim c W) (hl : ∀ β, (H' β).isSome = true → c.live β) {x y : VV} {v : Value} (h : Frozen c.H H' x y) (hr : Rep c W x v) : Rep (c.frz H') W y v := by
 rcases h with rfl | rfl | ⟨n, hn⟩
 ·exact Rep.abides (wV hl) _ hr
 ·unfold Rep; trivial
 ·have h1 := (rq s (al.gone c.H H') n).1 x v y hn hr
  refine Rep.abides (mm fun b hb => ?_) _ h1
  rcases hb with hb | ⟨β, hβ, e⟩
  ·exact .inl hb
  ·refine .inr ⟨β, ?_, ?_, e⟩
   ·unfold Go.V.gone at hβ
    split at hβ
    ·cases hβ
    ·exact hβ
   ·cases h0 : (H' β).isSome with
    | false => rfl
    | true => unfold Go.V.gone at hβ; rw [h0] at hβ; cases hβ
theorem yX (s : Sim c W) (hl : ∀ β, (H' β).isSome = true → c.live β) : ∀ {xs ys : List VV} {l : List Value}, FrozenL c.H H' xs ys → RepL c W xs l → RepL (c.frz H') W ys l
 | [], [], _, _, h => h
 | _ :: _, _ :: _, _, ⟨h1, h2⟩, ⟨u, us, e, r1, r2⟩ => ⟨u, us, e, Rk s hl h1 r1, yX s hl h2 r2⟩
 | [], _ :: _, _, h, _ => h.elim
 | _ :: _, [], _, h, _ => h.elim
theorem FrozenL.length {H H' : Nat → Option VObj} : ∀ {xs ys : List VV}, FrozenL H H' xs ys → ys.length = xs.length
 | [], [], _ => rfl
 | _ :: _, _ :: _, h => by simp [FrozenL.length h.2]
 | [], _ :: _, h => h.elim
 | _ :: _, [], h => h.elim
theorem Sim.frz (s : Sim c W) (ho : ∀ β o', H' β = some o' → ∃ o, c.H β = some o ∧ FrozenO c.H H' o o') (hloop : ∀ x st pe tm ps asg bo df, H' x = some (.loop st pe tm ps asg bo df) → isDef H' df) : Sim (c.frz H') W := by
 have hl : ∀ β, (H' β).isSome = true → c.live β := by
  intro β h
  obtain ⟨o', h'⟩ := Option.isSome_iff_exists.1 h
  obtain ⟨o, h1, _⟩ := ho β o' h'
  simp [Ctx.live, h1]
 have ab : Abides c W (c.frz H') W := wV hl
 refine ⟨fun x h => s.used x (hl x h), fun x ox hx => ?_, fun x h => s.lt x (hl x h), fun x h => ?_, fun x y hx hy e => s.inj x y (hl x hx) (hl y hy) e, fun b hb => ?_⟩
 ·have gf : H' x = some ox := hx
  obtain ⟨o, h1, hf⟩ := ho x ox gf
  rcases hf with rfl | ⟨el, cs, cs', rfl, rfl, hcs⟩
  ·refine (s.obj x _ h1).abides ab (s.used x (hl x (by simp [gf]))) (by simp [Ctx.live, Ctx.frz, gf]) rfl ?_
   intro st pe tm ps asg bo df e'
   subst e'
   exact hloop x st pe tm ps asg bo df gf
  ·obtain ⟨arr, e, a1, a2, a3, a4, a5⟩ := s.obj x _ h1
   exact ⟨arr, e, a1, a2, by rw [hcs.length]; exact a3, by rw [hcs.length]; exact yX s hl hcs a4, a5⟩
 ·rintro (hA | ⟨β, h1, hn, e⟩)
  ·exact s.notA x (hl x h) hA
  ·have := s.inj β x h1 (hl x h) e
   subst this
   have h' : (H' β).isSome = true := h
   rw [h'] at hn; cases hn
 ·rcases hb with hA | ⟨β, h1, _, e⟩
  ·exact s.ltA b hA
  ·rw [← e]; exact s.lt β h1
end
theorem VWp.freeze {P : Program} {G : Glob} {n : Nat} {code : Code} {Q : VExit → St → Prop} {st : St} (H' : Nat → Option VObj) (tm' : Nat → VV) (ho : ∀ β o', H' β = some o' → ∃ o, st.H β = some o ∧ FrozenO st.H H' o o') (hloop : ∀ x s pe tm ps asg bo df, H' x = some (.loop s pe tm ps asg bo df) → isDef H' df)
  (htm : ∀ t, Frozen st.H H' (st.tm t) (tm' t)) (h : VWp P G n code Q ⟨tm', H', st.nx, st.df⟩) : VWp P G n code Q st := by
 intro ro c W a hro s hr hsz
 have ho' : ∀ β o', H' β = some o' → ∃ o, c.H β = some o ∧ FrozenO c.H H' o o' := by rw [hr.H]; exact ho
 have hl : ∀ β, (H' β).isSome = true → c.live β := by
  intro β h
  obtain ⟨o', h'⟩ := Option.isSome_iff_exists.1 h
  obtain ⟨o, h1, _⟩ := ho' β o' h'
  simp [Ctx.live, h1]
 have he : Ext c W (c.frz H') W := rp hl
 have ab : Abides c W (c.frz H') W := wV hl
 refine wpIn_mono (h ro (c.frz H') W a (hro.ext he) (s.frz ho' hloop) ⟨rfl, fun t => ?_, hr.nx, hr.df.abides ab, hr.G.abides ab⟩ hsz) fun _ _ _ hl => hl.of_ext he (fun β hb => .inl hb) (Nat.le_refl _)
 exact Rk s hl (by rw [hr.H]; exact htm t) (hr.tm t)
end Go.V
end
section
namespace Go.V
open Go Go.Proofs IntKind
theorem aE.freeze {P : Program} {G : Glob} {f : FuncId} {args args' : List VV} {H : Nat → Option VObj} {nx : Nat} {R Rp : VV → (Nat → Option VObj) → Nat → Prop} (H' : Nat → Option VObj) (ho : ∀ β o', H' β = some o' → ∃ o, H β = some o ∧ FrozenO H H' o o')
  (hloop : ∀ x s pe tm ps asg bo df, H' x = some (.loop s pe tm ps asg bo df) → isDef H' df) (ha : FrozenL H H' args args') (h : aE P G f args' H' nx R Rp) : aE P G f args H nx R Rp := by
 refine ⟨h.1, fun c W vs s hH hnx hG hargs => ?_⟩
 have ho' : ∀ β o', H' β = some o' → ∃ o, c.H β = some o ∧ FrozenO c.H H' o o' := by rw [hH]; exact ho
 have hl : ∀ β, (H' β).isSome = true → c.live β := by
  intro β h
  obtain ⟨o', h'⟩ := Option.isSome_iff_exists.1 h
  obtain ⟨o, h1, _⟩ := ho' β o' h'
  simp [Ctx.live, h1]
 have he : Ext c W (c.frz H') W := rp hl
 have ab : Abides c W (c.frz H') W := wV hl
 refine (h.2 (c.frz H') W vs (s.frz ho' hloop) rfl hnx (hG.abides ab) (yX s hl (by rw [hH]; exact ha) hargs)).mono ?_
 rintro e W' ⟨c', H1, nx', g1, g2, g3, g4, g5, g6, g7⟩
 exact ⟨c', H1, nx', he.trans g1, g2, g3, g4, g5, g6, g7⟩
def Yields (P : Program) (G : Glob) (β : Nat) (x : VV) (H : Nat → Option VObj) (nx : Nat) (Post : Bool → (Nat → Option VObj) → Nat → Prop) : Prop :=
 ∀ (r : Option (Option Nat)) (o : Oper) (st : St) (K : St → Prop), st.H = H → st.nx = nx → (∀ b H' nx', Post b H' nx' → K ⟨(match o.dst with | some d => upd st.tm d (.lit (.bool b)) | none => st.tm), H', nx', st.df⟩) → yieldK P (G.at r) o β [x] st K
theorem Yields.mono {P : Program} {G : Glob} {β : Nat} {x : VV} {H : Nat → Option VObj} {nx : Nat} {Post Post' : Bool → (Nat → Option VObj) → Nat → Prop} (h : Yields P G β x H nx Post) (hp : ∀ b H' nx', Post b H' nx' → Post' b H' nx') : Yields P G β x H nx Post' :=
 fun r o st K h1 h2 hk => h r o st K h1 h2 fun b H' nx' hp' => hk b H' nx' (hp b H' nx' hp')
abbrev Inv := Option (List VV) → (Nat → Prop) → (Nat → Option VObj) → Nat → Prop
def Stable (I : Inv) : Prop := ∀ o (Fr wW : Nat → Prop) (H H1 : Nat → Option VObj) (nx bl : Nat), I o Fr H nx → (∀ γ, γ < nx → ¬ Fr γ → H1 γ = H γ) → nx ≤ bl → (∀ γ, wW γ → Fr γ ∨ (nx ≤ γ ∧ γ < bl)) → I o wW H1 bl
def Rounds (P : Program) (G : Glob) (β : Nat) (I : Inv) : Prop := ∀ x rest (Fr : Nat → Prop) (H : Nat → Option VObj) (nx : Nat), (∀ γ, Fr γ → γ < nx) → I (some (x :: rest)) Fr H nx →
 Yields P G β x H nx (fun b H' nx' => nx ≤ nx' ∧ (∀ γ, Fr γ → H' γ = H γ) ∧ I (if b then some rest else none) Fr H' nx')
def noFr : Nat → Prop := fun _ => False
def Iter (P : Program) (G : Glob) (g : VV) (L : List VV) : Prop := ∃ f first captured, g = .fn (.func f) first captured ∧ ∀ (β : Nat) (I : Inv), Stable I → Rounds P G β I → ∀ (H : Nat → Option VObj) (nx : Nat), β < nx → I (some L) noFr H nx →
 aE P G f (first ++ [.yl β] ++ captured) H nx (fun _ H' nx' => I (some []) noFr H' nx' ∨ I none noFr H' nx') (fun _ _ _ => False)
def Own (hp : List (Nat × VObj)) (Fr : Nat → Prop) (H : Nat → Option VObj) (nx : Nat) : Prop := ∀ p ∈ hp, p.1 < nx ∧ ¬ Fr p.1 ∧ H p.1 = some p.2
theorem Own.stable {hp : List (Nat × VObj)} {Fr wW : Nat → Prop} {H H1 : Nat → Option VObj} {nx bl : Nat} (h : Own hp Fr H nx) (h1 : ∀ γ, γ < nx → ¬ Fr γ → H1 γ = H γ) (h2 : nx ≤ bl) (h3 : ∀ γ, wW γ → Fr γ ∨ (nx ≤ γ ∧ γ < bl)) : Own hp wW H1 bl := by
 intro p hp
 obtain ⟨a, b, c⟩ := h p hp
 refine ⟨Nat.lt_of_lt_of_le a h2, fun hf => ?_, by rw [h1 p.1 a b]; exact c⟩
 rcases h3 p.1 hf with hf | hf
 ·exact b hf
 ·omega
theorem Own.nil {Fr : Nat → Prop} {H : Nat → Option VObj} {nx : Nat} : Own [] Fr H nx := fun _ h => by cases h
theorem Own.cons {p : Nat} {o : VObj} {hp : List (Nat × VObj)} {Fr : Nat → Prop} {H : Nat → Option VObj} {nx : Nat} (h1 : p < nx) (h2 : ¬ Fr p) (h3 : H p = some o) (h : Own hp Fr H nx) : Own ((p, o) :: hp) Fr H nx := by
 intro q hq
 rcases List.mem_cons.1 hq with rfl | hq
 ·exact ⟨h1, h2, h3⟩
 ·exact h q hq
theorem Own.head {p : Nat} {o : VObj} {hp : List (Nat × VObj)} {Fr : Nat → Prop} {H : Nat → Option VObj} {nx : Nat} (h : Own ((p, o) :: hp) Fr H nx) : p < nx ∧ ¬ Fr p ∧ H p = some o := h (p, o) (List.mem_cons_self ..)
theorem Own.tail {p : Nat} {o : VObj} {hp : List (Nat × VObj)} {Fr : Nat → Prop} {H : Nat → Option VObj} {nx : Nat} (h : Own ((p, o) :: hp) Fr H nx) : Own hp Fr H nx := fun q hq => h q (List.mem_cons_of_mem _ hq)
def ownI (J : Option (List VV) → List (Nat × VObj) → Prop) : Inv := fun o Fr H nx => ∃ hp, Own hp Fr H nx ∧ J o hp
theorem yY {J : Option (List VV) → List (Nat × VObj) → Prop} : Stable (ownI J) := fun _ _ _ _ _ _ _ ⟨hp, h, hj⟩ h1 h2 h3 => ⟨hp, h.stable h1 h2 h3, hj⟩
def ownI2 (I : Inv) (J : Option (List VV) → Option (List VV) → List (Nat × VObj) → Prop) : Inv := fun o Fr H nx => ∃ hp o', Own hp Fr H nx ∧ J o o' hp ∧ I o' (fun γ => Fr γ ∨ ∃ p ∈ hp, p.1 = γ) H nx
theorem FU {I : Inv} (hs : Stable I) {J : Option (List VV) → Option (List VV) → List (Nat × VObj) → Prop} : Stable (ownI2 I J) := by
 rintro o Fr wW H H1 nx bl ⟨hp, o', h, hj, hi⟩ h1 h2 h3
 refine ⟨hp, o', h.stable h1 h2 h3, hj, hs _ _ _ _ _ _ _ hi (fun γ hlt hn => h1 γ hlt fun hf => hn (.inl hf)) h2 ?_⟩
 rintro γ (hf | hf)
 ·rcases h3 γ hf with hf | hf
  ·exact .inl (.inl hf)
  ·exact .inr hf
 ·exact .inl (.inr hf)
section
variable {P : Program} {G : Glob} {n : Nat} {Q : VExit → St → Prop} {tm : Nat → VV} {H : Nat → Option VObj} {nx : Nat} {df : List VDef} {g : Operand} {ps : Array Tmp} {az bo : Code}
def RPost (β : Nat) (LB LO : VObj) (LD : Code → VObj) (Post : Bool → (Nat → Option VObj) → Nat → Prop) : VExit → St → Prop
 | .normal, s => s.H β = some LB ∧ Post true (updH s.H β LO) s.nx
 | .ret, s => s.H β = some LB ∧ Post false (updH s.H β (LD .ret)) s.nx
 | .exit id, s => s.H β = some LB ∧ Post false (updH s.H β (LD (.exit id))) s.nx
 | _, _ => False
def RStart (P : Program) (G : Glob) (n β : Nat) (LB LO : VObj) (LD : Code → VObj) (bo : Code) (Post : Bool → (Nat → Option VObj) → Nat → Prop) : VExit → St → Prop
 | .normal, s => s.H β = some LO ∧ CWp P (G.at (some (some β))) n bo (RPost β LB LO LD Post) { s with H := updH s.H β LB }
 | _, _ => False
theorem sT (hm : P.follows .mixedOrders = true) {β : Nat} {x : VV} {Post : Bool → (Nat → Option VObj) → Nat → Prop} {LO : VObj} {tml : List VV} {d : Nat} {psl : List Tmp} (hL : LO = VObj.loop .ready none tml ⟨psl⟩ az bo d) (hβ : H β = some LO) (hn : tml.length = n) (ha : psl.length = 1)
  (h1 : codeOk n az = true) (h2 : codeOk n bo = true)
  (h : ∀ LB LD, LB = VObj.loop .busy none tml ⟨psl⟩ az bo d → LD = (fun c => VObj.loop .done (some c) tml ⟨psl⟩ az bo d) →
   CWp P (G.at (some (some β))) n az (RStart P G n β LB LO LD bo Post) ⟨aQ (roundTm tml psl [x]), H, nx, []⟩) : Yields P G β x H nx Post := by
 intro r o st K e1 e2 hk
 subst e1 e2
 replace hk : ∀ b H' nx', Post b H' nx' → K { st.put o.dst (.lit (.bool b)) with H := H', nx := nx' } := by
  intro b H' nx' hp
  have := hk b H' nx' hp
  obtain ⟨d, op, ty, pos, af, gd⟩ := o
  cases d <;> exact this
 refine FV hm hL hβ hn (by simp [ha]) h1 h2 fun LB LD hB hD => ?_
 refine CWp.mono az _ ?_ (h LB LD hB hD)
 intro e s hs
 cases e with
 | normal =>
  refine ⟨hs.1, CWp.mono bo _ ?_ hs.2⟩
  intro e s2 lR
  cases e with
  | normal => exact ⟨lR.1, hk _ _ _ lR.2⟩
  | ret => exact ⟨lR.1, hk _ _ _ lR.2⟩
  | exit id => exact ⟨lR.1, hk _ _ _ lR.2⟩
  | goto l => exact lR.elim
  | panic x => exact lR.elim
 | _ => exact hs.elim
theorem sU {itv : VV} {L : List VV} (hit : Iter P G itv L) (hg : ev (G.at (some none)) tm g = itv)
  (h : ∀ LO, LO = VObj.loop .ready none (tmL n tm) ps az bo nx → ∃ I : Inv, Stable I ∧ Rounds P G (nx + 1) I ∧ I (some L) noFr (updH (updH H nx (.deferred (some []))) (nx + 1) LO) (nx + 2) ∧
   ∀ H' nx', I (some []) noFr H' nx' ∨ I none noFr H' nx' → RangeEnd P (G.at (some none)) n Q ⟨tm, H, nx, df⟩ H' nx') : CWp P (G.at (some none)) n (.rangeFunc g ps az bo) Q ⟨tm, H, nx, df⟩ := by
 obtain ⟨f, first, captured, rfl, hv⟩ := hit
 refine FW hg fun LO hL => ?_
 obtain ⟨I, hs, hr, h0, he⟩ := h LO hL
 exact aE.mono (hv (nx + 1) I hs hr _ _ (Nat.lt_succ_self _) h0) (fun _ H' nx' hh => he H' nx' hh) (fun _ _ _ hh => hh.elim)
end
end Go.V
end
section
namespace Go.V
open Go Go.Proofs IntKind
theorem aE.freeze1 {P : Program} {G : Glob} {f : FuncId} {args args' : List VV} {H : Nat → Option VObj} {nx γ : Nat} {el : Option TypeId} {cs : List VV} {R Rp : VV → (Nat → Option VObj) → Nat → Prop} (hγ : H γ = some (.cells el cs))
  (ha : FrozenL H (without H γ) args args') (h : aE P G f args' (without H γ) nx R Rp) : aE P G f args H nx R Rp := by
 refine ⟨h.1, fun c W vs s hH hnx hG hargs => ?_⟩
 subst hH
 have ho' : ∀ β o', without c.H γ β = some o' → ∃ o, c.H β = some o ∧ FrozenO c.H (without c.H γ) o o' := fun β o' hb => ⟨o', al.without _ _ β o' hb, .inl rfl⟩
 have hl : ∀ β, (without c.H γ β).isSome = true → c.live β := by
  intro β h
  obtain ⟨o', h'⟩ := Option.isSome_iff_exists.1 h
  obtain ⟨o, h1, _⟩ := ho' β o' h'
  simp [Ctx.live, h1]
 have he : Ext c W (c.frz (without c.H γ)) W := rp hl
 have ab : Abides c W (c.frz (without c.H γ)) W := wV hl
 have hloop : ∀ x st pe tm ps asg bo df, without c.H γ x = some (.loop st pe tm ps asg bo df) → isDef (without c.H γ) df := by
  intro x st pe tm ps asg bo df hx
  obtain ⟨l, fn, _, _, _, hd⟩ := s.obj x _ (al.without _ _ x _ hx)
  exact hd.without hγ
 refine (h.2 (c.frz (without c.H γ)) W vs (s.frz ho' hloop) rfl hnx (hG.abides ab) (yX s hl ha hargs)).mono ?_
 rintro e W' ⟨c', H1, nx', g1, g2, g3, g4, g5, g6, g7⟩
 exact ⟨c', H1, nx', he.trans g1, g2, g3, g4, g5, g6, g7⟩
theorem Frozen.same {H H' : Nat → Option VObj} {x : VV} : Frozen H H' x x := .inl rfl
theorem FrozenL.same {H H' : Nat → Option VObj} : ∀ {xs : List VV}, FrozenL H H' xs xs
 | [] => trivial
 | _ :: _ => ⟨.same, .same⟩
theorem Frozen.own {H : Nat → Option VObj} {γ n w cp : Nat} {el : Option TypeId} {cs : List VV} (hγ : H γ = some (.cells el cs)) (ht : treeL cs = true) (hl : cs.length = n * w) : Frozen H (without H γ) (.ref γ 0 n w cp) (.sl cs n false) := by
 refine .inr (.inr ⟨cs.length + 2, ?_⟩)
 have hg : gone H (without H γ) γ = some (.cells el cs) := by simp [gone, without, hγ]
 unfold sealV
 have : (VV.ref γ 0 n w cp).tree = false := rfl
 rw [this]
 simp only [Bool.false_eq_true, if_false, hg, Nat.zero_le, if_true, List.drop_zero]
 rw [List.take_of_length_le (by omega), u9 cs _ ht (by omega)]
 rfl
theorem ad.weaken {P : Program} {G : Glob} {f : FuncId} {args args' : List VV} {r : PRes} (hw : ∀ c W vs, RepL c W args vs → RepL c W args' vs) (h : ad P G f args' r) : ad P G f args r :=
 ⟨h.1, fun A W vs h1 h2 h3 => h.2 A W vs h1 h2 (hw _ W vs h3)⟩
theorem FX {c : Ctx} {W : World} {v : Value} (h : Rep c W (.lit (.slice none 0 0)) v) : Rep c W (.sl [] 0 false) v := by
 have e : v = .slice none 0 0 := h
 subst e
 exact ⟨none, 0, rfl, Nat.le_refl _, fun h => by simp at h, .inl rfl⟩
def vx {α : Type} (enc : α → List VV) : List α → VV
 | [] => .lit (.slice none 0 0)
 | l => .sl (aa enc l) l.length false
theorem FY {α : Type} {enc : α → List VV} {c : Ctx} {W : World} {v : Value} : ∀ {l : List α}, Rep c W (vx enc l) v → Rep c W (.sl (aa enc l) l.length false) v
 | [], h => FX h
 | _ :: _, h => h
theorem uA {α : Type} {enc : α → List VV} {l : List α} (h : l ≠ []) : vx enc l = .sl (aa enc l) l.length false := by cases l with
 | nil => exact absurd rfl h
 | cons a l => rfl
end Go.V
namespace Go.V
theorem FZ {α : Type} {enc : α → List VV} (he : EncOk enc) : ∀ {l : List α}, (vx enc l).tree = true
 | [] => rfl
 | a :: l => he.treeL (a :: l)
end Go.V
namespace Go.V
def lessN (H : Nat → Option VObj) (ns : List Nat) : Nat → Option VObj := fun γ => if γ ∈ ns then none else H γ
theorem Rl {H : Nat → Option VObj} {ns : List Nat} : al (lessN H ns) H := fun x o h => by
 unfold lessN at h
 split at h
 ·cases h
 ·exact h
theorem aE.freezeN {P : Program} {G : Glob} {f : FuncId} {args args' : List VV} {H : Nat → Option VObj} {nx : Nat} {R Rp : VV → (Nat → Option VObj) → Nat → Prop} (ns : List Nat) (hns : ∀ γ ∈ ns, ∃ el cs, H γ = some (.cells el cs))
  (ha : FrozenL H (lessN H ns) args args') (h : aE P G f args' (lessN H ns) nx R Rp) : aE P G f args H nx R Rp := by
 refine ⟨h.1, fun c W vs s hH hnx hG hargs => ?_⟩
 subst hH
 have ho' : ∀ β o', lessN c.H ns β = some o' → ∃ o, c.H β = some o ∧ FrozenO c.H (lessN c.H ns) o o' := fun β o' hb => ⟨o', Rl β o' hb, .inl rfl⟩
 have hl : ∀ β, (lessN c.H ns β).isSome = true → c.live β := by
  intro β h
  obtain ⟨o', h'⟩ := Option.isSome_iff_exists.1 h
  obtain ⟨o, h1, _⟩ := ho' β o' h'
  simp [Ctx.live, h1]
 have he : Ext c W (c.frz (lessN c.H ns)) W := rp hl
 have ab : Abides c W (c.frz (lessN c.H ns)) W := wV hl
 have hloop : ∀ x st pe tm ps asg bo df, lessN c.H ns x = some (.loop st pe tm ps asg bo df) → isDef (lessN c.H ns) df := by
  intro x st pe tm ps asg bo df hx
  obtain ⟨l, fn, _, _, _, ds, hd⟩ := s.obj x _ (Rl x _ hx)
  refine ⟨ds, ?_⟩
  unfold lessN
  split
  ·rename_i hm
   obtain ⟨el, cs, hc⟩ := hns df hm
   rw [hc] at hd; cases hd
  ·exact hd
 refine (h.2 (c.frz (lessN c.H ns)) W vs (s.frz ho' hloop) rfl hnx (hG.abides ab) (yX s hl ha hargs)).mono ?_
 rintro e W' ⟨c', H1, nx', g1, g2, g3, g4, g5, g6, g7⟩
 exact ⟨c', H1, nx', he.trans g1, g2, g3, g4, g5, g6, g7⟩
theorem aE.of_pure {P : Program} {G : Glob} {f : FuncId} {args : List VV} {x : VV} {H : Nat → Option VObj} {nx : Nat} (h : ad P G f args (.tree x)) (ht : treeL args = true) : aE P G f args H nx (fun y H' nx' => y = x ∧ H' = H ∧ nx' = nx) (fun _ _ _ => False) := by
 refine ⟨h.1, fun c W vs s hH hnx hG ha => (h.2 c.A W vs s.ltA (fun g cs hg => hG.tree g cs hg) (nV ht ha)).mono ?_⟩
 rintro e W' ⟨A', h1, h2, h3, hb, v, rfl, hx⟩
 exact ⟨c.more A', H, nx, Ext.more h1 h2 hb, Sim.more s h1 h2 h3 hb, hH, fun β hb => .inl hb, hnx, Nat.le_refl _, .inl ⟨x, v, rfl, Rep.abides (mm (fun _ h => h)) _ hx, rfl, rfl, rfl⟩⟩
abbrev sI (l : List Int) : VV := .sl (aa eI l) l.length false
theorem Gb {L : List (List Int)} (h : ∀ q ∈ L, q ≠ []) : L.map (vx eI) = L.map sI := List.map_congr_left fun q hq => uA (h q hq)
end Go.V
namespace Go.V
theorem Rm {H : Nat → Option VObj} {m : Nat} : ∀ (caps : List (Nat × List VV)) (n : Nat), (∀ p ∈ caps, (∃ el, H p.1 = some (.cells el p.2)) ∧ treeL p.2 = true ∧ p.2.length < m) → caps.length + m + 2 < n →
  sealL H n (caps.map fun p => .ptr p.1 0) = some (caps.map fun p => .tp p.2)
 | [], n + 1, _, _ => by simp [sealL]
 | p :: caps, n + 1, h, hn => by
  obtain ⟨⟨el, h1⟩, h2, h3⟩ := h p (List.mem_cons_self ..)
  have ih := Rm caps n (fun q hq => h q (List.mem_cons_of_mem _ hq)) (by simp at hn; omega)
  obtain ⟨n', rfl⟩ : ∃ n', n = n' + 1 := ⟨n - 1, by simp at hn; omega⟩
  have e : sealV H (n' + 1) (.ptr p.1 0) = some (.tp p.2) := by
   unfold sealV
   have : (VV.ptr p.1 0).tree = false := rfl
   rw [this]
   simp only [Bool.false_eq_true, if_false, h1, Nat.zero_le, if_true, List.drop_zero]
   rw [u9 _ _ h2 (by simp at hn; omega)]
   rfl
  simp only [List.map_cons]
  unfold sealL
  rw [e, ih]
theorem Frozen.closure {H H' : Nat → Option VObj} {f : Fn} (caps : List (Nat × List VV)) (m : Nat) (hne : caps ≠ []) (h : ∀ p ∈ caps, (∃ el, H p.1 = some (.cells el p.2)) ∧ (H' p.1).isSome = false ∧ treeL p.2 = true ∧ p.2.length < m) : Frozen H H' (.fn f [] (caps.map fun p => .ptr p.1 0)) (.fn f [] (caps.map fun p => .tp p.2)) := by
 refine .inr (.inr ⟨caps.length + m + 4, ?_⟩)
 have hg : ∀ p ∈ caps, (∃ el, gone H H' p.1 = some (.cells el p.2)) ∧ treeL p.2 = true ∧ p.2.length < m := by
  intro p hp
  obtain ⟨⟨el, h1⟩, h2, h3⟩ := h p hp
  exact ⟨⟨el, by simp [gone, h2, h1]⟩, h3⟩
 have ht : (VV.fn f [] (caps.map fun p => .ptr p.1 0)).tree = false := by
  cases caps with
  | nil => exact absurd rfl hne
  | cons p l => simp [VV.tree, treeL]
 unfold sealV
 rw [ht]
 simp only [Bool.false_eq_true, if_false]
 rw [Rm caps _ hg (by omega)]
 have : sealL (gone H H') (caps.length + m + 3) [] = some [] := by simp [sealL]
 rw [this]
end Go.V
namespace Go.V
def goL (rc : List Int → Option (List (List Int))) (may : List Int → Int → Option Bool) (p : List Int) : List Nat → Option (List (List Int))
 | [] => some []
 | i :: is => Option.bind (may p (i : Int)) fun b => cond b (Option.bind (rc (p ++ [(i : Int)])) fun a => Option.bind (goL rc may p is) fun r => some (a ++ r)) (goL rc may p is)
def listsO (may : List Int → Int → Option Bool) (lim : Nat) : Nat → List Int → Option (List (List Int))
 | 0, p => some [p]
 | d + 1, p => goL (listsO may lim d) may p (List.range' 0 lim)
theorem uB {rc : List Int → Option (List (List Int))} {may : List Int → Int → Option Bool} {p : List Int} {Pr : List Int → Prop} (hr : ∀ i L, rc (p ++ [(i : Int)]) = some L → ∀ q ∈ L, Pr q) : ∀ (is : List Nat) (L : List (List Int)), goL rc may p is = some L → ∀ q ∈ L, Pr q
 | [], L, h, q, hq => by simp [goL] at h; subst h; cases hq
 | i :: is, L, h, q, hq => by
  unfold goL at h
  cases hm : may p (i : Int) with
  | none => rw [hm] at h; cases h
  | some b =>
   rw [hm, Option.bind_some] at h
   cases b with
   | false => exact uB hr is L h q hq
   | true =>
    rw [cond_true] at h
    cases ha : rc (p ++ [(i : Int)]) with
    | none => rw [ha] at h; cases h
    | some a =>
     rw [ha, Option.bind_some] at h
     cases hg : goL rc may p is with
     | none => rw [hg] at h; cases h
     | some r =>
      rw [hg, Option.bind_some] at h
      cases h
      rcases List.mem_append.1 hq with hq | hq
      ·exact hr i a ha q hq
      ·exact uB hr is r hg q hq
theorem Rn {may : List Int → Int → Option Bool} {lim : Nat} : ∀ (d : Nat) (p : List Int) (L : List (List Int)), listsO may lim d p = some L → ∀ q ∈ L, q.length = p.length + d
 | 0, p, L, h, q, hq => by
  simp [listsO] at h; subst h
  rw [List.mem_singleton.1 hq]; rfl
 | d + 1, p, L, h, q, hq => by
  unfold listsO at h
  exact uB (Pr := fun q => q.length = p.length + (d + 1)) (fun i L' h' q' hq' => by rw [Rn d _ L' h' q' hq']; simp; omega) _ L h q hq
end Go.V
namespace Go.V
theorem ktreeR {P : Program} {G : Glob} {γ : Nat} {tm : Nat → VV} {H : Nat → Option VObj} {nx : Nat} {df : List VDef} {d : Option Tmp} {K : St → Prop} {Qp : VV → St → Prop} {f : FuncId} {args : List VV} {x : VV} (ht : treeL args = true) (hp : ad P G f args (.tree x)) (h : fin d γ tm H nx df K x .none) : callK P G f args ⟨tm, H, nx, df⟩ d γ K Qp := by
 refine .inl ⟨ht, .tree x, hp, ?_⟩
 rw [← jR (K := K), jQ] at h
 exact h
end Go.V
namespace Go.V
theorem Frozen.ptr {H H' : Nat → Option VObj} {γ : Nat} {el : Option TypeId} {cs : List VV} (hγ : H γ = some (.cells el cs)) (hn : (H' γ).isSome = false) (ht : treeL cs = true) : Frozen H H' (.ptr γ 0) (.tp cs) := by
 refine .inr (.inr ⟨cs.length + 2, ?_⟩)
 have hg : gone H H' γ = some (.cells el cs) := by simp [gone, hn, hγ]
 unfold sealV
 have : (VV.ptr γ 0).tree = false := rfl
 rw [this]
 simp only [Bool.false_eq_true, if_false, hg, Nat.zero_le, if_true, List.drop_zero]
 rw [u9 cs _ ht (by omega)]
 rfl
end Go.V
end
section
set_option linter.defProp false
namespace Go.V
open Go Go.Proofs IntKind
def kIdx {K : Type} (q : K → K → Bool) (k : K) : List K → Nat → Option Nat
 | [], _ => none
 | e :: es, i => cond (q k e) (some i) (kIdx q k es (i + 1))
theorem Gc {K : Type} {q : K → K → Bool} {k : K} : ∀ (es : List K) (i j : Nat), kIdx q k es i = some j → i ≤ j ∧ ∃ e, es[j - i]? = some e ∧ q k e = true
 | [], _, _, h => by cases h
 | e :: es, i, j, h => by
  unfold kIdx at h
  cases hq : q k e with
  | true =>
   rw [hq] at h
   simp only [cond_true, Option.some.injEq] at h
   subst h
   exact ⟨Nat.le_refl _, e, by simp, hq⟩
  | false =>
   rw [hq] at h
   simp only [cond_false] at h
   obtain ⟨h1, x, h2, h3⟩ := Gc es (i + 1) j h
   refine ⟨by omega, x, ?_, h3⟩
   rw [show j - i = (j - (i + 1)) + 1 by omega]
   simpa using h2
def mapGet {K V : Type} (q : K → K → Bool) (z : V) (l : List (K × V)) (k : K) : V := match kIdx q k (l.map (·.1)) 0 with
 | some i => match l[i]? with | some p => p.2 | none => z
 | none => z
def mapSet {K V : Type} (q : K → K → Bool) (l : List (K × V)) (k : K) (v : V) : List (K × V) := match kIdx q k (l.map (·.1)) 0 with
 | some i => l.set i (k, v)
 | none => l ++ [(k, v)]
def encM {K V : Type} (kv : K → Value) (ev : V → VV) (l : List (K × V)) : List (Value × VV) := l.map fun p => (kv p.1, ev p.2)
section
variable {P : Program} {K V : Type} {q : K → K → Bool} {kv : K → Value} {ev : V → VV} {t kt et : TypeId} {H : Nat → Option VObj} {β : Nat}
theorem Ro (he : ∀ a b, aD P (Op.equal kt (kv a) (kv b)) = some (q a b)) (k : K) : ∀ (ks : List K) (i : Nat), aD P (Instr.findAsking kt (kv k) ((ks.map kv).map dummy) i) = some ((kIdx q k ks i).map fun j => (j, Value.bool false))
 | [], i => rfl
 | e :: es, i => by
  simp only [List.map_cons, Instr.findAsking, kIdx]
  rw [ec]
  have h0 : aD P (Op.equal kt (kv k) (dummy (kv e)).key) = some (q k e) := he k e
  rw [h0, Option.bind_some]
  cases q k e with
  | true => rfl
  | false => exact Ro he k es (i + 1)
theorem yZ {fs : Array Field} (hu : P.underlying kt = some (.struct fs)) (he : ∀ a b, aD P (Op.equal kt (kv a) (kv b)) = some (q a b)) (k : K) (ks : List K) : kfind P kt (kv k) (ks.map kv) = some (kIdx q k ks 0) := by
 unfold kfind Instr.findKey
 rw [ec, wX hu, Option.bind_some]
 have ha := Ro he k ks 0
 cases ks with
 | nil => rfl
 | cons e es =>
  have hn : Instr.findNow (.struct fs) (kv k) (((e :: es).map kv).map dummy) 0 = none := by
   simp only [List.map_cons, Instr.findNow]
   have : Instr.sameNow (.struct fs) (kv k) (dummy (kv e)).key = none := by cases kv k <;> rfl
   rw [this]
  rw [hn]
  simp only []
  rw [ha]
  cases kIdx q k (e :: es) 0 <;> rfl
theorem Rq {l : List (K × V)} : (encM kv ev l).map (·.1) = (l.map (·.1)).map kv := by simp [encM, Function.comp_def]
theorem Gd {fs : Array Field} {z : V} (hm : P.underlying t = some (.map kt et)) (hu : P.underlying kt = some (.struct fs)) (he : ∀ a b, aD P (Op.equal kt (kv a) (kv b)) = some (q a b)) (hc : ∀ b k, aD P (Instr.checkKey b 10000 kt (kv k)) = some ())
  (hz : ((P.info? et).bind (·.zero)).map ofVal2 = some (ev z)) {l : List (K × V)} {kx : VV} {k : K} (hk : kx.val? = some (kv k)) (hb : H β = some (.map (encM kv ev l))) :
  vlookup P H t (.mp β) kx false = some (ev (mapGet q z l k)) := by
 unfold vlookup
 rw [hm, hk]
 simp only [mapOf, hb]
 rw [hc, Rq, yZ hu he]
 cases hzz : (P.info? et).bind (·.zero) with
 | none => rw [hzz] at hz; cases hz
 | some z0 =>
  rw [hzz] at hz
  simp only [Option.map_some, Option.some.injEq] at hz
  unfold mapGet
  cases hi : kIdx q k (l.map (·.1)) 0 with
  | none => simp only [Bool.false_eq_true, if_false]; exact congrArg some hz
  | some i =>
   obtain ⟨_, e, h1, _⟩ := Gc _ _ _ hi
   rw [Nat.sub_zero, List.getElem?_map] at h1
   cases hl : l[i]? with
   | none => rw [hl] at h1; cases h1
   | some p =>
    have : (encM kv ev l)[i]? = some (kv p.1, ev p.2) := by unfold encM; rw [List.getElem?_map, hl]; rfl
    simp only [this, hl, Bool.false_eq_true, if_false]
theorem Ge {fs : Array Field} (hm : P.underlying t = some (.map kt et)) (hu : P.underlying kt = some (.struct fs)) (he : ∀ a b, aD P (Op.equal kt (kv a) (kv b)) = some (q a b)) (hc : ∀ b k, aD P (Instr.checkKey b 10000 kt (kv k)) = some ())
  (hq : ∀ a b, q a b = true → a = b) (hs : ∀ a, Instr.sameBits 10000 (kv a) (kv a) = true) {l : List (K × V)} {kx : VV} {k : K} {v : V} (hk : kx.val? = some (kv k)) (hb : H β = some (.map (encM kv ev l))) :
  vmapUpdate P H t (.mp β) kx (ev v) = some (.upd β (.map (encM kv ev (mapSet q l k v)))) := by
 unfold vmapUpdate
 rw [hm, hk]
 simp only [hb]
 rw [hc, Rq, yZ hu he]
 unfold mapSet
 cases hi : kIdx q k (l.map (·.1)) 0 with
 | none => simp only [encM, List.map_append, List.map_cons, List.map_nil]
 | some i =>
  obtain ⟨_, e, h1, h2⟩ := Gc _ _ _ hi
  rw [Nat.sub_zero, List.getElem?_map] at h1
  cases hl : l[i]? with
  | none => rw [hl] at h1; cases h1
  | some p =>
   have h3 : (encM kv ev l)[i]? = some (kv p.1, ev p.2) := by unfold encM; rw [List.getElem?_map, hl]; rfl
   rw [hl] at h1
   simp only [Option.map_some, Option.some.injEq] at h1
   have h4 := hq _ _ h2
   subst h4
   subst h1
   simp only [h3, hs, if_true]
   simp only [encM, List.map_set]
end
section
variable {P : Program} {G : Glob} {γ : Nat} {tm : Nat → VV} {H : Nat → Option VObj} {nx : Nat} {df : List VDef} {K : St → Prop} {Kd : List Nat → List Nat → St → Prop} {Qp : VV → St → Prop}
 {d : Option Tmp} {ty : TypeId} {pos : String} {af : Array Edge} {g : Option (Nat × Bool)}
theorem UJ {t : TypeId} : aU P G γ ⟨d, .makeMap t none, ty, pos, af, g⟩ ⟨tm, H, nx, df⟩ K Qp = fin d γ tm H nx df K (.mp γ) (.new (.map [])) := by
 rw [jJ (by simp) (by simp) (by simp)]; rfl
theorem Gg {t : TypeId} {x k : Operand} {ok : Bool} : aU P G γ ⟨d, .lookup t x k ok, ty, pos, af, g⟩ ⟨tm, H, nx, df⟩ K Qp = oK (vlookup P H t (ev G tm x) (ev G tm k) ok) (fun y => fin d γ tm H nx df K y .none) := by
 rw [jJ (by simp) (by simp) (by simp)]; simp only [vop]; exact rr
def umK (o : Option VEff) (k : VEff → Prop) : Prop := match o with | some e => k e | none => False
theorem Gh {e : VEff} {k : VEff → Prop} : umK (some e) k = k e := rfl
theorem UK {t : TypeId} {m k x : Operand} : aU P G γ ⟨d, .mapUpdate t m k x, ty, pos, af, g⟩ ⟨tm, H, nx, df⟩ K Qp = umK (vmapUpdate P H t (ev G tm m) (ev G tm k) (ev G tm x)) (fun e => fin d γ tm H nx df K .any e) := by
 rw [jJ (by simp) (by simp) (by simp)]; simp only [vop]
 cases vmapUpdate P H t (ev G tm m) (ev G tm k) (ev G tm x) <;> rfl
theorem Gj : ev G tm (.const (.map none)) = .lit (.map none) := rfl
theorem jg {K V : Type} {kv : K → Value} {ew : V → VV} : encM kv ew [] = [] := rfl
def mq := (And.intro (And.intro @UJ @Gg) (And.intro @UK (And.intro @Gh @Gj)))
end
end Go.V
end
section
set_option linter.defProp false
namespace Go.V
open Go Go.Proofs IntKind
def RM (y x : VV) (H : Nat → Option VObj) (_ : Nat) : Prop := ∃ β es, x = .mp β ∧ H β = some (.map es) ∧ treeL (es.map (·.2)) = true ∧ y = .mt (es.map (·.1)) (es.map (·.2))
theorem ad.of_openM {P : Program} {G : Glob} {f : FuncId} {args : List VV} {y : VV} (h : aE P G f args (fun _ => none) 0 (RM y) (fun _ _ _ => False)) : ad P G f args (.tree y) := by
 refine ⟨h.1, fun A W vs hA hG hargs => (h.2 (PCtx A) W vs (wY hA) rfl (fun β hb => hb.elim) hG hargs).mono ?_⟩
 rintro e W' ⟨c', H', nx', hext, hs', hH', hu, hu', hle, hres⟩
 have hbelow := wZ hext
 have hge : ∀ β, c'.live β → W.heap.size ≤ c'.φ β := by
  intro β hl
  rcases Nat.lt_or_ge (c'.φ β) W.heap.size with h | h
  ·obtain ⟨γ, hγ, _⟩ := hext.old β hl h
   simp [PCtx, Ctx.live] at hγ
  ·exact h
 have hold : ∀ b, c'.A b → A b ∨ W.heap.size ≤ b := by
  intro b hb
  rcases hext.newA b hb with h | h | ⟨β, h, _⟩
  ·exact .inl h
  ·exact .inr h
  ·simp [PCtx, Ctx.live] at h
 have held : ∀ {H0 : Nat → Option VObj}, al H0 c'.H → ∀ b, heldIn c' H0 b → A b ∨ W.heap.size ≤ b := by
  intro H0 hsub b hb
  rcases hb with h | ⟨β, h, e⟩
  ·exact hold b h
  ·exact .inr (e ▸ hge β (hsub.live h))
 have heldlt : ∀ {H0 : Nat → Option VObj}, al H0 c'.H → ∀ b, heldIn c' H0 b → b < W'.heap.size := by
  intro H0 hsub b hb
  rcases hb with h | ⟨β, h, e⟩
  ·exact hs'.ltA b h
  ·exact e ▸ hs'.lt β (hsub.live h)
 rcases hres with ⟨x, v, rfl, hrv, β, es, rfl, hβ, ht, rfl⟩ | ⟨x, v, rfl, hv, hF⟩
 ·subst hH'
  refine ⟨heldIn c' c'.H, fun b hb => .inl (hext.A b hb), held (al.refl _), heldlt (al.refl _), hbelow, v, rfl, ?_⟩
  have hv : v = .map (some (c'.φ β)) := hrv.2 (by simp [Ctx.live, hβ])
  obtain ⟨ents, clk, h1, h2, h3⟩ := hs'.obj β _ hβ
  have ab : Abides (PCtx c'.A) W' (PCtx (heldIn c' c'.H)) W' := mm (fun b hb => Or.inl hb)
  exact ⟨_, hv, .inr ⟨β, by simp [hβ], rfl⟩, ents, clk, h1, h2, RepL.abides ab _ (nV ht h3)⟩
 ·exact hF.elim
theorem ad.runM {P : Program} {G : Glob} (hm : P.follows .mixedOrders = true) {f : FuncId} {fn : Func} {code : Code} {args : List VV} {y : VV} (hc : Callable P f) (hf : P.funcs[f]? = some fn) (hb : fn.body = some code)
  (hst : (decide (args.length ≤ fn.ntmps) && codeOk fn.ntmps code) = true) (h : CWp P (G.at (some none)) fn.ntmps code (OpenPostD P G fn (RM y) (fun _ _ _ => False)) { tm := aQ args, H := fun _ => none, nx := 0, df := [] }) : ad P G f args (.tree y) :=
 ad.of_openM (aE.run hm hc hf hb hst h)
def mtK {K V : Type} (kv : K → Value) (l : List (K × V)) : List Value := l.map fun p => kv p.1
def mtV {K V : Type} (ew : V → VV) (l : List (K × V)) : List VV := l.map fun p => ew p.2
theorem za {K V : Type} {ew : V → VV} (ht : ∀ v, (ew v).tree = true) : ∀ l : List (K × V), treeL (mtV ew l) = true
 | [] => rfl
 | p :: l => by
  show ((ew p.2).tree && treeL (mtV ew l)) = true
  rw [ht, za ht l]; rfl
theorem Gk {K V : Type} {kv : K → Value} {ew : V → VV} {β nx : Nat} {H : Nat → Option VObj} {l : List (K × V)} (ht : ∀ v, (ew v).tree = true) (hb : H β = some (.map (encM kv ew l))) : RM (.mt (mtK kv l) (mtV ew l)) (.mp β) H nx := by
 have e1 : (encM kv ew l).map (·.1) = mtK kv l := by simp [encM, mtK, Function.comp_def]
 have e2 : (encM kv ew l).map (·.2) = mtV ew l := by simp [encM, mtV, Function.comp_def]
 exact ⟨β, _, rfl, hb, by rw [e2]; exact za ht l, by rw [e1, e2]⟩
theorem Gl {K V : Type} {kv : K → Value} {ew : V → VV} {H : Nat → Option VObj} (l : List (K × V)) : mapOf H (.mt (mtK kv l) (mtV ew l)) = some (encM kv ew l) := by
 simp only [mapOf, mtK, mtV, encM, Option.some.injEq]
 induction l with
 | nil => rfl
 | cons p l ih => simp only [List.map_cons, List.zip_cons_cons, ih]
section
variable {P : Program} {K V : Type} {q : K → K → Bool} {kv : K → Value} {ew : V → VV} {t kt et : TypeId} {H : Nat → Option VObj}
theorem Gn {fs : Array Field} {z : V} (hm : P.underlying t = some (.map kt et)) (hu : P.underlying kt = some (.struct fs)) (he : ∀ a b, aD P (Op.equal kt (kv a) (kv b)) = some (q a b)) (hc : ∀ b k, aD P (Instr.checkKey b 10000 kt (kv k)) = some ())
  (hz : ((P.info? et).bind (·.zero)).map ofVal2 = some (ew z)) {l : List (K × V)} {kx : VV} {k : K} (hk : kx.val? = some (kv k)) :
  vlookup P H t (.mt (mtK kv l) (mtV ew l)) kx false = some (ew (mapGet q z l k)) := by
 have := Gd (H := fun _ => some (.map (encM kv ew l))) (β := 0) hm hu he hc hz hk rfl
 unfold vlookup at this ⊢
 rw [Gl]
 exact this
end
theorem Gp {ks : List Value} {vs : List VV} : (VV.mt ks vs).leaf = true := rfl
def mqm := @Gp
end Go.V
end
section
namespace Go.V
open Go Go.Proofs IntKind
section
variable {K V : Type} {q : K → K → Bool} {z : V}
def getR (q : K → K → Bool) (z : V) (k : K) : List (K × V) → V
 | [] => z
 | e :: l => if q k e.1 then e.2 else getR q z k l
def setR (q : K → K → Bool) (k : K) (v : V) : List (K × V) → List (K × V)
 | [] => [(k, v)]
 | e :: l => if q k e.1 then (k, v) :: l else e :: setR q k v l
theorem Gq (k : K) : ∀ (es : List K) (i : Nat), kIdx q k es (i + 1) = (kIdx q k es i).map (· + 1)
 | [], _ => rfl
 | e :: es, i => by
  unfold kIdx
  cases q k e with
  | true => rfl
  | false => exact Gq k es (i + 1)
theorem Gr (k : K) : ∀ l : List (K × V), mapGet q z l k = getR q z k l
 | [] => rfl
 | e :: l => by
  have ih := Gr k l
  unfold mapGet at ih ⊢
  rw [List.map_cons]
  unfold kIdx getR
  cases hq : q k e.1 with
  | true => rfl
  | false =>
   simp only [cond_false, Bool.false_eq_true, if_false]
   rw [Gq]
   cases h : kIdx q k (l.map (·.1)) 0 with
   | none => rw [h] at ih; exact ih
   | some i => rw [h] at ih; simpa using ih
theorem Rr (k : K) (v : V) : ∀ l : List (K × V), mapSet q l k v = setR q k v l
 | [] => rfl
 | e :: l => by
  have ih := Rr k v l
  unfold mapSet at ih ⊢
  rw [List.map_cons]
  unfold kIdx setR
  cases hq : q k e.1 with
  | true => rfl
  | false =>
   simp only [cond_false, Bool.false_eq_true, if_false]
   rw [Gq]
   cases h : kIdx q k (l.map (·.1)) 0 with
   | none => rw [h] at ih; simpa using ih
   | some i => rw [h] at ih; simpa using ih
theorem Rs (hq : ∀ a b, q a b = true ↔ a = b) (k k' : K) (v : V) : ∀ l : List (K × V), getR q z k' (setR q k v l) = if q k' k then v else getR q z k' l
 | [] => rfl
 | e :: l => by
  have ih := Rs hq k k' v l
  unfold setR
  cases he : q k e.1 with
  | true =>
   have e1 := (hq _ _).1 he
   simp only [if_true, getR, ← e1]
   split <;> rfl
  | false =>
   simp only [Bool.false_eq_true, if_false, getR, ih]
   cases h1 : q k' e.1 with
   | true =>
    have e1 := (hq _ _).1 h1
    have : q k' k = false := by
     cases h2 : q k' k with
     | false => rfl
     | true =>
      have e2 := (hq _ _).1 h2
      rw [e2] at e1
      rw [e1, (hq _ _).2 rfl] at he
      cases he
    rw [this]
    simp
   | false => simp
theorem Gv (hq : ∀ a b, q a b = true ↔ a = b) (k k' : K) (v : V) (l : List (K × V)) : mapGet q z (mapSet q l k v) k' = if q k' k then v else mapGet q z l k' := by
 rw [Gr, Gr, Rr, Rs hq]
end
end Go.V
end
section
set_option linter.defProp false
namespace Go.V
open Go Go.Proofs IntKind
theorem Gw {ks : List Value} {vs : List VV} : normV (.mt ks vs) = .mt ks vs := by simp [normV]
end Go.V
end
section
namespace Go.V
open Go Go.Proofs IntKind
def du (k : Gf) : Value := .agg ⟨[.int .i64 k.pigment, .int .i64 k.years]⟩
def cJ (a b : Gf) : Bool := (a.pigment == b.pigment) && ((a.years == b.years) && true)
def oJ (n : Bool) : VV := .lit (.bool n)
theorem sV (a b : Gf) : aD Tryz.prog (Op.equal 138 (du a) (du b)) = some (cJ a b) := by
 have e : Op.maxDepth = 9998 + 2 := rfl
 unfold Op.equal du
 rw [e, Gx Tryz.underlying138 (by kernel_rfl) (r := cJ a b) (by kernel_rfl)]
theorem sW (b : Bool) (k : Gf) : aD Tryz.prog (Instr.checkKey b 10000 138 (du k)) = some () := by
 cases b <;> kernel_rfl
theorem sX (a b : Gf) (h : cJ a b = true) : a = b := by
 cases a; cases b
 simp only [cJ, Bool.and_true, Bool.and_eq_true, beq_iff_eq] at h
 simp only [h]
theorem zb (a : Gf) : Instr.sameBits 10000 (du a) (du a) = true := by
 simp [du, Instr.sameBits]
theorem UL : ((Tryz.prog.info? 4).bind (·.zero)).map ofVal2 = some (oJ false) := by kernel_rfl
theorem zd (k : Gf) : VV.val? (.agg [.lit (.int .i64 k.pigment), .lit (.int .i64 k.years)]) = some (du k) := rfl
theorem oL {β : Nat} (l : List (Gf × Bool)) (k : Gf) (n : Bool) (H : Nat → Option VObj) (hb : H β = some (.map (encM du oJ l))) : vmapUpdate Tryz.prog H 135 (.mp β) (.agg [.lit (.int .i64 k.pigment), .lit (.int .i64 k.years)]) (.lit (.bool n)) = some (.upd β (.map (encM du oJ (mapSet cJ l k n)))) :=
 Ge Tryz.underlying135 Tryz.underlying138 sV sW sX zb (zd k) hb
theorem uC {l : List (Gf × Bool)} {a0 a1 : Int} {H : Nat → Option VObj} : vlookup Tryz.prog H 135 (.mt (mtK du l) (mtV oJ l)) (.agg [.lit (.int .i64 a0), .lit (.int .i64 a1)]) false = some (.lit (.bool (mapGet cJ false l (Gf.mk a0 a1)))) :=
 Gn Tryz.underlying135 Tryz.underlying138 sV sW UL (k := ⟨a0, a1⟩) rfl
theorem UM (n : Bool) : (oJ n).tree = true := rfl
def mqr := @Gw
def mqt := @uC
def nW (ah : Gm) (aG : Int) (bk : GSpan) (r1 : Int) : Nat → Int → Option (LOut (Bool) (Int))
 | 0, _ => none
 | k2 + 1, lf => cond (decide (lf ≤ ah.sh.Fade.a2.High)) (Option.bind (lO ah.sh.Old.a2 aG lf) (fun r8 => cond (decide ((i64.wrap ((i64.wrap (r1 * r8)) - (i64.wrap (r1 * ah.sh.Off)))) ≤ bk.High)) (cond (decide (bk.Low ≤ (i64.wrap ((i64.wrap (r1 * r8)) + (i64.wrap (r1 * ah.sh.Off)))))) (some (.ret true)) (nW ah aG bk r1 k2 (i64.wrap (lf + 1)))) (nW ah aG bk r1 k2 (i64.wrap (lf + 1))))) (some (.go lf))
def nX (ah : Gm) (aG : Int) (bk : GSpan) (r1 : Int) : Nat → Int → Option (LOut (Bool) (Int))
 | 0, _ => none
 | k1 + 1, lg => cond (decide (lg ≤ ah.sh.Fade.a1.High)) (Option.bind (lO ah.sh.Old.a1 aG lg) (fun r5 => cond (decide ((i64.wrap ((i64.wrap (r1 * r5)) - (i64.wrap (r1 * ah.sh.Off)))) ≤ bk.High)) (cond (decide (bk.Low ≤ (i64.wrap ((i64.wrap (r1 * r5)) + (i64.wrap (r1 * ah.sh.Off)))))) (some (.ret true)) (nX ah aG bk r1 k1 (i64.wrap (lg + 1)))) (nX ah aG bk r1 k1 (i64.wrap (lg + 1))))) (some (.go lg))
def nY (ah : Gm) (aG : Int) (bk : GSpan) (r1 : Int) : Nat → Int → Option (LOut (Bool) (Int))
 | 0, _ => none
 | k0 + 1, lh => cond (decide (lh ≤ ah.sh.Fade.a0.High)) (Option.bind (lO ah.sh.Old.a0 aG lh) (fun r2 => cond (decide ((i64.wrap ((i64.wrap (r1 * r2)) - (i64.wrap (r1 * ah.sh.Off)))) ≤ bk.High)) (cond (decide (bk.Low ≤ (i64.wrap ((i64.wrap (r1 * r2)) + (i64.wrap (r1 * ah.sh.Off)))))) (some (.ret true)) (nY ah aG bk r1 k0 (i64.wrap (lh + 1)))) (nY ah aG bk r1 k0 (i64.wrap (lh + 1))))) (some (.go lh))
def uD (ah : Gm) (aG : Int) (fS : Int) (bk : GSpan) : Option (Bool) := Option.bind (s7 ah) (fun r1 => cond (fS == 0) (aN (nY ah aG bk r1 1000000 ah.sh.Fade.a0.Low) (fun r4 => some r4) (fun c3 => some false) (fun _ _ => none)) (cond (fS == 1) (aN (nX ah aG bk r1 1000000 ah.sh.Fade.a1.Low) (fun r7 => some r7) (fun c6 => some false) (fun _ _ => none)) (cond (fS == 2) (aN (nW ah aG bk r1 1000000 ah.sh.Fade.a2.Low) (fun dG => some dG) (fun c9 => some false) (fun _ _ => none)) (none))))
theorem Gy (ah : Gm) (aG : Int) (fS : Int) (bk : GSpan) (R : Bool) (h : uD ah aG fS bk = some R) : ad Tryz.prog G0 122 [.agg (cGm ah), .lit (.int .i64 aG), .lit (.int .i64 fS), .agg (aK bk)] (.tree (.lit (.bool R))) := by
 refine ad.runR mixed Tryz.call122 Tryz.func122 rfl (by simp [Tryz.ntmps122]; kernel_rfl) ?_
 obtain ⟨KF, h, kF, kN⟩ := dp h
 simp only [uD] at h
 obtain ⟨eK, uj, h⟩ := optI h kN
 try simp only [hs] at h
 simp only [vz, tyf, nm, seval]
 refine ktA (Ch _ _ uj) ?_
 refine aZ (fun tm => tm 1 = .lit (.int .i64 aG) ∧ tm 2 = .lit (.int .i64 fS) ∧ tm 4 = .ptr 0 0 ∧ tm 7 = .ptr 1 0 ∧ tm 13 = .lit (.int .i64 eK) ∧ True) (by refine ⟨?_, ?_, ?_, ?_, ?_, trivial⟩ <;> first | (simp only [ua, nm, seval] <;> rfl) | rfl) ?_
 rintro tm ⟨ba, bj, bQ, bu, bC, _⟩
 cases cG : (fS == 0)
 ·simp only [cG, hs] at h
  cases cl : (fS == 1)
  ·simp only [cl, hs] at h
   cases cI : (fS == 2)
   ·simp only [cI, hs] at h
    exact absurd h kN
   simp only [cI, hs] at h
   simp only [vz, tyf, ba, bj, bQ, bu, bC, cG, cl, cI, (iD cI), nm, seval]
   obtain ⟨UN, h, Gz, G1, UO, ze⟩ := fp h kN
   obtain ⟨UP, G2, h⟩ := call2 h
   obtain ⟨UQ, ru⟩ : ∃ I : Nat → St → Prop, I = (fun m st => ∃ (rv : Nat) (gy : Int), rv = m ∧ st.df = [] ∧ 13 ≤ st.nx ∧ st.H 0 = some (.cells (some 89) (cGm ah)) ∧ st.H 1 = some (.cells (some 24) (aK bk)) ∧ st.tm 1 = .lit (.int .i64 aG) ∧ st.tm 2 = .lit (.int .i64 fS) ∧ st.tm 4 = .ptr 0 0 ∧ st.tm 7 = .ptr 1 0 ∧ st.tm 9 = .lit (.int .i64 eK) ∧ st.tm 10 = .lit (.int .i64 gy) ∧ UN (UP rv gy)) := ⟨_, rfl⟩
   refine loopK mixed (by kernel_rfl) UQ 1000000 (by rw [ru]; refine ⟨1000000, ah.sh.Fade.a2.Low, rfl, rfl, (show 13 ≤ 13 by omega), ?_, ?_, ba, bj, bQ, bu, ?_, ?_, h⟩ <;> first | (simp only [ua, ba, bj, bQ, bu, bC, cG, cl, cI, nm, seval] <;> rfl) | rfl) ?_
   rintro m ⟨tm, H, uE, df⟩ hinv
   rw [ru] at hinv
   obtain ⟨rv, gy, rfl, hdf, G3, G4, wN, cF, cD, cH, bY, bE, bA, h⟩ := hinv
   simp only at hdf G3 G4 wN cF cD cH bY bE bA
   have Rt := fu (m := 13) (b := uE) (by omega)
   subst hdf G2
   cases rv with
   | zero =>
    simp only [nY, nX, nW, hs, reduceCtorEq] at h
    exact absurd h ze
   | succ rv =>
    simp only [nY, nX, nW, hs, reduceCtorEq] at h
    cases lS : (decide (gy ≤ ah.sh.Fade.a2.High))
    ·simp only [lS, hs] at h
     have js := And.intro cG (And.intro cl (And.intro cI (And.intro Rt (And.intro G4 (And.intro wN lS)))))
     replace h := G1 _ h
     try dsimp only at h
     try simp only [hs] at h
     try simp only [vz, tyf, js, (iD cI), cF, cD, cH, bY, bE, bA, nm, seval]
     obtain rfl := kF _ h
     exact bB Tryz.results122 rfl
    simp only [lS, hs] at h
    have uF := And.intro cG (And.intro cl (And.intro cI (And.intro Rt (And.intro G4 (And.intro wN lS)))))
    obtain ⟨zf, G5, h⟩ := optI h ze
    try simp only [hs] at h
    simp only [vz, tyf, uF, (iD cI), cF, cD, cH, bY, bE, bA, (lT cI), nm, seval]
    refine ktA (ra _ _ _ _ G5) ?_
    refine aZ (fun tm => tm 1 = .lit (.int .i64 aG) ∧ tm 2 = .lit (.int .i64 fS) ∧ tm 4 = .ptr 0 0 ∧ tm 7 = .ptr 1 0 ∧ tm 9 = .lit (.int .i64 eK) ∧ tm 10 = .lit (.int .i64 gy) ∧ tm 30 = .lit (.int .i64 eK) ∧ tm 38 = .lit (.int .i64 zf) ∧ True) (by refine ⟨cF, cD, cH, bY, bE, bA, ?_, ?_, trivial⟩ <;> first | (simp only [ua, uF, cF, cD, cH, bY, bE, bA, nm, seval] <;> rfl) | rfl) ?_
    rintro tm ⟨dP, eu, dq, cR, cb, cU, cV, dQ, _⟩
    cases md : (decide ((i64.wrap ((i64.wrap (eK * zf)) - (i64.wrap (eK * ah.sh.Off)))) ≤ bk.High))
    ·simp only [md, hs] at h
     simp only [vz, tyf, uF, (iD cI), (lT cI), dP, eu, dq, cR, cb, cU, cV, dQ, md, nm, seval]
     exact ⟨rv, Nat.lt_succ_self _, by rw [ru]; refine ⟨rv, i64.wrap (gy + 1), rfl, rfl, (show 13 ≤ uE + 44 by omega), ?_, ?_, dP, eu, dq, cR, cb, ?_, h⟩ <;> first | (simp only [ua, uF, dP, eu, dq, cR, cb, cU, cV, dQ, md, nm, seval] <;> rfl) | rfl⟩
    simp only [md, hs] at h
    cases gz : (decide (bk.Low ≤ (i64.wrap ((i64.wrap (eK * zf)) + (i64.wrap (eK * ah.sh.Off))))))
    ·simp only [gz, hs] at h
     simp only [vz, tyf, uF, (iD cI), (lT cI), dP, eu, dq, cR, cb, cU, cV, dQ, md, gz, nm, seval]
     exact ⟨rv, Nat.lt_succ_self _, by rw [ru]; refine ⟨rv, i64.wrap (gy + 1), rfl, rfl, (show 13 ≤ uE + 44 by omega), ?_, ?_, dP, eu, dq, cR, cb, ?_, h⟩ <;> first | (simp only [ua, uF, dP, eu, dq, cR, cb, cU, cV, dQ, md, gz, nm, seval] <;> rfl) | rfl⟩
    simp only [gz, hs] at h
    try simp only [vz, tyf, uF, (iD cI), (lT cI), dP, eu, dq, cR, cb, cU, cV, dQ, md, gz, nm, seval]
    replace h := Gz _ h
    try dsimp only at h
    obtain rfl := kF _ h
    exact bB Tryz.results122 rfl
  simp only [cl, hs] at h
  simp only [vz, tyf, ba, bj, bQ, bu, bC, cG, cl, (iE cl), nm, seval]
  obtain ⟨UR, h, G6, G7, US, zg⟩ := fp h kN
  obtain ⟨UT, G8, h⟩ := call2 h
  obtain ⟨UU, rz⟩ : ∃ I : Nat → St → Prop, I = (fun m st => ∃ (rA : Nat) (gA : Int), rA = m ∧ st.df = [] ∧ 13 ≤ st.nx ∧ st.H 0 = some (.cells (some 89) (cGm ah)) ∧ st.H 1 = some (.cells (some 24) (aK bk)) ∧ st.tm 1 = .lit (.int .i64 aG) ∧ st.tm 2 = .lit (.int .i64 fS) ∧ st.tm 4 = .ptr 0 0 ∧ st.tm 7 = .ptr 1 0 ∧ st.tm 9 = .lit (.int .i64 eK) ∧ st.tm 10 = .lit (.int .i64 gA) ∧ UR (UT rA gA)) := ⟨_, rfl⟩
  refine loopK mixed (by kernel_rfl) UU 1000000 (by rw [rz]; refine ⟨1000000, ah.sh.Fade.a1.Low, rfl, rfl, (show 13 ≤ 13 by omega), ?_, ?_, ba, bj, bQ, bu, ?_, ?_, h⟩ <;> first | (simp only [ua, ba, bj, bQ, bu, bC, cG, cl, nm, seval] <;> rfl) | rfl) ?_
  rintro m ⟨tm, H, uG, df⟩ hinv
  rw [rz] at hinv
  obtain ⟨rA, gA, rfl, hdf, G9, qg, qh, fe, cL, cM, cS, dc, dH, h⟩ := hinv
  simp only at hdf G9 qg qh fe cL cM cS dc dH
  have zh := fu (m := 13) (b := uG) (by omega)
  subst hdf G8
  cases rA with
  | zero =>
   simp only [nY, nX, nW, hs, reduceCtorEq] at h
   exact absurd h zg
  | succ rA =>
   simp only [nY, nX, nW, hs, reduceCtorEq] at h
   cases ir : (decide (gA ≤ ah.sh.Fade.a1.High))
   ·simp only [ir, hs] at h
    replace h := G7 _ h
    try dsimp only at h
    try simp only [hs] at h
    try simp only [vz, tyf, cG, cl, (iE cl), zh, fe, cL, cM, cS, dc, dH, qg, qh, ir, nm, seval]
    obtain rfl := kF _ h
    exact bB Tryz.results122 rfl
   simp only [ir, hs] at h
   obtain ⟨mU, zi, h⟩ := optI h zg
   try simp only [hs] at h
   simp only [vz, tyf, cG, cl, (iE cl), zh, fe, cL, cM, cS, dc, dH, qg, qh, ir, (lU cl), nm, seval]
   refine ktA (ra _ _ _ _ zi) ?_
   refine aZ (fun tm => tm 1 = .lit (.int .i64 aG) ∧ tm 2 = .lit (.int .i64 fS) ∧ tm 4 = .ptr 0 0 ∧ tm 7 = .ptr 1 0 ∧ tm 9 = .lit (.int .i64 eK) ∧ tm 10 = .lit (.int .i64 gA) ∧ tm 30 = .lit (.int .i64 eK) ∧ tm 38 = .lit (.int .i64 mU) ∧ True) (by refine ⟨fe, cL, cM, cS, dc, dH, ?_, ?_, trivial⟩ <;> first | (simp only [ua, cG, cl, zh, fe, cL, cM, cS, dc, dH, qg, qh, ir, nm, seval] <;> rfl) | rfl) ?_
   rintro tm ⟨hO, fN, jn, fO, dR, d7, dJ, dS, _⟩
   cases C8 : (decide ((i64.wrap ((i64.wrap (eK * mU)) - (i64.wrap (eK * ah.sh.Off)))) ≤ bk.High))
   ·simp only [C8, hs] at h
    have Ru := And.intro cG (And.intro cl (And.intro zh (And.intro qg (And.intro qh (And.intro ir C8)))))
    simp only [vz, tyf, Ru, (iE cl), (lU cl), hO, fN, jn, fO, dR, d7, dJ, dS, nm, seval]
    exact ⟨rA, Nat.lt_succ_self _, by rw [rz]; refine ⟨rA, i64.wrap (gA + 1), rfl, rfl, (show 13 ≤ uG + 44 by omega), ?_, ?_, hO, fN, jn, fO, dR, ?_, h⟩ <;> first | (simp only [ua, Ru, hO, fN, jn, fO, dR, d7, dJ, dS, nm, seval] <;> rfl) | rfl⟩
   simp only [C8, hs] at h
   have GA := And.intro cG (And.intro cl (And.intro zh (And.intro qg (And.intro qh (And.intro ir C8)))))
   cases kS : (decide (bk.Low ≤ (i64.wrap ((i64.wrap (eK * mU)) + (i64.wrap (eK * ah.sh.Off))))))
   ·simp only [kS, hs] at h
    simp only [vz, tyf, GA, (iE cl), (lU cl), hO, fN, jn, fO, dR, d7, dJ, dS, kS, nm, seval]
    exact ⟨rA, Nat.lt_succ_self _, by rw [rz]; refine ⟨rA, i64.wrap (gA + 1), rfl, rfl, (show 13 ≤ uG + 44 by omega), ?_, ?_, hO, fN, jn, fO, dR, ?_, h⟩ <;> first | (simp only [ua, GA, hO, fN, jn, fO, dR, d7, dJ, dS, kS, nm, seval] <;> rfl) | rfl⟩
   simp only [kS, hs] at h
   try simp only [vz, tyf, GA, (iE cl), (lU cl), hO, fN, jn, fO, dR, d7, dJ, dS, kS, nm, seval]
   replace h := G6 _ h
   try dsimp only at h
   obtain rfl := kF _ h
   exact bB Tryz.results122 rfl
 simp only [cG, hs] at h
 simp only [vz, tyf, ba, bj, bQ, bu, bC, cG, (iF cG), nm, seval]
 obtain ⟨UW, h, GB, GC, UX, zj⟩ := fp h kN
 obtain ⟨UY, GD, h⟩ := call2 h
 obtain ⟨UZ, rB⟩ : ∃ I : Nat → St → Prop, I = (fun m st => ∃ (rC : Nat) (gB : Int), rC = m ∧ st.df = [] ∧ 13 ≤ st.nx ∧ st.H 0 = some (.cells (some 89) (cGm ah)) ∧ st.H 1 = some (.cells (some 24) (aK bk)) ∧ st.tm 1 = .lit (.int .i64 aG) ∧ st.tm 2 = .lit (.int .i64 fS) ∧ st.tm 4 = .ptr 0 0 ∧ st.tm 7 = .ptr 1 0 ∧ st.tm 9 = .lit (.int .i64 eK) ∧ st.tm 10 = .lit (.int .i64 gB) ∧ UW (UY rC gB)) := ⟨_, rfl⟩
 refine loopK mixed (by kernel_rfl) UZ 1000000 (by rw [rB]; refine ⟨1000000, ah.sh.Fade.a0.Low, rfl, rfl, (show 13 ≤ 13 by omega), ?_, ?_, ba, bj, bQ, bu, ?_, ?_, h⟩ <;> first | (simp only [ua, ba, bj, bQ, bu, bC, cG, nm, seval] <;> rfl) | rfl) ?_
 rintro m ⟨tm, H, uH, df⟩ hinv
 rw [rB] at hinv
 obtain ⟨rC, gB, rfl, hdf, GF, sY, sZ, dI, dw, eQ, eR, eC, ik, h⟩ := hinv
 simp only at hdf GF sY sZ dI dw eQ eR eC ik
 have uI := fu (m := 13) (b := uH) (by omega)
 subst hdf GD
 cases rC with
 | zero =>
  simp only [nY, nX, nW, hs, reduceCtorEq] at h
  exact absurd h zj
 | succ rC =>
  simp only [nY, nX, nW, hs, reduceCtorEq] at h
  cases gV : (decide (gB ≤ ah.sh.Fade.a0.High))
  ·simp only [gV, hs] at h
   replace h := GC _ h
   try dsimp only at h
   try simp only [hs] at h
   try simp only [vz, tyf, cG, (iF cG), uI, dI, dw, eQ, eR, eC, ik, sY, sZ, gV, nm, seval]
   obtain rfl := kF _ h
   exact bB Tryz.results122 rfl
  simp only [gV, hs] at h
  obtain ⟨GG, Va, h⟩ := optI h zj
  try simp only [hs] at h
  simp only [vz, tyf, cG, (iF cG), uI, dI, dw, eQ, eR, eC, ik, sY, sZ, gV, (lV cG), nm, seval]
  refine ktA (ra _ _ _ _ Va) ?_
  refine aZ (fun tm => tm 1 = .lit (.int .i64 aG) ∧ tm 2 = .lit (.int .i64 fS) ∧ tm 4 = .ptr 0 0 ∧ tm 7 = .ptr 1 0 ∧ tm 9 = .lit (.int .i64 eK) ∧ tm 10 = .lit (.int .i64 gB) ∧ tm 30 = .lit (.int .i64 eK) ∧ tm 38 = .lit (.int .i64 GG) ∧ True) (by refine ⟨dI, dw, eQ, eR, eC, ik, ?_, ?_, trivial⟩ <;> first | (simp only [ua, cG, uI, dI, dw, eQ, eR, eC, ik, sY, sZ, gV, nm, seval] <;> rfl) | rfl) ?_
  rintro tm ⟨jt, ke, gU, iG, lQ, fx, fy, eT, _⟩
  cases nZ : (decide ((i64.wrap ((i64.wrap (eK * GG)) - (i64.wrap (eK * ah.sh.Off)))) ≤ bk.High))
  ·simp only [nZ, hs] at h
   simp only [vz, tyf, cG, (iF cG), uI, sY, sZ, gV, (lV cG), jt, ke, gU, iG, lQ, fx, fy, eT, nZ, nm, seval]
   exact ⟨rC, Nat.lt_succ_self _, by rw [rB]; refine ⟨rC, i64.wrap (gB + 1), rfl, rfl, (show 13 ≤ uH + 44 by omega), ?_, ?_, jt, ke, gU, iG, lQ, ?_, h⟩ <;> first | (simp only [ua, cG, uI, sY, sZ, gV, jt, ke, gU, iG, lQ, fx, fy, eT, nZ, nm, seval] <;> rfl) | rfl⟩
  simp only [nZ, hs] at h
  cases C9 : (decide (bk.Low ≤ (i64.wrap ((i64.wrap (eK * GG)) + (i64.wrap (eK * ah.sh.Off))))))
  ·simp only [C9, hs] at h
   have Rv := And.intro cG (And.intro uI (And.intro sY (And.intro sZ (And.intro gV (And.intro nZ C9)))))
   simp only [vz, tyf, Rv, (iF cG), (lV cG), jt, ke, gU, iG, lQ, fx, fy, eT, nm, seval]
   exact ⟨rC, Nat.lt_succ_self _, by rw [rB]; refine ⟨rC, i64.wrap (gB + 1), rfl, rfl, (show 13 ≤ uH + 44 by omega), ?_, ?_, jt, ke, gU, iG, lQ, ?_, h⟩ <;> first | (simp only [ua, Rv, jt, ke, gU, iG, lQ, fx, fy, eT, nm, seval] <;> rfl) | rfl⟩
  simp only [C9, hs] at h
  have oM := And.intro cG (And.intro uI (And.intro sY (And.intro sZ (And.intro gV (And.intro nZ C9)))))
  try simp only [vz, tyf, oM, (iF cG), (lV cG), jt, ke, gU, iG, lQ, fx, fy, eT, nm, seval]
  replace h := GB _ h
  try dsimp only at h
  obtain rfl := kF _ h
  exact bB Tryz.results122 rfl
def oN (ah : Gm) (r1 : Ga) : Nat → Int → (List (Gf × Bool)) → Option (LOut (List (Gf × Bool)) (Int × (List (Gf × Bool))))
 | 0, _, _ => none
 | k2 + 1, oO, ta => cond (decide (oO ≤ ah.sh.Years.High)) (Option.bind (uD ah oO 2 r1.a2) (fun r7 => oN ah r1 k2 (i64.wrap (oO + 1)) (mapSet cJ ta (Gf.mk 2 oO) r7))) (some (.go (oO, ta)))
def oP (ah : Gm) (r1 : Ga) : Nat → Int → (List (Gf × Bool)) → Option (LOut (List (Gf × Bool)) (Int × (List (Gf × Bool))))
 | 0, _, _ => none
 | k1 + 1, oQ, iI => cond (decide (oQ ≤ ah.sh.Years.High)) (Option.bind (uD ah oQ 1 r1.a1) (fun r5 => oP ah r1 k1 (i64.wrap (oQ + 1)) (mapSet cJ iI (Gf.mk 1 oQ) r5))) (some (.go (oQ, iI)))
def oR (ah : Gm) (r1 : Ga) : Nat → Int → (List (Gf × Bool)) → Option (LOut (List (Gf × Bool)) (Int × (List (Gf × Bool))))
 | 0, _, _ => none
 | k0 + 1, fT, dv => cond (decide (fT ≤ ah.sh.Years.High)) (Option.bind (uD ah fT 0 r1.a0) (fun r3 => oR ah r1 k0 (i64.wrap (fT + 1)) (mapSet cJ dv (Gf.mk 0 fT) r3))) (some (.go (fT, dv)))
def zk (ah : Gm) : Option (List (Gf × Bool)) := Option.bind (wu ah) (fun r1 => aN (oR ah r1 1000000 ah.sh.Years.Low ([] : List (Gf × Bool))) (fun eK => some eK) (fun c4 => aN (oP ah r1 1000000 ah.sh.Years.Low c4.2) (fun dG => some dG) (fun c6 => aN (oN ah r1 1000000 ah.sh.Years.Low c6.2) (fun r9 => some r9) (fun c8 => some c8.2) (fun _ _ => none)) (fun _ _ => none)) (fun _ _ => none))
theorem Vb (ah : Gm) (R : List (Gf × Bool)) (h : zk ah = some R) : ad Tryz.prog G0 103 [.agg (cGm ah)] (.tree (.mt (mtK du R) (mtV oJ R))) := by
 refine ad.runM mixed Tryz.call103 Tryz.func103 rfl (by simp [Tryz.ntmps103]; kernel_rfl) ?_
 obtain ⟨KF, h, kF, kN⟩ := dp h
 simp only [zk] at h
 obtain ⟨jP, qd, h⟩ := optI h kN
 try simp only [hs] at h
 simp only [vz, mq, mqm, tyf, mqt, nm, seval]
 refine ktree (args0 := [.agg (cGm ah)]) (by first | (simp only [nrm, au, mqr] <;> rfl) | rfl) (by simp only [tre, ar, mqr, Bool.and_self]) (QG _ _ qd) ?_
 refine aZ (fun tm => tm 1 = .ptr 0 0 ∧ tm 3 = .mp 2 ∧ tm 9 = .agg (cGa jP) ∧ True) (by refine ⟨?_, ?_, ?_, trivial⟩ <;> first | (simp only [ua, jg, nm, seval] <;> rfl) | rfl) ?_
 rintro tm ⟨bj, bQ, bu, _⟩
 simp only [vz, mq, mqm, tyf, mqt, bj, bQ, bu, nm, seval]
 refine qN mixed (by kernel_rfl) 4 ?_
 simp only [vz, mq, mqm, tyf, mqt, bj, bQ, bu, nm, seval]
 obtain ⟨Vc, h, Vd, GH, Ve, zl⟩ := fp h kN
 obtain ⟨Vf, GI, h⟩ := call3 h
 obtain ⟨Vg, uJ⟩ : ∃ I : Nat → St → Prop, I = (fun m st => ∃ (uK : Nat) (gg : Int) (iu : List (Gf × Bool)), uK = m ∧ st.df = [] ∧ 18 ≤ st.nx ∧ st.H 0 = some (.cells (some 89) (cGm ah)) ∧ st.H 2 = some (.map (encM du oJ iu)) ∧ st.H 10 = some (.cells (some 24) (aK jP.a0)) ∧ st.tm 1 = .ptr 0 0 ∧ st.tm 3 = .mp 2 ∧ st.tm 4 = .lit (.int .i64 0) ∧ st.tm 5 = .ptr 10 0 ∧ st.tm 9 = .agg (cGa jP) ∧ st.tm 10 = .lit (.int .i64 0) ∧ st.tm 6 = .lit (.int .i64 gg) ∧ Vc (Vf uK gg iu)) := ⟨_, rfl⟩
 refine loopK mixed (by kernel_rfl) Vg 1000000 (by rw [uJ]; refine ⟨1000000, ah.sh.Years.Low, ([] : List (Gf × Bool)), rfl, rfl, (show 18 ≤ 18 by omega), ?_, ?_, ?_, bj, bQ, ?_, ?_, bu, ?_, ?_, h⟩ <;> first | (simp only [ua, jg, bj, bQ, bu, nm, seval] <;> rfl) | rfl) ?_
 rintro m ⟨tm, H, ju, df⟩ hinv
 rw [uJ] at hinv
 obtain ⟨uK, gg, iu, rfl, hdf, GJ, mn, mo, uL, bz, bK, bD, cF, cD, cH, bY, h⟩ := hinv
 simp only at hdf GJ mn mo uL bz bK bD cF cD cH bY
 have tc := fu (m := 18) (b := ju) (by omega)
 subst hdf GI
 cases uK with
 | zero =>
  simp only [oR, oP, oN, hs, reduceCtorEq] at h
  exact absurd h zl
 | succ uK =>
  simp only [oR, oP, oN, hs, reduceCtorEq] at h
  cases en : (decide (gg ≤ ah.sh.Years.High))
  ·simp only [en, hs] at h
   replace h := GH _ h
   try dsimp only at h
   try simp only [hs] at h
   simp only [vz, mq, mqm, tyf, mqt, tc, bz, bK, bD, cF, cD, cH, bY, mn, mo, uL, en, nm, seval]
   obtain ⟨Vh, h, Vi, GK, Vj, zm⟩ := fp h kN
   obtain ⟨Vk, GL, h⟩ := call3 h
   obtain ⟨Vl, uM⟩ : ∃ I : Nat → St → Prop, I = (fun m st => ∃ (uN : Nat) (gh : Int) (iv : List (Gf × Bool)), uN = m ∧ st.df = [] ∧ ju + 19 ≤ st.nx ∧ st.H 0 = some (.cells (some 89) (cGm ah)) ∧ st.H 2 = some (.map (encM du oJ iv)) ∧ st.H (ju + 11) = some (.cells (some 24) (aK jP.a1)) ∧ st.tm 1 = .ptr 0 0 ∧ st.tm 3 = .mp 2 ∧ st.tm 4 = .lit (.int .i64 1) ∧ st.tm 5 = .ptr (ju + 11) 0 ∧ st.tm 9 = .agg (cGa jP) ∧ st.tm 10 = .lit (.int .i64 1) ∧ st.tm 6 = .lit (.int .i64 gh) ∧ Vh (Vk uN gh iv)) := ⟨_, rfl⟩
   refine loopK mixed (by kernel_rfl) Vl 1000000 (by rw [uM]; refine ⟨1000000, ah.sh.Years.Low, iu, rfl, rfl, (show ju + 19 ≤ ju + 19 by omega), ?_, ?_, ?_, bz, bK, ?_, ?_, cD, ?_, ?_, h⟩ <;> first | (simp only [ua, jg, tc, bz, bK, bD, cF, cD, cH, bY, mn, mo, uL, en, nm, seval] <;> rfl) | rfl) ?_
   rintro m ⟨tm, H, jv, df⟩ hinv
   rw [uM] at hinv
   obtain ⟨uN, gh, iv, rfl, hdf, GM, GN, GO, GP, bV, gZ, dP, eu, dq, cR, cb, h⟩ := hinv
   simp only at hdf GM GN GO GP bV gZ dP eu dq cR cb
   have Rw := fu (m := 18) (b := jv) (by omega)
   have Rx := uO (a := ju) (m := 19) (b := jv) (by omega)
   subst hdf GL
   cases uN with
   | zero =>
    simp only [oR, oP, oN, hs, reduceCtorEq] at h
    exact absurd h zm
   | succ uN =>
    simp only [oR, oP, oN, hs, reduceCtorEq] at h
    cases jD : (decide (gh ≤ ah.sh.Years.High))
    ·simp only [jD, hs] at h
     have mr := And.intro tc (And.intro en (And.intro Rw (And.intro Rx (And.intro GN (And.intro GO (And.intro GP jD))))))
     replace h := GK _ h
     try dsimp only at h
     try simp only [hs] at h
     simp only [vz, mq, mqm, tyf, mqt, mr, bV, gZ, dP, eu, dq, cR, cb, nm, seval]
     obtain ⟨Vm, h, Vn, GQ, Vo, zn⟩ := fp h kN
     obtain ⟨Vp, GR, h⟩ := call3 h
     obtain ⟨Vq, uP⟩ : ∃ I : Nat → St → Prop, I = (fun m st => ∃ (uQ : Nat) (gi : Int) (jw : List (Gf × Bool)), uQ = m ∧ st.df = [] ∧ jv + 19 ≤ st.nx ∧ st.H 0 = some (.cells (some 89) (cGm ah)) ∧ st.H 2 = some (.map (encM du oJ jw)) ∧ st.H (jv + 11) = some (.cells (some 24) (aK jP.a2)) ∧ st.tm 1 = .ptr 0 0 ∧ st.tm 3 = .mp 2 ∧ st.tm 4 = .lit (.int .i64 2) ∧ st.tm 5 = .ptr (jv + 11) 0 ∧ st.tm 9 = .agg (cGa jP) ∧ st.tm 10 = .lit (.int .i64 2) ∧ st.tm 6 = .lit (.int .i64 gi) ∧ Vm (Vp uQ gi jw)) := ⟨_, rfl⟩
     refine loopK mixed (by kernel_rfl) Vq 1000000 (by rw [uP]; refine ⟨1000000, ah.sh.Years.Low, iv, rfl, rfl, (show jv + 19 ≤ jv + 19 by omega), ?_, ?_, ?_, bV, gZ, ?_, ?_, dq, ?_, ?_, h⟩ <;> first | (simp only [ua, jg, mr, bV, gZ, dP, eu, dq, cR, cb, nm, seval] <;> rfl) | rfl) ?_
     rintro m ⟨tm, H, rD, df⟩ hinv
     rw [uP] at hinv
     obtain ⟨uQ, gi, jw, rfl, hdf, GS, GU, qg, qh, fe, cL, cM, cS, dc, dH, eO, h⟩ := hinv
     simp only at hdf GS GU qg qh fe cL cM cS dc dH eO
     have Ry := fu (m := 18) (b := rD) (by omega)
     have Rz := uO (a := ju) (m := 19) (b := rD) (by omega)
     have R0 := uO (a := jv) (m := 19) (b := rD) (by omega)
     subst hdf GR
     cases uQ with
     | zero =>
      simp only [oR, oP, oN, hs, reduceCtorEq] at h
      exact absurd h zn
     | succ uQ =>
      simp only [oR, oP, oN, hs, reduceCtorEq] at h
      cases qi : (decide (gi ≤ ah.sh.Years.High))
      ·simp only [qi, hs] at h
       have GV := And.intro mr (And.intro Ry (And.intro Rz (And.intro R0 (And.intro GU (And.intro qg (And.intro qh qi))))))
       replace h := GQ _ h
       try dsimp only at h
       try simp only [hs] at h
       try simp only [vz, mq, mqm, tyf, mqt, GV, fe, cL, cM, cS, dc, dH, eO, nm, seval]
       refine bG (x := (.mp 2)) (by first | (simp only [Tryz.results103, resV, resL, av, bL, bM, uw, cr, tyf, mqt, GV, nm, seval] <;> rfl) | rfl) ?_
       obtain rfl := kF _ h
       refine Gk UM ?_
       ·simp only [uw, jg, cr, tyf, mqt, GV, fe, cL, cM, cS, dc, dH, eO, nm, seval] <;> rfl
      simp only [qi, hs] at h
      have qj := And.intro mr (And.intro Ry (And.intro Rz (And.intro R0 (And.intro GU (And.intro qg (And.intro qh qi))))))
      obtain ⟨GW, Vr, h⟩ := optI h zn
      try simp only [hs] at h
      simp only [vz, mq, mqm, tyf, mqt, qj, fe, cL, cM, cS, dc, dH, eO, nm, seval]
      refine ktree (args0 := [.agg (cGm ah), .lit (.int .i64 gi), .lit (.int .i64 2), .agg (aK jP.a2)]) (by first | (simp only [nrm, au, mqr] <;> rfl) | rfl) (by simp only [tre, ar, mqr, Bool.and_self]) (Gy _ _ _ _ _ Vr) ?_
      refine aZ (fun tm => tm 1 = .ptr 0 0 ∧ tm 3 = .mp 2 ∧ tm 4 = .lit (.int .i64 2) ∧ tm 5 = .ptr (jv + 11) 0 ∧ tm 6 = .lit (.int .i64 gi) ∧ tm 9 = .agg (cGa jP) ∧ tm 10 = .lit (.int .i64 2) ∧ tm 26 = .mp 2 ∧ tm 29 = .agg ([.lit (.int .i64 2)] ++ [.lit (.int .i64 gi)]) ∧ tm 34 = .lit (.bool GW) ∧ True) (by refine ⟨fe, cL, cM, cS, eO, dc, dH, ?_, ?_, ?_, trivial⟩ <;> first | (simp only [ua, jg, qj, fe, cL, cM, cS, dc, dH, eO, nm, seval] <;> rfl) | rfl) ?_
      rintro tm ⟨d7, dJ, dS, fP, gT, dA, fX, gn, fk, fY, _⟩
      have uR := fun H => oL (β := 2) jw (Gf.mk 2 gi) GW H
      try simp only [jg] at uR
      simp only [vz, mq, mqm, tyf, mqt, qj, d7, dJ, dS, fP, gT, dA, fX, gn, fk, fY, uR, nm, seval]
      exact ⟨uQ, Nat.lt_succ_self _, by rw [uP]; refine ⟨uQ, i64.wrap (gi + 1), (mapSet cJ jw (Gf.mk 2 gi) GW), rfl, rfl, (show jv + 19 ≤ rD + 19 by omega), ?_, ?_, ?_, d7, dJ, dS, fP, dA, fX, ?_, h⟩ <;> first | (simp only [ua, jg, qj, d7, dJ, dS, fP, gT, dA, fX, gn, fk, fY, uR, nm, seval] <;> rfl) | rfl⟩
    simp only [jD, hs] at h
    have CA := And.intro tc (And.intro en (And.intro Rw (And.intro Rx (And.intro GN (And.intro GO (And.intro GP jD))))))
    obtain ⟨xa, GX, h⟩ := optI h zm
    try simp only [hs] at h
    simp only [vz, mq, mqm, tyf, mqt, CA, bV, gZ, dP, eu, dq, cR, cb, nm, seval]
    refine ktree (args0 := [.agg (cGm ah), .lit (.int .i64 gh), .lit (.int .i64 1), .agg (aK jP.a1)]) (by first | (simp only [nrm, au, mqr] <;> rfl) | rfl) (by simp only [tre, ar, mqr, Bool.and_self]) (Gy _ _ _ _ _ GX) ?_
    refine aZ (fun tm => tm 1 = .ptr 0 0 ∧ tm 3 = .mp 2 ∧ tm 4 = .lit (.int .i64 1) ∧ tm 5 = .ptr (ju + 11) 0 ∧ tm 6 = .lit (.int .i64 gh) ∧ tm 9 = .agg (cGa jP) ∧ tm 10 = .lit (.int .i64 1) ∧ tm 26 = .mp 2 ∧ tm 29 = .agg ([.lit (.int .i64 1)] ++ [.lit (.int .i64 gh)]) ∧ tm 34 = .lit (.bool xa) ∧ True) (by refine ⟨bV, gZ, dP, eu, cb, dq, cR, ?_, ?_, ?_, trivial⟩ <;> first | (simp only [ua, jg, CA, bV, gZ, dP, eu, dq, cR, cb, nm, seval] <;> rfl) | rfl) ?_
    rintro tm ⟨eC, ik, fJ, je, kj, kl, jt, ke, gU, iG, _⟩
    have GY := fun H => oL (β := 2) iv (Gf.mk 1 gh) xa H
    try simp only [jg] at GY
    simp only [vz, mq, mqm, tyf, mqt, CA, eC, ik, fJ, je, kj, kl, jt, ke, gU, iG, GY, nm, seval]
    exact ⟨uN, Nat.lt_succ_self _, by rw [uM]; refine ⟨uN, i64.wrap (gh + 1), (mapSet cJ iv (Gf.mk 1 gh) xa), rfl, rfl, (show ju + 19 ≤ jv + 19 by omega), ?_, ?_, ?_, eC, ik, fJ, je, kl, jt, ?_, h⟩ <;> first | (simp only [ua, jg, CA, eC, ik, fJ, je, kj, kl, jt, ke, gU, iG, GY, nm, seval] <;> rfl) | rfl⟩
  simp only [en, hs] at h
  obtain ⟨GZ, Vs, h⟩ := optI h zl
  try simp only [hs] at h
  simp only [vz, mq, mqm, tyf, mqt, tc, bz, bK, bD, cF, cD, cH, bY, mn, mo, uL, en, nm, seval]
  refine ktree (args0 := [.agg (cGm ah), .lit (.int .i64 gg), .lit (.int .i64 0), .agg (aK jP.a0)]) (by first | (simp only [nrm, au, mqr] <;> rfl) | rfl) (by simp only [tre, ar, mqr, Bool.and_self]) (Gy _ _ _ _ _ Vs) ?_
  refine aZ (fun tm => tm 1 = .ptr 0 0 ∧ tm 3 = .mp 2 ∧ tm 4 = .lit (.int .i64 0) ∧ tm 5 = .ptr 10 0 ∧ tm 6 = .lit (.int .i64 gg) ∧ tm 9 = .agg (cGa jP) ∧ tm 10 = .lit (.int .i64 0) ∧ tm 26 = .mp 2 ∧ tm 29 = .agg ([.lit (.int .i64 0)] ++ [.lit (.int .i64 gg)]) ∧ tm 34 = .lit (.bool GZ) ∧ True) (by refine ⟨bz, bK, bD, cF, bY, cD, cH, ?_, ?_, ?_, trivial⟩ <;> first | (simp only [ua, jg, tc, bz, bK, bD, cF, cD, cH, bY, mn, mo, uL, en, nm, seval] <;> rfl) | rfl) ?_
  rintro tm ⟨eT, fK, fZ, fR, oS, td, te, oT, km, dj, _⟩
  have uS := fun H => oL (β := 2) iu (Gf.mk 0 gg) GZ H
  try simp only [jg] at uS
  simp only [vz, mq, mqm, tyf, mqt, tc, mn, mo, uL, en, eT, fK, fZ, fR, oS, td, te, oT, km, dj, uS, nm, seval]
  exact ⟨uK, Nat.lt_succ_self _, by rw [uJ]; refine ⟨uK, i64.wrap (gg + 1), (mapSet cJ iu (Gf.mk 0 gg) GZ), rfl, rfl, (show 18 ≤ ju + 19 by omega), ?_, ?_, ?_, eT, fK, fZ, fR, td, te, ?_, h⟩ <;> first | (simp only [ua, jg, tc, mn, mo, uL, en, eT, fK, fZ, fR, oS, td, te, oT, km, dj, uS, nm, seval] <;> rfl) | rfl⟩
end Go.V
end
