/- Part of a proof. -/
import Derived.Test.YtekhjalgmlflpaaGreatDoorXbg
set_option linter.all false
set_option maxRecDepth 4000
set_option maxHeartbeats 40000000
section
namespace Go.V
open Go
def withinB (c : Ga) (n : Gi) : Bool := inB c.a0.Low c.a0.High n.a0 && (inB c.a1.Low c.a1.High n.a1 && inB c.a2.Low c.a2.High n.a2)
def zipB (f : Ga → Gi → Bool) : List Gi → List Gt → Bool
 | a :: qs, t :: ts => f t.pg a && zipB f qs ts
 | [], [] => true
 | _, _ => false
def truthB (s : Gs) (t : Gu) : Bool := decide (t.Tins.length = s.Tins.length) && (inB s.Years.Low s.Years.High t.Years && (withinB s.Fade t.Fade && zipB withinB t.Tins s.Tins))
theorem zain {f : Ga → Gi → Bool} : ∀ {p : List Gi} {ts : List Gt}, zipB f p ts = true → ∀ (i : Nat) a t, p[i]? = some a → ts[i]? = some t → f t.pg a = true
 | [], _, _, _, _, _, h, _ => by simp at h
 | _ :: _, [], h, _, _, _, _, _ => by cases h
 | a :: p, t :: ts, h, i, a', t', ha, ht => by
  simp only [zipB, Bool.and_eq_true] at h
  cases i with
  | zero =>
   simp only [List.getElem?_cons_zero, Option.some.injEq] at ha ht
   subst ha ht
   exact h.1
  | succ i => exact zain h.2 i a' t' (by simpa using ha) (by simpa using ht)
structure TrOk (s : Gs) (t : Gu) : Prop where
 n : t.Tins.length = s.Tins.length
 y : s.Years.Low ≤ t.Years ∧ t.Years ≤ s.Years.High
 fade : ∀ p, (selS s.Fade p).Low ≤ selI t.Fade p ∧ selI t.Fade p ≤ (selS s.Fade p).High
 tin : ∀ (i : Nat) a c, t.Tins[i]? = some a → s.Tins[i]? = some c → ∀ p, lowT p c ≤ selI a p ∧ selI a p ≤ highT p c
theorem TrOk.of {s : Gs} {t : Gu} (h : truthB s t = true) : TrOk s t := by
 simp only [truthB, Bool.and_eq_true, decide_eq_true_eq, zkd] at h
 obtain ⟨h1, h2, h3, h4⟩ := h
 simp only [withinB, Bool.and_eq_true, zkd] at h3
 refine ⟨h1, h2, fun p => ?_, fun i a c ha hc p => ?_⟩
 ·cases p
  ·exact h3.1
  ·exact h3.2.1
  ·exact h3.2.2
 ·have := zain h4 i a c ha hc
  simp only [withinB, Bool.and_eq_true, zkd] at this
  cases p
  ·exact this.1
  ·exact this.2.1
  ·exact this.2.2
def mostI (s : Gs) (mix : List Int) (p : P3) : Int :=
 if (sumsP s mix p).High - sumL mix * (aimP s p).Low < sumL mix * (aimP s p).High - (sumsP s mix p).Low then sumL mix * (aimP s p).High - (sumsP s mix p).Low else (sumsP s mix p).High - sumL mix * (aimP s p).Low
def farI (s : Gs) (mix : List Int) (p : P3) : Int := Int.tdiv (mostI s mix p + sumL mix - 1) (sumL mix)
theorem zadz {s : Gs} (hs : ShOk s) {mix : List Int} (hm : MixOk s mix) (p : P3) : 0 ≤ (sumsP s mix p).Low ∧ (sumsP s mix p).Low ≤ (sumsP s mix p).High ∧ (sumsP s mix p).High ≤ 792 := by
 have h1 := dot_b mix s.Tins hm.b (hs.low p)
 have h2 := dot_b mix s.Tins hm.b (hs.high p)
 have h3 := zaax (f := lowT p) (g := highT p) mix s.Tins s.Tins rfl hm.b (fun i t u ht hu => by
  rw [ht] at hu
  cases hu
  have := hs.tin t (List.mem_of_getElem? ht) p
  unfold lowT highT
  omega)
 have h4 := hm.s
 unfold sumsP
 simp only
 omega
theorem zadh {s : Gs} (hs : ShOk s) {mix : List Int} (hm : MixOk s mix) (p : P3) : 0 ≤ mostI s mix p ∧ mostI s mix p ≤ 800 ∧ 0 ≤ sumL mix * (aimP s p).Low ∧ sumL mix * (aimP s p).Low ≤ sumL mix * (aimP s p).High ∧ sumL mix * (aimP s p).High ≤ 792 := by
 have h1 := zadz hs hm p
 have h2 := zask hs p
 have h3 := hm.s
 have h4 := mulR (a := sumL mix) (A := 8) (by omega) h3.2 h2.1 (show (aimP s p).Low ≤ 99 by omega)
 have h5 := mulR (a := sumL mix) (A := 8) (by omega) h3.2 (show 0 ≤ (aimP s p).High by omega) h2.2.2
 have h6 := Int.mul_le_mul_of_nonneg_left h2.2.1 (show 0 ≤ sumL mix by omega)
 unfold mostI
 split <;> omega
theorem zair {s : Gs} (hs : ShOk s) {mix : List Int} (hm : MixOk s mix) (p : P3) (k : Int) : farI s mix p ≤ k ↔ mostI s mix p ≤ k * sumL mix := by
 have h1 := (zadh hs hm p).1
 have h3 := hm.s
 unfold farI
 rw [Int.tdiv_eq_ediv_of_nonneg (by omega)]
 have h2 := Int.ediv_lt_iff_lt_mul (a := mostI s mix p + sumL mix - 1) (b := k + 1) (c := sumL mix) (by omega)
 rw [Int.add_mul, Int.one_mul] at h2
 omega
theorem zasn {s : Gs} (hs : ShOk s) {mix : List Int} (hm : MixOk s mix) (p : P3) : 0 ≤ farI s mix p ∧ farI s mix p ≤ 800 := by
 have h1 := zadh hs hm p
 have h3 := hm.s
 refine ⟨?_, (zair hs hm p 800).2 (by omega)⟩
 unfold farI
 rw [Int.tdiv_eq_ediv_of_nonneg (by omega)]
 exact Int.ediv_nonneg (by omega) (by omega)
theorem zatv {s : Gs} (hs : ShOk s) {mix : List Int} (hm : MixOk s mix) (p : P3) : zbo ⟨s, mix⟩ p.i = some (farI s mix p) := by
 have h1 := zadz hs hm p
 have h2 := zadh hs hm p
 have h3 := hm.s
 have h4 := zasn hs hm p
 have hne : (sumL mix != 0) = true := by simp; omega
 have e1 : IntKind.i64.wrap (sumL mix * (aimP s p).Low) = sumL mix * (aimP s p).Low := zcj (by omega) (by omega)
 have e2 : IntKind.i64.wrap (sumL mix * (aimP s p).High) = sumL mix * (aimP s p).High := zcj (by omega) (by omega)
 have e3 : IntKind.i64.wrap ((sumsP s mix p).High - sumL mix * (aimP s p).Low) = (sumsP s mix p).High - sumL mix * (aimP s p).Low := zcj (by omega) (by omega)
 have e4 : IntKind.i64.wrap (sumL mix * (aimP s p).High - (sumsP s mix p).Low) = sumL mix * (aimP s p).High - (sumsP s mix p).Low := zcj (by omega) (by omega)
 have e5 : IntKind.i64.wrap (mostI s mix p + sumL mix) = mostI s mix p + sumL mix := zcj (by omega) (by omega)
 have e6 : IntKind.i64.wrap (mostI s mix p + sumL mix - 1) = mostI s mix p + sumL mix - 1 := zcj (by omega) (by omega)
 have e7 : IntKind.i64.wrap (farI s mix p) = farI s mix p := zcj (by omega) (by omega)
 have key : some (IntKind.i64.wrap (Int.tdiv (IntKind.i64.wrap ((IntKind.i64.wrap ((if (IntKind.i64.wrap ((sumsP s mix p).High - (IntKind.i64.wrap (sumL mix * (aimP s p).Low)))) < (IntKind.i64.wrap ((IntKind.i64.wrap (sumL mix * (aimP s p).High)) - (sumsP s mix p).Low)) then (IntKind.i64.wrap ((IntKind.i64.wrap (sumL mix * (aimP s p).High)) - (sumsP s mix p).Low)) else (IntKind.i64.wrap ((sumsP s mix p).High - (IntKind.i64.wrap (sumL mix * (aimP s p).Low))))) + sumL mix)) - 1)) (sumL mix))) = some (farI s mix p) := by
  rw [e1, e2, e3, e4]
  show some (IntKind.i64.wrap (Int.tdiv (IntKind.i64.wrap ((IntKind.i64.wrap (mostI s mix p + sumL mix)) - 1)) (sumL mix))) = _
  rw [e5, e6]
  exact congrArg some e7
 unfold zbo
 rw [zaia hs hm, zarg hs, zacp hs hm]
 simp only [Option.bind_some, hne, cond_true]
 cases p <;> simp only [P3.i, Int.reduceBEq, cond_true, cond_false] <;> exact key
def surelyB (s : Gs) (mix : List Int) : Bool := decide (farI s mix .p0 ≤ s.Off) && (decide (farI s mix .p1 ≤ s.Off) && decide (farI s mix .p2 ≤ s.Off))
theorem zaew {s : Gs} (hs : ShOk s) {mix : List Int} (hm : MixOk s mix) (p : P3) : zbs ⟨s, mix⟩ p.i = some (cond (decide (farI s mix p ≤ s.Off)) (.inl ()) (.inr ())) := by
 unfold zbs
 rw [zatv hs hm p]
 simp only [Option.bind_some]
 by_cases h : farI s mix p ≤ s.Off
 ·rw [decide_eq_true h, decide_eq_false (by show ¬ farI s mix p > s.Off; omega)]; rfl
 ·rw [decide_eq_false h, decide_eq_true (by show farI s mix p > s.Off; omega)]; rfl
theorem zyc {s : Gs} (hs : ShOk s) {mix : List Int} (hm : MixOk s mix) : zbn ⟨s, mix⟩ = some (surelyB s mix) := by
 have m0 := zaew hs hm .p0
 have m1 := zaew hs hm .p1
 have m2 := zaew hs hm .p2
 simp only [P3.i] at m0 m1 m2
 unfold zbn surelyB
 rw [m0, m1, m2]
 cases decide (farI s mix .p0 ≤ s.Off) <;> cases decide (farI s mix .p1 ≤ s.Off) <;> cases decide (farI s mix .p2 ≤ s.Off) <;> rfl
theorem zzo {s : Gs} (hs : ShOk s) {mix : List Int} (hm : MixOk s mix) : surelyB s mix = true ↔ ∀ p, mostI s mix p ≤ s.Off * sumL mix := by
 simp only [surelyB, Bool.and_eq_true, decide_eq_true_eq, zair hs hm]
 constructor
 ·rintro ⟨a, b, c⟩ p
  cases p <;> assumption
 ·intro h
  exact ⟨h .p0, h .p1, h .p2⟩
end Go.V
end
section
namespace Go.V
open Go
section
variable {P : Program} {G : Glob} {ops : Array Oper} {base : Nat} {Q : VExit → St → Prop} {n : Nat}
end
end Go.V
namespace Go.V
open Go
section
variable {P : Program} {G : Glob} {ops : Array Oper} {base : Nat} {Q : VExit → St → Prop} {n : Nat}
end
section
variable {P : Program} {G : Glob} {ops : Array Oper} {base : Nat} {Q : VExit → St → Prop} {n : Nat} {i m b : Nat} {o : Oper} {l l2 : List Oper} {mk mE mL : List Bool} {tr : Tr} {K : Tr → St → Prop} {tm : Nat → VV} {H : Nat → Option VObj} {nx : Nat} {df : List VDef} {st : St} {rest : List (List Bool × Nat)}
end
end Go.V
namespace Go.V
set_option linter.defProp false
end Go.V
end
section
namespace Go.V
open Go
def gone (H H' : Nat → Option VObj) : Nat → Option VObj := fun β => if (H' β).isSome then none else H β
theorem SubHeap.gone (H H' : Nat → Option VObj) : SubHeap (gone H H') H := fun x o h => by
 unfold Go.V.gone at h
 split at h
 ·cases h
 ·exact h
def Frozen (H H' : Nat → Option VObj) (x y : VV) : Prop := y = x ∨ y = .any ∨ ∃ n, sealV (gone H H') n x = some y
def FrozenL (H H' : Nat → Option VObj) : List VV → List VV → Prop
 | [], [] => True
 | x :: xs, y :: ys => Frozen H H' x y ∧ FrozenL H H' xs ys
 | _, _ => False
def FrozenO (H H' : Nat → Option VObj) (o o' : VObj) : Prop := o' = o ∨ ∃ el cs cs', o = .cells el cs ∧ o' = .cells el cs' ∧ FrozenL H H' cs cs'
def Ctx.frz (c : Ctx) (H' : Nat → Option VObj) : Ctx := { c with H := H', A := fun b => c.A b ∨ ∃ β, c.live β ∧ (H' β).isSome = false ∧ c.φ β = b }
section
variable {c : Ctx} {W : World} {H' : Nat → Option VObj}
theorem zht (hl : ∀ β, (H' β).isSome = true → c.live β) : Abides c W (c.frz H') W := ⟨fun _ h => .inl h, fun _ _ => rfl, fun _ h => h, fun β _ h => hl β h, fun _ _ _ => rfl, fun _ _ _ => rfl⟩
theorem zwu (hl : ∀ β, (H' β).isSome = true → c.live β) : Ext c W (c.frz H') W where
 A _ h := .inl h
 newA b h := h.imp id fun ⟨β, h1, _, e⟩ => .inr ⟨β, h1, e⟩
 used _ h := h
 live β _ h := hl β h
 φ _ _ _ := rfl
 room _ _ _ := rfl
 keep _ _ _ := rfl
 old x h _ := ⟨x, hl x h, rfl⟩
 size := Nat.le_refl _
 os := rfl
 tape := rfl
 output := rfl
theorem zsx (s : Sim c W) (hl : ∀ β, (H' β).isSome = true → c.live β) {x y : VV} {v : Value} (h : Frozen c.H H' x y) (hr : Rep c W x v) : Rep (c.frz H') W y v := by
 rcases h with rfl | rfl | ⟨n, hn⟩
 ·exact Rep.abides (zht hl) _ hr
 ·unfold Rep; trivial
 ·have h1 := (zif s (SubHeap.gone c.H H') n).1 x v y hn hr
  refine Rep.abides (zcl fun b hb => ?_) _ h1
  rcases hb with hb | ⟨β, hβ, e⟩
  ·exact .inl hb
  ·refine .inr ⟨β, ?_, ?_, e⟩
   ·unfold Go.V.gone at hβ
    split at hβ
    ·cases hβ
    ·exact hβ
   ·cases h0 : (H' β).isSome with
    | false => rfl
    | true => unfold Go.V.gone at hβ; rw [h0] at hβ; cases hβ
theorem zhz (s : Sim c W) (hl : ∀ β, (H' β).isSome = true → c.live β) : ∀ {xs ys : List VV} {l : List Value}, FrozenL c.H H' xs ys → RepL c W xs l → RepL (c.frz H') W ys l
 | [], [], _, _, h => h
 | _ :: _, _ :: _, _, ⟨h1, h2⟩, ⟨u, us, e, r1, r2⟩ => ⟨u, us, e, zsx s hl h1 r1, zhz s hl h2 r2⟩
 | [], _ :: _, _, h, _ => h.elim
 | _ :: _, [], _, h, _ => h.elim
theorem FrozenL.length {H H' : Nat → Option VObj} : ∀ {xs ys : List VV}, FrozenL H H' xs ys → ys.length = xs.length
 | [], [], _ => rfl
 | _ :: _, _ :: _, h => by simp [FrozenL.length h.2]
 | [], _ :: _, h => h.elim
 | _ :: _, [], h => h.elim
theorem Sim.frz (s : Sim c W) (ho : ∀ β o', H' β = some o' → ∃ o, c.H β = some o ∧ FrozenO c.H H' o o') (hloop : ∀ x st pe tm ps asg bo df, H' x = some (.loop st pe tm ps asg bo df) → isDef H' df) : Sim (c.frz H') W := by
 have hl : ∀ β, (H' β).isSome = true → c.live β := by
  intro β h
  obtain ⟨o', h'⟩ := Option.isSome_iff_exists.1 h
  obtain ⟨o, h1, _⟩ := ho β o' h'
  simp [Ctx.live, h1]
 have ab : Abides c W (c.frz H') W := zht hl
 refine ⟨fun x h => s.used x (hl x h), fun x ox hx => ?_, fun x h => s.lt x (hl x h), fun x h => ?_, fun x y hx hy e => s.inj x y (hl x hx) (hl y hy) e, fun b hb => ?_⟩
 ·have hx0 : H' x = some ox := hx
  obtain ⟨o, h1, hf⟩ := ho x ox hx0
  rcases hf with rfl | ⟨el, cs, cs', rfl, rfl, hcs⟩
  ·refine (s.obj x _ h1).abides ab (s.used x (hl x (by simp [hx0]))) (by simp [Ctx.live, Ctx.frz, hx0]) rfl ?_
   intro st pe tm ps asg bo df e'
   subst e'
   exact hloop x st pe tm ps asg bo df hx0
  ·obtain ⟨arr, e, a1, a2, a3, a4, a5⟩ := s.obj x _ h1
   exact ⟨arr, e, a1, a2, by rw [hcs.length]; exact a3, by rw [hcs.length]; exact zhz s hl hcs a4, a5⟩
 ·rintro (hA | ⟨β, h1, hn, e⟩)
  ·exact s.notA x (hl x h) hA
  ·have := s.inj β x h1 (hl x h) e
   subst this
   have h' : (H' β).isSome = true := h
   rw [h'] at hn; cases hn
 ·rcases hb with hA | ⟨β, h1, _, e⟩
  ·exact s.ltA b hA
  ·rw [← e]; exact s.lt β h1
end
theorem VWp.freeze {P : Program} {G : Glob} {n : Nat} {code : Code} {Q : VExit → St → Prop} {st : St} (H' : Nat → Option VObj) (tm' : Nat → VV) (ho : ∀ β o', H' β = some o' → ∃ o, st.H β = some o ∧ FrozenO st.H H' o o') (hloop : ∀ x s pe tm ps asg bo df, H' x = some (.loop s pe tm ps asg bo df) → isDef H' df)
  (htm : ∀ t, Frozen st.H H' (st.tm t) (tm' t)) (h : VWp P G n code Q ⟨tm', H', st.nx, st.df⟩) : VWp P G n code Q st := by
 intro ro c W a hro s hr hsz
 have ho' : ∀ β o', H' β = some o' → ∃ o, c.H β = some o ∧ FrozenO c.H H' o o' := by rw [hr.H]; exact ho
 have hl : ∀ β, (H' β).isSome = true → c.live β := by
  intro β h
  obtain ⟨o', h'⟩ := Option.isSome_iff_exists.1 h
  obtain ⟨o, h1, _⟩ := ho' β o' h'
  simp [Ctx.live, h1]
 have he : Ext c W (c.frz H') W := zwu hl
 have ab : Abides c W (c.frz H') W := zht hl
 refine wpIn_mono (h ro (c.frz H') W a (hro.ext he) (s.frz ho' hloop) ⟨rfl, fun t => ?_, hr.nx, hr.df.abides ab, hr.G.abides ab⟩ hsz) fun _ _ _ hl => hl.of_ext he (fun β hb => .inl hb) (Nat.le_refl _)
 exact zsx s hl (by rw [hr.H]; exact htm t) (hr.tm t)
end Go.V
end
section
namespace Go.V
open Go
theorem VOpen.freeze {P : Program} {G : Glob} {f : FuncId} {args args' : List VV} {H : Nat → Option VObj} {nx : Nat} {R Rp : VV → (Nat → Option VObj) → Nat → Prop} (H' : Nat → Option VObj) (ho : ∀ β o', H' β = some o' → ∃ o, H β = some o ∧ FrozenO H H' o o')
  (hloop : ∀ x s pe tm ps asg bo df, H' x = some (.loop s pe tm ps asg bo df) → isDef H' df) (ha : FrozenL H H' args args') (h : VOpen P G f args' H' nx R Rp) : VOpen P G f args H nx R Rp := by
 refine ⟨h.1, fun c W vs s hH hnx hG hargs => ?_⟩
 have ho' : ∀ β o', H' β = some o' → ∃ o, c.H β = some o ∧ FrozenO c.H H' o o' := by rw [hH]; exact ho
 have hl : ∀ β, (H' β).isSome = true → c.live β := by
  intro β h
  obtain ⟨o', h'⟩ := Option.isSome_iff_exists.1 h
  obtain ⟨o, h1, _⟩ := ho' β o' h'
  simp [Ctx.live, h1]
 have he : Ext c W (c.frz H') W := zwu hl
 have ab : Abides c W (c.frz H') W := zht hl
 refine (h.2 (c.frz H') W vs (s.frz ho' hloop) rfl hnx (hG.abides ab) (zhz s hl (by rw [hH]; exact ha) hargs)).mono ?_
 rintro e W' ⟨c', H1, nx', g1, g2, g3, g4, g5, g6, g7⟩
 exact ⟨c', H1, nx', he.trans g1, g2, g3, g4, g5, g6, g7⟩
def Yields (P : Program) (G : Glob) (β : Nat) (x : VV) (H : Nat → Option VObj) (nx : Nat) (Post : Bool → (Nat → Option VObj) → Nat → Prop) : Prop :=
 ∀ (r : Option (Option Nat)) (o : Oper) (st : St) (K : St → Prop), st.H = H → st.nx = nx → (∀ b H' nx', Post b H' nx' → K ⟨(match o.dst with | some d => upd st.tm d (.lit (.bool b)) | none => st.tm), H', nx', st.df⟩) → yieldK P (G.at r) o β [x] st K
theorem Yields.mono {P : Program} {G : Glob} {β : Nat} {x : VV} {H : Nat → Option VObj} {nx : Nat} {Post Post' : Bool → (Nat → Option VObj) → Nat → Prop} (h : Yields P G β x H nx Post) (hp : ∀ b H' nx', Post b H' nx' → Post' b H' nx') : Yields P G β x H nx Post' :=
 fun r o st K h1 h2 hk => h r o st K h1 h2 fun b H' nx' hp' => hk b H' nx' (hp b H' nx' hp')
abbrev Inv := Option (List VV) → (Nat → Prop) → (Nat → Option VObj) → Nat → Prop
def Stable (I : Inv) : Prop := ∀ o (Fr Fr1 : Nat → Prop) (H H1 : Nat → Option VObj) (nx nx1 : Nat), I o Fr H nx → (∀ γ, γ < nx → ¬ Fr γ → H1 γ = H γ) → nx ≤ nx1 → (∀ γ, Fr1 γ → Fr γ ∨ (nx ≤ γ ∧ γ < nx1)) → I o Fr1 H1 nx1
def Rounds (P : Program) (G : Glob) (β : Nat) (I : Inv) : Prop := ∀ x rest (Fr : Nat → Prop) (H : Nat → Option VObj) (nx : Nat), (∀ γ, Fr γ → γ < nx) → I (some (x :: rest)) Fr H nx →
 Yields P G β x H nx (fun b H' nx' => nx ≤ nx' ∧ (∀ γ, Fr γ → H' γ = H γ) ∧ I (if b then some rest else none) Fr H' nx')
def noFr : Nat → Prop := fun _ => False
def Iter (P : Program) (G : Glob) (g : VV) (L : List VV) : Prop := ∃ f first captured, g = .fn (.func f) first captured ∧ ∀ (β : Nat) (I : Inv), Stable I → Rounds P G β I → ∀ (H : Nat → Option VObj) (nx : Nat), β < nx → I (some L) noFr H nx →
 VOpen P G f (first ++ [.yl β] ++ captured) H nx (fun _ H' nx' => I (some []) noFr H' nx' ∨ I none noFr H' nx') (fun _ _ _ => False)
def Own (hp : List (Nat × VObj)) (Fr : Nat → Prop) (H : Nat → Option VObj) (nx : Nat) : Prop := ∀ p ∈ hp, p.1 < nx ∧ ¬ Fr p.1 ∧ H p.1 = some p.2
theorem Own.stable {hp : List (Nat × VObj)} {Fr Fr1 : Nat → Prop} {H H1 : Nat → Option VObj} {nx nx1 : Nat} (h : Own hp Fr H nx) (h1 : ∀ γ, γ < nx → ¬ Fr γ → H1 γ = H γ) (h2 : nx ≤ nx1) (h3 : ∀ γ, Fr1 γ → Fr γ ∨ (nx ≤ γ ∧ γ < nx1)) : Own hp Fr1 H1 nx1 := by
 intro p hp
 obtain ⟨a, b, c⟩ := h p hp
 refine ⟨Nat.lt_of_lt_of_le a h2, fun hf => ?_, by rw [h1 p.1 a b]; exact c⟩
 rcases h3 p.1 hf with hf | hf
 ·exact b hf
 ·omega
theorem Own.nil {Fr : Nat → Prop} {H : Nat → Option VObj} {nx : Nat} : Own [] Fr H nx := fun _ h => by cases h
theorem Own.cons {p : Nat} {o : VObj} {hp : List (Nat × VObj)} {Fr : Nat → Prop} {H : Nat → Option VObj} {nx : Nat} (h1 : p < nx) (h2 : ¬ Fr p) (h3 : H p = some o) (h : Own hp Fr H nx) : Own ((p, o) :: hp) Fr H nx := by
 intro q hq
 rcases List.mem_cons.1 hq with rfl | hq
 ·exact ⟨h1, h2, h3⟩
 ·exact h q hq
theorem Own.head {p : Nat} {o : VObj} {hp : List (Nat × VObj)} {Fr : Nat → Prop} {H : Nat → Option VObj} {nx : Nat} (h : Own ((p, o) :: hp) Fr H nx) : p < nx ∧ ¬ Fr p ∧ H p = some o := h (p, o) (List.mem_cons_self ..)
theorem Own.tail {p : Nat} {o : VObj} {hp : List (Nat × VObj)} {Fr : Nat → Prop} {H : Nat → Option VObj} {nx : Nat} (h : Own ((p, o) :: hp) Fr H nx) : Own hp Fr H nx := fun q hq => h q (List.mem_cons_of_mem _ hq)
def ownI (J : Option (List VV) → List (Nat × VObj) → Prop) : Inv := fun o Fr H nx => ∃ hp, Own hp Fr H nx ∧ J o hp
theorem zia {J : Option (List VV) → List (Nat × VObj) → Prop} : Stable (ownI J) := fun _ _ _ _ _ _ _ ⟨hp, h, hj⟩ h1 h2 h3 => ⟨hp, h.stable h1 h2 h3, hj⟩
def ownI2 (I : Inv) (J : Option (List VV) → Option (List VV) → List (Nat × VObj) → Prop) : Inv := fun o Fr H nx => ∃ hp o', Own hp Fr H nx ∧ J o o' hp ∧ I o' (fun γ => Fr γ ∨ ∃ p ∈ hp, p.1 = γ) H nx
theorem zkr {I : Inv} (hs : Stable I) {J : Option (List VV) → Option (List VV) → List (Nat × VObj) → Prop} : Stable (ownI2 I J) := by
 rintro o Fr Fr1 H H1 nx nx1 ⟨hp, o', h, hj, hi⟩ h1 h2 h3
 refine ⟨hp, o', h.stable h1 h2 h3, hj, hs _ _ _ _ _ _ _ hi (fun γ hlt hn => h1 γ hlt fun hf => hn (.inl hf)) h2 ?_⟩
 rintro γ (hf | hf)
 ·rcases h3 γ hf with hf | hf
  ·exact .inl (.inl hf)
  ·exact .inr hf
 ·exact .inl (.inr hf)
section
variable {P : Program} {G : Glob} {n : Nat} {Q : VExit → St → Prop} {tm : Nat → VV} {H : Nat → Option VObj} {nx : Nat} {df : List VDef} {g : Operand} {ps : Array Tmp} {az bo : Code}
def RPost (β : Nat) (LB LO : VObj) (LD : Code → VObj) (Post : Bool → (Nat → Option VObj) → Nat → Prop) : VExit → St → Prop
 | .normal, s => s.H β = some LB ∧ Post true (updH s.H β LO) s.nx
 | .ret, s => s.H β = some LB ∧ Post false (updH s.H β (LD .ret)) s.nx
 | .exit id, s => s.H β = some LB ∧ Post false (updH s.H β (LD (.exit id))) s.nx
 | _, _ => False
def RStart (P : Program) (G : Glob) (n β : Nat) (LB LO : VObj) (LD : Code → VObj) (bo : Code) (Post : Bool → (Nat → Option VObj) → Nat → Prop) : VExit → St → Prop
 | .normal, s => s.H β = some LO ∧ CWp P (G.at (some (some β))) n bo (RPost β LB LO LD Post) { s with H := updH s.H β LB }
 | _, _ => False
theorem zfn (hm : P.follows .mixedOrders = true) {β : Nat} {x : VV} {Post : Bool → (Nat → Option VObj) → Nat → Prop} {LO : VObj} {tml : List VV} {d : Nat} {psl : List Tmp} (hL : LO = VObj.loop .ready none tml ⟨psl⟩ az bo d) (hβ : H β = some LO) (hn : tml.length = n) (ha : psl.length = 1)
  (h1 : codeOk n az = true) (h2 : codeOk n bo = true)
  (h : ∀ LB LD, LB = VObj.loop .busy none tml ⟨psl⟩ az bo d → LD = (fun c => VObj.loop .done (some c) tml ⟨psl⟩ az bo d) →
   CWp P (G.at (some (some β))) n az (RStart P G n β LB LO LD bo Post) ⟨argsTm (roundTm tml psl [x]), H, nx, []⟩) : Yields P G β x H nx Post := by
 intro r o st K e1 e2 hk
 subst e1 e2
 replace hk : ∀ b H' nx', Post b H' nx' → K { st.put o.dst (.lit (.bool b)) with H := H', nx := nx' } := by
  intro b H' nx' hp
  have := hk b H' nx' hp
  obtain ⟨d, op, ty, pos, af, gd⟩ := o
  cases d <;> exact this
 refine zacl hm hL hβ hn (by simp [ha]) h1 h2 fun LB LD hB hD => ?_
 refine CWp.mono az _ ?_ (h LB LD hB hD)
 intro e s hs
 cases e with
 | normal =>
  refine ⟨hs.1, CWp.mono bo _ ?_ hs.2⟩
  intro e s2 hs2
  cases e with
  | normal => exact ⟨hs2.1, hk _ _ _ hs2.2⟩
  | ret => exact ⟨hs2.1, hk _ _ _ hs2.2⟩
  | exit id => exact ⟨hs2.1, hk _ _ _ hs2.2⟩
  | goto l => exact hs2.elim
  | panic x => exact hs2.elim
 | _ => exact hs.elim
theorem zgn {itv : VV} {L : List VV} (hit : Iter P G itv L) (hg : ev (G.at (some none)) tm g = itv)
  (h : ∀ LO, LO = VObj.loop .ready none (tmL n tm) ps az bo nx → ∃ I : Inv, Stable I ∧ Rounds P G (nx + 1) I ∧ I (some L) noFr (updH (updH H nx (.deferred (some []))) (nx + 1) LO) (nx + 2) ∧
   ∀ H' nx', I (some []) noFr H' nx' ∨ I none noFr H' nx' → RangeEnd P (G.at (some none)) n Q ⟨tm, H, nx, df⟩ H' nx') : CWp P (G.at (some none)) n (.rangeFunc g ps az bo) Q ⟨tm, H, nx, df⟩ := by
 obtain ⟨f, first, captured, rfl, hv⟩ := hit
 refine zafa hg fun LO hL => ?_
 obtain ⟨I, hs, hr, h0, he⟩ := h LO hL
 exact VOpen.mono (hv (nx + 1) I hs hr _ _ (Nat.lt_succ_self _) h0) (fun _ H' nx' hh => he H' nx' hh) (fun _ _ _ hh => hh.elim)
end
end Go.V
end
section
namespace Go.V
open Go
theorem VOpen.freeze1 {P : Program} {G : Glob} {f : FuncId} {args args' : List VV} {H : Nat → Option VObj} {nx γ : Nat} {el : Option TypeId} {cs : List VV} {R Rp : VV → (Nat → Option VObj) → Nat → Prop} (hγ : H γ = some (.cells el cs))
  (ha : FrozenL H (without H γ) args args') (h : VOpen P G f args' (without H γ) nx R Rp) : VOpen P G f args H nx R Rp := by
 refine ⟨h.1, fun c W vs s hH hnx hG hargs => ?_⟩
 subst hH
 have ho' : ∀ β o', without c.H γ β = some o' → ∃ o, c.H β = some o ∧ FrozenO c.H (without c.H γ) o o' := fun β o' hb => ⟨o', SubHeap.without _ _ β o' hb, .inl rfl⟩
 have hl : ∀ β, (without c.H γ β).isSome = true → c.live β := by
  intro β h
  obtain ⟨o', h'⟩ := Option.isSome_iff_exists.1 h
  obtain ⟨o, h1, _⟩ := ho' β o' h'
  simp [Ctx.live, h1]
 have he : Ext c W (c.frz (without c.H γ)) W := zwu hl
 have ab : Abides c W (c.frz (without c.H γ)) W := zht hl
 have hloop : ∀ x st pe tm ps asg bo df, without c.H γ x = some (.loop st pe tm ps asg bo df) → isDef (without c.H γ) df := by
  intro x st pe tm ps asg bo df hx
  obtain ⟨l, fn, _, _, _, hd⟩ := s.obj x _ (SubHeap.without _ _ x _ hx)
  exact hd.without hγ
 refine (h.2 (c.frz (without c.H γ)) W vs (s.frz ho' hloop) rfl hnx (hG.abides ab) (zhz s hl ha hargs)).mono ?_
 rintro e W' ⟨c', H1, nx', g1, g2, g3, g4, g5, g6, g7⟩
 exact ⟨c', H1, nx', he.trans g1, g2, g3, g4, g5, g6, g7⟩
theorem Frozen.same {H H' : Nat → Option VObj} {x : VV} : Frozen H H' x x := .inl rfl
theorem FrozenL.same {H H' : Nat → Option VObj} : ∀ {xs : List VV}, FrozenL H H' xs xs
 | [] => trivial
 | _ :: _ => ⟨.same, .same⟩
theorem Frozen.own {H : Nat → Option VObj} {γ n w cp : Nat} {el : Option TypeId} {cs : List VV} (hγ : H γ = some (.cells el cs)) (ht : treeL cs = true) (hl : cs.length = n * w) : Frozen H (without H γ) (.ref γ 0 n w cp) (.sl cs n false) := by
 refine .inr (.inr ⟨cs.length + 2, ?_⟩)
 have hg : gone H (without H γ) γ = some (.cells el cs) := by simp [gone, without, hγ]
 unfold sealV
 have : (VV.ref γ 0 n w cp).tree = false := rfl
 rw [this]
 simp only [Bool.false_eq_true, if_false, hg, Nat.zero_le, if_true, List.drop_zero]
 rw [List.take_of_length_le (by omega), zir cs _ ht (by omega)]
 rfl
theorem VPure.weaken {P : Program} {G : Glob} {f : FuncId} {args args' : List VV} {r : PRes} (hw : ∀ c W vs, RepL c W args vs → RepL c W args' vs) (h : VPure P G f args' r) : VPure P G f args r :=
 ⟨h.1, fun A W vs h1 h2 h3 => h.2 A W vs h1 h2 (hw _ W vs h3)⟩
theorem zaqw {c : Ctx} {W : World} {v : Value} (h : Rep c W (.lit (.slice none 0 0)) v) : Rep c W (.sl [] 0 false) v := by
 have e : v = .slice none 0 0 := h
 subst e
 exact ⟨none, 0, rfl, Nat.le_refl _, fun h => by simp at h, .inl rfl⟩
def vx {α : Type} (enc : α → List VV) : List α → VV
 | [] => .lit (.slice none 0 0)
 | l => .sl (cellsL enc l) l.length false
theorem zatc {α : Type} {enc : α → List VV} {c : Ctx} {W : World} {v : Value} : ∀ {l : List α}, Rep c W (vx enc l) v → Rep c W (.sl (cellsL enc l) l.length false) v
 | [], h => zaqw h
 | _ :: _, h => h
theorem zabb {α : Type} {enc : α → List VV} {l : List α} (h : l ≠ []) : vx enc l = .sl (cellsL enc l) l.length false := by cases l with
 | nil => exact absurd rfl h
 | cons a l => rfl
end Go.V
namespace Go.V
theorem zaob {α : Type} {enc : α → List VV} (he : EncOk enc) : ∀ {l : List α}, (vx enc l).tree = true
 | [] => rfl
 | a :: l => he.treeL (a :: l)
end Go.V
namespace Go.V
def lessN (H : Nat → Option VObj) (ns : List Nat) : Nat → Option VObj := fun γ => if γ ∈ ns then none else H γ
theorem zxq {H : Nat → Option VObj} {ns : List Nat} : SubHeap (lessN H ns) H := fun x o h => by
 unfold lessN at h
 split at h
 ·cases h
 ·exact h
theorem VOpen.freezeN {P : Program} {G : Glob} {f : FuncId} {args args' : List VV} {H : Nat → Option VObj} {nx : Nat} {R Rp : VV → (Nat → Option VObj) → Nat → Prop} (ns : List Nat) (hns : ∀ γ ∈ ns, ∃ el cs, H γ = some (.cells el cs))
  (ha : FrozenL H (lessN H ns) args args') (h : VOpen P G f args' (lessN H ns) nx R Rp) : VOpen P G f args H nx R Rp := by
 refine ⟨h.1, fun c W vs s hH hnx hG hargs => ?_⟩
 subst hH
 have ho' : ∀ β o', lessN c.H ns β = some o' → ∃ o, c.H β = some o ∧ FrozenO c.H (lessN c.H ns) o o' := fun β o' hb => ⟨o', zxq β o' hb, .inl rfl⟩
 have hl : ∀ β, (lessN c.H ns β).isSome = true → c.live β := by
  intro β h
  obtain ⟨o', h'⟩ := Option.isSome_iff_exists.1 h
  obtain ⟨o, h1, _⟩ := ho' β o' h'
  simp [Ctx.live, h1]
 have he : Ext c W (c.frz (lessN c.H ns)) W := zwu hl
 have ab : Abides c W (c.frz (lessN c.H ns)) W := zht hl
 have hloop : ∀ x st pe tm ps asg bo df, lessN c.H ns x = some (.loop st pe tm ps asg bo df) → isDef (lessN c.H ns) df := by
  intro x st pe tm ps asg bo df hx
  obtain ⟨l, fn, _, _, _, ds, hd⟩ := s.obj x _ (zxq x _ hx)
  refine ⟨ds, ?_⟩
  unfold lessN
  split
  ·rename_i hm
   obtain ⟨el, cs, hc⟩ := hns df hm
   rw [hc] at hd; cases hd
  ·exact hd
 refine (h.2 (c.frz (lessN c.H ns)) W vs (s.frz ho' hloop) rfl hnx (hG.abides ab) (zhz s hl ha hargs)).mono ?_
 rintro e W' ⟨c', H1, nx', g1, g2, g3, g4, g5, g6, g7⟩
 exact ⟨c', H1, nx', he.trans g1, g2, g3, g4, g5, g6, g7⟩
theorem VOpen.of_pure {P : Program} {G : Glob} {f : FuncId} {args : List VV} {x : VV} {H : Nat → Option VObj} {nx : Nat} (h : VPure P G f args (.tree x)) (ht : treeL args = true) : VOpen P G f args H nx (fun y H' nx' => y = x ∧ H' = H ∧ nx' = nx) (fun _ _ _ => False) := by
 refine ⟨h.1, fun c W vs s hH hnx hG ha => (h.2 c.A W vs s.ltA (fun g cs hg => hG.tree g cs hg) (zfi ht ha)).mono ?_⟩
 rintro e W' ⟨A', h1, h2, h3, hb, v, rfl, hx⟩
 exact ⟨c.more A', H, nx, Ext.more h1 h2 hb, Sim.more s h1 h2 h3 hb, hH, fun β hb => .inl hb, hnx, Nat.le_refl _, .inl ⟨x, v, rfl, Rep.abides (zcl (fun _ h => h)) _ hx, rfl, rfl, rfl⟩⟩
abbrev sI (l : List Int) : VV := .sl (cellsL eI l) l.length false
theorem zarq {L : List (List Int)} (h : ∀ q ∈ L, q ≠ []) : L.map (vx eI) = L.map sI := List.map_congr_left fun q hq => zabb (h q hq)
end Go.V
namespace Go.V
theorem ztb {H : Nat → Option VObj} {m : Nat} : ∀ (caps : List (Nat × List VV)) (n : Nat), (∀ p ∈ caps, (∃ el, H p.1 = some (.cells el p.2)) ∧ treeL p.2 = true ∧ p.2.length < m) → caps.length + m + 2 < n →
  sealL H n (caps.map fun p => .ptr p.1 0) = some (caps.map fun p => .tp p.2)
 | [], n + 1, _, _ => by simp [sealL]
 | p :: caps, n + 1, h, hn => by
  obtain ⟨⟨el, h1⟩, h2, h3⟩ := h p (List.mem_cons_self ..)
  have ih := ztb caps n (fun q hq => h q (List.mem_cons_of_mem _ hq)) (by simp at hn; omega)
  obtain ⟨n', rfl⟩ : ∃ n', n = n' + 1 := ⟨n - 1, by simp at hn; omega⟩
  have e : sealV H (n' + 1) (.ptr p.1 0) = some (.tp p.2) := by
   unfold sealV
   have : (VV.ptr p.1 0).tree = false := rfl
   rw [this]
   simp only [Bool.false_eq_true, if_false, h1, Nat.zero_le, if_true, List.drop_zero]
   rw [zir _ _ h2 (by simp at hn; omega)]
   rfl
  simp only [List.map_cons]
  unfold sealL
  rw [e, ih]
theorem Frozen.closure {H H' : Nat → Option VObj} {f : Fn} (caps : List (Nat × List VV)) (m : Nat) (hne : caps ≠ []) (h : ∀ p ∈ caps, (∃ el, H p.1 = some (.cells el p.2)) ∧ (H' p.1).isSome = false ∧ treeL p.2 = true ∧ p.2.length < m) : Frozen H H' (.fn f [] (caps.map fun p => .ptr p.1 0)) (.fn f [] (caps.map fun p => .tp p.2)) := by
 refine .inr (.inr ⟨caps.length + m + 4, ?_⟩)
 have hg : ∀ p ∈ caps, (∃ el, gone H H' p.1 = some (.cells el p.2)) ∧ treeL p.2 = true ∧ p.2.length < m := by
  intro p hp
  obtain ⟨⟨el, h1⟩, h2, h3⟩ := h p hp
  exact ⟨⟨el, by simp [gone, h2, h1]⟩, h3⟩
 have ht : (VV.fn f [] (caps.map fun p => .ptr p.1 0)).tree = false := by
  cases caps with
  | nil => exact absurd rfl hne
  | cons p l => simp [VV.tree, treeL]
 unfold sealV
 rw [ht]
 simp only [Bool.false_eq_true, if_false]
 rw [ztb caps _ hg (by omega)]
 have : sealL (gone H H') (caps.length + m + 3) [] = some [] := by simp [sealL]
 rw [this]
end Go.V
namespace Go.V
def goL (rc : List Int → Option (List (List Int))) (may : List Int → Int → Option Bool) (p : List Int) : List Nat → Option (List (List Int))
 | [] => some []
 | i :: is => Option.bind (may p (i : Int)) fun b => cond b (Option.bind (rc (p ++ [(i : Int)])) fun a => Option.bind (goL rc may p is) fun r => some (a ++ r)) (goL rc may p is)
def listsO (may : List Int → Int → Option Bool) (lim : Nat) : Nat → List Int → Option (List (List Int))
 | 0, p => some [p]
 | d + 1, p => goL (listsO may lim d) may p (List.range' 0 lim)
theorem zabd {rc : List Int → Option (List (List Int))} {may : List Int → Int → Option Bool} {p : List Int} {Pr : List Int → Prop} (hr : ∀ i L, rc (p ++ [(i : Int)]) = some L → ∀ q ∈ L, Pr q) : ∀ (is : List Nat) (L : List (List Int)), goL rc may p is = some L → ∀ q ∈ L, Pr q
 | [], L, h, q, hq => by simp [goL] at h; subst h; cases hq
 | i :: is, L, h, q, hq => by
  unfold goL at h
  cases hm : may p (i : Int) with
  | none => rw [hm] at h; cases h
  | some b =>
   rw [hm, Option.bind_some] at h
   cases b with
   | false => exact zabd hr is L h q hq
   | true =>
    rw [cond_true] at h
    cases ha : rc (p ++ [(i : Int)]) with
    | none => rw [ha] at h; cases h
    | some a =>
     rw [ha, Option.bind_some] at h
     cases hg : goL rc may p is with
     | none => rw [hg] at h; cases h
     | some r =>
      rw [hg, Option.bind_some] at h
      cases h
      rcases List.mem_append.1 hq with hq | hq
      ·exact hr i a ha q hq
      ·exact zabd hr is r hg q hq
theorem zso {may : List Int → Int → Option Bool} {lim : Nat} : ∀ (d : Nat) (p : List Int) (L : List (List Int)), listsO may lim d p = some L → ∀ q ∈ L, q.length = p.length + d
 | 0, p, L, h, q, hq => by
  simp [listsO] at h; subst h
  rw [List.mem_singleton.1 hq]; rfl
 | d + 1, p, L, h, q, hq => by
  unfold listsO at h
  exact zabd (Pr := fun q => q.length = p.length + (d + 1)) (fun i L' h' q' hq' => by rw [zso d _ L' h' q' hq']; simp; omega) _ L h q hq
end Go.V
namespace Go.V
theorem ktreeR {P : Program} {G : Glob} {γ : Nat} {tm : Nat → VV} {H : Nat → Option VObj} {nx : Nat} {df : List VDef} {d : Option Tmp} {K : St → Prop} {Qp : VV → St → Prop} {f : FuncId} {args : List VV} {x : VV} (ht : treeL args = true) (hp : VPure P G f args (.tree x)) (h : fin d γ tm H nx df K x .none) : callK P G f args ⟨tm, H, nx, df⟩ d γ K Qp := by
 refine .inl ⟨ht, .tree x, hp, ?_⟩
 rw [← zhw (K := K), zbp] at h
 exact h
end Go.V
namespace Go.V
theorem Frozen.ptr {H H' : Nat → Option VObj} {γ : Nat} {el : Option TypeId} {cs : List VV} (hγ : H γ = some (.cells el cs)) (hn : (H' γ).isSome = false) (ht : treeL cs = true) : Frozen H H' (.ptr γ 0) (.tp cs) := by
 refine .inr (.inr ⟨cs.length + 2, ?_⟩)
 have hg : gone H H' γ = some (.cells el cs) := by simp [gone, hn, hγ]
 unfold sealV
 have : (VV.ptr γ 0).tree = false := rfl
 rw [this]
 simp only [Bool.false_eq_true, if_false, hg, Nat.zero_le, if_true, List.drop_zero]
 rw [zir cs _ ht (by omega)]
 rfl
end Go.V
end
section
set_option linter.defProp false
namespace Go.V
open Go
def kIdx {K : Type} (q : K → K → Bool) (k : K) : List K → Nat → Option Nat
 | [], _ => none
 | e :: es, i => cond (q k e) (some i) (kIdx q k es (i + 1))
theorem zrq {K : Type} {q : K → K → Bool} {k : K} : ∀ (es : List K) (i j : Nat), kIdx q k es i = some j → i ≤ j ∧ ∃ e, es[j - i]? = some e ∧ q k e = true
 | [], _, _, h => by cases h
 | e :: es, i, j, h => by
  unfold kIdx at h
  cases hq : q k e with
  | true =>
   rw [hq] at h
   simp only [cond_true, Option.some.injEq] at h
   subst h
   exact ⟨Nat.le_refl _, e, by simp, hq⟩
  | false =>
   rw [hq] at h
   simp only [cond_false] at h
   obtain ⟨h1, x, h2, h3⟩ := zrq es (i + 1) j h
   refine ⟨by omega, x, ?_, h3⟩
   rw [show j - i = (j - (i + 1)) + 1 by omega]
   simpa using h2
def mapGet {K V : Type} (q : K → K → Bool) (z : V) (l : List (K × V)) (k : K) : V := match kIdx q k (l.map (·.1)) 0 with
 | some i => match l[i]? with | some p => p.2 | none => z
 | none => z
def mapSet {K V : Type} (q : K → K → Bool) (l : List (K × V)) (k : K) (v : V) : List (K × V) := match kIdx q k (l.map (·.1)) 0 with
 | some i => l.set i (k, v)
 | none => l ++ [(k, v)]
def encM {K V : Type} (kv : K → Value) (ev : V → VV) (l : List (K × V)) : List (Value × VV) := l.map fun p => (kv p.1, ev p.2)
section
variable {P : Program} {K V : Type} {q : K → K → Bool} {kv : K → Value} {ev : V → VV} {t kt et : TypeId} {H : Nat → Option VObj} {β : Nat}
theorem zwj (he : ∀ a b, evalP P (Op.equal kt (kv a) (kv b)) = some (q a b)) (k : K) : ∀ (ks : List K) (i : Nat), evalP P (Instr.findAsking kt (kv k) ((ks.map kv).map dummy) i) = some ((kIdx q k ks i).map fun j => (j, Value.bool false))
 | [], i => rfl
 | e :: es, i => by
  simp only [List.map_cons, Instr.findAsking, kIdx]
  rw [zaj]
  have h0 : evalP P (Op.equal kt (kv k) (dummy (kv e)).key) = some (q k e) := he k e
  rw [h0, Option.bind_some]
  cases q k e with
  | true => rfl
  | false => exact zwj he k es (i + 1)
theorem zaie {fs : Array Field} (hu : P.underlying kt = some (.struct fs)) (he : ∀ a b, evalP P (Op.equal kt (kv a) (kv b)) = some (q a b)) (k : K) (ks : List K) : kfind P kt (kv k) (ks.map kv) = some (kIdx q k ks 0) := by
 unfold kfind Instr.findKey
 rw [zaj, zjt hu, Option.bind_some]
 have ha := zwj he k ks 0
 cases ks with
 | nil => rfl
 | cons e es =>
  have hn : Instr.findNow (.struct fs) (kv k) (((e :: es).map kv).map dummy) 0 = none := by
   simp only [List.map_cons, Instr.findNow]
   have : Instr.sameNow (.struct fs) (kv k) (dummy (kv e)).key = none := by cases kv k <;> rfl
   rw [this]
  rw [hn]
  simp only []
  rw [ha]
  cases kIdx q k (e :: es) 0 <;> rfl
theorem zyk {l : List (K × V)} : (encM kv ev l).map (·.1) = (l.map (·.1)).map kv := by simp [encM, Function.comp_def]
theorem zaef {fs : Array Field} {z : V} (hm : P.underlying t = some (.map kt et)) (hu : P.underlying kt = some (.struct fs)) (he : ∀ a b, evalP P (Op.equal kt (kv a) (kv b)) = some (q a b)) (hc : ∀ b k, evalP P (Instr.checkKey b 10000 kt (kv k)) = some ())
  (hz : ((P.info? et).bind (·.zero)).map ofVal2 = some (ev z)) {l : List (K × V)} {kx : VV} {k : K} (hk : kx.val? = some (kv k)) (hb : H β = some (.map (encM kv ev l))) :
  vlookup P H t (.mp β) kx false = some (ev (mapGet q z l k)) := by
 unfold vlookup
 rw [hm, hk]
 simp only [mapOf, hb]
 rw [hc, zyk, zaie hu he]
 cases hzz : (P.info? et).bind (·.zero) with
 | none => rw [hzz] at hz; cases hz
 | some z0 =>
  rw [hzz] at hz
  simp only [Option.map_some, Option.some.injEq] at hz
  unfold mapGet
  cases hi : kIdx q k (l.map (·.1)) 0 with
  | none => simp only [Bool.false_eq_true, if_false]; exact congrArg some hz
  | some i =>
   obtain ⟨_, e, h1, _⟩ := zrq _ _ _ hi
   rw [Nat.sub_zero, List.getElem?_map] at h1
   cases hl : l[i]? with
   | none => rw [hl] at h1; cases h1
   | some p =>
    have : (encM kv ev l)[i]? = some (kv p.1, ev p.2) := by unfold encM; rw [List.getElem?_map, hl]; rfl
    simp only [this, hl, Bool.false_eq_true, if_false]
theorem zaex {fs : Array Field} (hm : P.underlying t = some (.map kt et)) (hu : P.underlying kt = some (.struct fs)) (he : ∀ a b, evalP P (Op.equal kt (kv a) (kv b)) = some (q a b)) (hc : ∀ b k, evalP P (Instr.checkKey b 10000 kt (kv k)) = some ())
  (hq : ∀ a b, q a b = true → a = b) (hs : ∀ a, Instr.sameBits 10000 (kv a) (kv a) = true) {l : List (K × V)} {kx : VV} {k : K} {v : V} (hk : kx.val? = some (kv k)) (hb : H β = some (.map (encM kv ev l))) :
  vmapUpdate P H t (.mp β) kx (ev v) = some (.upd β (.map (encM kv ev (mapSet q l k v)))) := by
 unfold vmapUpdate
 rw [hm, hk]
 simp only [hb]
 rw [hc, zyk, zaie hu he]
 unfold mapSet
 cases hi : kIdx q k (l.map (·.1)) 0 with
 | none => simp only [encM, List.map_append, List.map_cons, List.map_nil]
 | some i =>
  obtain ⟨_, e, h1, h2⟩ := zrq _ _ _ hi
  rw [Nat.sub_zero, List.getElem?_map] at h1
  cases hl : l[i]? with
  | none => rw [hl] at h1; cases h1
  | some p =>
   have h3 : (encM kv ev l)[i]? = some (kv p.1, ev p.2) := by unfold encM; rw [List.getElem?_map, hl]; rfl
   rw [hl] at h1
   simp only [Option.map_some, Option.some.injEq] at h1
   have h4 := hq _ _ h2
   subst h4
   subst h1
   simp only [h3, hs, if_true]
   simp only [encM, List.map_set]
end
section
variable {P : Program} {G : Glob} {γ : Nat} {tm : Nat → VV} {H : Nat → Option VObj} {nx : Nat} {df : List VDef} {K : St → Prop} {Kd : List Nat → List Nat → St → Prop} {Qp : VV → St → Prop}
 {d : Option Tmp} {ty : TypeId} {pos : String} {af : Array Edge} {g : Option (Nat × Bool)}
theorem zuh {t : TypeId} : bodyK P G γ ⟨d, .makeMap t none, ty, pos, af, g⟩ ⟨tm, H, nx, df⟩ K Qp = fin d γ tm H nx df K (.mp γ) (.new (.map [])) := by
 rw [zfa (by simp) (by simp) (by simp)]; rfl
theorem zaag {t : TypeId} {x k : Operand} {ok : Bool} : bodyK P G γ ⟨d, .lookup t x k ok, ty, pos, af, g⟩ ⟨tm, H, nx, df⟩ K Qp = oK (vlookup P H t (ev G tm x) (ev G tm k) ok) (fun y => fin d γ tm H nx df K y .none) := by
 rw [zfa (by simp) (by simp) (by simp)]; simp only [vop]; exact zrh
def umK (o : Option VEff) (k : VEff → Prop) : Prop := match o with | some e => k e | none => False
theorem zajv {e : VEff} {k : VEff → Prop} : umK (some e) k = k e := rfl
theorem zqx {t : TypeId} {m k x : Operand} : bodyK P G γ ⟨d, .mapUpdate t m k x, ty, pos, af, g⟩ ⟨tm, H, nx, df⟩ K Qp = umK (vmapUpdate P H t (ev G tm m) (ev G tm k) (ev G tm x)) (fun e => fin d γ tm H nx df K .any e) := by
 rw [zfa (by simp) (by simp) (by simp)]; simp only [vop]
 cases vmapUpdate P H t (ev G tm m) (ev G tm k) (ev G tm x) <;> rfl
theorem zafx : ev G tm (.const (.map none)) = .lit (.map none) := rfl
theorem zcx {K V : Type} {kv : K → Value} {ew : V → VV} : encM kv ew [] = [] := rfl
def mq := (And.intro (And.intro @zuh @zaag) (And.intro @zqx (And.intro @zajv @zafx)))
end
end Go.V
end
section
set_option linter.defProp false
namespace Go.V
open Go
def RM (y x : VV) (H : Nat → Option VObj) (_ : Nat) : Prop := ∃ β es, x = .mp β ∧ H β = some (.map es) ∧ treeL (es.map (·.2)) = true ∧ y = .mt (es.map (·.1)) (es.map (·.2))
theorem VPure.of_openM {P : Program} {G : Glob} {f : FuncId} {args : List VV} {y : VV} (h : VOpen P G f args (fun _ => none) 0 (RM y) (fun _ _ _ => False)) : VPure P G f args (.tree y) := by
 refine ⟨h.1, fun A W vs hA hG hargs => (h.2 (PCtx A) W vs (zlj hA) rfl (fun β hb => hb.elim) hG hargs).mono ?_⟩
 rintro e W' ⟨c', H', nx', hext, hs', hH', hu, hu', hle, hres⟩
 have hbelow := zgd hext
 have hge : ∀ β, c'.live β → W.heap.size ≤ c'.φ β := by
  intro β hl
  rcases Nat.lt_or_ge (c'.φ β) W.heap.size with h | h
  ·obtain ⟨γ, hγ, _⟩ := hext.old β hl h
   simp [PCtx, Ctx.live] at hγ
  ·exact h
 have hold : ∀ b, c'.A b → A b ∨ W.heap.size ≤ b := by
  intro b hb
  rcases hext.newA b hb with h | h | ⟨β, h, _⟩
  ·exact .inl h
  ·exact .inr h
  ·simp [PCtx, Ctx.live] at h
 have held : ∀ {H0 : Nat → Option VObj}, SubHeap H0 c'.H → ∀ b, heldIn c' H0 b → A b ∨ W.heap.size ≤ b := by
  intro H0 hsub b hb
  rcases hb with h | ⟨β, h, e⟩
  ·exact hold b h
  ·exact .inr (e ▸ hge β (hsub.live h))
 have heldlt : ∀ {H0 : Nat → Option VObj}, SubHeap H0 c'.H → ∀ b, heldIn c' H0 b → b < W'.heap.size := by
  intro H0 hsub b hb
  rcases hb with h | ⟨β, h, e⟩
  ·exact hs'.ltA b h
  ·exact e ▸ hs'.lt β (hsub.live h)
 rcases hres with ⟨x, v, rfl, hrv, β, es, rfl, hβ, ht, rfl⟩ | ⟨x, v, rfl, hv, hF⟩
 ·subst hH'
  refine ⟨heldIn c' c'.H, fun b hb => .inl (hext.A b hb), held (SubHeap.refl _), heldlt (SubHeap.refl _), hbelow, v, rfl, ?_⟩
  have hv : v = .map (some (c'.φ β)) := hrv.2 (by simp [Ctx.live, hβ])
  obtain ⟨ents, clk, h1, h2, h3⟩ := hs'.obj β _ hβ
  have ab : Abides (PCtx c'.A) W' (PCtx (heldIn c' c'.H)) W' := zcl (fun b hb => Or.inl hb)
  exact ⟨_, hv, .inr ⟨β, by simp [hβ], rfl⟩, ents, clk, h1, h2, RepL.abides ab _ (zfi ht h3)⟩
 ·exact hF.elim
theorem VPure.runM {P : Program} {G : Glob} (hm : P.follows .mixedOrders = true) {f : FuncId} {fn : Func} {code : Code} {args : List VV} {y : VV} (hc : Callable P f) (hf : P.funcs[f]? = some fn) (hb : fn.body = some code)
  (hst : (decide (args.length ≤ fn.ntmps) && codeOk fn.ntmps code) = true) (h : CWp P (G.at (some none)) fn.ntmps code (OpenPostD P G fn (RM y) (fun _ _ _ => False)) { tm := argsTm args, H := fun _ => none, nx := 0, df := [] }) : VPure P G f args (.tree y) :=
 VPure.of_openM (VOpen.run hm hc hf hb hst h)
def mtK {K V : Type} (kv : K → Value) (l : List (K × V)) : List Value := l.map fun p => kv p.1
def mtV {K V : Type} (ew : V → VV) (l : List (K × V)) : List VV := l.map fun p => ew p.2
theorem zaim {K V : Type} {ew : V → VV} (ht : ∀ v, (ew v).tree = true) : ∀ l : List (K × V), treeL (mtV ew l) = true
 | [] => rfl
 | p :: l => by
  show ((ew p.2).tree && treeL (mtV ew l)) = true
  rw [ht, zaim ht l]; rfl
theorem zatw {K V : Type} {kv : K → Value} {ew : V → VV} {β nx : Nat} {H : Nat → Option VObj} {l : List (K × V)} (ht : ∀ v, (ew v).tree = true) (hb : H β = some (.map (encM kv ew l))) : RM (.mt (mtK kv l) (mtV ew l)) (.mp β) H nx := by
 have e1 : (encM kv ew l).map (·.1) = mtK kv l := by simp [encM, mtK, Function.comp_def]
 have e2 : (encM kv ew l).map (·.2) = mtV ew l := by simp [encM, mtV, Function.comp_def]
 exact ⟨β, _, rfl, hb, by rw [e2]; exact zaim ht l, by rw [e1, e2]⟩
theorem zalj {K V : Type} {kv : K → Value} {ew : V → VV} {H : Nat → Option VObj} (l : List (K × V)) : mapOf H (.mt (mtK kv l) (mtV ew l)) = some (encM kv ew l) := by
 simp only [mapOf, mtK, mtV, encM, Option.some.injEq]
 induction l with
 | nil => rfl
 | cons p l ih => simp only [List.map_cons, List.zip_cons_cons, ih]
section
variable {P : Program} {K V : Type} {q : K → K → Bool} {kv : K → Value} {ew : V → VV} {t kt et : TypeId} {H : Nat → Option VObj}
theorem zzq {fs : Array Field} {z : V} (hm : P.underlying t = some (.map kt et)) (hu : P.underlying kt = some (.struct fs)) (he : ∀ a b, evalP P (Op.equal kt (kv a) (kv b)) = some (q a b)) (hc : ∀ b k, evalP P (Instr.checkKey b 10000 kt (kv k)) = some ())
  (hz : ((P.info? et).bind (·.zero)).map ofVal2 = some (ew z)) {l : List (K × V)} {kx : VV} {k : K} (hk : kx.val? = some (kv k)) :
  vlookup P H t (.mt (mtK kv l) (mtV ew l)) kx false = some (ew (mapGet q z l k)) := by
 have := zaef (H := fun _ => some (.map (encM kv ew l))) (β := 0) hm hu he hc hz hk rfl
 unfold vlookup at this ⊢
 rw [zalj]
 exact this
end
theorem zape {ks : List Value} {vs : List VV} : (VV.mt ks vs).leaf = true := rfl
def mqm := @zape
end Go.V
end
section
namespace Go.V
open Go
def lexL : List Int → List Int → Prop
 | a :: x, b :: y => a < b ∨ a = b ∧ lexL x y
 | [], _ :: _ => True
 | _, [] => False
theorem zale (p : List Int) {x y : List Int} : lexL (p ++ x) (p ++ y) ↔ lexL x y := by
 induction p with
 | nil => exact Iff.rfl
 | cons a p ih =>
  show (a < a ∨ a = a ∧ lexL (p ++ x) (p ++ y)) ↔ _
  rw [ih]
  constructor
  ·rintro (h | h)
   ·omega
   ·exact h.2
  ·exact fun h => .inr ⟨rfl, h⟩
theorem zpm : ∀ {x : List Int}, ¬ lexL x x
 | [], h => h
 | a :: x, h => by
  rcases h with h | ⟨_, h⟩
  ·omega
  ·exact zpm h
theorem zss : ∀ {x y z : List Int}, lexL x y → lexL y z → lexL x z
 | [], [], _, h, _ => h.elim
 | [], _ :: _, [], _, h => h.elim
 | [], _ :: _, _ :: _, _, _ => trivial
 | _ :: _, [], _, h, _ => h.elim
 | _ :: _, _ :: _, [], _, h => h.elim
 | a :: x, b :: y, c :: z, h, k => by
  rcases h with h | ⟨rfl, h⟩ <;> rcases k with k | ⟨rfl, k⟩
  ·exact .inl (by omega)
  ·exact .inl h
  ·exact .inl k
  ·exact .inr ⟨rfl, zss h k⟩
section
variable {K V : Type} {q : K → K → Bool} {z : V}
def getR (q : K → K → Bool) (z : V) (k : K) : List (K × V) → V
 | [] => z
 | e :: l => if q k e.1 then e.2 else getR q z k l
def setR (q : K → K → Bool) (k : K) (v : V) : List (K × V) → List (K × V)
 | [] => [(k, v)]
 | e :: l => if q k e.1 then (k, v) :: l else e :: setR q k v l
theorem zuk (k : K) : ∀ (es : List K) (i : Nat), kIdx q k es (i + 1) = (kIdx q k es i).map (· + 1)
 | [], _ => rfl
 | e :: es, i => by
  unfold kIdx
  cases q k e with
  | true => rfl
  | false => exact zuk k es (i + 1)
theorem zrn (k : K) : ∀ l : List (K × V), mapGet q z l k = getR q z k l
 | [] => rfl
 | e :: l => by
  have ih := zrn k l
  unfold mapGet at ih ⊢
  rw [List.map_cons]
  unfold kIdx getR
  cases hq : q k e.1 with
  | true => rfl
  | false =>
   simp only [cond_false, Bool.false_eq_true, if_false]
   rw [zuk]
   cases h : kIdx q k (l.map (·.1)) 0 with
   | none => rw [h] at ih; exact ih
   | some i => rw [h] at ih; simpa using ih
theorem zwm (k : K) (v : V) : ∀ l : List (K × V), mapSet q l k v = setR q k v l
 | [] => rfl
 | e :: l => by
  have ih := zwm k v l
  unfold mapSet at ih ⊢
  rw [List.map_cons]
  unfold kIdx setR
  cases hq : q k e.1 with
  | true => rfl
  | false =>
   simp only [cond_false, Bool.false_eq_true, if_false]
   rw [zuk]
   cases h : kIdx q k (l.map (·.1)) 0 with
   | none => rw [h] at ih; simpa using ih
   | some i => rw [h] at ih; simpa using ih
theorem zxl (hq : ∀ a b, q a b = true ↔ a = b) (k k' : K) (v : V) : ∀ l : List (K × V), getR q z k' (setR q k v l) = if q k' k then v else getR q z k' l
 | [] => rfl
 | e :: l => by
  have ih := zxl hq k k' v l
  unfold setR
  cases he : q k e.1 with
  | true =>
   have e1 := (hq _ _).1 he
   simp only [if_true, getR, ← e1]
   split <;> rfl
  | false =>
   simp only [Bool.false_eq_true, if_false, getR, ih]
   cases h1 : q k' e.1 with
   | true =>
    have e1 := (hq _ _).1 h1
    have : q k' k = false := by
     cases h2 : q k' k with
     | false => rfl
     | true =>
      have e2 := (hq _ _).1 h2
      rw [e2] at e1
      rw [e1, (hq _ _).2 rfl] at he
      cases he
    rw [this]
    simp
   | false => simp
theorem zadj (hq : ∀ a b, q a b = true ↔ a = b) (k k' : K) (v : V) (l : List (K × V)) : mapGet q z (mapSet q l k v) k' = if q k' k then v else mapGet q z l k' := by
 rw [zrn, zrn, zwm, zxl hq]
end
end Go.V
end
section
set_option linter.defProp false
namespace Go.V
open Go
theorem zako {ks : List Value} {vs : List VV} : normV (.mt ks vs) = .mt ks vs := by simp [normV]
end Go.V
end
section
namespace Go.V
open Go Go.Proofs
def kv138 (k : Gf) : Value := .agg ⟨[.int .i64 k.pigment, .int .i64 k.years]⟩
def q138 (a b : Gf) : Bool := (a.pigment == b.pigment) && ((a.years == b.years) && true)
def ev4 (n : Bool) : VV := .lit (.bool n)
theorem he138 (a b : Gf) : evalP Tryz.prog (Op.equal 138 (kv138 a) (kv138 b)) = some (q138 a b) := by
 have e : Op.maxDepth = 9998 + 2 := rfl
 unfold Op.equal kv138
 rw [e, zafv Tryz.underlying138 (by kernel_rfl) (r := q138 a b) (by kernel_rfl)]
theorem hc138 (b : Bool) (k : Gf) : evalP Tryz.prog (Instr.checkKey b 10000 138 (kv138 k)) = some () := by
 cases b <;> kernel_rfl
theorem hq138 (a b : Gf) (h : q138 a b = true) : a = b := by
 cases a; cases b
 simp only [q138, Bool.and_true, Bool.and_eq_true, beq_iff_eq] at h
 simp only [h]
theorem hs138 (a : Gf) : Instr.sameBits 10000 (kv138 a) (kv138 a) = true := by
 simp [kv138, Instr.sameBits]
theorem hz4 : ((Tryz.prog.info? 4).bind (·.zero)).map ofVal2 = some (ev4 false) := by kernel_rfl
theorem hk138 (k : Gf) : VV.val? (.agg [.lit (.int .i64 k.pigment), .lit (.int .i64 k.years)]) = some (kv138 k) := rfl
theorem up135 {β : Nat} (l : List (Gf × Bool)) (k : Gf) (n : Bool) (H : Nat → Option VObj) (hb : H β = some (.map (encM kv138 ev4 l))) : vmapUpdate Tryz.prog H 135 (.mp β) (.agg [.lit (.int .i64 k.pigment), .lit (.int .i64 k.years)]) (.lit (.bool n)) = some (.upd β (.map (encM kv138 ev4 (mapSet q138 l k n)))) :=
 zaex Tryz.underlying135 Tryz.underlying138 he138 hc138 hq138 hs138 (hk138 k) hb
theorem lkt135 {l : List (Gf × Bool)} {a0 a1 : Int} {H : Nat → Option VObj} : vlookup Tryz.prog H 135 (.mt (mtK kv138 l) (mtV ev4 l)) (.agg [.lit (.int .i64 a0), .lit (.int .i64 a1)]) false = some (.lit (.bool (mapGet q138 false l (Gf.mk a0 a1)))) :=
 zzq Tryz.underlying135 Tryz.underlying138 he138 hc138 hz4 (k := ⟨a0, a1⟩) rfl
theorem et4 (n : Bool) : (ev4 n).tree = true := rfl
def mqr := @zako
def mqt := @lkt135
def zag (x0_x : Gm) (x1_years : Int) (x3_has : GSpan) (r1 : Int) : Nat → Int → Option (LOut (Bool) (Int))
 | 0, _ => none
 | k2 + 1, c2_10 => cond (decide (c2_10 ≤ x0_x.sh.Fade.a2.High)) (Option.bind (zck x0_x.sh.Old.a2 x1_years c2_10) (fun r8 => cond (decide ((IntKind.i64.wrap ((IntKind.i64.wrap (r1 * r8)) - (IntKind.i64.wrap (r1 * x0_x.sh.Off)))) ≤ x3_has.High)) (cond (decide (x3_has.Low ≤ (IntKind.i64.wrap ((IntKind.i64.wrap (r1 * r8)) + (IntKind.i64.wrap (r1 * x0_x.sh.Off)))))) (some (.ret true)) (zag x0_x x1_years x3_has r1 k2 (IntKind.i64.wrap (c2_10 + 1)))) (zag x0_x x1_years x3_has r1 k2 (IntKind.i64.wrap (c2_10 + 1))))) (some (.go c2_10))
def zah (x0_x : Gm) (x1_years : Int) (x3_has : GSpan) (r1 : Int) : Nat → Int → Option (LOut (Bool) (Int))
 | 0, _ => none
 | k1 + 1, c1_10 => cond (decide (c1_10 ≤ x0_x.sh.Fade.a1.High)) (Option.bind (zck x0_x.sh.Old.a1 x1_years c1_10) (fun r5 => cond (decide ((IntKind.i64.wrap ((IntKind.i64.wrap (r1 * r5)) - (IntKind.i64.wrap (r1 * x0_x.sh.Off)))) ≤ x3_has.High)) (cond (decide (x3_has.Low ≤ (IntKind.i64.wrap ((IntKind.i64.wrap (r1 * r5)) + (IntKind.i64.wrap (r1 * x0_x.sh.Off)))))) (some (.ret true)) (zah x0_x x1_years x3_has r1 k1 (IntKind.i64.wrap (c1_10 + 1)))) (zah x0_x x1_years x3_has r1 k1 (IntKind.i64.wrap (c1_10 + 1))))) (some (.go c1_10))
def zaf (x0_x : Gm) (x1_years : Int) (x3_has : GSpan) (r1 : Int) : Nat → Int → Option (LOut (Bool) (Int))
 | 0, _ => none
 | k0 + 1, c0_10 => cond (decide (c0_10 ≤ x0_x.sh.Fade.a0.High)) (Option.bind (zck x0_x.sh.Old.a0 x1_years c0_10) (fun r2 => cond (decide ((IntKind.i64.wrap ((IntKind.i64.wrap (r1 * r2)) - (IntKind.i64.wrap (r1 * x0_x.sh.Off)))) ≤ x3_has.High)) (cond (decide (x3_has.Low ≤ (IntKind.i64.wrap ((IntKind.i64.wrap (r1 * r2)) + (IntKind.i64.wrap (r1 * x0_x.sh.Off)))))) (some (.ret true)) (zaf x0_x x1_years x3_has r1 k0 (IntKind.i64.wrap (c0_10 + 1)))) (zaf x0_x x1_years x3_has r1 k0 (IntKind.i64.wrap (c0_10 + 1))))) (some (.go c0_10))
def zbg (x0_x : Gm) (x1_years : Int) (xpg2 : Int) (x3_has : GSpan) : Option (Bool) := Option.bind (zcc x0_x) (fun r1 => cond (xpg2 == 0) (lbind (zaf x0_x x1_years x3_has r1 1000000 x0_x.sh.Fade.a0.Low) (fun r4 => some r4) (fun c3 => some false) (fun _ _ => none)) (cond (xpg2 == 1) (lbind (zah x0_x x1_years x3_has r1 1000000 x0_x.sh.Fade.a1.Low) (fun r7 => some r7) (fun c6 => some false) (fun _ _ => none)) (cond (xpg2 == 2) (lbind (zag x0_x x1_years x3_has r1 1000000 x0_x.sh.Fade.a2.Low) (fun r10 => some r10) (fun c9 => some false) (fun _ _ => none)) (none))))
theorem zcz (x0_x : Gm) (x1_years : Int) (xpg2 : Int) (x3_has : GSpan) (R : Bool) (h : zbg x0_x x1_years xpg2 x3_has = some R) : VPure Tryz.prog G0 122 [.agg (cGm x0_x), .lit (.int .i64 x1_years), .lit (.int .i64 xpg2), .agg (cGSpan x3_has)] (.tree (.lit (.bool R))) := by
 refine VPure.runR mixed Tryz.call122 Tryz.func122 rfl (by simp [Tryz.ntmps122]; kernel_rfl) ?_
 obtain ⟨KF, h, kF, kN⟩ := zan h
 simp only [zbg] at h
 obtain ⟨r11, o12, h⟩ := optI h kN
 try simp only [hs] at h
 simp only [vz, tyf, nm, seval]
 refine ktA (zdt _ _ o12) ?_
 refine zab (fun tm => tm 1 = .lit (.int .i64 x1_years) ∧ tm 2 = .lit (.int .i64 xpg2) ∧ tm 4 = .ptr 0 0 ∧ tm 7 = .ptr 1 0 ∧ tm 13 = .lit (.int .i64 r11) ∧ True) (by refine ⟨?_, ?_, ?_, ?_, ?_, trivial⟩ <;> first | (simp only [ua, nm, seval] <;> rfl) | rfl) ?_
 rintro tm ⟨e13, e14, e15, e16, e17, _⟩
 cases d18 : (xpg2 == 0)
 ·simp only [d18, hs] at h
  cases d19 : (xpg2 == 1)
  ·simp only [d19, hs] at h
   cases d20 : (xpg2 == 2)
   ·simp only [d20, hs] at h
    exact absurd h kN
   simp only [d20, hs] at h
   simp only [vz, tyf, e13, e14, e15, e16, e17, d18, d19, d20, (zlt d20), nm, seval]
   obtain ⟨K21, h, kR21, kG21, kB21, kN21⟩ := zbh h kN
   obtain ⟨f21, hf21, h⟩ := call2 h
   obtain ⟨I21, hI21⟩ : ∃ I : Nat → St → Prop, I = (fun m st => ∃ (p21 : Nat) (c21_10 : Int), p21 = m ∧ st.df = [] ∧ 13 ≤ st.nx ∧ st.H 0 = some (.cells (some 89) (cGm x0_x)) ∧ st.H 1 = some (.cells (some 24) (cGSpan x3_has)) ∧ st.tm 1 = .lit (.int .i64 x1_years) ∧ st.tm 2 = .lit (.int .i64 xpg2) ∧ st.tm 4 = .ptr 0 0 ∧ st.tm 7 = .ptr 1 0 ∧ st.tm 9 = .lit (.int .i64 r11) ∧ st.tm 10 = .lit (.int .i64 c21_10) ∧ K21 (f21 p21 c21_10)) := ⟨_, rfl⟩
   refine loopK mixed (by kernel_rfl) I21 1000000 (by rw [hI21]; refine ⟨1000000, x0_x.sh.Fade.a2.Low, rfl, rfl, (show 13 ≤ 13 by omega), ?_, ?_, e13, e14, e15, e16, ?_, ?_, h⟩ <;> first | (simp only [ua, e13, e14, e15, e16, e17, d18, d19, d20, nm, seval] <;> rfl) | rfl) ?_
   rintro m ⟨tm, H, nx21, df⟩ hinv
   rw [hI21] at hinv
   obtain ⟨p21, c21_10, rfl, hdf, hn21, H22, H23, e24, e25, e26, e27, e28, e29, h⟩ := hinv
   simp only at hdf hn21 H22 H23 e24 e25 e26 e27 e28 e29
   have n30 := zcw (m := 13) (b := nx21) (by omega)
   subst hdf hf21
   cases p21 with
   | zero =>
    simp only [zaf, zah, zag, hs, reduceCtorEq] at h
    exact absurd h kN21
   | succ p21 =>
    simp only [zaf, zah, zag, hs, reduceCtorEq] at h
    cases d31 : (decide (c21_10 ≤ x0_x.sh.Fade.a2.High))
    ·simp only [d31, hs] at h
     have b32 := And.intro d18 (And.intro d19 (And.intro d20 (And.intro n30 (And.intro H22 (And.intro H23 d31)))))
     replace h := kG21 _ h
     try dsimp only at h
     try simp only [hs] at h
     try simp only [vz, tyf, b32, (zlt d20), e24, e25, e26, e27, e28, e29, nm, seval]
     obtain rfl := kF _ h
     exact zaa Tryz.results122 rfl
    simp only [d31, hs] at h
    have b33 := And.intro d18 (And.intro d19 (And.intro d20 (And.intro n30 (And.intro H22 (And.intro H23 d31)))))
    obtain ⟨r34, o35, h⟩ := optI h kN21
    try simp only [hs] at h
    simp only [vz, tyf, b33, (zlt d20), e24, e25, e26, e27, e28, e29, (zlk d20), nm, seval]
    refine ktA (zda _ _ _ _ o35) ?_
    refine zab (fun tm => tm 1 = .lit (.int .i64 x1_years) ∧ tm 2 = .lit (.int .i64 xpg2) ∧ tm 4 = .ptr 0 0 ∧ tm 7 = .ptr 1 0 ∧ tm 9 = .lit (.int .i64 r11) ∧ tm 10 = .lit (.int .i64 c21_10) ∧ tm 30 = .lit (.int .i64 r11) ∧ tm 38 = .lit (.int .i64 r34) ∧ True) (by refine ⟨e24, e25, e26, e27, e28, e29, ?_, ?_, trivial⟩ <;> first | (simp only [ua, b33, e24, e25, e26, e27, e28, e29, nm, seval] <;> rfl) | rfl) ?_
    rintro tm ⟨e36, e37, e38, e39, e40, e41, e42, e43, _⟩
    cases d44 : (decide ((IntKind.i64.wrap ((IntKind.i64.wrap (r11 * r34)) - (IntKind.i64.wrap (r11 * x0_x.sh.Off)))) ≤ x3_has.High))
    ·simp only [d44, hs] at h
     simp only [vz, tyf, b33, (zlt d20), (zlk d20), e36, e37, e38, e39, e40, e41, e42, e43, d44, nm, seval]
     exact ⟨p21, Nat.lt_succ_self _, by rw [hI21]; refine ⟨p21, IntKind.i64.wrap (c21_10 + 1), rfl, rfl, (show 13 ≤ nx21 + 44 by omega), ?_, ?_, e36, e37, e38, e39, e40, ?_, h⟩ <;> first | (simp only [ua, b33, e36, e37, e38, e39, e40, e41, e42, e43, d44, nm, seval] <;> rfl) | rfl⟩
    simp only [d44, hs] at h
    cases d45 : (decide (x3_has.Low ≤ (IntKind.i64.wrap ((IntKind.i64.wrap (r11 * r34)) + (IntKind.i64.wrap (r11 * x0_x.sh.Off))))))
    ·simp only [d45, hs] at h
     simp only [vz, tyf, b33, (zlt d20), (zlk d20), e36, e37, e38, e39, e40, e41, e42, e43, d44, d45, nm, seval]
     exact ⟨p21, Nat.lt_succ_self _, by rw [hI21]; refine ⟨p21, IntKind.i64.wrap (c21_10 + 1), rfl, rfl, (show 13 ≤ nx21 + 44 by omega), ?_, ?_, e36, e37, e38, e39, e40, ?_, h⟩ <;> first | (simp only [ua, b33, e36, e37, e38, e39, e40, e41, e42, e43, d44, d45, nm, seval] <;> rfl) | rfl⟩
    simp only [d45, hs] at h
    try simp only [vz, tyf, b33, (zlt d20), (zlk d20), e36, e37, e38, e39, e40, e41, e42, e43, d44, d45, nm, seval]
    replace h := kR21 _ h
    try dsimp only at h
    obtain rfl := kF _ h
    exact zaa Tryz.results122 rfl
  simp only [d19, hs] at h
  simp only [vz, tyf, e13, e14, e15, e16, e17, d18, d19, (zlm d19), nm, seval]
  obtain ⟨K46, h, kR46, kG46, kB46, kN46⟩ := zbh h kN
  obtain ⟨f46, hf46, h⟩ := call2 h
  obtain ⟨I46, hI46⟩ : ∃ I : Nat → St → Prop, I = (fun m st => ∃ (p46 : Nat) (c46_10 : Int), p46 = m ∧ st.df = [] ∧ 13 ≤ st.nx ∧ st.H 0 = some (.cells (some 89) (cGm x0_x)) ∧ st.H 1 = some (.cells (some 24) (cGSpan x3_has)) ∧ st.tm 1 = .lit (.int .i64 x1_years) ∧ st.tm 2 = .lit (.int .i64 xpg2) ∧ st.tm 4 = .ptr 0 0 ∧ st.tm 7 = .ptr 1 0 ∧ st.tm 9 = .lit (.int .i64 r11) ∧ st.tm 10 = .lit (.int .i64 c46_10) ∧ K46 (f46 p46 c46_10)) := ⟨_, rfl⟩
  refine loopK mixed (by kernel_rfl) I46 1000000 (by rw [hI46]; refine ⟨1000000, x0_x.sh.Fade.a1.Low, rfl, rfl, (show 13 ≤ 13 by omega), ?_, ?_, e13, e14, e15, e16, ?_, ?_, h⟩ <;> first | (simp only [ua, e13, e14, e15, e16, e17, d18, d19, nm, seval] <;> rfl) | rfl) ?_
  rintro m ⟨tm, H, nx46, df⟩ hinv
  rw [hI46] at hinv
  obtain ⟨p46, c46_10, rfl, hdf, hn46, H47, H48, e49, e50, e51, e52, e53, e54, h⟩ := hinv
  simp only at hdf hn46 H47 H48 e49 e50 e51 e52 e53 e54
  have n55 := zcw (m := 13) (b := nx46) (by omega)
  subst hdf hf46
  cases p46 with
  | zero =>
   simp only [zaf, zah, zag, hs, reduceCtorEq] at h
   exact absurd h kN46
  | succ p46 =>
   simp only [zaf, zah, zag, hs, reduceCtorEq] at h
   cases d56 : (decide (c46_10 ≤ x0_x.sh.Fade.a1.High))
   ·simp only [d56, hs] at h
    replace h := kG46 _ h
    try dsimp only at h
    try simp only [hs] at h
    try simp only [vz, tyf, d18, d19, (zlm d19), n55, e49, e50, e51, e52, e53, e54, H47, H48, d56, nm, seval]
    obtain rfl := kF _ h
    exact zaa Tryz.results122 rfl
   simp only [d56, hs] at h
   obtain ⟨r57, o58, h⟩ := optI h kN46
   try simp only [hs] at h
   simp only [vz, tyf, d18, d19, (zlm d19), n55, e49, e50, e51, e52, e53, e54, H47, H48, d56, (zli d19), nm, seval]
   refine ktA (zda _ _ _ _ o58) ?_
   refine zab (fun tm => tm 1 = .lit (.int .i64 x1_years) ∧ tm 2 = .lit (.int .i64 xpg2) ∧ tm 4 = .ptr 0 0 ∧ tm 7 = .ptr 1 0 ∧ tm 9 = .lit (.int .i64 r11) ∧ tm 10 = .lit (.int .i64 c46_10) ∧ tm 30 = .lit (.int .i64 r11) ∧ tm 38 = .lit (.int .i64 r57) ∧ True) (by refine ⟨e49, e50, e51, e52, e53, e54, ?_, ?_, trivial⟩ <;> first | (simp only [ua, d18, d19, n55, e49, e50, e51, e52, e53, e54, H47, H48, d56, nm, seval] <;> rfl) | rfl) ?_
   rintro tm ⟨e59, e60, e61, e62, e63, e64, e65, e66, _⟩
   cases d67 : (decide ((IntKind.i64.wrap ((IntKind.i64.wrap (r11 * r57)) - (IntKind.i64.wrap (r11 * x0_x.sh.Off)))) ≤ x3_has.High))
   ·simp only [d67, hs] at h
    have b68 := And.intro d18 (And.intro d19 (And.intro n55 (And.intro H47 (And.intro H48 (And.intro d56 d67)))))
    simp only [vz, tyf, b68, (zlm d19), (zli d19), e59, e60, e61, e62, e63, e64, e65, e66, nm, seval]
    exact ⟨p46, Nat.lt_succ_self _, by rw [hI46]; refine ⟨p46, IntKind.i64.wrap (c46_10 + 1), rfl, rfl, (show 13 ≤ nx46 + 44 by omega), ?_, ?_, e59, e60, e61, e62, e63, ?_, h⟩ <;> first | (simp only [ua, b68, e59, e60, e61, e62, e63, e64, e65, e66, nm, seval] <;> rfl) | rfl⟩
   simp only [d67, hs] at h
   have b69 := And.intro d18 (And.intro d19 (And.intro n55 (And.intro H47 (And.intro H48 (And.intro d56 d67)))))
   cases d70 : (decide (x3_has.Low ≤ (IntKind.i64.wrap ((IntKind.i64.wrap (r11 * r57)) + (IntKind.i64.wrap (r11 * x0_x.sh.Off))))))
   ·simp only [d70, hs] at h
    simp only [vz, tyf, b69, (zlm d19), (zli d19), e59, e60, e61, e62, e63, e64, e65, e66, d70, nm, seval]
    exact ⟨p46, Nat.lt_succ_self _, by rw [hI46]; refine ⟨p46, IntKind.i64.wrap (c46_10 + 1), rfl, rfl, (show 13 ≤ nx46 + 44 by omega), ?_, ?_, e59, e60, e61, e62, e63, ?_, h⟩ <;> first | (simp only [ua, b69, e59, e60, e61, e62, e63, e64, e65, e66, d70, nm, seval] <;> rfl) | rfl⟩
   simp only [d70, hs] at h
   try simp only [vz, tyf, b69, (zlm d19), (zli d19), e59, e60, e61, e62, e63, e64, e65, e66, d70, nm, seval]
   replace h := kR46 _ h
   try dsimp only at h
   obtain rfl := kF _ h
   exact zaa Tryz.results122 rfl
 simp only [d18, hs] at h
 simp only [vz, tyf, e13, e14, e15, e16, e17, d18, (zlq d18), nm, seval]
 obtain ⟨K71, h, kR71, kG71, kB71, kN71⟩ := zbh h kN
 obtain ⟨f71, hf71, h⟩ := call2 h
 obtain ⟨I71, hI71⟩ : ∃ I : Nat → St → Prop, I = (fun m st => ∃ (p71 : Nat) (c71_10 : Int), p71 = m ∧ st.df = [] ∧ 13 ≤ st.nx ∧ st.H 0 = some (.cells (some 89) (cGm x0_x)) ∧ st.H 1 = some (.cells (some 24) (cGSpan x3_has)) ∧ st.tm 1 = .lit (.int .i64 x1_years) ∧ st.tm 2 = .lit (.int .i64 xpg2) ∧ st.tm 4 = .ptr 0 0 ∧ st.tm 7 = .ptr 1 0 ∧ st.tm 9 = .lit (.int .i64 r11) ∧ st.tm 10 = .lit (.int .i64 c71_10) ∧ K71 (f71 p71 c71_10)) := ⟨_, rfl⟩
 refine loopK mixed (by kernel_rfl) I71 1000000 (by rw [hI71]; refine ⟨1000000, x0_x.sh.Fade.a0.Low, rfl, rfl, (show 13 ≤ 13 by omega), ?_, ?_, e13, e14, e15, e16, ?_, ?_, h⟩ <;> first | (simp only [ua, e13, e14, e15, e16, e17, d18, nm, seval] <;> rfl) | rfl) ?_
 rintro m ⟨tm, H, nx71, df⟩ hinv
 rw [hI71] at hinv
 obtain ⟨p71, c71_10, rfl, hdf, hn71, H72, H73, e74, e75, e76, e77, e78, e79, h⟩ := hinv
 simp only at hdf hn71 H72 H73 e74 e75 e76 e77 e78 e79
 have n80 := zcw (m := 13) (b := nx71) (by omega)
 subst hdf hf71
 cases p71 with
 | zero =>
  simp only [zaf, zah, zag, hs, reduceCtorEq] at h
  exact absurd h kN71
 | succ p71 =>
  simp only [zaf, zah, zag, hs, reduceCtorEq] at h
  cases d81 : (decide (c71_10 ≤ x0_x.sh.Fade.a0.High))
  ·simp only [d81, hs] at h
   replace h := kG71 _ h
   try dsimp only at h
   try simp only [hs] at h
   try simp only [vz, tyf, d18, (zlq d18), n80, e74, e75, e76, e77, e78, e79, H72, H73, d81, nm, seval]
   obtain rfl := kF _ h
   exact zaa Tryz.results122 rfl
  simp only [d81, hs] at h
  obtain ⟨r82, o83, h⟩ := optI h kN71
  try simp only [hs] at h
  simp only [vz, tyf, d18, (zlq d18), n80, e74, e75, e76, e77, e78, e79, H72, H73, d81, (zlw d18), nm, seval]
  refine ktA (zda _ _ _ _ o83) ?_
  refine zab (fun tm => tm 1 = .lit (.int .i64 x1_years) ∧ tm 2 = .lit (.int .i64 xpg2) ∧ tm 4 = .ptr 0 0 ∧ tm 7 = .ptr 1 0 ∧ tm 9 = .lit (.int .i64 r11) ∧ tm 10 = .lit (.int .i64 c71_10) ∧ tm 30 = .lit (.int .i64 r11) ∧ tm 38 = .lit (.int .i64 r82) ∧ True) (by refine ⟨e74, e75, e76, e77, e78, e79, ?_, ?_, trivial⟩ <;> first | (simp only [ua, d18, n80, e74, e75, e76, e77, e78, e79, H72, H73, d81, nm, seval] <;> rfl) | rfl) ?_
  rintro tm ⟨e84, e85, e86, e87, e88, e89, e90, e91, _⟩
  cases d92 : (decide ((IntKind.i64.wrap ((IntKind.i64.wrap (r11 * r82)) - (IntKind.i64.wrap (r11 * x0_x.sh.Off)))) ≤ x3_has.High))
  ·simp only [d92, hs] at h
   simp only [vz, tyf, d18, (zlq d18), n80, H72, H73, d81, (zlw d18), e84, e85, e86, e87, e88, e89, e90, e91, d92, nm, seval]
   exact ⟨p71, Nat.lt_succ_self _, by rw [hI71]; refine ⟨p71, IntKind.i64.wrap (c71_10 + 1), rfl, rfl, (show 13 ≤ nx71 + 44 by omega), ?_, ?_, e84, e85, e86, e87, e88, ?_, h⟩ <;> first | (simp only [ua, d18, n80, H72, H73, d81, e84, e85, e86, e87, e88, e89, e90, e91, d92, nm, seval] <;> rfl) | rfl⟩
  simp only [d92, hs] at h
  cases d93 : (decide (x3_has.Low ≤ (IntKind.i64.wrap ((IntKind.i64.wrap (r11 * r82)) + (IntKind.i64.wrap (r11 * x0_x.sh.Off))))))
  ·simp only [d93, hs] at h
   have b94 := And.intro d18 (And.intro n80 (And.intro H72 (And.intro H73 (And.intro d81 (And.intro d92 d93)))))
   simp only [vz, tyf, b94, (zlq d18), (zlw d18), e84, e85, e86, e87, e88, e89, e90, e91, nm, seval]
   exact ⟨p71, Nat.lt_succ_self _, by rw [hI71]; refine ⟨p71, IntKind.i64.wrap (c71_10 + 1), rfl, rfl, (show 13 ≤ nx71 + 44 by omega), ?_, ?_, e84, e85, e86, e87, e88, ?_, h⟩ <;> first | (simp only [ua, b94, e84, e85, e86, e87, e88, e89, e90, e91, nm, seval] <;> rfl) | rfl⟩
  simp only [d93, hs] at h
  have b95 := And.intro d18 (And.intro n80 (And.intro H72 (And.intro H73 (And.intro d81 (And.intro d92 d93)))))
  try simp only [vz, tyf, b95, (zlq d18), (zlw d18), e84, e85, e86, e87, e88, e89, e90, e91, nm, seval]
  replace h := kR71 _ h
  try dsimp only at h
  obtain rfl := kF _ h
  exact zaa Tryz.results122 rfl
end Go.V
end
