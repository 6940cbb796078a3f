/- Part of a proof. -/
import Derived.Test.YtmhlghgbfmcdaaaGreatDoorD1bg
import Derived.Test.YtmhlghgbfmcdaaaGreatDoorD1az
import Derived.Test.YtmhlghgbfmcdaaaGreatDoorProg
set_option linter.all false
set_option maxRecDepth 4000
set_option maxHeartbeats 40000000
section
namespace Go.V
open Go Go.Proofs
section
variable {P : Program} {H : Nat → Option VObj} {γ : Nat} {α : Type} {enc : α → List VV} {t t2 e e2 w b : Nat} {xs ys : List α} {el : Option TypeId} {β : Nat} {f : Bool} {k : VV → VEff → Prop}
end
end Go.V
end
section
set_option linter.defProp false
namespace Go.V
open Go Go.Proofs
section
variable {P : Program} {G : Glob} {n : Nat} {x : Code} {Q : VExit → St → Prop} {st : St}
end
end Go.V
end
section
set_option linter.defProp false
namespace Go.V
open Go Go.Proofs
section
variable {P : Program} {G : Glob} {n : Nat} {Q : VExit → St → Prop} {tm : Nat → VV} {H : Nat → Option VObj} {nx : Nat} {df : List VDef} {g : Operand} {ps : Array Tmp} {az bo : Code} {f : FuncId} {first captured : List VV}
theorem v9 {β : Nat} : aK (.yl β) = some [.yl β] := rfl
theorem vA {β : Nat} : (VV.yl β).leaf = true := rfl
theorem ai.at {x : Option (Option Nat)} {args : List VV} {r : PRes} (h : ai P G f args r) : ai P (G.at x) f args r := h
def rg := And.intro @v9 (And.intro @vA @vB)
end
end Go.V
end
section
namespace Go.V
open Go Go.Proofs
section
variable {P : Program} {G : Glob} {f : FuncId} {β γ w c nx : Nat} {tm : Nat → VV} {H : Nat → Option VObj} {df : List VDef} {d : Option Tmp} {K : List Nat → List Nat → St → Prop} {el : Option TypeId} {α : Type} {enc : α → List VV} {xs ys : List α} {x : VV}
end
section
variable {P : Program} {G : Glob} {β γ w e : Nat} {t ty : TypeId} {tm : Nat → VV} {H : Nat → Option VObj} {d : Option Tmp} {k : VV → VEff → Prop} {el : Option TypeId} {α : Type} {enc : α → List VV} {xs ys : List α} {pos : String} {af : Array Edge} {g : Option (Nat × Bool)} {x : Operand} {lo hi : Option Operand}
end
section
variable {P : Program} {G : Glob} {f : FuncId} {γ nx : Nat} {tm : Nat → VV} {H : Nat → Option VObj} {df : List VDef} {d : Option Tmp} {x : VV}
theorem ktree0 {K : St → Prop} {Qp : VV → St → Prop} (hp : ai P G f [] (.tree x)) (h : fin d γ tm H nx df K x .none) : callK P G f [] ⟨tm, H, nx, df⟩ d γ K Qp := ktree (args0 := []) rfl rfl hp h
end
end Go.V
end
section
namespace Go.V
open Go Go.Proofs
variable {P : Program} {G : Glob} {β γ w e n off : Nat} {t ty : TypeId} {tm : Nat → VV} {H : Nat → Option VObj} {d : Option Tmp} {k : VV → VEff → Prop} {el : Option TypeId} {cs : List VV} {pos : String} {af : Array Edge} {g : Option (Nat × Bool)} {x : Operand}
end Go.V
namespace Go.V
open Go Go.Proofs
end Go.V
end
section
namespace Go.V
open Go Go.Proofs

end Go.V
end
section
set_option linter.defProp false
namespace Go.V
open Go Go.Proofs
section
variable {P : Program} {H : Nat → Option VObj} {t : TypeId} {x y : Operand} {k : IntKind} {a b : Int}
end
end Go.V
end
section
namespace Go.V
open Go Go.Proofs
section
variable {P : Program} {G : Glob} {ops : Array Oper} {base : Nat} {Q : VExit → St → Prop} {n : Nat}
end
end Go.V
namespace Go.V
open Go Go.Proofs
section
variable {P : Program} {G : Glob} {ops : Array Oper} {base : Nat} {Q : VExit → St → Prop} {n : Nat}
end
section
variable {P : Program} {G : Glob} {ops : Array Oper} {base : Nat} {Q : VExit → St → Prop} {n : Nat} {i m b : Nat} {o : Oper} {l l2 : List Oper} {mk mE mL : List Bool} {tr : Tr} {K : Tr → St → Prop} {tm : Nat → VV} {H : Nat → Option VObj} {nx : Nat} {df : List VDef} {st : St} {rest : List (List Bool × Nat)}
end
end Go.V
namespace Go.V
set_option linter.defProp false
end Go.V
end
section
namespace Go.V
open Go Go.Proofs
def gone (H H' : Nat → Option VObj) : Nat → Option VObj := fun β => if (H' β).isSome then none else H β
theorem ak.gone (H H' : Nat → Option VObj) : ak (gone H H') H := fun x o h => by
 unfold Go.V.gone at h
 split at h
 ·cases h
 ·exact h
def Frozen (H H' : Nat → Option VObj) (x y : VV) : Prop := y = x ∨ y = .any ∨ ∃ n, sealV (gone H H') n x = some y
def FrozenL (H H' : Nat → Option VObj) : List VV → List VV → Prop
 | [], [] => True
 | x :: xs, y :: ys => Frozen H H' x y ∧ FrozenL H H' xs ys
 | _, _ => False
def FrozenO (H H' : Nat → Option VObj) (o o' : VObj) : Prop := o' = o ∨ ∃ el cs cs', o = .cells el cs ∧ o' = .cells el cs' ∧ FrozenL H H' cs cs'
def Ctx.frz (c : Ctx) (H' : Nat → Option VObj) : Ctx := { c with H := H', A := fun b => c.A b ∨ ∃ β, c.live β ∧ (H' β).isSome = false ∧ c.φ β = b }
section
variable {c : Ctx} {W : World} {H' : Nat → Option VObj}
theorem pr (hl : ∀ β, (H' β).isSome = true → c.live β) : Abides c W (c.frz H') W := ⟨fun _ h => .inl h, fun _ _ => rfl, fun _ h => h, fun β _ h => hl β h, fun _ _ _ => rfl, fun _ _ _ => rfl⟩
theorem lS (hl : ∀ β, (H' β).isSome = true → c.live β) : Ext c W (c.frz H') W where
 A _ h := .inl h
 newA b h := h.imp id fun ⟨β, h1, _, e⟩ => .inr ⟨β, h1, e⟩
 used _ h := h
 live β _ h := hl β h
 φ _ _ _ := rfl
 room _ _ _ := rfl
 keep _ _ _ := rfl
 old x h _ := ⟨x, hl x h, rfl⟩
 size := Nat.le_refl _
 os := rfl
 tape := rfl
 output := rfl
theorem Fk (s : Sim c W) (hl : ∀ β, (H' β).isSome = true → c.live β) {x y : VV} {v : Value} (h : Frozen c.H H' x y) (hr : Rep c W x v) : Rep (c.frz H') W y v := by
 rcases h with rfl | rfl | ⟨n, hn⟩
 ·exact Rep.abides (pr hl) _ hr
 ·unfold Rep; trivial
 ·have h1 := (jU s (ak.gone c.H H') n).1 x v y hn hr
  refine Rep.abides (gy fun b hb => ?_) _ h1
  rcases hb with hb | ⟨β, hβ, e⟩
  ·exact .inl hb
  ·refine .inr ⟨β, ?_, ?_, e⟩
   ·unfold Go.V.gone at hβ
    split at hβ
    ·cases hβ
    ·exact hβ
   ·cases h0 : (H' β).isSome with
    | false => rfl
    | true => unfold Go.V.gone at hβ; rw [h0] at hβ; cases hβ
theorem s8 (s : Sim c W) (hl : ∀ β, (H' β).isSome = true → c.live β) : ∀ {xs ys : List VV} {l : List Value}, FrozenL c.H H' xs ys → RepL c W xs l → RepL (c.frz H') W ys l
 | [], [], _, _, h => h
 | _ :: _, _ :: _, _, ⟨h1, h2⟩, ⟨u, us, e, r1, r2⟩ => ⟨u, us, e, Fk s hl h1 r1, s8 s hl h2 r2⟩
 | [], _ :: _, _, h, _ => h.elim
 | _ :: _, [], _, h, _ => h.elim
theorem FrozenL.length {H H' : Nat → Option VObj} : ∀ {xs ys : List VV}, FrozenL H H' xs ys → ys.length = xs.length
 | [], [], _ => rfl
 | _ :: _, _ :: _, h => by simp [FrozenL.length h.2]
 | [], _ :: _, h => h.elim
 | _ :: _, [], h => h.elim
theorem Sim.frz (s : Sim c W) (ho : ∀ β o', H' β = some o' → ∃ o, c.H β = some o ∧ FrozenO c.H H' o o') (hloop : ∀ x st pe tm ps asg bo df, H' x = some (.loop st pe tm ps asg bo df) → isDef H' df) : Sim (c.frz H') W := by
 have hl : ∀ β, (H' β).isSome = true → c.live β := by
  intro β h
  obtain ⟨o', h'⟩ := Option.isSome_iff_exists.1 h
  obtain ⟨o, h1, _⟩ := ho β o' h'
  simp [Ctx.live, h1]
 have ab : Abides c W (c.frz H') W := pr hl
 refine ⟨fun x h => s.used x (hl x h), fun x ox hx => ?_, fun x h => s.lt x (hl x h), fun x h => ?_, fun x y hx hy e => s.inj x y (hl x hx) (hl y hy) e, fun b hb => ?_⟩
 ·have cG : H' x = some ox := hx
  obtain ⟨o, h1, hf⟩ := ho x ox cG
  rcases hf with rfl | ⟨el, cs, cs', rfl, rfl, hcs⟩
  ·refine (s.obj x _ h1).abides ab (s.used x (hl x (by simp [cG]))) (by simp [Ctx.live, Ctx.frz, cG]) rfl ?_
   intro st pe tm ps asg bo df e'
   subst e'
   exact hloop x st pe tm ps asg bo df cG
  ·obtain ⟨arr, e, a1, a2, a3, a4, a5⟩ := s.obj x _ h1
   exact ⟨arr, e, a1, a2, by rw [hcs.length]; exact a3, by rw [hcs.length]; exact s8 s hl hcs a4, a5⟩
 ·rintro (hA | ⟨β, h1, hn, e⟩)
  ·exact s.notA x (hl x h) hA
  ·have := s.inj β x h1 (hl x h) e
   subst this
   have h' : (H' β).isSome = true := h
   rw [h'] at hn; cases hn
 ·rcases hb with hA | ⟨β, h1, _, e⟩
  ·exact s.ltA b hA
  ·rw [← e]; exact s.lt β h1
end
theorem VWp.freeze {P : Program} {G : Glob} {n : Nat} {code : Code} {Q : VExit → St → Prop} {st : St} (H' : Nat → Option VObj) (tm' : Nat → VV) (ho : ∀ β o', H' β = some o' → ∃ o, st.H β = some o ∧ FrozenO st.H H' o o') (hloop : ∀ x s pe tm ps asg bo df, H' x = some (.loop s pe tm ps asg bo df) → isDef H' df)
  (htm : ∀ t, Frozen st.H H' (st.tm t) (tm' t)) (h : VWp P G n code Q ⟨tm', H', st.nx, st.df⟩) : VWp P G n code Q st := by
 intro ro c W a hro s hr hsz
 have ho' : ∀ β o', H' β = some o' → ∃ o, c.H β = some o ∧ FrozenO c.H H' o o' := by rw [hr.H]; exact ho
 have hl : ∀ β, (H' β).isSome = true → c.live β := by
  intro β h
  obtain ⟨o', h'⟩ := Option.isSome_iff_exists.1 h
  obtain ⟨o, h1, _⟩ := ho' β o' h'
  simp [Ctx.live, h1]
 have he : Ext c W (c.frz H') W := lS hl
 have ab : Abides c W (c.frz H') W := pr hl
 refine wpIn_mono (h ro (c.frz H') W a (hro.ext he) (s.frz ho' hloop) ⟨rfl, fun t => ?_, hr.nx, hr.df.abides ab, hr.G.abides ab⟩ hsz) fun _ _ _ hl => hl.of_ext he (fun β hb => .inl hb) (Nat.le_refl _)
 exact Fk s hl (by rw [hr.H]; exact htm t) (hr.tm t)
end Go.V
end
section
namespace Go.V
open Go Go.Proofs
theorem an.weak {P : Program} {G : Glob} {f : FuncId} {args args' : List VV} {H : Nat → Option VObj} {nx : Nat} {R Rp : VV → (Nat → Option VObj) → Nat → Prop} (hw : ∀ c W vs, RepL c W args vs → RepL c W args' vs) (h : an P G f args' H nx R Rp) : an P G f args H nx R Rp :=
 ⟨h.1, fun c W vs s hH hnx hG ha => h.2 c W vs s hH hnx hG (hw c W vs ha)⟩
theorem an.freeze {P : Program} {G : Glob} {f : FuncId} {args args' : List VV} {H : Nat → Option VObj} {nx : Nat} {R Rp : VV → (Nat → Option VObj) → Nat → Prop} (H' : Nat → Option VObj) (ho : ∀ β o', H' β = some o' → ∃ o, H β = some o ∧ FrozenO H H' o o')
  (hloop : ∀ x s pe tm ps asg bo df, H' x = some (.loop s pe tm ps asg bo df) → isDef H' df) (ha : FrozenL H H' args args') (h : an P G f args' H' nx R Rp) : an P G f args H nx R Rp := by
 refine ⟨h.1, fun c W vs s hH hnx hG hargs => ?_⟩
 have ho' : ∀ β o', H' β = some o' → ∃ o, c.H β = some o ∧ FrozenO c.H H' o o' := by rw [hH]; exact ho
 have hl : ∀ β, (H' β).isSome = true → c.live β := by
  intro β h
  obtain ⟨o', h'⟩ := Option.isSome_iff_exists.1 h
  obtain ⟨o, h1, _⟩ := ho' β o' h'
  simp [Ctx.live, h1]
 have he : Ext c W (c.frz H') W := lS hl
 have ab : Abides c W (c.frz H') W := pr hl
 refine (h.2 (c.frz H') W vs (s.frz ho' hloop) rfl hnx (hG.abides ab) (s8 s hl (by rw [hH]; exact ha) hargs)).mono ?_
 rintro e W' ⟨c', H1, nx', g1, g2, g3, g4, g5, g6, g7⟩
 exact ⟨c', H1, nx', he.trans g1, g2, g3, g4, g5, g6, g7⟩
def Yields (P : Program) (G : Glob) (β : Nat) (x : VV) (H : Nat → Option VObj) (nx : Nat) (Post : Bool → (Nat → Option VObj) → Nat → Prop) : Prop :=
 ∀ (r : Option (Option Nat)) (o : Oper) (st : St) (K : St → Prop), st.H = H → st.nx = nx → (∀ b H' nx', Post b H' nx' → K ⟨(match o.dst with | some d => upd st.tm d (.lit (.bool b)) | none => st.tm), H', nx', st.df⟩) → yieldK P (G.at r) o β [x] st K
theorem Yields.mono {P : Program} {G : Glob} {β : Nat} {x : VV} {H : Nat → Option VObj} {nx : Nat} {Post Post' : Bool → (Nat → Option VObj) → Nat → Prop} (h : Yields P G β x H nx Post) (hp : ∀ b H' nx', Post b H' nx' → Post' b H' nx') : Yields P G β x H nx Post' :=
 fun r o st K h1 h2 hk => h r o st K h1 h2 fun b H' nx' hp' => hk b H' nx' (hp b H' nx' hp')
def Own (hp : List (Nat × VObj)) (Fr : Nat → Prop) (H : Nat → Option VObj) (nx : Nat) : Prop := ∀ p ∈ hp, p.1 < nx ∧ ¬ Fr p.1 ∧ H p.1 = some p.2
theorem Own.nil {Fr : Nat → Prop} {H : Nat → Option VObj} {nx : Nat} : Own [] Fr H nx := fun _ h => by cases h
theorem Own.cons {p : Nat} {o : VObj} {hp : List (Nat × VObj)} {Fr : Nat → Prop} {H : Nat → Option VObj} {nx : Nat} (h1 : p < nx) (h2 : ¬ Fr p) (h3 : H p = some o) (h : Own hp Fr H nx) : Own ((p, o) :: hp) Fr H nx := by
 intro q hq
 rcases List.mem_cons.1 hq with rfl | hq
 ·exact ⟨h1, h2, h3⟩
 ·exact h q hq
theorem Own.head {p : Nat} {o : VObj} {hp : List (Nat × VObj)} {Fr : Nat → Prop} {H : Nat → Option VObj} {nx : Nat} (h : Own ((p, o) :: hp) Fr H nx) : p < nx ∧ ¬ Fr p ∧ H p = some o := h (p, o) (List.mem_cons_self ..)
theorem Own.tail {p : Nat} {o : VObj} {hp : List (Nat × VObj)} {Fr : Nat → Prop} {H : Nat → Option VObj} {nx : Nat} (h : Own ((p, o) :: hp) Fr H nx) : Own hp Fr H nx := fun q hq => h q (List.mem_cons_of_mem _ hq)
section
variable {P : Program} {G : Glob} {n : Nat} {Q : VExit → St → Prop} {tm : Nat → VV} {H : Nat → Option VObj} {nx : Nat} {df : List VDef} {g : Operand} {ps : Array Tmp} {az bo : Code}
end
end Go.V
end
section
namespace Go.V
open Go Go.Proofs
theorem an.freeze1 {P : Program} {G : Glob} {f : FuncId} {args args' : List VV} {H : Nat → Option VObj} {nx γ : Nat} {el : Option TypeId} {cs : List VV} {R Rp : VV → (Nat → Option VObj) → Nat → Prop} (hγ : H γ = some (.cells el cs))
  (ha : FrozenL H (without H γ) args args') (h : an P G f args' (without H γ) nx R Rp) : an P G f args H nx R Rp := by
 refine ⟨h.1, fun c W vs s hH hnx hG hargs => ?_⟩
 subst hH
 have ho' : ∀ β o', without c.H γ β = some o' → ∃ o, c.H β = some o ∧ FrozenO c.H (without c.H γ) o o' := fun β o' hb => ⟨o', ak.without _ _ β o' hb, .inl rfl⟩
 have hl : ∀ β, (without c.H γ β).isSome = true → c.live β := by
  intro β h
  obtain ⟨o', h'⟩ := Option.isSome_iff_exists.1 h
  obtain ⟨o, h1, _⟩ := ho' β o' h'
  simp [Ctx.live, h1]
 have he : Ext c W (c.frz (without c.H γ)) W := lS hl
 have ab : Abides c W (c.frz (without c.H γ)) W := pr hl
 have hloop : ∀ x st pe tm ps asg bo df, without c.H γ x = some (.loop st pe tm ps asg bo df) → isDef (without c.H γ) df := by
  intro x st pe tm ps asg bo df hx
  obtain ⟨l, fn, _, _, _, hd⟩ := s.obj x _ (ak.without _ _ x _ hx)
  exact hd.without hγ
 refine (h.2 (c.frz (without c.H γ)) W vs (s.frz ho' hloop) rfl hnx (hG.abides ab) (s8 s hl ha hargs)).mono ?_
 rintro e W' ⟨c', H1, nx', g1, g2, g3, g4, g5, g6, g7⟩
 exact ⟨c', H1, nx', he.trans g1, g2, g3, g4, g5, g6, g7⟩
theorem Frozen.same {H H' : Nat → Option VObj} {x : VV} : Frozen H H' x x := .inl rfl
theorem FrozenL.same {H H' : Nat → Option VObj} : ∀ {xs : List VV}, FrozenL H H' xs xs
 | [] => trivial
 | _ :: _ => ⟨.same, .same⟩
theorem Frozen.own {H : Nat → Option VObj} {γ n w cp : Nat} {el : Option TypeId} {cs : List VV} (hγ : H γ = some (.cells el cs)) (ht : treeL cs = true) (hl : cs.length = n * w) : Frozen H (without H γ) (.ref γ 0 n w cp) (.sl cs n false) := by
 refine .inr (.inr ⟨cs.length + 2, ?_⟩)
 have hg : gone H (without H γ) γ = some (.cells el cs) := by simp [gone, without, hγ]
 unfold sealV
 have : (VV.ref γ 0 n w cp).tree = false := rfl
 rw [this]
 simp only [Bool.false_eq_true, if_false, hg, Nat.zero_le, if_true, List.drop_zero]
 rw [List.take_of_length_le (by omega), s9 cs _ ht (by omega)]
 rfl
end Go.V
namespace Go.V
end Go.V
namespace Go.V
end Go.V
namespace Go.V
end Go.V
namespace Go.V
end Go.V
namespace Go.V
end Go.V
namespace Go.V
theorem Frozen.ptr {H H' : Nat → Option VObj} {γ : Nat} {el : Option TypeId} {cs : List VV} (hγ : H γ = some (.cells el cs)) (hn : (H' γ).isSome = false) (ht : treeL cs = true) : Frozen H H' (.ptr γ 0) (.tp cs) := by
 refine .inr (.inr ⟨cs.length + 2, ?_⟩)
 have hg : gone H H' γ = some (.cells el cs) := by simp [gone, hn, hγ]
 unfold sealV
 have : (VV.ptr γ 0).tree = false := rfl
 rw [this]
 simp only [Bool.false_eq_true, if_false, hg, Nat.zero_le, if_true, List.drop_zero]
 rw [s9 cs _ ht (by omega)]
 rfl
end Go.V
end
section
namespace Go.V
open Go Go.Proofs
section
variable {P : Program} {G : Glob} {H : Nat → Option VObj} {γ : Nat} {α : Type} {enc : α → List VV} {t t2 e e2 w b : Nat} {xs ys : List α} {el : Option TypeId} {β : Nat} {f : Bool} {k : VV → VEff → Prop}
end
end Go.V
namespace Go.V
open Go Go.Proofs
end Go.V
namespace Go.V
open Go Go.Proofs
end Go.V
namespace Go.V
open Go Go.Proofs
set_option linter.defProp false
end Go.V
end
section
set_option linter.defProp false
namespace Go.V
open Go Go.Proofs
def kIdx {K : Type} (q : K → K → Bool) (k : K) : List K → Nat → Option Nat
 | [], _ => none
 | e :: es, i => cond (q k e) (some i) (kIdx q k es (i + 1))
theorem sf {K : Type} {q : K → K → Bool} {k : K} : ∀ (es : List K) (i j : Nat), kIdx q k es i = some j → i ≤ j ∧ ∃ e, es[j - i]? = some e ∧ q k e = true
 | [], _, _, h => by cases h
 | e :: es, i, j, h => by
  unfold kIdx at h
  cases hq : q k e with
  | true =>
   rw [hq] at h
   simp only [cond_true, Option.some.injEq] at h
   subst h
   exact ⟨Nat.le_refl _, e, by simp, hq⟩
  | false =>
   rw [hq] at h
   simp only [cond_false] at h
   obtain ⟨h1, x, h2, h3⟩ := sf es (i + 1) j h
   refine ⟨by omega, x, ?_, h3⟩
   rw [show j - i = (j - (i + 1)) + 1 by omega]
   simpa using h2
def mapGet {K V : Type} (q : K → K → Bool) (z : V) (l : List (K × V)) (k : K) : V := match kIdx q k (l.map (·.1)) 0 with
 | some i => match l[i]? with | some p => p.2 | none => z
 | none => z
def mapSet {K V : Type} (q : K → K → Bool) (l : List (K × V)) (k : K) (v : V) : List (K × V) := match kIdx q k (l.map (·.1)) 0 with
 | some i => l.set i (k, v)
 | none => l ++ [(k, v)]
def encM {K V : Type} (kv : K → Value) (ev : V → VV) (l : List (K × V)) : List (Value × VV) := l.map fun p => (kv p.1, ev p.2)
section
variable {P : Program} {K V : Type} {q : K → K → Bool} {kv : K → Value} {ev : V → VV} {t kt et : TypeId} {H : Nat → Option VObj} {β : Nat}
theorem Fl (he : ∀ a b, ar P (Op.equal kt (kv a) (kv b)) = some (q a b)) (k : K) : ∀ (ks : List K) (i : Nat), ar P (Instr.findAsking kt (kv k) ((ks.map kv).map dummy) i) = some ((kIdx q k ks i).map fun j => (j, Value.bool false))
 | [], i => rfl
 | e :: es, i => by
  simp only [List.map_cons, Instr.findAsking, kIdx]
  rw [bO]
  have h0 : ar P (Op.equal kt (kv k) (dummy (kv e)).key) = some (q k e) := he k e
  rw [h0, Option.bind_some]
  cases q k e with
  | true => rfl
  | false => exact Fl he k es (i + 1)
theorem pv {fs : Array Field} (hu : P.underlying kt = some (.struct fs)) (he : ∀ a b, ar P (Op.equal kt (kv a) (kv b)) = some (q a b)) (k : K) (ks : List K) : kfind P kt (kv k) (ks.map kv) = some (kIdx q k ks 0) := by
 unfold kfind Instr.findKey
 rw [bO, nD hu, Option.bind_some]
 have ha := Fl he k ks 0
 cases ks with
 | nil => rfl
 | cons e es =>
  have hn : Instr.findNow (.struct fs) (kv k) (((e :: es).map kv).map dummy) 0 = none := by
   simp only [List.map_cons, Instr.findNow]
   have : Instr.sameNow (.struct fs) (kv k) (dummy (kv e)).key = none := by cases kv k <;> rfl
   rw [this]
  rw [hn]
  simp only []
  rw [ha]
  cases kIdx q k (e :: es) 0 <;> rfl
theorem Fm {l : List (K × V)} : (encM kv ev l).map (·.1) = (l.map (·.1)).map kv := by simp [encM, Function.comp_def]
theorem Ja {fs : Array Field} (hm : P.underlying t = some (.map kt et)) (hu : P.underlying kt = some (.struct fs)) (he : ∀ a b, ar P (Op.equal kt (kv a) (kv b)) = some (q a b)) (hc : ∀ b k, ar P (Instr.checkKey b 10000 kt (kv k)) = some ())
  (hq : ∀ a b, q a b = true → a = b) (hs : ∀ a, Instr.sameBits 10000 (kv a) (kv a) = true) {l : List (K × V)} {kx : VV} {k : K} {v : V} (hk : kx.val? = some (kv k)) (hb : H β = some (.map (encM kv ev l))) :
  vmapUpdate P H t (.mp β) kx (ev v) = some (.upd β (.map (encM kv ev (mapSet q l k v)))) := by
 unfold vmapUpdate
 rw [hm, hk]
 simp only [hb]
 rw [hc, Fm, pv hu he]
 unfold mapSet
 cases hi : kIdx q k (l.map (·.1)) 0 with
 | none => simp only [encM, List.map_append, List.map_cons, List.map_nil]
 | some i =>
  obtain ⟨_, e, h1, h2⟩ := sf _ _ _ hi
  rw [Nat.sub_zero, List.getElem?_map] at h1
  cases hl : l[i]? with
  | none => rw [hl] at h1; cases h1
  | some p =>
   have h3 : (encM kv ev l)[i]? = some (kv p.1, ev p.2) := by unfold encM; rw [List.getElem?_map, hl]; rfl
   rw [hl] at h1
   simp only [Option.map_some, Option.some.injEq] at h1
   have h4 := hq _ _ h2
   subst h4
   subst h1
   simp only [h3, hs, if_true]
   simp only [encM, List.map_set]
end
section
variable {P : Program} {G : Glob} {γ : Nat} {tm : Nat → VV} {H : Nat → Option VObj} {nx : Nat} {df : List VDef} {K : St → Prop} {Kd : List Nat → List Nat → St → Prop} {Qp : VV → St → Prop}
 {d : Option Tmp} {ty : TypeId} {pos : String} {af : Array Edge} {g : Option (Nat × Bool)}
theorem Jb {t : TypeId} : aH P G γ ⟨d, .makeMap t none, ty, pos, af, g⟩ ⟨tm, H, nx, df⟩ K Qp = fin d γ tm H nx df K (.mp γ) (.new (.map [])) := by
 rw [dK (by simp) (by simp) (by simp)]; rfl
theorem Jc {t : TypeId} {x k : Operand} {ok : Bool} : aH P G γ ⟨d, .lookup t x k ok, ty, pos, af, g⟩ ⟨tm, H, nx, df⟩ K Qp = oK (vlookup P H t (ev G tm x) (ev G tm k) ok) (fun y => fin d γ tm H nx df K y .none) := by
 rw [dK (by simp) (by simp) (by simp)]; simp only [vop]; exact j6
theorem Jd {t : TypeId} : aA P G γ ⟨d, .makeMap t none, ty, pos, af, g⟩ ⟨tm, H, nx, df⟩ Kd = fin d γ tm H nx df (Kd (rdV ⟨d, .makeMap t none, ty, pos, af, g⟩ (ev G tm)) [γ]) (.mp γ) (.new (.map [])) := by
 rw [dS (by simp)]; rfl
theorem Je {t : TypeId} {x k : Operand} {ok : Bool} : aA P G γ ⟨d, .lookup t x k ok, ty, pos, af, g⟩ ⟨tm, H, nx, df⟩ Kd = oK (vlookup P H t (ev G tm x) (ev G tm k) ok) (fun y => fin d γ tm H nx df (Kd (rdV ⟨d, .lookup t x k ok, ty, pos, af, g⟩ (ev G tm)) []) y .none) := by
 rw [dS (by simp)]; simp only [vop]
 cases vlookup P H t (ev G tm x) (ev G tm k) ok <;> rfl
def umK (o : Option VEff) (k : VEff → Prop) : Prop := match o with | some e => k e | none => False
theorem vC {e : VEff} {k : VEff → Prop} : umK (some e) k = k e := rfl
theorem Jf {t : TypeId} {m k x : Operand} : aH P G γ ⟨d, .mapUpdate t m k x, ty, pos, af, g⟩ ⟨tm, H, nx, df⟩ K Qp = umK (vmapUpdate P H t (ev G tm m) (ev G tm k) (ev G tm x)) (fun e => fin d γ tm H nx df K .any e) := by
 rw [dK (by simp) (by simp) (by simp)]; simp only [vop]
 cases vmapUpdate P H t (ev G tm m) (ev G tm k) (ev G tm x) <;> rfl
theorem Jg {t : TypeId} {m k x : Operand} : aA P G γ ⟨d, .mapUpdate t m k x, ty, pos, af, g⟩ ⟨tm, H, nx, df⟩ Kd = umK (vmapUpdate P H t (ev G tm m) (ev G tm k) (ev G tm x)) (fun e => fin d γ tm H nx df (Kd (rdV ⟨d, .mapUpdate t m k x, ty, pos, af, g⟩ (ev G tm)) (e.wr γ)) .any e) := by
 rw [dS (by simp)]; simp only [vop]
 cases vmapUpdate P H t (ev G tm m) (ev G tm k) (ev G tm x) <;> rfl
theorem vD {β : Nat} : aK (.mp β) = some [.mp β] := rfl
theorem vE {β : Nat} : (VV.mp β).leaf = true := rfl
theorem Jh {t : TypeId} : rdV ⟨d, .makeMap t none, ty, pos, af, g⟩ (ev G tm) = rdL (ev G tm) [] := dT []
theorem vF {t : TypeId} {x k : Operand} {ok : Bool} : rdV ⟨d, .lookup t x k ok, ty, pos, af, g⟩ (ev G tm) = rdL (ev G tm) [x, k] := dT [x, k]
theorem Ji {t : TypeId} {m k x : Operand} : rdV ⟨d, .mapUpdate t m k x, ty, pos, af, g⟩ (ev G tm) = rdL (ev G tm) [m, k, x] := dT [m, k, x]
theorem vG {β : Nat} {l : List Nat} : tnL (.mp β) l = β :: l := rfl
theorem vH : ev G tm (.const (.map none)) = .lit (.map none) := rfl
theorem bm {K V : Type} {kv : K → Value} {ew : V → VV} : encM kv ew [] = [] := rfl
def mq := And.intro (And.intro (And.intro @Jb (And.intro @Jc @Jf)) (And.intro (And.intro @Jd (And.intro @Je @Jg)) (And.intro (And.intro @vC @vD) @vE))) (And.intro (And.intro @Jh (And.intro @vF @Ji)) (And.intro @vG (And.intro @vH @bm)))
end
end Go.V
end
section
set_option linter.defProp false
namespace Go.V
open Go Go.Proofs
section
variable {P : Program} {K V : Type} {q : K → K → Bool} {kv : K → Value} {ew : V → VV} {t kt et : TypeId} {H : Nat → Option VObj}
end
theorem vI {ks : List Value} {vs : List VV} : (VV.mt ks vs).leaf = true := rfl
theorem vJ {ks : List Value} {vs : List VV} : aK (.mt ks vs) = some [.mt ks vs] := rfl
theorem vK {ks : List Value} {vs : List VV} {l : List Nat} : tnL (.mt ks vs) l = l := rfl
def mqm := And.intro @vI (And.intro @vJ @vK)
end Go.V
end
section
set_option linter.defProp false
namespace Go.V
open Go Go.Proofs
theorem vL {ks : List Value} {vs : List VV} : normV (.mt ks vs) = .mt ks vs := by simp [normV]
theorem vM {H : Nat → Option VObj} {d : Nat} {ks : List Value} {vs : List VV} : showV H d (.mt ks vs) = .mt ks vs := by cases d <;> rfl
end Go.V
end
section
set_option linter.defProp false
namespace Go.V
open Go Go.Proofs
section
variable {P : Program} {G : Glob} {n : Nat} {γ : Nat} {tm : Nat → VV} {H : Nat → Option VObj} {nx : Nat} {df : List VDef} {K : St → Prop} {Kd : List Nat → List Nat → St → Prop} {Qp : VV → St → Prop} {Q : VExit → St → Prop}
 {d : Option Tmp} {ty : TypeId} {pos : String} {af : Array Edge} {g : Option (Nat × Bool)}
theorem Jj {t : Tmp} {m : String} {asg : Array Operand} {ats : Array TypeId} : aH P G γ ⟨d, .call ⟨.invoke (.tmp t) m, asg, ats⟩, ty, pos, af, g⟩ ⟨tm, H, nx, df⟩ K Qp = cvalK P G ⟨d, .call ⟨.invoke (.tmp t) m, asg, ats⟩, ty, pos, af, g⟩ (recvV P m (tm t)) (asg.toList.map (ev G tm)) ⟨tm, H, nx, df⟩ d γ K Qp := by
 have e : ev G tm (.tmp t) = tm t := rfl
 simp only [aH, ev_eq, cvalK, e]
 cases h : recvV P m (tm t) with
 | yl β => exact absurd h (EV _ _ _)
 | fn f a b => cases f <;> rfl
 | _ => rfl
theorem Jk {t : Tmp} {m : String} {asg : Array Operand} {ats : Array TypeId} : aA P G γ ⟨d, .call ⟨.invoke (.tmp t) m, asg, ats⟩, ty, pos, af, g⟩ ⟨tm, H, nx, df⟩ Kd = dvalK P G (recvV P m (tm t)) (asg.toList.map (ev G tm)) tm H nx df d γ Kd := by
 have e : ev G tm (.tmp t) = tm t := rfl
 simp only [aA, ev_eq, e, dvalK]
 cases h : recvV P m (tm t) with
 | fn f first captured =>
  cases f with
  | func f =>
   simp only [dcallK]
   refine propext (or_congr (and_congr_right fun _ => exists_congr fun r => and_congr_right fun _ => ?_) (or_congr (exists_congr fun a => exists_congr fun x => and_congr_right fun _ => and_congr_right fun _ => and_congr_right fun _ => ?_) (exists_congr fun β => exists_congr fun es' => exists_congr fun x => and_congr_right fun _ => ?_)))
   ·cases r with
    | tree x =>
     simp only
     rw [← fy _ _ _ γ]
     exact iff_of_eq (dJ (K := Kd [] []))
    | own cs len es => exact iff_of_eq (dJ (K := Kd [] [γ]))
    | panic x => exact Iff.rfl
   ·rw [← fy _ _ _ γ]
    exact iff_of_eq (dJ (K := Kd (nmL H fuelS (first ++ asg.toList.map (ev G tm) ++ captured)) []))
   ·exact iff_of_eq (dJ (K := Kd [β] [β]))
  | _ => rfl
 | _ => rfl
def nilV (P : Program) (H : Nat → Option VObj) (x : VV) : Option VV := match x with
  | .tp cs => some (.tp cs)
  | .ptr β off => if (H β).isSome then some (.ptr β off) else none
  | .fn (.func f) a b => some (.fn (.func f) a b)
  | .fn (.method m) a b => if nilOkM P m a b then some (.fn (.method m) a b) else none
  | .yl β => if (H β).isSome then some (.yl β) else none
  | _ => none
theorem vN {x : Operand} : aH P G γ ⟨d, .nilCheck x, ty, pos, af, g⟩ ⟨tm, H, nx, df⟩ K Qp = oK (nilV P H (ev G tm x)) (fun y => fin d γ tm H nx df K y .none) := by
 rw [dK (by simp) (by simp) (by simp)]; simp only [vop]
 cases ev G tm x with
 | fn f a b =>
  cases f <;> try rfl
  rename_i m
  simp only [nilV]
  split <;> rfl
 | ptr β off => simp only [nilV]; split <;> rfl
 | yl β => simp only [nilV]; split <;> rfl
 | _ => rfl
theorem Jl {x : Operand} : aA P G γ ⟨d, .nilCheck x, ty, pos, af, g⟩ ⟨tm, H, nx, df⟩ Kd = oK (nilV P H (ev G tm x)) (fun y => fin d γ tm H nx df (Kd (rdV ⟨d, .nilCheck x, ty, pos, af, g⟩ (ev G tm)) []) y .none) := by
 rw [dS (by simp)]; simp only [vop]
 cases ev G tm x with
 | fn f a b =>
  cases f <;> try rfl
  rename_i m
  simp only [nilV]
  split <;> rfl
 | ptr β off => simp only [nilV]; split <;> rfl
 | yl β => simp only [nilV]; split <;> rfl
 | _ => rfl
theorem vO {x : Operand} : rdV ⟨d, .nilCheck x, ty, pos, af, g⟩ (ev G tm) = rdL (ev G tm) [x] := dT [x]
theorem vP {f : FuncId} {a b : List VV} : nilV P H (.fn (.func f) a b) = some (.fn (.func f) a b) := rfl
theorem vQ {m : String} {a b : List VV} : nilV P H (.fn (.method m) a b) = if nilOkM P m a b = true then some (.fn (.method m) a b) else none := rfl
theorem vR : ev G tm (.const .nilIface) = .lit .nilIface := rfl
def vS := And.intro (And.intro (And.intro @Jj @Jk) (And.intro @vN @Jl)) (And.intro (And.intro @vO @vP) (And.intro @vQ @vR))
def mapHas {K V : Type} (q : K → K → Bool) (l : List (K × V)) (k : K) : Bool := (kIdx q k (l.map (·.1)) 0).isSome
end
section
variable {P : Program} {K V : Type} {q : K → K → Bool} {kv : K → Value} {ev : V → VV} {t kt et : TypeId} {H : Nat → Option VObj} {β : Nat}
theorem Jm {fs : Array Field} {z : V} (hm : P.underlying t = some (.map kt et)) (hu : P.underlying kt = some (.struct fs)) (he : ∀ a b, ar P (Op.equal kt (kv a) (kv b)) = some (q a b)) (hc : ∀ b k, ar P (Instr.checkKey b 10000 kt (kv k)) = some ())
  (hz : ((P.info? et).bind (·.zero)).map ofVal2 = some (ev z)) {l : List (K × V)} {kx : VV} {k : K} (hk : kx.val? = some (kv k)) (hb : H β = some (.map (encM kv ev l))) :
  vlookup P H t (.mp β) kx true = some (.tup [ev (mapGet q z l k), .lit (.bool (mapHas q l k))]) := by
 unfold vlookup
 rw [hm, hk]
 simp only [mapOf, hb]
 rw [hc, Fm, pv hu he]
 cases hzz : (P.info? et).bind (·.zero) with
 | none => rw [hzz] at hz; cases hz
 | some z0 =>
  rw [hzz] at hz
  simp only [Option.map_some, Option.some.injEq] at hz
  unfold mapGet mapHas
  cases hi : kIdx q k (l.map (·.1)) 0 with
  | none => simp only [if_true, hz, Option.isSome_none]
  | some i =>
   obtain ⟨_, e, h1, _⟩ := sf _ _ _ hi
   rw [Nat.sub_zero, List.getElem?_map] at h1
   cases hl : l[i]? with
   | none => rw [hl] at h1; cases h1
   | some p =>
    have : (encM kv ev l)[i]? = some (kv p.1, ev p.2) := by unfold encM; rw [List.getElem?_map, hl]; rfl
    simp only [this, hl, if_true, Option.isSome_some]
end
section
variable {P : Program} {G : Glob} {H : Nat → Option VObj}
theorem kupd {f : FuncId} {args : List VV} {y : VV} {d : Option Tmp} {γ β : Nat} {tm : Nat → VV} {nx : Nat} {df : List VDef} {K : St → Prop} {Qp : VV → St → Prop} {es' : List (Value × VV)} (hu : UpdC P G f args H nx β es' y)
  (h : fin d γ tm H nx df K y (.upd β (.map es'))) : callK P G f args ⟨tm, H, nx, df⟩ d γ K Qp := by
 refine .inr (.inr ?_)
 unfold openK
 refine an.mono hu.open ?_ (fun _ _ _ h => h.elim)
 rintro v H2 Jn ⟨rfl, rfl, rfl⟩
 rw [← dJ (K := K)] at h
 cases d <;> exact h
def VUpd (P : Program) (G : Glob) (f : FuncId) (A : Nat → List VV) (es es' : List (Value × VV)) (y : Nat → VV) : Prop :=
 ∀ β nx, β < nx → an P G f (A β) (updH (fun _ => none) β (.map es)) nx (fun v H1 _ => H1 β = some (.map es') ∧ SealQ H1 β nx v (y β)) (fun _ _ _ => False)
theorem vT {β : Nat} {o : VObj} (h : H β = some o) : restr [β] H = updH (fun _ => none) β o := by
 funext γ
 unfold restr updH
 by_cases e : γ = β
 ·subst e; simp [h]
 ·simp [e]
theorem VUpd.at {f : FuncId} {A : Nat → List VV} {args : List VV} {es es' : List (Value × VV)} {y : Nat → VV} {β nx : Nat} (h : VUpd P G f A es es' y) (hlt : β < nx) (hb : H β = some (.map es)) (ha : normL args = A β) (hfl : okVL (fun _ => false) (es'.map (·.2)) = true) : UpdC P G f args H nx β es' (y β) := by
 refine ⟨es, hb, hfl, ?_⟩
 rw [vT hb]
 refine an.weak (args' := A β) (fun c W vs hr => ?_) (h β nx hlt)
 rw [← ha]
 exact pw _ hr
end
def litC (β b : Nat) : VV → VV
 | .mp γ => if γ = β then .lit (.map (some b)) else .mp γ
 | x => x
def litV (β b : Nat) : VV → VV
 | .agg cs => .agg (cs.map (litC β b))
 | x => x
section
variable {c : Ctx} {W : World} {β : Nat}
theorem vU (hl : c.live β) {x : VV} {v : Value} (h : Rep c W x v) : Rep c W (litC β (c.φ β) x) v := by
 cases x with
 | mp γ =>
  simp only [litC]
  split
  ·rename_i e
   subst e
   exact h.2 hl
  ·exact h
 | _ => exact h
theorem Fo (hl : c.live β) : ∀ {xs : List VV} {l : List Value}, RepL c W xs l → RepL c W (xs.map (litC β (c.φ β))) l
 | [], _, h => h
 | _ :: _, _, ⟨u, us, e, h1, h2⟩ => ⟨u, us, e, vU hl h1, Fo hl h2⟩
theorem vV (hl : c.live β) {x : VV} {v : Value} (h : Rep c W x v) : Rep c W (litV β (c.φ β) x) v := by
 cases x with
 | agg cs => obtain ⟨l, e, hl'⟩ := h; exact ⟨l, e, Fo hl hl'⟩
 | _ => exact h
theorem px (hl : c.live β) : ∀ {xs : List VV} {l : List Value}, RepL c W xs l → RepL c W (xs.map (litV β (c.φ β))) l
 | [], _, h => h
 | _ :: _, _, ⟨u, us, e, h1, h2⟩ => ⟨u, us, e, vV hl h1, px hl h2⟩
theorem Jo (hu : c.used β) {x : VV} {v : Value} (h : Rep c W (litC β (c.φ β) x) v) : Rep c W x v := by
 cases x with
 | mp γ =>
  simp only [litC] at h
  split at h
  ·rename_i e
   subst e
   have h' : v = .map (some (c.φ γ)) := h
   subst h'
   exact ⟨⟨hu, rfl⟩, fun _ => rfl⟩
  ·exact h
 | _ => exact h
theorem Fp (hu : c.used β) : ∀ {xs : List VV} {l : List Value}, RepL c W (xs.map (litC β (c.φ β))) l → RepL c W xs l
 | [], _, h => h
 | _ :: _, _, ⟨u, us, e, h1, h2⟩ => ⟨u, us, e, Jo hu h1, Fp hu h2⟩
theorem Jp (hu : c.used β) {x : VV} {v : Value} (h : Rep c W (litV β (c.φ β) x) v) : Rep c W x v := by
 cases x with
 | agg cs => obtain ⟨l, e, hl'⟩ := h; exact ⟨l, e, Fp hu hl'⟩
 | _ => exact h
end
section
variable {P : Program} {G : Glob} {H : Nat → Option VObj}
theorem an.lit {f : FuncId} {args : List VV} {y : VV} {nx β : Nat} {es : List (Value × VV)} {args0 : Nat → List VV} (hb : H β = some (.map es)) (hn : ∀ b, normL (args.map (litV β b)) = args0 b)
  (ht : ∀ b, treeL (args.map (litV β b)) = true) (hp : ∀ b, ai P G f (args0 b) (.tree (litV β b y))) : an P G f args H nx (fun x H' nx' => x = y ∧ H' = H ∧ nx' = nx) (fun _ _ _ => False) := by
 refine ⟨(hp 0).1, fun c W vs s hH hnx hG ha => ?_⟩
 have hl : c.live β := by simp [Ctx.live, hH, hb]
 have h1 := px hl ha
 have h2 := hp (c.φ β)
 rw [← hn] at h2
 refine ((h2.norm).2 c.A W vs s.ltA (fun g cs hg => hG.tree g cs hg) (hS (ht _) h1)).mono ?_
 rintro e W' ⟨A', g1, g2, g3, hbl, v, rfl, hx⟩
 have he := Ext.more g1 g2 hbl
 refine ⟨c.more A', H, nx, he, Sim.more s g1 g2 g3 hbl, hH, fun β hb => .inl hb, hnx, Nat.le_refl _, .inl ⟨y, v, rfl, ?_, rfl, rfl, rfl⟩⟩
 have h3 : Rep (c.more A') W' (litV β (c.φ β) y) v := Rep.abides (gy (fun _ h => h)) _ hx
 exact Jp (c := c.more A') (s.used β hl) h3
end
section
variable {P : Program} {G : Glob} {H : Nat → Option VObj}
theorem vW {H : Nat → Option VObj} {M n : Nat} {x : VV} (h : x.tree = true) : sealN H M (n + 1) x = some x := by unfold sealN; rw [if_pos h]
theorem gn {H : Nat → Option VObj} {M : Nat} {x y : VV} (h : x.tree = true) (e : x = y) : SealP H M x y := ⟨1, x, vW h, fun _ _ _ hr => e ▸ hr⟩
theorem vX {H : Nat → Option VObj} {M : Nat} : SealP H M (.lit (.slice none 0 0)) (.sl [] 0 false) := ⟨1, _, vW rfl, fun c W u hr => py (.lit (.slice none 0 0)) hr⟩
theorem Fq {H : Nat → Option VObj} {M : Nat} : ∀ {xs : List VV} {n : Nat}, treeL xs = true → xs.length < n → sealNL H M (n + 1) xs = some xs
 | [], n, _, _ => rfl
 | x :: xs, 0, _, hn => by simp at hn
 | x :: xs, n + 1, h, hn => by
  simp only [treeL, Bool.and_eq_true] at h
  unfold sealNL
  rw [vW h.1, Fq h.2 (by simpa using hn)]
theorem vY {H : Nat → Option VObj} {M δ w cp : Nat} {el : Option TypeId} {α : Type} {enc : α → List VV} {xs : List α} (hδ : H δ = some (.cells el (aa enc xs))) (hM : M ≤ δ) (hok : EncOk enc) (hw : ∀ x, (enc x).length = w) :
  SealP H M (.ref δ 0 xs.length w cp) (.sl (aa enc xs) xs.length false) := by
 refine ⟨(aa enc xs).length + 3, .sl (aa enc xs) xs.length false, ?_, fun _ _ _ hr => hr⟩
 unfold sealN
 have h1 : (VV.ref δ 0 xs.length w cp).tree = false := rfl
 have hlen : (aa enc xs).length = xs.length * w := iz hw xs
 simp only [h1, Bool.false_eq_true, if_false, Nat.not_lt.2 hM, hδ, Nat.zero_le, if_true, List.drop_zero]
 rw [List.take_of_length_le (by omega), Fq (hok.treeL xs) (by omega)]
 rfl
theorem sq_of {H : Nat → Option VObj} {β M : Nat} {x y : VV} (h : SealP H M x y) : SealQ H β M x y := fun _ => h
theorem vZ {H : Nat → Option VObj} {β M δ w cp : Nat} {el : Option TypeId} {α : Type} {enc : α → List VV} {xs : List α} {es : List (Value × VV)} (hδ : H δ = some (.cells el (aa enc xs))) (hβ : H β = some (.map es)) (hok : EncOk enc) (hw : ∀ x, (enc x).length = w) :
  SealQ H β M (.ref δ 0 xs.length w cp) (.sl (aa enc xs) xs.length false) := fun hall =>
 vY hδ (hall δ (by rw [hδ]; rfl) (by rintro rfl; rw [hδ] at hβ; cases hβ)) hok hw
theorem VUpd.of_lit {f : FuncId} {A : Nat → List VV} {y x : Nat → VV} {es : List (Value × VV)} {A0 : Nat → Nat → List VV} (hn : ∀ β b, normL ((A β).map (litV β b)) = A0 β b) (ht : ∀ β b, treeL ((A β).map (litV β b)) = true)
  (hx : ∀ β b, litV β b (y β) = x b) (hp : ∀ β b, ai P G f (A0 β b) (.tree (x b))) (hy : ∀ β M (H : Nat → Option VObj), β < M → (H β).isSome = true → SealP H M (y β) (y β)) : VUpd P G f A es es y := by
 intro β nx hlt
 have hb : updH (fun _ => none) β (.map es) β = some (.map es) := by simp [updH]
 refine an.mono (an.lit hb (hn β) (ht β) (fun b => by rw [hx]; exact hp β b)) ?_ (fun _ _ _ h => h.elim)
 rintro v H1 n1 ⟨hv, hH, _⟩
 rw [hv, hH]
 exact ⟨hb, sq_of (hy β nx _ hlt (by rw [hb]; rfl))⟩
end
theorem dQ {K V : Type} {kv : K → Value} {ev : V → VV} (h : ∀ v, okV (fun _ => false) (ev v) = true) : ∀ l : List (K × V), okVL (fun _ => false) ((encM kv ev l).map (·.2)) = true
 | [] => rfl
 | p :: l => by
  show (okV _ (ev p.2) && okVL _ ((encM kv ev l).map (·.2))) = true
  rw [h, dQ h l]; rfl
theorem ec {d : Tmp} {γ : Nat} {tm : Nat → VV} {H : Nat → Option VObj} {nx : Nat} {df : List VDef} {K : St → Prop} {x : VV} {β : Nat} {o : VObj} (F : (Nat → VV) → Prop) (hF : F (upd tm d x)) (h : ∀ tm', F tm' → K ⟨tm', updH H β o, nx, df⟩) : fin (some d) γ tm H nx df K x (.upd β o) := h _ hF
theorem wa {β b : Nat} {cs : List VV} : litV β b (.agg cs) = .agg (cs.map (litC β b)) := rfl
theorem wb {β b : Nat} {v : Value} : litV β b (.lit v) = .lit v := rfl
theorem wc {β b : Nat} {cs : List VV} {n : Nat} {f : Bool} : litV β b (.sl cs n f) = .sl cs n f := rfl
theorem we {β b : Nat} {v : Value} : litC β b (.lit v) = .lit v := rfl
theorem wg {β b : Nat} {cs : List VV} {n : Nat} {f : Bool} : litC β b (.sl cs n f) = .sl cs n f := rfl
theorem wh {β b : Nat} : litC β b (.mp β) = .lit (.map (some b)) := by simp [litC]
theorem bP {m : Option Nat} : normV (.lit (.map m)) = .lit (.map m) := by simp [normV]
theorem dA {β : Nat} : normV (.mp β) = .mp β := by simp [normV]
def vlt := And.intro (And.intro (And.intro @wa @wb) (And.intro @wc @we)) (And.intro @wg @wh)
theorem wi {m : Option Nat} : (VV.lit (.map m)).leaf = true := rfl
theorem wj {t : TypeId} {x : VV} : (VV.ifc t x).leaf = true := rfl
theorem Jq {m : Option Nat} : aK (.lit (.map m)) = some [.lit (.map m)] := rfl
theorem Jr {t : TypeId} {x : VV} : aK (.ifc t x) = some [.ifc t x] := rfl
theorem wm {m : Option Nat} {l : List Nat} : tnL (.lit (.map m)) l = l := rfl
theorem argsTm6 {a b c e f g : VV} : argsTm [a, b, c, e, f, g] = upd (upd (upd (upd (upd (upd (fun _ => .lit undef) 0 a) 1 b) 2 c) 3 e) 4 f) 5 g := by
 funext t; rcases t with _ | _ | _ | _ | _ | _ | t <;> simp [argsTm, upd]
def vsi := And.intro (And.intro vS @argsTm6) (And.intro (And.intro @bP @wi) (And.intro (And.intro @wj @Jq) (And.intro @Jr @wm)))
end Go.V
end
section
namespace Go.V
open Go Go.Proofs

end Go.V
end
section
namespace Go.V
open Go Go.Proofs
theorem mixed : Tryz.prog.follows .mixedOrders = true := by kernel_rfl
structure GSpan where
 Low : Int
 High : Int
 deriving Inhabited, DecidableEq
def aP (x : GSpan) : List VV := [.lit (.int .i64 x.Low), .lit (.int .i64 x.High)]
theorem lT {x : GSpan} : aP x = [.lit (.int .i64 x.Low), .lit (.int .i64 x.High)] := rfl
theorem dU : EncOk aP := EncOk.of (fun x => by simp only [lT, tre, Bool.and_self]) (fun x => by simp only [lT, nrm]) (fun x H d => by simp only [lT, nrm, List.map_cons, List.map_nil])
structure GBs where
 Board : Int
 Round : Bool
 Hours : GSpan
 Needs : List Int
 deriving Inhabited, DecidableEq
def cGBs (x : GBs) : List VV := [.lit (.int .i64 x.Board), .lit (.bool x.Round), .lit (.int .i64 x.Hours.Low), .lit (.int .i64 x.Hours.High), .sl (aa eI x.Needs) (List.length x.Needs) false]
theorem pz {x : GBs} : cGBs x = [.lit (.int .i64 x.Board), .lit (.bool x.Round), .lit (.int .i64 x.Hours.Low), .lit (.int .i64 x.Hours.High), .sl (aa eI x.Needs) (List.length x.Needs) false] := rfl
theorem fL : EncOk cGBs := EncOk.of (fun x => by simp only [pz, tre, dU.tree, dU.treeL, Bool.and_self]) (fun x => by simp only [pz, nrm, dU.norm, dU.normL, dU.shown, dU.showL]) (fun x H d => by simp only [pz, nrm, List.map_cons, List.map_nil])
structure GBk where
 Apprentices : Int
 Boards : List Int
 Strokes : List GBs
 deriving Inhabited, DecidableEq
def cGBk (x : GBk) : List VV := [.lit (.int .i64 x.Apprentices), .sl (aa eI x.Boards) (List.length x.Boards) false, .sl (aa cGBs x.Strokes) (List.length x.Strokes) false]
theorem p7 {x : GBk} : cGBk x = [.lit (.int .i64 x.Apprentices), .sl (aa eI x.Boards) (List.length x.Boards) false, .sl (aa cGBs x.Strokes) (List.length x.Strokes) false] := rfl
theorem iA : EncOk cGBk := EncOk.of (fun x => by simp only [p7, tre, dU.tree, dU.treeL, fL.tree, fL.treeL, Bool.and_self]) (fun x => by simp only [p7, nrm, dU.norm, dU.normL, dU.shown, dU.showL, fL.norm, fL.normL, fL.shown, fL.showL]) (fun x H d => by simp only [p7, nrm, List.map_cons, List.map_nil])
structure GBe where
 stroke : Int
 hours : Int
 deriving Inhabited, DecidableEq
def cGBe (x : GBe) : List VV := [.lit (.int .i64 x.stroke), .lit (.int .i64 x.hours)]
theorem sA {x : GBe} : cGBe x = [.lit (.int .i64 x.stroke), .lit (.int .i64 x.hours)] := rfl
theorem nE : EncOk cGBe := EncOk.of (fun x => by simp only [sA, tre, dU.tree, dU.treeL, fL.tree, fL.treeL, iA.tree, iA.treeL, Bool.and_self]) (fun x => by simp only [sA, nrm, dU.norm, dU.normL, dU.shown, dU.showL, fL.norm, fL.normL, fL.shown, fL.showL, iA.norm, iA.normL, iA.shown, iA.showL]) (fun x H d => by simp only [sA, nrm, List.map_cons, List.map_nil])
theorem Js {c : VV} {cs : List VV} : vload Tryz.prog 2 (c :: cs) = some c := by
 have h1 : aggT Tryz.prog 2 = some false := by kernel_rfl
 simp [vload, vpart, h1]
theorem Jt : szT Tryz.prog 2 = some 1 := by kernel_rfl
theorem wo : vzl Tryz.prog 2 = some [.lit (.int .i64 0)] := by kernel_rfl
theorem Ju {c : VV} {cs : List VV} : vload Tryz.prog 3 (c :: cs) = some c := by
 have h1 : aggT Tryz.prog 3 = some false := by kernel_rfl
 simp [vload, vpart, h1]
theorem Jv : szT Tryz.prog 3 = some 1 := by kernel_rfl
theorem wq : vzl Tryz.prog 3 = some [.lit (.int .i64 0)] := by kernel_rfl
theorem Jw {c : VV} {cs : List VV} : vload Tryz.prog 4 (c :: cs) = some c := by
 have h1 : aggT Tryz.prog 4 = some false := by kernel_rfl
 simp [vload, vpart, h1]
theorem Jx : szT Tryz.prog 4 = some 1 := by kernel_rfl
theorem wt : vzl Tryz.prog 4 = some [.lit (.bool false)] := by kernel_rfl
theorem Jy {c : VV} {cs : List VV} : vload Tryz.prog 9 (c :: cs) = some c := by
 have h1 : aggT Tryz.prog 9 = some false := by kernel_rfl
 simp [vload, vpart, h1]
theorem Jz : szT Tryz.prog 9 = some 1 := by kernel_rfl
theorem wu : vzl Tryz.prog 9 = some [.lit (.string ⟨#[]⟩)] := by kernel_rfl
theorem wv {c : VV} {cs : List VV} : vload Tryz.prog 22 (c :: cs) = some c := by
 have h1 : aggT Tryz.prog 22 = some false := by kernel_rfl
 simp [vload, vpart, h1]
theorem wx : szT Tryz.prog 22 = some 1 := by kernel_rfl
theorem p8 : vzl Tryz.prog 22 = some [.lit (.slice none 0 0)] := by kernel_rfl
theorem p9 {H : Nat → Option VObj} {cs : List VV} {n : Nat} {f : Bool} : vlen Tryz.prog H 22 (.sl cs n f) = some (.lit (.int .i64 n)) := by simp [vlen, Tryz.underlying22, sls]
theorem lenN22 {H : Nat → Option VObj} : vlen Tryz.prog H 22 (.lit (.slice none 0 0)) = some (.lit (.int .i64 0)) := by simp [vlen, Tryz.underlying22, sls]
theorem lenR22 {H : Nat → Option VObj} {β off n w c : Nat} : vlen Tryz.prog H 22 (.ref β off n w c) = (match H β with | some (.cells _ cs) => if off ≤ cs.length then some (.lit (.int .i64 n)) else none | _ => none) := lenR Tryz.underlying22
theorem cl : elemT Tryz.prog 22 = some 3 := by simp [elemT, Tryz.underlying22]
theorem gZ : appOk Tryz.prog 22 = some (3, 1, 8) := by kernel_rfl
theorem wy {xs : List Int} : (aa eI xs).take (xs.length * 1) = aa eI xs := sB (fun _ => rfl)
theorem gY : ∀ x : Int, leafL (eI x) = true := fun x => by simp only [eI_eq, jV, eB_eq, eS_eq, jW, fS, fT, sC, sD, sE, sF, sG, Bool.and_self]
theorem wz {a0 : VV} (h : leafL [a0] = true) : aq Tryz.prog 22 1 [(0, a0)] = some ([a0], 1) := by
 have h2 : szT Tryz.prog 3 = some 1 := by kernel_rfl
 have h3 : vzero Tryz.prog 3 = some #[.int .i64 0] := by kernel_rfl
 simp only [fT, fS, Bool.and_true, Bool.and_eq_true] at h
 simp [aq, Tryz.underlying22, h2, h3, vfill, vcells1, h, overwrite, vzeros, List.range_succ]
theorem w5 {a0 a1 : VV} (h : leafL [a0, a1] = true) : aq Tryz.prog 22 2 [(0, a0), (1, a1)] = some ([a0, a1], 1) := by
 have h2 : szT Tryz.prog 3 = some 1 := by kernel_rfl
 have h3 : vzero Tryz.prog 3 = some #[.int .i64 0] := by kernel_rfl
 simp only [fT, fS, Bool.and_true, Bool.and_eq_true] at h
 simp [aq, Tryz.underlying22, h2, h3, vfill, vcells1, h, overwrite, vzeros, List.range_succ]
theorem w6 {a0 a1 a2 : VV} (h : leafL [a0, a1, a2] = true) : aq Tryz.prog 22 3 [(0, a0), (1, a1), (2, a2)] = some ([a0, a1, a2], 1) := by
 have h2 : szT Tryz.prog 3 = some 1 := by kernel_rfl
 have h3 : vzero Tryz.prog 3 = some #[.int .i64 0] := by kernel_rfl
 simp only [fT, fS, Bool.and_true, Bool.and_eq_true] at h
 simp [aq, Tryz.underlying22, h2, h3, vfill, vcells1, h, overwrite, vzeros, List.range_succ]
theorem aE {H : Nat → Option VObj} {xs : List Int} {x : Int} {f : Bool} {k : IntKind} {i : Int} (h : getI xs i = some x) : av Tryz.prog H 22 (.sl (aa eI xs) xs.length f) (.lit (.int k i)) = some (.tp (eI x ++ aa eI (xs.drop (i.toNat + 1)))) :=
 ixG Tryz.underlying22 (by kernel_rfl : szT Tryz.prog 3 = some 1) (by decide) (fun _ => rfl) h
theorem w7 {c : VV} {cs : List VV} : vload Tryz.prog 23 (c :: cs) = some c := by
 have h1 : aggT Tryz.prog 23 = some false := by kernel_rfl
 simp [vload, vpart, h1]
theorem w8 : szT Tryz.prog 23 = some 1 := by kernel_rfl
theorem pA : vzl Tryz.prog 23 = some [.lit (.slice none 0 0)] := by kernel_rfl
theorem pC {H : Nat → Option VObj} {cs : List VV} {n : Nat} {f : Bool} : vlen Tryz.prog H 23 (.sl cs n f) = some (.lit (.int .i64 n)) := by simp [vlen, Tryz.underlying23, sls]
theorem lenN23 {H : Nat → Option VObj} : vlen Tryz.prog H 23 (.lit (.slice none 0 0)) = some (.lit (.int .i64 0)) := by simp [vlen, Tryz.underlying23, sls]
theorem lenR23 {H : Nat → Option VObj} {β off n w c : Nat} : vlen Tryz.prog H 23 (.ref β off n w c) = (match H β with | some (.cells _ cs) => if off ≤ cs.length then some (.lit (.int .i64 n)) else none | _ => none) := lenR Tryz.underlying23
theorem wA : elemT Tryz.prog 23 = some 49 := by simp [elemT, Tryz.underlying23]
theorem wB {xs : List GBs} : (aa cGBs xs).take (xs.length * 5) = aa cGBs xs := sB (fun _ => rfl)
theorem wC {c0 c1 c2 c3 c4 : VV} (h : leafL [c0, c1, c2, c3, c4] = true) : aq Tryz.prog 23 1 [(0, .agg [c0, c1, c2, c3, c4])] = some ([c0, c1, c2, c3, c4], 5) := by
 have h2 : szT Tryz.prog 49 = some 5 := by kernel_rfl
 have h3 : vzero Tryz.prog 49 = some #[.int .i64 0, .bool false, .int .i64 0, .int .i64 0, .slice none 0 0] := by kernel_rfl
 simp only [fT, fS, Bool.and_true, Bool.and_eq_true] at h
 simp [aq, Tryz.underlying23, h2, h3, vfill, aK, h, overwrite, vzeros]
theorem aM {H : Nat → Option VObj} {xs : List GBs} {x : GBs} {f : Bool} {k : IntKind} {i : Int} (h : getI xs i = some x) : av Tryz.prog H 23 (.sl (aa cGBs xs) xs.length f) (.lit (.int k i)) = some (.tp (cGBs x ++ aa cGBs (xs.drop (i.toNat + 1)))) :=
 ixG Tryz.underlying23 (by kernel_rfl : szT Tryz.prog 49 = some 5) (by decide) (fun _ => rfl) h
theorem wD {c0 c1 c2 : VV} {cs : List VV} : vload Tryz.prog 25 (c0 :: c1 :: c2 :: cs) = some (.agg [c0, c1, c2]) := by
 have h1 : aggT Tryz.prog 25 = some true := by kernel_rfl
 have h2 : szT Tryz.prog 25 = some 3 := by kernel_rfl
 simp [vload, vpart, h1, h2]
theorem wE : szT Tryz.prog 25 = some 3 := by kernel_rfl
theorem pD : vzl Tryz.prog 25 = some [.lit (.int .i64 0), .lit (.slice none 0 0), .lit (.slice none 0 0)] := by kernel_rfl
theorem wF {H : Nat → Option VObj} {cs : List VV} : ag Tryz.prog H 25 (.tp cs) 0 = some (.tp (cs.drop 0)) := by
 have h2 : szT Tryz.prog 3 = some 1 := by kernel_rfl
 simp [ag, Tryz.underlying25, h2]
theorem wG {H : Nat → Option VObj} {β o : Nat} : ag Tryz.prog H 25 (.ptr β o) 0 = if (H β).isSome = true then some (.ptr β (o + 0)) else none := by
 have h2 : szT Tryz.prog 3 = some 1 := by kernel_rfl
 simp [ag, Tryz.underlying25, h2]
theorem wH {c0 c1 c2 : VV} : vfield Tryz.prog 25 (.agg [c0, c1, c2]) 0 = some (c0) := by
 have h1 : aggT Tryz.prog 3 = some false := by kernel_rfl
 have h2 : szT Tryz.prog 3 = some 1 := by kernel_rfl
 simp [vfield, Tryz.underlying25, vpart, h1, h2]
theorem wI {H : Nat → Option VObj} {cs : List VV} : ag Tryz.prog H 25 (.tp cs) 1 = some (.tp (cs.drop 1)) := by
 have h2 : szT Tryz.prog 22 = some 1 := by kernel_rfl
 simp [ag, Tryz.underlying25, h2]
theorem wJ {H : Nat → Option VObj} {β o : Nat} : ag Tryz.prog H 25 (.ptr β o) 1 = if (H β).isSome = true then some (.ptr β (o + 1)) else none := by
 have h2 : szT Tryz.prog 22 = some 1 := by kernel_rfl
 simp [ag, Tryz.underlying25, h2]
theorem wK {c0 c1 c2 : VV} : vfield Tryz.prog 25 (.agg [c0, c1, c2]) 1 = some (c1) := by
 have h1 : aggT Tryz.prog 22 = some false := by kernel_rfl
 have h2 : szT Tryz.prog 22 = some 1 := by kernel_rfl
 simp [vfield, Tryz.underlying25, vpart, h1, h2]
theorem wL {H : Nat → Option VObj} {cs : List VV} : ag Tryz.prog H 25 (.tp cs) 2 = some (.tp (cs.drop 2)) := by
 have h2 : szT Tryz.prog 23 = some 1 := by kernel_rfl
 simp [ag, Tryz.underlying25, h2]
theorem wM {H : Nat → Option VObj} {β o : Nat} : ag Tryz.prog H 25 (.ptr β o) 2 = if (H β).isSome = true then some (.ptr β (o + 2)) else none := by
 have h2 : szT Tryz.prog 23 = some 1 := by kernel_rfl
 simp [ag, Tryz.underlying25, h2]
theorem wN {c0 c1 c2 : VV} : vfield Tryz.prog 25 (.agg [c0, c1, c2]) 2 = some (c2) := by
 have h1 : aggT Tryz.prog 23 = some false := by kernel_rfl
 have h2 : szT Tryz.prog 23 = some 1 := by kernel_rfl
 simp [vfield, Tryz.underlying25, vpart, h1, h2]
theorem wO {c : VV} {cs : List VV} : vload Tryz.prog 29 (c :: cs) = some c := by
 have h1 : aggT Tryz.prog 29 = some false := by kernel_rfl
 simp [vload, vpart, h1]
theorem wP : szT Tryz.prog 29 = some 1 := by kernel_rfl
theorem pE : vzl Tryz.prog 29 = some [.lit (.int .i64 0)] := by kernel_rfl
theorem wQ {c : VV} {cs : List VV} : vload Tryz.prog 31 (c :: cs) = some c := by
 have h1 : aggT Tryz.prog 31 = some false := by kernel_rfl
 simp [vload, vpart, h1]
theorem wR : szT Tryz.prog 31 = some 1 := by kernel_rfl
theorem pF : vzl Tryz.prog 31 = some [.lit (.slice none 0 0)] := by kernel_rfl
theorem pG {H : Nat → Option VObj} {cs : List VV} {n : Nat} {f : Bool} : vlen Tryz.prog H 31 (.sl cs n f) = some (.lit (.int .i64 n)) := by simp [vlen, Tryz.underlying31, sls]
theorem lenN31 {H : Nat → Option VObj} : vlen Tryz.prog H 31 (.lit (.slice none 0 0)) = some (.lit (.int .i64 0)) := by simp [vlen, Tryz.underlying31, sls]
theorem lenR31 {H : Nat → Option VObj} {β off n w c : Nat} : vlen Tryz.prog H 31 (.ref β off n w c) = (match H β with | some (.cells _ cs) => if off ≤ cs.length then some (.lit (.int .i64 n)) else none | _ => none) := lenR Tryz.underlying31
theorem jP : elemT Tryz.prog 31 = some 35 := by simp [elemT, Tryz.underlying31]
theorem oT : appOk Tryz.prog 31 = some (35, 2, 16) := by kernel_rfl
theorem wS {xs : List GSpan} : (aa aP xs).take (xs.length * 2) = aa aP xs := sB (fun _ => rfl)
theorem oS : ∀ x : GSpan, leafL (aP x) = true := fun x => by simp only [eI_eq, jV, eB_eq, eS_eq, jW, lT, fS, fT, sC, sD, sE, sF, sG, Bool.and_self]
theorem wT {c0 c1 : VV} (h : leafL [c0, c1] = true) : aq Tryz.prog 31 1 [(0, .agg [c0, c1])] = some ([c0, c1], 2) := by
 have h2 : szT Tryz.prog 35 = some 2 := by kernel_rfl
 have h3 : vzero Tryz.prog 35 = some #[.int .i64 0, .int .i64 0] := by kernel_rfl
 simp only [fT, fS, Bool.and_true, Bool.and_eq_true] at h
 simp [aq, Tryz.underlying31, h2, h3, vfill, aK, h, overwrite, vzeros]
theorem jX {H : Nat → Option VObj} {xs : List GSpan} {x : GSpan} {f : Bool} {k : IntKind} {i : Int} (h : getI xs i = some x) : av Tryz.prog H 31 (.sl (aa aP xs) xs.length f) (.lit (.int k i)) = some (.tp (aP x ++ aa aP (xs.drop (i.toNat + 1)))) :=
 ixG Tryz.underlying31 (by kernel_rfl : szT Tryz.prog 35 = some 2) (by decide) (fun _ => rfl) h
theorem wU {c0 c1 : VV} {cs : List VV} : vload Tryz.prog 35 (c0 :: c1 :: cs) = some (.agg [c0, c1]) := by
 have h1 : aggT Tryz.prog 35 = some true := by kernel_rfl
 have h2 : szT Tryz.prog 35 = some 2 := by kernel_rfl
 simp [vload, vpart, h1, h2]
theorem wV : szT Tryz.prog 35 = some 2 := by kernel_rfl
theorem iN : vzl Tryz.prog 35 = some [.lit (.int .i64 0), .lit (.int .i64 0)] := by kernel_rfl
theorem wW {H : Nat → Option VObj} {cs : List VV} : ag Tryz.prog H 35 (.tp cs) 0 = some (.tp (cs.drop 0)) := by
 have h2 : szT Tryz.prog 3 = some 1 := by kernel_rfl
 simp [ag, Tryz.underlying35, h2]
theorem wX {H : Nat → Option VObj} {β o : Nat} : ag Tryz.prog H 35 (.ptr β o) 0 = if (H β).isSome = true then some (.ptr β (o + 0)) else none := by
 have h2 : szT Tryz.prog 3 = some 1 := by kernel_rfl
 simp [ag, Tryz.underlying35, h2]
theorem wY {c0 c1 : VV} : vfield Tryz.prog 35 (.agg [c0, c1]) 0 = some (c0) := by
 have h1 : aggT Tryz.prog 3 = some false := by kernel_rfl
 have h2 : szT Tryz.prog 3 = some 1 := by kernel_rfl
 simp [vfield, Tryz.underlying35, vpart, h1, h2]
theorem wZ {H : Nat → Option VObj} {cs : List VV} : ag Tryz.prog H 35 (.tp cs) 1 = some (.tp (cs.drop 1)) := by
 have h2 : szT Tryz.prog 3 = some 1 := by kernel_rfl
 simp [ag, Tryz.underlying35, h2]
theorem xa {H : Nat → Option VObj} {β o : Nat} : ag Tryz.prog H 35 (.ptr β o) 1 = if (H β).isSome = true then some (.ptr β (o + 1)) else none := by
 have h2 : szT Tryz.prog 3 = some 1 := by kernel_rfl
 simp [ag, Tryz.underlying35, h2]
theorem xc {c0 c1 : VV} : vfield Tryz.prog 35 (.agg [c0, c1]) 1 = some (c1) := by
 have h1 : aggT Tryz.prog 3 = some false := by kernel_rfl
 have h2 : szT Tryz.prog 3 = some 1 := by kernel_rfl
 simp [vfield, Tryz.underlying35, vpart, h1, h2]
theorem xd {c0 c1 c2 c3 c4 : VV} {cs : List VV} : vload Tryz.prog 49 (c0 :: c1 :: c2 :: c3 :: c4 :: cs) = some (.agg [c0, c1, c2, c3, c4]) := by
 have h1 : aggT Tryz.prog 49 = some true := by kernel_rfl
 have h2 : szT Tryz.prog 49 = some 5 := by kernel_rfl
 simp [vload, vpart, h1, h2]
theorem xe : szT Tryz.prog 49 = some 5 := by kernel_rfl
theorem pH : vzl Tryz.prog 49 = some [.lit (.int .i64 0), .lit (.bool false), .lit (.int .i64 0), .lit (.int .i64 0), .lit (.slice none 0 0)] := by kernel_rfl
theorem xf {H : Nat → Option VObj} {cs : List VV} : ag Tryz.prog H 49 (.tp cs) 0 = some (.tp (cs.drop 0)) := by
 have h2 : szT Tryz.prog 3 = some 1 := by kernel_rfl
 simp [ag, Tryz.underlying49, h2]
theorem xg {H : Nat → Option VObj} {β o : Nat} : ag Tryz.prog H 49 (.ptr β o) 0 = if (H β).isSome = true then some (.ptr β (o + 0)) else none := by
 have h2 : szT Tryz.prog 3 = some 1 := by kernel_rfl
 simp [ag, Tryz.underlying49, h2]
theorem xi {c0 c1 c2 c3 c4 : VV} : vfield Tryz.prog 49 (.agg [c0, c1, c2, c3, c4]) 0 = some (c0) := by
 have h1 : aggT Tryz.prog 3 = some false := by kernel_rfl
 have h2 : szT Tryz.prog 3 = some 1 := by kernel_rfl
 simp [vfield, Tryz.underlying49, vpart, h1, h2]
theorem xj {H : Nat → Option VObj} {cs : List VV} : ag Tryz.prog H 49 (.tp cs) 1 = some (.tp (cs.drop 1)) := by
 have h2 : szT Tryz.prog 4 = some 1 := by kernel_rfl
 simp [ag, Tryz.underlying49, h2]
theorem xk {H : Nat → Option VObj} {β o : Nat} : ag Tryz.prog H 49 (.ptr β o) 1 = if (H β).isSome = true then some (.ptr β (o + 1)) else none := by
 have h2 : szT Tryz.prog 4 = some 1 := by kernel_rfl
 simp [ag, Tryz.underlying49, h2]
theorem xl {c0 c1 c2 c3 c4 : VV} : vfield Tryz.prog 49 (.agg [c0, c1, c2, c3, c4]) 1 = some (c1) := by
 have h1 : aggT Tryz.prog 4 = some false := by kernel_rfl
 have h2 : szT Tryz.prog 4 = some 1 := by kernel_rfl
 simp [vfield, Tryz.underlying49, vpart, h1, h2]
theorem xm {H : Nat → Option VObj} {cs : List VV} : ag Tryz.prog H 49 (.tp cs) 2 = some (.tp (cs.drop 2)) := by
 have h2 : szT Tryz.prog 35 = some 2 := by kernel_rfl
 simp [ag, Tryz.underlying49, h2]
theorem xn {H : Nat → Option VObj} {β o : Nat} : ag Tryz.prog H 49 (.ptr β o) 2 = if (H β).isSome = true then some (.ptr β (o + 2)) else none := by
 have h2 : szT Tryz.prog 35 = some 2 := by kernel_rfl
 simp [ag, Tryz.underlying49, h2]
theorem xo {c0 c1 c2 c3 c4 : VV} : vfield Tryz.prog 49 (.agg [c0, c1, c2, c3, c4]) 2 = some (.agg [c2, c3]) := by
 have h1 : aggT Tryz.prog 35 = some true := by kernel_rfl
 have h2 : szT Tryz.prog 35 = some 2 := by kernel_rfl
 simp [vfield, Tryz.underlying49, vpart, h1, h2]
theorem xq {H : Nat → Option VObj} {cs : List VV} : ag Tryz.prog H 49 (.tp cs) 3 = some (.tp (cs.drop 4)) := by
 have h2 : szT Tryz.prog 22 = some 1 := by kernel_rfl
 simp [ag, Tryz.underlying49, h2]
theorem xr {H : Nat → Option VObj} {β o : Nat} : ag Tryz.prog H 49 (.ptr β o) 3 = if (H β).isSome = true then some (.ptr β (o + 4)) else none := by
 have h2 : szT Tryz.prog 22 = some 1 := by kernel_rfl
 simp [ag, Tryz.underlying49, h2]
theorem xt {c0 c1 c2 c3 c4 : VV} : vfield Tryz.prog 49 (.agg [c0, c1, c2, c3, c4]) 3 = some (c4) := by
 have h1 : aggT Tryz.prog 22 = some false := by kernel_rfl
 have h2 : szT Tryz.prog 22 = some 1 := by kernel_rfl
 simp [vfield, Tryz.underlying49, vpart, h1, h2]
theorem xu {c : VV} {cs : List VV} : vload Tryz.prog 51 (c :: cs) = some c := by
 have h1 : aggT Tryz.prog 51 = some false := by kernel_rfl
 simp [vload, vpart, h1]
theorem xv : szT Tryz.prog 51 = some 1 := by kernel_rfl
theorem pI : vzl Tryz.prog 51 = some [.lit (.slice none 0 0)] := by kernel_rfl
theorem pJ {H : Nat → Option VObj} {cs : List VV} {n : Nat} {f : Bool} : vlen Tryz.prog H 51 (.sl cs n f) = some (.lit (.int .i64 n)) := by simp [vlen, Tryz.underlying51, sls]
theorem lenN51 {H : Nat → Option VObj} : vlen Tryz.prog H 51 (.lit (.slice none 0 0)) = some (.lit (.int .i64 0)) := by simp [vlen, Tryz.underlying51, sls]
theorem lenR51 {H : Nat → Option VObj} {β off n w c : Nat} : vlen Tryz.prog H 51 (.ref β off n w c) = (match H β with | some (.cells _ cs) => if off ≤ cs.length then some (.lit (.int .i64 n)) else none | _ => none) := lenR Tryz.underlying51
theorem jY : elemT Tryz.prog 51 = some 60 := by simp [elemT, Tryz.underlying51]
theorem pK : appOk Tryz.prog 51 = some (60, 1, 8) := by kernel_rfl
theorem xw {xs : List Int} : (aa eI xs).take (xs.length * 1) = aa eI xs := sB (fun _ => rfl)
theorem pL : ∀ x : Int, leafL (eI x) = true := fun x => by simp only [eI_eq, jV, eB_eq, eS_eq, jW, fS, fT, sC, sD, sE, sF, sG, Bool.and_self]
theorem xx {a0 : VV} (h : leafL [a0] = true) : aq Tryz.prog 51 1 [(0, a0)] = some ([a0], 1) := by
 have h2 : szT Tryz.prog 60 = some 1 := by kernel_rfl
 have h3 : vzero Tryz.prog 60 = some #[.int .i64 0] := by kernel_rfl
 simp only [fT, fS, Bool.and_true, Bool.and_eq_true] at h
 simp [aq, Tryz.underlying51, h2, h3, vfill, vcells1, h, overwrite, vzeros, List.range_succ]
theorem xy {a0 a1 : VV} (h : leafL [a0, a1] = true) : aq Tryz.prog 51 2 [(0, a0), (1, a1)] = some ([a0, a1], 1) := by
 have h2 : szT Tryz.prog 60 = some 1 := by kernel_rfl
 have h3 : vzero Tryz.prog 60 = some #[.int .i64 0] := by kernel_rfl
 simp only [fT, fS, Bool.and_true, Bool.and_eq_true] at h
 simp [aq, Tryz.underlying51, h2, h3, vfill, vcells1, h, overwrite, vzeros, List.range_succ]
theorem xz {a0 a1 a2 : VV} (h : leafL [a0, a1, a2] = true) : aq Tryz.prog 51 3 [(0, a0), (1, a1), (2, a2)] = some ([a0, a1, a2], 1) := by
 have h2 : szT Tryz.prog 60 = some 1 := by kernel_rfl
 have h3 : vzero Tryz.prog 60 = some #[.int .i64 0] := by kernel_rfl
 simp only [fT, fS, Bool.and_true, Bool.and_eq_true] at h
 simp [aq, Tryz.underlying51, h2, h3, vfill, vcells1, h, overwrite, vzeros, List.range_succ]
theorem cR {H : Nat → Option VObj} {xs : List Int} {x : Int} {f : Bool} {k : IntKind} {i : Int} (h : getI xs i = some x) : av Tryz.prog H 51 (.sl (aa eI xs) xs.length f) (.lit (.int k i)) = some (.tp (eI x ++ aa eI (xs.drop (i.toNat + 1)))) :=
 ixG Tryz.underlying51 (by kernel_rfl : szT Tryz.prog 60 = some 1) (by decide) (fun _ => rfl) h
theorem x4 {c : VV} {cs : List VV} : vload Tryz.prog 60 (c :: cs) = some c := by
 have h1 : aggT Tryz.prog 60 = some false := by kernel_rfl
 simp [vload, vpart, h1]
theorem x5 : szT Tryz.prog 60 = some 1 := by kernel_rfl
theorem pM : vzl Tryz.prog 60 = some [.lit (.int .i64 0)] := by kernel_rfl
theorem x7 {c0 c1 c2 c3 c4 : VV} {cs : List VV} : vload Tryz.prog 92 (c0 :: c1 :: c2 :: c3 :: c4 :: cs) = some (.agg [c0, c1, c2, c3, c4]) := by
 have h1 : aggT Tryz.prog 92 = some true := by kernel_rfl
 have h2 : szT Tryz.prog 92 = some 5 := by kernel_rfl
 simp [vload, vpart, h1, h2]
theorem x8 : szT Tryz.prog 92 = some 5 := by kernel_rfl
theorem kS : vzl Tryz.prog 92 = some [.lit (.int .i64 0), .lit (.slice none 0 0), .lit (.slice none 0 0), .lit (.slice none 0 0), .lit (.map none)] := by kernel_rfl
theorem xA {H : Nat → Option VObj} {cs : List VV} : ag Tryz.prog H 92 (.tp cs) 0 = some (.tp (cs.drop 0)) := by
 have h2 : szT Tryz.prog 25 = some 3 := by kernel_rfl
 simp [ag, Tryz.underlying92, h2]
theorem xB {H : Nat → Option VObj} {β o : Nat} : ag Tryz.prog H 92 (.ptr β o) 0 = if (H β).isSome = true then some (.ptr β (o + 0)) else none := by
 have h2 : szT Tryz.prog 25 = some 3 := by kernel_rfl
 simp [ag, Tryz.underlying92, h2]
theorem xC {c0 c1 c2 c3 c4 : VV} : vfield Tryz.prog 92 (.agg [c0, c1, c2, c3, c4]) 0 = some (.agg [c0, c1, c2]) := by
 have h1 : aggT Tryz.prog 25 = some true := by kernel_rfl
 have h2 : szT Tryz.prog 25 = some 3 := by kernel_rfl
 simp [vfield, Tryz.underlying92, vpart, h1, h2]
theorem xD {H : Nat → Option VObj} {cs : List VV} : ag Tryz.prog H 92 (.tp cs) 1 = some (.tp (cs.drop 3)) := by
 have h2 : szT Tryz.prog 22 = some 1 := by kernel_rfl
 simp [ag, Tryz.underlying92, h2]
theorem xE {H : Nat → Option VObj} {β o : Nat} : ag Tryz.prog H 92 (.ptr β o) 1 = if (H β).isSome = true then some (.ptr β (o + 3)) else none := by
 have h2 : szT Tryz.prog 22 = some 1 := by kernel_rfl
 simp [ag, Tryz.underlying92, h2]
theorem xF {c0 c1 c2 c3 c4 : VV} : vfield Tryz.prog 92 (.agg [c0, c1, c2, c3, c4]) 1 = some (c3) := by
 have h1 : aggT Tryz.prog 22 = some false := by kernel_rfl
 have h2 : szT Tryz.prog 22 = some 1 := by kernel_rfl
 simp [vfield, Tryz.underlying92, vpart, h1, h2]
theorem xG {H : Nat → Option VObj} {cs : List VV} : ag Tryz.prog H 92 (.tp cs) 2 = some (.tp (cs.drop 4)) := by
 have h2 : szT Tryz.prog 90 = some 1 := by kernel_rfl
 simp [ag, Tryz.underlying92, h2]
theorem xH {H : Nat → Option VObj} {β o : Nat} : ag Tryz.prog H 92 (.ptr β o) 2 = if (H β).isSome = true then some (.ptr β (o + 4)) else none := by
 have h2 : szT Tryz.prog 90 = some 1 := by kernel_rfl
 simp [ag, Tryz.underlying92, h2]
theorem xI {c0 c1 c2 c3 c4 : VV} : vfield Tryz.prog 92 (.agg [c0, c1, c2, c3, c4]) 2 = some (c4) := by
 have h1 : aggT Tryz.prog 90 = some false := by kernel_rfl
 have h2 : szT Tryz.prog 90 = some 1 := by kernel_rfl
 simp [vfield, Tryz.underlying92, vpart, h1, h2]
theorem pN {c0 c1 : VV} {cs : List VV} : vload Tryz.prog 152 (c0 :: c1 :: cs) = some (.agg [c0, c1]) := by
 have h1 : aggT Tryz.prog 152 = some true := by kernel_rfl
 have h2 : szT Tryz.prog 152 = some 2 := by kernel_rfl
 simp [vload, vpart, h1, h2]
theorem pO : szT Tryz.prog 152 = some 2 := by kernel_rfl
theorem iO : vzl Tryz.prog 152 = some [.lit (.int .i64 0), .lit (.int .i64 0)] := by kernel_rfl
theorem xJ {H : Nat → Option VObj} {cs : List VV} : ag Tryz.prog H 152 (.tp cs) 0 = some (.tp (cs.drop 0)) := by
 have h2 : szT Tryz.prog 3 = some 1 := by kernel_rfl
 simp [ag, Tryz.underlying152, h2]
theorem xK {H : Nat → Option VObj} {β o : Nat} : ag Tryz.prog H 152 (.ptr β o) 0 = if (H β).isSome = true then some (.ptr β (o + 0)) else none := by
 have h2 : szT Tryz.prog 3 = some 1 := by kernel_rfl
 simp [ag, Tryz.underlying152, h2]
theorem xL {c0 c1 : VV} : vfield Tryz.prog 152 (.agg [c0, c1]) 0 = some (c0) := by
 have h1 : aggT Tryz.prog 3 = some false := by kernel_rfl
 have h2 : szT Tryz.prog 3 = some 1 := by kernel_rfl
 simp [vfield, Tryz.underlying152, vpart, h1, h2]
theorem xM {H : Nat → Option VObj} {cs : List VV} : ag Tryz.prog H 152 (.tp cs) 1 = some (.tp (cs.drop 1)) := by
 have h2 : szT Tryz.prog 3 = some 1 := by kernel_rfl
 simp [ag, Tryz.underlying152, h2]
theorem xN {H : Nat → Option VObj} {β o : Nat} : ag Tryz.prog H 152 (.ptr β o) 1 = if (H β).isSome = true then some (.ptr β (o + 1)) else none := by
 have h2 : szT Tryz.prog 3 = some 1 := by kernel_rfl
 simp [ag, Tryz.underlying152, h2]
theorem xO {c0 c1 : VV} : vfield Tryz.prog 152 (.agg [c0, c1]) 1 = some (c1) := by
 have h1 : aggT Tryz.prog 3 = some false := by kernel_rfl
 have h2 : szT Tryz.prog 3 = some 1 := by kernel_rfl
 simp [vfield, Tryz.underlying152, vpart, h1, h2]
theorem pP {c : VV} {cs : List VV} : vload Tryz.prog 156 (c :: cs) = some c := by
 have h1 : aggT Tryz.prog 156 = some false := by kernel_rfl
 simp [vload, vpart, h1]
theorem pQ : szT Tryz.prog 156 = some 1 := by kernel_rfl
theorem lU : vzl Tryz.prog 156 = some [.lit (.int .i64 0)] := by kernel_rfl
theorem pR : szT Tryz.prog 153 = some 1 := by kernel_rfl
theorem pS {c : VV} {cs : List VV} : vload Tryz.prog 153 (c :: cs) = some c := by
 have h1 : aggT Tryz.prog 153 = some false := by kernel_rfl
 simp [vload, vpart, h1]
theorem lV : vzl Tryz.prog 153 = some [.lit .nilFunc] := by kernel_rfl
theorem pT : szT Tryz.prog 154 = some 2 := by kernel_rfl
theorem iP : vzl Tryz.prog 154 = some [.lit .nilFunc, .lit .nilFunc] := by kernel_rfl
theorem pU {c0 c1 : VV} {cs : List VV} : vload Tryz.prog 154 (c0 :: c1 :: cs) = some (.agg [c0, c1]) := by
 have h1 : aggT Tryz.prog 154 = some true := by kernel_rfl
 have h2 : szT Tryz.prog 154 = some 2 := by kernel_rfl
 simp [vload, vpart, h1, h2]
theorem xP {c0 c1 : VV} {k : IntKind} : vindex Tryz.prog 154 (.agg [c0, c1]) (.lit (.int k 0)) = some c0 := by
 have h1 : aggT Tryz.prog 153 = some false := by kernel_rfl
 have h2 : szT Tryz.prog 153 = some 1 := by kernel_rfl
 simp [vindex, Tryz.underlying154, vpart, h1, h2]
theorem xQ {H : Nat → Option VObj} {β o : Nat} {k : IntKind} : av Tryz.prog H 154 (.ptr β o) (.lit (.int k 0)) = if (H β).isSome = true then some (.ptr β (o + 0)) else none := by
 have h2 : szT Tryz.prog 153 = some 1 := by kernel_rfl
 simp [av, Tryz.underlying154, h2]
theorem xR {c0 c1 : VV} {k : IntKind} : vindex Tryz.prog 154 (.agg [c0, c1]) (.lit (.int k 1)) = some c1 := by
 have h1 : aggT Tryz.prog 153 = some false := by kernel_rfl
 have h2 : szT Tryz.prog 153 = some 1 := by kernel_rfl
 simp [vindex, Tryz.underlying154, vpart, h1, h2]
theorem xS {H : Nat → Option VObj} {β o : Nat} {k : IntKind} : av Tryz.prog H 154 (.ptr β o) (.lit (.int k 1)) = if (H β).isSome = true then some (.ptr β (o + 1)) else none := by
 have h2 : szT Tryz.prog 153 = some 1 := by kernel_rfl
 simp [av, Tryz.underlying154, h2]
theorem xT : vbuild Tryz.prog 35 [] = some (.agg [.lit (.int .i64 0), .lit (.int .i64 0)]) := by
 rw [pV iN (by kernel_rfl)]
 rfl
theorem xU {cv cJ : VV} (h : leafL [cv, cJ] = true) : vbuild Tryz.prog 35 [(0, cv), (1, cJ)] = some (.agg [cv, cJ]) := by
 have p0 : placeT Tryz.prog 35 0 = some (0, 1) := by kernel_rfl
 have p1 : placeT Tryz.prog 35 1 = some (1, 1) := by kernel_rfl
 simp only [fT, fS, Bool.and_true, Bool.and_eq_true] at h
 rw [pV iN (by kernel_rfl)]
 simp [vfill, p0, p1, vcells1, h, overwrite]
theorem J0 {cv iQ iR cJ lW : VV} (h : leafL [cv, iQ, iR, cJ, lW] = true) : vbuild Tryz.prog 92 [(0, .agg [cv, iQ, iR]), (1, cJ), (2, lW)] = some (.agg [cv, iQ, iR, cJ, lW]) := by
 have p0 : placeT Tryz.prog 92 0 = some (0, 3) := by kernel_rfl
 have p1 : placeT Tryz.prog 92 1 = some (3, 1) := by kernel_rfl
 have p2 : placeT Tryz.prog 92 2 = some (4, 1) := by kernel_rfl
 simp only [fT, fS, Bool.and_true, Bool.and_eq_true] at h
 have q0 : aK (.agg [cv, iQ, iR]) = some [cv, iQ, iR] := by rw [Fs]; simp [fT, fS, h]
 rw [pV kS (by kernel_rfl)]
 simp [vfill, p0, p1, p2, vcells1, h, overwrite, q0]
theorem xV {cv cJ : VV} (h : leafL [cv, cJ] = true) : vbuild Tryz.prog 152 [(0, cv), (1, cJ)] = some (.agg [cv, cJ]) := by
 have p0 : placeT Tryz.prog 152 0 = some (0, 1) := by kernel_rfl
 have p1 : placeT Tryz.prog 152 1 = some (1, 1) := by kernel_rfl
 simp only [fT, fS, Bool.and_true, Bool.and_eq_true] at h
 rw [pV iO (by kernel_rfl)]
 simp [vfill, p0, p1, vcells1, h, overwrite]
theorem xW {cv cJ : VV} (h : leafL [cv, cJ] = true) : vbuild Tryz.prog 154 [(0, cv), (1, cJ)] = some (.agg [cv, cJ]) := by
 have p0 : placeT Tryz.prog 154 0 = some (0, 1) := by kernel_rfl
 have p1 : placeT Tryz.prog 154 1 = some (1, 1) := by kernel_rfl
 simp only [fT, fS, Bool.and_true, Bool.and_eq_true] at h
 rw [pV iP (by kernel_rfl)]
 simp [vfill, p0, p1, vcells1, h, overwrite]
theorem J1 {H : Nat → Option VObj} {x y : Operand} {a b : Bool} : binV Tryz.prog H .eql 4 x y (.lit (.bool a)) (.lit (.bool b)) = some (.lit (.bool (a == b))) := xX Tryz.underlying4
theorem J2 {H : Nat → Option VObj} {x y : Operand} {a b : Bool} : binV Tryz.prog H .neq 4 x y (.lit (.bool a)) (.lit (.bool b)) = some (.lit (.bool (a != b))) := xY Tryz.underlying4
theorem pW {H : Nat → Option VObj} {x y : Operand} {a0 b0 : Int} {a1 b1 : Int} : binV Tryz.prog H .eql 35 x y (.agg [.lit (.int .i64 a0), .lit (.int .i64 a1)]) (.agg [.lit (.int .i64 b0), .lit (.int .i64 b1)]) = some (.lit (.bool (a0 == b0 && (a1 == b1)))) ∧ binV Tryz.prog H .neq 35 x y (.agg [.lit (.int .i64 a0), .lit (.int .i64 a1)]) (.agg [.lit (.int .i64 b0), .lit (.int .i64 b1)]) = some (.lit (.bool (!(a0 == b0 && (a1 == b1))))) := by
 refine binS (xs := [.int .i64 a0, .int .i64 a1]) (ys := [.int .i64 b0, .int .i64 b1]) (by simp [VV.val?, valL?]) (by simp [VV.val?, valL?]) Tryz.underlying35 (by kernel_rfl) (by kernel_rfl) ?_
 simp [eqF, iS, eq1, Tryz.underlying3]
theorem xZ {H : Nat → Option VObj} {x y : Operand} {a0 b0 : Int} {a1 b1 : Int} : binV Tryz.prog H .eql 35 x y (.agg [.lit (.int .i64 a0), .lit (.int .i64 a1)]) (.agg [.lit (.int .i64 b0), .lit (.int .i64 b1)]) = some (.lit (.bool (a0 == b0 && (a1 == b1)))) := pW.1
theorem ya {H : Nat → Option VObj} {x y : Operand} {a0 b0 : Int} {a1 b1 : Int} : binV Tryz.prog H .neq 35 x y (.agg [.lit (.int .i64 a0), .lit (.int .i64 a1)]) (.agg [.lit (.int .i64 b0), .lit (.int .i64 b1)]) = some (.lit (.bool (!(a0 == b0 && (a1 == b1))))) := pW.2
theorem yb : (VV.lit Value.nilFunc).leaf = true := rfl
theorem yc : (VV.lit Value.nilIface).leaf = true := rfl
def tyf := (And.intro (And.intro (And.intro (And.intro (And.intro (And.intro (And.intro @lT @pz) (And.intro @p7 @sA)) (And.intro (And.intro @Js @Jt) (And.intro @wo (And.intro @Ju @Jv)))) (And.intro (And.intro (And.intro @wq @Jw) (And.intro @Jx @wt)) (And.intro (And.intro @Jy @Jz) (And.intro @wu (And.intro @wv @wx))))) (And.intro (And.intro (And.intro (And.intro @p8 @p9) (And.intro @lenN22 @lenR22)) (And.intro (And.intro @cl @wy) (And.intro @wz (And.intro @w5 @w6)))) (And.intro (And.intro (And.intro @w7 @w8) (And.intro @pA (And.intro @pC @lenN23))) (And.intro (And.intro @lenR23 @wA) (And.intro @wB (And.intro @wC @wD)))))) (And.intro (And.intro (And.intro (And.intro (And.intro @wE @pD) (And.intro @wF @wG)) (And.intro (And.intro @wH @wI) (And.intro @wJ (And.intro @wK @wL)))) (And.intro (And.intro (And.intro @wM @wN) (And.intro @wO @wP)) (And.intro (And.intro @pE @wQ) (And.intro @wR (And.intro @pF @pG))))) (And.intro (And.intro (And.intro (And.intro @lenN31 @lenR31) (And.intro @jP @wS)) (And.intro (And.intro @wT @wU) (And.intro @wV (And.intro @iN @wW)))) (And.intro (And.intro (And.intro @wX @wY) (And.intro @wZ (And.intro @xa @xc))) (And.intro (And.intro @xd @xe) (And.intro @pH (And.intro @xf @xg))))))) (And.intro (And.intro (And.intro (And.intro (And.intro (And.intro @xi @xj) (And.intro @xk @xl)) (And.intro (And.intro @xm @xn) (And.intro @xo (And.intro @xq @xr)))) (And.intro (And.intro (And.intro @xt @xu) (And.intro @xv @pI)) (And.intro (And.intro @pJ @lenN51) (And.intro @lenR51 (And.intro @jY @xw))))) (And.intro (And.intro (And.intro (And.intro @xx @xy) (And.intro @xz @x4)) (And.intro (And.intro @x5 @pM) (And.intro @x7 (And.intro @x8 @kS)))) (And.intro (And.intro (And.intro @xA @xB) (And.intro @xC (And.intro @xD @xE))) (And.intro (And.intro @xF @xG) (And.intro @xH (And.intro @xI @pN)))))) (And.intro (And.intro (And.intro (And.intro (And.intro @pO @iO) (And.intro @xJ @xK)) (And.intro (And.intro @xL @xM) (And.intro @xN (And.intro @xO @pP)))) (And.intro (And.intro (And.intro @pQ @lU) (And.intro @pR (And.intro @pS @lV))) (And.intro (And.intro @pT @iP) (And.intro @pU (And.intro @xP @xQ))))) (And.intro (And.intro (And.intro (And.intro @xR @xS) (And.intro @xT @xU)) (And.intro (And.intro @J0 @xV) (And.intro @xW (And.intro @J1 @J2)))) (And.intro (And.intro (And.intro @xZ @ya) (And.intro @yb (And.intro @yc @J3))) (And.intro (And.intro @eI_eq @jV) (And.intro @eB_eq (And.intro @eS_eq @jW))))))))
def aB := (And.intro (And.intro (And.intro (And.intro @dU.norm @dU.normL) (And.intro @dU.shown @dU.showL)) (And.intro (And.intro @fL.norm @fL.normL) (And.intro @fL.shown @fL.showL))) (And.intro (And.intro (And.intro @iA.norm @iA.normL) (And.intro @iA.shown @iA.showL)) (And.intro (And.intro @nE.norm @nE.normL) (And.intro @nE.shown @nE.showL))))
def aO := (And.intro (And.intro (And.intro @dU.tree @dU.treeL) (And.intro @fL.tree @fL.treeL)) (And.intro (And.intro @iA.tree @iA.treeL) (And.intro @nE.tree @nE.treeL)))
end Go.V
namespace Go.V
open Go Go.Proofs
theorem ktA {P : Program} {G : Glob} {d : Option Tmp} {γ : Nat} {tm : Nat → VV} {H : Nat → Option VObj} {nx : Nat} {df : List VDef} {K : St → Prop} {Qp : VV → St → Prop} {f : FuncId} {args args0 : List VV} {x : VV} (hp : ai P G f args0 (.tree x)) (h : fin d γ tm H nx df K x .none) (hn : normL args = args0 := by first | (simp only [nrm, aB] <;> rfl) | rfl) (ht : treeL args = true := by simp only [tre, aO, Bool.and_self]) : callK P G f args ⟨tm, H, nx, df⟩ d γ K Qp := ktree hn ht hp h
theorem dktA {P : Program} {G : Glob} {d : Option Tmp} {γ : Nat} {tm : Nat → VV} {H : Nat → Option VObj} {nx : Nat} {df : List VDef} {K : List Nat → List Nat → St → Prop} {f : FuncId} {args args0 : List VV} {x : VV} (hp : ai P G f args0 (.tree x)) (h : fin d γ tm H nx df (K [] []) x .none) (hn : normL args = args0 := by first | (simp only [nrm, aB] <;> rfl) | rfl) (ht : treeL args = true := by simp only [tre, aO, Bool.and_self]) : dcallK P G f args tm H nx df d γ K := dktree hn ht hp h
theorem optI {α β : Type} {K : Option β → Prop} {X : Option α} {F : α → Option β} (h : K (Option.bind X F)) (kN : ¬ K none) : ∃ r, X = some r ∧ K (F r) := by
  cases X with
  | none => exact absurd h kN
  | some r => exact ⟨r, rfl, h⟩
end Go.V
end
