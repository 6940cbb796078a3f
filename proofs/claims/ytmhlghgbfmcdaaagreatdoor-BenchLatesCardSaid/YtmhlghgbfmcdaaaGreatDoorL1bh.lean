/- Part of a proof. -/
import Derived.Test.YtmhlghgbfmcdaaaGreatDoorL1bg
set_option linter.all false
section
namespace Go.V
open Go
section
variable {P : Program} {H : Nat → Option VObj} {γ : Nat} {α : Type} {enc : α → List VV} {t t2 e e2 w b : Nat} {xs ys : List α} {el : Option TypeId} {β : Nat} {f : Bool} {k : VV → VEff → Prop}
theorem setA {x : α} {i : Int} (he : ∀ x, (enc x).length = w) (h : getI xs i = some x) : (i.toNat * w + w ≤ (aa enc xs).length) = True := by
 obtain ⟨h0, h1, _⟩ := oa h
 rw [gV he, eq_true_iff_of_true]
 have : i.toNat + 1 ≤ xs.length := by omega
 have := Nat.mul_le_mul_right w this
 rw [Nat.add_mul, Nat.one_mul] at this
 exact this
 where
 eq_true_iff_of_true : ∀ {p : Prop}, (p = True) = p := fun {p} => propext ⟨fun h => h ▸ trivial, fun h => eq_true h⟩
theorem setB {x : α} {i : Int} (v : α) (he : ∀ x, (enc x).length = w) (h : getI xs i = some x) : overwrite (aa enc xs) (i.toNat * w) (enc v) = aa enc (xs.set i.toNat v) := by
 obtain ⟨h0, h1, h2⟩ := oa h
 have hn : i.toNat < xs.length := by omega
 have e1 : xs = xs.take i.toNat ++ (x :: xs.drop (i.toNat + 1)) := by
  rw [← h2, List.take_append_drop]
 have e2 : xs.set i.toNat v = xs.take i.toNat ++ (v :: xs.drop (i.toNat + 1)) := by
  rw [List.set_eq_take_append_cons_drop, if_pos hn]
 have hl : (xs.take i.toNat).length = i.toNat := by rw [List.length_take]; omega
 have t1 : (aa enc xs).take (i.toNat * w) = aa enc (xs.take i.toNat) := by
  have hq : aa enc xs = aa enc (xs.take i.toNat) ++ aa enc (x :: xs.drop (i.toNat + 1)) := by rw [← rT, ← e1]
  rw [hq, List.take_left' (by rw [gV he, hl])]
 have t2 : (aa enc xs).drop (i.toNat * w + (enc v).length) = aa enc (xs.drop (i.toNat + 1)) := by
  have hq : xs = (xs.take i.toNat ++ [x]) ++ xs.drop (i.toNat + 1) := by rw [List.append_assoc]; exact e1
  have hd := y7 (enc := enc) he hq
  rw [List.length_append, hl] at hd
  rw [he v, show i.toNat * w + w = (i.toNat + [x].length) * w by rw [List.length_singleton, Nat.add_mul, Nat.one_mul]]
  exact hd
 unfold overwrite
 rw [t1, t2, e2, rT, List.append_assoc]
 rfl
end
end Go.V
end
section
set_option linter.defProp false
namespace Go.V
open Go
section
variable {P : Program} {G : Glob} {n : Nat} {x : Code} {Q : VExit → St → Prop} {st : St}
end
theorem setC {α : Type} {enc : α → List VV} {w : Nat} (xs : List α) (n : Nat) (v : α) (he : ∀ x, (enc x).length = w) : List.take (xs.length * w) (aa enc (xs.set n v)) = aa enc (xs.set n v) :=
 List.take_of_length_le (by rw [gV he, List.length_set]; exact Nat.le_refl _)
end Go.V
end
section
set_option linter.defProp false
namespace Go.V
open Go
section
variable {P : Program} {G : Glob} {n : Nat} {Q : VExit → St → Prop} {tm : Nat → VV} {H : Nat → Option VObj} {nx : Nat} {df : List VDef} {g : Operand} {ps : Array Tmp} {az bo : Code} {f : FuncId} {first captured : List VV}
theorem zg {β : Nat} : aK (.yl β) = some [.yl β] := rfl
theorem zh {β : Nat} : (VV.yl β).leaf = true := rfl
theorem ai.at {x : Option (Option Nat)} {args : List VV} {r : PRes} (h : ai P G f args r) : ai P (G.at x) f args r := h
def rg := And.intro @zg (And.intro @zh @zi)
end
end Go.V
end
section
namespace Go.V
open Go
section
variable {P : Program} {G : Glob} {f : FuncId} {β γ w c nx : Nat} {tm : Nat → VV} {H : Nat → Option VObj} {df : List VDef} {d : Option Tmp} {K : List Nat → List Nat → St → Prop} {el : Option TypeId} {α : Type} {enc : α → List VV} {xs ys : List α} {x : VV}
end
section
variable {P : Program} {G : Glob} {β γ w e : Nat} {t ty : TypeId} {tm : Nat → VV} {H : Nat → Option VObj} {d : Option Tmp} {k : VV → VEff → Prop} {el : Option TypeId} {α : Type} {enc : α → List VV} {xs ys : List α} {pos : String} {af : Array Edge} {g : Option (Nat × Bool)} {x : Operand} {lo hi : Option Operand}
end
section
variable {P : Program} {G : Glob} {f : FuncId} {γ nx : Nat} {tm : Nat → VV} {H : Nat → Option VObj} {df : List VDef} {d : Option Tmp} {x : VV}
theorem ktree0 {K : St → Prop} {Qp : VV → St → Prop} (hp : ai P G f [] (.tree x)) (h : fin d γ tm H nx df K x .none) : callK P G f [] ⟨tm, H, nx, df⟩ d γ K Qp := ktree (args0 := []) rfl rfl hp h
end
end Go.V
end
section
namespace Go.V
open Go
variable {P : Program} {G : Glob} {β γ w e n off : Nat} {t ty : TypeId} {tm : Nat → VV} {H : Nat → Option VObj} {d : Option Tmp} {k : VV → VEff → Prop} {el : Option TypeId} {cs : List VV} {pos : String} {af : Array Edge} {g : Option (Nat × Bool)} {x : Operand}
end Go.V
namespace Go.V
open Go
end Go.V
end
section
namespace Go.V
open Go

end Go.V
end
section
set_option linter.defProp false
namespace Go.V
open Go
section
variable {P : Program} {H : Nat → Option VObj} {t : TypeId} {x y : Operand} {k : IntKind} {a b : Int}
end
end Go.V
end
section
namespace Go.V
open Go
section
variable {P : Program} {G : Glob} {ops : Array Oper} {base : Nat} {Q : VExit → St → Prop} {n : Nat}
end
end Go.V
namespace Go.V
open Go
section
variable {P : Program} {G : Glob} {ops : Array Oper} {base : Nat} {Q : VExit → St → Prop} {n : Nat}
end
section
variable {P : Program} {G : Glob} {ops : Array Oper} {base : Nat} {Q : VExit → St → Prop} {n : Nat} {i m b : Nat} {o : Oper} {l l2 : List Oper} {mk mE mL : List Bool} {tr : Tr} {K : Tr → St → Prop} {tm : Nat → VV} {H : Nat → Option VObj} {nx : Nat} {df : List VDef} {st : St} {rest : List (List Bool × Nat)}
end
end Go.V
namespace Go.V
set_option linter.defProp false
end Go.V
end
section
namespace Go.V
open Go
def gone (H H' : Nat → Option VObj) : Nat → Option VObj := fun β => if (H' β).isSome then none else H β
theorem al.gone (H H' : Nat → Option VObj) : al (gone H H') H := fun x o h => by
 unfold Go.V.gone at h
 split at h
 ·cases h
 ·exact h
def Frozen (H H' : Nat → Option VObj) (x y : VV) : Prop := y = x ∨ y = .any ∨ ∃ n, sealV (gone H H') n x = some y
def FrozenL (H H' : Nat → Option VObj) : List VV → List VV → Prop
 | [], [] => True
 | x :: xs, y :: ys => Frozen H H' x y ∧ FrozenL H H' xs ys
 | _, _ => False
def FrozenO (H H' : Nat → Option VObj) (o o' : VObj) : Prop := o' = o ∨ ∃ el cs cs', o = .cells el cs ∧ o' = .cells el cs' ∧ FrozenL H H' cs cs'
def Ctx.frz (c : Ctx) (H' : Nat → Option VObj) : Ctx := { c with H := H', A := fun b => c.A b ∨ ∃ β, c.live β ∧ (H' β).isSome = false ∧ c.φ β = b }
section
variable {c : Ctx} {W : World} {H' : Nat → Option VObj}
theorem rX (hl : ∀ β, (H' β).isSome = true → c.live β) : Abides c W (c.frz H') W := ⟨fun _ h => .inl h, fun _ _ => rfl, fun _ h => h, fun β _ h => hl β h, fun _ _ _ => rfl, fun _ _ _ => rfl⟩
theorem wS (hl : ∀ β, (H' β).isSome = true → c.live β) : Ext c W (c.frz H') W where
 A _ h := .inl h
 newA b h := h.imp id fun ⟨β, h1, _, e⟩ => .inr ⟨β, h1, e⟩
 used _ h := h
 live β _ h := hl β h
 φ _ _ _ := rfl
 room _ _ _ := rfl
 keep _ _ _ := rfl
 old x h _ := ⟨x, hl x h, rfl⟩
 size := Nat.le_refl _
 os := rfl
 tape := rfl
 output := rfl
theorem zj (s : Sim c W) (hl : ∀ β, (H' β).isSome = true → c.live β) {x y : VV} {v : Value} (h : Frozen c.H H' x y) (hr : Rep c W x v) : Rep (c.frz H') W y v := by
 rcases h with rfl | rfl | ⟨n, hn⟩
 ·exact Rep.abides (rX hl) _ hr
 ·unfold Rep; trivial
 ·have h1 := (mY s (al.gone c.H H') n).1 x v y hn hr
  refine Rep.abides (jv fun b hb => ?_) _ h1
  rcases hb with hb | ⟨β, hβ, e⟩
  ·exact .inl hb
  ·refine .inr ⟨β, ?_, ?_, e⟩
   ·unfold Go.V.gone at hβ
    split at hβ
    ·cases hβ
    ·exact hβ
   ·cases h0 : (H' β).isSome with
    | false => rfl
    | true => unfold Go.V.gone at hβ; rw [h0] at hβ; cases hβ
theorem wT (s : Sim c W) (hl : ∀ β, (H' β).isSome = true → c.live β) : ∀ {xs ys : List VV} {l : List Value}, FrozenL c.H H' xs ys → RepL c W xs l → RepL (c.frz H') W ys l
 | [], [], _, _, h => h
 | _ :: _, _ :: _, _, ⟨h1, h2⟩, ⟨u, us, e, r1, r2⟩ => ⟨u, us, e, zj s hl h1 r1, wT s hl h2 r2⟩
 | [], _ :: _, _, h, _ => h.elim
 | _ :: _, [], _, h, _ => h.elim
theorem FrozenL.length {H H' : Nat → Option VObj} : ∀ {xs ys : List VV}, FrozenL H H' xs ys → ys.length = xs.length
 | [], [], _ => rfl
 | _ :: _, _ :: _, h => by simp [FrozenL.length h.2]
 | [], _ :: _, h => h.elim
 | _ :: _, [], h => h.elim
theorem Sim.frz (s : Sim c W) (ho : ∀ β o', H' β = some o' → ∃ o, c.H β = some o ∧ FrozenO c.H H' o o') (hloop : ∀ x st pe tm ps asg bo df, H' x = some (.loop st pe tm ps asg bo df) → isDef H' df) : Sim (c.frz H') W := by
 have hl : ∀ β, (H' β).isSome = true → c.live β := by
  intro β h
  obtain ⟨o', h'⟩ := Option.isSome_iff_exists.1 h
  obtain ⟨o, h1, _⟩ := ho β o' h'
  simp [Ctx.live, h1]
 have ab : Abides c W (c.frz H') W := rX hl
 refine ⟨fun x h => s.used x (hl x h), fun x ox hx => ?_, fun x h => s.lt x (hl x h), fun x h => ?_, fun x y hx hy e => s.inj x y (hl x hx) (hl y hy) e, fun b hb => ?_⟩
 ·have dX : H' x = some ox := hx
  obtain ⟨o, h1, hf⟩ := ho x ox dX
  rcases hf with rfl | ⟨el, cs, cs', rfl, rfl, hcs⟩
  ·refine (s.obj x _ h1).abides ab (s.used x (hl x (by simp [dX]))) (by simp [Ctx.live, Ctx.frz, dX]) rfl ?_
   intro st pe tm ps asg bo df e'
   subst e'
   exact hloop x st pe tm ps asg bo df dX
  ·obtain ⟨arr, e, a1, a2, a3, a4, a5⟩ := s.obj x _ h1
   exact ⟨arr, e, a1, a2, by rw [hcs.length]; exact a3, by rw [hcs.length]; exact wT s hl hcs a4, a5⟩
 ·rintro (hA | ⟨β, h1, hn, e⟩)
  ·exact s.notA x (hl x h) hA
  ·have := s.inj β x h1 (hl x h) e
   subst this
   have h' : (H' β).isSome = true := h
   rw [h'] at hn; cases hn
 ·rcases hb with hA | ⟨β, h1, _, e⟩
  ·exact s.ltA b hA
  ·rw [← e]; exact s.lt β h1
end
theorem VWp.freeze {P : Program} {G : Glob} {n : Nat} {code : Code} {Q : VExit → St → Prop} {st : St} (H' : Nat → Option VObj) (tm' : Nat → VV) (ho : ∀ β o', H' β = some o' → ∃ o, st.H β = some o ∧ FrozenO st.H H' o o') (hloop : ∀ x s pe tm ps asg bo df, H' x = some (.loop s pe tm ps asg bo df) → isDef H' df)
  (htm : ∀ t, Frozen st.H H' (st.tm t) (tm' t)) (h : VWp P G n code Q ⟨tm', H', st.nx, st.df⟩) : VWp P G n code Q st := by
 intro ro c W a hro s hr hsz
 have ho' : ∀ β o', H' β = some o' → ∃ o, c.H β = some o ∧ FrozenO c.H H' o o' := by rw [hr.H]; exact ho
 have hl : ∀ β, (H' β).isSome = true → c.live β := by
  intro β h
  obtain ⟨o', h'⟩ := Option.isSome_iff_exists.1 h
  obtain ⟨o, h1, _⟩ := ho' β o' h'
  simp [Ctx.live, h1]
 have he : Ext c W (c.frz H') W := wS hl
 have ab : Abides c W (c.frz H') W := rX hl
 refine wpIn_mono (h ro (c.frz H') W a (hro.ext he) (s.frz ho' hloop) ⟨rfl, fun t => ?_, hr.nx, hr.df.abides ab, hr.G.abides ab⟩ hsz) fun _ _ _ hl => hl.of_ext he (fun β hb => .inl hb) (Nat.le_refl _)
 exact zj s hl (by rw [hr.H]; exact htm t) (hr.tm t)
end Go.V
end
section
namespace Go.V
open Go
theorem ar.weak {P : Program} {G : Glob} {f : FuncId} {args args' : List VV} {H : Nat → Option VObj} {nx : Nat} {R Rp : VV → (Nat → Option VObj) → Nat → Prop} (hw : ∀ c W vs, RepL c W args vs → RepL c W args' vs) (h : ar P G f args' H nx R Rp) : ar P G f args H nx R Rp :=
 ⟨h.1, fun c W vs s hH hnx hG ha => h.2 c W vs s hH hnx hG (hw c W vs ha)⟩
theorem ar.freeze {P : Program} {G : Glob} {f : FuncId} {args args' : List VV} {H : Nat → Option VObj} {nx : Nat} {R Rp : VV → (Nat → Option VObj) → Nat → Prop} (H' : Nat → Option VObj) (ho : ∀ β o', H' β = some o' → ∃ o, H β = some o ∧ FrozenO H H' o o')
  (hloop : ∀ x s pe tm ps asg bo df, H' x = some (.loop s pe tm ps asg bo df) → isDef H' df) (ha : FrozenL H H' args args') (h : ar P G f args' H' nx R Rp) : ar P G f args H nx R Rp := by
 refine ⟨h.1, fun c W vs s hH hnx hG hargs => ?_⟩
 have ho' : ∀ β o', H' β = some o' → ∃ o, c.H β = some o ∧ FrozenO c.H H' o o' := by rw [hH]; exact ho
 have hl : ∀ β, (H' β).isSome = true → c.live β := by
  intro β h
  obtain ⟨o', h'⟩ := Option.isSome_iff_exists.1 h
  obtain ⟨o, h1, _⟩ := ho' β o' h'
  simp [Ctx.live, h1]
 have he : Ext c W (c.frz H') W := wS hl
 have ab : Abides c W (c.frz H') W := rX hl
 refine (h.2 (c.frz H') W vs (s.frz ho' hloop) rfl hnx (hG.abides ab) (wT s hl (by rw [hH]; exact ha) hargs)).mono ?_
 rintro e W' ⟨c', H1, nx', g1, g2, g3, g4, g5, g6, g7⟩
 exact ⟨c', H1, nx', he.trans g1, g2, g3, g4, g5, g6, g7⟩
def Yields (P : Program) (G : Glob) (β : Nat) (x : VV) (H : Nat → Option VObj) (nx : Nat) (Post : Bool → (Nat → Option VObj) → Nat → Prop) : Prop :=
 ∀ (r : Option (Option Nat)) (o : Oper) (st : St) (K : St → Prop), st.H = H → st.nx = nx → (∀ b H' nx', Post b H' nx' → K ⟨(match o.dst with | some d => upd st.tm d (.lit (.bool b)) | none => st.tm), H', nx', st.df⟩) → yieldK P (G.at r) o β [x] st K
theorem Yields.mono {P : Program} {G : Glob} {β : Nat} {x : VV} {H : Nat → Option VObj} {nx : Nat} {Post Post' : Bool → (Nat → Option VObj) → Nat → Prop} (h : Yields P G β x H nx Post) (hp : ∀ b H' nx', Post b H' nx' → Post' b H' nx') : Yields P G β x H nx Post' :=
 fun r o st K h1 h2 hk => h r o st K h1 h2 fun b H' nx' hp' => hk b H' nx' (hp b H' nx' hp')
def Own (hp : List (Nat × VObj)) (Fr : Nat → Prop) (H : Nat → Option VObj) (nx : Nat) : Prop := ∀ p ∈ hp, p.1 < nx ∧ ¬ Fr p.1 ∧ H p.1 = some p.2
theorem Own.nil {Fr : Nat → Prop} {H : Nat → Option VObj} {nx : Nat} : Own [] Fr H nx := fun _ h => by cases h
theorem Own.cons {p : Nat} {o : VObj} {hp : List (Nat × VObj)} {Fr : Nat → Prop} {H : Nat → Option VObj} {nx : Nat} (h1 : p < nx) (h2 : ¬ Fr p) (h3 : H p = some o) (h : Own hp Fr H nx) : Own ((p, o) :: hp) Fr H nx := by
 intro q hq
 rcases List.mem_cons.1 hq with rfl | hq
 ·exact ⟨h1, h2, h3⟩
 ·exact h q hq
theorem Own.head {p : Nat} {o : VObj} {hp : List (Nat × VObj)} {Fr : Nat → Prop} {H : Nat → Option VObj} {nx : Nat} (h : Own ((p, o) :: hp) Fr H nx) : p < nx ∧ ¬ Fr p ∧ H p = some o := h (p, o) (List.mem_cons_self ..)
theorem Own.tail {p : Nat} {o : VObj} {hp : List (Nat × VObj)} {Fr : Nat → Prop} {H : Nat → Option VObj} {nx : Nat} (h : Own ((p, o) :: hp) Fr H nx) : Own hp Fr H nx := fun q hq => h q (List.mem_cons_of_mem _ hq)
section
variable {P : Program} {G : Glob} {n : Nat} {Q : VExit → St → Prop} {tm : Nat → VV} {H : Nat → Option VObj} {nx : Nat} {df : List VDef} {g : Operand} {ps : Array Tmp} {az bo : Code}
end
end Go.V
end
section
namespace Go.V
open Go
theorem ar.freeze1 {P : Program} {G : Glob} {f : FuncId} {args args' : List VV} {H : Nat → Option VObj} {nx γ : Nat} {el : Option TypeId} {cs : List VV} {R Rp : VV → (Nat → Option VObj) → Nat → Prop} (hγ : H γ = some (.cells el cs))
  (ha : FrozenL H (without H γ) args args') (h : ar P G f args' (without H γ) nx R Rp) : ar P G f args H nx R Rp := by
 refine ⟨h.1, fun c W vs s hH hnx hG hargs => ?_⟩
 subst hH
 have ho' : ∀ β o', without c.H γ β = some o' → ∃ o, c.H β = some o ∧ FrozenO c.H (without c.H γ) o o' := fun β o' hb => ⟨o', al.without _ _ β o' hb, .inl rfl⟩
 have hl : ∀ β, (without c.H γ β).isSome = true → c.live β := by
  intro β h
  obtain ⟨o', h'⟩ := Option.isSome_iff_exists.1 h
  obtain ⟨o, h1, _⟩ := ho' β o' h'
  simp [Ctx.live, h1]
 have he : Ext c W (c.frz (without c.H γ)) W := wS hl
 have ab : Abides c W (c.frz (without c.H γ)) W := rX hl
 have hloop : ∀ x st pe tm ps asg bo df, without c.H γ x = some (.loop st pe tm ps asg bo df) → isDef (without c.H γ) df := by
  intro x st pe tm ps asg bo df hx
  obtain ⟨l, fn, _, _, _, hd⟩ := s.obj x _ (al.without _ _ x _ hx)
  exact hd.without hγ
 refine (h.2 (c.frz (without c.H γ)) W vs (s.frz ho' hloop) rfl hnx (hG.abides ab) (wT s hl ha hargs)).mono ?_
 rintro e W' ⟨c', H1, nx', g1, g2, g3, g4, g5, g6, g7⟩
 exact ⟨c', H1, nx', he.trans g1, g2, g3, g4, g5, g6, g7⟩
theorem Frozen.same {H H' : Nat → Option VObj} {x : VV} : Frozen H H' x x := .inl rfl
theorem FrozenL.same {H H' : Nat → Option VObj} : ∀ {xs : List VV}, FrozenL H H' xs xs
 | [] => trivial
 | _ :: _ => ⟨.same, .same⟩
theorem Frozen.own {H : Nat → Option VObj} {γ n w cp : Nat} {el : Option TypeId} {cs : List VV} (hγ : H γ = some (.cells el cs)) (ht : treeL cs = true) (hl : cs.length = n * w) : Frozen H (without H γ) (.ref γ 0 n w cp) (.sl cs n false) := by
 refine .inr (.inr ⟨cs.length + 2, ?_⟩)
 have hg : gone H (without H γ) γ = some (.cells el cs) := by simp [gone, without, hγ]
 unfold sealV
 have : (VV.ref γ 0 n w cp).tree = false := rfl
 rw [this]
 simp only [Bool.false_eq_true, if_false, hg, Nat.zero_le, if_true, List.drop_zero]
 rw [List.take_of_length_le (by omega), rU cs _ ht (by omega)]
 rfl
end Go.V
namespace Go.V
end Go.V
namespace Go.V
end Go.V
namespace Go.V
end Go.V
namespace Go.V
end Go.V
namespace Go.V
end Go.V
namespace Go.V
theorem Frozen.ptr {H H' : Nat → Option VObj} {γ : Nat} {el : Option TypeId} {cs : List VV} (hγ : H γ = some (.cells el cs)) (hn : (H' γ).isSome = false) (ht : treeL cs = true) : Frozen H H' (.ptr γ 0) (.tp cs) := by
 refine .inr (.inr ⟨cs.length + 2, ?_⟩)
 have hg : gone H H' γ = some (.cells el cs) := by simp [gone, hn, hγ]
 unfold sealV
 have : (VV.ptr γ 0).tree = false := rfl
 rw [this]
 simp only [Bool.false_eq_true, if_false, hg, Nat.zero_le, if_true, List.drop_zero]
 rw [rU cs _ ht (by omega)]
 rfl
end Go.V
end
section
namespace Go.V
open Go
section
variable {P : Program} {G : Glob} {H : Nat → Option VObj} {γ : Nat} {α : Type} {enc : α → List VV} {t t2 e e2 w b : Nat} {xs ys : List α} {el : Option TypeId} {β : Nat} {f : Bool} {k : VV → VEff → Prop}
end
end Go.V
namespace Go.V
open Go
end Go.V
namespace Go.V
open Go
end Go.V
namespace Go.V
open Go
set_option linter.defProp false
end Go.V
end
section
set_option linter.defProp false
namespace Go.V
open Go
def kIdx {K : Type} (q : K → K → Bool) (k : K) : List K → Nat → Option Nat
 | [], _ => none
 | e :: es, i => cond (q k e) (some i) (kIdx q k es (i + 1))
theorem wU {K : Type} {q : K → K → Bool} {k : K} : ∀ (es : List K) (i j : Nat), kIdx q k es i = some j → i ≤ j ∧ ∃ e, es[j - i]? = some e ∧ q k e = true
 | [], _, _, h => by cases h
 | e :: es, i, j, h => by
  unfold kIdx at h
  cases hq : q k e with
  | true =>
   rw [hq] at h
   simp only [cond_true, Option.some.injEq] at h
   subst h
   exact ⟨Nat.le_refl _, e, by simp, hq⟩
  | false =>
   rw [hq] at h
   simp only [cond_false] at h
   obtain ⟨h1, x, h2, h3⟩ := wU es (i + 1) j h
   refine ⟨by omega, x, ?_, h3⟩
   rw [show j - i = (j - (i + 1)) + 1 by omega]
   simpa using h2
def mapGet {K V : Type} (q : K → K → Bool) (z : V) (l : List (K × V)) (k : K) : V := match kIdx q k (l.map (·.1)) 0 with
 | some i => match l[i]? with | some p => p.2 | none => z
 | none => z
def mapSet {K V : Type} (q : K → K → Bool) (l : List (K × V)) (k : K) (v : V) : List (K × V) := match kIdx q k (l.map (·.1)) 0 with
 | some i => l.set i (k, v)
 | none => l ++ [(k, v)]
def encM {K V : Type} (kv : K → Value) (ev : V → VV) (l : List (K × V)) : List (Value × VV) := l.map fun p => (kv p.1, ev p.2)
section
variable {P : Program} {K V : Type} {q : K → K → Bool} {kv : K → Value} {ev : V → VV} {t kt et : TypeId} {H : Nat → Option VObj} {β : Nat}
theorem JJ (he : ∀ a b, aA P (Op.equal kt (kv a) (kv b)) = some (q a b)) (k : K) : ∀ (ks : List K) (i : Nat), aA P (Instr.findAsking kt (kv k) ((ks.map kv).map dummy) i) = some ((kIdx q k ks i).map fun j => (j, Value.bool false))
 | [], i => rfl
 | e :: es, i => by
  simp only [List.map_cons, Instr.findAsking, kIdx]
  rw [cB]
  have h0 : aA P (Op.equal kt (kv k) (dummy (kv e)).key) = some (q k e) := he k e
  rw [h0, Option.bind_some]
  cases q k e with
  | true => rfl
  | false => exact JJ he k es (i + 1)
theorem tf {fs : Array Field} (hu : P.underlying kt = some (.struct fs)) (he : ∀ a b, aA P (Op.equal kt (kv a) (kv b)) = some (q a b)) (k : K) (ks : List K) : kfind P kt (kv k) (ks.map kv) = some (kIdx q k ks 0) := by
 unfold kfind Instr.findKey
 rw [cB, rY hu, Option.bind_some]
 have ha := JJ he k ks 0
 cases ks with
 | nil => rfl
 | cons e es =>
  have hn : Instr.findNow (.struct fs) (kv k) (((e :: es).map kv).map dummy) 0 = none := by
   simp only [List.map_cons, Instr.findNow]
   have : Instr.sameNow (.struct fs) (kv k) (dummy (kv e)).key = none := by cases kv k <;> rfl
   rw [this]
  rw [hn]
  simp only []
  rw [ha]
  cases kIdx q k (e :: es) 0 <;> rfl
theorem JK {l : List (K × V)} : (encM kv ev l).map (·.1) = (l.map (·.1)).map kv := by simp [encM, Function.comp_def]
theorem zk {fs : Array Field} (hm : P.underlying t = some (.map kt et)) (hu : P.underlying kt = some (.struct fs)) (he : ∀ a b, aA P (Op.equal kt (kv a) (kv b)) = some (q a b)) (hc : ∀ b k, aA P (Instr.checkKey b 10000 kt (kv k)) = some ())
  (hq : ∀ a b, q a b = true → a = b) (hs : ∀ a, Instr.sameBits 10000 (kv a) (kv a) = true) {l : List (K × V)} {kx : VV} {k : K} {v : V} (hk : kx.val? = some (kv k)) (hb : H β = some (.map (encM kv ev l))) :
  vmapUpdate P H t (.mp β) kx (ev v) = some (.upd β (.map (encM kv ev (mapSet q l k v)))) := by
 unfold vmapUpdate
 rw [hm, hk]
 simp only [hb]
 rw [hc, JK, tf hu he]
 unfold mapSet
 cases hi : kIdx q k (l.map (·.1)) 0 with
 | none => simp only [encM, List.map_append, List.map_cons, List.map_nil]
 | some i =>
  obtain ⟨_, e, h1, h2⟩ := wU _ _ _ hi
  rw [Nat.sub_zero, List.getElem?_map] at h1
  cases hl : l[i]? with
  | none => rw [hl] at h1; cases h1
  | some p =>
   have h3 : (encM kv ev l)[i]? = some (kv p.1, ev p.2) := by unfold encM; rw [List.getElem?_map, hl]; rfl
   rw [hl] at h1
   simp only [Option.map_some, Option.some.injEq] at h1
   have h4 := hq _ _ h2
   subst h4
   subst h1
   simp only [h3, hs, if_true]
   simp only [encM, List.map_set]
end
section
variable {P : Program} {G : Glob} {γ : Nat} {tm : Nat → VV} {H : Nat → Option VObj} {nx : Nat} {df : List VDef} {K : St → Prop} {Kd : List Nat → List Nat → St → Prop} {Qp : VV → St → Prop}
 {d : Option Tmp} {ty : TypeId} {pos : String} {af : Array Edge} {g : Option (Nat × Bool)}
theorem MY {t : TypeId} : aH P G γ ⟨d, .makeMap t none, ty, pos, af, g⟩ ⟨tm, H, nx, df⟩ K Qp = fin d γ tm H nx df K (.mp γ) (.new (.map [])) := by
 rw [fJ (by simp) (by simp) (by simp)]; rfl
theorem MZ {t : TypeId} {x k : Operand} {ok : Bool} : aH P G γ ⟨d, .lookup t x k ok, ty, pos, af, g⟩ ⟨tm, H, nx, df⟩ K Qp = oK (vlookup P H t (ev G tm x) (ev G tm k) ok) (fun y => fin d γ tm H nx df K y .none) := by
 rw [fJ (by simp) (by simp) (by simp)]; simp only [vop]; exact mi
theorem Na {t : TypeId} : aB P G γ ⟨d, .makeMap t none, ty, pos, af, g⟩ ⟨tm, H, nx, df⟩ Kd = fin d γ tm H nx df (Kd (rdV ⟨d, .makeMap t none, ty, pos, af, g⟩ (ev G tm)) [γ]) (.mp γ) (.new (.map [])) := by
 rw [fQ (by simp)]; rfl
theorem Nb {t : TypeId} {x k : Operand} {ok : Bool} : aB P G γ ⟨d, .lookup t x k ok, ty, pos, af, g⟩ ⟨tm, H, nx, df⟩ Kd = oK (vlookup P H t (ev G tm x) (ev G tm k) ok) (fun y => fin d γ tm H nx df (Kd (rdV ⟨d, .lookup t x k ok, ty, pos, af, g⟩ (ev G tm)) []) y .none) := by
 rw [fQ (by simp)]; simp only [vop]
 cases vlookup P H t (ev G tm x) (ev G tm k) ok <;> rfl
def umK (o : Option VEff) (k : VEff → Prop) : Prop := match o with | some e => k e | none => False
theorem zl {e : VEff} {k : VEff → Prop} : umK (some e) k = k e := rfl
theorem Nc {t : TypeId} {m k x : Operand} : aH P G γ ⟨d, .mapUpdate t m k x, ty, pos, af, g⟩ ⟨tm, H, nx, df⟩ K Qp = umK (vmapUpdate P H t (ev G tm m) (ev G tm k) (ev G tm x)) (fun e => fin d γ tm H nx df K .any e) := by
 rw [fJ (by simp) (by simp) (by simp)]; simp only [vop]
 cases vmapUpdate P H t (ev G tm m) (ev G tm k) (ev G tm x) <;> rfl
theorem Nd {t : TypeId} {m k x : Operand} : aB P G γ ⟨d, .mapUpdate t m k x, ty, pos, af, g⟩ ⟨tm, H, nx, df⟩ Kd = umK (vmapUpdate P H t (ev G tm m) (ev G tm k) (ev G tm x)) (fun e => fin d γ tm H nx df (Kd (rdV ⟨d, .mapUpdate t m k x, ty, pos, af, g⟩ (ev G tm)) (e.wr γ)) .any e) := by
 rw [fQ (by simp)]; simp only [vop]
 cases vmapUpdate P H t (ev G tm m) (ev G tm k) (ev G tm x) <;> rfl
theorem zm {β : Nat} : aK (.mp β) = some [.mp β] := rfl
theorem zn {β : Nat} : (VV.mp β).leaf = true := rfl
theorem Nf {t : TypeId} : rdV ⟨d, .makeMap t none, ty, pos, af, g⟩ (ev G tm) = rdL (ev G tm) [] := fR []
theorem zo {t : TypeId} {x k : Operand} {ok : Bool} : rdV ⟨d, .lookup t x k ok, ty, pos, af, g⟩ (ev G tm) = rdL (ev G tm) [x, k] := fR [x, k]
theorem Ng {t : TypeId} {m k x : Operand} : rdV ⟨d, .mapUpdate t m k x, ty, pos, af, g⟩ (ev G tm) = rdL (ev G tm) [m, k, x] := fR [m, k, x]
theorem zp {β : Nat} {l : List Nat} : tnL (.mp β) l = β :: l := rfl
theorem zq : ev G tm (.const (.map none)) = .lit (.map none) := rfl
theorem bP {K V : Type} {kv : K → Value} {ew : V → VV} : encM kv ew [] = [] := rfl
def mq := And.intro (And.intro (And.intro @MY (And.intro @MZ @Nc)) (And.intro (And.intro @Na (And.intro @Nb @Nd)) (And.intro (And.intro @zl @zm) @zn))) (And.intro (And.intro @Nf (And.intro @zo @Ng)) (And.intro @zp (And.intro @zq @bP)))
end
end Go.V
end
section
set_option linter.defProp false
namespace Go.V
open Go
section
variable {P : Program} {K V : Type} {q : K → K → Bool} {kv : K → Value} {ew : V → VV} {t kt et : TypeId} {H : Nat → Option VObj}
end
theorem zr {ks : List Value} {vs : List VV} : (VV.mt ks vs).leaf = true := rfl
theorem zt {ks : List Value} {vs : List VV} : aK (.mt ks vs) = some [.mt ks vs] := rfl
theorem zu {ks : List Value} {vs : List VV} {l : List Nat} : tnL (.mt ks vs) l = l := rfl
def mqm := And.intro @zr (And.intro @zt @zu)
end Go.V
end
section
set_option linter.defProp false
namespace Go.V
open Go
theorem zw {ks : List Value} {vs : List VV} : normV (.mt ks vs) = .mt ks vs := by simp [normV]
theorem zx {H : Nat → Option VObj} {d : Nat} {ks : List Value} {vs : List VV} : showV H d (.mt ks vs) = .mt ks vs := by cases d <;> rfl
end Go.V
end
section
set_option linter.defProp false
namespace Go.V
open Go
section
variable {P : Program} {G : Glob} {n : Nat} {γ : Nat} {tm : Nat → VV} {H : Nat → Option VObj} {nx : Nat} {df : List VDef} {K : St → Prop} {Kd : List Nat → List Nat → St → Prop} {Qp : VV → St → Prop} {Q : VExit → St → Prop}
 {d : Option Tmp} {ty : TypeId} {pos : String} {af : Array Edge} {g : Option (Nat × Bool)}
theorem Nh {t : Tmp} {m : String} {asg : Array Operand} {ats : Array TypeId} : aH P G γ ⟨d, .call ⟨.invoke (.tmp t) m, asg, ats⟩, ty, pos, af, g⟩ ⟨tm, H, nx, df⟩ K Qp = cvalK P G ⟨d, .call ⟨.invoke (.tmp t) m, asg, ats⟩, ty, pos, af, g⟩ (recvV P m (tm t)) (asg.toList.map (ev G tm)) ⟨tm, H, nx, df⟩ d γ K Qp := by
 have e : ev G tm (.tmp t) = tm t := rfl
 simp only [aH, ev_eq, cvalK, e]
 cases h : recvV P m (tm t) with
 | yl β => exact absurd h (tg _ _ _)
 | fn f a b => cases f <;> rfl
 | _ => rfl
theorem Ni {t : Tmp} {m : String} {asg : Array Operand} {ats : Array TypeId} : aB P G γ ⟨d, .call ⟨.invoke (.tmp t) m, asg, ats⟩, ty, pos, af, g⟩ ⟨tm, H, nx, df⟩ Kd = dvalK P G (recvV P m (tm t)) (asg.toList.map (ev G tm)) tm H nx df d γ Kd := by
 have e : ev G tm (.tmp t) = tm t := rfl
 simp only [aB, ev_eq, e, dvalK]
 cases h : recvV P m (tm t) with
 | fn f first captured =>
  cases f with
  | func f =>
   simp only [dcallK]
   refine propext (or_congr (and_congr_right fun _ => exists_congr fun r => and_congr_right fun _ => ?_) (or_congr (exists_congr fun a => exists_congr fun x => and_congr_right fun _ => and_congr_right fun _ => and_congr_right fun _ => ?_) (or_congr (exists_congr fun β => exists_congr fun es' => exists_congr fun x => and_congr_right fun _ => ?_) (exists_congr fun cs => and_congr_right fun _ => and_congr_right fun _ => ?_))))
   ·cases r with
    | tree x =>
     simp only
     rw [← ic _ _ _ γ]
     exact iff_of_eq (eO (K := Kd [] []))
    | own cs len es => exact iff_of_eq (eO (K := Kd [] [γ]))
    | panic x => exact Iff.rfl
   ·rw [← ic _ _ _ γ]
    exact iff_of_eq (eO (K := Kd (nmL H fuelS (first ++ asg.toList.map (ev G tm) ++ captured)) []))
   ·exact iff_of_eq (eO (K := Kd [β] [β]))
   ·exact iff_of_eq (eO (K := Kd [] [γ]))
  | _ => rfl
 | _ => rfl
def nilV (P : Program) (H : Nat → Option VObj) (x : VV) : Option VV := match x with
  | .tp cs => some (.tp cs)
  | .ptr β off => if (H β).isSome then some (.ptr β off) else none
  | .fn (.func f) a b => some (.fn (.func f) a b)
  | .fn (.method m) a b => if nilOkM P m a b then some (.fn (.method m) a b) else none
  | .yl β => if (H β).isSome then some (.yl β) else none
  | _ => none
theorem zy {x : Operand} : aH P G γ ⟨d, .nilCheck x, ty, pos, af, g⟩ ⟨tm, H, nx, df⟩ K Qp = oK (nilV P H (ev G tm x)) (fun y => fin d γ tm H nx df K y .none) := by
 rw [fJ (by simp) (by simp) (by simp)]; simp only [vop]
 cases ev G tm x with
 | fn f a b =>
  cases f <;> try rfl
  rename_i m
  simp only [nilV]
  split <;> rfl
 | ptr β off => simp only [nilV]; split <;> rfl
 | yl β => simp only [nilV]; split <;> rfl
 | _ => rfl
theorem z1 {x : Operand} : aB P G γ ⟨d, .nilCheck x, ty, pos, af, g⟩ ⟨tm, H, nx, df⟩ Kd = oK (nilV P H (ev G tm x)) (fun y => fin d γ tm H nx df (Kd (rdV ⟨d, .nilCheck x, ty, pos, af, g⟩ (ev G tm)) []) y .none) := by
 rw [fQ (by simp)]; simp only [vop]
 cases ev G tm x with
 | fn f a b =>
  cases f <;> try rfl
  rename_i m
  simp only [nilV]
  split <;> rfl
 | ptr β off => simp only [nilV]; split <;> rfl
 | yl β => simp only [nilV]; split <;> rfl
 | _ => rfl
theorem z2 {x : Operand} : rdV ⟨d, .nilCheck x, ty, pos, af, g⟩ (ev G tm) = rdL (ev G tm) [x] := fR [x]
theorem z3 {f : FuncId} {a b : List VV} : nilV P H (.fn (.func f) a b) = some (.fn (.func f) a b) := rfl
theorem z4 {m : String} {a b : List VV} : nilV P H (.fn (.method m) a b) = if nilOkM P m a b = true then some (.fn (.method m) a b) else none := rfl
theorem z5 : ev G tm (.const .nilIface) = .lit .nilIface := rfl
def z6 := And.intro (And.intro (And.intro @Nh @Ni) (And.intro @zy @z1)) (And.intro (And.intro @z2 @z3) (And.intro @z4 @z5))
def mapHas {K V : Type} (q : K → K → Bool) (l : List (K × V)) (k : K) : Bool := (kIdx q k (l.map (·.1)) 0).isSome
end
section
variable {P : Program} {K V : Type} {q : K → K → Bool} {kv : K → Value} {ev : V → VV} {t kt et : TypeId} {H : Nat → Option VObj} {β : Nat}
theorem Nj {fs : Array Field} {z : V} (hm : P.underlying t = some (.map kt et)) (hu : P.underlying kt = some (.struct fs)) (he : ∀ a b, aA P (Op.equal kt (kv a) (kv b)) = some (q a b)) (hc : ∀ b k, aA P (Instr.checkKey b 10000 kt (kv k)) = some ())
  (hz : ((P.info? et).bind (·.zero)).map ofVal2 = some (ev z)) {l : List (K × V)} {kx : VV} {k : K} (hk : kx.val? = some (kv k)) (hb : H β = some (.map (encM kv ev l))) :
  vlookup P H t (.mp β) kx true = some (.tup [ev (mapGet q z l k), .lit (.bool (mapHas q l k))]) := by
 unfold vlookup
 rw [hm, hk]
 simp only [mapOf, hb]
 rw [hc, JK, tf hu he]
 cases hzz : (P.info? et).bind (·.zero) with
 | none => rw [hzz] at hz; cases hz
 | some z0 =>
  rw [hzz] at hz
  simp only [Option.map_some, Option.some.injEq] at hz
  unfold mapGet mapHas
  cases hi : kIdx q k (l.map (·.1)) 0 with
  | none => simp only [if_true, hz, Option.isSome_none]
  | some i =>
   obtain ⟨_, e, h1, _⟩ := wU _ _ _ hi
   rw [Nat.sub_zero, List.getElem?_map] at h1
   cases hl : l[i]? with
   | none => rw [hl] at h1; cases h1
   | some p =>
    have : (encM kv ev l)[i]? = some (kv p.1, ev p.2) := by unfold encM; rw [List.getElem?_map, hl]; rfl
    simp only [this, hl, if_true, Option.isSome_some]
end
section
variable {P : Program} {G : Glob} {H : Nat → Option VObj}
theorem kupd {f : FuncId} {args : List VV} {y : VV} {d : Option Tmp} {γ β : Nat} {tm : Nat → VV} {nx : Nat} {df : List VDef} {K : St → Prop} {Qp : VV → St → Prop} {es' : List (Value × VV)} (hu : UpdC P G f args H nx β es' y)
  (h : fin d γ tm H nx df K y (.upd β (.map es'))) : callK P G f args ⟨tm, H, nx, df⟩ d γ K Qp := by
 refine .inr (.inr ?_)
 unfold openK
 refine ar.mono hu.open ?_ (fun _ _ _ h => h.elim)
 rintro v H2 Nk ⟨rfl, rfl, rfl⟩
 rw [← eO (K := K)] at h
 cases d <;> exact h
def VUpd (P : Program) (G : Glob) (f : FuncId) (A : Nat → List VV) (es es' : List (Value × VV)) (y : Nat → VV) : Prop :=
 ∀ β nx, β < nx → ar P G f (A β) (updH (fun _ => none) β (.map es)) nx (fun v H1 _ => H1 β = some (.map es') ∧ SealQ H1 β nx v (y β)) (fun _ _ _ => False)
theorem z7 {β : Nat} {o : VObj} (h : H β = some o) : restr [β] H = updH (fun _ => none) β o := by
 funext γ
 unfold restr updH
 by_cases e : γ = β
 ·subst e; simp [h]
 ·simp [e]
theorem VUpd.at {f : FuncId} {A : Nat → List VV} {args : List VV} {es es' : List (Value × VV)} {y : Nat → VV} {β nx : Nat} (h : VUpd P G f A es es' y) (hlt : β < nx) (hb : H β = some (.map es)) (ha : normL args = A β) (hfl : okVL (fun _ => false) (es'.map (·.2)) = true) : UpdC P G f args H nx β es' (y β) := by
 refine ⟨es, hb, hfl, ?_⟩
 rw [z7 hb]
 refine ar.weak (args' := A β) (fun c W vs hr => ?_) (h β nx hlt)
 rw [← ha]
 exact th _ hr
end
def litC (β b : Nat) : VV → VV
 | .mp γ => if γ = β then .lit (.map (some b)) else .mp γ
 | x => x
def litV (β b : Nat) : VV → VV
 | .agg cs => .agg (cs.map (litC β b))
 | x => x
section
variable {c : Ctx} {W : World} {β : Nat}
theorem z8 (hl : c.live β) {x : VV} {v : Value} (h : Rep c W x v) : Rep c W (litC β (c.φ β) x) v := by
 cases x with
 | mp γ =>
  simp only [litC]
  split
  ·rename_i e
   subst e
   exact h.2 hl
  ·exact h
 | _ => exact h
theorem JL (hl : c.live β) : ∀ {xs : List VV} {l : List Value}, RepL c W xs l → RepL c W (xs.map (litC β (c.φ β))) l
 | [], _, h => h
 | _ :: _, _, ⟨u, us, e, h1, h2⟩ => ⟨u, us, e, z8 hl h1, JL hl h2⟩
theorem z9 (hl : c.live β) {x : VV} {v : Value} (h : Rep c W x v) : Rep c W (litV β (c.φ β) x) v := by
 cases x with
 | agg cs => obtain ⟨l, e, hl'⟩ := h; exact ⟨l, e, JL hl hl'⟩
 | _ => exact h
theorem JM (hl : c.live β) : ∀ {xs : List VV} {l : List Value}, RepL c W xs l → RepL c W (xs.map (litV β (c.φ β))) l
 | [], _, h => h
 | _ :: _, _, ⟨u, us, e, h1, h2⟩ => ⟨u, us, e, z9 hl h1, JM hl h2⟩
theorem Nl (hu : c.used β) {x : VV} {v : Value} (h : Rep c W (litC β (c.φ β) x) v) : Rep c W x v := by
 cases x with
 | mp γ =>
  simp only [litC] at h
  split at h
  ·rename_i e
   subst e
   have h' : v = .map (some (c.φ γ)) := h
   subst h'
   exact ⟨⟨hu, rfl⟩, fun _ => rfl⟩
  ·exact h
 | _ => exact h
theorem JN (hu : c.used β) : ∀ {xs : List VV} {l : List Value}, RepL c W (xs.map (litC β (c.φ β))) l → RepL c W xs l
 | [], _, h => h
 | _ :: _, _, ⟨u, us, e, h1, h2⟩ => ⟨u, us, e, Nl hu h1, JN hu h2⟩
theorem zA (hu : c.used β) {x : VV} {v : Value} (h : Rep c W (litV β (c.φ β) x) v) : Rep c W x v := by
 cases x with
 | agg cs => obtain ⟨l, e, hl'⟩ := h; exact ⟨l, e, JN hu hl'⟩
 | _ => exact h
end
section
variable {P : Program} {G : Glob} {H : Nat → Option VObj}
theorem ar.lit {f : FuncId} {args : List VV} {y : VV} {nx β : Nat} {es : List (Value × VV)} {args0 : Nat → List VV} (hb : H β = some (.map es)) (hn : ∀ b, normL (args.map (litV β b)) = args0 b)
  (ht : ∀ b, treeL (args.map (litV β b)) = true) (hp : ∀ b, ai P G f (args0 b) (.tree (litV β b y))) : ar P G f args H nx (fun x H' nx' => x = y ∧ H' = H ∧ nx' = nx) (fun _ _ _ => False) := by
 refine ⟨(hp 0).1, fun c W vs s hH hnx hG ha => ?_⟩
 have hl : c.live β := by simp [Ctx.live, hH, hb]
 have h1 := JM hl ha
 have h2 := hp (c.φ β)
 rw [← hn] at h2
 refine ((h2.norm).2 c.A W vs s.ltA (fun g cs hg => hG.tree g cs hg) (jZ (ht _) h1)).mono ?_
 rintro e W' ⟨A', g1, g2, g3, hbl, v, rfl, hx⟩
 have he := Ext.more g1 g2 hbl
 refine ⟨c.more A', H, nx, he, Sim.more s g1 g2 g3 hbl, hH, fun β hb => .inl hb, hnx, Nat.le_refl _, .inl ⟨y, v, rfl, ?_, rfl, rfl, rfl⟩⟩
 have h3 : Rep (c.more A') W' (litV β (c.φ β) y) v := Rep.abides (jv (fun _ h => h)) _ hx
 exact zA (c := c.more A') (s.used β hl) h3
end
section
variable {P : Program} {G : Glob} {H : Nat → Option VObj}
theorem zB {H : Nat → Option VObj} {M n : Nat} {x : VV} (h : x.tree = true) : sealN H M (n + 1) x = some x := by unfold sealN; rw [if_pos h]
theorem jw {H : Nat → Option VObj} {M : Nat} {x y : VV} (h : x.tree = true) (e : x = y) : SealP H M x y := ⟨1, x, zB h, fun _ _ _ hr => e ▸ hr⟩
theorem zC {H : Nat → Option VObj} {M : Nat} : SealP H M (.lit (.slice none 0 0)) (.sl [] 0 false) := ⟨1, _, zB rfl, fun c W u hr => tk (.lit (.slice none 0 0)) hr⟩
theorem JO {H : Nat → Option VObj} {M : Nat} : ∀ {xs : List VV} {n : Nat}, treeL xs = true → xs.length < n → sealNL H M (n + 1) xs = some xs
 | [], n, _, _ => rfl
 | x :: xs, 0, _, hn => by simp at hn
 | x :: xs, n + 1, h, hn => by
  simp only [treeL, Bool.and_eq_true] at h
  unfold sealNL
  rw [zB h.1, JO h.2 (by simpa using hn)]
theorem zD {H : Nat → Option VObj} {M δ w cp : Nat} {el : Option TypeId} {α : Type} {enc : α → List VV} {xs : List α} (hδ : H δ = some (.cells el (aa enc xs))) (hM : M ≤ δ) (hok : EncOk enc) (hw : ∀ x, (enc x).length = w) :
  SealP H M (.ref δ 0 xs.length w cp) (.sl (aa enc xs) xs.length false) := by
 refine ⟨(aa enc xs).length + 3, .sl (aa enc xs) xs.length false, ?_, fun _ _ _ hr => hr⟩
 unfold sealN
 have h1 : (VV.ref δ 0 xs.length w cp).tree = false := rfl
 have hlen : (aa enc xs).length = xs.length * w := gV hw xs
 simp only [h1, Bool.false_eq_true, if_false, Nat.not_lt.2 hM, hδ, Nat.zero_le, if_true, List.drop_zero]
 rw [List.take_of_length_le (by omega), JO (hok.treeL xs) (by omega)]
 rfl
theorem sq_of {H : Nat → Option VObj} {β M : Nat} {x y : VV} (h : SealP H M x y) : SealQ H β M x y := fun _ => h
theorem zE {H : Nat → Option VObj} {β M δ w cp : Nat} {el : Option TypeId} {α : Type} {enc : α → List VV} {xs : List α} {es : List (Value × VV)} (hδ : H δ = some (.cells el (aa enc xs))) (hβ : H β = some (.map es)) (hok : EncOk enc) (hw : ∀ x, (enc x).length = w) :
  SealQ H β M (.ref δ 0 xs.length w cp) (.sl (aa enc xs) xs.length false) := fun hall =>
 zD hδ (hall δ (by rw [hδ]; rfl) (by rintro rfl; rw [hδ] at hβ; cases hβ)) hok hw
theorem VUpd.of_lit {f : FuncId} {A : Nat → List VV} {y x : Nat → VV} {es : List (Value × VV)} {A0 : Nat → Nat → List VV} (hn : ∀ β b, normL ((A β).map (litV β b)) = A0 β b) (ht : ∀ β b, treeL ((A β).map (litV β b)) = true)
  (hx : ∀ β b, litV β b (y β) = x b) (hp : ∀ β b, ai P G f (A0 β b) (.tree (x b))) (hy : ∀ β M (H : Nat → Option VObj), β < M → (H β).isSome = true → SealP H M (y β) (y β)) : VUpd P G f A es es y := by
 intro β nx hlt
 have hb : updH (fun _ => none) β (.map es) β = some (.map es) := by simp [updH]
 refine ar.mono (ar.lit hb (hn β) (ht β) (fun b => by rw [hx]; exact hp β b)) ?_ (fun _ _ _ h => h.elim)
 rintro v H1 n1 ⟨hv, hH, _⟩
 rw [hv, hH]
 exact ⟨hb, sq_of (hy β nx _ hlt (by rw [hb]; rfl))⟩
end
theorem g9 {K V : Type} {kv : K → Value} {ev : V → VV} (h : ∀ v, okV (fun _ => false) (ev v) = true) : ∀ l : List (K × V), okVL (fun _ => false) ((encM kv ev l).map (·.2)) = true
 | [] => rfl
 | p :: l => by
  show (okV _ (ev p.2) && okVL _ ((encM kv ev l).map (·.2))) = true
  rw [h, g9 h l]; rfl
theorem gW {d : Tmp} {γ : Nat} {tm : Nat → VV} {H : Nat → Option VObj} {nx : Nat} {df : List VDef} {K : St → Prop} {x : VV} {β : Nat} {o : VObj} (F : (Nat → VV) → Prop) (hF : F (upd tm d x)) (h : ∀ tm', F tm' → K ⟨tm', updH H β o, nx, df⟩) : fin (some d) γ tm H nx df K x (.upd β o) := h _ hF
theorem zF {β b : Nat} {cs : List VV} : litV β b (.agg cs) = .agg (cs.map (litC β b)) := rfl
theorem zG {β b : Nat} {v : Value} : litV β b (.lit v) = .lit v := rfl
theorem zH {β b : Nat} {cs : List VV} {n : Nat} {f : Bool} : litV β b (.sl cs n f) = .sl cs n f := rfl
theorem zI {β b : Nat} {v : Value} : litC β b (.lit v) = .lit v := rfl
theorem zJ {β b : Nat} {cs : List VV} {n : Nat} {f : Bool} : litC β b (.sl cs n f) = .sl cs n f := rfl
theorem zK {β b : Nat} : litC β b (.mp β) = .lit (.map (some b)) := by simp [litC]
theorem eh {m : Option Nat} : normV (.lit (.map m)) = .lit (.map m) := by simp [normV]
theorem gA {β : Nat} : normV (.mp β) = .mp β := by simp [normV]
def vlt := And.intro (And.intro (And.intro @zF @zG) (And.intro @zH @zI)) (And.intro @zJ @zK)
theorem zL {m : Option Nat} : (VV.lit (.map m)).leaf = true := rfl
theorem zM {t : TypeId} {x : VV} : (VV.ifc t x).leaf = true := rfl
theorem zN {m : Option Nat} : aK (.lit (.map m)) = some [.lit (.map m)] := rfl
theorem Nm {t : TypeId} {x : VV} : aK (.ifc t x) = some [.ifc t x] := rfl
theorem zO {m : Option Nat} {l : List Nat} : tnL (.lit (.map m)) l = l := rfl
theorem argsTm6 {a b c e f g : VV} : argsTm [a, b, c, e, f, g] = upd (upd (upd (upd (upd (upd (fun _ => .lit undef) 0 a) 1 b) 2 c) 3 e) 4 f) 5 g := by
 funext t; rcases t with _ | _ | _ | _ | _ | _ | t <;> simp [argsTm, upd]
def vsi := And.intro (And.intro z6 @argsTm6) (And.intro (And.intro @eh @zL) (And.intro (And.intro @zM @zN) (And.intro @Nm @zO)))
end Go.V
end
section
namespace Go.V
open Go

end Go.V
end
