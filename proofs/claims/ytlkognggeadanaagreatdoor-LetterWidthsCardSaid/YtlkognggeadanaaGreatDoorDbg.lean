/- Part of a proof. -/
import Derived.Test.YtlkognggeadanaaGreatDoorDbf
set_option linter.all false
section
namespace Go.V
open Go
section
variable {P : Program} {H : Nat → Option VObj} {γ : Nat} {α : Type} {enc : α → List VV} {t t2 e e2 w b : Nat} {xs ys : List α} {el : Option TypeId} {β : Nat} {f : Bool} {k : VV → VEff → Prop}
theorem setA {x : α} {i : Int} (he : ∀ x, (enc x).length = w) (h : getI xs i = some x) : (i.toNat * w + w ≤ (aa enc xs).length) = True := by
 obtain ⟨h0, h1, _⟩ := vf h
 rw [pd he, eq_true_iff_of_true]
 have : i.toNat + 1 ≤ xs.length := by omega
 have := Nat.mul_le_mul_right w this
 rw [Nat.add_mul, Nat.one_mul] at this
 exact this
 where
 eq_true_iff_of_true : ∀ {p : Prop}, (p = True) = p := fun {p} => propext ⟨fun h => h ▸ trivial, fun h => eq_true h⟩
theorem setB {x : α} {i : Int} (v : α) (he : ∀ x, (enc x).length = w) (h : getI xs i = some x) : overwrite (aa enc xs) (i.toNat * w) (enc v) = aa enc (xs.set i.toNat v) := by
 obtain ⟨h0, h1, h2⟩ := vf h
 have hn : i.toNat < xs.length := by omega
 have e1 : xs = xs.take i.toNat ++ (x :: xs.drop (i.toNat + 1)) := by
  rw [← h2, List.take_append_drop]
 have e2 : xs.set i.toNat v = xs.take i.toNat ++ (v :: xs.drop (i.toNat + 1)) := by
  rw [List.set_eq_take_append_cons_drop, if_pos hn]
 have hl : (xs.take i.toNat).length = i.toNat := by rw [List.length_take]; omega
 have t1 : (aa enc xs).take (i.toNat * w) = aa enc (xs.take i.toNat) := by
  have hq : aa enc xs = aa enc (xs.take i.toNat) ++ aa enc (x :: xs.drop (i.toNat + 1)) := by rw [← xj, ← e1]
  rw [hq, List.take_left' (by rw [pd he, hl])]
 have t2 : (aa enc xs).drop (i.toNat * w + (enc v).length) = aa enc (xs.drop (i.toNat + 1)) := by
  have hq : xs = (xs.take i.toNat ++ [x]) ++ xs.drop (i.toNat + 1) := by rw [List.append_assoc]; exact e1
  have hd := Kj (enc := enc) he hq
  rw [List.length_append, hl] at hd
  rw [he v, show i.toNat * w + w = (i.toNat + [x].length) * w by rw [List.length_singleton, Nat.add_mul, Nat.one_mul]]
  exact hd
 unfold overwrite
 rw [t1, t2, e2, xj, List.append_assoc]
 rfl
end
end Go.V
end
section
set_option linter.defProp false
namespace Go.V
open Go
section
variable {P : Program} {G : Glob} {n : Nat} {x : Code} {Q : VExit → St → Prop} {st : St}
end
theorem setC {α : Type} {enc : α → List VV} {w : Nat} (xs : List α) (n : Nat) (v : α) (he : ∀ x, (enc x).length = w) : List.take (xs.length * w) (aa enc (xs.set n v)) = aa enc (xs.set n v) :=
 List.take_of_length_le (by rw [pd he, List.length_set]; exact qZf _)
end Go.V
end
section
set_option linter.defProp false
namespace Go.V
open Go
section
variable {P : Program} {G : Glob} {n : Nat} {Q : VExit → St → Prop} {tm : Nat → VV} {H : Nat → Option VObj} {nx : Nat} {df : List VDef} {g : Operand} {ps : Array Tmp} {az bo : Code} {f : FuncId} {first captured : List VV}
theorem Kv {β : Nat} : aY (.yl β) = some [.yl β] := rfl
theorem Kw {β : Nat} : (VV.yl β).leaf = true := rfl
theorem ag.at {x : Option (Option Nat)} {args : List VV} {r : PRes} (h : ag P G f args r) : ag P (G.at x) f args r := h
def rg := (And.intro @Kv (And.intro @Kw @Kx))
end
end Go.V
end
section
namespace Go.V
open Go
def sliceO {α : Type} (xs : List α) (lo hi : Int) : Option (List α) := if 0 ≤ lo ∧ lo ≤ hi ∧ hi ≤ xs.length then some ((xs.drop lo.toNat).take (hi - lo).toNat) else none
section
variable {P : Program} {G : Glob} {f : FuncId} {β γ w c nx : Nat} {tm : Nat → VV} {H : Nat → Option VObj} {df : List VDef} {d : Option Tmp} {K : List Nat → List Nat → St → Prop} {el : Option TypeId} {α : Type} {enc : α → List VV} {xs ys : List α} {x : VV}
end
section
variable {P : Program} {G : Glob} {β γ w e : Nat} {t ty : TypeId} {tm : Nat → VV} {H : Nat → Option VObj} {d : Option Tmp} {k : VV → VEff → Prop} {el : Option TypeId} {α : Type} {enc : α → List VV} {xs ys : List α} {pos : String} {af : Array Edge} {g : Option (Nat × Bool)} {x : Operand} {lo hi : Option Operand}
theorem Ky {lo hi : Int} (h : sliceO xs lo hi = some ys) : 0 ≤ lo ∧ lo ≤ hi ∧ hi ≤ xs.length ∧ ys = (xs.drop lo.toNat).take (hi - lo).toNat := by
 unfold sliceO at h
 split at h
 ·rename_i hc; cases h; exact ⟨hc.1, hc.2.1, hc.2.2, rfl⟩
 ·cases h
theorem k_slT {l r : Int} (hu : P.underlying t = some (.slice e)) (hs : szT P e = some w) (hw : ∀ x, (enc x).length = w) (hx : ev G tm x = .sl (aa enc xs) xs.length false)
  (hl : (lo.map (ev G tm) = none ∧ l = 0) ∨ ∃ kd, lo.map (ev G tm) = some (.lit (.int kd l))) (hr : (hi.map (ev G tm) = none ∧ r = xs.length) ∨ ∃ kd, hi.map (ev G tm) = some (.lit (.int kd r)))
  (ho : sliceO xs l r = some ys) (h : k (.sl (aa enc ys) ys.length false) .none) : oeK (vop P ⟨d, .slice t x lo hi none, ty, pos, af, g⟩ (ev G tm) H γ) k := by
 obtain ⟨h1, h2, h3, rfl⟩ := Ky ho
 have hl' : vbound 0 (lo.map (ev G tm)) = some l.toNat := by
  rcases hl with ⟨hz, rfl⟩ | ⟨kd, hz⟩
  ·rw [hz]; rfl
  ·rw [hz]; simp [vbound, h1]
 have hr' : vbound xs.length (hi.map (ev G tm)) = some r.toNat := by
  rcases hr with ⟨hz, rfl⟩ | ⟨kd, hz⟩
  ·rw [hz]; simp [vbound]
  ·rw [hz]; simp [vbound, show (0:Int) ≤ r by omega]
 have hlen : ((xs.drop l.toNat).take (r - l).toNat).length = r.toNat - l.toNat := by
  rw [List.length_take, List.length_drop]; omega
 have hcs : ((aa enc xs).drop (l.toNat * w)).take ((r.toNat - l.toNat) * w) = aa enc ((xs.drop l.toNat).take (r - l).toNat) := by
  have h4 : xs = xs.take l.toNat ++ xs.drop l.toNat := (List.take_append_drop ..).symm
  have h5 := pd hw (xs.take l.toNat)
  have h6 : (xs.take l.toNat).length = l.toNat := by rw [List.length_take]; omega
  rw [h6] at h5
  have h7 : (aa enc xs).drop (l.toNat * w) = aa enc (xs.drop l.toNat) := by
   conv => lhs; rw [h4]
   rw [xj, ← h5, List.drop_left]
  rw [h7]
  generalize hz : xs.drop l.toNat = zs at hlen ⊢
  have h8 : zs = zs.take (r - l).toNat ++ zs.drop (r - l).toNat := (List.take_append_drop ..).symm
  have h9 := pd hw (zs.take (r - l).toNat)
  rw [hlen] at h9
  conv => lhs; rw [h8]
  rw [xj, ← h9, List.take_left]
 have e1 : vslice P H t (.sl (aa enc xs) xs.length false) (lo.map (ev G tm)) (hi.map (ev G tm)) none = some (.sl (aa enc ((xs.drop l.toNat).take (r - l).toNat)) ((xs.drop l.toNat).take (r - l).toNat).length false) := by
  have Xr : l.toNat ≤ r.toNat := by omega
  have Xs : r.toNat ≤ xs.length := by omega
  have Xt : vbound xs.length none = some xs.length := rfl
  simp only [vslice, hu, hs, sls, hl', hr', Xt, Xr, Xs, qZf, true_and, if_true, Option.isSome_none, Bool.false_eq_true, false_imp_iff, Bool.false_and, Bool.and_false, Bool.or_false, hcs, hlen]
 have e2 : vop P ⟨d, .slice t x lo hi none, ty, pos, af, g⟩ (ev G tm) H γ = some (.sl (aa enc ((xs.drop l.toNat).take (r - l).toNat)) ((xs.drop l.toNat).take (r - l).toNat).length false, .none) := by
  simp only [vop, hu, hx, Option.map_none, e1]
 rw [e2]
 exact h
end
section
variable {P : Program} {G : Glob} {f : FuncId} {γ nx : Nat} {tm : Nat → VV} {H : Nat → Option VObj} {df : List VDef} {d : Option Tmp} {x : VV}
theorem ktree0 {K : St → Prop} {Qp : VV → St → Prop} (hp : ag P G f [] (.tree x)) (h : fin d γ tm H nx df K x .none) : callK P G f [] ⟨tm, H, nx, df⟩ d γ K Qp := ktree (args0 := []) rfl rfl hp h
end
end Go.V
end
section
namespace Go.V
open Go
variable {P : Program} {G : Glob} {β γ w e n off : Nat} {t ty : TypeId} {tm : Nat → VV} {H : Nat → Option VObj} {d : Option Tmp} {k : VV → VEff → Prop} {el : Option TypeId} {cs : List VV} {pos : String} {af : Array Edge} {g : Option (Nat × Bool)} {x : Operand}
end Go.V
namespace Go.V
open Go
end Go.V
end
section
namespace Go.V
open Go

end Go.V
end
section
set_option linter.defProp false
namespace Go.V
open Go
section
variable {P : Program} {H : Nat → Option VObj} {t : TypeId} {x y : Operand} {k : IntKind} {a b : Int}
theorem Kz (h : (b != 0) = true) : binV P H .quo t x y (.lit (.int k a)) (.lit (.int k b)) = some (.lit (.int k (k.wrap (a.tdiv b)))) := by
 have : b ≠ 0 := by simpa using h
 simp [binV, VV.val?, vbin, ofVal, ofVal2, ofVal1, this]
theorem K1 (h : (b != 0) = true) : binV P H .rem t x y (.lit (.int k a)) (.lit (.int k b)) = some (.lit (.int k (a.tmod b))) := by
 have : b ≠ 0 := by simpa using h
 simp [binV, VV.val?, vbin, ofVal, ofVal2, ofVal1, this]
theorem KA : unV P .neg (.lit (.int k a)) = some (.lit (.int k (k.wrap (-a)))) := by simp [unV, VV.val?, Op.unary, Op.intArith, kU, ofVal, ofVal2, ofVal1]
theorem KB {a b : ByteArray} : binV P H .eql t x y (.lit (.string a)) (.lit (.string b)) = some (.lit (.bool (a.toList == b.toList))) := by simp [binV, VV.val?, vbin, ofVal, ofVal2, ofVal1]
theorem KC {a b : ByteArray} : binV P H .neq t x y (.lit (.string a)) (.lit (.string b)) = some (.lit (.bool (!(a.toList == b.toList)))) := by simp [binV, VV.val?, vbin, ofVal, ofVal2, ofVal1]
def qr := (And.intro (And.intro @Kz @K1) (And.intro @KA (And.intro @KB @KC)))
end
end Go.V
end
section
namespace Go.V
open Go
section
variable {P : Program} {G : Glob} {ops : Array Oper} {base : Nat} {Q : VExit → St → Prop} {n : Nat}
end
end Go.V
namespace Go.V
open Go
section
variable {P : Program} {G : Glob} {ops : Array Oper} {base : Nat} {Q : VExit → St → Prop} {n : Nat}
end
section
variable {P : Program} {G : Glob} {ops : Array Oper} {base : Nat} {Q : VExit → St → Prop} {n : Nat} {i m b : Nat} {o : Oper} {l l2 : List Oper} {mk mE mL : List Bool} {tr : Tr} {K : Tr → St → Prop} {tm : Nat → VV} {H : Nat → Option VObj} {nx : Nat} {df : List VDef} {st : St} {rest : List (List Bool × Nat)}
end
end Go.V
namespace Go.V
set_option linter.defProp false
end Go.V
end
section
namespace Go.V
open Go
def gone (H H' : Nat → Option VObj) : Nat → Option VObj := fun β => if (H' β).isSome then none else H β
theorem ak.gone (H H' : Nat → Option VObj) : ak (gone H H') H := fun x o h => by
 unfold Go.V.gone at h
 split at h
 ·cases h
 ·exact h
def Frozen (H H' : Nat → Option VObj) (x y : VV) : Prop := y = x ∨ y = .any ∨ ∃ n, sealV (gone H H') n x = some y
def FrozenL (H H' : Nat → Option VObj) : List VV → List VV → Prop
 | [], [] => True
 | x :: xs, y :: ys => Frozen H H' x y ∧ FrozenL H H' xs ys
 | _, _ => False
def FrozenO (H H' : Nat → Option VObj) (o o' : VObj) : Prop := o' = o ∨ ∃ el cs cs', o = .cells el cs ∧ o' = .cells el cs' ∧ FrozenL H H' cs cs'
def Ctx.frz (c : Ctx) (H' : Nat → Option VObj) : Ctx := { c with H := H', A := fun b => c.A b ∨ ∃ β, c.live β ∧ (H' β).isSome = false ∧ c.φ β = b }
section
variable {c : Ctx} {W : World} {H' : Nat → Option VObj}
theorem FE (hl : ∀ β, (H' β).isSome = true → c.live β) : Abides c W (c.frz H') W := ⟨fun _ h => .inl h, fun _ _ => rfl, fun _ h => h, fun β _ h => hl β h, fun _ _ _ => rfl, fun _ _ _ => rfl⟩
theorem C9 (hl : ∀ β, (H' β).isSome = true → c.live β) : Ext c W (c.frz H') W where
 A _ h := .inl h
 newA b h := h.imp id fun ⟨β, h1, _, e⟩ => .inr ⟨β, h1, e⟩
 used _ h := h
 live β _ h := hl β h
 φ _ _ _ := rfl
 room _ _ _ := rfl
 keep _ _ _ := rfl
 old x h _ := ⟨x, hl x h, rfl⟩
 size := qZf _
 os := rfl
 tape := rfl
 output := rfl
theorem TD (s : Sim c W) (hl : ∀ β, (H' β).isSome = true → c.live β) {x y : VV} {v : Value} (h : Frozen c.H H' x y) (hr : Rep c W x v) : Rep (c.frz H') W y v := by
 rcases h with rfl | rfl | ⟨n, hn⟩
 ·exact Rep.abides (FE hl) _ hr
 ·unfold Rep; trivial
 ·have h1 := (tK s (ak.gone c.H H') n).1 x v y hn hr
  refine Rep.abides (oT fun b hb => ?_) _ h1
  rcases hb with hb | ⟨β, hβ, e⟩
  ·exact .inl hb
  ·refine .inr ⟨β, ?_, ?_, e⟩
   ·unfold Go.V.gone at hβ
    split at hβ
    ·cases hβ
    ·exact hβ
   ·cases h0 : (H' β).isSome with
    | false => rfl
    | true => unfold Go.V.gone at hβ; rw [h0] at hβ; cases hβ
theorem KD (s : Sim c W) (hl : ∀ β, (H' β).isSome = true → c.live β) : ∀ {xs ys : List VV} {l : List Value}, FrozenL c.H H' xs ys → RepL c W xs l → RepL (c.frz H') W ys l
 | [], [], _, _, h => h
 | _ :: _, _ :: _, _, ⟨h1, h2⟩, ⟨u, us, e, r1, r2⟩ => ⟨u, us, e, TD s hl h1 r1, KD s hl h2 r2⟩
 | [], _ :: _, _, h, _ => h.elim
 | _ :: _, [], _, h, _ => h.elim
theorem FrozenL.length {H H' : Nat → Option VObj} : ∀ {xs ys : List VV}, FrozenL H H' xs ys → ys.length = xs.length
 | [], [], _ => rfl
 | _ :: _, _ :: _, h => by simp [FrozenL.length h.2]
 | [], _ :: _, h => h.elim
 | _ :: _, [], h => h.elim
theorem Sim.frz (s : Sim c W) (ho : ∀ β o', H' β = some o' → ∃ o, c.H β = some o ∧ FrozenO c.H H' o o') (hloop : ∀ x st pe tm ps asg bo df, H' x = some (.loop st pe tm ps asg bo df) → isDef H' df) : Sim (c.frz H') W := by
 have hl : ∀ β, (H' β).isSome = true → c.live β := by
  intro β h
  obtain ⟨o', h'⟩ := Option.isSome_iff_exists.1 h
  obtain ⟨o, h1, _⟩ := ho β o' h'
  simp [Ctx.live, h1]
 have ab : Abides c W (c.frz H') W := FE hl
 refine ⟨fun x h => s.used x (hl x h), fun x ox hx => ?_, fun x h => s.lt x (hl x h), fun x h => ?_, fun x y hx hy e => s.inj x y (hl x hx) (hl y hy) e, fun b hb => ?_⟩
 ·have hP : H' x = some ox := hx
  obtain ⟨o, h1, hf⟩ := ho x ox hP
  rcases hf with rfl | ⟨el, cs, cs', rfl, rfl, hcs⟩
  ·refine (s.obj x _ h1).abides ab (s.used x (hl x (by simp [hP]))) (by simp [Ctx.live, Ctx.frz, hP]) rfl ?_
   intro st pe tm ps asg bo df e'
   subst e'
   exact hloop x st pe tm ps asg bo df hP
  ·obtain ⟨arr, e, a1, a2, a3, a4, a5⟩ := s.obj x _ h1
   exact ⟨arr, e, a1, a2, by rw [hcs.length]; exact a3, by rw [hcs.length]; exact KD s hl hcs a4, a5⟩
 ·rintro (hA | ⟨β, h1, hn, e⟩)
  ·exact s.notA x (hl x h) hA
  ·have := s.inj β x h1 (hl x h) e
   subst this
   have h' : (H' β).isSome = true := h
   rw [h'] at hn; cases hn
 ·rcases hb with hA | ⟨β, h1, _, e⟩
  ·exact s.ltA b hA
  ·rw [← e]; exact s.lt β h1
end
theorem VWp.freeze {P : Program} {G : Glob} {n : Nat} {code : Code} {Q : VExit → St → Prop} {st : St} (H' : Nat → Option VObj) (tm' : Nat → VV) (ho : ∀ β o', H' β = some o' → ∃ o, st.H β = some o ∧ FrozenO st.H H' o o') (hloop : ∀ x s pe tm ps asg bo df, H' x = some (.loop s pe tm ps asg bo df) → isDef H' df)
  (htm : ∀ t, Frozen st.H H' (st.tm t) (tm' t)) (h : VWp P G n code Q ⟨tm', H', st.nx, st.df⟩) : VWp P G n code Q st := by
 intro ro c W a hro s hr hsz
 have ho' : ∀ β o', H' β = some o' → ∃ o, c.H β = some o ∧ FrozenO c.H H' o o' := by rw [hr.H]; exact ho
 have hl : ∀ β, (H' β).isSome = true → c.live β := by
  intro β h
  obtain ⟨o', h'⟩ := Option.isSome_iff_exists.1 h
  obtain ⟨o, h1, _⟩ := ho' β o' h'
  simp [Ctx.live, h1]
 have he : Ext c W (c.frz H') W := C9 hl
 have ab : Abides c W (c.frz H') W := FE hl
 refine wpIn_mono (h ro (c.frz H') W a (hro.ext he) (s.frz ho' hloop) ⟨rfl, fun t => ?_, hr.nx, hr.df.abides ab, hr.G.abides ab⟩ hsz) fun _ _ _ hl => hl.of_ext he (fun β hb => .inl hb) (qZf _)
 exact TD s hl (by rw [hr.H]; exact htm t) (hr.tm t)
end Go.V
end
section
namespace Go.V
open Go
theorem aK.weak {P : Program} {G : Glob} {f : FuncId} {args args' : List VV} {H : Nat → Option VObj} {nx : Nat} {R Rp : VV → (Nat → Option VObj) → Nat → Prop} (hw : ∀ c W vs, RepL c W args vs → RepL c W args' vs) (h : aK P G f args' H nx R Rp) : aK P G f args H nx R Rp :=
 ⟨h.1, fun c W vs s hH hnx hG ha => h.2 c W vs s hH hnx hG (hw c W vs ha)⟩
theorem aK.freeze {P : Program} {G : Glob} {f : FuncId} {args args' : List VV} {H : Nat → Option VObj} {nx : Nat} {R Rp : VV → (Nat → Option VObj) → Nat → Prop} (H' : Nat → Option VObj) (ho : ∀ β o', H' β = some o' → ∃ o, H β = some o ∧ FrozenO H H' o o')
  (hloop : ∀ x s pe tm ps asg bo df, H' x = some (.loop s pe tm ps asg bo df) → isDef H' df) (ha : FrozenL H H' args args') (h : aK P G f args' H' nx R Rp) : aK P G f args H nx R Rp := by
 refine ⟨h.1, fun c W vs s hH hnx hG hargs => ?_⟩
 have ho' : ∀ β o', H' β = some o' → ∃ o, c.H β = some o ∧ FrozenO c.H H' o o' := by rw [hH]; exact ho
 have hl : ∀ β, (H' β).isSome = true → c.live β := by
  intro β h
  obtain ⟨o', h'⟩ := Option.isSome_iff_exists.1 h
  obtain ⟨o, h1, _⟩ := ho' β o' h'
  simp [Ctx.live, h1]
 have he : Ext c W (c.frz H') W := C9 hl
 have ab : Abides c W (c.frz H') W := FE hl
 refine (h.2 (c.frz H') W vs (s.frz ho' hloop) rfl hnx (hG.abides ab) (KD s hl (by rw [hH]; exact ha) hargs)).mono ?_
 rintro e W' ⟨c', H1, nx', g1, g2, g3, g4, g5, g6, g7⟩
 exact ⟨c', H1, nx', he.trans g1, g2, g3, g4, g5, g6, g7⟩
def Yields (P : Program) (G : Glob) (β : Nat) (x : VV) (H : Nat → Option VObj) (nx : Nat) (Post : Bool → (Nat → Option VObj) → Nat → Prop) : Prop :=
 ∀ (r : Option (Option Nat)) (o : Oper) (st : St) (K : St → Prop), st.H = H → st.nx = nx → (∀ b H' nx', Post b H' nx' → K ⟨(match o.dst with | some d => upd st.tm d (.lit (.bool b)) | none => st.tm), H', nx', st.df⟩) → yieldK P (G.at r) o β [x] st K
theorem Yields.mono {P : Program} {G : Glob} {β : Nat} {x : VV} {H : Nat → Option VObj} {nx : Nat} {Post Post' : Bool → (Nat → Option VObj) → Nat → Prop} (h : Yields P G β x H nx Post) (hp : ∀ b H' nx', Post b H' nx' → Post' b H' nx') : Yields P G β x H nx Post' :=
 fun r o st K h1 h2 hk => h r o st K h1 h2 fun b H' nx' hp' => hk b H' nx' (hp b H' nx' hp')
def Own (hp : List (Nat × VObj)) (Fr : Nat → Prop) (H : Nat → Option VObj) (nx : Nat) : Prop := ∀ p ∈ hp, p.1 < nx ∧ ¬ Fr p.1 ∧ H p.1 = some p.2
theorem Own.nil {Fr : Nat → Prop} {H : Nat → Option VObj} {nx : Nat} : Own [] Fr H nx := fun _ h => by cases h
theorem Own.cons {p : Nat} {o : VObj} {hp : List (Nat × VObj)} {Fr : Nat → Prop} {H : Nat → Option VObj} {nx : Nat} (h1 : p < nx) (h2 : ¬ Fr p) (h3 : H p = some o) (h : Own hp Fr H nx) : Own ((p, o) :: hp) Fr H nx := by
 intro q hq
 rcases List.mem_cons.1 hq with rfl | hq
 ·exact ⟨h1, h2, h3⟩
 ·exact h q hq
theorem Own.head {p : Nat} {o : VObj} {hp : List (Nat × VObj)} {Fr : Nat → Prop} {H : Nat → Option VObj} {nx : Nat} (h : Own ((p, o) :: hp) Fr H nx) : p < nx ∧ ¬ Fr p ∧ H p = some o := h (p, o) (qZb ..)
theorem Own.tail {p : Nat} {o : VObj} {hp : List (Nat × VObj)} {Fr : Nat → Prop} {H : Nat → Option VObj} {nx : Nat} (h : Own ((p, o) :: hp) Fr H nx) : Own hp Fr H nx := fun q hq => h q (qZa _ hq)
section
variable {P : Program} {G : Glob} {n : Nat} {Q : VExit → St → Prop} {tm : Nat → VV} {H : Nat → Option VObj} {nx : Nat} {df : List VDef} {g : Operand} {ps : Array Tmp} {az bo : Code}
end
end Go.V
end
section
namespace Go.V
open Go
theorem Frozen.same {H H' : Nat → Option VObj} {x : VV} : Frozen H H' x x := .inl rfl
theorem FrozenL.same {H H' : Nat → Option VObj} : ∀ {xs : List VV}, FrozenL H H' xs xs
 | [] => trivial
 | _ :: _ => ⟨.same, .same⟩
theorem Frozen.own {H : Nat → Option VObj} {γ n w cp : Nat} {el : Option TypeId} {cs : List VV} (hγ : H γ = some (.cells el cs)) (ht : treeL cs = true) (hl : cs.length = n * w) : Frozen H (without H γ) (.ref γ 0 n w cp) (.sl cs n false) := by
 refine .inr (.inr ⟨cs.length + 2, ?_⟩)
 have hg : gone H (without H γ) γ = some (.cells el cs) := by simp [gone, without, hγ]
 unfold sealV
 have : (VV.ref γ 0 n w cp).tree = false := rfl
 rw [this]
 simp only [Bool.false_eq_true, if_false, hg, Nat.zero_le, if_true, List.drop_zero]
 rw [List.take_of_length_le (by omega), FF cs _ ht (by omega)]
 rfl
end Go.V
namespace Go.V
end Go.V
namespace Go.V
end Go.V
namespace Go.V
end Go.V
namespace Go.V
end Go.V
namespace Go.V
end Go.V
namespace Go.V
theorem Frozen.ptr {H H' : Nat → Option VObj} {γ : Nat} {el : Option TypeId} {cs : List VV} (hγ : H γ = some (.cells el cs)) (hn : (H' γ).isSome = false) (ht : treeL cs = true) : Frozen H H' (.ptr γ 0) (.tp cs) := by
 refine .inr (.inr ⟨cs.length + 2, ?_⟩)
 have hg : gone H H' γ = some (.cells el cs) := by simp [gone, hn, hγ]
 unfold sealV
 have : (VV.ptr γ 0).tree = false := rfl
 rw [this]
 simp only [Bool.false_eq_true, if_false, hg, Nat.zero_le, if_true, List.drop_zero]
 rw [FF cs _ ht (by omega)]
 rfl
end Go.V
end
section
namespace Go.V
open Go
section
variable {P : Program} {G : Glob} {H : Nat → Option VObj} {γ : Nat} {α : Type} {enc : α → List VV} {t t2 e e2 w b : Nat} {xs ys : List α} {el : Option TypeId} {β : Nat} {f : Bool} {k : VV → VEff → Prop}
end
end Go.V
namespace Go.V
open Go
end Go.V
namespace Go.V
open Go
end Go.V
namespace Go.V
open Go
set_option linter.defProp false
end Go.V
end
section
set_option linter.defProp false
namespace Go.V
open Go
def kIdx {K : Type} (q : K → K → Bool) (k : K) : List K → Nat → Option Nat
 | [], _ => none
 | e :: es, i => cond (q k e) (some i) (kIdx q k es (i + 1))
theorem FG {K : Type} {q : K → K → Bool} {k : K} : ∀ (es : List K) (i j : Nat), kIdx q k es i = some j → i ≤ j ∧ ∃ e, es[j - i]? = some e ∧ q k e = true
 | [], _, _, h => by cases h
 | e :: es, i, j, h => by
  unfold kIdx at h
  cases hq : q k e with
  | true =>
   rw [hq] at h
   simp only [cond_true, Option.some.injEq] at h
   subst h
   exact ⟨qZf _, e, by simp, hq⟩
  | false =>
   rw [hq] at h
   simp only [cond_false] at h
   obtain ⟨h1, x, h2, h3⟩ := FG es (i + 1) j h
   refine ⟨by omega, x, ?_, h3⟩
   rw [show j - i = (j - (i + 1)) + 1 by omega]
   simpa using h2
def mapGet {K V : Type} (q : K → K → Bool) (z : V) (l : List (K × V)) (k : K) : V := match kIdx q k (l.map (·.1)) 0 with
 | some i => match l[i]? with | some p => p.2 | none => z
 | none => z
def mapSet {K V : Type} (q : K → K → Bool) (l : List (K × V)) (k : K) (v : V) : List (K × V) := match kIdx q k (l.map (·.1)) 0 with
 | some i => l.set i (k, v)
 | none => l ++ [(k, v)]
def encM {K V : Type} (kv : K → Value) (ev : V → VV) (l : List (K × V)) : List (Value × VV) := l.map fun p => (kv p.1, ev p.2)
section
variable {P : Program} {K V : Type} {q : K → K → Bool} {kv : K → Value} {ev : V → VV} {t kt et : TypeId} {H : Nat → Option VObj} {β : Nat}
theorem TE (he : ∀ a b, aB P (Op.equal kt (kv a) (kv b)) = some (q a b)) (k : K) : ∀ (ks : List K) (i : Nat), aB P (Instr.findAsking kt (kv k) ((ks.map kv).map dummy) i) = some ((kIdx q k ks i).map fun j => (j, Value.bool false))
 | [], i => rfl
 | e :: es, i => by
  simp only [List.map_cons, Instr.findAsking, kIdx]
  rw [fq]
  have h0 : aB P (Op.equal kt (kv k) (dummy (kv e)).key) = some (q k e) := he k e
  rw [h0, Option.bind_some]
  cases q k e with
  | true => rfl
  | false => exact TE he k es (i + 1)
theorem xk {fs : Array Field} (hu : P.underlying kt = some (.struct fs)) (he : ∀ a b, aB P (Op.equal kt (kv a) (kv b)) = some (q a b)) (k : K) (ks : List K) : kfind P kt (kv k) (ks.map kv) = some (kIdx q k ks 0) := by
 unfold kfind Instr.findKey
 rw [fq, zn hu, Option.bind_some]
 have ha := TE he k ks 0
 cases ks with
 | nil => rfl
 | cons e es =>
  have hn : Instr.findNow (.struct fs) (kv k) (((e :: es).map kv).map dummy) 0 = none := by
   simp only [List.map_cons, Instr.findNow]
   have : Instr.sameNow (.struct fs) (kv k) (dummy (kv e)).key = none := by cases kv k <;> rfl
   rw [this]
  rw [hn]
  simp only []
  rw [ha]
  cases kIdx q k (e :: es) 0 <;> rfl
theorem KE {l : List (K × V)} : (encM kv ev l).map (·.1) = (l.map (·.1)).map kv := by simp [encM, Function.comp_def]
theorem KG {fs : Array Field} {z : V} (hm : P.underlying t = some (.map kt et)) (hu : P.underlying kt = some (.struct fs)) (he : ∀ a b, aB P (Op.equal kt (kv a) (kv b)) = some (q a b)) (hc : ∀ b k, aB P (Instr.checkKey b 10000 kt (kv k)) = some ())
  (hz : ((P.info? et).bind (·.zero)).map ofVal2 = some (ev z)) {l : List (K × V)} {kx : VV} {k : K} (hk : kx.val? = some (kv k)) (hb : H β = some (.map (encM kv ev l))) :
  vlookup P H t (.mp β) kx false = some (ev (mapGet q z l k)) := by
 unfold vlookup
 rw [hm, hk]
 simp only [mapOf, hb]
 rw [hc, KE, xk hu he]
 cases hzz : (P.info? et).bind (·.zero) with
 | none => rw [hzz] at hz; cases hz
 | some z0 =>
  rw [hzz] at hz
  simp only [Option.map_some, Option.some.injEq] at hz
  unfold mapGet
  cases hi : kIdx q k (l.map (·.1)) 0 with
  | none => simp only [Bool.false_eq_true, if_false]; exact congrArg some hz
  | some i =>
   obtain ⟨_, e, h1, _⟩ := FG _ _ _ hi
   rw [Nat.sub_zero, List.getElem?_map] at h1
   cases hl : l[i]? with
   | none => rw [hl] at h1; cases h1
   | some p =>
    have : (encM kv ev l)[i]? = some (kv p.1, ev p.2) := by unfold encM; rw [List.getElem?_map, hl]; rfl
    simp only [this, hl, Bool.false_eq_true, if_false]
theorem KH {fs : Array Field} (hm : P.underlying t = some (.map kt et)) (hu : P.underlying kt = some (.struct fs)) (he : ∀ a b, aB P (Op.equal kt (kv a) (kv b)) = some (q a b)) (hc : ∀ b k, aB P (Instr.checkKey b 10000 kt (kv k)) = some ())
  (hq : ∀ a b, q a b = true → a = b) (hs : ∀ a, Instr.sameBits 10000 (kv a) (kv a) = true) {l : List (K × V)} {kx : VV} {k : K} {v : V} (hk : kx.val? = some (kv k)) (hb : H β = some (.map (encM kv ev l))) :
  vmapUpdate P H t (.mp β) kx (ev v) = some (.upd β (.map (encM kv ev (mapSet q l k v)))) := by
 unfold vmapUpdate
 rw [hm, hk]
 simp only [hb]
 rw [hc, KE, xk hu he]
 unfold mapSet
 cases hi : kIdx q k (l.map (·.1)) 0 with
 | none => simp only [encM, List.map_append, List.map_cons, List.map_nil]
 | some i =>
  obtain ⟨_, e, h1, h2⟩ := FG _ _ _ hi
  rw [Nat.sub_zero, List.getElem?_map] at h1
  cases hl : l[i]? with
  | none => rw [hl] at h1; cases h1
  | some p =>
   have h3 : (encM kv ev l)[i]? = some (kv p.1, ev p.2) := by unfold encM; rw [List.getElem?_map, hl]; rfl
   rw [hl] at h1
   simp only [Option.map_some, Option.some.injEq] at h1
   have h4 := hq _ _ h2
   subst h4
   subst h1
   simp only [h3, hs, if_true]
   simp only [encM, List.map_set]
end
section
variable {P : Program} {G : Glob} {γ : Nat} {tm : Nat → VV} {H : Nat → Option VObj} {nx : Nat} {df : List VDef} {K : St → Prop} {Kd : List Nat → List Nat → St → Prop} {Qp : VV → St → Prop}
 {d : Option Tmp} {ty : TypeId} {pos : String} {af : Array Edge} {g : Option (Nat × Bool)}
theorem Xu {t : TypeId} : aT P G γ ⟨d, .makeMap t none, ty, pos, af, g⟩ ⟨tm, H, nx, df⟩ K Qp = fin d γ tm H nx df K (.mp γ) (.new (.map [])) := by
 rw [jV (by simp) (by simp) (by simp)]; rfl
theorem KI {t : TypeId} {x k : Operand} {ok : Bool} : aT P G γ ⟨d, .lookup t x k ok, ty, pos, af, g⟩ ⟨tm, H, nx, df⟩ K Qp = oK (vlookup P H t (ev G tm x) (ev G tm k) ok) (fun y => fin d γ tm H nx df K y .none) := by
 rw [jV (by simp) (by simp) (by simp)]; simp only [vop]; exact tA
theorem Xv {t : TypeId} : aN P G γ ⟨d, .makeMap t none, ty, pos, af, g⟩ ⟨tm, H, nx, df⟩ Kd = fin d γ tm H nx df (Kd (rdV ⟨d, .makeMap t none, ty, pos, af, g⟩ (ev G tm)) [γ]) (.mp γ) (.new (.map [])) := by
 rw [ko (by simp)]; rfl
theorem Xw {t : TypeId} {x k : Operand} {ok : Bool} : aN P G γ ⟨d, .lookup t x k ok, ty, pos, af, g⟩ ⟨tm, H, nx, df⟩ Kd = oK (vlookup P H t (ev G tm x) (ev G tm k) ok) (fun y => fin d γ tm H nx df (Kd (rdV ⟨d, .lookup t x k ok, ty, pos, af, g⟩ (ev G tm)) []) y .none) := by
 rw [ko (by simp)]; simp only [vop]
 cases vlookup P H t (ev G tm x) (ev G tm k) ok <;> rfl
def umK (o : Option VEff) (k : VEff → Prop) : Prop := match o with | some e => k e | none => False
theorem KJ {e : VEff} {k : VEff → Prop} : umK (some e) k = k e := rfl
theorem Xx {t : TypeId} {m k x : Operand} : aT P G γ ⟨d, .mapUpdate t m k x, ty, pos, af, g⟩ ⟨tm, H, nx, df⟩ K Qp = umK (vmapUpdate P H t (ev G tm m) (ev G tm k) (ev G tm x)) (fun e => fin d γ tm H nx df K .any e) := by
 rw [jV (by simp) (by simp) (by simp)]; simp only [vop]
 cases vmapUpdate P H t (ev G tm m) (ev G tm k) (ev G tm x) <;> rfl
theorem Xy {t : TypeId} {m k x : Operand} : aN P G γ ⟨d, .mapUpdate t m k x, ty, pos, af, g⟩ ⟨tm, H, nx, df⟩ Kd = umK (vmapUpdate P H t (ev G tm m) (ev G tm k) (ev G tm x)) (fun e => fin d γ tm H nx df (Kd (rdV ⟨d, .mapUpdate t m k x, ty, pos, af, g⟩ (ev G tm)) (e.wr γ)) .any e) := by
 rw [ko (by simp)]; simp only [vop]
 cases vmapUpdate P H t (ev G tm m) (ev G tm k) (ev G tm x) <;> rfl
theorem KK {β : Nat} : aY (.mp β) = some [.mp β] := rfl
theorem KL {β : Nat} : (VV.mp β).leaf = true := rfl
theorem KM {t : TypeId} : rdV ⟨d, .makeMap t none, ty, pos, af, g⟩ (ev G tm) = rdL (ev G tm) [] := kq []
theorem KN {t : TypeId} {x k : Operand} {ok : Bool} : rdV ⟨d, .lookup t x k ok, ty, pos, af, g⟩ (ev G tm) = rdL (ev G tm) [x, k] := kq [x, k]
theorem Xz {t : TypeId} {m k x : Operand} : rdV ⟨d, .mapUpdate t m k x, ty, pos, af, g⟩ (ev G tm) = rdL (ev G tm) [m, k, x] := kq [m, k, x]
theorem KO {β : Nat} {l : List Nat} : tnL (.mp β) l = β :: l := rfl
theorem KP : ev G tm (.const (.map none)) = .lit (.map none) := rfl
theorem dk {K V : Type} {kv : K → Value} {ew : V → VV} : encM kv ew [] = [] := rfl
def mq := (And.intro (And.intro (And.intro @Xu (And.intro @KI @Xx)) (And.intro (And.intro @Xv @Xw) (And.intro @Xy @KJ))) (And.intro (And.intro (And.intro @KK @KL) (And.intro @KM @KN)) (And.intro (And.intro @Xz @KO) (And.intro @KP @dk))))
end
end Go.V
end
section
set_option linter.defProp false
namespace Go.V
open Go
def mtK {K V : Type} (kv : K → Value) (l : List (K × V)) : List Value := l.map fun p => kv p.1
def mtV {K V : Type} (ew : V → VV) (l : List (K × V)) : List VV := l.map fun p => ew p.2
theorem CA {K V : Type} {ew : V → VV} (ht : ∀ v, (ew v).tree = true) : ∀ l : List (K × V), treeL (mtV ew l) = true
 | [] => rfl
 | p :: l => by
  show ((ew p.2).tree && treeL (mtV ew l)) = true
  rw [ht, CA ht l]; rfl
theorem CB {K V : Type} {kv : K → Value} {ew : V → VV} {H : Nat → Option VObj} (l : List (K × V)) : mapOf H (.mt (mtK kv l) (mtV ew l)) = some (encM kv ew l) := by
 simp only [mapOf, mtK, mtV, encM, Option.some.injEq]
 induction l with
 | nil => rfl
 | cons p l ih => simp only [List.map_cons, List.zip_cons_cons, ih]
section
variable {P : Program} {K V : Type} {q : K → K → Bool} {kv : K → Value} {ew : V → VV} {t kt et : TypeId} {H : Nat → Option VObj}
theorem KQ {fs : Array Field} {z : V} (hm : P.underlying t = some (.map kt et)) (hu : P.underlying kt = some (.struct fs)) (he : ∀ a b, aB P (Op.equal kt (kv a) (kv b)) = some (q a b)) (hc : ∀ b k, aB P (Instr.checkKey b 10000 kt (kv k)) = some ())
  (hz : ((P.info? et).bind (·.zero)).map ofVal2 = some (ew z)) {l : List (K × V)} {kx : VV} {k : K} (hk : kx.val? = some (kv k)) :
  vlookup P H t (.mt (mtK kv l) (mtV ew l)) kx false = some (ew (mapGet q z l k)) := by
 have := KG (H := fun _ => some (.map (encM kv ew l))) (β := 0) hm hu he hc hz hk rfl
 unfold vlookup at this ⊢
 rw [CB]
 exact this
end
theorem KR {ks : List Value} {vs : List VV} : (VV.mt ks vs).leaf = true := rfl
theorem KS {ks : List Value} {vs : List VV} : aY (.mt ks vs) = some [.mt ks vs] := rfl
theorem KT {ks : List Value} {vs : List VV} {l : List Nat} : tnL (.mt ks vs) l = l := rfl
def mqm := (And.intro @KR (And.intro @KS @KT))
end Go.V
end
section
set_option linter.defProp false
namespace Go.V
open Go
theorem Fl {ks : List Value} {vs : List VV} : normV (.mt ks vs) = .mt ks vs := by simp [normV]
theorem mZ {K V : Type} {kv : K → Value} {ev : V → VV} {l : List (K × V)} : (encM kv ev l).map (·.1) = mtK kv l := by simp [encM, mtK, Function.comp_def]
theorem KU {K V : Type} {kv : K → Value} {ev : V → VV} (h : ∀ H d v, showV H d (ev v) = ev v) {l : List (K × V)} {H : Nat → Option VObj} {d : Nat} : ((encM kv ev l).map (·.2)).map (showV H d) = mtV ev l := by
 simp [encM, mtV, Function.comp_def, h]
theorem mt_tr {K V : Type} {kv : K → Value} {ev : V → VV} (h : ∀ v, (ev v).tree = true) {l : List (K × V)} : (VV.mt (mtK kv l) (mtV ev l)).tree = true := CA h l
theorem AY {H : Nat → Option VObj} {d : Nat} {ks : List Value} {vs : List VV} : showV H d (.mt ks vs) = .mt ks vs := by cases d <;> rfl
end Go.V
end
section
set_option linter.defProp false
namespace Go.V
open Go
section
variable {P : Program} {G : Glob} {n : Nat} {γ : Nat} {tm : Nat → VV} {H : Nat → Option VObj} {nx : Nat} {df : List VDef} {K : St → Prop} {Kd : List Nat → List Nat → St → Prop} {Qp : VV → St → Prop} {Q : VExit → St → Prop}
 {d : Option Tmp} {ty : TypeId} {pos : String} {af : Array Edge} {g : Option (Nat × Bool)}
def mapHas {K V : Type} (q : K → K → Bool) (l : List (K × V)) (k : K) : Bool := (kIdx q k (l.map (·.1)) 0).isSome
end
section
variable {P : Program} {K V : Type} {q : K → K → Bool} {kv : K → Value} {ev : V → VV} {t kt et : TypeId} {H : Nat → Option VObj} {β : Nat}
theorem X0 {fs : Array Field} {z : V} (hm : P.underlying t = some (.map kt et)) (hu : P.underlying kt = some (.struct fs)) (he : ∀ a b, aB P (Op.equal kt (kv a) (kv b)) = some (q a b)) (hc : ∀ b k, aB P (Instr.checkKey b 10000 kt (kv k)) = some ())
  (hz : ((P.info? et).bind (·.zero)).map ofVal2 = some (ev z)) {l : List (K × V)} {kx : VV} {k : K} (hk : kx.val? = some (kv k)) (hb : H β = some (.map (encM kv ev l))) :
  vlookup P H t (.mp β) kx true = some (.tup [ev (mapGet q z l k), .lit (.bool (mapHas q l k))]) := by
 unfold vlookup
 rw [hm, hk]
 simp only [mapOf, hb]
 rw [hc, KE, xk hu he]
 cases hzz : (P.info? et).bind (·.zero) with
 | none => rw [hzz] at hz; cases hz
 | some z0 =>
  rw [hzz] at hz
  simp only [Option.map_some, Option.some.injEq] at hz
  unfold mapGet mapHas
  cases hi : kIdx q k (l.map (·.1)) 0 with
  | none => simp only [if_true, hz, Option.isSome_none]
  | some i =>
   obtain ⟨_, e, h1, _⟩ := FG _ _ _ hi
   rw [Nat.sub_zero, List.getElem?_map] at h1
   cases hl : l[i]? with
   | none => rw [hl] at h1; cases h1
   | some p =>
    have : (encM kv ev l)[i]? = some (kv p.1, ev p.2) := by unfold encM; rw [List.getElem?_map, hl]; rfl
    simp only [this, hl, if_true, Option.isSome_some]
end
section
variable {P : Program} {G : Glob} {H : Nat → Option VObj}
def VUpd (P : Program) (G : Glob) (f : FuncId) (A : Nat → List VV) (es es' : List (Value × VV)) (y : Nat → VV) : Prop :=
 ∀ β nx, β < nx → aK P G f (A β) (updH (fun _ => none) β (.map es)) nx (fun v H1 _ => H1 β = some (.map es') ∧ SealQ H1 β nx v (y β)) (fun _ _ _ => False)
theorem KV {β : Nat} {o : VObj} (h : H β = some o) : restr [β] H = updH (fun _ => none) β o := by
 funext γ
 unfold restr updH
 by_cases e : γ = β
 ·subst e; simp [h]
 ·simp [e]
theorem VUpd.at {f : FuncId} {A : Nat → List VV} {args : List VV} {es es' : List (Value × VV)} {y : Nat → VV} {β nx : Nat} (h : VUpd P G f A es es' y) (hlt : β < nx) (hb : H β = some (.map es)) (ha : normL args = A β) (hfl : okVL (fun _ => false) (es'.map (·.2)) = true) : UpdC P G f args H nx β es' (y β) := by
 refine ⟨es, hb, hfl, ?_⟩
 rw [KV hb]
 refine aK.weak (args' := A β) (fun c W vs hr => ?_) (h β nx hlt)
 rw [← ha]
 exact C8 _ hr
end
def litC (β b : Nat) : VV → VV
 | .mp γ => if γ = β then .lit (.map (some b)) else .mp γ
 | x => x
def litV (β b : Nat) : VV → VV
 | .agg cs => .agg (cs.map (litC β b))
 | x => x
section
variable {c : Ctx} {W : World} {β : Nat}
theorem KW (hl : c.live β) {x : VV} {v : Value} (h : Rep c W x v) : Rep c W (litC β (c.φ β) x) v := by
 cases x with
 | mp γ =>
  simp only [litC]
  split
  ·rename_i e
   subst e
   exact h.2 hl
  ·exact h
 | _ => exact h
theorem TF (hl : c.live β) : ∀ {xs : List VV} {l : List Value}, RepL c W xs l → RepL c W (xs.map (litC β (c.φ β))) l
 | [], _, h => h
 | _ :: _, _, ⟨u, us, e, h1, h2⟩ => ⟨u, us, e, KW hl h1, TF hl h2⟩
theorem KX (hl : c.live β) {x : VV} {v : Value} (h : Rep c W x v) : Rep c W (litV β (c.φ β) x) v := by
 cases x with
 | agg cs => obtain ⟨l, e, hl'⟩ := h; exact ⟨l, e, TF hl hl'⟩
 | _ => exact h
theorem CD (hl : c.live β) : ∀ {xs : List VV} {l : List Value}, RepL c W xs l → RepL c W (xs.map (litV β (c.φ β))) l
 | [], _, h => h
 | _ :: _, _, ⟨u, us, e, h1, h2⟩ => ⟨u, us, e, KX hl h1, CD hl h2⟩
theorem KY (hu : c.used β) {x : VV} {v : Value} (h : Rep c W (litC β (c.φ β) x) v) : Rep c W x v := by
 cases x with
 | mp γ =>
  simp only [litC] at h
  split at h
  ·rename_i e
   subst e
   have h' : v = .map (some (c.φ γ)) := h
   subst h'
   exact ⟨⟨hu, rfl⟩, fun _ => rfl⟩
  ·exact h
 | _ => exact h
theorem TG (hu : c.used β) : ∀ {xs : List VV} {l : List Value}, RepL c W (xs.map (litC β (c.φ β))) l → RepL c W xs l
 | [], _, h => h
 | _ :: _, _, ⟨u, us, e, h1, h2⟩ => ⟨u, us, e, KY hu h1, TG hu h2⟩
theorem KZ (hu : c.used β) {x : VV} {v : Value} (h : Rep c W (litV β (c.φ β) x) v) : Rep c W x v := by
 cases x with
 | agg cs => obtain ⟨l, e, hl'⟩ := h; exact ⟨l, e, TG hu hl'⟩
 | _ => exact h
end
section
variable {P : Program} {G : Glob} {H : Nat → Option VObj}
theorem aK.lit {f : FuncId} {args : List VV} {y : VV} {nx β : Nat} {es : List (Value × VV)} {args0 : Nat → List VV} (hb : H β = some (.map es)) (hn : ∀ b, normL (args.map (litV β b)) = args0 b)
  (ht : ∀ b, treeL (args.map (litV β b)) = true) (hp : ∀ b, ag P G f (args0 b) (.tree (litV β b y))) : aK P G f args H nx (fun x H' nx' => x = y ∧ H' = H ∧ nx' = nx) (fun _ _ _ => False) := by
 refine ⟨(hp 0).1, fun c W vs s hH hnx hG ha => ?_⟩
 have hl : c.live β := by simp [Ctx.live, hH, hb]
 have h1 := CD hl ha
 have h2 := hp (c.φ β)
 rw [← hn] at h2
 refine ((h2.norm).2 c.A W vs s.ltA (fun g cs hg => hG.tree g cs hg) (rD (ht _) h1)).mono ?_
 rintro e W' ⟨A', g1, g2, g3, hbl, v, rfl, hx⟩
 have he := Ext.more g1 g2 hbl
 refine ⟨c.more A', H, nx, he, Sim.more s g1 g2 g3 hbl, hH, fun β hb => .inl hb, hnx, qZf _, .inl ⟨y, v, rfl, ?_, rfl, rfl, rfl⟩⟩
 have h3 : Rep (c.more A') W' (litV β (c.φ β) y) v := Rep.abides (oT (fun _ h => h)) _ hx
 exact KZ (c := c.more A') (s.used β hl) h3
end
section
variable {P : Program} {G : Glob} {H : Nat → Option VObj}
end
theorem Fy {m : Option Nat} : normV (.lit (.map m)) = .lit (.map m) := by simp [normV]
end Go.V
end
section
namespace Go.V
open Go

end Go.V
end
