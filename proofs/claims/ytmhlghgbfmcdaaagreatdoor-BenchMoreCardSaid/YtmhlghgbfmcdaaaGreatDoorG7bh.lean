/- Part of a proof. -/
import Derived.Test.YtmhlghgbfmcdaaaGreatDoorG7bg
set_option linter.all false
section
namespace Go.V
open Go
def neB {α : Type} (xs : List α) : Bool := !xs.isEmpty
theorem vv {α : Type} {xs : List α} (h : neB xs = true) : 0 < xs.length := by
 cases xs with
 | nil => cases h
 | cons a l => exact Nat.succ_pos _
section
variable {P : Program} {H : Nat → Option VObj} {γ : Nat} {α : Type} {enc : α → List VV} {t t2 e e2 w b : Nat} {xs ys : List α} {el : Option TypeId} {β : Nat} {f : Bool} {k : VV → VEff → Prop}
theorem Ga (he : ∀ x, (enc x).length = w) (hl : ∀ x, leafL (enc x) = true) (ha : appOk P t = some (e, w, b)) (eJ : P.underlying t2 = some (.slice e2)) (hb : H β = some (.cells el (ae enc xs)))
  (hm : neB ys = true) (hr : roomOk b (xs ++ ys).length = true) (h : k (.ref γ 0 (xs ++ ys).length w (xs ++ ys).length) (.mv β (sameEl el e) (ae enc (xs ++ ys)))) :
  oeK (vappend P H γ t t2 (.ref β 0 xs.length w xs.length) (.sl (ae enc ys) ys.length f)) k := by
 have hm := vv hm
 obtain ⟨hu, inf, z, hi, hz, rfl, rfl, fB, oA, hzs⟩ := wz ha
 have hr' : (xs.length + ys.length) * inf.bytes ≤ 140737488355328 := by simpa [roomOk] using hr
 have h4 : (ae enc ys).all VV.leaf = true := by rw [qF]; exact s9 hl ys
 have h2 := dH he ys
 have h1 := dH he xs
 have h5 : (ae enc ys).take (ys.length * inf.size) = ae enc ys := List.take_of_length_le (by omega)
 have h6 : ¬ (xs.length + ys.length ≤ xs.length) := by omega
 have key : vappend P H γ t t2 (.ref β 0 xs.length inf.size xs.length) (.sl (ae enc ys) ys.length f) = some (.ref γ 0 (xs ++ ys).length inf.size (xs ++ ys).length, .mv β (sameEl el e) (ae enc (xs ++ ys))) := by
  simp only [vappend, nilS, vappend1, hu, eJ, hi, hz, srcV, sls, h5, h4, fB, oA, hzs, hb]
  simp [h2, h6, h1, hr', qG]
 rw [key]
 exact h
theorem uk (he : ∀ x, (enc x).length = w) (hl : ∀ x, leafL (enc x) = true) (ha : appOk P t = some (e, w, b)) (eJ : P.underlying t2 = some (.slice e2))
  (hm : neB ys = true) (hr : roomOk b ([] ++ ys).length = true) (h : k (.ref γ 0 ([] ++ ys).length w ([] ++ ys).length) (.new (.cells (some e) (ae enc ([] ++ ys))))) :
  oeK (vappend P H γ t t2 (.lit (.slice none 0 0)) (.sl (ae enc ys) ys.length f)) k := by
 have hm := vv hm
 obtain ⟨hu, inf, z, hi, hz, rfl, rfl, fB, oA, hzs⟩ := wz ha
 have hr' : ys.length * inf.bytes ≤ 140737488355328 := by simpa [roomOk] using hr
 have h4 : (ae enc ys).all VV.leaf = true := by rw [qF]; exact s9 hl ys
 have h2 := dH he ys
 have h5 : (ae enc ys).take (ys.length * inf.size) = ae enc ys := List.take_of_length_le (by omega)
 have h6 : ys ≠ [] := by intro h; rw [h] at hm; exact absurd hm (by simp)
 have key : vappend P H γ t t2 (.lit (.slice none 0 0)) (.sl (ae enc ys) ys.length f) = some (.ref γ 0 ([] ++ ys).length inf.size ([] ++ ys).length, .new (.cells (some e) (ae enc ([] ++ ys)))) := by
  simp only [vappend, nilS, vappend1, hu, eJ, hi, hz, srcV, sls, h5, h4, fB, oA, hzs]
  simp [h2, h6, hr']
 rw [key]
 exact h
theorem setA {x : α} {i : Int} (he : ∀ x, (enc x).length = w) (h : getI xs i = some x) : (i.toNat * w + w ≤ (ae enc xs).length) = True := by
 obtain ⟨h0, h1, _⟩ := nf h
 rw [dH he, eq_true_iff_of_true]
 have : i.toNat + 1 ≤ xs.length := by omega
 have := Nat.mul_le_mul_right w this
 rw [Nat.add_mul, Nat.one_mul] at this
 exact this
 where
 eq_true_iff_of_true : ∀ {p : Prop}, (p = True) = p := fun {p} => propext ⟨fun h => h ▸ trivial, fun h => eq_true h⟩
end
theorem Gb {P : Program} {H : Nat → Option VObj} {t e : TypeId} {x y : Operand} {cs : List VV} {n : Nat} {f : Bool} (hu : P.underlying t = some (.slice e)) (hc : cs ≠ []) : binV P H .eql t x y (.sl cs n f) (.lit (.slice none 0 0)) = some (.lit (.bool false)) := by
 simp [binV, VV.val?, vptrEq, vptrEq.eq1, hu, hc]
end Go.V
end
section
set_option linter.defProp false
namespace Go.V
open Go
section
variable {P : Program} {G : Glob} {n : Nat} {x : Code} {Q : VExit → St → Prop} {st : St}
end
theorem setC {α : Type} {enc : α → List VV} {w : Nat} (xs : List α) (n : Nat) (v : α) (he : ∀ x, (enc x).length = w) : List.take (xs.length * w) (ae enc (xs.set n v)) = ae enc (xs.set n v) :=
 List.take_of_length_le (by rw [dH he, List.length_set]; exact Nat.le_refl _)
end Go.V
end
section
set_option linter.defProp false
namespace Go.V
open Go
section
variable {P : Program} {G : Glob} {n : Nat} {Q : VExit → St → Prop} {tm : Nat → VV} {H : Nat → Option VObj} {nx : Nat} {df : List VDef} {g : Operand} {ps : Array Tmp} {az bo : Code} {f : FuncId} {first captured : List VV}
theorem L6 (hg : ev (G.at (some none)) tm g = .fn (.func f) first captured)
  (h : ∀ LO, LO = VObj.loop .ready none (tmL n tm) ps az bo nx → an P (G.at (some none)) f (first ++ [.yl (nx + 1)] ++ captured) (updH (updH H nx (.deferred (some []))) (nx + 1) LO) (nx + 2)
   (fun _ H' nx' => RangeEnd P (G.at (some none)) n Q ⟨tm, H, nx, df⟩ H' nx') (fun x H' nx' => Q (.panic x) ⟨tm, H', nx', .coll nx :: df⟩)) : CWp P (G.at (some none)) n (.rangeFunc g ps az bo) Q ⟨tm, H, nx, df⟩ := by
 unfold CWp
 refine ⟨rfl, ?_⟩
 rw [show St.ρ (G.at (some none)) ⟨tm, H, nx, df⟩ g = ev (G.at (some none)) tm g from ev_eq .. ▸ rfl, hg]
 exact h _ rfl
theorem KW {H' : Nat → Option VObj} {nx' : Nat} {LO : VObj} {tml : List VV} {d : Nat} (hL : LO = VObj.loop .ready none tml ps az bo d) (h : H' (nx + 1) = some LO) (hq : ∀ LX, Q .normal ⟨tm, updH H' (nx + 1) LX, nx', .coll nx :: df⟩) : RangeEnd P G n Q ⟨tm, H, nx, df⟩ H' nx' :=
 ⟨.ready, none, tml, ps, az, bo, d, by rw [h, hL], by simp, hq _⟩
theorem QZ {H' : Nat → Option VObj} {nx' : Nat} {LD : Code → VObj} {tml : List VV} {d : Nat} (hL : LD = fun c => VObj.loop .done (some c) tml ps az bo d) (h : H' (nx + 1) = some (LD .ret)) (hq : ∀ LX, Q .ret ⟨tm, updH H' (nx + 1) LX, nx', .coll nx :: df⟩) : RangeEnd P G n Q ⟨tm, H, nx, df⟩ H' nx' :=
 ⟨.done, some .ret, tml, ps, az, bo, d, by rw [h, hL], by simp, VWp.ret (hq _)⟩
def RndEnd (β : Nat) (LB LO : VObj) (LD : Code → VObj) (o : Oper) (st : St) (K : St → Prop) : VExit → St → Prop
 | .normal, s2 => s2.H β = some LB ∧ K { st.put o.dst (.lit (.bool true)) with H := updH s2.H β LO, nx := s2.nx }
 | .ret, s2 => s2.H β = some LB ∧ K { st.put o.dst (.lit (.bool false)) with H := updH s2.H β (LD .ret), nx := s2.nx }
 | .exit id, s2 => s2.H β = some LB ∧ K { st.put o.dst (.lit (.bool false)) with H := updH s2.H β (LD (.exit id)), nx := s2.nx }
 | _, _ => False
def RndAs (P : Program) (G : Glob) (n β : Nat) (LB LO : VObj) (LD : Code → VObj) (bo : Code) (o : Oper) (st : St) (K : St → Prop) : VExit → St → Prop
 | .normal, s1 => s1.H β = some LO ∧ CWp P (G.at (some (some β))) n bo (RndEnd β LB LO LD o st K) { s1 with H := updH s1.H β LB }
 | _, _ => False
theorem Gc (hm : P.follows .mixedOrders = true) {o : Oper} {β : Nat} {args : List VV} {st : St} {K : St → Prop} {LO : VObj} {tml : List VV} {d : Nat} {psl : List Tmp} (hL : LO = VObj.loop .ready none tml ⟨psl⟩ az bo d) (hβ : st.H β = some LO) (hn : tml.length = n) (ha : args.length = psl.length)
  (h1 : codeOk n az = true) (h2 : codeOk n bo = true)
  (h : ∀ LB LD, LB = VObj.loop .busy none tml ⟨psl⟩ az bo d → LD = (fun c => VObj.loop .done (some c) tml ⟨psl⟩ az bo d) →
   CWp P (G.at (some (some β))) n az (RndAs P G n β LB LO LD bo o st K) ⟨aP (roundTm tml psl args), st.H, st.nx, []⟩) : yieldK P G o β args st K := by
 unfold yieldK
 rw [hβ, hL]
 subst hn
 refine ⟨ha, (jZ hm az _ _ h1 (h _ _ rfl rfl)).mono ?_⟩
 intro e s1 hs
 cases e with
 | normal =>
  obtain ⟨q1, q2⟩ := hs
  refine ⟨none, tml, ⟨psl⟩, az, bo, d, by rw [q1, hL], (jZ hm bo _ _ h2 q2).mono ?_⟩
  intro e s2 fm
  cases e with
  | normal =>
   obtain ⟨r1, r2⟩ := fm
   refine ⟨_, _, _, _, _, _, _, r1, ?_⟩
   rw [hL] at r2
   exact r2
  | ret =>
   obtain ⟨r1, r2⟩ := fm
   exact ⟨_, _, _, _, _, _, _, r1, r2⟩
  | exit id =>
   obtain ⟨r1, r2⟩ := fm
   exact ⟨_, _, _, _, _, _, _, r1, r2⟩
  | goto l => exact fm.elim
  | panic x => exact fm.elim
 | _ => exact hs.elim
theorem E5 {m t p : Nat} {x : VV} (h : t < m) : aP (roundTm (tmL m tm) [p] [x]) t = if t = p then x else tm t := by
 unfold aP roundTm tmL
 simp only [List.zip_cons_cons, List.zip_nil_right, List.foldl_cons, List.foldl_nil]
 by_cases hp : t = p
 ·subst hp
  rw [if_pos rfl]
  simp [h]
 ·rw [if_neg hp]
  simp [List.getElem?_set, h, Ne.symm hp]
theorem E6 {m t : Nat} (h : t < m) : aP (roundTm (tmL m tm) [] []) t = tm t := by
 unfold aP roundTm tmL
 simp [h]
theorem E3 {m : Nat} : (tmL m tm).length = m := by simp [tmL]
theorem E4 {code : Code} (F : (Nat → VV) → Prop) (hF : F tm) (h : ∀ tm, F tm → CWp P G n code Q ⟨tm, H, nx, df⟩) : CWp P G n code Q ⟨tm, H, nx, df⟩ := h tm hF
theorem Gd {β : Nat} : aR (.yl β) = some [.yl β] := rfl
theorem Ge {β : Nat} : (VV.yl β).leaf = true := rfl
theorem aj.at {x : Option (Option Nat)} {args : List VV} {r : PRes} (h : aj P G f args r) : aj P (G.at x) f args r := h
def rg := (And.intro @Gd (And.intro @Ge @xP))
theorem tQ {fn : Func} {R Rp : VV → (Nat → Option VObj) → Nat → Prop} {β : Nat} (h : H β = some (.deferred (some []))) (h2 : OpenPostD P G fn R Rp .ret ⟨tm, updH H β (.deferred none), nx, df⟩) : OpenPostD P G fn R Rp .ret ⟨tm, H, nx, .coll β :: df⟩ := ⟨h, h2⟩
theorem Gf {fn : Func} {R Rp : VV → (Nat → Option VObj) → Nat → Prop} {β : Nat} (h : H β = some (.deferred (some []))) (h2 : OpenPostD P G fn R Rp .normal ⟨tm, updH H β (.deferred none), nx, df⟩) : OpenPostD P G fn R Rp .normal ⟨tm, H, nx, .coll β :: df⟩ := ⟨h, h2⟩
end
end Go.V
end
section
namespace Go.V
open Go
section
variable {P : Program} {G : Glob} {f : FuncId} {β γ w c nx : Nat} {tm : Nat → VV} {H : Nat → Option VObj} {df : List VDef} {d : Option Tmp} {K : List Nat → List Nat → St → Prop} {el : Option TypeId} {α : Type} {enc : α → List VV} {xs ys : List α} {x : VV}
end
section
variable {P : Program} {G : Glob} {β γ w e : Nat} {t ty : TypeId} {tm : Nat → VV} {H : Nat → Option VObj} {d : Option Tmp} {k : VV → VEff → Prop} {el : Option TypeId} {α : Type} {enc : α → List VV} {xs ys : List α} {pos : String} {af : Array Edge} {g : Option (Nat × Bool)} {x : Operand} {lo hi : Option Operand}
end
section
variable {P : Program} {G : Glob} {f : FuncId} {γ nx : Nat} {tm : Nat → VV} {H : Nat → Option VObj} {df : List VDef} {d : Option Tmp} {x : VV}
theorem ktree0 {K : St → Prop} {Qp : VV → St → Prop} (hp : aj P G f [] (.tree x)) (h : fin d γ tm H nx df K x .none) : callK P G f [] ⟨tm, H, nx, df⟩ d γ K Qp := ktree (args0 := []) rfl rfl hp h
end
end Go.V
end
section
namespace Go.V
open Go
variable {P : Program} {G : Glob} {β γ w e n off : Nat} {t ty : TypeId} {tm : Nat → VV} {H : Nat → Option VObj} {d : Option Tmp} {k : VV → VEff → Prop} {el : Option TypeId} {cs : List VV} {pos : String} {af : Array Edge} {g : Option (Nat × Bool)} {x : Operand}
end Go.V
namespace Go.V
open Go
end Go.V
end
section
namespace Go.V
open Go

end Go.V
end
section
set_option linter.defProp false
namespace Go.V
open Go
section
variable {P : Program} {H : Nat → Option VObj} {t : TypeId} {x y : Operand} {k : IntKind} {a b : Int}
end
end Go.V
end
section
namespace Go.V
open Go
section
variable {P : Program} {G : Glob} {ops : Array Oper} {base : Nat} {Q : VExit → St → Prop} {n : Nat}
end
end Go.V
namespace Go.V
open Go
section
variable {P : Program} {G : Glob} {ops : Array Oper} {base : Nat} {Q : VExit → St → Prop} {n : Nat}
end
section
variable {P : Program} {G : Glob} {ops : Array Oper} {base : Nat} {Q : VExit → St → Prop} {n : Nat} {i m b : Nat} {o : Oper} {l l2 : List Oper} {mk mE mL : List Bool} {tr : Tr} {K : Tr → St → Prop} {tm : Nat → VV} {H : Nat → Option VObj} {nx : Nat} {df : List VDef} {st : St} {rest : List (List Bool × Nat)}
end
end Go.V
namespace Go.V
set_option linter.defProp false
end Go.V
end
section
namespace Go.V
open Go
def gone (H H' : Nat → Option VObj) : Nat → Option VObj := fun β => if (H' β).isSome then none else H β
theorem au.gone (H H' : Nat → Option VObj) : au (gone H H') H := fun x o h => by
 unfold Go.V.gone at h
 split at h
 ·cases h
 ·exact h
def Frozen (H H' : Nat → Option VObj) (x y : VV) : Prop := y = x ∨ y = .any ∨ ∃ n, sealV (gone H H') n x = some y
def FrozenL (H H' : Nat → Option VObj) : List VV → List VV → Prop
 | [], [] => True
 | x :: xs, y :: ys => Frozen H H' x y ∧ FrozenL H H' xs ys
 | _, _ => False
def FrozenO (H H' : Nat → Option VObj) (o o' : VObj) : Prop := o' = o ∨ ∃ el cs cs', o = .cells el cs ∧ o' = .cells el cs' ∧ FrozenL H H' cs cs'
def Ctx.frz (c : Ctx) (H' : Nat → Option VObj) : Ctx := { c with H := H', A := fun b => c.A b ∨ ∃ β, c.live β ∧ (H' β).isSome = false ∧ c.φ β = b }
section
variable {c : Ctx} {W : World} {H' : Nat → Option VObj}
theorem rE (hl : ∀ β, (H' β).isSome = true → c.live β) : Abides c W (c.frz H') W := ⟨fun _ h => .inl h, fun _ _ => rfl, fun _ h => h, fun β _ h => hl β h, fun _ _ _ => rfl, fun _ _ _ => rfl⟩
theorem xt (hl : ∀ β, (H' β).isSome = true → c.live β) : Ext c W (c.frz H') W where
 A _ h := .inl h
 newA b h := h.imp id fun ⟨β, h1, _, e⟩ => .inr ⟨β, h1, e⟩
 used _ h := h
 live β _ h := hl β h
 φ _ _ _ := rfl
 room _ _ _ := rfl
 keep _ _ _ := rfl
 old x h _ := ⟨x, hl x h, rfl⟩
 size := Nat.le_refl _
 os := rfl
 tape := rfl
 output := rfl
theorem FA (s : Sim c W) (hl : ∀ β, (H' β).isSome = true → c.live β) {x y : VV} {v : Value} (h : Frozen c.H H' x y) (hr : Rep c W x v) : Rep (c.frz H') W y v := by
 rcases h with rfl | rfl | ⟨n, hn⟩
 ·exact Rep.abides (rE hl) _ hr
 ·unfold Rep; trivial
 ·have h1 := (lZ s (au.gone c.H H') n).1 x v y hn hr
  refine Rep.abides (h9 fun b hb => ?_) _ h1
  rcases hb with hb | ⟨β, hβ, e⟩
  ·exact .inl hb
  ·refine .inr ⟨β, ?_, ?_, e⟩
   ·unfold Go.V.gone at hβ
    split at hβ
    ·cases hβ
    ·exact hβ
   ·cases h0 : (H' β).isSome with
    | false => rfl
    | true => unfold Go.V.gone at hβ; rw [h0] at hβ; cases hβ
theorem xx (s : Sim c W) (hl : ∀ β, (H' β).isSome = true → c.live β) : ∀ {xs ys : List VV} {l : List Value}, FrozenL c.H H' xs ys → RepL c W xs l → RepL (c.frz H') W ys l
 | [], [], _, _, h => h
 | _ :: _, _ :: _, _, ⟨h1, h2⟩, ⟨u, us, e, r1, r2⟩ => ⟨u, us, e, FA s hl h1 r1, xx s hl h2 r2⟩
 | [], _ :: _, _, h, _ => h.elim
 | _ :: _, [], _, h, _ => h.elim
theorem FrozenL.length {H H' : Nat → Option VObj} : ∀ {xs ys : List VV}, FrozenL H H' xs ys → ys.length = xs.length
 | [], [], _ => rfl
 | _ :: _, _ :: _, h => by simp [FrozenL.length h.2]
 | [], _ :: _, h => h.elim
 | _ :: _, [], h => h.elim
theorem Sim.frz (s : Sim c W) (ho : ∀ β o', H' β = some o' → ∃ o, c.H β = some o ∧ FrozenO c.H H' o o') (hloop : ∀ x st pe tm ps asg bo df, H' x = some (.loop st pe tm ps asg bo df) → isDef H' df) : Sim (c.frz H') W := by
 have hl : ∀ β, (H' β).isSome = true → c.live β := by
  intro β h
  obtain ⟨o', h'⟩ := Option.isSome_iff_exists.1 h
  obtain ⟨o, h1, _⟩ := ho β o' h'
  simp [Ctx.live, h1]
 have ab : Abides c W (c.frz H') W := rE hl
 refine ⟨fun x h => s.used x (hl x h), fun x ox hx => ?_, fun x h => s.lt x (hl x h), fun x h => ?_, fun x y hx hy e => s.inj x y (hl x hx) (hl y hy) e, fun b hb => ?_⟩
 ·have cE : H' x = some ox := hx
  obtain ⟨o, h1, hf⟩ := ho x ox cE
  rcases hf with rfl | ⟨el, cs, cs', rfl, rfl, hcs⟩
  ·refine (s.obj x _ h1).abides ab (s.used x (hl x (by simp [cE]))) (by simp [Ctx.live, Ctx.frz, cE]) rfl ?_
   intro st pe tm ps asg bo df e'
   subst e'
   exact hloop x st pe tm ps asg bo df cE
  ·obtain ⟨arr, e, a1, a2, a3, a4, a5⟩ := s.obj x _ h1
   exact ⟨arr, e, a1, a2, by rw [hcs.length]; exact a3, by rw [hcs.length]; exact xx s hl hcs a4, a5⟩
 ·rintro (hA | ⟨β, h1, hn, e⟩)
  ·exact s.notA x (hl x h) hA
  ·have := s.inj β x h1 (hl x h) e
   subst this
   have h' : (H' β).isSome = true := h
   rw [h'] at hn; cases hn
 ·rcases hb with hA | ⟨β, h1, _, e⟩
  ·exact s.ltA b hA
  ·rw [← e]; exact s.lt β h1
end
theorem VWp.freeze {P : Program} {G : Glob} {n : Nat} {code : Code} {Q : VExit → St → Prop} {st : St} (H' : Nat → Option VObj) (tm' : Nat → VV) (ho : ∀ β o', H' β = some o' → ∃ o, st.H β = some o ∧ FrozenO st.H H' o o') (hloop : ∀ x s pe tm ps asg bo df, H' x = some (.loop s pe tm ps asg bo df) → isDef H' df)
  (htm : ∀ t, Frozen st.H H' (st.tm t) (tm' t)) (h : VWp P G n code Q ⟨tm', H', st.nx, st.df⟩) : VWp P G n code Q st := by
 intro ro c W a hro s hr hsz
 have ho' : ∀ β o', H' β = some o' → ∃ o, c.H β = some o ∧ FrozenO c.H H' o o' := by rw [hr.H]; exact ho
 have hl : ∀ β, (H' β).isSome = true → c.live β := by
  intro β h
  obtain ⟨o', h'⟩ := Option.isSome_iff_exists.1 h
  obtain ⟨o, h1, _⟩ := ho' β o' h'
  simp [Ctx.live, h1]
 have he : Ext c W (c.frz H') W := xt hl
 have ab : Abides c W (c.frz H') W := rE hl
 refine wpIn_mono (h ro (c.frz H') W a (hro.ext he) (s.frz ho' hloop) ⟨rfl, fun t => ?_, hr.nx, hr.df.abides ab, hr.G.abides ab⟩ hsz) fun _ _ _ hl => hl.of_ext he (fun β hb => .inl hb) (Nat.le_refl _)
 exact FA s hl (by rw [hr.H]; exact htm t) (hr.tm t)
end Go.V
end
section
namespace Go.V
open Go
theorem an.weak {P : Program} {G : Glob} {f : FuncId} {args args' : List VV} {H : Nat → Option VObj} {nx : Nat} {R Rp : VV → (Nat → Option VObj) → Nat → Prop} (hw : ∀ c W vs, RepL c W args vs → RepL c W args' vs) (h : an P G f args' H nx R Rp) : an P G f args H nx R Rp :=
 ⟨h.1, fun c W vs s hH hnx hG ha => h.2 c W vs s hH hnx hG (hw c W vs ha)⟩
theorem an.freeze {P : Program} {G : Glob} {f : FuncId} {args args' : List VV} {H : Nat → Option VObj} {nx : Nat} {R Rp : VV → (Nat → Option VObj) → Nat → Prop} (H' : Nat → Option VObj) (ho : ∀ β o', H' β = some o' → ∃ o, H β = some o ∧ FrozenO H H' o o')
  (hloop : ∀ x s pe tm ps asg bo df, H' x = some (.loop s pe tm ps asg bo df) → isDef H' df) (ha : FrozenL H H' args args') (h : an P G f args' H' nx R Rp) : an P G f args H nx R Rp := by
 refine ⟨h.1, fun c W vs s hH hnx hG hargs => ?_⟩
 have ho' : ∀ β o', H' β = some o' → ∃ o, c.H β = some o ∧ FrozenO c.H H' o o' := by rw [hH]; exact ho
 have hl : ∀ β, (H' β).isSome = true → c.live β := by
  intro β h
  obtain ⟨o', h'⟩ := Option.isSome_iff_exists.1 h
  obtain ⟨o, h1, _⟩ := ho' β o' h'
  simp [Ctx.live, h1]
 have he : Ext c W (c.frz H') W := xt hl
 have ab : Abides c W (c.frz H') W := rE hl
 refine (h.2 (c.frz H') W vs (s.frz ho' hloop) rfl hnx (hG.abides ab) (xx s hl (by rw [hH]; exact ha) hargs)).mono ?_
 rintro e W' ⟨c', H1, nx', g1, g2, g3, g4, g5, g6, g7⟩
 exact ⟨c', H1, nx', he.trans g1, g2, g3, g4, g5, g6, g7⟩
def Yields (P : Program) (G : Glob) (β : Nat) (x : VV) (H : Nat → Option VObj) (nx : Nat) (Post : Bool → (Nat → Option VObj) → Nat → Prop) : Prop :=
 ∀ (r : Option (Option Nat)) (o : Oper) (st : St) (K : St → Prop), st.H = H → st.nx = nx → (∀ b H' nx', Post b H' nx' → K ⟨(match o.dst with | some d => upd st.tm d (.lit (.bool b)) | none => st.tm), H', nx', st.df⟩) → yieldK P (G.at r) o β [x] st K
theorem Yields.mono {P : Program} {G : Glob} {β : Nat} {x : VV} {H : Nat → Option VObj} {nx : Nat} {Post Post' : Bool → (Nat → Option VObj) → Nat → Prop} (h : Yields P G β x H nx Post) (hp : ∀ b H' nx', Post b H' nx' → Post' b H' nx') : Yields P G β x H nx Post' :=
 fun r o st K h1 h2 hk => h r o st K h1 h2 fun b H' nx' hp' => hk b H' nx' (hp b H' nx' hp')
abbrev Inv := Option (List VV) → (Nat → Prop) → (Nat → Option VObj) → Nat → Prop
def Stable (I : Inv) : Prop := ∀ o (Fr pG : Nat → Prop) (H H1 : Nat → Option VObj) (nx bp : Nat), I o Fr H nx → (∀ γ, γ < nx → ¬ Fr γ → H1 γ = H γ) → nx ≤ bp → (∀ γ, pG γ → Fr γ ∨ (nx ≤ γ ∧ γ < bp)) → I o pG H1 bp
def Rounds (P : Program) (G : Glob) (β : Nat) (I : Inv) : Prop := ∀ x rest (Fr : Nat → Prop) (H : Nat → Option VObj) (nx : Nat), (∀ γ, Fr γ → γ < nx) → I (some (x :: rest)) Fr H nx →
 Yields P G β x H nx (fun b H' nx' => nx ≤ nx' ∧ (∀ γ, Fr γ → H' γ = H γ) ∧ I (if b then some rest else none) Fr H' nx')
def noFr : Nat → Prop := fun _ => False
def Iter (P : Program) (G : Glob) (g : VV) (L : List VV) : Prop := ∃ f first captured, g = .fn (.func f) first captured ∧ ∀ (β : Nat) (I : Inv), Stable I → Rounds P G β I → ∀ (H : Nat → Option VObj) (nx : Nat), β < nx → I (some L) noFr H nx →
 an P G f (first ++ [.yl β] ++ captured) H nx (fun _ H' nx' => I (some []) noFr H' nx' ∨ I none noFr H' nx') (fun _ _ _ => False)
def Own (hp : List (Nat × VObj)) (Fr : Nat → Prop) (H : Nat → Option VObj) (nx : Nat) : Prop := ∀ p ∈ hp, p.1 < nx ∧ ¬ Fr p.1 ∧ H p.1 = some p.2
theorem Own.stable {hp : List (Nat × VObj)} {Fr pG : Nat → Prop} {H H1 : Nat → Option VObj} {nx bp : Nat} (h : Own hp Fr H nx) (h1 : ∀ γ, γ < nx → ¬ Fr γ → H1 γ = H γ) (h2 : nx ≤ bp) (h3 : ∀ γ, pG γ → Fr γ ∨ (nx ≤ γ ∧ γ < bp)) : Own hp pG H1 bp := by
 intro p hp
 obtain ⟨a, b, c⟩ := h p hp
 refine ⟨Nat.lt_of_lt_of_le a h2, fun hf => ?_, by rw [h1 p.1 a b]; exact c⟩
 rcases h3 p.1 hf with hf | hf
 ·exact b hf
 ·omega
theorem Own.nil {Fr : Nat → Prop} {H : Nat → Option VObj} {nx : Nat} : Own [] Fr H nx := fun _ h => by cases h
theorem Own.cons {p : Nat} {o : VObj} {hp : List (Nat × VObj)} {Fr : Nat → Prop} {H : Nat → Option VObj} {nx : Nat} (h1 : p < nx) (h2 : ¬ Fr p) (h3 : H p = some o) (h : Own hp Fr H nx) : Own ((p, o) :: hp) Fr H nx := by
 intro q hq
 rcases List.mem_cons.1 hq with rfl | hq
 ·exact ⟨h1, h2, h3⟩
 ·exact h q hq
theorem Own.head {p : Nat} {o : VObj} {hp : List (Nat × VObj)} {Fr : Nat → Prop} {H : Nat → Option VObj} {nx : Nat} (h : Own ((p, o) :: hp) Fr H nx) : p < nx ∧ ¬ Fr p ∧ H p = some o := h (p, o) (List.mem_cons_self ..)
theorem Own.tail {p : Nat} {o : VObj} {hp : List (Nat × VObj)} {Fr : Nat → Prop} {H : Nat → Option VObj} {nx : Nat} (h : Own ((p, o) :: hp) Fr H nx) : Own hp Fr H nx := fun q hq => h q (List.mem_cons_of_mem _ hq)
def ownI (J : Option (List VV) → List (Nat × VObj) → Prop) : Inv := fun o Fr H nx => ∃ hp, Own hp Fr H nx ∧ J o hp
theorem Qb {J : Option (List VV) → List (Nat × VObj) → Prop} : Stable (ownI J) := fun _ _ _ _ _ _ _ ⟨hp, h, hj⟩ h1 h2 h3 => ⟨hp, h.stable h1 h2 h3, hj⟩
def ownI2 (I : Inv) (J : Option (List VV) → Option (List VV) → List (Nat × VObj) → Prop) : Inv := fun o Fr H nx => ∃ hp o', Own hp Fr H nx ∧ J o o' hp ∧ I o' (fun γ => Fr γ ∨ ∃ p ∈ hp, p.1 = γ) H nx
theorem Rc {I : Inv} (hs : Stable I) {J : Option (List VV) → Option (List VV) → List (Nat × VObj) → Prop} : Stable (ownI2 I J) := by
 rintro o Fr pG H H1 nx bp ⟨hp, o', h, hj, hi⟩ h1 h2 h3
 refine ⟨hp, o', h.stable h1 h2 h3, hj, hs _ _ _ _ _ _ _ hi (fun γ hlt hn => h1 γ hlt fun hf => hn (.inl hf)) h2 ?_⟩
 rintro γ (hf | hf)
 ·rcases h3 γ hf with hf | hf
  ·exact .inl (.inl hf)
  ·exact .inr hf
 ·exact .inl (.inr hf)
section
variable {P : Program} {G : Glob} {n : Nat} {Q : VExit → St → Prop} {tm : Nat → VV} {H : Nat → Option VObj} {nx : Nat} {df : List VDef} {g : Operand} {ps : Array Tmp} {az bo : Code}
def RPost (β : Nat) (LB LO : VObj) (LD : Code → VObj) (Post : Bool → (Nat → Option VObj) → Nat → Prop) : VExit → St → Prop
 | .normal, s => s.H β = some LB ∧ Post true (updH s.H β LO) s.nx
 | .ret, s => s.H β = some LB ∧ Post false (updH s.H β (LD .ret)) s.nx
 | .exit id, s => s.H β = some LB ∧ Post false (updH s.H β (LD (.exit id))) s.nx
 | _, _ => False
def RStart (P : Program) (G : Glob) (n β : Nat) (LB LO : VObj) (LD : Code → VObj) (bo : Code) (Post : Bool → (Nat → Option VObj) → Nat → Prop) : VExit → St → Prop
 | .normal, s => s.H β = some LO ∧ CWp P (G.at (some (some β))) n bo (RPost β LB LO LD Post) { s with H := updH s.H β LB }
 | _, _ => False
theorem E2 (hm : P.follows .mixedOrders = true) {β : Nat} {x : VV} {Post : Bool → (Nat → Option VObj) → Nat → Prop} {LO : VObj} {tml : List VV} {d : Nat} {psl : List Tmp} (hL : LO = VObj.loop .ready none tml ⟨psl⟩ az bo d) (hβ : H β = some LO) (hn : tml.length = n) (ha : psl.length = 1)
  (h1 : codeOk n az = true) (h2 : codeOk n bo = true)
  (h : ∀ LB LD, LB = VObj.loop .busy none tml ⟨psl⟩ az bo d → LD = (fun c => VObj.loop .done (some c) tml ⟨psl⟩ az bo d) →
   CWp P (G.at (some (some β))) n az (RStart P G n β LB LO LD bo Post) ⟨aP (roundTm tml psl [x]), H, nx, []⟩) : Yields P G β x H nx Post := by
 intro r o st K e1 e2 hk
 subst e1 e2
 replace hk : ∀ b H' nx', Post b H' nx' → K { st.put o.dst (.lit (.bool b)) with H := H', nx := nx' } := by
  intro b H' nx' hp
  have := hk b H' nx' hp
  obtain ⟨d, op, ty, pos, af, gd⟩ := o
  cases d <;> exact this
 refine Gc hm hL hβ hn (by simp [ha]) h1 h2 fun LB LD hB hD => ?_
 refine CWp.mono az _ ?_ (h LB LD hB hD)
 intro e s hs
 cases e with
 | normal =>
  refine ⟨hs.1, CWp.mono bo _ ?_ hs.2⟩
  intro e s2 fm
  cases e with
  | normal => exact ⟨fm.1, hk _ _ _ fm.2⟩
  | ret => exact ⟨fm.1, hk _ _ _ fm.2⟩
  | exit id => exact ⟨fm.1, hk _ _ _ fm.2⟩
  | goto l => exact fm.elim
  | panic x => exact fm.elim
 | _ => exact hs.elim
theorem Rd {itv : VV} {L : List VV} (hit : Iter P G itv L) (hg : ev (G.at (some none)) tm g = itv)
  (h : ∀ LO, LO = VObj.loop .ready none (tmL n tm) ps az bo nx → ∃ I : Inv, Stable I ∧ Rounds P G (nx + 1) I ∧ I (some L) noFr (updH (updH H nx (.deferred (some []))) (nx + 1) LO) (nx + 2) ∧
   ∀ H' nx', I (some []) noFr H' nx' ∨ I none noFr H' nx' → RangeEnd P (G.at (some none)) n Q ⟨tm, H, nx, df⟩ H' nx') : CWp P (G.at (some none)) n (.rangeFunc g ps az bo) Q ⟨tm, H, nx, df⟩ := by
 obtain ⟨f, first, captured, rfl, hv⟩ := hit
 refine L6 hg fun LO hL => ?_
 obtain ⟨I, hs, hr, h0, he⟩ := h LO hL
 exact an.mono (hv (nx + 1) I hs hr _ _ (Nat.lt_succ_self _) h0) (fun _ H' nx' hh => he H' nx' hh) (fun _ _ _ hh => hh.elim)
end
end Go.V
end
section
namespace Go.V
open Go
theorem an.freeze1 {P : Program} {G : Glob} {f : FuncId} {args args' : List VV} {H : Nat → Option VObj} {nx γ : Nat} {el : Option TypeId} {cs : List VV} {R Rp : VV → (Nat → Option VObj) → Nat → Prop} (hγ : H γ = some (.cells el cs))
  (ha : FrozenL H (without H γ) args args') (h : an P G f args' (without H γ) nx R Rp) : an P G f args H nx R Rp := by
 refine ⟨h.1, fun c W vs s hH hnx hG hargs => ?_⟩
 subst hH
 have ho' : ∀ β o', without c.H γ β = some o' → ∃ o, c.H β = some o ∧ FrozenO c.H (without c.H γ) o o' := fun β o' hb => ⟨o', au.without _ _ β o' hb, .inl rfl⟩
 have hl : ∀ β, (without c.H γ β).isSome = true → c.live β := by
  intro β h
  obtain ⟨o', h'⟩ := Option.isSome_iff_exists.1 h
  obtain ⟨o, h1, _⟩ := ho' β o' h'
  simp [Ctx.live, h1]
 have he : Ext c W (c.frz (without c.H γ)) W := xt hl
 have ab : Abides c W (c.frz (without c.H γ)) W := rE hl
 have hloop : ∀ x st pe tm ps asg bo df, without c.H γ x = some (.loop st pe tm ps asg bo df) → isDef (without c.H γ) df := by
  intro x st pe tm ps asg bo df hx
  obtain ⟨l, fn, _, _, _, hd⟩ := s.obj x _ (au.without _ _ x _ hx)
  exact hd.without hγ
 refine (h.2 (c.frz (without c.H γ)) W vs (s.frz ho' hloop) rfl hnx (hG.abides ab) (xx s hl ha hargs)).mono ?_
 rintro e W' ⟨c', H1, nx', g1, g2, g3, g4, g5, g6, g7⟩
 exact ⟨c', H1, nx', he.trans g1, g2, g3, g4, g5, g6, g7⟩
theorem Frozen.same {H H' : Nat → Option VObj} {x : VV} : Frozen H H' x x := .inl rfl
theorem FrozenL.same {H H' : Nat → Option VObj} : ∀ {xs : List VV}, FrozenL H H' xs xs
 | [] => trivial
 | _ :: _ => ⟨.same, .same⟩
theorem Frozen.own {H : Nat → Option VObj} {γ n w cp : Nat} {el : Option TypeId} {cs : List VV} (hγ : H γ = some (.cells el cs)) (ht : treeL cs = true) (hl : cs.length = n * w) : Frozen H (without H γ) (.ref γ 0 n w cp) (.sl cs n false) := by
 refine .inr (.inr ⟨cs.length + 2, ?_⟩)
 have hg : gone H (without H γ) γ = some (.cells el cs) := by simp [gone, without, hγ]
 unfold sealV
 have : (VV.ref γ 0 n w cp).tree = false := rfl
 rw [this]
 simp only [Bool.false_eq_true, if_false, hg, Nat.zero_le, if_true, List.drop_zero]
 rw [List.take_of_length_le (by omega), qH cs _ ht (by omega)]
 rfl
theorem aj.weaken {P : Program} {G : Glob} {f : FuncId} {args args' : List VV} {r : PRes} (hw : ∀ c W vs, RepL c W args vs → RepL c W args' vs) (h : aj P G f args' r) : aj P G f args r :=
 ⟨h.1, fun A W vs h1 h2 h3 => h.2 A W vs h1 h2 (hw _ W vs h3)⟩
theorem Gg {c : Ctx} {W : World} {v : Value} (h : Rep c W (.lit (.slice none 0 0)) v) : Rep c W (.sl [] 0 false) v := by
 have e : v = .slice none 0 0 := h
 subst e
 exact ⟨none, 0, rfl, Nat.le_refl _, fun h => by simp at h, .inl rfl⟩
def vx {α : Type} (enc : α → List VV) : List α → VV
 | [] => .lit (.slice none 0 0)
 | l => .sl (ae enc l) l.length false
theorem Gh {α : Type} {enc : α → List VV} {c : Ctx} {W : World} {v : Value} : ∀ {l : List α}, Rep c W (vx enc l) v → Rep c W (.sl (ae enc l) l.length false) v
 | [], h => Gg h
 | _ :: _, h => h
theorem Gi {α : Type} {enc : α → List VV} {l : List α} (h : l ≠ []) : vx enc l = .sl (ae enc l) l.length false := by cases l with
 | nil => exact absurd rfl h
 | cons a l => rfl
def listsB (may : List Int → Int → Bool) (lim : Nat) : Nat → List Int → List (List Int)
 | 0, p => [p]
 | d + 1, p => (List.range' 0 lim).flatMap fun i : Nat => if may p (i : Int) then listsB may lim d (p ++ [(i : Int)]) else []
end Go.V
namespace Go.V
theorem Gj {α : Type} {enc : α → List VV} (he : EncOk enc) : ∀ {l : List α}, (vx enc l).tree = true
 | [] => rfl
 | a :: l => he.treeL (a :: l)
end Go.V
namespace Go.V
theorem an.of_pure {P : Program} {G : Glob} {f : FuncId} {args : List VV} {x : VV} {H : Nat → Option VObj} {nx : Nat} (h : aj P G f args (.tree x)) (ht : treeL args = true) : an P G f args H nx (fun y H' nx' => y = x ∧ H' = H ∧ nx' = nx) (fun _ _ _ => False) := by
 refine ⟨h.1, fun c W vs s hH hnx hG ha => (h.2 c.A W vs s.ltA (fun g cs hg => hG.tree g cs hg) (iS ht ha)).mono ?_⟩
 rintro e W' ⟨A', h1, h2, h3, hb, v, rfl, hx⟩
 exact ⟨c.more A', H, nx, Ext.more h1 h2 hb, Sim.more s h1 h2 h3 hb, hH, fun β hb => .inl hb, hnx, Nat.le_refl _, .inl ⟨x, v, rfl, Rep.abides (h9 (fun _ h => h)) _ hx, rfl, rfl, rfl⟩⟩
abbrev sI (l : List Int) : VV := .sl (ae eI l) l.length false
theorem Gk {L : List (List Int)} (h : ∀ q ∈ L, q ≠ []) : L.map (vx eI) = L.map sI := List.map_congr_left fun q hq => Gi (h q hq)
end Go.V
namespace Go.V
end Go.V
namespace Go.V
def goL (rc : List Int → Option (List (List Int))) (may : List Int → Int → Option Bool) (p : List Int) : List Nat → Option (List (List Int))
 | [] => some []
 | i :: is => Option.bind (may p (i : Int)) fun b => cond b (Option.bind (rc (p ++ [(i : Int)])) fun a => Option.bind (goL rc may p is) fun r => some (a ++ r)) (goL rc may p is)
def listsO (may : List Int → Int → Option Bool) (lim : Nat) : Nat → List Int → Option (List (List Int))
 | 0, p => some [p]
 | d + 1, p => goL (listsO may lim d) may p (List.range' 0 lim)
theorem vw {rc : List Int → Option (List (List Int))} {rb : List Int → List (List Int)} {may : List Int → Int → Option Bool} {m : List Int → Int → Bool} {p : List Int} : ∀ (is : List Nat), (∀ i ∈ is, may p (i : Int) = some (m p (i : Int))) → (∀ i ∈ is, m p (i : Int) = true → rc (p ++ [(i : Int)]) = some (rb (p ++ [(i : Int)]))) →
  goL rc may p is = some (is.flatMap fun i : Nat => if m p (i : Int) then rb (p ++ [(i : Int)]) else [])
 | [], _, _ => rfl
 | i :: is, h1, h2 => by
  have ih := vw (rb := rb) is (fun j hj => h1 j (List.mem_cons_of_mem _ hj)) (fun j hj => h2 j (List.mem_cons_of_mem _ hj))
  unfold goL
  rw [h1 i (List.mem_cons_self ..), ih]
  cases hb : m p (i : Int) with
  | false => simp [List.flatMap_cons, hb]
  | true => rw [Option.bind_some, cond_true, h2 i (List.mem_cons_self ..) hb]; simp [List.flatMap_cons, hb]
theorem KX {may : List Int → Int → Option Bool} {m : List Int → Int → Bool} {lim ln : Nat} (h : ∀ p j, p.length < ln → (∀ a ∈ p, 0 ≤ a ∧ a < (lim : Int)) → 0 ≤ j → j < (lim : Int) → may p j = some (m p j)) : ∀ (d : Nat) (p : List Int), p.length + d = ln → (∀ a ∈ p, 0 ≤ a ∧ a < (lim : Int)) → listsO may lim d p = some (listsB m lim d p)
 | 0, p, _, _ => rfl
 | d + 1, p, hd, hp => by
  unfold listsO listsB
  refine vw _ (fun i hi => h p i (by omega) hp (by omega) (by have := (List.mem_range'_1.1 hi).2; omega)) (fun i hi _ => KX h d _ (by simp; omega) ?_)
  intro a ha
  rcases List.mem_append.1 ha with ha | ha
  ·exact hp a ha
  ·rw [List.mem_singleton.1 ha]
   have := (List.mem_range'_1.1 hi).2
   omega
theorem qs {rc : List Int → Option (List (List Int))} {may : List Int → Int → Option Bool} {p : List Int} {Pr : List Int → Prop} (hr : ∀ i L, rc (p ++ [(i : Int)]) = some L → ∀ q ∈ L, Pr q) : ∀ (is : List Nat) (L : List (List Int)), goL rc may p is = some L → ∀ q ∈ L, Pr q
 | [], L, h, q, hq => by simp [goL] at h; subst h; cases hq
 | i :: is, L, h, q, hq => by
  unfold goL at h
  cases hm : may p (i : Int) with
  | none => rw [hm] at h; cases h
  | some b =>
   rw [hm, Option.bind_some] at h
   cases b with
   | false => exact qs hr is L h q hq
   | true =>
    rw [cond_true] at h
    cases ha : rc (p ++ [(i : Int)]) with
    | none => rw [ha] at h; cases h
    | some a =>
     rw [ha, Option.bind_some] at h
     cases hg : goL rc may p is with
     | none => rw [hg] at h; cases h
     | some r =>
      rw [hg, Option.bind_some] at h
      cases h
      rcases List.mem_append.1 hq with hq | hq
      ·exact hr i a ha q hq
      ·exact qs hr is r hg q hq
theorem EH {may : List Int → Int → Option Bool} {lim : Nat} : ∀ (d : Nat) (p : List Int) (L : List (List Int)), listsO may lim d p = some L → ∀ q ∈ L, q.length = p.length + d
 | 0, p, L, h, q, hq => by
  simp [listsO] at h; subst h
  rw [List.mem_singleton.1 hq]; rfl
 | d + 1, p, L, h, q, hq => by
  unfold listsO at h
  exact qs (Pr := fun q => q.length = p.length + (d + 1)) (fun i L' h' q' hq' => by rw [EH d _ L' h' q' hq']; simp; omega) _ L h q hq
end Go.V
namespace Go.V
end Go.V
namespace Go.V
theorem Frozen.ptr {H H' : Nat → Option VObj} {γ : Nat} {el : Option TypeId} {cs : List VV} (hγ : H γ = some (.cells el cs)) (hn : (H' γ).isSome = false) (ht : treeL cs = true) : Frozen H H' (.ptr γ 0) (.tp cs) := by
 refine .inr (.inr ⟨cs.length + 2, ?_⟩)
 have hg : gone H H' γ = some (.cells el cs) := by simp [gone, hn, hγ]
 unfold sealV
 have : (VV.ptr γ 0).tree = false := rfl
 rw [this]
 simp only [Bool.false_eq_true, if_false, hg, Nat.zero_le, if_true, List.drop_zero]
 rw [qH cs _ ht (by omega)]
 rfl
end Go.V
end
section
namespace Go.V
open Go
section
variable {P : Program} {G : Glob} {H : Nat → Option VObj} {γ : Nat} {α : Type} {enc : α → List VV} {t t2 e e2 w b : Nat} {xs ys : List α} {el : Option TypeId} {β : Nat} {f : Bool} {k : VV → VEff → Prop}
end
end Go.V
namespace Go.V
open Go
end Go.V
namespace Go.V
open Go
end Go.V
namespace Go.V
open Go
set_option linter.defProp false
end Go.V
end
section
set_option linter.defProp false
namespace Go.V
open Go
def kIdx {K : Type} (q : K → K → Bool) (k : K) : List K → Nat → Option Nat
 | [], _ => none
 | e :: es, i => cond (q k e) (some i) (kIdx q k es (i + 1))
theorem xc {K : Type} {q : K → K → Bool} {k : K} : ∀ (es : List K) (i j : Nat), kIdx q k es i = some j → i ≤ j ∧ ∃ e, es[j - i]? = some e ∧ q k e = true
 | [], _, _, h => by cases h
 | e :: es, i, j, h => by
  unfold kIdx at h
  cases hq : q k e with
  | true =>
   rw [hq] at h
   simp only [cond_true, Option.some.injEq] at h
   subst h
   exact ⟨Nat.le_refl _, e, by simp, hq⟩
  | false =>
   rw [hq] at h
   simp only [cond_false] at h
   obtain ⟨h1, x, h2, h3⟩ := xc es (i + 1) j h
   refine ⟨by omega, x, ?_, h3⟩
   rw [show j - i = (j - (i + 1)) + 1 by omega]
   simpa using h2
def mapGet {K V : Type} (q : K → K → Bool) (z : V) (l : List (K × V)) (k : K) : V := match kIdx q k (l.map (·.1)) 0 with
 | some i => match l[i]? with | some p => p.2 | none => z
 | none => z
def mapSet {K V : Type} (q : K → K → Bool) (l : List (K × V)) (k : K) (v : V) : List (K × V) := match kIdx q k (l.map (·.1)) 0 with
 | some i => l.set i (k, v)
 | none => l ++ [(k, v)]
def encM {K V : Type} (kv : K → Value) (ev : V → VV) (l : List (K × V)) : List (Value × VV) := l.map fun p => (kv p.1, ev p.2)
section
variable {P : Program} {K V : Type} {q : K → K → Bool} {kv : K → Value} {ev : V → VV} {t kt et : TypeId} {H : Nat → Option VObj} {β : Nat}
theorem L7 (he : ∀ a b, aD P (Op.equal kt (kv a) (kv b)) = some (q a b)) (k : K) : ∀ (ks : List K) (i : Nat), aD P (Instr.findAsking kt (kv k) ((ks.map kv).map dummy) i) = some ((kIdx q k ks i).map fun j => (j, Value.bool false))
 | [], i => rfl
 | e :: es, i => by
  simp only [List.map_cons, Instr.findAsking, kIdx]
  rw [bS]
  have h0 : aD P (Op.equal kt (kv k) (dummy (kv e)).key) = some (q k e) := he k e
  rw [h0, Option.bind_some]
  cases q k e with
  | true => rfl
  | false => exact L7 he k es (i + 1)
theorem vy {fs : Array Field} (hu : P.underlying kt = some (.struct fs)) (he : ∀ a b, aD P (Op.equal kt (kv a) (kv b)) = some (q a b)) (k : K) (ks : List K) : kfind P kt (kv k) (ks.map kv) = some (kIdx q k ks 0) := by
 unfold kfind Instr.findKey
 rw [bS, qw hu, Option.bind_some]
 have ha := L7 he k ks 0
 cases ks with
 | nil => rfl
 | cons e es =>
  have hn : Instr.findNow (.struct fs) (kv k) (((e :: es).map kv).map dummy) 0 = none := by
   simp only [List.map_cons, Instr.findNow]
   have : Instr.sameNow (.struct fs) (kv k) (dummy (kv e)).key = none := by cases kv k <;> rfl
   rw [this]
  rw [hn]
  simp only []
  rw [ha]
  cases kIdx q k (e :: es) 0 <;> rfl
theorem L8 {l : List (K × V)} : (encM kv ev l).map (·.1) = (l.map (·.1)).map kv := by simp [encM, Function.comp_def]
theorem Re {fs : Array Field} (hm : P.underlying t = some (.map kt et)) (hu : P.underlying kt = some (.struct fs)) (he : ∀ a b, aD P (Op.equal kt (kv a) (kv b)) = some (q a b)) (hc : ∀ b k, aD P (Instr.checkKey b 10000 kt (kv k)) = some ())
  (hq : ∀ a b, q a b = true → a = b) (hs : ∀ a, Instr.sameBits 10000 (kv a) (kv a) = true) {l : List (K × V)} {kx : VV} {k : K} {v : V} (hk : kx.val? = some (kv k)) (hb : H β = some (.map (encM kv ev l))) :
  vmapUpdate P H t (.mp β) kx (ev v) = some (.upd β (.map (encM kv ev (mapSet q l k v)))) := by
 unfold vmapUpdate
 rw [hm, hk]
 simp only [hb]
 rw [hc, L8, vy hu he]
 unfold mapSet
 cases hi : kIdx q k (l.map (·.1)) 0 with
 | none => simp only [encM, List.map_append, List.map_cons, List.map_nil]
 | some i =>
  obtain ⟨_, e, h1, h2⟩ := xc _ _ _ hi
  rw [Nat.sub_zero, List.getElem?_map] at h1
  cases hl : l[i]? with
  | none => rw [hl] at h1; cases h1
  | some p =>
   have h3 : (encM kv ev l)[i]? = some (kv p.1, ev p.2) := by unfold encM; rw [List.getElem?_map, hl]; rfl
   rw [hl] at h1
   simp only [Option.map_some, Option.some.injEq] at h1
   have h4 := hq _ _ h2
   subst h4
   subst h1
   simp only [h3, hs, if_true]
   simp only [encM, List.map_set]
end
section
variable {P : Program} {G : Glob} {γ : Nat} {tm : Nat → VV} {H : Nat → Option VObj} {nx : Nat} {df : List VDef} {K : St → Prop} {Kd : List Nat → List Nat → St → Prop} {Qp : VV → St → Prop}
 {d : Option Tmp} {ty : TypeId} {pos : String} {af : Array Edge} {g : Option (Nat × Bool)}
theorem Rf {t : TypeId} : aK P G γ ⟨d, .makeMap t none, ty, pos, af, g⟩ ⟨tm, H, nx, df⟩ K Qp = fin d γ tm H nx df K (.mp γ) (.new (.map [])) := by
 rw [dE (by simp) (by simp) (by simp)]; rfl
theorem Rg {t : TypeId} {x k : Operand} {ok : Bool} : aK P G γ ⟨d, .lookup t x k ok, ty, pos, af, g⟩ ⟨tm, H, nx, df⟩ K Qp = oK (vlookup P H t (ev G tm x) (ev G tm k) ok) (fun y => fin d γ tm H nx df K y .none) := by
 rw [dE (by simp) (by simp) (by simp)]; simp only [vop]; exact lD
theorem Rh {t : TypeId} : aF P G γ ⟨d, .makeMap t none, ty, pos, af, g⟩ ⟨tm, H, nx, df⟩ Kd = fin d γ tm H nx df (Kd (rdV ⟨d, .makeMap t none, ty, pos, af, g⟩ (ev G tm)) [γ]) (.mp γ) (.new (.map [])) := by
 rw [dM (by simp)]; rfl
theorem Ri {t : TypeId} {x k : Operand} {ok : Bool} : aF P G γ ⟨d, .lookup t x k ok, ty, pos, af, g⟩ ⟨tm, H, nx, df⟩ Kd = oK (vlookup P H t (ev G tm x) (ev G tm k) ok) (fun y => fin d γ tm H nx df (Kd (rdV ⟨d, .lookup t x k ok, ty, pos, af, g⟩ (ev G tm)) []) y .none) := by
 rw [dM (by simp)]; simp only [vop]
 cases vlookup P H t (ev G tm x) (ev G tm k) ok <;> rfl
def umK (o : Option VEff) (k : VEff → Prop) : Prop := match o with | some e => k e | none => False
theorem Gl {e : VEff} {k : VEff → Prop} : umK (some e) k = k e := rfl
theorem Rj {t : TypeId} {m k x : Operand} : aK P G γ ⟨d, .mapUpdate t m k x, ty, pos, af, g⟩ ⟨tm, H, nx, df⟩ K Qp = umK (vmapUpdate P H t (ev G tm m) (ev G tm k) (ev G tm x)) (fun e => fin d γ tm H nx df K .any e) := by
 rw [dE (by simp) (by simp) (by simp)]; simp only [vop]
 cases vmapUpdate P H t (ev G tm m) (ev G tm k) (ev G tm x) <;> rfl
theorem Rk {t : TypeId} {m k x : Operand} : aF P G γ ⟨d, .mapUpdate t m k x, ty, pos, af, g⟩ ⟨tm, H, nx, df⟩ Kd = umK (vmapUpdate P H t (ev G tm m) (ev G tm k) (ev G tm x)) (fun e => fin d γ tm H nx df (Kd (rdV ⟨d, .mapUpdate t m k x, ty, pos, af, g⟩ (ev G tm)) (e.wr γ)) .any e) := by
 rw [dM (by simp)]; simp only [vop]
 cases vmapUpdate P H t (ev G tm m) (ev G tm k) (ev G tm x) <;> rfl
theorem Gm {β : Nat} : aR (.mp β) = some [.mp β] := rfl
theorem Gn {β : Nat} : (VV.mp β).leaf = true := rfl
theorem Gp {t : TypeId} : rdV ⟨d, .makeMap t none, ty, pos, af, g⟩ (ev G tm) = rdL (ev G tm) [] := dN []
theorem Gq {t : TypeId} {x k : Operand} {ok : Bool} : rdV ⟨d, .lookup t x k ok, ty, pos, af, g⟩ (ev G tm) = rdL (ev G tm) [x, k] := dN [x, k]
theorem Rl {t : TypeId} {m k x : Operand} : rdV ⟨d, .mapUpdate t m k x, ty, pos, af, g⟩ (ev G tm) = rdL (ev G tm) [m, k, x] := dN [m, k, x]
theorem Gr {β : Nat} {l : List Nat} : tnL (.mp β) l = β :: l := rfl
theorem Gs : ev G tm (.const (.map none)) = .lit (.map none) := rfl
theorem bO {K V : Type} {kv : K → Value} {ew : V → VV} : encM kv ew [] = [] := rfl
def mq := (And.intro (And.intro (And.intro @Rf (And.intro @Rg @Rj)) (And.intro (And.intro @Rh @Ri) (And.intro @Rk @Gl))) (And.intro (And.intro (And.intro @Gm @Gn) (And.intro @Gp @Gq)) (And.intro (And.intro @Rl @Gr) (And.intro @Gs @bO))))
end
end Go.V
end
section
set_option linter.defProp false
namespace Go.V
open Go
section
variable {P : Program} {K V : Type} {q : K → K → Bool} {kv : K → Value} {ew : V → VV} {t kt et : TypeId} {H : Nat → Option VObj}
end
theorem Gt {ks : List Value} {vs : List VV} : (VV.mt ks vs).leaf = true := rfl
theorem Gu {ks : List Value} {vs : List VV} : aR (.mt ks vs) = some [.mt ks vs] := rfl
theorem Gv {ks : List Value} {vs : List VV} {l : List Nat} : tnL (.mt ks vs) l = l := rfl
def mqm := (And.intro @Gt (And.intro @Gu @Gv))
end Go.V
end
section
set_option linter.defProp false
namespace Go.V
open Go
theorem Gw {ks : List Value} {vs : List VV} : normV (.mt ks vs) = .mt ks vs := by simp [normV]
theorem Gx {H : Nat → Option VObj} {d : Nat} {ks : List Value} {vs : List VV} : showV H d (.mt ks vs) = .mt ks vs := by cases d <;> rfl
end Go.V
end
section
set_option linter.defProp false
namespace Go.V
open Go
section
variable {P : Program} {G : Glob} {n : Nat} {γ : Nat} {tm : Nat → VV} {H : Nat → Option VObj} {nx : Nat} {df : List VDef} {K : St → Prop} {Kd : List Nat → List Nat → St → Prop} {Qp : VV → St → Prop} {Q : VExit → St → Prop}
 {d : Option Tmp} {ty : TypeId} {pos : String} {af : Array Edge} {g : Option (Nat × Bool)}
theorem Rm {t : Tmp} {m : String} {asg : Array Operand} {ats : Array TypeId} : aK P G γ ⟨d, .call ⟨.invoke (.tmp t) m, asg, ats⟩, ty, pos, af, g⟩ ⟨tm, H, nx, df⟩ K Qp = cvalK P G ⟨d, .call ⟨.invoke (.tmp t) m, asg, ats⟩, ty, pos, af, g⟩ (recvV P m (tm t)) (asg.toList.map (ev G tm)) ⟨tm, H, nx, df⟩ d γ K Qp := by
 have e : ev G tm (.tmp t) = tm t := rfl
 simp only [aK, ev_eq, cvalK, e]
 cases h : recvV P m (tm t) with
 | yl β => exact absurd h (IV _ _ _)
 | fn f a b => cases f <;> rfl
 | _ => rfl
theorem Rn {t : Tmp} {m : String} {asg : Array Operand} {ats : Array TypeId} : aF P G γ ⟨d, .call ⟨.invoke (.tmp t) m, asg, ats⟩, ty, pos, af, g⟩ ⟨tm, H, nx, df⟩ Kd = dvalK P G (recvV P m (tm t)) (asg.toList.map (ev G tm)) tm H nx df d γ Kd := by
 have e : ev G tm (.tmp t) = tm t := rfl
 simp only [aF, ev_eq, e, dvalK]
 cases h : recvV P m (tm t) with
 | fn f first captured =>
  cases f with
  | func f =>
   simp only [dcallK]
   refine propext (or_congr (and_congr_right fun _ => exists_congr fun r => and_congr_right fun _ => ?_) (or_congr (exists_congr fun a => exists_congr fun x => and_congr_right fun _ => and_congr_right fun _ => and_congr_right fun _ => ?_) (or_congr (exists_congr fun β => exists_congr fun es' => exists_congr fun x => and_congr_right fun _ => ?_) (exists_congr fun cs => and_congr_right fun _ => and_congr_right fun _ => ?_))))
   ·cases r with
    | tree x =>
     simp only
     rw [← fh _ _ _ γ]
     exact iff_of_eq (cR (K := Kd [] []))
    | own cs len es => exact iff_of_eq (cR (K := Kd [] [γ]))
    | panic x => exact Iff.rfl
   ·rw [← fh _ _ _ γ]
    exact iff_of_eq (cR (K := Kd (nmL H fuelS (first ++ asg.toList.map (ev G tm) ++ captured)) []))
   ·exact iff_of_eq (cR (K := Kd [β] [β]))
   ·exact iff_of_eq (cR (K := Kd [] [γ]))
  | _ => rfl
 | _ => rfl
def nilV (P : Program) (H : Nat → Option VObj) (x : VV) : Option VV := match x with
  | .tp cs => some (.tp cs)
  | .ptr β off => if (H β).isSome then some (.ptr β off) else none
  | .fn (.func f) a b => some (.fn (.func f) a b)
  | .fn (.method m) a b => if nilOkM P m a b then some (.fn (.method m) a b) else none
  | .yl β => if (H β).isSome then some (.yl β) else none
  | _ => none
theorem Gy {x : Operand} : aK P G γ ⟨d, .nilCheck x, ty, pos, af, g⟩ ⟨tm, H, nx, df⟩ K Qp = oK (nilV P H (ev G tm x)) (fun y => fin d γ tm H nx df K y .none) := by
 rw [dE (by simp) (by simp) (by simp)]; simp only [vop]
 cases ev G tm x with
 | fn f a b =>
  cases f <;> try rfl
  rename_i m
  simp only [nilV]
  split <;> rfl
 | ptr β off => simp only [nilV]; split <;> rfl
 | yl β => simp only [nilV]; split <;> rfl
 | _ => rfl
theorem Ro {x : Operand} : aF P G γ ⟨d, .nilCheck x, ty, pos, af, g⟩ ⟨tm, H, nx, df⟩ Kd = oK (nilV P H (ev G tm x)) (fun y => fin d γ tm H nx df (Kd (rdV ⟨d, .nilCheck x, ty, pos, af, g⟩ (ev G tm)) []) y .none) := by
 rw [dM (by simp)]; simp only [vop]
 cases ev G tm x with
 | fn f a b =>
  cases f <;> try rfl
  rename_i m
  simp only [nilV]
  split <;> rfl
 | ptr β off => simp only [nilV]; split <;> rfl
 | yl β => simp only [nilV]; split <;> rfl
 | _ => rfl
theorem Gz {x : Operand} : rdV ⟨d, .nilCheck x, ty, pos, af, g⟩ (ev G tm) = rdL (ev G tm) [x] := dN [x]
theorem G1 {f : FuncId} {a b : List VV} : nilV P H (.fn (.func f) a b) = some (.fn (.func f) a b) := rfl
theorem G2 {m : String} {a b : List VV} : nilV P H (.fn (.method m) a b) = if nilOkM P m a b = true then some (.fn (.method m) a b) else none := rfl
theorem G3 : ev G tm (.const .nilIface) = .lit .nilIface := rfl
def G4 := And.intro (And.intro (And.intro @Rm @Rn) (And.intro @Gy @Ro)) (And.intro (And.intro @Gz @G1) (And.intro @G2 @G3))
def mapHas {K V : Type} (q : K → K → Bool) (l : List (K × V)) (k : K) : Bool := (kIdx q k (l.map (·.1)) 0).isSome
end
section
variable {P : Program} {K V : Type} {q : K → K → Bool} {kv : K → Value} {ev : V → VV} {t kt et : TypeId} {H : Nat → Option VObj} {β : Nat}
theorem Rq {fs : Array Field} {z : V} (hm : P.underlying t = some (.map kt et)) (hu : P.underlying kt = some (.struct fs)) (he : ∀ a b, aD P (Op.equal kt (kv a) (kv b)) = some (q a b)) (hc : ∀ b k, aD P (Instr.checkKey b 10000 kt (kv k)) = some ())
  (hz : ((P.info? et).bind (·.zero)).map ofVal2 = some (ev z)) {l : List (K × V)} {kx : VV} {k : K} (hk : kx.val? = some (kv k)) (hb : H β = some (.map (encM kv ev l))) :
  vlookup P H t (.mp β) kx true = some (.tup [ev (mapGet q z l k), .lit (.bool (mapHas q l k))]) := by
 unfold vlookup
 rw [hm, hk]
 simp only [mapOf, hb]
 rw [hc, L8, vy hu he]
 cases hzz : (P.info? et).bind (·.zero) with
 | none => rw [hzz] at hz; cases hz
 | some z0 =>
  rw [hzz] at hz
  simp only [Option.map_some, Option.some.injEq] at hz
  unfold mapGet mapHas
  cases hi : kIdx q k (l.map (·.1)) 0 with
  | none => simp only [if_true, hz, Option.isSome_none]
  | some i =>
   obtain ⟨_, e, h1, _⟩ := xc _ _ _ hi
   rw [Nat.sub_zero, List.getElem?_map] at h1
   cases hl : l[i]? with
   | none => rw [hl] at h1; cases h1
   | some p =>
    have : (encM kv ev l)[i]? = some (kv p.1, ev p.2) := by unfold encM; rw [List.getElem?_map, hl]; rfl
    simp only [this, hl, if_true, Option.isSome_some]
end
section
variable {P : Program} {G : Glob} {H : Nat → Option VObj}
theorem kupd {f : FuncId} {args : List VV} {y : VV} {d : Option Tmp} {γ β : Nat} {tm : Nat → VV} {nx : Nat} {df : List VDef} {K : St → Prop} {Qp : VV → St → Prop} {es' : List (Value × VV)} (hu : UpdC P G f args H nx β es' y)
  (h : fin d γ tm H nx df K y (.upd β (.map es'))) : callK P G f args ⟨tm, H, nx, df⟩ d γ K Qp := by
 refine .inr (.inr ?_)
 unfold openK
 refine an.mono hu.open ?_ (fun _ _ _ h => h.elim)
 rintro v H2 fv ⟨rfl, rfl, rfl⟩
 rw [← cR (K := K)] at h
 cases d <;> exact h
def VUpd (P : Program) (G : Glob) (f : FuncId) (A : Nat → List VV) (es es' : List (Value × VV)) (y : Nat → VV) : Prop :=
 ∀ β nx, β < nx → an P G f (A β) (updH (fun _ => none) β (.map es)) nx (fun v H1 _ => H1 β = some (.map es') ∧ SealQ H1 β nx v (y β)) (fun _ _ _ => False)
theorem G5 {β : Nat} {o : VObj} (h : H β = some o) : restr [β] H = updH (fun _ => none) β o := by
 funext γ
 unfold restr updH
 by_cases e : γ = β
 ·subst e; simp [h]
 ·simp [e]
theorem VUpd.at {f : FuncId} {A : Nat → List VV} {args : List VV} {es es' : List (Value × VV)} {y : Nat → VV} {β nx : Nat} (h : VUpd P G f A es es' y) (hlt : β < nx) (hb : H β = some (.map es)) (ha : normL args = A β) (hfl : okVL (fun _ => false) (es'.map (·.2)) = true) : UpdC P G f args H nx β es' (y β) := by
 refine ⟨es, hb, hfl, ?_⟩
 rw [G5 hb]
 refine an.weak (args' := A β) (fun c W vs hr => ?_) (h β nx hlt)
 rw [← ha]
 exact sd _ hr
end
def litC (β b : Nat) : VV → VV
 | .mp γ => if γ = β then .lit (.map (some b)) else .mp γ
 | x => x
def litV (β b : Nat) : VV → VV
 | .agg cs => .agg (cs.map (litC β b))
 | x => x
section
variable {c : Ctx} {W : World} {β : Nat}
theorem G6 (hl : c.live β) {x : VV} {v : Value} (h : Rep c W x v) : Rep c W (litC β (c.φ β) x) v := by
 cases x with
 | mp γ =>
  simp only [litC]
  split
  ·rename_i e
   subst e
   exact h.2 hl
  ·exact h
 | _ => exact h
theorem L9 (hl : c.live β) : ∀ {xs : List VV} {l : List Value}, RepL c W xs l → RepL c W (xs.map (litC β (c.φ β))) l
 | [], _, h => h
 | _ :: _, _, ⟨u, us, e, h1, h2⟩ => ⟨u, us, e, G6 hl h1, L9 hl h2⟩
theorem G7 (hl : c.live β) {x : VV} {v : Value} (h : Rep c W x v) : Rep c W (litV β (c.φ β) x) v := by
 cases x with
 | agg cs => obtain ⟨l, e, hl'⟩ := h; exact ⟨l, e, L9 hl hl'⟩
 | _ => exact h
theorem LC (hl : c.live β) : ∀ {xs : List VV} {l : List Value}, RepL c W xs l → RepL c W (xs.map (litV β (c.φ β))) l
 | [], _, h => h
 | _ :: _, _, ⟨u, us, e, h1, h2⟩ => ⟨u, us, e, G7 hl h1, LC hl h2⟩
theorem G8 (hu : c.used β) {x : VV} {v : Value} (h : Rep c W (litC β (c.φ β) x) v) : Rep c W x v := by
 cases x with
 | mp γ =>
  simp only [litC] at h
  split at h
  ·rename_i e
   subst e
   have h' : v = .map (some (c.φ γ)) := h
   subst h'
   exact ⟨⟨hu, rfl⟩, fun _ => rfl⟩
  ·exact h
 | _ => exact h
theorem LF (hu : c.used β) : ∀ {xs : List VV} {l : List Value}, RepL c W (xs.map (litC β (c.φ β))) l → RepL c W xs l
 | [], _, h => h
 | _ :: _, _, ⟨u, us, e, h1, h2⟩ => ⟨u, us, e, G8 hu h1, LF hu h2⟩
theorem G9 (hu : c.used β) {x : VV} {v : Value} (h : Rep c W (litV β (c.φ β) x) v) : Rep c W x v := by
 cases x with
 | agg cs => obtain ⟨l, e, hl'⟩ := h; exact ⟨l, e, LF hu hl'⟩
 | _ => exact h
end
section
variable {P : Program} {G : Glob} {H : Nat → Option VObj}
theorem an.lit {f : FuncId} {args : List VV} {y : VV} {nx β : Nat} {es : List (Value × VV)} {args0 : Nat → List VV} (hb : H β = some (.map es)) (hn : ∀ b, normL (args.map (litV β b)) = args0 b)
  (ht : ∀ b, treeL (args.map (litV β b)) = true) (hp : ∀ b, aj P G f (args0 b) (.tree (litV β b y))) : an P G f args H nx (fun x H' nx' => x = y ∧ H' = H ∧ nx' = nx) (fun _ _ _ => False) := by
 refine ⟨(hp 0).1, fun c W vs s hH hnx hG ha => ?_⟩
 have hl : c.live β := by simp [Ctx.live, hH, hb]
 have h1 := LC hl ha
 have h2 := hp (c.φ β)
 rw [← hn] at h2
 refine ((h2.norm).2 c.A W vs s.ltA (fun g cs hg => hG.tree g cs hg) (iS (ht _) h1)).mono ?_
 rintro e W' ⟨A', g1, g2, g3, hbl, v, rfl, hx⟩
 have he := Ext.more g1 g2 hbl
 refine ⟨c.more A', H, nx, he, Sim.more s g1 g2 g3 hbl, hH, fun β hb => .inl hb, hnx, Nat.le_refl _, .inl ⟨y, v, rfl, ?_, rfl, rfl, rfl⟩⟩
 have h3 : Rep (c.more A') W' (litV β (c.φ β) y) v := Rep.abides (h9 (fun _ h => h)) _ hx
 exact G9 (c := c.more A') (s.used β hl) h3
end
section
variable {P : Program} {G : Glob} {H : Nat → Option VObj}
theorem GA {H : Nat → Option VObj} {M n : Nat} {x : VV} (h : x.tree = true) : sealN H M (n + 1) x = some x := by unfold sealN; rw [if_pos h]
theorem lG {H : Nat → Option VObj} {M : Nat} {x y : VV} (h : x.tree = true) (e : x = y) : SealP H M x y := ⟨1, x, GA h, fun _ _ _ hr => e ▸ hr⟩
theorem Be {H : Nat → Option VObj} {M : Nat} : SealP H M (.lit (.slice none 0 0)) (.sl [] 0 false) := ⟨1, _, GA rfl, fun c W u hr => rQ (.lit (.slice none 0 0)) hr⟩
theorem LG {H : Nat → Option VObj} {M : Nat} : ∀ {xs : List VV} {n : Nat}, treeL xs = true → xs.length < n → sealNL H M (n + 1) xs = some xs
 | [], n, _, _ => rfl
 | x :: xs, 0, _, hn => by simp at hn
 | x :: xs, n + 1, h, hn => by
  simp only [treeL, Bool.and_eq_true] at h
  unfold sealNL
  rw [GA h.1, LG h.2 (by simpa using hn)]
theorem GB {H : Nat → Option VObj} {M δ w cp : Nat} {el : Option TypeId} {α : Type} {enc : α → List VV} {xs : List α} (hδ : H δ = some (.cells el (ae enc xs))) (hM : M ≤ δ) (hok : EncOk enc) (hw : ∀ x, (enc x).length = w) :
  SealP H M (.ref δ 0 xs.length w cp) (.sl (ae enc xs) xs.length false) := by
 refine ⟨(ae enc xs).length + 3, .sl (ae enc xs) xs.length false, ?_, fun _ _ _ hr => hr⟩
 unfold sealN
 have h1 : (VV.ref δ 0 xs.length w cp).tree = false := rfl
 have hlen : (ae enc xs).length = xs.length * w := dH hw xs
 simp only [h1, Bool.false_eq_true, if_false, Nat.not_lt.2 hM, hδ, Nat.zero_le, if_true, List.drop_zero]
 rw [List.take_of_length_le (by omega), LG (hok.treeL xs) (by omega)]
 rfl
theorem sq_of {H : Nat → Option VObj} {β M : Nat} {x y : VV} (h : SealP H M x y) : SealQ H β M x y := fun _ => h
theorem Bd {H : Nat → Option VObj} {β M δ w cp : Nat} {el : Option TypeId} {α : Type} {enc : α → List VV} {xs : List α} {es : List (Value × VV)} (hδ : H δ = some (.cells el (ae enc xs))) (hβ : H β = some (.map es)) (hok : EncOk enc) (hw : ∀ x, (enc x).length = w) :
  SealQ H β M (.ref δ 0 xs.length w cp) (.sl (ae enc xs) xs.length false) := fun hall =>
 GB hδ (hall δ (by rw [hδ]; rfl) (by rintro rfl; rw [hδ] at hβ; cases hβ)) hok hw
theorem VUpd.of_lit {f : FuncId} {A : Nat → List VV} {y x : Nat → VV} {es : List (Value × VV)} {A0 : Nat → Nat → List VV} (hn : ∀ β b, normL ((A β).map (litV β b)) = A0 β b) (ht : ∀ β b, treeL ((A β).map (litV β b)) = true)
  (hx : ∀ β b, litV β b (y β) = x b) (hp : ∀ β b, aj P G f (A0 β b) (.tree (x b))) (hy : ∀ β M (H : Nat → Option VObj), β < M → (H β).isSome = true → SealP H M (y β) (y β)) : VUpd P G f A es es y := by
 intro β nx hlt
 have hb : updH (fun _ => none) β (.map es) β = some (.map es) := by simp [updH]
 refine an.mono (an.lit hb (hn β) (ht β) (fun b => by rw [hx]; exact hp β b)) ?_ (fun _ _ _ h => h.elim)
 rintro v H1 n1 ⟨hv, hH, _⟩
 rw [hv, hH]
 exact ⟨hb, sq_of (hy β nx _ hlt (by rw [hb]; rfl))⟩
end
theorem gv {K V : Type} {kv : K → Value} {ev : V → VV} (h : ∀ v, okV (fun _ => false) (ev v) = true) : ∀ l : List (K × V), okVL (fun _ => false) ((encM kv ev l).map (·.2)) = true
 | [] => rfl
 | p :: l => by
  show (okV _ (ev p.2) && okVL _ ((encM kv ev l).map (·.2))) = true
  rw [h, gv h l]; rfl
theorem gD {d : Tmp} {γ : Nat} {tm : Nat → VV} {H : Nat → Option VObj} {nx : Nat} {df : List VDef} {K : St → Prop} {x : VV} {β : Nat} {o : VObj} (F : (Nat → VV) → Prop) (hF : F (upd tm d x)) (h : ∀ tm', F tm' → K ⟨tm', updH H β o, nx, df⟩) : fin (some d) γ tm H nx df K x (.upd β o) := h _ hF
theorem GC {β b : Nat} {cs : List VV} : litV β b (.agg cs) = .agg (cs.map (litC β b)) := rfl
theorem GD {β b : Nat} {v : Value} : litV β b (.lit v) = .lit v := rfl
theorem GF {β b : Nat} {cs : List VV} {n : Nat} {f : Bool} : litV β b (.sl cs n f) = .sl cs n f := rfl
theorem GG {β b : Nat} {v : Value} : litC β b (.lit v) = .lit v := rfl
theorem GH {β b : Nat} {cs : List VV} {n : Nat} {f : Bool} : litC β b (.sl cs n f) = .sl cs n f := rfl
theorem GI {β b : Nat} : litC β b (.mp β) = .lit (.map (some b)) := by simp [litC]
theorem cT {m : Option Nat} : normV (.lit (.map m)) = .lit (.map m) := by simp [normV]
theorem fC {β : Nat} : normV (.mp β) = .mp β := by simp [normV]
def vlt := And.intro (And.intro (And.intro @GC @GD) (And.intro @GF @GG)) (And.intro @GH @GI)
theorem GJ {m : Option Nat} : (VV.lit (.map m)).leaf = true := rfl
theorem GK {t : TypeId} {x : VV} : (VV.ifc t x).leaf = true := rfl
theorem GL {m : Option Nat} : aR (.lit (.map m)) = some [.lit (.map m)] := rfl
theorem GM {t : TypeId} {x : VV} : aR (.ifc t x) = some [.ifc t x] := rfl
theorem GN {m : Option Nat} {l : List Nat} : tnL (.lit (.map m)) l = l := rfl
theorem argsTm6 {a b c e f g : VV} : aP [a, b, c, e, f, g] = upd (upd (upd (upd (upd (upd (fun _ => .lit undef) 0 a) 1 b) 2 c) 3 e) 4 f) 5 g := by
 funext t; rcases t with _ | _ | _ | _ | _ | _ | t <;> simp [aP, upd]
def vsi := And.intro (And.intro G4 @argsTm6) (And.intro (And.intro @cT @GJ) (And.intro (And.intro @GK @GL) (And.intro @GM @GN)))
end Go.V
end
section
namespace Go.V
open Go

end Go.V
end
