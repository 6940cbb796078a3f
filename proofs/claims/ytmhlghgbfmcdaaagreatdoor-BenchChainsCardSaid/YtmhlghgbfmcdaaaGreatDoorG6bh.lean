/- Part of a proof. -/
import Derived.Test.YtmhlghgbfmcdaaaGreatDoorG6bg
set_option linter.all false
section
namespace Go.V
open Go
def neB {α : Type} (xs : List α) : Bool := !xs.isEmpty
theorem Ao {α : Type} {xs : List α} (h : neB xs = true) : 0 < xs.length := by
 cases xs with
 | nil => cases h
 | cons a l => exact Nat.succ_pos _
section
variable {P : Program} {H : Nat → Option VObj} {γ : Nat} {α : Type} {enc : α → List VV} {t t2 e e2 w b : Nat} {xs ys : List α} {el : Option TypeId} {β : Nat} {f : Bool} {k : VV → VEff → Prop}
theorem oS (he : ∀ x, (enc x).length = w) (hl : ∀ x, leafL (enc x) = true) (ha : appOk P t = some (e, w, b)) (fg : P.underlying t2 = some (.slice e2)) (hb : H β = some (.cells el (ae enc xs)))
  (hm : neB ys = true) (hr : aS b (xs ++ ys).length = true) (h : k (.ref γ 0 (xs ++ ys).length w (xs ++ ys).length) (.mv β (sameEl el e) (ae enc (xs ++ ys)))) :
  oeK (vappend P H γ t t2 (.ref β 0 xs.length w xs.length) (.sl (ae enc ys) ys.length f)) k := by
 have hm := Ao hm
 obtain ⟨hu, inf, z, hi, hz, rfl, rfl, dv, kD, hzs⟩ := rq ha
 have hr' : (xs.length + ys.length) * inf.bytes ≤ 140737488355328 := by simpa [aS] using hr
 have h4 : (ae enc ys).all VV.leaf = true := by rw [tn]; exact xf hl ys
 have h2 := ej he ys
 have h1 := ej he xs
 have h5 : (ae enc ys).take (ys.length * inf.size) = ae enc ys := List.take_of_length_le (by omega)
 have h6 : ¬ (xs.length + ys.length ≤ xs.length) := by omega
 have key : vappend P H γ t t2 (.ref β 0 xs.length inf.size xs.length) (.sl (ae enc ys) ys.length f) = some (.ref γ 0 (xs ++ ys).length inf.size (xs ++ ys).length, .mv β (sameEl el e) (ae enc (xs ++ ys))) := by
  simp only [vappend, nilS, vappend1, hu, fg, hi, hz, srcV, sls, h5, h4, dv, kD, hzs, hb]
  simp [h2, h6, h1, hr', lD]
 rw [key]
 exact h
theorem setA {x : α} {i : Int} (he : ∀ x, (enc x).length = w) (h : getI xs i = some x) : (i.toNat * w + w ≤ (ae enc xs).length) = True := by
 obtain ⟨h0, h1, _⟩ := mi h
 rw [ej he, eq_true_iff_of_true]
 have : i.toNat + 1 ≤ xs.length := by omega
 have := Nat.mul_le_mul_right w this
 rw [Nat.add_mul, Nat.one_mul] at this
 exact this
 where
 eq_true_iff_of_true : ∀ {p : Prop}, (p = True) = p := fun {p} => propext ⟨fun h => h ▸ trivial, fun h => eq_true h⟩
theorem setB {x : α} {i : Int} (v : α) (he : ∀ x, (enc x).length = w) (h : getI xs i = some x) : overwrite (ae enc xs) (i.toNat * w) (enc v) = ae enc (xs.set i.toNat v) := by
 obtain ⟨h0, h1, h2⟩ := mi h
 have hn : i.toNat < xs.length := by omega
 have e1 : xs = xs.take i.toNat ++ (x :: xs.drop (i.toNat + 1)) := by
  rw [← h2, List.take_append_drop]
 have e2 : xs.set i.toNat v = xs.take i.toNat ++ (v :: xs.drop (i.toNat + 1)) := by
  rw [List.set_eq_take_append_cons_drop, if_pos hn]
 have hl : (xs.take i.toNat).length = i.toNat := by rw [List.length_take]; omega
 have t1 : (ae enc xs).take (i.toNat * w) = ae enc (xs.take i.toNat) := by
  have hq : ae enc xs = ae enc (xs.take i.toNat) ++ ae enc (x :: xs.drop (i.toNat + 1)) := by rw [← lD, ← e1]
  rw [hq, List.take_left' (by rw [ej he, hl])]
 have t2 : (ae enc xs).drop (i.toNat * w + (enc v).length) = ae enc (xs.drop (i.toNat + 1)) := by
  have hq : xs = (xs.take i.toNat ++ [x]) ++ xs.drop (i.toNat + 1) := by rw [List.append_assoc]; exact e1
  have hd := zL (enc := enc) he hq
  rw [List.length_append, hl] at hd
  rw [he v, show i.toNat * w + w = (i.toNat + [x].length) * w by rw [List.length_singleton, Nat.add_mul, Nat.one_mul]]
  exact hd
 unfold overwrite
 rw [t1, t2, e2, lD, List.append_assoc]
 rfl
end
theorem Lf {P : Program} {H : Nat → Option VObj} {t e : TypeId} {x y : Operand} {cs : List VV} {n : Nat} {f : Bool} (hu : P.underlying t = some (.slice e)) (hc : cs ≠ []) : binV P H .eql t x y (.sl cs n f) (.lit (.slice none 0 0)) = some (.lit (.bool false)) := by
 simp [binV, VV.val?, vptrEq, vptrEq.eq1, hu, hc]
end Go.V
end
section
set_option linter.defProp false
namespace Go.V
open Go
section
variable {P : Program} {G : Glob} {n : Nat} {x : Code} {Q : VExit → St → Prop} {st : St}
end
theorem setC {α : Type} {enc : α → List VV} {w : Nat} (xs : List α) (n : Nat) (v : α) (he : ∀ x, (enc x).length = w) : List.take (xs.length * w) (ae enc (xs.set n v)) = ae enc (xs.set n v) :=
 List.take_of_length_le (by rw [ej he, List.length_set]; exact Nat.le_refl _)
end Go.V
end
section
set_option linter.defProp false
namespace Go.V
open Go
section
variable {P : Program} {G : Glob} {n : Nat} {Q : VExit → St → Prop} {tm : Nat → VV} {H : Nat → Option VObj} {nx : Nat} {df : List VDef} {g : Operand} {ps : Array Tmp} {az bo : Code} {f : FuncId} {first captured : List VV}
theorem Ap {β : Nat} : aY (.yl β) = some [.yl β] := rfl
theorem Aq {β : Nat} : (VV.yl β).leaf = true := rfl
theorem ak.at {x : Option (Option Nat)} {args : List VV} {r : PRes} (h : ak P G f args r) : ak P (G.at x) f args r := h
def rg := (And.intro @Ap (And.intro @Aq @Ar))
end
end Go.V
end
section
namespace Go.V
open Go
section
variable {P : Program} {G : Glob} {f : FuncId} {β γ w c nx : Nat} {tm : Nat → VV} {H : Nat → Option VObj} {df : List VDef} {d : Option Tmp} {K : List Nat → List Nat → St → Prop} {el : Option TypeId} {α : Type} {enc : α → List VV} {xs ys : List α} {x : VV}
end
section
variable {P : Program} {G : Glob} {β γ w e : Nat} {t ty : TypeId} {tm : Nat → VV} {H : Nat → Option VObj} {d : Option Tmp} {k : VV → VEff → Prop} {el : Option TypeId} {α : Type} {enc : α → List VV} {xs ys : List α} {pos : String} {af : Array Edge} {g : Option (Nat × Bool)} {x : Operand} {lo hi : Option Operand}
end
section
variable {P : Program} {G : Glob} {f : FuncId} {γ nx : Nat} {tm : Nat → VV} {H : Nat → Option VObj} {df : List VDef} {d : Option Tmp} {x : VV}
theorem ktree0 {K : St → Prop} {Qp : VV → St → Prop} (hp : ak P G f [] (.tree x)) (h : fin d γ tm H nx df K x .none) : callK P G f [] ⟨tm, H, nx, df⟩ d γ K Qp := ktree (args0 := []) rfl rfl hp h
end
end Go.V
end
section
namespace Go.V
open Go
variable {P : Program} {G : Glob} {β γ w e n off : Nat} {t ty : TypeId} {tm : Nat → VV} {H : Nat → Option VObj} {d : Option Tmp} {k : VV → VEff → Prop} {el : Option TypeId} {cs : List VV} {pos : String} {af : Array Edge} {g : Option (Nat × Bool)} {x : Operand}
end Go.V
namespace Go.V
open Go
theorem Lg {H : Nat → Option VObj} {k : Nat} {x : VV} (h : x.tree = true) : sealV H (k + 1) x = some x := by
 unfold sealV
 rw [if_pos h]
end Go.V
end
section
namespace Go.V
open Go

end Go.V
end
section
set_option linter.defProp false
namespace Go.V
open Go
section
variable {P : Program} {H : Nat → Option VObj} {t : TypeId} {x y : Operand} {k : IntKind} {a b : Int}
end
end Go.V
end
section
namespace Go.V
open Go
def pairOk (ops : Array Oper) (p q : Nat × List Nat × List Nat) : Prop := aA ops ops.size p.1 q.1 = true ∨ (Indep p q ∧ ∀ o o', ops[p.1]? = some o → ops[q.1]? = some o' → o.apart ops o' = true)
section
variable {P : Program} {G : Glob} {ops : Array Oper} {base : Nat} {Q : VExit → St → Prop} {n : Nat}
theorem QSteps.snoc {m : Nat} {o : Oper} {rd wr : List Nat} {s2 : St} (ho : ops[m]? = some o) : ∀ {l : List Nat} {st s1 : St} {tr : Tr}, QSteps P G ops base l st s1 tr → QStep P G ops base m o s1 s2 rd wr → QSteps P G ops base (l ++ [m]) st s2 (tr ++ [(m, rd, wr)])
 | _, _, _, _, .nil, h => .cons ho h .nil
 | _, _, _, _, .cons ho' hq hs, h => .cons ho' hq (QSteps.snoc ho hs h)
theorem Oq {tr : Tr} {q : Nat × List Nat × List Nat} (h : TraceOk ops tr) (h' : ∀ p ∈ tr, pairOk ops p q) : TraceOk ops (tr ++ [q]) := by
 unfold TraceOk
 rw [List.pairwise_append]
 refine ⟨h, List.pairwise_singleton _ _, fun p hp r hr => ?_⟩
 rw [List.mem_singleton.1 hr]
 exact h' p hp
def vbar (P : Program) (G : Glob) (n : Nat) (ops : Array Oper) (base : Nat) (Q : VExit → St → Prop) (b : Nat) (Nx : List Nat → St → Prop) : Nat → List Nat → St → Tr → Prop
 | 0, fl, st, _ => fl = [] ∧ aH P G n ops base b st (Nx fl) (fun x s => Q (.panic x) s)
 | k + 1, fl, st, tr => aH P G n ops base b st (Nx fl) (fun x s => Q (.panic x) s) ∧ ∀ m ∈ fl, (∀ i ∈ fl, aA ops ops.size i m = false) →
   ∃ o s1 rd wr, ops[m]? = some o ∧ QStep P G ops base m o st s1 rd wr ∧ (∀ p ∈ tr, pairOk ops p (m, rd, wr)) ∧ vbar P G n ops base Q b Nx k (fl.erase m) s1 (tr ++ [(m, rd, wr)])
theorem As {b : Nat} {Nx : List Nat → St → Prop} : ∀ (k : Nat) {fl : List Nat} {st : St} {tr tr' : Tr}, vbar P G n ops base Q b Nx k fl st tr → (∀ p ∈ tr', p ∈ tr) → vbar P G n ops base Q b Nx k fl st tr'
 | 0, _, _, _, _, h, _ => h
 | k + 1, _, _, _, _, h, hs => ⟨h.1, fun m hm hb => by
   obtain ⟨o, s1, rd, wr, h1, h2, h3, h4⟩ := h.2 m hm hb
   refine ⟨o, s1, rd, wr, h1, h2, fun p hp => h3 p (hs p hp), As k h4 fun p hp => ?_⟩
   rcases List.mem_append.1 hp with hp | hp
   ·exact List.mem_append_left _ (hs p hp)
   ·exact List.mem_append_right _ hp⟩
theorem At {b : Nat} {Nx : List Nat → St → Prop} {k : Nat} {fl : List Nat} {st : St} {tr : Tr} (h : vbar P G n ops base Q b Nx k fl st tr) : aH P G n ops base b st (Nx fl) (fun x s => Q (.panic x) s) := by
 cases k with
 | zero => exact h.2
 | succ k => exact h.1
def VF (P : Program) (G : Glob) (n : Nat) (ops : Array Oper) (base : Nat) (Q : VExit → St → Prop) : List (List Nat × Nat) → List Nat → List Nat → St → Prop
 | [], last, fl, st => ∃ lst st' tr, lst.Perm (fl ++ last) ∧ QSteps P G ops base lst st st' tr ∧ TraceOk ops tr ∧ Q .normal st'
 | (l, b) :: rest, last, fl, st => ∃ st' tr k, QSteps P G ops base l st st' tr ∧ TraceOk ops tr ∧ vbar P G n ops base Q b (VF P G n ops base Q rest last) k fl st' tr
theorem Left.perm {listed : Array Bool} {l l' : List Nat} (h : Left ops listed l) (hp : l'.Perm l) : Left ops listed l' :=
 ⟨h.1, hp.nodup_iff.2 h.2.1, fun i => (hp.mem_iff).trans (h.2.2 i)⟩
theorem Au {ro : Option Nat} {c8 : Nat} {c0 : Ctx} {W0 : World} (hback : backOk ops = true) (hdst : aX n ops = true) :
  ∀ (fuel : Nat) (segs : List (List Nat × Nat)) (last fl : List Nat) (listed : Array Bool) (st : St) (c : Ctx) (W : World) (a : Act),
  VF P G n ops base Q segs last fl st → Left ops listed (fl ++ flat segs last) → (fl ++ flat segs last).length ≤ fuel → Closed ops listed → barOk ops segs last = true → base + ops.size ≤ st.nx → c8 ≤ base →
  RoOk G c ro → Sim c W → StRep G c W st a → a.tmps.size = n → (∀ i ∈ fl ++ flat segs last, ¬ c.used (base + i)) → Ext c0 W0 c W → (∀ β, c.used β → c0.used β ∨ c8 ≤ β) →
  wpAnyIn (Fw ro) 0 P .any ops (Lift G n c8 c0 W0 Q) fuel listed a W := by
 intro fuel
 induction fuel with
 | zero =>
  intro segs last fl listed st c W a h hleft hlen hcl hbar hb hn hro s hr hs hf he hu
  cases segs with
  | cons p rest => obtain ⟨l, b⟩ := p; simp [flat] at hlen
  | nil =>
   obtain ⟨lst, st', tr, hp, hq, htr, hQ⟩ := h
   simp only [flat] at hleft hlen hf
   exact zp hback hdst 0 [] lst listed st c W a ⟨st', tr, hq, htr, hQ⟩ (hleft.perm hp) (by simp only [flat]; rw [hp.length_eq]; exact hlen) hcl rfl hb hn hro s hr hs (fun i hi => hf i (hp.mem_iff.1 hi)) he hu
 | succ fuel ih =>
  intro segs last fl listed st c W a h hleft hlen hcl hbar hb hn hro s hr hs hf he hu
  cases segs with
  | nil =>
   obtain ⟨lst, st', tr, hp, hq, htr, hQ⟩ := h
   simp only [flat] at hleft hlen hf
   exact zp hback hdst (fuel + 1) [] lst listed st c W a ⟨st', tr, hq, htr, hQ⟩ (hleft.perm hp) (by simp only [flat]; rw [hp.length_eq]; exact hlen) hcl rfl hb hn hro s hr hs (fun i hi => hf i (hp.mem_iff.1 hi)) he hu
  | cons p rest =>
   obtain ⟨l, b⟩ := p
   refine ⟨fun hrd => ?_, fun j hj => ?_⟩
   ·have hnil := xe hback hleft hrd
    simp [flat] at hnil
   ·have hjl := oQ hleft hj
    obtain ⟨hjlt, _, hpre⟩ := te hj
    have hjlt' : j < listed.size := by rw [hleft.1]; exact hjlt
    have hno : ∀ i ∈ fl ++ flat ((l, b) :: rest) last, aA ops ops.size i j = false := by
     intro i hi
     cases hbf : aA ops ops.size i j with
     | false => rfl
     | true =>
      have h1 := td hcl _ _ _ hpre hbf
      rw [hleft.unlisted hi] at h1
      cases h1
    have hcl' := hcl.set hpre hjlt'
    have hnd := hleft.2.1
    have hlt : ∀ i ∈ fl ++ flat ((l, b) :: rest) last, i < ops.size := fun i hi => ((hleft.2.2 i).1 hi).1
    obtain ⟨st', tr, k, hq, htr, hB⟩ := h
    have quiet : ∀ (o : Oper) (rd wr : List Nat) (s1 : St) (l' fl' : List Nat), ops[j]? = some o → QStep P G ops base j o st s1 rd wr → VF P G n ops base Q ((l', b) :: rest) last fl' s1 → fl' ++ flat ((l', b) :: rest) last = (fl ++ flat ((l, b) :: rest) last).erase j → barOk ops ((l', b) :: rest) last = true →
      wpOpIn (Fw ro) 0 P ops (Lift G n c8 c0 W0 Q) j (wpAnyIn (Fw ro) 0 P .any ops (Lift G n c8 c0 W0 Q) fuel (listed.setIfInBounds j true)) a W := by
     intro o rd wr s1 l' fl' ho hqj hd' hflat hbar'
     refine tc ho hqj s hr (by rw [hs]; exact j6 hdst ho) (hf j hjl) (by omega) ?_
     intro a' W' c' he' hs' hr' hsz hu'
     refine ih ((l', b) :: rest) last fl' _ s1 c' W' a' hd' (by rw [hflat]; exact hleft.set hjl) ?_ hcl' hbar' (by rw [hqj.nx]; exact hb) hn (hro.ext he') hs' hr' (hsz.trans hs) ?_ (he.trans he') ?_
     ·rw [hflat, List.length_erase_of_mem hjl]; omega
     ·intro i hi hbad
      rw [hflat, hnd.mem_erase_iff] at hi
      rcases hu' _ hbad with h | h
      ·exact hf i hi.2 h
      ·exact hi.1 (by omega)
     ·intro β hβ
      rcases hu' β hβ with h | h
      ·exact hu β h
      ·right; omega
    simp only [barOk, Bool.and_eq_true, List.all_eq_true] at hbar
    by_cases hjf : j ∈ fl
    ·have hdis := List.nodup_append.1 hnd
     have hjn : j ∉ l := fun hm => hdis.2.2 j hjf j (by simp [flat, hm]) rfl
     cases k with
     | zero => rw [hB.1] at hjf; cases hjf
     | succ k =>
      obtain ⟨o, sm, rd, wr, ho, hqm, hpo, hB'⟩ := hB.2 j hjf (fun i hi => hno i (List.mem_append_left _ hi))
      obtain ⟨o2, Av, Aw, s1, Ax, Ay, hqj, hqs, oT, hsub, _⟩ := (hq.snoc ho hqm).pull (j := j) (by simp) (Oq htr hpo) (fun i hi => by
       rcases List.mem_append.1 hi with hi | hi
       ·exact hno i (by simp [flat, hi])
       ·rw [List.mem_singleton.1 hi]; exact hno j hjl)
      have el : (l ++ [j]).erase j = l := by rw [List.erase_append_right _ hjn, List.erase_cons_head, List.append_nil]
      rw [el] at hqs
      refine quiet o2 Av Aw s1 l (fl.erase j) Ay hqj ⟨sm, Ax, k, hqs, oT, As k hB' hsub⟩ (List.erase_append_left _ hjf).symm ?_
      simp only [barOk, Bool.and_eq_true, List.all_eq_true]
      exact hbar
    ·have tv : j ∈ flat ((l, b) :: rest) last := by
      rcases List.mem_append.1 hjl with h | h
      ·exact absurd h hjf
      ·exact h
     by_cases hjm : j ∈ l
     ·obtain ⟨o2, Av, Aw, s1, Ax, Ay, hqj, hqs, oT, hsub, _⟩ := hq.pull hjm htr (fun i hi => hno i (by simp [flat, hi]))
      refine quiet o2 Av Aw s1 (l.erase j) fl Ay hqj ⟨st', Ax, k, hqs, oT, As k hB hsub⟩ ?_ ?_
      ·rw [List.erase_append_right _ hjf]
       simp only [flat]
       rw [List.erase_append_left _ hjm]
      ·simp only [barOk, Bool.and_eq_true, List.all_eq_true]
       exact ⟨⟨fun i hi => hbar.1.1 i (List.mem_of_mem_erase hi), hbar.1.2⟩, hbar.2⟩
     ·simp only [flat] at tv
      have hjb : j = b := by
       rcases List.mem_append.1 tv with h | h
       ·exact absurd h hjm
       ·rcases List.mem_cons.1 h with h | h
        ·exact h
        ·have h1 := hbar.1.2 j h
         rw [hno b (by simp [flat])] at h1; cases h1
      subst hjb
      have hlnil : l = [] := by
       cases l with
       | nil => rfl
       | cons i l' =>
        have h1 := hbar.1.1 i (List.mem_cons_self ..)
        rw [hno i (by simp [flat])] at h1; cases h1
      subst hlnil
      cases hq
      have hst := At hB
      simp only [flat, List.nil_append] at hf hlt hnd hleft hlen hjl
      refine hst ro c W a _ _ hro s hr hs (hf j hjl) (by omega) ?_ ?_
      ·intro a' W' c' s1 he' hs' hr' hsz hu' hnx hk
       have her : (fl ++ j :: flat rest last).erase j = fl ++ flat rest last := by rw [List.erase_append_right _ hjf, List.erase_cons_head]
       have hmem : ∀ i ∈ fl ++ flat rest last, i ∈ fl ++ j :: flat rest last := by
        intro i hi
        rcases List.mem_append.1 hi with hi | hi
        ·exact List.mem_append_left _ hi
        ·exact List.mem_append_right _ (List.mem_cons_of_mem _ hi)
       refine ih rest last fl _ s1 c' W' a' hk (by have := hleft.set hjl; rwa [her] at this) (by simp at hlen ⊢; omega) hcl' hbar.2 (by omega) hn (hro.ext he') hs' hr' hsz ?_ (he.trans he') ?_
       ·intro i hi hbad
        have hi' := hlt i (hmem i hi)
        rcases hu' _ hbad with h | h | h
        ·exact hf i (hmem i hi) h
        ·have : i = j := by omega
         rw [← her, hnd.mem_erase_iff] at hi
         exact hi.1 this
        ·omega
       ·intro β hβ
        rcases hu' β hβ with h | h | h
        ·exact hu β h
        ·right; omega
        ·right; omega
      ·intro a' W' c' s1 x v he' hs' hr' hsz hu' hnx hv hq
       refine ⟨.panic x, c', s1, ⟨v, rfl, hv⟩, he.trans he', hs', hr', hsz, fun β hβ => ?_, by omega, hq⟩
       rcases hu' β hβ with h | h | h
       ·exact hu β h
       ·right; omega
       ·right; omega
end
end Go.V
namespace Go.V
open Go
theorem VWp.regionFloat {P : Program} {G : Glob} {n id : Nat} {ops : Array Oper} {Q : VExit → St → Prop} {st : St} (hm : P.follows .mixedOrders = true) (segs : List (List Nat × Nat)) (last fl : List Nat)
  (hback : backOk ops = true) (hdst : aX n ops = true) (hbar : barOk ops segs last = true) (hnd : (fl ++ flat segs last).Nodup) (hlen : (fl ++ flat segs last).length ≤ ops.size) (hmem : ∀ i, i ∈ fl ++ flat segs last ↔ i < ops.size)
  (h : VF P G n ops st.nx Q segs last fl { st with nx := st.nx + ops.size }) : VWp P G n (.region id ops true) Q st := by
 intro ro c W a hro s hr hs
 refine wpIn_region_any hm (Au hback hdst ops.size segs last fl _ _ c W.drew a h ?_ hlen ?_ hbar (Nat.le_refl _) (Nat.le_refl _) (hro.ext (Ext.drew c W)) s.drew ?_ hs ?_ (Ext.drew c W) (fun _ h => .inl h))
 ·refine ⟨by simp, hnd, fun i => ?_⟩
  rw [hmem i]
  constructor
  ·intro hi; exact ⟨hi, by simp [hi]⟩
  ·intro hi; exact hi.1
 ·intro j hj
  exfalso
  by_cases hlt : j < ops.size
  ·simp [hlt] at hj
  ·simp [hlt] at hj
 ·have ab : Abides c W c W.drew := oO rfl
  exact ⟨hr.H, fun t => Rep.abides ab _ (hr.tm t), fun β hb => Nat.lt_of_lt_of_le (hr.nx β hb) (Nat.le_add_right _ _), hr.df.abides ab, hr.G.abides ab⟩
 ·intro i _ hb
  have := hr.nx _ hb
  omega
def flR (P : Program) (G : Glob) (ops : Array Oper) (base : Nat) : Nat → List Oper → List Bool → Tr → (Tr → St → Prop) → St → Prop
 | i, o :: l, true :: mk, tr, K, st => dstepK P G ops (base + i) o st fun rd wr s => flR P G ops base (i + 1) l mk ((i, rd, wr) :: tr) K s
 | i, _ :: l, false :: mk, tr, K, st => flR P G ops base (i + 1) l mk tr K st
 | _, _, _, tr, K, st => K tr st
def idxM : Nat → List Bool → List Nat
 | _, [] => []
 | i, true :: mk => i :: idxM (i + 1) mk
 | i, false :: mk => idxM (i + 1) mk
theorem oU : ∀ {mk : List Bool} {i j : Nat}, j ∈ idxM i mk → i ≤ j
 | [], _, _, h => by cases h
 | true :: mk, i, j, h => by
  rcases List.mem_cons.1 h with rfl | h
  ·exact Nat.le_refl _
  ·exact Nat.le_of_succ_le (oU h)
 | false :: mk, i, j, h => Nat.le_of_succ_le (oU (mk := mk) h)
theorem Az : ∀ (mk : List Bool) (i : Nat), (idxM i mk).Pairwise (· < ·)
 | [], _ => List.Pairwise.nil
 | true :: mk, i => List.pairwise_cons.2 ⟨fun j hj => oU hj, Az mk (i + 1)⟩
 | false :: mk, i => Az mk (i + 1)
section
variable {P : Program} {G : Glob} {ops : Array Oper} {base : Nat} {Q : VExit → St → Prop} {n : Nat}
theorem rv : ∀ (l : List Oper) (mk : List Bool) (i : Nat) (tr : Tr) (K : Tr → St → Prop) (st : St), (∀ k o, l[k]? = some o → ops[i + k]? = some o) → mk.length ≤ l.length → flR P G ops base i l mk tr K st →
  ∃ st' tr', QSteps P G ops base (idxM i mk) st st' tr' ∧ K (tr'.reverse ++ tr) st'
 | l, [], i, tr, K, st, _, _, h => ⟨st, [], .nil, by cases l <;> exact h⟩
 | [], _ :: _, _, _, _, _, _, hl, _ => by simp at hl
 | o :: l, true :: mk, i, tr, K, st, ho, hl, h => by
  obtain ⟨rd, wr, s1, hq, hk⟩ := AA h
  obtain ⟨st', tr', hqs, hK⟩ := rv l mk (i + 1) _ K s1 (fun k o' hk' => by have := ho (k + 1) o' (by simpa using hk'); rw [show i + 1 + k = i + (k + 1) by omega]; exact this) (by simpa using hl) hk
  exact ⟨st', (i, rd, wr) :: tr', .cons (by have := ho 0 o rfl; simpa using this) hq hqs, by simpa using hK⟩
 | o :: l, false :: mk, i, tr, K, st, ho, hl, h =>
  rv l mk (i + 1) tr K st (fun k o' hk' => by have := ho (k + 1) o' (by simpa using hk'); rw [show i + 1 + k = i + (k + 1) by omega]; exact this) (by simpa using hl) h
def flB (P : Program) (G : Glob) (ops : Array Oper) (base : Nat) (Q : VExit → St → Prop) (l : List Oper) (b : Nat) (K : St → Prop) (st : St) : Prop := match l.drop b with
 | o :: _ => stepK P G ops (base + b) o st K (fun x s => Q (.panic x) s)
 | [] => False
def flD (P : Program) (G : Glob) (ops : Array Oper) (base : Nat) (l : List Oper) (m : Nat) (st : St) (K : List Nat → List Nat → St → Prop) : Prop := match l.drop m with
 | o :: _ => dstepK P G ops (base + m) o st K
 | [] => False
def flGo (P : Program) (G : Glob) (ops : Array Oper) (base : Nat) (Q : VExit → St → Prop) (l : List Oper) (m : Nat) (mE mL : List Bool) : List (List Bool × Nat) → Bool → St → Prop
 | [], true, st => flR P G ops base 0 l mL [] (fun tr s => traceR ops tr ∧ Q .normal s) st
 | [], false, st => flR P G ops base 0 l mE [] (fun tr s => traceR ops tr ∧ Q .normal s) st
 | (mk, b) :: rest, false, st => flR P G ops base 0 l mk [] (fun tr s => traceR ops tr ∧ flB P G ops base Q l b (flGo P G ops base Q l m mE mL rest false) s) st
 | (mk, b) :: rest, true, st => flR P G ops base 0 l mk [] (fun tr s => traceR ops tr ∧ (flB P G ops base Q l b (flGo P G ops base Q l m mE mL rest true) s ∧
   flD P G ops base l m s (fun rd wr s' => hitK ops m rd wr tr ∧ flB P G ops base Q l b (flGo P G ops base Q l m mE mL rest false) s'))) st
def segsI (segs : List (List Bool × Nat)) : List (List Nat × Nat) := segs.map fun p => (idxM 0 p.1, p.2)
def apartM (ops : Array Oper) (m : Nat) (segs : List (List Bool × Nat)) : Bool := segs.all fun p => (idxM 0 p.1).all fun i => aA ops ops.size i m || (match ops[i]?, ops[m]? with
 | some o, some o' => o.apart ops o'
 | _, _ => true)
def shortM (k : Nat) (segs : List (List Bool × Nat)) : Bool := segs.all fun p => decide (p.1.length ≤ k)
theorem AB {l : List Oper} {b : Nat} {K : St → Prop} {st : St} (hl : ∀ (k : Nat) (o : Oper), l[k]? = some o → ops[k]? = some o) (hd : aX n ops = true) (h : flB P G ops base Q l b K st) : aH P G n ops base b st K (fun x s => Q (.panic x) s) := by
 unfold flB at h
 cases e : l.drop b with
 | nil => rw [e] at h; exact h.elim
 | cons o l2 =>
  rw [e] at h
  have ho : l[b]? = some o := by
   have : (l.drop b)[0]? = some o := by rw [e]; rfl
   simpa using this
  exact Lh (hl b o ho) hd h
theorem AD {l : List Oper} {m : Nat} {K : List Nat → List Nat → St → Prop} {st : St} (hl : ∀ (k : Nat) (o : Oper), l[k]? = some o → ops[k]? = some o) (h : flD P G ops base l m st K) : ∃ o rd wr st', ops[m]? = some o ∧ QStep P G ops base m o st st' rd wr ∧ K rd wr st' := by
 unfold flD at h
 cases e : l.drop m with
 | nil => rw [e] at h; exact h.elim
 | cons o l2 =>
  rw [e] at h
  have ho : l[m]? = some o := by
   have : (l.drop m)[0]? = some o := by rw [e]; rfl
   simpa using this
  obtain ⟨rd, wr, st', h1, h2⟩ := AA h
  exact ⟨o, rd, wr, st', hl m o ho, h1, h2⟩
theorem AE {l : List Oper} {m : Nat} {mE mL : List Bool} (hl : ∀ (k : Nat) (o : Oper), l[k]? = some o → ops[k]? = some o) (hd : aX n ops = true) (hap : apartOk ops = true) (hE : mE.length ≤ l.length) (hL : mL.length ≤ l.length) (hp : (idxM 0 mL).Perm (m :: idxM 0 mE)) :
  ∀ (segs : List (List Bool × Nat)) (pend : Bool) (st : St), apartM ops m segs = true → shortM l.length segs = true → flGo P G ops base Q l m mE mL segs pend st → VF P G n ops base Q (segsI segs) (idxM 0 mE) (if pend then [m] else []) st := by
 have gh : ∀ (k : Nat) (o : Oper), l[k]? = some o → ops[0 + k]? = some o := fun k o h => by rw [Nat.zero_add]; exact hl k o h
 have tok : ∀ {mk : List Bool} {st st' : St} {tr : Tr}, QSteps P G ops base (idxM 0 mk) st st' tr → traceR ops (tr.reverse ++ []) → TraceOk ops tr := by
  intro mk st st' tr hq h
  refine xb hap tr ?_ (by simpa using Am h)
  rw [hq.fst]
  exact Az mk 0
 intro segs
 induction segs with
 | nil =>
  intro pend st _ _ h
  cases pend with
  | true =>
   obtain ⟨st', tr, hq, ht, hQ⟩ := rv l mL 0 [] _ st gh hL h
   exact ⟨_, st', tr, hp, hq, tok hq ht, hQ⟩
  | false =>
   obtain ⟨st', tr, hq, ht, hQ⟩ := rv l mE 0 [] _ st gh hE h
   exact ⟨_, st', tr, List.Perm.refl _, hq, tok hq ht, hQ⟩
 | cons p rest ih =>
  obtain ⟨mk, b⟩ := p
  intro pend st ha hs h
  unfold apartM at ha
  unfold shortM at hs
  simp only [List.all_cons, Bool.and_eq_true] at ha hs
  have hmk : mk.length ≤ l.length := of_decide_eq_true hs.1
  cases pend with
  | false =>
   obtain ⟨st', tr, hq, ht, hB⟩ := rv l mk 0 [] _ st gh hmk h
   exact ⟨st', tr, 0, hq, tok hq ht, rfl, (AB hl hd hB).mono (fun s hs' => ih false s ha.2 hs.2 hs') (fun _ _ h => h)⟩
  | true =>
   obtain ⟨st', tr, hq, ht, hB, hD⟩ := rv l mk 0 [] _ st gh hmk h
   refine ⟨st', tr, 1, hq, tok hq ht, (AB hl hd hB).mono (fun s hs' => ih true s ha.2 hs.2 hs') (fun _ _ h => h), fun m' hm' _ => ?_⟩
   have em : m' = m := by simpa using hm'
   subst em
   obtain ⟨o, rd, wr, s1, ho, hqm, hk, Ot⟩ := AD hl hD
   refine ⟨o, s1, rd, wr, ho, hqm, fun p hp' => ?_, by simp, (AB hl hd Ot).mono (fun s hs' => ?_) (fun _ _ h => h)⟩
   ·rcases Ak hk p (by simpa using hp') with hb | hi
    ·exact .inl hb
    ·cases hbb : aA ops ops.size p.1 m' with
     | true => exact .inl hbb
     | false =>
      refine .inr ⟨hi, fun o1 o2 h1 h2 => ?_⟩
      have hpm : p.1 ∈ idxM 0 mk := by rw [← hq.fst]; exact List.mem_map_of_mem hp'
      have := (List.all_eq_true.1 ha.1) p.1 hpm
      simpa [hbb, h1, h2] using this
   ·have := ih false s ha.2 hs.2 hs'
    show VF P G n ops base Q (segsI rest) (idxM 0 mE) ([m'].erase m') s
    rw [List.erase_cons_head]
    exact this
def floatOk (n : Nat) (ops : Array Oper) (m : Nat) (segs : List (List Bool × Nat)) (mE mL : List Bool) : Bool :=
 backOk ops && aX n ops && barOk ops (segsI segs) (idxM 0 mE) && apartOk ops && apartM ops m segs && shortM ops.size segs && decide (mE.length ≤ ops.size) && decide (mL.length ≤ ops.size) && decide ((idxM 0 mL).Perm (m :: idxM 0 mE)) &&
 decide ((m :: flat (segsI segs) (idxM 0 mE)).Nodup) && decide ((m :: flat (segsI segs) (idxM 0 mE)).length ≤ ops.size) && ((m :: flat (segsI segs) (idxM 0 mE)).all fun i => decide (i < ops.size)) && ((List.range ops.size).all fun i => decide (i ∈ m :: flat (segsI segs) (idxM 0 mE)))
theorem Li (hm : P.follows .mixedOrders = true) {id : Nat} {l : List Oper} {tm : Nat → VV} {H : Nat → Option VObj} {nx : Nat} {df : List VDef}
  (m : Nat) (segs : List (List Bool × Nat)) (mE mL : List Bool) (hstat : floatOk n ⟨l⟩ m segs mE mL = true) (h : flGo P G ⟨l⟩ nx Q l m mE mL segs true ⟨tm, H, nx + l.length, df⟩) : CWp P G n (.region id ⟨l⟩ true) Q ⟨tm, H, nx, df⟩ := by
 unfold floatOk at hstat
 simp only [Bool.and_eq_true, decide_eq_true_eq, List.all_eq_true, List.mem_range] at hstat
 obtain ⟨⟨⟨⟨⟨⟨⟨⟨⟨⟨⟨⟨h1, h2⟩, h3⟩, h4⟩, h5⟩, h6⟩, h7⟩, h8⟩, h9⟩, Ou⟩, Ov⟩, Ow⟩, Ox⟩ := hstat
 refine .inr (VWp.regionFloat hm (segsI segs) (idxM 0 mE) [m] h1 h2 h3 Ou Ov (fun i => ⟨fun hi => Ow i hi, fun hi => Ox i hi⟩) ?_)
 have := AE (P := P) (G := G) (base := nx) (Q := Q) (n := n) (ops := ⟨l⟩) (l := l) (fun k o ho => by simpa using ho) h2 h4 h7 h8 h9 segs true _ h5 h6 h
 simpa using this
end
section
variable {P : Program} {G : Glob} {ops : Array Oper} {base : Nat} {Q : VExit → St → Prop} {n : Nat} {i m b : Nat} {o : Oper} {l l2 : List Oper} {mk mE mL : List Bool} {tr : Tr} {K : Tr → St → Prop} {tm : Nat → VV} {H : Nat → Option VObj} {nx : Nat} {df : List VDef} {st : St} {rest : List (List Bool × Nat)}
theorem flR_t : flR P G ops base i (o :: l) (true :: mk) tr K ⟨tm, H, nx, df⟩ = dstepK P G ops (base + i) o ⟨tm, H, nx, df⟩ fun rd wr s => flR P G ops base (i + 1) l mk ((i, rd, wr) :: tr) K s := rfl
theorem flR_f : flR P G ops base i (o :: l) (false :: mk) tr K ⟨tm, H, nx, df⟩ = flR P G ops base (i + 1) l mk tr K ⟨tm, H, nx, df⟩ := rfl
theorem ry (h : K tr st) : flR P G ops base i [] [] tr K st := h
theorem mj {K : St → Prop} (ho : l.drop b = o :: l2) (h : stepK P G ops (base + b) o st K (fun x s => Q (.panic x) s)) : flB P G ops base Q l b K st := by unfold flB; rw [ho]; exact h
theorem tw {K : List Nat → List Nat → St → Prop} (ho : l.drop m = o :: l2) (h : dstepK P G ops (base + m) o st K) : flD P G ops base l m st K := by unfold flD; rw [ho]; exact h
theorem Lj (h : flR P G ops base 0 l mL [] (fun tr s => traceR ops tr ∧ Q .normal s) st) : flGo P G ops base Q l m mE mL [] true st := h
theorem Lk (h : flR P G ops base 0 l mE [] (fun tr s => traceR ops tr ∧ Q .normal s) st) : flGo P G ops base Q l m mE mL [] false st := h
theorem Ll (h : flR P G ops base 0 l mk [] (fun tr s => traceR ops tr ∧ (flB P G ops base Q l b (flGo P G ops base Q l m mE mL rest true) s ∧
   flD P G ops base l m s (fun rd wr s' => hitK ops m rd wr tr ∧ flB P G ops base Q l b (flGo P G ops base Q l m mE mL rest false) s'))) st) : flGo P G ops base Q l m mE mL ((mk, b) :: rest) true st := h
end
end Go.V
namespace Go.V
set_option linter.defProp false
def flr := (And.intro @flR_t @flR_f)
end Go.V
end
section
namespace Go.V
open Go
def gone (H H' : Nat → Option VObj) : Nat → Option VObj := fun β => if (H' β).isSome then none else H β
theorem ar.gone (H H' : Nat → Option VObj) : ar (gone H H') H := fun x o h => by
 unfold Go.V.gone at h
 split at h
 ·cases h
 ·exact h
def Frozen (H H' : Nat → Option VObj) (x y : VV) : Prop := y = x ∨ y = .any ∨ ∃ n, sealV (gone H H') n x = some y
def FrozenL (H H' : Nat → Option VObj) : List VV → List VV → Prop
 | [], [] => True
 | x :: xs, y :: ys => Frozen H H' x y ∧ FrozenL H H' xs ys
 | _, _ => False
def FrozenO (H H' : Nat → Option VObj) (o o' : VObj) : Prop := o' = o ∨ ∃ el cs cs', o = .cells el cs ∧ o' = .cells el cs' ∧ FrozenL H H' cs cs'
def Ctx.frz (c : Ctx) (H' : Nat → Option VObj) : Ctx := { c with H := H', A := fun b => c.A b ∨ ∃ β, c.live β ∧ (H' β).isSome = false ∧ c.φ β = b }
section
variable {c : Ctx} {W : World} {H' : Nat → Option VObj}
theorem rz (hl : ∀ β, (H' β).isSome = true → c.live β) : Abides c W (c.frz H') W := ⟨fun _ h => .inl h, fun _ _ => rfl, fun _ h => h, fun β _ h => hl β h, fun _ _ _ => rfl, fun _ _ _ => rfl⟩
theorem xh (hl : ∀ β, (H' β).isSome = true → c.live β) : Ext c W (c.frz H') W where
 A _ h := .inl h
 newA b h := h.imp id fun ⟨β, h1, _, e⟩ => .inr ⟨β, h1, e⟩
 used _ h := h
 live β _ h := hl β h
 φ _ _ _ := rfl
 room _ _ _ := rfl
 keep _ _ _ := rfl
 old x h _ := ⟨x, hl x h, rfl⟩
 size := Nat.le_refl _
 os := rfl
 tape := rfl
 output := rfl
theorem AF (s : Sim c W) (hl : ∀ β, (H' β).isSome = true → c.live β) {x y : VV} {v : Value} (h : Frozen c.H H' x y) (hr : Rep c W x v) : Rep (c.frz H') W y v := by
 rcases h with rfl | rfl | ⟨n, hn⟩
 ·exact Rep.abides (rz hl) _ hr
 ·unfold Rep; trivial
 ·have h1 := (mh s (ar.gone c.H H') n).1 x v y hn hr
  refine Rep.abides (i5 fun b hb => ?_) _ h1
  rcases hb with hb | ⟨β, hβ, e⟩
  ·exact .inl hb
  ·refine .inr ⟨β, ?_, ?_, e⟩
   ·unfold Go.V.gone at hβ
    split at hβ
    ·cases hβ
    ·exact hβ
   ·cases h0 : (H' β).isSome with
    | false => rfl
    | true => unfold Go.V.gone at hβ; rw [h0] at hβ; cases hβ
theorem xi (s : Sim c W) (hl : ∀ β, (H' β).isSome = true → c.live β) : ∀ {xs ys : List VV} {l : List Value}, FrozenL c.H H' xs ys → RepL c W xs l → RepL (c.frz H') W ys l
 | [], [], _, _, h => h
 | _ :: _, _ :: _, _, ⟨h1, h2⟩, ⟨u, us, e, r1, r2⟩ => ⟨u, us, e, AF s hl h1 r1, xi s hl h2 r2⟩
 | [], _ :: _, _, h, _ => h.elim
 | _ :: _, [], _, h, _ => h.elim
theorem FrozenL.length {H H' : Nat → Option VObj} : ∀ {xs ys : List VV}, FrozenL H H' xs ys → ys.length = xs.length
 | [], [], _ => rfl
 | _ :: _, _ :: _, h => by simp [FrozenL.length h.2]
 | [], _ :: _, h => h.elim
 | _ :: _, [], h => h.elim
theorem Sim.frz (s : Sim c W) (ho : ∀ β o', H' β = some o' → ∃ o, c.H β = some o ∧ FrozenO c.H H' o o') (hloop : ∀ x st pe tm ps asg bo df, H' x = some (.loop st pe tm ps asg bo df) → isDef H' df) : Sim (c.frz H') W := by
 have hl : ∀ β, (H' β).isSome = true → c.live β := by
  intro β h
  obtain ⟨o', h'⟩ := Option.isSome_iff_exists.1 h
  obtain ⟨o, h1, _⟩ := ho β o' h'
  simp [Ctx.live, h1]
 have ab : Abides c W (c.frz H') W := rz hl
 refine ⟨fun x h => s.used x (hl x h), fun x ox hx => ?_, fun x h => s.lt x (hl x h), fun x h => ?_, fun x y hx hy e => s.inj x y (hl x hx) (hl y hy) e, fun b hb => ?_⟩
 ·have dq : H' x = some ox := hx
  obtain ⟨o, h1, hf⟩ := ho x ox dq
  rcases hf with rfl | ⟨el, cs, cs', rfl, rfl, hcs⟩
  ·refine (s.obj x _ h1).abides ab (s.used x (hl x (by simp [dq]))) (by simp [Ctx.live, Ctx.frz, dq]) rfl ?_
   intro st pe tm ps asg bo df e'
   subst e'
   exact hloop x st pe tm ps asg bo df dq
  ·obtain ⟨arr, e, a1, a2, a3, a4, a5⟩ := s.obj x _ h1
   exact ⟨arr, e, a1, a2, by rw [hcs.length]; exact a3, by rw [hcs.length]; exact xi s hl hcs a4, a5⟩
 ·rintro (hA | ⟨β, h1, hn, e⟩)
  ·exact s.notA x (hl x h) hA
  ·have := s.inj β x h1 (hl x h) e
   subst this
   have h' : (H' β).isSome = true := h
   rw [h'] at hn; cases hn
 ·rcases hb with hA | ⟨β, h1, _, e⟩
  ·exact s.ltA b hA
  ·rw [← e]; exact s.lt β h1
end
theorem VWp.freeze {P : Program} {G : Glob} {n : Nat} {code : Code} {Q : VExit → St → Prop} {st : St} (H' : Nat → Option VObj) (tm' : Nat → VV) (ho : ∀ β o', H' β = some o' → ∃ o, st.H β = some o ∧ FrozenO st.H H' o o') (hloop : ∀ x s pe tm ps asg bo df, H' x = some (.loop s pe tm ps asg bo df) → isDef H' df)
  (htm : ∀ t, Frozen st.H H' (st.tm t) (tm' t)) (h : VWp P G n code Q ⟨tm', H', st.nx, st.df⟩) : VWp P G n code Q st := by
 intro ro c W a hro s hr hsz
 have ho' : ∀ β o', H' β = some o' → ∃ o, c.H β = some o ∧ FrozenO c.H H' o o' := by rw [hr.H]; exact ho
 have hl : ∀ β, (H' β).isSome = true → c.live β := by
  intro β h
  obtain ⟨o', h'⟩ := Option.isSome_iff_exists.1 h
  obtain ⟨o, h1, _⟩ := ho' β o' h'
  simp [Ctx.live, h1]
 have he : Ext c W (c.frz H') W := xh hl
 have ab : Abides c W (c.frz H') W := rz hl
 refine wpIn_mono (h ro (c.frz H') W a (hro.ext he) (s.frz ho' hloop) ⟨rfl, fun t => ?_, hr.nx, hr.df.abides ab, hr.G.abides ab⟩ hsz) fun _ _ _ hl => hl.of_ext he (fun β hb => .inl hb) (Nat.le_refl _)
 exact AF s hl (by rw [hr.H]; exact htm t) (hr.tm t)
end Go.V
end
section
namespace Go.V
open Go
theorem au.weak {P : Program} {G : Glob} {f : FuncId} {args args' : List VV} {H : Nat → Option VObj} {nx : Nat} {R Rp : VV → (Nat → Option VObj) → Nat → Prop} (hw : ∀ c W vs, RepL c W args vs → RepL c W args' vs) (h : au P G f args' H nx R Rp) : au P G f args H nx R Rp :=
 ⟨h.1, fun c W vs s hH hnx hG ha => h.2 c W vs s hH hnx hG (hw c W vs ha)⟩
theorem au.freeze {P : Program} {G : Glob} {f : FuncId} {args args' : List VV} {H : Nat → Option VObj} {nx : Nat} {R Rp : VV → (Nat → Option VObj) → Nat → Prop} (H' : Nat → Option VObj) (ho : ∀ β o', H' β = some o' → ∃ o, H β = some o ∧ FrozenO H H' o o')
  (hloop : ∀ x s pe tm ps asg bo df, H' x = some (.loop s pe tm ps asg bo df) → isDef H' df) (ha : FrozenL H H' args args') (h : au P G f args' H' nx R Rp) : au P G f args H nx R Rp := by
 refine ⟨h.1, fun c W vs s hH hnx hG hargs => ?_⟩
 have ho' : ∀ β o', H' β = some o' → ∃ o, c.H β = some o ∧ FrozenO c.H H' o o' := by rw [hH]; exact ho
 have hl : ∀ β, (H' β).isSome = true → c.live β := by
  intro β h
  obtain ⟨o', h'⟩ := Option.isSome_iff_exists.1 h
  obtain ⟨o, h1, _⟩ := ho' β o' h'
  simp [Ctx.live, h1]
 have he : Ext c W (c.frz H') W := xh hl
 have ab : Abides c W (c.frz H') W := rz hl
 refine (h.2 (c.frz H') W vs (s.frz ho' hloop) rfl hnx (hG.abides ab) (xi s hl (by rw [hH]; exact ha) hargs)).mono ?_
 rintro e W' ⟨c', H1, nx', g1, g2, g3, g4, g5, g6, g7⟩
 exact ⟨c', H1, nx', he.trans g1, g2, g3, g4, g5, g6, g7⟩
def Yields (P : Program) (G : Glob) (β : Nat) (x : VV) (H : Nat → Option VObj) (nx : Nat) (Post : Bool → (Nat → Option VObj) → Nat → Prop) : Prop :=
 ∀ (r : Option (Option Nat)) (o : Oper) (st : St) (K : St → Prop), st.H = H → st.nx = nx → (∀ b H' nx', Post b H' nx' → K ⟨(match o.dst with | some d => upd st.tm d (.lit (.bool b)) | none => st.tm), H', nx', st.df⟩) → yieldK P (G.at r) o β [x] st K
theorem Yields.mono {P : Program} {G : Glob} {β : Nat} {x : VV} {H : Nat → Option VObj} {nx : Nat} {Post Post' : Bool → (Nat → Option VObj) → Nat → Prop} (h : Yields P G β x H nx Post) (hp : ∀ b H' nx', Post b H' nx' → Post' b H' nx') : Yields P G β x H nx Post' :=
 fun r o st K h1 h2 hk => h r o st K h1 h2 fun b H' nx' hp' => hk b H' nx' (hp b H' nx' hp')
def Own (hp : List (Nat × VObj)) (Fr : Nat → Prop) (H : Nat → Option VObj) (nx : Nat) : Prop := ∀ p ∈ hp, p.1 < nx ∧ ¬ Fr p.1 ∧ H p.1 = some p.2
theorem Own.nil {Fr : Nat → Prop} {H : Nat → Option VObj} {nx : Nat} : Own [] Fr H nx := fun _ h => by cases h
theorem Own.cons {p : Nat} {o : VObj} {hp : List (Nat × VObj)} {Fr : Nat → Prop} {H : Nat → Option VObj} {nx : Nat} (h1 : p < nx) (h2 : ¬ Fr p) (h3 : H p = some o) (h : Own hp Fr H nx) : Own ((p, o) :: hp) Fr H nx := by
 intro q hq
 rcases List.mem_cons.1 hq with rfl | hq
 ·exact ⟨h1, h2, h3⟩
 ·exact h q hq
theorem Own.head {p : Nat} {o : VObj} {hp : List (Nat × VObj)} {Fr : Nat → Prop} {H : Nat → Option VObj} {nx : Nat} (h : Own ((p, o) :: hp) Fr H nx) : p < nx ∧ ¬ Fr p ∧ H p = some o := h (p, o) (List.mem_cons_self ..)
theorem Own.tail {p : Nat} {o : VObj} {hp : List (Nat × VObj)} {Fr : Nat → Prop} {H : Nat → Option VObj} {nx : Nat} (h : Own ((p, o) :: hp) Fr H nx) : Own hp Fr H nx := fun q hq => h q (List.mem_cons_of_mem _ hq)
section
variable {P : Program} {G : Glob} {n : Nat} {Q : VExit → St → Prop} {tm : Nat → VV} {H : Nat → Option VObj} {nx : Nat} {df : List VDef} {g : Operand} {ps : Array Tmp} {az bo : Code}
end
end Go.V
end
section
namespace Go.V
open Go
theorem au.freeze1 {P : Program} {G : Glob} {f : FuncId} {args args' : List VV} {H : Nat → Option VObj} {nx γ : Nat} {el : Option TypeId} {cs : List VV} {R Rp : VV → (Nat → Option VObj) → Nat → Prop} (hγ : H γ = some (.cells el cs))
  (ha : FrozenL H (without H γ) args args') (h : au P G f args' (without H γ) nx R Rp) : au P G f args H nx R Rp := by
 refine ⟨h.1, fun c W vs s hH hnx hG hargs => ?_⟩
 subst hH
 have ho' : ∀ β o', without c.H γ β = some o' → ∃ o, c.H β = some o ∧ FrozenO c.H (without c.H γ) o o' := fun β o' hb => ⟨o', ar.without _ _ β o' hb, .inl rfl⟩
 have hl : ∀ β, (without c.H γ β).isSome = true → c.live β := by
  intro β h
  obtain ⟨o', h'⟩ := Option.isSome_iff_exists.1 h
  obtain ⟨o, h1, _⟩ := ho' β o' h'
  simp [Ctx.live, h1]
 have he : Ext c W (c.frz (without c.H γ)) W := xh hl
 have ab : Abides c W (c.frz (without c.H γ)) W := rz hl
 have hloop : ∀ x st pe tm ps asg bo df, without c.H γ x = some (.loop st pe tm ps asg bo df) → isDef (without c.H γ) df := by
  intro x st pe tm ps asg bo df hx
  obtain ⟨l, fn, _, _, _, hd⟩ := s.obj x _ (ar.without _ _ x _ hx)
  exact hd.without hγ
 refine (h.2 (c.frz (without c.H γ)) W vs (s.frz ho' hloop) rfl hnx (hG.abides ab) (xi s hl ha hargs)).mono ?_
 rintro e W' ⟨c', H1, nx', g1, g2, g3, g4, g5, g6, g7⟩
 exact ⟨c', H1, nx', he.trans g1, g2, g3, g4, g5, g6, g7⟩
theorem Frozen.same {H H' : Nat → Option VObj} {x : VV} : Frozen H H' x x := .inl rfl
theorem FrozenL.same {H H' : Nat → Option VObj} : ∀ {xs : List VV}, FrozenL H H' xs xs
 | [] => trivial
 | _ :: _ => ⟨.same, .same⟩
theorem Frozen.own {H : Nat → Option VObj} {γ n w cp : Nat} {el : Option TypeId} {cs : List VV} (hγ : H γ = some (.cells el cs)) (ht : treeL cs = true) (hl : cs.length = n * w) : Frozen H (without H γ) (.ref γ 0 n w cp) (.sl cs n false) := by
 refine .inr (.inr ⟨cs.length + 2, ?_⟩)
 have hg : gone H (without H γ) γ = some (.cells el cs) := by simp [gone, without, hγ]
 unfold sealV
 have : (VV.ref γ 0 n w cp).tree = false := rfl
 rw [this]
 simp only [Bool.false_eq_true, if_false, hg, Nat.zero_le, if_true, List.drop_zero]
 rw [List.take_of_length_le (by omega), kE cs _ ht (by omega)]
 rfl
end Go.V
namespace Go.V
end Go.V
namespace Go.V
theorem au.of_pure {P : Program} {G : Glob} {f : FuncId} {args : List VV} {x : VV} {H : Nat → Option VObj} {nx : Nat} (h : ak P G f args (.tree x)) (ht : treeL args = true) : au P G f args H nx (fun y H' nx' => y = x ∧ H' = H ∧ nx' = nx) (fun _ _ _ => False) := by
 refine ⟨h.1, fun c W vs s hH hnx hG ha => (h.2 c.A W vs s.ltA (fun g cs hg => hG.tree g cs hg) (jj ht ha)).mono ?_⟩
 rintro e W' ⟨A', h1, h2, h3, hb, v, rfl, hx⟩
 exact ⟨c.more A', H, nx, Ext.more h1 h2 hb, Sim.more s h1 h2 h3 hb, hH, fun β hb => .inl hb, hnx, Nat.le_refl _, .inl ⟨x, v, rfl, Rep.abides (i5 (fun _ h => h)) _ hx, rfl, rfl, rfl⟩⟩
abbrev sI (l : List Int) : VV := .sl (ae eI l) l.length false
end Go.V
namespace Go.V
end Go.V
namespace Go.V
end Go.V
namespace Go.V
theorem ktreeR {P : Program} {G : Glob} {γ : Nat} {tm : Nat → VV} {H : Nat → Option VObj} {nx : Nat} {df : List VDef} {d : Option Tmp} {K : St → Prop} {Qp : VV → St → Prop} {f : FuncId} {args : List VV} {x : VV} (ht : treeL args = true) (hp : ak P G f args (.tree x)) (h : fin d γ tm H nx df K x .none) : callK P G f args ⟨tm, H, nx, df⟩ d γ K Qp := by
 refine .inl ⟨ht, .tree x, hp, ?_⟩
 rw [← dT (K := K), fY] at h
 exact h
end Go.V
namespace Go.V
theorem Frozen.ptr {H H' : Nat → Option VObj} {γ : Nat} {el : Option TypeId} {cs : List VV} (hγ : H γ = some (.cells el cs)) (hn : (H' γ).isSome = false) (ht : treeL cs = true) : Frozen H H' (.ptr γ 0) (.tp cs) := by
 refine .inr (.inr ⟨cs.length + 2, ?_⟩)
 have hg : gone H H' γ = some (.cells el cs) := by simp [gone, hn, hγ]
 unfold sealV
 have : (VV.ptr γ 0).tree = false := rfl
 rw [this]
 simp only [Bool.false_eq_true, if_false, hg, Nat.zero_le, if_true, List.drop_zero]
 rw [kE cs _ ht (by omega)]
 rfl
end Go.V
end
section
namespace Go.V
open Go
theorem Lm {α : Type} {xs : List α} (h : neB xs = false) : xs = [] := by
 cases xs with
 | nil => rfl
 | cons a l => cases h
section
variable {P : Program} {G : Glob} {H : Nat → Option VObj} {γ : Nat} {α : Type} {enc : α → List VV} {t t2 e e2 w b : Nat} {xs ys : List α} {el : Option TypeId} {β : Nat} {f : Bool} {k : VV → VEff → Prop}
theorem AG (he : ∀ x, (enc x).length = w) (hl : ∀ x, leafL (enc x) = true) (ha : appOk P t = some (e, w, b)) (fg : P.underlying t2 = some (.slice e2)) (hb : H β = some (.cells el (ae enc xs)))
  (hm : neB ys = false) (h : k (.ref β 0 xs.length w xs.length) (.upd β (.cells el (ae enc xs)))) :
  oeK (vappend P H γ t t2 (.ref β 0 xs.length w xs.length) (.sl (ae enc ys) ys.length f)) k := by
 have hm := Lm hm
 subst hm
 obtain ⟨hu, inf, z, hi, hz, rfl, rfl, dv, kD, hzs⟩ := rq ha
 have h1 := ej he xs
 have key : vappend P H γ t t2 (.ref β 0 xs.length inf.size xs.length) (.sl (ae enc ([] : List α)) ([] : List α).length f) = some (.ref β 0 xs.length inf.size xs.length, .upd β (.cells el (ae enc xs))) := by
  simp only [vappend, nilS, vappend1, hu, fg, hi, hz, srcV, sls, dv, kD, hzs, hb, gi, List.length_nil]
  simp [h1, overwrite]
 rw [key]
 exact h
theorem tx {d : Tmp} {γ : Nat} {tm : Nat → VV} {nx : Nat} {df : List VDef} {K : St → Prop} {x : VV} {β : Nat} {o : VObj} : fin (some d) γ tm H nx df K x (.upd β o) = K ⟨upd tm d x, updH H β o, nx, df⟩ := rfl
theorem tz {s : VV} : vappend P H γ t t2 (.sl [] 0 true) s = vappend P H γ t t2 (.lit (.slice none 0 0)) s := rfl
theorem kfreeze {f : FuncId} {args args' args0 : List VV} {x : VV} {d : Option Tmp} {γ g : Nat} {tm : Nat → VV} {nx : Nat} {df : List VDef} {K : St → Prop} {Qp : VV → St → Prop} {cs : List VV} (hγ : H g = some (.cells el cs)) (ha : FrozenL H (without H g) args args')
  (hn : normL args' = args0) (ht : treeL args' = true) (hp : ak P G f args0 (.tree x)) (h : fin d γ tm (without H g) nx df K x .none) : callK P G f args ⟨tm, H, nx, df⟩ d γ K Qp := by
 subst hn
 refine .inr (.inr ?_)
 unfold openK
 refine au.mono (au.freeze1 hγ ha (au.of_pure hp.norm ht)) ?_ (fun _ _ _ h => h.elim)
 rintro v H2 nf ⟨rfl, rfl, rfl⟩
 rw [← dT (K := K), fY] at h
 cases d <;> exact h
end
end Go.V
namespace Go.V
open Go
end Go.V
namespace Go.V
open Go
end Go.V
namespace Go.V
open Go
set_option linter.defProp false
end Go.V
end
section
set_option linter.defProp false
namespace Go.V
open Go
def kIdx {K : Type} (q : K → K → Bool) (k : K) : List K → Nat → Option Nat
 | [], _ => none
 | e :: es, i => cond (q k e) (some i) (kIdx q k es (i + 1))
theorem xj {K : Type} {q : K → K → Bool} {k : K} : ∀ (es : List K) (i j : Nat), kIdx q k es i = some j → i ≤ j ∧ ∃ e, es[j - i]? = some e ∧ q k e = true
 | [], _, _, h => by cases h
 | e :: es, i, j, h => by
  unfold kIdx at h
  cases hq : q k e with
  | true =>
   rw [hq] at h
   simp only [cond_true, Option.some.injEq] at h
   subst h
   exact ⟨Nat.le_refl _, e, by simp, hq⟩
  | false =>
   rw [hq] at h
   simp only [cond_false] at h
   obtain ⟨h1, x, h2, h3⟩ := xj es (i + 1) j h
   refine ⟨by omega, x, ?_, h3⟩
   rw [show j - i = (j - (i + 1)) + 1 by omega]
   simpa using h2
def mapGet {K V : Type} (q : K → K → Bool) (z : V) (l : List (K × V)) (k : K) : V := match kIdx q k (l.map (·.1)) 0 with
 | some i => match l[i]? with | some p => p.2 | none => z
 | none => z
def mapSet {K V : Type} (q : K → K → Bool) (l : List (K × V)) (k : K) (v : V) : List (K × V) := match kIdx q k (l.map (·.1)) 0 with
 | some i => l.set i (k, v)
 | none => l ++ [(k, v)]
def encM {K V : Type} (kv : K → Value) (ev : V → VV) (l : List (K × V)) : List (Value × VV) := l.map fun p => (kv p.1, ev p.2)
section
variable {P : Program} {K V : Type} {q : K → K → Bool} {kv : K → Value} {ev : V → VV} {t kt et : TypeId} {H : Nat → Option VObj} {β : Nat}
theorem Ln (he : ∀ a b, aE P (Op.equal kt (kv a) (kv b)) = some (q a b)) (k : K) : ∀ (ks : List K) (i : Nat), aE P (Instr.findAsking kt (kv k) ((ks.map kv).map dummy) i) = some ((kIdx q k ks i).map fun j => (j, Value.bool false))
 | [], i => rfl
 | e :: es, i => by
  simp only [List.map_cons, Instr.findAsking, kIdx]
  rw [cK]
  have h0 : aE P (Op.equal kt (kv k) (dummy (kv e)).key) = some (q k e) := he k e
  rw [h0, Option.bind_some]
  cases q k e with
  | true => rfl
  | false => exact Ln he k es (i + 1)
theorem t0 {fs : Array Field} (hu : P.underlying kt = some (.struct fs)) (he : ∀ a b, aE P (Op.equal kt (kv a) (kv b)) = some (q a b)) (k : K) (ks : List K) : kfind P kt (kv k) (ks.map kv) = some (kIdx q k ks 0) := by
 unfold kfind Instr.findKey
 rw [cK, rA hu, Option.bind_some]
 have ha := Ln he k ks 0
 cases ks with
 | nil => rfl
 | cons e es =>
  have hn : Instr.findNow (.struct fs) (kv k) (((e :: es).map kv).map dummy) 0 = none := by
   simp only [List.map_cons, Instr.findNow]
   have : Instr.sameNow (.struct fs) (kv k) (dummy (kv e)).key = none := by cases kv k <;> rfl
   rw [this]
  rw [hn]
  simp only []
  rw [ha]
  cases kIdx q k (e :: es) 0 <;> rfl
theorem Lo {l : List (K × V)} : (encM kv ev l).map (·.1) = (l.map (·.1)).map kv := by simp [encM, Function.comp_def]
theorem AH {fs : Array Field} (hm : P.underlying t = some (.map kt et)) (hu : P.underlying kt = some (.struct fs)) (he : ∀ a b, aE P (Op.equal kt (kv a) (kv b)) = some (q a b)) (hc : ∀ b k, aE P (Instr.checkKey b 10000 kt (kv k)) = some ())
  (hq : ∀ a b, q a b = true → a = b) (hs : ∀ a, Instr.sameBits 10000 (kv a) (kv a) = true) {l : List (K × V)} {kx : VV} {k : K} {v : V} (hk : kx.val? = some (kv k)) (hb : H β = some (.map (encM kv ev l))) :
  vmapUpdate P H t (.mp β) kx (ev v) = some (.upd β (.map (encM kv ev (mapSet q l k v)))) := by
 unfold vmapUpdate
 rw [hm, hk]
 simp only [hb]
 rw [hc, Lo, t0 hu he]
 unfold mapSet
 cases hi : kIdx q k (l.map (·.1)) 0 with
 | none => simp only [encM, List.map_append, List.map_cons, List.map_nil]
 | some i =>
  obtain ⟨_, e, h1, h2⟩ := xj _ _ _ hi
  rw [Nat.sub_zero, List.getElem?_map] at h1
  cases hl : l[i]? with
  | none => rw [hl] at h1; cases h1
  | some p =>
   have h3 : (encM kv ev l)[i]? = some (kv p.1, ev p.2) := by unfold encM; rw [List.getElem?_map, hl]; rfl
   rw [hl] at h1
   simp only [Option.map_some, Option.some.injEq] at h1
   have h4 := hq _ _ h2
   subst h4
   subst h1
   simp only [h3, hs, if_true]
   simp only [encM, List.map_set]
end
section
variable {P : Program} {G : Glob} {γ : Nat} {tm : Nat → VV} {H : Nat → Option VObj} {nx : Nat} {df : List VDef} {K : St → Prop} {Kd : List Nat → List Nat → St → Prop} {Qp : VV → St → Prop}
 {d : Option Tmp} {ty : TypeId} {pos : String} {af : Array Edge} {g : Option (Nat × Bool)}
theorem Oy {t : TypeId} : aR P G γ ⟨d, .makeMap t none, ty, pos, af, g⟩ ⟨tm, H, nx, df⟩ K Qp = fin d γ tm H nx df K (.mp γ) (.new (.map [])) := by
 rw [fv (by simp) (by simp) (by simp)]; rfl
theorem AI {t : TypeId} {x k : Operand} {ok : Bool} : aR P G γ ⟨d, .lookup t x k ok, ty, pos, af, g⟩ ⟨tm, H, nx, df⟩ K Qp = oK (vlookup P H t (ev G tm x) (ev G tm k) ok) (fun y => fin d γ tm H nx df K y .none) := by
 rw [fv (by simp) (by simp) (by simp)]; simp only [vop]; exact lE
theorem Oz {t : TypeId} : aJ P G γ ⟨d, .makeMap t none, ty, pos, af, g⟩ ⟨tm, H, nx, df⟩ Kd = fin d γ tm H nx df (Kd (rdV ⟨d, .makeMap t none, ty, pos, af, g⟩ (ev G tm)) [γ]) (.mp γ) (.new (.map [])) := by
 rw [f8 (by simp)]; rfl
theorem O0 {t : TypeId} {x k : Operand} {ok : Bool} : aJ P G γ ⟨d, .lookup t x k ok, ty, pos, af, g⟩ ⟨tm, H, nx, df⟩ Kd = oK (vlookup P H t (ev G tm x) (ev G tm k) ok) (fun y => fin d γ tm H nx df (Kd (rdV ⟨d, .lookup t x k ok, ty, pos, af, g⟩ (ev G tm)) []) y .none) := by
 rw [f8 (by simp)]; simp only [vop]
 cases vlookup P H t (ev G tm x) (ev G tm k) ok <;> rfl
def umK (o : Option VEff) (k : VEff → Prop) : Prop := match o with | some e => k e | none => False
theorem AJ {e : VEff} {k : VEff → Prop} : umK (some e) k = k e := rfl
theorem O1 {t : TypeId} {m k x : Operand} : aR P G γ ⟨d, .mapUpdate t m k x, ty, pos, af, g⟩ ⟨tm, H, nx, df⟩ K Qp = umK (vmapUpdate P H t (ev G tm m) (ev G tm k) (ev G tm x)) (fun e => fin d γ tm H nx df K .any e) := by
 rw [fv (by simp) (by simp) (by simp)]; simp only [vop]
 cases vmapUpdate P H t (ev G tm m) (ev G tm k) (ev G tm x) <;> rfl
theorem O2 {t : TypeId} {m k x : Operand} : aJ P G γ ⟨d, .mapUpdate t m k x, ty, pos, af, g⟩ ⟨tm, H, nx, df⟩ Kd = umK (vmapUpdate P H t (ev G tm m) (ev G tm k) (ev G tm x)) (fun e => fin d γ tm H nx df (Kd (rdV ⟨d, .mapUpdate t m k x, ty, pos, af, g⟩ (ev G tm)) (e.wr γ)) .any e) := by
 rw [f8 (by simp)]; simp only [vop]
 cases vmapUpdate P H t (ev G tm m) (ev G tm k) (ev G tm x) <;> rfl
theorem AK {β : Nat} : aY (.mp β) = some [.mp β] := rfl
theorem AL {β : Nat} : (VV.mp β).leaf = true := rfl
theorem AM {t : TypeId} : rdV ⟨d, .makeMap t none, ty, pos, af, g⟩ (ev G tm) = rdL (ev G tm) [] := fA []
theorem AN {t : TypeId} {x k : Operand} {ok : Bool} : rdV ⟨d, .lookup t x k ok, ty, pos, af, g⟩ (ev G tm) = rdL (ev G tm) [x, k] := fA [x, k]
theorem O3 {t : TypeId} {m k x : Operand} : rdV ⟨d, .mapUpdate t m k x, ty, pos, af, g⟩ (ev G tm) = rdL (ev G tm) [m, k, x] := fA [m, k, x]
theorem AO {β : Nat} {l : List Nat} : tnL (.mp β) l = β :: l := rfl
theorem AP : ev G tm (.const (.map none)) = .lit (.map none) := rfl
theorem bW {K V : Type} {kv : K → Value} {ew : V → VV} : encM kv ew [] = [] := rfl
def mq := (And.intro (And.intro (And.intro @Oy (And.intro @AI @O1)) (And.intro (And.intro @Oz @O0) (And.intro @O2 @AJ))) (And.intro (And.intro (And.intro @AK @AL) (And.intro @AM @AN)) (And.intro (And.intro @O3 @AO) (And.intro @AP @bW))))
end
end Go.V
end
section
set_option linter.defProp false
namespace Go.V
open Go
section
variable {P : Program} {K V : Type} {q : K → K → Bool} {kv : K → Value} {ew : V → VV} {t kt et : TypeId} {H : Nat → Option VObj}
end
theorem AQ {ks : List Value} {vs : List VV} : (VV.mt ks vs).leaf = true := rfl
theorem AR {ks : List Value} {vs : List VV} : aY (.mt ks vs) = some [.mt ks vs] := rfl
theorem AS {ks : List Value} {vs : List VV} {l : List Nat} : tnL (.mt ks vs) l = l := rfl
def mqm := (And.intro @AQ (And.intro @AR @AS))
end Go.V
end
section
set_option linter.defProp false
namespace Go.V
open Go
theorem AT {ks : List Value} {vs : List VV} : normV (.mt ks vs) = .mt ks vs := by simp [normV]
theorem AU {H : Nat → Option VObj} {d : Nat} {ks : List Value} {vs : List VV} : showV H d (.mt ks vs) = .mt ks vs := by cases d <;> rfl
end Go.V
end
section
set_option linter.defProp false
namespace Go.V
open Go
section
variable {P : Program} {G : Glob} {n : Nat} {γ : Nat} {tm : Nat → VV} {H : Nat → Option VObj} {nx : Nat} {df : List VDef} {K : St → Prop} {Kd : List Nat → List Nat → St → Prop} {Qp : VV → St → Prop} {Q : VExit → St → Prop}
 {d : Option Tmp} {ty : TypeId} {pos : String} {af : Array Edge} {g : Option (Nat × Bool)}
theorem O4 {t : Tmp} {m : String} {asg : Array Operand} {ats : Array TypeId} : aR P G γ ⟨d, .call ⟨.invoke (.tmp t) m, asg, ats⟩, ty, pos, af, g⟩ ⟨tm, H, nx, df⟩ K Qp = cvalK P G ⟨d, .call ⟨.invoke (.tmp t) m, asg, ats⟩, ty, pos, af, g⟩ (recvV P m (tm t)) (asg.toList.map (ev G tm)) ⟨tm, H, nx, df⟩ d γ K Qp := by
 have e : ev G tm (.tmp t) = tm t := rfl
 simp only [aR, ev_eq, cvalK, e]
 cases h : recvV P m (tm t) with
 | yl β => exact absurd h (ta _ _ _)
 | fn f a b => cases f <;> rfl
 | _ => rfl
theorem O5 {t : Tmp} {m : String} {asg : Array Operand} {ats : Array TypeId} : aJ P G γ ⟨d, .call ⟨.invoke (.tmp t) m, asg, ats⟩, ty, pos, af, g⟩ ⟨tm, H, nx, df⟩ Kd = dvalK P G (recvV P m (tm t)) (asg.toList.map (ev G tm)) tm H nx df d γ Kd := by
 have e : ev G tm (.tmp t) = tm t := rfl
 simp only [aJ, ev_eq, e, dvalK]
 cases h : recvV P m (tm t) with
 | fn f first captured =>
  cases f with
  | func f =>
   simp only [dcallK]
   refine propext (or_congr (and_congr_right fun _ => exists_congr fun r => and_congr_right fun _ => ?_) (or_congr (exists_congr fun a => exists_congr fun x => and_congr_right fun _ => and_congr_right fun _ => and_congr_right fun _ => ?_) (or_congr (exists_congr fun β => exists_congr fun es' => exists_congr fun x => and_congr_right fun _ => ?_) (exists_congr fun cs => and_congr_right fun _ => and_congr_right fun _ => ?_))))
   ·cases r with
    | tree x =>
     simp only
     rw [← fY _ _ _ γ]
     exact iff_of_eq (dT (K := Kd [] []))
    | own cs len es => exact iff_of_eq (dT (K := Kd [] [γ]))
    | panic x => exact Iff.rfl
   ·rw [← fY _ _ _ γ]
    exact iff_of_eq (dT (K := Kd (nmL H fuelS (first ++ asg.toList.map (ev G tm) ++ captured)) []))
   ·exact iff_of_eq (dT (K := Kd [β] [β]))
   ·exact iff_of_eq (dT (K := Kd [] [γ]))
  | _ => rfl
 | _ => rfl
def nilV (P : Program) (H : Nat → Option VObj) (x : VV) : Option VV := match x with
  | .tp cs => some (.tp cs)
  | .ptr β off => if (H β).isSome then some (.ptr β off) else none
  | .fn (.func f) a b => some (.fn (.func f) a b)
  | .fn (.method m) a b => if nilOkM P m a b then some (.fn (.method m) a b) else none
  | .yl β => if (H β).isSome then some (.yl β) else none
  | _ => none
theorem AV {x : Operand} : aR P G γ ⟨d, .nilCheck x, ty, pos, af, g⟩ ⟨tm, H, nx, df⟩ K Qp = oK (nilV P H (ev G tm x)) (fun y => fin d γ tm H nx df K y .none) := by
 rw [fv (by simp) (by simp) (by simp)]; simp only [vop]
 cases ev G tm x with
 | fn f a b =>
  cases f <;> try rfl
  rename_i m
  simp only [nilV]
  split <;> rfl
 | ptr β off => simp only [nilV]; split <;> rfl
 | yl β => simp only [nilV]; split <;> rfl
 | _ => rfl
theorem AW {x : Operand} : aJ P G γ ⟨d, .nilCheck x, ty, pos, af, g⟩ ⟨tm, H, nx, df⟩ Kd = oK (nilV P H (ev G tm x)) (fun y => fin d γ tm H nx df (Kd (rdV ⟨d, .nilCheck x, ty, pos, af, g⟩ (ev G tm)) []) y .none) := by
 rw [f8 (by simp)]; simp only [vop]
 cases ev G tm x with
 | fn f a b =>
  cases f <;> try rfl
  rename_i m
  simp only [nilV]
  split <;> rfl
 | ptr β off => simp only [nilV]; split <;> rfl
 | yl β => simp only [nilV]; split <;> rfl
 | _ => rfl
theorem AX {x : Operand} : rdV ⟨d, .nilCheck x, ty, pos, af, g⟩ (ev G tm) = rdL (ev G tm) [x] := fA [x]
theorem AY {f : FuncId} {a b : List VV} : nilV P H (.fn (.func f) a b) = some (.fn (.func f) a b) := rfl
theorem AZ {m : String} {a b : List VV} : nilV P H (.fn (.method m) a b) = if nilOkM P m a b = true then some (.fn (.method m) a b) else none := rfl
theorem Ba : ev G tm (.const .nilIface) = .lit .nilIface := rfl
def Bc := And.intro (And.intro (And.intro @O4 @O5) (And.intro @AV @AW)) (And.intro (And.intro @AX @AY) (And.intro @AZ @Ba))
def mapHas {K V : Type} (q : K → K → Bool) (l : List (K × V)) (k : K) : Bool := (kIdx q k (l.map (·.1)) 0).isSome
end
section
variable {P : Program} {K V : Type} {q : K → K → Bool} {kv : K → Value} {ev : V → VV} {t kt et : TypeId} {H : Nat → Option VObj} {β : Nat}
theorem O6 {fs : Array Field} {z : V} (hm : P.underlying t = some (.map kt et)) (hu : P.underlying kt = some (.struct fs)) (he : ∀ a b, aE P (Op.equal kt (kv a) (kv b)) = some (q a b)) (hc : ∀ b k, aE P (Instr.checkKey b 10000 kt (kv k)) = some ())
  (hz : ((P.info? et).bind (·.zero)).map ofVal2 = some (ev z)) {l : List (K × V)} {kx : VV} {k : K} (hk : kx.val? = some (kv k)) (hb : H β = some (.map (encM kv ev l))) :
  vlookup P H t (.mp β) kx true = some (.tup [ev (mapGet q z l k), .lit (.bool (mapHas q l k))]) := by
 unfold vlookup
 rw [hm, hk]
 simp only [mapOf, hb]
 rw [hc, Lo, t0 hu he]
 cases hzz : (P.info? et).bind (·.zero) with
 | none => rw [hzz] at hz; cases hz
 | some z0 =>
  rw [hzz] at hz
  simp only [Option.map_some, Option.some.injEq] at hz
  unfold mapGet mapHas
  cases hi : kIdx q k (l.map (·.1)) 0 with
  | none => simp only [if_true, hz, Option.isSome_none]
  | some i =>
   obtain ⟨_, e, h1, _⟩ := xj _ _ _ hi
   rw [Nat.sub_zero, List.getElem?_map] at h1
   cases hl : l[i]? with
   | none => rw [hl] at h1; cases h1
   | some p =>
    have : (encM kv ev l)[i]? = some (kv p.1, ev p.2) := by unfold encM; rw [List.getElem?_map, hl]; rfl
    simp only [this, hl, if_true, Option.isSome_some]
end
section
variable {P : Program} {G : Glob} {H : Nat → Option VObj}
theorem kupd {f : FuncId} {args : List VV} {y : VV} {d : Option Tmp} {γ β : Nat} {tm : Nat → VV} {nx : Nat} {df : List VDef} {K : St → Prop} {Qp : VV → St → Prop} {es' : List (Value × VV)} (hu : UpdC P G f args H nx β es' y)
  (h : fin d γ tm H nx df K y (.upd β (.map es'))) : callK P G f args ⟨tm, H, nx, df⟩ d γ K Qp := by
 refine .inr (.inr ?_)
 unfold openK
 refine au.mono hu.open ?_ (fun _ _ _ h => h.elim)
 rintro v H2 nf ⟨rfl, rfl, rfl⟩
 rw [← dT (K := K)] at h
 cases d <;> exact h
def VUpd (P : Program) (G : Glob) (f : FuncId) (A : Nat → List VV) (es es' : List (Value × VV)) (y : Nat → VV) : Prop :=
 ∀ β nx, β < nx → au P G f (A β) (updH (fun _ => none) β (.map es)) nx (fun v H1 _ => H1 β = some (.map es') ∧ SealQ H1 β nx v (y β)) (fun _ _ _ => False)
theorem Bd {β : Nat} {o : VObj} (h : H β = some o) : restr [β] H = updH (fun _ => none) β o := by
 funext γ
 unfold restr updH
 by_cases e : γ = β
 ·subst e; simp [h]
 ·simp [e]
theorem VUpd.at {f : FuncId} {A : Nat → List VV} {args : List VV} {es es' : List (Value × VV)} {y : Nat → VV} {β nx : Nat} (h : VUpd P G f A es es' y) (hlt : β < nx) (hb : H β = some (.map es)) (ha : normL args = A β) (hfl : okVL (fun _ => false) (es'.map (·.2)) = true) : UpdC P G f args H nx β es' (y β) := by
 refine ⟨es, hb, hfl, ?_⟩
 rw [Bd hb]
 refine au.weak (args' := A β) (fun c W vs hr => ?_) (h β nx hlt)
 rw [← ha]
 exact rB _ hr
end
def litC (β b : Nat) : VV → VV
 | .mp γ => if γ = β then .lit (.map (some b)) else .mp γ
 | x => x
def litV (β b : Nat) : VV → VV
 | .agg cs => .agg (cs.map (litC β b))
 | x => x
section
variable {c : Ctx} {W : World} {β : Nat}
theorem Be (hl : c.live β) {x : VV} {v : Value} (h : Rep c W x v) : Rep c W (litC β (c.φ β) x) v := by
 cases x with
 | mp γ =>
  simp only [litC]
  split
  ·rename_i e
   subst e
   exact h.2 hl
  ·exact h
 | _ => exact h
theorem Lp (hl : c.live β) : ∀ {xs : List VV} {l : List Value}, RepL c W xs l → RepL c W (xs.map (litC β (c.φ β))) l
 | [], _, h => h
 | _ :: _, _, ⟨u, us, e, h1, h2⟩ => ⟨u, us, e, Be hl h1, Lp hl h2⟩
theorem Bf (hl : c.live β) {x : VV} {v : Value} (h : Rep c W x v) : Rep c W (litV β (c.φ β) x) v := by
 cases x with
 | agg cs => obtain ⟨l, e, hl'⟩ := h; exact ⟨l, e, Lp hl hl'⟩
 | _ => exact h
theorem t4 (hl : c.live β) : ∀ {xs : List VV} {l : List Value}, RepL c W xs l → RepL c W (xs.map (litV β (c.φ β))) l
 | [], _, h => h
 | _ :: _, _, ⟨u, us, e, h1, h2⟩ => ⟨u, us, e, Bf hl h1, t4 hl h2⟩
theorem Bh (hu : c.used β) {x : VV} {v : Value} (h : Rep c W (litC β (c.φ β) x) v) : Rep c W x v := by
 cases x with
 | mp γ =>
  simp only [litC] at h
  split at h
  ·rename_i e
   subst e
   have h' : v = .map (some (c.φ γ)) := h
   subst h'
   exact ⟨⟨hu, rfl⟩, fun _ => rfl⟩
  ·exact h
 | _ => exact h
theorem Lq (hu : c.used β) : ∀ {xs : List VV} {l : List Value}, RepL c W (xs.map (litC β (c.φ β))) l → RepL c W xs l
 | [], _, h => h
 | _ :: _, _, ⟨u, us, e, h1, h2⟩ => ⟨u, us, e, Bh hu h1, Lq hu h2⟩
theorem Bi (hu : c.used β) {x : VV} {v : Value} (h : Rep c W (litV β (c.φ β) x) v) : Rep c W x v := by
 cases x with
 | agg cs => obtain ⟨l, e, hl'⟩ := h; exact ⟨l, e, Lq hu hl'⟩
 | _ => exact h
end
section
variable {P : Program} {G : Glob} {H : Nat → Option VObj}
theorem au.lit {f : FuncId} {args : List VV} {y : VV} {nx β : Nat} {es : List (Value × VV)} {args0 : Nat → List VV} (hb : H β = some (.map es)) (hn : ∀ b, normL (args.map (litV β b)) = args0 b)
  (ht : ∀ b, treeL (args.map (litV β b)) = true) (hp : ∀ b, ak P G f (args0 b) (.tree (litV β b y))) : au P G f args H nx (fun x H' nx' => x = y ∧ H' = H ∧ nx' = nx) (fun _ _ _ => False) := by
 refine ⟨(hp 0).1, fun c W vs s hH hnx hG ha => ?_⟩
 have hl : c.live β := by simp [Ctx.live, hH, hb]
 have h1 := t4 hl ha
 have h2 := hp (c.φ β)
 rw [← hn] at h2
 refine ((h2.norm).2 c.A W vs s.ltA (fun g cs hg => hG.tree g cs hg) (jj (ht _) h1)).mono ?_
 rintro e W' ⟨A', g1, g2, g3, hbl, v, rfl, hx⟩
 have he := Ext.more g1 g2 hbl
 refine ⟨c.more A', H, nx, he, Sim.more s g1 g2 g3 hbl, hH, fun β hb => .inl hb, hnx, Nat.le_refl _, .inl ⟨y, v, rfl, ?_, rfl, rfl, rfl⟩⟩
 have h3 : Rep (c.more A') W' (litV β (c.φ β) y) v := Rep.abides (i5 (fun _ h => h)) _ hx
 exact Bi (c := c.more A') (s.used β hl) h3
end
section
variable {P : Program} {G : Glob} {H : Nat → Option VObj}
theorem Bj {H : Nat → Option VObj} {M n : Nat} {x : VV} (h : x.tree = true) : sealN H M (n + 1) x = some x := by unfold sealN; rw [if_pos h]
theorem hO {H : Nat → Option VObj} {M : Nat} {x y : VV} (h : x.tree = true) (e : x = y) : SealP H M x y := ⟨1, x, Bj h, fun _ _ _ hr => e ▸ hr⟩
theorem Bk {H : Nat → Option VObj} {M : Nat} : SealP H M (.lit (.slice none 0 0)) (.sl [] 0 false) := ⟨1, _, Bj rfl, fun c W u hr => t5 (.lit (.slice none 0 0)) hr⟩
theorem Lr {H : Nat → Option VObj} {M : Nat} : ∀ {xs : List VV} {n : Nat}, treeL xs = true → xs.length < n → sealNL H M (n + 1) xs = some xs
 | [], n, _, _ => rfl
 | x :: xs, 0, _, hn => by simp at hn
 | x :: xs, n + 1, h, hn => by
  simp only [treeL, Bool.and_eq_true] at h
  unfold sealNL
  rw [Bj h.1, Lr h.2 (by simpa using hn)]
theorem Bl {H : Nat → Option VObj} {M δ w cp : Nat} {el : Option TypeId} {α : Type} {enc : α → List VV} {xs : List α} (hδ : H δ = some (.cells el (ae enc xs))) (hM : M ≤ δ) (hok : EncOk enc) (hw : ∀ x, (enc x).length = w) :
  SealP H M (.ref δ 0 xs.length w cp) (.sl (ae enc xs) xs.length false) := by
 refine ⟨(ae enc xs).length + 3, .sl (ae enc xs) xs.length false, ?_, fun _ _ _ hr => hr⟩
 unfold sealN
 have h1 : (VV.ref δ 0 xs.length w cp).tree = false := rfl
 have hlen : (ae enc xs).length = xs.length * w := ej hw xs
 simp only [h1, Bool.false_eq_true, if_false, Nat.not_lt.2 hM, hδ, Nat.zero_le, if_true, List.drop_zero]
 rw [List.take_of_length_le (by omega), Lr (hok.treeL xs) (by omega)]
 rfl
theorem sq_of {H : Nat → Option VObj} {β M : Nat} {x y : VV} (h : SealP H M x y) : SealQ H β M x y := fun _ => h
theorem Bm {H : Nat → Option VObj} {β M δ w cp : Nat} {el : Option TypeId} {α : Type} {enc : α → List VV} {xs : List α} {es : List (Value × VV)} (hδ : H δ = some (.cells el (ae enc xs))) (hβ : H β = some (.map es)) (hok : EncOk enc) (hw : ∀ x, (enc x).length = w) :
  SealQ H β M (.ref δ 0 xs.length w cp) (.sl (ae enc xs) xs.length false) := fun hall =>
 Bl hδ (hall δ (by rw [hδ]; rfl) (by rintro rfl; rw [hδ] at hβ; cases hβ)) hok hw
theorem VUpd.of_lit {f : FuncId} {A : Nat → List VV} {y x : Nat → VV} {es : List (Value × VV)} {A0 : Nat → Nat → List VV} (hn : ∀ β b, normL ((A β).map (litV β b)) = A0 β b) (ht : ∀ β b, treeL ((A β).map (litV β b)) = true)
  (hx : ∀ β b, litV β b (y β) = x b) (hp : ∀ β b, ak P G f (A0 β b) (.tree (x b))) (hy : ∀ β M (H : Nat → Option VObj), β < M → (H β).isSome = true → SealP H M (y β) (y β)) : VUpd P G f A es es y := by
 intro β nx hlt
 have hb : updH (fun _ => none) β (.map es) β = some (.map es) := by simp [updH]
 refine au.mono (au.lit hb (hn β) (ht β) (fun b => by rw [hx]; exact hp β b)) ?_ (fun _ _ _ h => h.elim)
 rintro v H1 n1 ⟨hv, hH, _⟩
 rw [hv, hH]
 exact ⟨hb, sq_of (hy β nx _ hlt (by rw [hb]; rfl))⟩
end
theorem gj {K V : Type} {kv : K → Value} {ev : V → VV} (h : ∀ v, okV (fun _ => false) (ev v) = true) : ∀ l : List (K × V), okVL (fun _ => false) ((encM kv ev l).map (·.2)) = true
 | [] => rfl
 | p :: l => by
  show (okV _ (ev p.2) && okVL _ ((encM kv ev l).map (·.2))) = true
  rw [h, gj h l]; rfl
theorem gD {d : Tmp} {γ : Nat} {tm : Nat → VV} {H : Nat → Option VObj} {nx : Nat} {df : List VDef} {K : St → Prop} {x : VV} {β : Nat} {o : VObj} (F : (Nat → VV) → Prop) (hF : F (upd tm d x)) (h : ∀ tm', F tm' → K ⟨tm', updH H β o, nx, df⟩) : fin (some d) γ tm H nx df K x (.upd β o) := h _ hF
theorem Bn {β b : Nat} {cs : List VV} : litV β b (.agg cs) = .agg (cs.map (litC β b)) := rfl
theorem Bo {β b : Nat} {v : Value} : litV β b (.lit v) = .lit v := rfl
theorem Bp {β b : Nat} {cs : List VV} {n : Nat} {f : Bool} : litV β b (.sl cs n f) = .sl cs n f := rfl
theorem Bq {β b : Nat} {v : Value} : litC β b (.lit v) = .lit v := rfl
theorem Br {β b : Nat} {cs : List VV} {n : Nat} {f : Bool} : litC β b (.sl cs n f) = .sl cs n f := rfl
theorem Bs {β b : Nat} : litC β b (.mp β) = .lit (.map (some b)) := by simp [litC]
theorem dH {m : Option Nat} : normV (.lit (.map m)) = .lit (.map m) := by simp [normV]
theorem gk {β : Nat} : normV (.mp β) = .mp β := by simp [normV]
def vlt := And.intro (And.intro (And.intro @Bn @Bo) (And.intro @Bp @Bq)) (And.intro @Br @Bs)
theorem Bt {m : Option Nat} : (VV.lit (.map m)).leaf = true := rfl
theorem Bu {t : TypeId} {x : VV} : (VV.ifc t x).leaf = true := rfl
theorem Bv {m : Option Nat} : aY (.lit (.map m)) = some [.lit (.map m)] := rfl
theorem Bw {t : TypeId} {x : VV} : aY (.ifc t x) = some [.ifc t x] := rfl
theorem Bx {m : Option Nat} {l : List Nat} : tnL (.lit (.map m)) l = l := rfl
theorem argsTm6 {a b c e f g : VV} : argsTm [a, b, c, e, f, g] = upd (upd (upd (upd (upd (upd (fun _ => .lit undef) 0 a) 1 b) 2 c) 3 e) 4 f) 5 g := by
 funext t; rcases t with _ | _ | _ | _ | _ | _ | t <;> simp [argsTm, upd]
def vsi := And.intro (And.intro Bc @argsTm6) (And.intro (And.intro @dH @Bt) (And.intro (And.intro @Bu @Bv) (And.intro @Bw @Bx)))
end Go.V
end
section
namespace Go.V
open Go

end Go.V
end
