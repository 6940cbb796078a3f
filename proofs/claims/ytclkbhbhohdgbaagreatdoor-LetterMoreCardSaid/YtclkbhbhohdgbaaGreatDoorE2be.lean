/- Part of a proof. -/
import Derived.Test.YtclkbhbhohdgbaaGreatDoorE2bd
import Derived.Test.YtclkbhbhohdgbaaGreatDoorE2aw
import Derived.Test.YtclkbhbhohdgbaaGreatDoorProg
set_option linter.all false
set_option maxRecDepth 4000
set_option maxHeartbeats 40000000
section
namespace Go.V
open Go Go.Proofs IntKind Tryz
def neB {α : Type} (xs : List α) : Bool := !xs.isEmpty
theorem By {α : Type} {xs : List α} (h : neB xs = true) : 0 < xs.length := by
 cases xs with
 | nil => cases h
 | cons a l => exact Nat.succ_pos _
section
variable {P : Program} {H : Nat → Option Vo} {γ : Nat} {α : Type} {enc : α → List VV} {t t2 e e2 w b : Nat} {xs ys : List α} {el : Option TypeId} {β : Nat} {f : Bool} {k : VV → Ve → Prop}
theorem mA (he : ∀ x, (enc x).length = w) (hl : ∀ x, leafL (enc x) = true) (ha : appOk P t = some (e, w, b)) (iC : P.underlying t2 = some (.slice e2)) (hb : H β = some (.cells el (ad enc xs)))
  (hm : neB ys = true) (hr : ar b (xs ++ ys).length = true) (h : k (.ref γ 0 (xs ++ ys).length w (xs ++ ys).length) (.mv β (sameEl el e) (ad enc (xs ++ ys)))) :
  oeK (vappend P H γ t t2 (.ref β 0 xs.length w xs.length) (.sl (ad enc ys) ys.length f)) k := by
 have hm := By hm
 obtain ⟨hu, inf, z, hi, hz, rfl, rfl, rI, rJ, hzs⟩ := Ah ha
 have hr' : (xs.length + ys.length) * inf.bytes ≤ 140737488355328 := by simpa [ar] using hr
 have h4 : (ad enc ys).all VV.leaf = true := by rw [xm]; exact Ai hl ys
 have h2 := gg he ys
 have h1 := gg he xs
 have h5 : (ad enc ys).take (ys.length * inf.size) = ad enc ys := List.take_of_length_le (by omega)
 have h6 : ¬ (xs.length + ys.length ≤ xs.length) := by omega
 have key : vappend P H γ t t2 (.ref β 0 xs.length inf.size xs.length) (.sl (ad enc ys) ys.length f) = some (.ref γ 0 (xs ++ ys).length inf.size (xs ++ ys).length, .mv β (sameEl el e) (ad enc (xs ++ ys))) := by
  simp only [vappend, nilS, vappend1, hu, iC, hi, hz, srcV, sls, h5, h4, rI, rJ, hzs, hb]
  simp [h2, h6, h1, hr', tc]
 rw [key]
 exact h
theorem Nx (he : ∀ x, (enc x).length = w) (hl : ∀ x, leafL (enc x) = true) (ha : appOk P t = some (e, w, b)) (iC : P.underlying t2 = some (.slice e2))
  (hm : neB ys = true) (hr : ar b ([] ++ ys).length = true) (h : k (.ref γ 0 ([] ++ ys).length w ([] ++ ys).length) (.new (.cells (some e) (ad enc ([] ++ ys))))) :
  oeK (vappend P H γ t t2 (.lit (.slice none 0 0)) (.sl (ad enc ys) ys.length f)) k := by
 have hm := By hm
 obtain ⟨hu, inf, z, hi, hz, rfl, rfl, rI, rJ, hzs⟩ := Ah ha
 have hr' : ys.length * inf.bytes ≤ 140737488355328 := by simpa [ar] using hr
 have h4 : (ad enc ys).all VV.leaf = true := by rw [xm]; exact Ai hl ys
 have h2 := gg he ys
 have h5 : (ad enc ys).take (ys.length * inf.size) = ad enc ys := List.take_of_length_le (by omega)
 have h6 : ys ≠ [] := by intro h; rw [h] at hm; exact absurd hm (by simp)
 have key : vappend P H γ t t2 (.lit (.slice none 0 0)) (.sl (ad enc ys) ys.length f) = some (.ref γ 0 ([] ++ ys).length inf.size ([] ++ ys).length, .new (.cells (some e) (ad enc ([] ++ ys)))) := by
  simp only [vappend, nilS, vappend1, hu, iC, hi, hz, srcV, sls, h5, h4, rI, rJ, hzs]
  simp [h2, h6, hr']
 rw [key]
 exact h
theorem setA {x : α} {i : Int} (he : ∀ x, (enc x).length = w) (h : getI xs i = some x) : (i.toNat * w + w ≤ (ad enc xs).length) = True := by
 obtain ⟨h0, h1, _⟩ := ta h
 rw [gg he, eq_true_iff_of_true]
 have : i.toNat + 1 ≤ xs.length := by omega
 have := Nat.mul_le_mul_right w this
 rw [Nat.add_mul, Nat.one_mul] at this
 exact this
 where
 eq_true_iff_of_true : ∀ {p : Prop}, (p = True) = p := fun {p} => propext ⟨fun h => h ▸ trivial, fun h => eq_true h⟩
end
theorem RQ {P : Program} {H : Nat → Option Vo} {t e : TypeId} {x y : Operand} {cs : List VV} {n : Nat} {f : Bool} (hu : P.underlying t = some (.slice e)) (hc : cs ≠ []) : binV P H .eql t x y (.sl cs n f) (.lit (.slice none 0 0)) = some (.lit (.bool false)) := by
 simp [binV, VV.val?, vptrEq, vptrEq.eq1, hu, hc]
end Go.V
end
section
set_option linter.defProp false
namespace Go.V
open Go Go.Proofs IntKind Tryz
section
variable {P : Program} {G : Gb} {n : Nat} {x : Code} {Q : Vx → St → Prop} {st : St}
end
theorem setC {α : Type} {enc : α → List VV} {w : Nat} (xs : List α) (n : Nat) (v : α) (he : ∀ x, (enc x).length = w) : List.take (xs.length * w) (ad enc (xs.set n v)) = ad enc (xs.set n v) :=
 List.take_of_length_le (by rw [gg he, List.length_set]; exact qZg _)
end Go.V
end
section
set_option linter.defProp false
namespace Go.V
open Go Go.Proofs IntKind Tryz
variable {H' : Nat → Option Vo} {tml : List VV} {d β : Nat} {R Rp : VV → (Nat → Option Vo) → Nat → Prop}
section
variable {P : Program} {G : Gb} {n : Nat} {Q : Vx → St → Prop} {tm : Nat → VV} {H : Nat → Option Vo} {nx : Nat} {df : List VDef} {g : Operand} {ps : Array Tmp} {az bo : Code} {f : FuncId} {first captured : List VV}
theorem Ny (hg : ev (G.at (some none)) tm g = .fn (.func f) first captured)
  (h : ∀ LO, LO = Vo.loop .ready none (tmL n tm) ps az bo nx → aX P (G.at (some none)) f (first ++ [.yl (nx + 1)] ++ captured) (updH (updH H nx (.deferred (some []))) (nx + 1) LO) (nx + 2)
   (fun _ H' nx' => RangeEnd P (G.at (some none)) n Q ⟨tm, H, nx, df⟩ H' nx') (fun x H' nx' => Q (.panic x) ⟨tm, H', nx', .coll nx :: df⟩)) : CWp P (G.at (some none)) n (.rangeFunc g ps az bo) Q ⟨tm, H, nx, df⟩ := by
 unfold CWp
 refine ⟨rfl, ?_⟩
 rw [show St.ρ (G.at (some none)) ⟨tm, H, nx, df⟩ g = ev (G.at (some none)) tm g from ev_eq .. ▸ rfl, hg]
 exact h _ rfl
theorem D7 {nx' : Nat} {LO : Vo} (hL : LO = Vo.loop .ready none tml ps az bo d) (h : H' (nx + 1) = some LO) (hq : ∀ LX, Q .normal ⟨tm, updH H' (nx + 1) LX, nx', .coll nx :: df⟩) : RangeEnd P G n Q ⟨tm, H, nx, df⟩ H' nx' :=
 ⟨.ready, none, tml, ps, az, bo, d, by rw [h, hL], by simp, hq _⟩
theorem Tt {nx' : Nat} {LD : Code → Vo} (hL : LD = fun c => Vo.loop .done (some c) tml ps az bo d) (h : H' (nx + 1) = some (LD .ret)) (hq : ∀ LX, Q .ret ⟨tm, updH H' (nx + 1) LX, nx', .coll nx :: df⟩) : RangeEnd P G n Q ⟨tm, H, nx, df⟩ H' nx' :=
 ⟨.done, some .ret, tml, ps, az, bo, d, by rw [h, hL], by simp, VWp.ret (hq _)⟩
def RndEnd (β : Nat) (LB LO : Vo) (LD : Code → Vo) (o : Oper) (st : St) (K : St → Prop) : Vx → St → Prop
 | .normal, s2 => s2.H β = some LB ∧ K { st.put o.dst (.lit (.bool true)) with H := updH s2.H β LO, nx := s2.nx }
 | .ret, s2 => s2.H β = some LB ∧ K { st.put o.dst (.lit (.bool false)) with H := updH s2.H β (LD .ret), nx := s2.nx }
 | .exit id, s2 => s2.H β = some LB ∧ K { st.put o.dst (.lit (.bool false)) with H := updH s2.H β (LD (.exit id)), nx := s2.nx }
 | _, _ => False
def RndAs (P : Program) (G : Gb) (n β : Nat) (LB LO : Vo) (LD : Code → Vo) (bo : Code) (o : Oper) (st : St) (K : St → Prop) : Vx → St → Prop
 | .normal, s1 => s1.H β = some LO ∧ CWp P (G.at (some (some β))) n bo (RndEnd β LB LO LD o st K) { s1 with H := updH s1.H β LB }
 | _, _ => False
theorem Nz (hm : P.follows .mixedOrders = true) {o : Oper} {args : List VV} {st : St} {K : St → Prop} {LO : Vo} {psl : List Tmp} (hL : LO = Vo.loop .ready none tml ⟨psl⟩ az bo d) (hβ : st.H β = some LO) (hn : tml.length = n) (ha : args.length = psl.length)
  (h1 : codeOk n az = true) (h2 : codeOk n bo = true)
  (h : ∀ LB LD, LB = Vo.loop .busy none tml ⟨psl⟩ az bo d → LD = (fun c => Vo.loop .done (some c) tml ⟨psl⟩ az bo d) →
   CWp P (G.at (some (some β))) n az (RndAs P G n β LB LO LD bo o st K) ⟨bk (roundTm tml psl args), st.H, st.nx, []⟩) : yieldK P G o β args st K := by
 unfold yieldK
 rw [hβ, hL]
 subst hn
 refine ⟨ha, (pn hm az _ _ h1 (h _ _ rfl rfl)).mono ?_⟩
 intro e s1 hs
 cases e with
 | normal =>
  obtain ⟨q1, q2⟩ := hs
  refine ⟨none, tml, ⟨psl⟩, az, bo, d, by rw [q1, hL], (pn hm bo _ _ h2 q2).mono ?_⟩
  intro e s2 km
  cases e with
  | normal =>
   obtain ⟨r1, r2⟩ := km
   refine ⟨_, _, _, _, _, _, _, r1, ?_⟩
   rw [hL] at r2
   exact r2
  | ret =>
   obtain ⟨r1, r2⟩ := km
   exact ⟨_, _, _, _, _, _, _, r1, r2⟩
  | exit id =>
   obtain ⟨r1, r2⟩ := km
   exact ⟨_, _, _, _, _, _, _, r1, r2⟩
  | goto l => exact km.elim
  | panic x => exact km.elim
 | _ => exact hs.elim
theorem D4 {m t p : Nat} {x : VV} (h : t < m) : bk (roundTm (tmL m tm) [p] [x]) t = if t = p then x else tm t := by
 unfold bk roundTm tmL
 simp only [List.zip_cons_cons, List.zip_nil_right, List.foldl_cons, List.foldl_nil]
 by_cases hp : t = p
 ·subst hp
  rw [if_pos rfl]
  simp [h]
 ·rw [if_neg hp]
  simp [List.getElem?_set, h, Ne.symm hp]
theorem D2 {m : Nat} : (tmL m tm).length = m := by simp [tmL]
theorem D3 {code : Code} (F : (Nat → VV) → Prop) (hF : F tm) (h : ∀ tm, F tm → CWp P G n code Q ⟨tm, H, nx, df⟩) : CWp P G n code Q ⟨tm, H, nx, df⟩ := h tm hF
theorem N0 : bc (.yl β) = some [.yl β] := rfl
theorem N1 : (VV.yl β).leaf = true := rfl
def rg := (qZj @N0 (qZj @N1 @Mg))
theorem xo {fn : Func} (h : H β = some (.deferred (some []))) (h2 : OpenPostD P G fn R Rp .ret ⟨tm, updH H β (.deferred none), nx, df⟩) : OpenPostD P G fn R Rp .ret ⟨tm, H, nx, .coll β :: df⟩ := ⟨h, h2⟩
theorem Kp {fn : Func} (h : H β = some (.deferred (some []))) (h2 : OpenPostD P G fn R Rp .normal ⟨tm, updH H β (.deferred none), nx, df⟩) : OpenPostD P G fn R Rp .normal ⟨tm, H, nx, .coll β :: df⟩ := ⟨h, h2⟩
end
end Go.V
end
section
namespace Go.V
open Go Go.Proofs IntKind Tryz
def sliceO {α : Type} (xs : List α) (lo hi : Int) : Option (List α) := if 0 ≤ lo ∧ lo ≤ hi ∧ hi ≤ xs.length then some ((xs.drop lo.toNat).take (hi - lo).toNat) else none
section
variable {P : Program} {G : Gb} {f : FuncId} {β γ w c nx : Nat} {tm : Nat → VV} {H : Nat → Option Vo} {df : List VDef} {d : Option Tmp} {K : List Nat → List Nat → St → Prop} {el : Option TypeId} {α : Type} {enc : α → List VV} {xs ys : List α} {x : VV}
end
section
variable {P : Program} {G : Gb} {β γ w e : Nat} {t ty : TypeId} {tm : Nat → VV} {H : Nat → Option Vo} {d : Option Tmp} {k : VV → Ve → Prop} {el : Option TypeId} {α : Type} {enc : α → List VV} {xs ys : List α} {pos : String} {af : Array Edge} {g : Option (Nat × Bool)} {x : Operand} {lo hi : Option Operand}
theorem N2 {lo hi : Int} (h : sliceO xs lo hi = some ys) : 0 ≤ lo ∧ lo ≤ hi ∧ hi ≤ xs.length ∧ ys = (xs.drop lo.toNat).take (hi - lo).toNat := by
 unfold sliceO at h
 split at h
 ·rename_i hc; cases h; exact ⟨hc.1, hc.2.1, hc.2.2, rfl⟩
 ·cases h
theorem k_slT {l r : Int} (hu : P.underlying t = some (.slice e)) (hs : szT P e = some w) (hw : ∀ x, (enc x).length = w) (hx : ev G tm x = .sl (ad enc xs) xs.length false)
  (hl : (lo.map (ev G tm) = none ∧ l = 0) ∨ ∃ kd, lo.map (ev G tm) = some (.lit (.int kd l))) (hr : (hi.map (ev G tm) = none ∧ r = xs.length) ∨ ∃ kd, hi.map (ev G tm) = some (.lit (.int kd r)))
  (ho : sliceO xs l r = some ys) (h : k (.sl (ad enc ys) ys.length false) .none) : oeK (vop P ⟨d, .slice t x lo hi none, ty, pos, af, g⟩ (ev G tm) H γ) k := by
 obtain ⟨h1, h2, h3, rfl⟩ := N2 ho
 have hl' : vbound 0 (lo.map (ev G tm)) = some l.toNat := by
  rcases hl with ⟨hz, rfl⟩ | ⟨kd, hz⟩
  ·rw [hz]; rfl
  ·rw [hz]; simp [vbound, h1]
 have hr' : vbound xs.length (hi.map (ev G tm)) = some r.toNat := by
  rcases hr with ⟨hz, rfl⟩ | ⟨kd, hz⟩
  ·rw [hz]; simp [vbound]
  ·rw [hz]; simp [vbound, show (0:Int) ≤ r by omega]
 have bn : ((xs.drop l.toNat).take (r - l).toNat).length = r.toNat - l.toNat := by
  rw [List.length_take, List.length_drop]; omega
 have hcs : ((ad enc xs).drop (l.toNat * w)).take ((r.toNat - l.toNat) * w) = ad enc ((xs.drop l.toNat).take (r - l).toNat) := by
  have h4 : xs = xs.take l.toNat ++ xs.drop l.toNat := (List.take_append_drop ..).symm
  have h5 := gg hw (xs.take l.toNat)
  have h6 : (xs.take l.toNat).length = l.toNat := by rw [List.length_take]; omega
  rw [h6] at h5
  have h7 : (ad enc xs).drop (l.toNat * w) = ad enc (xs.drop l.toNat) := by
   conv => lhs; rw [h4]
   rw [tc, ← h5, List.drop_left]
  rw [h7]
  generalize hz : xs.drop l.toNat = zs at bn ⊢
  have h8 : zs = zs.take (r - l).toNat ++ zs.drop (r - l).toNat := (List.take_append_drop ..).symm
  have h9 := gg hw (zs.take (r - l).toNat)
  rw [bn] at h9
  conv => lhs; rw [h8]
  rw [tc, ← h9, List.take_left]
 have e1 : vslice P H t (.sl (ad enc xs) xs.length false) (lo.map (ev G tm)) (hi.map (ev G tm)) none = some (.sl (ad enc ((xs.drop l.toNat).take (r - l).toNat)) ((xs.drop l.toNat).take (r - l).toNat).length false) := by
  have Zc : l.toNat ≤ r.toNat := by omega
  have Zd : r.toNat ≤ xs.length := by omega
  have Ze : vbound xs.length none = some xs.length := rfl
  simp only [vslice, hu, hs, sls, hl', hr', Ze, Zc, Zd, qZg, true_and, if_true, Option.isSome_none, Bool.false_eq_true, false_imp_iff, Bool.false_and, Bool.and_false, Bool.or_false, hcs, bn]
 have e2 : vop P ⟨d, .slice t x lo hi none, ty, pos, af, g⟩ (ev G tm) H γ = some (.sl (ad enc ((xs.drop l.toNat).take (r - l).toNat)) ((xs.drop l.toNat).take (r - l).toNat).length false, .none) := by
  simp only [vop, hu, hx, Option.map_none, e1]
 rw [e2]
 exact h
end
section
variable {P : Program} {G : Gb} {f : FuncId} {γ nx : Nat} {tm : Nat → VV} {H : Nat → Option Vo} {df : List VDef} {d : Option Tmp} {x : VV}
theorem ktree0 {K : St → Prop} {Qp : VV → St → Prop} (hp : ah P G f [] (.tree x)) (h : fin d γ tm H nx df K x .none) : callK P G f [] ⟨tm, H, nx, df⟩ d γ K Qp := ktree (args0 := []) rfl rfl hp h
end
end Go.V
end
section
namespace Go.V
open Go Go.Proofs IntKind Tryz
variable {P : Program} {G : Gb} {β γ w e n off : Nat} {t ty : TypeId} {tm : Nat → VV} {H : Nat → Option Vo} {d : Option Tmp} {k : VV → Ve → Prop} {el : Option TypeId} {cs : List VV} {pos : String} {af : Array Edge} {g : Option (Nat × Bool)} {x : Operand}
end Go.V
namespace Go.V
open Go Go.Proofs IntKind Tryz
end Go.V
end
section
namespace Go.V
open Go Go.Proofs IntKind Tryz

end Go.V
end
section
set_option linter.defProp false
namespace Go.V
open Go Go.Proofs IntKind Tryz
section
variable {P : Program} {H : Nat → Option Vo} {t : TypeId} {x y : Operand} {k : IntKind} {a b : Int}
theorem N3 (h : (b != 0) = true) : binV P H .quo t x y (.lit (.int k a)) (.lit (.int k b)) = some (.lit (.int k (k.wrap (a.tdiv b)))) := by
 have : b ≠ 0 := by simpa using h
 simp [binV, VV.val?, vbin, ofVal, ofVal2, ofVal1, this]
theorem N4 (h : (b != 0) = true) : binV P H .rem t x y (.lit (.int k a)) (.lit (.int k b)) = some (.lit (.int k (a.tmod b))) := by
 have : b ≠ 0 := by simpa using h
 simp [binV, VV.val?, vbin, ofVal, ofVal2, ofVal1, this]
theorem N5 : unV P .neg (.lit (.int k a)) = some (.lit (.int k (k.wrap (-a)))) := by simp [unV, VV.val?, Op.unary, Op.intArith, jl, ofVal, ofVal2, ofVal1]
theorem N6 {a b : ByteArray} : binV P H .eql t x y (.lit (.string a)) (.lit (.string b)) = some (.lit (.bool (a.toList == b.toList))) := by simp [binV, VV.val?, vbin, ofVal, ofVal2, ofVal1]
theorem N7 {a b : ByteArray} : binV P H .neq t x y (.lit (.string a)) (.lit (.string b)) = some (.lit (.bool (!(a.toList == b.toList)))) := by simp [binV, VV.val?, vbin, ofVal, ofVal2, ofVal1]
def qr := (qZj (qZj @N3 @N4) (qZj @N5 (qZj @N6 @N7)))
end
end Go.V
end
section
namespace Go.V
open Go Go.Proofs IntKind Tryz
section
variable {P : Program} {G : Gb} {ops : Array Oper} {aa : Nat} {Q : Vx → St → Prop} {n : Nat}
end
end Go.V
namespace Go.V
open Go Go.Proofs IntKind Tryz
section
variable {P : Program} {G : Gb} {ops : Array Oper} {aa : Nat} {Q : Vx → St → Prop} {n : Nat}
end
section
variable {P : Program} {G : Gb} {ops : Array Oper} {aa : Nat} {Q : Vx → St → Prop} {n : Nat} {i m b : Nat} {o : Oper} {l l2 : List Oper} {mk mE mL : List Bool} {tr : Tr} {K : Tr → St → Prop} {tm : Nat → VV} {H : Nat → Option Vo} {nx : Nat} {df : List VDef} {st : St} {rest : List (List Bool × Nat)}
end
end Go.V
namespace Go.V
set_option linter.defProp false
end Go.V
end
section
namespace Go.V
open Go Go.Proofs IntKind Tryz
def gone (H H' : Nat → Option Vo) : Nat → Option Vo := fun β => if (H' β).isSome then none else H β
theorem aj.gone (H H' : Nat → Option Vo) : aj (gone H H') H := fun x o h => by
 unfold Go.V.gone at h
 split at h
 ·cases h
 ·exact h
def Frozen (H H' : Nat → Option Vo) (x y : VV) : Prop := y = x ∨ y = .any ∨ ∃ n, sealV (gone H H') n x = some y
def FrozenL (H H' : Nat → Option Vo) : List VV → List VV → Prop
 | [], [] => True
 | x :: xs, y :: ys => Frozen H H' x y ∧ FrozenL H H' xs ys
 | _, _ => False
def FrozenO (H H' : Nat → Option Vo) (o o' : Vo) : Prop := o' = o ∨ ∃ el cs cs', o = .cells el cs ∧ o' = .cells el cs' ∧ FrozenL H H' cs cs'
def Ctx.frz (c : Ctx) (H' : Nat → Option Vo) : Ctx := { c with H := H', A := fun b => c.A b ∨ ∃ β, c.live β ∧ (H' β).isSome = false ∧ c.φ β = b }
section
variable {c : Ctx} {W : World} {H' : Nat → Option Vo}
theorem DT (hl : ∀ β, (H' β).isSome = true → c.live β) : Abides c W (c.frz H') W := ⟨fun _ h => .inl h, fun _ _ => rfl, fun _ h => h, fun β _ h => hl β h, fun _ _ _ => rfl, fun _ _ _ => rfl⟩
theorem Bz (hl : ∀ β, (H' β).isSome = true → c.live β) : Ext c W (c.frz H') W where
 A _ h := .inl h
 newA b h := h.imp id fun ⟨β, h1, _, e⟩ => .inr ⟨β, h1, e⟩
 used _ h := h
 live β _ h := hl β h
 φ _ _ _ := rfl
 room _ _ _ := rfl
 keep _ _ _ := rfl
 old x h _ := ⟨x, hl x h, rfl⟩
 size := qZg _
 os := rfl
 tape := rfl
 output := rfl
theorem Uy (s : Sim c W) (hl : ∀ β, (H' β).isSome = true → c.live β) {x y : VV} {v : Value} (h : Frozen c.H H' x y) (hr : Rep c W x v) : Rep (c.frz H') W y v := by
 rcases h with rfl | rfl | ⟨n, hn⟩
 ·exact Rep.abides (DT hl) _ hr
 ·unfold Rep; trivial
 ·have h1 := (rn s (aj.gone c.H H') n).1 x v y hn hr
  refine Rep.abides (mD fun b hb => ?_) _ h1
  rcases hb with hb | ⟨β, hβ, e⟩
  ·exact .inl hb
  ·refine .inr ⟨β, ?_, ?_, e⟩
   ·unfold Go.V.gone at hβ
    split at hβ
    ·cases hβ
    ·exact hβ
   ·cases h0 : (H' β).isSome with
    | false => rfl
    | true => unfold Go.V.gone at hβ; rw [h0] at hβ; cases hβ
theorem N8 (s : Sim c W) (hl : ∀ β, (H' β).isSome = true → c.live β) : ∀ {xs ys : List VV} {l : List Value}, FrozenL c.H H' xs ys → Rl c W xs l → Rl (c.frz H') W ys l
 | [], [], _, _, h => h
 | _ :: _, _ :: _, _, ⟨h1, h2⟩, ⟨u, us, e, r1, r2⟩ => ⟨u, us, e, Uy s hl h1 r1, N8 s hl h2 r2⟩
 | [], _ :: _, _, h, _ => h.elim
 | _ :: _, [], _, h, _ => h.elim
theorem FrozenL.length {H H' : Nat → Option Vo} : ∀ {xs ys : List VV}, FrozenL H H' xs ys → ys.length = xs.length
 | [], [], _ => rfl
 | _ :: _, _ :: _, h => by simp [FrozenL.length h.2]
 | [], _ :: _, h => h.elim
 | _ :: _, [], h => h.elim
theorem Sim.frz (s : Sim c W) (ho : ∀ β o', H' β = some o' → ∃ o, c.H β = some o ∧ FrozenO c.H H' o o') (hloop : ∀ x st pe tm ps asg bo df, H' x = some (.loop st pe tm ps asg bo df) → isDef H' df) : Sim (c.frz H') W := by
 have hl : ∀ β, (H' β).isSome = true → c.live β := by
  intro β h
  obtain ⟨o', h'⟩ := Option.isSome_iff_exists.1 h
  obtain ⟨o, h1, _⟩ := ho β o' h'
  simp [Ctx.live, h1]
 have ab : Abides c W (c.frz H') W := DT hl
 refine ⟨fun x h => s.used x (hl x h), fun x ox hx => ?_, fun x h => s.lt x (hl x h), fun x h => ?_, fun x y hx hy e => s.inj x y (hl x hx) (hl y hy) e, fun b hb => ?_⟩
 ·have gh : H' x = some ox := hx
  obtain ⟨o, h1, hf⟩ := ho x ox gh
  rcases hf with rfl | ⟨el, cs, cs', rfl, rfl, hcs⟩
  ·refine (s.obj x _ h1).abides ab (s.used x (hl x (by simp [gh]))) (by simp [Ctx.live, Ctx.frz, gh]) rfl ?_
   intro st pe tm ps asg bo df e'
   subst e'
   exact hloop x st pe tm ps asg bo df gh
  ·obtain ⟨arr, e, a1, a2, a3, a4, a5⟩ := s.obj x _ h1
   exact ⟨arr, e, a1, a2, by rw [hcs.length]; exact a3, by rw [hcs.length]; exact N8 s hl hcs a4, a5⟩
 ·rintro (hA | ⟨β, h1, hn, e⟩)
  ·exact s.notA x (hl x h) hA
  ·have := s.inj β x h1 (hl x h) e
   subst this
   have h' : (H' β).isSome = true := h
   rw [h'] at hn; cases hn
 ·rcases hb with hA | ⟨β, h1, _, e⟩
  ·exact s.ltA b hA
  ·rw [← e]; exact s.lt β h1
end
theorem VWp.freeze {P : Program} {G : Gb} {n : Nat} {code : Code} {Q : Vx → St → Prop} {st : St} (H' : Nat → Option Vo) (tm' : Nat → VV) (ho : ∀ β o', H' β = some o' → ∃ o, st.H β = some o ∧ FrozenO st.H H' o o') (hloop : ∀ x s pe tm ps asg bo df, H' x = some (.loop s pe tm ps asg bo df) → isDef H' df)
  (htm : ∀ t, Frozen st.H H' (st.tm t) (tm' t)) (h : VWp P G n code Q ⟨tm', H', st.nx, st.df⟩) : VWp P G n code Q st := by
 intro ro c W a hro s hr hsz
 have ho' : ∀ β o', H' β = some o' → ∃ o, c.H β = some o ∧ FrozenO c.H H' o o' := by rw [hr.H]; exact ho
 have hl : ∀ β, (H' β).isSome = true → c.live β := by
  intro β h
  obtain ⟨o', h'⟩ := Option.isSome_iff_exists.1 h
  obtain ⟨o, h1, _⟩ := ho' β o' h'
  simp [Ctx.live, h1]
 have he : Ext c W (c.frz H') W := Bz hl
 have ab : Abides c W (c.frz H') W := DT hl
 refine wpIn_mono (h ro (c.frz H') W a (hro.ext he) (s.frz ho' hloop) ⟨rfl, fun t => ?_, hr.nx, hr.df.abides ab, hr.G.abides ab⟩ hsz) fun _ _ _ hl => hl.of_ext he (fun β hb => .inl hb) (qZg _)
 exact Uy s hl (by rw [hr.H]; exact htm t) (hr.tm t)
end Go.V
end
section
namespace Go.V
open Go Go.Proofs IntKind Tryz
def Yields (P : Program) (G : Gb) (β : Nat) (x : VV) (H : Nat → Option Vo) (nx : Nat) (Post : Bool → (Nat → Option Vo) → Nat → Prop) : Prop :=
 ∀ (r : Option (Option Nat)) (o : Oper) (st : St) (K : St → Prop), st.H = H → st.nx = nx → (∀ b H' nx', Post b H' nx' → K ⟨(match o.dst with | some d => upd st.tm d (.lit (.bool b)) | none => st.tm), H', nx', st.df⟩) → yieldK P (G.at r) o β [x] st K
abbrev Inv := Option (List VV) → (Nat → Prop) → (Nat → Option Vo) → Nat → Prop
def Stable (I : Inv) : Prop := ∀ o (Fr xB : Nat → Prop) (H H1 : Nat → Option Vo) (nx br : Nat), I o Fr H nx → (∀ γ, γ < nx → ¬ Fr γ → H1 γ = H γ) → nx ≤ br → (∀ γ, xB γ → Fr γ ∨ (nx ≤ γ ∧ γ < br)) → I o xB H1 br
def Rounds (P : Program) (G : Gb) (β : Nat) (I : Inv) : Prop := ∀ x rest (Fr : Nat → Prop) (H : Nat → Option Vo) (nx : Nat), (∀ γ, Fr γ → γ < nx) → I (some (x :: rest)) Fr H nx →
 Yields P G β x H nx (fun b H' nx' => nx ≤ nx' ∧ (∀ γ, Fr γ → H' γ = H γ) ∧ I (if b then some rest else none) Fr H' nx')
def noFr : Nat → Prop := fun _ => False
def Iter (P : Program) (G : Gb) (g : VV) (L : List VV) : Prop := ∃ f first captured, g = .fn (.func f) first captured ∧ ∀ (β : Nat) (I : Inv), Stable I → Rounds P G β I → ∀ (H : Nat → Option Vo) (nx : Nat), β < nx → I (some L) noFr H nx →
 aX P G f (first ++ [.yl β] ++ captured) H nx (fun _ H' nx' => I (some []) noFr H' nx' ∨ I none noFr H' nx') (fun _ _ _ => False)
def Own (hp : List (Nat × Vo)) (Fr : Nat → Prop) (H : Nat → Option Vo) (nx : Nat) : Prop := ∀ p ∈ hp, p.1 < nx ∧ ¬ Fr p.1 ∧ H p.1 = some p.2
variable {hp : List (Nat × Vo)} {Fr : Nat → Prop} {H : Nat → Option Vo}
theorem Own.stable {xB : Nat → Prop} {H1 : Nat → Option Vo} {nx br : Nat} (h : Own hp Fr H nx) (h1 : ∀ γ, γ < nx → ¬ Fr γ → H1 γ = H γ) (h2 : nx ≤ br) (h3 : ∀ γ, xB γ → Fr γ ∨ (nx ≤ γ ∧ γ < br)) : Own hp xB H1 br := by
 intro p hp
 obtain ⟨a, b, c⟩ := h p hp
 refine ⟨qZd a h2, fun hf => ?_, by rw [h1 p.1 a b]; exact c⟩
 rcases h3 p.1 hf with hf | hf
 ·exact b hf
 ·omega
theorem Own.nil {nx : Nat} : Own [] Fr H nx := fun _ h => by cases h
theorem Own.cons {p : Nat} {o : Vo} {hp : List (Nat × Vo)} {Fr : Nat → Prop} {H : Nat → Option Vo} {nx : Nat} (h1 : p < nx) (h2 : ¬ Fr p) (h3 : H p = some o) (h : Own hp Fr H nx) : Own ((p, o) :: hp) Fr H nx := by
 intro q hq
 rcases List.mem_cons.1 hq with rfl | hq
 ·exact ⟨h1, h2, h3⟩
 ·exact h q hq
theorem Own.head {p : Nat} {o : Vo} {nx : Nat} (h : Own ((p, o) :: hp) Fr H nx) : p < nx ∧ ¬ Fr p ∧ H p = some o := h (p, o) (qZb ..)
theorem Own.tail {p : Nat} {o : Vo} {nx : Nat} (h : Own ((p, o) :: hp) Fr H nx) : Own hp Fr H nx := fun q hq => h q (qZa _ hq)
def ownI (J : Option (List VV) → List (Nat × Vo) → Prop) : Inv := fun o Fr H nx => ∃ hp, Own hp Fr H nx ∧ J o hp
theorem Ks {J : Option (List VV) → List (Nat × Vo) → Prop} : Stable (ownI J) := fun _ _ _ _ _ _ _ ⟨hp, h, hj⟩ h1 h2 h3 => ⟨hp, h.stable h1 h2 h3, hj⟩
def ownI2 (I : Inv) (J : Option (List VV) → Option (List VV) → List (Nat × Vo) → Prop) : Inv := fun o Fr H nx => ∃ hp o', Own hp Fr H nx ∧ J o o' hp ∧ I o' (fun γ => Fr γ ∨ ∃ p ∈ hp, p.1 = γ) H nx
theorem X8 {I : Inv} (hs : Stable I) {J : Option (List VV) → Option (List VV) → List (Nat × Vo) → Prop} : Stable (ownI2 I J) := by
 rintro o Fr xB H H1 nx br ⟨hp, o', h, hj, hi⟩ h1 h2 h3
 refine ⟨hp, o', h.stable h1 h2 h3, hj, hs _ _ _ _ _ _ _ hi (fun γ hlt hn => h1 γ hlt fun hf => hn (.inl hf)) h2 ?_⟩
 rintro γ (hf | hf)
 ·rcases h3 γ hf with hf | hf
  ·exact .inl (.inl hf)
  ·exact .inr hf
 ·exact .inl (.inr hf)
section
variable {P : Program} {G : Gb} {n : Nat} {Q : Vx → St → Prop} {tm : Nat → VV} {H : Nat → Option Vo} {nx : Nat} {df : List VDef} {g : Operand} {ps : Array Tmp} {az bo : Code}
def RPost (β : Nat) (LB LO : Vo) (LD : Code → Vo) (Post : Bool → (Nat → Option Vo) → Nat → Prop) : Vx → St → Prop
 | .normal, s => s.H β = some LB ∧ Post true (updH s.H β LO) s.nx
 | .ret, s => s.H β = some LB ∧ Post false (updH s.H β (LD .ret)) s.nx
 | .exit id, s => s.H β = some LB ∧ Post false (updH s.H β (LD (.exit id))) s.nx
 | _, _ => False
def RStart (P : Program) (G : Gb) (n β : Nat) (LB LO : Vo) (LD : Code → Vo) (bo : Code) (Post : Bool → (Nat → Option Vo) → Nat → Prop) : Vx → St → Prop
 | .normal, s => s.H β = some LO ∧ CWp P (G.at (some (some β))) n bo (RPost β LB LO LD Post) { s with H := updH s.H β LB }
 | _, _ => False
theorem D1 (hm : P.follows .mixedOrders = true) {β : Nat} {x : VV} {Post : Bool → (Nat → Option Vo) → Nat → Prop} {LO : Vo} {tml : List VV} {d : Nat} {psl : List Tmp} (hL : LO = Vo.loop .ready none tml ⟨psl⟩ az bo d) (hβ : H β = some LO) (hn : tml.length = n) (ha : psl.length = 1)
  (h1 : codeOk n az = true) (h2 : codeOk n bo = true)
  (h : ∀ LB LD, LB = Vo.loop .busy none tml ⟨psl⟩ az bo d → LD = (fun c => Vo.loop .done (some c) tml ⟨psl⟩ az bo d) →
   CWp P (G.at (some (some β))) n az (RStart P G n β LB LO LD bo Post) ⟨bk (roundTm tml psl [x]), H, nx, []⟩) : Yields P G β x H nx Post := by
 intro r o st K e1 e2 hk
 subst e1 e2
 replace hk : ∀ b H' nx', Post b H' nx' → K { st.put o.dst (.lit (.bool b)) with H := H', nx := nx' } := by
  intro b H' nx' hp
  have := hk b H' nx' hp
  obtain ⟨d, op, ty, pos, af, gd⟩ := o
  cases d <;> exact this
 refine Nz hm hL hβ hn (by simp [ha]) h1 h2 fun LB LD hB hD => ?_
 refine CWp.mono az _ ?_ (h LB LD hB hD)
 intro e s hs
 cases e with
 | normal =>
  refine ⟨hs.1, CWp.mono bo _ ?_ hs.2⟩
  intro e s2 km
  cases e with
  | normal => exact ⟨km.1, hk _ _ _ km.2⟩
  | ret => exact ⟨km.1, hk _ _ _ km.2⟩
  | exit id => exact ⟨km.1, hk _ _ _ km.2⟩
  | goto l => exact km.elim
  | panic x => exact km.elim
 | _ => exact hs.elim
theorem Dz {itv : VV} {L : List VV} (hit : Iter P G itv L) (hg : ev (G.at (some none)) tm g = itv)
  (h : ∀ LO, LO = Vo.loop .ready none (tmL n tm) ps az bo nx → ∃ I : Inv, Stable I ∧ Rounds P G (nx + 1) I ∧ I (some L) noFr (updH (updH H nx (.deferred (some []))) (nx + 1) LO) (nx + 2) ∧
   ∀ H' nx', I (some []) noFr H' nx' ∨ I none noFr H' nx' → RangeEnd P (G.at (some none)) n Q ⟨tm, H, nx, df⟩ H' nx') : CWp P (G.at (some none)) n (.rangeFunc g ps az bo) Q ⟨tm, H, nx, df⟩ := by
 obtain ⟨f, first, captured, rfl, hv⟩ := hit
 refine Ny hg fun LO hL => ?_
 obtain ⟨I, hs, hr, h0, he⟩ := h LO hL
 exact aX.mono (hv (nx + 1) I hs hr _ _ (qZc _) h0) (fun _ H' nx' hh => he H' nx' hh) (fun _ _ _ hh => hh.elim)
end
end Go.V
end
section
namespace Go.V
open Go Go.Proofs IntKind Tryz
variable {H : Nat → Option Vo} {el : Option TypeId} {cs : List VV}
theorem aX.freeze1 {P : Program} {G : Gb} {f : FuncId} {args args' : List VV} {nx γ : Nat} {R Rp : VV → (Nat → Option Vo) → Nat → Prop} (hγ : H γ = some (.cells el cs))
  (ha : FrozenL H (without H γ) args args') (h : aX P G f args' (without H γ) nx R Rp) : aX P G f args H nx R Rp := by
 refine ⟨h.1, fun c W vs s hH hnx hG bD => ?_⟩
 subst hH
 have ho' : ∀ β o', without c.H γ β = some o' → ∃ o, c.H β = some o ∧ FrozenO c.H (without c.H γ) o o' := fun β o' hb => ⟨o', aj.without _ _ β o' hb, .inl rfl⟩
 have hl : ∀ β, (without c.H γ β).isSome = true → c.live β := by
  intro β h
  obtain ⟨o', h'⟩ := Option.isSome_iff_exists.1 h
  obtain ⟨o, h1, _⟩ := ho' β o' h'
  simp [Ctx.live, h1]
 have he : Ext c W (c.frz (without c.H γ)) W := Bz hl
 have ab : Abides c W (c.frz (without c.H γ)) W := DT hl
 have hloop : ∀ x st pe tm ps asg bo df, without c.H γ x = some (.loop st pe tm ps asg bo df) → isDef (without c.H γ) df := by
  intro x st pe tm ps asg bo df hx
  obtain ⟨l, fn, _, _, _, hd⟩ := s.obj x _ (aj.without _ _ x _ hx)
  exact hd.without hγ
 refine (h.2 (c.frz (without c.H γ)) W vs (s.frz ho' hloop) rfl hnx (hG.abides ab) (N8 s hl ha bD)).mono ?_
 rintro e W' ⟨c', H1, nx', g1, g2, g3, g4, g5, g6, g7⟩
 exact ⟨c', H1, nx', he.trans g1, g2, g3, g4, g5, g6, g7⟩
variable {H' : Nat → Option Vo}
theorem Frozen.same {x : VV} : Frozen H H' x x := .inl rfl
theorem FrozenL.same : ∀ {xs : List VV}, FrozenL H H' xs xs
 | [] => trivial
 | _ :: _ => ⟨.same, .same⟩
theorem Frozen.own {γ n w cp : Nat} (hγ : H γ = some (.cells el cs)) (ht : tl cs = true) (hl : cs.length = n * w) : Frozen H (without H γ) (.ref γ 0 n w cp) (.sl cs n false) := by
 refine .inr (.inr ⟨cs.length + 2, ?_⟩)
 have hg : gone H (without H γ) γ = some (.cells el cs) := by simp [gone, without, hγ]
 unfold sealV
 have : (VV.ref γ 0 n w cp).tree = false := rfl
 rw [this]
 simp only [Bool.false_eq_true, if_false, hg, Nat.zero_le, if_true, List.drop_zero]
 rw [List.take_of_length_le (by omega), rk cs _ ht (by omega)]
 rfl
def vx {α : Type} (enc : α → List VV) : List α → VV
 | [] => .lit (.slice none 0 0)
 | l => .sl (ad enc l) l.length false
theorem w7 {α : Type} {enc : α → List VV} {l : List α} (h : l ≠ []) : vx enc l = .sl (ad enc l) l.length false := by cases l with
 | nil => exact absurd rfl h
 | cons a l => rfl
end Go.V
namespace Go.V
theorem JX {α : Type} {enc : α → List VV} (he : EncOk enc) : ∀ {l : List α}, (vx enc l).tree = true
 | [] => rfl
 | a :: l => he.treeL (a :: l)
end Go.V
namespace Go.V
def lessN (H : Nat → Option Vo) (ns : List Nat) : Nat → Option Vo := fun γ => if γ ∈ ns then none else H γ
theorem RU {H : Nat → Option Vo} {ns : List Nat} : aj (lessN H ns) H := fun x o h => by
 unfold lessN at h
 split at h
 ·cases h
 ·exact h
abbrev sI (l : List Int) : VV := .sl (ad eI l) l.length false
end Go.V
namespace Go.V
end Go.V
namespace Go.V
end Go.V
namespace Go.V
theorem ktreeR {P : Program} {G : Gb} {γ : Nat} {tm : Nat → VV} {H : Nat → Option Vo} {nx : Nat} {df : List VDef} {d : Option Tmp} {K : St → Prop} {Qp : VV → St → Prop} {f : FuncId} {args : List VV} {x : VV} (ht : tl args = true) (hp : ah P G f args (.tree x)) (h : fin d γ tm H nx df K x .none) : callK P G f args ⟨tm, H, nx, df⟩ d γ K Qp := by
 refine .inl ⟨ht, .tree x, hp, ?_⟩
 rw [← iU (K := K), jP] at h
 exact h
end Go.V
namespace Go.V
theorem Frozen.ptr {H H' : Nat → Option Vo} {γ : Nat} {el : Option TypeId} {cs : List VV} (hγ : H γ = some (.cells el cs)) (hn : (H' γ).isSome = false) (ht : tl cs = true) : Frozen H H' (.ptr γ 0) (.tp cs) := by
 refine .inr (.inr ⟨cs.length + 2, ?_⟩)
 have hg : gone H H' γ = some (.cells el cs) := by simp [gone, hn, hγ]
 unfold sealV
 have : (VV.ptr γ 0).tree = false := rfl
 rw [this]
 simp only [Bool.false_eq_true, if_false, hg, Nat.zero_le, if_true, List.drop_zero]
 rw [rk cs _ ht (by omega)]
 rfl
end Go.V
end
section
namespace Go.V
open Go Go.Proofs IntKind Tryz
theorem N9 {α : Type} {xs : List α} (h : neB xs = false) : xs = [] := by
 cases xs with
 | nil => rfl
 | cons a l => cases h
section
variable {P : Program} {G : Gb} {H : Nat → Option Vo} {γ : Nat} {α : Type} {enc : α → List VV} {t t2 e e2 w b : Nat} {xs ys : List α} {el : Option TypeId} {β : Nat} {f : Bool} {k : VV → Ve → Prop}
theorem ow (he : ∀ x, (enc x).length = w) (hl : ∀ x, leafL (enc x) = true) (ha : appOk P t = some (e, w, b)) (iC : P.underlying t2 = some (.slice e2)) (hb : H β = some (.cells el (ad enc xs)))
  (hm : neB ys = false) (h : k (.ref β 0 xs.length w xs.length) (.upd β (.cells el (ad enc xs)))) :
  oeK (vappend P H γ t t2 (.ref β 0 xs.length w xs.length) (.sl (ad enc ys) ys.length f)) k := by
 have hm := N9 hm
 subst hm
 obtain ⟨hu, inf, z, hi, hz, rfl, rfl, rI, rJ, hzs⟩ := Ah ha
 have h1 := gg he xs
 have key : vappend P H γ t t2 (.ref β 0 xs.length inf.size xs.length) (.sl (ad enc ([] : List α)) ([] : List α).length f) = some (.ref β 0 xs.length inf.size xs.length, .upd β (.cells el (ad enc xs))) := by
  simp only [vappend, nilS, vappend1, hu, iC, hi, hz, srcV, sls, rI, rJ, hzs, hb, cT, List.length_nil]
  simp [h1, overwrite]
 rw [key]
 exact h
theorem cB {d : Tmp} {γ : Nat} {tm : Nat → VV} {nx : Nat} {df : List VDef} {K : St → Prop} {x : VV} {β : Nat} {o : Vo} : fin (some d) γ tm H nx df K x (.upd β o) = K ⟨upd tm d x, updH H β o, nx, df⟩ := rfl
end
end Go.V
namespace Go.V
open Go Go.Proofs IntKind Tryz
end Go.V
namespace Go.V
open Go Go.Proofs IntKind Tryz
variable {y : VV}
theorem Ty (h : nilS y = .sl [] 0 true) : y = .lit (.slice none 0 0) ∨ y = .sl [] 0 true := by
 unfold nilS at h
 split at h
 ·exact .inl rfl
 ·exact .inr h
theorem vap_y (hy : nilS y = .sl [] 0 true) (P : Program) (H : Nat → Option Vo) (γ : Nat) (t t2 : TypeId) (x : VV) : vappend P H γ t t2 y x = vappend P H γ t t2 (.lit (.slice none 0 0)) x := by
 show vappend1 P H γ t t2 (nilS y) x = vappend1 P H γ t t2 (.sl [] 0 true) x
 rw [hy]
theorem NA (hy : nilS y = .sl [] 0 true) (H : Nat → Option Vo) : outV H y = .sl [] 0 false := by
 rcases Ty hy with rfl | rfl <;> simp [outV, showV, normV, normL]
end Go.V
namespace Go.V
open Go Go.Proofs IntKind Tryz
set_option linter.defProp false
end Go.V
end
section
set_option linter.defProp false
namespace Go.V
open Go Go.Proofs IntKind Tryz
def kIdx {K : Type} (q : K → K → Bool) (k : K) : List K → Nat → Option Nat
 | [], _ => none
 | e :: es, i => cond (q k e) (some i) (kIdx q k es (i + 1))
theorem DU {K : Type} {q : K → K → Bool} {k : K} : ∀ (es : List K) (i j : Nat), kIdx q k es i = some j → i ≤ j ∧ ∃ e, es[j - i]? = some e ∧ q k e = true
 | [], _, _, h => by cases h
 | e :: es, i, j, h => by
  unfold kIdx at h
  cases hq : q k e with
  | true =>
   rw [hq] at h
   simp only [cond_true, Option.some.injEq] at h
   subst h
   exact ⟨qZg _, e, by simp, hq⟩
  | false =>
   rw [hq] at h
   simp only [cond_false] at h
   obtain ⟨h1, x, h2, h3⟩ := DU es (i + 1) j h
   refine ⟨by omega, x, ?_, h3⟩
   rw [show j - i = (j - (i + 1)) + 1 by omega]
   simpa using h2
def mapGet {K V : Type} (q : K → K → Bool) (z : V) (l : List (K × V)) (k : K) : V := match kIdx q k (l.map (·.1)) 0 with
 | some i => match l[i]? with | some p => p.2 | none => z
 | none => z
def mapSet {K V : Type} (q : K → K → Bool) (l : List (K × V)) (k : K) (v : V) : List (K × V) := match kIdx q k (l.map (·.1)) 0 with
 | some i => l.set i (k, v)
 | none => l ++ [(k, v)]
def encM {K V : Type} (kv : K → Value) (ev : V → VV) (l : List (K × V)) : List (Value × VV) := l.map fun p => (kv p.1, ev p.2)
variable {fs : Array Field}
section
variable {P : Program} {K V : Type} {q : K → K → Bool} {kv : K → Value} {ev : V → VV} {t kt et : TypeId} {H : Nat → Option Vo} {β : Nat}
theorem B0 (he : ∀ a b, aG P (Op.equal kt (kv a) (kv b)) = some (q a b)) (k : K) : ∀ (ks : List K) (i : Nat), aG P (Instr.findAsking kt (kv k) ((ks.map kv).map dummy) i) = some ((kIdx q k ks i).map fun j => (j, Value.bool false))
 | [], i => rfl
 | e :: es, i => by
  simp only [List.map_cons, Instr.findAsking, kIdx]
  rw [eg]
  have h0 : aG P (Op.equal kt (kv k) (dummy (kv e)).key) = some (q k e) := he k e
  rw [h0, Option.bind_some]
  cases q k e with
  | true => rfl
  | false => exact B0 he k es (i + 1)
theorem vP (hu : P.underlying kt = some (.struct fs)) (he : ∀ a b, aG P (Op.equal kt (kv a) (kv b)) = some (q a b)) (k : K) (ks : List K) : kfind P kt (kv k) (ks.map kv) = some (kIdx q k ks 0) := by
 unfold kfind Instr.findKey
 rw [eg, x9 hu, Option.bind_some]
 have ha := B0 he k ks 0
 cases ks with
 | nil => rfl
 | cons e es =>
  have hn : Instr.findNow (.struct fs) (kv k) (((e :: es).map kv).map dummy) 0 = none := by
   simp only [List.map_cons, Instr.findNow]
   have : Instr.sameNow (.struct fs) (kv k) (dummy (kv e)).key = none := by cases kv k <;> rfl
   rw [this]
  rw [hn]
  simp only []
  rw [ha]
  cases kIdx q k (e :: es) 0 <;> rfl
theorem NB {l : List (K × V)} : (encM kv ev l).map (·.1) = (l.map (·.1)).map kv := by simp [encM, Function.comp_def]
theorem NC {z : V} (hm : P.underlying t = some (.map kt et)) (hu : P.underlying kt = some (.struct fs)) (he : ∀ a b, aG P (Op.equal kt (kv a) (kv b)) = some (q a b)) (hc : ∀ b k, aG P (Instr.checkKey b 10000 kt (kv k)) = some ())
  (hz : ((P.info? et).bind (·.zero)).map ofVal2 = some (ev z)) {l : List (K × V)} {kx : VV} {k : K} (hk : kx.val? = some (kv k)) (hb : H β = some (.map (encM kv ev l))) :
  vlookup P H t (.mp β) kx false = some (ev (mapGet q z l k)) := by
 unfold vlookup
 rw [hm, hk]
 simp only [mapOf, hb]
 rw [hc, NB, vP hu he]
 cases hzz : (P.info? et).bind (·.zero) with
 | none => rw [hzz] at hz; cases hz
 | some z0 =>
  rw [hzz] at hz
  simp only [Option.map_some, Option.some.injEq] at hz
  unfold mapGet
  cases hi : kIdx q k (l.map (·.1)) 0 with
  | none => simp only [Bool.false_eq_true, if_false]; exact congrArg some hz
  | some i =>
   obtain ⟨_, e, h1, _⟩ := DU _ _ _ hi
   rw [Nat.sub_zero, List.getElem?_map] at h1
   cases hl : l[i]? with
   | none => rw [hl] at h1; cases h1
   | some p =>
    have : (encM kv ev l)[i]? = some (kv p.1, ev p.2) := by unfold encM; rw [List.getElem?_map, hl]; rfl
    simp only [this, hl, Bool.false_eq_true, if_false]
theorem Jv (hm : P.underlying t = some (.map kt et)) (hu : P.underlying kt = some (.struct fs)) (he : ∀ a b, aG P (Op.equal kt (kv a) (kv b)) = some (q a b)) (hc : ∀ b k, aG P (Instr.checkKey b 10000 kt (kv k)) = some ())
  (hq : ∀ a b, q a b = true → a = b) (hs : ∀ a, Instr.sameBits 10000 (kv a) (kv a) = true) {l : List (K × V)} {kx : VV} {k : K} {v : V} (hk : kx.val? = some (kv k)) (hb : H β = some (.map (encM kv ev l))) :
  vmapUpdate P H t (.mp β) kx (ev v) = some (.upd β (.map (encM kv ev (mapSet q l k v)))) := by
 unfold vmapUpdate
 rw [hm, hk]
 simp only [hb]
 rw [hc, NB, vP hu he]
 unfold mapSet
 cases hi : kIdx q k (l.map (·.1)) 0 with
 | none => simp only [encM, List.map_append, List.map_cons, List.map_nil]
 | some i =>
  obtain ⟨_, e, h1, h2⟩ := DU _ _ _ hi
  rw [Nat.sub_zero, List.getElem?_map] at h1
  cases hl : l[i]? with
  | none => rw [hl] at h1; cases h1
  | some p =>
   have h3 : (encM kv ev l)[i]? = some (kv p.1, ev p.2) := by unfold encM; rw [List.getElem?_map, hl]; rfl
   rw [hl] at h1
   simp only [Option.map_some, Option.some.injEq] at h1
   have h4 := hq _ _ h2
   subst h4
   subst h1
   simp only [h3, hs, if_true]
   simp only [encM, List.map_set]
end
variable {t : TypeId} {x k m : Operand} {ok : Bool} {β : Nat}
section
variable {P : Program} {G : Gb} {γ : Nat} {tm : Nat → VV} {H : Nat → Option Vo} {nx : Nat} {df : List VDef} {K : St → Prop} {Kd : List Nat → List Nat → St → Prop} {Qp : VV → St → Prop}
 {d : Option Tmp} {ty : TypeId} {pos : String} {af : Array Edge} {g : Option (Nat × Bool)}
theorem Zf : bd P G γ ⟨d, .makeMap t none, ty, pos, af, g⟩ ⟨tm, H, nx, df⟩ K Qp = fin d γ tm H nx df K (.mp γ) (.new (.map [])) := by
 rw [iD (by simp) (by simp) (by simp)]; rfl
theorem ND : bd P G γ ⟨d, .lookup t x k ok, ty, pos, af, g⟩ ⟨tm, H, nx, df⟩ K Qp = oK (vlookup P H t (ev G tm x) (ev G tm k) ok) (fun y => fin d γ tm H nx df K y .none) := by
 rw [iD (by simp) (by simp) (by simp)]; simp only [vop]; exact qs
theorem Zg : aR P G γ ⟨d, .makeMap t none, ty, pos, af, g⟩ ⟨tm, H, nx, df⟩ Kd = fin d γ tm H nx df (Kd (rdV ⟨d, .makeMap t none, ty, pos, af, g⟩ (ev G tm)) [γ]) (.mp γ) (.new (.map [])) := by
 rw [jb (by simp)]; rfl
theorem Zh : aR P G γ ⟨d, .lookup t x k ok, ty, pos, af, g⟩ ⟨tm, H, nx, df⟩ Kd = oK (vlookup P H t (ev G tm x) (ev G tm k) ok) (fun y => fin d γ tm H nx df (Kd (rdV ⟨d, .lookup t x k ok, ty, pos, af, g⟩ (ev G tm)) []) y .none) := by
 rw [jb (by simp)]; simp only [vop]
 cases vlookup P H t (ev G tm x) (ev G tm k) ok <;> rfl
def umK (o : Option Ve) (k : Ve → Prop) : Prop := match o with | some e => k e | none => False
theorem NF {e : Ve} {k : Ve → Prop} : umK (some e) k = k e := rfl
theorem Zi : bd P G γ ⟨d, .mapUpdate t m k x, ty, pos, af, g⟩ ⟨tm, H, nx, df⟩ K Qp = umK (vmapUpdate P H t (ev G tm m) (ev G tm k) (ev G tm x)) (fun e => fin d γ tm H nx df K .any e) := by
 rw [iD (by simp) (by simp) (by simp)]; simp only [vop]
 cases vmapUpdate P H t (ev G tm m) (ev G tm k) (ev G tm x) <;> rfl
theorem Zj : aR P G γ ⟨d, .mapUpdate t m k x, ty, pos, af, g⟩ ⟨tm, H, nx, df⟩ Kd = umK (vmapUpdate P H t (ev G tm m) (ev G tm k) (ev G tm x)) (fun e => fin d γ tm H nx df (Kd (rdV ⟨d, .mapUpdate t m k x, ty, pos, af, g⟩ (ev G tm)) (e.wr γ)) .any e) := by
 rw [jb (by simp)]; simp only [vop]
 cases vmapUpdate P H t (ev G tm m) (ev G tm k) (ev G tm x) <;> rfl
theorem NG : bc (.mp β) = some [.mp β] := rfl
theorem NH : (VV.mp β).leaf = true := rfl
theorem NI : rdV ⟨d, .makeMap t none, ty, pos, af, g⟩ (ev G tm) = rdL (ev G tm) [] := jc []
theorem NJ : rdV ⟨d, .lookup t x k ok, ty, pos, af, g⟩ (ev G tm) = rdL (ev G tm) [x, k] := jc [x, k]
theorem Zk : rdV ⟨d, .mapUpdate t m k x, ty, pos, af, g⟩ (ev G tm) = rdL (ev G tm) [m, k, x] := jc [m, k, x]
theorem NK {l : List Nat} : tnL (.mp β) l = β :: l := rfl
theorem NL : ev G tm (.const (.map none)) = .lit (.map none) := rfl
theorem dW {K V : Type} {kv : K → Value} {ew : V → VV} : encM kv ew [] = [] := rfl
def mq := (qZj (qZj (qZj @Zf (qZj @ND @Zi)) (qZj (qZj @Zg @Zh) (qZj @Zj @NF))) (qZj (qZj (qZj @NG @NH) (qZj @NI @NJ)) (qZj (qZj @Zk @NK) (qZj @NL @dW))))
end
end Go.V
end
section
set_option linter.defProp false
namespace Go.V
open Go Go.Proofs IntKind Tryz
def mtK {K V : Type} (kv : K → Value) (l : List (K × V)) : List Value := l.map fun p => kv p.1
def mtV {K V : Type} (ew : V → VV) (l : List (K × V)) : List VV := l.map fun p => ew p.2
theorem B1 {K V : Type} {ew : V → VV} (ht : ∀ v, (ew v).tree = true) : ∀ l : List (K × V), tl (mtV ew l) = true
 | [] => rfl
 | p :: l => by
  show ((ew p.2).tree && tl (mtV ew l)) = true
  rw [ht, B1 ht l]; rfl
theorem Aa {K V : Type} {kv : K → Value} {ew : V → VV} {H : Nat → Option Vo} (l : List (K × V)) : mapOf H (.mt (mtK kv l) (mtV ew l)) = some (encM kv ew l) := by
 simp only [mapOf, mtK, mtV, encM, Option.some.injEq]
 induction l with
 | nil => rfl
 | cons p l ih => simp only [List.map_cons, List.zip_cons_cons, ih]
section
variable {P : Program} {K V : Type} {q : K → K → Bool} {kv : K → Value} {ew : V → VV} {t kt et : TypeId} {H : Nat → Option Vo}
theorem Jy {fs : Array Field} {z : V} (hm : P.underlying t = some (.map kt et)) (hu : P.underlying kt = some (.struct fs)) (he : ∀ a b, aG P (Op.equal kt (kv a) (kv b)) = some (q a b)) (hc : ∀ b k, aG P (Instr.checkKey b 10000 kt (kv k)) = some ())
  (hz : ((P.info? et).bind (·.zero)).map ofVal2 = some (ew z)) {l : List (K × V)} {kx : VV} {k : K} (hk : kx.val? = some (kv k)) :
  vlookup P H t (.mt (mtK kv l) (mtV ew l)) kx false = some (ew (mapGet q z l k)) := by
 have := NC (H := fun _ => some (.map (encM kv ew l))) (β := 0) hm hu he hc hz hk rfl
 unfold vlookup at this ⊢
 rw [Aa]
 exact this
end
variable {ks : List Value}
theorem NM {vs : List VV} : (VV.mt ks vs).leaf = true := rfl
theorem NN {vs : List VV} : bc (.mt ks vs) = some [.mt ks vs] := rfl
theorem NO {vs : List VV} {l : List Nat} : tnL (.mt ks vs) l = l := rfl
def mqm := (qZj @NM (qZj @NN @NO))
end Go.V
end
section
set_option linter.defProp false
namespace Go.V
open Go Go.Proofs IntKind Tryz
variable {ks : List Value}
theorem Dv {vs : List VV} : normV (.mt ks vs) = .mt ks vs := by simp [normV]
variable {K V : Type}
theorem ln {kv : K → Value} {ev : V → VV} {l : List (K × V)} : (encM kv ev l).map (·.1) = mtK kv l := by simp [encM, mtK, Function.comp_def]
variable {H : Nat → Option Vo}
theorem J1 {kv : K → Value} {ev : V → VV} (h : ∀ H d v, showV H d (ev v) = ev v) {l : List (K × V)} {d : Nat} : ((encM kv ev l).map (·.2)).map (showV H d) = mtV ev l := by
 simp [encM, mtV, Function.comp_def, h]
theorem mt_tr {kv : K → Value} {ev : V → VV} (h : ∀ v, (ev v).tree = true) {l : List (K × V)} : (VV.mt (mtK kv l) (mtV ev l)).tree = true := B1 h l
theorem Ag {d : Nat} {vs : List VV} : showV H d (.mt ks vs) = .mt ks vs := by cases d <;> rfl
end Go.V
end
section
set_option linter.defProp false
namespace Go.V
open Go Go.Proofs IntKind Tryz
section
variable {P : Program} {G : Gb} {n : Nat} {γ : Nat} {tm : Nat → VV} {H : Nat → Option Vo} {nx : Nat} {df : List VDef} {K : St → Prop} {Kd : List Nat → List Nat → St → Prop} {Qp : VV → St → Prop} {Q : Vx → St → Prop}
 {d : Option Tmp} {ty : TypeId} {pos : String} {af : Array Edge} {g : Option (Nat × Bool)}
def mapHas {K V : Type} (q : K → K → Bool) (l : List (K × V)) (k : K) : Bool := (kIdx q k (l.map (·.1)) 0).isSome
end
section
variable {P : Program} {K V : Type} {q : K → K → Bool} {kv : K → Value} {ev : V → VV} {t kt et : TypeId} {H : Nat → Option Vo} {β : Nat}
theorem X3 {fs : Array Field} {z : V} (hm : P.underlying t = some (.map kt et)) (hu : P.underlying kt = some (.struct fs)) (he : ∀ a b, aG P (Op.equal kt (kv a) (kv b)) = some (q a b)) (hc : ∀ b k, aG P (Instr.checkKey b 10000 kt (kv k)) = some ())
  (hz : ((P.info? et).bind (·.zero)).map ofVal2 = some (ev z)) {l : List (K × V)} {kx : VV} {k : K} (hk : kx.val? = some (kv k)) (hb : H β = some (.map (encM kv ev l))) :
  vlookup P H t (.mp β) kx true = some (.tup [ev (mapGet q z l k), .lit (.bool (mapHas q l k))]) := by
 unfold vlookup
 rw [hm, hk]
 simp only [mapOf, hb]
 rw [hc, NB, vP hu he]
 cases hzz : (P.info? et).bind (·.zero) with
 | none => rw [hzz] at hz; cases hz
 | some z0 =>
  rw [hzz] at hz
  simp only [Option.map_some, Option.some.injEq] at hz
  unfold mapGet mapHas
  cases hi : kIdx q k (l.map (·.1)) 0 with
  | none => simp only [if_true, hz, Option.isSome_none]
  | some i =>
   obtain ⟨_, e, h1, _⟩ := DU _ _ _ hi
   rw [Nat.sub_zero, List.getElem?_map] at h1
   cases hl : l[i]? with
   | none => rw [hl] at h1; cases h1
   | some p =>
    have : (encM kv ev l)[i]? = some (kv p.1, ev p.2) := by unfold encM; rw [List.getElem?_map, hl]; rfl
    simp only [this, hl, if_true, Option.isSome_some]
end
section
variable {P : Program} {G : Gb} {H : Nat → Option Vo}
end
section
variable {c : Ctx} {W : World} {β : Nat}
end
section
variable {P : Program} {G : Gb} {H : Nat → Option Vo}
end
section
variable {P : Program} {G : Gb} {H : Nat → Option Vo}
end
theorem iQ {m : Option Nat} : (VV.lit (.map m)).leaf = true := rfl
end Go.V
end
section
namespace Go.V
open Go Go.Proofs IntKind Tryz

end Go.V
end
section
namespace Go.V
open Go Go.Proofs IntKind Tryz
theorem mixed : prog.follows .mixedOrders = true := by kernel_rfl
structure GSpan where
 Low : Int
 High : Int
 deriving Inhabited, DecidableEq
def cGSpan (x : GSpan) : List VV := [.lit (.int .i64 x.Low), .lit (.int .i64 x.High)]
theorem vQ {x : GSpan} : cGSpan x = [.lit (.int .i64 x.Low), .lit (.int .i64 x.High)] := rfl
theorem dh : EncOk cGSpan := EncOk.of (fun x => by simp only [vQ, tre, Bool.and_self]) (fun x => by simp only [vQ, nrm]) (fun x H d => by simp only [vQ, nrm, List.map_cons, List.map_nil])
structure GLp where
 Left : Int
 Right : Int
 Space : GSpan
 deriving Inhabited, DecidableEq
def cGLp (x : GLp) : List VV := [.lit (.int .i64 x.Left), .lit (.int .i64 x.Right), .lit (.int .i64 x.Space.Low), .lit (.int .i64 x.Space.High)]
theorem B2 {x : GLp} : cGLp x = [.lit (.int .i64 x.Left), .lit (.int .i64 x.Right), .lit (.int .i64 x.Space.Low), .lit (.int .i64 x.Space.High)] := rfl
theorem dA : EncOk cGLp := EncOk.of (fun x => by simp only [B2, tre, dh.tree, dh.treeL, Bool.and_self]) (fun x => by simp only [B2, nrm, dh.norm, dh.normL, dh.shown, dh.showL]) (fun x H d => by simp only [B2, nrm, List.map_cons, List.map_nil])
structure GLw where
 Signs : List Int
 Cuts : List Int
 Free : Bool
 deriving Inhabited, DecidableEq
def cGLw (x : GLw) : List VV := [.sl (ad eI x.Signs) (List.length x.Signs) false, .sl (ad eI x.Cuts) (List.length x.Cuts) false, .lit (.bool x.Free)]
theorem xC {x : GLw} : cGLw x = [.sl (ad eI x.Signs) (List.length x.Signs) false, .sl (ad eI x.Cuts) (List.length x.Cuts) false, .lit (.bool x.Free)] := rfl
theorem dV : EncOk cGLw := EncOk.of (fun x => by simp only [xC, tre, dh.tree, dh.treeL, dA.tree, dA.treeL, Bool.and_self]) (fun x => by simp only [xC, nrm, dh.norm, dh.normL, dh.shown, dh.showL, dA.norm, dA.normL, dA.shown, dA.showL]) (fun x H d => by simp only [xC, nrm, List.map_cons, List.map_nil])
structure GLs where
 Widths : List Int
 Pairs : List GLp
 Other : GSpan
 Gap : GSpan
 Hyphen : Int
 Words : List GLw
 Wide : Int
 Rows : Int
 deriving Inhabited, DecidableEq
def cGLs (x : GLs) : List VV := [.sl (ad eI x.Widths) (List.length x.Widths) false, .sl (ad cGLp x.Pairs) (List.length x.Pairs) false, .lit (.int .i64 x.Other.Low), .lit (.int .i64 x.Other.High), .lit (.int .i64 x.Gap.Low), .lit (.int .i64 x.Gap.High), .lit (.int .i64 x.Hyphen), .sl (ad cGLw x.Words) (List.length x.Words) false, .lit (.int .i64 x.Wide), .lit (.int .i64 x.Rows)]
theorem B3 {x : GLs} : cGLs x = [.sl (ad eI x.Widths) (List.length x.Widths) false, .sl (ad cGLp x.Pairs) (List.length x.Pairs) false, .lit (.int .i64 x.Other.Low), .lit (.int .i64 x.Other.High), .lit (.int .i64 x.Gap.Low), .lit (.int .i64 x.Gap.High), .lit (.int .i64 x.Hyphen), .sl (ad cGLw x.Words) (List.length x.Words) false, .lit (.int .i64 x.Wide), .lit (.int .i64 x.Rows)] := rfl
theorem eV : EncOk cGLs := EncOk.of (fun x => by simp only [B3, tre, dh.tree, dh.treeL, dA.tree, dA.treeL, dV.tree, dV.treeL, Bool.and_self]) (fun x => by simp only [B3, nrm, dh.norm, dh.normL, dh.shown, dh.showL, dA.norm, dA.normL, dA.shown, dA.showL, dV.norm, dV.normL, dV.shown, dV.showL]) (fun x H d => by simp only [B3, nrm, List.map_cons, List.map_nil])
structure GLe where
 Word : Int
 Letters : Int
 deriving Inhabited, DecidableEq
def cGLe (x : GLe) : List VV := [.lit (.int .i64 x.Word), .lit (.int .i64 x.Letters)]
theorem B4 {x : GLe} : cGLe x = [.lit (.int .i64 x.Word), .lit (.int .i64 x.Letters)] := rfl
theorem ez : EncOk cGLe := EncOk.of (fun x => by simp only [B4, tre, dh.tree, dh.treeL, dA.tree, dA.treeL, dV.tree, dV.treeL, eV.tree, eV.treeL, Bool.and_self]) (fun x => by simp only [B4, nrm, dh.norm, dh.normL, dh.shown, dh.showL, dA.norm, dA.normL, dA.shown, dA.showL, dV.norm, dV.normL, dV.shown, dV.showL, eV.norm, eV.normL, eV.shown, eV.showL]) (fun x H d => by simp only [B4, nrm, List.map_cons, List.map_nil])
structure GLx where
 Out : List Int
 Ends : List GLe
 deriving Inhabited, DecidableEq
def cGLx (x : GLx) : List VV := [.sl (ad eI x.Out) (List.length x.Out) false, .sl (ad cGLe x.Ends) (List.length x.Ends) false]
theorem DV {x : GLx} : cGLx x = [.sl (ad eI x.Out) (List.length x.Out) false, .sl (ad cGLe x.Ends) (List.length x.Ends) false] := rfl
theorem gB : EncOk cGLx := EncOk.of (fun x => by simp only [DV, tre, dh.tree, dh.treeL, dA.tree, dA.treeL, dV.tree, dV.treeL, eV.tree, eV.treeL, ez.tree, ez.treeL, Bool.and_self]) (fun x => by simp only [DV, nrm, dh.norm, dh.normL, dh.shown, dh.showL, dA.norm, dA.normL, dA.shown, dA.showL, dV.norm, dV.normL, dV.shown, dV.showL, eV.norm, eV.normL, eV.shown, eV.showL, ez.norm, ez.normL, ez.shown, ez.showL]) (fun x H d => by simp only [DV, nrm, List.map_cons, List.map_nil])
structure Grl where
 Word : Int
 Sign : Int
 deriving Inhabited, DecidableEq
def cGrl (x : Grl) : List VV := [.lit (.int .i64 x.Word), .lit (.int .i64 x.Sign)]
theorem DW {x : Grl} : cGrl x = [.lit (.int .i64 x.Word), .lit (.int .i64 x.Sign)] := rfl
theorem iH : EncOk cGrl := EncOk.of (fun x => by simp only [DW, tre, dh.tree, dh.treeL, dA.tree, dA.treeL, dV.tree, dV.treeL, eV.tree, eV.treeL, ez.tree, ez.treeL, gB.tree, gB.treeL, Bool.and_self]) (fun x => by simp only [DW, nrm, dh.norm, dh.normL, dh.shown, dh.showL, dA.norm, dA.normL, dA.shown, dA.showL, dV.norm, dV.normL, dV.shown, dV.showL, eV.norm, eV.normL, eV.shown, eV.showL, ez.norm, ez.normL, ez.shown, ez.showL, gB.norm, gB.normL, gB.shown, gB.showL]) (fun x H d => by simp only [DW, nrm, List.map_cons, List.map_nil])
structure Glm where
 word : Int
 sign : Int
 row : Int
 hyphen : Bool
 deriving Inhabited, DecidableEq
def cGlm (x : Glm) : List VV := [.lit (.int .i64 x.word), .lit (.int .i64 x.sign), .lit (.int .i64 x.row), .lit (.bool x.hyphen)]
theorem B5 {x : Glm} : cGlm x = [.lit (.int .i64 x.word), .lit (.int .i64 x.sign), .lit (.int .i64 x.row), .lit (.bool x.hyphen)] := rfl
theorem lf : EncOk cGlm := EncOk.of (fun x => by simp only [B5, tre, dh.tree, dh.treeL, dA.tree, dA.treeL, dV.tree, dV.treeL, eV.tree, eV.treeL, ez.tree, ez.treeL, gB.tree, gB.treeL, iH.tree, iH.treeL, Bool.and_self]) (fun x => by simp only [B5, nrm, dh.norm, dh.normL, dh.shown, dh.showL, dA.norm, dA.normL, dA.shown, dA.showL, dV.norm, dV.normL, dV.shown, dV.showL, eV.norm, eV.normL, eV.shown, eV.showL, ez.norm, ez.normL, ez.shown, ez.showL, gB.norm, gB.normL, gB.shown, gB.showL, iH.norm, iH.normL, iH.shown, iH.showL]) (fun x H d => by simp only [B5, nrm, List.map_cons, List.map_nil])
structure Glp where
 left : Int
 right : Int
 deriving Inhabited, DecidableEq
def cGlp (x : Glp) : List VV := [.lit (.int .i64 x.left), .lit (.int .i64 x.right)]
theorem DX {x : Glp} : cGlp x = [.lit (.int .i64 x.left), .lit (.int .i64 x.right)] := rfl
theorem tt : EncOk cGlp := EncOk.of (fun x => by simp only [DX, tre, dh.tree, dh.treeL, dA.tree, dA.treeL, dV.tree, dV.treeL, eV.tree, eV.treeL, ez.tree, ez.treeL, gB.tree, gB.treeL, iH.tree, iH.treeL, lf.tree, lf.treeL, Bool.and_self]) (fun x => by simp only [DX, nrm, dh.norm, dh.normL, dh.shown, dh.showL, dA.norm, dA.normL, dA.shown, dA.showL, dV.norm, dV.normL, dV.shown, dV.showL, eV.norm, eV.normL, eV.shown, eV.showL, ez.norm, ez.normL, ez.shown, ez.showL, gB.norm, gB.normL, gB.shown, gB.showL, iH.norm, iH.normL, iH.shown, iH.showL, lf.norm, lf.normL, lf.shown, lf.showL]) (fun x H d => by simp only [DX, nrm, List.map_cons, List.map_nil])
def dx (k : Glp) : Value := .agg ⟨[.int .i64 k.left, .int .i64 k.right]⟩
def f8 (n : GSpan) : VV := .agg (cGSpan n)
theorem oZ {l : List (Glp × GSpan)} : (VV.mt (mtK dx l) (mtV f8 l)).tree = true := mt_tr fun v => by simp only [f8, tre, dh.tree, dh.treeL, dA.tree, dA.treeL, dV.tree, dV.treeL, eV.tree, eV.treeL, ez.tree, ez.treeL, gB.tree, gB.treeL, iH.tree, iH.treeL, lf.tree, lf.treeL, tt.tree, tt.treeL, Bool.and_self]
structure Gld where
 ls : GLs
 lx : GLx
 stretch : Int
 spaces : List (Glp × GSpan)
 marks : List Glm
 deriving Inhabited, DecidableEq
def cGld (x : Gld) : List VV := [.sl (ad eI x.ls.Widths) (List.length x.ls.Widths) false, .sl (ad cGLp x.ls.Pairs) (List.length x.ls.Pairs) false, .lit (.int .i64 x.ls.Other.Low), .lit (.int .i64 x.ls.Other.High), .lit (.int .i64 x.ls.Gap.Low), .lit (.int .i64 x.ls.Gap.High), .lit (.int .i64 x.ls.Hyphen), .sl (ad cGLw x.ls.Words) (List.length x.ls.Words) false, .lit (.int .i64 x.ls.Wide), .lit (.int .i64 x.ls.Rows), .sl (ad eI x.lx.Out) (List.length x.lx.Out) false, .sl (ad cGLe x.lx.Ends) (List.length x.lx.Ends) false, .lit (.int .i64 x.stretch), .mt (mtK dx x.spaces) (mtV f8 x.spaces), .sl (ad cGlm x.marks) (List.length x.marks) false]
theorem yI {x : Gld} : cGld x = [.sl (ad eI x.ls.Widths) (List.length x.ls.Widths) false, .sl (ad cGLp x.ls.Pairs) (List.length x.ls.Pairs) false, .lit (.int .i64 x.ls.Other.Low), .lit (.int .i64 x.ls.Other.High), .lit (.int .i64 x.ls.Gap.Low), .lit (.int .i64 x.ls.Gap.High), .lit (.int .i64 x.ls.Hyphen), .sl (ad cGLw x.ls.Words) (List.length x.ls.Words) false, .lit (.int .i64 x.ls.Wide), .lit (.int .i64 x.ls.Rows), .sl (ad eI x.lx.Out) (List.length x.lx.Out) false, .sl (ad cGLe x.lx.Ends) (List.length x.lx.Ends) false, .lit (.int .i64 x.stretch), .mt (mtK dx x.spaces) (mtV f8 x.spaces), .sl (ad cGlm x.marks) (List.length x.marks) false] := rfl
theorem NP : EncOk cGld := EncOk.of (fun x => by simp only [yI, tre, dh.tree, dh.treeL, dA.tree, dA.treeL, dV.tree, dV.treeL, eV.tree, eV.treeL, ez.tree, ez.treeL, gB.tree, gB.treeL, iH.tree, iH.treeL, lf.tree, lf.treeL, tt.tree, tt.treeL, oZ, Bool.and_self]) (fun x => by simp only [yI, nrm, dh.norm, dh.normL, dh.shown, dh.showL, dA.norm, dA.normL, dA.shown, dA.showL, dV.norm, dV.normL, dV.shown, dV.showL, eV.norm, eV.normL, eV.shown, eV.showL, ez.norm, ez.normL, ez.shown, ez.showL, gB.norm, gB.normL, gB.shown, gB.showL, iH.norm, iH.normL, iH.shown, iH.showL, lf.norm, lf.normL, lf.shown, lf.showL, tt.norm, tt.normL, tt.shown, tt.showL, Dv, Ag]) (fun x H d => by simp only [yI, nrm, List.map_cons, List.map_nil, Ag])
theorem vR : EncOk (eSl cGrl) := EncOk.sl iH
theorem NQ : EncOk (eSl cGLe) := EncOk.sl ez
variable {c : VV} {cs : List VV}
theorem Zl : aS prog 3 (c :: cs) = some c := by
 have h1 : aggT prog 3 = some false := by kernel_rfl
 simp [aS, vpart, h1]
theorem Zm : szT prog 3 = some 1 := by kernel_rfl
theorem NR : vzl prog 3 = some [.lit (.int .i64 0)] := by kernel_rfl
theorem Zn : aS prog 4 (c :: cs) = some c := by
 have h1 : aggT prog 4 = some false := by kernel_rfl
 simp [aS, vpart, h1]
theorem Zo : szT prog 4 = some 1 := by kernel_rfl
theorem NT : vzl prog 4 = some [.lit (.bool false)] := by kernel_rfl
theorem NU : aS prog 22 (c :: cs) = some c := by
 have h1 : aggT prog 22 = some false := by kernel_rfl
 simp [aS, vpart, h1]
theorem NV : szT prog 22 = some 1 := by kernel_rfl
variable {H : Nat → Option Vo} {n : Nat} {f : Bool}
theorem B6 : vlen prog H 22 (.sl cs n f) = some (.lit (.int .i64 n)) := by simp [vlen, underlying22, sls]
theorem lenN22 : vlen prog H 22 (.lit (.slice none 0 0)) = some (.lit (.int .i64 0)) := by simp [vlen, underlying22, sls]
variable {β off w : Nat}
theorem lenR22 {c : Nat} : vlen prog H 22 (.ref β off n w c) = (match H β with | some (.cells _ cs) => if off ≤ cs.length then some (.lit (.int .i64 n)) else none | _ => none) := lenR underlying22
theorem bI : elemT prog 22 = some 3 := by simp [elemT, underlying22]
theorem cu : appOk prog 22 = some (3, 1, 8) := by kernel_rfl
variable {xs : List Int}
theorem NW : (ad eI xs).take (xs.length * 1) = ad eI xs := td (fun _ => rfl)
theorem ct : ∀ x : Int, leafL (eI x) = true := fun x => by simp only [eI_eq, pq, eB_eq, eS_eq, pr, iI, iJ, B7, B8, B9, BA, BB, Bool.and_self]
variable {i : Int}
theorem aA {x : Int} (h : getI xs i = some x) : (∀ (H : Nat → Option Vo) (β c : Nat) (k : IntKind), aJ prog H 22 (.ref β 0 xs.length 1 c) (.lit (.int k i)) = if (H β).isSome = true then some (.ptr β (i.toNat * 1)) else none) ∧ (ad eI xs).drop (i.toNat * 1) = eI x ++ ad eI (xs.drop (i.toNat + 1)) ∧ (i.toNat * 1 ≤ (ad eI xs).length) = True := ixO underlying22 (by kernel_rfl : szT prog 3 = some 1) (fun _ => rfl) h
variable {a0 : VV}
theorem NX (h : leafL [a0] = true) : aC prog 22 1 [(0, a0)] = some ([a0], 1) := by
 have h2 : szT prog 3 = some 1 := by kernel_rfl
 have h3 : vzero prog 3 = some #[.int .i64 0] := by kernel_rfl
 simp only [iJ, iI, Bool.and_true, Bool.and_eq_true] at h
 simp [aC, underlying22, h2, h3, vfill, vcells1, h, overwrite, vzeros, List.range_succ]
theorem NY {a1 : VV} (h : leafL [a0, a1] = true) : aC prog 22 2 [(0, a0), (1, a1)] = some ([a0, a1], 1) := by
 have h2 : szT prog 3 = some 1 := by kernel_rfl
 have h3 : vzero prog 3 = some #[.int .i64 0] := by kernel_rfl
 simp only [iJ, iI, Bool.and_true, Bool.and_eq_true] at h
 simp [aC, underlying22, h2, h3, vfill, vcells1, h, overwrite, vzeros, List.range_succ]
variable {k : IntKind}
theorem ai {x : Int} (h : getI xs i = some x) : aJ prog H 22 (.sl (ad eI xs) xs.length f) (.lit (.int k i)) = some (.tp (eI x ++ ad eI (xs.drop (i.toNat + 1)))) :=
 ixG underlying22 (by kernel_rfl : szT prog 3 = some 1) (by decide) (fun _ => rfl) h
theorem NZ : aS prog 23 (c :: cs) = some c := by
 have h1 : aggT prog 23 = some false := by kernel_rfl
 simp [aS, vpart, h1]
theorem BC : vlen prog H 23 (.sl cs n f) = some (.lit (.int .i64 n)) := by simp [vlen, underlying23, sls]
theorem lenN23 : vlen prog H 23 (.lit (.slice none 0 0)) = some (.lit (.int .i64 0)) := by simp [vlen, underlying23, sls]
theorem lenR23 {c : Nat} : vlen prog H 23 (.ref β off n w c) = (match H β with | some (.cells _ cs) => if off ≤ cs.length then some (.lit (.int .i64 n)) else none | _ => none) := lenR underlying23
theorem cL {xs : List GLp} {x : GLp} (h : getI xs i = some x) : aJ prog H 23 (.sl (ad cGLp xs) xs.length f) (.lit (.int k i)) = some (.tp (cGLp x ++ ad cGLp (xs.drop (i.toNat + 1)))) :=
 ixG underlying23 (by kernel_rfl : szT prog 108 = some 4) (by decide) (fun _ => rfl) h
variable {c0 c1 : VV}
theorem Oa : aS prog 25 (c0 :: c1 :: cs) = some (.agg [c0, c1]) := by
 have h1 : aggT prog 25 = some true := by kernel_rfl
 have h2 : szT prog 25 = some 2 := by kernel_rfl
 simp [aS, vpart, h1, h2]
theorem Ob : szT prog 25 = some 2 := by kernel_rfl
theorem BD : vzl prog 25 = some [.lit (.int .i64 0), .lit (.int .i64 0)] := by kernel_rfl
variable {o : Nat}
theorem Oc : ag prog H 25 (.ptr β o) 0 = if (H β).isSome = true then some (.ptr β (o + 0)) else none := by
 have h2 : szT prog 3 = some 1 := by kernel_rfl
 simp [ag, underlying25, h2]
theorem Od : ag prog H 25 (.ptr β o) 1 = if (H β).isSome = true then some (.ptr β (o + 1)) else none := by
 have h2 : szT prog 3 = some 1 := by kernel_rfl
 simp [ag, underlying25, h2]
theorem Oe : aS prog 26 (c :: cs) = some c := by
 have h1 : aggT prog 26 = some false := by kernel_rfl
 simp [aS, vpart, h1]
theorem Of : szT prog 26 = some 1 := by kernel_rfl
theorem BE : vlen prog H 26 (.sl cs n f) = some (.lit (.int .i64 n)) := by simp [vlen, underlying26, sls]
theorem lenN26 : vlen prog H 26 (.lit (.slice none 0 0)) = some (.lit (.int .i64 0)) := by simp [vlen, underlying26, sls]
theorem lenR26 {c : Nat} : vlen prog H 26 (.ref β off n w c) = (match H β with | some (.cells _ cs) => if off ≤ cs.length then some (.lit (.int .i64 n)) else none | _ => none) := lenR underlying26
theorem rS : elemT prog 26 = some 79 := by simp [elemT, underlying26]
theorem v3 : appOk prog 26 = some (79, 3, 56) := by kernel_rfl
theorem Og {xs : List GLw} : (ad cGLw xs).take (xs.length * 3) = ad cGLw xs := td (fun _ => rfl)
theorem vy : ∀ x : GLw, leafL (cGLw x) = true := fun x => by simp only [eI_eq, pq, eB_eq, eS_eq, pr, xC, iI, iJ, B7, B8, B9, BA, BB, Bool.and_self]
theorem bg {xs : List GLw} {x : GLw} (h : getI xs i = some x) : (∀ (H : Nat → Option Vo) (β c : Nat) (k : IntKind), aJ prog H 26 (.ref β 0 xs.length 3 c) (.lit (.int k i)) = if (H β).isSome = true then some (.ptr β (i.toNat * 3)) else none) ∧ (ad cGLw xs).drop (i.toNat * 3) = cGLw x ++ ad cGLw (xs.drop (i.toNat + 1)) ∧ (i.toNat * 3 ≤ (ad cGLw xs).length) = True := ixO underlying26 (by kernel_rfl : szT prog 79 = some 3) (fun _ => rfl) h
variable {c2 : VV}
theorem Oh (h : leafL [c0, c1, c2] = true) : aC prog 26 1 [(0, .agg [c0, c1, c2])] = some ([c0, c1, c2], 3) := by
 have h2 : szT prog 79 = some 3 := by kernel_rfl
 have h3 : vzero prog 79 = some #[.slice none 0 0, .slice none 0 0, .bool false] := by kernel_rfl
 simp only [iJ, iI, Bool.and_true, Bool.and_eq_true] at h
 simp [aC, underlying26, h2, h3, vfill, bc, h, overwrite, vzeros]
theorem aF {xs : List GLw} {x : GLw} (h : getI xs i = some x) : aJ prog H 26 (.sl (ad cGLw xs) xs.length f) (.lit (.int k i)) = some (.tp (cGLw x ++ ad cGLw (xs.drop (i.toNat + 1)))) :=
 ixG underlying26 (by kernel_rfl : szT prog 79 = some 3) (by decide) (fun _ => rfl) h
variable {c3 : VV}
theorem Oi {c4 c5 c6 c7 c8 c9 : VV} : aS prog 28 (c0 :: c1 :: c2 :: c3 :: c4 :: c5 :: c6 :: c7 :: c8 :: c9 :: cs) = some (.agg [c0, c1, c2, c3, c4, c5, c6, c7, c8, c9]) := by
 have h1 : aggT prog 28 = some true := by kernel_rfl
 have h2 : szT prog 28 = some 10 := by kernel_rfl
 simp [aS, vpart, h1, h2]
theorem Oj : szT prog 28 = some 10 := by kernel_rfl
theorem BF : vzl prog 28 = some [.lit (.slice none 0 0), .lit (.slice none 0 0), .lit (.int .i64 0), .lit (.int .i64 0), .lit (.int .i64 0), .lit (.int .i64 0), .lit (.int .i64 0), .lit (.slice none 0 0), .lit (.int .i64 0), .lit (.int .i64 0)] := by kernel_rfl
theorem Ok : ag prog H 28 (.ptr β o) 0 = if (H β).isSome = true then some (.ptr β (o + 0)) else none := by
 have h2 : szT prog 22 = some 1 := by kernel_rfl
 simp [ag, underlying28, h2]
theorem Ol : ag prog H 28 (.ptr β o) 1 = if (H β).isSome = true then some (.ptr β (o + 1)) else none := by
 have h2 : szT prog 23 = some 1 := by kernel_rfl
 simp [ag, underlying28, h2]
theorem Om : ag prog H 28 (.ptr β o) 2 = if (H β).isSome = true then some (.ptr β (o + 2)) else none := by
 have h2 : szT prog 25 = some 2 := by kernel_rfl
 simp [ag, underlying28, h2]
theorem On : ag prog H 28 (.ptr β o) 3 = if (H β).isSome = true then some (.ptr β (o + 4)) else none := by
 have h2 : szT prog 25 = some 2 := by kernel_rfl
 simp [ag, underlying28, h2]
theorem Oo : ag prog H 28 (.ptr β o) 4 = if (H β).isSome = true then some (.ptr β (o + 6)) else none := by
 have h2 : szT prog 3 = some 1 := by kernel_rfl
 simp [ag, underlying28, h2]
theorem Oq : ag prog H 28 (.ptr β o) 5 = if (H β).isSome = true then some (.ptr β (o + 7)) else none := by
 have h2 : szT prog 26 = some 1 := by kernel_rfl
 simp [ag, underlying28, h2]
theorem Ot : ag prog H 28 (.ptr β o) 6 = if (H β).isSome = true then some (.ptr β (o + 8)) else none := by
 have h2 : szT prog 3 = some 1 := by kernel_rfl
 simp [ag, underlying28, h2]
theorem Ou : ag prog H 28 (.tp cs) 7 = some (.tp (cs.drop 9)) := by
 have h2 : szT prog 3 = some 1 := by kernel_rfl
 simp [ag, underlying28, h2]
theorem Ov : ag prog H 28 (.ptr β o) 7 = if (H β).isSome = true then some (.ptr β (o + 9)) else none := by
 have h2 : szT prog 3 = some 1 := by kernel_rfl
 simp [ag, underlying28, h2]
theorem Ow : aS prog 29 (c :: cs) = some c := by
 have h1 : aggT prog 29 = some false := by kernel_rfl
 simp [aS, vpart, h1]
theorem Ox : szT prog 29 = some 1 := by kernel_rfl
theorem BG : vzl prog 29 = some [.lit (.slice none 0 0)] := by kernel_rfl
theorem BH : vlen prog H 29 (.sl cs n f) = some (.lit (.int .i64 n)) := by simp [vlen, underlying29, sls]
theorem lenN29 : vlen prog H 29 (.lit (.slice none 0 0)) = some (.lit (.int .i64 0)) := by simp [vlen, underlying29, sls]
theorem lenR29 {c : Nat} : vlen prog H 29 (.ref β off n w c) = (match H β with | some (.cells _ cs) => if off ≤ cs.length then some (.lit (.int .i64 n)) else none | _ => none) := lenR underlying29
theorem md : elemT prog 29 = some 100 := by simp [elemT, underlying29]
theorem iS : appOk prog 29 = some (100, 2, 16) := by kernel_rfl
theorem Oy {xs : List GLe} : (ad cGLe xs).take (xs.length * 2) = ad cGLe xs := td (fun _ => rfl)
theorem iR : ∀ x : GLe, leafL (cGLe x) = true := fun x => by simp only [eI_eq, pq, eB_eq, eS_eq, pr, B4, iI, iJ, B7, B8, B9, BA, BB, Bool.and_self]
theorem Oz (h : leafL [c0, c1] = true) : aC prog 29 1 [(0, .agg [c0, c1])] = some ([c0, c1], 2) := by
 have h2 : szT prog 100 = some 2 := by kernel_rfl
 have h3 : vzero prog 100 = some #[.int .i64 0, .int .i64 0] := by kernel_rfl
 simp only [iJ, iI, Bool.and_true, Bool.and_eq_true] at h
 simp [aC, underlying29, h2, h3, vfill, bc, h, overwrite, vzeros]
theorem bS {xs : List GLe} {x : GLe} (h : getI xs i = some x) : aJ prog H 29 (.sl (ad cGLe xs) xs.length f) (.lit (.int k i)) = some (.tp (cGLe x ++ ad cGLe (xs.drop (i.toNat + 1)))) :=
 ixG underlying29 (by kernel_rfl : szT prog 100 = some 2) (by decide) (fun _ => rfl) h
theorem O0 : aS prog 31 (c0 :: c1 :: cs) = some (.agg [c0, c1]) := by
 have h1 : aggT prog 31 = some true := by kernel_rfl
 have h2 : szT prog 31 = some 2 := by kernel_rfl
 simp [aS, vpart, h1, h2]
theorem O1 : szT prog 31 = some 2 := by kernel_rfl
theorem pv : vzl prog 31 = some [.lit (.slice none 0 0), .lit (.slice none 0 0)] := by kernel_rfl
theorem O2 : ag prog H 31 (.ptr β o) 0 = if (H β).isSome = true then some (.ptr β (o + 0)) else none := by
 have h2 : szT prog 22 = some 1 := by kernel_rfl
 simp [ag, underlying31, h2]
theorem O3 : ag prog H 31 (.ptr β o) 1 = if (H β).isSome = true then some (.ptr β (o + 1)) else none := by
 have h2 : szT prog 29 = some 1 := by kernel_rfl
 simp [ag, underlying31, h2]
theorem BI : vlen prog H 44 (.sl cs n f) = some (.lit (.int .i64 n)) := by simp [vlen, underlying44, sls]
theorem lenN44 : vlen prog H 44 (.lit (.slice none 0 0)) = some (.lit (.int .i64 0)) := by simp [vlen, underlying44, sls]
theorem lenR44 {c : Nat} : vlen prog H 44 (.ref β off n w c) = (match H β with | some (.cells _ cs) => if off ≤ cs.length then some (.lit (.int .i64 n)) else none | _ => none) := lenR underlying44
theorem BJ : vlen prog H 47 (.sl cs n f) = some (.lit (.int .i64 n)) := by simp [vlen, underlying47, sls]
theorem lenN47 : vlen prog H 47 (.lit (.slice none 0 0)) = some (.lit (.int .i64 0)) := by simp [vlen, underlying47, sls]
theorem lenR47 {c : Nat} : vlen prog H 47 (.ref β off n w c) = (match H β with | some (.cells _ cs) => if off ≤ cs.length then some (.lit (.int .i64 n)) else none | _ => none) := lenR underlying47
theorem O4 : elemT prog 47 = some 49 := by simp [elemT, underlying47]
theorem O5 {xs : List (List Grl)} : (ad (eSl cGrl) xs).take (xs.length * 1) = ad (eSl cGrl) xs := td (fun _ => rfl)
theorem O6 (h : leafL [a0] = true) : aC prog 47 1 [(0, a0)] = some ([a0], 1) := by
 have h2 : szT prog 49 = some 1 := by kernel_rfl
 have h3 : vzero prog 49 = some #[.slice none 0 0] := by kernel_rfl
 simp only [iJ, iI, Bool.and_true, Bool.and_eq_true] at h
 simp [aC, underlying47, h2, h3, vfill, vcells1, h, overwrite, vzeros, List.range_succ]
theorem O7 : aS prog 49 (c :: cs) = some c := by
 have h1 : aggT prog 49 = some false := by kernel_rfl
 simp [aS, vpart, h1]
theorem BK : vlen prog H 49 (.sl cs n f) = some (.lit (.int .i64 n)) := by simp [vlen, underlying49, sls]
theorem lenN49 : vlen prog H 49 (.lit (.slice none 0 0)) = some (.lit (.int .i64 0)) := by simp [vlen, underlying49, sls]
theorem lenR49 {c : Nat} : vlen prog H 49 (.ref β off n w c) = (match H β with | some (.cells _ cs) => if off ≤ cs.length then some (.lit (.int .i64 n)) else none | _ => none) := lenR underlying49
theorem O8 : elemT prog 49 = some 51 := by simp [elemT, underlying49]
theorem O9 {xs : List Grl} : (ad cGrl xs).take (xs.length * 2) = ad cGrl xs := td (fun _ => rfl)
theorem OA (h : leafL [c0, c1] = true) : aC prog 49 1 [(0, .agg [c0, c1])] = some ([c0, c1], 2) := by
 have h2 : szT prog 51 = some 2 := by kernel_rfl
 have h3 : vzero prog 51 = some #[.int .i64 0, .int .i64 0] := by kernel_rfl
 simp only [iJ, iI, Bool.and_true, Bool.and_eq_true] at h
 simp [aC, underlying49, h2, h3, vfill, bc, h, overwrite, vzeros]
theorem OB : aS prog 51 (c0 :: c1 :: cs) = some (.agg [c0, c1]) := by
 have h1 : aggT prog 51 = some true := by kernel_rfl
 have h2 : szT prog 51 = some 2 := by kernel_rfl
 simp [aS, vpart, h1, h2]
theorem BL : vzl prog 51 = some [.lit (.int .i64 0), .lit (.int .i64 0)] := by kernel_rfl
theorem OC : ag prog H 51 (.ptr β o) 0 = if (H β).isSome = true then some (.ptr β (o + 0)) else none := by
 have h2 : szT prog 3 = some 1 := by kernel_rfl
 simp [ag, underlying51, h2]
theorem OD : ag prog H 51 (.ptr β o) 1 = if (H β).isSome = true then some (.ptr β (o + 1)) else none := by
 have h2 : szT prog 3 = some 1 := by kernel_rfl
 simp [ag, underlying51, h2]
theorem OE : aS prog 79 (c0 :: c1 :: c2 :: cs) = some (.agg [c0, c1, c2]) := by
 have h1 : aggT prog 79 = some true := by kernel_rfl
 have h2 : szT prog 79 = some 3 := by kernel_rfl
 simp [aS, vpart, h1, h2]
theorem OF : szT prog 79 = some 3 := by kernel_rfl
theorem tu : vzl prog 79 = some [.lit (.slice none 0 0), .lit (.slice none 0 0), .lit (.bool false)] := by kernel_rfl
theorem OG : ag prog H 79 (.tp cs) 0 = some (.tp (cs.drop 0)) := by
 have h2 : szT prog 22 = some 1 := by kernel_rfl
 simp [ag, underlying79, h2]
theorem OH : ag prog H 79 (.ptr β o) 0 = if (H β).isSome = true then some (.ptr β (o + 0)) else none := by
 have h2 : szT prog 22 = some 1 := by kernel_rfl
 simp [ag, underlying79, h2]
theorem OI : ag prog H 79 (.tp cs) 1 = some (.tp (cs.drop 1)) := by
 have h2 : szT prog 22 = some 1 := by kernel_rfl
 simp [ag, underlying79, h2]
theorem OJ : ag prog H 79 (.ptr β o) 1 = if (H β).isSome = true then some (.ptr β (o + 1)) else none := by
 have h2 : szT prog 22 = some 1 := by kernel_rfl
 simp [ag, underlying79, h2]
theorem OK : ag prog H 79 (.tp cs) 2 = some (.tp (cs.drop 2)) := by
 have h2 : szT prog 4 = some 1 := by kernel_rfl
 simp [ag, underlying79, h2]
theorem OL : ag prog H 79 (.ptr β o) 2 = if (H β).isSome = true then some (.ptr β (o + 2)) else none := by
 have h2 : szT prog 4 = some 1 := by kernel_rfl
 simp [ag, underlying79, h2]
theorem OM : aS prog 91 (c :: cs) = some c := by
 have h1 : aggT prog 91 = some false := by kernel_rfl
 simp [aS, vpart, h1]
theorem ON : szT prog 91 = some 1 := by kernel_rfl
theorem BM : vlen prog H 91 (.sl cs n f) = some (.lit (.int .i64 n)) := by simp [vlen, underlying91, sls]
theorem lenN91 : vlen prog H 91 (.lit (.slice none 0 0)) = some (.lit (.int .i64 0)) := by simp [vlen, underlying91, sls]
theorem lenR91 {c : Nat} : vlen prog H 91 (.ref β off n w c) = (match H β with | some (.cells _ cs) => if off ≤ cs.length then some (.lit (.int .i64 n)) else none | _ => none) := lenR underlying91
theorem lQ : elemT prog 91 = some 144 := by simp [elemT, underlying91]
theorem qT : appOk prog 91 = some (144, 4, 32) := by kernel_rfl
theorem OO {xs : List Glm} : (ad cGlm xs).take (xs.length * 4) = ad cGlm xs := td (fun _ => rfl)
theorem qS : ∀ x : Glm, leafL (cGlm x) = true := fun x => by simp only [eI_eq, pq, eB_eq, eS_eq, pr, B5, iI, iJ, B7, B8, B9, BA, BB, Bool.and_self]
theorem OP (h : leafL [c0, c1, c2, c3] = true) : aC prog 91 1 [(0, .agg [c0, c1, c2, c3])] = some ([c0, c1, c2, c3], 4) := by
 have h2 : szT prog 144 = some 4 := by kernel_rfl
 have h3 : vzero prog 144 = some #[.int .i64 0, .int .i64 0, .int .i64 0, .bool false] := by kernel_rfl
 simp only [iJ, iI, Bool.and_true, Bool.and_eq_true] at h
 simp [aC, underlying91, h2, h3, vfill, bc, h, overwrite, vzeros]
theorem bx {xs : List Glm} {x : Glm} (h : getI xs i = some x) : aJ prog H 91 (.sl (ad cGlm xs) xs.length f) (.lit (.int k i)) = some (.tp (cGlm x ++ ad cGlm (xs.drop (i.toNat + 1)))) :=
 ixG underlying91 (by kernel_rfl : szT prog 144 = some 4) (by decide) (fun _ => rfl) h
theorem OQ {c4 c5 c6 c7 c8 c9 Uz C6 U0 U1 U2 : VV} : aS prog 93 (c0 :: c1 :: c2 :: c3 :: c4 :: c5 :: c6 :: c7 :: c8 :: c9 :: Uz :: C6 :: U0 :: U1 :: U2 :: cs) = some (.agg [c0, c1, c2, c3, c4, c5, c6, c7, c8, c9, Uz, C6, U0, U1, U2]) := by
 have h1 : aggT prog 93 = some true := by kernel_rfl
 have h2 : szT prog 93 = some 15 := by kernel_rfl
 simp [aS, vpart, h1, h2]
theorem OR : szT prog 93 = some 15 := by kernel_rfl
theorem pw : vzl prog 93 = some [.lit (.slice none 0 0), .lit (.slice none 0 0), .lit (.int .i64 0), .lit (.int .i64 0), .lit (.int .i64 0), .lit (.int .i64 0), .lit (.int .i64 0), .lit (.slice none 0 0), .lit (.int .i64 0), .lit (.int .i64 0), .lit (.slice none 0 0), .lit (.slice none 0 0), .lit (.int .i64 0), .lit (.map none), .lit (.slice none 0 0)] := by kernel_rfl
theorem OS : ag prog H 93 (.ptr β o) 0 = if (H β).isSome = true then some (.ptr β (o + 0)) else none := by
 have h2 : szT prog 28 = some 10 := by kernel_rfl
 simp [ag, underlying93, h2]
theorem OT : ag prog H 93 (.ptr β o) 1 = if (H β).isSome = true then some (.ptr β (o + 10)) else none := by
 have h2 : szT prog 31 = some 2 := by kernel_rfl
 simp [ag, underlying93, h2]
theorem OU : ag prog H 93 (.ptr β o) 2 = if (H β).isSome = true then some (.ptr β (o + 12)) else none := by
 have h2 : szT prog 3 = some 1 := by kernel_rfl
 simp [ag, underlying93, h2]
theorem OV : ag prog H 93 (.ptr β o) 3 = if (H β).isSome = true then some (.ptr β (o + 13)) else none := by
 have h2 : szT prog 90 = some 1 := by kernel_rfl
 simp [ag, underlying93, h2]
theorem OW : ag prog H 93 (.ptr β o) 4 = if (H β).isSome = true then some (.ptr β (o + 14)) else none := by
 have h2 : szT prog 91 = some 1 := by kernel_rfl
 simp [ag, underlying93, h2]
theorem BN : aS prog 100 (c0 :: c1 :: cs) = some (.agg [c0, c1]) := by
 have h1 : aggT prog 100 = some true := by kernel_rfl
 have h2 : szT prog 100 = some 2 := by kernel_rfl
 simp [aS, vpart, h1, h2]
theorem BO : szT prog 100 = some 2 := by kernel_rfl
theorem px : vzl prog 100 = some [.lit (.int .i64 0), .lit (.int .i64 0)] := by kernel_rfl
theorem OX : ag prog H 100 (.ptr β o) 0 = if (H β).isSome = true then some (.ptr β (o + 0)) else none := by
 have h2 : szT prog 3 = some 1 := by kernel_rfl
 simp [ag, underlying100, h2]
theorem OY : ag prog H 100 (.ptr β o) 1 = if (H β).isSome = true then some (.ptr β (o + 1)) else none := by
 have h2 : szT prog 3 = some 1 := by kernel_rfl
 simp [ag, underlying100, h2]
theorem BP : aS prog 108 (c0 :: c1 :: c2 :: c3 :: cs) = some (.agg [c0, c1, c2, c3]) := by
 have h1 : aggT prog 108 = some true := by kernel_rfl
 have h2 : szT prog 108 = some 4 := by kernel_rfl
 simp [aS, vpart, h1, h2]
theorem BQ : szT prog 108 = some 4 := by kernel_rfl
theorem vS : vzl prog 108 = some [.lit (.int .i64 0), .lit (.int .i64 0), .lit (.int .i64 0), .lit (.int .i64 0)] := by kernel_rfl
theorem OZ : ag prog H 108 (.tp cs) 0 = some (.tp (cs.drop 0)) := by
 have h2 : szT prog 3 = some 1 := by kernel_rfl
 simp [ag, underlying108, h2]
theorem Pa : ag prog H 108 (.ptr β o) 0 = if (H β).isSome = true then some (.ptr β (o + 0)) else none := by
 have h2 : szT prog 3 = some 1 := by kernel_rfl
 simp [ag, underlying108, h2]
theorem Pb : ag prog H 108 (.tp cs) 1 = some (.tp (cs.drop 1)) := by
 have h2 : szT prog 3 = some 1 := by kernel_rfl
 simp [ag, underlying108, h2]
theorem Pc : ag prog H 108 (.ptr β o) 1 = if (H β).isSome = true then some (.ptr β (o + 1)) else none := by
 have h2 : szT prog 3 = some 1 := by kernel_rfl
 simp [ag, underlying108, h2]
theorem Pd : ag prog H 108 (.tp cs) 2 = some (.tp (cs.drop 2)) := by
 have h2 : szT prog 25 = some 2 := by kernel_rfl
 simp [ag, underlying108, h2]
theorem Pe : ag prog H 108 (.ptr β o) 2 = if (H β).isSome = true then some (.ptr β (o + 2)) else none := by
 have h2 : szT prog 25 = some 2 := by kernel_rfl
 simp [ag, underlying108, h2]
theorem vT : vlen prog H 117 (.sl cs n f) = some (.lit (.int .i64 n)) := by simp [vlen, underlying117, sls]
theorem lenN117 : vlen prog H 117 (.lit (.slice none 0 0)) = some (.lit (.int .i64 0)) := by simp [vlen, underlying117, sls]
theorem lenR117 {c : Nat} : vlen prog H 117 (.ref β off n w c) = (match H β with | some (.cells _ cs) => if off ≤ cs.length then some (.lit (.int .i64 n)) else none | _ => none) := lenR underlying117
theorem BR : elemT prog 117 = some 31 := by simp [elemT, underlying117]
theorem BS {xs : List GLx} : (ad cGLx xs).take (xs.length * 2) = ad cGLx xs := td (fun _ => rfl)
theorem Pf (h : leafL [c0, c1] = true) : aC prog 117 1 [(0, .agg [c0, c1])] = some ([c0, c1], 2) := by
 have h2 : szT prog 31 = some 2 := by kernel_rfl
 have h3 : vzero prog 31 = some #[.slice none 0 0, .slice none 0 0] := by kernel_rfl
 simp only [iJ, iI, Bool.and_true, Bool.and_eq_true] at h
 simp [aC, underlying117, h2, h3, vfill, bc, h, overwrite, vzeros]
theorem vU : vzl prog 142 = some [.lit (.int .i64 0), .lit (.int .i64 0)] := by kernel_rfl
theorem BT : aS prog 144 (c0 :: c1 :: c2 :: c3 :: cs) = some (.agg [c0, c1, c2, c3]) := by
 have h1 : aggT prog 144 = some true := by kernel_rfl
 have h2 : szT prog 144 = some 4 := by kernel_rfl
 simp [aS, vpart, h1, h2]
theorem BU : szT prog 144 = some 4 := by kernel_rfl
theorem py : vzl prog 144 = some [.lit (.int .i64 0), .lit (.int .i64 0), .lit (.int .i64 0), .lit (.bool false)] := by kernel_rfl
theorem Pg : ag prog H 144 (.ptr β o) 0 = if (H β).isSome = true then some (.ptr β (o + 0)) else none := by
 have h2 : szT prog 3 = some 1 := by kernel_rfl
 simp [ag, underlying144, h2]
theorem Ph : ag prog H 144 (.ptr β o) 1 = if (H β).isSome = true then some (.ptr β (o + 1)) else none := by
 have h2 : szT prog 3 = some 1 := by kernel_rfl
 simp [ag, underlying144, h2]
theorem Pj : ag prog H 144 (.ptr β o) 2 = if (H β).isSome = true then some (.ptr β (o + 2)) else none := by
 have h2 : szT prog 3 = some 1 := by kernel_rfl
 simp [ag, underlying144, h2]
theorem Pk : ag prog H 144 (.ptr β o) 3 = if (H β).isSome = true then some (.ptr β (o + 3)) else none := by
 have h2 : szT prog 4 = some 1 := by kernel_rfl
 simp [ag, underlying144, h2]
theorem vV : vlen prog H 158 (.sl cs n f) = some (.lit (.int .i64 n)) := by simp [vlen, underlying158, sls]
theorem lenN158 : vlen prog H 158 (.lit (.slice none 0 0)) = some (.lit (.int .i64 0)) := by simp [vlen, underlying158, sls]
theorem lenR158 {c : Nat} : vlen prog H 158 (.ref β off n w c) = (match H β with | some (.cells _ cs) => if off ≤ cs.length then some (.lit (.int .i64 n)) else none | _ => none) := lenR underlying158
theorem BV : elemT prog 158 = some 29 := by simp [elemT, underlying158]
theorem BW {xs : List (List GLe)} : (ad (eSl cGLe) xs).take (xs.length * 1) = ad (eSl cGLe) xs := td (fun _ => rfl)
theorem Pl (h : leafL [a0] = true) : aC prog 158 1 [(0, a0)] = some ([a0], 1) := by
 have h2 : szT prog 29 = some 1 := by kernel_rfl
 have h3 : vzero prog 29 = some #[.slice none 0 0] := by kernel_rfl
 simp only [iJ, iI, Bool.and_true, Bool.and_eq_true] at h
 simp [aC, underlying158, h2, h3, vfill, vcells1, h, overwrite, vzeros, List.range_succ]
theorem Pm : aS prog 33 (c :: cs) = some c := by
 have h1 : aggT prog 33 = some false := by kernel_rfl
 simp [aS, vpart, h1]
theorem Pn : aS prog 64 (c :: cs) = some c := by
 have h1 : aggT prog 64 = some false := by kernel_rfl
 simp [aS, vpart, h1]
theorem BX : aS prog 116 (c :: cs) = some c := by
 have h1 : aggT prog 116 = some false := by kernel_rfl
 simp [aS, vpart, h1]
theorem BY : aS prog 152 (c :: cs) = some c := by
 have h1 : aggT prog 152 = some false := by kernel_rfl
 simp [aS, vpart, h1]
theorem BZ : szT prog 155 = some 1 := by kernel_rfl
theorem Ca : aS prog 155 (c :: cs) = some c := by
 have h1 : aggT prog 155 = some false := by kernel_rfl
 simp [aS, vpart, h1]
theorem vW : vzl prog 155 = some [.lit .nilFunc] := by kernel_rfl
theorem Cb : aS prog 178 (c :: cs) = some c := by
 have h1 : aggT prog 178 = some false := by kernel_rfl
 simp [aS, vpart, h1]
theorem Cc : szT prog 180 = some 2 := by kernel_rfl
theorem pz : vzl prog 180 = some [.lit .nilFunc, .lit .nilFunc] := by kernel_rfl
theorem Po : aJ prog H 180 (.ptr β o) (.lit (.int k 0)) = if (H β).isSome = true then some (.ptr β (o + 0)) else none := by
 have h2 : szT prog 178 = some 1 := by kernel_rfl
 simp [aJ, underlying180, h2]
theorem Pp : vbuild prog 31 [] = some (.agg [.lit (.slice none 0 0), .lit (.slice none 0 0)]) := by
 rw [qK pv (by kernel_rfl)]
 rfl
variable {cE da : VV}
theorem Pq (h : leafL [cE, da] = true) : vbuild prog 31 [(0, cE), (1, da)] = some (.agg [cE, da]) := by
 have p0 : placeT prog 31 0 = some (0, 1) := by kernel_rfl
 have p1 : placeT prog 31 1 = some (1, 1) := by kernel_rfl
 simp only [iJ, iI, Bool.and_true, Bool.and_eq_true] at h
 rw [qK pv (by kernel_rfl)]
 simp [vfill, p0, p1, vcells1, h, overwrite]
theorem Pr (h : leafL [cE, da] = true) : vbuild prog 51 [(0, cE), (1, da)] = some (.agg [cE, da]) := by
 have p0 : placeT prog 51 0 = some (0, 1) := by kernel_rfl
 have p1 : placeT prog 51 1 = some (1, 1) := by kernel_rfl
 simp only [iJ, iI, Bool.and_true, Bool.and_eq_true] at h
 rw [qK BL (by kernel_rfl)]
 simp [vfill, p0, p1, vcells1, h, overwrite]
variable {jd : VV}
theorem Ps (h : leafL [cE, jd] = true) : vbuild prog 79 [(0, cE), (2, jd)] = some (.agg [cE, .lit (.slice none 0 0), jd]) := by
 have p0 : placeT prog 79 0 = some (0, 1) := by kernel_rfl
 have p2 : placeT prog 79 2 = some (2, 1) := by kernel_rfl
 simp only [iJ, iI, Bool.and_true, Bool.and_eq_true] at h
 rw [qK tu (by kernel_rfl)]
 simp [vfill, p0, p2, vcells1, h, overwrite]
theorem Pt : vbuild prog 93 [] = some (.agg [.lit (.slice none 0 0), .lit (.slice none 0 0), .lit (.int .i64 0), .lit (.int .i64 0), .lit (.int .i64 0), .lit (.int .i64 0), .lit (.int .i64 0), .lit (.slice none 0 0), .lit (.int .i64 0), .lit (.int .i64 0), .lit (.slice none 0 0), .lit (.slice none 0 0), .lit (.int .i64 0), .lit (.map none), .lit (.slice none 0 0)]) := by
 rw [qK pw (by kernel_rfl)]
 rfl
theorem Zp {p8 pE pF pG pH pI pJ pK pL pM mi : VV} (h : leafL [cE, p8, pE, pF, pG, pH, pI, pJ, pK, pL, da, pM, jd, mi] = true) : vbuild prog 93 [(0, .agg [cE, p8, pE, pF, pG, pH, pI, pJ, pK, pL]), (1, .agg [da, pM]), (2, jd), (3, mi)] = some (.agg [cE, p8, pE, pF, pG, pH, pI, pJ, pK, pL, da, pM, jd, mi, .lit (.slice none 0 0)]) := by
 have p0 : placeT prog 93 0 = some (0, 10) := by kernel_rfl
 have p1 : placeT prog 93 1 = some (10, 2) := by kernel_rfl
 have p2 : placeT prog 93 2 = some (12, 1) := by kernel_rfl
 have p3 : placeT prog 93 3 = some (13, 1) := by kernel_rfl
 simp only [iJ, iI, Bool.and_true, Bool.and_eq_true] at h
 have q0 : bc (.agg [cE, p8, pE, pF, pG, pH, pI, pJ, pK, pL]) = some [cE, p8, pE, pF, pG, pH, pI, pJ, pK, pL] := by rw [Pu]; simp [iJ, iI, h]
 have q1 : bc (.agg [da, pM]) = some [da, pM] := by rw [Pu]; simp [iJ, iI, h]
 rw [qK pw (by kernel_rfl)]
 simp [vfill, p0, p1, p2, p3, vcells1, h, overwrite, q0, q1]
theorem Pv (h : leafL [cE, da] = true) : vbuild prog 100 [(0, cE), (1, da)] = some (.agg [cE, da]) := by
 have p0 : placeT prog 100 0 = some (0, 1) := by kernel_rfl
 have p1 : placeT prog 100 1 = some (1, 1) := by kernel_rfl
 simp only [iJ, iI, Bool.and_true, Bool.and_eq_true] at h
 rw [qK px (by kernel_rfl)]
 simp [vfill, p0, p1, vcells1, h, overwrite]
theorem Pw (h : leafL [cE, da] = true) : vbuild prog 142 [(0, cE), (1, da)] = some (.agg [cE, da]) := by
 have p0 : placeT prog 142 0 = some (0, 1) := by kernel_rfl
 have p1 : placeT prog 142 1 = some (1, 1) := by kernel_rfl
 simp only [iJ, iI, Bool.and_true, Bool.and_eq_true] at h
 rw [qK vU (by kernel_rfl)]
 simp [vfill, p0, p1, vcells1, h, overwrite]
theorem Zq {mi : VV} (h : leafL [cE, da, jd, mi] = true) : vbuild prog 144 [(0, cE), (1, da), (2, jd), (3, mi)] = some (.agg [cE, da, jd, mi]) := by
 have p0 : placeT prog 144 0 = some (0, 1) := by kernel_rfl
 have p1 : placeT prog 144 1 = some (1, 1) := by kernel_rfl
 have p2 : placeT prog 144 2 = some (2, 1) := by kernel_rfl
 have p3 : placeT prog 144 3 = some (3, 1) := by kernel_rfl
 simp only [iJ, iI, Bool.and_true, Bool.and_eq_true] at h
 rw [qK py (by kernel_rfl)]
 simp [vfill, p0, p1, p2, p3, vcells1, h, overwrite]
theorem Cd : vbuild prog 149 [] = some (.agg []) := by kernel_rfl
theorem Ce : szT prog 149 = some 0 := by kernel_rfl
theorem vX : vzl prog 149 = some [] := by kernel_rfl
theorem Px (h : leafL [cE, da] = true) : vbuild prog 180 [(0, cE), (1, da)] = some (.agg [cE, da]) := by
 have p0 : placeT prog 180 0 = some (0, 1) := by kernel_rfl
 have p1 : placeT prog 180 1 = some (1, 1) := by kernel_rfl
 simp only [iJ, iI, Bool.and_true, Bool.and_eq_true] at h
 rw [qK pz (by kernel_rfl)]
 simp [vfill, p0, p1, vcells1, h, overwrite]
theorem Zr {x : VV} : mkIfcV prog 9 x = some (.ifc 9 x) := by simp [mkIfcV, underlying9]
theorem Cf {x : VV} : mkIfcV prog 149 x = some (.ifc 149 x) := by simp [mkIfcV, underlying149]
theorem tv : ((prog.info? 149).bind (·.zero)).map (fun z => VV.tup [ofVal2 z, .lit (.bool false)]) = some (.tup [.agg [], .lit (.bool false)]) := by kernel_rfl
theorem Cg : vtypeAssert prog (.lit .nilIface) 149 true = some (.tup [.agg [], .lit (.bool false)]) := by
 simp only [vtypeAssert, underlying149, if_true]
 exact tv
theorem Py {x : VV} : vtypeAssert prog (.ifc 9 x) 149 true = some (.tup [.agg [], .lit (.bool false)]) := by
 simp only [vtypeAssert, underlying149, if_true]
 rw [if_neg (by decide)]
 exact tv
theorem Ch {x : VV} : vtypeAssert prog (.ifc 149 x) 149 true = some (.tup [x, .lit (.bool true)]) := by
 simp [vtypeAssert, underlying149]
variable {x y : Operand}
theorem Zs {a b : Bool} : binV prog H .eql 4 x y (.lit (.bool a)) (.lit (.bool b)) = some (.lit (.bool (a == b))) := Ni underlying4
theorem Zt {a b : Bool} : binV prog H .neq 4 x y (.lit (.bool a)) (.lit (.bool b)) = some (.lit (.bool (a != b))) := Nj underlying4
theorem Ci {a0 b0 : Int} {a1 b1 : Int} : binV prog H .eql 100 x y (.agg [.lit (.int .i64 a0), .lit (.int .i64 a1)]) (.agg [.lit (.int .i64 b0), .lit (.int .i64 b1)]) = some (.lit (.bool (a0 == b0 && (a1 == b1)))) ∧ binV prog H .neq 100 x y (.agg [.lit (.int .i64 a0), .lit (.int .i64 a1)]) (.agg [.lit (.int .i64 b0), .lit (.int .i64 b1)]) = some (.lit (.bool (!(a0 == b0 && (a1 == b1))))) := by
 refine binS (xs := [.int .i64 a0, .int .i64 a1]) (ys := [.int .i64 b0, .int .i64 b1]) (by simp [VV.val?, valL?]) (by simp [VV.val?, valL?]) underlying100 (by kernel_rfl) (by kernel_rfl) ?_
 simp [eqF, po, eq1, underlying3]
theorem Cj {a0 b0 : Int} {a1 b1 : Int} : binV prog H .eql 100 x y (.agg [.lit (.int .i64 a0), .lit (.int .i64 a1)]) (.agg [.lit (.int .i64 b0), .lit (.int .i64 b1)]) = some (.lit (.bool (a0 == b0 && (a1 == b1)))) := Ci.1
theorem Pz : (VV.lit Value.nilFunc).leaf = true := rfl
theorem P0 : (VV.lit Value.nilIface).leaf = true := rfl
def tyf := (qZj (qZj (qZj (qZj (qZj (qZj (qZj @vQ @B2) (qZj @xC (qZj @B3 @B4))) (qZj (qZj @DV (qZj @DW @B5)) (qZj @DX (qZj @yI @Zl)))) (qZj (qZj (qZj @Zm (qZj @NR @Zn)) (qZj @Zo (qZj @NT @NU))) (qZj (qZj @NV (qZj @B6 @lenN22)) (qZj @lenR22 (qZj @bI @NW))))) (qZj (qZj (qZj (qZj @NX @NY) (qZj @NZ (qZj @BC @lenN23))) (qZj (qZj @lenR23 (qZj @Oa @Ob)) (qZj @BD (qZj @Oc @Od)))) (qZj (qZj (qZj @Oe (qZj @Of @BE)) (qZj @lenN26 (qZj @lenR26 @rS))) (qZj (qZj @Og (qZj @Oh @Oi)) (qZj @Oj (qZj @BF @Ok)))))) (qZj (qZj (qZj (qZj (qZj @Ol @Om) (qZj @On (qZj @Oo @Oq))) (qZj (qZj @Ot (qZj @Ou @Ov)) (qZj @Ow (qZj @Ox @BG)))) (qZj (qZj (qZj @BH (qZj @lenN29 @lenR29)) (qZj @md (qZj @Oy @Oz))) (qZj (qZj @O0 (qZj @O1 @pv)) (qZj @O2 (qZj @O3 @BI))))) (qZj (qZj (qZj (qZj @lenN44 @lenR44) (qZj @BJ (qZj @lenN47 @lenR47))) (qZj (qZj @O4 (qZj @O5 @O6)) (qZj @O7 (qZj @BK @lenN49)))) (qZj (qZj (qZj @lenR49 (qZj @O8 @O9)) (qZj @OA (qZj @OB @OC))) (qZj (qZj @OD (qZj @OE @OF)) (qZj @tu (qZj @OG @OH))))))) (qZj (qZj (qZj (qZj (qZj (qZj @OI @OJ) (qZj @OK (qZj @OL @OM))) (qZj (qZj @ON (qZj @BM @lenN91)) (qZj @lenR91 (qZj @lQ @OO)))) (qZj (qZj (qZj @OP (qZj @OQ @OR)) (qZj @pw (qZj @OS @OT))) (qZj (qZj @OU (qZj @OV @OW)) (qZj @BN (qZj @BO @px))))) (qZj (qZj (qZj (qZj @OX @OY) (qZj @BP (qZj @BQ @vS))) (qZj (qZj @OZ (qZj @Pa @Pb)) (qZj @Pc (qZj @Pd @Pe)))) (qZj (qZj (qZj @vT (qZj @lenN117 @lenR117)) (qZj @BR (qZj @BS @Pf))) (qZj (qZj @BT (qZj @BU @py)) (qZj @Pg (qZj @Ph @Pj)))))) (qZj (qZj (qZj (qZj (qZj @Pk @vV) (qZj @lenN158 (qZj @lenR158 @BV))) (qZj (qZj @BW (qZj @Pl @Pm)) (qZj @Pn (qZj @BX @BY)))) (qZj (qZj (qZj @BZ (qZj @Ca @vW)) (qZj @Cb (qZj @Cc @pz))) (qZj (qZj @Po (qZj @Pp @Pq)) (qZj @Pr (qZj @Ps @Pt))))) (qZj (qZj (qZj (qZj @Zp (qZj @Pv @Pw)) (qZj @Zq (qZj @Cd @Ce))) (qZj (qZj @vX (qZj @Px @Zr)) (qZj @Cf (qZj @Cg @Py)))) (qZj (qZj (qZj @Ch (qZj @Zs @Zt)) (qZj @Cj (qZj @Pz @P0))) (qZj (qZj @Nk (qZj @eI_eq @pq)) (qZj @eB_eq (qZj @eS_eq @pr))))))))
def aq := (qZj (qZj (qZj (qZj @dh.shown @dA.normL) (qZj @dV.normL (qZj @dV.showL @ez.normL))) (qZj (qZj @ez.showL @gB.normL) (qZj @gB.showL (qZj @iH.normL @iH.showL)))) (qZj (qZj (qZj @lf.normL @lf.showL) (qZj @Dv (qZj @Ag @NP.norm))) (qZj (qZj @NP.shown @vR.normL) (qZj @vR.showL (qZj @NQ.normL @NQ.showL)))))
def an := (qZj (qZj (qZj @dA.treeL @dV.treeL) (qZj @ez.treeL (qZj @gB.tree @gB.treeL))) (qZj (qZj @iH.treeL (qZj @lf.treeL @oZ)) (qZj @NP.tree (qZj @vR.treeL @NQ.treeL))))
end Go.V
namespace Go.V
open Go Go.Proofs IntKind Tryz
variable {P : Program} {d : Option Tmp} {tm : Nat → VV} {H : Nat → Option Vo} {df : List VDef} {f : FuncId} {args args0 : List VV}
theorem ktA {G : Gb} {γ : Nat} {nx : Nat} {K : St → Prop} {Qp : VV → St → Prop} {x : VV} (hp : ah P G f args0 (.tree x)) (h : fin d γ tm H nx df K x .none) (hn : normL args = args0 := by first | (simp only [nrm, aq] <;> rfl) | rfl) (ht : tl args = true := by simp only [tre, an, Bool.and_self]) : callK P G f args ⟨tm, H, nx, df⟩ d γ K Qp := ktree hn ht hp h
theorem dktA {G : Gb} {γ : Nat} {nx : Nat} {K : List Nat → List Nat → St → Prop} {x : VV} (hp : ah P G f args0 (.tree x)) (h : fin d γ tm H nx df (K [] []) x .none) (hn : normL args = args0 := by first | (simp only [nrm, aq] <;> rfl) | rfl) (ht : tl args = true := by simp only [tre, an, Bool.and_self]) : dcallK P G f args tm H nx df d γ K := dktree hn ht hp h
theorem optI {α β : Type} {K : Option β → Prop} {X : Option α} {F : α → Option β} (h : K (Option.bind X F)) (kN : ¬ K none) : ∃ r, X = some r ∧ K (F r) := by
  cases X with
  | none => exact absurd h kN
  | some r => exact ⟨r, rfl, h⟩
end Go.V
end
section
namespace Go.V
open Go Go.Proofs IntKind Tryz
def Dec (P : Program) (n : Nat) (t : TypeId) {α : Type} (enc : α → List VV) (R : α → Prop) : Prop := ∀ xs, ShapeT P n t xs → ∃ x : α, R x ∧ normL xs = enc x
variable {P : Program} {n : Nat} {t : TypeId}
theorem P1 (hu : P.underlying t = some (.int .i64)) : Dec P (n + 1) t eI (fun _ => True) := by
 intro xs h
 simp only [ShapeT, hu] at h
 obtain ⟨i, _, rfl⟩ := h
 exact ⟨i, trivial, by simp only [uj, uk, Ck, eI]⟩
theorem P2 (hu : P.underlying t = some .bool) : Dec P (n + 1) t eB (fun _ => True) := by
 intro xs h
 simp only [ShapeT, hu] at h
 obtain ⟨b, rfl⟩ := h
 exact ⟨b, trivial, by simp only [uj, uk, E4, eB]⟩
theorem Cl {P : Program} {n : Nat} {t : TypeId} {α : Type} {enc : α → List VV} {R : α → Prop} (h : Dec P n t enc R) : ∀ yss : List (List VV), (∀ ys ∈ yss, ShapeT P n t ys) → ∃ l : List α, l.length = yss.length ∧ (∀ x ∈ l, R x) ∧ normL yss.flatten = ad enc l
 | [], _ => ⟨[], rfl, fun _ hx => (by cases hx), rfl⟩
 | ys :: yss, hs => by
  obtain ⟨x, hx, e⟩ := h ys (hs ys (qZb ..))
  obtain ⟨l, h1, h2, h3⟩ := Cl h yss (fun y hy => hs y (qZa _ hy))
  refine ⟨x :: l, by simp [h1], fun y hy => ?_, by rw [List.flatten_cons, vY, e, h3, cY]⟩
  rcases List.mem_cons.1 hy with rfl | hy
  ·exact hx
  ·exact h2 y hy
variable {α : Type}
theorem P3 {e : TypeId} {enc : α → List VV} {R : α → Prop} (hu : P.underlying t = some (.slice e)) (h : Dec P n e enc R) : Dec P (n + 1) t (fun l : List α => [.sl (ad enc l) l.length false]) (fun l => lenOk l = true ∧ ∀ x ∈ l, R x) := by
 intro xs hs
 simp only [ShapeT, hu] at hs
 rcases hs with rfl | ⟨yss, hl, hall, rfl⟩
 ·exact ⟨[], ⟨rfl, fun _ hx => (by cases hx)⟩, by simp only [uj, uk, U3]; rfl⟩
 ·obtain ⟨l, h1, h2, h3⟩ := Cl h yss hall
  refine ⟨l, ⟨?_, h2⟩, by simp only [uj, uk, Cm, h3, h1]⟩
  have : maxLen = 9223372036854775807 := by decide
  unfold lenOk
  exact decide_eq_true (by omega)
variable {fs : Array Field} {xs : List VV}
theorem P4 (hu : P.underlying t = some (.struct fs)) (h : ShapeT P (n + 1) t xs) : ∃ yss, FieldsS (ShapeT P n) fs.toList yss ∧ xs = yss.flatten := by
 simp only [ShapeT, hu] at h
 exact h
def TypesS (S : TypeId → List VV → Prop) : List TypeId → List (List VV) → Prop
 | [], [] => True
 | t :: ts, ys :: yss => S t ys ∧ TypesS S ts yss
 | _, _ => False
theorem Cn {S : TypeId → List VV → Prop} : ∀ (fs : List Field) (yss : List (List VV)), FieldsS S fs yss → TypesS S (fs.map Field.type) yss
 | [], [], _ => trivial
 | f :: fs, ys :: yss, ⟨h1, h2⟩ => ⟨h1, Cn fs yss h2⟩
 | [], _ :: _, h => h
 | _ :: _, [], h => h
variable {ts : List TypeId}
theorem DY (hu : P.underlying t = some (.struct fs)) (ht : fs.toList.map Field.type = ts) (h : ShapeT P (n + 1) t xs) : ∃ yss, TypesS (ShapeT P n) ts yss ∧ xs = yss.flatten := by
 obtain ⟨yss, h1, h2⟩ := P4 hu h
 exact ⟨yss, ht ▸ Cn _ _ h1, h2⟩
theorem yZ (h : ArgsS P n (t :: ts) xs) : ∃ x xs', xs = x :: xs' ∧ ArgS P n t x ∧ ArgsS P n ts xs' := by
 match xs, h with
 | x :: xs', h => exact ⟨x, xs', rfl, h.1, h.2⟩
theorem G1 (h : ArgsS P n [] xs) : xs = [] := by
 match xs, h with
 | [], _ => rfl
theorem Gy {x : VV} {enc : α → List VV} {R : α → Prop} (hu : P.underlying t = some (.struct fs)) (hd : Dec P n t enc R) (h : ArgS P n t x) : ∃ s, R s ∧ normV x = .agg (enc s) := by
 obtain ⟨ys, h1, h2⟩ := h
 rw [hu] at h2
 obtain rfl : x = .agg ys := h2
 obtain ⟨s, hs, e⟩ := hd ys h1
 exact ⟨s, hs, by rw [U4, e]⟩
theorem CW {d : TypeDesc} {x : VV} {enc : α → List VV} {R : α → Prop} (hu : P.underlying t = some d) (hn : (∀ fs, d ≠ .struct fs) ∧ ∀ m e, d ≠ .array m e) (hd : Dec P n t enc R) (h : ArgS P n t x) : ∃ s, R s ∧ [normV x] = enc s := by
 obtain ⟨ys, h1, h2⟩ := h
 rw [hu] at h2
 have h3 : ys = [x] := by
  cases d <;> first | exact h2 | exact absurd rfl (hn.1 _) | exact absurd rfl (hn.2 _ _)
 subst h3
 obtain ⟨s, hs, e⟩ := hd _ h1
 exact ⟨s, hs, by rw [← e, uj, uk]⟩
end Go.V
end
section
set_option maxRecDepth 100000
namespace Go.V
open Go Go.Proofs IntKind Tryz
def P5 (x : GLw) : Prop := lenOk x.Signs = true ∧ lenOk x.Cuts = true
def U5 (x : GLs) : Prop := lenOk x.Widths = true ∧ lenOk x.Pairs = true ∧ lenOk x.Words = true ∧ ∀ y ∈ x.Words, P5 y
variable {n : Nat}
section
variable {P : Program} (i7 : P.underlying 3 = some (.int .i64)) (eD : P.underlying 22 = some (.slice 3)) {U6 : Array Field} (eE : P.underlying 25 = some (.struct U6)) (eF : U6.toList.map Field.type = [3, 3]) {Co : Array Field} (cG : P.underlying 108 = some (.struct Co)) (cH : Co.toList.map Field.type = [3, 3, 25]) (eG : P.underlying 23 = some (.slice 108)) (jx : P.underlying 4 = some (.bool)) {U7 : Array Field} (eJ : P.underlying 79 = some (.struct U7)) (eK : U7.toList.map Field.type = [22, 22, 4]) (eM : P.underlying 26 = some (.slice 79)) {U8 : Array Field} (eN : P.underlying 28 = some (.struct U8)) (eO : U8.toList.map Field.type = [22, 23, 25, 25, 3, 26, 3, 3])
include i7 eD eE eF cG cH eG jx eJ eK eM eN eO
theorem gd_3 : Dec P (n + 1) 3 eI (fun _ => True) := P1 i7
theorem gd_22 : Dec P (n + 2) 22 (eSl eI) (fun l => lenOk l = true ∧ ∀ x ∈ l, True) := P3 eD (gd_3 i7 eD eE eF cG cH eG jx eJ eK eM eN eO (n := n))
theorem gd_25 : Dec P (n + 2) 25 cGSpan (fun _ => True) := by
 intro xs h
 obtain ⟨yss, hf, rfl⟩ := DY (n := n + 1) (ts := [3, 3]) eE eF h
 match yss, hf with
 | [y0, y1], ⟨h0, h1, _⟩ =>
  obtain ⟨x0, r0, e0⟩ := gd_3 i7 eD eE eF cG cH eG jx eJ eK eM eN eO (n := n + 0) _ h0
  obtain ⟨x1, r1, e1⟩ := gd_3 i7 eD eE eF cG cH eG jx eJ eK eM eN eO (n := n + 0) _ h1
  exact ⟨⟨x0, x1⟩, trivial, by simp only [List.flatten_cons, List.flatten_nil, List.append_nil, vY, e0, e1, eI, qq, eB, eS, eSl, vQ, List.cons_append, List.nil_append]⟩
theorem P6 : Dec P (n + 3) 108 cGLp (fun _ => True) := by
 intro xs h
 obtain ⟨yss, hf, rfl⟩ := DY (n := n + 2) (ts := [3, 3, 25]) cG cH h
 match yss, hf with
 | [y0, y1, y2], ⟨h0, h1, h2, _⟩ =>
  obtain ⟨x0, r0, e0⟩ := gd_3 i7 eD eE eF cG cH eG jx eJ eK eM eN eO (n := n + 1) _ h0
  obtain ⟨x1, r1, e1⟩ := gd_3 i7 eD eE eF cG cH eG jx eJ eK eM eN eO (n := n + 1) _ h1
  obtain ⟨x2, r2, e2⟩ := gd_25 i7 eD eE eF cG cH eG jx eJ eK eM eN eO (n := n + 0) _ h2
  exact ⟨⟨x0, x1, x2⟩, trivial, by simp only [List.flatten_cons, List.flatten_nil, List.append_nil, vY, e0, e1, e2, eI, qq, eB, eS, eSl, B2, vQ, List.cons_append, List.nil_append]⟩
theorem gd_23 : Dec P (n + 4) 23 (eSl cGLp) (fun l => lenOk l = true ∧ ∀ x ∈ l, True) := P3 eG (P6 i7 eD eE eF cG cH eG jx eJ eK eM eN eO (n := n))
theorem gd_4 : Dec P (n + 1) 4 eB (fun _ => True) := P2 jx
theorem gd_79 : Dec P (n + 3) 79 cGLw (P5) := by
 intro xs h
 obtain ⟨yss, hf, rfl⟩ := DY (n := n + 2) (ts := [22, 22, 4]) eJ eK h
 match yss, hf with
 | [y0, y1, y2], ⟨h0, h1, h2, _⟩ =>
  obtain ⟨x0, r0, e0⟩ := gd_22 i7 eD eE eF cG cH eG jx eJ eK eM eN eO (n := n + 0) _ h0
  obtain ⟨x1, r1, e1⟩ := gd_22 i7 eD eE eF cG cH eG jx eJ eK eM eN eO (n := n + 0) _ h1
  obtain ⟨x2, r2, e2⟩ := gd_4 i7 eD eE eF cG cH eG jx eJ eK eM eN eO (n := n + 1) _ h2
  exact ⟨⟨x0, x1, x2⟩, ⟨r0.1, r1.1⟩, by simp only [List.flatten_cons, List.flatten_nil, List.append_nil, vY, e0, e1, e2, eI, qq, eB, eS, eSl, xC, List.cons_append, List.nil_append]⟩
theorem gd_26 : Dec P (n + 4) 26 (eSl cGLw) (fun l => lenOk l = true ∧ ∀ x ∈ l, P5 x) := P3 eM (gd_79 i7 eD eE eF cG cH eG jx eJ eK eM eN eO (n := n))
theorem gd_28 : Dec P (n + 5) 28 cGLs (U5) := by
 intro xs h
 obtain ⟨yss, hf, rfl⟩ := DY (n := n + 4) (ts := [22, 23, 25, 25, 3, 26, 3, 3]) eN eO h
 match yss, hf with
 | [y0, y1, y2, y3, y4, y5, y6, y7], ⟨h0, h1, h2, h3, h4, h5, h6, h7, _⟩ =>
  obtain ⟨x0, r0, e0⟩ := gd_22 i7 eD eE eF cG cH eG jx eJ eK eM eN eO (n := n + 2) _ h0
  obtain ⟨x1, r1, e1⟩ := gd_23 i7 eD eE eF cG cH eG jx eJ eK eM eN eO (n := n + 0) _ h1
  obtain ⟨x2, r2, e2⟩ := gd_25 i7 eD eE eF cG cH eG jx eJ eK eM eN eO (n := n + 2) _ h2
  obtain ⟨x3, r3, e3⟩ := gd_25 i7 eD eE eF cG cH eG jx eJ eK eM eN eO (n := n + 2) _ h3
  obtain ⟨x4, r4, e4⟩ := gd_3 i7 eD eE eF cG cH eG jx eJ eK eM eN eO (n := n + 3) _ h4
  obtain ⟨x5, r5, e5⟩ := gd_26 i7 eD eE eF cG cH eG jx eJ eK eM eN eO (n := n + 0) _ h5
  obtain ⟨x6, r6, e6⟩ := gd_3 i7 eD eE eF cG cH eG jx eJ eK eM eN eO (n := n + 3) _ h6
  obtain ⟨x7, r7, e7⟩ := gd_3 i7 eD eE eF cG cH eG jx eJ eK eM eN eO (n := n + 3) _ h7
  exact ⟨⟨x0, x1, x2, x3, x4, x5, x6, x7⟩, ⟨r0.1, r1.1, r5.1, r5.2⟩, by simp only [List.flatten_cons, List.flatten_nil, List.append_nil, vY, e0, e1, e2, e3, e4, e5, e6, e7, eI, qq, eB, eS, eSl, B3, vQ, List.cons_append, List.nil_append]⟩
end
theorem dec_3 : Dec prog (n + 1) 3 eI (fun _ => True) := gd_3 underlying3 underlying22 underlying25 (by kernel_rfl) underlying108 (by kernel_rfl) underlying23 underlying4 underlying79 (by kernel_rfl) underlying26 underlying28 (by kernel_rfl)
theorem Gz : Dec prog (n + 5) 28 cGLs (U5) := gd_28 underlying3 underlying22 underlying25 (by kernel_rfl) underlying108 (by kernel_rfl) underlying23 underlying4 underlying79 (by kernel_rfl) underlying26 underlying28 (by kernel_rfl)
end Go.V
end
section
namespace Go.V
open Go Go.Proofs IntKind Tryz
def goB (b : Bool) : Option (LOut Bool Unit) := cond b (some (.go ())) (some (.ret false))
theorem m9 (a b : Bool) : goB (a && b) = cond a (goB b) (some (.ret false)) := by cases a <;> rfl
variable {α : Type}
theorem cnot (a : Bool) (x y : α) : cond (!a) x y = cond a y x := by cases a <;> rfl
theorem cand (a b : Bool) (x y : α) : cond (a && b) x y = cond a (cond b x y) y := by cases a <;> rfl
theorem csome (a b : Bool) : cond a (some b) (some false) = some (a && b) := by cases a <;> rfl
theorem wy {X : Type} (b : Bool) (kr : Bool → Option X) (kg : Unit → Option X) (kb : Nat → Unit → Option X) : lbind (goB b) kr kg kb = cond b (kg ()) (kr false) := by cases b <;> rfl
def inB (a b n : Int) : Bool := decide (a ≤ n) && decide (n ≤ b)
theorem oW {a b n : Int} : inB a b n = true ↔ a ≤ n ∧ n ≤ b := by simp [inB]
theorem jJ {n : Int} (h1 : -9223372036854775808 ≤ n) (h2 : n < 9223372036854775808) : i64.wrap n = n := IntWalk.i64_in _ (by omega)
theorem Dq {xs : List α} (h : lenOk xs = true) : xs.length < 9223372036854775808 := by simpa [lenOk] using h
theorem kH {xs : List α} (h : xs.length < 9223372036854775808) : lenOk xs = true := by simpa [lenOk] using h
variable {i : Int}
theorem F3 {xs : List α} (h0 : 0 ≤ i) (h1 : i < xs.length) : ∃ x, getI xs i = some x ∧ x ∈ xs := by
 unfold getI
 rw [if_pos h0]
 have h : i.toNat < xs.length := by omega
 exact ⟨xs[i.toNat], qZi h, List.getElem_mem h⟩
theorem F7 {xs : List α} {x : α} (h : getI xs i = some x) : x ∈ xs := by
 unfold getI at h
 split at h
 ·exact List.mem_of_getElem? h
 ·cases h
theorem F6 {xs : List α} {x : α} (h : getI xs i = some x) : 0 ≤ i ∧ i < xs.length := ⟨(ta h).1, (ta h).2.1⟩
theorem mulR {a b A B : Int} (h1 : 0 ≤ a) (h2 : a ≤ A) (h3 : 0 ≤ b) (h4 : b ≤ B) : 0 ≤ a * b ∧ a * b ≤ A * B :=
 ⟨Int.mul_nonneg h1 h3, Int.mul_le_mul h2 h4 h3 (qZl h1 h2)⟩
def nt (aV : Int) (aD : Int) (bt : Int) : Option (Bool) := cond (decide (aV ≤ aD)) (some (decide (aD ≤ bt))) (some false)
theorem rv (aV : Int) (aD : Int) (bt : Int) (R : Bool) (h : nt aV aD bt = some R) : ah prog G0 112 [.lit (.int .i64 aV), .lit (.int .i64 aD), .lit (.int .i64 bt)] (.tree (.lit (.bool R))) := by
 refine ah.runR mixed call112 func112 rfl (by simp [ntmps112]; kernel_rfl) ?_
 obtain ⟨KF, h, kF, kN⟩ := fg h
 simp only [nt] at h
 cases d1 : (decide (aV ≤ aD))
 ·simp only [d1, hs] at h
  try simp only [vz, tyf, d1, nm, seval]
  obtain rfl := kF _ h
  exact bB results112 rfl
 simp only [d1, hs] at h
 try simp only [vz, tyf, d1, nm, seval]
 obtain rfl := kF _ h
 exact bB results112 rfl
def xj (aV : Int) (bt : Int) : List Int → Int → Option (LOut (Bool) (Unit))
 | [], ik => some (.go ())
 | e0 :: p0, ik => Option.bind (nt aV e0 bt) (fun r1 => cond (r1) (xj aV bt p0 (ik + 1)) (some (.ret false)))
def u4 (aV : Int) (ak : List Int) (bt : Int) : Option (Bool) := cond (lenOk ak) (lbind (xj aV bt ak 0) (fun r3 => some r3) (fun c2 => some true) (fun _ _ => none)) none
theorem Ib (aV : Int) (ak : List Int) (bt : Int) (R : Bool) (h : u4 aV ak bt = some R) : ah prog G0 147 [.lit (.int .i64 aV), .sl (ad eI ak) (List.length ak) false, .lit (.int .i64 bt)] (.tree (.lit (.bool R))) := by
 refine ah.runR mixed call147 func147 rfl (by simp [ntmps147]; kernel_rfl) ?_
 obtain ⟨KF, h, kF, kN⟩ := fg h
 simp only [u4] at h
 cases g5 : (lenOk ak)
 ·simp only [g5, hs] at h
  exact absurd h kN
 simp only [g5, hs] at h
 simp only [vz, tyf, g5, nm, seval]
 obtain ⟨K4, h, Zu, Zv, kB4, Zw⟩ := iy h kN
 obtain ⟨f4, Zx, h⟩ := call2 h
 obtain ⟨I4, P7⟩ : ∃ I : Nat → St → Prop, I = (fun m st => ∃ (p4 : List Int) (gP : Int), m = List.length p4 ∧ 0 ≤ gP ∧ List.drop (Int.toNat gP) ak = p4 ∧ st.df = [] ∧ 4 ≤ st.nx ∧ st.tm 0 = .lit (.int .i64 aV) ∧ st.tm 2 = .lit (.int .i64 bt) ∧ st.tm 9 = .sl (ad eI ak) (List.length ak) false ∧ st.tm 10 = .lit (.int .i64 (List.length ak : Int)) ∧ st.tm 11 = .lit (.int .i64 gP) ∧ K4 (f4 p4 gP)) := ⟨_, rfl⟩
 refine loopK mixed (by kernel_rfl) I4 (List.length ak) (by rw [P7]; refine ⟨ak, 0, rfl, qZf _, rfl, rfl, (show 4 ≤ 4 by omega), ?_, ?_, ?_, ?_, ?_, h⟩ <;> first | (simp only [ua, nm, seval] <;> rfl) | rfl) ?_
 rintro m ⟨tm, H, U9, df⟩ ba
 rw [P7] at ba
 obtain ⟨p4, gP, rfl, xD, Cp, hdf, tF, e6, e7, e8, e9, aE, h⟩ := ba
 simp only at hdf tF e6 e7 e8 e9 aE
 have qF := ib (m := 4) (b := U9) (by omega)
 subst hdf Zx
 cases p4 with
 | nil =>
  have jA : (decide (gP < (List.length ak : Int))) = false := ic xD Cp
  simp only [xj, hs, reduceCtorEq] at h
  replace h := Zv _ h
  try dsimp only at h
  try simp only [hs] at h
  try simp only [vz, tyf, g5, qF, e6, e7, e8, e9, aE, jA, nm, seval]
  obtain rfl := kF _ h
  exact bB results147 rfl
 | cons e4 p4 =>
  have cQ : (decide (gP < (List.length ak : Int))) = true := gZ xD Cp
  have u5 := fA xD Cp
  have Cq := hC xD Cp g5
  simp only [xj, hs, reduceCtorEq] at h
  obtain ⟨yA, Fe, h⟩ := optI h Zw
  try simp only [hs] at h
  simp only [vz, tyf, g5, qF, e6, e7, e8, e9, aE, cQ, (ai u5), Cq, nm, seval]
  refine ktA (rv _ _ _ _ Fe) ?_
  refine bQ (fun tm => tm 0 = .lit (.int .i64 aV) ∧ tm 2 = .lit (.int .i64 bt) ∧ tm 9 = .sl (ad eI ak) (List.length ak) false ∧ tm 10 = .lit (.int .i64 (List.length ak : Int)) ∧ tm 11 = .lit (.int .i64 gP) ∧ tm 18 = .lit (.bool yA) ∧ True) (by refine ⟨e6, e7, e8, e9, aE, ?_, trivial⟩ <;> first | (simp only [ua, qF, e6, e7, e8, e9, aE, cQ, Cq, nm, seval] <;> rfl) | rfl) ?_
  rintro tm ⟨cM, fm, gM, dL, fM, dy, _⟩
  cases jB : (yA)
  ·simp only [jB, hs] at h
   try simp only [vz, tyf, g5, qF, cQ, (ai u5), Cq, cM, fm, gM, dL, fM, dy, jB, nm, seval]
   replace h := Zu _ h
   try dsimp only at h
   obtain rfl := kF _ h
   exact bB results147 rfl
  simp only [jB, hs] at h
  simp only [vz, tyf, g5, qF, cQ, (ai u5), Cq, cM, fm, gM, dL, fM, dy, jB, nm, seval]
  exact ⟨List.length p4, qZc _, by rw [P7]; refine ⟨p4, gP + 1, rfl, qZl xD (qZk (qZf _)), dm xD Cp, rfl, (show 4 ≤ U9 + 11 by omega), cM, fm, gM, dL, ?_, (by first | exact h | (simp only [cQ, jB]; exact h))⟩ <;> first | (simp only [ua, qF, cQ, Cq, cM, fm, gM, dL, fM, dy, jB, nm, seval] <;> rfl) | rfl⟩
def z9 (cR : List Int) : Option (Bool) := Option.bind (nt 1 (List.length cR : Int) 6) (fun r1 => cond (r1) (Option.bind (u4 1 cR 20) (fun r2 => some r2)) (some false))
theorem WH (cR : List Int) (R : Bool) (h : z9 cR = some R) : ah prog G0 109 [.sl (ad eI cR) (List.length cR) false] (.tree (.lit (.bool R))) := by
 refine ah.runR mixed call109 func109 rfl (by simp [ntmps109]; kernel_rfl) ?_
 obtain ⟨KF, h, kF, kN⟩ := fg h
 simp only [z9] at h
 obtain ⟨r3, o4, h⟩ := optI h kN
 try simp only [hs] at h
 simp only [vz, tyf, nm, seval]
 refine ktA (rv _ _ _ _ o4) ?_
 refine bQ (fun tm => tm 0 = .sl (ad eI cR) (List.length cR) false ∧ tm 5 = .lit (.bool r3) ∧ True) (by refine ⟨?_, ?_, trivial⟩ <;> first | (simp only [ua, nm, seval] <;> rfl) | rfl) ?_
 rintro tm ⟨e5, e6, _⟩
 cases d7 : (r3)
 ·simp only [d7, hs] at h
  try simp only [vz, tyf, e5, e6, d7, nm, seval]
  obtain rfl := kF _ h
  exact bB results109 rfl
 simp only [d7, hs] at h
 obtain ⟨r8, o9, h⟩ := optI h kN
 try simp only [hs] at h
 simp only [vz, tyf, e5, e6, d7, nm, seval]
 refine ktA (Ib _ _ _ _ o9) ?_
 refine bQ (fun tm => tm 6 = .lit (.bool true) ∧ tm 8 = .lit (.bool r8) ∧ True) (by refine ⟨?_, ?_, trivial⟩ <;> first | (simp only [ua, e5, e6, d7, nm, seval] <;> rfl) | rfl) ?_
 rintro tm ⟨aE, aB, _⟩
 try simp only [vz, tyf, d7, aE, aB, nm, seval]
 obtain rfl := kF _ h
 exact bB results109 rfl
def ur (aV : Int) (dK : GSpan) (bt : Int) : Option (Bool) := cond (decide (aV ≤ dK.Low)) (cond (decide (dK.Low ≤ dK.High)) (some (decide (dK.High ≤ bt))) (some false)) (some false)
theorem HY (aV : Int) (dK : GSpan) (bt : Int) (R : Bool) (h : ur aV dK bt = some R) : ah prog G0 111 [.lit (.int .i64 aV), .agg (cGSpan dK), .lit (.int .i64 bt)] (.tree (.lit (.bool R))) := by
 refine ah.runR mixed call111 func111 rfl (by simp [ntmps111]; kernel_rfl) ?_
 obtain ⟨KF, h, kF, kN⟩ := fg h
 simp only [ur] at h
 cases d1 : (decide (aV ≤ dK.Low))
 ·simp only [d1, hs] at h
  try simp only [vz, tyf, d1, nm, seval]
  obtain rfl := kF _ h
  exact bB results111 rfl
 simp only [d1, hs] at h
 cases d2 : (decide (dK.Low ≤ dK.High))
 ·simp only [d2, hs] at h
  try simp only [vz, tyf, d1, d2, nm, seval]
  obtain rfl := kF _ h
  exact bB results111 rfl
 simp only [d2, hs] at h
 try simp only [vz, tyf, d1, d2, nm, seval]
 obtain rfl := kF _ h
 exact bB results111 rfl
def zL (fZ : Int) : Option (Bool) := some (fZ != fZ)
theorem UA (fZ : Int) (R : Bool) (h : zL fZ = some R) : ah prog G0 154 [.lit (.int .i64 fZ)] (.tree (.lit (.bool R))) := by
 refine ah.runR mixed call154 func154 rfl (by simp [ntmps154]; kernel_rfl) ?_
 obtain ⟨KF, h, kF, kN⟩ := fg h
 simp only [zL] at h
 try simp only [vz, tyf, nm, seval]
 obtain rfl := kF _ h
 exact bB results154 rfl
def sR (fZ : Int) (jy : Int) : Option (Int) := Option.bind (zL fZ) (fun r1 => Option.bind (zL jy) (fun r2 => cond (r1) (cond (r2) (some 0) (some (-1))) (cond (r2) (some 1) (cond (decide (fZ < jy)) (some (-1)) (cond (decide (fZ > jy)) (some 1) (some 0))))))
theorem D8 (fZ : Int) (jy : Int) (R : Int) (h : sR fZ jy = some R) : ah prog G0 125 [.lit (.int .i64 fZ), .lit (.int .i64 jy)] (.tree (.lit (.int .i64 R))) := by
 refine ah.runR mixed call125 func125 rfl (by simp [ntmps125]; kernel_rfl) ?_
 obtain ⟨KF, h, kF, kN⟩ := fg h
 simp only [sR] at h
 obtain ⟨r3, o4, h⟩ := optI h kN
 try simp only [hs] at h
 simp only [vz, tyf, nm, seval]
 refine ktA (UA _ _ o4) ?_
 refine bQ (fun tm => tm 0 = .lit (.int .i64 fZ) ∧ tm 1 = .lit (.int .i64 jy) ∧ tm 8 = .lit (.bool r3) ∧ True) (by refine ⟨?_, ?_, ?_, trivial⟩ <;> first | (simp only [ua, nm, seval] <;> rfl) | rfl) ?_
 rintro tm ⟨e5, e6, e7, _⟩
 obtain ⟨r8, o9, h⟩ := optI h kN
 try simp only [hs] at h
 simp only [vz, tyf, e5, e6, e7, nm, seval]
 refine ktA (UA _ _ o9) ?_
 refine bQ (fun tm => tm 0 = .lit (.int .i64 fZ) ∧ tm 1 = .lit (.int .i64 jy) ∧ tm 5 = .lit (.bool r3) ∧ tm 10 = .lit (.bool r8) ∧ True) (by refine ⟨e5, e6, ?_, ?_, trivial⟩ <;> first | (simp only [ua, e5, e6, e7, nm, seval] <;> rfl) | rfl) ?_
 rintro tm ⟨aE, aB, aL, bF, _⟩
 cases cy : (r3)
 ·simp only [cy, hs] at h
  cases dE : (r8)
  ·simp only [dE, hs] at h
   cases ed : (decide (fZ < jy))
   ·simp only [ed, hs] at h
    cases iq : (decide (fZ > jy))
    ·simp only [iq, hs] at h
     try simp only [vz, tyf, aE, aB, aL, bF, cy, dE, ed, iq, nm, seval]
     refine bO (x := (.lit (.int .i64 0))) (by first | (simp only [results125, resV, resL, aw, cn, cq, uw, cr, tyf, cy, dE, ed, iq, nm, seval] <;> rfl) | rfl) ?_
     obtain rfl := kF _ h
     refine cm ?_ ?_
     ·simp only [tre, an, Bool.and_self]
     ·first | (simp only [outV, uw, cw, cr, tyf, nrm, aq, aE, aB, aL, bF, cy, dE, ed, iq, nm, seval] <;> rfl) | rfl
    simp only [iq, hs] at h
    try simp only [vz, tyf, aE, aB, aL, bF, cy, dE, ed, iq, nm, seval]
    refine bO (x := (.lit (.int .i64 1))) (by first | (simp only [results125, resV, resL, aw, cn, cq, uw, cr, tyf, cy, dE, ed, iq, nm, seval] <;> rfl) | rfl) ?_
    obtain rfl := kF _ h
    refine cm ?_ ?_
    ·simp only [tre, an, Bool.and_self]
    ·first | (simp only [outV, uw, cw, cr, tyf, nrm, aq, aE, aB, aL, bF, cy, dE, ed, iq, nm, seval] <;> rfl) | rfl
   simp only [ed, hs] at h
   try simp only [vz, tyf, aE, aB, aL, bF, cy, dE, ed, nm, seval]
   refine bO (x := (.lit (.int .i64 (-1)))) (by first | (simp only [results125, resV, resL, aw, cn, cq, uw, cr, tyf, cy, dE, ed, nm, seval] <;> rfl) | rfl) ?_
   obtain rfl := kF _ h
   refine cm ?_ ?_
   ·simp only [tre, an, Bool.and_self]
   ·first | (simp only [outV, uw, cw, cr, tyf, nrm, aq, aE, aB, aL, bF, cy, dE, ed, nm, seval] <;> rfl) | rfl
  simp only [dE, hs] at h
  try simp only [vz, tyf, aE, aB, aL, bF, cy, dE, nm, seval]
  refine bO (x := (.lit (.int .i64 1))) (by first | (simp only [results125, resV, resL, aw, cn, cq, uw, cr, tyf, cy, dE, nm, seval] <;> rfl) | rfl) ?_
  obtain rfl := kF _ h
  refine cm ?_ ?_
  ·simp only [tre, an, Bool.and_self]
  ·first | (simp only [outV, uw, cw, cr, tyf, nrm, aq, aE, aB, aL, bF, cy, dE, nm, seval] <;> rfl) | rfl
 simp only [cy, hs] at h
 cases jm : (r8)
 ·simp only [jm, hs] at h
  try simp only [vz, tyf, aE, aB, aL, bF, cy, jm, nm, seval]
  refine bO (x := (.lit (.int .i64 (-1)))) (by first | (simp only [results125, resV, resL, aw, cn, cq, uw, cr, tyf, cy, jm, nm, seval] <;> rfl) | rfl) ?_
  obtain rfl := kF _ h
  refine cm ?_ ?_
  ·simp only [tre, an, Bool.and_self]
  ·first | (simp only [outV, uw, cw, cr, tyf, nrm, aq, aE, aB, aL, bF, cy, jm, nm, seval] <;> rfl) | rfl
 simp only [jm, hs] at h
 try simp only [vz, tyf, aE, aB, aL, bF, cy, jm, nm, seval]
 refine bO (x := (.lit (.int .i64 0))) (by first | (simp only [results125, resV, resL, aw, cn, cq, uw, cr, tyf, cy, jm, nm, seval] <;> rfl) | rfl) ?_
 obtain rfl := kF _ h
 refine cm ?_ ?_
 ·simp only [tre, an, Bool.and_self]
 ·first | (simp only [outV, uw, cw, cr, tyf, nrm, aq, aE, aB, aL, bF, cy, jm, nm, seval] <;> rfl) | rfl
def zM  : List Int → Int → Option (LOut (Int) (Unit))
 | [], hT => some (.go ())
 | e0 :: p0, hT => cond (e0 != 0) (some (.ret e0)) (zM p0 (hT + 1))
def xk (bT : List Int) : Option (Int) := cond (lenOk bT) (lbind (zM bT 0) (fun r2 => some r2) (fun c1 => some 0) (fun _ _ => none)) none
theorem Tv (bT : List Int) (R : Int) (h : xk bT = some R) : ah prog G0 124 [.sl (ad eI bT) (List.length bT) false] (.tree (.lit (.int .i64 R))) := by
 refine ah.runR mixed call124 func124 rfl (by simp [ntmps124]; kernel_rfl) ?_
 obtain ⟨KF, h, kF, kN⟩ := fg h
 simp only [xk] at h
 cases g4 : (lenOk bT)
 ·simp only [g4, hs] at h
  exact absurd h kN
 simp only [g4, hs] at h
 simp only [vz, tyf, g4, nm, seval]
 obtain ⟨K3, h, sq, qm, CK, CL⟩ := iy h kN
 obtain ⟨f3, qW, h⟩ := call2 h
 obtain ⟨I3, jL⟩ : ∃ I : Nat → St → Prop, I = (fun m st => ∃ (p3 : List Int) (dp : Int), m = List.length p3 ∧ 0 ≤ dp ∧ List.drop (Int.toNat dp) bT = p3 ∧ st.df = [] ∧ 5 ≤ st.nx ∧ st.tm 3 = .lit (.int .i64 0) ∧ st.tm 6 = .sl (ad eI bT) (List.length bT) false ∧ st.tm 7 = .lit (.int .i64 (List.length bT : Int)) ∧ st.tm 8 = .lit (.int .i64 dp) ∧ K3 (f3 p3 dp)) := ⟨_, rfl⟩
 refine loopK mixed (by kernel_rfl) I3 (List.length bT) (by rw [jL]; refine ⟨bT, 0, rfl, qZf _, rfl, rfl, (show 5 ≤ 5 by omega), ?_, ?_, ?_, ?_, h⟩ <;> first | (simp only [ua, nm, seval] <;> rfl) | rfl) ?_
 rintro m ⟨tm, H, m6, df⟩ ba
 rw [jL] at ba
 obtain ⟨p3, dp, rfl, fG, gH, hdf, lM, e5, e6, e7, e8, h⟩ := ba
 simp only at hdf lM e5 e6 e7 e8
 have n9 := ib (m := 5) (b := m6) (by omega)
 subst hdf qW
 cases p3 with
 | nil =>
  have dB : (decide (dp < (List.length bT : Int))) = false := ic fG gH
  simp only [zM, hs, reduceCtorEq] at h
  replace h := qm _ h
  try dsimp only at h
  try simp only [hs] at h
  try simp only [vz, tyf, g4, n9, e5, e6, e7, e8, dB, nm, seval]
  refine bO (x := (.lit (.int .i64 0))) (by first | (simp only [results124, resV, resL, aw, cn, cq, uw, cr, tyf, g4, n9, dB, nm, seval] <;> rfl) | rfl) ?_
  obtain rfl := kF _ h
  refine cm ?_ ?_
  ·simp only [tre, an, Bool.and_self]
  ·first | (simp only [outV, uw, cw, cr, tyf, nrm, aq, g4, n9, e5, e6, e7, e8, dB, nm, seval] <;> rfl) | rfl
 | cons e3 p3 =>
  have dZ : (decide (dp < (List.length bT : Int))) = true := gZ fG gH
  have kI := fA fG gH
  have kJ := hC fG gH g4
  simp only [zM, hs, reduceCtorEq] at h
  cases cy : (e3 != 0)
  ·simp only [cy, hs] at h
   simp only [vz, tyf, g4, n9, e5, e6, e7, e8, dZ, (ai kI), kJ, cy, nm, seval]
   exact ⟨List.length p3, qZc _, by rw [jL]; refine ⟨p3, dp + 1, rfl, qZl fG (qZk (qZf _)), dm fG gH, rfl, (show 5 ≤ m6 + 9 by omega), e5, e6, e7, ?_, (by first | exact h | (simp only [dZ, cy]; exact h))⟩ <;> first | (simp only [ua, n9, e5, e6, e7, e8, dZ, kJ, cy, nm, seval] <;> rfl) | rfl⟩
  simp only [cy, hs] at h
  try simp only [vz, tyf, g4, n9, e5, e6, e7, e8, dZ, (ai kI), kJ, cy, nm, seval]
  refine bO (x := (.lit (.int .i64 e3))) (by first | (simp only [results124, resV, resL, aw, cn, cq, uw, cr, tyf, g4, n9, dZ, (ai kI), kJ, cy, nm, seval] <;> rfl) | rfl) ?_
  replace h := sq _ h
  try dsimp only at h
  obtain rfl := kF _ h
  refine cm ?_ ?_
  ·simp only [tre, an, Bool.and_self]
  ·first | (simp only [outV, uw, cw, cr, tyf, nrm, aq, g4, n9, e5, e6, e7, e8, dZ, (ai kI), kJ, cy, nm, seval] <;> rfl) | rfl
def zq (hZ : GLp) (ia : GLp) : Option (Int) := Option.bind (sR hZ.Left ia.Left) (fun r1 => Option.bind (sR hZ.Right ia.Right) (fun r2 => Option.bind (xk ([r1, r2])) (fun r3 => some r3)))
theorem Wy (hZ : GLp) (ia : GLp) (R : Int) (h : zq hZ ia = some R) : ah prog G0 148 [.agg (cGLp hZ), .agg (cGLp ia)] (.tree (.lit (.int .i64 R))) := by
 refine ah.runR mixed call148 func148 rfl (by simp [ntmps148]; kernel_rfl) ?_
 obtain ⟨KF, h, kF, kN⟩ := fg h
 simp only [zq] at h
 simp only [vz, tyf, nm, seval]
 refine qZ (fun tm => tm 2 = .ptr 0 0 ∧ tm 3 = .ptr 1 0 ∧ True) (by refine ⟨?_, ?_, trivial⟩ <;> first | (simp only [ua, nm, seval] <;> rfl) | rfl) ?_
 rintro tm ⟨e4, e5, _⟩
 obtain ⟨r6, o7, h⟩ := optI h kN
 try simp only [hs] at h
 simp only [vz, tyf, e4, e5, nm, seval]
 refine dktA (D8 _ _ _ o7) ?_
 refine bQ (fun tm => tm 2 = .ptr 0 0 ∧ tm 3 = .ptr 1 0 ∧ tm 9 = .lit (.int .i64 r6) ∧ True) (by refine ⟨e4, e5, ?_, trivial⟩ <;> first | (simp only [ua, e4, e5, nm, seval] <;> rfl) | rfl) ?_
 rintro tm ⟨e8, e9, aE, _⟩
 obtain ⟨lD, jK, h⟩ := optI h kN
 try simp only [hs] at h
 simp only [vz, tyf, e8, e9, aE, nm, seval]
 refine dktA (D8 _ _ _ jK) ?_
 refine bQ (fun tm => tm 9 = .lit (.int .i64 r6) ∧ tm 14 = .lit (.int .i64 lD) ∧ True) (by refine ⟨aE, ?_, trivial⟩ <;> first | (simp only [ua, e8, e9, aE, nm, seval] <;> rfl) | rfl) ?_
 rintro tm ⟨bF, bN, _⟩
 obtain ⟨D9, lB, h⟩ := optI h kN
 try simp only [hs] at h
 simp only [vz, tyf, bF, bN, nm, seval]
 refine dkseen1 (w := 1) (enc := eI) (xs := ([r6, lD])) (el := (some 3)) ⟨eI_ok.tree, eI_ok.norm⟩ (fun _ => rfl) (by simp only [List.length_cons, List.length_nil]; decide) (by simp only [aQ, bp, bI, nm, seval] <;> rfl) (Tv _ _ lB) (by first | rfl | simp only [VV.flat, flatL, Bool.and_self]) ?_
 refine bQ (fun tm => tm 16 = .lit (.int .i64 D9) ∧ True) (by refine ⟨?_, trivial⟩ <;> first | (simp only [ua, bF, bN, nm, seval] <;> rfl) | rfl) ?_
 rintro tm ⟨di, _⟩
 simp only [vz, tyf, di, nm, seval]
 refine lq ⟨?_, ?_⟩
 ·simp only [lr, lu, gf, lv, and_true, true_and]
  repeat' (first | exact trivial | refine qZj ?_ ?_ | rw [gf] | rw [ly] | exact Or.inl (by decide +kernel) | exact Or.inl (by dsimp only; decide +kernel) | (refine Or.inr ⟨?_, ?_⟩ <;> simp; done) | (refine Or.inr ⟨?_, ?_⟩ <;> simp <;> omega) | (refine Or.inr ⟨?_, ?_⟩ <;> simp [Ve.wr] <;> omega))
 try simp only [vz, tyf, di, nm, seval]
 refine bO (x := (.lit (.int .i64 D9))) (by first | (simp only [results148, resV, resL, aw, cn, cq, uw, cr, tyf, nm, seval] <;> rfl) | rfl) ?_
 obtain rfl := kF _ h
 refine cm ?_ ?_
 ·simp only [tre, an, Bool.and_self]
 ·first | (simp only [outV, uw, cw, cr, tyf, nrm, aq, di, nm, seval] <;> rfl) | rfl
end Go.V
end
