/- Part of a proof. -/
import Derived.Test.YtclkbhbhohdgbaaGreatDoorE3bd
import Derived.Test.YtclkbhbhohdgbaaGreatDoorE3aw
import Derived.Test.YtclkbhbhohdgbaaGreatDoorProg
set_option linter.all false
set_option maxRecDepth 4000
set_option maxHeartbeats 40000000
section
namespace Go.V
open Go Go.Proofs IntKind Tryz
def neB {α : Type} (xs : List α) : Bool := !xs.isEmpty
theorem BT {α : Type} {xs : List α} (h : neB xs = true) : 0 < xs.length := by
 cases xs with
 | nil => cases h
 | cons a l => exact Nat.succ_pos _
section
variable {P : Program} {H : Nat → Option Vo} {γ : Nat} {α : Type} {enc : α → List VV} {t t2 e e2 w b : Nat} {xs ys : List α} {el : Option TypeId} {β : Nat} {f : Bool} {k : VV → Ve → Prop}
theorem Bb (he : ∀ x, (enc x).length = w) (hl : ∀ x, leafL (enc x) = true) (ha : appOk P t = some (e, w, b)) (ju : P.underlying t2 = some (.slice e2)) (hb : H β = some (.cells el (ad enc xs)))
  (hm : neB ys = true) (hr : an b (xs ++ ys).length = true) (h : k (.ref γ 0 (xs ++ ys).length w (xs ++ ys).length) (.mv β (sameEl el e) (ad enc (xs ++ ys)))) :
  oeK (vappend P H γ t t2 (.ref β 0 xs.length w xs.length) (.sl (ad enc ys) ys.length f)) k := by
 have hm := BT hm
 obtain ⟨hu, inf, z, hi, hz, rfl, rfl, wq, wt, hzs⟩ := Et ha
 have hr' : (xs.length + ys.length) * inf.bytes ≤ 140737488355328 := by simpa [an] using hr
 have h4 : (ad enc ys).all VV.leaf = true := by rw [ya]; exact BU hl ys
 have h2 := hU he ys
 have h1 := hU he xs
 have h5 : (ad enc ys).take (ys.length * inf.size) = ad enc ys := List.take_of_length_le (by omega)
 have h6 : ¬ (xs.length + ys.length ≤ xs.length) := by omega
 have key : vappend P H γ t t2 (.ref β 0 xs.length inf.size xs.length) (.sl (ad enc ys) ys.length f) = some (.ref γ 0 (xs ++ ys).length inf.size (xs ++ ys).length, .mv β (sameEl el e) (ad enc (xs ++ ys))) := by
  simp only [vappend, nilS, vappend1, hu, ju, hi, hz, srcV, sls, h5, h4, wq, wt, hzs, hb]
  simp [h2, h6, h1, hr', xY]
 rw [key]
 exact h
theorem B2 (he : ∀ x, (enc x).length = w) (hl : ∀ x, leafL (enc x) = true) (ha : appOk P t = some (e, w, b)) (ju : P.underlying t2 = some (.slice e2))
  (hm : neB ys = true) (hr : an b ([] ++ ys).length = true) (h : k (.ref γ 0 ([] ++ ys).length w ([] ++ ys).length) (.new (.cells (some e) (ad enc ([] ++ ys))))) :
  oeK (vappend P H γ t t2 (.lit (.slice none 0 0)) (.sl (ad enc ys) ys.length f)) k := by
 have hm := BT hm
 obtain ⟨hu, inf, z, hi, hz, rfl, rfl, wq, wt, hzs⟩ := Et ha
 have hr' : ys.length * inf.bytes ≤ 140737488355328 := by simpa [an] using hr
 have h4 : (ad enc ys).all VV.leaf = true := by rw [ya]; exact BU hl ys
 have h2 := hU he ys
 have h5 : (ad enc ys).take (ys.length * inf.size) = ad enc ys := List.take_of_length_le (by omega)
 have h6 : ys ≠ [] := by intro h; rw [h] at hm; exact absurd hm (by simp)
 have key : vappend P H γ t t2 (.lit (.slice none 0 0)) (.sl (ad enc ys) ys.length f) = some (.ref γ 0 ([] ++ ys).length inf.size ([] ++ ys).length, .new (.cells (some e) (ad enc ([] ++ ys)))) := by
  simp only [vappend, nilS, vappend1, hu, ju, hi, hz, srcV, sls, h5, h4, wq, wt, hzs]
  simp [h2, h6, hr']
 rw [key]
 exact h
end
theorem U3 {P : Program} {H : Nat → Option Vo} {t e : TypeId} {x y : Operand} {cs : List VV} {n : Nat} {f : Bool} (hu : P.underlying t = some (.slice e)) (hc : cs ≠ []) : binV P H .eql t x y (.sl cs n f) (.lit (.slice none 0 0)) = some (.lit (.bool false)) := by
 simp [binV, VV.val?, vptrEq, vptrEq.eq1, hu, hc]
end Go.V
end
section
set_option linter.defProp false
namespace Go.V
open Go Go.Proofs IntKind Tryz
section
variable {P : Program} {G : Gb} {n : Nat} {x : Code} {Q : Vx → St → Prop} {st : St}
end
end Go.V
end
section
set_option linter.defProp false
namespace Go.V
open Go Go.Proofs IntKind Tryz
variable {H' : Nat → Option Vo} {tml : List VV} {d β : Nat} {R Rp : VV → (Nat → Option Vo) → Nat → Prop}
section
variable {P : Program} {G : Gb} {n : Nat} {Q : Vx → St → Prop} {tm : Nat → VV} {H : Nat → Option Vo} {nx : Nat} {df : List VDef} {g : Operand} {ps : Array Tmp} {az bo : Code} {f : FuncId} {first captured : List VV}
theorem O0 (hg : ev (G.at (some none)) tm g = .fn (.func f) first captured)
  (h : ∀ LO, LO = Vo.loop .ready none (tmL n tm) ps az bo nx → aU P (G.at (some none)) f (first ++ [.yl (nx + 1)] ++ captured) (updH (updH H nx (.deferred (some []))) (nx + 1) LO) (nx + 2)
   (fun _ H' nx' => RangeEnd P (G.at (some none)) n Q ⟨tm, H, nx, df⟩ H' nx') (fun x H' nx' => Q (.panic x) ⟨tm, H', nx', .coll nx :: df⟩)) : CWp P (G.at (some none)) n (.rangeFunc g ps az bo) Q ⟨tm, H, nx, df⟩ := by
 unfold CWp
 refine ⟨rfl, ?_⟩
 rw [show St.ρ (G.at (some none)) ⟨tm, H, nx, df⟩ g = ev (G.at (some none)) tm g from ev_eq .. ▸ rfl, hg]
 exact h _ rfl
theorem GQ {nx' : Nat} {LO : Vo} (hL : LO = Vo.loop .ready none tml ps az bo d) (h : H' (nx + 1) = some LO) (hq : ∀ LX, Q .normal ⟨tm, updH H' (nx + 1) LX, nx', .coll nx :: df⟩) : RangeEnd P G n Q ⟨tm, H, nx, df⟩ H' nx' :=
 ⟨.ready, none, tml, ps, az, bo, d, by rw [h, hL], by simp, hq _⟩
theorem SP {nx' : Nat} {LD : Code → Vo} (hL : LD = fun c => Vo.loop .done (some c) tml ps az bo d) (h : H' (nx + 1) = some (LD .ret)) (hq : ∀ LX, Q .ret ⟨tm, updH H' (nx + 1) LX, nx', .coll nx :: df⟩) : RangeEnd P G n Q ⟨tm, H, nx, df⟩ H' nx' :=
 ⟨.done, some .ret, tml, ps, az, bo, d, by rw [h, hL], by simp, VWp.ret (hq _)⟩
def RndEnd (β : Nat) (LB LO : Vo) (LD : Code → Vo) (o : Oper) (st : St) (K : St → Prop) : Vx → St → Prop
 | .normal, s2 => s2.H β = some LB ∧ K { st.put o.dst (.lit (.bool true)) with H := updH s2.H β LO, nx := s2.nx }
 | .ret, s2 => s2.H β = some LB ∧ K { st.put o.dst (.lit (.bool false)) with H := updH s2.H β (LD .ret), nx := s2.nx }
 | .exit id, s2 => s2.H β = some LB ∧ K { st.put o.dst (.lit (.bool false)) with H := updH s2.H β (LD (.exit id)), nx := s2.nx }
 | _, _ => False
def RndAs (P : Program) (G : Gb) (n β : Nat) (LB LO : Vo) (LD : Code → Vo) (bo : Code) (o : Oper) (st : St) (K : St → Prop) : Vx → St → Prop
 | .normal, s1 => s1.H β = some LO ∧ CWp P (G.at (some (some β))) n bo (RndEnd β LB LO LD o st K) { s1 with H := updH s1.H β LB }
 | _, _ => False
theorem O1 (hm : P.follows .mixedOrders = true) {o : Oper} {args : List VV} {st : St} {K : St → Prop} {LO : Vo} {psl : List Tmp} (hL : LO = Vo.loop .ready none tml ⟨psl⟩ az bo d) (hβ : st.H β = some LO) (hn : tml.length = n) (ha : args.length = psl.length)
  (h1 : codeOk n az = true) (h2 : codeOk n bo = true)
  (h : ∀ LB LD, LB = Vo.loop .busy none tml ⟨psl⟩ az bo d → LD = (fun c => Vo.loop .done (some c) tml ⟨psl⟩ az bo d) →
   CWp P (G.at (some (some β))) n az (RndAs P G n β LB LO LD bo o st K) ⟨bc (roundTm tml psl args), st.H, st.nx, []⟩) : yieldK P G o β args st K := by
 unfold yieldK
 rw [hβ, hL]
 subst hn
 refine ⟨ha, (qa hm az _ _ h1 (h _ _ rfl rfl)).mono ?_⟩
 intro e s1 hs
 cases e with
 | normal =>
  obtain ⟨q1, q2⟩ := hs
  refine ⟨none, tml, ⟨psl⟩, az, bo, d, by rw [q1, hL], (qa hm bo _ _ h2 q2).mono ?_⟩
  intro e s2 kL
  cases e with
  | normal =>
   obtain ⟨r1, r2⟩ := kL
   refine ⟨_, _, _, _, _, _, _, r1, ?_⟩
   rw [hL] at r2
   exact r2
  | ret =>
   obtain ⟨r1, r2⟩ := kL
   exact ⟨_, _, _, _, _, _, _, r1, r2⟩
  | exit id =>
   obtain ⟨r1, r2⟩ := kL
   exact ⟨_, _, _, _, _, _, _, r1, r2⟩
  | goto l => exact kL.elim
  | panic x => exact kL.elim
 | _ => exact hs.elim
theorem GO {m t p : Nat} {x : VV} (h : t < m) : bc (roundTm (tmL m tm) [p] [x]) t = if t = p then x else tm t := by
 unfold bc roundTm tmL
 simp only [List.zip_cons_cons, List.zip_nil_right, List.foldl_cons, List.foldl_nil]
 by_cases hp : t = p
 ·subst hp
  rw [if_pos rfl]
  simp [h]
 ·rw [if_neg hp]
  simp [List.getElem?_set, h, Ne.symm hp]
theorem GM {m : Nat} : (tmL m tm).length = m := by simp [tmL]
theorem GN {code : Code} (F : (Nat → VV) → Prop) (hF : F tm) (h : ∀ tm, F tm → CWp P G n code Q ⟨tm, H, nx, df⟩) : CWp P G n code Q ⟨tm, H, nx, df⟩ := h tm hF
theorem O2 : aW (.yl β) = some [.yl β] := rfl
theorem O3 : (VV.yl β).leaf = true := rfl
def rg := (qZk @O2 (qZk @O3 @Li))
theorem yZ {fn : Func} (h : H β = some (.deferred (some []))) (h2 : OpenPostD P G fn R Rp .ret ⟨tm, updH H β (.deferred none), nx, df⟩) : OpenPostD P G fn R Rp .ret ⟨tm, H, nx, .coll β :: df⟩ := ⟨h, h2⟩
theorem GR {fn : Func} (h : H β = some (.deferred (some []))) (h2 : OpenPostD P G fn R Rp .normal ⟨tm, updH H β (.deferred none), nx, df⟩) : OpenPostD P G fn R Rp .normal ⟨tm, H, nx, .coll β :: df⟩ := ⟨h, h2⟩
end
end Go.V
end
section
namespace Go.V
open Go Go.Proofs IntKind Tryz
def sliceO {α : Type} (xs : List α) (lo hi : Int) : Option (List α) := if 0 ≤ lo ∧ lo ≤ hi ∧ hi ≤ xs.length then some ((xs.drop lo.toNat).take (hi - lo).toNat) else none
section
variable {P : Program} {G : Gb} {f : FuncId} {β γ w c nx : Nat} {tm : Nat → VV} {H : Nat → Option Vo} {df : List VDef} {d : Option Tmp} {K : List Nat → List Nat → St → Prop} {el : Option TypeId} {α : Type} {enc : α → List VV} {xs ys : List α} {x : VV}
end
section
variable {P : Program} {G : Gb} {β γ w e : Nat} {t ty : TypeId} {tm : Nat → VV} {H : Nat → Option Vo} {d : Option Tmp} {k : VV → Ve → Prop} {el : Option TypeId} {α : Type} {enc : α → List VV} {xs ys : List α} {pos : String} {af : Array Edge} {g : Option (Nat × Bool)} {x : Operand} {lo hi : Option Operand}
theorem O4 {lo hi : Int} (h : sliceO xs lo hi = some ys) : 0 ≤ lo ∧ lo ≤ hi ∧ hi ≤ xs.length ∧ ys = (xs.drop lo.toNat).take (hi - lo).toNat := by
 unfold sliceO at h
 split at h
 ·rename_i hc; cases h; exact ⟨hc.1, hc.2.1, hc.2.2, rfl⟩
 ·cases h
theorem k_slT {l r : Int} (hu : P.underlying t = some (.slice e)) (hs : szT P e = some w) (hw : ∀ x, (enc x).length = w) (hx : ev G tm x = .sl (ad enc xs) xs.length false)
  (hl : (lo.map (ev G tm) = none ∧ l = 0) ∨ ∃ kd, lo.map (ev G tm) = some (.lit (.int kd l))) (hr : (hi.map (ev G tm) = none ∧ r = xs.length) ∨ ∃ kd, hi.map (ev G tm) = some (.lit (.int kd r)))
  (ho : sliceO xs l r = some ys) (h : k (.sl (ad enc ys) ys.length false) .none) : oeK (vop P ⟨d, .slice t x lo hi none, ty, pos, af, g⟩ (ev G tm) H γ) k := by
 obtain ⟨h1, h2, h3, rfl⟩ := O4 ho
 have hl' : vbound 0 (lo.map (ev G tm)) = some l.toNat := by
  rcases hl with ⟨hz, rfl⟩ | ⟨kd, hz⟩
  ·rw [hz]; rfl
  ·rw [hz]; simp [vbound, h1]
 have hr' : vbound xs.length (hi.map (ev G tm)) = some r.toNat := by
  rcases hr with ⟨hz, rfl⟩ | ⟨kd, hz⟩
  ·rw [hz]; simp [vbound]
  ·rw [hz]; simp [vbound, show (0:Int) ≤ r by omega]
 have ba : ((xs.drop l.toNat).take (r - l).toNat).length = r.toNat - l.toNat := by
  rw [List.length_take, List.length_drop]; omega
 have hcs : ((ad enc xs).drop (l.toNat * w)).take ((r.toNat - l.toNat) * w) = ad enc ((xs.drop l.toNat).take (r - l).toNat) := by
  have h4 : xs = xs.take l.toNat ++ xs.drop l.toNat := (List.take_append_drop ..).symm
  have h5 := hU hw (xs.take l.toNat)
  have h6 : (xs.take l.toNat).length = l.toNat := by rw [List.length_take]; omega
  rw [h6] at h5
  have h7 : (ad enc xs).drop (l.toNat * w) = ad enc (xs.drop l.toNat) := by
   conv => lhs; rw [h4]
   rw [xY, ← h5, List.drop_left]
  rw [h7]
  generalize hz : xs.drop l.toNat = zs at ba ⊢
  have h8 : zs = zs.take (r - l).toNat ++ zs.drop (r - l).toNat := (List.take_append_drop ..).symm
  have h9 := hU hw (zs.take (r - l).toNat)
  rw [ba] at h9
  conv => lhs; rw [h8]
  rw [xY, ← h9, List.take_left]
 have e1 : vslice P H t (.sl (ad enc xs) xs.length false) (lo.map (ev G tm)) (hi.map (ev G tm)) none = some (.sl (ad enc ((xs.drop l.toNat).take (r - l).toNat)) ((xs.drop l.toNat).take (r - l).toNat).length false) := by
  have h10 : l.toNat ≤ r.toNat := by omega
  have h11 : r.toNat ≤ xs.length := by omega
  have h12 : vbound xs.length none = some xs.length := rfl
  simp only [vslice, hu, hs, sls, hl', hr', h12, h10, h11, qZh, true_and, if_true, Option.isSome_none, Bool.false_eq_true, false_imp_iff, Bool.false_and, Bool.and_false, Bool.or_false, hcs, ba]
 have e2 : vop P ⟨d, .slice t x lo hi none, ty, pos, af, g⟩ (ev G tm) H γ = some (.sl (ad enc ((xs.drop l.toNat).take (r - l).toNat)) ((xs.drop l.toNat).take (r - l).toNat).length false, .none) := by
  simp only [vop, hu, hx, Option.map_none, e1]
 rw [e2]
 exact h
end
section
variable {P : Program} {G : Gb} {f : FuncId} {γ nx : Nat} {tm : Nat → VV} {H : Nat → Option Vo} {df : List VDef} {d : Option Tmp} {x : VV}
theorem ktree0 {K : St → Prop} {Qp : VV → St → Prop} (hp : ah P G f [] (.tree x)) (h : fin d γ tm H nx df K x .none) : callK P G f [] ⟨tm, H, nx, df⟩ d γ K Qp := ktree (args0 := []) rfl rfl hp h
end
end Go.V
end
section
namespace Go.V
open Go Go.Proofs IntKind Tryz
variable {P : Program} {G : Gb} {β γ w e n off : Nat} {t ty : TypeId} {tm : Nat → VV} {H : Nat → Option Vo} {d : Option Tmp} {k : VV → Ve → Prop} {el : Option TypeId} {cs : List VV} {pos : String} {af : Array Edge} {g : Option (Nat × Bool)} {x : Operand}
end Go.V
namespace Go.V
open Go Go.Proofs IntKind Tryz
end Go.V
end
section
namespace Go.V
open Go Go.Proofs IntKind Tryz

end Go.V
end
section
set_option linter.defProp false
namespace Go.V
open Go Go.Proofs IntKind Tryz
section
variable {P : Program} {H : Nat → Option Vo} {t : TypeId} {x y : Operand} {k : IntKind} {a b : Int}
theorem O5 (h : (b != 0) = true) : binV P H .quo t x y (.lit (.int k a)) (.lit (.int k b)) = some (.lit (.int k (k.wrap (a.tdiv b)))) := by
 have : b ≠ 0 := by simpa using h
 simp [binV, VV.val?, vbin, ofVal, ofVal2, ofVal1, this]
theorem O6 (h : (b != 0) = true) : binV P H .rem t x y (.lit (.int k a)) (.lit (.int k b)) = some (.lit (.int k (a.tmod b))) := by
 have : b ≠ 0 := by simpa using h
 simp [binV, VV.val?, vbin, ofVal, ofVal2, ofVal1, this]
theorem O7 : unV P .neg (.lit (.int k a)) = some (.lit (.int k (k.wrap (-a)))) := by simp [unV, VV.val?, Op.unary, Op.intArith, jz, ofVal, ofVal2, ofVal1]
theorem O8 {a b : ByteArray} : binV P H .eql t x y (.lit (.string a)) (.lit (.string b)) = some (.lit (.bool (a.toList == b.toList))) := by simp [binV, VV.val?, vbin, ofVal, ofVal2, ofVal1]
theorem O9 {a b : ByteArray} : binV P H .neq t x y (.lit (.string a)) (.lit (.string b)) = some (.lit (.bool (!(a.toList == b.toList)))) := by simp [binV, VV.val?, vbin, ofVal, ofVal2, ofVal1]
def qr := (qZk (qZk @O5 @O6) (qZk @O7 (qZk @O8 @O9)))
end
end Go.V
end
section
namespace Go.V
open Go Go.Proofs IntKind Tryz
section
variable {P : Program} {G : Gb} {ops : Array Oper} {aa : Nat} {Q : Vx → St → Prop} {n : Nat}
end
end Go.V
namespace Go.V
open Go Go.Proofs IntKind Tryz
section
variable {P : Program} {G : Gb} {ops : Array Oper} {aa : Nat} {Q : Vx → St → Prop} {n : Nat}
end
section
variable {P : Program} {G : Gb} {ops : Array Oper} {aa : Nat} {Q : Vx → St → Prop} {n : Nat} {i m b : Nat} {o : Oper} {l l2 : List Oper} {mk mE mL : List Bool} {tr : Tr} {K : Tr → St → Prop} {tm : Nat → VV} {H : Nat → Option Vo} {nx : Nat} {df : List VDef} {st : St} {rest : List (List Bool × Nat)}
end
end Go.V
namespace Go.V
set_option linter.defProp false
end Go.V
end
section
namespace Go.V
open Go Go.Proofs IntKind Tryz
def gone (H H' : Nat → Option Vo) : Nat → Option Vo := fun β => if (H' β).isSome then none else H β
theorem ai.gone (H H' : Nat → Option Vo) : ai (gone H H') H := fun x o h => by
 unfold Go.V.gone at h
 split at h
 ·cases h
 ·exact h
def Frozen (H H' : Nat → Option Vo) (x y : VV) : Prop := y = x ∨ y = .any ∨ ∃ n, sealV (gone H H') n x = some y
def aP (H H' : Nat → Option Vo) : List VV → List VV → Prop
 | [], [] => True
 | x :: xs, y :: ys => Frozen H H' x y ∧ aP H H' xs ys
 | _, _ => False
def FrozenO (H H' : Nat → Option Vo) (o o' : Vo) : Prop := o' = o ∨ ∃ el cs cs', o = .cells el cs ∧ o' = .cells el cs' ∧ aP H H' cs cs'
def Ctx.frz (c : Ctx) (H' : Nat → Option Vo) : Ctx := { c with H := H', A := fun b => c.A b ∨ ∃ β, c.live β ∧ (H' β).isSome = false ∧ c.φ β = b }
section
variable {c : Ctx} {W : World} {H' : Nat → Option Vo}
theorem zb (hl : ∀ β, (H' β).isSome = true → c.live β) : Abides c W (c.frz H') W := ⟨fun _ h => .inl h, fun _ _ => rfl, fun _ h => h, fun β _ h => hl β h, fun _ _ _ => rfl, fun _ _ _ => rfl⟩
theorem u9 (hl : ∀ β, (H' β).isSome = true → c.live β) : Ext c W (c.frz H') W where
 A _ h := .inl h
 newA b h := h.imp id fun ⟨β, h1, _, e⟩ => .inr ⟨β, h1, e⟩
 used _ h := h
 live β _ h := hl β h
 φ _ _ _ := rfl
 room _ _ _ := rfl
 keep _ _ _ := rfl
 old x h _ := ⟨x, hl x h, rfl⟩
 size := qZh _
 os := rfl
 tape := rfl
 output := rfl
theorem GZ (s : Sim c W) (hl : ∀ β, (H' β).isSome = true → c.live β) {x y : VV} {v : Value} (h : Frozen c.H H' x y) (hr : Rep c W x v) : Rep (c.frz H') W y v := by
 rcases h with rfl | rfl | ⟨n, hn⟩
 ·exact Rep.abides (zb hl) _ hr
 ·unfold Rep; trivial
 ·have h1 := (rA s (ai.gone c.H H') n).1 x v y hn hr
  refine Rep.abides (mU fun b hb => ?_) _ h1
  rcases hb with hb | ⟨β, hβ, e⟩
  ·exact .inl hb
  ·refine .inr ⟨β, ?_, ?_, e⟩
   ·unfold Go.V.gone at hβ
    split at hβ
    ·cases hβ
    ·exact hβ
   ·cases h0 : (H' β).isSome with
    | false => rfl
    | true => unfold Go.V.gone at hβ; rw [h0] at hβ; cases hβ
theorem OA (s : Sim c W) (hl : ∀ β, (H' β).isSome = true → c.live β) : ∀ {xs ys : List VV} {l : List Value}, aP c.H H' xs ys → Rl c W xs l → Rl (c.frz H') W ys l
 | [], [], _, _, h => h
 | _ :: _, _ :: _, _, ⟨h1, h2⟩, ⟨u, us, e, r1, r2⟩ => ⟨u, us, e, GZ s hl h1 r1, OA s hl h2 r2⟩
 | [], _ :: _, _, h, _ => h.elim
 | _ :: _, [], _, h, _ => h.elim
theorem aP.length {H H' : Nat → Option Vo} : ∀ {xs ys : List VV}, aP H H' xs ys → ys.length = xs.length
 | [], [], _ => rfl
 | _ :: _, _ :: _, h => by simp [aP.length h.2]
 | [], _ :: _, h => h.elim
 | _ :: _, [], h => h.elim
theorem Sim.frz (s : Sim c W) (ho : ∀ β o', H' β = some o' → ∃ o, c.H β = some o ∧ FrozenO c.H H' o o') (hloop : ∀ x st pe tm ps asg bo df, H' x = some (.loop st pe tm ps asg bo df) → isDef H' df) : Sim (c.frz H') W := by
 have hl : ∀ β, (H' β).isSome = true → c.live β := by
  intro β h
  obtain ⟨o', h'⟩ := Option.isSome_iff_exists.1 h
  obtain ⟨o, h1, _⟩ := ho β o' h'
  simp [Ctx.live, h1]
 have ab : Abides c W (c.frz H') W := zb hl
 refine ⟨fun x h => s.used x (hl x h), fun x ox hx => ?_, fun x h => s.lt x (hl x h), fun x h => ?_, fun x y hx hy e => s.inj x y (hl x hx) (hl y hy) e, fun b hb => ?_⟩
 ·have gp : H' x = some ox := hx
  obtain ⟨o, h1, hf⟩ := ho x ox gp
  rcases hf with rfl | ⟨el, cs, cs', rfl, rfl, hcs⟩
  ·refine (s.obj x _ h1).abides ab (s.used x (hl x (by simp [gp]))) (by simp [Ctx.live, Ctx.frz, gp]) rfl ?_
   intro st pe tm ps asg bo df e'
   subst e'
   exact hloop x st pe tm ps asg bo df gp
  ·obtain ⟨arr, e, a1, a2, a3, a4, a5⟩ := s.obj x _ h1
   exact ⟨arr, e, a1, a2, by rw [hcs.length]; exact a3, by rw [hcs.length]; exact OA s hl hcs a4, a5⟩
 ·rintro (hA | ⟨β, h1, hn, e⟩)
  ·exact s.notA x (hl x h) hA
  ·have := s.inj β x h1 (hl x h) e
   subst this
   have h' : (H' β).isSome = true := h
   rw [h'] at hn; cases hn
 ·rcases hb with hA | ⟨β, h1, _, e⟩
  ·exact s.ltA b hA
  ·rw [← e]; exact s.lt β h1
end
theorem VWp.freeze {P : Program} {G : Gb} {n : Nat} {code : Code} {Q : Vx → St → Prop} {st : St} (H' : Nat → Option Vo) (tm' : Nat → VV) (ho : ∀ β o', H' β = some o' → ∃ o, st.H β = some o ∧ FrozenO st.H H' o o') (hloop : ∀ x s pe tm ps asg bo df, H' x = some (.loop s pe tm ps asg bo df) → isDef H' df)
  (htm : ∀ t, Frozen st.H H' (st.tm t) (tm' t)) (h : VWp P G n code Q ⟨tm', H', st.nx, st.df⟩) : VWp P G n code Q st := by
 intro ro c W a hro s hr hsz
 have ho' : ∀ β o', H' β = some o' → ∃ o, c.H β = some o ∧ FrozenO c.H H' o o' := by rw [hr.H]; exact ho
 have hl : ∀ β, (H' β).isSome = true → c.live β := by
  intro β h
  obtain ⟨o', h'⟩ := Option.isSome_iff_exists.1 h
  obtain ⟨o, h1, _⟩ := ho' β o' h'
  simp [Ctx.live, h1]
 have he : Ext c W (c.frz H') W := u9 hl
 have ab : Abides c W (c.frz H') W := zb hl
 refine wpIn_mono (h ro (c.frz H') W a (hro.ext he) (s.frz ho' hloop) ⟨rfl, fun t => ?_, hr.nx, hr.df.abides ab, hr.G.abides ab⟩ hsz) fun _ _ _ hl => hl.of_ext he (fun β hb => .inl hb) (qZh _)
 exact GZ s hl (by rw [hr.H]; exact htm t) (hr.tm t)
end Go.V
end
section
namespace Go.V
open Go Go.Proofs IntKind Tryz
def Yields (P : Program) (G : Gb) (β : Nat) (x : VV) (H : Nat → Option Vo) (nx : Nat) (Post : Bool → (Nat → Option Vo) → Nat → Prop) : Prop :=
 ∀ (r : Option (Option Nat)) (o : Oper) (st : St) (K : St → Prop), st.H = H → st.nx = nx → (∀ b H' nx', Post b H' nx' → K ⟨(match o.dst with | some d => upd st.tm d (.lit (.bool b)) | none => st.tm), H', nx', st.df⟩) → yieldK P (G.at r) o β [x] st K
abbrev Inv := Option (List VV) → (Nat → Prop) → (Nat → Option Vo) → Nat → Prop
def Stable (I : Inv) : Prop := ∀ o (Fr yb : Nat → Prop) (H H1 : Nat → Option Vo) (nx bj : Nat), I o Fr H nx → (∀ γ, γ < nx → ¬ Fr γ → H1 γ = H γ) → nx ≤ bj → (∀ γ, yb γ → Fr γ ∨ (nx ≤ γ ∧ γ < bj)) → I o yb H1 bj
def Rounds (P : Program) (G : Gb) (β : Nat) (I : Inv) : Prop := ∀ x rest (Fr : Nat → Prop) (H : Nat → Option Vo) (nx : Nat), (∀ γ, Fr γ → γ < nx) → I (some (x :: rest)) Fr H nx →
 Yields P G β x H nx (fun b H' nx' => nx ≤ nx' ∧ (∀ γ, Fr γ → H' γ = H γ) ∧ I (if b then some rest else none) Fr H' nx')
def noFr : Nat → Prop := fun _ => False
def Iter (P : Program) (G : Gb) (g : VV) (L : List VV) : Prop := ∃ f first captured, g = .fn (.func f) first captured ∧ ∀ (β : Nat) (I : Inv), Stable I → Rounds P G β I → ∀ (H : Nat → Option Vo) (nx : Nat), β < nx → I (some L) noFr H nx →
 aU P G f (first ++ [.yl β] ++ captured) H nx (fun _ H' nx' => I (some []) noFr H' nx' ∨ I none noFr H' nx') (fun _ _ _ => False)
def Own (hp : List (Nat × Vo)) (Fr : Nat → Prop) (H : Nat → Option Vo) (nx : Nat) : Prop := ∀ p ∈ hp, p.1 < nx ∧ ¬ Fr p.1 ∧ H p.1 = some p.2
variable {hp : List (Nat × Vo)} {Fr : Nat → Prop} {H : Nat → Option Vo}
theorem Own.stable {yb : Nat → Prop} {H1 : Nat → Option Vo} {nx bj : Nat} (h : Own hp Fr H nx) (h1 : ∀ γ, γ < nx → ¬ Fr γ → H1 γ = H γ) (h2 : nx ≤ bj) (h3 : ∀ γ, yb γ → Fr γ ∨ (nx ≤ γ ∧ γ < bj)) : Own hp yb H1 bj := by
 intro p hp
 obtain ⟨a, b, c⟩ := h p hp
 refine ⟨qZd a h2, fun hf => ?_, by rw [h1 p.1 a b]; exact c⟩
 rcases h3 p.1 hf with hf | hf
 ·exact b hf
 ·omega
theorem Own.nil {nx : Nat} : Own [] Fr H nx := fun _ h => by cases h
theorem Own.cons {p : Nat} {o : Vo} {hp : List (Nat × Vo)} {Fr : Nat → Prop} {H : Nat → Option Vo} {nx : Nat} (h1 : p < nx) (h2 : ¬ Fr p) (h3 : H p = some o) (h : Own hp Fr H nx) : Own ((p, o) :: hp) Fr H nx := by
 intro q hq
 rcases List.mem_cons.1 hq with rfl | hq
 ·exact ⟨h1, h2, h3⟩
 ·exact h q hq
theorem Own.head {p : Nat} {o : Vo} {nx : Nat} (h : Own ((p, o) :: hp) Fr H nx) : p < nx ∧ ¬ Fr p ∧ H p = some o := h (p, o) (qZb ..)
theorem Own.tail {p : Nat} {o : Vo} {nx : Nat} (h : Own ((p, o) :: hp) Fr H nx) : Own hp Fr H nx := fun q hq => h q (qZa _ hq)
def ownI (J : Option (List VV) → List (Nat × Vo) → Prop) : Inv := fun o Fr H nx => ∃ hp, Own hp Fr H nx ∧ J o hp
theorem SS {J : Option (List VV) → List (Nat × Vo) → Prop} : Stable (ownI J) := fun _ _ _ _ _ _ _ ⟨hp, h, hj⟩ h1 h2 h3 => ⟨hp, h.stable h1 h2 h3, hj⟩
def ownI2 (I : Inv) (J : Option (List VV) → Option (List VV) → List (Nat × Vo) → Prop) : Inv := fun o Fr H nx => ∃ hp o', Own hp Fr H nx ∧ J o o' hp ∧ I o' (fun γ => Fr γ ∨ ∃ p ∈ hp, p.1 = γ) H nx
theorem WL {I : Inv} (hs : Stable I) {J : Option (List VV) → Option (List VV) → List (Nat × Vo) → Prop} : Stable (ownI2 I J) := by
 rintro o Fr yb H H1 nx bj ⟨hp, o', h, hj, hi⟩ h1 h2 h3
 refine ⟨hp, o', h.stable h1 h2 h3, hj, hs _ _ _ _ _ _ _ hi (fun γ hlt hn => h1 γ hlt fun hf => hn (.inl hf)) h2 ?_⟩
 rintro γ (hf | hf)
 ·rcases h3 γ hf with hf | hf
  ·exact .inl (.inl hf)
  ·exact .inr hf
 ·exact .inl (.inr hf)
section
variable {P : Program} {G : Gb} {n : Nat} {Q : Vx → St → Prop} {tm : Nat → VV} {H : Nat → Option Vo} {nx : Nat} {df : List VDef} {g : Operand} {ps : Array Tmp} {az bo : Code}
def RPost (β : Nat) (LB LO : Vo) (LD : Code → Vo) (Post : Bool → (Nat → Option Vo) → Nat → Prop) : Vx → St → Prop
 | .normal, s => s.H β = some LB ∧ Post true (updH s.H β LO) s.nx
 | .ret, s => s.H β = some LB ∧ Post false (updH s.H β (LD .ret)) s.nx
 | .exit id, s => s.H β = some LB ∧ Post false (updH s.H β (LD (.exit id))) s.nx
 | _, _ => False
def RStart (P : Program) (G : Gb) (n β : Nat) (LB LO : Vo) (LD : Code → Vo) (bo : Code) (Post : Bool → (Nat → Option Vo) → Nat → Prop) : Vx → St → Prop
 | .normal, s => s.H β = some LO ∧ CWp P (G.at (some (some β))) n bo (RPost β LB LO LD Post) { s with H := updH s.H β LB }
 | _, _ => False
theorem GL (hm : P.follows .mixedOrders = true) {β : Nat} {x : VV} {Post : Bool → (Nat → Option Vo) → Nat → Prop} {LO : Vo} {tml : List VV} {d : Nat} {psl : List Tmp} (hL : LO = Vo.loop .ready none tml ⟨psl⟩ az bo d) (hβ : H β = some LO) (hn : tml.length = n) (ha : psl.length = 1)
  (h1 : codeOk n az = true) (h2 : codeOk n bo = true)
  (h : ∀ LB LD, LB = Vo.loop .busy none tml ⟨psl⟩ az bo d → LD = (fun c => Vo.loop .done (some c) tml ⟨psl⟩ az bo d) →
   CWp P (G.at (some (some β))) n az (RStart P G n β LB LO LD bo Post) ⟨bc (roundTm tml psl [x]), H, nx, []⟩) : Yields P G β x H nx Post := by
 intro r o st K e1 e2 hk
 subst e1 e2
 replace hk : ∀ b H' nx', Post b H' nx' → K { st.put o.dst (.lit (.bool b)) with H := H', nx := nx' } := by
  intro b H' nx' hp
  have := hk b H' nx' hp
  obtain ⟨d, op, ty, pos, af, gd⟩ := o
  cases d <;> exact this
 refine O1 hm hL hβ hn (by simp [ha]) h1 h2 fun LB LD hB hD => ?_
 refine CWp.mono az _ ?_ (h LB LD hB hD)
 intro e s hs
 cases e with
 | normal =>
  refine ⟨hs.1, CWp.mono bo _ ?_ hs.2⟩
  intro e s2 kL
  cases e with
  | normal => exact ⟨kL.1, hk _ _ _ kL.2⟩
  | ret => exact ⟨kL.1, hk _ _ _ kL.2⟩
  | exit id => exact ⟨kL.1, hk _ _ _ kL.2⟩
  | goto l => exact kL.elim
  | panic x => exact kL.elim
 | _ => exact hs.elim
theorem GK {itv : VV} {L : List VV} (hit : Iter P G itv L) (hg : ev (G.at (some none)) tm g = itv)
  (h : ∀ LO, LO = Vo.loop .ready none (tmL n tm) ps az bo nx → ∃ I : Inv, Stable I ∧ Rounds P G (nx + 1) I ∧ I (some L) noFr (updH (updH H nx (.deferred (some []))) (nx + 1) LO) (nx + 2) ∧
   ∀ H' nx', I (some []) noFr H' nx' ∨ I none noFr H' nx' → RangeEnd P (G.at (some none)) n Q ⟨tm, H, nx, df⟩ H' nx') : CWp P (G.at (some none)) n (.rangeFunc g ps az bo) Q ⟨tm, H, nx, df⟩ := by
 obtain ⟨f, first, captured, rfl, hv⟩ := hit
 refine O0 hg fun LO hL => ?_
 obtain ⟨I, hs, hr, h0, he⟩ := h LO hL
 exact aU.mono (hv (nx + 1) I hs hr _ _ (qZc _) h0) (fun _ H' nx' hh => he H' nx' hh) (fun _ _ _ hh => hh.elim)
end
end Go.V
end
section
namespace Go.V
open Go Go.Proofs IntKind Tryz
variable {H : Nat → Option Vo} {el : Option TypeId} {cs : List VV}
theorem aU.freeze1 {P : Program} {G : Gb} {f : FuncId} {args args' : List VV} {nx γ : Nat} {R Rp : VV → (Nat → Option Vo) → Nat → Prop} (hγ : H γ = some (.cells el cs))
  (ha : aP H (without H γ) args args') (h : aU P G f args' (without H γ) nx R Rp) : aU P G f args H nx R Rp := by
 refine ⟨h.1, fun c W vs s hH hnx hG bz => ?_⟩
 subst hH
 have ho' : ∀ β o', without c.H γ β = some o' → ∃ o, c.H β = some o ∧ FrozenO c.H (without c.H γ) o o' := fun β o' hb => ⟨o', ai.without _ _ β o' hb, .inl rfl⟩
 have hl : ∀ β, (without c.H γ β).isSome = true → c.live β := by
  intro β h
  obtain ⟨o', h'⟩ := Option.isSome_iff_exists.1 h
  obtain ⟨o, h1, _⟩ := ho' β o' h'
  simp [Ctx.live, h1]
 have he : Ext c W (c.frz (without c.H γ)) W := u9 hl
 have ab : Abides c W (c.frz (without c.H γ)) W := zb hl
 have hloop : ∀ x st pe tm ps asg bo df, without c.H γ x = some (.loop st pe tm ps asg bo df) → isDef (without c.H γ) df := by
  intro x st pe tm ps asg bo df hx
  obtain ⟨l, fn, _, _, _, hd⟩ := s.obj x _ (ai.without _ _ x _ hx)
  exact hd.without hγ
 refine (h.2 (c.frz (without c.H γ)) W vs (s.frz ho' hloop) rfl hnx (hG.abides ab) (OA s hl ha bz)).mono ?_
 rintro e W' ⟨c', H1, nx', g1, g2, g3, g4, g5, g6, g7⟩
 exact ⟨c', H1, nx', he.trans g1, g2, g3, g4, g5, g6, g7⟩
variable {H' : Nat → Option Vo}
theorem Frozen.same {x : VV} : Frozen H H' x x := .inl rfl
theorem aP.same : ∀ {xs : List VV}, aP H H' xs xs
 | [] => trivial
 | _ :: _ => ⟨.same, .same⟩
theorem Frozen.own {γ n w cp : Nat} (hγ : H γ = some (.cells el cs)) (ht : tl cs = true) (hl : cs.length = n * w) : Frozen H (without H γ) (.ref γ 0 n w cp) (.sl cs n false) := by
 refine .inr (.inr ⟨cs.length + 2, ?_⟩)
 have hg : gone H (without H γ) γ = some (.cells el cs) := by simp [gone, without, hγ]
 unfold sealV
 have : (VV.ref γ 0 n w cp).tree = false := rfl
 rw [this]
 simp only [Bool.false_eq_true, if_false, hg, Nat.zero_le, if_true, List.drop_zero]
 rw [List.take_of_length_le (by omega), qF cs _ ht (by omega)]
 rfl
def vx {α : Type} (enc : α → List VV) : List α → VV
 | [] => .lit (.slice none 0 0)
 | l => .sl (ad enc l) l.length false
theorem xQ {α : Type} {enc : α → List VV} {l : List α} (h : l ≠ []) : vx enc l = .sl (ad enc l) l.length false := by cases l with
 | nil => exact absurd rfl h
 | cons a l => rfl
end Go.V
namespace Go.V
theorem Gz {α : Type} {enc : α → List VV} (he : EncOk enc) : ∀ {l : List α}, (vx enc l).tree = true
 | [] => rfl
 | a :: l => he.treeL (a :: l)
end Go.V
namespace Go.V
def lessN (H : Nat → Option Vo) (ns : List Nat) : Nat → Option Vo := fun γ => if γ ∈ ns then none else H γ
theorem U5 {H : Nat → Option Vo} {ns : List Nat} : ai (lessN H ns) H := fun x o h => by
 unfold lessN at h
 split at h
 ·cases h
 ·exact h
abbrev sI (l : List Int) : VV := .sl (ad eI l) l.length false
end Go.V
namespace Go.V
end Go.V
namespace Go.V
end Go.V
namespace Go.V
theorem ktreeR {P : Program} {G : Gb} {γ : Nat} {tm : Nat → VV} {H : Nat → Option Vo} {nx : Nat} {df : List VDef} {d : Option Tmp} {K : St → Prop} {Qp : VV → St → Prop} {f : FuncId} {args : List VV} {x : VV} (ht : tl args = true) (hp : ah P G f args (.tree x)) (h : fin d γ tm H nx df K x .none) : callK P G f args ⟨tm, H, nx, df⟩ d γ K Qp := by
 refine .inl ⟨ht, .tree x, hp, ?_⟩
 rw [← iV (K := K), ki] at h
 exact h
end Go.V
namespace Go.V
theorem Frozen.ptr {H H' : Nat → Option Vo} {γ : Nat} {el : Option TypeId} {cs : List VV} (hγ : H γ = some (.cells el cs)) (hn : (H' γ).isSome = false) (ht : tl cs = true) : Frozen H H' (.ptr γ 0) (.tp cs) := by
 refine .inr (.inr ⟨cs.length + 2, ?_⟩)
 have hg : gone H H' γ = some (.cells el cs) := by simp [gone, hn, hγ]
 unfold sealV
 have : (VV.ptr γ 0).tree = false := rfl
 rw [this]
 simp only [Bool.false_eq_true, if_false, hg, Nat.zero_le, if_true, List.drop_zero]
 rw [qF cs _ ht (by omega)]
 rfl
end Go.V
end
section
namespace Go.V
open Go Go.Proofs IntKind Tryz
section
variable {P : Program} {G : Gb} {H : Nat → Option Vo} {γ : Nat} {α : Type} {enc : α → List VV} {t t2 e e2 w b : Nat} {xs ys : List α} {el : Option TypeId} {β : Nat} {f : Bool} {k : VV → Ve → Prop}
end
end Go.V
namespace Go.V
open Go Go.Proofs IntKind Tryz
end Go.V
namespace Go.V
open Go Go.Proofs IntKind Tryz
end Go.V
namespace Go.V
open Go Go.Proofs IntKind Tryz
set_option linter.defProp false
end Go.V
end
section
set_option linter.defProp false
namespace Go.V
open Go Go.Proofs IntKind Tryz
def kIdx {K : Type} (q : K → K → Bool) (k : K) : List K → Nat → Option Nat
 | [], _ => none
 | e :: es, i => cond (q k e) (some i) (kIdx q k es (i + 1))
theorem Eu {K : Type} {q : K → K → Bool} {k : K} : ∀ (es : List K) (i j : Nat), kIdx q k es i = some j → i ≤ j ∧ ∃ e, es[j - i]? = some e ∧ q k e = true
 | [], _, _, h => by cases h
 | e :: es, i, j, h => by
  unfold kIdx at h
  cases hq : q k e with
  | true =>
   rw [hq] at h
   simp only [cond_true, Option.some.injEq] at h
   subst h
   exact ⟨qZh _, e, by simp, hq⟩
  | false =>
   rw [hq] at h
   simp only [cond_false] at h
   obtain ⟨h1, x, h2, h3⟩ := Eu es (i + 1) j h
   refine ⟨by omega, x, ?_, h3⟩
   rw [show j - i = (j - (i + 1)) + 1 by omega]
   simpa using h2
def mapGet {K V : Type} (q : K → K → Bool) (z : V) (l : List (K × V)) (k : K) : V := match kIdx q k (l.map (·.1)) 0 with
 | some i => match l[i]? with | some p => p.2 | none => z
 | none => z
def mapSet {K V : Type} (q : K → K → Bool) (l : List (K × V)) (k : K) (v : V) : List (K × V) := match kIdx q k (l.map (·.1)) 0 with
 | some i => l.set i (k, v)
 | none => l ++ [(k, v)]
def encM {K V : Type} (kv : K → Value) (ev : V → VV) (l : List (K × V)) : List (Value × VV) := l.map fun p => (kv p.1, ev p.2)
variable {fs : Array Field}
section
variable {P : Program} {K V : Type} {q : K → K → Bool} {kv : K → Value} {ev : V → VV} {t kt et : TypeId} {H : Nat → Option Vo} {β : Nat}
theorem Vl (he : ∀ a b, aA P (Op.equal kt (kv a) (kv b)) = some (q a b)) (k : K) : ∀ (ks : List K) (i : Nat), aA P (Instr.findAsking kt (kv k) ((ks.map kv).map dummy) i) = some ((kIdx q k ks i).map fun j => (j, Value.bool false))
 | [], i => rfl
 | e :: es, i => by
  simp only [List.map_cons, Instr.findAsking, kIdx]
  rw [dM]
  have h0 : aA P (Op.equal kt (kv k) (dummy (kv e)).key) = some (q k e) := he k e
  rw [h0, Option.bind_some]
  cases q k e with
  | true => rfl
  | false => exact Vl he k es (i + 1)
theorem wu (hu : P.underlying kt = some (.struct fs)) (he : ∀ a b, aA P (Op.equal kt (kv a) (kv b)) = some (q a b)) (k : K) (ks : List K) : kfind P kt (kv k) (ks.map kv) = some (kIdx q k ks 0) := by
 unfold kfind Instr.findKey
 rw [dM, xT hu, Option.bind_some]
 have ha := Vl he k ks 0
 cases ks with
 | nil => rfl
 | cons e es =>
  have hn : Instr.findNow (.struct fs) (kv k) (((e :: es).map kv).map dummy) 0 = none := by
   simp only [List.map_cons, Instr.findNow]
   have : Instr.sameNow (.struct fs) (kv k) (dummy (kv e)).key = none := by cases kv k <;> rfl
   rw [this]
  rw [hn]
  simp only []
  rw [ha]
  cases kIdx q k (e :: es) 0 <;> rfl
theorem OB {l : List (K × V)} : (encM kv ev l).map (·.1) = (l.map (·.1)).map kv := by simp [encM, Function.comp_def]
theorem OC {z : V} (hm : P.underlying t = some (.map kt et)) (hu : P.underlying kt = some (.struct fs)) (he : ∀ a b, aA P (Op.equal kt (kv a) (kv b)) = some (q a b)) (hc : ∀ b k, aA P (Instr.checkKey b 10000 kt (kv k)) = some ())
  (hz : ((P.info? et).bind (·.zero)).map ofVal2 = some (ev z)) {l : List (K × V)} {kx : VV} {k : K} (hk : kx.val? = some (kv k)) (hb : H β = some (.map (encM kv ev l))) :
  vlookup P H t (.mp β) kx false = some (ev (mapGet q z l k)) := by
 unfold vlookup
 rw [hm, hk]
 simp only [mapOf, hb]
 rw [hc, OB, wu hu he]
 cases hzz : (P.info? et).bind (·.zero) with
 | none => rw [hzz] at hz; cases hz
 | some z0 =>
  rw [hzz] at hz
  simp only [Option.map_some, Option.some.injEq] at hz
  unfold mapGet
  cases hi : kIdx q k (l.map (·.1)) 0 with
  | none => simp only [Bool.false_eq_true, if_false]; exact congrArg some hz
  | some i =>
   obtain ⟨_, e, h1, _⟩ := Eu _ _ _ hi
   rw [Nat.sub_zero, List.getElem?_map] at h1
   cases hl : l[i]? with
   | none => rw [hl] at h1; cases h1
   | some p =>
    have : (encM kv ev l)[i]? = some (kv p.1, ev p.2) := by unfold encM; rw [List.getElem?_map, hl]; rfl
    simp only [this, hl, Bool.false_eq_true, if_false]
theorem Jy (hm : P.underlying t = some (.map kt et)) (hu : P.underlying kt = some (.struct fs)) (he : ∀ a b, aA P (Op.equal kt (kv a) (kv b)) = some (q a b)) (hc : ∀ b k, aA P (Instr.checkKey b 10000 kt (kv k)) = some ())
  (hq : ∀ a b, q a b = true → a = b) (hs : ∀ a, Instr.sameBits 10000 (kv a) (kv a) = true) {l : List (K × V)} {kx : VV} {k : K} {v : V} (hk : kx.val? = some (kv k)) (hb : H β = some (.map (encM kv ev l))) :
  vmapUpdate P H t (.mp β) kx (ev v) = some (.upd β (.map (encM kv ev (mapSet q l k v)))) := by
 unfold vmapUpdate
 rw [hm, hk]
 simp only [hb]
 rw [hc, OB, wu hu he]
 unfold mapSet
 cases hi : kIdx q k (l.map (·.1)) 0 with
 | none => simp only [encM, List.map_append, List.map_cons, List.map_nil]
 | some i =>
  obtain ⟨_, e, h1, h2⟩ := Eu _ _ _ hi
  rw [Nat.sub_zero, List.getElem?_map] at h1
  cases hl : l[i]? with
  | none => rw [hl] at h1; cases h1
  | some p =>
   have h3 : (encM kv ev l)[i]? = some (kv p.1, ev p.2) := by unfold encM; rw [List.getElem?_map, hl]; rfl
   rw [hl] at h1
   simp only [Option.map_some, Option.some.injEq] at h1
   have h4 := hq _ _ h2
   subst h4
   subst h1
   simp only [h3, hs, if_true]
   simp only [encM, List.map_set]
end
variable {t : TypeId} {x k m : Operand} {ok : Bool} {β : Nat}
section
variable {P : Program} {G : Gb} {γ : Nat} {tm : Nat → VV} {H : Nat → Option Vo} {nx : Nat} {df : List VDef} {K : St → Prop} {Kd : List Nat → List Nat → St → Prop} {Qp : VV → St → Prop}
 {d : Option Tmp} {ty : TypeId} {pos : String} {af : Array Edge} {g : Option (Nat × Bool)}
theorem zwz : aX P G γ ⟨d, .makeMap t none, ty, pos, af, g⟩ ⟨tm, H, nx, df⟩ K Qp = fin d γ tm H nx df K (.mp γ) (.new (.map [])) := by
 rw [iP (by simp) (by simp) (by simp)]; rfl
theorem OD : aX P G γ ⟨d, .lookup t x k ok, ty, pos, af, g⟩ ⟨tm, H, nx, df⟩ K Qp = oK (vlookup P H t (ev G tm x) (ev G tm k) ok) (fun y => fin d γ tm H nx df K y .none) := by
 rw [iP (by simp) (by simp) (by simp)]; simp only [vop]; exact rp
theorem zvi : aM P G γ ⟨d, .makeMap t none, ty, pos, af, g⟩ ⟨tm, H, nx, df⟩ Kd = fin d γ tm H nx df (Kd (rdV ⟨d, .makeMap t none, ty, pos, af, g⟩ (ev G tm)) [γ]) (.mp γ) (.new (.map [])) := by
 rw [iW (by simp)]; rfl
theorem zyc : aM P G γ ⟨d, .lookup t x k ok, ty, pos, af, g⟩ ⟨tm, H, nx, df⟩ Kd = oK (vlookup P H t (ev G tm x) (ev G tm k) ok) (fun y => fin d γ tm H nx df (Kd (rdV ⟨d, .lookup t x k ok, ty, pos, af, g⟩ (ev G tm)) []) y .none) := by
 rw [iW (by simp)]; simp only [vop]
 cases vlookup P H t (ev G tm x) (ev G tm k) ok <;> rfl
def umK (o : Option Ve) (k : Ve → Prop) : Prop := match o with | some e => k e | none => False
theorem OE {e : Ve} {k : Ve → Prop} : umK (some e) k = k e := rfl
theorem zsw : aX P G γ ⟨d, .mapUpdate t m k x, ty, pos, af, g⟩ ⟨tm, H, nx, df⟩ K Qp = umK (vmapUpdate P H t (ev G tm m) (ev G tm k) (ev G tm x)) (fun e => fin d γ tm H nx df K .any e) := by
 rw [iP (by simp) (by simp) (by simp)]; simp only [vop]
 cases vmapUpdate P H t (ev G tm m) (ev G tm k) (ev G tm x) <;> rfl
theorem zqe : aM P G γ ⟨d, .mapUpdate t m k x, ty, pos, af, g⟩ ⟨tm, H, nx, df⟩ Kd = umK (vmapUpdate P H t (ev G tm m) (ev G tm k) (ev G tm x)) (fun e => fin d γ tm H nx df (Kd (rdV ⟨d, .mapUpdate t m k x, ty, pos, af, g⟩ (ev G tm)) (e.wr γ)) .any e) := by
 rw [iW (by simp)]; simp only [vop]
 cases vmapUpdate P H t (ev G tm m) (ev G tm k) (ev G tm x) <;> rfl
theorem OF : aW (.mp β) = some [.mp β] := rfl
theorem OG : (VV.mp β).leaf = true := rfl
theorem OH : rdV ⟨d, .makeMap t none, ty, pos, af, g⟩ (ev G tm) = rdL (ev G tm) [] := jm []
theorem OI : rdV ⟨d, .lookup t x k ok, ty, pos, af, g⟩ (ev G tm) = rdL (ev G tm) [x, k] := jm [x, k]
theorem zxs : rdV ⟨d, .mapUpdate t m k x, ty, pos, af, g⟩ (ev G tm) = rdL (ev G tm) [m, k, x] := jm [m, k, x]
theorem OJ {l : List Nat} : tnL (.mp β) l = β :: l := rfl
theorem OK : ev G tm (.const (.map none)) = .lit (.map none) := rfl
theorem dI {K V : Type} {kv : K → Value} {ew : V → VV} : encM kv ew [] = [] := rfl
def mq := (qZk (qZk (qZk @zwz (qZk @OD @zsw)) (qZk (qZk @zvi @zyc) (qZk @zqe @OE))) (qZk (qZk (qZk @OF @OG) (qZk @OH @OI)) (qZk (qZk @zxs @OJ) (qZk @OK @dI))))
end
end Go.V
end
section
set_option linter.defProp false
namespace Go.V
open Go Go.Proofs IntKind Tryz
def mtK {K V : Type} (kv : K → Value) (l : List (K × V)) : List Value := l.map fun p => kv p.1
def mtV {K V : Type} (ew : V → VV) (l : List (K × V)) : List VV := l.map fun p => ew p.2
theorem BV {K V : Type} {ew : V → VV} (ht : ∀ v, (ew v).tree = true) : ∀ l : List (K × V), tl (mtV ew l) = true
 | [] => rfl
 | p :: l => by
  show ((ew p.2).tree && tl (mtV ew l)) = true
  rw [ht, BV ht l]; rfl
theorem Au {K V : Type} {kv : K → Value} {ew : V → VV} {H : Nat → Option Vo} (l : List (K × V)) : mapOf H (.mt (mtK kv l) (mtV ew l)) = some (encM kv ew l) := by
 simp only [mapOf, mtK, mtV, encM, Option.some.injEq]
 induction l with
 | nil => rfl
 | cons p l ih => simp only [List.map_cons, List.zip_cons_cons, ih]
section
variable {P : Program} {K V : Type} {q : K → K → Bool} {kv : K → Value} {ew : V → VV} {t kt et : TypeId} {H : Nat → Option Vo}
theorem J1 {fs : Array Field} {z : V} (hm : P.underlying t = some (.map kt et)) (hu : P.underlying kt = some (.struct fs)) (he : ∀ a b, aA P (Op.equal kt (kv a) (kv b)) = some (q a b)) (hc : ∀ b k, aA P (Instr.checkKey b 10000 kt (kv k)) = some ())
  (hz : ((P.info? et).bind (·.zero)).map ofVal2 = some (ew z)) {l : List (K × V)} {kx : VV} {k : K} (hk : kx.val? = some (kv k)) :
  vlookup P H t (.mt (mtK kv l) (mtV ew l)) kx false = some (ew (mapGet q z l k)) := by
 have := OC (H := fun _ => some (.map (encM kv ew l))) (β := 0) hm hu he hc hz hk rfl
 unfold vlookup at this ⊢
 rw [Au]
 exact this
end
variable {ks : List Value}
theorem OL {vs : List VV} : (VV.mt ks vs).leaf = true := rfl
theorem OM {vs : List VV} : aW (.mt ks vs) = some [.mt ks vs] := rfl
theorem ON {vs : List VV} {l : List Nat} : tnL (.mt ks vs) l = l := rfl
def mqm := (qZk @OL (qZk @OM @ON))
end Go.V
end
section
set_option linter.defProp false
namespace Go.V
open Go Go.Proofs IntKind Tryz
variable {ks : List Value}
theorem DQ {vs : List VV} : normV (.mt ks vs) = .mt ks vs := by simp [normV]
variable {K V : Type}
theorem lZ {kv : K → Value} {ev : V → VV} {l : List (K × V)} : (encM kv ev l).map (·.1) = mtK kv l := by simp [encM, mtK, Function.comp_def]
variable {H : Nat → Option Vo}
theorem J4 {kv : K → Value} {ev : V → VV} (h : ∀ H d v, showV H d (ev v) = ev v) {l : List (K × V)} {d : Nat} : ((encM kv ev l).map (·.2)).map (showV H d) = mtV ev l := by
 simp [encM, mtV, Function.comp_def, h]
theorem mt_tr {kv : K → Value} {ev : V → VV} (h : ∀ v, (ev v).tree = true) {l : List (K × V)} : (VV.mt (mtK kv l) (mtV ev l)).tree = true := BV h l
theorem AA {d : Nat} {vs : List VV} : showV H d (.mt ks vs) = .mt ks vs := by cases d <;> rfl
end Go.V
end
section
set_option linter.defProp false
namespace Go.V
open Go Go.Proofs IntKind Tryz
section
variable {P : Program} {G : Gb} {n : Nat} {γ : Nat} {tm : Nat → VV} {H : Nat → Option Vo} {nx : Nat} {df : List VDef} {K : St → Prop} {Kd : List Nat → List Nat → St → Prop} {Qp : VV → St → Prop} {Q : Vx → St → Prop}
 {d : Option Tmp} {ty : TypeId} {pos : String} {af : Array Edge} {g : Option (Nat × Bool)}
def mapHas {K V : Type} (q : K → K → Bool) (l : List (K × V)) (k : K) : Bool := (kIdx q k (l.map (·.1)) 0).isSome
end
section
variable {P : Program} {K V : Type} {q : K → K → Bool} {kv : K → Value} {ev : V → VV} {t kt et : TypeId} {H : Nat → Option Vo} {β : Nat}
theorem Y9 {fs : Array Field} {z : V} (hm : P.underlying t = some (.map kt et)) (hu : P.underlying kt = some (.struct fs)) (he : ∀ a b, aA P (Op.equal kt (kv a) (kv b)) = some (q a b)) (hc : ∀ b k, aA P (Instr.checkKey b 10000 kt (kv k)) = some ())
  (hz : ((P.info? et).bind (·.zero)).map ofVal2 = some (ev z)) {l : List (K × V)} {kx : VV} {k : K} (hk : kx.val? = some (kv k)) (hb : H β = some (.map (encM kv ev l))) :
  vlookup P H t (.mp β) kx true = some (.tup [ev (mapGet q z l k), .lit (.bool (mapHas q l k))]) := by
 unfold vlookup
 rw [hm, hk]
 simp only [mapOf, hb]
 rw [hc, OB, wu hu he]
 cases hzz : (P.info? et).bind (·.zero) with
 | none => rw [hzz] at hz; cases hz
 | some z0 =>
  rw [hzz] at hz
  simp only [Option.map_some, Option.some.injEq] at hz
  unfold mapGet mapHas
  cases hi : kIdx q k (l.map (·.1)) 0 with
  | none => simp only [if_true, hz, Option.isSome_none]
  | some i =>
   obtain ⟨_, e, h1, _⟩ := Eu _ _ _ hi
   rw [Nat.sub_zero, List.getElem?_map] at h1
   cases hl : l[i]? with
   | none => rw [hl] at h1; cases h1
   | some p =>
    have : (encM kv ev l)[i]? = some (kv p.1, ev p.2) := by unfold encM; rw [List.getElem?_map, hl]; rfl
    simp only [this, hl, if_true, Option.isSome_some]
end
section
variable {P : Program} {G : Gb} {H : Nat → Option Vo}
end
section
variable {c : Ctx} {W : World} {β : Nat}
end
section
variable {P : Program} {G : Gb} {H : Nat → Option Vo}
end
section
variable {P : Program} {G : Gb} {H : Nat → Option Vo}
end
theorem iX {m : Option Nat} : (VV.lit (.map m)).leaf = true := rfl
end Go.V
end
section
namespace Go.V
open Go Go.Proofs IntKind Tryz

end Go.V
end
section
namespace Go.V
open Go Go.Proofs IntKind Tryz
theorem mixed : prog.follows .mixedOrders = true := by kernel_rfl
structure GSpan where
 Low : Int
 High : Int
 deriving Inhabited, DecidableEq
def cGSpan (x : GSpan) : List VV := [.lit (.int .i64 x.Low), .lit (.int .i64 x.High)]
theorem wv {x : GSpan} : cGSpan x = [.lit (.int .i64 x.Low), .lit (.int .i64 x.High)] := rfl
theorem cL : EncOk cGSpan := EncOk.of (fun x => by simp only [wv, tre, Bool.and_self]) (fun x => by simp only [wv, nrm]) (fun x H d => by simp only [wv, nrm, List.map_cons, List.map_nil])
structure GLp where
 Left : Int
 Right : Int
 Space : GSpan
 deriving Inhabited, DecidableEq
def cGLp (x : GLp) : List VV := [.lit (.int .i64 x.Left), .lit (.int .i64 x.Right), .lit (.int .i64 x.Space.Low), .lit (.int .i64 x.Space.High)]
theorem BW {x : GLp} : cGLp x = [.lit (.int .i64 x.Left), .lit (.int .i64 x.Right), .lit (.int .i64 x.Space.Low), .lit (.int .i64 x.Space.High)] := rfl
theorem da : EncOk cGLp := EncOk.of (fun x => by simp only [BW, tre, cL.tree, cL.treeL, Bool.and_self]) (fun x => by simp only [BW, nrm, cL.norm, cL.normL, cL.shown, cL.showL]) (fun x H d => by simp only [BW, nrm, List.map_cons, List.map_nil])
structure GLw where
 Signs : List Int
 Cuts : List Int
 Free : Bool
 deriving Inhabited, DecidableEq
def cGLw (x : GLw) : List VV := [.sl (ad eI x.Signs) (List.length x.Signs) false, .sl (ad eI x.Cuts) (List.length x.Cuts) false, .lit (.bool x.Free)]
theorem yc {x : GLw} : cGLw x = [.sl (ad eI x.Signs) (List.length x.Signs) false, .sl (ad eI x.Cuts) (List.length x.Cuts) false, .lit (.bool x.Free)] := rfl
theorem dE : EncOk cGLw := EncOk.of (fun x => by simp only [yc, tre, cL.tree, cL.treeL, da.tree, da.treeL, Bool.and_self]) (fun x => by simp only [yc, nrm, cL.norm, cL.normL, cL.shown, cL.showL, da.norm, da.normL, da.shown, da.showL]) (fun x H d => by simp only [yc, nrm, List.map_cons, List.map_nil])
structure GLs where
 Widths : List Int
 Pairs : List GLp
 Other : GSpan
 Gap : GSpan
 Hyphen : Int
 Words : List GLw
 Wide : Int
 Rows : Int
 deriving Inhabited, DecidableEq
def cGLs (x : GLs) : List VV := [.sl (ad eI x.Widths) (List.length x.Widths) false, .sl (ad cGLp x.Pairs) (List.length x.Pairs) false, .lit (.int .i64 x.Other.Low), .lit (.int .i64 x.Other.High), .lit (.int .i64 x.Gap.Low), .lit (.int .i64 x.Gap.High), .lit (.int .i64 x.Hyphen), .sl (ad cGLw x.Words) (List.length x.Words) false, .lit (.int .i64 x.Wide), .lit (.int .i64 x.Rows)]
theorem BX {x : GLs} : cGLs x = [.sl (ad eI x.Widths) (List.length x.Widths) false, .sl (ad cGLp x.Pairs) (List.length x.Pairs) false, .lit (.int .i64 x.Other.Low), .lit (.int .i64 x.Other.High), .lit (.int .i64 x.Gap.Low), .lit (.int .i64 x.Gap.High), .lit (.int .i64 x.Hyphen), .sl (ad cGLw x.Words) (List.length x.Words) false, .lit (.int .i64 x.Wide), .lit (.int .i64 x.Rows)] := rfl
theorem ep : EncOk cGLs := EncOk.of (fun x => by simp only [BX, tre, cL.tree, cL.treeL, da.tree, da.treeL, dE.tree, dE.treeL, Bool.and_self]) (fun x => by simp only [BX, nrm, cL.norm, cL.normL, cL.shown, cL.showL, da.norm, da.normL, da.shown, da.showL, dE.norm, dE.normL, dE.shown, dE.showL]) (fun x H d => by simp only [BX, nrm, List.map_cons, List.map_nil])
structure GLe where
 Word : Int
 Letters : Int
 deriving Inhabited, DecidableEq
def cGLe (x : GLe) : List VV := [.lit (.int .i64 x.Word), .lit (.int .i64 x.Letters)]
theorem BY {x : GLe} : cGLe x = [.lit (.int .i64 x.Word), .lit (.int .i64 x.Letters)] := rfl
theorem dT : EncOk cGLe := EncOk.of (fun x => by simp only [BY, tre, cL.tree, cL.treeL, da.tree, da.treeL, dE.tree, dE.treeL, ep.tree, ep.treeL, Bool.and_self]) (fun x => by simp only [BY, nrm, cL.norm, cL.normL, cL.shown, cL.showL, da.norm, da.normL, da.shown, da.showL, dE.norm, dE.normL, dE.shown, dE.showL, ep.norm, ep.normL, ep.shown, ep.showL]) (fun x H d => by simp only [BY, nrm, List.map_cons, List.map_nil])
structure GLx where
 Out : List Int
 Ends : List GLe
 deriving Inhabited, DecidableEq
def cGLx (x : GLx) : List VV := [.sl (ad eI x.Out) (List.length x.Out) false, .sl (ad cGLe x.Ends) (List.length x.Ends) false]
theorem Ev {x : GLx} : cGLx x = [.sl (ad eI x.Out) (List.length x.Out) false, .sl (ad cGLe x.Ends) (List.length x.Ends) false] := rfl
theorem gO : EncOk cGLx := EncOk.of (fun x => by simp only [Ev, tre, cL.tree, cL.treeL, da.tree, da.treeL, dE.tree, dE.treeL, ep.tree, ep.treeL, dT.tree, dT.treeL, Bool.and_self]) (fun x => by simp only [Ev, nrm, cL.norm, cL.normL, cL.shown, cL.showL, da.norm, da.normL, da.shown, da.showL, dE.norm, dE.normL, dE.shown, dE.showL, ep.norm, ep.normL, ep.shown, ep.showL, dT.norm, dT.normL, dT.shown, dT.showL]) (fun x H d => by simp only [Ev, nrm, List.map_cons, List.map_nil])
structure Grl where
 Word : Int
 Sign : Int
 deriving Inhabited, DecidableEq
def cGrl (x : Grl) : List VV := [.lit (.int .i64 x.Word), .lit (.int .i64 x.Sign)]
theorem Ew {x : Grl} : cGrl x = [.lit (.int .i64 x.Word), .lit (.int .i64 x.Sign)] := rfl
theorem iT : EncOk cGrl := EncOk.of (fun x => by simp only [Ew, tre, cL.tree, cL.treeL, da.tree, da.treeL, dE.tree, dE.treeL, ep.tree, ep.treeL, dT.tree, dT.treeL, gO.tree, gO.treeL, Bool.and_self]) (fun x => by simp only [Ew, nrm, cL.norm, cL.normL, cL.shown, cL.showL, da.norm, da.normL, da.shown, da.showL, dE.norm, dE.normL, dE.shown, dE.showL, ep.norm, ep.normL, ep.shown, ep.showL, dT.norm, dT.normL, dT.shown, dT.showL, gO.norm, gO.normL, gO.shown, gO.showL]) (fun x H d => by simp only [Ew, nrm, List.map_cons, List.map_nil])
structure Glm where
 word : Int
 sign : Int
 row : Int
 hyphen : Bool
 deriving Inhabited, DecidableEq
def cGlm (x : Glm) : List VV := [.lit (.int .i64 x.word), .lit (.int .i64 x.sign), .lit (.int .i64 x.row), .lit (.bool x.hyphen)]
theorem BZ {x : Glm} : cGlm x = [.lit (.int .i64 x.word), .lit (.int .i64 x.sign), .lit (.int .i64 x.row), .lit (.bool x.hyphen)] := rfl
theorem lQ : EncOk cGlm := EncOk.of (fun x => by simp only [BZ, tre, cL.tree, cL.treeL, da.tree, da.treeL, dE.tree, dE.treeL, ep.tree, ep.treeL, dT.tree, dT.treeL, gO.tree, gO.treeL, iT.tree, iT.treeL, Bool.and_self]) (fun x => by simp only [BZ, nrm, cL.norm, cL.normL, cL.shown, cL.showL, da.norm, da.normL, da.shown, da.showL, dE.norm, dE.normL, dE.shown, dE.showL, ep.norm, ep.normL, ep.shown, ep.showL, dT.norm, dT.normL, dT.shown, dT.showL, gO.norm, gO.normL, gO.shown, gO.showL, iT.norm, iT.normL, iT.shown, iT.showL]) (fun x H d => by simp only [BZ, nrm, List.map_cons, List.map_nil])
structure Glp where
 left : Int
 right : Int
 deriving Inhabited, DecidableEq
def cGlp (x : Glp) : List VV := [.lit (.int .i64 x.left), .lit (.int .i64 x.right)]
theorem Ex {x : Glp} : cGlp x = [.lit (.int .i64 x.left), .lit (.int .i64 x.right)] := rfl
theorem tF : EncOk cGlp := EncOk.of (fun x => by simp only [Ex, tre, cL.tree, cL.treeL, da.tree, da.treeL, dE.tree, dE.treeL, ep.tree, ep.treeL, dT.tree, dT.treeL, gO.tree, gO.treeL, iT.tree, iT.treeL, lQ.tree, lQ.treeL, Bool.and_self]) (fun x => by simp only [Ex, nrm, cL.norm, cL.normL, cL.shown, cL.showL, da.norm, da.normL, da.shown, da.showL, dE.norm, dE.normL, dE.shown, dE.showL, ep.norm, ep.normL, ep.shown, ep.showL, dT.norm, dT.normL, dT.shown, dT.showL, gO.norm, gO.normL, gO.shown, gO.showL, iT.norm, iT.normL, iT.shown, iT.showL, lQ.norm, lQ.normL, lQ.shown, lQ.showL]) (fun x H d => by simp only [Ex, nrm, List.map_cons, List.map_nil])
def cX (k : Glp) : Value := .agg ⟨[.int .i64 k.left, .int .i64 k.right]⟩
def fI (n : GSpan) : VV := .agg (cGSpan n)
theorem pU {l : List (Glp × GSpan)} : (VV.mt (mtK cX l) (mtV fI l)).tree = true := mt_tr fun v => by simp only [fI, tre, cL.tree, cL.treeL, da.tree, da.treeL, dE.tree, dE.treeL, ep.tree, ep.treeL, dT.tree, dT.treeL, gO.tree, gO.treeL, iT.tree, iT.treeL, lQ.tree, lQ.treeL, tF.tree, tF.treeL, Bool.and_self]
structure Gld where
 ls : GLs
 lx : GLx
 stretch : Int
 spaces : List (Glp × GSpan)
 marks : List Glm
 deriving Inhabited, DecidableEq
def cGld (x : Gld) : List VV := [.sl (ad eI x.ls.Widths) (List.length x.ls.Widths) false, .sl (ad cGLp x.ls.Pairs) (List.length x.ls.Pairs) false, .lit (.int .i64 x.ls.Other.Low), .lit (.int .i64 x.ls.Other.High), .lit (.int .i64 x.ls.Gap.Low), .lit (.int .i64 x.ls.Gap.High), .lit (.int .i64 x.ls.Hyphen), .sl (ad cGLw x.ls.Words) (List.length x.ls.Words) false, .lit (.int .i64 x.ls.Wide), .lit (.int .i64 x.ls.Rows), .sl (ad eI x.lx.Out) (List.length x.lx.Out) false, .sl (ad cGLe x.lx.Ends) (List.length x.lx.Ends) false, .lit (.int .i64 x.stretch), .mt (mtK cX x.spaces) (mtV fI x.spaces), .sl (ad cGlm x.marks) (List.length x.marks) false]
theorem AX {x : Gld} : cGld x = [.sl (ad eI x.ls.Widths) (List.length x.ls.Widths) false, .sl (ad cGLp x.ls.Pairs) (List.length x.ls.Pairs) false, .lit (.int .i64 x.ls.Other.Low), .lit (.int .i64 x.ls.Other.High), .lit (.int .i64 x.ls.Gap.Low), .lit (.int .i64 x.ls.Gap.High), .lit (.int .i64 x.ls.Hyphen), .sl (ad cGLw x.ls.Words) (List.length x.ls.Words) false, .lit (.int .i64 x.ls.Wide), .lit (.int .i64 x.ls.Rows), .sl (ad eI x.lx.Out) (List.length x.lx.Out) false, .sl (ad cGLe x.lx.Ends) (List.length x.lx.Ends) false, .lit (.int .i64 x.stretch), .mt (mtK cX x.spaces) (mtV fI x.spaces), .sl (ad cGlm x.marks) (List.length x.marks) false] := rfl
theorem OO : EncOk cGld := EncOk.of (fun x => by simp only [AX, tre, cL.tree, cL.treeL, da.tree, da.treeL, dE.tree, dE.treeL, ep.tree, ep.treeL, dT.tree, dT.treeL, gO.tree, gO.treeL, iT.tree, iT.treeL, lQ.tree, lQ.treeL, tF.tree, tF.treeL, pU, Bool.and_self]) (fun x => by simp only [AX, nrm, cL.norm, cL.normL, cL.shown, cL.showL, da.norm, da.normL, da.shown, da.showL, dE.norm, dE.normL, dE.shown, dE.showL, ep.norm, ep.normL, ep.shown, ep.showL, dT.norm, dT.normL, dT.shown, dT.showL, gO.norm, gO.normL, gO.shown, gO.showL, iT.norm, iT.normL, iT.shown, iT.showL, lQ.norm, lQ.normL, lQ.shown, lQ.showL, tF.norm, tF.normL, tF.shown, tF.showL, DQ, AA]) (fun x H d => by simp only [AX, nrm, List.map_cons, List.map_nil, AA])
theorem wx : EncOk (eSl cGrl) := EncOk.sl iT
theorem OP : EncOk (eSl cGLe) := EncOk.sl dT
variable {c : VV} {cs : List VV}
theorem ld3 : aN prog 3 (c :: cs) = some c := by
 have h1 : aggT prog 3 = some false := by kernel_rfl
 simp [aN, vpart, h1]
theorem sz3 : szT prog 3 = some 1 := by kernel_rfl
theorem OQ : vzl prog 3 = some [.lit (.int .i64 0)] := by kernel_rfl
theorem ld4 : aN prog 4 (c :: cs) = some c := by
 have h1 : aggT prog 4 = some false := by kernel_rfl
 simp [aN, vpart, h1]
theorem sz4 : szT prog 4 = some 1 := by kernel_rfl
theorem OR : vzl prog 4 = some [.lit (.bool false)] := by kernel_rfl
theorem OS : aN prog 22 (c :: cs) = some c := by
 have h1 : aggT prog 22 = some false := by kernel_rfl
 simp [aN, vpart, h1]
theorem OT : szT prog 22 = some 1 := by kernel_rfl
variable {H : Nat → Option Vo} {n : Nat} {f : Bool}
theorem Ca : vlen prog H 22 (.sl cs n f) = some (.lit (.int .i64 n)) := by simp [vlen, underlying22, sls]
theorem lenN22 : vlen prog H 22 (.lit (.slice none 0 0)) = some (.lit (.int .i64 0)) := by simp [vlen, underlying22, sls]
variable {β off w : Nat}
theorem lenR22 {c : Nat} : vlen prog H 22 (.ref β off n w c) = (match H β with | some (.cells _ cs) => if off ≤ cs.length then some (.lit (.int .i64 n)) else none | _ => none) := lenR underlying22
theorem eT : elemT prog 22 = some 3 := by simp [elemT, underlying22]
theorem ig : appOk prog 22 = some (3, 1, 8) := by kernel_rfl
variable {xs : List Int}
theorem OU : (ad eI xs).take (xs.length * 1) = ad eI xs := tG (fun _ => rfl)
theorem ie : ∀ x : Int, leafL (eI x) = true := fun x => by simp only [eI_eq, qj, eB_eq, eS_eq, qk, iB, iC, Cb, Cc, Cd, Ce, Cf, Bool.and_self]
variable {a0 : VV}
theorem OV (h : leafL [a0] = true) : aq prog 22 1 [(0, a0)] = some ([a0], 1) := by
 have h2 : szT prog 3 = some 1 := by kernel_rfl
 have h3 : vzero prog 3 = some #[.int .i64 0] := by kernel_rfl
 simp only [iC, iB, Bool.and_true, Bool.and_eq_true] at h
 simp [aq, underlying22, h2, h3, vfill, vcells1, h, overwrite, vzeros, List.range_succ]
theorem OW {a1 : VV} (h : leafL [a0, a1] = true) : aq prog 22 2 [(0, a0), (1, a1)] = some ([a0, a1], 1) := by
 have h2 : szT prog 3 = some 1 := by kernel_rfl
 have h3 : vzero prog 3 = some #[.int .i64 0] := by kernel_rfl
 simp only [iC, iB, Bool.and_true, Bool.and_eq_true] at h
 simp [aq, underlying22, h2, h3, vfill, vcells1, h, overwrite, vzeros, List.range_succ]
variable {k : IntKind} {i : Int}
theorem aF {x : Int} (h : getI xs i = some x) : aH prog H 22 (.sl (ad eI xs) xs.length f) (.lit (.int k i)) = some (.tp (eI x ++ ad eI (xs.drop (i.toNat + 1)))) :=
 ixG underlying22 (by kernel_rfl : szT prog 3 = some 1) (by decide) (fun _ => rfl) h
theorem OX : aN prog 23 (c :: cs) = some c := by
 have h1 : aggT prog 23 = some false := by kernel_rfl
 simp [aN, vpart, h1]
theorem Cg : vlen prog H 23 (.sl cs n f) = some (.lit (.int .i64 n)) := by simp [vlen, underlying23, sls]
theorem lenN23 : vlen prog H 23 (.lit (.slice none 0 0)) = some (.lit (.int .i64 0)) := by simp [vlen, underlying23, sls]
theorem lenR23 {c : Nat} : vlen prog H 23 (.ref β off n w c) = (match H β with | some (.cells _ cs) => if off ≤ cs.length then some (.lit (.int .i64 n)) else none | _ => none) := lenR underlying23
theorem ct {xs : List GLp} {x : GLp} (h : getI xs i = some x) : aH prog H 23 (.sl (ad cGLp xs) xs.length f) (.lit (.int k i)) = some (.tp (cGLp x ++ ad cGLp (xs.drop (i.toNat + 1)))) :=
 ixG underlying23 (by kernel_rfl : szT prog 108 = some 4) (by decide) (fun _ => rfl) h
variable {c0 c1 : VV}
theorem OY : aN prog 25 (c0 :: c1 :: cs) = some (.agg [c0, c1]) := by
 have h1 : aggT prog 25 = some true := by kernel_rfl
 have h2 : szT prog 25 = some 2 := by kernel_rfl
 simp [aN, vpart, h1, h2]
theorem OZ : szT prog 25 = some 2 := by kernel_rfl
theorem Ch : vzl prog 25 = some [.lit (.int .i64 0), .lit (.int .i64 0)] := by kernel_rfl
variable {o : Nat}
theorem Pa : ag prog H 25 (.ptr β o) 0 = if (H β).isSome = true then some (.ptr β (o + 0)) else none := by
 have h2 : szT prog 3 = some 1 := by kernel_rfl
 simp [ag, underlying25, h2]
theorem Pb : ag prog H 25 (.ptr β o) 1 = if (H β).isSome = true then some (.ptr β (o + 1)) else none := by
 have h2 : szT prog 3 = some 1 := by kernel_rfl
 simp [ag, underlying25, h2]
theorem Pc : aN prog 26 (c :: cs) = some c := by
 have h1 : aggT prog 26 = some false := by kernel_rfl
 simp [aN, vpart, h1]
theorem Pd : szT prog 26 = some 1 := by kernel_rfl
theorem Ci : vlen prog H 26 (.sl cs n f) = some (.lit (.int .i64 n)) := by simp [vlen, underlying26, sls]
theorem lenN26 : vlen prog H 26 (.lit (.slice none 0 0)) = some (.lit (.int .i64 0)) := by simp [vlen, underlying26, sls]
theorem lenR26 {c : Nat} : vlen prog H 26 (.ref β off n w c) = (match H β with | some (.cells _ cs) => if off ≤ cs.length then some (.lit (.int .i64 n)) else none | _ => none) := lenR underlying26
theorem j9 : elemT prog 26 = some 79 := by simp [elemT, underlying26]
theorem nN : appOk prog 26 = some (79, 3, 56) := by kernel_rfl
theorem Pe {xs : List GLw} : (ad cGLw xs).take (xs.length * 3) = ad cGLw xs := tG (fun _ => rfl)
theorem nM : ∀ x : GLw, leafL (cGLw x) = true := fun x => by simp only [eI_eq, qj, eB_eq, eS_eq, qk, yc, iB, iC, Cb, Cc, Cd, Ce, Cf, Bool.and_self]
variable {c2 : VV}
theorem Pf (h : leafL [c0, c1, c2] = true) : aq prog 26 1 [(0, .agg [c0, c1, c2])] = some ([c0, c1, c2], 3) := by
 have h2 : szT prog 79 = some 3 := by kernel_rfl
 have h3 : vzero prog 79 = some #[.slice none 0 0, .slice none 0 0, .bool false] := by kernel_rfl
 simp only [iC, iB, Bool.and_true, Bool.and_eq_true] at h
 simp [aq, underlying26, h2, h3, vfill, aW, h, overwrite, vzeros]
theorem av {xs : List GLw} {x : GLw} (h : getI xs i = some x) : aH prog H 26 (.sl (ad cGLw xs) xs.length f) (.lit (.int k i)) = some (.tp (cGLw x ++ ad cGLw (xs.drop (i.toNat + 1)))) :=
 ixG underlying26 (by kernel_rfl : szT prog 79 = some 3) (by decide) (fun _ => rfl) h
variable {c3 : VV}
theorem Pg {c4 c5 c6 c7 c8 c9 : VV} : aN prog 28 (c0 :: c1 :: c2 :: c3 :: c4 :: c5 :: c6 :: c7 :: c8 :: c9 :: cs) = some (.agg [c0, c1, c2, c3, c4, c5, c6, c7, c8, c9]) := by
 have h1 : aggT prog 28 = some true := by kernel_rfl
 have h2 : szT prog 28 = some 10 := by kernel_rfl
 simp [aN, vpart, h1, h2]
theorem Ph : szT prog 28 = some 10 := by kernel_rfl
theorem tH : vzl prog 28 = some [.lit (.slice none 0 0), .lit (.slice none 0 0), .lit (.int .i64 0), .lit (.int .i64 0), .lit (.int .i64 0), .lit (.int .i64 0), .lit (.int .i64 0), .lit (.slice none 0 0), .lit (.int .i64 0), .lit (.int .i64 0)] := by kernel_rfl
theorem Pj : ag prog H 28 (.ptr β o) 0 = if (H β).isSome = true then some (.ptr β (o + 0)) else none := by
 have h2 : szT prog 22 = some 1 := by kernel_rfl
 simp [ag, underlying28, h2]
theorem Pk : ag prog H 28 (.ptr β o) 1 = if (H β).isSome = true then some (.ptr β (o + 1)) else none := by
 have h2 : szT prog 23 = some 1 := by kernel_rfl
 simp [ag, underlying28, h2]
theorem Pl : ag prog H 28 (.ptr β o) 2 = if (H β).isSome = true then some (.ptr β (o + 2)) else none := by
 have h2 : szT prog 25 = some 2 := by kernel_rfl
 simp [ag, underlying28, h2]
theorem Pm : ag prog H 28 (.ptr β o) 3 = if (H β).isSome = true then some (.ptr β (o + 4)) else none := by
 have h2 : szT prog 25 = some 2 := by kernel_rfl
 simp [ag, underlying28, h2]
theorem Pn : ag prog H 28 (.ptr β o) 4 = if (H β).isSome = true then some (.ptr β (o + 6)) else none := by
 have h2 : szT prog 3 = some 1 := by kernel_rfl
 simp [ag, underlying28, h2]
theorem Po : ag prog H 28 (.ptr β o) 5 = if (H β).isSome = true then some (.ptr β (o + 7)) else none := by
 have h2 : szT prog 26 = some 1 := by kernel_rfl
 simp [ag, underlying28, h2]
theorem Pp : ag prog H 28 (.ptr β o) 6 = if (H β).isSome = true then some (.ptr β (o + 8)) else none := by
 have h2 : szT prog 3 = some 1 := by kernel_rfl
 simp [ag, underlying28, h2]
theorem Pq : ag prog H 28 (.tp cs) 7 = some (.tp (cs.drop 9)) := by
 have h2 : szT prog 3 = some 1 := by kernel_rfl
 simp [ag, underlying28, h2]
theorem Pr : ag prog H 28 (.ptr β o) 7 = if (H β).isSome = true then some (.ptr β (o + 9)) else none := by
 have h2 : szT prog 3 = some 1 := by kernel_rfl
 simp [ag, underlying28, h2]
theorem Ps : aN prog 29 (c :: cs) = some c := by
 have h1 : aggT prog 29 = some false := by kernel_rfl
 simp [aN, vpart, h1]
theorem Pt : szT prog 29 = some 1 := by kernel_rfl
theorem Cj : vzl prog 29 = some [.lit (.slice none 0 0)] := by kernel_rfl
theorem Ck : vlen prog H 29 (.sl cs n f) = some (.lit (.int .i64 n)) := by simp [vlen, underlying29, sls]
theorem lenN29 : vlen prog H 29 (.lit (.slice none 0 0)) = some (.lit (.int .i64 0)) := by simp [vlen, underlying29, sls]
theorem lenR29 {c : Nat} : vlen prog H 29 (.ref β off n w c) = (match H β with | some (.cells _ cs) => if off ≤ cs.length then some (.lit (.int .i64 n)) else none | _ => none) := lenR underlying29
theorem mz : elemT prog 29 = some 100 := by simp [elemT, underlying29]
theorem jg : appOk prog 29 = some (100, 2, 16) := by kernel_rfl
theorem Pu {xs : List GLe} : (ad cGLe xs).take (xs.length * 2) = ad cGLe xs := tG (fun _ => rfl)
theorem jf : ∀ x : GLe, leafL (cGLe x) = true := fun x => by simp only [eI_eq, qj, eB_eq, eS_eq, qk, BY, iB, iC, Cb, Cc, Cd, Ce, Cf, Bool.and_self]
theorem Pv (h : leafL [c0, c1] = true) : aq prog 29 1 [(0, .agg [c0, c1])] = some ([c0, c1], 2) := by
 have h2 : szT prog 100 = some 2 := by kernel_rfl
 have h3 : vzero prog 100 = some #[.int .i64 0, .int .i64 0] := by kernel_rfl
 simp only [iC, iB, Bool.and_true, Bool.and_eq_true] at h
 simp [aq, underlying29, h2, h3, vfill, aW, h, overwrite, vzeros]
theorem bM {xs : List GLe} {x : GLe} (h : getI xs i = some x) : aH prog H 29 (.sl (ad cGLe xs) xs.length f) (.lit (.int k i)) = some (.tp (cGLe x ++ ad cGLe (xs.drop (i.toNat + 1)))) :=
 ixG underlying29 (by kernel_rfl : szT prog 100 = some 2) (by decide) (fun _ => rfl) h
theorem Pw : aN prog 31 (c0 :: c1 :: cs) = some (.agg [c0, c1]) := by
 have h1 : aggT prog 31 = some true := by kernel_rfl
 have h2 : szT prog 31 = some 2 := by kernel_rfl
 simp [aN, vpart, h1, h2]
theorem Px : szT prog 31 = some 2 := by kernel_rfl
theorem ql : vzl prog 31 = some [.lit (.slice none 0 0), .lit (.slice none 0 0)] := by kernel_rfl
theorem Py : ag prog H 31 (.ptr β o) 0 = if (H β).isSome = true then some (.ptr β (o + 0)) else none := by
 have h2 : szT prog 22 = some 1 := by kernel_rfl
 simp [ag, underlying31, h2]
theorem Pz : ag prog H 31 (.ptr β o) 1 = if (H β).isSome = true then some (.ptr β (o + 1)) else none := by
 have h2 : szT prog 29 = some 1 := by kernel_rfl
 simp [ag, underlying31, h2]
theorem Cl : vlen prog H 44 (.sl cs n f) = some (.lit (.int .i64 n)) := by simp [vlen, underlying44, sls]
theorem lenN44 : vlen prog H 44 (.lit (.slice none 0 0)) = some (.lit (.int .i64 0)) := by simp [vlen, underlying44, sls]
theorem lenR44 {c : Nat} : vlen prog H 44 (.ref β off n w c) = (match H β with | some (.cells _ cs) => if off ≤ cs.length then some (.lit (.int .i64 n)) else none | _ => none) := lenR underlying44
theorem Cm : vlen prog H 47 (.sl cs n f) = some (.lit (.int .i64 n)) := by simp [vlen, underlying47, sls]
theorem lenN47 : vlen prog H 47 (.lit (.slice none 0 0)) = some (.lit (.int .i64 0)) := by simp [vlen, underlying47, sls]
theorem lenR47 {c : Nat} : vlen prog H 47 (.ref β off n w c) = (match H β with | some (.cells _ cs) => if off ≤ cs.length then some (.lit (.int .i64 n)) else none | _ => none) := lenR underlying47
theorem P0 : elemT prog 47 = some 49 := by simp [elemT, underlying47]
theorem P1 {xs : List (List Grl)} : (ad (eSl cGrl) xs).take (xs.length * 1) = ad (eSl cGrl) xs := tG (fun _ => rfl)
theorem P2 (h : leafL [a0] = true) : aq prog 47 1 [(0, a0)] = some ([a0], 1) := by
 have h2 : szT prog 49 = some 1 := by kernel_rfl
 have h3 : vzero prog 49 = some #[.slice none 0 0] := by kernel_rfl
 simp only [iC, iB, Bool.and_true, Bool.and_eq_true] at h
 simp [aq, underlying47, h2, h3, vfill, vcells1, h, overwrite, vzeros, List.range_succ]
theorem P3 : aN prog 49 (c :: cs) = some c := by
 have h1 : aggT prog 49 = some false := by kernel_rfl
 simp [aN, vpart, h1]
theorem Cn : vlen prog H 49 (.sl cs n f) = some (.lit (.int .i64 n)) := by simp [vlen, underlying49, sls]
theorem lenN49 : vlen prog H 49 (.lit (.slice none 0 0)) = some (.lit (.int .i64 0)) := by simp [vlen, underlying49, sls]
theorem lenR49 {c : Nat} : vlen prog H 49 (.ref β off n w c) = (match H β with | some (.cells _ cs) => if off ≤ cs.length then some (.lit (.int .i64 n)) else none | _ => none) := lenR underlying49
theorem P4 : elemT prog 49 = some 51 := by simp [elemT, underlying49]
theorem P5 {xs : List Grl} : (ad cGrl xs).take (xs.length * 2) = ad cGrl xs := tG (fun _ => rfl)
theorem P6 (h : leafL [c0, c1] = true) : aq prog 49 1 [(0, .agg [c0, c1])] = some ([c0, c1], 2) := by
 have h2 : szT prog 51 = some 2 := by kernel_rfl
 have h3 : vzero prog 51 = some #[.int .i64 0, .int .i64 0] := by kernel_rfl
 simp only [iC, iB, Bool.and_true, Bool.and_eq_true] at h
 simp [aq, underlying49, h2, h3, vfill, aW, h, overwrite, vzeros]
theorem P7 : aN prog 51 (c0 :: c1 :: cs) = some (.agg [c0, c1]) := by
 have h1 : aggT prog 51 = some true := by kernel_rfl
 have h2 : szT prog 51 = some 2 := by kernel_rfl
 simp [aN, vpart, h1, h2]
theorem Co : vzl prog 51 = some [.lit (.int .i64 0), .lit (.int .i64 0)] := by kernel_rfl
theorem P8 : ag prog H 51 (.ptr β o) 0 = if (H β).isSome = true then some (.ptr β (o + 0)) else none := by
 have h2 : szT prog 3 = some 1 := by kernel_rfl
 simp [ag, underlying51, h2]
theorem P9 : ag prog H 51 (.ptr β o) 1 = if (H β).isSome = true then some (.ptr β (o + 1)) else none := by
 have h2 : szT prog 3 = some 1 := by kernel_rfl
 simp [ag, underlying51, h2]
theorem PA : aN prog 79 (c0 :: c1 :: c2 :: cs) = some (.agg [c0, c1, c2]) := by
 have h1 : aggT prog 79 = some true := by kernel_rfl
 have h2 : szT prog 79 = some 3 := by kernel_rfl
 simp [aN, vpart, h1, h2]
theorem PB : szT prog 79 = some 3 := by kernel_rfl
theorem qm : vzl prog 79 = some [.lit (.slice none 0 0), .lit (.slice none 0 0), .lit (.bool false)] := by kernel_rfl
theorem PC : ag prog H 79 (.tp cs) 0 = some (.tp (cs.drop 0)) := by
 have h2 : szT prog 22 = some 1 := by kernel_rfl
 simp [ag, underlying79, h2]
theorem PD : ag prog H 79 (.ptr β o) 0 = if (H β).isSome = true then some (.ptr β (o + 0)) else none := by
 have h2 : szT prog 22 = some 1 := by kernel_rfl
 simp [ag, underlying79, h2]
theorem PE : ag prog H 79 (.tp cs) 1 = some (.tp (cs.drop 1)) := by
 have h2 : szT prog 22 = some 1 := by kernel_rfl
 simp [ag, underlying79, h2]
theorem PG : ag prog H 79 (.ptr β o) 1 = if (H β).isSome = true then some (.ptr β (o + 1)) else none := by
 have h2 : szT prog 22 = some 1 := by kernel_rfl
 simp [ag, underlying79, h2]
theorem PH : ag prog H 79 (.tp cs) 2 = some (.tp (cs.drop 2)) := by
 have h2 : szT prog 4 = some 1 := by kernel_rfl
 simp [ag, underlying79, h2]
theorem PI : ag prog H 79 (.ptr β o) 2 = if (H β).isSome = true then some (.ptr β (o + 2)) else none := by
 have h2 : szT prog 4 = some 1 := by kernel_rfl
 simp [ag, underlying79, h2]
theorem PJ : aN prog 91 (c :: cs) = some c := by
 have h1 : aggT prog 91 = some false := by kernel_rfl
 simp [aN, vpart, h1]
theorem PK : szT prog 91 = some 1 := by kernel_rfl
theorem Cp : vlen prog H 91 (.sl cs n f) = some (.lit (.int .i64 n)) := by simp [vlen, underlying91, sls]
theorem lenN91 : vlen prog H 91 (.lit (.slice none 0 0)) = some (.lit (.int .i64 0)) := by simp [vlen, underlying91, sls]
theorem lenR91 {c : Nat} : vlen prog H 91 (.ref β off n w c) = (match H β with | some (.cells _ cs) => if off ≤ cs.length then some (.lit (.int .i64 n)) else none | _ => none) := lenR underlying91
theorem m7 : elemT prog 91 = some 144 := by simp [elemT, underlying91]
theorem sj : appOk prog 91 = some (144, 4, 32) := by kernel_rfl
theorem PL {xs : List Glm} : (ad cGlm xs).take (xs.length * 4) = ad cGlm xs := tG (fun _ => rfl)
theorem si : ∀ x : Glm, leafL (cGlm x) = true := fun x => by simp only [eI_eq, qj, eB_eq, eS_eq, qk, BZ, iB, iC, Cb, Cc, Cd, Ce, Cf, Bool.and_self]
theorem PM (h : leafL [c0, c1, c2, c3] = true) : aq prog 91 1 [(0, .agg [c0, c1, c2, c3])] = some ([c0, c1, c2, c3], 4) := by
 have h2 : szT prog 144 = some 4 := by kernel_rfl
 have h3 : vzero prog 144 = some #[.int .i64 0, .int .i64 0, .int .i64 0, .bool false] := by kernel_rfl
 simp only [iC, iB, Bool.and_true, Bool.and_eq_true] at h
 simp [aq, underlying91, h2, h3, vfill, aW, h, overwrite, vzeros]
theorem bp {xs : List Glm} {x : Glm} (h : getI xs i = some x) : aH prog H 91 (.sl (ad cGlm xs) xs.length f) (.lit (.int k i)) = some (.tp (cGlm x ++ ad cGlm (xs.drop (i.toNat + 1)))) :=
 ixG underlying91 (by kernel_rfl : szT prog 144 = some 4) (by decide) (fun _ => rfl) h
theorem PN {c4 c5 c6 c7 c8 c9 Vm DS Vn Vp Vq : VV} : aN prog 93 (c0 :: c1 :: c2 :: c3 :: c4 :: c5 :: c6 :: c7 :: c8 :: c9 :: Vm :: DS :: Vn :: Vp :: Vq :: cs) = some (.agg [c0, c1, c2, c3, c4, c5, c6, c7, c8, c9, Vm, DS, Vn, Vp, Vq]) := by
 have h1 : aggT prog 93 = some true := by kernel_rfl
 have h2 : szT prog 93 = some 15 := by kernel_rfl
 simp [aN, vpart, h1, h2]
theorem PO : szT prog 93 = some 15 := by kernel_rfl
theorem qn : vzl prog 93 = some [.lit (.slice none 0 0), .lit (.slice none 0 0), .lit (.int .i64 0), .lit (.int .i64 0), .lit (.int .i64 0), .lit (.int .i64 0), .lit (.int .i64 0), .lit (.slice none 0 0), .lit (.int .i64 0), .lit (.int .i64 0), .lit (.slice none 0 0), .lit (.slice none 0 0), .lit (.int .i64 0), .lit (.map none), .lit (.slice none 0 0)] := by kernel_rfl
theorem PQ : ag prog H 93 (.ptr β o) 0 = if (H β).isSome = true then some (.ptr β (o + 0)) else none := by
 have h2 : szT prog 28 = some 10 := by kernel_rfl
 simp [ag, underlying93, h2]
theorem PR : ag prog H 93 (.ptr β o) 1 = if (H β).isSome = true then some (.ptr β (o + 10)) else none := by
 have h2 : szT prog 31 = some 2 := by kernel_rfl
 simp [ag, underlying93, h2]
theorem PS : ag prog H 93 (.ptr β o) 2 = if (H β).isSome = true then some (.ptr β (o + 12)) else none := by
 have h2 : szT prog 3 = some 1 := by kernel_rfl
 simp [ag, underlying93, h2]
theorem PT : ag prog H 93 (.ptr β o) 3 = if (H β).isSome = true then some (.ptr β (o + 13)) else none := by
 have h2 : szT prog 90 = some 1 := by kernel_rfl
 simp [ag, underlying93, h2]
theorem PU : ag prog H 93 (.ptr β o) 4 = if (H β).isSome = true then some (.ptr β (o + 14)) else none := by
 have h2 : szT prog 91 = some 1 := by kernel_rfl
 simp [ag, underlying93, h2]
theorem Cq : aN prog 100 (c0 :: c1 :: cs) = some (.agg [c0, c1]) := by
 have h1 : aggT prog 100 = some true := by kernel_rfl
 have h2 : szT prog 100 = some 2 := by kernel_rfl
 simp [aN, vpart, h1, h2]
theorem Cr : szT prog 100 = some 2 := by kernel_rfl
theorem qo : vzl prog 100 = some [.lit (.int .i64 0), .lit (.int .i64 0)] := by kernel_rfl
theorem PV : ag prog H 100 (.ptr β o) 0 = if (H β).isSome = true then some (.ptr β (o + 0)) else none := by
 have h2 : szT prog 3 = some 1 := by kernel_rfl
 simp [ag, underlying100, h2]
theorem PW : ag prog H 100 (.ptr β o) 1 = if (H β).isSome = true then some (.ptr β (o + 1)) else none := by
 have h2 : szT prog 3 = some 1 := by kernel_rfl
 simp [ag, underlying100, h2]
theorem Cs : aN prog 108 (c0 :: c1 :: c2 :: c3 :: cs) = some (.agg [c0, c1, c2, c3]) := by
 have h1 : aggT prog 108 = some true := by kernel_rfl
 have h2 : szT prog 108 = some 4 := by kernel_rfl
 simp [aN, vpart, h1, h2]
theorem Ct : szT prog 108 = some 4 := by kernel_rfl
theorem wy : vzl prog 108 = some [.lit (.int .i64 0), .lit (.int .i64 0), .lit (.int .i64 0), .lit (.int .i64 0)] := by kernel_rfl
theorem PX : ag prog H 108 (.tp cs) 0 = some (.tp (cs.drop 0)) := by
 have h2 : szT prog 3 = some 1 := by kernel_rfl
 simp [ag, underlying108, h2]
theorem PY : ag prog H 108 (.ptr β o) 0 = if (H β).isSome = true then some (.ptr β (o + 0)) else none := by
 have h2 : szT prog 3 = some 1 := by kernel_rfl
 simp [ag, underlying108, h2]
theorem PZ : ag prog H 108 (.tp cs) 1 = some (.tp (cs.drop 1)) := by
 have h2 : szT prog 3 = some 1 := by kernel_rfl
 simp [ag, underlying108, h2]
theorem Qa : ag prog H 108 (.ptr β o) 1 = if (H β).isSome = true then some (.ptr β (o + 1)) else none := by
 have h2 : szT prog 3 = some 1 := by kernel_rfl
 simp [ag, underlying108, h2]
theorem Qb : ag prog H 108 (.tp cs) 2 = some (.tp (cs.drop 2)) := by
 have h2 : szT prog 25 = some 2 := by kernel_rfl
 simp [ag, underlying108, h2]
theorem Qc : ag prog H 108 (.ptr β o) 2 = if (H β).isSome = true then some (.ptr β (o + 2)) else none := by
 have h2 : szT prog 25 = some 2 := by kernel_rfl
 simp [ag, underlying108, h2]
theorem wz : vlen prog H 117 (.sl cs n f) = some (.lit (.int .i64 n)) := by simp [vlen, underlying117, sls]
theorem lenN117 : vlen prog H 117 (.lit (.slice none 0 0)) = some (.lit (.int .i64 0)) := by simp [vlen, underlying117, sls]
theorem lenR117 {c : Nat} : vlen prog H 117 (.ref β off n w c) = (match H β with | some (.cells _ cs) => if off ≤ cs.length then some (.lit (.int .i64 n)) else none | _ => none) := lenR underlying117
theorem Cu : elemT prog 117 = some 31 := by simp [elemT, underlying117]
theorem Cv {xs : List GLx} : (ad cGLx xs).take (xs.length * 2) = ad cGLx xs := tG (fun _ => rfl)
theorem Qd (h : leafL [c0, c1] = true) : aq prog 117 1 [(0, .agg [c0, c1])] = some ([c0, c1], 2) := by
 have h2 : szT prog 31 = some 2 := by kernel_rfl
 have h3 : vzero prog 31 = some #[.slice none 0 0, .slice none 0 0] := by kernel_rfl
 simp only [iC, iB, Bool.and_true, Bool.and_eq_true] at h
 simp [aq, underlying117, h2, h3, vfill, aW, h, overwrite, vzeros]
theorem w5 : vzl prog 142 = some [.lit (.int .i64 0), .lit (.int .i64 0)] := by kernel_rfl
theorem Cw : aN prog 144 (c0 :: c1 :: c2 :: c3 :: cs) = some (.agg [c0, c1, c2, c3]) := by
 have h1 : aggT prog 144 = some true := by kernel_rfl
 have h2 : szT prog 144 = some 4 := by kernel_rfl
 simp [aN, vpart, h1, h2]
theorem Cx : szT prog 144 = some 4 := by kernel_rfl
theorem qp : vzl prog 144 = some [.lit (.int .i64 0), .lit (.int .i64 0), .lit (.int .i64 0), .lit (.bool false)] := by kernel_rfl
theorem Qe : ag prog H 144 (.ptr β o) 0 = if (H β).isSome = true then some (.ptr β (o + 0)) else none := by
 have h2 : szT prog 3 = some 1 := by kernel_rfl
 simp [ag, underlying144, h2]
theorem Qf : ag prog H 144 (.ptr β o) 1 = if (H β).isSome = true then some (.ptr β (o + 1)) else none := by
 have h2 : szT prog 3 = some 1 := by kernel_rfl
 simp [ag, underlying144, h2]
theorem Qg : ag prog H 144 (.ptr β o) 2 = if (H β).isSome = true then some (.ptr β (o + 2)) else none := by
 have h2 : szT prog 3 = some 1 := by kernel_rfl
 simp [ag, underlying144, h2]
theorem Qh : ag prog H 144 (.ptr β o) 3 = if (H β).isSome = true then some (.ptr β (o + 3)) else none := by
 have h2 : szT prog 4 = some 1 := by kernel_rfl
 simp [ag, underlying144, h2]
theorem w6 : vlen prog H 158 (.sl cs n f) = some (.lit (.int .i64 n)) := by simp [vlen, underlying158, sls]
theorem lenN158 : vlen prog H 158 (.lit (.slice none 0 0)) = some (.lit (.int .i64 0)) := by simp [vlen, underlying158, sls]
theorem lenR158 {c : Nat} : vlen prog H 158 (.ref β off n w c) = (match H β with | some (.cells _ cs) => if off ≤ cs.length then some (.lit (.int .i64 n)) else none | _ => none) := lenR underlying158
theorem Cy : elemT prog 158 = some 29 := by simp [elemT, underlying158]
theorem Cz {xs : List (List GLe)} : (ad (eSl cGLe) xs).take (xs.length * 1) = ad (eSl cGLe) xs := tG (fun _ => rfl)
theorem Qi (h : leafL [a0] = true) : aq prog 158 1 [(0, a0)] = some ([a0], 1) := by
 have h2 : szT prog 29 = some 1 := by kernel_rfl
 have h3 : vzero prog 29 = some #[.slice none 0 0] := by kernel_rfl
 simp only [iC, iB, Bool.and_true, Bool.and_eq_true] at h
 simp [aq, underlying158, h2, h3, vfill, vcells1, h, overwrite, vzeros, List.range_succ]
theorem Qj : aN prog 33 (c :: cs) = some c := by
 have h1 : aggT prog 33 = some false := by kernel_rfl
 simp [aN, vpart, h1]
theorem Qk : aN prog 64 (c :: cs) = some c := by
 have h1 : aggT prog 64 = some false := by kernel_rfl
 simp [aN, vpart, h1]
theorem C0 : aN prog 116 (c :: cs) = some c := by
 have h1 : aggT prog 116 = some false := by kernel_rfl
 simp [aN, vpart, h1]
theorem C1 : aN prog 152 (c :: cs) = some c := by
 have h1 : aggT prog 152 = some false := by kernel_rfl
 simp [aN, vpart, h1]
theorem C2 : szT prog 155 = some 1 := by kernel_rfl
theorem C3 : aN prog 155 (c :: cs) = some c := by
 have h1 : aggT prog 155 = some false := by kernel_rfl
 simp [aN, vpart, h1]
theorem w7 : vzl prog 155 = some [.lit .nilFunc] := by kernel_rfl
theorem C4 : aN prog 178 (c :: cs) = some c := by
 have h1 : aggT prog 178 = some false := by kernel_rfl
 simp [aN, vpart, h1]
theorem C5 : szT prog 180 = some 2 := by kernel_rfl
theorem qq : vzl prog 180 = some [.lit .nilFunc, .lit .nilFunc] := by kernel_rfl
theorem Ql : aH prog H 180 (.ptr β o) (.lit (.int k 0)) = if (H β).isSome = true then some (.ptr β (o + 0)) else none := by
 have h2 : szT prog 178 = some 1 := by kernel_rfl
 simp [aH, underlying180, h2]
theorem Qm {w8 : VV} (h : leafL [w8] = true) : vbuild prog 28 [(5, w8)] = some (.agg [.lit (.slice none 0 0), .lit (.slice none 0 0), .lit (.int .i64 0), .lit (.int .i64 0), .lit (.int .i64 0), .lit (.int .i64 0), .lit (.int .i64 0), w8, .lit (.int .i64 0), .lit (.int .i64 0)]) := by
 have p5 : placeT prog 28 5 = some (7, 1) := by kernel_rfl
 simp only [iC, iB, Bool.and_true, Bool.and_eq_true] at h
 rw [pf tH (by kernel_rfl)]
 simp [vfill, p5, vcells1, h, overwrite]
theorem Qn : vbuild prog 31 [] = some (.agg [.lit (.slice none 0 0), .lit (.slice none 0 0)]) := by
 rw [pf ql (by kernel_rfl)]
 rfl
variable {ca cF : VV}
theorem Qo (h : leafL [ca, cF] = true) : vbuild prog 31 [(0, ca), (1, cF)] = some (.agg [ca, cF]) := by
 have p0 : placeT prog 31 0 = some (0, 1) := by kernel_rfl
 have p1 : placeT prog 31 1 = some (1, 1) := by kernel_rfl
 simp only [iC, iB, Bool.and_true, Bool.and_eq_true] at h
 rw [pf ql (by kernel_rfl)]
 simp [vfill, p0, p1, vcells1, h, overwrite]
theorem Qq (h : leafL [ca, cF] = true) : vbuild prog 51 [(0, ca), (1, cF)] = some (.agg [ca, cF]) := by
 have p0 : placeT prog 51 0 = some (0, 1) := by kernel_rfl
 have p1 : placeT prog 51 1 = some (1, 1) := by kernel_rfl
 simp only [iC, iB, Bool.and_true, Bool.and_eq_true] at h
 rw [pf Co (by kernel_rfl)]
 simp [vfill, p0, p1, vcells1, h, overwrite]
variable {gL : VV}
theorem Qr (h : leafL [ca, gL] = true) : vbuild prog 79 [(0, ca), (2, gL)] = some (.agg [ca, .lit (.slice none 0 0), gL]) := by
 have p0 : placeT prog 79 0 = some (0, 1) := by kernel_rfl
 have p2 : placeT prog 79 2 = some (2, 1) := by kernel_rfl
 simp only [iC, iB, Bool.and_true, Bool.and_eq_true] at h
 rw [pf qm (by kernel_rfl)]
 simp [vfill, p0, p2, vcells1, h, overwrite]
theorem Qs (h : leafL [gL] = true) : vbuild prog 79 [(2, gL)] = some (.agg [.lit (.slice none 0 0), .lit (.slice none 0 0), gL]) := by
 have p2 : placeT prog 79 2 = some (2, 1) := by kernel_rfl
 simp only [iC, iB, Bool.and_true, Bool.and_eq_true] at h
 rw [pf qm (by kernel_rfl)]
 simp [vfill, p2, vcells1, h, overwrite]
theorem Qt : vbuild prog 93 [] = some (.agg [.lit (.slice none 0 0), .lit (.slice none 0 0), .lit (.int .i64 0), .lit (.int .i64 0), .lit (.int .i64 0), .lit (.int .i64 0), .lit (.int .i64 0), .lit (.slice none 0 0), .lit (.int .i64 0), .lit (.int .i64 0), .lit (.slice none 0 0), .lit (.slice none 0 0), .lit (.int .i64 0), .lit (.map none), .lit (.slice none 0 0)]) := by
 rw [pf qn (by kernel_rfl)]
 rfl
theorem zwn {qs qt qu qv qw qx qy qz q9 qA mQ : VV} (h : leafL [ca, qs, qt, qu, qv, qw, qx, qy, qz, q9, cF, qA, gL, mQ] = true) : vbuild prog 93 [(0, .agg [ca, qs, qt, qu, qv, qw, qx, qy, qz, q9]), (1, .agg [cF, qA]), (2, gL), (3, mQ)] = some (.agg [ca, qs, qt, qu, qv, qw, qx, qy, qz, q9, cF, qA, gL, mQ, .lit (.slice none 0 0)]) := by
 have p0 : placeT prog 93 0 = some (0, 10) := by kernel_rfl
 have p1 : placeT prog 93 1 = some (10, 2) := by kernel_rfl
 have p2 : placeT prog 93 2 = some (12, 1) := by kernel_rfl
 have p3 : placeT prog 93 3 = some (13, 1) := by kernel_rfl
 simp only [iC, iB, Bool.and_true, Bool.and_eq_true] at h
 have q0 : aW (.agg [ca, qs, qt, qu, qv, qw, qx, qy, qz, q9]) = some [ca, qs, qt, qu, qv, qw, qx, qy, qz, q9] := by rw [Qu]; simp [iC, iB, h]
 have q1 : aW (.agg [cF, qA]) = some [cF, qA] := by rw [Qu]; simp [iC, iB, h]
 rw [pf qn (by kernel_rfl)]
 simp [vfill, p0, p1, p2, p3, vcells1, h, overwrite, q0, q1]
theorem Qv (h : leafL [ca, cF] = true) : vbuild prog 100 [(0, ca), (1, cF)] = some (.agg [ca, cF]) := by
 have p0 : placeT prog 100 0 = some (0, 1) := by kernel_rfl
 have p1 : placeT prog 100 1 = some (1, 1) := by kernel_rfl
 simp only [iC, iB, Bool.and_true, Bool.and_eq_true] at h
 rw [pf qo (by kernel_rfl)]
 simp [vfill, p0, p1, vcells1, h, overwrite]
theorem Qw (h : leafL [ca, cF] = true) : vbuild prog 142 [(0, ca), (1, cF)] = some (.agg [ca, cF]) := by
 have p0 : placeT prog 142 0 = some (0, 1) := by kernel_rfl
 have p1 : placeT prog 142 1 = some (1, 1) := by kernel_rfl
 simp only [iC, iB, Bool.and_true, Bool.and_eq_true] at h
 rw [pf w5 (by kernel_rfl)]
 simp [vfill, p0, p1, vcells1, h, overwrite]
theorem zvb {mQ : VV} (h : leafL [ca, cF, gL, mQ] = true) : vbuild prog 144 [(0, ca), (1, cF), (2, gL), (3, mQ)] = some (.agg [ca, cF, gL, mQ]) := by
 have p0 : placeT prog 144 0 = some (0, 1) := by kernel_rfl
 have p1 : placeT prog 144 1 = some (1, 1) := by kernel_rfl
 have p2 : placeT prog 144 2 = some (2, 1) := by kernel_rfl
 have p3 : placeT prog 144 3 = some (3, 1) := by kernel_rfl
 simp only [iC, iB, Bool.and_true, Bool.and_eq_true] at h
 rw [pf qp (by kernel_rfl)]
 simp [vfill, p0, p1, p2, p3, vcells1, h, overwrite]
theorem C6 : vbuild prog 149 [] = some (.agg []) := by kernel_rfl
theorem C7 : szT prog 149 = some 0 := by kernel_rfl
theorem w9 : vzl prog 149 = some [] := by kernel_rfl
theorem Qx (h : leafL [ca, cF] = true) : vbuild prog 180 [(0, ca), (1, cF)] = some (.agg [ca, cF]) := by
 have p0 : placeT prog 180 0 = some (0, 1) := by kernel_rfl
 have p1 : placeT prog 180 1 = some (1, 1) := by kernel_rfl
 simp only [iC, iB, Bool.and_true, Bool.and_eq_true] at h
 rw [pf qq (by kernel_rfl)]
 simp [vfill, p0, p1, vcells1, h, overwrite]
theorem mi9 {x : VV} : mkIfcV prog 9 x = some (.ifc 9 x) := by simp [mkIfcV, underlying9]
theorem C8 {x : VV} : mkIfcV prog 149 x = some (.ifc 149 x) := by simp [mkIfcV, underlying149]
theorem tI : ((prog.info? 149).bind (·.zero)).map (fun z => VV.tup [ofVal2 z, .lit (.bool false)]) = some (.tup [.agg [], .lit (.bool false)]) := by kernel_rfl
theorem C9 : vtypeAssert prog (.lit .nilIface) 149 true = some (.tup [.agg [], .lit (.bool false)]) := by
 simp only [vtypeAssert, underlying149, if_true]
 exact tI
theorem Qy {x : VV} : vtypeAssert prog (.ifc 9 x) 149 true = some (.tup [.agg [], .lit (.bool false)]) := by
 simp only [vtypeAssert, underlying149, if_true]
 rw [if_neg (by decide)]
 exact tI
theorem CA {x : VV} : vtypeAssert prog (.ifc 149 x) 149 true = some (.tup [x, .lit (.bool true)]) := by
 simp [vtypeAssert, underlying149]
variable {x y : Operand}
theorem be4 {a b : Bool} : binV prog H .eql 4 x y (.lit (.bool a)) (.lit (.bool b)) = some (.lit (.bool (a == b))) := Mw underlying4
theorem bn4 {a b : Bool} : binV prog H .neq 4 x y (.lit (.bool a)) (.lit (.bool b)) = some (.lit (.bool (a != b))) := Mx underlying4
theorem CB {a0 b0 : Int} {a1 b1 : Int} : binV prog H .eql 100 x y (.agg [.lit (.int .i64 a0), .lit (.int .i64 a1)]) (.agg [.lit (.int .i64 b0), .lit (.int .i64 b1)]) = some (.lit (.bool (a0 == b0 && (a1 == b1)))) ∧ binV prog H .neq 100 x y (.agg [.lit (.int .i64 a0), .lit (.int .i64 a1)]) (.agg [.lit (.int .i64 b0), .lit (.int .i64 b1)]) = some (.lit (.bool (!(a0 == b0 && (a1 == b1))))) := by
 refine binS (xs := [.int .i64 a0, .int .i64 a1]) (ys := [.int .i64 b0, .int .i64 b1]) (by simp [VV.val?, valL?]) (by simp [VV.val?, valL?]) underlying100 (by kernel_rfl) (by kernel_rfl) ?_
 simp [eqF, qb, eq1, underlying3]
theorem CD {a0 b0 : Int} {a1 b1 : Int} : binV prog H .eql 100 x y (.agg [.lit (.int .i64 a0), .lit (.int .i64 a1)]) (.agg [.lit (.int .i64 b0), .lit (.int .i64 b1)]) = some (.lit (.bool (a0 == b0 && (a1 == b1)))) := CB.1
theorem Qz : (VV.lit Value.nilFunc).leaf = true := rfl
theorem Q0 : (VV.lit Value.nilIface).leaf = true := rfl
def tyf := (qZk (qZk (qZk (qZk (qZk (qZk (qZk @wv @BW) (qZk @yc (qZk @BX @BY))) (qZk (qZk @Ev (qZk @Ew @BZ)) (qZk @Ex (qZk @AX @ld3)))) (qZk (qZk (qZk @sz3 (qZk @OQ @ld4)) (qZk @sz4 (qZk @OR @OS))) (qZk (qZk @OT (qZk @Ca @lenN22)) (qZk @lenR22 (qZk @eT @OU))))) (qZk (qZk (qZk (qZk @OV @OW) (qZk @OX (qZk @Cg @lenN23))) (qZk (qZk @lenR23 (qZk @OY @OZ)) (qZk @Ch (qZk @Pa @Pb)))) (qZk (qZk (qZk @Pc (qZk @Pd @Ci)) (qZk @lenN26 (qZk @lenR26 @j9))) (qZk (qZk @Pe (qZk @Pf @Pg)) (qZk @Ph (qZk @tH @Pj)))))) (qZk (qZk (qZk (qZk (qZk @Pk @Pl) (qZk @Pm (qZk @Pn @Po))) (qZk (qZk @Pp (qZk @Pq @Pr)) (qZk @Ps (qZk @Pt @Cj)))) (qZk (qZk (qZk @Ck (qZk @lenN29 @lenR29)) (qZk @mz (qZk @Pu @Pv))) (qZk (qZk @Pw (qZk @Px @ql)) (qZk @Py (qZk @Pz @Cl))))) (qZk (qZk (qZk (qZk @lenN44 (qZk @lenR44 @Cm)) (qZk @lenN47 (qZk @lenR47 @P0))) (qZk (qZk @P1 (qZk @P2 @P3)) (qZk @Cn (qZk @lenN49 @lenR49)))) (qZk (qZk (qZk @P4 (qZk @P5 @P6)) (qZk @P7 (qZk @P8 @P9))) (qZk (qZk @PA (qZk @PB @qm)) (qZk @PC (qZk @PD @PE))))))) (qZk (qZk (qZk (qZk (qZk (qZk @PG @PH) (qZk @PI (qZk @PJ @PK))) (qZk (qZk @Cp (qZk @lenN91 @lenR91)) (qZk @m7 (qZk @PL @PM)))) (qZk (qZk (qZk @PN (qZk @PO @qn)) (qZk @PQ (qZk @PR @PS))) (qZk (qZk @PT (qZk @PU @Cq)) (qZk @Cr (qZk @qo @PV))))) (qZk (qZk (qZk (qZk @PW (qZk @Cs @Ct)) (qZk @wy (qZk @PX @PY))) (qZk (qZk @PZ (qZk @Qa @Qb)) (qZk @Qc (qZk @wz @lenN117)))) (qZk (qZk (qZk @lenR117 (qZk @Cu @Cv)) (qZk @Qd (qZk @Cw @Cx))) (qZk (qZk @qp (qZk @Qe @Qf)) (qZk @Qg (qZk @Qh @w6)))))) (qZk (qZk (qZk (qZk (qZk @lenN158 @lenR158) (qZk @Cy (qZk @Cz @Qi))) (qZk (qZk @Qj (qZk @Qk @C0)) (qZk @C1 (qZk @C2 @C3)))) (qZk (qZk (qZk @w7 (qZk @C4 @C5)) (qZk @qq (qZk @Ql @Qm))) (qZk (qZk @Qn (qZk @Qo @Qq)) (qZk @Qr (qZk @Qs @Qt))))) (qZk (qZk (qZk (qZk @zwn (qZk @Qv @Qw)) (qZk @zvb (qZk @C6 @C7))) (qZk (qZk @w9 (qZk @Qx @mi9)) (qZk @C8 (qZk @C9 @Qy)))) (qZk (qZk (qZk @CA (qZk @be4 @bn4)) (qZk @CD (qZk @Qz @Q0))) (qZk (qZk @My (qZk @eI_eq @qj)) (qZk @eB_eq (qZk @eS_eq @qk))))))))
def ar := (qZk (qZk (qZk (qZk @cL.shown @da.normL) (qZk @dE.normL (qZk @dE.showL @dT.normL))) (qZk (qZk @dT.showL @gO.normL) (qZk @gO.showL (qZk @iT.normL @iT.showL)))) (qZk (qZk (qZk @lQ.normL @lQ.showL) (qZk @DQ (qZk @AA @OO.norm))) (qZk (qZk @OO.shown @wx.normL) (qZk @wx.showL (qZk @OP.normL @OP.showL)))))
def au := (qZk (qZk (qZk @da.treeL @dE.treeL) (qZk @dT.treeL (qZk @gO.tree @gO.treeL))) (qZk (qZk @iT.treeL (qZk @lQ.treeL @pU)) (qZk @OO.tree (qZk @wx.treeL @OP.treeL))))
end Go.V
namespace Go.V
open Go Go.Proofs IntKind Tryz
variable {P : Program} {d : Option Tmp} {tm : Nat → VV} {H : Nat → Option Vo} {df : List VDef} {f : FuncId} {args args0 : List VV}
theorem ktA {G : Gb} {γ : Nat} {nx : Nat} {K : St → Prop} {Qp : VV → St → Prop} {x : VV} (hp : ah P G f args0 (.tree x)) (h : fin d γ tm H nx df K x .none) (hn : normL args = args0 := by first | (simp only [nrm, ar] <;> rfl) | rfl) (ht : tl args = true := by simp only [tre, au, Bool.and_self]) : callK P G f args ⟨tm, H, nx, df⟩ d γ K Qp := ktree hn ht hp h
theorem dktA {G : Gb} {γ : Nat} {nx : Nat} {K : List Nat → List Nat → St → Prop} {x : VV} (hp : ah P G f args0 (.tree x)) (h : fin d γ tm H nx df (K [] []) x .none) (hn : normL args = args0 := by first | (simp only [nrm, ar] <;> rfl) | rfl) (ht : tl args = true := by simp only [tre, au, Bool.and_self]) : dcallK P G f args tm H nx df d γ K := dktree hn ht hp h
theorem optI {α β : Type} {K : Option β → Prop} {X : Option α} {F : α → Option β} (h : K (Option.bind X F)) (kN : ¬ K none) : ∃ r, X = some r ∧ K (F r) := by
  cases X with
  | none => exact absurd h kN
  | some r => exact ⟨r, rfl, h⟩
end Go.V
end
section
namespace Go.V
open Go Go.Proofs IntKind Tryz
def Dec (P : Program) (n : Nat) (t : TypeId) {α : Type} (enc : α → List VV) (R : α → Prop) : Prop := ∀ xs, ShapeT P n t xs → ∃ x : α, R x ∧ normL xs = enc x
variable {P : Program} {n : Nat} {t : TypeId}
theorem Q1 (hu : P.underlying t = some (.int .i64)) : Dec P (n + 1) t eI (fun _ => True) := by
 intro xs h
 simp only [ShapeT, hu] at h
 obtain ⟨i, _, rfl⟩ := h
 exact ⟨i, trivial, by simp only [wA, wB, Vr, eI]⟩
theorem Q2 (hu : P.underlying t = some .bool) : Dec P (n + 1) t eB (fun _ => True) := by
 intro xs h
 simp only [ShapeT, hu] at h
 obtain ⟨b, rfl⟩ := h
 exact ⟨b, trivial, by simp only [wA, wB, Q3, eB]⟩
theorem CE {P : Program} {n : Nat} {t : TypeId} {α : Type} {enc : α → List VV} {R : α → Prop} (h : Dec P n t enc R) : ∀ yss : List (List VV), (∀ ys ∈ yss, ShapeT P n t ys) → ∃ l : List α, l.length = yss.length ∧ (∀ x ∈ l, R x) ∧ normL yss.flatten = ad enc l
 | [], _ => ⟨[], rfl, fun _ hx => (by cases hx), rfl⟩
 | ys :: yss, hs => by
  obtain ⟨x, hx, e⟩ := h ys (hs ys (qZb ..))
  obtain ⟨l, h1, h2, h3⟩ := CE h yss (fun y hy => hs y (qZa _ hy))
  refine ⟨x :: l, by simp [h1], fun y hy => ?_, by rw [List.flatten_cons, wo, e, h3, fg]⟩
  rcases List.mem_cons.1 hy with rfl | hy
  ·exact hx
  ·exact h2 y hy
variable {α : Type}
theorem Q4 {e : TypeId} {enc : α → List VV} {R : α → Prop} (hu : P.underlying t = some (.slice e)) (h : Dec P n e enc R) : Dec P (n + 1) t (fun l : List α => [.sl (ad enc l) l.length false]) (fun l => lenOk l = true ∧ ∀ x ∈ l, R x) := by
 intro xs hs
 simp only [ShapeT, hu] at hs
 rcases hs with rfl | ⟨yss, hl, hall, rfl⟩
 ·exact ⟨[], ⟨rfl, fun _ hx => (by cases hx)⟩, by simp only [wA, wB, CF]; rfl⟩
 ·obtain ⟨l, h1, h2, h3⟩ := CE h yss hall
  refine ⟨l, ⟨?_, h2⟩, by simp only [wA, wB, CG, h3, h1]⟩
  have : maxLen = 9223372036854775807 := by decide
  unfold lenOk
  exact decide_eq_true (by omega)
variable {fs : Array Field} {xs : List VV}
theorem Q5 (hu : P.underlying t = some (.struct fs)) (h : ShapeT P (n + 1) t xs) : ∃ yss, FieldsS (ShapeT P n) fs.toList yss ∧ xs = yss.flatten := by
 simp only [ShapeT, hu] at h
 exact h
def TypesS (S : TypeId → List VV → Prop) : List TypeId → List (List VV) → Prop
 | [], [] => True
 | t :: ts, ys :: yss => S t ys ∧ TypesS S ts yss
 | _, _ => False
theorem CH {S : TypeId → List VV → Prop} : ∀ (fs : List Field) (yss : List (List VV)), FieldsS S fs yss → TypesS S (fs.map Field.type) yss
 | [], [], _ => trivial
 | f :: fs, ys :: yss, ⟨h1, h2⟩ => ⟨h1, CH fs yss h2⟩
 | [], _ :: _, h => h
 | _ :: _, [], h => h
variable {ts : List TypeId}
theorem Ey (hu : P.underlying t = some (.struct fs)) (ht : fs.toList.map Field.type = ts) (h : ShapeT P (n + 1) t xs) : ∃ yss, TypesS (ShapeT P n) ts yss ∧ xs = yss.flatten := by
 obtain ⟨yss, h1, h2⟩ := Q5 hu h
 exact ⟨yss, ht ▸ CH _ _ h1, h2⟩
theorem Vs (h : ArgsS P n (t :: ts) xs) : ∃ x xs', xs = x :: xs' ∧ ArgS P n t x ∧ ArgsS P n ts xs' := by
 match xs, h with
 | x :: xs', h => exact ⟨x, xs', rfl, h.1, h.2⟩
theorem Q6 (h : ArgsS P n [] xs) : xs = [] := by
 match xs, h with
 | [], _ => rfl
theorem Q7 {x : VV} {enc : α → List VV} {R : α → Prop} (hu : P.underlying t = some (.struct fs)) (hd : Dec P n t enc R) (h : ArgS P n t x) : ∃ s, R s ∧ normV x = .agg (enc s) := by
 obtain ⟨ys, h1, h2⟩ := h
 rw [hu] at h2
 obtain rfl : x = .agg ys := h2
 obtain ⟨s, hs, e⟩ := hd ys h1
 exact ⟨s, hs, by rw [Vt, e]⟩
theorem Q8 {d : TypeDesc} {x : VV} {enc : α → List VV} {R : α → Prop} (hu : P.underlying t = some d) (hn : (∀ fs, d ≠ .struct fs) ∧ ∀ m e, d ≠ .array m e) (hd : Dec P n t enc R) (h : ArgS P n t x) : ∃ s, R s ∧ [normV x] = enc s := by
 obtain ⟨ys, h1, h2⟩ := h
 rw [hu] at h2
 have h3 : ys = [x] := by
  cases d <;> first | exact h2 | exact absurd rfl (hn.1 _) | exact absurd rfl (hn.2 _ _)
 subst h3
 obtain ⟨s, hs, e⟩ := hd _ h1
 exact ⟨s, hs, by rw [← e, wA, wB]⟩
end Go.V
end
section
set_option maxRecDepth 100000
namespace Go.V
open Go Go.Proofs IntKind Tryz
def Q9 (x : GLw) : Prop := lenOk x.Signs = true ∧ lenOk x.Cuts = true
def Vu (x : GLs) : Prop := lenOk x.Widths = true ∧ lenOk x.Pairs = true ∧ lenOk x.Words = true ∧ ∀ y ∈ x.Words, Q9 y
variable {n : Nat}
section
variable {P : Program} (iD : P.underlying 3 = some (.int .i64)) (dV : P.underlying 22 = some (.slice 3)) {Vv : Array Field} (dW : P.underlying 25 = some (.struct Vv)) (dX : Vv.toList.map Field.type = [3, 3]) {CI : Array Field} (cm : P.underlying 108 = some (.struct CI)) (cn : CI.toList.map Field.type = [3, 3, 25]) (dY : P.underlying 23 = some (.slice 108)) (jF : P.underlying 4 = some (.bool)) {Vw : Array Field} (dZ : P.underlying 79 = some (.struct Vw)) (ec : Vw.toList.map Field.type = [22, 22, 4]) (ed : P.underlying 26 = some (.slice 79)) {Vy : Array Field} (eg : P.underlying 28 = some (.struct Vy)) (eh : Vy.toList.map Field.type = [22, 23, 25, 25, 3, 26, 3, 3])
include iD dV dW dX cm cn dY jF dZ ec ed eg eh
theorem gd_3 : Dec P (n + 1) 3 eI (fun _ => True) := Q1 iD
theorem gd_22 : Dec P (n + 2) 22 (eSl eI) (fun l => lenOk l = true ∧ ∀ x ∈ l, True) := Q4 dV (gd_3 iD dV dW dX cm cn dY jF dZ ec ed eg eh (n := n))
theorem gd_25 : Dec P (n + 2) 25 cGSpan (fun _ => True) := by
 intro xs h
 obtain ⟨yss, hf, rfl⟩ := Ey (n := n + 1) (ts := [3, 3]) dW dX h
 match yss, hf with
 | [y0, y1], ⟨h0, h1, _⟩ =>
  obtain ⟨x0, r0, e0⟩ := gd_3 iD dV dW dX cm cn dY jF dZ ec ed eg eh (n := n + 0) _ h0
  obtain ⟨x1, r1, e1⟩ := gd_3 iD dV dW dX cm cn dY jF dZ ec ed eg eh (n := n + 0) _ h1
  exact ⟨⟨x0, x1⟩, trivial, by simp only [List.flatten_cons, List.flatten_nil, List.append_nil, wo, e0, e1, eI, wC, eB, eS, eSl, wv, List.cons_append, List.nil_append]⟩
theorem QA : Dec P (n + 3) 108 cGLp (fun _ => True) := by
 intro xs h
 obtain ⟨yss, hf, rfl⟩ := Ey (n := n + 2) (ts := [3, 3, 25]) cm cn h
 match yss, hf with
 | [y0, y1, y2], ⟨h0, h1, h2, _⟩ =>
  obtain ⟨x0, r0, e0⟩ := gd_3 iD dV dW dX cm cn dY jF dZ ec ed eg eh (n := n + 1) _ h0
  obtain ⟨x1, r1, e1⟩ := gd_3 iD dV dW dX cm cn dY jF dZ ec ed eg eh (n := n + 1) _ h1
  obtain ⟨x2, r2, e2⟩ := gd_25 iD dV dW dX cm cn dY jF dZ ec ed eg eh (n := n + 0) _ h2
  exact ⟨⟨x0, x1, x2⟩, trivial, by simp only [List.flatten_cons, List.flatten_nil, List.append_nil, wo, e0, e1, e2, eI, wC, eB, eS, eSl, BW, wv, List.cons_append, List.nil_append]⟩
theorem gd_23 : Dec P (n + 4) 23 (eSl cGLp) (fun l => lenOk l = true ∧ ∀ x ∈ l, True) := Q4 dY (QA iD dV dW dX cm cn dY jF dZ ec ed eg eh (n := n))
theorem gd_4 : Dec P (n + 1) 4 eB (fun _ => True) := Q2 jF
theorem gd_79 : Dec P (n + 3) 79 cGLw (Q9) := by
 intro xs h
 obtain ⟨yss, hf, rfl⟩ := Ey (n := n + 2) (ts := [22, 22, 4]) dZ ec h
 match yss, hf with
 | [y0, y1, y2], ⟨h0, h1, h2, _⟩ =>
  obtain ⟨x0, r0, e0⟩ := gd_22 iD dV dW dX cm cn dY jF dZ ec ed eg eh (n := n + 0) _ h0
  obtain ⟨x1, r1, e1⟩ := gd_22 iD dV dW dX cm cn dY jF dZ ec ed eg eh (n := n + 0) _ h1
  obtain ⟨x2, r2, e2⟩ := gd_4 iD dV dW dX cm cn dY jF dZ ec ed eg eh (n := n + 1) _ h2
  exact ⟨⟨x0, x1, x2⟩, ⟨r0.1, r1.1⟩, by simp only [List.flatten_cons, List.flatten_nil, List.append_nil, wo, e0, e1, e2, eI, wC, eB, eS, eSl, yc, List.cons_append, List.nil_append]⟩
theorem gd_26 : Dec P (n + 4) 26 (eSl cGLw) (fun l => lenOk l = true ∧ ∀ x ∈ l, Q9 x) := Q4 ed (gd_79 iD dV dW dX cm cn dY jF dZ ec ed eg eh (n := n))
theorem gd_28 : Dec P (n + 5) 28 cGLs (Vu) := by
 intro xs h
 obtain ⟨yss, hf, rfl⟩ := Ey (n := n + 4) (ts := [22, 23, 25, 25, 3, 26, 3, 3]) eg eh h
 match yss, hf with
 | [y0, y1, y2, y3, y4, y5, y6, y7], ⟨h0, h1, h2, h3, h4, h5, h6, h7, _⟩ =>
  obtain ⟨x0, r0, e0⟩ := gd_22 iD dV dW dX cm cn dY jF dZ ec ed eg eh (n := n + 2) _ h0
  obtain ⟨x1, r1, e1⟩ := gd_23 iD dV dW dX cm cn dY jF dZ ec ed eg eh (n := n + 0) _ h1
  obtain ⟨x2, r2, e2⟩ := gd_25 iD dV dW dX cm cn dY jF dZ ec ed eg eh (n := n + 2) _ h2
  obtain ⟨x3, r3, e3⟩ := gd_25 iD dV dW dX cm cn dY jF dZ ec ed eg eh (n := n + 2) _ h3
  obtain ⟨x4, r4, e4⟩ := gd_3 iD dV dW dX cm cn dY jF dZ ec ed eg eh (n := n + 3) _ h4
  obtain ⟨x5, r5, e5⟩ := gd_26 iD dV dW dX cm cn dY jF dZ ec ed eg eh (n := n + 0) _ h5
  obtain ⟨x6, r6, e6⟩ := gd_3 iD dV dW dX cm cn dY jF dZ ec ed eg eh (n := n + 3) _ h6
  obtain ⟨x7, r7, e7⟩ := gd_3 iD dV dW dX cm cn dY jF dZ ec ed eg eh (n := n + 3) _ h7
  exact ⟨⟨x0, x1, x2, x3, x4, x5, x6, x7⟩, ⟨r0.1, r1.1, r5.1, r5.2⟩, by simp only [List.flatten_cons, List.flatten_nil, List.append_nil, wo, e0, e1, e2, e3, e4, e5, e6, e7, eI, wC, eB, eS, eSl, BX, wv, List.cons_append, List.nil_append]⟩
end
theorem dec_3 : Dec prog (n + 1) 3 eI (fun _ => True) := gd_3 underlying3 underlying22 underlying25 (by kernel_rfl) underlying108 (by kernel_rfl) underlying23 underlying4 underlying79 (by kernel_rfl) underlying26 underlying28 (by kernel_rfl)
theorem QB : Dec prog (n + 5) 28 cGLs (Vu) := gd_28 underlying3 underlying22 underlying25 (by kernel_rfl) underlying108 (by kernel_rfl) underlying23 underlying4 underlying79 (by kernel_rfl) underlying26 underlying28 (by kernel_rfl)
end Go.V
end
section
namespace Go.V
open Go Go.Proofs IntKind Tryz
def goB (b : Bool) : Option (LOut Bool Unit) := cond b (some (.go ())) (some (.ret false))
theorem ni (a b : Bool) : goB (a && b) = cond a (goB b) (some (.ret false)) := by cases a <;> rfl
variable {α : Type}
theorem cnot (a : Bool) (x y : α) : cond (!a) x y = cond a y x := by cases a <;> rfl
theorem cand (a b : Bool) (x y : α) : cond (a && b) x y = cond a (cond b x y) y := by cases a <;> rfl
theorem csome (a b : Bool) : cond a (some b) (some false) = some (a && b) := by cases a <;> rfl
theorem xD {X : Type} (b : Bool) (kr : Bool → Option X) (kg : Unit → Option X) (kb : Nat → Unit → Option X) : lbind (goB b) kr kg kb = cond b (kg ()) (kr false) := by cases b <;> rfl
def inB (a b n : Int) : Bool := decide (a ≤ n) && decide (n ≤ b)
theorem rb {a b n : Int} : inB a b n = true ↔ a ≤ n ∧ n ≤ b := by simp [inB]
theorem jS {n : Int} (h1 : -9223372036854775808 ≤ n) (h2 : n < 9223372036854775808) : i64.wrap n = n := IntWalk.i64_in _ (by omega)
theorem DM {xs : List α} (h : lenOk xs = true) : xs.length < 9223372036854775808 := by simpa [lenOk] using h
theorem km {xs : List α} (h : xs.length < 9223372036854775808) : lenOk xs = true := by simpa [lenOk] using h
variable {i : Int}
theorem Ue {xs : List α} (h0 : 0 ≤ i) (h1 : i < xs.length) : ∃ x, getI xs i = some x ∧ x ∈ xs := by
 unfold getI
 rw [if_pos h0]
 have h : i.toNat < xs.length := by omega
 exact ⟨xs[i.toNat], qZj h, List.getElem_mem h⟩
theorem Ky {xs : List α} {x : α} (h : getI xs i = some x) : x ∈ xs := by
 unfold getI at h
 split at h
 ·exact List.mem_of_getElem? h
 ·cases h
theorem Kx {xs : List α} {x : α} (h : getI xs i = some x) : 0 ≤ i ∧ i < xs.length := ⟨(CJ h).1, (CJ h).2.1⟩
theorem mulR {a b A B : Int} (h1 : 0 ≤ a) (h2 : a ≤ A) (h3 : 0 ≤ b) (h4 : b ≤ B) : 0 ≤ a * b ∧ a * b ≤ A * B :=
 ⟨Int.mul_nonneg h1 h3, Int.mul_le_mul h2 h4 h3 (qZm h1 h2)⟩
def nO (aS : Int) (je : Int) (bl : Int) : Option (Bool) := cond (decide (aS ≤ je)) (some (decide (je ≤ bl))) (some false)
theorem rO (aS : Int) (je : Int) (bl : Int) (R : Bool) (h : nO aS je bl = some R) : ah prog G0 112 [.lit (.int .i64 aS), .lit (.int .i64 je), .lit (.int .i64 bl)] (.tree (.lit (.bool R))) := by
 refine ah.runR mixed call112 func112 rfl (by simp [ntmps112]; kernel_rfl) ?_
 obtain ⟨KF, h, kF, kN⟩ := eN h
 simp only [nO] at h
 cases d1 : (decide (aS ≤ je))
 ·simp only [d1, hs] at h
  try simp only [vz, tyf, d1, nm, seval]
  obtain rfl := kF _ h
  exact bR results112 rfl
 simp only [d1, hs] at h
 try simp only [vz, tyf, d1, nm, seval]
 obtain rfl := kF _ h
 exact bR results112 rfl
def xC (aS : Int) (bl : Int) : List Int → Int → Option (LOut (Bool) (Unit))
 | [], iA => some (.go ())
 | e0 :: p0, iA => Option.bind (nO aS e0 bl) (fun r1 => cond (r1) (xC aS bl p0 (iA + 1)) (some (.ret false)))
def uY (aS : Int) (aj : List Int) (bl : Int) : Option (Bool) := cond (lenOk aj) (lbind (xC aS bl aj 0) (fun r3 => some r3) (fun c2 => some true) (fun _ _ => none)) none
theorem Ih (aS : Int) (aj : List Int) (bl : Int) (R : Bool) (h : uY aS aj bl = some R) : ah prog G0 147 [.lit (.int .i64 aS), .sl (ad eI aj) (List.length aj) false, .lit (.int .i64 bl)] (.tree (.lit (.bool R))) := by
 refine ah.runR mixed call147 func147 rfl (by simp [ntmps147]; kernel_rfl) ?_
 obtain ⟨KF, h, kF, kN⟩ := eN h
 simp only [uY] at h
 cases g5 : (lenOk aj)
 ·simp only [g5, hs] at h
  exact absurd h kN
 simp only [g5, hs] at h
 simp only [vz, tyf, g5, nm, seval]
 obtain ⟨K4, h, kR4, kG4, kB4, kN4⟩ := hX h kN
 obtain ⟨f4, hf4, h⟩ := call2 h
 obtain ⟨I4, QC⟩ : ∃ I : Nat → St → Prop, I = (fun m st => ∃ (p4 : List Int) (hO : Int), m = List.length p4 ∧ 0 ≤ hO ∧ List.drop (Int.toNat hO) aj = p4 ∧ st.df = [] ∧ 4 ≤ st.nx ∧ st.tm 0 = .lit (.int .i64 aS) ∧ st.tm 2 = .lit (.int .i64 bl) ∧ st.tm 9 = .sl (ad eI aj) (List.length aj) false ∧ st.tm 10 = .lit (.int .i64 (List.length aj : Int)) ∧ st.tm 11 = .lit (.int .i64 hO) ∧ K4 (f4 p4 hO)) := ⟨_, rfl⟩
 refine loopK mixed (by kernel_rfl) I4 (List.length aj) (by rw [QC]; refine ⟨aj, 0, rfl, qZg _, rfl, rfl, (show 4 ≤ 4 by omega), ?_, ?_, ?_, ?_, ?_, h⟩ <;> first | (simp only [ua, nm, seval] <;> rfl) | rfl) ?_
 rintro m ⟨tm, H, Vz, df⟩ aL
 rw [QC] at aL
 obtain ⟨p4, hO, rfl, yd, CK, hdf, vD, e6, e7, e8, e9, bx, h⟩ := aL
 simp only at hdf vD e6 e7 e8 e9 bx
 have ye := gQ (m := 4) (b := Vz) (by omega)
 subst hdf hf4
 cases p4 with
 | nil =>
  have dK : (decide (hO < (List.length aj : Int))) = false := gB yd CK
  simp only [xC, hs, reduceCtorEq] at h
  replace h := kG4 _ h
  try dsimp only at h
  try simp only [hs] at h
  try simp only [vz, tyf, g5, ye, e6, e7, e8, e9, bx, dK, nm, seval]
  obtain rfl := kF _ h
  exact bR results147 rfl
 | cons e4 p4 =>
  have cy : (decide (hO < (List.length aj : Int))) = true := gq yd CK
  have uZ := eV yd CK
  have CL := gu yd CK g5
  simp only [xC, hs, reduceCtorEq] at h
  obtain ⟨AR, Ke, h⟩ := optI h kN4
  try simp only [hs] at h
  simp only [vz, tyf, g5, ye, e6, e7, e8, e9, bx, cy, (aF uZ), CL, nm, seval]
  refine ktA (rO _ _ _ _ Ke) ?_
  refine bQ (fun tm => tm 0 = .lit (.int .i64 aS) ∧ tm 2 = .lit (.int .i64 bl) ∧ tm 9 = .sl (ad eI aj) (List.length aj) false ∧ tm 10 = .lit (.int .i64 (List.length aj : Int)) ∧ tm 11 = .lit (.int .i64 hO) ∧ tm 18 = .lit (.bool AR) ∧ True) (by refine ⟨e6, e7, e8, e9, bx, ?_, trivial⟩ <;> first | (simp only [ua, ye, e6, e7, e8, e9, bx, cy, CL, nm, seval] <;> rfl) | rfl) ?_
  rintro tm ⟨cq, fR, gR, bZ, cW, cI, _⟩
  cases jP : (AR)
  ·simp only [jP, hs] at h
   try simp only [vz, tyf, g5, ye, cy, (aF uZ), CL, cq, fR, gR, bZ, cW, cI, jP, nm, seval]
   replace h := kR4 _ h
   try dsimp only at h
   obtain rfl := kF _ h
   exact bR results147 rfl
  simp only [jP, hs] at h
  simp only [vz, tyf, g5, ye, cy, (aF uZ), CL, cq, fR, gR, bZ, cW, cI, jP, nm, seval]
  exact ⟨List.length p4, qZc _, by rw [QC]; refine ⟨p4, hO + 1, rfl, qZm yd (qZl (qZg _)), cb yd CK, rfl, (show 4 ≤ Vz + 11 by omega), cq, fR, gR, bZ, ?_, (by first | exact h | (simp only [cy, jP]; exact h))⟩ <;> first | (simp only [ua, ye, cy, CL, cq, fR, gR, bZ, cW, cI, jP, nm, seval] <;> rfl) | rfl⟩
def zU (cz : List Int) : Option (Bool) := Option.bind (nO 1 (List.length cz : Int) 6) (fun r1 => cond (r1) (Option.bind (uY 1 cz 20) (fun r2 => some r2)) (some false))
theorem XL (cz : List Int) (R : Bool) (h : zU cz = some R) : ah prog G0 109 [.sl (ad eI cz) (List.length cz) false] (.tree (.lit (.bool R))) := by
 refine ah.runR mixed call109 func109 rfl (by simp [ntmps109]; kernel_rfl) ?_
 obtain ⟨KF, h, kF, kN⟩ := eN h
 simp only [zU] at h
 obtain ⟨r3, o4, h⟩ := optI h kN
 try simp only [hs] at h
 simp only [vz, tyf, nm, seval]
 refine ktA (rO _ _ _ _ o4) ?_
 refine bQ (fun tm => tm 0 = .sl (ad eI cz) (List.length cz) false ∧ tm 5 = .lit (.bool r3) ∧ True) (by refine ⟨?_, ?_, trivial⟩ <;> first | (simp only [ua, nm, seval] <;> rfl) | rfl) ?_
 rintro tm ⟨e5, e6, _⟩
 cases d7 : (r3)
 ·simp only [d7, hs] at h
  try simp only [vz, tyf, e5, e6, d7, nm, seval]
  obtain rfl := kF _ h
  exact bR results109 rfl
 simp only [d7, hs] at h
 obtain ⟨r8, o9, h⟩ := optI h kN
 try simp only [hs] at h
 simp only [vz, tyf, e5, e6, d7, nm, seval]
 refine ktA (Ih _ _ _ _ o9) ?_
 refine bQ (fun tm => tm 6 = .lit (.bool true) ∧ tm 8 = .lit (.bool r8) ∧ True) (by refine ⟨?_, ?_, trivial⟩ <;> first | (simp only [ua, e5, e6, d7, nm, seval] <;> rfl) | rfl) ?_
 rintro tm ⟨bx, br, _⟩
 try simp only [vz, tyf, d7, bx, br, nm, seval]
 obtain rfl := kF _ h
 exact bR results109 rfl
def uU (aS : Int) (dv : GSpan) (bl : Int) : Option (Bool) := cond (decide (aS ≤ dv.Low)) (cond (decide (dv.Low ≤ dv.High)) (some (decide (dv.High ≤ bl))) (some false)) (some false)
theorem HZ (aS : Int) (dv : GSpan) (bl : Int) (R : Bool) (h : uU aS dv bl = some R) : ah prog G0 111 [.lit (.int .i64 aS), .agg (cGSpan dv), .lit (.int .i64 bl)] (.tree (.lit (.bool R))) := by
 refine ah.runR mixed call111 func111 rfl (by simp [ntmps111]; kernel_rfl) ?_
 obtain ⟨KF, h, kF, kN⟩ := eN h
 simp only [uU] at h
 cases d1 : (decide (aS ≤ dv.Low))
 ·simp only [d1, hs] at h
  try simp only [vz, tyf, d1, nm, seval]
  obtain rfl := kF _ h
  exact bR results111 rfl
 simp only [d1, hs] at h
 cases d2 : (decide (dv.Low ≤ dv.High))
 ·simp only [d2, hs] at h
  try simp only [vz, tyf, d1, d2, nm, seval]
  obtain rfl := kF _ h
  exact bR results111 rfl
 simp only [d2, hs] at h
 try simp only [vz, tyf, d1, d2, nm, seval]
 obtain rfl := kF _ h
 exact bR results111 rfl
def Ah (gm : Int) : Option (Bool) := some (gm != gm)
theorem V0 (gm : Int) (R : Bool) (h : Ah gm = some R) : ah prog G0 154 [.lit (.int .i64 gm)] (.tree (.lit (.bool R))) := by
 refine ah.runR mixed call154 func154 rfl (by simp [ntmps154]; kernel_rfl) ?_
 obtain ⟨KF, h, kF, kN⟩ := eN h
 simp only [Ah] at h
 try simp only [vz, tyf, nm, seval]
 obtain rfl := kF _ h
 exact bR results154 rfl
def sN (gm : Int) (jG : Int) : Option (Int) := Option.bind (Ah gm) (fun r1 => Option.bind (Ah jG) (fun r2 => cond (r1) (cond (r2) (some 0) (some (-1))) (cond (r2) (some 1) (cond (decide (gm < jG)) (some (-1)) (cond (decide (gm > jG)) (some 1) (some 0))))))
theorem D4 (gm : Int) (jG : Int) (R : Int) (h : sN gm jG = some R) : ah prog G0 125 [.lit (.int .i64 gm), .lit (.int .i64 jG)] (.tree (.lit (.int .i64 R))) := by
 refine ah.runR mixed call125 func125 rfl (by simp [ntmps125]; kernel_rfl) ?_
 obtain ⟨KF, h, kF, kN⟩ := eN h
 simp only [sN] at h
 obtain ⟨r3, o4, h⟩ := optI h kN
 try simp only [hs] at h
 simp only [vz, tyf, nm, seval]
 refine ktA (V0 _ _ o4) ?_
 refine bQ (fun tm => tm 0 = .lit (.int .i64 gm) ∧ tm 1 = .lit (.int .i64 jG) ∧ tm 8 = .lit (.bool r3) ∧ True) (by refine ⟨?_, ?_, ?_, trivial⟩ <;> first | (simp only [ua, nm, seval] <;> rfl) | rfl) ?_
 rintro tm ⟨e5, e6, e7, _⟩
 obtain ⟨r8, o9, h⟩ := optI h kN
 try simp only [hs] at h
 simp only [vz, tyf, e5, e6, e7, nm, seval]
 refine ktA (V0 _ _ o9) ?_
 refine bQ (fun tm => tm 0 = .lit (.int .i64 gm) ∧ tm 1 = .lit (.int .i64 jG) ∧ tm 5 = .lit (.bool r3) ∧ tm 10 = .lit (.bool r8) ∧ True) (by refine ⟨e5, e6, ?_, ?_, trivial⟩ <;> first | (simp only [ua, e5, e6, e7, nm, seval] <;> rfl) | rfl) ?_
 rintro tm ⟨bx, br, cj, bA, _⟩
 cases bX : (r3)
 ·simp only [bX, hs] at h
  cases dm : (r8)
  ·simp only [dm, hs] at h
   cases fq : (decide (gm < jG))
   ·simp only [fq, hs] at h
    cases iy : (decide (gm > jG))
    ·simp only [iy, hs] at h
     try simp only [vz, tyf, bx, br, cj, bA, bX, dm, fq, iy, nm, seval]
     refine cB (x := (.lit (.int .i64 0))) (by first | (simp only [results125, resV, resL, aE, cM, cN, uw, cr, tyf, bX, dm, fq, iy, nm, seval] <;> rfl) | rfl) ?_
     obtain rfl := kF _ h
     refine cO ?_ ?_
     ·simp only [tre, au, Bool.and_self]
     ·first | (simp only [outV, uw, dx, cr, tyf, nrm, ar, bx, br, cj, bA, bX, dm, fq, iy, nm, seval] <;> rfl) | rfl
    simp only [iy, hs] at h
    try simp only [vz, tyf, bx, br, cj, bA, bX, dm, fq, iy, nm, seval]
    refine cB (x := (.lit (.int .i64 1))) (by first | (simp only [results125, resV, resL, aE, cM, cN, uw, cr, tyf, bX, dm, fq, iy, nm, seval] <;> rfl) | rfl) ?_
    obtain rfl := kF _ h
    refine cO ?_ ?_
    ·simp only [tre, au, Bool.and_self]
    ·first | (simp only [outV, uw, dx, cr, tyf, nrm, ar, bx, br, cj, bA, bX, dm, fq, iy, nm, seval] <;> rfl) | rfl
   simp only [fq, hs] at h
   try simp only [vz, tyf, bx, br, cj, bA, bX, dm, fq, nm, seval]
   refine cB (x := (.lit (.int .i64 (-1)))) (by first | (simp only [results125, resV, resL, aE, cM, cN, uw, cr, tyf, bX, dm, fq, nm, seval] <;> rfl) | rfl) ?_
   obtain rfl := kF _ h
   refine cO ?_ ?_
   ·simp only [tre, au, Bool.and_self]
   ·first | (simp only [outV, uw, dx, cr, tyf, nrm, ar, bx, br, cj, bA, bX, dm, fq, nm, seval] <;> rfl) | rfl
  simp only [dm, hs] at h
  try simp only [vz, tyf, bx, br, cj, bA, bX, dm, nm, seval]
  refine cB (x := (.lit (.int .i64 1))) (by first | (simp only [results125, resV, resL, aE, cM, cN, uw, cr, tyf, bX, dm, nm, seval] <;> rfl) | rfl) ?_
  obtain rfl := kF _ h
  refine cO ?_ ?_
  ·simp only [tre, au, Bool.and_self]
  ·first | (simp only [outV, uw, dx, cr, tyf, nrm, ar, bx, br, cj, bA, bX, dm, nm, seval] <;> rfl) | rfl
 simp only [bX, hs] at h
 cases lT : (r8)
 ·simp only [lT, hs] at h
  try simp only [vz, tyf, bx, br, cj, bA, bX, lT, nm, seval]
  refine cB (x := (.lit (.int .i64 (-1)))) (by first | (simp only [results125, resV, resL, aE, cM, cN, uw, cr, tyf, bX, lT, nm, seval] <;> rfl) | rfl) ?_
  obtain rfl := kF _ h
  refine cO ?_ ?_
  ·simp only [tre, au, Bool.and_self]
  ·first | (simp only [outV, uw, dx, cr, tyf, nrm, ar, bx, br, cj, bA, bX, lT, nm, seval] <;> rfl) | rfl
 simp only [lT, hs] at h
 try simp only [vz, tyf, bx, br, cj, bA, bX, lT, nm, seval]
 refine cB (x := (.lit (.int .i64 0))) (by first | (simp only [results125, resV, resL, aE, cM, cN, uw, cr, tyf, bX, lT, nm, seval] <;> rfl) | rfl) ?_
 obtain rfl := kF _ h
 refine cO ?_ ?_
 ·simp only [tre, au, Bool.and_self]
 ·first | (simp only [outV, uw, dx, cr, tyf, nrm, ar, bx, br, cj, bA, bX, lT, nm, seval] <;> rfl) | rfl
def Ai  : List Int → Int → Option (LOut (Int) (Unit))
 | [], ik => some (.go ())
 | e0 :: p0, ik => cond (e0 != 0) (some (.ret e0)) (Ai p0 (ik + 1))
def wP (bP : List Int) : Option (Int) := cond (lenOk bP) (lbind (Ai bP 0) (fun r2 => some r2) (fun c1 => some 0) (fun _ _ => none)) none
theorem SU (bP : List Int) (R : Int) (h : wP bP = some R) : ah prog G0 124 [.sl (ad eI bP) (List.length bP) false] (.tree (.lit (.int .i64 R))) := by
 refine ah.runR mixed call124 func124 rfl (by simp [ntmps124]; kernel_rfl) ?_
 obtain ⟨KF, h, kF, kN⟩ := eN h
 simp only [wP] at h
 cases g4 : (lenOk bP)
 ·simp only [g4, hs] at h
  exact absurd h kN
 simp only [g4, hs] at h
 simp only [vz, tyf, g4, nm, seval]
 obtain ⟨K3, h, rF, oV, zh, zi⟩ := hX h kN
 obtain ⟨f3, pv, h⟩ := call2 h
 obtain ⟨I3, iY⟩ : ∃ I : Nat → St → Prop, I = (fun m st => ∃ (p3 : List Int) (cS : Int), m = List.length p3 ∧ 0 ≤ cS ∧ List.drop (Int.toNat cS) bP = p3 ∧ st.df = [] ∧ 5 ≤ st.nx ∧ st.tm 3 = .lit (.int .i64 0) ∧ st.tm 6 = .sl (ad eI bP) (List.length bP) false ∧ st.tm 7 = .lit (.int .i64 (List.length bP : Int)) ∧ st.tm 8 = .lit (.int .i64 cS) ∧ K3 (f3 p3 cS)) := ⟨_, rfl⟩
 refine loopK mixed (by kernel_rfl) I3 (List.length bP) (by rw [iY]; refine ⟨bP, 0, rfl, qZg _, rfl, rfl, (show 5 ≤ 5 by omega), ?_, ?_, ?_, ?_, h⟩ <;> first | (simp only [ua, nm, seval] <;> rfl) | rfl) ?_
 rintro m ⟨tm, H, ld, df⟩ aL
 rw [iY] at aL
 obtain ⟨p3, cS, rfl, eu, fG, hdf, lf, e5, e6, e7, e8, h⟩ := aL
 simp only at hdf lf e5 e6 e7 e8
 have n9 := gQ (m := 5) (b := ld) (by omega)
 subst hdf pv
 cases p3 with
 | nil =>
  have cR : (decide (cS < (List.length bP : Int))) = false := gB eu fG
  simp only [Ai, hs, reduceCtorEq] at h
  replace h := oV _ h
  try dsimp only at h
  try simp only [hs] at h
  try simp only [vz, tyf, g4, n9, e5, e6, e7, e8, cR, nm, seval]
  refine cB (x := (.lit (.int .i64 0))) (by first | (simp only [results124, resV, resL, aE, cM, cN, uw, cr, tyf, g4, n9, cR, nm, seval] <;> rfl) | rfl) ?_
  obtain rfl := kF _ h
  refine cO ?_ ?_
  ·simp only [tre, au, Bool.and_self]
  ·first | (simp only [outV, uw, dx, cr, tyf, nrm, ar, g4, n9, e5, e6, e7, e8, cR, nm, seval] <;> rfl) | rfl
 | cons e3 p3 =>
  have dt : (decide (cS < (List.length bP : Int))) = true := gq eu fG
  have lg := eV eu fG
  have jO := gu eu fG g4
  simp only [Ai, hs, reduceCtorEq] at h
  cases bX : (e3 != 0)
  ·simp only [bX, hs] at h
   simp only [vz, tyf, g4, n9, e5, e6, e7, e8, dt, (aF lg), jO, bX, nm, seval]
   exact ⟨List.length p3, qZc _, by rw [iY]; refine ⟨p3, cS + 1, rfl, qZm eu (qZl (qZg _)), cb eu fG, rfl, (show 5 ≤ ld + 9 by omega), e5, e6, e7, ?_, (by first | exact h | (simp only [dt, bX]; exact h))⟩ <;> first | (simp only [ua, n9, e5, e6, e7, e8, dt, jO, bX, nm, seval] <;> rfl) | rfl⟩
  simp only [bX, hs] at h
  try simp only [vz, tyf, g4, n9, e5, e6, e7, e8, dt, (aF lg), jO, bX, nm, seval]
  refine cB (x := (.lit (.int .i64 e3))) (by first | (simp only [results124, resV, resL, aE, cM, cN, uw, cr, tyf, g4, n9, dt, (aF lg), jO, bX, nm, seval] <;> rfl) | rfl) ?_
  replace h := rF _ h
  try dsimp only at h
  obtain rfl := kF _ h
  refine cO ?_ ?_
  ·simp only [tre, au, Bool.and_self]
  ·first | (simp only [outV, uw, dx, cr, tyf, nrm, ar, g4, n9, e5, e6, e7, e8, dt, (aF lg), jO, bX, nm, seval] <;> rfl) | rfl
def zL (ib : GLp) (ic : GLp) : Option (Int) := Option.bind (sN ib.Left ic.Left) (fun r1 => Option.bind (sN ib.Right ic.Right) (fun r2 => Option.bind (wP ([r1, r2])) (fun r3 => some r3)))
theorem X9 (ib : GLp) (ic : GLp) (R : Int) (h : zL ib ic = some R) : ah prog G0 148 [.agg (cGLp ib), .agg (cGLp ic)] (.tree (.lit (.int .i64 R))) := by
 refine ah.runR mixed call148 func148 rfl (by simp [ntmps148]; kernel_rfl) ?_
 obtain ⟨KF, h, kF, kN⟩ := eN h
 simp only [zL] at h
 simp only [vz, tyf, nm, seval]
 refine nH (fun tm => tm 2 = .ptr 0 0 ∧ tm 3 = .ptr 1 0 ∧ True) (by refine ⟨?_, ?_, trivial⟩ <;> first | (simp only [ua, nm, seval] <;> rfl) | rfl) ?_
 rintro tm ⟨e4, e5, _⟩
 obtain ⟨r6, o7, h⟩ := optI h kN
 try simp only [hs] at h
 simp only [vz, tyf, e4, e5, nm, seval]
 refine dktA (D4 _ _ _ o7) ?_
 refine bQ (fun tm => tm 2 = .ptr 0 0 ∧ tm 3 = .ptr 1 0 ∧ tm 9 = .lit (.int .i64 r6) ∧ True) (by refine ⟨e4, e5, ?_, trivial⟩ <;> first | (simp only [ua, e4, e5, nm, seval] <;> rfl) | rfl) ?_
 rintro tm ⟨e8, e9, bx, _⟩
 obtain ⟨u5, kn, h⟩ := optI h kN
 try simp only [hs] at h
 simp only [vz, tyf, e8, e9, bx, nm, seval]
 refine dktA (D4 _ _ _ kn) ?_
 refine bQ (fun tm => tm 9 = .lit (.int .i64 r6) ∧ tm 14 = .lit (.int .i64 u5) ∧ True) (by refine ⟨bx, ?_, trivial⟩ <;> first | (simp only [ua, e8, e9, bx, nm, seval] <;> rfl) | rfl) ?_
 rintro tm ⟨bA, bK, _⟩
 obtain ⟨D5, lS, h⟩ := optI h kN
 try simp only [hs] at h
 simp only [vz, tyf, bA, bK, nm, seval]
 refine dkseen1 (w := 1) (enc := eI) (xs := ([r6, u5])) (el := (some 3)) ⟨eI_ok.tree, eI_ok.norm⟩ (fun _ => rfl) (by simp only [List.length_cons, List.length_nil]; decide) (by simp only [bk, bF, eT, nm, seval] <;> rfl) (SU _ _ lS) (by first | rfl | simp only [VV.flat, flatL, Bool.and_self]) ?_
 refine bQ (fun tm => tm 16 = .lit (.int .i64 D5) ∧ True) (by refine ⟨?_, trivial⟩ <;> first | (simp only [ua, bA, bK, nm, seval] <;> rfl) | rfl) ?_
 rintro tm ⟨bm, _⟩
 simp only [vz, tyf, bm, nm, seval]
 refine jJ ⟨?_, ?_⟩
 ·simp only [jN, jM, eM, jK, and_true, true_and]
  repeat' (first | exact trivial | refine qZk ?_ ?_ | rw [eM] | rw [jL] | exact Or.inl (by decide +kernel) | exact Or.inl (by dsimp only; decide +kernel) | (refine Or.inr ⟨?_, ?_⟩ <;> simp; done) | (refine Or.inr ⟨?_, ?_⟩ <;> simp <;> omega) | (refine Or.inr ⟨?_, ?_⟩ <;> simp [Ve.wr] <;> omega))
 try simp only [vz, tyf, bm, nm, seval]
 refine cB (x := (.lit (.int .i64 D5))) (by first | (simp only [results148, resV, resL, aE, cM, cN, uw, cr, tyf, nm, seval] <;> rfl) | rfl) ?_
 obtain rfl := kF _ h
 refine cO ?_ ?_
 ·simp only [tre, au, Bool.and_self]
 ·first | (simp only [outV, uw, dx, cr, tyf, nrm, ar, bm, nm, seval] <;> rfl) | rfl
end Go.V
end
