/- Part of a proof. -/
import Derived.Test.YtekhjalgmlflpaaGreatDoorZbd
import Derived.Test.YtekhjalgmlflpaaGreatDoorZaw
import Derived.Test.YtekhjalgmlflpaaGreatDoorProg
set_option linter.all false
set_option maxRecDepth 4000
set_option maxHeartbeats 40000000
section
namespace Go.V
open Go Go.Proofs IntKind
def neB {α : Type} (xs : List α) : Bool := !xs.isEmpty
theorem B6 {α : Type} {xs : List α} (h : neB xs = true) : 0 < xs.length := by
 cases xs with
 | nil => cases h
 | cons a l => exact Nat.succ_pos _
section
variable {P : Program} {H : Nat → Option VObj} {γ : Nat} {α : Type} {enc : α → List VV} {t t2 e e2 w b : Nat} {xs ys : List α} {el : Option TypeId} {β : Nat} {f : Bool} {k : VV → VEff → Prop}
theorem nn (he : ∀ x, (enc x).length = w) (hl : ∀ x, leafL (enc x) = true) (ha : appOk P t = some (e, w, b)) (jh : P.underlying t2 = some (.slice e2)) (hb : H β = some (.cells el (aa enc xs)))
  (hm : neB ys = true) (hr : aw b (xs ++ ys).length = true) (h : k (.ref γ 0 (xs ++ ys).length w (xs ++ ys).length) (.mv β (sameEl el e) (aa enc (xs ++ ys)))) :
  oeK (vappend P H γ t t2 (.ref β 0 xs.length w xs.length) (.sl (aa enc ys) ys.length f)) k := by
 have hm := B6 hm
 obtain ⟨hu, inf, z, hi, hz, rfl, rfl, oW, oX, hzs⟩ := xr ha
 have hr' : (xs.length + ys.length) * inf.bytes ≤ 140737488355328 := by simpa [aw] using hr
 have h4 : (aa enc ys).all VV.leaf = true := by rw [xq]; exact zI hl ys
 have h2 := iH he ys
 have h1 := iH he xs
 have h5 : (aa enc ys).take (ys.length * inf.size) = aa enc ys := List.take_of_length_le (by omega)
 have h6 : ¬ (xs.length + ys.length ≤ xs.length) := by omega
 have key : vappend P H γ t t2 (.ref β 0 xs.length inf.size xs.length) (.sl (aa enc ys) ys.length f) = some (.ref γ 0 (xs ++ ys).length inf.size (xs ++ ys).length, .mv β (sameEl el e) (aa enc (xs ++ ys))) := by
  simp only [vappend, nilS, vappend1, hu, jh, hi, hz, srcV, sls, h5, h4, oW, oX, hzs, hb]
  simp [h2, h6, h1, hr', CP]
 rw [key]
 exact h
theorem sO (he : ∀ x, (enc x).length = w) (hl : ∀ x, leafL (enc x) = true) (ha : appOk P t = some (e, w, b)) (jh : P.underlying t2 = some (.slice e2))
  (hm : neB ys = true) (hr : aw b ([] ++ ys).length = true) (h : k (.ref γ 0 ([] ++ ys).length w ([] ++ ys).length) (.new (.cells (some e) (aa enc ([] ++ ys))))) :
  oeK (vappend P H γ t t2 (.lit (.slice none 0 0)) (.sl (aa enc ys) ys.length f)) k := by
 have hm := B6 hm
 obtain ⟨hu, inf, z, hi, hz, rfl, rfl, oW, oX, hzs⟩ := xr ha
 have hr' : ys.length * inf.bytes ≤ 140737488355328 := by simpa [aw] using hr
 have h4 : (aa enc ys).all VV.leaf = true := by rw [xq]; exact zI hl ys
 have h2 := iH he ys
 have h5 : (aa enc ys).take (ys.length * inf.size) = aa enc ys := List.take_of_length_le (by omega)
 have h6 : ys ≠ [] := by intro h; rw [h] at hm; exact absurd hm (by simp)
 have key : vappend P H γ t t2 (.lit (.slice none 0 0)) (.sl (aa enc ys) ys.length f) = some (.ref γ 0 ([] ++ ys).length inf.size ([] ++ ys).length, .new (.cells (some e) (aa enc ([] ++ ys)))) := by
  simp only [vappend, nilS, vappend1, hu, jh, hi, hz, srcV, sls, h5, h4, oW, oX, hzs]
  simp [h2, h6, hr']
 rw [key]
 exact h
end
theorem Mj {P : Program} {H : Nat → Option VObj} {t e : TypeId} {x y : Operand} {cs : List VV} {n : Nat} {f : Bool} (hu : P.underlying t = some (.slice e)) (hc : cs ≠ []) : binV P H .eql t x y (.sl cs n f) (.lit (.slice none 0 0)) = some (.lit (.bool false)) := by
 simp [binV, VV.val?, vptrEq, vptrEq.eq1, hu, hc]
end Go.V
end
section
set_option linter.defProp false
namespace Go.V
open Go Go.Proofs IntKind
section
variable {P : Program} {G : Glob} {n : Nat} {x : Code} {Q : VExit → St → Prop} {st : St}
end
end Go.V
end
section
set_option linter.defProp false
namespace Go.V
open Go Go.Proofs IntKind
section
variable {P : Program} {G : Glob} {n : Nat} {Q : VExit → St → Prop} {tm : Nat → VV} {H : Nat → Option VObj} {nx : Nat} {df : List VDef} {g : Operand} {ps : Array Tmp} {az bo : Code} {f : FuncId} {first captured : List VV}
theorem FW (hg : ev (G.at (some none)) tm g = .fn (.func f) first captured)
  (h : ∀ LO, LO = VObj.loop .ready none (tmL n tm) ps az bo nx → aE P (G.at (some none)) f (first ++ [.yl (nx + 1)] ++ captured) (updH (updH H nx (.deferred (some []))) (nx + 1) LO) (nx + 2)
   (fun _ H' nx' => RangeEnd P (G.at (some none)) n Q ⟨tm, H, nx, df⟩ H' nx') (fun x H' nx' => Q (.panic x) ⟨tm, H', nx', .coll nx :: df⟩)) : CWp P (G.at (some none)) n (.rangeFunc g ps az bo) Q ⟨tm, H, nx, df⟩ := by
 unfold CWp
 refine ⟨rfl, ?_⟩
 rw [show St.ρ (G.at (some none)) ⟨tm, H, nx, df⟩ g = ev (G.at (some none)) tm g from ev_eq .. ▸ rfl, hg]
 exact h _ rfl
theorem rG {H' : Nat → Option VObj} {nx' : Nat} {LO : VObj} {tml : List VV} {d : Nat} (hL : LO = VObj.loop .ready none tml ps az bo d) (h : H' (nx + 1) = some LO) (hq : ∀ LX, Q .normal ⟨tm, updH H' (nx + 1) LX, nx', .coll nx :: df⟩) : RangeEnd P G n Q ⟨tm, H, nx, df⟩ H' nx' :=
 ⟨.ready, none, tml, ps, az, bo, d, by rw [h, hL], by simp, hq _⟩
theorem xg {H' : Nat → Option VObj} {nx' : Nat} {LD : Code → VObj} {tml : List VV} {d : Nat} (hL : LD = fun c => VObj.loop .done (some c) tml ps az bo d) (h : H' (nx + 1) = some (LD .ret)) (hq : ∀ LX, Q .ret ⟨tm, updH H' (nx + 1) LX, nx', .coll nx :: df⟩) : RangeEnd P G n Q ⟨tm, H, nx, df⟩ H' nx' :=
 ⟨.done, some .ret, tml, ps, az, bo, d, by rw [h, hL], by simp, VWp.ret (hq _)⟩
def RndEnd (β : Nat) (LB LO : VObj) (LD : Code → VObj) (o : Oper) (st : St) (K : St → Prop) : VExit → St → Prop
 | .normal, s2 => s2.H β = some LB ∧ K { st.put o.dst (.lit (.bool true)) with H := updH s2.H β LO, nx := s2.nx }
 | .ret, s2 => s2.H β = some LB ∧ K { st.put o.dst (.lit (.bool false)) with H := updH s2.H β (LD .ret), nx := s2.nx }
 | .exit id, s2 => s2.H β = some LB ∧ K { st.put o.dst (.lit (.bool false)) with H := updH s2.H β (LD (.exit id)), nx := s2.nx }
 | _, _ => False
def RndAs (P : Program) (G : Glob) (n β : Nat) (LB LO : VObj) (LD : Code → VObj) (bo : Code) (o : Oper) (st : St) (K : St → Prop) : VExit → St → Prop
 | .normal, s1 => s1.H β = some LO ∧ CWp P (G.at (some (some β))) n bo (RndEnd β LB LO LD o st K) { s1 with H := updH s1.H β LB }
 | _, _ => False
theorem FV (hm : P.follows .mixedOrders = true) {o : Oper} {β : Nat} {args : List VV} {st : St} {K : St → Prop} {LO : VObj} {tml : List VV} {d : Nat} {psl : List Tmp} (hL : LO = VObj.loop .ready none tml ⟨psl⟩ az bo d) (hβ : st.H β = some LO) (hn : tml.length = n) (ha : args.length = psl.length)
  (h1 : codeOk n az = true) (h2 : codeOk n bo = true)
  (h : ∀ LB LD, LB = VObj.loop .busy none tml ⟨psl⟩ az bo d → LD = (fun c => VObj.loop .done (some c) tml ⟨psl⟩ az bo d) →
   CWp P (G.at (some (some β))) n az (RndAs P G n β LB LO LD bo o st K) ⟨aQ (roundTm tml psl args), st.H, st.nx, []⟩) : yieldK P G o β args st K := by
 unfold yieldK
 rw [hβ, hL]
 subst hn
 refine ⟨ha, (nF hm az _ _ h1 (h _ _ rfl rfl)).mono ?_⟩
 intro e s1 hs
 cases e with
 | normal =>
  obtain ⟨q1, q2⟩ := hs
  refine ⟨none, tml, ⟨psl⟩, az, bo, d, by rw [q1, hL], (nF hm bo _ _ h2 q2).mono ?_⟩
  intro e s2 lR
  cases e with
  | normal =>
   obtain ⟨r1, r2⟩ := lR
   refine ⟨_, _, _, _, _, _, _, r1, ?_⟩
   rw [hL] at r2
   exact r2
  | ret =>
   obtain ⟨r1, r2⟩ := lR
   exact ⟨_, _, _, _, _, _, _, r1, r2⟩
  | exit id =>
   obtain ⟨r1, r2⟩ := lR
   exact ⟨_, _, _, _, _, _, _, r1, r2⟩
  | goto l => exact lR.elim
  | panic x => exact lR.elim
 | _ => exact hs.elim
theorem th {m t p : Nat} {x : VV} (h : t < m) : aQ (roundTm (tmL m tm) [p] [x]) t = if t = p then x else tm t := by
 unfold aQ roundTm tmL
 simp only [List.zip_cons_cons, List.zip_nil_right, List.foldl_cons, List.foldl_nil]
 by_cases hp : t = p
 ·subst hp
  rw [if_pos rfl]
  simp [h]
 ·rw [if_neg hp]
  simp [List.getElem?_set, h, Ne.symm hp]
theorem tk {m t : Nat} (h : t < m) : aQ (roundTm (tmL m tm) [] []) t = tm t := by
 unfold aQ roundTm tmL
 simp [h]
theorem tf {m : Nat} : (tmL m tm).length = m := by simp [tmL]
theorem tg {code : Code} (F : (Nat → VV) → Prop) (hF : F tm) (h : ∀ tm, F tm → CWp P G n code Q ⟨tm, H, nx, df⟩) : CWp P G n code Q ⟨tm, H, nx, df⟩ := h tm hF
theorem OI {β : Nat} : vcells (.yl β) = some [.yl β] := rfl
theorem OJ {β : Nat} : (VV.yl β).leaf = true := rfl
theorem ad.at {x : Option (Option Nat)} {args : List VV} {r : PRes} (h : ad P G f args r) : ad P (G.at x) f args r := h
def rg := (And.intro @OI (And.intro @OJ @MB))
theorem oc {fn : Func} {R Rp : VV → (Nat → Option VObj) → Nat → Prop} {β : Nat} (h : H β = some (.deferred (some []))) (h2 : OpenPostD P G fn R Rp .ret ⟨tm, updH H β (.deferred none), nx, df⟩) : OpenPostD P G fn R Rp .ret ⟨tm, H, nx, .coll β :: df⟩ := ⟨h, h2⟩
theorem HK {fn : Func} {R Rp : VV → (Nat → Option VObj) → Nat → Prop} {β : Nat} (h : H β = some (.deferred (some []))) (h2 : OpenPostD P G fn R Rp .normal ⟨tm, updH H β (.deferred none), nx, df⟩) : OpenPostD P G fn R Rp .normal ⟨tm, H, nx, .coll β :: df⟩ := ⟨h, h2⟩
end
end Go.V
end
section
namespace Go.V
open Go Go.Proofs IntKind
section
variable {P : Program} {G : Glob} {f : FuncId} {β γ w c nx : Nat} {tm : Nat → VV} {H : Nat → Option VObj} {df : List VDef} {d : Option Tmp} {K : List Nat → List Nat → St → Prop} {el : Option TypeId} {α : Type} {enc : α → List VV} {xs ys : List α} {x : VV}
end
section
variable {P : Program} {G : Glob} {β γ w e : Nat} {t ty : TypeId} {tm : Nat → VV} {H : Nat → Option VObj} {d : Option Tmp} {k : VV → VEff → Prop} {el : Option TypeId} {α : Type} {enc : α → List VV} {xs ys : List α} {pos : String} {af : Array Edge} {g : Option (Nat × Bool)} {x : Operand} {lo hi : Option Operand}
end
section
variable {P : Program} {G : Glob} {f : FuncId} {γ nx : Nat} {tm : Nat → VV} {H : Nat → Option VObj} {df : List VDef} {d : Option Tmp} {x : VV}
theorem ktree0 {K : St → Prop} {Qp : VV → St → Prop} (hp : ad P G f [] (.tree x)) (h : fin d γ tm H nx df K x .none) : callK P G f [] ⟨tm, H, nx, df⟩ d γ K Qp := ktree (args0 := []) rfl rfl hp h
end
end Go.V
end
section
namespace Go.V
open Go Go.Proofs IntKind
variable {P : Program} {G : Glob} {β γ w e n off : Nat} {t ty : TypeId} {tm : Nat → VV} {H : Nat → Option VObj} {d : Option Tmp} {k : VV → VEff → Prop} {el : Option TypeId} {cs : List VV} {pos : String} {af : Array Edge} {g : Option (Nat × Bool)} {x : Operand}
theorem k_slA (hu : P.underlying t = some (.array n e)) (hs : szT P e = some w) (hx : ev G tm x = .ptr β off) (hH : H β = some (.cells el cs)) (hn : 0 < n) (hle : off + n * w ≤ cs.length)
  (h : k (.ref β off n w n) .none) : oeK (vop P ⟨d, .slice t x none none none, ty, pos, af, g⟩ (ev G tm) H γ) k := by
 have e1 : vslice P H t (.ptr β off) none none none = none := by simp [vslice, hu]
 have e3 : vsliceX P H t (.ptr β off) none none none = some (.ref β off n w n) := by simp [vsliceX, hu, hH, hs, vbound, hn, hle]
 have e2 : vop P ⟨d, .slice t x none none none, ty, pos, af, g⟩ (ev G tm) H γ = some (.ref β off n w n, .none) := by
  simp [vop, hu, hx, e1, e3]
 rw [e2]
 exact h
end Go.V
namespace Go.V
open Go Go.Proofs IntKind
end Go.V
end
section
namespace Go.V
open Go Go.Proofs IntKind
theorem mixed : Tryz.prog.follows .mixedOrders = true := by kernel_rfl
structure Gi where
 a0 : Int
 a1 : Int
 a2 : Int
 deriving Inhabited, DecidableEq
def cGi (x : Gi) : List VV := [.lit (.int .i64 x.a0), .lit (.int .i64 x.a1), .lit (.int .i64 x.a2)]
theorem xX {x : Gi} : cGi x = [.lit (.int .i64 x.a0), .lit (.int .i64 x.a1), .lit (.int .i64 x.a2)] := rfl
theorem eL : EncOk cGi := EncOk.of (fun x => by simp only [xX, tre, Bool.and_self]) (fun x => by simp only [xX, nrm]) (fun x H d => by simp only [xX, nrm, List.map_cons, List.map_nil])
structure GSpan where
 Low : Int
 High : Int
 deriving Inhabited, DecidableEq
def aK (x : GSpan) : List VV := [.lit (.int .i64 x.Low), .lit (.int .i64 x.High)]
theorem tL {x : GSpan} : aK x = [.lit (.int .i64 x.Low), .lit (.int .i64 x.High)] := rfl
theorem gY : EncOk aK := EncOk.of (fun x => by simp only [tL, tre, eL.tree, eL.treeL, Bool.and_self]) (fun x => by simp only [tL, nrm, eL.norm, eL.normL, eL.shown, eL.showL]) (fun x H d => by simp only [tL, nrm, List.map_cons, List.map_nil])
structure Ga where
 a0 : GSpan
 a1 : GSpan
 a2 : GSpan
 deriving Inhabited, DecidableEq
def cGa (x : Ga) : List VV := [.lit (.int .i64 x.a0.Low), .lit (.int .i64 x.a0.High), .lit (.int .i64 x.a1.Low), .lit (.int .i64 x.a1.High), .lit (.int .i64 x.a2.Low), .lit (.int .i64 x.a2.High)]
theorem we {x : Ga} : cGa x = [.lit (.int .i64 x.a0.Low), .lit (.int .i64 x.a0.High), .lit (.int .i64 x.a1.Low), .lit (.int .i64 x.a1.High), .lit (.int .i64 x.a2.Low), .lit (.int .i64 x.a2.High)] := rfl
theorem ji : EncOk cGa := EncOk.of (fun x => by simp only [we, tre, eL.tree, eL.treeL, gY.tree, gY.treeL, Bool.and_self]) (fun x => by simp only [we, nrm, eL.norm, eL.normL, eL.shown, eL.showL, gY.norm, gY.normL, gY.shown, gY.showL]) (fun x H d => by simp only [we, nrm, List.map_cons, List.map_nil])
structure Gt where
 pg : Ga
 deriving Inhabited, DecidableEq
def cGt (x : Gt) : List VV := [.lit (.int .i64 x.pg.a0.Low), .lit (.int .i64 x.pg.a0.High), .lit (.int .i64 x.pg.a1.Low), .lit (.int .i64 x.pg.a1.High), .lit (.int .i64 x.pg.a2.Low), .lit (.int .i64 x.pg.a2.High)]
theorem B7 {x : Gt} : cGt x = [.lit (.int .i64 x.pg.a0.Low), .lit (.int .i64 x.pg.a0.High), .lit (.int .i64 x.pg.a1.Low), .lit (.int .i64 x.pg.a1.High), .lit (.int .i64 x.pg.a2.Low), .lit (.int .i64 x.pg.a2.High)] := rfl
theorem jV : EncOk cGt := EncOk.of (fun x => by simp only [B7, tre, eL.tree, eL.treeL, gY.tree, gY.treeL, ji.tree, ji.treeL, Bool.and_self]) (fun x => by simp only [B7, nrm, eL.norm, eL.normL, eL.shown, eL.showL, gY.norm, gY.normL, gY.shown, gY.showL, ji.norm, ji.normL, ji.shown, ji.showL]) (fun x H d => by simp only [B7, nrm, List.map_cons, List.map_nil])
structure Gs where
 Old : Gi
 Fade : Ga
 Years : GSpan
 Off : Int
 Tins : List Gt
 deriving Inhabited, DecidableEq
def cGs (x : Gs) : List VV := [.lit (.int .i64 x.Old.a0), .lit (.int .i64 x.Old.a1), .lit (.int .i64 x.Old.a2), .lit (.int .i64 x.Fade.a0.Low), .lit (.int .i64 x.Fade.a0.High), .lit (.int .i64 x.Fade.a1.Low), .lit (.int .i64 x.Fade.a1.High), .lit (.int .i64 x.Fade.a2.Low), .lit (.int .i64 x.Fade.a2.High), .lit (.int .i64 x.Years.Low), .lit (.int .i64 x.Years.High), .lit (.int .i64 x.Off), .sl (aa cGt x.Tins) (List.length x.Tins) false]
theorem B8 {x : Gs} : cGs x = [.lit (.int .i64 x.Old.a0), .lit (.int .i64 x.Old.a1), .lit (.int .i64 x.Old.a2), .lit (.int .i64 x.Fade.a0.Low), .lit (.int .i64 x.Fade.a0.High), .lit (.int .i64 x.Fade.a1.Low), .lit (.int .i64 x.Fade.a1.High), .lit (.int .i64 x.Fade.a2.Low), .lit (.int .i64 x.Fade.a2.High), .lit (.int .i64 x.Years.Low), .lit (.int .i64 x.Years.High), .lit (.int .i64 x.Off), .sl (aa cGt x.Tins) (List.length x.Tins) false] := rfl
theorem lX : EncOk cGs := EncOk.of (fun x => by simp only [B8, tre, eL.tree, eL.treeL, gY.tree, gY.treeL, ji.tree, ji.treeL, jV.tree, jV.treeL, Bool.and_self]) (fun x => by simp only [B8, nrm, eL.norm, eL.normL, eL.shown, eL.showL, gY.norm, gY.normL, gY.shown, gY.showL, ji.norm, ji.normL, ji.shown, ji.showL, jV.norm, jV.normL, jV.shown, jV.showL]) (fun x H d => by simp only [B8, nrm, List.map_cons, List.map_nil])
structure Gu where
 Tins : List Gi
 Years : Int
 Fade : Gi
 deriving Inhabited, DecidableEq
def cGu (x : Gu) : List VV := [.sl (aa cGi x.Tins) (List.length x.Tins) false, .lit (.int .i64 x.Years), .lit (.int .i64 x.Fade.a0), .lit (.int .i64 x.Fade.a1), .lit (.int .i64 x.Fade.a2)]
theorem D3 {x : Gu} : cGu x = [.sl (aa cGi x.Tins) (List.length x.Tins) false, .lit (.int .i64 x.Years), .lit (.int .i64 x.Fade.a0), .lit (.int .i64 x.Fade.a1), .lit (.int .i64 x.Fade.a2)] := rfl
theorem xY : EncOk cGu := EncOk.of (fun x => by simp only [D3, tre, eL.tree, eL.treeL, gY.tree, gY.treeL, ji.tree, ji.treeL, jV.tree, jV.treeL, lX.tree, lX.treeL, Bool.and_self]) (fun x => by simp only [D3, nrm, eL.norm, eL.normL, eL.shown, eL.showL, gY.norm, gY.normL, gY.shown, gY.showL, ji.norm, ji.normL, ji.shown, ji.showL, jV.norm, jV.normL, jV.shown, jV.showL, lX.norm, lX.normL, lX.shown, lX.showL]) (fun x H d => by simp only [D3, nrm, List.map_cons, List.map_nil])
structure Gm where
 sh : Gs
 mix : List Int
 deriving Inhabited, DecidableEq
def cGm (x : Gm) : List VV := [.lit (.int .i64 x.sh.Old.a0), .lit (.int .i64 x.sh.Old.a1), .lit (.int .i64 x.sh.Old.a2), .lit (.int .i64 x.sh.Fade.a0.Low), .lit (.int .i64 x.sh.Fade.a0.High), .lit (.int .i64 x.sh.Fade.a1.Low), .lit (.int .i64 x.sh.Fade.a1.High), .lit (.int .i64 x.sh.Fade.a2.Low), .lit (.int .i64 x.sh.Fade.a2.High), .lit (.int .i64 x.sh.Years.Low), .lit (.int .i64 x.sh.Years.High), .lit (.int .i64 x.sh.Off), .sl (aa cGt x.sh.Tins) (List.length x.sh.Tins) false, .sl (aa eI x.mix) (List.length x.mix) false]
theorem D4 {x : Gm} : cGm x = [.lit (.int .i64 x.sh.Old.a0), .lit (.int .i64 x.sh.Old.a1), .lit (.int .i64 x.sh.Old.a2), .lit (.int .i64 x.sh.Fade.a0.Low), .lit (.int .i64 x.sh.Fade.a0.High), .lit (.int .i64 x.sh.Fade.a1.Low), .lit (.int .i64 x.sh.Fade.a1.High), .lit (.int .i64 x.sh.Fade.a2.Low), .lit (.int .i64 x.sh.Fade.a2.High), .lit (.int .i64 x.sh.Years.Low), .lit (.int .i64 x.sh.Years.High), .lit (.int .i64 x.sh.Off), .sl (aa cGt x.sh.Tins) (List.length x.sh.Tins) false, .sl (aa eI x.mix) (List.length x.mix) false] := rfl
theorem uU : EncOk cGm := EncOk.of (fun x => by simp only [D4, tre, eL.tree, eL.treeL, gY.tree, gY.treeL, ji.tree, ji.treeL, jV.tree, jV.treeL, lX.tree, lX.treeL, xY.tree, xY.treeL, Bool.and_self]) (fun x => by simp only [D4, nrm, eL.norm, eL.normL, eL.shown, eL.showL, gY.norm, gY.normL, gY.shown, gY.showL, ji.norm, ji.normL, ji.shown, ji.showL, jV.norm, jV.normL, jV.shown, jV.showL, lX.norm, lX.normL, lX.shown, lX.showL, xY.norm, xY.normL, xY.shown, xY.showL]) (fun x H d => by simp only [D4, nrm, List.map_cons, List.map_nil])
structure Gf where
 pigment : Int
 years : Int
 deriving Inhabited, DecidableEq
def cGf (x : Gf) : List VV := [.lit (.int .i64 x.pigment), .lit (.int .i64 x.years)]
theorem YH {x : Gf} : cGf x = [.lit (.int .i64 x.pigment), .lit (.int .i64 x.years)] := rfl
theorem OK : EncOk (eSl eI) := EncOk.sl eI_ok
theorem YI {c : VV} {cs : List VV} : aR Tryz.prog 3 (c :: cs) = some c := by
 have h1 : aggT Tryz.prog 3 = some false := by kernel_rfl
 simp [aR, vpart, h1]
theorem YJ : szT Tryz.prog 3 = some 1 := by kernel_rfl
theorem OL : vzl Tryz.prog 3 = some [.lit (.int .i64 0)] := by kernel_rfl
theorem YK {c : VV} {cs : List VV} : aR Tryz.prog 4 (c :: cs) = some c := by
 have h1 : aggT Tryz.prog 4 = some false := by kernel_rfl
 simp [aR, vpart, h1]
theorem YL : szT Tryz.prog 4 = some 1 := by kernel_rfl
theorem OM : vzl Tryz.prog 4 = some [.lit (.bool false)] := by kernel_rfl
theorem ON {c0 c1 c2 : VV} {cs : List VV} : aR Tryz.prog 22 (c0 :: c1 :: c2 :: cs) = some (.agg [c0, c1, c2]) := by
 have h1 : aggT Tryz.prog 22 = some true := by kernel_rfl
 have h2 : szT Tryz.prog 22 = some 3 := by kernel_rfl
 simp [aR, vpart, h1, h2]
theorem OO : szT Tryz.prog 22 = some 3 := by kernel_rfl
theorem tM : vzl Tryz.prog 22 = some [.lit (.int .i64 0), .lit (.int .i64 0), .lit (.int .i64 0)] := by kernel_rfl
theorem OP {H : Nat → Option VObj} {cs : List VV} {k : IntKind} : ag Tryz.prog H 22 (.tp cs) (.lit (.int k (0 : Int))) = some (.tp (cs.drop 0)) := by
 have h2 : szT Tryz.prog 3 = some 1 := by kernel_rfl
 simp [ag, Tryz.underlying22, h2]
theorem OQ {c0 c1 c2 : VV} {k : IntKind} : vindex Tryz.prog 22 (.agg [c0, c1, c2]) (.lit (.int k (0 : Int))) = some (c0) := by
 have h1 : aggT Tryz.prog 3 = some false := by kernel_rfl
 have h2 : szT Tryz.prog 3 = some 1 := by kernel_rfl
 simp [vindex, Tryz.underlying22, vpart, h1, h2]
theorem lV {H : Nat → Option VObj} {β o : Nat} {k : IntKind} {i : Int} (h : (i == 0) = true) : ag Tryz.prog H 22 (.ptr β o) (.lit (.int k i)) = if (H β).isSome = true then some (.ptr β (o + 0)) else none := by
 obtain rfl : i = 0 := by simpa using h
 have h2 : szT Tryz.prog 3 = some 1 := by kernel_rfl
 simp [ag, Tryz.underlying22, h2]
theorem OR {H : Nat → Option VObj} {cs : List VV} {k : IntKind} : ag Tryz.prog H 22 (.tp cs) (.lit (.int k (1 : Int))) = some (.tp (cs.drop 1)) := by
 have h2 : szT Tryz.prog 3 = some 1 := by kernel_rfl
 simp [ag, Tryz.underlying22, h2]
theorem OS {c0 c1 c2 : VV} {k : IntKind} : vindex Tryz.prog 22 (.agg [c0, c1, c2]) (.lit (.int k (1 : Int))) = some (c1) := by
 have h1 : aggT Tryz.prog 3 = some false := by kernel_rfl
 have h2 : szT Tryz.prog 3 = some 1 := by kernel_rfl
 simp [vindex, Tryz.underlying22, vpart, h1, h2]
theorem lU {H : Nat → Option VObj} {β o : Nat} {k : IntKind} {i : Int} (h : (i == 1) = true) : ag Tryz.prog H 22 (.ptr β o) (.lit (.int k i)) = if (H β).isSome = true then some (.ptr β (o + 1)) else none := by
 obtain rfl : i = 1 := by simpa using h
 have h2 : szT Tryz.prog 3 = some 1 := by kernel_rfl
 simp [ag, Tryz.underlying22, h2]
theorem OT {H : Nat → Option VObj} {cs : List VV} {k : IntKind} : ag Tryz.prog H 22 (.tp cs) (.lit (.int k (2 : Int))) = some (.tp (cs.drop 2)) := by
 have h2 : szT Tryz.prog 3 = some 1 := by kernel_rfl
 simp [ag, Tryz.underlying22, h2]
theorem OU {c0 c1 c2 : VV} {k : IntKind} : vindex Tryz.prog 22 (.agg [c0, c1, c2]) (.lit (.int k (2 : Int))) = some (c2) := by
 have h1 : aggT Tryz.prog 3 = some false := by kernel_rfl
 have h2 : szT Tryz.prog 3 = some 1 := by kernel_rfl
 simp [vindex, Tryz.underlying22, vpart, h1, h2]
theorem lT {H : Nat → Option VObj} {β o : Nat} {k : IntKind} {i : Int} (h : (i == 2) = true) : ag Tryz.prog H 22 (.ptr β o) (.lit (.int k i)) = if (H β).isSome = true then some (.ptr β (o + 2)) else none := by
 obtain rfl : i = 2 := by simpa using h
 have h2 : szT Tryz.prog 3 = some 1 := by kernel_rfl
 simp [ag, Tryz.underlying22, h2]
theorem OV {c0 c1 : VV} {cs : List VV} : aR Tryz.prog 24 (c0 :: c1 :: cs) = some (.agg [c0, c1]) := by
 have h1 : aggT Tryz.prog 24 = some true := by kernel_rfl
 have h2 : szT Tryz.prog 24 = some 2 := by kernel_rfl
 simp [aR, vpart, h1, h2]
theorem OW : szT Tryz.prog 24 = some 2 := by kernel_rfl
theorem pP : vzl Tryz.prog 24 = some [.lit (.int .i64 0), .lit (.int .i64 0)] := by kernel_rfl
theorem OX {H : Nat → Option VObj} {cs : List VV} : an Tryz.prog H 24 (.tp cs) 0 = some (.tp (cs.drop 0)) := by
 have h2 : szT Tryz.prog 3 = some 1 := by kernel_rfl
 simp [an, Tryz.underlying24, h2]
theorem OY {H : Nat → Option VObj} {β o : Nat} : an Tryz.prog H 24 (.ptr β o) 0 = if (H β).isSome = true then some (.ptr β (o + 0)) else none := by
 have h2 : szT Tryz.prog 3 = some 1 := by kernel_rfl
 simp [an, Tryz.underlying24, h2]
theorem OZ {c0 c1 : VV} : vfield Tryz.prog 24 (.agg [c0, c1]) 0 = some (c0) := by
 have h1 : aggT Tryz.prog 3 = some false := by kernel_rfl
 have h2 : szT Tryz.prog 3 = some 1 := by kernel_rfl
 simp [vfield, Tryz.underlying24, vpart, h1, h2]
theorem Pa {H : Nat → Option VObj} {cs : List VV} : an Tryz.prog H 24 (.tp cs) 1 = some (.tp (cs.drop 1)) := by
 have h2 : szT Tryz.prog 3 = some 1 := by kernel_rfl
 simp [an, Tryz.underlying24, h2]
theorem Pb {H : Nat → Option VObj} {β o : Nat} : an Tryz.prog H 24 (.ptr β o) 1 = if (H β).isSome = true then some (.ptr β (o + 1)) else none := by
 have h2 : szT Tryz.prog 3 = some 1 := by kernel_rfl
 simp [an, Tryz.underlying24, h2]
theorem Pc {c0 c1 : VV} : vfield Tryz.prog 24 (.agg [c0, c1]) 1 = some (c1) := by
 have h1 : aggT Tryz.prog 3 = some false := by kernel_rfl
 have h2 : szT Tryz.prog 3 = some 1 := by kernel_rfl
 simp [vfield, Tryz.underlying24, vpart, h1, h2]
theorem Pd {c0 c1 c2 c3 c4 c5 : VV} {cs : List VV} : aR Tryz.prog 25 (c0 :: c1 :: c2 :: c3 :: c4 :: c5 :: cs) = some (.agg [c0, c1, c2, c3, c4, c5]) := by
 have h1 : aggT Tryz.prog 25 = some true := by kernel_rfl
 have h2 : szT Tryz.prog 25 = some 6 := by kernel_rfl
 simp [aR, vpart, h1, h2]
theorem Pe : szT Tryz.prog 25 = some 6 := by kernel_rfl
theorem tN : vzl Tryz.prog 25 = some [.lit (.int .i64 0), .lit (.int .i64 0), .lit (.int .i64 0), .lit (.int .i64 0), .lit (.int .i64 0), .lit (.int .i64 0)] := by kernel_rfl
theorem Pf {H : Nat → Option VObj} {β o : Nat} {k : IntKind} : ag Tryz.prog H 25 (.ptr β o) (.lit (.int k (0 : Int))) = if (H β).isSome = true then some (.ptr β (o + 0)) else none := by
 have h2 : szT Tryz.prog 24 = some 2 := by kernel_rfl
 simp [ag, Tryz.underlying25, h2]
theorem Pg {H : Nat → Option VObj} {cs : List VV} {k : IntKind} : ag Tryz.prog H 25 (.tp cs) (.lit (.int k (0 : Int))) = some (.tp (cs.drop 0)) := by
 have h2 : szT Tryz.prog 24 = some 2 := by kernel_rfl
 simp [ag, Tryz.underlying25, h2]
theorem Ph {c0 c1 c2 c3 c4 c5 : VV} {k : IntKind} : vindex Tryz.prog 25 (.agg [c0, c1, c2, c3, c4, c5]) (.lit (.int k (0 : Int))) = some (.agg [c0, c1]) := by
 have h1 : aggT Tryz.prog 24 = some true := by kernel_rfl
 have h2 : szT Tryz.prog 24 = some 2 := by kernel_rfl
 simp [vindex, Tryz.underlying25, vpart, h1, h2]
theorem iF {H : Nat → Option VObj} {β o : Nat} {k : IntKind} {i : Int} (h : (i == 0) = true) : ag Tryz.prog H 25 (.ptr β o) (.lit (.int k i)) = if (H β).isSome = true then some (.ptr β (o + 0)) else none := by
 obtain rfl : i = 0 := by simpa using h
 have h2 : szT Tryz.prog 24 = some 2 := by kernel_rfl
 simp [ag, Tryz.underlying25, h2]
theorem sK {H : Nat → Option VObj} {cs : List VV} {k : IntKind} {i : Int} (h : (i == 0) = true) : ag Tryz.prog H 25 (.tp cs) (.lit (.int k i)) = some (.tp (cs.drop 0)) := by
 obtain rfl : i = 0 := by simpa using h
 have h2 : szT Tryz.prog 24 = some 2 := by kernel_rfl
 simp [ag, Tryz.underlying25, h2]
theorem mM {c0 c1 c2 c3 c4 c5 : VV} {k : IntKind} {i : Int} (h : (i == 0) = true) : vindex Tryz.prog 25 (.agg [c0, c1, c2, c3, c4, c5]) (.lit (.int k i)) = some (.agg [c0, c1]) := by
 obtain rfl : i = 0 := by simpa using h
 have h1 : aggT Tryz.prog 24 = some true := by kernel_rfl
 have h2 : szT Tryz.prog 24 = some 2 := by kernel_rfl
 simp [vindex, Tryz.underlying25, vpart, h1, h2]
theorem Pj {H : Nat → Option VObj} {β o : Nat} {k : IntKind} : ag Tryz.prog H 25 (.ptr β o) (.lit (.int k (1 : Int))) = if (H β).isSome = true then some (.ptr β (o + 2)) else none := by
 have h2 : szT Tryz.prog 24 = some 2 := by kernel_rfl
 simp [ag, Tryz.underlying25, h2]
theorem Pk {H : Nat → Option VObj} {cs : List VV} {k : IntKind} : ag Tryz.prog H 25 (.tp cs) (.lit (.int k (1 : Int))) = some (.tp (cs.drop 2)) := by
 have h2 : szT Tryz.prog 24 = some 2 := by kernel_rfl
 simp [ag, Tryz.underlying25, h2]
theorem Pl {c0 c1 c2 c3 c4 c5 : VV} {k : IntKind} : vindex Tryz.prog 25 (.agg [c0, c1, c2, c3, c4, c5]) (.lit (.int k (1 : Int))) = some (.agg [c2, c3]) := by
 have h1 : aggT Tryz.prog 24 = some true := by kernel_rfl
 have h2 : szT Tryz.prog 24 = some 2 := by kernel_rfl
 simp [vindex, Tryz.underlying25, vpart, h1, h2]
theorem iE {H : Nat → Option VObj} {β o : Nat} {k : IntKind} {i : Int} (h : (i == 1) = true) : ag Tryz.prog H 25 (.ptr β o) (.lit (.int k i)) = if (H β).isSome = true then some (.ptr β (o + 2)) else none := by
 obtain rfl : i = 1 := by simpa using h
 have h2 : szT Tryz.prog 24 = some 2 := by kernel_rfl
 simp [ag, Tryz.underlying25, h2]
theorem sJ {H : Nat → Option VObj} {cs : List VV} {k : IntKind} {i : Int} (h : (i == 1) = true) : ag Tryz.prog H 25 (.tp cs) (.lit (.int k i)) = some (.tp (cs.drop 2)) := by
 obtain rfl : i = 1 := by simpa using h
 have h2 : szT Tryz.prog 24 = some 2 := by kernel_rfl
 simp [ag, Tryz.underlying25, h2]
theorem mK {c0 c1 c2 c3 c4 c5 : VV} {k : IntKind} {i : Int} (h : (i == 1) = true) : vindex Tryz.prog 25 (.agg [c0, c1, c2, c3, c4, c5]) (.lit (.int k i)) = some (.agg [c2, c3]) := by
 obtain rfl : i = 1 := by simpa using h
 have h1 : aggT Tryz.prog 24 = some true := by kernel_rfl
 have h2 : szT Tryz.prog 24 = some 2 := by kernel_rfl
 simp [vindex, Tryz.underlying25, vpart, h1, h2]
theorem Pm {H : Nat → Option VObj} {β o : Nat} {k : IntKind} : ag Tryz.prog H 25 (.ptr β o) (.lit (.int k (2 : Int))) = if (H β).isSome = true then some (.ptr β (o + 4)) else none := by
 have h2 : szT Tryz.prog 24 = some 2 := by kernel_rfl
 simp [ag, Tryz.underlying25, h2]
theorem Pn {H : Nat → Option VObj} {cs : List VV} {k : IntKind} : ag Tryz.prog H 25 (.tp cs) (.lit (.int k (2 : Int))) = some (.tp (cs.drop 4)) := by
 have h2 : szT Tryz.prog 24 = some 2 := by kernel_rfl
 simp [ag, Tryz.underlying25, h2]
theorem Po {c0 c1 c2 c3 c4 c5 : VV} {k : IntKind} : vindex Tryz.prog 25 (.agg [c0, c1, c2, c3, c4, c5]) (.lit (.int k (2 : Int))) = some (.agg [c4, c5]) := by
 have h1 : aggT Tryz.prog 24 = some true := by kernel_rfl
 have h2 : szT Tryz.prog 24 = some 2 := by kernel_rfl
 simp [vindex, Tryz.underlying25, vpart, h1, h2]
theorem iD {H : Nat → Option VObj} {β o : Nat} {k : IntKind} {i : Int} (h : (i == 2) = true) : ag Tryz.prog H 25 (.ptr β o) (.lit (.int k i)) = if (H β).isSome = true then some (.ptr β (o + 4)) else none := by
 obtain rfl : i = 2 := by simpa using h
 have h2 : szT Tryz.prog 24 = some 2 := by kernel_rfl
 simp [ag, Tryz.underlying25, h2]
theorem sH {H : Nat → Option VObj} {cs : List VV} {k : IntKind} {i : Int} (h : (i == 2) = true) : ag Tryz.prog H 25 (.tp cs) (.lit (.int k i)) = some (.tp (cs.drop 4)) := by
 obtain rfl : i = 2 := by simpa using h
 have h2 : szT Tryz.prog 24 = some 2 := by kernel_rfl
 simp [ag, Tryz.underlying25, h2]
theorem mJ {c0 c1 c2 c3 c4 c5 : VV} {k : IntKind} {i : Int} (h : (i == 2) = true) : vindex Tryz.prog 25 (.agg [c0, c1, c2, c3, c4, c5]) (.lit (.int k i)) = some (.agg [c4, c5]) := by
 obtain rfl : i = 2 := by simpa using h
 have h1 : aggT Tryz.prog 24 = some true := by kernel_rfl
 have h2 : szT Tryz.prog 24 = some 2 := by kernel_rfl
 simp [vindex, Tryz.underlying25, vpart, h1, h2]
theorem Pp {c : VV} {cs : List VV} : aR Tryz.prog 26 (c :: cs) = some c := by
 have h1 : aggT Tryz.prog 26 = some false := by kernel_rfl
 simp [aR, vpart, h1]
theorem Pq : szT Tryz.prog 26 = some 1 := by kernel_rfl
theorem B9 {H : Nat → Option VObj} {cs : List VV} {n : Nat} {f : Bool} : vlen Tryz.prog H 26 (.sl cs n f) = some (.lit (.int .i64 n)) := by simp [vlen, Tryz.underlying26, sls]
theorem lenN26 {H : Nat → Option VObj} : vlen Tryz.prog H 26 (.lit (.slice none 0 0)) = some (.lit (.int .i64 0)) := by simp [vlen, Tryz.underlying26, sls]
theorem lenR26 {H : Nat → Option VObj} {β off n w c : Nat} : vlen Tryz.prog H 26 (.ref β off n w c) = (match H β with | some (.cells _ cs) => if off ≤ cs.length then some (.lit (.int .i64 n)) else none | _ => none) := lenR Tryz.underlying26
theorem Ps : elemT Tryz.prog 26 = some 94 := by simp [elemT, Tryz.underlying26]
theorem Pt {xs : List Gt} : (aa cGt xs).take (xs.length * 6) = aa cGt xs := JS (fun _ => rfl)
theorem Pu {c0 c1 c2 c3 c4 c5 : VV} (h : leafL [c0, c1, c2, c3, c4, c5] = true) : aP Tryz.prog 26 1 [(0, .agg [c0, c1, c2, c3, c4, c5])] = some ([c0, c1, c2, c3, c4, c5], 6) := by
 have h2 : szT Tryz.prog 94 = some 6 := by kernel_rfl
 have h3 : vzero Tryz.prog 94 = some #[.int .i64 0, .int .i64 0, .int .i64 0, .int .i64 0, .int .i64 0, .int .i64 0] := by kernel_rfl
 simp only [my, mw, Bool.and_true, Bool.and_eq_true] at h
 simp [aP, Tryz.underlying26, h2, h3, vfill, vcells, h, overwrite, vzeros]
theorem cw {H : Nat → Option VObj} {xs : List Gt} {x : Gt} {f : Bool} {k : IntKind} {i : Int} (h : getI xs i = some x) : ag Tryz.prog H 26 (.sl (aa cGt xs) xs.length f) (.lit (.int k i)) = some (.tp (cGt x ++ aa cGt (xs.drop (i.toNat + 1)))) :=
 ixG Tryz.underlying26 (by kernel_rfl : szT Tryz.prog 94 = some 6) (by decide) (fun _ => rfl) h
theorem Pv {c0 c1 c2 c3 c4 c5 c6 c7 c8 c9 BA BB vw : VV} {cs : List VV} : aR Tryz.prog 28 (c0 :: c1 :: c2 :: c3 :: c4 :: c5 :: c6 :: c7 :: c8 :: c9 :: BA :: BB :: vw :: cs) = some (.agg [c0, c1, c2, c3, c4, c5, c6, c7, c8, c9, BA, BB, vw]) := by
 have h1 : aggT Tryz.prog 28 = some true := by kernel_rfl
 have h2 : szT Tryz.prog 28 = some 13 := by kernel_rfl
 simp [aR, vpart, h1, h2]
theorem Pw : szT Tryz.prog 28 = some 13 := by kernel_rfl
theorem BC : vzl Tryz.prog 28 = some [.lit (.int .i64 0), .lit (.int .i64 0), .lit (.int .i64 0), .lit (.int .i64 0), .lit (.int .i64 0), .lit (.int .i64 0), .lit (.int .i64 0), .lit (.int .i64 0), .lit (.int .i64 0), .lit (.int .i64 0), .lit (.int .i64 0), .lit (.int .i64 0), .lit (.slice none 0 0)] := by kernel_rfl
theorem Px {H : Nat → Option VObj} {β o : Nat} : an Tryz.prog H 28 (.ptr β o) 0 = if (H β).isSome = true then some (.ptr β (o + 0)) else none := by
 have h2 : szT Tryz.prog 22 = some 3 := by kernel_rfl
 simp [an, Tryz.underlying28, h2]
theorem Py {H : Nat → Option VObj} {β o : Nat} : an Tryz.prog H 28 (.ptr β o) 1 = if (H β).isSome = true then some (.ptr β (o + 3)) else none := by
 have h2 : szT Tryz.prog 25 = some 6 := by kernel_rfl
 simp [an, Tryz.underlying28, h2]
theorem Pz {H : Nat → Option VObj} {β o : Nat} : an Tryz.prog H 28 (.ptr β o) 2 = if (H β).isSome = true then some (.ptr β (o + 9)) else none := by
 have h2 : szT Tryz.prog 24 = some 2 := by kernel_rfl
 simp [an, Tryz.underlying28, h2]
theorem P0 {H : Nat → Option VObj} {β o : Nat} : an Tryz.prog H 28 (.ptr β o) 3 = if (H β).isSome = true then some (.ptr β (o + 11)) else none := by
 have h2 : szT Tryz.prog 3 = some 1 := by kernel_rfl
 simp [an, Tryz.underlying28, h2]
theorem P1 {H : Nat → Option VObj} {cs : List VV} : an Tryz.prog H 28 (.tp cs) 4 = some (.tp (cs.drop 12)) := by
 have h2 : szT Tryz.prog 26 = some 1 := by kernel_rfl
 simp [an, Tryz.underlying28, h2]
theorem P2 {H : Nat → Option VObj} {β o : Nat} : an Tryz.prog H 28 (.ptr β o) 4 = if (H β).isSome = true then some (.ptr β (o + 12)) else none := by
 have h2 : szT Tryz.prog 26 = some 1 := by kernel_rfl
 simp [an, Tryz.underlying28, h2]
theorem P4 {c : VV} {cs : List VV} : aR Tryz.prog 29 (c :: cs) = some c := by
 have h1 : aggT Tryz.prog 29 = some false := by kernel_rfl
 simp [aR, vpart, h1]
theorem P5 : szT Tryz.prog 29 = some 1 := by kernel_rfl
theorem BD : vzl Tryz.prog 29 = some [.lit (.slice none 0 0)] := by kernel_rfl
theorem BE {H : Nat → Option VObj} {cs : List VV} {n : Nat} {f : Bool} : vlen Tryz.prog H 29 (.sl cs n f) = some (.lit (.int .i64 n)) := by simp [vlen, Tryz.underlying29, sls]
theorem lenN29 {H : Nat → Option VObj} : vlen Tryz.prog H 29 (.lit (.slice none 0 0)) = some (.lit (.int .i64 0)) := by simp [vlen, Tryz.underlying29, sls]
theorem lenR29 {H : Nat → Option VObj} {β off n w c : Nat} : vlen Tryz.prog H 29 (.ref β off n w c) = (match H β with | some (.cells _ cs) => if off ≤ cs.length then some (.lit (.int .i64 n)) else none | _ => none) := lenR Tryz.underlying29
theorem ct : elemT Tryz.prog 29 = some 3 := by simp [elemT, Tryz.underlying29]
theorem eV : appOk Tryz.prog 29 = some (3, 1, 8) := by kernel_rfl
theorem P6 {xs : List Int} : (aa eI xs).take (xs.length * 1) = aa eI xs := JS (fun _ => rfl)
theorem fQ : ∀ x : Int, leafL (eI x) = true := fun x => by simp only [eI_eq, vl, eB_eq, eS_eq, vm, mw, my, Ie, RL, RN, Ig, vj, Bool.and_self]
theorem P7 {a0 : VV} (h : leafL [a0] = true) : aP Tryz.prog 29 1 [(0, a0)] = some ([a0], 1) := by
 have h2 : szT Tryz.prog 3 = some 1 := by kernel_rfl
 have h3 : vzero Tryz.prog 3 = some #[.int .i64 0] := by kernel_rfl
 simp only [my, mw, Bool.and_true, Bool.and_eq_true] at h
 simp [aP, Tryz.underlying29, h2, h3, vfill, vcells1, h, overwrite, vzeros, List.range_succ]
theorem P8 {a0 a1 : VV} (h : leafL [a0, a1] = true) : aP Tryz.prog 29 2 [(0, a0), (1, a1)] = some ([a0, a1], 1) := by
 have h2 : szT Tryz.prog 3 = some 1 := by kernel_rfl
 have h3 : vzero Tryz.prog 3 = some #[.int .i64 0] := by kernel_rfl
 simp only [my, mw, Bool.and_true, Bool.and_eq_true] at h
 simp [aP, Tryz.underlying29, h2, h3, vfill, vcells1, h, overwrite, vzeros, List.range_succ]
theorem br {H : Nat → Option VObj} {xs : List Int} {x : Int} {f : Bool} {k : IntKind} {i : Int} (h : getI xs i = some x) : ag Tryz.prog H 29 (.sl (aa eI xs) xs.length f) (.lit (.int k i)) = some (.tp (eI x ++ aa eI (xs.drop (i.toNat + 1)))) :=
 ixG Tryz.underlying29 (by kernel_rfl : szT Tryz.prog 3 = some 1) (by decide) (fun _ => rfl) h
theorem P9 {c : VV} {cs : List VV} : aR Tryz.prog 32 (c :: cs) = some c := by
 have h1 : aggT Tryz.prog 32 = some false := by kernel_rfl
 simp [aR, vpart, h1]
theorem PA : szT Tryz.prog 32 = some 1 := by kernel_rfl
theorem BF : vzl Tryz.prog 32 = some [.lit (.int .i64 0)] := by kernel_rfl
theorem PB {c : VV} {cs : List VV} : aR Tryz.prog 40 (c :: cs) = some c := by
 have h1 : aggT Tryz.prog 40 = some false := by kernel_rfl
 simp [aR, vpart, h1]
theorem BG {H : Nat → Option VObj} {cs : List VV} {n : Nat} {f : Bool} : vlen Tryz.prog H 40 (.sl cs n f) = some (.lit (.int .i64 n)) := by simp [vlen, Tryz.underlying40, sls]
theorem lenN40 {H : Nat → Option VObj} : vlen Tryz.prog H 40 (.lit (.slice none 0 0)) = some (.lit (.int .i64 0)) := by simp [vlen, Tryz.underlying40, sls]
theorem lenR40 {H : Nat → Option VObj} {β off n w c : Nat} : vlen Tryz.prog H 40 (.ref β off n w c) = (match H β with | some (.cells _ cs) => if off ≤ cs.length then some (.lit (.int .i64 n)) else none | _ => none) := lenR Tryz.underlying40
theorem PC {c0 c1 c2 c3 c4 : VV} {cs : List VV} : aR Tryz.prog 42 (c0 :: c1 :: c2 :: c3 :: c4 :: cs) = some (.agg [c0, c1, c2, c3, c4]) := by
 have h1 : aggT Tryz.prog 42 = some true := by kernel_rfl
 have h2 : szT Tryz.prog 42 = some 5 := by kernel_rfl
 simp [aR, vpart, h1, h2]
theorem PD {H : Nat → Option VObj} {β o : Nat} : an Tryz.prog H 42 (.ptr β o) 0 = if (H β).isSome = true then some (.ptr β (o + 0)) else none := by
 have h2 : szT Tryz.prog 40 = some 1 := by kernel_rfl
 simp [an, Tryz.underlying42, h2]
theorem PE {H : Nat → Option VObj} {β o : Nat} : an Tryz.prog H 42 (.ptr β o) 1 = if (H β).isSome = true then some (.ptr β (o + 1)) else none := by
 have h2 : szT Tryz.prog 3 = some 1 := by kernel_rfl
 simp [an, Tryz.underlying42, h2]
theorem PF {H : Nat → Option VObj} {β o : Nat} : an Tryz.prog H 42 (.ptr β o) 2 = if (H β).isSome = true then some (.ptr β (o + 2)) else none := by
 have h2 : szT Tryz.prog 22 = some 3 := by kernel_rfl
 simp [an, Tryz.underlying42, h2]
theorem PG {c0 c1 c2 c3 c4 c5 c6 c7 c8 c9 BA BB vw rZ : VV} {cs : List VV} : aR Tryz.prog 89 (c0 :: c1 :: c2 :: c3 :: c4 :: c5 :: c6 :: c7 :: c8 :: c9 :: BA :: BB :: vw :: rZ :: cs) = some (.agg [c0, c1, c2, c3, c4, c5, c6, c7, c8, c9, BA, BB, vw, rZ]) := by
 have h1 : aggT Tryz.prog 89 = some true := by kernel_rfl
 have h2 : szT Tryz.prog 89 = some 14 := by kernel_rfl
 simp [aR, vpart, h1, h2]
theorem PH : szT Tryz.prog 89 = some 14 := by kernel_rfl
theorem tO : vzl Tryz.prog 89 = some [.lit (.int .i64 0), .lit (.int .i64 0), .lit (.int .i64 0), .lit (.int .i64 0), .lit (.int .i64 0), .lit (.int .i64 0), .lit (.int .i64 0), .lit (.int .i64 0), .lit (.int .i64 0), .lit (.int .i64 0), .lit (.int .i64 0), .lit (.int .i64 0), .lit (.slice none 0 0), .lit (.slice none 0 0)] := by kernel_rfl
theorem PI {H : Nat → Option VObj} {β o : Nat} : an Tryz.prog H 89 (.ptr β o) 0 = if (H β).isSome = true then some (.ptr β (o + 0)) else none := by
 have h2 : szT Tryz.prog 28 = some 13 := by kernel_rfl
 simp [an, Tryz.underlying89, h2]
theorem PJ {H : Nat → Option VObj} {β o : Nat} : an Tryz.prog H 89 (.ptr β o) 1 = if (H β).isSome = true then some (.ptr β (o + 13)) else none := by
 have h2 : szT Tryz.prog 29 = some 1 := by kernel_rfl
 simp [an, Tryz.underlying89, h2]
theorem PK {c0 c1 c2 c3 c4 c5 : VV} {cs : List VV} : aR Tryz.prog 94 (c0 :: c1 :: c2 :: c3 :: c4 :: c5 :: cs) = some (.agg [c0, c1, c2, c3, c4, c5]) := by
 have h1 : aggT Tryz.prog 94 = some true := by kernel_rfl
 have h2 : szT Tryz.prog 94 = some 6 := by kernel_rfl
 simp [aR, vpart, h1, h2]
theorem PL : szT Tryz.prog 94 = some 6 := by kernel_rfl
theorem tP : vzl Tryz.prog 94 = some [.lit (.int .i64 0), .lit (.int .i64 0), .lit (.int .i64 0), .lit (.int .i64 0), .lit (.int .i64 0), .lit (.int .i64 0)] := by kernel_rfl
theorem PM {H : Nat → Option VObj} {cs : List VV} : an Tryz.prog H 94 (.tp cs) 0 = some (.tp (cs.drop 0)) := by
 have h2 : szT Tryz.prog 25 = some 6 := by kernel_rfl
 simp [an, Tryz.underlying94, h2]
theorem PN {H : Nat → Option VObj} {β o : Nat} : an Tryz.prog H 94 (.ptr β o) 0 = if (H β).isSome = true then some (.ptr β (o + 0)) else none := by
 have h2 : szT Tryz.prog 25 = some 6 := by kernel_rfl
 simp [an, Tryz.underlying94, h2]
theorem PO {c0 c1 c2 : VV} {cs : List VV} : aR Tryz.prog 99 (c0 :: c1 :: c2 :: cs) = some (.agg [c0, c1, c2]) := by
 have h1 : aggT Tryz.prog 99 = some true := by kernel_rfl
 have h2 : szT Tryz.prog 99 = some 3 := by kernel_rfl
 simp [aR, vpart, h1, h2]
theorem PQ : szT Tryz.prog 99 = some 3 := by kernel_rfl
theorem pQ : vzl Tryz.prog 99 = some [.lit (.int .i64 0), .lit (.int .i64 0), .lit (.int .i64 0)] := by kernel_rfl
theorem PR {H : Nat → Option VObj} {cs : List VV} {k : IntKind} : ag Tryz.prog H 99 (.tp cs) (.lit (.int k (0 : Int))) = some (.tp (cs.drop 0)) := by
 have h2 : szT Tryz.prog 3 = some 1 := by kernel_rfl
 simp [ag, Tryz.underlying99, h2]
theorem PS {c0 c1 c2 : VV} {k : IntKind} : vindex Tryz.prog 99 (.agg [c0, c1, c2]) (.lit (.int k (0 : Int))) = some (c0) := by
 have h1 : aggT Tryz.prog 3 = some false := by kernel_rfl
 have h2 : szT Tryz.prog 3 = some 1 := by kernel_rfl
 simp [vindex, Tryz.underlying99, vpart, h1, h2]
theorem PT {H : Nat → Option VObj} {cs : List VV} {k : IntKind} : ag Tryz.prog H 99 (.tp cs) (.lit (.int k (1 : Int))) = some (.tp (cs.drop 1)) := by
 have h2 : szT Tryz.prog 3 = some 1 := by kernel_rfl
 simp [ag, Tryz.underlying99, h2]
theorem PU {c0 c1 c2 : VV} {k : IntKind} : vindex Tryz.prog 99 (.agg [c0, c1, c2]) (.lit (.int k (1 : Int))) = some (c1) := by
 have h1 : aggT Tryz.prog 3 = some false := by kernel_rfl
 have h2 : szT Tryz.prog 3 = some 1 := by kernel_rfl
 simp [vindex, Tryz.underlying99, vpart, h1, h2]
theorem PV {H : Nat → Option VObj} {cs : List VV} {k : IntKind} : ag Tryz.prog H 99 (.tp cs) (.lit (.int k (2 : Int))) = some (.tp (cs.drop 2)) := by
 have h2 : szT Tryz.prog 3 = some 1 := by kernel_rfl
 simp [ag, Tryz.underlying99, h2]
theorem PW {c0 c1 c2 : VV} {k : IntKind} : vindex Tryz.prog 99 (.agg [c0, c1, c2]) (.lit (.int k (2 : Int))) = some (c2) := by
 have h1 : aggT Tryz.prog 3 = some false := by kernel_rfl
 have h2 : szT Tryz.prog 3 = some 1 := by kernel_rfl
 simp [vindex, Tryz.underlying99, vpart, h1, h2]
theorem wg {H : Nat → Option VObj} {cs : List VV} {n : Nat} {f : Bool} : vlen Tryz.prog H 106 (.sl cs n f) = some (.lit (.int .i64 n)) := by simp [vlen, Tryz.underlying106, sls]
theorem lenN106 {H : Nat → Option VObj} : vlen Tryz.prog H 106 (.lit (.slice none 0 0)) = some (.lit (.int .i64 0)) := by simp [vlen, Tryz.underlying106, sls]
theorem lenR106 {H : Nat → Option VObj} {β off n w c : Nat} : vlen Tryz.prog H 106 (.ref β off n w c) = (match H β with | some (.cells _ cs) => if off ≤ cs.length then some (.lit (.int .i64 n)) else none | _ => none) := lenR Tryz.underlying106
theorem gb : elemT Tryz.prog 106 = some 29 := by simp [elemT, Tryz.underlying106]
theorem de : appOk Tryz.prog 106 = some (29, 1, 24) := by kernel_rfl
theorem BH {xs : List (List Int)} : (aa (eSl eI) xs).take (xs.length * 1) = aa (eSl eI) xs := JS (fun _ => rfl)
theorem dZ : ∀ x : (List Int), leafL ((eSl eI) x) = true := fun x => by simp only [eI_eq, vl, eB_eq, eS_eq, vm, mw, my, Ie, RL, RN, Ig, vj, Bool.and_self]
theorem PX {a0 : VV} (h : leafL [a0] = true) : aP Tryz.prog 106 1 [(0, a0)] = some ([a0], 1) := by
 have h2 : szT Tryz.prog 29 = some 1 := by kernel_rfl
 have h3 : vzero Tryz.prog 29 = some #[.slice none 0 0] := by kernel_rfl
 simp only [my, mw, Bool.and_true, Bool.and_eq_true] at h
 simp [aP, Tryz.underlying106, h2, h3, vfill, vcells1, h, overwrite, vzeros, List.range_succ]
theorem d5 {H : Nat → Option VObj} {xs : List (List Int)} {x : (List Int)} {f : Bool} {k : IntKind} {i : Int} (h : getI xs i = some x) : ag Tryz.prog H 106 (.sl (aa (eSl eI) xs) xs.length f) (.lit (.int k i)) = some (.tp ((eSl eI) x ++ aa (eSl eI) (xs.drop (i.toNat + 1)))) :=
 ixG Tryz.underlying106 (by kernel_rfl : szT Tryz.prog 29 = some 1) (by decide) (fun _ => rfl) h
theorem wh {H : Nat → Option VObj} {cs : List VV} {n : Nat} {f : Bool} : vlen Tryz.prog H 121 (.sl cs n f) = some (.lit (.int .i64 n)) := by simp [vlen, Tryz.underlying121, sls]
theorem lenN121 {H : Nat → Option VObj} : vlen Tryz.prog H 121 (.lit (.slice none 0 0)) = some (.lit (.int .i64 0)) := by simp [vlen, Tryz.underlying121, sls]
theorem lenR121 {H : Nat → Option VObj} {β off n w c : Nat} : vlen Tryz.prog H 121 (.ref β off n w c) = (match H β with | some (.cells _ cs) => if off ≤ cs.length then some (.lit (.int .i64 n)) else none | _ => none) := lenR Tryz.underlying121
theorem oD {H : Nat → Option VObj} {xs : List GSpan} {x : GSpan} {f : Bool} {k : IntKind} {i : Int} (h : getI xs i = some x) : ag Tryz.prog H 121 (.sl (aa aK xs) xs.length f) (.lit (.int k i)) = some (.tp (aK x ++ aa aK (xs.drop (i.toNat + 1)))) :=
 ixG Tryz.underlying121 (by kernel_rfl : szT Tryz.prog 24 = some 2) (by decide) (fun _ => rfl) h
theorem wi : vzl Tryz.prog 138 = some [.lit (.int .i64 0), .lit (.int .i64 0)] := by kernel_rfl
theorem BI {c : VV} {cs : List VV} : aR Tryz.prog 104 (c :: cs) = some c := by
 have h1 : aggT Tryz.prog 104 = some false := by kernel_rfl
 simp [aR, vpart, h1]
theorem BJ {c : VV} {cs : List VV} : aR Tryz.prog 111 (c :: cs) = some c := by
 have h1 : aggT Tryz.prog 111 = some false := by kernel_rfl
 simp [aR, vpart, h1]
theorem BK {c : VV} {cs : List VV} : aR Tryz.prog 126 (c :: cs) = some c := by
 have h1 : aggT Tryz.prog 126 = some false := by kernel_rfl
 simp [aR, vpart, h1]
theorem BL {c : VV} {cs : List VV} : aR Tryz.prog 144 (c :: cs) = some c := by
 have h1 : aggT Tryz.prog 144 = some false := by kernel_rfl
 simp [aR, vpart, h1]
theorem BM {c : VV} {cs : List VV} : aR Tryz.prog 162 (c :: cs) = some c := by
 have h1 : aggT Tryz.prog 162 = some false := by kernel_rfl
 simp [aR, vpart, h1]
theorem BN {c : VV} {cs : List VV} : aR Tryz.prog 163 (c :: cs) = some c := by
 have h1 : aggT Tryz.prog 163 = some false := by kernel_rfl
 simp [aR, vpart, h1]
theorem BO : szT Tryz.prog 184 = some 1 := by kernel_rfl
theorem BP {c : VV} {cs : List VV} : aR Tryz.prog 184 (c :: cs) = some c := by
 have h1 : aggT Tryz.prog 184 = some false := by kernel_rfl
 simp [aR, vpart, h1]
theorem wj : vzl Tryz.prog 184 = some [.lit .nilFunc] := by kernel_rfl
theorem BQ : szT Tryz.prog 127 = some 2 := by kernel_rfl
theorem pR : vzl Tryz.prog 127 = some [.lit .nilFunc, .lit .nilFunc] := by kernel_rfl
theorem PY {H : Nat → Option VObj} {β o : Nat} {k : IntKind} : ag Tryz.prog H 127 (.ptr β o) (.lit (.int k 0)) = if (H β).isSome = true then some (.ptr β (o + 0)) else none := by
 have h2 : szT Tryz.prog 126 = some 1 := by kernel_rfl
 simp [ag, Tryz.underlying127, h2]
theorem PZ {H : Nat → Option VObj} {β o : Nat} {k : IntKind} : ag Tryz.prog H 127 (.ptr β o) (.lit (.int k 1)) = if (H β).isSome = true then some (.ptr β (o + 1)) else none := by
 have h2 : szT Tryz.prog 126 = some 1 := by kernel_rfl
 simp [ag, Tryz.underlying127, h2]
theorem Qa : vbuild Tryz.prog 22 [] = some (.agg [.lit (.int .i64 0), .lit (.int .i64 0), .lit (.int .i64 0)]) := by
 rw [qG tM (by kernel_rfl)]
 rfl
theorem Qb : vbuild Tryz.prog 24 [] = some (.agg [.lit (.int .i64 0), .lit (.int .i64 0)]) := by
 rw [qG pP (by kernel_rfl)]
 rfl
theorem Qc {dm eZ : VV} (h : leafL [dm, eZ] = true) : vbuild Tryz.prog 24 [(0, dm), (1, eZ)] = some (.agg [dm, eZ]) := by
 have p0 : placeT Tryz.prog 24 0 = some (0, 1) := by kernel_rfl
 have p1 : placeT Tryz.prog 24 1 = some (1, 1) := by kernel_rfl
 simp only [my, mw, Bool.and_true, Bool.and_eq_true] at h
 rw [qG pP (by kernel_rfl)]
 simp [vfill, p0, p1, vcells1, h, overwrite]
theorem Qd : vbuild Tryz.prog 25 [] = some (.agg [.lit (.int .i64 0), .lit (.int .i64 0), .lit (.int .i64 0), .lit (.int .i64 0), .lit (.int .i64 0), .lit (.int .i64 0)]) := by
 rw [qG tN (by kernel_rfl)]
 rfl
theorem Qe {dm j7 j8 j9 jA jB pS pT pU pV lL lM lN eZ : VV} (h : leafL [dm, j7, j8, j9, jA, jB, pS, pT, pU, pV, lL, lM, lN, eZ] = true) : vbuild Tryz.prog 89 [(0, .agg [dm, j7, j8, j9, jA, jB, pS, pT, pU, pV, lL, lM, lN]), (1, eZ)] = some (.agg [dm, j7, j8, j9, jA, jB, pS, pT, pU, pV, lL, lM, lN, eZ]) := by
 have p0 : placeT Tryz.prog 89 0 = some (0, 13) := by kernel_rfl
 have p1 : placeT Tryz.prog 89 1 = some (13, 1) := by kernel_rfl
 simp only [my, mw, Bool.and_true, Bool.and_eq_true] at h
 have q0 : vcells (.agg [dm, j7, j8, j9, jA, jB, pS, pT, pU, pV, lL, lM, lN]) = some [dm, j7, j8, j9, jA, jB, pS, pT, pU, pV, lL, lM, lN] := by rw [Ii]; simp [my, mw, h]
 rw [qG tO (by kernel_rfl)]
 simp [vfill, p0, p1, vcells1, h, overwrite, q0]
theorem Qf {dm j7 j8 j9 jA jB : VV} (h : leafL [dm, j7, j8, j9, jA, jB] = true) : vbuild Tryz.prog 94 [(0, .agg [dm, j7, j8, j9, jA, jB])] = some (.agg [dm, j7, j8, j9, jA, jB]) := by
 have p0 : placeT Tryz.prog 94 0 = some (0, 6) := by kernel_rfl
 simp only [my, mw, Bool.and_true, Bool.and_eq_true] at h
 have q0 : vcells (.agg [dm, j7, j8, j9, jA, jB]) = some [dm, j7, j8, j9, jA, jB] := by rw [Ii]; simp [my, mw, h]
 rw [qG tP (by kernel_rfl)]
 simp [vfill, p0, vcells1, h, overwrite, q0]
theorem Qg : vbuild Tryz.prog 99 [] = some (.agg [.lit (.int .i64 0), .lit (.int .i64 0), .lit (.int .i64 0)]) := by
 rw [qG pQ (by kernel_rfl)]
 rfl
theorem Qh {dm eZ wm : VV} (h : leafL [dm, eZ, wm] = true) : vbuild Tryz.prog 99 [(0, dm), (1, eZ), (2, wm)] = some (.agg [dm, eZ, wm]) := by
 have p0 : placeT Tryz.prog 99 0 = some (0, 1) := by kernel_rfl
 have p1 : placeT Tryz.prog 99 1 = some (1, 1) := by kernel_rfl
 have p2 : placeT Tryz.prog 99 2 = some (2, 1) := by kernel_rfl
 simp only [my, mw, Bool.and_true, Bool.and_eq_true] at h
 rw [qG pQ (by kernel_rfl)]
 simp [vfill, p0, p1, p2, vcells1, h, overwrite]
theorem Qi {dm eZ : VV} (h : leafL [dm, eZ] = true) : vbuild Tryz.prog 127 [(0, dm), (1, eZ)] = some (.agg [dm, eZ]) := by
 have p0 : placeT Tryz.prog 127 0 = some (0, 1) := by kernel_rfl
 have p1 : placeT Tryz.prog 127 1 = some (1, 1) := by kernel_rfl
 simp only [my, mw, Bool.and_true, Bool.and_eq_true] at h
 rw [qG pR (by kernel_rfl)]
 simp [vfill, p0, p1, vcells1, h, overwrite]
theorem BR : vbuild Tryz.prog 132 [] = some (.agg []) := by kernel_rfl
theorem BS : szT Tryz.prog 132 = some 0 := by kernel_rfl
theorem wo : vzl Tryz.prog 132 = some [] := by kernel_rfl
theorem Qj {dm eZ : VV} (h : leafL [dm, eZ] = true) : vbuild Tryz.prog 138 [(0, dm), (1, eZ)] = some (.agg [dm, eZ]) := by
 have p0 : placeT Tryz.prog 138 0 = some (0, 1) := by kernel_rfl
 have p1 : placeT Tryz.prog 138 1 = some (1, 1) := by kernel_rfl
 simp only [my, mw, Bool.and_true, Bool.and_eq_true] at h
 rw [qG wi (by kernel_rfl)]
 simp [vfill, p0, p1, vcells1, h, overwrite]
theorem BT {x : VV} : mkIfcV Tryz.prog 132 x = some (.ifc 132 x) := by simp [mkIfcV, Tryz.underlying132]
theorem BU : ((Tryz.prog.info? 132).bind (·.zero)).map (fun z => VV.tup [ofVal2 z, .lit (.bool false)]) = some (.tup [.agg [], .lit (.bool false)]) := by kernel_rfl
theorem BV : vtypeAssert Tryz.prog (.lit .nilIface) 132 true = some (.tup [.agg [], .lit (.bool false)]) := by
 simp only [vtypeAssert, Tryz.underlying132, if_true]
 exact BU
theorem BW {x : VV} : vtypeAssert Tryz.prog (.ifc 132 x) 132 true = some (.tup [x, .lit (.bool true)]) := by
 simp [vtypeAssert, Tryz.underlying132]
theorem YM {H : Nat → Option VObj} {x y : Operand} {a b : Bool} : binV Tryz.prog H .eql 4 x y (.lit (.bool a)) (.lit (.bool b)) = some (.lit (.bool (a == b))) := N3 Tryz.underlying4
theorem YN {H : Nat → Option VObj} {x y : Operand} {a b : Bool} : binV Tryz.prog H .neq 4 x y (.lit (.bool a)) (.lit (.bool b)) = some (.lit (.bool (a != b))) := N4 Tryz.underlying4
theorem BX {H : Nat → Option VObj} {x y : Operand} {a0 b0 : Int} {a1 b1 : Int} {a2 b2 : Int} {a3 b3 : Int} {a4 b4 : Int} {a5 b5 : Int} : binV Tryz.prog H .eql 25 x y (.agg [.lit (.int .i64 a0), .lit (.int .i64 a1), .lit (.int .i64 a2), .lit (.int .i64 a3), .lit (.int .i64 a4), .lit (.int .i64 a5)]) (.agg [.lit (.int .i64 b0), .lit (.int .i64 b1), .lit (.int .i64 b2), .lit (.int .i64 b3), .lit (.int .i64 b4), .lit (.int .i64 b5)]) = some (.lit (.bool (a0 == b0 && (a1 == b1 && (a2 == b2 && (a3 == b3 && (a4 == b4 && (a5 == b5)))))))) ∧ binV Tryz.prog H .neq 25 x y (.agg [.lit (.int .i64 a0), .lit (.int .i64 a1), .lit (.int .i64 a2), .lit (.int .i64 a3), .lit (.int .i64 a4), .lit (.int .i64 a5)]) (.agg [.lit (.int .i64 b0), .lit (.int .i64 b1), .lit (.int .i64 b2), .lit (.int .i64 b3), .lit (.int .i64 b4), .lit (.int .i64 b5)]) = some (.lit (.bool (!(a0 == b0 && (a1 == b1 && (a2 == b2 && (a3 == b3 && (a4 == b4 && (a5 == b5))))))))) := by
 have p3 : aggT Tryz.prog 3 = some false := by kernel_rfl
 have z3 : szT Tryz.prog 3 = some 1 := by kernel_rfl
 have mY : aggT Tryz.prog 24 = some true := by kernel_rfl
 have YO : szT Tryz.prog 24 = some 2 := by kernel_rfl
 have YP : aggT Tryz.prog 25 = some true := by kernel_rfl
 have YQ : szT Tryz.prog 25 = some 6 := by kernel_rfl
 have qY : Tryz.prog.stoodInHeld 24 = false := by kernel_rfl
 refine binA (xs := [.int .i64 a0, .int .i64 a1, .int .i64 a2, .int .i64 a3, .int .i64 a4, .int .i64 a5]) (ys := [.int .i64 b0, .int .i64 b1, .int .i64 b2, .int .i64 b3, .int .i64 b4, .int .i64 b5]) (by simp [VV.val?, valL?]) (by simp [VV.val?, valL?]) Tryz.underlying25 (by kernel_rfl) ?_
 simp [eqD, eqAs, eqFs, partO, pF, eq1, List.range', Tryz.underlying3, p3, z3, Tryz.underlying24, mY, YO, Tryz.underlying25, YP, YQ, qY, Bool.and_assoc]
theorem Qk {H : Nat → Option VObj} {x y : Operand} {a0 b0 : Int} {a1 b1 : Int} {a2 b2 : Int} {a3 b3 : Int} {a4 b4 : Int} {a5 b5 : Int} : binV Tryz.prog H .eql 25 x y (.agg [.lit (.int .i64 a0), .lit (.int .i64 a1), .lit (.int .i64 a2), .lit (.int .i64 a3), .lit (.int .i64 a4), .lit (.int .i64 a5)]) (.agg [.lit (.int .i64 b0), .lit (.int .i64 b1), .lit (.int .i64 b2), .lit (.int .i64 b3), .lit (.int .i64 b4), .lit (.int .i64 b5)]) = some (.lit (.bool (a0 == b0 && (a1 == b1 && (a2 == b2 && (a3 == b3 && (a4 == b4 && (a5 == b5)))))))) := BX.1
theorem Ql {H : Nat → Option VObj} {x y : Operand} {a0 b0 : Int} {a1 b1 : Int} {a2 b2 : Int} {a3 b3 : Int} {a4 b4 : Int} {a5 b5 : Int} : binV Tryz.prog H .neq 25 x y (.agg [.lit (.int .i64 a0), .lit (.int .i64 a1), .lit (.int .i64 a2), .lit (.int .i64 a3), .lit (.int .i64 a4), .lit (.int .i64 a5)]) (.agg [.lit (.int .i64 b0), .lit (.int .i64 b1), .lit (.int .i64 b2), .lit (.int .i64 b3), .lit (.int .i64 b4), .lit (.int .i64 b5)]) = some (.lit (.bool (!(a0 == b0 && (a1 == b1 && (a2 == b2 && (a3 == b3 && (a4 == b4 && (a5 == b5))))))))) := BX.2
theorem Qm : (VV.lit Value.nilFunc).leaf = true := rfl
theorem Qn : (VV.lit Value.nilIface).leaf = true := rfl
def tyf := (And.intro (And.intro (And.intro (And.intro (And.intro (And.intro (And.intro @xX @tL) (And.intro @we @B7)) (And.intro (And.intro @B8 @D3) (And.intro @D4 (And.intro @YH @YI)))) (And.intro (And.intro (And.intro @YJ @OL) (And.intro @YK @YL)) (And.intro (And.intro @OM @ON) (And.intro @OO (And.intro @tM @OP))))) (And.intro (And.intro (And.intro (And.intro @OQ @OR) (And.intro @OS @OT)) (And.intro (And.intro @OU @OV) (And.intro @OW (And.intro @pP @OX)))) (And.intro (And.intro (And.intro @OY @OZ) (And.intro @Pa (And.intro @Pb @Pc))) (And.intro (And.intro @Pd @Pe) (And.intro @tN (And.intro @Pf @Pg)))))) (And.intro (And.intro (And.intro (And.intro (And.intro @Ph @Pj) (And.intro @Pk @Pl)) (And.intro (And.intro @Pm @Pn) (And.intro @Po (And.intro @Pp @Pq)))) (And.intro (And.intro (And.intro @B9 @lenN26) (And.intro @lenR26 (And.intro @Ps @Pt))) (And.intro (And.intro @Pu @Pv) (And.intro @Pw (And.intro @BC @Px))))) (And.intro (And.intro (And.intro (And.intro @Py @Pz) (And.intro @P0 @P1)) (And.intro (And.intro @P2 @P4) (And.intro @P5 (And.intro @BD @BE)))) (And.intro (And.intro (And.intro @lenN29 @lenR29) (And.intro @ct (And.intro @P6 @P7))) (And.intro (And.intro @P8 @P9) (And.intro @PA (And.intro @BF @PB))))))) (And.intro (And.intro (And.intro (And.intro (And.intro (And.intro @BG @lenN40) (And.intro @lenR40 @PC)) (And.intro (And.intro @PD @PE) (And.intro @PF (And.intro @PG @PH)))) (And.intro (And.intro (And.intro @tO @PI) (And.intro @PJ (And.intro @PK @PL))) (And.intro (And.intro @tP @PM) (And.intro @PN (And.intro @PO @PQ))))) (And.intro (And.intro (And.intro (And.intro @pQ @PR) (And.intro @PS @PT)) (And.intro (And.intro @PU @PV) (And.intro @PW (And.intro @wg @lenN106)))) (And.intro (And.intro (And.intro @lenR106 @gb) (And.intro @BH (And.intro @PX @wh))) (And.intro (And.intro @lenN121 @lenR121) (And.intro @BI (And.intro @BJ @BK)))))) (And.intro (And.intro (And.intro (And.intro (And.intro @BL @BM) (And.intro @BN @BO)) (And.intro (And.intro @BP @wj) (And.intro @BQ (And.intro @pR @PY)))) (And.intro (And.intro (And.intro @PZ @Qa) (And.intro @Qb (And.intro @Qc @Qd))) (And.intro (And.intro @Qe @Qf) (And.intro @Qg (And.intro @Qh @Qi))))) (And.intro (And.intro (And.intro (And.intro @BR @BS) (And.intro @wo @Qj)) (And.intro (And.intro @BT @BV) (And.intro @BW (And.intro @YM @YN)))) (And.intro (And.intro (And.intro @Qk @Ql) (And.intro @Qm (And.intro @Qn @N5))) (And.intro (And.intro @eI_eq @vl) (And.intro @eB_eq (And.intro @eS_eq @vm))))))))
def au := (And.intro (And.intro (And.intro @eL.norm @eL.normL) (And.intro @eL.shown (And.intro @jV.normL @jV.showL))) (And.intro (And.intro @lX.norm @uU.norm) (And.intro @uU.shown (And.intro @OK.normL @OK.showL))))
def ar := (And.intro (And.intro @eL.treeL @jV.treeL) (And.intro @lX.tree (And.intro @uU.tree @OK.treeL)))
end Go.V
namespace Go.V
open Go Go.Proofs IntKind
theorem ktA {P : Program} {G : Glob} {d : Option Tmp} {γ : Nat} {tm : Nat → VV} {H : Nat → Option VObj} {nx : Nat} {df : List VDef} {K : St → Prop} {Qp : VV → St → Prop} {f : FuncId} {args args0 : List VV} {x : VV} (hp : ad P G f args0 (.tree x)) (h : fin d γ tm H nx df K x .none) (hn : normL args = args0 := by first | (simp only [nrm, au] <;> rfl) | rfl) (ht : treeL args = true := by simp only [tre, ar, Bool.and_self]) : callK P G f args ⟨tm, H, nx, df⟩ d γ K Qp := ktree hn ht hp h
theorem dktA {P : Program} {G : Glob} {d : Option Tmp} {γ : Nat} {tm : Nat → VV} {H : Nat → Option VObj} {nx : Nat} {df : List VDef} {K : List Nat → List Nat → St → Prop} {f : FuncId} {args args0 : List VV} {x : VV} (hp : ad P G f args0 (.tree x)) (h : fin d γ tm H nx df (K [] []) x .none) (hn : normL args = args0 := by first | (simp only [nrm, au] <;> rfl) | rfl) (ht : treeL args = true := by simp only [tre, ar, Bool.and_self]) : dcallK P G f args tm H nx df d γ K := dktree hn ht hp h
theorem optI {α β : Type} {K : Option β → Prop} {X : Option α} {F : α → Option β} (h : K (Option.bind X F)) (kN : ¬ K none) : ∃ r, X = some r ∧ K (F r) := by
  cases X with
  | none => exact absurd h kN
  | some r => exact ⟨r, rfl, h⟩
end Go.V
end
section
namespace Go.V
open Go Go.Proofs IntKind
def Dec (P : Program) (n : Nat) (t : TypeId) {α : Type} (enc : α → List VV) (R : α → Prop) : Prop := ∀ xs, ShapeT P n t xs → ∃ x : α, R x ∧ normL xs = enc x
theorem Qo {P : Program} {n : Nat} {t : TypeId} (hu : P.underlying t = some (.int .i64)) : Dec P (n + 1) t eI (fun _ => True) := by
 intro xs h
 simp only [ShapeT, hu] at h
 obtain ⟨i, _, rfl⟩ := h
 exact ⟨i, trivial, by simp only [xh, xi, RQ, eI]⟩
theorem BY {P : Program} {n : Nat} {t : TypeId} {α : Type} {enc : α → List VV} {R : α → Prop} (h : Dec P n t enc R) : ∀ yss : List (List VV), (∀ ys ∈ yss, ShapeT P n t ys) → ∃ l : List α, l.length = yss.length ∧ (∀ x ∈ l, R x) ∧ normL yss.flatten = aa enc l
 | [], _ => ⟨[], rfl, fun _ hx => (by cases hx), rfl⟩
 | ys :: yss, hs => by
  obtain ⟨x, hx, e⟩ := h ys (hs ys (List.mem_cons_self ..))
  obtain ⟨l, h1, h2, h3⟩ := BY h yss (fun y hy => hs y (List.mem_cons_of_mem _ hy))
  refine ⟨x :: l, by simp [h1], fun y hy => ?_, by rw [List.flatten_cons, tB, e, h3, sR]⟩
  rcases List.mem_cons.1 hy with rfl | hy
  ·exact hx
  ·exact h2 y hy
theorem Qq {P : Program} {n : Nat} {t e : TypeId} {α : Type} {enc : α → List VV} {R : α → Prop} (hu : P.underlying t = some (.slice e)) (h : Dec P n e enc R) : Dec P (n + 1) t (fun l : List α => [.sl (aa enc l) l.length false]) (fun l => lenOk l = true ∧ ∀ x ∈ l, R x) := by
 intro xs hs
 simp only [ShapeT, hu] at hs
 rcases hs with rfl | ⟨yss, hl, hall, rfl⟩
 ·exact ⟨[], ⟨rfl, fun _ hx => (by cases hx)⟩, by simp only [xh, xi, zE]; rfl⟩
 ·obtain ⟨l, h1, h2, h3⟩ := BY h yss hall
  refine ⟨l, ⟨?_, h2⟩, by simp only [xh, xi, zD, h3, h1]⟩
  have : maxLen = 9223372036854775807 := by decide
  unfold lenOk
  exact decide_eq_true (by omega)
theorem Qr {P : Program} {n : Nat} {t : TypeId} {fs : Array Field} {xs : List VV} (hu : P.underlying t = some (.struct fs)) (h : ShapeT P (n + 1) t xs) : ∃ yss, FieldsS (ShapeT P n) fs.toList yss ∧ xs = yss.flatten := by
 simp only [ShapeT, hu] at h
 exact h
def TypesS (S : TypeId → List VV → Prop) : List TypeId → List (List VV) → Prop
 | [], [] => True
 | t :: ts, ys :: yss => S t ys ∧ TypesS S ts yss
 | _, _ => False
theorem BZ {S : TypeId → List VV → Prop} : ∀ (fs : List Field) (yss : List (List VV)), FieldsS S fs yss → TypesS S (fs.map Field.type) yss
 | [], [], _ => trivial
 | f :: fs, ys :: yss, ⟨h1, h2⟩ => ⟨h1, BZ fs yss h2⟩
 | [], _ :: _, h => h
 | _ :: _, [], h => h
theorem Qs {P : Program} {n : Nat} {t : TypeId} {fs : Array Field} {ts : List TypeId} {xs : List VV} (hu : P.underlying t = some (.struct fs)) (ht : fs.toList.map Field.type = ts) (h : ShapeT P (n + 1) t xs) : ∃ yss, TypesS (ShapeT P n) ts yss ∧ xs = yss.flatten := by
 obtain ⟨yss, h1, h2⟩ := Qr hu h
 exact ⟨yss, ht ▸ BZ _ _ h1, h2⟩
theorem TM {S : TypeId → List VV → Prop} {e : TypeId} : ∀ (yss : List (List VV)), (∀ ys ∈ yss, S e ys) → TypesS S (List.replicate yss.length e) yss
 | [], _ => trivial
 | ys :: yss, h => ⟨h ys (List.mem_cons_self ..), TM yss fun z hz => h z (List.mem_cons_of_mem _ hz)⟩
theorem TN {P : Program} {n : Nat} {t e : TypeId} {m : Nat} {ts : List TypeId} {xs : List VV} (hu : P.underlying t = some (.array m e)) (ht : List.replicate m e = ts) (h : ShapeT P (n + 1) t xs) : ∃ yss, TypesS (ShapeT P n) ts yss ∧ xs = yss.flatten := by
 simp only [ShapeT, hu] at h
 obtain ⟨yss, h1, h2, h3⟩ := h
 refine ⟨yss, ?_, h3⟩
 rw [← ht, ← h1]
 exact TM yss h2
theorem Qt {P : Program} {n : Nat} {t : TypeId} {ts : List TypeId} {xs : List VV} (h : ArgsS P n (t :: ts) xs) : ∃ x xs', xs = x :: xs' ∧ ArgS P n t x ∧ ArgsS P n ts xs' := by
 match xs, h with
 | x :: xs', h => exact ⟨x, xs', rfl, h.1, h.2⟩
theorem Qu {P : Program} {n : Nat} {xs : List VV} (h : ArgsS P n [] xs) : xs = [] := by
 match xs, h with
 | [], _ => rfl
theorem Qv {P : Program} {n : Nat} {t : TypeId} {fs : Array Field} {x : VV} {α : Type} {enc : α → List VV} {R : α → Prop} (hu : P.underlying t = some (.struct fs)) (hd : Dec P n t enc R) (h : ArgS P n t x) : ∃ s, R s ∧ normV x = .agg (enc s) := by
 obtain ⟨ys, h1, h2⟩ := h
 rw [hu] at h2
 obtain rfl : x = .agg ys := h2
 obtain ⟨s, hs, e⟩ := hd ys h1
 exact ⟨s, hs, by rw [RP, e]⟩
end Go.V
end
section
set_option maxRecDepth 100000
namespace Go.V
open Go Go.Proofs IntKind
def TO (x : Gs) : Prop := lenOk x.Tins = true
section
variable {P : Program} (k7 : P.underlying 3 = some (.int .i64)) (fA : P.underlying 22 = some (.array 3 3)) {De : Array Field} (fB : P.underlying 24 = some (.struct De)) (fC : De.toList.map Field.type = [3, 3]) (fD : P.underlying 25 = some (.array 3 24)) {TP : Array Field} (fE : P.underlying 94 = some (.struct TP)) (fF : TP.toList.map Field.type = [25]) (fG : P.underlying 26 = some (.slice 94)) {TQ : Array Field} (fH : P.underlying 28 = some (.struct TQ)) (fI : TQ.toList.map Field.type = [22, 25, 24, 3, 26])
include k7 fA fB fC fD fE fF fG fH fI
theorem gd_3 {n : Nat} : Dec P (n + 1) 3 eI (fun _ => True) := Qo k7
theorem gd_22 {n : Nat} : Dec P (n + 2) 22 cGi (fun _ => True) := by
 intro xs h
 obtain ⟨yss, hf, rfl⟩ := TN (n := n + 1) (ts := [3, 3, 3]) fA rfl h
 match yss, hf with
 | [y0, y1, y2], ⟨h0, h1, h2, _⟩ =>
  obtain ⟨x0, r0, e0⟩ := gd_3 k7 fA fB fC fD fE fF fG fH fI (n := n + 0) _ h0
  obtain ⟨x1, r1, e1⟩ := gd_3 k7 fA fB fC fD fE fF fG fH fI (n := n + 0) _ h1
  obtain ⟨x2, r2, e2⟩ := gd_3 k7 fA fB fC fD fE fF fG fH fI (n := n + 0) _ h2
  exact ⟨⟨x0, x1, x2⟩, trivial, by simp only [List.flatten_cons, List.flatten_nil, List.append_nil, tB, e0, e1, e2, eI, vk, eB, eS, eSl, xX, List.cons_append, List.nil_append]⟩
theorem gd_24 {n : Nat} : Dec P (n + 2) 24 aK (fun _ => True) := by
 intro xs h
 obtain ⟨yss, hf, rfl⟩ := Qs (n := n + 1) (ts := [3, 3]) fB fC h
 match yss, hf with
 | [y0, y1], ⟨h0, h1, _⟩ =>
  obtain ⟨x0, r0, e0⟩ := gd_3 k7 fA fB fC fD fE fF fG fH fI (n := n + 0) _ h0
  obtain ⟨x1, r1, e1⟩ := gd_3 k7 fA fB fC fD fE fF fG fH fI (n := n + 0) _ h1
  exact ⟨⟨x0, x1⟩, trivial, by simp only [List.flatten_cons, List.flatten_nil, List.append_nil, tB, e0, e1, eI, vk, eB, eS, eSl, tL, List.cons_append, List.nil_append]⟩
theorem gd_25 {n : Nat} : Dec P (n + 3) 25 cGa (fun _ => True) := by
 intro xs h
 obtain ⟨yss, hf, rfl⟩ := TN (n := n + 2) (ts := [24, 24, 24]) fD rfl h
 match yss, hf with
 | [y0, y1, y2], ⟨h0, h1, h2, _⟩ =>
  obtain ⟨x0, r0, e0⟩ := gd_24 k7 fA fB fC fD fE fF fG fH fI (n := n + 0) _ h0
  obtain ⟨x1, r1, e1⟩ := gd_24 k7 fA fB fC fD fE fF fG fH fI (n := n + 0) _ h1
  obtain ⟨x2, r2, e2⟩ := gd_24 k7 fA fB fC fD fE fF fG fH fI (n := n + 0) _ h2
  exact ⟨⟨x0, x1, x2⟩, trivial, by simp only [List.flatten_cons, List.flatten_nil, List.append_nil, tB, e0, e1, e2, eI, vk, eB, eS, eSl, we, tL, List.cons_append, List.nil_append]⟩
theorem gd_94 {n : Nat} : Dec P (n + 4) 94 cGt (fun _ => True) := by
 intro xs h
 obtain ⟨yss, hf, rfl⟩ := Qs (n := n + 3) (ts := [25]) fE fF h
 match yss, hf with
 | [y0], ⟨h0, _⟩ =>
  obtain ⟨x0, r0, e0⟩ := gd_25 k7 fA fB fC fD fE fF fG fH fI (n := n + 0) _ h0
  exact ⟨⟨x0⟩, trivial, by simp only [List.flatten_cons, List.flatten_nil, List.append_nil, tB, e0, eI, vk, eB, eS, eSl, we, tL, B7, List.cons_append, List.nil_append]⟩
theorem gd_26 {n : Nat} : Dec P (n + 5) 26 (eSl cGt) (fun l => lenOk l = true ∧ ∀ x ∈ l, True) := Qq fG (gd_94 k7 fA fB fC fD fE fF fG fH fI (n := n))
theorem gd_28 {n : Nat} : Dec P (n + 6) 28 cGs (TO) := by
 intro xs h
 obtain ⟨yss, hf, rfl⟩ := Qs (n := n + 5) (ts := [22, 25, 24, 3, 26]) fH fI h
 match yss, hf with
 | [y0, y1, y2, y3, y4], ⟨h0, h1, h2, h3, h4, _⟩ =>
  obtain ⟨x0, r0, e0⟩ := gd_22 k7 fA fB fC fD fE fF fG fH fI (n := n + 3) _ h0
  obtain ⟨x1, r1, e1⟩ := gd_25 k7 fA fB fC fD fE fF fG fH fI (n := n + 2) _ h1
  obtain ⟨x2, r2, e2⟩ := gd_24 k7 fA fB fC fD fE fF fG fH fI (n := n + 3) _ h2
  obtain ⟨x3, r3, e3⟩ := gd_3 k7 fA fB fC fD fE fF fG fH fI (n := n + 4) _ h3
  obtain ⟨x4, r4, e4⟩ := gd_26 k7 fA fB fC fD fE fF fG fH fI (n := n + 0) _ h4
  exact ⟨⟨x0, x1, x2, x3, x4⟩, r4.1, by simp only [List.flatten_cons, List.flatten_nil, List.append_nil, tB, e0, e1, e2, e3, e4, eI, vk, eB, eS, eSl, we, xX, tL, B8, List.cons_append, List.nil_append]⟩
end
theorem Qw {n : Nat} : Dec Tryz.prog (n + 6) 28 cGs (TO) := gd_28 Tryz.underlying3 Tryz.underlying22 Tryz.underlying24 (by kernel_rfl) Tryz.underlying25 Tryz.underlying94 (by kernel_rfl) Tryz.underlying26 Tryz.underlying28 (by kernel_rfl)
end Go.V
end
section
namespace Go.V
open Go Go.Proofs IntKind
def goB (b : Bool) : Option (LOut Bool Unit) := cond b (some (.go ())) (some (.ret false))
theorem xI (a b : Bool) : goB (a && b) = cond a (goB b) (some (.ret false)) := by cases a <;> rfl
theorem csome (a b : Bool) : cond a (some b) (some false) = some (a && b) := by cases a <;> rfl
theorem Dj {X : Type} (b : Bool) (kr : Bool → Option X) (kg : Unit → Option X) (kb : Nat → Unit → Option X) : aN (goB b) kr kg kb = cond b (kg ()) (kr false) := by cases b <;> rfl
def inB (a b n : Int) : Bool := decide (a ≤ n) && decide (n ≤ b)
theorem sC {a b n : Int} : inB a b n = true ↔ a ≤ n ∧ n ≤ b := by simp [inB]
theorem cB {n : Int} (h1 : -9223372036854775808 ≤ n) (h2 : n < 9223372036854775808) : i64.wrap n = n := IntWalk.i64_in _ (by omega)
theorem s6 {α : Type} {xs : List α} (h : xs.length < 9223372036854775808) : lenOk xs = true := by simpa [lenOk] using h
theorem mulR {a b A B : Int} (h1 : 0 ≤ a) (h2 : a ≤ A) (h3 : 0 ≤ b) (h4 : b ≤ B) : 0 ≤ a * b ∧ a * b ≤ A * B :=
 ⟨Int.mul_nonneg h1 h3, Int.mul_le_mul h2 h4 h3 (Int.le_trans h1 h2)⟩
end Go.V
end
section
namespace Go.V
def ea : Option Bool → Bool | none => true | some b => b
def eo : Option Bool → Bool | none => false | some b => b
end Go.V
end
section
namespace Go.V
open Go Go.Proofs IntKind
def wC (aI : Int) (nJ : Int) (aY : Int) : Option (Bool) := cond (decide (aI ≤ nJ)) (some (decide (nJ ≤ aY))) (some false)
theorem EJ (aI : Int) (nJ : Int) (aY : Int) (R : Bool) (h : wC aI nJ aY = some R) : ad Tryz.prog G0 92 [.lit (.int .i64 aI), .lit (.int .i64 nJ), .lit (.int .i64 aY)] (.tree (.lit (.bool R))) := by
 refine ad.runR mixed Tryz.call92 Tryz.func92 rfl (by simp [Tryz.ntmps92]; kernel_rfl) ?_
 obtain ⟨KF, h, kF, kN⟩ := dp h
 simp only [wC] at h
 cases d1 : (decide (aI ≤ nJ))
 ·simp only [d1, hs] at h
  try simp only [vz, tyf, d1, nm, seval]
  obtain rfl := kF _ h
  exact bB Tryz.results92 rfl
 simp only [d1, hs] at h
 try simp only [vz, tyf, d1, nm, seval]
 obtain rfl := kF _ h
 exact bB Tryz.results92 rfl
end Go.V
end
