/- Part of a proof. -/
import Derived.Test.YtekhjalgmlflpaaGreatDoorXbd
import Derived.Test.YtekhjalgmlflpaaGreatDoorXaw
import Derived.Test.YtekhjalgmlflpaaGreatDoorProg
set_option linter.all false
set_option maxRecDepth 4000
set_option maxHeartbeats 40000000
section
namespace Go.V
open Go
def neB {α : Type} (xs : List α) : Bool := !xs.isEmpty
theorem zaou {α : Type} {xs : List α} (h : neB xs = true) : 0 < xs.length := by
 cases xs with
 | nil => cases h
 | cons a l => exact Nat.succ_pos _
section
variable {P : Program} {H : Nat → Option VObj} {γ : Nat} {α : Type} {enc : α → List VV} {t t2 e e2 w b : Nat} {xs ys : List α} {el : Option TypeId} {β : Nat} {f : Bool} {k : VV → VEff → Prop}
theorem zara (he : ∀ x, (enc x).length = w) (hl : ∀ x, leafL (enc x) = true) (ha : appOk P t = some (e, w, b)) (hu2 : P.underlying t2 = some (.slice e2)) (hb : H β = some (.cells el (cellsL enc xs)))
  (hm : neB ys = true) (hr : roomOk b (xs ++ ys).length = true) (h : k (.ref γ 0 (xs ++ ys).length w (xs ++ ys).length) (.mv β (sameEl el e) (cellsL enc (xs ++ ys)))) :
  oeK (vappend P H γ t t2 (.ref β 0 xs.length w xs.length) (.sl (cellsL enc ys) ys.length f)) k := by
 have hm := zaou hm
 obtain ⟨hu, inf, z, hi, hz, rfl, rfl, hs0, hb0, hzs⟩ := zoh ha
 have hr' : (xs.length + ys.length) * inf.bytes ≤ 140737488355328 := by simpa [roomOk] using hr
 have h4 : (cellsL enc ys).all VV.leaf = true := by rw [zkw]; exact zjx hl ys
 have h2 := zcg he ys
 have h1 := zcg he xs
 have h5 : (cellsL enc ys).take (ys.length * inf.size) = cellsL enc ys := List.take_of_length_le (by omega)
 have h6 : ¬ (xs.length + ys.length ≤ xs.length) := by omega
 have key : vappend P H γ t t2 (.ref β 0 xs.length inf.size xs.length) (.sl (cellsL enc ys) ys.length f) = some (.ref γ 0 (xs ++ ys).length inf.size (xs ++ ys).length, .mv β (sameEl el e) (cellsL enc (xs ++ ys))) := by
  simp only [vappend, nilS, vappend1, hu, hu2, hi, hz, srcV, sls, h5, h4, hs0, hb0, hzs, hb]
  simp [h2, h6, h1, hr', zho]
 rw [key]
 exact h
end
theorem zaec {P : Program} {H : Nat → Option VObj} {t e : TypeId} {x y : Operand} {cs : List VV} {n : Nat} {f : Bool} (hu : P.underlying t = some (.slice e)) (hc : cs ≠ []) : binV P H .eql t x y (.sl cs n f) (.lit (.slice none 0 0)) = some (.lit (.bool false)) := by
 simp [binV, VV.val?, vptrEq, vptrEq.eq1, hu, hc]
end Go.V
end
section
set_option linter.defProp false
namespace Go.V
open Go
section
variable {P : Program} {G : Glob} {n : Nat} {x : Code} {Q : VExit → St → Prop} {st : St}
end
end Go.V
end
section
set_option linter.defProp false
namespace Go.V
open Go
section
variable {P : Program} {G : Glob} {n : Nat} {Q : VExit → St → Prop} {tm : Nat → VV} {H : Nat → Option VObj} {nx : Nat} {df : List VDef} {g : Operand} {ps : Array Tmp} {az bo : Code} {f : FuncId} {first captured : List VV}
theorem zafa (hg : ev (G.at (some none)) tm g = .fn (.func f) first captured)
  (h : ∀ LO, LO = VObj.loop .ready none (tmL n tm) ps az bo nx → VOpen P (G.at (some none)) f (first ++ [.yl (nx + 1)] ++ captured) (updH (updH H nx (.deferred (some []))) (nx + 1) LO) (nx + 2)
   (fun _ H' nx' => RangeEnd P (G.at (some none)) n Q ⟨tm, H, nx, df⟩ H' nx') (fun x H' nx' => Q (.panic x) ⟨tm, H', nx', .coll nx :: df⟩)) : CWp P (G.at (some none)) n (.rangeFunc g ps az bo) Q ⟨tm, H, nx, df⟩ := by
 unfold CWp
 refine ⟨rfl, ?_⟩
 rw [show St.ρ (G.at (some none)) ⟨tm, H, nx, df⟩ g = ev (G.at (some none)) tm g from ev_eq .. ▸ rfl, hg]
 exact h _ rfl
theorem zet {H' : Nat → Option VObj} {nx' : Nat} {LO : VObj} {tml : List VV} {d : Nat} (hL : LO = VObj.loop .ready none tml ps az bo d) (h : H' (nx + 1) = some LO) (hq : ∀ LX, Q .normal ⟨tm, updH H' (nx + 1) LX, nx', .coll nx :: df⟩) : RangeEnd P G n Q ⟨tm, H, nx, df⟩ H' nx' :=
 ⟨.ready, none, tml, ps, az, bo, d, by rw [h, hL], by simp, hq _⟩
theorem zgb {H' : Nat → Option VObj} {nx' : Nat} {LD : Code → VObj} {tml : List VV} {d : Nat} (hL : LD = fun c => VObj.loop .done (some c) tml ps az bo d) (h : H' (nx + 1) = some (LD .ret)) (hq : ∀ LX, Q .ret ⟨tm, updH H' (nx + 1) LX, nx', .coll nx :: df⟩) : RangeEnd P G n Q ⟨tm, H, nx, df⟩ H' nx' :=
 ⟨.done, some .ret, tml, ps, az, bo, d, by rw [h, hL], by simp, VWp.ret (hq _)⟩
def RndEnd (β : Nat) (LB LO : VObj) (LD : Code → VObj) (o : Oper) (st : St) (K : St → Prop) : VExit → St → Prop
 | .normal, s2 => s2.H β = some LB ∧ K { st.put o.dst (.lit (.bool true)) with H := updH s2.H β LO, nx := s2.nx }
 | .ret, s2 => s2.H β = some LB ∧ K { st.put o.dst (.lit (.bool false)) with H := updH s2.H β (LD .ret), nx := s2.nx }
 | .exit id, s2 => s2.H β = some LB ∧ K { st.put o.dst (.lit (.bool false)) with H := updH s2.H β (LD (.exit id)), nx := s2.nx }
 | _, _ => False
def RndAs (P : Program) (G : Glob) (n β : Nat) (LB LO : VObj) (LD : Code → VObj) (bo : Code) (o : Oper) (st : St) (K : St → Prop) : VExit → St → Prop
 | .normal, s1 => s1.H β = some LO ∧ CWp P (G.at (some (some β))) n bo (RndEnd β LB LO LD o st K) { s1 with H := updH s1.H β LB }
 | _, _ => False
theorem zacl (hm : P.follows .mixedOrders = true) {o : Oper} {β : Nat} {args : List VV} {st : St} {K : St → Prop} {LO : VObj} {tml : List VV} {d : Nat} {psl : List Tmp} (hL : LO = VObj.loop .ready none tml ⟨psl⟩ az bo d) (hβ : st.H β = some LO) (hn : tml.length = n) (ha : args.length = psl.length)
  (h1 : codeOk n az = true) (h2 : codeOk n bo = true)
  (h : ∀ LB LD, LB = VObj.loop .busy none tml ⟨psl⟩ az bo d → LD = (fun c => VObj.loop .done (some c) tml ⟨psl⟩ az bo d) →
   CWp P (G.at (some (some β))) n az (RndAs P G n β LB LO LD bo o st K) ⟨argsTm (roundTm tml psl args), st.H, st.nx, []⟩) : yieldK P G o β args st K := by
 unfold yieldK
 rw [hβ, hL]
 subst hn
 refine ⟨ha, (zey hm az _ _ h1 (h _ _ rfl rfl)).mono ?_⟩
 intro e s1 hs
 cases e with
 | normal =>
  obtain ⟨q1, q2⟩ := hs
  refine ⟨none, tml, ⟨psl⟩, az, bo, d, by rw [q1, hL], (zey hm bo _ _ h2 q2).mono ?_⟩
  intro e s2 hs2
  cases e with
  | normal =>
   obtain ⟨r1, r2⟩ := hs2
   refine ⟨_, _, _, _, _, _, _, r1, ?_⟩
   rw [hL] at r2
   exact r2
  | ret =>
   obtain ⟨r1, r2⟩ := hs2
   exact ⟨_, _, _, _, _, _, _, r1, r2⟩
  | exit id =>
   obtain ⟨r1, r2⟩ := hs2
   exact ⟨_, _, _, _, _, _, _, r1, r2⟩
  | goto l => exact hs2.elim
  | panic x => exact hs2.elim
 | _ => exact hs.elim
theorem ziv {m t p : Nat} {x : VV} (h : t < m) : argsTm (roundTm (tmL m tm) [p] [x]) t = if t = p then x else tm t := by
 unfold argsTm roundTm tmL
 simp only [List.zip_cons_cons, List.zip_nil_right, List.foldl_cons, List.foldl_nil]
 by_cases hp : t = p
 ·subst hp
  rw [if_pos rfl]
  simp [h]
 ·rw [if_neg hp]
  simp [List.getElem?_set, h, Ne.symm hp]
theorem zhk {m t : Nat} (h : t < m) : argsTm (roundTm (tmL m tm) [] []) t = tm t := by
 unfold argsTm roundTm tmL
 simp [h]
theorem zgp {m : Nat} : (tmL m tm).length = m := by simp [tmL]
theorem zhl {code : Code} (F : (Nat → VV) → Prop) (hF : F tm) (h : ∀ tm, F tm → CWp P G n code Q ⟨tm, H, nx, df⟩) : CWp P G n code Q ⟨tm, H, nx, df⟩ := h tm hF
theorem zahl {β : Nat} : vcells (.yl β) = some [.yl β] := rfl
theorem zaqe {β : Nat} : (VV.yl β).leaf = true := rfl
theorem VPure.at {x : Option (Option Nat)} {args : List VV} {r : PRes} (h : VPure P G f args r) : VPure P (G.at x) f args r := h
def rg := (And.intro @zahl (And.intro @zaqe @zalr))
theorem zgq {fn : Func} {R Rp : VV → (Nat → Option VObj) → Nat → Prop} {β : Nat} (h : H β = some (.deferred (some []))) (h2 : OpenPostD P G fn R Rp .ret ⟨tm, updH H β (.deferred none), nx, df⟩) : OpenPostD P G fn R Rp .ret ⟨tm, H, nx, .coll β :: df⟩ := ⟨h, h2⟩
theorem zqp {fn : Func} {R Rp : VV → (Nat → Option VObj) → Nat → Prop} {β : Nat} (h : H β = some (.deferred (some []))) (h2 : OpenPostD P G fn R Rp .normal ⟨tm, updH H β (.deferred none), nx, df⟩) : OpenPostD P G fn R Rp .normal ⟨tm, H, nx, .coll β :: df⟩ := ⟨h, h2⟩
end
end Go.V
end
section
namespace Go.V
open Go
section
variable {P : Program} {G : Glob} {f : FuncId} {β γ w c nx : Nat} {tm : Nat → VV} {H : Nat → Option VObj} {df : List VDef} {d : Option Tmp} {K : List Nat → List Nat → St → Prop} {el : Option TypeId} {α : Type} {enc : α → List VV} {xs ys : List α} {x : VV}
end
section
variable {P : Program} {G : Glob} {β γ w e : Nat} {t ty : TypeId} {tm : Nat → VV} {H : Nat → Option VObj} {d : Option Tmp} {k : VV → VEff → Prop} {el : Option TypeId} {α : Type} {enc : α → List VV} {xs ys : List α} {pos : String} {af : Array Edge} {g : Option (Nat × Bool)} {x : Operand} {lo hi : Option Operand}
end
section
variable {P : Program} {G : Glob} {f : FuncId} {γ nx : Nat} {tm : Nat → VV} {H : Nat → Option VObj} {df : List VDef} {d : Option Tmp} {x : VV}
theorem ktree0 {K : St → Prop} {Qp : VV → St → Prop} (hp : VPure P G f [] (.tree x)) (h : fin d γ tm H nx df K x .none) : callK P G f [] ⟨tm, H, nx, df⟩ d γ K Qp := ktree (args0 := []) rfl rfl hp h
end
end Go.V
end
section
namespace Go.V
open Go
variable {P : Program} {G : Glob} {β γ w e n off : Nat} {t ty : TypeId} {tm : Nat → VV} {H : Nat → Option VObj} {d : Option Tmp} {k : VV → VEff → Prop} {el : Option TypeId} {cs : List VV} {pos : String} {af : Array Edge} {g : Option (Nat × Bool)} {x : Operand}
theorem k_slA (hu : P.underlying t = some (.array n e)) (hs : szT P e = some w) (hx : ev G tm x = .ptr β off) (hH : H β = some (.cells el cs)) (hn : 0 < n) (hle : off + n * w ≤ cs.length)
  (h : k (.ref β off n w n) .none) : oeK (vop P ⟨d, .slice t x none none none, ty, pos, af, g⟩ (ev G tm) H γ) k := by
 have e1 : vslice P H t (.ptr β off) none none none = none := by simp [vslice, hu]
 have e3 : vsliceX P H t (.ptr β off) none none none = some (.ref β off n w n) := by simp [vsliceX, hu, hH, hs, vbound, hn, hle]
 have e2 : vop P ⟨d, .slice t x none none none, ty, pos, af, g⟩ (ev G tm) H γ = some (.ref β off n w n, .none) := by
  simp [vop, hu, hx, e1, e3]
 rw [e2]
 exact h
end Go.V
namespace Go.V
open Go
end Go.V
end
section
namespace Go.V
open Go Go.Proofs
theorem mixed : Tryz.prog.follows .mixedOrders = true := by kernel_rfl
structure Gi where
 a0 : Int
 a1 : Int
 a2 : Int
 deriving Inhabited, DecidableEq
def cGi (x : Gi) : List VV := [.lit (.int .i64 x.a0), .lit (.int .i64 x.a1), .lit (.int .i64 x.a2)]
theorem zhy {x : Gi} : cGi x = [.lit (.int .i64 x.a0), .lit (.int .i64 x.a1), .lit (.int .i64 x.a2)] := rfl
theorem zam : EncOk cGi := EncOk.of (fun x => by simp only [zhy, tre, Bool.and_self]) (fun x => by simp only [zhy, nrm]) (fun x H d => by simp only [zhy, nrm, List.map_cons, List.map_nil])
structure GSpan where
 Low : Int
 High : Int
 deriving Inhabited, DecidableEq
def cGSpan (x : GSpan) : List VV := [.lit (.int .i64 x.Low), .lit (.int .i64 x.High)]
theorem zhq {x : GSpan} : cGSpan x = [.lit (.int .i64 x.Low), .lit (.int .i64 x.High)] := rfl
theorem zbm : EncOk cGSpan := EncOk.of (fun x => by simp only [zhq, tre, zam.tree, zam.treeL, Bool.and_self]) (fun x => by simp only [zhq, nrm, zam.norm, zam.normL, zam.shown, zam.showL]) (fun x H d => by simp only [zhq, nrm, List.map_cons, List.map_nil])
structure Ga where
 a0 : GSpan
 a1 : GSpan
 a2 : GSpan
 deriving Inhabited, DecidableEq
def cGa (x : Ga) : List VV := [.lit (.int .i64 x.a0.Low), .lit (.int .i64 x.a0.High), .lit (.int .i64 x.a1.Low), .lit (.int .i64 x.a1.High), .lit (.int .i64 x.a2.Low), .lit (.int .i64 x.a2.High)]
theorem zfk {x : Ga} : cGa x = [.lit (.int .i64 x.a0.Low), .lit (.int .i64 x.a0.High), .lit (.int .i64 x.a1.Low), .lit (.int .i64 x.a1.High), .lit (.int .i64 x.a2.Low), .lit (.int .i64 x.a2.High)] := rfl
theorem zaz : EncOk cGa := EncOk.of (fun x => by simp only [zfk, tre, zam.tree, zam.treeL, zbm.tree, zbm.treeL, Bool.and_self]) (fun x => by simp only [zfk, nrm, zam.norm, zam.normL, zam.shown, zam.showL, zbm.norm, zbm.normL, zbm.shown, zbm.showL]) (fun x H d => by simp only [zfk, nrm, List.map_cons, List.map_nil])
structure Gt where
 pg : Ga
 deriving Inhabited, DecidableEq
def cGt (x : Gt) : List VV := [.lit (.int .i64 x.pg.a0.Low), .lit (.int .i64 x.pg.a0.High), .lit (.int .i64 x.pg.a1.Low), .lit (.int .i64 x.pg.a1.High), .lit (.int .i64 x.pg.a2.Low), .lit (.int .i64 x.pg.a2.High)]
theorem zhh {x : Gt} : cGt x = [.lit (.int .i64 x.pg.a0.Low), .lit (.int .i64 x.pg.a0.High), .lit (.int .i64 x.pg.a1.Low), .lit (.int .i64 x.pg.a1.High), .lit (.int .i64 x.pg.a2.Low), .lit (.int .i64 x.pg.a2.High)] := rfl
theorem zbf : EncOk cGt := EncOk.of (fun x => by simp only [zhh, tre, zam.tree, zam.treeL, zbm.tree, zbm.treeL, zaz.tree, zaz.treeL, Bool.and_self]) (fun x => by simp only [zhh, nrm, zam.norm, zam.normL, zam.shown, zam.showL, zbm.norm, zbm.normL, zbm.shown, zbm.showL, zaz.norm, zaz.normL, zaz.shown, zaz.showL]) (fun x H d => by simp only [zhh, nrm, List.map_cons, List.map_nil])
structure Gs where
 Old : Gi
 Fade : Ga
 Years : GSpan
 Off : Int
 Tins : List Gt
 deriving Inhabited, DecidableEq
def cGs (x : Gs) : List VV := [.lit (.int .i64 x.Old.a0), .lit (.int .i64 x.Old.a1), .lit (.int .i64 x.Old.a2), .lit (.int .i64 x.Fade.a0.Low), .lit (.int .i64 x.Fade.a0.High), .lit (.int .i64 x.Fade.a1.Low), .lit (.int .i64 x.Fade.a1.High), .lit (.int .i64 x.Fade.a2.Low), .lit (.int .i64 x.Fade.a2.High), .lit (.int .i64 x.Years.Low), .lit (.int .i64 x.Years.High), .lit (.int .i64 x.Off), .sl (cellsL cGt x.Tins) (List.length x.Tins) false]
theorem zfp {x : Gs} : cGs x = [.lit (.int .i64 x.Old.a0), .lit (.int .i64 x.Old.a1), .lit (.int .i64 x.Old.a2), .lit (.int .i64 x.Fade.a0.Low), .lit (.int .i64 x.Fade.a0.High), .lit (.int .i64 x.Fade.a1.Low), .lit (.int .i64 x.Fade.a1.High), .lit (.int .i64 x.Fade.a2.Low), .lit (.int .i64 x.Fade.a2.High), .lit (.int .i64 x.Years.Low), .lit (.int .i64 x.Years.High), .lit (.int .i64 x.Off), .sl (cellsL cGt x.Tins) (List.length x.Tins) false] := rfl
theorem zbk : EncOk cGs := EncOk.of (fun x => by simp only [zfp, tre, zam.tree, zam.treeL, zbm.tree, zbm.treeL, zaz.tree, zaz.treeL, zbf.tree, zbf.treeL, Bool.and_self]) (fun x => by simp only [zfp, nrm, zam.norm, zam.normL, zam.shown, zam.showL, zbm.norm, zbm.normL, zbm.shown, zbm.showL, zaz.norm, zaz.normL, zaz.shown, zaz.showL, zbf.norm, zbf.normL, zbf.shown, zbf.showL]) (fun x H d => by simp only [zfp, nrm, List.map_cons, List.map_nil])
structure Gu where
 Tins : List Gi
 Years : Int
 Fade : Gi
 deriving Inhabited, DecidableEq
def cGu (x : Gu) : List VV := [.sl (cellsL cGi x.Tins) (List.length x.Tins) false, .lit (.int .i64 x.Years), .lit (.int .i64 x.Fade.a0), .lit (.int .i64 x.Fade.a1), .lit (.int .i64 x.Fade.a2)]
theorem zgt {x : Gu} : cGu x = [.sl (cellsL cGi x.Tins) (List.length x.Tins) false, .lit (.int .i64 x.Years), .lit (.int .i64 x.Fade.a0), .lit (.int .i64 x.Fade.a1), .lit (.int .i64 x.Fade.a2)] := rfl
theorem zez : EncOk cGu := EncOk.of (fun x => by simp only [zgt, tre, zam.tree, zam.treeL, zbm.tree, zbm.treeL, zaz.tree, zaz.treeL, zbf.tree, zbf.treeL, zbk.tree, zbk.treeL, Bool.and_self]) (fun x => by simp only [zgt, nrm, zam.norm, zam.normL, zam.shown, zam.showL, zbm.norm, zbm.normL, zbm.shown, zbm.showL, zaz.norm, zaz.normL, zaz.shown, zaz.showL, zbf.norm, zbf.normL, zbf.shown, zbf.showL, zbk.norm, zbk.normL, zbk.shown, zbk.showL]) (fun x H d => by simp only [zgt, nrm, List.map_cons, List.map_nil])
structure Gm where
 sh : Gs
 mix : List Int
 deriving Inhabited, DecidableEq
def cGm (x : Gm) : List VV := [.lit (.int .i64 x.sh.Old.a0), .lit (.int .i64 x.sh.Old.a1), .lit (.int .i64 x.sh.Old.a2), .lit (.int .i64 x.sh.Fade.a0.Low), .lit (.int .i64 x.sh.Fade.a0.High), .lit (.int .i64 x.sh.Fade.a1.Low), .lit (.int .i64 x.sh.Fade.a1.High), .lit (.int .i64 x.sh.Fade.a2.Low), .lit (.int .i64 x.sh.Fade.a2.High), .lit (.int .i64 x.sh.Years.Low), .lit (.int .i64 x.sh.Years.High), .lit (.int .i64 x.sh.Off), .sl (cellsL cGt x.sh.Tins) (List.length x.sh.Tins) false, .sl (cellsL eI x.mix) (List.length x.mix) false]
theorem zgr {x : Gm} : cGm x = [.lit (.int .i64 x.sh.Old.a0), .lit (.int .i64 x.sh.Old.a1), .lit (.int .i64 x.sh.Old.a2), .lit (.int .i64 x.sh.Fade.a0.Low), .lit (.int .i64 x.sh.Fade.a0.High), .lit (.int .i64 x.sh.Fade.a1.Low), .lit (.int .i64 x.sh.Fade.a1.High), .lit (.int .i64 x.sh.Fade.a2.Low), .lit (.int .i64 x.sh.Fade.a2.High), .lit (.int .i64 x.sh.Years.Low), .lit (.int .i64 x.sh.Years.High), .lit (.int .i64 x.sh.Off), .sl (cellsL cGt x.sh.Tins) (List.length x.sh.Tins) false, .sl (cellsL eI x.mix) (List.length x.mix) false] := rfl
theorem zdy : EncOk cGm := EncOk.of (fun x => by simp only [zgr, tre, zam.tree, zam.treeL, zbm.tree, zbm.treeL, zaz.tree, zaz.treeL, zbf.tree, zbf.treeL, zbk.tree, zbk.treeL, zez.tree, zez.treeL, Bool.and_self]) (fun x => by simp only [zgr, nrm, zam.norm, zam.normL, zam.shown, zam.showL, zbm.norm, zbm.normL, zbm.shown, zbm.showL, zaz.norm, zaz.normL, zaz.shown, zaz.showL, zbf.norm, zbf.normL, zbf.shown, zbf.showL, zbk.norm, zbk.normL, zbk.shown, zbk.showL, zez.norm, zez.normL, zez.shown, zez.showL]) (fun x H d => by simp only [zgr, nrm, List.map_cons, List.map_nil])
structure Gf where
 pigment : Int
 years : Int
 deriving Inhabited, DecidableEq
def cGf (x : Gf) : List VV := [.lit (.int .i64 x.pigment), .lit (.int .i64 x.years)]
theorem zpd {x : Gf} : cGf x = [.lit (.int .i64 x.pigment), .lit (.int .i64 x.years)] := rfl
theorem zuy : EncOk (eSl eI) := EncOk.sl eI_ok
theorem ld3 {c : VV} {cs : List VV} : vload Tryz.prog 3 (c :: cs) = some c := by
 have h1 : aggT Tryz.prog 3 = some false := by kernel_rfl
 simp [vload, vpart, h1]
theorem sz3 : szT Tryz.prog 3 = some 1 := by kernel_rfl
theorem vzl3 : vzl Tryz.prog 3 = some [.lit (.int .i64 0)] := by kernel_rfl
theorem ld4 {c : VV} {cs : List VV} : vload Tryz.prog 4 (c :: cs) = some c := by
 have h1 : aggT Tryz.prog 4 = some false := by kernel_rfl
 simp [vload, vpart, h1]
theorem sz4 : szT Tryz.prog 4 = some 1 := by kernel_rfl
theorem vzl4 : vzl Tryz.prog 4 = some [.lit (.bool false)] := by kernel_rfl
theorem ld22 {c0 c1 c2 : VV} {cs : List VV} : vload Tryz.prog 22 (c0 :: c1 :: c2 :: cs) = some (.agg [c0, c1, c2]) := by
 have h1 : aggT Tryz.prog 22 = some true := by kernel_rfl
 have h2 : szT Tryz.prog 22 = some 3 := by kernel_rfl
 simp [vload, vpart, h1, h2]
theorem sz22 : szT Tryz.prog 22 = some 3 := by kernel_rfl
theorem vzl22 : vzl Tryz.prog 22 = some [.lit (.int .i64 0), .lit (.int .i64 0), .lit (.int .i64 0)] := by kernel_rfl
theorem zatl {H : Nat → Option VObj} {cs : List VV} {k : IntKind} : vindexAddr Tryz.prog H 22 (.tp cs) (.lit (.int k (0 : Int))) = some (.tp (cs.drop 0)) := by
 have h2 : szT Tryz.prog 3 = some 1 := by kernel_rfl
 simp [vindexAddr, Tryz.underlying22, h2]
theorem zats {c0 c1 c2 : VV} {k : IntKind} : vindex Tryz.prog 22 (.agg [c0, c1, c2]) (.lit (.int k (0 : Int))) = some (c0) := by
 have h1 : aggT Tryz.prog 3 = some false := by kernel_rfl
 have h2 : szT Tryz.prog 3 = some 1 := by kernel_rfl
 simp [vindex, Tryz.underlying22, vpart, h1, h2]
theorem zlw {H : Nat → Option VObj} {β o : Nat} {k : IntKind} {i : Int} (h : (i == 0) = true) : vindexAddr Tryz.prog H 22 (.ptr β o) (.lit (.int k i)) = if (H β).isSome = true then some (.ptr β (o + 0)) else none := by
 obtain rfl : i = 0 := by simpa using h
 have h2 : szT Tryz.prog 3 = some 1 := by kernel_rfl
 simp [vindexAddr, Tryz.underlying22, h2]
theorem zarv {H : Nat → Option VObj} {cs : List VV} {k : IntKind} : vindexAddr Tryz.prog H 22 (.tp cs) (.lit (.int k (1 : Int))) = some (.tp (cs.drop 1)) := by
 have h2 : szT Tryz.prog 3 = some 1 := by kernel_rfl
 simp [vindexAddr, Tryz.underlying22, h2]
theorem zasb {c0 c1 c2 : VV} {k : IntKind} : vindex Tryz.prog 22 (.agg [c0, c1, c2]) (.lit (.int k (1 : Int))) = some (c1) := by
 have h1 : aggT Tryz.prog 3 = some false := by kernel_rfl
 have h2 : szT Tryz.prog 3 = some 1 := by kernel_rfl
 simp [vindex, Tryz.underlying22, vpart, h1, h2]
theorem zli {H : Nat → Option VObj} {β o : Nat} {k : IntKind} {i : Int} (h : (i == 1) = true) : vindexAddr Tryz.prog H 22 (.ptr β o) (.lit (.int k i)) = if (H β).isSome = true then some (.ptr β (o + 1)) else none := by
 obtain rfl : i = 1 := by simpa using h
 have h2 : szT Tryz.prog 3 = some 1 := by kernel_rfl
 simp [vindexAddr, Tryz.underlying22, h2]
theorem zasw {H : Nat → Option VObj} {cs : List VV} {k : IntKind} : vindexAddr Tryz.prog H 22 (.tp cs) (.lit (.int k (2 : Int))) = some (.tp (cs.drop 2)) := by
 have h2 : szT Tryz.prog 3 = some 1 := by kernel_rfl
 simp [vindexAddr, Tryz.underlying22, h2]
theorem zasd {c0 c1 c2 : VV} {k : IntKind} : vindex Tryz.prog 22 (.agg [c0, c1, c2]) (.lit (.int k (2 : Int))) = some (c2) := by
 have h1 : aggT Tryz.prog 3 = some false := by kernel_rfl
 have h2 : szT Tryz.prog 3 = some 1 := by kernel_rfl
 simp [vindex, Tryz.underlying22, vpart, h1, h2]
theorem zlk {H : Nat → Option VObj} {β o : Nat} {k : IntKind} {i : Int} (h : (i == 2) = true) : vindexAddr Tryz.prog H 22 (.ptr β o) (.lit (.int k i)) = if (H β).isSome = true then some (.ptr β (o + 2)) else none := by
 obtain rfl : i = 2 := by simpa using h
 have h2 : szT Tryz.prog 3 = some 1 := by kernel_rfl
 simp [vindexAddr, Tryz.underlying22, h2]
theorem ld24 {c0 c1 : VV} {cs : List VV} : vload Tryz.prog 24 (c0 :: c1 :: cs) = some (.agg [c0, c1]) := by
 have h1 : aggT Tryz.prog 24 = some true := by kernel_rfl
 have h2 : szT Tryz.prog 24 = some 2 := by kernel_rfl
 simp [vload, vpart, h1, h2]
theorem sz24 : szT Tryz.prog 24 = some 2 := by kernel_rfl
theorem vzl24 : vzl Tryz.prog 24 = some [.lit (.int .i64 0), .lit (.int .i64 0)] := by kernel_rfl
theorem zarz {H : Nat → Option VObj} {cs : List VV} : vfieldAddr Tryz.prog H 24 (.tp cs) 0 = some (.tp (cs.drop 0)) := by
 have h2 : szT Tryz.prog 3 = some 1 := by kernel_rfl
 simp [vfieldAddr, Tryz.underlying24, h2]
theorem zasp {H : Nat → Option VObj} {β o : Nat} : vfieldAddr Tryz.prog H 24 (.ptr β o) 0 = if (H β).isSome = true then some (.ptr β (o + 0)) else none := by
 have h2 : szT Tryz.prog 3 = some 1 := by kernel_rfl
 simp [vfieldAddr, Tryz.underlying24, h2]
theorem zarx {c0 c1 : VV} : vfield Tryz.prog 24 (.agg [c0, c1]) 0 = some (c0) := by
 have h1 : aggT Tryz.prog 3 = some false := by kernel_rfl
 have h2 : szT Tryz.prog 3 = some 1 := by kernel_rfl
 simp [vfield, Tryz.underlying24, vpart, h1, h2]
theorem zaso {H : Nat → Option VObj} {cs : List VV} : vfieldAddr Tryz.prog H 24 (.tp cs) 1 = some (.tp (cs.drop 1)) := by
 have h2 : szT Tryz.prog 3 = some 1 := by kernel_rfl
 simp [vfieldAddr, Tryz.underlying24, h2]
theorem zasg {H : Nat → Option VObj} {β o : Nat} : vfieldAddr Tryz.prog H 24 (.ptr β o) 1 = if (H β).isSome = true then some (.ptr β (o + 1)) else none := by
 have h2 : szT Tryz.prog 3 = some 1 := by kernel_rfl
 simp [vfieldAddr, Tryz.underlying24, h2]
theorem zatz {c0 c1 : VV} : vfield Tryz.prog 24 (.agg [c0, c1]) 1 = some (c1) := by
 have h1 : aggT Tryz.prog 3 = some false := by kernel_rfl
 have h2 : szT Tryz.prog 3 = some 1 := by kernel_rfl
 simp [vfield, Tryz.underlying24, vpart, h1, h2]
theorem ld25 {c0 c1 c2 c3 c4 c5 : VV} {cs : List VV} : vload Tryz.prog 25 (c0 :: c1 :: c2 :: c3 :: c4 :: c5 :: cs) = some (.agg [c0, c1, c2, c3, c4, c5]) := by
 have h1 : aggT Tryz.prog 25 = some true := by kernel_rfl
 have h2 : szT Tryz.prog 25 = some 6 := by kernel_rfl
 simp [vload, vpart, h1, h2]
theorem sz25 : szT Tryz.prog 25 = some 6 := by kernel_rfl
theorem vzl25 : vzl Tryz.prog 25 = some [.lit (.int .i64 0), .lit (.int .i64 0), .lit (.int .i64 0), .lit (.int .i64 0), .lit (.int .i64 0), .lit (.int .i64 0)] := by kernel_rfl
theorem zarh {H : Nat → Option VObj} {β o : Nat} {k : IntKind} : vindexAddr Tryz.prog H 25 (.ptr β o) (.lit (.int k (0 : Int))) = if (H β).isSome = true then some (.ptr β (o + 0)) else none := by
 have h2 : szT Tryz.prog 24 = some 2 := by kernel_rfl
 simp [vindexAddr, Tryz.underlying25, h2]
theorem zasi {H : Nat → Option VObj} {cs : List VV} {k : IntKind} : vindexAddr Tryz.prog H 25 (.tp cs) (.lit (.int k (0 : Int))) = some (.tp (cs.drop 0)) := by
 have h2 : szT Tryz.prog 24 = some 2 := by kernel_rfl
 simp [vindexAddr, Tryz.underlying25, h2]
theorem zauc {c0 c1 c2 c3 c4 c5 : VV} {k : IntKind} : vindex Tryz.prog 25 (.agg [c0, c1, c2, c3, c4, c5]) (.lit (.int k (0 : Int))) = some (.agg [c0, c1]) := by
 have h1 : aggT Tryz.prog 24 = some true := by kernel_rfl
 have h2 : szT Tryz.prog 24 = some 2 := by kernel_rfl
 simp [vindex, Tryz.underlying25, vpart, h1, h2]
theorem zlq {H : Nat → Option VObj} {β o : Nat} {k : IntKind} {i : Int} (h : (i == 0) = true) : vindexAddr Tryz.prog H 25 (.ptr β o) (.lit (.int k i)) = if (H β).isSome = true then some (.ptr β (o + 0)) else none := by
 obtain rfl : i = 0 := by simpa using h
 have h2 : szT Tryz.prog 24 = some 2 := by kernel_rfl
 simp [vindexAddr, Tryz.underlying25, h2]
theorem zaar {H : Nat → Option VObj} {cs : List VV} {k : IntKind} {i : Int} (h : (i == 0) = true) : vindexAddr Tryz.prog H 25 (.tp cs) (.lit (.int k i)) = some (.tp (cs.drop 0)) := by
 obtain rfl : i = 0 := by simpa using h
 have h2 : szT Tryz.prog 24 = some 2 := by kernel_rfl
 simp [vindexAddr, Tryz.underlying25, h2]
theorem zzp {c0 c1 c2 c3 c4 c5 : VV} {k : IntKind} {i : Int} (h : (i == 0) = true) : vindex Tryz.prog 25 (.agg [c0, c1, c2, c3, c4, c5]) (.lit (.int k i)) = some (.agg [c0, c1]) := by
 obtain rfl : i = 0 := by simpa using h
 have h1 : aggT Tryz.prog 24 = some true := by kernel_rfl
 have h2 : szT Tryz.prog 24 = some 2 := by kernel_rfl
 simp [vindex, Tryz.underlying25, vpart, h1, h2]
theorem zarb {H : Nat → Option VObj} {β o : Nat} {k : IntKind} : vindexAddr Tryz.prog H 25 (.ptr β o) (.lit (.int k (1 : Int))) = if (H β).isSome = true then some (.ptr β (o + 2)) else none := by
 have h2 : szT Tryz.prog 24 = some 2 := by kernel_rfl
 simp [vindexAddr, Tryz.underlying25, h2]
theorem zast {H : Nat → Option VObj} {cs : List VV} {k : IntKind} : vindexAddr Tryz.prog H 25 (.tp cs) (.lit (.int k (1 : Int))) = some (.tp (cs.drop 2)) := by
 have h2 : szT Tryz.prog 24 = some 2 := by kernel_rfl
 simp [vindexAddr, Tryz.underlying25, h2]
theorem zaty {c0 c1 c2 c3 c4 c5 : VV} {k : IntKind} : vindex Tryz.prog 25 (.agg [c0, c1, c2, c3, c4, c5]) (.lit (.int k (1 : Int))) = some (.agg [c2, c3]) := by
 have h1 : aggT Tryz.prog 24 = some true := by kernel_rfl
 have h2 : szT Tryz.prog 24 = some 2 := by kernel_rfl
 simp [vindex, Tryz.underlying25, vpart, h1, h2]
theorem zlm {H : Nat → Option VObj} {β o : Nat} {k : IntKind} {i : Int} (h : (i == 1) = true) : vindexAddr Tryz.prog H 25 (.ptr β o) (.lit (.int k i)) = if (H β).isSome = true then some (.ptr β (o + 2)) else none := by
 obtain rfl : i = 1 := by simpa using h
 have h2 : szT Tryz.prog 24 = some 2 := by kernel_rfl
 simp [vindexAddr, Tryz.underlying25, h2]
theorem zabt {H : Nat → Option VObj} {cs : List VV} {k : IntKind} {i : Int} (h : (i == 1) = true) : vindexAddr Tryz.prog H 25 (.tp cs) (.lit (.int k i)) = some (.tp (cs.drop 2)) := by
 obtain rfl : i = 1 := by simpa using h
 have h2 : szT Tryz.prog 24 = some 2 := by kernel_rfl
 simp [vindexAddr, Tryz.underlying25, h2]
theorem zyp {c0 c1 c2 c3 c4 c5 : VV} {k : IntKind} {i : Int} (h : (i == 1) = true) : vindex Tryz.prog 25 (.agg [c0, c1, c2, c3, c4, c5]) (.lit (.int k i)) = some (.agg [c2, c3]) := by
 obtain rfl : i = 1 := by simpa using h
 have h1 : aggT Tryz.prog 24 = some true := by kernel_rfl
 have h2 : szT Tryz.prog 24 = some 2 := by kernel_rfl
 simp [vindex, Tryz.underlying25, vpart, h1, h2]
theorem zasa {H : Nat → Option VObj} {β o : Nat} {k : IntKind} : vindexAddr Tryz.prog H 25 (.ptr β o) (.lit (.int k (2 : Int))) = if (H β).isSome = true then some (.ptr β (o + 4)) else none := by
 have h2 : szT Tryz.prog 24 = some 2 := by kernel_rfl
 simp [vindexAddr, Tryz.underlying25, h2]
theorem zatm {H : Nat → Option VObj} {cs : List VV} {k : IntKind} : vindexAddr Tryz.prog H 25 (.tp cs) (.lit (.int k (2 : Int))) = some (.tp (cs.drop 4)) := by
 have h2 : szT Tryz.prog 24 = some 2 := by kernel_rfl
 simp [vindexAddr, Tryz.underlying25, h2]
theorem zath {c0 c1 c2 c3 c4 c5 : VV} {k : IntKind} : vindex Tryz.prog 25 (.agg [c0, c1, c2, c3, c4, c5]) (.lit (.int k (2 : Int))) = some (.agg [c4, c5]) := by
 have h1 : aggT Tryz.prog 24 = some true := by kernel_rfl
 have h2 : szT Tryz.prog 24 = some 2 := by kernel_rfl
 simp [vindex, Tryz.underlying25, vpart, h1, h2]
theorem zlt {H : Nat → Option VObj} {β o : Nat} {k : IntKind} {i : Int} (h : (i == 2) = true) : vindexAddr Tryz.prog H 25 (.ptr β o) (.lit (.int k i)) = if (H β).isSome = true then some (.ptr β (o + 4)) else none := by
 obtain rfl : i = 2 := by simpa using h
 have h2 : szT Tryz.prog 24 = some 2 := by kernel_rfl
 simp [vindexAddr, Tryz.underlying25, h2]
theorem zadn {H : Nat → Option VObj} {cs : List VV} {k : IntKind} {i : Int} (h : (i == 2) = true) : vindexAddr Tryz.prog H 25 (.tp cs) (.lit (.int k i)) = some (.tp (cs.drop 4)) := by
 obtain rfl : i = 2 := by simpa using h
 have h2 : szT Tryz.prog 24 = some 2 := by kernel_rfl
 simp [vindexAddr, Tryz.underlying25, h2]
theorem zyt {c0 c1 c2 c3 c4 c5 : VV} {k : IntKind} {i : Int} (h : (i == 2) = true) : vindex Tryz.prog 25 (.agg [c0, c1, c2, c3, c4, c5]) (.lit (.int k i)) = some (.agg [c4, c5]) := by
 obtain rfl : i = 2 := by simpa using h
 have h1 : aggT Tryz.prog 24 = some true := by kernel_rfl
 have h2 : szT Tryz.prog 24 = some 2 := by kernel_rfl
 simp [vindex, Tryz.underlying25, vpart, h1, h2]
theorem ld26 {c : VV} {cs : List VV} : vload Tryz.prog 26 (c :: cs) = some c := by
 have h1 : aggT Tryz.prog 26 = some false := by kernel_rfl
 simp [vload, vpart, h1]
theorem sz26 : szT Tryz.prog 26 = some 1 := by kernel_rfl
theorem len26 {H : Nat → Option VObj} {cs : List VV} {n : Nat} {f : Bool} : vlen Tryz.prog H 26 (.sl cs n f) = some (.lit (.int .i64 n)) := by simp [vlen, Tryz.underlying26, sls]
theorem lenN26 {H : Nat → Option VObj} : vlen Tryz.prog H 26 (.lit (.slice none 0 0)) = some (.lit (.int .i64 0)) := by simp [vlen, Tryz.underlying26, sls]
theorem lenR26 {H : Nat → Option VObj} {β off n w c : Nat} : vlen Tryz.prog H 26 (.ref β off n w c) = (match H β with | some (.cells _ cs) => if off ≤ cs.length then some (.lit (.int .i64 n)) else none | _ => none) := lenR Tryz.underlying26
theorem et26 : elemT Tryz.prog 26 = some 94 := by simp [elemT, Tryz.underlying26]
theorem tk26 {xs : List Gt} : (cellsL cGt xs).take (xs.length * 6) = cellsL cGt xs := zng (fun _ => rfl)
theorem zatt {c0 c1 c2 c3 c4 c5 : VV} (h : leafL [c0, c1, c2, c3, c4, c5] = true) : vbuildSlice Tryz.prog 26 1 [(0, .agg [c0, c1, c2, c3, c4, c5])] = some ([c0, c1, c2, c3, c4, c5], 6) := by
 have h2 : szT Tryz.prog 94 = some 6 := by kernel_rfl
 have h3 : vzero Tryz.prog 94 = some #[.int .i64 0, .int .i64 0, .int .i64 0, .int .i64 0, .int .i64 0, .int .i64 0] := by kernel_rfl
 simp only [zdo, zem, Bool.and_true, Bool.and_eq_true] at h
 simp [vbuildSlice, Tryz.underlying26, h2, h3, vfill, vcells, h, overwrite, vzeros]
theorem ix26 {H : Nat → Option VObj} {xs : List Gt} {x : Gt} {f : Bool} {k : IntKind} {i : Int} (h : getI xs i = some x) : vindexAddr Tryz.prog H 26 (.sl (cellsL cGt xs) xs.length f) (.lit (.int k i)) = some (.tp (cGt x ++ cellsL cGt (xs.drop (i.toNat + 1)))) :=
 ixG Tryz.underlying26 (by kernel_rfl : szT Tryz.prog 94 = some 6) (by decide) (fun _ => rfl) h
theorem ld28 {c0 c1 c2 c3 c4 c5 c6 c7 c8 c9 c10 c11 c12 : VV} {cs : List VV} : vload Tryz.prog 28 (c0 :: c1 :: c2 :: c3 :: c4 :: c5 :: c6 :: c7 :: c8 :: c9 :: c10 :: c11 :: c12 :: cs) = some (.agg [c0, c1, c2, c3, c4, c5, c6, c7, c8, c9, c10, c11, c12]) := by
 have h1 : aggT Tryz.prog 28 = some true := by kernel_rfl
 have h2 : szT Tryz.prog 28 = some 13 := by kernel_rfl
 simp [vload, vpart, h1, h2]
theorem sz28 : szT Tryz.prog 28 = some 13 := by kernel_rfl
theorem vzl28 : vzl Tryz.prog 28 = some [.lit (.int .i64 0), .lit (.int .i64 0), .lit (.int .i64 0), .lit (.int .i64 0), .lit (.int .i64 0), .lit (.int .i64 0), .lit (.int .i64 0), .lit (.int .i64 0), .lit (.int .i64 0), .lit (.int .i64 0), .lit (.int .i64 0), .lit (.int .i64 0), .lit (.slice none 0 0)] := by kernel_rfl
theorem zase {H : Nat → Option VObj} {β o : Nat} : vfieldAddr Tryz.prog H 28 (.ptr β o) 0 = if (H β).isSome = true then some (.ptr β (o + 0)) else none := by
 have h2 : szT Tryz.prog 22 = some 3 := by kernel_rfl
 simp [vfieldAddr, Tryz.underlying28, h2]
theorem zasv {H : Nat → Option VObj} {β o : Nat} : vfieldAddr Tryz.prog H 28 (.ptr β o) 1 = if (H β).isSome = true then some (.ptr β (o + 3)) else none := by
 have h2 : szT Tryz.prog 25 = some 6 := by kernel_rfl
 simp [vfieldAddr, Tryz.underlying28, h2]
theorem zatk {H : Nat → Option VObj} {β o : Nat} : vfieldAddr Tryz.prog H 28 (.ptr β o) 2 = if (H β).isSome = true then some (.ptr β (o + 9)) else none := by
 have h2 : szT Tryz.prog 24 = some 2 := by kernel_rfl
 simp [vfieldAddr, Tryz.underlying28, h2]
theorem zatg {H : Nat → Option VObj} {β o : Nat} : vfieldAddr Tryz.prog H 28 (.ptr β o) 3 = if (H β).isSome = true then some (.ptr β (o + 11)) else none := by
 have h2 : szT Tryz.prog 3 = some 1 := by kernel_rfl
 simp [vfieldAddr, Tryz.underlying28, h2]
theorem zaua {H : Nat → Option VObj} {cs : List VV} : vfieldAddr Tryz.prog H 28 (.tp cs) 4 = some (.tp (cs.drop 12)) := by
 have h2 : szT Tryz.prog 26 = some 1 := by kernel_rfl
 simp [vfieldAddr, Tryz.underlying28, h2]
theorem zatr {H : Nat → Option VObj} {β o : Nat} : vfieldAddr Tryz.prog H 28 (.ptr β o) 4 = if (H β).isSome = true then some (.ptr β (o + 12)) else none := by
 have h2 : szT Tryz.prog 26 = some 1 := by kernel_rfl
 simp [vfieldAddr, Tryz.underlying28, h2]
theorem ld29 {c : VV} {cs : List VV} : vload Tryz.prog 29 (c :: cs) = some c := by
 have h1 : aggT Tryz.prog 29 = some false := by kernel_rfl
 simp [vload, vpart, h1]
theorem sz29 : szT Tryz.prog 29 = some 1 := by kernel_rfl
theorem vzl29 : vzl Tryz.prog 29 = some [.lit (.slice none 0 0)] := by kernel_rfl
theorem len29 {H : Nat → Option VObj} {cs : List VV} {n : Nat} {f : Bool} : vlen Tryz.prog H 29 (.sl cs n f) = some (.lit (.int .i64 n)) := by simp [vlen, Tryz.underlying29, sls]
theorem lenN29 {H : Nat → Option VObj} : vlen Tryz.prog H 29 (.lit (.slice none 0 0)) = some (.lit (.int .i64 0)) := by simp [vlen, Tryz.underlying29, sls]
theorem lenR29 {H : Nat → Option VObj} {β off n w c : Nat} : vlen Tryz.prog H 29 (.ref β off n w c) = (match H β with | some (.cells _ cs) => if off ≤ cs.length then some (.lit (.int .i64 n)) else none | _ => none) := lenR Tryz.underlying29
theorem et29 : elemT Tryz.prog 29 = some 3 := by simp [elemT, Tryz.underlying29]
theorem ao29 : appOk Tryz.prog 29 = some (3, 1, 8) := by kernel_rfl
theorem tk29 {xs : List Int} : (cellsL eI xs).take (xs.length * 1) = cellsL eI xs := zng (fun _ => rfl)
theorem lf29 : ∀ x : Int, leafL (eI x) = true := fun x => by simp only [eI_eq, zaox, eB_eq, eS_eq, zapj, zem, zdo, zaaz, zaha, zyu, zty, zaib, Bool.and_self]
theorem zarf {a0 : VV} (h : leafL [a0] = true) : vbuildSlice Tryz.prog 29 1 [(0, a0)] = some ([a0], 1) := by
 have h2 : szT Tryz.prog 3 = some 1 := by kernel_rfl
 have h3 : vzero Tryz.prog 3 = some #[.int .i64 0] := by kernel_rfl
 simp only [zdo, zem, Bool.and_true, Bool.and_eq_true] at h
 simp [vbuildSlice, Tryz.underlying29, h2, h3, vfill, vcells1, h, overwrite, vzeros, List.range_succ]
theorem zasu {a0 a1 : VV} (h : leafL [a0, a1] = true) : vbuildSlice Tryz.prog 29 2 [(0, a0), (1, a1)] = some ([a0, a1], 1) := by
 have h2 : szT Tryz.prog 3 = some 1 := by kernel_rfl
 have h3 : vzero Tryz.prog 3 = some #[.int .i64 0] := by kernel_rfl
 simp only [zdo, zem, Bool.and_true, Bool.and_eq_true] at h
 simp [vbuildSlice, Tryz.underlying29, h2, h3, vfill, vcells1, h, overwrite, vzeros, List.range_succ]
theorem ix29 {H : Nat → Option VObj} {xs : List Int} {x : Int} {f : Bool} {k : IntKind} {i : Int} (h : getI xs i = some x) : vindexAddr Tryz.prog H 29 (.sl (cellsL eI xs) xs.length f) (.lit (.int k i)) = some (.tp (eI x ++ cellsL eI (xs.drop (i.toNat + 1)))) :=
 ixG Tryz.underlying29 (by kernel_rfl : szT Tryz.prog 3 = some 1) (by decide) (fun _ => rfl) h
theorem ld32 {c : VV} {cs : List VV} : vload Tryz.prog 32 (c :: cs) = some c := by
 have h1 : aggT Tryz.prog 32 = some false := by kernel_rfl
 simp [vload, vpart, h1]
theorem sz32 : szT Tryz.prog 32 = some 1 := by kernel_rfl
theorem vzl32 : vzl Tryz.prog 32 = some [.lit (.int .i64 0)] := by kernel_rfl
theorem ld40 {c : VV} {cs : List VV} : vload Tryz.prog 40 (c :: cs) = some c := by
 have h1 : aggT Tryz.prog 40 = some false := by kernel_rfl
 simp [vload, vpart, h1]
theorem len40 {H : Nat → Option VObj} {cs : List VV} {n : Nat} {f : Bool} : vlen Tryz.prog H 40 (.sl cs n f) = some (.lit (.int .i64 n)) := by simp [vlen, Tryz.underlying40, sls]
theorem lenN40 {H : Nat → Option VObj} : vlen Tryz.prog H 40 (.lit (.slice none 0 0)) = some (.lit (.int .i64 0)) := by simp [vlen, Tryz.underlying40, sls]
theorem lenR40 {H : Nat → Option VObj} {β off n w c : Nat} : vlen Tryz.prog H 40 (.ref β off n w c) = (match H β with | some (.cells _ cs) => if off ≤ cs.length then some (.lit (.int .i64 n)) else none | _ => none) := lenR Tryz.underlying40
theorem ld42 {c0 c1 c2 c3 c4 : VV} {cs : List VV} : vload Tryz.prog 42 (c0 :: c1 :: c2 :: c3 :: c4 :: cs) = some (.agg [c0, c1, c2, c3, c4]) := by
 have h1 : aggT Tryz.prog 42 = some true := by kernel_rfl
 have h2 : szT Tryz.prog 42 = some 5 := by kernel_rfl
 simp [vload, vpart, h1, h2]
theorem zati {H : Nat → Option VObj} {β o : Nat} : vfieldAddr Tryz.prog H 42 (.ptr β o) 0 = if (H β).isSome = true then some (.ptr β (o + 0)) else none := by
 have h2 : szT Tryz.prog 40 = some 1 := by kernel_rfl
 simp [vfieldAddr, Tryz.underlying42, h2]
theorem zasz {H : Nat → Option VObj} {β o : Nat} : vfieldAddr Tryz.prog H 42 (.ptr β o) 1 = if (H β).isSome = true then some (.ptr β (o + 1)) else none := by
 have h2 : szT Tryz.prog 3 = some 1 := by kernel_rfl
 simp [vfieldAddr, Tryz.underlying42, h2]
theorem zate {H : Nat → Option VObj} {β o : Nat} : vfieldAddr Tryz.prog H 42 (.ptr β o) 2 = if (H β).isSome = true then some (.ptr β (o + 2)) else none := by
 have h2 : szT Tryz.prog 22 = some 3 := by kernel_rfl
 simp [vfieldAddr, Tryz.underlying42, h2]
theorem ld89 {c0 c1 c2 c3 c4 c5 c6 c7 c8 c9 c10 c11 c12 c13 : VV} {cs : List VV} : vload Tryz.prog 89 (c0 :: c1 :: c2 :: c3 :: c4 :: c5 :: c6 :: c7 :: c8 :: c9 :: c10 :: c11 :: c12 :: c13 :: cs) = some (.agg [c0, c1, c2, c3, c4, c5, c6, c7, c8, c9, c10, c11, c12, c13]) := by
 have h1 : aggT Tryz.prog 89 = some true := by kernel_rfl
 have h2 : szT Tryz.prog 89 = some 14 := by kernel_rfl
 simp [vload, vpart, h1, h2]
theorem sz89 : szT Tryz.prog 89 = some 14 := by kernel_rfl
theorem vzl89 : vzl Tryz.prog 89 = some [.lit (.int .i64 0), .lit (.int .i64 0), .lit (.int .i64 0), .lit (.int .i64 0), .lit (.int .i64 0), .lit (.int .i64 0), .lit (.int .i64 0), .lit (.int .i64 0), .lit (.int .i64 0), .lit (.int .i64 0), .lit (.int .i64 0), .lit (.int .i64 0), .lit (.slice none 0 0), .lit (.slice none 0 0)] := by kernel_rfl
theorem zasq {H : Nat → Option VObj} {β o : Nat} : vfieldAddr Tryz.prog H 89 (.ptr β o) 0 = if (H β).isSome = true then some (.ptr β (o + 0)) else none := by
 have h2 : szT Tryz.prog 28 = some 13 := by kernel_rfl
 simp [vfieldAddr, Tryz.underlying89, h2]
theorem zarr {H : Nat → Option VObj} {β o : Nat} : vfieldAddr Tryz.prog H 89 (.ptr β o) 1 = if (H β).isSome = true then some (.ptr β (o + 13)) else none := by
 have h2 : szT Tryz.prog 29 = some 1 := by kernel_rfl
 simp [vfieldAddr, Tryz.underlying89, h2]
theorem ld94 {c0 c1 c2 c3 c4 c5 : VV} {cs : List VV} : vload Tryz.prog 94 (c0 :: c1 :: c2 :: c3 :: c4 :: c5 :: cs) = some (.agg [c0, c1, c2, c3, c4, c5]) := by
 have h1 : aggT Tryz.prog 94 = some true := by kernel_rfl
 have h2 : szT Tryz.prog 94 = some 6 := by kernel_rfl
 simp [vload, vpart, h1, h2]
theorem sz94 : szT Tryz.prog 94 = some 6 := by kernel_rfl
theorem vzl94 : vzl Tryz.prog 94 = some [.lit (.int .i64 0), .lit (.int .i64 0), .lit (.int .i64 0), .lit (.int .i64 0), .lit (.int .i64 0), .lit (.int .i64 0)] := by kernel_rfl
theorem zasl {H : Nat → Option VObj} {cs : List VV} : vfieldAddr Tryz.prog H 94 (.tp cs) 0 = some (.tp (cs.drop 0)) := by
 have h2 : szT Tryz.prog 25 = some 6 := by kernel_rfl
 simp [vfieldAddr, Tryz.underlying94, h2]
theorem zarn {H : Nat → Option VObj} {β o : Nat} : vfieldAddr Tryz.prog H 94 (.ptr β o) 0 = if (H β).isSome = true then some (.ptr β (o + 0)) else none := by
 have h2 : szT Tryz.prog 25 = some 6 := by kernel_rfl
 simp [vfieldAddr, Tryz.underlying94, h2]
theorem ld99 {c0 c1 c2 : VV} {cs : List VV} : vload Tryz.prog 99 (c0 :: c1 :: c2 :: cs) = some (.agg [c0, c1, c2]) := by
 have h1 : aggT Tryz.prog 99 = some true := by kernel_rfl
 have h2 : szT Tryz.prog 99 = some 3 := by kernel_rfl
 simp [vload, vpart, h1, h2]
theorem sz99 : szT Tryz.prog 99 = some 3 := by kernel_rfl
theorem vzl99 : vzl Tryz.prog 99 = some [.lit (.int .i64 0), .lit (.int .i64 0), .lit (.int .i64 0)] := by kernel_rfl
theorem zatu {H : Nat → Option VObj} {cs : List VV} {k : IntKind} : vindexAddr Tryz.prog H 99 (.tp cs) (.lit (.int k (0 : Int))) = some (.tp (cs.drop 0)) := by
 have h2 : szT Tryz.prog 3 = some 1 := by kernel_rfl
 simp [vindexAddr, Tryz.underlying99, h2]
theorem zatn {c0 c1 c2 : VV} {k : IntKind} : vindex Tryz.prog 99 (.agg [c0, c1, c2]) (.lit (.int k (0 : Int))) = some (c0) := by
 have h1 : aggT Tryz.prog 3 = some false := by kernel_rfl
 have h2 : szT Tryz.prog 3 = some 1 := by kernel_rfl
 simp [vindex, Tryz.underlying99, vpart, h1, h2]
theorem zass {H : Nat → Option VObj} {cs : List VV} {k : IntKind} : vindexAddr Tryz.prog H 99 (.tp cs) (.lit (.int k (1 : Int))) = some (.tp (cs.drop 1)) := by
 have h2 : szT Tryz.prog 3 = some 1 := by kernel_rfl
 simp [vindexAddr, Tryz.underlying99, h2]
theorem zasc {c0 c1 c2 : VV} {k : IntKind} : vindex Tryz.prog 99 (.agg [c0, c1, c2]) (.lit (.int k (1 : Int))) = some (c1) := by
 have h1 : aggT Tryz.prog 3 = some false := by kernel_rfl
 have h2 : szT Tryz.prog 3 = some 1 := by kernel_rfl
 simp [vindex, Tryz.underlying99, vpart, h1, h2]
theorem zatq {H : Nat → Option VObj} {cs : List VV} {k : IntKind} : vindexAddr Tryz.prog H 99 (.tp cs) (.lit (.int k (2 : Int))) = some (.tp (cs.drop 2)) := by
 have h2 : szT Tryz.prog 3 = some 1 := by kernel_rfl
 simp [vindexAddr, Tryz.underlying99, h2]
theorem zari {c0 c1 c2 : VV} {k : IntKind} : vindex Tryz.prog 99 (.agg [c0, c1, c2]) (.lit (.int k (2 : Int))) = some (c2) := by
 have h1 : aggT Tryz.prog 3 = some false := by kernel_rfl
 have h2 : szT Tryz.prog 3 = some 1 := by kernel_rfl
 simp [vindex, Tryz.underlying99, vpart, h1, h2]
theorem len106 {H : Nat → Option VObj} {cs : List VV} {n : Nat} {f : Bool} : vlen Tryz.prog H 106 (.sl cs n f) = some (.lit (.int .i64 n)) := by simp [vlen, Tryz.underlying106, sls]
theorem lenN106 {H : Nat → Option VObj} : vlen Tryz.prog H 106 (.lit (.slice none 0 0)) = some (.lit (.int .i64 0)) := by simp [vlen, Tryz.underlying106, sls]
theorem lenR106 {H : Nat → Option VObj} {β off n w c : Nat} : vlen Tryz.prog H 106 (.ref β off n w c) = (match H β with | some (.cells _ cs) => if off ≤ cs.length then some (.lit (.int .i64 n)) else none | _ => none) := lenR Tryz.underlying106
theorem et106 : elemT Tryz.prog 106 = some 29 := by simp [elemT, Tryz.underlying106]
theorem tk106 {xs : List (List Int)} : (cellsL (eSl eI) xs).take (xs.length * 1) = cellsL (eSl eI) xs := zng (fun _ => rfl)
theorem zanp {a0 : VV} (h : leafL [a0] = true) : vbuildSlice Tryz.prog 106 1 [(0, a0)] = some ([a0], 1) := by
 have h2 : szT Tryz.prog 29 = some 1 := by kernel_rfl
 have h3 : vzero Tryz.prog 29 = some #[.slice none 0 0] := by kernel_rfl
 simp only [zdo, zem, Bool.and_true, Bool.and_eq_true] at h
 simp [vbuildSlice, Tryz.underlying106, h2, h3, vfill, vcells1, h, overwrite, vzeros, List.range_succ]
theorem len121 {H : Nat → Option VObj} {cs : List VV} {n : Nat} {f : Bool} : vlen Tryz.prog H 121 (.sl cs n f) = some (.lit (.int .i64 n)) := by simp [vlen, Tryz.underlying121, sls]
theorem lenN121 {H : Nat → Option VObj} : vlen Tryz.prog H 121 (.lit (.slice none 0 0)) = some (.lit (.int .i64 0)) := by simp [vlen, Tryz.underlying121, sls]
theorem lenR121 {H : Nat → Option VObj} {β off n w c : Nat} : vlen Tryz.prog H 121 (.ref β off n w c) = (match H β with | some (.cells _ cs) => if off ≤ cs.length then some (.lit (.int .i64 n)) else none | _ => none) := lenR Tryz.underlying121
theorem ix121 {H : Nat → Option VObj} {xs : List GSpan} {x : GSpan} {f : Bool} {k : IntKind} {i : Int} (h : getI xs i = some x) : vindexAddr Tryz.prog H 121 (.sl (cellsL cGSpan xs) xs.length f) (.lit (.int k i)) = some (.tp (cGSpan x ++ cellsL cGSpan (xs.drop (i.toNat + 1)))) :=
 ixG Tryz.underlying121 (by kernel_rfl : szT Tryz.prog 24 = some 2) (by decide) (fun _ => rfl) h
theorem vzl138 : vzl Tryz.prog 138 = some [.lit (.int .i64 0), .lit (.int .i64 0)] := by kernel_rfl
theorem ld104 {c : VV} {cs : List VV} : vload Tryz.prog 104 (c :: cs) = some c := by
 have h1 : aggT Tryz.prog 104 = some false := by kernel_rfl
 simp [vload, vpart, h1]
theorem ld111 {c : VV} {cs : List VV} : vload Tryz.prog 111 (c :: cs) = some c := by
 have h1 : aggT Tryz.prog 111 = some false := by kernel_rfl
 simp [vload, vpart, h1]
theorem ld126 {c : VV} {cs : List VV} : vload Tryz.prog 126 (c :: cs) = some c := by
 have h1 : aggT Tryz.prog 126 = some false := by kernel_rfl
 simp [vload, vpart, h1]
theorem ld144 {c : VV} {cs : List VV} : vload Tryz.prog 144 (c :: cs) = some c := by
 have h1 : aggT Tryz.prog 144 = some false := by kernel_rfl
 simp [vload, vpart, h1]
theorem ld162 {c : VV} {cs : List VV} : vload Tryz.prog 162 (c :: cs) = some c := by
 have h1 : aggT Tryz.prog 162 = some false := by kernel_rfl
 simp [vload, vpart, h1]
theorem ld163 {c : VV} {cs : List VV} : vload Tryz.prog 163 (c :: cs) = some c := by
 have h1 : aggT Tryz.prog 163 = some false := by kernel_rfl
 simp [vload, vpart, h1]
theorem sz184 : szT Tryz.prog 184 = some 1 := by kernel_rfl
theorem ld184 {c : VV} {cs : List VV} : vload Tryz.prog 184 (c :: cs) = some c := by
 have h1 : aggT Tryz.prog 184 = some false := by kernel_rfl
 simp [vload, vpart, h1]
theorem vzl184 : vzl Tryz.prog 184 = some [.lit .nilFunc] := by kernel_rfl
theorem sz127 : szT Tryz.prog 127 = some 2 := by kernel_rfl
theorem vzl127 : vzl Tryz.prog 127 = some [.lit .nilFunc, .lit .nilFunc] := by kernel_rfl
theorem zaqs {H : Nat → Option VObj} {β o : Nat} {k : IntKind} : vindexAddr Tryz.prog H 127 (.ptr β o) (.lit (.int k 0)) = if (H β).isSome = true then some (.ptr β (o + 0)) else none := by
 have h2 : szT Tryz.prog 126 = some 1 := by kernel_rfl
 simp [vindexAddr, Tryz.underlying127, h2]
theorem zaqv {H : Nat → Option VObj} {β o : Nat} {k : IntKind} : vindexAddr Tryz.prog H 127 (.ptr β o) (.lit (.int k 1)) = if (H β).isSome = true then some (.ptr β (o + 1)) else none := by
 have h2 : szT Tryz.prog 126 = some 1 := by kernel_rfl
 simp [vindexAddr, Tryz.underlying127, h2]
theorem vb22 : vbuild Tryz.prog 22 [] = some (.agg [.lit (.int .i64 0), .lit (.int .i64 0), .lit (.int .i64 0)]) := by
 rw [zgg vzl22 (by kernel_rfl)]
 rfl
theorem vb24 : vbuild Tryz.prog 24 [] = some (.agg [.lit (.int .i64 0), .lit (.int .i64 0)]) := by
 rw [zgg vzl24 (by kernel_rfl)]
 rfl
theorem zajl {x0_0 x1_0 : VV} (h : leafL [x0_0, x1_0] = true) : vbuild Tryz.prog 24 [(0, x0_0), (1, x1_0)] = some (.agg [x0_0, x1_0]) := by
 have p0 : placeT Tryz.prog 24 0 = some (0, 1) := by kernel_rfl
 have p1 : placeT Tryz.prog 24 1 = some (1, 1) := by kernel_rfl
 simp only [zdo, zem, Bool.and_true, Bool.and_eq_true] at h
 rw [zgg vzl24 (by kernel_rfl)]
 simp [vfill, p0, p1, vcells1, h, overwrite]
theorem vb25 : vbuild Tryz.prog 25 [] = some (.agg [.lit (.int .i64 0), .lit (.int .i64 0), .lit (.int .i64 0), .lit (.int .i64 0), .lit (.int .i64 0), .lit (.int .i64 0)]) := by
 rw [zgg vzl25 (by kernel_rfl)]
 rfl
theorem zalu {x0_0 x0_1 x0_2 x0_3 x0_4 x0_5 x0_6 x0_7 x0_8 x0_9 x0_10 x0_11 x0_12 x1_0 : VV} (h : leafL [x0_0, x0_1, x0_2, x0_3, x0_4, x0_5, x0_6, x0_7, x0_8, x0_9, x0_10, x0_11, x0_12, x1_0] = true) : vbuild Tryz.prog 89 [(0, .agg [x0_0, x0_1, x0_2, x0_3, x0_4, x0_5, x0_6, x0_7, x0_8, x0_9, x0_10, x0_11, x0_12]), (1, x1_0)] = some (.agg [x0_0, x0_1, x0_2, x0_3, x0_4, x0_5, x0_6, x0_7, x0_8, x0_9, x0_10, x0_11, x0_12, x1_0]) := by
 have p0 : placeT Tryz.prog 89 0 = some (0, 13) := by kernel_rfl
 have p1 : placeT Tryz.prog 89 1 = some (13, 1) := by kernel_rfl
 simp only [zdo, zem, Bool.and_true, Bool.and_eq_true] at h
 have q0 : vcells (.agg [x0_0, x0_1, x0_2, x0_3, x0_4, x0_5, x0_6, x0_7, x0_8, x0_9, x0_10, x0_11, x0_12]) = some [x0_0, x0_1, x0_2, x0_3, x0_4, x0_5, x0_6, x0_7, x0_8, x0_9, x0_10, x0_11, x0_12] := by rw [zoj]; simp [zdo, zem, h]
 rw [zgg vzl89 (by kernel_rfl)]
 simp [vfill, p0, p1, vcells1, h, overwrite, q0]
theorem zarl {x0_0 x0_1 x0_2 x0_3 x0_4 x0_5 : VV} (h : leafL [x0_0, x0_1, x0_2, x0_3, x0_4, x0_5] = true) : vbuild Tryz.prog 94 [(0, .agg [x0_0, x0_1, x0_2, x0_3, x0_4, x0_5])] = some (.agg [x0_0, x0_1, x0_2, x0_3, x0_4, x0_5]) := by
 have p0 : placeT Tryz.prog 94 0 = some (0, 6) := by kernel_rfl
 simp only [zdo, zem, Bool.and_true, Bool.and_eq_true] at h
 have q0 : vcells (.agg [x0_0, x0_1, x0_2, x0_3, x0_4, x0_5]) = some [x0_0, x0_1, x0_2, x0_3, x0_4, x0_5] := by rw [zoj]; simp [zdo, zem, h]
 rw [zgg vzl94 (by kernel_rfl)]
 simp [vfill, p0, vcells1, h, overwrite, q0]
theorem vb99 : vbuild Tryz.prog 99 [] = some (.agg [.lit (.int .i64 0), .lit (.int .i64 0), .lit (.int .i64 0)]) := by
 rw [zgg vzl99 (by kernel_rfl)]
 rfl
theorem zabn {x0_0 x1_0 x2_0 : VV} (h : leafL [x0_0, x1_0, x2_0] = true) : vbuild Tryz.prog 99 [(0, x0_0), (1, x1_0), (2, x2_0)] = some (.agg [x0_0, x1_0, x2_0]) := by
 have p0 : placeT Tryz.prog 99 0 = some (0, 1) := by kernel_rfl
 have p1 : placeT Tryz.prog 99 1 = some (1, 1) := by kernel_rfl
 have p2 : placeT Tryz.prog 99 2 = some (2, 1) := by kernel_rfl
 simp only [zdo, zem, Bool.and_true, Bool.and_eq_true] at h
 rw [zgg vzl99 (by kernel_rfl)]
 simp [vfill, p0, p1, p2, vcells1, h, overwrite]
theorem zagy {x0_0 x1_0 : VV} (h : leafL [x0_0, x1_0] = true) : vbuild Tryz.prog 127 [(0, x0_0), (1, x1_0)] = some (.agg [x0_0, x1_0]) := by
 have p0 : placeT Tryz.prog 127 0 = some (0, 1) := by kernel_rfl
 have p1 : placeT Tryz.prog 127 1 = some (1, 1) := by kernel_rfl
 simp only [zdo, zem, Bool.and_true, Bool.and_eq_true] at h
 rw [zgg vzl127 (by kernel_rfl)]
 simp [vfill, p0, p1, vcells1, h, overwrite]
theorem vb132 : vbuild Tryz.prog 132 [] = some (.agg []) := by kernel_rfl
theorem sz132 : szT Tryz.prog 132 = some 0 := by kernel_rfl
theorem vzl132 : vzl Tryz.prog 132 = some [] := by kernel_rfl
theorem zagq {x0_0 x1_0 : VV} (h : leafL [x0_0, x1_0] = true) : vbuild Tryz.prog 138 [(0, x0_0), (1, x1_0)] = some (.agg [x0_0, x1_0]) := by
 have p0 : placeT Tryz.prog 138 0 = some (0, 1) := by kernel_rfl
 have p1 : placeT Tryz.prog 138 1 = some (1, 1) := by kernel_rfl
 simp only [zdo, zem, Bool.and_true, Bool.and_eq_true] at h
 rw [zgg vzl138 (by kernel_rfl)]
 simp [vfill, p0, p1, vcells1, h, overwrite]
theorem mi132 {x : VV} : mkIfcV Tryz.prog 132 x = some (.ifc 132 x) := by simp [mkIfcV, Tryz.underlying132]
theorem tz132 : ((Tryz.prog.info? 132).bind (·.zero)).map (fun z => VV.tup [ofVal2 z, .lit (.bool false)]) = some (.tup [.agg [], .lit (.bool false)]) := by kernel_rfl
theorem tn132 : vtypeAssert Tryz.prog (.lit .nilIface) 132 true = some (.tup [.agg [], .lit (.bool false)]) := by
 simp only [vtypeAssert, Tryz.underlying132, if_true]
 exact tz132
theorem tt132 {x : VV} : vtypeAssert Tryz.prog (.ifc 132 x) 132 true = some (.tup [x, .lit (.bool true)]) := by
 simp [vtypeAssert, Tryz.underlying132]
theorem be4 {H : Nat → Option VObj} {x y : Operand} {a b : Bool} : binV Tryz.prog H .eql 4 x y (.lit (.bool a)) (.lit (.bool b)) = some (.lit (.bool (a == b))) := zapi Tryz.underlying4
theorem bn4 {H : Nat → Option VObj} {x y : Operand} {a b : Bool} : binV Tryz.prog H .neq 4 x y (.lit (.bool a)) (.lit (.bool b)) = some (.lit (.bool (a != b))) := zand Tryz.underlying4
theorem sq25 {H : Nat → Option VObj} {x y : Operand} {a0 b0 : Int} {a1 b1 : Int} {a2 b2 : Int} {a3 b3 : Int} {a4 b4 : Int} {a5 b5 : Int} : binV Tryz.prog H .eql 25 x y (.agg [.lit (.int .i64 a0), .lit (.int .i64 a1), .lit (.int .i64 a2), .lit (.int .i64 a3), .lit (.int .i64 a4), .lit (.int .i64 a5)]) (.agg [.lit (.int .i64 b0), .lit (.int .i64 b1), .lit (.int .i64 b2), .lit (.int .i64 b3), .lit (.int .i64 b4), .lit (.int .i64 b5)]) = some (.lit (.bool (a0 == b0 && (a1 == b1 && (a2 == b2 && (a3 == b3 && (a4 == b4 && (a5 == b5)))))))) ∧ binV Tryz.prog H .neq 25 x y (.agg [.lit (.int .i64 a0), .lit (.int .i64 a1), .lit (.int .i64 a2), .lit (.int .i64 a3), .lit (.int .i64 a4), .lit (.int .i64 a5)]) (.agg [.lit (.int .i64 b0), .lit (.int .i64 b1), .lit (.int .i64 b2), .lit (.int .i64 b3), .lit (.int .i64 b4), .lit (.int .i64 b5)]) = some (.lit (.bool (!(a0 == b0 && (a1 == b1 && (a2 == b2 && (a3 == b3 && (a4 == b4 && (a5 == b5))))))))) := by
 have p3 : aggT Tryz.prog 3 = some false := by kernel_rfl
 have z3 : szT Tryz.prog 3 = some 1 := by kernel_rfl
 have p24 : aggT Tryz.prog 24 = some true := by kernel_rfl
 have z24 : szT Tryz.prog 24 = some 2 := by kernel_rfl
 have p25 : aggT Tryz.prog 25 = some true := by kernel_rfl
 have z25 : szT Tryz.prog 25 = some 6 := by kernel_rfl
 have o24 : Tryz.prog.stoodInHeld 24 = false := by kernel_rfl
 refine binA (xs := [.int .i64 a0, .int .i64 a1, .int .i64 a2, .int .i64 a3, .int .i64 a4, .int .i64 a5]) (ys := [.int .i64 b0, .int .i64 b1, .int .i64 b2, .int .i64 b3, .int .i64 b4, .int .i64 b5]) (by simp [VV.val?, valL?]) (by simp [VV.val?, valL?]) Tryz.underlying25 (by kernel_rfl) ?_
 simp [eqD, eqAs, eqFs, partO, ok1, eq1, List.range', Tryz.underlying3, p3, z3, Tryz.underlying24, p24, z24, Tryz.underlying25, p25, z25, o24, Bool.and_assoc]
theorem se25 {H : Nat → Option VObj} {x y : Operand} {a0 b0 : Int} {a1 b1 : Int} {a2 b2 : Int} {a3 b3 : Int} {a4 b4 : Int} {a5 b5 : Int} : binV Tryz.prog H .eql 25 x y (.agg [.lit (.int .i64 a0), .lit (.int .i64 a1), .lit (.int .i64 a2), .lit (.int .i64 a3), .lit (.int .i64 a4), .lit (.int .i64 a5)]) (.agg [.lit (.int .i64 b0), .lit (.int .i64 b1), .lit (.int .i64 b2), .lit (.int .i64 b3), .lit (.int .i64 b4), .lit (.int .i64 b5)]) = some (.lit (.bool (a0 == b0 && (a1 == b1 && (a2 == b2 && (a3 == b3 && (a4 == b4 && (a5 == b5)))))))) := sq25.1
theorem sn25 {H : Nat → Option VObj} {x y : Operand} {a0 b0 : Int} {a1 b1 : Int} {a2 b2 : Int} {a3 b3 : Int} {a4 b4 : Int} {a5 b5 : Int} : binV Tryz.prog H .neq 25 x y (.agg [.lit (.int .i64 a0), .lit (.int .i64 a1), .lit (.int .i64 a2), .lit (.int .i64 a3), .lit (.int .i64 a4), .lit (.int .i64 a5)]) (.agg [.lit (.int .i64 b0), .lit (.int .i64 b1), .lit (.int .i64 b2), .lit (.int .i64 b3), .lit (.int .i64 b4), .lit (.int .i64 b5)]) = some (.lit (.bool (!(a0 == b0 && (a1 == b1 && (a2 == b2 && (a3 == b3 && (a4 == b4 && (a5 == b5))))))))) := sq25.2
theorem zans : (VV.lit Value.nilFunc).leaf = true := rfl
theorem zaoz : (VV.lit Value.nilIface).leaf = true := rfl
def tyf := (And.intro (And.intro (And.intro (And.intro (And.intro (And.intro (And.intro @zhy @zhq) (And.intro @zfk @zhh)) (And.intro (And.intro @zfp @zgt) (And.intro @zgr (And.intro @zpd @ld3)))) (And.intro (And.intro (And.intro @sz3 @vzl3) (And.intro @ld4 @sz4)) (And.intro (And.intro @vzl4 @ld22) (And.intro @sz22 (And.intro @vzl22 @zatl))))) (And.intro (And.intro (And.intro (And.intro @zats @zarv) (And.intro @zasb @zasw)) (And.intro (And.intro @zasd @ld24) (And.intro @sz24 (And.intro @vzl24 @zarz)))) (And.intro (And.intro (And.intro @zasp @zarx) (And.intro @zaso (And.intro @zasg @zatz))) (And.intro (And.intro @ld25 @sz25) (And.intro @vzl25 (And.intro @zarh @zasi)))))) (And.intro (And.intro (And.intro (And.intro (And.intro @zauc @zarb) (And.intro @zast @zaty)) (And.intro (And.intro @zasa @zatm) (And.intro @zath (And.intro @ld26 @sz26)))) (And.intro (And.intro (And.intro @len26 @lenN26) (And.intro @lenR26 (And.intro @et26 @tk26))) (And.intro (And.intro @zatt @ld28) (And.intro @sz28 (And.intro @vzl28 @zase))))) (And.intro (And.intro (And.intro (And.intro @zasv @zatk) (And.intro @zatg @zaua)) (And.intro (And.intro @zatr @ld29) (And.intro @sz29 (And.intro @vzl29 @len29)))) (And.intro (And.intro (And.intro @lenN29 @lenR29) (And.intro @et29 (And.intro @tk29 @zarf))) (And.intro (And.intro @zasu @ld32) (And.intro @sz32 (And.intro @vzl32 @ld40))))))) (And.intro (And.intro (And.intro (And.intro (And.intro (And.intro @len40 @lenN40) (And.intro @lenR40 @ld42)) (And.intro (And.intro @zati @zasz) (And.intro @zate (And.intro @ld89 @sz89)))) (And.intro (And.intro (And.intro @vzl89 @zasq) (And.intro @zarr (And.intro @ld94 @sz94))) (And.intro (And.intro @vzl94 @zasl) (And.intro @zarn (And.intro @ld99 @sz99))))) (And.intro (And.intro (And.intro (And.intro @vzl99 @zatu) (And.intro @zatn @zass)) (And.intro (And.intro @zasc @zatq) (And.intro @zari (And.intro @len106 @lenN106)))) (And.intro (And.intro (And.intro @lenR106 @et106) (And.intro @tk106 (And.intro @zanp @len121))) (And.intro (And.intro @lenN121 @lenR121) (And.intro @ld104 (And.intro @ld111 @ld126)))))) (And.intro (And.intro (And.intro (And.intro (And.intro @ld144 @ld162) (And.intro @ld163 @sz184)) (And.intro (And.intro @ld184 @vzl184) (And.intro @sz127 (And.intro @vzl127 @zaqs)))) (And.intro (And.intro (And.intro @zaqv @vb22) (And.intro @vb24 (And.intro @zajl @vb25))) (And.intro (And.intro @zalu @zarl) (And.intro @vb99 (And.intro @zabn @zagy))))) (And.intro (And.intro (And.intro (And.intro @vb132 @sz132) (And.intro @vzl132 @zagq)) (And.intro (And.intro @mi132 @tn132) (And.intro @tt132 (And.intro @be4 @bn4)))) (And.intro (And.intro (And.intro @se25 @sn25) (And.intro @zans (And.intro @zaoz @zzn))) (And.intro (And.intro @eI_eq @zaox) (And.intro @eB_eq (And.intro @eS_eq @zapj))))))))
def tynrm := (And.intro (And.intro (And.intro @zam.norm @zam.normL) (And.intro @zam.shown (And.intro @zbf.normL @zbf.showL))) (And.intro (And.intro @zbk.norm @zdy.norm) (And.intro @zdy.shown (And.intro @zuy.normL @zuy.showL))))
def tytre := (And.intro (And.intro @zam.treeL @zbf.treeL) (And.intro @zbk.tree (And.intro @zdy.tree @zuy.treeL)))
end Go.V
namespace Go.V
open Go Go.Proofs
theorem ktA {P : Program} {G : Glob} {d : Option Tmp} {γ : Nat} {tm : Nat → VV} {H : Nat → Option VObj} {nx : Nat} {df : List VDef} {K : St → Prop} {Qp : VV → St → Prop} {f : FuncId} {args args0 : List VV} {x : VV} (hp : VPure P G f args0 (.tree x)) (h : fin d γ tm H nx df K x .none) (hn : normL args = args0 := by first | (simp only [nrm, tynrm] <;> rfl) | rfl) (ht : treeL args = true := by simp only [tre, tytre, Bool.and_self]) : callK P G f args ⟨tm, H, nx, df⟩ d γ K Qp := ktree hn ht hp h
theorem dktA {P : Program} {G : Glob} {d : Option Tmp} {γ : Nat} {tm : Nat → VV} {H : Nat → Option VObj} {nx : Nat} {df : List VDef} {K : List Nat → List Nat → St → Prop} {f : FuncId} {args args0 : List VV} {x : VV} (hp : VPure P G f args0 (.tree x)) (h : fin d γ tm H nx df (K [] []) x .none) (hn : normL args = args0 := by first | (simp only [nrm, tynrm] <;> rfl) | rfl) (ht : treeL args = true := by simp only [tre, tytre, Bool.and_self]) : dcallK P G f args tm H nx df d γ K := dktree hn ht hp h
theorem optI {α β : Type} {K : Option β → Prop} {X : Option α} {F : α → Option β} (h : K (Option.bind X F)) (kN : ¬ K none) : ∃ r, X = some r ∧ K (F r) := by
  cases X with
  | none => exact absurd h kN
  | some r => exact ⟨r, rfl, h⟩
end Go.V
end
section
namespace Go.V
open Go
def Dec (P : Program) (n : Nat) (t : TypeId) {α : Type} (enc : α → List VV) (R : α → Prop) : Prop := ∀ xs, ShapeT P n t xs → ∃ x : α, R x ∧ normL xs = enc x
theorem zaos {P : Program} {n : Nat} {t : TypeId} (hu : P.underlying t = some (.int .i64)) : Dec P (n + 1) t eI (fun _ => True) := by
 intro xs h
 simp only [ShapeT, hu] at h
 obtain ⟨i, _, rfl⟩ := h
 exact ⟨i, trivial, by simp only [zgz, zie, zya, eI]⟩
theorem zacd {P : Program} {n : Nat} {t : TypeId} {α : Type} {enc : α → List VV} {R : α → Prop} (h : Dec P n t enc R) : ∀ yss : List (List VV), (∀ ys ∈ yss, ShapeT P n t ys) → ∃ l : List α, l.length = yss.length ∧ (∀ x ∈ l, R x) ∧ normL yss.flatten = cellsL enc l
 | [], _ => ⟨[], rfl, fun _ hx => (by cases hx), rfl⟩
 | ys :: yss, hs => by
  obtain ⟨x, hx, e⟩ := h ys (hs ys (List.mem_cons_self ..))
  obtain ⟨l, h1, h2, h3⟩ := zacd h yss (fun y hy => hs y (List.mem_cons_of_mem _ hy))
  refine ⟨x :: l, by simp [h1], fun y hy => ?_, by rw [List.flatten_cons, zeq, e, h3, zge]⟩
  rcases List.mem_cons.1 hy with rfl | hy
  ·exact hx
  ·exact h2 y hy
theorem zwt {P : Program} {n : Nat} {t e : TypeId} {α : Type} {enc : α → List VV} {R : α → Prop} (hu : P.underlying t = some (.slice e)) (h : Dec P n e enc R) : Dec P (n + 1) t (fun l : List α => [.sl (cellsL enc l) l.length false]) (fun l => lenOk l = true ∧ ∀ x ∈ l, R x) := by
 intro xs hs
 simp only [ShapeT, hu] at hs
 rcases hs with rfl | ⟨yss, hl, hall, rfl⟩
 ·exact ⟨[], ⟨rfl, fun _ hx => (by cases hx)⟩, by simp only [zgz, zie, zyf]; rfl⟩
 ·obtain ⟨l, h1, h2, h3⟩ := zacd h yss hall
  refine ⟨l, ⟨?_, h2⟩, by simp only [zgz, zie, zaaq, h3, h1]⟩
  have : maxLen = 9223372036854775807 := by decide
  unfold lenOk
  exact decide_eq_true (by omega)
theorem zaep {P : Program} {n : Nat} {t : TypeId} {fs : Array Field} {xs : List VV} (hu : P.underlying t = some (.struct fs)) (h : ShapeT P (n + 1) t xs) : ∃ yss, FieldsS (ShapeT P n) fs.toList yss ∧ xs = yss.flatten := by
 simp only [ShapeT, hu] at h
 exact h
def TypesS (S : TypeId → List VV → Prop) : List TypeId → List (List VV) → Prop
 | [], [] => True
 | t :: ts, ys :: yss => S t ys ∧ TypesS S ts yss
 | _, _ => False
theorem zacs {S : TypeId → List VV → Prop} : ∀ (fs : List Field) (yss : List (List VV)), FieldsS S fs yss → TypesS S (fs.map Field.type) yss
 | [], [], _ => trivial
 | f :: fs, ys :: yss, ⟨h1, h2⟩ => ⟨h1, zacs fs yss h2⟩
 | [], _ :: _, h => h
 | _ :: _, [], h => h
theorem znw {P : Program} {n : Nat} {t : TypeId} {fs : Array Field} {ts : List TypeId} {xs : List VV} (hu : P.underlying t = some (.struct fs)) (ht : fs.toList.map Field.type = ts) (h : ShapeT P (n + 1) t xs) : ∃ yss, TypesS (ShapeT P n) ts yss ∧ xs = yss.flatten := by
 obtain ⟨yss, h1, h2⟩ := zaep hu h
 exact ⟨yss, ht ▸ zacs _ _ h1, h2⟩
theorem zwq {S : TypeId → List VV → Prop} {e : TypeId} : ∀ (yss : List (List VV)), (∀ ys ∈ yss, S e ys) → TypesS S (List.replicate yss.length e) yss
 | [], _ => trivial
 | ys :: yss, h => ⟨h ys (List.mem_cons_self ..), zwq yss fun z hz => h z (List.mem_cons_of_mem _ hz)⟩
theorem zxt {P : Program} {n : Nat} {t e : TypeId} {m : Nat} {ts : List TypeId} {xs : List VV} (hu : P.underlying t = some (.array m e)) (ht : List.replicate m e = ts) (h : ShapeT P (n + 1) t xs) : ∃ yss, TypesS (ShapeT P n) ts yss ∧ xs = yss.flatten := by
 simp only [ShapeT, hu] at h
 obtain ⟨yss, h1, h2, h3⟩ := h
 refine ⟨yss, ?_, h3⟩
 rw [← ht, ← h1]
 exact zwq yss h2
theorem zsz {P : Program} {n : Nat} {t : TypeId} {ts : List TypeId} {xs : List VV} (h : ArgsS P n (t :: ts) xs) : ∃ x xs', xs = x :: xs' ∧ ArgS P n t x ∧ ArgsS P n ts xs' := by
 match xs, h with
 | x :: xs', h => exact ⟨x, xs', rfl, h.1, h.2⟩
theorem zahw {P : Program} {n : Nat} {xs : List VV} (h : ArgsS P n [] xs) : xs = [] := by
 match xs, h with
 | [], _ => rfl
theorem zads {P : Program} {n : Nat} {t : TypeId} {fs : Array Field} {x : VV} {α : Type} {enc : α → List VV} {R : α → Prop} (hu : P.underlying t = some (.struct fs)) (hd : Dec P n t enc R) (h : ArgS P n t x) : ∃ s, R s ∧ normV x = .agg (enc s) := by
 obtain ⟨ys, h1, h2⟩ := h
 rw [hu] at h2
 obtain rfl : x = .agg ys := h2
 obtain ⟨s, hs, e⟩ := hd ys h1
 exact ⟨s, hs, by rw [zxv, e]⟩
theorem zakx {P : Program} {n : Nat} {t : TypeId} {d : TypeDesc} {x : VV} {α : Type} {enc : α → List VV} {R : α → Prop} (hu : P.underlying t = some d) (hn : (∀ fs, d ≠ .struct fs) ∧ ∀ m e, d ≠ .array m e) (hd : Dec P n t enc R) (h : ArgS P n t x) : ∃ s, R s ∧ [normV x] = enc s := by
 obtain ⟨ys, h1, h2⟩ := h
 rw [hu] at h2
 have h3 : ys = [x] := by
  cases d <;> first | exact h2 | exact absurd rfl (hn.1 _) | exact absurd rfl (hn.2 _ _)
 subst h3
 obtain ⟨s, hs, e⟩ := hd _ h1
 exact ⟨s, hs, by rw [← e, zgz, zie]⟩
end Go.V
end
section
set_option maxRecDepth 100000
namespace Go.V
open Go Go.Proofs
def zme (x : Gs) : Prop := lenOk x.Tins = true
section
variable {P : Program} (hu3 : P.underlying 3 = some (.int .i64)) (hu22 : P.underlying 22 = some (.array 3 3)) {f24 : Array Field} (hu24 : P.underlying 24 = some (.struct f24)) (ht24 : f24.toList.map Field.type = [3, 3]) (hu25 : P.underlying 25 = some (.array 3 24)) {f94 : Array Field} (hu94 : P.underlying 94 = some (.struct f94)) (ht94 : f94.toList.map Field.type = [25]) (hu26 : P.underlying 26 = some (.slice 94)) {f28 : Array Field} (hu28 : P.underlying 28 = some (.struct f28)) (ht28 : f28.toList.map Field.type = [22, 25, 24, 3, 26]) (hu29 : P.underlying 29 = some (.slice 3))
include hu3 hu22 hu24 ht24 hu25 hu94 ht94 hu26 hu28 ht28 hu29
theorem gd_3 {n : Nat} : Dec P (n + 1) 3 eI (fun _ => True) := zaos hu3
theorem gd_22 {n : Nat} : Dec P (n + 2) 22 cGi (fun _ => True) := by
 intro xs h
 obtain ⟨yss, hf, rfl⟩ := zxt (n := n + 1) (ts := [3, 3, 3]) hu22 rfl h
 match yss, hf with
 | [y0, y1, y2], ⟨h0, h1, h2, _⟩ =>
  obtain ⟨x0, r0, e0⟩ := gd_3 hu3 hu22 hu24 ht24 hu25 hu94 ht94 hu26 hu28 ht28 hu29 (n := n + 0) _ h0
  obtain ⟨x1, r1, e1⟩ := gd_3 hu3 hu22 hu24 ht24 hu25 hu94 ht94 hu26 hu28 ht28 hu29 (n := n + 0) _ h1
  obtain ⟨x2, r2, e2⟩ := gd_3 hu3 hu22 hu24 ht24 hu25 hu94 ht94 hu26 hu28 ht28 hu29 (n := n + 0) _ h2
  exact ⟨⟨x0, x1, x2⟩, trivial, by simp only [List.flatten_cons, List.flatten_nil, List.append_nil, zeq, e0, e1, e2, eI, eU8, eB, eS, eSl, zhy, List.cons_append, List.nil_append]⟩
theorem gd_24 {n : Nat} : Dec P (n + 2) 24 cGSpan (fun _ => True) := by
 intro xs h
 obtain ⟨yss, hf, rfl⟩ := znw (n := n + 1) (ts := [3, 3]) hu24 ht24 h
 match yss, hf with
 | [y0, y1], ⟨h0, h1, _⟩ =>
  obtain ⟨x0, r0, e0⟩ := gd_3 hu3 hu22 hu24 ht24 hu25 hu94 ht94 hu26 hu28 ht28 hu29 (n := n + 0) _ h0
  obtain ⟨x1, r1, e1⟩ := gd_3 hu3 hu22 hu24 ht24 hu25 hu94 ht94 hu26 hu28 ht28 hu29 (n := n + 0) _ h1
  exact ⟨⟨x0, x1⟩, trivial, by simp only [List.flatten_cons, List.flatten_nil, List.append_nil, zeq, e0, e1, eI, eU8, eB, eS, eSl, zhq, List.cons_append, List.nil_append]⟩
theorem gd_25 {n : Nat} : Dec P (n + 3) 25 cGa (fun _ => True) := by
 intro xs h
 obtain ⟨yss, hf, rfl⟩ := zxt (n := n + 2) (ts := [24, 24, 24]) hu25 rfl h
 match yss, hf with
 | [y0, y1, y2], ⟨h0, h1, h2, _⟩ =>
  obtain ⟨x0, r0, e0⟩ := gd_24 hu3 hu22 hu24 ht24 hu25 hu94 ht94 hu26 hu28 ht28 hu29 (n := n + 0) _ h0
  obtain ⟨x1, r1, e1⟩ := gd_24 hu3 hu22 hu24 ht24 hu25 hu94 ht94 hu26 hu28 ht28 hu29 (n := n + 0) _ h1
  obtain ⟨x2, r2, e2⟩ := gd_24 hu3 hu22 hu24 ht24 hu25 hu94 ht94 hu26 hu28 ht28 hu29 (n := n + 0) _ h2
  exact ⟨⟨x0, x1, x2⟩, trivial, by simp only [List.flatten_cons, List.flatten_nil, List.append_nil, zeq, e0, e1, e2, eI, eU8, eB, eS, eSl, zfk, zhq, List.cons_append, List.nil_append]⟩
theorem gd_94 {n : Nat} : Dec P (n + 4) 94 cGt (fun _ => True) := by
 intro xs h
 obtain ⟨yss, hf, rfl⟩ := znw (n := n + 3) (ts := [25]) hu94 ht94 h
 match yss, hf with
 | [y0], ⟨h0, _⟩ =>
  obtain ⟨x0, r0, e0⟩ := gd_25 hu3 hu22 hu24 ht24 hu25 hu94 ht94 hu26 hu28 ht28 hu29 (n := n + 0) _ h0
  exact ⟨⟨x0⟩, trivial, by simp only [List.flatten_cons, List.flatten_nil, List.append_nil, zeq, e0, eI, eU8, eB, eS, eSl, zfk, zhq, zhh, List.cons_append, List.nil_append]⟩
theorem gd_26 {n : Nat} : Dec P (n + 5) 26 (eSl cGt) (fun l => lenOk l = true ∧ ∀ x ∈ l, True) := zwt hu26 (gd_94 hu3 hu22 hu24 ht24 hu25 hu94 ht94 hu26 hu28 ht28 hu29 (n := n))
theorem gd_28 {n : Nat} : Dec P (n + 6) 28 cGs (zme) := by
 intro xs h
 obtain ⟨yss, hf, rfl⟩ := znw (n := n + 5) (ts := [22, 25, 24, 3, 26]) hu28 ht28 h
 match yss, hf with
 | [y0, y1, y2, y3, y4], ⟨h0, h1, h2, h3, h4, _⟩ =>
  obtain ⟨x0, r0, e0⟩ := gd_22 hu3 hu22 hu24 ht24 hu25 hu94 ht94 hu26 hu28 ht28 hu29 (n := n + 3) _ h0
  obtain ⟨x1, r1, e1⟩ := gd_25 hu3 hu22 hu24 ht24 hu25 hu94 ht94 hu26 hu28 ht28 hu29 (n := n + 2) _ h1
  obtain ⟨x2, r2, e2⟩ := gd_24 hu3 hu22 hu24 ht24 hu25 hu94 ht94 hu26 hu28 ht28 hu29 (n := n + 3) _ h2
  obtain ⟨x3, r3, e3⟩ := gd_3 hu3 hu22 hu24 ht24 hu25 hu94 ht94 hu26 hu28 ht28 hu29 (n := n + 4) _ h3
  obtain ⟨x4, r4, e4⟩ := gd_26 hu3 hu22 hu24 ht24 hu25 hu94 ht94 hu26 hu28 ht28 hu29 (n := n + 0) _ h4
  exact ⟨⟨x0, x1, x2, x3, x4⟩, r4.1, by simp only [List.flatten_cons, List.flatten_nil, List.append_nil, zeq, e0, e1, e2, e3, e4, eI, eU8, eB, eS, eSl, zfk, zhy, zhq, zfp, List.cons_append, List.nil_append]⟩
theorem gd_29 {n : Nat} : Dec P (n + 2) 29 (eSl eI) (fun l => lenOk l = true ∧ ∀ x ∈ l, True) := zwt hu29 (gd_3 hu3 hu22 hu24 ht24 hu25 hu94 ht94 hu26 hu28 ht28 hu29 (n := n))
end
theorem zasm {n : Nat} : Dec Tryz.prog (n + 6) 28 cGs (zme) := gd_28 Tryz.underlying3 Tryz.underlying22 Tryz.underlying24 (by kernel_rfl) Tryz.underlying25 Tryz.underlying94 (by kernel_rfl) Tryz.underlying26 Tryz.underlying28 (by kernel_rfl) Tryz.underlying29
theorem zary {n : Nat} : Dec Tryz.prog (n + 2) 29 (eSl eI) (fun l => lenOk l = true ∧ ∀ x ∈ l, True) := gd_29 Tryz.underlying3 Tryz.underlying22 Tryz.underlying24 (by kernel_rfl) Tryz.underlying25 Tryz.underlying94 (by kernel_rfl) Tryz.underlying26 Tryz.underlying28 (by kernel_rfl) Tryz.underlying29
end Go.V
end
section
namespace Go.V
open Go
def goB (b : Bool) : Option (LOut Bool Unit) := cond b (some (.go ())) (some (.ret false))
theorem zol (a b : Bool) : goB (a && b) = cond a (goB b) (some (.ret false)) := by cases a <;> rfl
theorem csome (a b : Bool) : cond a (some b) (some false) = some (a && b) := by cases a <;> rfl
theorem zlf {X : Type} (b : Bool) (kr : Bool → Option X) (kg : Unit → Option X) (kb : Nat → Unit → Option X) : lbind (goB b) kr kg kb = cond b (kg ()) (kr false) := by cases b <;> rfl
def inB (a b n : Int) : Bool := decide (a ≤ n) && decide (n ≤ b)
theorem zkd {a b n : Int} : inB a b n = true ↔ a ≤ n ∧ n ≤ b := by simp [inB]
theorem zcj {n : Int} (h1 : -9223372036854775808 ≤ n) (h2 : n < 9223372036854775808) : IntKind.i64.wrap n = n := IntWalk.i64_in _ (by omega)
theorem ziy {α : Type} {xs : List α} (h : xs.length < 9223372036854775808) : lenOk xs = true := by simpa [lenOk] using h
theorem zahv {α : Type} {xs : List α} {i : Int} (h0 : 0 ≤ i) (h1 : i < xs.length) : ∃ x, getI xs i = some x ∧ x ∈ xs := by
 unfold getI
 rw [if_pos h0]
 have h : i.toNat < xs.length := by omega
 exact ⟨xs[i.toNat], List.getElem?_eq_getElem h, List.getElem_mem h⟩
theorem zapb {α : Type} {xs : List α} {i : Int} {x : α} (h : getI xs i = some x) : 0 ≤ i ∧ i < xs.length := ⟨(zle h).1, (zle h).2.1⟩
theorem mulR {a b A B : Int} (h1 : 0 ≤ a) (h2 : a ≤ A) (h3 : 0 ≤ b) (h4 : b ≤ B) : 0 ≤ a * b ∧ a * b ≤ A * B :=
 ⟨Int.mul_nonneg h1 h3, Int.mul_le_mul h2 h4 h3 (Int.le_trans h1 h2)⟩
end Go.V
end
section
namespace Go.V
def ea : Option Bool → Bool | none => true | some b => b
def eo : Option Bool → Bool | none => false | some b => b
end Go.V
end
section
namespace Go.V
open Go Go.Proofs
def zdr (x0_least : Int) (x1_n : Int) (x2_most : Int) : Option (Bool) := cond (decide (x0_least ≤ x1_n)) (some (decide (x1_n ≤ x2_most))) (some false)
theorem zew (x0_least : Int) (x1_n : Int) (x2_most : Int) (R : Bool) (h : zdr x0_least x1_n x2_most = some R) : VPure Tryz.prog G0 92 [.lit (.int .i64 x0_least), .lit (.int .i64 x1_n), .lit (.int .i64 x2_most)] (.tree (.lit (.bool R))) := by
 refine VPure.runR mixed Tryz.call92 Tryz.func92 rfl (by simp [Tryz.ntmps92]; kernel_rfl) ?_
 obtain ⟨KF, h, kF, kN⟩ := zan h
 simp only [zdr] at h
 cases d1 : (decide (x0_least ≤ x1_n))
 ·simp only [d1, hs] at h
  try simp only [vz, tyf, d1, nm, seval]
  obtain rfl := kF _ h
  exact zaa Tryz.results92 rfl
 simp only [d1, hs] at h
 try simp only [vz, tyf, d1, nm, seval]
 obtain rfl := kF _ h
 exact zaa Tryz.results92 rfl
def zcq (x0_least : Int) (x2_most : Int) : List Int → Int → Option (LOut (Bool) (Unit))
 | [], c0_11 => some (.go ())
 | e0 :: p0, c0_11 => Option.bind (zdr x0_least e0 x2_most) (fun r1 => cond (r1) (zcq x0_least x2_most p0 (c0_11 + 1)) (some (.ret false)))
def zdx (x0_least : Int) (x1_numbers : List Int) (x2_most : Int) : Option (Bool) := cond (lenOk x1_numbers) (lbind (zcq x0_least x2_most x1_numbers 0) (fun r3 => some r3) (fun c2 => some true) (fun _ _ => none)) none
theorem zhp (x0_least : Int) (x1_numbers : List Int) (x2_most : Int) (R : Bool) (h : zdx x0_least x1_numbers x2_most = some R) : VPure Tryz.prog G0 89 [.lit (.int .i64 x0_least), .sl (cellsL eI x1_numbers) (List.length x1_numbers) false, .lit (.int .i64 x2_most)] (.tree (.lit (.bool R))) := by
 refine VPure.runR mixed Tryz.call89 Tryz.func89 rfl (by simp [Tryz.ntmps89]; kernel_rfl) ?_
 obtain ⟨KF, h, kF, kN⟩ := zan h
 simp only [zdx] at h
 cases g5 : (lenOk x1_numbers)
 ·simp only [g5, hs] at h
  exact absurd h kN
 simp only [g5, hs] at h
 simp only [vz, tyf, g5, nm, seval]
 obtain ⟨K4, h, kR4, kG4, kB4, kN4⟩ := zbh h kN
 obtain ⟨f4, hf4, h⟩ := call2 h
 obtain ⟨I4, hI4⟩ : ∃ I : Nat → St → Prop, I = (fun m st => ∃ (p4 : List Int) (c4_11 : Int), m = List.length p4 ∧ 0 ≤ c4_11 ∧ List.drop (Int.toNat c4_11) x1_numbers = p4 ∧ st.df = [] ∧ 4 ≤ st.nx ∧ st.tm 0 = .lit (.int .i64 x0_least) ∧ st.tm 2 = .lit (.int .i64 x2_most) ∧ st.tm 9 = .sl (cellsL eI x1_numbers) (List.length x1_numbers) false ∧ st.tm 10 = .lit (.int .i64 (List.length x1_numbers : Int)) ∧ st.tm 11 = .lit (.int .i64 c4_11) ∧ K4 (f4 p4 c4_11)) := ⟨_, rfl⟩
 refine loopK mixed (by kernel_rfl) I4 (List.length x1_numbers) (by rw [hI4]; refine ⟨x1_numbers, 0, rfl, Int.le_refl _, rfl, rfl, (show 4 ≤ 4 by omega), ?_, ?_, ?_, ?_, ?_, h⟩ <;> first | (simp only [ua, nm, seval] <;> rfl) | rfl) ?_
 rintro m ⟨tm, H, nx4, df⟩ hinv
 rw [hI4] at hinv
 obtain ⟨p4, c4_11, rfl, hi4, hp4, hdf, hn4, e6, e7, e8, e9, e10, h⟩ := hinv
 simp only at hdf hn4 e6 e7 e8 e9 e10
 have n11 := zcw (m := 4) (b := nx4) (by omega)
 subst hdf hf4
 cases p4 with
 | nil =>
  have d12 : (decide (c4_11 < (List.length x1_numbers : Int))) = false := zbc hi4 hp4
  simp only [zcq, hs, reduceCtorEq] at h
  replace h := kG4 _ h
  try dsimp only at h
  try simp only [hs] at h
  try simp only [vz, tyf, g5, n11, e6, e7, e8, e9, e10, d12, nm, seval]
  obtain rfl := kF _ h
  exact zaa Tryz.results89 rfl
 | cons e4 p4 =>
  have d13 : (decide (c4_11 < (List.length x1_numbers : Int))) = true := zci hi4 hp4
  have o15 := zax hi4 hp4
  have w14 := zdh hi4 hp4 g5
  simp only [zcq, hs, reduceCtorEq] at h
  obtain ⟨r16, o17, h⟩ := optI h kN4
  try simp only [hs] at h
  simp only [vz, tyf, g5, n11, e6, e7, e8, e9, e10, d13, (ix29 o15), w14, nm, seval]
  refine ktA (zew _ _ _ _ o17) ?_
  refine zab (fun tm => tm 0 = .lit (.int .i64 x0_least) ∧ tm 2 = .lit (.int .i64 x2_most) ∧ tm 9 = .sl (cellsL eI x1_numbers) (List.length x1_numbers) false ∧ tm 10 = .lit (.int .i64 (List.length x1_numbers : Int)) ∧ tm 11 = .lit (.int .i64 c4_11) ∧ tm 18 = .lit (.bool r16) ∧ True) (by refine ⟨e6, e7, e8, e9, e10, ?_, trivial⟩ <;> first | (simp only [ua, n11, e6, e7, e8, e9, e10, d13, w14, nm, seval] <;> rfl) | rfl) ?_
  rintro tm ⟨e18, e19, e20, e21, e22, e23, _⟩
  cases d24 : (r16)
  ·simp only [d24, hs] at h
   try simp only [vz, tyf, g5, n11, d13, (ix29 o15), w14, e18, e19, e20, e21, e22, e23, d24, nm, seval]
   replace h := kR4 _ h
   try dsimp only at h
   obtain rfl := kF _ h
   exact zaa Tryz.results89 rfl
  simp only [d24, hs] at h
  simp only [vz, tyf, g5, n11, d13, (ix29 o15), w14, e18, e19, e20, e21, e22, e23, d24, nm, seval]
  exact ⟨List.length p4, Nat.lt_succ_self _, by rw [hI4]; refine ⟨p4, c4_11 + 1, rfl, Int.le_trans hi4 (Int.le_add_one (Int.le_refl _)), zbr hi4 hp4, rfl, (show 4 ≤ nx4 + 11 by omega), e18, e19, e20, e21, ?_, h⟩ <;> first | (simp only [ua, n11, d13, w14, e18, e19, e20, e21, e22, e23, d24, nm, seval] <;> rfl) | rfl⟩
end Go.V
end
