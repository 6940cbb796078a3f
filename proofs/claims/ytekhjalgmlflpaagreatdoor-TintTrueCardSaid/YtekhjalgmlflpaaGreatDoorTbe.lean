/- Part of a proof. -/
import Derived.Test.YtekhjalgmlflpaaGreatDoorTbd
import Derived.Test.YtekhjalgmlflpaaGreatDoorTaw
import Derived.Test.YtekhjalgmlflpaaGreatDoorProg
set_option linter.all false
set_option maxRecDepth 4000
set_option maxHeartbeats 40000000
section
namespace Go.V
open Go
def neB {α : Type} (xs : List α) : Bool := !xs.isEmpty
theorem zaqa {α : Type} {xs : List α} (h : neB xs = true) : 0 < xs.length := by
 cases xs with
 | nil => cases h
 | cons a l => exact Nat.succ_pos _
section
variable {P : Program} {H : Nat → Option VObj} {γ : Nat} {α : Type} {enc : α → List VV} {t t2 e e2 w b : Nat} {xs ys : List α} {el : Option TypeId} {β : Nat} {f : Bool} {k : VV → VEff → Prop}
theorem zash (he : ∀ x, (enc x).length = w) (hl : ∀ x, leafL (enc x) = true) (ha : appOk P t = some (e, w, b)) (hu2 : P.underlying t2 = some (.slice e2)) (hb : H β = some (.cells el (cellsL enc xs)))
  (hm : neB ys = true) (hr : roomOk b (xs ++ ys).length = true) (h : k (.ref γ 0 (xs ++ ys).length w (xs ++ ys).length) (.mv β (sameEl el e) (cellsL enc (xs ++ ys)))) :
  oeK (vappend P H γ t t2 (.ref β 0 xs.length w xs.length) (.sl (cellsL enc ys) ys.length f)) k := by
 have hm := zaqa hm
 obtain ⟨hu, inf, z, hi, hz, rfl, rfl, hs0, hb0, hzs⟩ := zog ha
 have hr' : (xs.length + ys.length) * inf.bytes ≤ 140737488355328 := by simpa [roomOk] using hr
 have h4 : (cellsL enc ys).all VV.leaf = true := by rw [zlu]; exact zkj hl ys
 have h2 := zcs he ys
 have h1 := zcs he xs
 have h5 : (cellsL enc ys).take (ys.length * inf.size) = cellsL enc ys := List.take_of_length_le (by omega)
 have h6 : ¬ (xs.length + ys.length ≤ xs.length) := by omega
 have key : vappend P H γ t t2 (.ref β 0 xs.length inf.size xs.length) (.sl (cellsL enc ys) ys.length f) = some (.ref γ 0 (xs ++ ys).length inf.size (xs ++ ys).length, .mv β (sameEl el e) (cellsL enc (xs ++ ys))) := by
  simp only [vappend, nilS, vappend1, hu, hu2, hi, hz, srcV, sls, h5, h4, hs0, hb0, hzs, hb]
  simp [h2, h6, h1, hr', zhx]
 rw [key]
 exact h
end
theorem zabh {P : Program} {H : Nat → Option VObj} {t e : TypeId} {x y : Operand} {cs : List VV} {n : Nat} {f : Bool} (hu : P.underlying t = some (.slice e)) (hc : cs ≠ []) : binV P H .eql t x y (.sl cs n f) (.lit (.slice none 0 0)) = some (.lit (.bool false)) := by
 simp [binV, VV.val?, vptrEq, vptrEq.eq1, hu, hc]
end Go.V
end
section
set_option linter.defProp false
namespace Go.V
open Go
section
variable {P : Program} {G : Glob} {n : Nat} {x : Code} {Q : VExit → St → Prop} {st : St}
end
end Go.V
end
section
set_option linter.defProp false
namespace Go.V
open Go
section
variable {P : Program} {G : Glob} {n : Nat} {Q : VExit → St → Prop} {tm : Nat → VV} {H : Nat → Option VObj} {nx : Nat} {df : List VDef} {g : Operand} {ps : Array Tmp} {az bo : Code} {f : FuncId} {first captured : List VV}
theorem zabx (hg : ev (G.at (some none)) tm g = .fn (.func f) first captured)
  (h : ∀ LO, LO = VObj.loop .ready none (tmL n tm) ps az bo nx → VOpen P (G.at (some none)) f (first ++ [.yl (nx + 1)] ++ captured) (updH (updH H nx (.deferred (some []))) (nx + 1) LO) (nx + 2)
   (fun _ H' nx' => RangeEnd P (G.at (some none)) n Q ⟨tm, H, nx, df⟩ H' nx') (fun x H' nx' => Q (.panic x) ⟨tm, H', nx', .coll nx :: df⟩)) : CWp P (G.at (some none)) n (.rangeFunc g ps az bo) Q ⟨tm, H, nx, df⟩ := by
 unfold CWp
 refine ⟨rfl, ?_⟩
 rw [show St.ρ (G.at (some none)) ⟨tm, H, nx, df⟩ g = ev (G.at (some none)) tm g from ev_eq .. ▸ rfl, hg]
 exact h _ rfl
theorem zgf {H' : Nat → Option VObj} {nx' : Nat} {LO : VObj} {tml : List VV} {d : Nat} (hL : LO = VObj.loop .ready none tml ps az bo d) (h : H' (nx + 1) = some LO) (hq : ∀ LX, Q .normal ⟨tm, updH H' (nx + 1) LX, nx', .coll nx :: df⟩) : RangeEnd P G n Q ⟨tm, H, nx, df⟩ H' nx' :=
 ⟨.ready, none, tml, ps, az, bo, d, by rw [h, hL], by simp, hq _⟩
theorem zhq {H' : Nat → Option VObj} {nx' : Nat} {LD : Code → VObj} {tml : List VV} {d : Nat} (hL : LD = fun c => VObj.loop .done (some c) tml ps az bo d) (h : H' (nx + 1) = some (LD .ret)) (hq : ∀ LX, Q .ret ⟨tm, updH H' (nx + 1) LX, nx', .coll nx :: df⟩) : RangeEnd P G n Q ⟨tm, H, nx, df⟩ H' nx' :=
 ⟨.done, some .ret, tml, ps, az, bo, d, by rw [h, hL], by simp, VWp.ret (hq _)⟩
def RndEnd (β : Nat) (LB LO : VObj) (LD : Code → VObj) (o : Oper) (st : St) (K : St → Prop) : VExit → St → Prop
 | .normal, s2 => s2.H β = some LB ∧ K { st.put o.dst (.lit (.bool true)) with H := updH s2.H β LO, nx := s2.nx }
 | .ret, s2 => s2.H β = some LB ∧ K { st.put o.dst (.lit (.bool false)) with H := updH s2.H β (LD .ret), nx := s2.nx }
 | .exit id, s2 => s2.H β = some LB ∧ K { st.put o.dst (.lit (.bool false)) with H := updH s2.H β (LD (.exit id)), nx := s2.nx }
 | _, _ => False
def RndAs (P : Program) (G : Glob) (n β : Nat) (LB LO : VObj) (LD : Code → VObj) (bo : Code) (o : Oper) (st : St) (K : St → Prop) : VExit → St → Prop
 | .normal, s1 => s1.H β = some LO ∧ CWp P (G.at (some (some β))) n bo (RndEnd β LB LO LD o st K) { s1 with H := updH s1.H β LB }
 | _, _ => False
theorem zacq (hm : P.follows .mixedOrders = true) {o : Oper} {β : Nat} {args : List VV} {st : St} {K : St → Prop} {LO : VObj} {tml : List VV} {d : Nat} {psl : List Tmp} (hL : LO = VObj.loop .ready none tml ⟨psl⟩ az bo d) (hβ : st.H β = some LO) (hn : tml.length = n) (ha : args.length = psl.length)
  (h1 : codeOk n az = true) (h2 : codeOk n bo = true)
  (h : ∀ LB LD, LB = VObj.loop .busy none tml ⟨psl⟩ az bo d → LD = (fun c => VObj.loop .done (some c) tml ⟨psl⟩ az bo d) →
   CWp P (G.at (some (some β))) n az (RndAs P G n β LB LO LD bo o st K) ⟨argsTm (roundTm tml psl args), st.H, st.nx, []⟩) : yieldK P G o β args st K := by
 unfold yieldK
 rw [hβ, hL]
 subst hn
 refine ⟨ha, (zfi hm az _ _ h1 (h _ _ rfl rfl)).mono ?_⟩
 intro e s1 hs
 cases e with
 | normal =>
  obtain ⟨q1, q2⟩ := hs
  refine ⟨none, tml, ⟨psl⟩, az, bo, d, by rw [q1, hL], (zfi hm bo _ _ h2 q2).mono ?_⟩
  intro e s2 hs2
  cases e with
  | normal =>
   obtain ⟨r1, r2⟩ := hs2
   refine ⟨_, _, _, _, _, _, _, r1, ?_⟩
   rw [hL] at r2
   exact r2
  | ret =>
   obtain ⟨r1, r2⟩ := hs2
   exact ⟨_, _, _, _, _, _, _, r1, r2⟩
  | exit id =>
   obtain ⟨r1, r2⟩ := hs2
   exact ⟨_, _, _, _, _, _, _, r1, r2⟩
  | goto l => exact hs2.elim
  | panic x => exact hs2.elim
 | _ => exact hs.elim
theorem zlh {m t p : Nat} {x : VV} (h : t < m) : argsTm (roundTm (tmL m tm) [p] [x]) t = if t = p then x else tm t := by
 unfold argsTm roundTm tmL
 simp only [List.zip_cons_cons, List.zip_nil_right, List.foldl_cons, List.foldl_nil]
 by_cases hp : t = p
 ·subst hp
  rw [if_pos rfl]
  simp [h]
 ·rw [if_neg hp]
  simp [List.getElem?_set, h, Ne.symm hp]
theorem zjk {m t : Nat} (h : t < m) : argsTm (roundTm (tmL m tm) [] []) t = tm t := by
 unfold argsTm roundTm tmL
 simp [h]
theorem zhk {m : Nat} : (tmL m tm).length = m := by simp [tmL]
theorem zjc {code : Code} (F : (Nat → VV) → Prop) (hF : F tm) (h : ∀ tm, F tm → CWp P G n code Q ⟨tm, H, nx, df⟩) : CWp P G n code Q ⟨tm, H, nx, df⟩ := h tm hF
theorem zahl {β : Nat} : vcells (.yl β) = some [.yl β] := rfl
theorem zapt {β : Nat} : (VV.yl β).leaf = true := rfl
theorem VPure.at {x : Option (Option Nat)} {args : List VV} {r : PRes} (h : VPure P G f args r) : VPure P (G.at x) f args r := h
def rg := (And.intro @zahl (And.intro @zapt @zajp))
theorem zid {fn : Func} {R Rp : VV → (Nat → Option VObj) → Nat → Prop} {β : Nat} (h : H β = some (.deferred (some []))) (h2 : OpenPostD P G fn R Rp .ret ⟨tm, updH H β (.deferred none), nx, df⟩) : OpenPostD P G fn R Rp .ret ⟨tm, H, nx, .coll β :: df⟩ := ⟨h, h2⟩
theorem zsd {fn : Func} {R Rp : VV → (Nat → Option VObj) → Nat → Prop} {β : Nat} (h : H β = some (.deferred (some []))) (h2 : OpenPostD P G fn R Rp .normal ⟨tm, updH H β (.deferred none), nx, df⟩) : OpenPostD P G fn R Rp .normal ⟨tm, H, nx, .coll β :: df⟩ := ⟨h, h2⟩
end
end Go.V
end
section
namespace Go.V
open Go
section
variable {P : Program} {G : Glob} {f : FuncId} {β γ w c nx : Nat} {tm : Nat → VV} {H : Nat → Option VObj} {df : List VDef} {d : Option Tmp} {K : List Nat → List Nat → St → Prop} {el : Option TypeId} {α : Type} {enc : α → List VV} {xs ys : List α} {x : VV}
end
section
variable {P : Program} {G : Glob} {β γ w e : Nat} {t ty : TypeId} {tm : Nat → VV} {H : Nat → Option VObj} {d : Option Tmp} {k : VV → VEff → Prop} {el : Option TypeId} {α : Type} {enc : α → List VV} {xs ys : List α} {pos : String} {af : Array Edge} {g : Option (Nat × Bool)} {x : Operand} {lo hi : Option Operand}
end
section
variable {P : Program} {G : Glob} {f : FuncId} {γ nx : Nat} {tm : Nat → VV} {H : Nat → Option VObj} {df : List VDef} {d : Option Tmp} {x : VV}
theorem ktree0 {K : St → Prop} {Qp : VV → St → Prop} (hp : VPure P G f [] (.tree x)) (h : fin d γ tm H nx df K x .none) : callK P G f [] ⟨tm, H, nx, df⟩ d γ K Qp := ktree (args0 := []) rfl rfl hp h
end
end Go.V
end
section
namespace Go.V
open Go
variable {P : Program} {G : Glob} {β γ w e n off : Nat} {t ty : TypeId} {tm : Nat → VV} {H : Nat → Option VObj} {d : Option Tmp} {k : VV → VEff → Prop} {el : Option TypeId} {cs : List VV} {pos : String} {af : Array Edge} {g : Option (Nat × Bool)} {x : Operand}
theorem k_slA (hu : P.underlying t = some (.array n e)) (hs : szT P e = some w) (hx : ev G tm x = .ptr β off) (hH : H β = some (.cells el cs)) (hn : 0 < n) (hle : off + n * w ≤ cs.length)
  (h : k (.ref β off n w n) .none) : oeK (vop P ⟨d, .slice t x none none none, ty, pos, af, g⟩ (ev G tm) H γ) k := by
 have e1 : vslice P H t (.ptr β off) none none none = none := by simp [vslice, hu]
 have e3 : vsliceX P H t (.ptr β off) none none none = some (.ref β off n w n) := by simp [vsliceX, hu, hH, hs, vbound, hn, hle]
 have e2 : vop P ⟨d, .slice t x none none none, ty, pos, af, g⟩ (ev G tm) H γ = some (.ref β off n w n, .none) := by
  simp [vop, hu, hx, e1, e3]
 rw [e2]
 exact h
end Go.V
namespace Go.V
open Go
end Go.V
end
section
namespace Go.V
open Go Go.Proofs
theorem mixed : Tryz.prog.follows .mixedOrders = true := by kernel_rfl
structure Gi where
 a0 : Int
 a1 : Int
 a2 : Int
 deriving Inhabited, DecidableEq
def cGi (x : Gi) : List VV := [.lit (.int .i64 x.a0), .lit (.int .i64 x.a1), .lit (.int .i64 x.a2)]
theorem zhr {x : Gi} : cGi x = [.lit (.int .i64 x.a0), .lit (.int .i64 x.a1), .lit (.int .i64 x.a2)] := rfl
theorem zan : EncOk cGi := EncOk.of (fun x => by simp only [zhr, tre, Bool.and_self]) (fun x => by simp only [zhr, nrm]) (fun x H d => by simp only [zhr, nrm, List.map_cons, List.map_nil])
structure GSpan where
 Low : Int
 High : Int
 deriving Inhabited, DecidableEq
def cGSpan (x : GSpan) : List VV := [.lit (.int .i64 x.Low), .lit (.int .i64 x.High)]
theorem zib {x : GSpan} : cGSpan x = [.lit (.int .i64 x.Low), .lit (.int .i64 x.High)] := rfl
theorem zbj : EncOk cGSpan := EncOk.of (fun x => by simp only [zib, tre, zan.tree, zan.treeL, Bool.and_self]) (fun x => by simp only [zib, nrm, zan.norm, zan.normL, zan.shown, zan.showL]) (fun x H d => by simp only [zib, nrm, List.map_cons, List.map_nil])
structure Ga where
 a0 : GSpan
 a1 : GSpan
 a2 : GSpan
 deriving Inhabited, DecidableEq
def cGa (x : Ga) : List VV := [.lit (.int .i64 x.a0.Low), .lit (.int .i64 x.a0.High), .lit (.int .i64 x.a1.Low), .lit (.int .i64 x.a1.High), .lit (.int .i64 x.a2.Low), .lit (.int .i64 x.a2.High)]
theorem zfx {x : Ga} : cGa x = [.lit (.int .i64 x.a0.Low), .lit (.int .i64 x.a0.High), .lit (.int .i64 x.a1.Low), .lit (.int .i64 x.a1.High), .lit (.int .i64 x.a2.Low), .lit (.int .i64 x.a2.High)] := rfl
theorem zax : EncOk cGa := EncOk.of (fun x => by simp only [zfx, tre, zan.tree, zan.treeL, zbj.tree, zbj.treeL, Bool.and_self]) (fun x => by simp only [zfx, nrm, zan.norm, zan.normL, zan.shown, zan.showL, zbj.norm, zbj.normL, zbj.shown, zbj.showL]) (fun x H d => by simp only [zfx, nrm, List.map_cons, List.map_nil])
structure Gt where
 pg : Ga
 deriving Inhabited, DecidableEq
def cGt (x : Gt) : List VV := [.lit (.int .i64 x.pg.a0.Low), .lit (.int .i64 x.pg.a0.High), .lit (.int .i64 x.pg.a1.Low), .lit (.int .i64 x.pg.a1.High), .lit (.int .i64 x.pg.a2.Low), .lit (.int .i64 x.pg.a2.High)]
theorem zgo {x : Gt} : cGt x = [.lit (.int .i64 x.pg.a0.Low), .lit (.int .i64 x.pg.a0.High), .lit (.int .i64 x.pg.a1.Low), .lit (.int .i64 x.pg.a1.High), .lit (.int .i64 x.pg.a2.Low), .lit (.int .i64 x.pg.a2.High)] := rfl
theorem zbe : EncOk cGt := EncOk.of (fun x => by simp only [zgo, tre, zan.tree, zan.treeL, zbj.tree, zbj.treeL, zax.tree, zax.treeL, Bool.and_self]) (fun x => by simp only [zgo, nrm, zan.norm, zan.normL, zan.shown, zan.showL, zbj.norm, zbj.normL, zbj.shown, zbj.showL, zax.norm, zax.normL, zax.shown, zax.showL]) (fun x H d => by simp only [zgo, nrm, List.map_cons, List.map_nil])
structure Gs where
 Old : Gi
 Fade : Ga
 Years : GSpan
 Off : Int
 Tins : List Gt
 deriving Inhabited, DecidableEq
def cGs (x : Gs) : List VV := [.lit (.int .i64 x.Old.a0), .lit (.int .i64 x.Old.a1), .lit (.int .i64 x.Old.a2), .lit (.int .i64 x.Fade.a0.Low), .lit (.int .i64 x.Fade.a0.High), .lit (.int .i64 x.Fade.a1.Low), .lit (.int .i64 x.Fade.a1.High), .lit (.int .i64 x.Fade.a2.Low), .lit (.int .i64 x.Fade.a2.High), .lit (.int .i64 x.Years.Low), .lit (.int .i64 x.Years.High), .lit (.int .i64 x.Off), .sl (cellsL cGt x.Tins) (List.length x.Tins) false]
theorem zgj {x : Gs} : cGs x = [.lit (.int .i64 x.Old.a0), .lit (.int .i64 x.Old.a1), .lit (.int .i64 x.Old.a2), .lit (.int .i64 x.Fade.a0.Low), .lit (.int .i64 x.Fade.a0.High), .lit (.int .i64 x.Fade.a1.Low), .lit (.int .i64 x.Fade.a1.High), .lit (.int .i64 x.Fade.a2.Low), .lit (.int .i64 x.Fade.a2.High), .lit (.int .i64 x.Years.Low), .lit (.int .i64 x.Years.High), .lit (.int .i64 x.Off), .sl (cellsL cGt x.Tins) (List.length x.Tins) false] := rfl
theorem zbm : EncOk cGs := EncOk.of (fun x => by simp only [zgj, tre, zan.tree, zan.treeL, zbj.tree, zbj.treeL, zax.tree, zax.treeL, zbe.tree, zbe.treeL, Bool.and_self]) (fun x => by simp only [zgj, nrm, zan.norm, zan.normL, zan.shown, zan.showL, zbj.norm, zbj.normL, zbj.shown, zbj.showL, zax.norm, zax.normL, zax.shown, zax.showL, zbe.norm, zbe.normL, zbe.shown, zbe.showL]) (fun x H d => by simp only [zgj, nrm, List.map_cons, List.map_nil])
structure Gu where
 Tins : List Gi
 Years : Int
 Fade : Gi
 deriving Inhabited, DecidableEq
def cGu (x : Gu) : List VV := [.sl (cellsL cGi x.Tins) (List.length x.Tins) false, .lit (.int .i64 x.Years), .lit (.int .i64 x.Fade.a0), .lit (.int .i64 x.Fade.a1), .lit (.int .i64 x.Fade.a2)]
theorem zgh {x : Gu} : cGu x = [.sl (cellsL cGi x.Tins) (List.length x.Tins) false, .lit (.int .i64 x.Years), .lit (.int .i64 x.Fade.a0), .lit (.int .i64 x.Fade.a1), .lit (.int .i64 x.Fade.a2)] := rfl
theorem zfh : EncOk cGu := EncOk.of (fun x => by simp only [zgh, tre, zan.tree, zan.treeL, zbj.tree, zbj.treeL, zax.tree, zax.treeL, zbe.tree, zbe.treeL, zbm.tree, zbm.treeL, Bool.and_self]) (fun x => by simp only [zgh, nrm, zan.norm, zan.normL, zan.shown, zan.showL, zbj.norm, zbj.normL, zbj.shown, zbj.showL, zax.norm, zax.normL, zax.shown, zax.showL, zbe.norm, zbe.normL, zbe.shown, zbe.showL, zbm.norm, zbm.normL, zbm.shown, zbm.showL]) (fun x H d => by simp only [zgh, nrm, List.map_cons, List.map_nil])
structure Gm where
 sh : Gs
 mix : List Int
 deriving Inhabited, DecidableEq
def cGm (x : Gm) : List VV := [.lit (.int .i64 x.sh.Old.a0), .lit (.int .i64 x.sh.Old.a1), .lit (.int .i64 x.sh.Old.a2), .lit (.int .i64 x.sh.Fade.a0.Low), .lit (.int .i64 x.sh.Fade.a0.High), .lit (.int .i64 x.sh.Fade.a1.Low), .lit (.int .i64 x.sh.Fade.a1.High), .lit (.int .i64 x.sh.Fade.a2.Low), .lit (.int .i64 x.sh.Fade.a2.High), .lit (.int .i64 x.sh.Years.Low), .lit (.int .i64 x.sh.Years.High), .lit (.int .i64 x.sh.Off), .sl (cellsL cGt x.sh.Tins) (List.length x.sh.Tins) false, .sl (cellsL eI x.mix) (List.length x.mix) false]
theorem zhf {x : Gm} : cGm x = [.lit (.int .i64 x.sh.Old.a0), .lit (.int .i64 x.sh.Old.a1), .lit (.int .i64 x.sh.Old.a2), .lit (.int .i64 x.sh.Fade.a0.Low), .lit (.int .i64 x.sh.Fade.a0.High), .lit (.int .i64 x.sh.Fade.a1.Low), .lit (.int .i64 x.sh.Fade.a1.High), .lit (.int .i64 x.sh.Fade.a2.Low), .lit (.int .i64 x.sh.Fade.a2.High), .lit (.int .i64 x.sh.Years.Low), .lit (.int .i64 x.sh.Years.High), .lit (.int .i64 x.sh.Off), .sl (cellsL cGt x.sh.Tins) (List.length x.sh.Tins) false, .sl (cellsL eI x.mix) (List.length x.mix) false] := rfl
theorem zeo : EncOk cGm := EncOk.of (fun x => by simp only [zhf, tre, zan.tree, zan.treeL, zbj.tree, zbj.treeL, zax.tree, zax.treeL, zbe.tree, zbe.treeL, zbm.tree, zbm.treeL, zfh.tree, zfh.treeL, Bool.and_self]) (fun x => by simp only [zhf, nrm, zan.norm, zan.normL, zan.shown, zan.showL, zbj.norm, zbj.normL, zbj.shown, zbj.showL, zax.norm, zax.normL, zax.shown, zax.showL, zbe.norm, zbe.normL, zbe.shown, zbe.showL, zbm.norm, zbm.normL, zbm.shown, zbm.showL, zfh.norm, zfh.normL, zfh.shown, zfh.showL]) (fun x H d => by simp only [zhf, nrm, List.map_cons, List.map_nil])
structure Gf where
 pigment : Int
 years : Int
 deriving Inhabited, DecidableEq
def cGf (x : Gf) : List VV := [.lit (.int .i64 x.pigment), .lit (.int .i64 x.years)]
theorem zqa {x : Gf} : cGf x = [.lit (.int .i64 x.pigment), .lit (.int .i64 x.years)] := rfl
theorem ld3 {c : VV} {cs : List VV} : vload Tryz.prog 3 (c :: cs) = some c := by
 have h1 : aggT Tryz.prog 3 = some false := by kernel_rfl
 simp [vload, vpart, h1]
theorem sz3 : szT Tryz.prog 3 = some 1 := by kernel_rfl
theorem vzl3 : vzl Tryz.prog 3 = some [.lit (.int .i64 0)] := by kernel_rfl
theorem ld4 {c : VV} {cs : List VV} : vload Tryz.prog 4 (c :: cs) = some c := by
 have h1 : aggT Tryz.prog 4 = some false := by kernel_rfl
 simp [vload, vpart, h1]
theorem sz4 : szT Tryz.prog 4 = some 1 := by kernel_rfl
theorem vzl4 : vzl Tryz.prog 4 = some [.lit (.bool false)] := by kernel_rfl
theorem ld22 {c0 c1 c2 : VV} {cs : List VV} : vload Tryz.prog 22 (c0 :: c1 :: c2 :: cs) = some (.agg [c0, c1, c2]) := by
 have h1 : aggT Tryz.prog 22 = some true := by kernel_rfl
 have h2 : szT Tryz.prog 22 = some 3 := by kernel_rfl
 simp [vload, vpart, h1, h2]
theorem sz22 : szT Tryz.prog 22 = some 3 := by kernel_rfl
theorem vzl22 : vzl Tryz.prog 22 = some [.lit (.int .i64 0), .lit (.int .i64 0), .lit (.int .i64 0)] := by kernel_rfl
theorem zasz {H : Nat → Option VObj} {cs : List VV} {k : IntKind} : vindexAddr Tryz.prog H 22 (.tp cs) (.lit (.int k (0 : Int))) = some (.tp (cs.drop 0)) := by
 have h2 : szT Tryz.prog 3 = some 1 := by kernel_rfl
 simp [vindexAddr, Tryz.underlying22, h2]
theorem zato {c0 c1 c2 : VV} {k : IntKind} : vindex Tryz.prog 22 (.agg [c0, c1, c2]) (.lit (.int k (0 : Int))) = some (c0) := by
 have h1 : aggT Tryz.prog 3 = some false := by kernel_rfl
 have h2 : szT Tryz.prog 3 = some 1 := by kernel_rfl
 simp [vindex, Tryz.underlying22, vpart, h1, h2]
theorem zea {H : Nat → Option VObj} {β o : Nat} {k : IntKind} {i : Int} (h : (i == 0) = true) : vindexAddr Tryz.prog H 22 (.ptr β o) (.lit (.int k i)) = if (H β).isSome = true then some (.ptr β (o + 0)) else none := by
 obtain rfl : i = 0 := by simpa using h
 have h2 : szT Tryz.prog 3 = some 1 := by kernel_rfl
 simp [vindexAddr, Tryz.underlying22, h2]
theorem zags {H : Nat → Option VObj} {cs : List VV} {k : IntKind} {i : Int} (h : (i == 0) = true) : vindexAddr Tryz.prog H 22 (.tp cs) (.lit (.int k i)) = some (.tp (cs.drop 0)) := by
 obtain rfl : i = 0 := by simpa using h
 have h2 : szT Tryz.prog 3 = some 1 := by kernel_rfl
 simp [vindexAddr, Tryz.underlying22, h2]
theorem zasc {H : Nat → Option VObj} {cs : List VV} {k : IntKind} : vindexAddr Tryz.prog H 22 (.tp cs) (.lit (.int k (1 : Int))) = some (.tp (cs.drop 1)) := by
 have h2 : szT Tryz.prog 3 = some 1 := by kernel_rfl
 simp [vindexAddr, Tryz.underlying22, h2]
theorem zasn {c0 c1 c2 : VV} {k : IntKind} : vindex Tryz.prog 22 (.agg [c0, c1, c2]) (.lit (.int k (1 : Int))) = some (c1) := by
 have h1 : aggT Tryz.prog 3 = some false := by kernel_rfl
 have h2 : szT Tryz.prog 3 = some 1 := by kernel_rfl
 simp [vindex, Tryz.underlying22, vpart, h1, h2]
theorem zee {H : Nat → Option VObj} {β o : Nat} {k : IntKind} {i : Int} (h : (i == 1) = true) : vindexAddr Tryz.prog H 22 (.ptr β o) (.lit (.int k i)) = if (H β).isSome = true then some (.ptr β (o + 1)) else none := by
 obtain rfl : i = 1 := by simpa using h
 have h2 : szT Tryz.prog 3 = some 1 := by kernel_rfl
 simp [vindexAddr, Tryz.underlying22, h2]
theorem zaic {H : Nat → Option VObj} {cs : List VV} {k : IntKind} {i : Int} (h : (i == 1) = true) : vindexAddr Tryz.prog H 22 (.tp cs) (.lit (.int k i)) = some (.tp (cs.drop 1)) := by
 obtain rfl : i = 1 := by simpa using h
 have h2 : szT Tryz.prog 3 = some 1 := by kernel_rfl
 simp [vindexAddr, Tryz.underlying22, h2]
theorem zate {H : Nat → Option VObj} {cs : List VV} {k : IntKind} : vindexAddr Tryz.prog H 22 (.tp cs) (.lit (.int k (2 : Int))) = some (.tp (cs.drop 2)) := by
 have h2 : szT Tryz.prog 3 = some 1 := by kernel_rfl
 simp [vindexAddr, Tryz.underlying22, h2]
theorem zata {c0 c1 c2 : VV} {k : IntKind} : vindex Tryz.prog 22 (.agg [c0, c1, c2]) (.lit (.int k (2 : Int))) = some (c2) := by
 have h1 : aggT Tryz.prog 3 = some false := by kernel_rfl
 have h2 : szT Tryz.prog 3 = some 1 := by kernel_rfl
 simp [vindex, Tryz.underlying22, vpart, h1, h2]
theorem zed {H : Nat → Option VObj} {β o : Nat} {k : IntKind} {i : Int} (h : (i == 2) = true) : vindexAddr Tryz.prog H 22 (.ptr β o) (.lit (.int k i)) = if (H β).isSome = true then some (.ptr β (o + 2)) else none := by
 obtain rfl : i = 2 := by simpa using h
 have h2 : szT Tryz.prog 3 = some 1 := by kernel_rfl
 simp [vindexAddr, Tryz.underlying22, h2]
theorem zaij {H : Nat → Option VObj} {cs : List VV} {k : IntKind} {i : Int} (h : (i == 2) = true) : vindexAddr Tryz.prog H 22 (.tp cs) (.lit (.int k i)) = some (.tp (cs.drop 2)) := by
 obtain rfl : i = 2 := by simpa using h
 have h2 : szT Tryz.prog 3 = some 1 := by kernel_rfl
 simp [vindexAddr, Tryz.underlying22, h2]
theorem ld24 {c0 c1 : VV} {cs : List VV} : vload Tryz.prog 24 (c0 :: c1 :: cs) = some (.agg [c0, c1]) := by
 have h1 : aggT Tryz.prog 24 = some true := by kernel_rfl
 have h2 : szT Tryz.prog 24 = some 2 := by kernel_rfl
 simp [vload, vpart, h1, h2]
theorem sz24 : szT Tryz.prog 24 = some 2 := by kernel_rfl
theorem vzl24 : vzl Tryz.prog 24 = some [.lit (.int .i64 0), .lit (.int .i64 0)] := by kernel_rfl
theorem zarn {H : Nat → Option VObj} {cs : List VV} : vfieldAddr Tryz.prog H 24 (.tp cs) 0 = some (.tp (cs.drop 0)) := by
 have h2 : szT Tryz.prog 3 = some 1 := by kernel_rfl
 simp [vfieldAddr, Tryz.underlying24, h2]
theorem zasg {H : Nat → Option VObj} {β o : Nat} : vfieldAddr Tryz.prog H 24 (.ptr β o) 0 = if (H β).isSome = true then some (.ptr β (o + 0)) else none := by
 have h2 : szT Tryz.prog 3 = some 1 := by kernel_rfl
 simp [vfieldAddr, Tryz.underlying24, h2]
theorem zase {c0 c1 : VV} : vfield Tryz.prog 24 (.agg [c0, c1]) 0 = some (c0) := by
 have h1 : aggT Tryz.prog 3 = some false := by kernel_rfl
 have h2 : szT Tryz.prog 3 = some 1 := by kernel_rfl
 simp [vfield, Tryz.underlying24, vpart, h1, h2]
theorem zasf {H : Nat → Option VObj} {cs : List VV} : vfieldAddr Tryz.prog H 24 (.tp cs) 1 = some (.tp (cs.drop 1)) := by
 have h2 : szT Tryz.prog 3 = some 1 := by kernel_rfl
 simp [vfieldAddr, Tryz.underlying24, h2]
theorem zaru {H : Nat → Option VObj} {β o : Nat} : vfieldAddr Tryz.prog H 24 (.ptr β o) 1 = if (H β).isSome = true then some (.ptr β (o + 1)) else none := by
 have h2 : szT Tryz.prog 3 = some 1 := by kernel_rfl
 simp [vfieldAddr, Tryz.underlying24, h2]
theorem zarz {c0 c1 : VV} : vfield Tryz.prog 24 (.agg [c0, c1]) 1 = some (c1) := by
 have h1 : aggT Tryz.prog 3 = some false := by kernel_rfl
 have h2 : szT Tryz.prog 3 = some 1 := by kernel_rfl
 simp [vfield, Tryz.underlying24, vpart, h1, h2]
theorem ld25 {c0 c1 c2 c3 c4 c5 : VV} {cs : List VV} : vload Tryz.prog 25 (c0 :: c1 :: c2 :: c3 :: c4 :: c5 :: cs) = some (.agg [c0, c1, c2, c3, c4, c5]) := by
 have h1 : aggT Tryz.prog 25 = some true := by kernel_rfl
 have h2 : szT Tryz.prog 25 = some 6 := by kernel_rfl
 simp [vload, vpart, h1, h2]
theorem sz25 : szT Tryz.prog 25 = some 6 := by kernel_rfl
theorem vzl25 : vzl Tryz.prog 25 = some [.lit (.int .i64 0), .lit (.int .i64 0), .lit (.int .i64 0), .lit (.int .i64 0), .lit (.int .i64 0), .lit (.int .i64 0)] := by kernel_rfl
theorem zarx {H : Nat → Option VObj} {β o : Nat} {k : IntKind} : vindexAddr Tryz.prog H 25 (.ptr β o) (.lit (.int k (0 : Int))) = if (H β).isSome = true then some (.ptr β (o + 0)) else none := by
 have h2 : szT Tryz.prog 24 = some 2 := by kernel_rfl
 simp [vindexAddr, Tryz.underlying25, h2]
theorem zatz {H : Nat → Option VObj} {cs : List VV} {k : IntKind} : vindexAddr Tryz.prog H 25 (.tp cs) (.lit (.int k (0 : Int))) = some (.tp (cs.drop 0)) := by
 have h2 : szT Tryz.prog 24 = some 2 := by kernel_rfl
 simp [vindexAddr, Tryz.underlying25, h2]
theorem zatp {c0 c1 c2 c3 c4 c5 : VV} {k : IntKind} : vindex Tryz.prog 25 (.agg [c0, c1, c2, c3, c4, c5]) (.lit (.int k (0 : Int))) = some (.agg [c0, c1]) := by
 have h1 : aggT Tryz.prog 24 = some true := by kernel_rfl
 have h2 : szT Tryz.prog 24 = some 2 := by kernel_rfl
 simp [vindex, Tryz.underlying25, vpart, h1, h2]
theorem zfy {H : Nat → Option VObj} {β o : Nat} {k : IntKind} {i : Int} (h : (i == 0) = true) : vindexAddr Tryz.prog H 25 (.ptr β o) (.lit (.int k i)) = if (H β).isSome = true then some (.ptr β (o + 0)) else none := by
 obtain rfl : i = 0 := by simpa using h
 have h2 : szT Tryz.prog 24 = some 2 := by kernel_rfl
 simp [vindexAddr, Tryz.underlying25, h2]
theorem zrv {H : Nat → Option VObj} {cs : List VV} {k : IntKind} {i : Int} (h : (i == 0) = true) : vindexAddr Tryz.prog H 25 (.tp cs) (.lit (.int k i)) = some (.tp (cs.drop 0)) := by
 obtain rfl : i = 0 := by simpa using h
 have h2 : szT Tryz.prog 24 = some 2 := by kernel_rfl
 simp [vindexAddr, Tryz.underlying25, h2]
theorem zabe {c0 c1 c2 c3 c4 c5 : VV} {k : IntKind} {i : Int} (h : (i == 0) = true) : vindex Tryz.prog 25 (.agg [c0, c1, c2, c3, c4, c5]) (.lit (.int k i)) = some (.agg [c0, c1]) := by
 obtain rfl : i = 0 := by simpa using h
 have h1 : aggT Tryz.prog 24 = some true := by kernel_rfl
 have h2 : szT Tryz.prog 24 = some 2 := by kernel_rfl
 simp [vindex, Tryz.underlying25, vpart, h1, h2]
theorem zarr {H : Nat → Option VObj} {β o : Nat} {k : IntKind} : vindexAddr Tryz.prog H 25 (.ptr β o) (.lit (.int k (1 : Int))) = if (H β).isSome = true then some (.ptr β (o + 2)) else none := by
 have h2 : szT Tryz.prog 24 = some 2 := by kernel_rfl
 simp [vindexAddr, Tryz.underlying25, h2]
theorem zatb {H : Nat → Option VObj} {cs : List VV} {k : IntKind} : vindexAddr Tryz.prog H 25 (.tp cs) (.lit (.int k (1 : Int))) = some (.tp (cs.drop 2)) := by
 have h2 : szT Tryz.prog 24 = some 2 := by kernel_rfl
 simp [vindexAddr, Tryz.underlying25, h2]
theorem zatq {c0 c1 c2 c3 c4 c5 : VV} {k : IntKind} : vindex Tryz.prog 25 (.agg [c0, c1, c2, c3, c4, c5]) (.lit (.int k (1 : Int))) = some (.agg [c2, c3]) := by
 have h1 : aggT Tryz.prog 24 = some true := by kernel_rfl
 have h2 : szT Tryz.prog 24 = some 2 := by kernel_rfl
 simp [vindex, Tryz.underlying25, vpart, h1, h2]
theorem zga {H : Nat → Option VObj} {β o : Nat} {k : IntKind} {i : Int} (h : (i == 1) = true) : vindexAddr Tryz.prog H 25 (.ptr β o) (.lit (.int k i)) = if (H β).isSome = true then some (.ptr β (o + 2)) else none := by
 obtain rfl : i = 1 := by simpa using h
 have h2 : szT Tryz.prog 24 = some 2 := by kernel_rfl
 simp [vindexAddr, Tryz.underlying25, h2]
theorem zsh {H : Nat → Option VObj} {cs : List VV} {k : IntKind} {i : Int} (h : (i == 1) = true) : vindexAddr Tryz.prog H 25 (.tp cs) (.lit (.int k i)) = some (.tp (cs.drop 2)) := by
 obtain rfl : i = 1 := by simpa using h
 have h2 : szT Tryz.prog 24 = some 2 := by kernel_rfl
 simp [vindexAddr, Tryz.underlying25, h2]
theorem zaap {c0 c1 c2 c3 c4 c5 : VV} {k : IntKind} {i : Int} (h : (i == 1) = true) : vindex Tryz.prog 25 (.agg [c0, c1, c2, c3, c4, c5]) (.lit (.int k i)) = some (.agg [c2, c3]) := by
 obtain rfl : i = 1 := by simpa using h
 have h1 : aggT Tryz.prog 24 = some true := by kernel_rfl
 have h2 : szT Tryz.prog 24 = some 2 := by kernel_rfl
 simp [vindex, Tryz.underlying25, vpart, h1, h2]
theorem zasm {H : Nat → Option VObj} {β o : Nat} {k : IntKind} : vindexAddr Tryz.prog H 25 (.ptr β o) (.lit (.int k (2 : Int))) = if (H β).isSome = true then some (.ptr β (o + 4)) else none := by
 have h2 : szT Tryz.prog 24 = some 2 := by kernel_rfl
 simp [vindexAddr, Tryz.underlying25, h2]
theorem zatx {H : Nat → Option VObj} {cs : List VV} {k : IntKind} : vindexAddr Tryz.prog H 25 (.tp cs) (.lit (.int k (2 : Int))) = some (.tp (cs.drop 4)) := by
 have h2 : szT Tryz.prog 24 = some 2 := by kernel_rfl
 simp [vindexAddr, Tryz.underlying25, h2]
theorem zasj {c0 c1 c2 c3 c4 c5 : VV} {k : IntKind} : vindex Tryz.prog 25 (.agg [c0, c1, c2, c3, c4, c5]) (.lit (.int k (2 : Int))) = some (.agg [c4, c5]) := by
 have h1 : aggT Tryz.prog 24 = some true := by kernel_rfl
 have h2 : szT Tryz.prog 24 = some 2 := by kernel_rfl
 simp [vindex, Tryz.underlying25, vpart, h1, h2]
theorem zfz {H : Nat → Option VObj} {β o : Nat} {k : IntKind} {i : Int} (h : (i == 2) = true) : vindexAddr Tryz.prog H 25 (.ptr β o) (.lit (.int k i)) = if (H β).isSome = true then some (.ptr β (o + 4)) else none := by
 obtain rfl : i = 2 := by simpa using h
 have h2 : szT Tryz.prog 24 = some 2 := by kernel_rfl
 simp [vindexAddr, Tryz.underlying25, h2]
theorem zsp {H : Nat → Option VObj} {cs : List VV} {k : IntKind} {i : Int} (h : (i == 2) = true) : vindexAddr Tryz.prog H 25 (.tp cs) (.lit (.int k i)) = some (.tp (cs.drop 4)) := by
 obtain rfl : i = 2 := by simpa using h
 have h2 : szT Tryz.prog 24 = some 2 := by kernel_rfl
 simp [vindexAddr, Tryz.underlying25, h2]
theorem zzy {c0 c1 c2 c3 c4 c5 : VV} {k : IntKind} {i : Int} (h : (i == 2) = true) : vindex Tryz.prog 25 (.agg [c0, c1, c2, c3, c4, c5]) (.lit (.int k i)) = some (.agg [c4, c5]) := by
 obtain rfl : i = 2 := by simpa using h
 have h1 : aggT Tryz.prog 24 = some true := by kernel_rfl
 have h2 : szT Tryz.prog 24 = some 2 := by kernel_rfl
 simp [vindex, Tryz.underlying25, vpart, h1, h2]
theorem ld26 {c : VV} {cs : List VV} : vload Tryz.prog 26 (c :: cs) = some c := by
 have h1 : aggT Tryz.prog 26 = some false := by kernel_rfl
 simp [vload, vpart, h1]
theorem sz26 : szT Tryz.prog 26 = some 1 := by kernel_rfl
theorem len26 {H : Nat → Option VObj} {cs : List VV} {n : Nat} {f : Bool} : vlen Tryz.prog H 26 (.sl cs n f) = some (.lit (.int .i64 n)) := by simp [vlen, Tryz.underlying26, sls]
theorem lenN26 {H : Nat → Option VObj} : vlen Tryz.prog H 26 (.lit (.slice none 0 0)) = some (.lit (.int .i64 0)) := by simp [vlen, Tryz.underlying26, sls]
theorem lenR26 {H : Nat → Option VObj} {β off n w c : Nat} : vlen Tryz.prog H 26 (.ref β off n w c) = (match H β with | some (.cells _ cs) => if off ≤ cs.length then some (.lit (.int .i64 n)) else none | _ => none) := lenR Tryz.underlying26
theorem et26 : elemT Tryz.prog 26 = some 94 := by simp [elemT, Tryz.underlying26]
theorem ao26 : appOk Tryz.prog 26 = some (94, 6, 48) := by kernel_rfl
theorem tk26 {xs : List Gt} : (cellsL cGt xs).take (xs.length * 6) = cellsL cGt xs := zvc (fun _ => rfl)
theorem lf26 : ∀ x : Gt, leafL (cGt x) = true := fun x => by simp only [eI_eq, zakp, eB_eq, eS_eq, zajs, zgo, zfa, zdy, zvs, zxe, zrg, znw, zacm, Bool.and_self]
theorem zatt {c0 c1 c2 c3 c4 c5 : VV} (h : leafL [c0, c1, c2, c3, c4, c5] = true) : vbuildSlice Tryz.prog 26 1 [(0, .agg [c0, c1, c2, c3, c4, c5])] = some ([c0, c1, c2, c3, c4, c5], 6) := by
 have h2 : szT Tryz.prog 94 = some 6 := by kernel_rfl
 have h3 : vzero Tryz.prog 94 = some #[.int .i64 0, .int .i64 0, .int .i64 0, .int .i64 0, .int .i64 0, .int .i64 0] := by kernel_rfl
 simp only [zdy, zfa, Bool.and_true, Bool.and_eq_true] at h
 simp [vbuildSlice, Tryz.underlying26, h2, h3, vfill, vcells, h, overwrite, vzeros]
theorem ix26 {H : Nat → Option VObj} {xs : List Gt} {x : Gt} {f : Bool} {k : IntKind} {i : Int} (h : getI xs i = some x) : vindexAddr Tryz.prog H 26 (.sl (cellsL cGt xs) xs.length f) (.lit (.int k i)) = some (.tp (cGt x ++ cellsL cGt (xs.drop (i.toNat + 1)))) :=
 ixG Tryz.underlying26 (by kernel_rfl : szT Tryz.prog 94 = some 6) (by decide) (fun _ => rfl) h
theorem ld28 {c0 c1 c2 c3 c4 c5 c6 c7 c8 c9 c10 c11 c12 : VV} {cs : List VV} : vload Tryz.prog 28 (c0 :: c1 :: c2 :: c3 :: c4 :: c5 :: c6 :: c7 :: c8 :: c9 :: c10 :: c11 :: c12 :: cs) = some (.agg [c0, c1, c2, c3, c4, c5, c6, c7, c8, c9, c10, c11, c12]) := by
 have h1 : aggT Tryz.prog 28 = some true := by kernel_rfl
 have h2 : szT Tryz.prog 28 = some 13 := by kernel_rfl
 simp [vload, vpart, h1, h2]
theorem sz28 : szT Tryz.prog 28 = some 13 := by kernel_rfl
theorem vzl28 : vzl Tryz.prog 28 = some [.lit (.int .i64 0), .lit (.int .i64 0), .lit (.int .i64 0), .lit (.int .i64 0), .lit (.int .i64 0), .lit (.int .i64 0), .lit (.int .i64 0), .lit (.int .i64 0), .lit (.int .i64 0), .lit (.int .i64 0), .lit (.int .i64 0), .lit (.int .i64 0), .lit (.slice none 0 0)] := by kernel_rfl
theorem zast {H : Nat → Option VObj} {β o : Nat} : vfieldAddr Tryz.prog H 28 (.ptr β o) 0 = if (H β).isSome = true then some (.ptr β (o + 0)) else none := by
 have h2 : szT Tryz.prog 22 = some 3 := by kernel_rfl
 simp [vfieldAddr, Tryz.underlying28, h2]
theorem zarm {H : Nat → Option VObj} {β o : Nat} : vfieldAddr Tryz.prog H 28 (.ptr β o) 1 = if (H β).isSome = true then some (.ptr β (o + 3)) else none := by
 have h2 : szT Tryz.prog 25 = some 6 := by kernel_rfl
 simp [vfieldAddr, Tryz.underlying28, h2]
theorem zary {H : Nat → Option VObj} {β o : Nat} : vfieldAddr Tryz.prog H 28 (.ptr β o) 2 = if (H β).isSome = true then some (.ptr β (o + 9)) else none := by
 have h2 : szT Tryz.prog 24 = some 2 := by kernel_rfl
 simp [vfieldAddr, Tryz.underlying28, h2]
theorem zard {H : Nat → Option VObj} {β o : Nat} : vfieldAddr Tryz.prog H 28 (.ptr β o) 3 = if (H β).isSome = true then some (.ptr β (o + 11)) else none := by
 have h2 : szT Tryz.prog 3 = some 1 := by kernel_rfl
 simp [vfieldAddr, Tryz.underlying28, h2]
theorem zarj {H : Nat → Option VObj} {cs : List VV} : vfieldAddr Tryz.prog H 28 (.tp cs) 4 = some (.tp (cs.drop 12)) := by
 have h2 : szT Tryz.prog 26 = some 1 := by kernel_rfl
 simp [vfieldAddr, Tryz.underlying28, h2]
theorem zasq {H : Nat → Option VObj} {β o : Nat} : vfieldAddr Tryz.prog H 28 (.ptr β o) 4 = if (H β).isSome = true then some (.ptr β (o + 12)) else none := by
 have h2 : szT Tryz.prog 26 = some 1 := by kernel_rfl
 simp [vfieldAddr, Tryz.underlying28, h2]
theorem ld29 {c : VV} {cs : List VV} : vload Tryz.prog 29 (c :: cs) = some c := by
 have h1 : aggT Tryz.prog 29 = some false := by kernel_rfl
 simp [vload, vpart, h1]
theorem sz29 : szT Tryz.prog 29 = some 1 := by kernel_rfl
theorem vzl29 : vzl Tryz.prog 29 = some [.lit (.slice none 0 0)] := by kernel_rfl
theorem len29 {H : Nat → Option VObj} {cs : List VV} {n : Nat} {f : Bool} : vlen Tryz.prog H 29 (.sl cs n f) = some (.lit (.int .i64 n)) := by simp [vlen, Tryz.underlying29, sls]
theorem lenN29 {H : Nat → Option VObj} : vlen Tryz.prog H 29 (.lit (.slice none 0 0)) = some (.lit (.int .i64 0)) := by simp [vlen, Tryz.underlying29, sls]
theorem lenR29 {H : Nat → Option VObj} {β off n w c : Nat} : vlen Tryz.prog H 29 (.ref β off n w c) = (match H β with | some (.cells _ cs) => if off ≤ cs.length then some (.lit (.int .i64 n)) else none | _ => none) := lenR Tryz.underlying29
theorem et29 : elemT Tryz.prog 29 = some 3 := by simp [elemT, Tryz.underlying29]
theorem ao29 : appOk Tryz.prog 29 = some (3, 1, 8) := by kernel_rfl
theorem tk29 {xs : List Int} : (cellsL eI xs).take (xs.length * 1) = cellsL eI xs := zvc (fun _ => rfl)
theorem lf29 : ∀ x : Int, leafL (eI x) = true := fun x => by simp only [eI_eq, zakp, eB_eq, eS_eq, zajs, zfa, zdy, zvs, zxe, zrg, znw, zacm, Bool.and_self]
theorem zass {a0 : VV} (h : leafL [a0] = true) : vbuildSlice Tryz.prog 29 1 [(0, a0)] = some ([a0], 1) := by
 have h2 : szT Tryz.prog 3 = some 1 := by kernel_rfl
 have h3 : vzero Tryz.prog 3 = some #[.int .i64 0] := by kernel_rfl
 simp only [zdy, zfa, Bool.and_true, Bool.and_eq_true] at h
 simp [vbuildSlice, Tryz.underlying29, h2, h3, vfill, vcells1, h, overwrite, vzeros, List.range_succ]
theorem zatr {a0 a1 : VV} (h : leafL [a0, a1] = true) : vbuildSlice Tryz.prog 29 2 [(0, a0), (1, a1)] = some ([a0, a1], 1) := by
 have h2 : szT Tryz.prog 3 = some 1 := by kernel_rfl
 have h3 : vzero Tryz.prog 3 = some #[.int .i64 0] := by kernel_rfl
 simp only [zdy, zfa, Bool.and_true, Bool.and_eq_true] at h
 simp [vbuildSlice, Tryz.underlying29, h2, h3, vfill, vcells1, h, overwrite, vzeros, List.range_succ]
theorem ix29 {H : Nat → Option VObj} {xs : List Int} {x : Int} {f : Bool} {k : IntKind} {i : Int} (h : getI xs i = some x) : vindexAddr Tryz.prog H 29 (.sl (cellsL eI xs) xs.length f) (.lit (.int k i)) = some (.tp (eI x ++ cellsL eI (xs.drop (i.toNat + 1)))) :=
 ixG Tryz.underlying29 (by kernel_rfl : szT Tryz.prog 3 = some 1) (by decide) (fun _ => rfl) h
theorem ld32 {c : VV} {cs : List VV} : vload Tryz.prog 32 (c :: cs) = some c := by
 have h1 : aggT Tryz.prog 32 = some false := by kernel_rfl
 simp [vload, vpart, h1]
theorem sz32 : szT Tryz.prog 32 = some 1 := by kernel_rfl
theorem vzl32 : vzl Tryz.prog 32 = some [.lit (.int .i64 0)] := by kernel_rfl
theorem ld40 {c : VV} {cs : List VV} : vload Tryz.prog 40 (c :: cs) = some c := by
 have h1 : aggT Tryz.prog 40 = some false := by kernel_rfl
 simp [vload, vpart, h1]
theorem len40 {H : Nat → Option VObj} {cs : List VV} {n : Nat} {f : Bool} : vlen Tryz.prog H 40 (.sl cs n f) = some (.lit (.int .i64 n)) := by simp [vlen, Tryz.underlying40, sls]
theorem lenN40 {H : Nat → Option VObj} : vlen Tryz.prog H 40 (.lit (.slice none 0 0)) = some (.lit (.int .i64 0)) := by simp [vlen, Tryz.underlying40, sls]
theorem lenR40 {H : Nat → Option VObj} {β off n w c : Nat} : vlen Tryz.prog H 40 (.ref β off n w c) = (match H β with | some (.cells _ cs) => if off ≤ cs.length then some (.lit (.int .i64 n)) else none | _ => none) := lenR Tryz.underlying40
theorem ix40 {H : Nat → Option VObj} {xs : List Gi} {x : Gi} {f : Bool} {k : IntKind} {i : Int} (h : getI xs i = some x) : vindexAddr Tryz.prog H 40 (.sl (cellsL cGi xs) xs.length f) (.lit (.int k i)) = some (.tp (cGi x ++ cellsL cGi (xs.drop (i.toNat + 1)))) :=
 ixG Tryz.underlying40 (by kernel_rfl : szT Tryz.prog 22 = some 3) (by decide) (fun _ => rfl) h
theorem ld42 {c0 c1 c2 c3 c4 : VV} {cs : List VV} : vload Tryz.prog 42 (c0 :: c1 :: c2 :: c3 :: c4 :: cs) = some (.agg [c0, c1, c2, c3, c4]) := by
 have h1 : aggT Tryz.prog 42 = some true := by kernel_rfl
 have h2 : szT Tryz.prog 42 = some 5 := by kernel_rfl
 simp [vload, vpart, h1, h2]
theorem zasi {H : Nat → Option VObj} {β o : Nat} : vfieldAddr Tryz.prog H 42 (.ptr β o) 0 = if (H β).isSome = true then some (.ptr β (o + 0)) else none := by
 have h2 : szT Tryz.prog 40 = some 1 := by kernel_rfl
 simp [vfieldAddr, Tryz.underlying42, h2]
theorem zatk {H : Nat → Option VObj} {β o : Nat} : vfieldAddr Tryz.prog H 42 (.ptr β o) 1 = if (H β).isSome = true then some (.ptr β (o + 1)) else none := by
 have h2 : szT Tryz.prog 3 = some 1 := by kernel_rfl
 simp [vfieldAddr, Tryz.underlying42, h2]
theorem zars {H : Nat → Option VObj} {β o : Nat} : vfieldAddr Tryz.prog H 42 (.ptr β o) 2 = if (H β).isSome = true then some (.ptr β (o + 2)) else none := by
 have h2 : szT Tryz.prog 22 = some 3 := by kernel_rfl
 simp [vfieldAddr, Tryz.underlying42, h2]
theorem ld89 {c0 c1 c2 c3 c4 c5 c6 c7 c8 c9 c10 c11 c12 c13 : VV} {cs : List VV} : vload Tryz.prog 89 (c0 :: c1 :: c2 :: c3 :: c4 :: c5 :: c6 :: c7 :: c8 :: c9 :: c10 :: c11 :: c12 :: c13 :: cs) = some (.agg [c0, c1, c2, c3, c4, c5, c6, c7, c8, c9, c10, c11, c12, c13]) := by
 have h1 : aggT Tryz.prog 89 = some true := by kernel_rfl
 have h2 : szT Tryz.prog 89 = some 14 := by kernel_rfl
 simp [vload, vpart, h1, h2]
theorem sz89 : szT Tryz.prog 89 = some 14 := by kernel_rfl
theorem vzl89 : vzl Tryz.prog 89 = some [.lit (.int .i64 0), .lit (.int .i64 0), .lit (.int .i64 0), .lit (.int .i64 0), .lit (.int .i64 0), .lit (.int .i64 0), .lit (.int .i64 0), .lit (.int .i64 0), .lit (.int .i64 0), .lit (.int .i64 0), .lit (.int .i64 0), .lit (.int .i64 0), .lit (.slice none 0 0), .lit (.slice none 0 0)] := by kernel_rfl
theorem zatd {H : Nat → Option VObj} {β o : Nat} : vfieldAddr Tryz.prog H 89 (.ptr β o) 0 = if (H β).isSome = true then some (.ptr β (o + 0)) else none := by
 have h2 : szT Tryz.prog 28 = some 13 := by kernel_rfl
 simp [vfieldAddr, Tryz.underlying89, h2]
theorem zatj {H : Nat → Option VObj} {β o : Nat} : vfieldAddr Tryz.prog H 89 (.ptr β o) 1 = if (H β).isSome = true then some (.ptr β (o + 13)) else none := by
 have h2 : szT Tryz.prog 29 = some 1 := by kernel_rfl
 simp [vfieldAddr, Tryz.underlying89, h2]
theorem ld94 {c0 c1 c2 c3 c4 c5 : VV} {cs : List VV} : vload Tryz.prog 94 (c0 :: c1 :: c2 :: c3 :: c4 :: c5 :: cs) = some (.agg [c0, c1, c2, c3, c4, c5]) := by
 have h1 : aggT Tryz.prog 94 = some true := by kernel_rfl
 have h2 : szT Tryz.prog 94 = some 6 := by kernel_rfl
 simp [vload, vpart, h1, h2]
theorem sz94 : szT Tryz.prog 94 = some 6 := by kernel_rfl
theorem vzl94 : vzl Tryz.prog 94 = some [.lit (.int .i64 0), .lit (.int .i64 0), .lit (.int .i64 0), .lit (.int .i64 0), .lit (.int .i64 0), .lit (.int .i64 0)] := by kernel_rfl
theorem zasy {H : Nat → Option VObj} {cs : List VV} : vfieldAddr Tryz.prog H 94 (.tp cs) 0 = some (.tp (cs.drop 0)) := by
 have h2 : szT Tryz.prog 25 = some 6 := by kernel_rfl
 simp [vfieldAddr, Tryz.underlying94, h2]
theorem zaty {H : Nat → Option VObj} {β o : Nat} : vfieldAddr Tryz.prog H 94 (.ptr β o) 0 = if (H β).isSome = true then some (.ptr β (o + 0)) else none := by
 have h2 : szT Tryz.prog 25 = some 6 := by kernel_rfl
 simp [vfieldAddr, Tryz.underlying94, h2]
theorem ld99 {c0 c1 c2 : VV} {cs : List VV} : vload Tryz.prog 99 (c0 :: c1 :: c2 :: cs) = some (.agg [c0, c1, c2]) := by
 have h1 : aggT Tryz.prog 99 = some true := by kernel_rfl
 have h2 : szT Tryz.prog 99 = some 3 := by kernel_rfl
 simp [vload, vpart, h1, h2]
theorem sz99 : szT Tryz.prog 99 = some 3 := by kernel_rfl
theorem vzl99 : vzl Tryz.prog 99 = some [.lit (.int .i64 0), .lit (.int .i64 0), .lit (.int .i64 0)] := by kernel_rfl
theorem zarl {H : Nat → Option VObj} {cs : List VV} {k : IntKind} : vindexAddr Tryz.prog H 99 (.tp cs) (.lit (.int k (0 : Int))) = some (.tp (cs.drop 0)) := by
 have h2 : szT Tryz.prog 3 = some 1 := by kernel_rfl
 simp [vindexAddr, Tryz.underlying99, h2]
theorem zarw {c0 c1 c2 : VV} {k : IntKind} : vindex Tryz.prog 99 (.agg [c0, c1, c2]) (.lit (.int k (0 : Int))) = some (c0) := by
 have h1 : aggT Tryz.prog 3 = some false := by kernel_rfl
 have h2 : szT Tryz.prog 3 = some 1 := by kernel_rfl
 simp [vindex, Tryz.underlying99, vpart, h1, h2]
theorem zatm {H : Nat → Option VObj} {cs : List VV} {k : IntKind} : vindexAddr Tryz.prog H 99 (.tp cs) (.lit (.int k (1 : Int))) = some (.tp (cs.drop 1)) := by
 have h2 : szT Tryz.prog 3 = some 1 := by kernel_rfl
 simp [vindexAddr, Tryz.underlying99, h2]
theorem zask {c0 c1 c2 : VV} {k : IntKind} : vindex Tryz.prog 99 (.agg [c0, c1, c2]) (.lit (.int k (1 : Int))) = some (c1) := by
 have h1 : aggT Tryz.prog 3 = some false := by kernel_rfl
 have h2 : szT Tryz.prog 3 = some 1 := by kernel_rfl
 simp [vindex, Tryz.underlying99, vpart, h1, h2]
theorem zark {H : Nat → Option VObj} {cs : List VV} {k : IntKind} : vindexAddr Tryz.prog H 99 (.tp cs) (.lit (.int k (2 : Int))) = some (.tp (cs.drop 2)) := by
 have h2 : szT Tryz.prog 3 = some 1 := by kernel_rfl
 simp [vindexAddr, Tryz.underlying99, h2]
theorem zatf {c0 c1 c2 : VV} {k : IntKind} : vindex Tryz.prog 99 (.agg [c0, c1, c2]) (.lit (.int k (2 : Int))) = some (c2) := by
 have h1 : aggT Tryz.prog 3 = some false := by kernel_rfl
 have h2 : szT Tryz.prog 3 = some 1 := by kernel_rfl
 simp [vindex, Tryz.underlying99, vpart, h1, h2]
theorem len106 {H : Nat → Option VObj} {cs : List VV} {n : Nat} {f : Bool} : vlen Tryz.prog H 106 (.sl cs n f) = some (.lit (.int .i64 n)) := by simp [vlen, Tryz.underlying106, sls]
theorem lenN106 {H : Nat → Option VObj} : vlen Tryz.prog H 106 (.lit (.slice none 0 0)) = some (.lit (.int .i64 0)) := by simp [vlen, Tryz.underlying106, sls]
theorem lenR106 {H : Nat → Option VObj} {β off n w c : Nat} : vlen Tryz.prog H 106 (.ref β off n w c) = (match H β with | some (.cells _ cs) => if off ≤ cs.length then some (.lit (.int .i64 n)) else none | _ => none) := lenR Tryz.underlying106
theorem len121 {H : Nat → Option VObj} {cs : List VV} {n : Nat} {f : Bool} : vlen Tryz.prog H 121 (.sl cs n f) = some (.lit (.int .i64 n)) := by simp [vlen, Tryz.underlying121, sls]
theorem lenN121 {H : Nat → Option VObj} : vlen Tryz.prog H 121 (.lit (.slice none 0 0)) = some (.lit (.int .i64 0)) := by simp [vlen, Tryz.underlying121, sls]
theorem lenR121 {H : Nat → Option VObj} {β off n w c : Nat} : vlen Tryz.prog H 121 (.ref β off n w c) = (match H β with | some (.cells _ cs) => if off ≤ cs.length then some (.lit (.int .i64 n)) else none | _ => none) := lenR Tryz.underlying121
theorem ix121 {H : Nat → Option VObj} {xs : List GSpan} {x : GSpan} {f : Bool} {k : IntKind} {i : Int} (h : getI xs i = some x) : vindexAddr Tryz.prog H 121 (.sl (cellsL cGSpan xs) xs.length f) (.lit (.int k i)) = some (.tp (cGSpan x ++ cellsL cGSpan (xs.drop (i.toNat + 1)))) :=
 ixG Tryz.underlying121 (by kernel_rfl : szT Tryz.prog 24 = some 2) (by decide) (fun _ => rfl) h
theorem vzl138 : vzl Tryz.prog 138 = some [.lit (.int .i64 0), .lit (.int .i64 0)] := by kernel_rfl
theorem ld104 {c : VV} {cs : List VV} : vload Tryz.prog 104 (c :: cs) = some c := by
 have h1 : aggT Tryz.prog 104 = some false := by kernel_rfl
 simp [vload, vpart, h1]
theorem ld111 {c : VV} {cs : List VV} : vload Tryz.prog 111 (c :: cs) = some c := by
 have h1 : aggT Tryz.prog 111 = some false := by kernel_rfl
 simp [vload, vpart, h1]
theorem ld126 {c : VV} {cs : List VV} : vload Tryz.prog 126 (c :: cs) = some c := by
 have h1 : aggT Tryz.prog 126 = some false := by kernel_rfl
 simp [vload, vpart, h1]
theorem ld144 {c : VV} {cs : List VV} : vload Tryz.prog 144 (c :: cs) = some c := by
 have h1 : aggT Tryz.prog 144 = some false := by kernel_rfl
 simp [vload, vpart, h1]
theorem ld162 {c : VV} {cs : List VV} : vload Tryz.prog 162 (c :: cs) = some c := by
 have h1 : aggT Tryz.prog 162 = some false := by kernel_rfl
 simp [vload, vpart, h1]
theorem ld163 {c : VV} {cs : List VV} : vload Tryz.prog 163 (c :: cs) = some c := by
 have h1 : aggT Tryz.prog 163 = some false := by kernel_rfl
 simp [vload, vpart, h1]
theorem sz184 : szT Tryz.prog 184 = some 1 := by kernel_rfl
theorem ld184 {c : VV} {cs : List VV} : vload Tryz.prog 184 (c :: cs) = some c := by
 have h1 : aggT Tryz.prog 184 = some false := by kernel_rfl
 simp [vload, vpart, h1]
theorem vzl184 : vzl Tryz.prog 184 = some [.lit .nilFunc] := by kernel_rfl
theorem sz127 : szT Tryz.prog 127 = some 2 := by kernel_rfl
theorem vzl127 : vzl Tryz.prog 127 = some [.lit .nilFunc, .lit .nilFunc] := by kernel_rfl
theorem zaor {H : Nat → Option VObj} {β o : Nat} {k : IntKind} : vindexAddr Tryz.prog H 127 (.ptr β o) (.lit (.int k 0)) = if (H β).isSome = true then some (.ptr β (o + 0)) else none := by
 have h2 : szT Tryz.prog 126 = some 1 := by kernel_rfl
 simp [vindexAddr, Tryz.underlying127, h2]
theorem zaqy {H : Nat → Option VObj} {β o : Nat} {k : IntKind} : vindexAddr Tryz.prog H 127 (.ptr β o) (.lit (.int k 1)) = if (H β).isSome = true then some (.ptr β (o + 1)) else none := by
 have h2 : szT Tryz.prog 126 = some 1 := by kernel_rfl
 simp [vindexAddr, Tryz.underlying127, h2]
theorem vb22 : vbuild Tryz.prog 22 [] = some (.agg [.lit (.int .i64 0), .lit (.int .i64 0), .lit (.int .i64 0)]) := by
 rw [zgt vzl22 (by kernel_rfl)]
 rfl
theorem vb24 : vbuild Tryz.prog 24 [] = some (.agg [.lit (.int .i64 0), .lit (.int .i64 0)]) := by
 rw [zgt vzl24 (by kernel_rfl)]
 rfl
theorem zalv {x0_0 x1_0 : VV} (h : leafL [x0_0, x1_0] = true) : vbuild Tryz.prog 24 [(0, x0_0), (1, x1_0)] = some (.agg [x0_0, x1_0]) := by
 have p0 : placeT Tryz.prog 24 0 = some (0, 1) := by kernel_rfl
 have p1 : placeT Tryz.prog 24 1 = some (1, 1) := by kernel_rfl
 simp only [zdy, zfa, Bool.and_true, Bool.and_eq_true] at h
 rw [zgt vzl24 (by kernel_rfl)]
 simp [vfill, p0, p1, vcells1, h, overwrite]
theorem vb25 : vbuild Tryz.prog 25 [] = some (.agg [.lit (.int .i64 0), .lit (.int .i64 0), .lit (.int .i64 0), .lit (.int .i64 0), .lit (.int .i64 0), .lit (.int .i64 0)]) := by
 rw [zgt vzl25 (by kernel_rfl)]
 rfl
theorem zakr {x0_0 x0_1 x0_2 x0_3 x0_4 x0_5 x0_6 x0_7 x0_8 x0_9 x0_10 x0_11 x0_12 x1_0 : VV} (h : leafL [x0_0, x0_1, x0_2, x0_3, x0_4, x0_5, x0_6, x0_7, x0_8, x0_9, x0_10, x0_11, x0_12, x1_0] = true) : vbuild Tryz.prog 89 [(0, .agg [x0_0, x0_1, x0_2, x0_3, x0_4, x0_5, x0_6, x0_7, x0_8, x0_9, x0_10, x0_11, x0_12]), (1, x1_0)] = some (.agg [x0_0, x0_1, x0_2, x0_3, x0_4, x0_5, x0_6, x0_7, x0_8, x0_9, x0_10, x0_11, x0_12, x1_0]) := by
 have p0 : placeT Tryz.prog 89 0 = some (0, 13) := by kernel_rfl
 have p1 : placeT Tryz.prog 89 1 = some (13, 1) := by kernel_rfl
 simp only [zdy, zfa, Bool.and_true, Bool.and_eq_true] at h
 have q0 : vcells (.agg [x0_0, x0_1, x0_2, x0_3, x0_4, x0_5, x0_6, x0_7, x0_8, x0_9, x0_10, x0_11, x0_12]) = some [x0_0, x0_1, x0_2, x0_3, x0_4, x0_5, x0_6, x0_7, x0_8, x0_9, x0_10, x0_11, x0_12] := by rw [zof]; simp [zdy, zfa, h]
 rw [zgt vzl89 (by kernel_rfl)]
 simp [vfill, p0, p1, vcells1, h, overwrite, q0]
theorem zasp {x0_0 x0_1 x0_2 x0_3 x0_4 x0_5 : VV} (h : leafL [x0_0, x0_1, x0_2, x0_3, x0_4, x0_5] = true) : vbuild Tryz.prog 94 [(0, .agg [x0_0, x0_1, x0_2, x0_3, x0_4, x0_5])] = some (.agg [x0_0, x0_1, x0_2, x0_3, x0_4, x0_5]) := by
 have p0 : placeT Tryz.prog 94 0 = some (0, 6) := by kernel_rfl
 simp only [zdy, zfa, Bool.and_true, Bool.and_eq_true] at h
 have q0 : vcells (.agg [x0_0, x0_1, x0_2, x0_3, x0_4, x0_5]) = some [x0_0, x0_1, x0_2, x0_3, x0_4, x0_5] := by rw [zof]; simp [zdy, zfa, h]
 rw [zgt vzl94 (by kernel_rfl)]
 simp [vfill, p0, vcells1, h, overwrite, q0]
theorem vb99 : vbuild Tryz.prog 99 [] = some (.agg [.lit (.int .i64 0), .lit (.int .i64 0), .lit (.int .i64 0)]) := by
 rw [zgt vzl99 (by kernel_rfl)]
 rfl
theorem zace {x0_0 x1_0 x2_0 : VV} (h : leafL [x0_0, x1_0, x2_0] = true) : vbuild Tryz.prog 99 [(0, x0_0), (1, x1_0), (2, x2_0)] = some (.agg [x0_0, x1_0, x2_0]) := by
 have p0 : placeT Tryz.prog 99 0 = some (0, 1) := by kernel_rfl
 have p1 : placeT Tryz.prog 99 1 = some (1, 1) := by kernel_rfl
 have p2 : placeT Tryz.prog 99 2 = some (2, 1) := by kernel_rfl
 simp only [zdy, zfa, Bool.and_true, Bool.and_eq_true] at h
 rw [zgt vzl99 (by kernel_rfl)]
 simp [vfill, p0, p1, p2, vcells1, h, overwrite]
theorem zahx {x0_0 x1_0 : VV} (h : leafL [x0_0, x1_0] = true) : vbuild Tryz.prog 127 [(0, x0_0), (1, x1_0)] = some (.agg [x0_0, x1_0]) := by
 have p0 : placeT Tryz.prog 127 0 = some (0, 1) := by kernel_rfl
 have p1 : placeT Tryz.prog 127 1 = some (1, 1) := by kernel_rfl
 simp only [zdy, zfa, Bool.and_true, Bool.and_eq_true] at h
 rw [zgt vzl127 (by kernel_rfl)]
 simp [vfill, p0, p1, vcells1, h, overwrite]
theorem vb132 : vbuild Tryz.prog 132 [] = some (.agg []) := by kernel_rfl
theorem sz132 : szT Tryz.prog 132 = some 0 := by kernel_rfl
theorem vzl132 : vzl Tryz.prog 132 = some [] := by kernel_rfl
theorem zaht {x0_0 x1_0 : VV} (h : leafL [x0_0, x1_0] = true) : vbuild Tryz.prog 138 [(0, x0_0), (1, x1_0)] = some (.agg [x0_0, x1_0]) := by
 have p0 : placeT Tryz.prog 138 0 = some (0, 1) := by kernel_rfl
 have p1 : placeT Tryz.prog 138 1 = some (1, 1) := by kernel_rfl
 simp only [zdy, zfa, Bool.and_true, Bool.and_eq_true] at h
 rw [zgt vzl138 (by kernel_rfl)]
 simp [vfill, p0, p1, vcells1, h, overwrite]
theorem mi132 {x : VV} : mkIfcV Tryz.prog 132 x = some (.ifc 132 x) := by simp [mkIfcV, Tryz.underlying132]
theorem tz132 : ((Tryz.prog.info? 132).bind (·.zero)).map (fun z => VV.tup [ofVal2 z, .lit (.bool false)]) = some (.tup [.agg [], .lit (.bool false)]) := by kernel_rfl
theorem tn132 : vtypeAssert Tryz.prog (.lit .nilIface) 132 true = some (.tup [.agg [], .lit (.bool false)]) := by
 simp only [vtypeAssert, Tryz.underlying132, if_true]
 exact tz132
theorem tt132 {x : VV} : vtypeAssert Tryz.prog (.ifc 132 x) 132 true = some (.tup [x, .lit (.bool true)]) := by
 simp [vtypeAssert, Tryz.underlying132]
theorem be4 {H : Nat → Option VObj} {x y : Operand} {a b : Bool} : binV Tryz.prog H .eql 4 x y (.lit (.bool a)) (.lit (.bool b)) = some (.lit (.bool (a == b))) := zaos Tryz.underlying4
theorem bn4 {H : Nat → Option VObj} {x y : Operand} {a b : Bool} : binV Tryz.prog H .neq 4 x y (.lit (.bool a)) (.lit (.bool b)) = some (.lit (.bool (a != b))) := zanp Tryz.underlying4
theorem sq24 {H : Nat → Option VObj} {x y : Operand} {a0 b0 : Int} {a1 b1 : Int} : binV Tryz.prog H .eql 24 x y (.agg [.lit (.int .i64 a0), .lit (.int .i64 a1)]) (.agg [.lit (.int .i64 b0), .lit (.int .i64 b1)]) = some (.lit (.bool (a0 == b0 && (a1 == b1)))) ∧ binV Tryz.prog H .neq 24 x y (.agg [.lit (.int .i64 a0), .lit (.int .i64 a1)]) (.agg [.lit (.int .i64 b0), .lit (.int .i64 b1)]) = some (.lit (.bool (!(a0 == b0 && (a1 == b1))))) := by
 refine binS (xs := [.int .i64 a0, .int .i64 a1]) (ys := [.int .i64 b0, .int .i64 b1]) (by simp [VV.val?, valL?]) (by simp [VV.val?, valL?]) Tryz.underlying24 (by kernel_rfl) (by kernel_rfl) ?_
 simp [eqF, ok1, eq1, Tryz.underlying3]
theorem sn24 {H : Nat → Option VObj} {x y : Operand} {a0 b0 : Int} {a1 b1 : Int} : binV Tryz.prog H .neq 24 x y (.agg [.lit (.int .i64 a0), .lit (.int .i64 a1)]) (.agg [.lit (.int .i64 b0), .lit (.int .i64 b1)]) = some (.lit (.bool (!(a0 == b0 && (a1 == b1))))) := sq24.2
theorem sq25 {H : Nat → Option VObj} {x y : Operand} {a0 b0 : Int} {a1 b1 : Int} {a2 b2 : Int} {a3 b3 : Int} {a4 b4 : Int} {a5 b5 : Int} : binV Tryz.prog H .eql 25 x y (.agg [.lit (.int .i64 a0), .lit (.int .i64 a1), .lit (.int .i64 a2), .lit (.int .i64 a3), .lit (.int .i64 a4), .lit (.int .i64 a5)]) (.agg [.lit (.int .i64 b0), .lit (.int .i64 b1), .lit (.int .i64 b2), .lit (.int .i64 b3), .lit (.int .i64 b4), .lit (.int .i64 b5)]) = some (.lit (.bool (a0 == b0 && (a1 == b1 && (a2 == b2 && (a3 == b3 && (a4 == b4 && (a5 == b5)))))))) ∧ binV Tryz.prog H .neq 25 x y (.agg [.lit (.int .i64 a0), .lit (.int .i64 a1), .lit (.int .i64 a2), .lit (.int .i64 a3), .lit (.int .i64 a4), .lit (.int .i64 a5)]) (.agg [.lit (.int .i64 b0), .lit (.int .i64 b1), .lit (.int .i64 b2), .lit (.int .i64 b3), .lit (.int .i64 b4), .lit (.int .i64 b5)]) = some (.lit (.bool (!(a0 == b0 && (a1 == b1 && (a2 == b2 && (a3 == b3 && (a4 == b4 && (a5 == b5))))))))) := by
 have p3 : aggT Tryz.prog 3 = some false := by kernel_rfl
 have z3 : szT Tryz.prog 3 = some 1 := by kernel_rfl
 have p24 : aggT Tryz.prog 24 = some true := by kernel_rfl
 have z24 : szT Tryz.prog 24 = some 2 := by kernel_rfl
 have p25 : aggT Tryz.prog 25 = some true := by kernel_rfl
 have z25 : szT Tryz.prog 25 = some 6 := by kernel_rfl
 have o24 : Tryz.prog.stoodInHeld 24 = false := by kernel_rfl
 refine binA (xs := [.int .i64 a0, .int .i64 a1, .int .i64 a2, .int .i64 a3, .int .i64 a4, .int .i64 a5]) (ys := [.int .i64 b0, .int .i64 b1, .int .i64 b2, .int .i64 b3, .int .i64 b4, .int .i64 b5]) (by simp [VV.val?, valL?]) (by simp [VV.val?, valL?]) Tryz.underlying25 (by kernel_rfl) ?_
 simp [eqD, eqAs, eqFs, partO, ok1, eq1, List.range', Tryz.underlying3, p3, z3, Tryz.underlying24, p24, z24, Tryz.underlying25, p25, z25, o24, Bool.and_assoc]
theorem se25 {H : Nat → Option VObj} {x y : Operand} {a0 b0 : Int} {a1 b1 : Int} {a2 b2 : Int} {a3 b3 : Int} {a4 b4 : Int} {a5 b5 : Int} : binV Tryz.prog H .eql 25 x y (.agg [.lit (.int .i64 a0), .lit (.int .i64 a1), .lit (.int .i64 a2), .lit (.int .i64 a3), .lit (.int .i64 a4), .lit (.int .i64 a5)]) (.agg [.lit (.int .i64 b0), .lit (.int .i64 b1), .lit (.int .i64 b2), .lit (.int .i64 b3), .lit (.int .i64 b4), .lit (.int .i64 b5)]) = some (.lit (.bool (a0 == b0 && (a1 == b1 && (a2 == b2 && (a3 == b3 && (a4 == b4 && (a5 == b5)))))))) := sq25.1
theorem sn25 {H : Nat → Option VObj} {x y : Operand} {a0 b0 : Int} {a1 b1 : Int} {a2 b2 : Int} {a3 b3 : Int} {a4 b4 : Int} {a5 b5 : Int} : binV Tryz.prog H .neq 25 x y (.agg [.lit (.int .i64 a0), .lit (.int .i64 a1), .lit (.int .i64 a2), .lit (.int .i64 a3), .lit (.int .i64 a4), .lit (.int .i64 a5)]) (.agg [.lit (.int .i64 b0), .lit (.int .i64 b1), .lit (.int .i64 b2), .lit (.int .i64 b3), .lit (.int .i64 b4), .lit (.int .i64 b5)]) = some (.lit (.bool (!(a0 == b0 && (a1 == b1 && (a2 == b2 && (a3 == b3 && (a4 == b4 && (a5 == b5))))))))) := sq25.2
theorem zapx : (VV.lit Value.nilFunc).leaf = true := rfl
theorem zant : (VV.lit Value.nilIface).leaf = true := rfl
def tyf := (And.intro (And.intro (And.intro (And.intro (And.intro (And.intro (And.intro @zhr @zib) (And.intro @zfx @zgo)) (And.intro (And.intro @zgj @zgh) (And.intro @zhf (And.intro @zqa @ld3)))) (And.intro (And.intro (And.intro @sz3 @vzl3) (And.intro @ld4 @sz4)) (And.intro (And.intro @vzl4 @ld22) (And.intro @sz22 (And.intro @vzl22 @zasz))))) (And.intro (And.intro (And.intro (And.intro @zato @zasc) (And.intro @zasn @zate)) (And.intro (And.intro @zata @ld24) (And.intro @sz24 (And.intro @vzl24 @zarn)))) (And.intro (And.intro (And.intro @zasg @zase) (And.intro @zasf (And.intro @zaru @zarz))) (And.intro (And.intro @ld25 @sz25) (And.intro @vzl25 (And.intro @zarx @zatz)))))) (And.intro (And.intro (And.intro (And.intro (And.intro @zatp @zarr) (And.intro @zatb @zatq)) (And.intro (And.intro @zasm @zatx) (And.intro @zasj (And.intro @ld26 @sz26)))) (And.intro (And.intro (And.intro @len26 @lenN26) (And.intro @lenR26 @et26)) (And.intro (And.intro @tk26 @zatt) (And.intro @ld28 (And.intro @sz28 @vzl28))))) (And.intro (And.intro (And.intro (And.intro @zast @zarm) (And.intro @zary @zard)) (And.intro (And.intro @zarj @zasq) (And.intro @ld29 (And.intro @sz29 @vzl29)))) (And.intro (And.intro (And.intro @len29 @lenN29) (And.intro @lenR29 (And.intro @et29 @tk29))) (And.intro (And.intro @zass @zatr) (And.intro @ld32 (And.intro @sz32 @vzl32))))))) (And.intro (And.intro (And.intro (And.intro (And.intro (And.intro @ld40 @len40) (And.intro @lenN40 @lenR40)) (And.intro (And.intro @ld42 @zasi) (And.intro @zatk (And.intro @zars @ld89)))) (And.intro (And.intro (And.intro @sz89 @vzl89) (And.intro @zatd @zatj)) (And.intro (And.intro @ld94 @sz94) (And.intro @vzl94 (And.intro @zasy @zaty))))) (And.intro (And.intro (And.intro (And.intro @ld99 @sz99) (And.intro @vzl99 @zarl)) (And.intro (And.intro @zarw @zatm) (And.intro @zask (And.intro @zark @zatf)))) (And.intro (And.intro (And.intro @len106 @lenN106) (And.intro @lenR106 (And.intro @len121 @lenN121))) (And.intro (And.intro @lenR121 @ld104) (And.intro @ld111 (And.intro @ld126 @ld144)))))) (And.intro (And.intro (And.intro (And.intro (And.intro @ld162 @ld163) (And.intro @sz184 @ld184)) (And.intro (And.intro @vzl184 @sz127) (And.intro @vzl127 (And.intro @zaor @zaqy)))) (And.intro (And.intro (And.intro @vb22 @vb24) (And.intro @zalv (And.intro @vb25 @zakr))) (And.intro (And.intro @zasp @vb99) (And.intro @zace (And.intro @zahx @vb132))))) (And.intro (And.intro (And.intro (And.intro @sz132 @vzl132) (And.intro @zaht @mi132)) (And.intro (And.intro @tn132 @tt132) (And.intro @be4 (And.intro @bn4 @sn24)))) (And.intro (And.intro (And.intro @se25 @sn25) (And.intro @zapx (And.intro @zant @zaat))) (And.intro (And.intro @eI_eq @zakp) (And.intro @eB_eq (And.intro @eS_eq @zajs))))))))
def tynrm := (And.intro (And.intro @zan.norm (And.intro @zan.normL @zan.shown)) (And.intro (And.intro @zbe.normL @zbe.showL) (And.intro @zeo.norm @zeo.shown)))
def tytre := (And.intro @zan.treeL (And.intro @zbe.treeL @zeo.tree))
end Go.V
namespace Go.V
open Go Go.Proofs
theorem ktA {P : Program} {G : Glob} {d : Option Tmp} {γ : Nat} {tm : Nat → VV} {H : Nat → Option VObj} {nx : Nat} {df : List VDef} {K : St → Prop} {Qp : VV → St → Prop} {f : FuncId} {args args0 : List VV} {x : VV} (hp : VPure P G f args0 (.tree x)) (h : fin d γ tm H nx df K x .none) (hn : normL args = args0 := by first | (simp only [nrm, tynrm] <;> rfl) | rfl) (ht : treeL args = true := by simp only [tre, tytre, Bool.and_self]) : callK P G f args ⟨tm, H, nx, df⟩ d γ K Qp := ktree hn ht hp h
theorem dktA {P : Program} {G : Glob} {d : Option Tmp} {γ : Nat} {tm : Nat → VV} {H : Nat → Option VObj} {nx : Nat} {df : List VDef} {K : List Nat → List Nat → St → Prop} {f : FuncId} {args args0 : List VV} {x : VV} (hp : VPure P G f args0 (.tree x)) (h : fin d γ tm H nx df (K [] []) x .none) (hn : normL args = args0 := by first | (simp only [nrm, tynrm] <;> rfl) | rfl) (ht : treeL args = true := by simp only [tre, tytre, Bool.and_self]) : dcallK P G f args tm H nx df d γ K := dktree hn ht hp h
theorem optI {α β : Type} {K : Option β → Prop} {X : Option α} {F : α → Option β} (h : K (Option.bind X F)) (kN : ¬ K none) : ∃ r, X = some r ∧ K (F r) := by
  cases X with
  | none => exact absurd h kN
  | some r => exact ⟨r, rfl, h⟩
end Go.V
end
section
namespace Go.V
open Go
def Dec (P : Program) (n : Nat) (t : TypeId) {α : Type} (enc : α → List VV) (R : α → Prop) : Prop := ∀ xs, ShapeT P n t xs → ∃ x : α, R x ∧ normL xs = enc x
theorem zapa {P : Program} {n : Nat} {t : TypeId} (hu : P.underlying t = some (.int .i64)) : Dec P (n + 1) t eI (fun _ => True) := by
 intro xs h
 simp only [ShapeT, hu] at h
 obtain ⟨i, _, rfl⟩ := h
 exact ⟨i, trivial, by simp only [zhp, zix, zyb, eI]⟩
theorem zafb {P : Program} {n : Nat} {t : TypeId} {α : Type} {enc : α → List VV} {R : α → Prop} (h : Dec P n t enc R) : ∀ yss : List (List VV), (∀ ys ∈ yss, ShapeT P n t ys) → ∃ l : List α, l.length = yss.length ∧ (∀ x ∈ l, R x) ∧ normL yss.flatten = cellsL enc l
 | [], _ => ⟨[], rfl, fun _ hx => (by cases hx), rfl⟩
 | ys :: yss, hs => by
  obtain ⟨x, hx, e⟩ := h ys (hs ys (List.mem_cons_self ..))
  obtain ⟨l, h1, h2, h3⟩ := zafb h yss (fun y hy => hs y (List.mem_cons_of_mem _ hy))
  refine ⟨x :: l, by simp [h1], fun y hy => ?_, by rw [List.flatten_cons, zep, e, h3, zew]⟩
  rcases List.mem_cons.1 hy with rfl | hy
  ·exact hx
  ·exact h2 y hy
theorem zri {P : Program} {n : Nat} {t e : TypeId} {α : Type} {enc : α → List VV} {R : α → Prop} (hu : P.underlying t = some (.slice e)) (h : Dec P n e enc R) : Dec P (n + 1) t (fun l : List α => [.sl (cellsL enc l) l.length false]) (fun l => lenOk l = true ∧ ∀ x ∈ l, R x) := by
 intro xs hs
 simp only [ShapeT, hu] at hs
 rcases hs with rfl | ⟨yss, hl, hall, rfl⟩
 ·exact ⟨[], ⟨rfl, fun _ hx => (by cases hx)⟩, by simp only [zhp, zix, zye]; rfl⟩
 ·obtain ⟨l, h1, h2, h3⟩ := zafb h yss hall
  refine ⟨l, ⟨?_, h2⟩, by simp only [zhp, zix, zaey, h3, h1]⟩
  have : maxLen = 9223372036854775807 := by decide
  unfold lenOk
  exact decide_eq_true (by omega)
theorem zafg {P : Program} {n : Nat} {t : TypeId} {fs : Array Field} {xs : List VV} (hu : P.underlying t = some (.struct fs)) (h : ShapeT P (n + 1) t xs) : ∃ yss, FieldsS (ShapeT P n) fs.toList yss ∧ xs = yss.flatten := by
 simp only [ShapeT, hu] at h
 exact h
def TypesS (S : TypeId → List VV → Prop) : List TypeId → List (List VV) → Prop
 | [], [] => True
 | t :: ts, ys :: yss => S t ys ∧ TypesS S ts yss
 | _, _ => False
theorem zacf {S : TypeId → List VV → Prop} : ∀ (fs : List Field) (yss : List (List VV)), FieldsS S fs yss → TypesS S (fs.map Field.type) yss
 | [], [], _ => trivial
 | f :: fs, ys :: yss, ⟨h1, h2⟩ => ⟨h1, zacf fs yss h2⟩
 | [], _ :: _, h => h
 | _ :: _, [], h => h
theorem zmc {P : Program} {n : Nat} {t : TypeId} {fs : Array Field} {ts : List TypeId} {xs : List VV} (hu : P.underlying t = some (.struct fs)) (ht : fs.toList.map Field.type = ts) (h : ShapeT P (n + 1) t xs) : ∃ yss, TypesS (ShapeT P n) ts yss ∧ xs = yss.flatten := by
 obtain ⟨yss, h1, h2⟩ := zafg hu h
 exact ⟨yss, ht ▸ zacf _ _ h1, h2⟩
theorem zyj {S : TypeId → List VV → Prop} {e : TypeId} : ∀ (yss : List (List VV)), (∀ ys ∈ yss, S e ys) → TypesS S (List.replicate yss.length e) yss
 | [], _ => trivial
 | ys :: yss, h => ⟨h ys (List.mem_cons_self ..), zyj yss fun z hz => h z (List.mem_cons_of_mem _ hz)⟩
theorem zyv {P : Program} {n : Nat} {t e : TypeId} {m : Nat} {ts : List TypeId} {xs : List VV} (hu : P.underlying t = some (.array m e)) (ht : List.replicate m e = ts) (h : ShapeT P (n + 1) t xs) : ∃ yss, TypesS (ShapeT P n) ts yss ∧ xs = yss.flatten := by
 simp only [ShapeT, hu] at h
 obtain ⟨yss, h1, h2, h3⟩ := h
 refine ⟨yss, ?_, h3⟩
 rw [← ht, ← h1]
 exact zyj yss h2
theorem znx {P : Program} {n : Nat} {t : TypeId} {ts : List TypeId} {xs : List VV} (h : ArgsS P n (t :: ts) xs) : ∃ x xs', xs = x :: xs' ∧ ArgS P n t x ∧ ArgsS P n ts xs' := by
 match xs, h with
 | x :: xs', h => exact ⟨x, xs', rfl, h.1, h.2⟩
theorem zagl {P : Program} {n : Nat} {xs : List VV} (h : ArgsS P n [] xs) : xs = [] := by
 match xs, h with
 | [], _ => rfl
theorem zvd {P : Program} {n : Nat} {t : TypeId} {fs : Array Field} {x : VV} {α : Type} {enc : α → List VV} {R : α → Prop} (hu : P.underlying t = some (.struct fs)) (hd : Dec P n t enc R) (h : ArgS P n t x) : ∃ s, R s ∧ normV x = .agg (enc s) := by
 obtain ⟨ys, h1, h2⟩ := h
 rw [hu] at h2
 obtain rfl : x = .agg ys := h2
 obtain ⟨s, hs, e⟩ := hd ys h1
 exact ⟨s, hs, by rw [zyn, e]⟩
theorem zami {P : Program} {n : Nat} {t : TypeId} {d : TypeDesc} {x : VV} {α : Type} {enc : α → List VV} {R : α → Prop} (hu : P.underlying t = some d) (hn : (∀ fs, d ≠ .struct fs) ∧ ∀ m e, d ≠ .array m e) (hd : Dec P n t enc R) (h : ArgS P n t x) : ∃ s, R s ∧ [normV x] = enc s := by
 obtain ⟨ys, h1, h2⟩ := h
 rw [hu] at h2
 have h3 : ys = [x] := by
  cases d <;> first | exact h2 | exact absurd rfl (hn.1 _) | exact absurd rfl (hn.2 _ _)
 subst h3
 obtain ⟨s, hs, e⟩ := hd _ h1
 exact ⟨s, hs, by rw [← e, zhp, zix]⟩
end Go.V
end
section
set_option maxRecDepth 100000
namespace Go.V
open Go Go.Proofs
def znd (x : Gs) : Prop := lenOk x.Tins = true
def zna (x : Gu) : Prop := lenOk x.Tins = true
section
variable {P : Program} (hu3 : P.underlying 3 = some (.int .i64)) (hu22 : P.underlying 22 = some (.array 3 3)) {f24 : Array Field} (hu24 : P.underlying 24 = some (.struct f24)) (ht24 : f24.toList.map Field.type = [3, 3]) (hu25 : P.underlying 25 = some (.array 3 24)) {f94 : Array Field} (hu94 : P.underlying 94 = some (.struct f94)) (ht94 : f94.toList.map Field.type = [25]) (hu26 : P.underlying 26 = some (.slice 94)) {f28 : Array Field} (hu28 : P.underlying 28 = some (.struct f28)) (ht28 : f28.toList.map Field.type = [22, 25, 24, 3, 26]) (hu29 : P.underlying 29 = some (.slice 3)) (hu40 : P.underlying 40 = some (.slice 22)) {f42 : Array Field} (hu42 : P.underlying 42 = some (.struct f42)) (ht42 : f42.toList.map Field.type = [40, 3, 22])
include hu3 hu22 hu24 ht24 hu25 hu94 ht94 hu26 hu28 ht28 hu29 hu40 hu42 ht42
theorem gd_3 {n : Nat} : Dec P (n + 1) 3 eI (fun _ => True) := zapa hu3
theorem gd_22 {n : Nat} : Dec P (n + 2) 22 cGi (fun _ => True) := by
 intro xs h
 obtain ⟨yss, hf, rfl⟩ := zyv (n := n + 1) (ts := [3, 3, 3]) hu22 rfl h
 match yss, hf with
 | [y0, y1, y2], ⟨h0, h1, h2, _⟩ =>
  obtain ⟨x0, r0, e0⟩ := gd_3 hu3 hu22 hu24 ht24 hu25 hu94 ht94 hu26 hu28 ht28 hu29 hu40 hu42 ht42 (n := n + 0) _ h0
  obtain ⟨x1, r1, e1⟩ := gd_3 hu3 hu22 hu24 ht24 hu25 hu94 ht94 hu26 hu28 ht28 hu29 hu40 hu42 ht42 (n := n + 0) _ h1
  obtain ⟨x2, r2, e2⟩ := gd_3 hu3 hu22 hu24 ht24 hu25 hu94 ht94 hu26 hu28 ht28 hu29 hu40 hu42 ht42 (n := n + 0) _ h2
  exact ⟨⟨x0, x1, x2⟩, trivial, by simp only [List.flatten_cons, List.flatten_nil, List.append_nil, zep, e0, e1, e2, eI, eU8, eB, eS, eSl, zhr, List.cons_append, List.nil_append]⟩
theorem gd_24 {n : Nat} : Dec P (n + 2) 24 cGSpan (fun _ => True) := by
 intro xs h
 obtain ⟨yss, hf, rfl⟩ := zmc (n := n + 1) (ts := [3, 3]) hu24 ht24 h
 match yss, hf with
 | [y0, y1], ⟨h0, h1, _⟩ =>
  obtain ⟨x0, r0, e0⟩ := gd_3 hu3 hu22 hu24 ht24 hu25 hu94 ht94 hu26 hu28 ht28 hu29 hu40 hu42 ht42 (n := n + 0) _ h0
  obtain ⟨x1, r1, e1⟩ := gd_3 hu3 hu22 hu24 ht24 hu25 hu94 ht94 hu26 hu28 ht28 hu29 hu40 hu42 ht42 (n := n + 0) _ h1
  exact ⟨⟨x0, x1⟩, trivial, by simp only [List.flatten_cons, List.flatten_nil, List.append_nil, zep, e0, e1, eI, eU8, eB, eS, eSl, zib, List.cons_append, List.nil_append]⟩
theorem gd_25 {n : Nat} : Dec P (n + 3) 25 cGa (fun _ => True) := by
 intro xs h
 obtain ⟨yss, hf, rfl⟩ := zyv (n := n + 2) (ts := [24, 24, 24]) hu25 rfl h
 match yss, hf with
 | [y0, y1, y2], ⟨h0, h1, h2, _⟩ =>
  obtain ⟨x0, r0, e0⟩ := gd_24 hu3 hu22 hu24 ht24 hu25 hu94 ht94 hu26 hu28 ht28 hu29 hu40 hu42 ht42 (n := n + 0) _ h0
  obtain ⟨x1, r1, e1⟩ := gd_24 hu3 hu22 hu24 ht24 hu25 hu94 ht94 hu26 hu28 ht28 hu29 hu40 hu42 ht42 (n := n + 0) _ h1
  obtain ⟨x2, r2, e2⟩ := gd_24 hu3 hu22 hu24 ht24 hu25 hu94 ht94 hu26 hu28 ht28 hu29 hu40 hu42 ht42 (n := n + 0) _ h2
  exact ⟨⟨x0, x1, x2⟩, trivial, by simp only [List.flatten_cons, List.flatten_nil, List.append_nil, zep, e0, e1, e2, eI, eU8, eB, eS, eSl, zfx, zib, List.cons_append, List.nil_append]⟩
theorem gd_94 {n : Nat} : Dec P (n + 4) 94 cGt (fun _ => True) := by
 intro xs h
 obtain ⟨yss, hf, rfl⟩ := zmc (n := n + 3) (ts := [25]) hu94 ht94 h
 match yss, hf with
 | [y0], ⟨h0, _⟩ =>
  obtain ⟨x0, r0, e0⟩ := gd_25 hu3 hu22 hu24 ht24 hu25 hu94 ht94 hu26 hu28 ht28 hu29 hu40 hu42 ht42 (n := n + 0) _ h0
  exact ⟨⟨x0⟩, trivial, by simp only [List.flatten_cons, List.flatten_nil, List.append_nil, zep, e0, eI, eU8, eB, eS, eSl, zfx, zib, zgo, List.cons_append, List.nil_append]⟩
theorem gd_26 {n : Nat} : Dec P (n + 5) 26 (eSl cGt) (fun l => lenOk l = true ∧ ∀ x ∈ l, True) := zri hu26 (gd_94 hu3 hu22 hu24 ht24 hu25 hu94 ht94 hu26 hu28 ht28 hu29 hu40 hu42 ht42 (n := n))
theorem gd_28 {n : Nat} : Dec P (n + 6) 28 cGs (znd) := by
 intro xs h
 obtain ⟨yss, hf, rfl⟩ := zmc (n := n + 5) (ts := [22, 25, 24, 3, 26]) hu28 ht28 h
 match yss, hf with
 | [y0, y1, y2, y3, y4], ⟨h0, h1, h2, h3, h4, _⟩ =>
  obtain ⟨x0, r0, e0⟩ := gd_22 hu3 hu22 hu24 ht24 hu25 hu94 ht94 hu26 hu28 ht28 hu29 hu40 hu42 ht42 (n := n + 3) _ h0
  obtain ⟨x1, r1, e1⟩ := gd_25 hu3 hu22 hu24 ht24 hu25 hu94 ht94 hu26 hu28 ht28 hu29 hu40 hu42 ht42 (n := n + 2) _ h1
  obtain ⟨x2, r2, e2⟩ := gd_24 hu3 hu22 hu24 ht24 hu25 hu94 ht94 hu26 hu28 ht28 hu29 hu40 hu42 ht42 (n := n + 3) _ h2
  obtain ⟨x3, r3, e3⟩ := gd_3 hu3 hu22 hu24 ht24 hu25 hu94 ht94 hu26 hu28 ht28 hu29 hu40 hu42 ht42 (n := n + 4) _ h3
  obtain ⟨x4, r4, e4⟩ := gd_26 hu3 hu22 hu24 ht24 hu25 hu94 ht94 hu26 hu28 ht28 hu29 hu40 hu42 ht42 (n := n + 0) _ h4
  exact ⟨⟨x0, x1, x2, x3, x4⟩, r4.1, by simp only [List.flatten_cons, List.flatten_nil, List.append_nil, zep, e0, e1, e2, e3, e4, eI, eU8, eB, eS, eSl, zfx, zhr, zib, zgj, List.cons_append, List.nil_append]⟩
theorem gd_29 {n : Nat} : Dec P (n + 2) 29 (eSl eI) (fun l => lenOk l = true ∧ ∀ x ∈ l, True) := zri hu29 (gd_3 hu3 hu22 hu24 ht24 hu25 hu94 ht94 hu26 hu28 ht28 hu29 hu40 hu42 ht42 (n := n))
theorem gd_40 {n : Nat} : Dec P (n + 3) 40 (eSl cGi) (fun l => lenOk l = true ∧ ∀ x ∈ l, True) := zri hu40 (gd_22 hu3 hu22 hu24 ht24 hu25 hu94 ht94 hu26 hu28 ht28 hu29 hu40 hu42 ht42 (n := n))
theorem gd_42 {n : Nat} : Dec P (n + 4) 42 cGu (zna) := by
 intro xs h
 obtain ⟨yss, hf, rfl⟩ := zmc (n := n + 3) (ts := [40, 3, 22]) hu42 ht42 h
 match yss, hf with
 | [y0, y1, y2], ⟨h0, h1, h2, _⟩ =>
  obtain ⟨x0, r0, e0⟩ := gd_40 hu3 hu22 hu24 ht24 hu25 hu94 ht94 hu26 hu28 ht28 hu29 hu40 hu42 ht42 (n := n + 0) _ h0
  obtain ⟨x1, r1, e1⟩ := gd_3 hu3 hu22 hu24 ht24 hu25 hu94 ht94 hu26 hu28 ht28 hu29 hu40 hu42 ht42 (n := n + 2) _ h1
  obtain ⟨x2, r2, e2⟩ := gd_22 hu3 hu22 hu24 ht24 hu25 hu94 ht94 hu26 hu28 ht28 hu29 hu40 hu42 ht42 (n := n + 1) _ h2
  exact ⟨⟨x0, x1, x2⟩, r0.1, by simp only [List.flatten_cons, List.flatten_nil, List.append_nil, zep, e0, e1, e2, eI, eU8, eB, eS, eSl, zhr, zgh, List.cons_append, List.nil_append]⟩
end
theorem zauc {n : Nat} : Dec Tryz.prog (n + 6) 28 cGs (znd) := gd_28 Tryz.underlying3 Tryz.underlying22 Tryz.underlying24 (by kernel_rfl) Tryz.underlying25 Tryz.underlying94 (by kernel_rfl) Tryz.underlying26 Tryz.underlying28 (by kernel_rfl) Tryz.underlying29 Tryz.underlying40 Tryz.underlying42 (by kernel_rfl)
theorem zari {n : Nat} : Dec Tryz.prog (n + 2) 29 (eSl eI) (fun l => lenOk l = true ∧ ∀ x ∈ l, True) := gd_29 Tryz.underlying3 Tryz.underlying22 Tryz.underlying24 (by kernel_rfl) Tryz.underlying25 Tryz.underlying94 (by kernel_rfl) Tryz.underlying26 Tryz.underlying28 (by kernel_rfl) Tryz.underlying29 Tryz.underlying40 Tryz.underlying42 (by kernel_rfl)
theorem zatc {n : Nat} : Dec Tryz.prog (n + 4) 42 cGu (zna) := gd_42 Tryz.underlying3 Tryz.underlying22 Tryz.underlying24 (by kernel_rfl) Tryz.underlying25 Tryz.underlying94 (by kernel_rfl) Tryz.underlying26 Tryz.underlying28 (by kernel_rfl) Tryz.underlying29 Tryz.underlying40 Tryz.underlying42 (by kernel_rfl)
end Go.V
end
section
namespace Go.V
open Go
def goB (b : Bool) : Option (LOut Bool Unit) := cond b (some (.go ())) (some (.ret false))
theorem zkg (a b : Bool) : goB (a && b) = cond a (goB b) (some (.ret false)) := by cases a <;> rfl
theorem cnot {α : Type} (a : Bool) (x y : α) : cond (!a) x y = cond a y x := by cases a <;> rfl
theorem csome (a b : Bool) : cond a (some b) (some false) = some (a && b) := by cases a <;> rfl
theorem zji {X : Type} (b : Bool) (kr : Bool → Option X) (kg : Unit → Option X) (kb : Nat → Unit → Option X) : lbind (goB b) kr kg kb = cond b (kg ()) (kr false) := by cases b <;> rfl
def inB (a b n : Int) : Bool := decide (a ≤ n) && decide (n ≤ b)
theorem zkw {a b n : Int} : inB a b n = true ↔ a ≤ n ∧ n ≤ b := by simp [inB]
theorem zci {n : Int} (h1 : -9223372036854775808 ≤ n) (h2 : n < 9223372036854775808) : IntKind.i64.wrap n = n := IntWalk.i64_in _ (by omega)
theorem zic {α : Type} {xs : List α} (h : xs.length < 9223372036854775808) : lenOk xs = true := by simpa [lenOk] using h
theorem zaie {α : Type} {xs : List α} (h : 1 ≤ xs.length) (h2 : xs.length < 9223372036854775808) : getI xs (IntKind.i64.wrap ((xs.length : Int) - 1)) = xs.getLast? := by
 rw [zci (by omega) (by omega)]
 unfold getI
 rw [if_pos (by omega), List.getLast?_eq_getElem?]
 congr 1
 omega
theorem mulR {a b A B : Int} (h1 : 0 ≤ a) (h2 : a ≤ A) (h3 : 0 ≤ b) (h4 : b ≤ B) : 0 ≤ a * b ∧ a * b ≤ A * B :=
 ⟨Int.mul_nonneg h1 h3, Int.mul_le_mul h2 h4 h3 (Int.le_trans h1 h2)⟩
end Go.V
end
section
namespace Go.V
def ea : Option Bool → Bool | none => true | some b => b
def eo : Option Bool → Bool | none => false | some b => b
end Go.V
end
section
namespace Go.V
open Go Go.Proofs
def zcb (x0_least : Int) (x1_n : Int) (x2_most : Int) : Option (Bool) := cond (decide (x0_least ≤ x1_n)) (some (decide (x1_n ≤ x2_most))) (some false)
theorem zck (x0_least : Int) (x1_n : Int) (x2_most : Int) (R : Bool) (h : zcb x0_least x1_n x2_most = some R) : VPure Tryz.prog G0 92 [.lit (.int .i64 x0_least), .lit (.int .i64 x1_n), .lit (.int .i64 x2_most)] (.tree (.lit (.bool R))) := by
 refine VPure.runR mixed Tryz.call92 Tryz.func92 rfl (by simp [Tryz.ntmps92]; kernel_rfl) ?_
 obtain ⟨KF, h, kF, kN⟩ := zaj h
 simp only [zcb] at h
 cases d1 : (decide (x0_least ≤ x1_n))
 ·simp only [d1, hs] at h
  try simp only [vz, tyf, d1, nm, seval]
  obtain rfl := kF _ h
  exact zaa Tryz.results92 rfl
 simp only [d1, hs] at h
 try simp only [vz, tyf, d1, nm, seval]
 obtain rfl := kF _ h
 exact zaa Tryz.results92 rfl
end Go.V
end
