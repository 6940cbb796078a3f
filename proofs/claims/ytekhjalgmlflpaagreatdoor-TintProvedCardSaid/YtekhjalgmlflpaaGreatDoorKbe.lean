/- Part of a proof. -/
import Derived.Test.YtekhjalgmlflpaaGreatDoorKbd
import Derived.Test.YtekhjalgmlflpaaGreatDoorKaw
import Derived.Test.YtekhjalgmlflpaaGreatDoorProg
set_option linter.all false
set_option maxRecDepth 4000
set_option maxHeartbeats 40000000
section
namespace Go.V
open Go Go.Proofs
def neB {α : Type} (xs : List α) : Bool := !xs.isEmpty
theorem SV {α : Type} {xs : List α} (h : neB xs = true) : 0 < xs.length := by
 cases xs with
 | nil => cases h
 | cons a l => exact Nat.succ_pos _
section
variable {P : Program} {H : Nat → Option VObj} {γ : Nat} {α : Type} {enc : α → List VV} {t t2 e e2 w b : Nat} {xs ys : List α} {el : Option TypeId} {β : Nat} {f : Bool} {k : VV → VEff → Prop}
theorem Q5 (he : ∀ x, (enc x).length = w) (hl : ∀ x, leafL (enc x) = true) (ha : appOk P t = some (e, w, b)) (kH : P.underlying t2 = some (.slice e2)) (hb : H β = some (.cells el (aa enc xs)))
  (hm : neB ys = true) (hr : roomOk b (xs ++ ys).length = true) (h : k (.ref γ 0 (xs ++ ys).length w (xs ++ ys).length) (.mv β (sameEl el e) (aa enc (xs ++ ys)))) :
  oeK (vappend P H γ t t2 (.ref β 0 xs.length w xs.length) (.sl (aa enc ys) ys.length f)) k := by
 have hm := SV hm
 obtain ⟨hu, inf, z, hi, hz, rfl, rfl, CK, CL, hzs⟩ := OX ha
 have hr' : (xs.length + ys.length) * inf.bytes ≤ 140737488355328 := by simpa [roomOk] using hr
 have h4 : (aa enc ys).all VV.leaf = true := by rw [Bp]; exact Gh hl ys
 have h2 := pc he ys
 have h1 := pc he xs
 have h5 : (aa enc ys).take (ys.length * inf.size) = aa enc ys := List.take_of_length_le (by omega)
 have h6 : ¬ (xs.length + ys.length ≤ xs.length) := by omega
 have key : vappend P H γ t t2 (.ref β 0 xs.length inf.size xs.length) (.sl (aa enc ys) ys.length f) = some (.ref γ 0 (xs ++ ys).length inf.size (xs ++ ys).length, .mv β (sameEl el e) (aa enc (xs ++ ys))) := by
  simp only [vappend, nilS, vappend1, hu, kH, hi, hz, srcV, sls, h5, h4, CK, CL, hzs, hb]
  simp [h2, h6, h1, hr', Gj]
 rw [key]
 exact h
end
theorem Q4 {P : Program} {H : Nat → Option VObj} {t e : TypeId} {x y : Operand} {cs : List VV} {n : Nat} {f : Bool} (hu : P.underlying t = some (.slice e)) (hc : cs ≠ []) : binV P H .eql t x y (.sl cs n f) (.lit (.slice none 0 0)) = some (.lit (.bool false)) := by
 simp [binV, VV.val?, vptrEq, vptrEq.eq1, hu, hc]
end Go.V
end
section
set_option linter.defProp false
namespace Go.V
open Go Go.Proofs
section
variable {P : Program} {G : Glob} {n : Nat} {x : Code} {Q : VExit → St → Prop} {st : St}
end
end Go.V
end
section
set_option linter.defProp false
namespace Go.V
open Go Go.Proofs
section
variable {P : Program} {G : Glob} {n : Nat} {Q : VExit → St → Prop} {tm : Nat → VV} {H : Nat → Option VObj} {nx : Nat} {df : List VDef} {g : Operand} {ps : Array Tmp} {az bo : Code} {f : FuncId} {first captured : List VV}
theorem On (hg : ev (G.at (some none)) tm g = .fn (.func f) first captured)
  (h : ∀ LO, LO = VObj.loop .ready none (tmL n tm) ps az bo nx → aB P (G.at (some none)) f (first ++ [.yl (nx + 1)] ++ captured) (updH (updH H nx (.deferred (some []))) (nx + 1) LO) (nx + 2)
   (fun _ H' nx' => RangeEnd P (G.at (some none)) n Q ⟨tm, H, nx, df⟩ H' nx') (fun x H' nx' => Q (.panic x) ⟨tm, H', nx', .coll nx :: df⟩)) : CWp P (G.at (some none)) n (.rangeFunc g ps az bo) Q ⟨tm, H, nx, df⟩ := by
 unfold CWp
 refine ⟨rfl, ?_⟩
 rw [show St.ρ (G.at (some none)) ⟨tm, H, nx, df⟩ g = ev (G.at (some none)) tm g from ev_eq .. ▸ rfl, hg]
 exact h _ rfl
theorem uc {H' : Nat → Option VObj} {nx' : Nat} {LO : VObj} {tml : List VV} {d : Nat} (hL : LO = VObj.loop .ready none tml ps az bo d) (h : H' (nx + 1) = some LO) (hq : ∀ LX, Q .normal ⟨tm, updH H' (nx + 1) LX, nx', .coll nx :: df⟩) : RangeEnd P G n Q ⟨tm, H, nx, df⟩ H' nx' :=
 ⟨.ready, none, tml, ps, az, bo, d, by rw [h, hL], by simp, hq _⟩
theorem CQ {H' : Nat → Option VObj} {nx' : Nat} {LD : Code → VObj} {tml : List VV} {d : Nat} (hL : LD = fun c => VObj.loop .done (some c) tml ps az bo d) (h : H' (nx + 1) = some (LD .ret)) (hq : ∀ LX, Q .ret ⟨tm, updH H' (nx + 1) LX, nx', .coll nx :: df⟩) : RangeEnd P G n Q ⟨tm, H, nx, df⟩ H' nx' :=
 ⟨.done, some .ret, tml, ps, az, bo, d, by rw [h, hL], by simp, VWp.ret (hq _)⟩
def RndEnd (β : Nat) (LB LO : VObj) (LD : Code → VObj) (o : Oper) (st : St) (K : St → Prop) : VExit → St → Prop
 | .normal, s2 => s2.H β = some LB ∧ K { st.put o.dst (.lit (.bool true)) with H := updH s2.H β LO, nx := s2.nx }
 | .ret, s2 => s2.H β = some LB ∧ K { st.put o.dst (.lit (.bool false)) with H := updH s2.H β (LD .ret), nx := s2.nx }
 | .exit id, s2 => s2.H β = some LB ∧ K { st.put o.dst (.lit (.bool false)) with H := updH s2.H β (LD (.exit id)), nx := s2.nx }
 | _, _ => False
def RndAs (P : Program) (G : Glob) (n β : Nat) (LB LO : VObj) (LD : Code → VObj) (bo : Code) (o : Oper) (st : St) (K : St → Prop) : VExit → St → Prop
 | .normal, s1 => s1.H β = some LO ∧ CWp P (G.at (some (some β))) n bo (RndEnd β LB LO LD o st K) { s1 with H := updH s1.H β LB }
 | _, _ => False
theorem Om (hm : P.follows .mixedOrders = true) {o : Oper} {β : Nat} {args : List VV} {st : St} {K : St → Prop} {LO : VObj} {tml : List VV} {d : Nat} {psl : List Tmp} (hL : LO = VObj.loop .ready none tml ⟨psl⟩ az bo d) (hβ : st.H β = some LO) (hn : tml.length = n) (ha : args.length = psl.length)
  (h1 : codeOk n az = true) (h2 : codeOk n bo = true)
  (h : ∀ LB LD, LB = VObj.loop .busy none tml ⟨psl⟩ az bo d → LD = (fun c => VObj.loop .done (some c) tml ⟨psl⟩ az bo d) →
   CWp P (G.at (some (some β))) n az (RndAs P G n β LB LO LD bo o st K) ⟨aO (roundTm tml psl args), st.H, st.nx, []⟩) : yieldK P G o β args st K := by
 unfold yieldK
 rw [hβ, hL]
 subst hn
 refine ⟨ha, (nt hm az _ _ h1 (h _ _ rfl rfl)).mono ?_⟩
 intro e s1 hs
 cases e with
 | normal =>
  obtain ⟨q1, q2⟩ := hs
  refine ⟨none, tml, ⟨psl⟩, az, bo, d, by rw [q1, hL], (nt hm bo _ _ h2 q2).mono ?_⟩
  intro e s2 lQ
  cases e with
  | normal =>
   obtain ⟨r1, r2⟩ := lQ
   refine ⟨_, _, _, _, _, _, _, r1, ?_⟩
   rw [hL] at r2
   exact r2
  | ret =>
   obtain ⟨r1, r2⟩ := lQ
   exact ⟨_, _, _, _, _, _, _, r1, r2⟩
  | exit id =>
   obtain ⟨r1, r2⟩ := lQ
   exact ⟨_, _, _, _, _, _, _, r1, r2⟩
  | goto l => exact lQ.elim
  | panic x => exact lQ.elim
 | _ => exact hs.elim
theorem w2 {m t p : Nat} {x : VV} (h : t < m) : aO (roundTm (tmL m tm) [p] [x]) t = if t = p then x else tm t := by
 unfold aO roundTm tmL
 simp only [List.zip_cons_cons, List.zip_nil_right, List.foldl_cons, List.foldl_nil]
 by_cases hp : t = p
 ·subst hp
  rw [if_pos rfl]
  simp [h]
 ·rw [if_neg hp]
  simp [List.getElem?_set, h, Ne.symm hp]
theorem w4 {m t : Nat} (h : t < m) : aO (roundTm (tmL m tm) [] []) t = tm t := by
 unfold aO roundTm tmL
 simp [h]
theorem wz {m : Nat} : (tmL m tm).length = m := by simp [tmL]
theorem w1 {code : Code} (F : (Nat → VV) → Prop) (hF : F tm) (h : ∀ tm, F tm → CWp P G n code Q ⟨tm, H, nx, df⟩) : CWp P G n code Q ⟨tm, H, nx, df⟩ := h tm hF
theorem SW {β : Nat} : vcells (.yl β) = some [.yl β] := rfl
theorem SX {β : Nat} : (VV.yl β).leaf = true := rfl
theorem ad.at {x : Option (Option Nat)} {args : List VV} {r : PRes} (h : ad P G f args r) : ad P (G.at x) f args r := h
def rg := (And.intro @SW (And.intro @SX @IM))
theorem rA {fn : Func} {R Rp : VV → (Nat → Option VObj) → Nat → Prop} {β : Nat} (h : H β = some (.deferred (some []))) (h2 : OpenPostD P G fn R Rp .ret ⟨tm, updH H β (.deferred none), nx, df⟩) : OpenPostD P G fn R Rp .ret ⟨tm, H, nx, .coll β :: df⟩ := ⟨h, h2⟩
theorem Pb {fn : Func} {R Rp : VV → (Nat → Option VObj) → Nat → Prop} {β : Nat} (h : H β = some (.deferred (some []))) (h2 : OpenPostD P G fn R Rp .normal ⟨tm, updH H β (.deferred none), nx, df⟩) : OpenPostD P G fn R Rp .normal ⟨tm, H, nx, .coll β :: df⟩ := ⟨h, h2⟩
end
end Go.V
end
section
namespace Go.V
open Go Go.Proofs
section
variable {P : Program} {G : Glob} {f : FuncId} {β γ w c nx : Nat} {tm : Nat → VV} {H : Nat → Option VObj} {df : List VDef} {d : Option Tmp} {K : List Nat → List Nat → St → Prop} {el : Option TypeId} {α : Type} {enc : α → List VV} {xs ys : List α} {x : VV}
end
section
variable {P : Program} {G : Glob} {β γ w e : Nat} {t ty : TypeId} {tm : Nat → VV} {H : Nat → Option VObj} {d : Option Tmp} {k : VV → VEff → Prop} {el : Option TypeId} {α : Type} {enc : α → List VV} {xs ys : List α} {pos : String} {af : Array Edge} {g : Option (Nat × Bool)} {x : Operand} {lo hi : Option Operand}
end
section
variable {P : Program} {G : Glob} {f : FuncId} {γ nx : Nat} {tm : Nat → VV} {H : Nat → Option VObj} {df : List VDef} {d : Option Tmp} {x : VV}
theorem ktree0 {K : St → Prop} {Qp : VV → St → Prop} (hp : ad P G f [] (.tree x)) (h : fin d γ tm H nx df K x .none) : callK P G f [] ⟨tm, H, nx, df⟩ d γ K Qp := ktree (args0 := []) rfl rfl hp h
end
end Go.V
end
section
namespace Go.V
open Go Go.Proofs
variable {P : Program} {G : Glob} {β γ w e n off : Nat} {t ty : TypeId} {tm : Nat → VV} {H : Nat → Option VObj} {d : Option Tmp} {k : VV → VEff → Prop} {el : Option TypeId} {cs : List VV} {pos : String} {af : Array Edge} {g : Option (Nat × Bool)} {x : Operand}
theorem k_slA (hu : P.underlying t = some (.array n e)) (hs : szT P e = some w) (hx : ev G tm x = .ptr β off) (hH : H β = some (.cells el cs)) (hn : 0 < n) (hle : off + n * w ≤ cs.length)
  (h : k (.ref β off n w n) .none) : oeK (vop P ⟨d, .slice t x none none none, ty, pos, af, g⟩ (ev G tm) H γ) k := by
 have e1 : vslice P H t (.ptr β off) none none none = none := by simp [vslice, hu]
 have e3 : vsliceX P H t (.ptr β off) none none none = some (.ref β off n w n) := by simp [vsliceX, hu, hH, hs, vbound, hn, hle]
 have e2 : vop P ⟨d, .slice t x none none none, ty, pos, af, g⟩ (ev G tm) H γ = some (.ref β off n w n, .none) := by
  simp [vop, hu, hx, e1, e3]
 rw [e2]
 exact h
end Go.V
namespace Go.V
open Go Go.Proofs
theorem Xs {H : Nat → Option VObj} {k : Nat} {x : VV} {xs : List VV} : aT H (k + 1) (x :: xs) = (match sealV H k x, aT H k xs with | some y, some ys => some (y :: ys) | _, _ => none) := by
 simp only [aT]
 rfl
theorem Xt {H : Nat → Option VObj} {k : Nat} {x : VV} {xs : List VV} : nmL H (k + 1) (x :: xs) = nmV H k x ++ nmL H k xs := by simp only [nmL]
end Go.V
end
section
namespace Go.V
open Go Go.Proofs
theorem mixed : Tryz.prog.follows .mixedOrders = true := by kernel_rfl
structure Gi where
 a0 : Int
 a1 : Int
 a2 : Int
 deriving Inhabited, DecidableEq
def cGi (x : Gi) : List VV := [.lit (.int .i64 x.a0), .lit (.int .i64 x.a1), .lit (.int .i64 x.a2)]
theorem wF {x : Gi} : cGi x = [.lit (.int .i64 x.a0), .lit (.int .i64 x.a1), .lit (.int .i64 x.a2)] := rfl
theorem eC : EncOk cGi := EncOk.of (fun x => by simp only [wF, tre, Bool.and_self]) (fun x => by simp only [wF, nrm]) (fun x H d => by simp only [wF, nrm, List.map_cons, List.map_nil])
structure GSpan where
 Low : Int
 High : Int
 deriving Inhabited, DecidableEq
def aF (x : GSpan) : List VV := [.lit (.int .i64 x.Low), .lit (.int .i64 x.High)]
theorem ui {x : GSpan} : aF x = [.lit (.int .i64 x.Low), .lit (.int .i64 x.High)] := rfl
theorem gM : EncOk aF := EncOk.of (fun x => by simp only [ui, tre, eC.tree, eC.treeL, Bool.and_self]) (fun x => by simp only [ui, nrm, eC.norm, eC.normL, eC.shown, eC.showL]) (fun x H d => by simp only [ui, nrm, List.map_cons, List.map_nil])
structure Ga where
 a0 : GSpan
 a1 : GSpan
 a2 : GSpan
 deriving Inhabited, DecidableEq
def cGa (x : Ga) : List VV := [.lit (.int .i64 x.a0.Low), .lit (.int .i64 x.a0.High), .lit (.int .i64 x.a1.Low), .lit (.int .i64 x.a1.High), .lit (.int .i64 x.a2.Low), .lit (.int .i64 x.a2.High)]
theorem wG {x : Ga} : cGa x = [.lit (.int .i64 x.a0.Low), .lit (.int .i64 x.a0.High), .lit (.int .i64 x.a1.Low), .lit (.int .i64 x.a1.High), .lit (.int .i64 x.a2.Low), .lit (.int .i64 x.a2.High)] := rfl
theorem jh : EncOk cGa := EncOk.of (fun x => by simp only [wG, tre, eC.tree, eC.treeL, gM.tree, gM.treeL, Bool.and_self]) (fun x => by simp only [wG, nrm, eC.norm, eC.normL, eC.shown, eC.showL, gM.norm, gM.normL, gM.shown, gM.showL]) (fun x H d => by simp only [wG, nrm, List.map_cons, List.map_nil])
structure Gt where
 pg : Ga
 deriving Inhabited, DecidableEq
def cGt (x : Gt) : List VV := [.lit (.int .i64 x.pg.a0.Low), .lit (.int .i64 x.pg.a0.High), .lit (.int .i64 x.pg.a1.Low), .lit (.int .i64 x.pg.a1.High), .lit (.int .i64 x.pg.a2.Low), .lit (.int .i64 x.pg.a2.High)]
theorem zO {x : Gt} : cGt x = [.lit (.int .i64 x.pg.a0.Low), .lit (.int .i64 x.pg.a0.High), .lit (.int .i64 x.pg.a1.Low), .lit (.int .i64 x.pg.a1.High), .lit (.int .i64 x.pg.a2.Low), .lit (.int .i64 x.pg.a2.High)] := rfl
theorem jL : EncOk cGt := EncOk.of (fun x => by simp only [zO, tre, eC.tree, eC.treeL, gM.tree, gM.treeL, jh.tree, jh.treeL, Bool.and_self]) (fun x => by simp only [zO, nrm, eC.norm, eC.normL, eC.shown, eC.showL, gM.norm, gM.normL, gM.shown, gM.showL, jh.norm, jh.normL, jh.shown, jh.showL]) (fun x H d => by simp only [zO, nrm, List.map_cons, List.map_nil])
structure Gs where
 Old : Gi
 Fade : Ga
 Years : GSpan
 Off : Int
 Tins : List Gt
 deriving Inhabited, DecidableEq
def cGs (x : Gs) : List VV := [.lit (.int .i64 x.Old.a0), .lit (.int .i64 x.Old.a1), .lit (.int .i64 x.Old.a2), .lit (.int .i64 x.Fade.a0.Low), .lit (.int .i64 x.Fade.a0.High), .lit (.int .i64 x.Fade.a1.Low), .lit (.int .i64 x.Fade.a1.High), .lit (.int .i64 x.Fade.a2.Low), .lit (.int .i64 x.Fade.a2.High), .lit (.int .i64 x.Years.Low), .lit (.int .i64 x.Years.High), .lit (.int .i64 x.Off), .sl (aa cGt x.Tins) (List.length x.Tins) false]
theorem CY {x : Gs} : cGs x = [.lit (.int .i64 x.Old.a0), .lit (.int .i64 x.Old.a1), .lit (.int .i64 x.Old.a2), .lit (.int .i64 x.Fade.a0.Low), .lit (.int .i64 x.Fade.a0.High), .lit (.int .i64 x.Fade.a1.Low), .lit (.int .i64 x.Fade.a1.High), .lit (.int .i64 x.Fade.a2.Low), .lit (.int .i64 x.Fade.a2.High), .lit (.int .i64 x.Years.Low), .lit (.int .i64 x.Years.High), .lit (.int .i64 x.Off), .sl (aa cGt x.Tins) (List.length x.Tins) false] := rfl
theorem lS : EncOk cGs := EncOk.of (fun x => by simp only [CY, tre, eC.tree, eC.treeL, gM.tree, gM.treeL, jh.tree, jh.treeL, jL.tree, jL.treeL, Bool.and_self]) (fun x => by simp only [CY, nrm, eC.norm, eC.normL, eC.shown, eC.showL, gM.norm, gM.normL, gM.shown, gM.showL, jh.norm, jh.normL, jh.shown, jh.showL, jL.norm, jL.normL, jL.shown, jL.showL]) (fun x H d => by simp only [CY, nrm, List.map_cons, List.map_nil])
structure Gu where
 Tins : List Gi
 Years : Int
 Fade : Gi
 deriving Inhabited, DecidableEq
def cGu (x : Gu) : List VV := [.sl (aa cGi x.Tins) (List.length x.Tins) false, .lit (.int .i64 x.Years), .lit (.int .i64 x.Fade.a0), .lit (.int .i64 x.Fade.a1), .lit (.int .i64 x.Fade.a2)]
theorem CZ {x : Gu} : cGu x = [.sl (aa cGi x.Tins) (List.length x.Tins) false, .lit (.int .i64 x.Years), .lit (.int .i64 x.Fade.a0), .lit (.int .i64 x.Fade.a1), .lit (.int .i64 x.Fade.a2)] := rfl
theorem AA : EncOk cGu := EncOk.of (fun x => by simp only [CZ, tre, eC.tree, eC.treeL, gM.tree, gM.treeL, jh.tree, jh.treeL, jL.tree, jL.treeL, lS.tree, lS.treeL, Bool.and_self]) (fun x => by simp only [CZ, nrm, eC.norm, eC.normL, eC.shown, eC.showL, gM.norm, gM.normL, gM.shown, gM.showL, jh.norm, jh.normL, jh.shown, jh.showL, jL.norm, jL.normL, jL.shown, jL.showL, lS.norm, lS.normL, lS.shown, lS.showL]) (fun x H d => by simp only [CZ, nrm, List.map_cons, List.map_nil])
structure Gm where
 sh : Gs
 mix : List Int
 deriving Inhabited, DecidableEq
def cGm (x : Gm) : List VV := [.lit (.int .i64 x.sh.Old.a0), .lit (.int .i64 x.sh.Old.a1), .lit (.int .i64 x.sh.Old.a2), .lit (.int .i64 x.sh.Fade.a0.Low), .lit (.int .i64 x.sh.Fade.a0.High), .lit (.int .i64 x.sh.Fade.a1.Low), .lit (.int .i64 x.sh.Fade.a1.High), .lit (.int .i64 x.sh.Fade.a2.Low), .lit (.int .i64 x.sh.Fade.a2.High), .lit (.int .i64 x.sh.Years.Low), .lit (.int .i64 x.sh.Years.High), .lit (.int .i64 x.sh.Off), .sl (aa cGt x.sh.Tins) (List.length x.sh.Tins) false, .sl (aa eI x.mix) (List.length x.mix) false]
theorem Hl {x : Gm} : cGm x = [.lit (.int .i64 x.sh.Old.a0), .lit (.int .i64 x.sh.Old.a1), .lit (.int .i64 x.sh.Old.a2), .lit (.int .i64 x.sh.Fade.a0.Low), .lit (.int .i64 x.sh.Fade.a0.High), .lit (.int .i64 x.sh.Fade.a1.Low), .lit (.int .i64 x.sh.Fade.a1.High), .lit (.int .i64 x.sh.Fade.a2.Low), .lit (.int .i64 x.sh.Fade.a2.High), .lit (.int .i64 x.sh.Years.Low), .lit (.int .i64 x.sh.Years.High), .lit (.int .i64 x.sh.Off), .sl (aa cGt x.sh.Tins) (List.length x.sh.Tins) false, .sl (aa eI x.mix) (List.length x.mix) false] := rfl
theorem w7 : EncOk cGm := EncOk.of (fun x => by simp only [Hl, tre, eC.tree, eC.treeL, gM.tree, gM.treeL, jh.tree, jh.treeL, jL.tree, jL.treeL, lS.tree, lS.treeL, AA.tree, AA.treeL, Bool.and_self]) (fun x => by simp only [Hl, nrm, eC.norm, eC.normL, eC.shown, eC.showL, gM.norm, gM.normL, gM.shown, gM.showL, jh.norm, jh.normL, jh.shown, jh.showL, jL.norm, jL.normL, jL.shown, jL.showL, lS.norm, lS.normL, lS.shown, lS.showL, AA.norm, AA.normL, AA.shown, AA.showL]) (fun x H d => by simp only [Hl, nrm, List.map_cons, List.map_nil])
structure Gf where
 pigment : Int
 years : Int
 deriving Inhabited, DecidableEq
def cGf (x : Gf) : List VV := [.lit (.int .i64 x.pigment), .lit (.int .i64 x.years)]
theorem zqg {x : Gf} : cGf x = [.lit (.int .i64 x.pigment), .lit (.int .i64 x.years)] := rfl
theorem SY : EncOk (eSl eI) := EncOk.sl eI_ok
theorem ld3 {c : VV} {cs : List VV} : aP Tryz.prog 3 (c :: cs) = some c := by
 have h1 : aggT Tryz.prog 3 = some false := by kernel_rfl
 simp [aP, vpart, h1]
theorem sz3 : szT Tryz.prog 3 = some 1 := by kernel_rfl
theorem SZ : vzl Tryz.prog 3 = some [.lit (.int .i64 0)] := by kernel_rfl
theorem ld4 {c : VV} {cs : List VV} : aP Tryz.prog 4 (c :: cs) = some c := by
 have h1 : aggT Tryz.prog 4 = some false := by kernel_rfl
 simp [aP, vpart, h1]
theorem sz4 : szT Tryz.prog 4 = some 1 := by kernel_rfl
theorem Ta : vzl Tryz.prog 4 = some [.lit (.bool false)] := by kernel_rfl
theorem Tb {c0 c1 c2 : VV} {cs : List VV} : aP Tryz.prog 22 (c0 :: c1 :: c2 :: cs) = some (.agg [c0, c1, c2]) := by
 have h1 : aggT Tryz.prog 22 = some true := by kernel_rfl
 have h2 : szT Tryz.prog 22 = some 3 := by kernel_rfl
 simp [aP, vpart, h1, h2]
theorem Tc : szT Tryz.prog 22 = some 3 := by kernel_rfl
theorem qR : vzl Tryz.prog 22 = some [.lit (.int .i64 0), .lit (.int .i64 0), .lit (.int .i64 0)] := by kernel_rfl
theorem Td {H : Nat → Option VObj} {β o : Nat} {k : IntKind} : ag Tryz.prog H 22 (.ptr β o) (.lit (.int k (0 : Int))) = if (H β).isSome = true then some (.ptr β (o + 0)) else none := by
 have h2 : szT Tryz.prog 3 = some 1 := by kernel_rfl
 simp [ag, Tryz.underlying22, h2]
theorem Te {H : Nat → Option VObj} {cs : List VV} {k : IntKind} : ag Tryz.prog H 22 (.tp cs) (.lit (.int k (0 : Int))) = some (.tp (cs.drop 0)) := by
 have h2 : szT Tryz.prog 3 = some 1 := by kernel_rfl
 simp [ag, Tryz.underlying22, h2]
theorem Tf {c0 c1 c2 : VV} {k : IntKind} : vindex Tryz.prog 22 (.agg [c0, c1, c2]) (.lit (.int k (0 : Int))) = some (c0) := by
 have h1 : aggT Tryz.prog 3 = some false := by kernel_rfl
 have h2 : szT Tryz.prog 3 = some 1 := by kernel_rfl
 simp [vindex, Tryz.underlying22, vpart, h1, h2]
theorem fh {H : Nat → Option VObj} {β o : Nat} {k : IntKind} {i : Int} (h : (i == 0) = true) : ag Tryz.prog H 22 (.ptr β o) (.lit (.int k i)) = if (H β).isSome = true then some (.ptr β (o + 0)) else none := by
 obtain rfl : i = 0 := by simpa using h
 have h2 : szT Tryz.prog 3 = some 1 := by kernel_rfl
 simp [ag, Tryz.underlying22, h2]
theorem vO {H : Nat → Option VObj} {cs : List VV} {k : IntKind} {i : Int} (h : (i == 0) = true) : ag Tryz.prog H 22 (.tp cs) (.lit (.int k i)) = some (.tp (cs.drop 0)) := by
 obtain rfl : i = 0 := by simpa using h
 have h2 : szT Tryz.prog 3 = some 1 := by kernel_rfl
 simp [ag, Tryz.underlying22, h2]
theorem Tg {H : Nat → Option VObj} {β o : Nat} {k : IntKind} : ag Tryz.prog H 22 (.ptr β o) (.lit (.int k (1 : Int))) = if (H β).isSome = true then some (.ptr β (o + 1)) else none := by
 have h2 : szT Tryz.prog 3 = some 1 := by kernel_rfl
 simp [ag, Tryz.underlying22, h2]
theorem Th {H : Nat → Option VObj} {cs : List VV} {k : IntKind} : ag Tryz.prog H 22 (.tp cs) (.lit (.int k (1 : Int))) = some (.tp (cs.drop 1)) := by
 have h2 : szT Tryz.prog 3 = some 1 := by kernel_rfl
 simp [ag, Tryz.underlying22, h2]
theorem Ti {c0 c1 c2 : VV} {k : IntKind} : vindex Tryz.prog 22 (.agg [c0, c1, c2]) (.lit (.int k (1 : Int))) = some (c1) := by
 have h1 : aggT Tryz.prog 3 = some false := by kernel_rfl
 have h2 : szT Tryz.prog 3 = some 1 := by kernel_rfl
 simp [vindex, Tryz.underlying22, vpart, h1, h2]
theorem fg {H : Nat → Option VObj} {β o : Nat} {k : IntKind} {i : Int} (h : (i == 1) = true) : ag Tryz.prog H 22 (.ptr β o) (.lit (.int k i)) = if (H β).isSome = true then some (.ptr β (o + 1)) else none := by
 obtain rfl : i = 1 := by simpa using h
 have h2 : szT Tryz.prog 3 = some 1 := by kernel_rfl
 simp [ag, Tryz.underlying22, h2]
theorem vG {H : Nat → Option VObj} {cs : List VV} {k : IntKind} {i : Int} (h : (i == 1) = true) : ag Tryz.prog H 22 (.tp cs) (.lit (.int k i)) = some (.tp (cs.drop 1)) := by
 obtain rfl : i = 1 := by simpa using h
 have h2 : szT Tryz.prog 3 = some 1 := by kernel_rfl
 simp [ag, Tryz.underlying22, h2]
theorem Tj {H : Nat → Option VObj} {β o : Nat} {k : IntKind} : ag Tryz.prog H 22 (.ptr β o) (.lit (.int k (2 : Int))) = if (H β).isSome = true then some (.ptr β (o + 2)) else none := by
 have h2 : szT Tryz.prog 3 = some 1 := by kernel_rfl
 simp [ag, Tryz.underlying22, h2]
theorem Tk {H : Nat → Option VObj} {cs : List VV} {k : IntKind} : ag Tryz.prog H 22 (.tp cs) (.lit (.int k (2 : Int))) = some (.tp (cs.drop 2)) := by
 have h2 : szT Tryz.prog 3 = some 1 := by kernel_rfl
 simp [ag, Tryz.underlying22, h2]
theorem Tl {c0 c1 c2 : VV} {k : IntKind} : vindex Tryz.prog 22 (.agg [c0, c1, c2]) (.lit (.int k (2 : Int))) = some (c2) := by
 have h1 : aggT Tryz.prog 3 = some false := by kernel_rfl
 have h2 : szT Tryz.prog 3 = some 1 := by kernel_rfl
 simp [vindex, Tryz.underlying22, vpart, h1, h2]
theorem fe {H : Nat → Option VObj} {β o : Nat} {k : IntKind} {i : Int} (h : (i == 2) = true) : ag Tryz.prog H 22 (.ptr β o) (.lit (.int k i)) = if (H β).isSome = true then some (.ptr β (o + 2)) else none := by
 obtain rfl : i = 2 := by simpa using h
 have h2 : szT Tryz.prog 3 = some 1 := by kernel_rfl
 simp [ag, Tryz.underlying22, h2]
theorem vC {H : Nat → Option VObj} {cs : List VV} {k : IntKind} {i : Int} (h : (i == 2) = true) : ag Tryz.prog H 22 (.tp cs) (.lit (.int k i)) = some (.tp (cs.drop 2)) := by
 obtain rfl : i = 2 := by simpa using h
 have h2 : szT Tryz.prog 3 = some 1 := by kernel_rfl
 simp [ag, Tryz.underlying22, h2]
theorem Tm {c0 c1 : VV} {cs : List VV} : aP Tryz.prog 24 (c0 :: c1 :: cs) = some (.agg [c0, c1]) := by
 have h1 : aggT Tryz.prog 24 = some true := by kernel_rfl
 have h2 : szT Tryz.prog 24 = some 2 := by kernel_rfl
 simp [aP, vpart, h1, h2]
theorem Tn : szT Tryz.prog 24 = some 2 := by kernel_rfl
theorem qS : vzl Tryz.prog 24 = some [.lit (.int .i64 0), .lit (.int .i64 0)] := by kernel_rfl
theorem To {H : Nat → Option VObj} {cs : List VV} : al Tryz.prog H 24 (.tp cs) 0 = some (.tp (cs.drop 0)) := by
 have h2 : szT Tryz.prog 3 = some 1 := by kernel_rfl
 simp [al, Tryz.underlying24, h2]
theorem Tp {H : Nat → Option VObj} {β o : Nat} : al Tryz.prog H 24 (.ptr β o) 0 = if (H β).isSome = true then some (.ptr β (o + 0)) else none := by
 have h2 : szT Tryz.prog 3 = some 1 := by kernel_rfl
 simp [al, Tryz.underlying24, h2]
theorem Tq {c0 c1 : VV} : vfield Tryz.prog 24 (.agg [c0, c1]) 0 = some (c0) := by
 have h1 : aggT Tryz.prog 3 = some false := by kernel_rfl
 have h2 : szT Tryz.prog 3 = some 1 := by kernel_rfl
 simp [vfield, Tryz.underlying24, vpart, h1, h2]
theorem Ts {H : Nat → Option VObj} {cs : List VV} : al Tryz.prog H 24 (.tp cs) 1 = some (.tp (cs.drop 1)) := by
 have h2 : szT Tryz.prog 3 = some 1 := by kernel_rfl
 simp [al, Tryz.underlying24, h2]
theorem Tt {H : Nat → Option VObj} {β o : Nat} : al Tryz.prog H 24 (.ptr β o) 1 = if (H β).isSome = true then some (.ptr β (o + 1)) else none := by
 have h2 : szT Tryz.prog 3 = some 1 := by kernel_rfl
 simp [al, Tryz.underlying24, h2]
theorem Tu {c0 c1 : VV} : vfield Tryz.prog 24 (.agg [c0, c1]) 1 = some (c1) := by
 have h1 : aggT Tryz.prog 3 = some false := by kernel_rfl
 have h2 : szT Tryz.prog 3 = some 1 := by kernel_rfl
 simp [vfield, Tryz.underlying24, vpart, h1, h2]
theorem Tv {c0 c1 c2 c3 c4 c5 : VV} {cs : List VV} : aP Tryz.prog 25 (c0 :: c1 :: c2 :: c3 :: c4 :: c5 :: cs) = some (.agg [c0, c1, c2, c3, c4, c5]) := by
 have h1 : aggT Tryz.prog 25 = some true := by kernel_rfl
 have h2 : szT Tryz.prog 25 = some 6 := by kernel_rfl
 simp [aP, vpart, h1, h2]
theorem Tw : szT Tryz.prog 25 = some 6 := by kernel_rfl
theorem uE : vzl Tryz.prog 25 = some [.lit (.int .i64 0), .lit (.int .i64 0), .lit (.int .i64 0), .lit (.int .i64 0), .lit (.int .i64 0), .lit (.int .i64 0)] := by kernel_rfl
theorem Tx {H : Nat → Option VObj} {β o : Nat} {k : IntKind} : ag Tryz.prog H 25 (.ptr β o) (.lit (.int k (0 : Int))) = if (H β).isSome = true then some (.ptr β (o + 0)) else none := by
 have h2 : szT Tryz.prog 24 = some 2 := by kernel_rfl
 simp [ag, Tryz.underlying25, h2]
theorem Ty {H : Nat → Option VObj} {cs : List VV} {k : IntKind} : ag Tryz.prog H 25 (.tp cs) (.lit (.int k (0 : Int))) = some (.tp (cs.drop 0)) := by
 have h2 : szT Tryz.prog 24 = some 2 := by kernel_rfl
 simp [ag, Tryz.underlying25, h2]
theorem Tz {c0 c1 c2 c3 c4 c5 : VV} {k : IntKind} : vindex Tryz.prog 25 (.agg [c0, c1, c2, c3, c4, c5]) (.lit (.int k (0 : Int))) = some (.agg [c0, c1]) := by
 have h1 : aggT Tryz.prog 24 = some true := by kernel_rfl
 have h2 : szT Tryz.prog 24 = some 2 := by kernel_rfl
 simp [vindex, Tryz.underlying25, vpart, h1, h2]
theorem ib {H : Nat → Option VObj} {β o : Nat} {k : IntKind} {i : Int} (h : (i == 0) = true) : ag Tryz.prog H 25 (.ptr β o) (.lit (.int k i)) = if (H β).isSome = true then some (.ptr β (o + 0)) else none := by
 obtain rfl : i = 0 := by simpa using h
 have h2 : szT Tryz.prog 24 = some 2 := by kernel_rfl
 simp [ag, Tryz.underlying25, h2]
theorem sq {H : Nat → Option VObj} {cs : List VV} {k : IntKind} {i : Int} (h : (i == 0) = true) : ag Tryz.prog H 25 (.tp cs) (.lit (.int k i)) = some (.tp (cs.drop 0)) := by
 obtain rfl : i = 0 := by simpa using h
 have h2 : szT Tryz.prog 24 = some 2 := by kernel_rfl
 simp [ag, Tryz.underlying25, h2]
theorem oJ {c0 c1 c2 c3 c4 c5 : VV} {k : IntKind} {i : Int} (h : (i == 0) = true) : vindex Tryz.prog 25 (.agg [c0, c1, c2, c3, c4, c5]) (.lit (.int k i)) = some (.agg [c0, c1]) := by
 obtain rfl : i = 0 := by simpa using h
 have h1 : aggT Tryz.prog 24 = some true := by kernel_rfl
 have h2 : szT Tryz.prog 24 = some 2 := by kernel_rfl
 simp [vindex, Tryz.underlying25, vpart, h1, h2]
theorem T0 {H : Nat → Option VObj} {β o : Nat} {k : IntKind} : ag Tryz.prog H 25 (.ptr β o) (.lit (.int k (1 : Int))) = if (H β).isSome = true then some (.ptr β (o + 2)) else none := by
 have h2 : szT Tryz.prog 24 = some 2 := by kernel_rfl
 simp [ag, Tryz.underlying25, h2]
theorem T1 {H : Nat → Option VObj} {cs : List VV} {k : IntKind} : ag Tryz.prog H 25 (.tp cs) (.lit (.int k (1 : Int))) = some (.tp (cs.drop 2)) := by
 have h2 : szT Tryz.prog 24 = some 2 := by kernel_rfl
 simp [ag, Tryz.underlying25, h2]
theorem T2 {c0 c1 c2 c3 c4 c5 : VV} {k : IntKind} : vindex Tryz.prog 25 (.agg [c0, c1, c2, c3, c4, c5]) (.lit (.int k (1 : Int))) = some (.agg [c2, c3]) := by
 have h1 : aggT Tryz.prog 24 = some true := by kernel_rfl
 have h2 : szT Tryz.prog 24 = some 2 := by kernel_rfl
 simp [vindex, Tryz.underlying25, vpart, h1, h2]
theorem ia {H : Nat → Option VObj} {β o : Nat} {k : IntKind} {i : Int} (h : (i == 1) = true) : ag Tryz.prog H 25 (.ptr β o) (.lit (.int k i)) = if (H β).isSome = true then some (.ptr β (o + 2)) else none := by
 obtain rfl : i = 1 := by simpa using h
 have h2 : szT Tryz.prog 24 = some 2 := by kernel_rfl
 simp [ag, Tryz.underlying25, h2]
theorem sk {H : Nat → Option VObj} {cs : List VV} {k : IntKind} {i : Int} (h : (i == 1) = true) : ag Tryz.prog H 25 (.tp cs) (.lit (.int k i)) = some (.tp (cs.drop 2)) := by
 obtain rfl : i = 1 := by simpa using h
 have h2 : szT Tryz.prog 24 = some 2 := by kernel_rfl
 simp [ag, Tryz.underlying25, h2]
theorem oI {c0 c1 c2 c3 c4 c5 : VV} {k : IntKind} {i : Int} (h : (i == 1) = true) : vindex Tryz.prog 25 (.agg [c0, c1, c2, c3, c4, c5]) (.lit (.int k i)) = some (.agg [c2, c3]) := by
 obtain rfl : i = 1 := by simpa using h
 have h1 : aggT Tryz.prog 24 = some true := by kernel_rfl
 have h2 : szT Tryz.prog 24 = some 2 := by kernel_rfl
 simp [vindex, Tryz.underlying25, vpart, h1, h2]
theorem T3 {H : Nat → Option VObj} {β o : Nat} {k : IntKind} : ag Tryz.prog H 25 (.ptr β o) (.lit (.int k (2 : Int))) = if (H β).isSome = true then some (.ptr β (o + 4)) else none := by
 have h2 : szT Tryz.prog 24 = some 2 := by kernel_rfl
 simp [ag, Tryz.underlying25, h2]
theorem T4 {H : Nat → Option VObj} {cs : List VV} {k : IntKind} : ag Tryz.prog H 25 (.tp cs) (.lit (.int k (2 : Int))) = some (.tp (cs.drop 4)) := by
 have h2 : szT Tryz.prog 24 = some 2 := by kernel_rfl
 simp [ag, Tryz.underlying25, h2]
theorem T5 {c0 c1 c2 c3 c4 c5 : VV} {k : IntKind} : vindex Tryz.prog 25 (.agg [c0, c1, c2, c3, c4, c5]) (.lit (.int k (2 : Int))) = some (.agg [c4, c5]) := by
 have h1 : aggT Tryz.prog 24 = some true := by kernel_rfl
 have h2 : szT Tryz.prog 24 = some 2 := by kernel_rfl
 simp [vindex, Tryz.underlying25, vpart, h1, h2]
theorem hX {H : Nat → Option VObj} {β o : Nat} {k : IntKind} {i : Int} (h : (i == 2) = true) : ag Tryz.prog H 25 (.ptr β o) (.lit (.int k i)) = if (H β).isSome = true then some (.ptr β (o + 4)) else none := by
 obtain rfl : i = 2 := by simpa using h
 have h2 : szT Tryz.prog 24 = some 2 := by kernel_rfl
 simp [ag, Tryz.underlying25, h2]
theorem si {H : Nat → Option VObj} {cs : List VV} {k : IntKind} {i : Int} (h : (i == 2) = true) : ag Tryz.prog H 25 (.tp cs) (.lit (.int k i)) = some (.tp (cs.drop 4)) := by
 obtain rfl : i = 2 := by simpa using h
 have h2 : szT Tryz.prog 24 = some 2 := by kernel_rfl
 simp [ag, Tryz.underlying25, h2]
theorem oH {c0 c1 c2 c3 c4 c5 : VV} {k : IntKind} {i : Int} (h : (i == 2) = true) : vindex Tryz.prog 25 (.agg [c0, c1, c2, c3, c4, c5]) (.lit (.int k i)) = some (.agg [c4, c5]) := by
 obtain rfl : i = 2 := by simpa using h
 have h1 : aggT Tryz.prog 24 = some true := by kernel_rfl
 have h2 : szT Tryz.prog 24 = some 2 := by kernel_rfl
 simp [vindex, Tryz.underlying25, vpart, h1, h2]
theorem T6 {c : VV} {cs : List VV} : aP Tryz.prog 26 (c :: cs) = some c := by
 have h1 : aggT Tryz.prog 26 = some false := by kernel_rfl
 simp [aP, vpart, h1]
theorem T7 : szT Tryz.prog 26 = some 1 := by kernel_rfl
theorem Fb {H : Nat → Option VObj} {cs : List VV} {n : Nat} {f : Bool} : vlen Tryz.prog H 26 (.sl cs n f) = some (.lit (.int .i64 n)) := by simp [vlen, Tryz.underlying26, sls]
theorem lenN26 {H : Nat → Option VObj} : vlen Tryz.prog H 26 (.lit (.slice none 0 0)) = some (.lit (.int .i64 0)) := by simp [vlen, Tryz.underlying26, sls]
theorem lenR26 {H : Nat → Option VObj} {β off n w c : Nat} : vlen Tryz.prog H 26 (.ref β off n w c) = (match H β with | some (.cells _ cs) => if off ≤ cs.length then some (.lit (.int .i64 n)) else none | _ => none) := lenR Tryz.underlying26
theorem tA : elemT Tryz.prog 26 = some 94 := by simp [elemT, Tryz.underlying26]
theorem EY : appOk Tryz.prog 26 = some (94, 6, 48) := by kernel_rfl
theorem T8 {xs : List Gt} : (aa cGt xs).take (xs.length * 6) = aa cGt xs := OY (fun _ => rfl)
theorem EX : ∀ x : Gt, leafL (cGt x) = true := fun x => by simp only [eI_eq, uS, eB_eq, eS_eq, uT, zO, lO, lP, Ks, Vu, Vv, Kt, uR, Bool.and_self]
theorem T9 {c0 c1 c2 c3 c4 c5 : VV} (h : leafL [c0, c1, c2, c3, c4, c5] = true) : aM Tryz.prog 26 1 [(0, .agg [c0, c1, c2, c3, c4, c5])] = some ([c0, c1, c2, c3, c4, c5], 6) := by
 have h2 : szT Tryz.prog 94 = some 6 := by kernel_rfl
 have h3 : vzero Tryz.prog 94 = some #[.int .i64 0, .int .i64 0, .int .i64 0, .int .i64 0, .int .i64 0, .int .i64 0] := by kernel_rfl
 simp only [lP, lO, Bool.and_true, Bool.and_eq_true] at h
 simp [aM, Tryz.underlying26, h2, h3, vfill, vcells, h, overwrite, vzeros]
theorem bB {H : Nat → Option VObj} {xs : List Gt} {x : Gt} {f : Bool} {k : IntKind} {i : Int} (h : getI xs i = some x) : ag Tryz.prog H 26 (.sl (aa cGt xs) xs.length f) (.lit (.int k i)) = some (.tp (cGt x ++ aa cGt (xs.drop (i.toNat + 1)))) :=
 ixG Tryz.underlying26 (by kernel_rfl : szT Tryz.prog 94 = some 6) (by decide) (fun _ => rfl) h
theorem TA {c0 c1 c2 c3 c4 c5 c6 c7 c8 c9 zy Fc zp : VV} {cs : List VV} : aP Tryz.prog 28 (c0 :: c1 :: c2 :: c3 :: c4 :: c5 :: c6 :: c7 :: c8 :: c9 :: zy :: Fc :: zp :: cs) = some (.agg [c0, c1, c2, c3, c4, c5, c6, c7, c8, c9, zy, Fc, zp]) := by
 have h1 : aggT Tryz.prog 28 = some true := by kernel_rfl
 have h2 : szT Tryz.prog 28 = some 13 := by kernel_rfl
 simp [aP, vpart, h1, h2]
theorem TB : szT Tryz.prog 28 = some 13 := by kernel_rfl
theorem Fe : vzl Tryz.prog 28 = some [.lit (.int .i64 0), .lit (.int .i64 0), .lit (.int .i64 0), .lit (.int .i64 0), .lit (.int .i64 0), .lit (.int .i64 0), .lit (.int .i64 0), .lit (.int .i64 0), .lit (.int .i64 0), .lit (.int .i64 0), .lit (.int .i64 0), .lit (.int .i64 0), .lit (.slice none 0 0)] := by kernel_rfl
theorem TC {H : Nat → Option VObj} {β o : Nat} : al Tryz.prog H 28 (.ptr β o) 0 = if (H β).isSome = true then some (.ptr β (o + 0)) else none := by
 have h2 : szT Tryz.prog 22 = some 3 := by kernel_rfl
 simp [al, Tryz.underlying28, h2]
theorem TD {H : Nat → Option VObj} {β o : Nat} : al Tryz.prog H 28 (.ptr β o) 1 = if (H β).isSome = true then some (.ptr β (o + 3)) else none := by
 have h2 : szT Tryz.prog 25 = some 6 := by kernel_rfl
 simp [al, Tryz.underlying28, h2]
theorem TE {H : Nat → Option VObj} {β o : Nat} : al Tryz.prog H 28 (.ptr β o) 2 = if (H β).isSome = true then some (.ptr β (o + 9)) else none := by
 have h2 : szT Tryz.prog 24 = some 2 := by kernel_rfl
 simp [al, Tryz.underlying28, h2]
theorem TF {H : Nat → Option VObj} {β o : Nat} : al Tryz.prog H 28 (.ptr β o) 3 = if (H β).isSome = true then some (.ptr β (o + 11)) else none := by
 have h2 : szT Tryz.prog 3 = some 1 := by kernel_rfl
 simp [al, Tryz.underlying28, h2]
theorem TG {H : Nat → Option VObj} {cs : List VV} : al Tryz.prog H 28 (.tp cs) 4 = some (.tp (cs.drop 12)) := by
 have h2 : szT Tryz.prog 26 = some 1 := by kernel_rfl
 simp [al, Tryz.underlying28, h2]
theorem TH {H : Nat → Option VObj} {β o : Nat} : al Tryz.prog H 28 (.ptr β o) 4 = if (H β).isSome = true then some (.ptr β (o + 12)) else none := by
 have h2 : szT Tryz.prog 26 = some 1 := by kernel_rfl
 simp [al, Tryz.underlying28, h2]
theorem TI {c : VV} {cs : List VV} : aP Tryz.prog 29 (c :: cs) = some c := by
 have h1 : aggT Tryz.prog 29 = some false := by kernel_rfl
 simp [aP, vpart, h1]
theorem TJ : szT Tryz.prog 29 = some 1 := by kernel_rfl
theorem Ff : vzl Tryz.prog 29 = some [.lit (.slice none 0 0)] := by kernel_rfl
theorem Fg {H : Nat → Option VObj} {cs : List VV} {n : Nat} {f : Bool} : vlen Tryz.prog H 29 (.sl cs n f) = some (.lit (.int .i64 n)) := by simp [vlen, Tryz.underlying29, sls]
theorem lenN29 {H : Nat → Option VObj} : vlen Tryz.prog H 29 (.lit (.slice none 0 0)) = some (.lit (.int .i64 0)) := by simp [vlen, Tryz.underlying29, sls]
theorem lenR29 {H : Nat → Option VObj} {β off n w c : Nat} : vlen Tryz.prog H 29 (.ref β off n w c) = (match H β with | some (.cells _ cs) => if off ≤ cs.length then some (.lit (.int .i64 n)) else none | _ => none) := lenR Tryz.underlying29
theorem ll : elemT Tryz.prog 29 = some 3 := by simp [elemT, Tryz.underlying29]
theorem mA : appOk Tryz.prog 29 = some (3, 1, 8) := by kernel_rfl
theorem TK {xs : List Int} : (aa eI xs).take (xs.length * 1) = aa eI xs := OY (fun _ => rfl)
theorem mz : ∀ x : Int, leafL (eI x) = true := fun x => by simp only [eI_eq, uS, eB_eq, eS_eq, uT, lO, lP, Ks, Vu, Vv, Kt, uR, Bool.and_self]
theorem TL {a0 : VV} (h : leafL [a0] = true) : aM Tryz.prog 29 1 [(0, a0)] = some ([a0], 1) := by
 have h2 : szT Tryz.prog 3 = some 1 := by kernel_rfl
 have h3 : vzero Tryz.prog 3 = some #[.int .i64 0] := by kernel_rfl
 simp only [lP, lO, Bool.and_true, Bool.and_eq_true] at h
 simp [aM, Tryz.underlying29, h2, h3, vfill, vcells1, h, overwrite, vzeros, List.range_succ]
theorem TM {a0 a1 : VV} (h : leafL [a0, a1] = true) : aM Tryz.prog 29 2 [(0, a0), (1, a1)] = some ([a0, a1], 1) := by
 have h2 : szT Tryz.prog 3 = some 1 := by kernel_rfl
 have h3 : vzero Tryz.prog 3 = some #[.int .i64 0] := by kernel_rfl
 simp only [lP, lO, Bool.and_true, Bool.and_eq_true] at h
 simp [aM, Tryz.underlying29, h2, h3, vfill, vcells1, h, overwrite, vzeros, List.range_succ]
theorem bp {H : Nat → Option VObj} {xs : List Int} {x : Int} {f : Bool} {k : IntKind} {i : Int} (h : getI xs i = some x) : ag Tryz.prog H 29 (.sl (aa eI xs) xs.length f) (.lit (.int k i)) = some (.tp (eI x ++ aa eI (xs.drop (i.toNat + 1)))) :=
 ixG Tryz.underlying29 (by kernel_rfl : szT Tryz.prog 3 = some 1) (by decide) (fun _ => rfl) h
theorem TN {c : VV} {cs : List VV} : aP Tryz.prog 32 (c :: cs) = some c := by
 have h1 : aggT Tryz.prog 32 = some false := by kernel_rfl
 simp [aP, vpart, h1]
theorem TO : szT Tryz.prog 32 = some 1 := by kernel_rfl
theorem Fh : vzl Tryz.prog 32 = some [.lit (.int .i64 0)] := by kernel_rfl
theorem TP {c : VV} {cs : List VV} : aP Tryz.prog 40 (c :: cs) = some c := by
 have h1 : aggT Tryz.prog 40 = some false := by kernel_rfl
 simp [aP, vpart, h1]
theorem Fi {H : Nat → Option VObj} {cs : List VV} {n : Nat} {f : Bool} : vlen Tryz.prog H 40 (.sl cs n f) = some (.lit (.int .i64 n)) := by simp [vlen, Tryz.underlying40, sls]
theorem lenN40 {H : Nat → Option VObj} : vlen Tryz.prog H 40 (.lit (.slice none 0 0)) = some (.lit (.int .i64 0)) := by simp [vlen, Tryz.underlying40, sls]
theorem lenR40 {H : Nat → Option VObj} {β off n w c : Nat} : vlen Tryz.prog H 40 (.ref β off n w c) = (match H β with | some (.cells _ cs) => if off ≤ cs.length then some (.lit (.int .i64 n)) else none | _ => none) := lenR Tryz.underlying40
theorem cl {H : Nat → Option VObj} {xs : List Gi} {x : Gi} {f : Bool} {k : IntKind} {i : Int} (h : getI xs i = some x) : ag Tryz.prog H 40 (.sl (aa cGi xs) xs.length f) (.lit (.int k i)) = some (.tp (cGi x ++ aa cGi (xs.drop (i.toNat + 1)))) :=
 ixG Tryz.underlying40 (by kernel_rfl : szT Tryz.prog 22 = some 3) (by decide) (fun _ => rfl) h
theorem TQ {c0 c1 c2 c3 c4 : VV} {cs : List VV} : aP Tryz.prog 42 (c0 :: c1 :: c2 :: c3 :: c4 :: cs) = some (.agg [c0, c1, c2, c3, c4]) := by
 have h1 : aggT Tryz.prog 42 = some true := by kernel_rfl
 have h2 : szT Tryz.prog 42 = some 5 := by kernel_rfl
 simp [aP, vpart, h1, h2]
theorem TR {H : Nat → Option VObj} {β o : Nat} : al Tryz.prog H 42 (.ptr β o) 0 = if (H β).isSome = true then some (.ptr β (o + 0)) else none := by
 have h2 : szT Tryz.prog 40 = some 1 := by kernel_rfl
 simp [al, Tryz.underlying42, h2]
theorem TS {H : Nat → Option VObj} {β o : Nat} : al Tryz.prog H 42 (.ptr β o) 1 = if (H β).isSome = true then some (.ptr β (o + 1)) else none := by
 have h2 : szT Tryz.prog 3 = some 1 := by kernel_rfl
 simp [al, Tryz.underlying42, h2]
theorem TT {H : Nat → Option VObj} {β o : Nat} : al Tryz.prog H 42 (.ptr β o) 2 = if (H β).isSome = true then some (.ptr β (o + 2)) else none := by
 have h2 : szT Tryz.prog 22 = some 3 := by kernel_rfl
 simp [al, Tryz.underlying42, h2]
theorem TU {c0 c1 c2 c3 c4 c5 c6 c7 c8 c9 zy Fc zp s9 : VV} {cs : List VV} : aP Tryz.prog 89 (c0 :: c1 :: c2 :: c3 :: c4 :: c5 :: c6 :: c7 :: c8 :: c9 :: zy :: Fc :: zp :: s9 :: cs) = some (.agg [c0, c1, c2, c3, c4, c5, c6, c7, c8, c9, zy, Fc, zp, s9]) := by
 have h1 : aggT Tryz.prog 89 = some true := by kernel_rfl
 have h2 : szT Tryz.prog 89 = some 14 := by kernel_rfl
 simp [aP, vpart, h1, h2]
theorem TV : szT Tryz.prog 89 = some 14 := by kernel_rfl
theorem uF : vzl Tryz.prog 89 = some [.lit (.int .i64 0), .lit (.int .i64 0), .lit (.int .i64 0), .lit (.int .i64 0), .lit (.int .i64 0), .lit (.int .i64 0), .lit (.int .i64 0), .lit (.int .i64 0), .lit (.int .i64 0), .lit (.int .i64 0), .lit (.int .i64 0), .lit (.int .i64 0), .lit (.slice none 0 0), .lit (.slice none 0 0)] := by kernel_rfl
theorem TW {H : Nat → Option VObj} {β o : Nat} : al Tryz.prog H 89 (.ptr β o) 0 = if (H β).isSome = true then some (.ptr β (o + 0)) else none := by
 have h2 : szT Tryz.prog 28 = some 13 := by kernel_rfl
 simp [al, Tryz.underlying89, h2]
theorem TX {H : Nat → Option VObj} {β o : Nat} : al Tryz.prog H 89 (.ptr β o) 1 = if (H β).isSome = true then some (.ptr β (o + 13)) else none := by
 have h2 : szT Tryz.prog 29 = some 1 := by kernel_rfl
 simp [al, Tryz.underlying89, h2]
theorem TY {c0 c1 c2 c3 c4 c5 : VV} {cs : List VV} : aP Tryz.prog 94 (c0 :: c1 :: c2 :: c3 :: c4 :: c5 :: cs) = some (.agg [c0, c1, c2, c3, c4, c5]) := by
 have h1 : aggT Tryz.prog 94 = some true := by kernel_rfl
 have h2 : szT Tryz.prog 94 = some 6 := by kernel_rfl
 simp [aP, vpart, h1, h2]
theorem TZ : szT Tryz.prog 94 = some 6 := by kernel_rfl
theorem uG : vzl Tryz.prog 94 = some [.lit (.int .i64 0), .lit (.int .i64 0), .lit (.int .i64 0), .lit (.int .i64 0), .lit (.int .i64 0), .lit (.int .i64 0)] := by kernel_rfl
theorem Ua {H : Nat → Option VObj} {cs : List VV} : al Tryz.prog H 94 (.tp cs) 0 = some (.tp (cs.drop 0)) := by
 have h2 : szT Tryz.prog 25 = some 6 := by kernel_rfl
 simp [al, Tryz.underlying94, h2]
theorem Ub {H : Nat → Option VObj} {β o : Nat} : al Tryz.prog H 94 (.ptr β o) 0 = if (H β).isSome = true then some (.ptr β (o + 0)) else none := by
 have h2 : szT Tryz.prog 25 = some 6 := by kernel_rfl
 simp [al, Tryz.underlying94, h2]
theorem Uc {c0 c1 c2 : VV} {cs : List VV} : aP Tryz.prog 99 (c0 :: c1 :: c2 :: cs) = some (.agg [c0, c1, c2]) := by
 have h1 : aggT Tryz.prog 99 = some true := by kernel_rfl
 have h2 : szT Tryz.prog 99 = some 3 := by kernel_rfl
 simp [aP, vpart, h1, h2]
theorem Ud : szT Tryz.prog 99 = some 3 := by kernel_rfl
theorem qT : vzl Tryz.prog 99 = some [.lit (.int .i64 0), .lit (.int .i64 0), .lit (.int .i64 0)] := by kernel_rfl
theorem Ue {H : Nat → Option VObj} {cs : List VV} {k : IntKind} : ag Tryz.prog H 99 (.tp cs) (.lit (.int k (0 : Int))) = some (.tp (cs.drop 0)) := by
 have h2 : szT Tryz.prog 3 = some 1 := by kernel_rfl
 simp [ag, Tryz.underlying99, h2]
theorem Uf {c0 c1 c2 : VV} {k : IntKind} : vindex Tryz.prog 99 (.agg [c0, c1, c2]) (.lit (.int k (0 : Int))) = some (c0) := by
 have h1 : aggT Tryz.prog 3 = some false := by kernel_rfl
 have h2 : szT Tryz.prog 3 = some 1 := by kernel_rfl
 simp [vindex, Tryz.underlying99, vpart, h1, h2]
theorem Ug {H : Nat → Option VObj} {cs : List VV} {k : IntKind} : ag Tryz.prog H 99 (.tp cs) (.lit (.int k (1 : Int))) = some (.tp (cs.drop 1)) := by
 have h2 : szT Tryz.prog 3 = some 1 := by kernel_rfl
 simp [ag, Tryz.underlying99, h2]
theorem Uh {c0 c1 c2 : VV} {k : IntKind} : vindex Tryz.prog 99 (.agg [c0, c1, c2]) (.lit (.int k (1 : Int))) = some (c1) := by
 have h1 : aggT Tryz.prog 3 = some false := by kernel_rfl
 have h2 : szT Tryz.prog 3 = some 1 := by kernel_rfl
 simp [vindex, Tryz.underlying99, vpart, h1, h2]
theorem Ui {H : Nat → Option VObj} {cs : List VV} {k : IntKind} : ag Tryz.prog H 99 (.tp cs) (.lit (.int k (2 : Int))) = some (.tp (cs.drop 2)) := by
 have h2 : szT Tryz.prog 3 = some 1 := by kernel_rfl
 simp [ag, Tryz.underlying99, h2]
theorem Uj {c0 c1 c2 : VV} {k : IntKind} : vindex Tryz.prog 99 (.agg [c0, c1, c2]) (.lit (.int k (2 : Int))) = some (c2) := by
 have h1 : aggT Tryz.prog 3 = some false := by kernel_rfl
 have h2 : szT Tryz.prog 3 = some 1 := by kernel_rfl
 simp [vindex, Tryz.underlying99, vpart, h1, h2]
theorem yZ {H : Nat → Option VObj} {cs : List VV} {n : Nat} {f : Bool} : vlen Tryz.prog H 106 (.sl cs n f) = some (.lit (.int .i64 n)) := by simp [vlen, Tryz.underlying106, sls]
theorem lenN106 {H : Nat → Option VObj} : vlen Tryz.prog H 106 (.lit (.slice none 0 0)) = some (.lit (.int .i64 0)) := by simp [vlen, Tryz.underlying106, sls]
theorem lenR106 {H : Nat → Option VObj} {β off n w c : Nat} : vlen Tryz.prog H 106 (.ref β off n w c) = (match H β with | some (.cells _ cs) => if off ≤ cs.length then some (.lit (.int .i64 n)) else none | _ => none) := lenR Tryz.underlying106
theorem Fj : elemT Tryz.prog 106 = some 29 := by simp [elemT, Tryz.underlying106]
theorem Fk {xs : List (List Int)} : (aa (eSl eI) xs).take (xs.length * 1) = aa (eSl eI) xs := OY (fun _ => rfl)
theorem Uk {a0 : VV} (h : leafL [a0] = true) : aM Tryz.prog 106 1 [(0, a0)] = some ([a0], 1) := by
 have h2 : szT Tryz.prog 29 = some 1 := by kernel_rfl
 have h3 : vzero Tryz.prog 29 = some #[.slice none 0 0] := by kernel_rfl
 simp only [lP, lO, Bool.and_true, Bool.and_eq_true] at h
 simp [aM, Tryz.underlying106, h2, h3, vfill, vcells1, h, overwrite, vzeros, List.range_succ]
theorem za {H : Nat → Option VObj} {cs : List VV} {n : Nat} {f : Bool} : vlen Tryz.prog H 121 (.sl cs n f) = some (.lit (.int .i64 n)) := by simp [vlen, Tryz.underlying121, sls]
theorem lenN121 {H : Nat → Option VObj} : vlen Tryz.prog H 121 (.lit (.slice none 0 0)) = some (.lit (.int .i64 0)) := by simp [vlen, Tryz.underlying121, sls]
theorem lenR121 {H : Nat → Option VObj} {β off n w c : Nat} : vlen Tryz.prog H 121 (.ref β off n w c) = (match H β with | some (.cells _ cs) => if off ≤ cs.length then some (.lit (.int .i64 n)) else none | _ => none) := lenR Tryz.underlying121
theorem qp {H : Nat → Option VObj} {xs : List GSpan} {x : GSpan} {f : Bool} {k : IntKind} {i : Int} (h : getI xs i = some x) : ag Tryz.prog H 121 (.sl (aa aF xs) xs.length f) (.lit (.int k i)) = some (.tp (aF x ++ aa aF (xs.drop (i.toNat + 1)))) :=
 ixG Tryz.underlying121 (by kernel_rfl : szT Tryz.prog 24 = some 2) (by decide) (fun _ => rfl) h
theorem zb : vzl Tryz.prog 138 = some [.lit (.int .i64 0), .lit (.int .i64 0)] := by kernel_rfl
theorem Fl {c : VV} {cs : List VV} : aP Tryz.prog 104 (c :: cs) = some c := by
 have h1 : aggT Tryz.prog 104 = some false := by kernel_rfl
 simp [aP, vpart, h1]
theorem Fm {c : VV} {cs : List VV} : aP Tryz.prog 111 (c :: cs) = some c := by
 have h1 : aggT Tryz.prog 111 = some false := by kernel_rfl
 simp [aP, vpart, h1]
theorem Fo {c : VV} {cs : List VV} : aP Tryz.prog 126 (c :: cs) = some c := by
 have h1 : aggT Tryz.prog 126 = some false := by kernel_rfl
 simp [aP, vpart, h1]
theorem Fp {c : VV} {cs : List VV} : aP Tryz.prog 144 (c :: cs) = some c := by
 have h1 : aggT Tryz.prog 144 = some false := by kernel_rfl
 simp [aP, vpart, h1]
theorem Fq {c : VV} {cs : List VV} : aP Tryz.prog 162 (c :: cs) = some c := by
 have h1 : aggT Tryz.prog 162 = some false := by kernel_rfl
 simp [aP, vpart, h1]
theorem Fs {c : VV} {cs : List VV} : aP Tryz.prog 163 (c :: cs) = some c := by
 have h1 : aggT Tryz.prog 163 = some false := by kernel_rfl
 simp [aP, vpart, h1]
theorem Ft : szT Tryz.prog 184 = some 1 := by kernel_rfl
theorem Fu {c : VV} {cs : List VV} : aP Tryz.prog 184 (c :: cs) = some c := by
 have h1 : aggT Tryz.prog 184 = some false := by kernel_rfl
 simp [aP, vpart, h1]
theorem zd : vzl Tryz.prog 184 = some [.lit .nilFunc] := by kernel_rfl
theorem Fv : szT Tryz.prog 127 = some 2 := by kernel_rfl
theorem qU : vzl Tryz.prog 127 = some [.lit .nilFunc, .lit .nilFunc] := by kernel_rfl
theorem Ul {H : Nat → Option VObj} {β o : Nat} {k : IntKind} : ag Tryz.prog H 127 (.ptr β o) (.lit (.int k 0)) = if (H β).isSome = true then some (.ptr β (o + 0)) else none := by
 have h2 : szT Tryz.prog 126 = some 1 := by kernel_rfl
 simp [ag, Tryz.underlying127, h2]
theorem Um {H : Nat → Option VObj} {β o : Nat} {k : IntKind} : ag Tryz.prog H 127 (.ptr β o) (.lit (.int k 1)) = if (H β).isSome = true then some (.ptr β (o + 1)) else none := by
 have h2 : szT Tryz.prog 126 = some 1 := by kernel_rfl
 simp [ag, Tryz.underlying127, h2]
theorem Un : vbuild Tryz.prog 22 [] = some (.agg [.lit (.int .i64 0), .lit (.int .i64 0), .lit (.int .i64 0)]) := by
 rw [px qR (by kernel_rfl)]
 rfl
theorem Uo {cJ dw mN : VV} (h : leafL [cJ, dw, mN] = true) : vbuild Tryz.prog 22 [(0, cJ), (1, dw), (2, mN)] = some (.agg [cJ, dw, mN]) := by
 have p0 : placeT Tryz.prog 22 0 = some (0, 1) := by kernel_rfl
 have p1 : placeT Tryz.prog 22 1 = some (1, 1) := by kernel_rfl
 have p2 : placeT Tryz.prog 22 2 = some (2, 1) := by kernel_rfl
 simp only [lP, lO, Bool.and_true, Bool.and_eq_true] at h
 rw [px qR (by kernel_rfl)]
 simp [vfill, p0, p1, p2, vcells1, h, overwrite]
theorem Up : vbuild Tryz.prog 24 [] = some (.agg [.lit (.int .i64 0), .lit (.int .i64 0)]) := by
 rw [px qS (by kernel_rfl)]
 rfl
theorem Uq {cJ dw : VV} (h : leafL [cJ, dw] = true) : vbuild Tryz.prog 24 [(0, cJ), (1, dw)] = some (.agg [cJ, dw]) := by
 have p0 : placeT Tryz.prog 24 0 = some (0, 1) := by kernel_rfl
 have p1 : placeT Tryz.prog 24 1 = some (1, 1) := by kernel_rfl
 simp only [lP, lO, Bool.and_true, Bool.and_eq_true] at h
 rw [px qS (by kernel_rfl)]
 simp [vfill, p0, p1, vcells1, h, overwrite]
theorem Ur : vbuild Tryz.prog 25 [] = some (.agg [.lit (.int .i64 0), .lit (.int .i64 0), .lit (.int .i64 0), .lit (.int .i64 0), .lit (.int .i64 0), .lit (.int .i64 0)]) := by
 rw [px uE (by kernel_rfl)]
 rfl
theorem Us {cJ j0 j1 j2 j3 j4 qV qW qX qY lL lM lN dw : VV} (h : leafL [cJ, j0, j1, j2, j3, j4, qV, qW, qX, qY, lL, lM, lN, dw] = true) : vbuild Tryz.prog 89 [(0, .agg [cJ, j0, j1, j2, j3, j4, qV, qW, qX, qY, lL, lM, lN]), (1, dw)] = some (.agg [cJ, j0, j1, j2, j3, j4, qV, qW, qX, qY, lL, lM, lN, dw]) := by
 have p0 : placeT Tryz.prog 89 0 = some (0, 13) := by kernel_rfl
 have p1 : placeT Tryz.prog 89 1 = some (13, 1) := by kernel_rfl
 simp only [lP, lO, Bool.and_true, Bool.and_eq_true] at h
 have q0 : vcells (.agg [cJ, j0, j1, j2, j3, j4, qV, qW, qX, qY, lL, lM, lN]) = some [cJ, j0, j1, j2, j3, j4, qV, qW, qX, qY, lL, lM, lN] := by rw [Kv]; simp [lP, lO, h]
 rw [px uF (by kernel_rfl)]
 simp [vfill, p0, p1, vcells1, h, overwrite, q0]
theorem Ut {cJ j0 j1 j2 j3 j4 : VV} (h : leafL [cJ, j0, j1, j2, j3, j4] = true) : vbuild Tryz.prog 94 [(0, .agg [cJ, j0, j1, j2, j3, j4])] = some (.agg [cJ, j0, j1, j2, j3, j4]) := by
 have p0 : placeT Tryz.prog 94 0 = some (0, 6) := by kernel_rfl
 simp only [lP, lO, Bool.and_true, Bool.and_eq_true] at h
 have q0 : vcells (.agg [cJ, j0, j1, j2, j3, j4]) = some [cJ, j0, j1, j2, j3, j4] := by rw [Kv]; simp [lP, lO, h]
 rw [px uG (by kernel_rfl)]
 simp [vfill, p0, vcells1, h, overwrite, q0]
theorem Uu : vbuild Tryz.prog 99 [] = some (.agg [.lit (.int .i64 0), .lit (.int .i64 0), .lit (.int .i64 0)]) := by
 rw [px qT (by kernel_rfl)]
 rfl
theorem Uv {cJ dw mN : VV} (h : leafL [cJ, dw, mN] = true) : vbuild Tryz.prog 99 [(0, cJ), (1, dw), (2, mN)] = some (.agg [cJ, dw, mN]) := by
 have p0 : placeT Tryz.prog 99 0 = some (0, 1) := by kernel_rfl
 have p1 : placeT Tryz.prog 99 1 = some (1, 1) := by kernel_rfl
 have p2 : placeT Tryz.prog 99 2 = some (2, 1) := by kernel_rfl
 simp only [lP, lO, Bool.and_true, Bool.and_eq_true] at h
 rw [px qT (by kernel_rfl)]
 simp [vfill, p0, p1, p2, vcells1, h, overwrite]
theorem Uw {cJ dw : VV} (h : leafL [cJ, dw] = true) : vbuild Tryz.prog 127 [(0, cJ), (1, dw)] = some (.agg [cJ, dw]) := by
 have p0 : placeT Tryz.prog 127 0 = some (0, 1) := by kernel_rfl
 have p1 : placeT Tryz.prog 127 1 = some (1, 1) := by kernel_rfl
 simp only [lP, lO, Bool.and_true, Bool.and_eq_true] at h
 rw [px qU (by kernel_rfl)]
 simp [vfill, p0, p1, vcells1, h, overwrite]
theorem Fx : vbuild Tryz.prog 132 [] = some (.agg []) := by kernel_rfl
theorem Fy : szT Tryz.prog 132 = some 0 := by kernel_rfl
theorem ze : vzl Tryz.prog 132 = some [] := by kernel_rfl
theorem Ux {cJ dw : VV} (h : leafL [cJ, dw] = true) : vbuild Tryz.prog 138 [(0, cJ), (1, dw)] = some (.agg [cJ, dw]) := by
 have p0 : placeT Tryz.prog 138 0 = some (0, 1) := by kernel_rfl
 have p1 : placeT Tryz.prog 138 1 = some (1, 1) := by kernel_rfl
 simp only [lP, lO, Bool.and_true, Bool.and_eq_true] at h
 rw [px zb (by kernel_rfl)]
 simp [vfill, p0, p1, vcells1, h, overwrite]
theorem Fz {x : VV} : mkIfcV Tryz.prog 132 x = some (.ifc 132 x) := by simp [mkIfcV, Tryz.underlying132]
theorem F0 : ((Tryz.prog.info? 132).bind (·.zero)).map (fun z => VV.tup [ofVal2 z, .lit (.bool false)]) = some (.tup [.agg [], .lit (.bool false)]) := by kernel_rfl
theorem F1 : vtypeAssert Tryz.prog (.lit .nilIface) 132 true = some (.tup [.agg [], .lit (.bool false)]) := by
 simp only [vtypeAssert, Tryz.underlying132, if_true]
 exact F0
theorem F2 {x : VV} : vtypeAssert Tryz.prog (.ifc 132 x) 132 true = some (.tup [x, .lit (.bool true)]) := by
 simp [vtypeAssert, Tryz.underlying132]
theorem be4 {H : Nat → Option VObj} {x y : Operand} {a b : Bool} : binV Tryz.prog H .eql 4 x y (.lit (.bool a)) (.lit (.bool b)) = some (.lit (.bool (a == b))) := JR Tryz.underlying4
theorem bn4 {H : Nat → Option VObj} {x y : Operand} {a b : Bool} : binV Tryz.prog H .neq 4 x y (.lit (.bool a)) (.lit (.bool b)) = some (.lit (.bool (a != b))) := JS Tryz.underlying4
theorem F3 {H : Nat → Option VObj} {x y : Operand} {a0 b0 : Int} {a1 b1 : Int} {a2 b2 : Int} : binV Tryz.prog H .eql 22 x y (.agg [.lit (.int .i64 a0), .lit (.int .i64 a1), .lit (.int .i64 a2)]) (.agg [.lit (.int .i64 b0), .lit (.int .i64 b1), .lit (.int .i64 b2)]) = some (.lit (.bool (a0 == b0 && (a1 == b1 && (a2 == b2))))) ∧ binV Tryz.prog H .neq 22 x y (.agg [.lit (.int .i64 a0), .lit (.int .i64 a1), .lit (.int .i64 a2)]) (.agg [.lit (.int .i64 b0), .lit (.int .i64 b1), .lit (.int .i64 b2)]) = some (.lit (.bool (!(a0 == b0 && (a1 == b1 && (a2 == b2)))))) := by
 have p3 : aggT Tryz.prog 3 = some false := by kernel_rfl
 have z3 : szT Tryz.prog 3 = some 1 := by kernel_rfl
 have rE : aggT Tryz.prog 22 = some true := by kernel_rfl
 have z22 : szT Tryz.prog 22 = some 3 := by kernel_rfl
 refine binA (xs := [.int .i64 a0, .int .i64 a1, .int .i64 a2]) (ys := [.int .i64 b0, .int .i64 b1, .int .i64 b2]) (by simp [VV.val?, valL?]) (by simp [VV.val?, valL?]) Tryz.underlying22 (by kernel_rfl) ?_
 simp [eqD, eqAs, eqFs, partO, oN, eq1, List.range', Tryz.underlying3, p3, z3, Tryz.underlying22, rE, z22, Bool.and_assoc]
theorem Uy {H : Nat → Option VObj} {x y : Operand} {a0 b0 : Int} {a1 b1 : Int} {a2 b2 : Int} : binV Tryz.prog H .eql 22 x y (.agg [.lit (.int .i64 a0), .lit (.int .i64 a1), .lit (.int .i64 a2)]) (.agg [.lit (.int .i64 b0), .lit (.int .i64 b1), .lit (.int .i64 b2)]) = some (.lit (.bool (a0 == b0 && (a1 == b1 && (a2 == b2))))) := F3.1
theorem Uz {H : Nat → Option VObj} {x y : Operand} {a0 b0 : Int} {a1 b1 : Int} {a2 b2 : Int} : binV Tryz.prog H .neq 22 x y (.agg [.lit (.int .i64 a0), .lit (.int .i64 a1), .lit (.int .i64 a2)]) (.agg [.lit (.int .i64 b0), .lit (.int .i64 b1), .lit (.int .i64 b2)]) = some (.lit (.bool (!(a0 == b0 && (a1 == b1 && (a2 == b2)))))) := F3.2
theorem F4 {H : Nat → Option VObj} {x y : Operand} {a0 b0 : Int} {a1 b1 : Int} {a2 b2 : Int} {a3 b3 : Int} {a4 b4 : Int} {a5 b5 : Int} : binV Tryz.prog H .eql 25 x y (.agg [.lit (.int .i64 a0), .lit (.int .i64 a1), .lit (.int .i64 a2), .lit (.int .i64 a3), .lit (.int .i64 a4), .lit (.int .i64 a5)]) (.agg [.lit (.int .i64 b0), .lit (.int .i64 b1), .lit (.int .i64 b2), .lit (.int .i64 b3), .lit (.int .i64 b4), .lit (.int .i64 b5)]) = some (.lit (.bool (a0 == b0 && (a1 == b1 && (a2 == b2 && (a3 == b3 && (a4 == b4 && (a5 == b5)))))))) ∧ binV Tryz.prog H .neq 25 x y (.agg [.lit (.int .i64 a0), .lit (.int .i64 a1), .lit (.int .i64 a2), .lit (.int .i64 a3), .lit (.int .i64 a4), .lit (.int .i64 a5)]) (.agg [.lit (.int .i64 b0), .lit (.int .i64 b1), .lit (.int .i64 b2), .lit (.int .i64 b3), .lit (.int .i64 b4), .lit (.int .i64 b5)]) = some (.lit (.bool (!(a0 == b0 && (a1 == b1 && (a2 == b2 && (a3 == b3 && (a4 == b4 && (a5 == b5))))))))) := by
 have p3 : aggT Tryz.prog 3 = some false := by kernel_rfl
 have z3 : szT Tryz.prog 3 = some 1 := by kernel_rfl
 have p24 : aggT Tryz.prog 24 = some true := by kernel_rfl
 have z24 : szT Tryz.prog 24 = some 2 := by kernel_rfl
 have rJ : aggT Tryz.prog 25 = some true := by kernel_rfl
 have z25 : szT Tryz.prog 25 = some 6 := by kernel_rfl
 have Db : Tryz.prog.stoodInHeld 24 = false := by kernel_rfl
 refine binA (xs := [.int .i64 a0, .int .i64 a1, .int .i64 a2, .int .i64 a3, .int .i64 a4, .int .i64 a5]) (ys := [.int .i64 b0, .int .i64 b1, .int .i64 b2, .int .i64 b3, .int .i64 b4, .int .i64 b5]) (by simp [VV.val?, valL?]) (by simp [VV.val?, valL?]) Tryz.underlying25 (by kernel_rfl) ?_
 simp [eqD, eqAs, eqFs, partO, oN, eq1, List.range', Tryz.underlying3, p3, z3, Tryz.underlying24, p24, z24, Tryz.underlying25, rJ, z25, Db, Bool.and_assoc]
theorem U0 {H : Nat → Option VObj} {x y : Operand} {a0 b0 : Int} {a1 b1 : Int} {a2 b2 : Int} {a3 b3 : Int} {a4 b4 : Int} {a5 b5 : Int} : binV Tryz.prog H .eql 25 x y (.agg [.lit (.int .i64 a0), .lit (.int .i64 a1), .lit (.int .i64 a2), .lit (.int .i64 a3), .lit (.int .i64 a4), .lit (.int .i64 a5)]) (.agg [.lit (.int .i64 b0), .lit (.int .i64 b1), .lit (.int .i64 b2), .lit (.int .i64 b3), .lit (.int .i64 b4), .lit (.int .i64 b5)]) = some (.lit (.bool (a0 == b0 && (a1 == b1 && (a2 == b2 && (a3 == b3 && (a4 == b4 && (a5 == b5)))))))) := F4.1
theorem U1 {H : Nat → Option VObj} {x y : Operand} {a0 b0 : Int} {a1 b1 : Int} {a2 b2 : Int} {a3 b3 : Int} {a4 b4 : Int} {a5 b5 : Int} : binV Tryz.prog H .neq 25 x y (.agg [.lit (.int .i64 a0), .lit (.int .i64 a1), .lit (.int .i64 a2), .lit (.int .i64 a3), .lit (.int .i64 a4), .lit (.int .i64 a5)]) (.agg [.lit (.int .i64 b0), .lit (.int .i64 b1), .lit (.int .i64 b2), .lit (.int .i64 b3), .lit (.int .i64 b4), .lit (.int .i64 b5)]) = some (.lit (.bool (!(a0 == b0 && (a1 == b1 && (a2 == b2 && (a3 == b3 && (a4 == b4 && (a5 == b5))))))))) := F4.2
theorem U2 : (VV.lit Value.nilFunc).leaf = true := rfl
theorem U3 : (VV.lit Value.nilIface).leaf = true := rfl
def tyf := (And.intro (And.intro (And.intro (And.intro (And.intro (And.intro (And.intro @wF @ui) (And.intro @wG @zO)) (And.intro (And.intro @CY @CZ) (And.intro @Hl (And.intro @zqg @ld3)))) (And.intro (And.intro (And.intro @sz3 @SZ) (And.intro @ld4 (And.intro @sz4 @Ta))) (And.intro (And.intro @Tb @Tc) (And.intro @qR (And.intro @Td @Te))))) (And.intro (And.intro (And.intro (And.intro @Tf @Tg) (And.intro @Th (And.intro @Ti @Tj))) (And.intro (And.intro @Tk @Tl) (And.intro @Tm (And.intro @Tn @qS)))) (And.intro (And.intro (And.intro @To @Tp) (And.intro @Tq (And.intro @Ts @Tt))) (And.intro (And.intro @Tu @Tv) (And.intro @Tw (And.intro @uE @Tx)))))) (And.intro (And.intro (And.intro (And.intro (And.intro @Ty @Tz) (And.intro @T0 @T1)) (And.intro (And.intro @T2 @T3) (And.intro @T4 (And.intro @T5 @T6)))) (And.intro (And.intro (And.intro @T7 @Fb) (And.intro @lenN26 (And.intro @lenR26 @tA))) (And.intro (And.intro @T8 @T9) (And.intro @TA (And.intro @TB @Fe))))) (And.intro (And.intro (And.intro (And.intro @TC @TD) (And.intro @TE (And.intro @TF @TG))) (And.intro (And.intro @TH @TI) (And.intro @TJ (And.intro @Ff @Fg)))) (And.intro (And.intro (And.intro @lenN29 @lenR29) (And.intro @ll (And.intro @TK @TL))) (And.intro (And.intro @TM @TN) (And.intro @TO (And.intro @Fh @TP))))))) (And.intro (And.intro (And.intro (And.intro (And.intro (And.intro @Fi @lenN40) (And.intro @lenR40 @TQ)) (And.intro (And.intro @TR @TS) (And.intro @TT (And.intro @TU @TV)))) (And.intro (And.intro (And.intro @uF @TW) (And.intro @TX (And.intro @TY @TZ))) (And.intro (And.intro @uG @Ua) (And.intro @Ub (And.intro @Uc @Ud))))) (And.intro (And.intro (And.intro (And.intro @qT @Ue) (And.intro @Uf (And.intro @Ug @Uh))) (And.intro (And.intro @Ui @Uj) (And.intro @yZ (And.intro @lenN106 @lenR106)))) (And.intro (And.intro (And.intro @Fj @Fk) (And.intro @Uk (And.intro @za @lenN121))) (And.intro (And.intro @lenR121 @Fl) (And.intro @Fm (And.intro @Fo @Fp)))))) (And.intro (And.intro (And.intro (And.intro (And.intro @Fq @Fs) (And.intro @Ft (And.intro @Fu @zd))) (And.intro (And.intro @Fv @qU) (And.intro @Ul (And.intro @Um @Un)))) (And.intro (And.intro (And.intro @Uo @Up) (And.intro @Uq (And.intro @Ur @Us))) (And.intro (And.intro @Ut @Uu) (And.intro @Uv (And.intro @Uw @Fx))))) (And.intro (And.intro (And.intro (And.intro @Fy @ze) (And.intro @Ux (And.intro @Fz @F1))) (And.intro (And.intro @F2 @be4) (And.intro @bn4 (And.intro @Uy @Uz)))) (And.intro (And.intro (And.intro @U0 @U1) (And.intro @U2 (And.intro @U3 @JT))) (And.intro (And.intro @eI_eq @uS) (And.intro @eB_eq (And.intro @eS_eq @uT))))))))
def av := (And.intro (And.intro (And.intro @eC.norm @eC.normL) (And.intro @eC.shown (And.intro @jL.normL @jL.showL))) (And.intro (And.intro @lS.norm @w7.norm) (And.intro @w7.shown (And.intro @SY.normL @SY.showL))))
def au := (And.intro (And.intro @eC.treeL @jL.treeL) (And.intro @lS.tree (And.intro @w7.tree @SY.treeL)))
end Go.V
namespace Go.V
open Go Go.Proofs
theorem ktA {P : Program} {G : Glob} {d : Option Tmp} {γ : Nat} {tm : Nat → VV} {H : Nat → Option VObj} {nx : Nat} {df : List VDef} {K : St → Prop} {Qp : VV → St → Prop} {f : FuncId} {args args0 : List VV} {x : VV} (hp : ad P G f args0 (.tree x)) (h : fin d γ tm H nx df K x .none) (hn : normL args = args0 := by first | (simp only [nrm, av] <;> rfl) | rfl) (ht : treeL args = true := by simp only [tre, au, Bool.and_self]) : callK P G f args ⟨tm, H, nx, df⟩ d γ K Qp := ktree hn ht hp h
theorem dktA {P : Program} {G : Glob} {d : Option Tmp} {γ : Nat} {tm : Nat → VV} {H : Nat → Option VObj} {nx : Nat} {df : List VDef} {K : List Nat → List Nat → St → Prop} {f : FuncId} {args args0 : List VV} {x : VV} (hp : ad P G f args0 (.tree x)) (h : fin d γ tm H nx df (K [] []) x .none) (hn : normL args = args0 := by first | (simp only [nrm, av] <;> rfl) | rfl) (ht : treeL args = true := by simp only [tre, au, Bool.and_self]) : dcallK P G f args tm H nx df d γ K := dktree hn ht hp h
theorem optI {α β : Type} {K : Option β → Prop} {X : Option α} {F : α → Option β} (h : K (Option.bind X F)) (kN : ¬ K none) : ∃ r, X = some r ∧ K (F r) := by
  cases X with
  | none => exact absurd h kN
  | some r => exact ⟨r, rfl, h⟩
end Go.V
end
section
namespace Go.V
open Go Go.Proofs
def Dec (P : Program) (n : Nat) (t : TypeId) {α : Type} (enc : α → List VV) (R : α → Prop) : Prop := ∀ xs, ShapeT P n t xs → ∃ x : α, R x ∧ normL xs = enc x
theorem Pp {P : Program} {n : Nat} {t : TypeId} (hu : P.underlying t = some (.int .i64)) : Dec P (n + 1) t eI (fun _ => True) := by
 intro xs h
 simp only [ShapeT, hu] at h
 obtain ⟨i, _, rfl⟩ := h
 exact ⟨i, trivial, by simp only [uM, uN, Vy, eI]⟩
theorem F5 {P : Program} {n : Nat} {t : TypeId} {α : Type} {enc : α → List VV} {R : α → Prop} (h : Dec P n t enc R) : ∀ yss : List (List VV), (∀ ys ∈ yss, ShapeT P n t ys) → ∃ l : List α, l.length = yss.length ∧ (∀ x ∈ l, R x) ∧ normL yss.flatten = aa enc l
 | [], _ => ⟨[], rfl, fun _ hx => (by cases hx), rfl⟩
 | ys :: yss, hs => by
  obtain ⟨x, hx, e⟩ := h ys (hs ys (List.mem_cons_self ..))
  obtain ⟨l, h1, h2, h3⟩ := F5 h yss (fun y hy => hs y (List.mem_cons_of_mem _ hy))
  refine ⟨x :: l, by simp [h1], fun y hy => ?_, by rw [List.flatten_cons, sX, e, h3, rC]⟩
  rcases List.mem_cons.1 hy with rfl | hy
  ·exact hx
  ·exact h2 y hy
theorem Pq {P : Program} {n : Nat} {t e : TypeId} {α : Type} {enc : α → List VV} {R : α → Prop} (hu : P.underlying t = some (.slice e)) (h : Dec P n e enc R) : Dec P (n + 1) t (fun l : List α => [.sl (aa enc l) l.length false]) (fun l => lenOk l = true ∧ ∀ x ∈ l, R x) := by
 intro xs hs
 simp only [ShapeT, hu] at hs
 rcases hs with rfl | ⟨yss, hl, hall, rfl⟩
 ·exact ⟨[], ⟨rfl, fun _ hx => (by cases hx)⟩, by simp only [uM, uN, Vx]; rfl⟩
 ·obtain ⟨l, h1, h2, h3⟩ := F5 h yss hall
  refine ⟨l, ⟨?_, h2⟩, by simp only [uM, uN, Bq, h3, h1]⟩
  have : maxLen = 9223372036854775807 := by decide
  unfold lenOk
  exact decide_eq_true (by omega)
theorem U4 {P : Program} {n : Nat} {t : TypeId} {fs : Array Field} {xs : List VV} (hu : P.underlying t = some (.struct fs)) (h : ShapeT P (n + 1) t xs) : ∃ yss, FieldsS (ShapeT P n) fs.toList yss ∧ xs = yss.flatten := by
 simp only [ShapeT, hu] at h
 exact h
def TypesS (S : TypeId → List VV → Prop) : List TypeId → List (List VV) → Prop
 | [], [] => True
 | t :: ts, ys :: yss => S t ys ∧ TypesS S ts yss
 | _, _ => False
theorem F6 {S : TypeId → List VV → Prop} : ∀ (fs : List Field) (yss : List (List VV)), FieldsS S fs yss → TypesS S (fs.map Field.type) yss
 | [], [], _ => trivial
 | f :: fs, ys :: yss, ⟨h1, h2⟩ => ⟨h1, F6 fs yss h2⟩
 | [], _ :: _, h => h
 | _ :: _, [], h => h
theorem G1 {P : Program} {n : Nat} {t : TypeId} {fs : Array Field} {ts : List TypeId} {xs : List VV} (hu : P.underlying t = some (.struct fs)) (ht : fs.toList.map Field.type = ts) (h : ShapeT P (n + 1) t xs) : ∃ yss, TypesS (ShapeT P n) ts yss ∧ xs = yss.flatten := by
 obtain ⟨yss, h1, h2⟩ := U4 hu h
 exact ⟨yss, ht ▸ F6 _ _ h1, h2⟩
theorem Ym {S : TypeId → List VV → Prop} {e : TypeId} : ∀ (yss : List (List VV)), (∀ ys ∈ yss, S e ys) → TypesS S (List.replicate yss.length e) yss
 | [], _ => trivial
 | ys :: yss, h => ⟨h ys (List.mem_cons_self ..), Ym yss fun z hz => h z (List.mem_cons_of_mem _ hz)⟩
theorem W7 {P : Program} {n : Nat} {t e : TypeId} {m : Nat} {ts : List TypeId} {xs : List VV} (hu : P.underlying t = some (.array m e)) (ht : List.replicate m e = ts) (h : ShapeT P (n + 1) t xs) : ∃ yss, TypesS (ShapeT P n) ts yss ∧ xs = yss.flatten := by
 simp only [ShapeT, hu] at h
 obtain ⟨yss, h1, h2, h3⟩ := h
 refine ⟨yss, ?_, h3⟩
 rw [← ht, ← h1]
 exact Ym yss h2
theorem FD {P : Program} {n : Nat} {t : TypeId} {ts : List TypeId} {xs : List VV} (h : ArgsS P n (t :: ts) xs) : ∃ x xs', xs = x :: xs' ∧ ArgS P n t x ∧ ArgsS P n ts xs' := by
 match xs, h with
 | x :: xs', h => exact ⟨x, xs', rfl, h.1, h.2⟩
theorem Il {P : Program} {n : Nat} {xs : List VV} (h : ArgsS P n [] xs) : xs = [] := by
 match xs, h with
 | [], _ => rfl
theorem UH {P : Program} {n : Nat} {t : TypeId} {fs : Array Field} {x : VV} {α : Type} {enc : α → List VV} {R : α → Prop} (hu : P.underlying t = some (.struct fs)) (hd : Dec P n t enc R) (h : ArgS P n t x) : ∃ s, R s ∧ normV x = .agg (enc s) := by
 obtain ⟨ys, h1, h2⟩ := h
 rw [hu] at h2
 obtain rfl : x = .agg ys := h2
 obtain ⟨s, hs, e⟩ := hd ys h1
 exact ⟨s, hs, by rw [KP, e]⟩
theorem Ij {P : Program} {n : Nat} {t e : TypeId} {m : Nat} {x : VV} {α : Type} {enc : α → List VV} {R : α → Prop} (hu : P.underlying t = some (.array m e)) (hd : Dec P n t enc R) (h : ArgS P n t x) : ∃ s, R s ∧ normV x = .agg (enc s) := by
 obtain ⟨ys, h1, h2⟩ := h
 rw [hu] at h2
 obtain rfl : x = .agg ys := h2
 obtain ⟨s, hs, e⟩ := hd ys h1
 exact ⟨s, hs, by rw [KP, e]⟩
theorem Ig {P : Program} {n : Nat} {t : TypeId} {d : TypeDesc} {x : VV} {α : Type} {enc : α → List VV} {R : α → Prop} (hu : P.underlying t = some d) (hn : (∀ fs, d ≠ .struct fs) ∧ ∀ m e, d ≠ .array m e) (hd : Dec P n t enc R) (h : ArgS P n t x) : ∃ s, R s ∧ [normV x] = enc s := by
 obtain ⟨ys, h1, h2⟩ := h
 rw [hu] at h2
 have h3 : ys = [x] := by
  cases d <;> first | exact h2 | exact absurd rfl (hn.1 _) | exact absurd rfl (hn.2 _ _)
 subst h3
 obtain ⟨s, hs, e⟩ := hd _ h1
 exact ⟨s, hs, by rw [← e, uM, uN]⟩
end Go.V
end
