/- Part of a proof. -/
import Derived.Test.YtekhjalgmlflpaaGreatDoorTbj
set_option linter.all false
set_option maxRecDepth 4000
set_option maxHeartbeats 40000000
section
namespace Go.V
open Go Go.Proofs
theorem hmix : Tryz.prog.follows .mixedOrders = true := by kernel_rfl
def kA : VV := (VV.agg [(.lit (.int .i64 (.ofNat 60))), (.lit (.int .i64 (.ofNat 40))), (.lit (.int .i64 (.ofNat 20))), (.lit (.int .i64 (.ofNat 1))), (.lit (.int .i64 (.ofNat 2))), (.lit (.int .i64 (.ofNat 1))), (.lit (.int .i64 (.ofNat 1))), (.lit (.int .i64 (.ofNat 0))), (.lit (.int .i64 (.ofNat 0))), (.lit (.int .i64 (.ofNat 5))), (.lit (.int .i64 (.ofNat 5))), (.lit (.int .i64 (.ofNat 5))), (VV.sl [(.lit (.int .i64 (.ofNat 80))), (.lit (.int .i64 (.ofNat 82))), (.lit (.int .i64 (.ofNat 20))), (.lit (.int .i64 (.ofNat 20))), (.lit (.int .i64 (.ofNat 0))), (.lit (.int .i64 (.ofNat 2))), (.lit (.int .i64 (.ofNat 20))), (.lit (.int .i64 (.ofNat 22))), (.lit (.int .i64 (.ofNat 60))), (.lit (.int .i64 (.ofNat 60))), (.lit (.int .i64 (.ofNat 40))), (.lit (.int .i64 (.ofNat 40))), (.lit (.int .i64 (.ofNat 50))), (.lit (.int .i64 (.ofNat 50))), (.lit (.int .i64 (.ofNat 10))), (.lit (.int .i64 (.ofNat 12))), (.lit (.int .i64 (.ofNat 30))), (.lit (.int .i64 (.ofNat 30)))] 3 Bool.false)])
def kB : VV := (VV.agg [(.lit (.int .i64 (.ofNat 60))), (.lit (.int .i64 (.ofNat 40))), (.lit (.int .i64 (.ofNat 20))), (.lit (.int .i64 (.ofNat 1))), (.lit (.int .i64 (.ofNat 2))), (.lit (.int .i64 (.ofNat 1))), (.lit (.int .i64 (.ofNat 1))), (.lit (.int .i64 (.ofNat 0))), (.lit (.int .i64 (.ofNat 0))), (.lit (.int .i64 (.ofNat 5))), (.lit (.int .i64 (.ofNat 5))), (.lit (.int .i64 (.ofNat 5))), (VV.sl [(.lit (.int .i64 (.ofNat 20))), (.lit (.int .i64 (.ofNat 22))), (.lit (.int .i64 (.ofNat 60))), (.lit (.int .i64 (.ofNat 60))), (.lit (.int .i64 (.ofNat 40))), (.lit (.int .i64 (.ofNat 40))), (.lit (.int .i64 (.ofNat 50))), (.lit (.int .i64 (.ofNat 50))), (.lit (.int .i64 (.ofNat 10))), (.lit (.int .i64 (.ofNat 12))), (.lit (.int .i64 (.ofNat 30))), (.lit (.int .i64 (.ofNat 30)))] 2 Bool.false)])
def kD : VV := (VV.agg [(.lit (.int .i64 (.ofNat 60))), (.lit (.int .i64 (.ofNat 40))), (.lit (.int .i64 (.ofNat 20))), (.lit (.int .i64 (.ofNat 1))), (.lit (.int .i64 (.ofNat 2))), (.lit (.int .i64 (.ofNat 1))), (.lit (.int .i64 (.ofNat 1))), (.lit (.int .i64 (.ofNat 0))), (.lit (.int .i64 (.ofNat 0))), (.lit (.int .i64 (.ofNat 2))), (.lit (.int .i64 (.ofNat 9))), (.lit (.int .i64 (.ofNat 5))), (VV.sl [(.lit (.int .i64 (.ofNat 80))), (.lit (.int .i64 (.ofNat 82))), (.lit (.int .i64 (.ofNat 20))), (.lit (.int .i64 (.ofNat 20))), (.lit (.int .i64 (.ofNat 0))), (.lit (.int .i64 (.ofNat 2))), (.lit (.int .i64 (.ofNat 20))), (.lit (.int .i64 (.ofNat 22))), (.lit (.int .i64 (.ofNat 60))), (.lit (.int .i64 (.ofNat 60))), (.lit (.int .i64 (.ofNat 40))), (.lit (.int .i64 (.ofNat 40))), (.lit (.int .i64 (.ofNat 50))), (.lit (.int .i64 (.ofNat 50))), (.lit (.int .i64 (.ofNat 10))), (.lit (.int .i64 (.ofNat 12))), (.lit (.int .i64 (.ofNat 30))), (.lit (.int .i64 (.ofNat 30)))] 3 Bool.false)])
def kAim : VV := (VV.tup [(VV.agg [(.lit (.int .i64 (.ofNat 42))), (.lit (.int .i64 (.ofNat 58))), (.lit (.int .i64 (.ofNat 31))), (.lit (.int .i64 (.ofNat 38))), (.lit (.int .i64 (.ofNat 20))), (.lit (.int .i64 (.ofNat 20)))]), (.lit (.int .i64 (.ofNat 0)))])
def kSums : VV := (VV.tup [(VV.agg [(.lit (.int .i64 (.ofNat 100))), (.lit (.int .i64 (.ofNat 104))), (.lit (.int .i64 (.ofNat 80))), (.lit (.int .i64 (.ofNat 80))), (.lit (.int .i64 (.ofNat 40))), (.lit (.int .i64 (.ofNat 42)))]), (.lit (.int .i64 (.ofNat 0)))])
def kTrue : VV := (VV.tup [(VV.lit (Value.bool Bool.true)), (.lit (.int .i64 (.ofNat 0)))])
def kWord : VV := (VV.tup [(.lit (.int .i64 (.ofNat 2))), (.lit (.int .i64 (.ofNat 0)))])
def kYears : VV := (VV.tup [(VV.agg [(.lit (.int .i64 (.ofNat 2))), (.lit (.int .i64 (.ofNat 5)))]), (.lit (.int .i64 (.ofNat 0)))])
def kRead : VV := (VV.tup [(VV.agg [(.lit (.int .i64 (.ofNat 1))), (.lit (.int .i64 (.ofNat 2))), (.lit (.int .i64 (.ofNat 3))), (.lit (.int .i64 (.ofNat 0))), (.lit (.int .i64 (.ofNat 0))), (.lit (.int .i64 (.ofNat 0))), (.lit (.int .i64 (.ofNat 0))), (.lit (.int .i64 (.ofNat 0))), (.lit (.int .i64 (.ofNat 0))), (.lit (.int .i64 (.ofNat 0))), (.lit (.int .i64 (.ofNat 0))), (.lit (.int .i64 (.ofNat 1))), (VV.sl [(.lit (.int .i64 (.ofNat 1))), (.lit (.int .i64 (.ofNat 1))), (.lit (.int .i64 (.ofNat 2))), (.lit (.int .i64 (.ofNat 2))), (.lit (.int .i64 (.ofNat 3))), (.lit (.int .i64 (.ofNat 3)))] 1 Bool.false)]), (.lit (.int .i64 (.ofNat 0)))])
def kCount : VV := .tup [.lit (.int .i64 9), .lit (.int .i64 0)]
def kNear : VV := .tup [.sl [.lit (.int .i64 1), .lit (.int .i64 1), .lit (.int .i64 0)] 3 false, .lit (.int .i64 5), .lit (.int .i64 0)]
def kNeeds : VV := .tup [.sl [.lit (.int .i64 0), .lit (.int .i64 1)] 2 false, .lit (.int .i64 0)]
def kProof : VV := .tup [.agg [.lit (.int .i64 0), .lit (.int .i64 0), .lit (.int .i64 (-2))], .lit (.int .i64 0)]
def kFirst : VV := .tup [.sl [.lit (.int .i64 1), .lit (.int .i64 1), .lit (.int .i64 0)] 3 false, .lit (.int .i64 0)]
def kMay : VV := .tup [.sl [.lit (.int .i64 1), .lit (.int .i64 1), .lit (.int .i64 0)] 3 false, .lit (.int .i64 0)]
theorem pA : VPure Tryz.prog G0 54 [] (.tree kA) := VPure.closedB hmix 1000 (by kernel_rfl)
theorem pB : VPure Tryz.prog G0 56 [] (.tree kB) := VPure.closedB hmix 1000 (by kernel_rfl)
theorem pD : VPure Tryz.prog G0 53 [] (.tree kD) := VPure.closedB hmix 1000 (by kernel_rfl)
theorem pAim : VPure Tryz.prog G0 18 [kD] (.tree kAim) := VPure.closedB hmix 1000 (by kernel_rfl)
theorem pSums : VPure Tryz.prog G0 19 [kA, .sl [.lit (.int .i64 (1)), .lit (.int .i64 (1)), .lit (.int .i64 (0))] 3 false] (.tree kSums) := VPure.closedB hmix 1000 (by kernel_rfl)
theorem pWord : VPure Tryz.prog G0 27 [kA, .sl [.lit (.int .i64 (3)), .lit (.int .i64 (2)), .lit (.int .i64 (0))] 3 false] (.tree kWord) := VPure.closedB hmix 1000 (by kernel_rfl)
theorem pTrue : VPure Tryz.prog G0 24 [kA, .sl [.lit (.int .i64 (1)), .lit (.int .i64 (1)), .lit (.int .i64 (0))] 3 false, .agg [.sl [.lit (.int .i64 80),.lit (.int .i64 20),.lit (.int .i64 0),.lit (.int .i64 20),.lit (.int .i64 60),.lit (.int .i64 40),.lit (.int .i64 50),.lit (.int .i64 10),.lit (.int .i64 30)] 3 false,.lit (.int .i64 5),.lit (.int .i64 2),.lit (.int .i64 1),.lit (.int .i64 0)]] (.tree kTrue) := VPure.closedB hmix 1000 (by kernel_rfl)
theorem pYears : VPure Tryz.prog G0 28 [kD, .sl [.lit (.int .i64 (1)), .lit (.int .i64 (1)), .lit (.int .i64 (0))] 3 false] (.tree kYears) := VPure.closedB hmix 1000 (by kernel_rfl)
theorem pRead : VPure Tryz.prog G0 57 [.lit (.string ⟨⟨[98, 111, 97, 114, 100, 32, 49, 32, 50, 32, 51, 32, 48, 32, 48, 32, 49, 10, 102, 97, 100, 101, 32, 48, 32, 48, 32, 48, 32, 48, 32, 48, 32, 48, 10, 116, 105, 110, 32, 49, 32, 49, 32, 50, 32, 50, 32, 51, 32, 51, 10, 101, 110, 100, 32, 49, 54, 52, 10]⟩⟩)] (.tree kRead) := VPure.closedB hmix 1000 (by kernel_rfl)
def zfg (xs : List Int) : Option (List Int) := cond (neB xs) (cond (roomOk 8 xs.length) (some xs) none) none
theorem zku (xs R : List Int) (h : zfg xs = some R) : VPure Tryz.prog G0 140 [.sl (cellsL eI xs) xs.length false] (.own (cellsL eI R) R.length 1) := by
 unfold zfg at h
 cases hn : neB xs with
 | false => rw [hn] at h; cases h
 | true =>
 cases hr : roomOk 8 xs.length with
 | false => rw [hn, hr] at h; cases h
 | true =>
 rw [hn, hr] at h
 simp only [cond_true, Option.some.injEq] at h
 subst h
 have hc : cellsL eI xs ≠ [] := by
  cases xs with
  | nil => cases hn
  | cons a l => intro hh; cases hh
 have hnil : ∀ (H : Nat → Option VObj) (x y : Operand), binV Tryz.prog H .eql 29 x y (.sl (cellsL eI xs) xs.length false) (.lit (.slice none 0 0)) = some (.lit (.bool false)) := fun H x y => zabh Tryz.underlying29 hc
 have hb : vbuildSlice Tryz.prog 29 0 [] = some ([], 1) := by kernel_rfl
 refine VPure.run mixed Tryz.call140 Tryz.func140 rfl (by simp [Tryz.ntmps140]; kernel_rfl) ?_
 simp only [vz, tyf, hnil, hb, List.map_nil, seval]
 refine zash (w := 1) (enc := eI) (xs := ([] : List Int)) (ys := xs) (el := some 3) (fun _ => rfl) lf29 ao29 Tryz.underlying29 rfl hn (by rw [List.nil_append]; exact hr) ?_
 simp only [vz, tyf, List.nil_append, seval]
 refine ⟨rfl, .ref 5 0 xs.length 1 xs.length, by simp [Tryz.results140, resV, resL, resV1, upd], (cellsL eI xs).length + 1, 5, _, cellsL eI xs, ⟨_, rfl⟩, by simp only [zab, zak, seval] <;> rfl, zje _ _ (eI_ok.treeL xs) (Nat.lt_succ_self _)⟩
def ExtOk (β y e : Nat) (mc : List VV) (mf : Nat) (ln lim : Nat) (may : List Int → Int → Option Bool) (I : Inv) (d : Nat) : Prop :=
 ∀ (p : List Int) (rest : List VV) (L : List (List Int)) (Fr : Nat → Prop) (H : Nat → Option VObj) (nx : Nat), p.length + d = ln → listsO may lim d p = some L → (∀ γ, Fr γ → γ < nx) → Fr y → Fr e → H y = some (.cells (some 184) [.yl β]) →
  H e = some (.cells (some 184) [.fn (.func 139) [] [.tp [.lit (.int .i64 ln)], .ptr y 0, .tp [.lit (.int .i64 lim)], .tp [.fn (.func mf) [] mc], .ptr e 0]]) →
  I (some (L.map (vx eI) ++ rest)) Fr H nx →
  VOpen Tryz.prog G0 139 [vx eI p, .tp [.lit (.int .i64 ln)], .ptr y 0, .tp [.lit (.int .i64 lim)], .tp [.fn (.func mf) [] mc], .ptr e 0] H nx
   (fun v H' nx' => ∃ b, v = .lit (.bool b) ∧ nx ≤ nx' ∧ (∀ γ, Fr γ → H' γ = H γ) ∧ I (if b then some rest else none) Fr H' nx') (fun _ _ _ => False)
theorem argsTm6 {a b c e f g : VV} : argsTm [a, b, c, e, f, g] = upd (upd (upd (upd (upd (upd (fun _ => .lit undef) 0 a) 1 b) 2 c) 3 e) 4 f) 5 g := by
 funext t; rcases t with _ | _ | _ | _ | _ | _ | t <;> simp [argsTm, upd]
theorem zaiz {P : Program} {t e : Nat} {H : Nat → Option VObj} (hu : P.underlying t = some (.slice e)) : ∀ {p : List Int}, vlen P H t (vx eI p) = some (.lit (.int .i64 p.length))
 | [] => by simp [vlen, vx, hu, sls]
 | _ :: _ => by simp [vlen, vx, hu, sls]
theorem zahh : VPure Tryz.prog G0 140 [.lit (.slice none 0 0)] (.tree (.lit (.slice none 0 0))) := by
 have hnil : ∀ (H : Nat → Option VObj) (x y : Operand), binV Tryz.prog H .eql 29 x y (.lit (.slice none 0 0)) (.lit (.slice none 0 0)) = some (.lit (.bool true)) := fun H x y => by kernel_rfl
 refine VPure.run mixed Tryz.call140 Tryz.func140 rfl (by simp [Tryz.ntmps140]; kernel_rfl) ?_
 simp only [vz, tyf, hnil, seval, ua]
 exact ⟨rfl, .lit (.slice none 0 0), by simp [Tryz.results140, resV, resL, resV1, upd], 1, rfl⟩
theorem zasa {β y e : Nat} {mc : List VV} {mf ln lim : Nat} {may : List Int → Int → Option Bool} {I : Inv} (hst : Stable I) (hr : Rounds Tryz.prog G0 β I) (htm : treeL mc = true) (hln0 : 0 < ln) (hln : ln < 1000) (hlim : lim < 1000000)
  (hm : ∀ (p : List Int) (j : Int) (b : Bool), may p j = some b → VPure Tryz.prog G0 mf (.sl (cellsL eI p) p.length false :: .lit (.int .i64 j) :: mc) (.tree (.lit (.bool b)))) : ∀ d, ExtOk β y e mc mf ln lim may I d := by
 intro d
 induction d with
 | zero =>
  intro p rest L Fr H nx hd hL hF hFy hFe hy he hI
  simp only [listsO, Option.some.injEq] at hL
  subst hL
  refine VOpen.run mixed Tryz.call139 Tryz.func139 rfl (by simp [Tryz.ntmps139]; kernel_rfl) ?_
  have hl := fun H => zaiz (P := Tryz.prog) (H := H) Tryz.underlying29 (p := p)
  have hq : ((p.length : Int) == (ln : Int)) = true := by rw [show p.length = ln from hd]; simp
  simp only [argsTm6, vz, tyf, seval, ua, hl, hq, hy, rg]
  have hI9 : I (some (vx eI p :: rest)) Fr H (nx + 9) := hst _ _ _ _ _ _ _ hI (fun _ _ _ => rfl) (by omega) (fun γ h => .inl h)
  refine (hr (vx eI p) rest Fr H (nx + 9) (fun γ h => by have := hF γ h; omega) hI9) (some none) _ _ _ rfl rfl ?_
  rintro b H' nx' ⟨h1, h2, h3⟩
  simp only [vz, tyf, seval, ua]
  exact zam (x := .lit (.bool b)) (by simp [Tryz.results139, resV, resL, resV1, upd]) ⟨b, rfl, by omega, h2, h3⟩
 | succ d ih =>
  intro p rest L Fr H nx hd hL hF hFy hFe hy he hI
  rw [listsO] at hL
  refine VOpen.run mixed Tryz.call139 Tryz.func139 rfl (by simp [Tryz.ntmps139]; kernel_rfl) ?_
  have hl := fun H => zaiz (P := Tryz.prog) (H := H) Tryz.underlying29 (p := p)
  have hq : ((p.length : Int) == (ln : Int)) = false := by rw [← hd]; simp; omega
  simp only [argsTm6, vz, tyf, seval, ua, hl, hq, hy, rg]
  obtain ⟨J, hJ⟩ : ∃ J : Nat → St → Prop, J = (fun m st => ∃ j : Nat, j + m = lim ∧ st.df = [] ∧ nx ≤ st.nx ∧ (∀ γ, Fr γ → st.H γ = H γ) ∧
   (∃ L, goL (listsO may lim d) may p (List.range' j m) = some L ∧ I (some (L.map (vx eI) ++ rest)) Fr st.H st.nx) ∧
   st.tm 0 = vx eI p ∧ st.tm 4 = .tp [.fn (.func mf) [] mc] ∧ st.tm 5 = .ptr e 0 ∧ st.tm 16 = .lit (.int .i64 lim) ∧ st.tm 17 = .lit (.int .i64 j)) := ⟨_, rfl⟩
  refine loopK mixed (by kernel_rfl) J lim (by rw [hJ]; refine ⟨0, by omega, rfl, ?_, fun _ _ => rfl, ⟨L, hL, hst _ _ _ _ _ _ _ hI (fun _ _ _ => rfl) ?_ (fun γ h => .inl h)⟩, ?_, ?_, ?_, ?_, ?_⟩ <;> first | rfl | (simp only; omega)) ?_
  rintro m ⟨tm, H1, nx1, df⟩ hinv
  rw [hJ] at hinv
  obtain ⟨j, hj, hdf, hn, hF1, ⟨L1, hL1, hI1⟩, e0, e4, e5, e16, e17⟩ := hinv
  simp only at hdf hn hF1 hI1 e0 e4 e5 e16 e17
  subst hdf
  cases m with
  | zero =>
   have hd1 : decide ((j : Int) < (lim : Int)) = false := by simp; omega
   simp only [vz, tyf, seval, ua, e16, e17, hd1]
   refine zam (x := .lit (.bool true)) (by simp [Tryz.results139, resV, resL, resV1, upd]) ⟨true, rfl, by omega, hF1, ?_⟩
   simp only [List.range'_zero, goL, Option.some.injEq] at hL1
   subst hL1
   exact hst _ _ _ _ _ _ _ hI1 (fun _ _ _ => rfl) (by omega) (fun γ h => .inl h)
  | succ m =>
   have hd1 : decide ((j : Int) < (lim : Int)) = true := by simp; omega
   simp only [vz, tyf, seval, ua, e16, e17, hd1, e0, e4, e5]
   refine zmn (fun tm => tm 0 = vx eI p ∧ tm 4 = .tp [.fn (.func mf) [] mc] ∧ tm 5 = .ptr e 0 ∧ tm 8 = .lit (.int .i64 j) ∧ tm 16 = .lit (.int .i64 lim) ∧ tm 17 = .lit (.int .i64 j)) (by refine ⟨?_, ?_, ?_, ?_, ?_, ?_⟩ <;> simp only [ua, seval, e0, e4, e5, e16, e17]) ?_
   clear e0 e4 e5 e16 e17 tm
   rintro tm ⟨e0, e4, e5, e8, e16, e17⟩
   refine zyp mixed 11 rfl rfl rfl (by kernel_rfl) ?_
   rw [List.range'_succ] at hL1
   unfold goL at hL1
   rcases hmb : may p (j : Int) with _ | mb
   ·rw [hmb] at hL1; cases hL1
   rw [hmb, Option.bind_some] at hL1
   have hmay' : VPure Tryz.prog G0 mf (vx eI p :: .lit (.int .i64 j) :: mc) (.tree (.lit (.bool mb))) := VPure.weaken (by
    rintro c W vs ⟨u, us, rfl, h1, h2⟩
    exact ⟨u, us, rfl, zasx h1, h2⟩) (hm p j mb hmb)
   simp only [vz, tyf, seval, ua, e0, e4, e5, e8, e16, e17, rg]
   refine .inl ⟨by simp only [zie, zanu eI_ok, zwp, htm, Bool.and_self], .tree _, hmay', ?_⟩
   have hw : IntKind.i64.wrap ((j : Int) + 1) = ((j + 1 : Nat) : Int) := by rw [IntWalk.i64_in _ (by omega)]; simp
   have he1 : H1 e = _ := (hF1 e hFe).trans he
   have hy1 : H1 y = _ := (hF1 y hFy).trans hy
   have hen : e < nx1 := Nat.lt_of_lt_of_le (hF e hFe) hn
   have hyn : y < nx1 := Nat.lt_of_lt_of_le (hF y hFy) hn
   cases mb with
   | false =>
    rw [cond_false] at hL1
    simp only [vz, tyf, seval, ua, e0, e4, e5, e8, e16, e17, rg, hw]
    rw [hJ]
    exact ⟨m, Nat.lt_succ_self _, j + 1, by omega, rfl, (by show nx ≤ nx1 + 19; omega), hF1, ⟨L1, hL1, hst _ _ _ _ _ _ _ hI1 (fun _ _ _ => rfl) (by show nx1 ≤ nx1 + 19; omega) (fun γ h => .inl h)⟩, by simp only [ua, seval, e0], by simp only [ua, seval, e4], by simp only [ua, seval, e5], by simp only [ua, seval, e16], by simp only [ua, seval]⟩
   | true =>
    rw [cond_true] at hL1
    rcases hLa : listsO may lim d (p ++ [(j : Int)]) with _ | La
    ·rw [hLa] at hL1; cases hL1
    rw [hLa, Option.bind_some] at hL1
    rcases hLr : goL (listsO may lim d) may p (List.range' (j + 1) m) with _ | Lr
    ·rw [hLr] at hL1; cases hL1
    rw [hLr, Option.bind_some, Option.some.injEq] at hL1
    subst hL1
    rw [List.map_append, List.append_assoc] at hI1
    have hv : vx eI (p ++ [(j : Int)]) = .sl (cellsL eI (p ++ [(j : Int)])) (p ++ [(j : Int)]).length false := zadw (by simp)
    have hroom : roomOk 8 (p ++ [(j : Int)]).length = true := by
     unfold roomOk
     simp only [List.length_append, List.length_cons, List.length_nil, decide_eq_true_eq]
     omega
    simp only [vz, tyf, seval, ua, e0, e4, e5, e8, e16, e17, rg, he1]
    rcases hpc : p with _ | ⟨p0, pt⟩
    ·subst hpc
     refine .inl ⟨rfl, .tree _, zahh, ?_⟩
     simp only [vz, tyf, seval, ua, e0, e4, e5, e8, e16, e17, rg, he1]
     have hroom1 : roomOk 8 ([] ++ [(j : Int)]).length = true := rfl
     refine zahi (w := 1) (enc := eI) (ys := [(j : Int)]) (el2 := some 3) (fun _ => rfl) lf29 ao29 Tryz.underlying29 (by simp only [ua, nm, seval]; rfl) (Nat.zero_lt_succ _) hroom1 ?_
     simp only [vz, tyf, seval, ua, nm, e0, e4, e5, e8, e16, e17, rg, he1]
     refine zdt ⟨?_, ?_⟩
     ·simp only [zbx, zcu, zav, zex, and_true, true_and]
      repeat' (first | exact trivial | refine And.intro ?_ ?_ | rw [zav] | rw [zdu] | exact Or.inl (by decide +kernel) | exact Or.inl (by dsimp only; decide +kernel) | (refine Or.inr ⟨?_, ?_⟩ <;> simp; done) | (refine Or.inr ⟨?_, ?_⟩ <;> simp <;> omega) | (refine Or.inr ⟨?_, ?_⟩ <;> simp [VEff.wr] <;> omega))
     simp only [vz, tyf, seval, ua, e0, e4, e5, e8, e16, e17, rg, he1]
     refine kopen ?_
     rw [zsw]
     have hcell : (updH (updH H1 (nx1 + 12) (VObj.cells (some 3) [VV.lit (Value.int IntKind.i64 ↑j)])) (nx1 + 13) (VObj.cells (some 3) (cellsL eI ([] ++ [(j : Int)])))) (nx1 + 13) = some (.cells (some 3) (cellsL eI ([] ++ [(j : Int)]))) := by simp only [ua, seval]
     have hbig : ∀ γ, γ < nx1 → without (updH (updH H1 (nx1 + 12) (VObj.cells (some 3) [VV.lit (Value.int IntKind.i64 ↑j)])) (nx1 + 13) (VObj.cells (some 3) (cellsL eI ([] ++ [(j : Int)])))) (nx1 + 13) γ = H1 γ := by
      intro γ h
      simp only [updH, without]
      repeat rw [if_neg (by omega)]
     refine VOpen.mono (VOpen.freeze1 (γ := nx1 + 13) hcell (args' := [vx eI ([] ++ [(j : Int)]), .tp [.lit (.int .i64 ln)], .ptr y 0, .tp [.lit (.int .i64 lim)], .tp [.fn (.func mf) [] mc], .ptr e 0]) ⟨by rw [hv]; exact Frozen.own hcell (eI_ok.treeL _) (by rw [zcs (w := 1) (fun _ => rfl)]), FrozenL.same⟩ (ih ([] ++ [(j : Int)]) _ La Fr _ _ (by simp at hd ⊢; omega) hLa (fun γ h => by have := hF γ h; omega) hFy hFe ((hbig y hyn).trans hy1) ((hbig e hen).trans he1) (hst _ _ _ _ _ _ _ hI1 (fun γ h _ => hbig γ h) (by omega) (fun γ h => .inl h)))) ?_ (fun _ _ _ h => h.elim)
     rintro v H2 nx2 ⟨b, rfl, h1, h2, h3⟩
     have hF2 : ∀ γ, Fr γ → H2 γ = H γ := fun γ h => by rw [h2 γ h, hbig γ (Nat.lt_of_lt_of_le (hF γ h) hn), hF1 γ h]
     simp only [vz, tyf, seval, ua, e0, e4, e5, e8, e16, e17, rg, he1]
     cases b with
     | false =>
      simp only [vz, tyf, seval, ua, Bool.not_false]
      refine zam (x := .lit (.bool false)) (by simp [Tryz.results139, resV, resL, resV1, upd]) ⟨false, rfl, by omega, hF2, ?_⟩
      exact hst _ _ _ _ _ _ _ h3 (fun _ _ _ => rfl) (by omega) (fun γ h => .inl h)
     | true =>
      simp only [vz, tyf, seval, ua, Bool.not_true, hw]
      simp only [if_true] at h3
      rw [hJ]
      exact ⟨m, Nat.lt_succ_self _, j + 1, by omega, rfl, (by show nx ≤ nx2 + 2; omega), hF2, ⟨Lr, hLr, hst _ _ _ _ _ _ _ h3 (fun _ _ _ => rfl) (by show nx2 ≤ nx2 + 2; omega) (fun γ h => .inl h)⟩, by simp only [ua, seval, e0], by simp only [ua, seval, e4], by simp only [ua, seval, e5], by simp only [ua, seval, e16], by simp only [ua, seval]⟩
    rw [← hpc]
    have hne : p ≠ [] := by rw [hpc]; simp
    have hvp : vx eI p = .sl (cellsL eI p) p.length false := zadw hne
    rw [hvp]
    have hcl : zfg p = some p := by
     unfold zfg
     have h1 : neB p = true := by rw [hpc]; rfl
     have h2 : roomOk 8 p.length = true := by
      unfold roomOk at hroom ⊢
      simp only [List.length_append, List.length_cons, List.length_nil, decide_eq_true_eq] at hroom ⊢
      omega
     rw [h1, h2]; rfl
    refine dkown (args0 := [.sl (cellsL eI p) p.length false]) (by first | (simp only [nrm, tynrm]; done) | (simp only [nrm, tynrm]; rfl) | rfl) (by simp only [tre, tytre, Bool.and_self]) (zku _ _ hcl) ?_
    simp only [vz, tyf, seval, ua, e0, e4, e5, e8, e16, e17, rg, he1]
    refine k_app (w := 1) (enc := eI) (xs := p) (ys := [(j : Int)]) (el := none) (el2 := some 3) (fun _ => rfl) lf29 ao29 Tryz.underlying29 (by simp only [ua, nm, seval]) (by simp only [ua, nm, seval]; rfl) (Nat.zero_lt_succ _) hroom ?_
    simp only [vz, tyf, seval, ua, nm, e0, e4, e5, e8, e16, e17, rg, he1]
    refine zdt ⟨?_, ?_⟩
    ·simp only [zbx, zcu, zav, zex, and_true, true_and]
     repeat' (first | exact trivial | refine And.intro ?_ ?_ | rw [zav] | rw [zdu] | exact Or.inl (by decide +kernel) | exact Or.inl (by dsimp only; decide +kernel) | (refine Or.inr ⟨?_, ?_⟩ <;> simp; done) | (refine Or.inr ⟨?_, ?_⟩ <;> simp <;> omega) | (refine Or.inr ⟨?_, ?_⟩ <;> simp [VEff.wr] <;> omega))
    simp only [vz, tyf, seval, ua, e0, e4, e5, e8, e16, e17, rg, he1]
    refine kopen ?_
    rw [zsw]
    have hcell : (updH (without (updH (updH H1 (nx1 + 10) (VObj.cells none (cellsL eI p))) (nx1 + 12) (VObj.cells (some 3) [VV.lit (Value.int IntKind.i64 ↑j)])) (nx1 + 10)) (nx1 + 13) (VObj.cells (sameEl none 3) (cellsL eI (p ++ [(j : Int)])))) (nx1 + 13) = some (.cells (sameEl none 3) (cellsL eI (p ++ [(j : Int)]))) := by simp only [ua, seval]
    have hbig : ∀ γ, γ < nx1 → without (updH (without (updH (updH H1 (nx1 + 10) (VObj.cells none (cellsL eI p))) (nx1 + 12) (VObj.cells (some 3) [VV.lit (Value.int IntKind.i64 ↑j)])) (nx1 + 10)) (nx1 + 13) (VObj.cells (sameEl none 3) (cellsL eI (p ++ [(j : Int)])))) (nx1 + 13) γ = H1 γ := by
     intro γ h
     simp only [updH, without]
     repeat rw [if_neg (by omega)]
    refine VOpen.mono (VOpen.freeze1 (γ := nx1 + 13) hcell (args' := [vx eI (p ++ [(j : Int)]), .tp [.lit (.int .i64 ln)], .ptr y 0, .tp [.lit (.int .i64 lim)], .tp [.fn (.func mf) [] mc], .ptr e 0]) ⟨by rw [hv]; exact Frozen.own hcell (eI_ok.treeL _) (by rw [zcs (w := 1) (fun _ => rfl)]), FrozenL.same⟩ (ih (p ++ [(j : Int)]) _ La Fr _ _ (by simp; omega) hLa (fun γ h => by have := hF γ h; omega) hFy hFe ((hbig y hyn).trans hy1) ((hbig e hen).trans he1) (hst _ _ _ _ _ _ _ hI1 (fun γ h _ => hbig γ h) (by omega) (fun γ h => .inl h)))) ?_ (fun _ _ _ h => h.elim)
    rintro v H2 nx2 ⟨b, rfl, h1, h2, h3⟩
    have hF2 : ∀ γ, Fr γ → H2 γ = H γ := fun γ h => by rw [h2 γ h, hbig γ (Nat.lt_of_lt_of_le (hF γ h) hn), hF1 γ h]
    simp only [vz, tyf, seval, ua, e0, e4, e5, e8, e16, e17, rg, he1]
    cases b with
    | false =>
     simp only [vz, tyf, seval, ua, Bool.not_false]
     refine zam (x := .lit (.bool false)) (by simp [Tryz.results139, resV, resL, resV1, upd]) ⟨false, rfl, by omega, hF2, ?_⟩
     exact hst _ _ _ _ _ _ _ h3 (fun _ _ _ => rfl) (by omega) (fun γ h => .inl h)
    | true =>
     simp only [vz, tyf, seval, ua, Bool.not_true, hw]
     simp only [if_true] at h3
     rw [hJ]
     exact ⟨m, Nat.lt_succ_self _, j + 1, by omega, rfl, (by show nx ≤ nx2 + 2; omega), hF2, ⟨Lr, hLr, hst _ _ _ _ _ _ _ h3 (fun _ _ _ => rfl) (by show nx2 ≤ nx2 + 2; omega) (fun γ h => .inl h)⟩, by simp only [ua, seval, e0], by simp only [ua, seval, e4], by simp only [ua, seval, e5], by simp only [ua, seval, e16], by simp only [ua, seval]⟩
theorem ztg {mc : List VV} {mf ln lim : Nat} {may : List Int → Int → Option Bool} {L : List (List Int)} (htm : treeL mc = true) (hln0 : 0 < ln) (hln : ln < 1000) (hlim : lim < 1000000)
  (hL : listsO may lim ln [] = some L) (hm : ∀ (p : List Int) (j : Int) (b : Bool), may p j = some b → VPure Tryz.prog G0 mf (.sl (cellsL eI p) p.length false :: .lit (.int .i64 j) :: mc) (.tree (.lit (.bool b)))) :
  Iter Tryz.prog G0 (.fn (.func 138) [] [.tp [.lit (.int .i64 ln)], .tp [.lit (.int .i64 lim)], .tp [.fn (.func mf) [] mc]]) (L.map sI) := by
 rw [← zasd (fun q hq hn => by have := ztf _ _ _ hL q hq; rw [hn] at this; simp at this; omega)]
 refine ⟨138, [], _, rfl, fun β I hst hr H nx hβ hI => ?_⟩
 refine VOpen.run mixed Tryz.call138 Tryz.func138 rfl (by simp [Tryz.ntmps138]; kernel_rfl) ?_
 simp only [List.nil_append, List.cons_append, argsTm4, vz, tyf, seval, ua, rg]
 refine kopen ?_
 rw [zsw]
 refine VOpen.mono (zasa hst hr htm hln0 hln hlim hm ln [] [] L (fun γ => γ = nx + 0 ∨ γ = nx + 1) _ _ (by simp) hL (by rintro γ (rfl | rfl) <;> omega) (.inl rfl) (.inr rfl) (by simp [updH]) (by simp [updH]) ?_) ?_ (fun _ _ _ h => h.elim)
 ·rw [List.append_nil]
  refine hst _ _ _ _ _ _ _ hI ?_ (by omega) (by rintro γ (rfl | rfl) <;> right <;> omega)
  intro γ h _
  simp only [updH]
  repeat rw [if_neg (by omega)]
 rintro v H2 nx2 ⟨b, rfl, h1, h2, h3⟩
 simp only [vz, tyf, seval, ua]
 refine zjr (x := .tup []) (by simp [Tryz.results138, resV, resL]) ?_
 replace h3 := hst _ _ noFr _ _ _ _ h3 (fun _ _ _ => rfl) (Nat.le_refl _) (fun γ h => h.elim)
 cases b with
 | true => exact .inl h3
 | false => exact .inr h3
def zjf (x0_before : List Int) (x1_next : Int) (x2_a2 : Int) (x3_a3 : Int) : Option (Bool) := Option.bind (zlm x0_before) (fun r1 => cond ((IntKind.i64.wrap ((IntKind.i64.wrap (x2_a2 - r1)) - x1_next)) == 0) (some true) (cond (decide ((IntKind.i64.wrap ((IntKind.i64.wrap (x2_a2 - r1)) - x1_next)) > 0)) (some (decide ((List.length x0_before : Int) < (IntKind.i64.wrap (x3_a3 - 1))))) (some false)))
theorem zng (x0_before : List Int) (x1_next : Int) (x2_a2 : Int) (x3_a3 : Int) (R : Bool) (h : zjf x0_before x1_next x2_a2 x3_a3 = some R) : VPure Tryz.prog G0 127 [.sl (cellsL eI x0_before) (List.length x0_before) false, .lit (.int .i64 x1_next), .tp ([.lit (.int .i64 x2_a2)]), .tp ([.lit (.int .i64 x3_a3)])] (.tree (.lit (.bool R))) := by
 refine VPure.runR mixed Tryz.call127 Tryz.func127 rfl (by simp [Tryz.ntmps127]; kernel_rfl) ?_
 obtain ⟨KF, h, kF, kN⟩ := zaj h
 simp only [zjf] at h
 simp only [vz, tyf, nm, seval]
 refine zcq (fun tm => tm 0 = .sl (cellsL eI x0_before) (List.length x0_before) false ∧ tm 1 = .lit (.int .i64 x1_next) ∧ tm 2 = .tp ([.lit (.int .i64 x2_a2)]) ∧ tm 3 = .tp ([.lit (.int .i64 x3_a3)]) ∧ True) (by refine ⟨?_, ?_, ?_, ?_, trivial⟩ <;> first | (simp only [ua, nm, seval] <;> rfl) | rfl) ?_
 rintro tm ⟨e2, e3, e4, e5, _⟩
 obtain ⟨r6, o7, h⟩ := optI h kN
 try simp only [hs] at h
 simp only [vz, tyf, e2, e3, e4, e5, nm, seval]
 refine dktA (zmr _ _ o7) ?_
 refine zac (fun tm => tm 0 = .sl (cellsL eI x0_before) (List.length x0_before) false ∧ tm 1 = .lit (.int .i64 x1_next) ∧ tm 3 = .tp ([.lit (.int .i64 x3_a3)]) ∧ tm 8 = .lit (.int .i64 x2_a2) ∧ tm 10 = .lit (.int .i64 r6) ∧ True) (by refine ⟨e2, e3, e5, ?_, ?_, trivial⟩ <;> first | (simp only [ua, e2, e3, e4, e5, nm, seval] <;> rfl) | rfl) ?_
 rintro tm ⟨e8, e9, e10, e11, e12, _⟩
 cases d13 : ((IntKind.i64.wrap ((IntKind.i64.wrap (x2_a2 - r6)) - x1_next)) == 0)
 ·simp only [d13, hs] at h
  cases d14 : (decide ((IntKind.i64.wrap ((IntKind.i64.wrap (x2_a2 - r6)) - x1_next)) > 0))
  ·simp only [d14, hs] at h
   try simp only [vz, tyf, e8, e9, e10, e11, e12, d13, d14, nm, seval]
   obtain rfl := kF _ h
   exact zaa Tryz.results127 rfl
  simp only [d14, hs] at h
  try simp only [vz, tyf, e8, e9, e10, e11, e12, d13, d14, nm, seval]
  obtain rfl := kF _ h
  exact zaa Tryz.results127 rfl
 simp only [d13, hs] at h
 try simp only [vz, tyf, e8, e9, e10, e11, e12, d13, nm, seval]
 obtain rfl := kF _ h
 exact zaa Tryz.results127 rfl
theorem zaef {mc : List VV} {mf : Nat} {ln lim : Int} (htm : treeL mc = true) : VPure Tryz.prog G0 125 [.lit (.int .i64 ln), .lit (.int .i64 lim), .fn (.func mf) [] mc] (.tree (.fn (.func 138) [] [.tp [.lit (.int .i64 ln)], .tp [.lit (.int .i64 lim)], .tp [.fn (.func mf) [] mc]])) := by
 refine VPure.run mixed Tryz.call125 Tryz.func125 rfl (by simp [Tryz.ntmps125]; kernel_rfl) ?_
 simp only [vz, tyf, seval, ua, rg]
 refine ⟨rfl, .fn (.func 138) [] [.ptr 0 0, .ptr 1 0, .ptr 2 0], by simp [Tryz.results125, resV, resL, resV1, upd], 20, ?_⟩
 simp [sealV, sealL, VV.tree, treeL, updH, htm]
def mayC (t p : Int) : List VV := [.tp [.lit (.int .i64 p)], .tp [.lit (.int .i64 t)]]
theorem zyr {t p : Int} : treeL (mayC t p) = true := rfl
def itM (t p : Int) : VV := .fn (.func 138) [] [.tp [.lit (.int .i64 t)], .tp [.lit (.int .i64 (IntKind.i64.wrap (p + 1)))], .tp [.fn (.func 127) [] (mayC t p)]]
theorem zakf (t p : Int) : VPure Tryz.prog G0 110 [.lit (.int .i64 t), .lit (.int .i64 p)] (.tree (itM t p)) := by
 refine VPure.run mixed Tryz.call110 Tryz.func110 rfl (by simp [Tryz.ntmps110]; kernel_rfl) ?_
 simp only [vz, tyf, seval, ua, rg]
 refine kopen ?_
 rw [zsw]
 refine VOpen.mono (VOpen.freezeN [1, 0] ?_ (args' := [.lit (.int .i64 t), .lit (.int .i64 (IntKind.i64.wrap (p + 1))), .fn (.func 127) [] (mayC t p)]) ⟨.same, .same, Frozen.closure [(1, [.lit (.int .i64 p)]), (0, [.lit (.int .i64 t)])] 20 (by simp) ?_, trivial⟩ (VOpen.of_pure (zaef zyr) rfl)) ?_ (fun _ _ _ h => h.elim)
 ·intro γ hγ
  rcases List.mem_cons.1 hγ with rfl | hγ
  ·exact ⟨some 3, [.lit (.int .i64 p)], by simp [updH]⟩
  rw [List.mem_singleton.1 hγ]
  exact ⟨some 3, [.lit (.int .i64 t)], by simp [updH]⟩
 ·intro q hq
  rcases List.mem_cons.1 hq with rfl | hq
  ·exact ⟨⟨some 3, by simp [updH]⟩, by simp [lessN], rfl, by simp⟩
  rw [List.mem_singleton.1 hq]
  exact ⟨⟨some 3, by simp [updH]⟩, by simp [lessN], rfl, by simp⟩
 rintro v H2 nx2 ⟨rfl, rfl, rfl⟩
 simp only [vz, tyf, seval, ua]
 refine ⟨rfl, itM t p, by simp [Tryz.results110, resV, resL, resV1, upd]; rfl, 2, ?_⟩
 simp [sealV, itM, VV.tree, treeL, mayC]
def smallOk (n m : Int) : Bool := decide (0 < n) && (decide (n < 1000) && (decide (0 ≤ m) && decide (m < 999999)))
def zrt (t p : Int) : Option (List (List Int)) := cond (smallOk t p) (listsO (fun l j => zjf l j p t) (p + 1).toNat t.toNat []) none
theorem zzs (t p : Int) (R : List (List Int)) (h : zrt t p = some R) : VPure Tryz.prog G0 110 [.lit (.int .i64 t), .lit (.int .i64 p)] (.tree (itM t p)) ∧ Iter Tryz.prog G0 (itM t p) (R.map sI) := by
 refine ⟨zakf t p, ?_⟩
 unfold zrt at h
 cases hs : smallOk t p with
 | false => rw [hs] at h; cases h
 | true =>
 rw [hs, cond_true] at h
 simp only [smallOk, Bool.and_eq_true, decide_eq_true_eq] at hs
 obtain ⟨h1, h2, h3, h4⟩ := hs
 obtain ⟨n, rfl⟩ : ∃ n : Nat, t = n := ⟨t.toNat, by omega⟩
 obtain ⟨m, rfl⟩ : ∃ m : Nat, p = m := ⟨p.toNat, by omega⟩
 have e1 : IntKind.i64.wrap ((m : Int) + 1) = ((m + 1 : Nat) : Int) := by rw [IntWalk.i64_in _ (by omega)]; simp
 have e2 : ((m : Int) + 1).toNat = m + 1 := by omega
 have e3 : ((n : Int)).toNat = n := by omega
 unfold itM
 rw [e2, e3] at h
 rw [e1]
 exact ztg zyr (by omega) (by omega) (by omega) h (fun l j b hb => zng l j m n b hb)
abbrev sM (x : Gm) : VV := .agg (cGm x)
def mixtO (s : Gs) : Nat → Nat → Option (List Gm)
 | 0, _ => some []
 | k + 1, c => Option.bind (zrt (List.length s.Tins) ((c + 1 : Nat) : Int)) fun L => Option.bind (mixtO s k (c + 1)) fun r => some (L.map (Gm.mk s) ++ r)
def zij (s : Gs) : Option (List Gm) := mixtO s 8 0
def itX (s : Gs) : VV := .fn (.func 109) [] [.tp (cGs s)]
theorem zpa {s : Gs} : (itX s).tree = true := by
 have h : treeL (cGs s) = true := zbm.tree s
 simp [itX, VV.tree, treeL, h]
theorem zalr {H : Nat → Option VObj} {f : FuncId} {el : Option TypeId} {cs : List VV} (hH : H 0 = some (.cells el cs)) (h : treeL cs = true) (hl : cs.length < 40) : sealV H 50 (.fn (.func f) [] [.ptr 0 0]) = some (.fn (.func f) [] [.tp cs]) := by
 have e0 : (VV.ptr 0 0).tree = false := rfl
 have e : sealV H 48 (.ptr 0 0) = some (.tp cs) := by
  show sealV H (47 + 1) _ = _
  simp only [sealV, e0, hH, Nat.zero_le, if_true, List.drop_zero]
  rw [zje _ 47 h (by omega)]
  rfl
 have e1 : sealL H 49 [.ptr 0 0] = some [.tp cs] := by
  show sealL H (48 + 1) _ = _
  simp only [sealL, e]
 have e2 : sealL H 49 [] = some [] := by
  show sealL H (48 + 1) _ = _
  simp only [sealL]
 show sealV H (49 + 1) _ = _
 have e3 : (VV.fn (.func f) [] [.ptr 0 0]).tree = false := rfl
 simp only [sealV, e3, e1, e2]
 rfl
theorem zqk (s : Gs) : VPure Tryz.prog G0 79 [.agg (cGs s)] (.tree (itX s)) := by
 refine VPure.run mixed Tryz.call79 Tryz.func79 rfl (by simp [Tryz.ntmps79]; kernel_rfl) ?_
 simp only [vz, tyf, seval, ua, rg]
 refine ⟨rfl, .fn (.func 109) [] [.ptr 0 0], by simp [Tryz.results79, resV, resL, resV1, upd], 50, ?_⟩
 have h : treeL (cGs s) = true := zbm.tree s
 exact zalr (cs := cGs s) (el := some 28) (by simp only [zab, seval] <;> rfl) h (by simp [cGs])
theorem ztx {P : Program} {G : Glob} {fn : Func} {R Rp : VV → (Nat → Option VObj) → Nat → Prop} {tm : Nat → VV} {nx : Nat} : ∀ (ds : List Nat) (H : Nat → Option VObj), ds.Nodup → (∀ d ∈ ds, H d = some (.deferred (some []))) → (∀ H2, (∀ γ, γ ∉ ds → H2 γ = H γ) → OpenPostD P G fn R Rp .normal ⟨tm, H2, nx, []⟩) → OpenPostD P G fn R Rp .normal ⟨tm, H, nx, ds.map VDef.coll⟩
 | [], H, _, _, h => h H fun _ _ => rfl
 | d :: ds, H, hn, hd, h => by
  rw [List.nodup_cons] at hn
  refine zsd (hd d (List.mem_cons_self ..)) (ztx ds _ hn.2 (fun e he => ?_) fun H2 h2 => h H2 fun γ hγ => ?_)
  ·have hne : e ≠ d := fun hh => hn.1 (hh ▸ he)
   simp only [updH]
   rw [if_neg hne]
   exact hd e (List.mem_cons_of_mem _ he)
  ·simp only [List.mem_cons, not_or] at hγ
   rw [h2 γ hγ.2]
   simp only [updH]
   rw [if_neg hγ.1]
theorem zzh {P : Program} {G : Glob} {fn : Func} {R Rp : VV → (Nat → Option VObj) → Nat → Prop} {tm : Nat → VV} {nx : Nat} : ∀ (ds : List Nat) (H : Nat → Option VObj), ds.Nodup → (∀ d ∈ ds, H d = some (.deferred (some []))) → (∀ H2, (∀ γ, γ ∉ ds → H2 γ = H γ) → OpenPostD P G fn R Rp .ret ⟨tm, H2, nx, []⟩) → OpenPostD P G fn R Rp .ret ⟨tm, H, nx, ds.map VDef.coll⟩
 | [], H, _, _, h => h H fun _ _ => rfl
 | d :: ds, H, hn, hd, h => by
  rw [List.nodup_cons] at hn
  refine zid (hd d (List.mem_cons_self ..)) (zzh ds _ hn.2 (fun e he => ?_) fun H2 h2 => h H2 fun γ hγ => ?_)
  ·have hne : e ≠ d := fun hh => hn.1 (hh ▸ he)
   simp only [updH]
   rw [if_neg hne]
   exact hd e (List.mem_cons_of_mem _ he)
  ·simp only [List.mem_cons, not_or] at hγ
   rw [h2 γ hγ.2]
   simp only [updH]
   rw [if_neg hγ.1]
theorem zaqk {Fr : Nat → Prop} {H : Nat → Option VObj} {nx : Nat} {ds : List Nat} (h : ∀ d ∈ ds, d < nx ∧ ¬ Fr d ∧ H d = some (.deferred (some []))) : Own (ds.map fun d => (d, VObj.deferred (some []))) Fr H nx := by
 intro q hq
 obtain ⟨d, hd, rfl⟩ := List.mem_map.1 hq
 exact h d hd
theorem zafc {Fr : Nat → Prop} {H : Nat → Option VObj} {nx : Nat} {ds : List Nat} (h : Own (ds.map fun d => (d, VObj.deferred (some []))) Fr H nx) : ∀ d ∈ ds, d < nx ∧ ¬ Fr d ∧ H d = some (.deferred (some [])) := fun d hd => h (d, _) (List.mem_map.2 ⟨d, hd, rfl⟩)
theorem znb (s : Gs) (R : List Gm) (h : zij s = some R) : Iter Tryz.prog G0 (itX s) (R.map sM) := by
 refine ⟨109, [], _, rfl, fun β I hst hr H nx hβ hI => ?_⟩
 refine VOpen.run mixed Tryz.call109 Tryz.func109 rfl (by simp [Tryz.ntmps109]; kernel_rfl) ?_
 simp only [List.nil_append, List.cons_append, argsTm2, vz, tyf, seval, ua, rg]
 obtain ⟨J0, hJ0⟩ : ∃ J : Nat → St → Prop, J = (fun m st => ∃ (c : Nat) (ds : List Nat), c + m = 8 ∧ st.df = ds.map VDef.coll ∧ ds.Nodup ∧ (∀ d ∈ ds, nx < d ∧ d < st.nx ∧ st.H d = some (.deferred (some []))) ∧ nx < st.nx ∧ st.H nx = some (.cells (some 144) [.yl β]) ∧
   st.tm 1 = .tp (cGs s) ∧ st.tm 2 = .ptr nx 0 ∧ st.tm 5 = .lit (.int .i64 (c : Int)) ∧ ∃ L, mixtO s m c = some L ∧ I (some (L.map sM)) (fun γ => γ = nx ∨ γ ∈ ds) st.H st.nx) := ⟨_, rfl⟩
 refine loopK mixed (by kernel_rfl) J0 8 (by
  rw [hJ0]
  refine ⟨0, [], rfl, rfl, List.nodup_nil, fun d hd => (by cases hd), (by show nx < nx + 2; omega), ?_, ?_, ?_, ?_, R, h, ?_⟩
  ·simp [updH]
  ·rfl
  ·rfl
  ·rfl
  ·refine hst _ _ _ _ _ _ _ hI ?_ (by show nx ≤ nx + 2; omega) ?_
   ·intro γ hγ _
    simp only [updH]
    rw [if_neg (by omega)]
   ·rintro γ (rfl | hγ)
    ·right; show γ ≤ γ ∧ γ < γ + 2; omega
    ·cases hγ) ?_
 rintro m ⟨tm, H1, nx1, df⟩ hinv
 rw [hJ0] at hinv
 obtain ⟨c, ds, hc, hdf, hnd, hds, hnx, Hy, e1, e2, e5, L, hL, hI1⟩ := hinv
 simp only at hdf hds hnx Hy e1 e2 e5 hI1
 subst hdf
 cases m with
 | zero =>
  have hd1 : decide ((c : Int) < 8) = false := by simp; omega
  simp only [vz, tyf, seval, ua, e5, hd1]
  refine ztx ds _ hnd (fun d hd => (hds d hd).2.2) fun H2 h2 => ?_
  refine zjr (x := .tup []) (by simp [Tryz.results109, resV, resL]) (.inl ?_)
  simp only [mixtO, Option.some.injEq] at hL
  subst hL
  refine hst _ _ _ _ _ _ _ hI1 ?_ (by show nx1 ≤ nx1 + 1; omega) (fun γ h => h.elim)
  intro γ _ hn
  exact h2 γ fun hh => hn (.inr hh)
 | succ m =>
  have hd1 : decide ((c : Int) < 8) = true := by simp; omega
  have hw : IntKind.i64.wrap ((c : Int) + 1) = ((c + 1 : Nat) : Int) := by rw [IntWalk.i64_in _ (by omega)]; simp
  rw [mixtO] at hL
  rcases hLa : zrt (List.length s.Tins) ((c + 1 : Nat) : Int) with _ | La
  ·rw [hLa] at hL; cases hL
  rw [hLa, Option.bind_some] at hL
  rcases hLr : mixtO s m (c + 1) with _ | Lr
  ·rw [hLr] at hL; cases hL
  rw [hLr, Option.bind_some, Option.some.injEq] at hL
  subst hL
  obtain ⟨hp, hi⟩ := zzs _ _ _ hLa
  simp only [vz, tyf, seval, ua, e1, e2, e5, hd1, hw]
  refine ktA hp ?_
  simp only [vz, tyf, seval, ua, rg]
  refine zmn (fun tm => tm 13 = itM (List.length s.Tins) ((c + 1 : Nat) : Int) ∧ tm 1 = .tp (cGs s) ∧ tm 2 = .ptr nx 0 ∧ tm 5 = .lit (.int .i64 (c : Int))) (by refine ⟨?_, ?_, ?_, ?_⟩ <;> simp only [ua, seval, e1, e2, e5] <;> rfl) ?_
  clear e1 e2 e5 tm
  rintro tm ⟨e13, e1, e2, e5⟩
  refine zhs hi (by first | (simp only [zpg, zjx, e13, zfs, seval] <;> rfl) | rfl) ?_
  intro LO hLO
  obtain ⟨hp0, hhp0⟩ : ∃ hp0 : List (Nat × VObj), hp0 = (nx, VObj.cells (some 144) [.yl β]) :: ds.map (fun d => (d, VObj.deferred (some []))) := ⟨_, rfl⟩
  obtain ⟨J, hJ⟩ : ∃ J : Option (List VV) → Option (List VV) → List (Nat × VObj) → Prop, J = (fun o o' hp => match o with
   | some l => ∃ p : List (List Int), l = p.map sI ∧ o' = some ((p.map (Gm.mk s) ++ Lr).map sM) ∧ hp = (nx1 + 9, .deferred (some [])) :: (nx1 + 10, LO) :: hp0
   | none => ∃ LD : Code → VObj, (∃ tml ps az bo d, LD = fun c => VObj.loop .done (some c) tml ps az bo d) ∧ o' = none ∧ hp = (nx1 + 9, .deferred (some [])) :: (nx1 + 10, LD .ret) :: hp0) := ⟨_, rfl⟩
  have hfr : ∀ (O : VObj) γ, (∃ q ∈ (nx1 + 9, VObj.deferred (some [])) :: (nx1 + 10, O) :: hp0, (q : Nat × VObj).1 = γ) ↔ γ = nx1 + 9 ∨ γ = nx1 + 10 ∨ γ = nx ∨ γ ∈ ds := by
   intro O γ
   rw [hhp0]
   constructor
   ·rintro ⟨q, hq, rfl⟩
    simp only [List.mem_cons, List.mem_map] at hq
    rcases hq with rfl | rfl | rfl | ⟨d, hd, rfl⟩
    ·exact .inl rfl
    ·exact .inr (.inl rfl)
    ·exact .inr (.inr (.inl rfl))
    ·exact .inr (.inr (.inr hd))
   ·rintro (rfl | rfl | rfl | hd)
    ·exact ⟨_, List.mem_cons_self .., rfl⟩
    ·exact ⟨_, List.mem_cons_of_mem _ (List.mem_cons_self ..), rfl⟩
    ·exact ⟨_, List.mem_cons_of_mem _ (List.mem_cons_of_mem _ (List.mem_cons_self ..)), rfl⟩
    ·exact ⟨(γ, _), List.mem_cons_of_mem _ (List.mem_cons_of_mem _ (List.mem_cons_of_mem _ (List.mem_map.2 ⟨γ, hd, rfl⟩))), rfl⟩
  refine ⟨ownI2 I J, zln hst, ?_, ?_, ?_⟩
  ·rintro v rest Fr H2 nx2 hFr ⟨hp, o', hown, hj, hi⟩
   rw [hJ] at hj
   obtain ⟨p, hl, rfl, rfl⟩ := hj
   cases p with
   | nil => cases hl
   | cons e p =>
   simp only [List.map_cons, List.cons.injEq] at hl
   obtain ⟨rfl, rfl⟩ := hl
   obtain ⟨la, na, Ha⟩ := hown.head
   obtain ⟨lb, nb, Hb⟩ := hown.tail.head
   have hown0 := hown.tail.tail
   rw [hhp0] at hown0
   obtain ⟨lc, nc, Hc⟩ := hown0.head
   have hod := zafc hown0.tail
   simp only [hfr] at hi
   refine zgn mixed (psl := [14]) hLO Hb zhk rfl (by kernel_rfl) (by kernel_rfl) ?_
   intro LB LD hLB hLD
   refine zjc (fun tm => tm 14 = sI e ∧ tm 1 = .tp (cGs s) ∧ tm 2 = .ptr nx 0) (by refine ⟨?_, ?_, ?_⟩ <;> simp only [zlh, zjk, Tryz.ntmps109, e1, e2, seval]) ?_
   clear e13 e1 e2 e5
   rintro tm ⟨e14, e1, e2⟩
   have hne : (nx = nx1 + 10) = False := by simp; omega
   simp only [vz, tyf, seval, ua, nm, rg, RStart, e14, e1, e2, Hb, Hc, hne]
   have hi2 : I (some (sM (Gm.mk s e) :: (p.map (Gm.mk s) ++ Lr).map sM)) (fun γ => Fr γ ∨ γ = nx1 + 9 ∨ γ = nx1 + 10 ∨ γ = nx ∨ γ ∈ ds) (updH H2 (nx1 + 10) LB) (nx2 + 7) := by
    refine hst _ _ _ _ _ _ _ hi ?_ (by omega) (fun γ h => .inl h)
    intro γ _ hn
    have g3 : γ ≠ nx1 + 10 := fun e => hn (.inr (.inr (.inl e)))
    simp only [updH]
    rw [if_neg g3]
   refine (hr (sM (Gm.mk s e)) ((p.map (Gm.mk s) ++ Lr).map sM) _ _ _ ?_ hi2) (some (some (nx1 + 10))) _ _ _ rfl rfl ?_
   ·rintro γ (hγ | rfl | rfl | rfl | hγ)
    ·have := hFr γ hγ; omega
    ·omega
    ·omega
    ·omega
    ·have := (hod γ hγ).1; omega
   rintro b H3 nx3 ⟨q1, q2, q3⟩
   have Ka : H3 (nx1 + 9) = some (.deferred (some [])) := by
    rw [q2 _ (.inr (.inl rfl))]
    simp only [updH]
    rw [if_neg (by omega)]
    exact Ha
   have Kb : H3 (nx1 + 10) = some LB := by
    rw [q2 _ (.inr (.inr (.inl rfl)))]
    simp only [zab, seval]
   have Kc : H3 nx = some (.cells (some 144) [.yl β]) := by
    rw [q2 nx (.inr (.inr (.inr (.inl rfl))))]
    simp only [updH]
    rw [if_neg (by omega)]
    exact Hc
   have Kd : ∀ d ∈ ds, H3 d = some (.deferred (some [])) := by
    intro d hd
    have := hds d hd
    rw [q2 d (.inr (.inr (.inr (.inr hd))))]
    simp only [updH]
    rw [if_neg (by omega)]
    exact (hod d hd).2.2
   have KF : ∀ γ, Fr γ → H3 γ = H2 γ := by
    intro γ hγ
    have g3 : γ ≠ nx1 + 10 := fun e => nb (e ▸ hγ)
    rw [q2 γ (.inl hγ)]
    simp only [updH]
    rw [if_neg g3]
   have KO : ∀ (O : VObj), Own ((nx1 + 9, .deferred (some [])) :: (nx1 + 10, O) :: hp0) Fr (updH H3 (nx1 + 10) O) nx3 := by
    intro O
    refine Own.cons (show nx1 + 9 < nx3 by omega) na ?_ (Own.cons (show nx1 + 10 < nx3 by omega) nb ?_ ?_)
    ·simp only [updH]
     rw [if_neg (by omega)]
     exact Ka
    ·simp only [zab, seval]
    ·rw [hhp0]
     refine Own.cons (show nx < nx3 by omega) nc ?_ (zaqk fun d hd => ⟨?_, (hod d hd).2.1, ?_⟩)
     ·simp only [updH]
      rw [if_neg (by omega)]
      exact Kc
     ·have := (hod d hd).1; omega
     ·have := hds d hd
      simp only [updH]
      rw [if_neg (by omega)]
      exact Kd d hd
   cases b with
   | true =>
    simp only [vz, tyf, seval, ua, nm, rg, Bool.not_true]
    refine ⟨Kb, (show nx2 ≤ nx3 by omega), fun γ hγ => ?_, ?_⟩
    ·have g3 : γ ≠ nx1 + 10 := fun e => nb (e ▸ hγ)
     simp only [updH]
     rw [if_neg g3]
     exact KF γ hγ
    ·simp only [if_true] at q3 ⊢
     refine ⟨_, _, KO LO, by rw [hJ]; exact ⟨p, rfl, rfl, rfl⟩, ?_⟩
     simp only [hfr]
     refine hst _ _ _ _ _ _ _ q3 ?_ (by omega) (fun γ h => .inl h)
     intro γ _ hn
     have g3 : γ ≠ nx1 + 10 := fun e => hn (.inr (.inr (.inl e)))
     simp only [updH]
     rw [if_neg g3]
   | false =>
    simp only [vz, tyf, seval, ua, nm, rg, Bool.not_false]
    refine ⟨Kb, (show nx2 ≤ nx3 by omega), fun γ hγ => ?_, ?_⟩
    ·have g3 : γ ≠ nx1 + 10 := fun e => nb (e ▸ hγ)
     simp only [updH]
     rw [if_neg g3]
     exact KF γ hγ
    ·simp only [Bool.false_eq_true, if_false] at q3 ⊢
     refine ⟨_, _, KO (LD .ret), by rw [hJ]; exact ⟨LD, ⟨_, _, _, _, _, hLD⟩, rfl, rfl⟩, ?_⟩
     simp only [hfr]
     refine hst _ _ _ _ _ _ _ q3 ?_ (by omega) (fun γ h => .inl h)
     intro γ _ hn
     have g3 : γ ≠ nx1 + 10 := fun e => hn (.inr (.inr (.inl e)))
     simp only [updH]
     rw [if_neg g3]
  ·refine ⟨_, _, ?_, by rw [hJ]; exact ⟨La, rfl, rfl, rfl⟩, ?_⟩
   ·refine Own.cons (show nx1 + 9 < nx1 + 9 + 2 by omega) (fun h => h) ?_ (Own.cons (show nx1 + 10 < nx1 + 9 + 2 by omega) (fun h => h) ?_ ?_)
    ·simp only [updH]
     rw [if_neg (by omega)]
     simp
    ·simp only [updH]
     simp
    ·rw [hhp0]
     refine Own.cons (show nx < nx1 + 9 + 2 by omega) (fun h => h) ?_ (zaqk fun d hd => ⟨?_, fun h => h, ?_⟩)
     ·simp only [updH]
      rw [if_neg (by omega), if_neg (by omega)]
      exact Hy
     ·have := (hds d hd).2.1; omega
     ·have := hds d hd
      simp only [updH]
      rw [if_neg (by omega), if_neg (by omega)]
      exact this.2.2
   ·simp only [hfr]
    refine hst _ _ _ _ _ _ _ hI1 ?_ (by omega) ?_
    ·intro γ hγ _
     simp only [updH]
     rw [if_neg (by omega), if_neg (by omega)]
    ·rintro γ (h | rfl | rfl | rfl | h)
     ·exact h.elim
     ·right; omega
     ·right; omega
     ·exact .inl (.inl rfl)
     ·exact .inl (.inr h)
  ·rintro H' nx' (⟨hp, o', hown, hj, hi⟩ | ⟨hp, o', hown, hj, hi⟩)
   ·rw [hJ] at hj
    obtain ⟨p, hl, rfl, rfl⟩ := hj
    cases p with
    | cons e p => cases hl
    | nil =>
    obtain ⟨la, na, Ha⟩ := hown.head
    obtain ⟨lb, nb, Hb⟩ := hown.tail.head
    have hown0 := hown.tail.tail
    rw [hhp0] at hown0
    obtain ⟨lc, nc, Hc⟩ := hown0.head
    have hod := zafc hown0.tail
    simp only [hfr] at hi
    refine zgf hLO Hb ?_
    intro LX
    simp only [vz, tyf, seval, ua, nm, rg, e1, e2, e5, hw]
    refine ⟨m, Nat.lt_succ_self _, ?_⟩
    rw [hJ0]
    refine ⟨c + 1, (nx1 + 9) :: ds, by omega, rfl, ?_, ?_, ?_, ?_, ?_, ?_, ?_, Lr, hLr, ?_⟩
    ·exact List.nodup_cons.2 ⟨fun hh => by have := hds _ hh; omega, hnd⟩
    ·intro d hd
     rcases List.mem_cons.1 hd with rfl | hd
     ·refine ⟨by omega, by show nx1 + 9 < nx' + 2; omega, ?_⟩
      show updH H' (nx1 + 10) LX (nx1 + 9) = _
      simp only [updH]
      rw [if_neg (by omega)]
      exact Ha
     ·have h1 := hds d hd
      have h2 := hod d hd
      refine ⟨h1.1, by show d < nx' + 2; omega, ?_⟩
      show updH H' (nx1 + 10) LX d = _
      simp only [updH]
      rw [if_neg (by omega)]
      exact h2.2.2
    ·show nx < nx' + 2
     omega
    ·show updH H' (nx1 + 10) LX nx = _
     simp only [updH]
     rw [if_neg (by omega)]
     exact Hc
    ·simp only [ua, seval, e1]
    ·simp only [ua, seval, e2]
    ·simp only [ua, seval]
    ·show I (some (Lr.map sM)) (fun γ => γ = nx ∨ γ ∈ (nx1 + 9) :: ds) (updH H' (nx1 + 10) LX) (nx' + 2)
     refine hst _ _ _ _ _ _ _ hi ?_ (by omega) ?_
     ·intro γ _ hn
      have g3 : γ ≠ nx1 + 10 := fun e => hn (.inr (.inr (.inl e)))
      simp only [updH]
      rw [if_neg g3]
     ·rintro γ (rfl | hγ)
      ·exact .inl (.inr (.inr (.inr (.inl rfl))))
      ·rcases List.mem_cons.1 hγ with rfl | hγ
       ·exact .inl (.inr (.inl rfl))
       ·exact .inl (.inr (.inr (.inr (.inr hγ))))
   ·rw [hJ] at hj
    obtain ⟨LD, ⟨tml, ps, az, bo, d, hLD⟩, rfl, rfl⟩ := hj
    obtain ⟨la, na, Ha⟩ := hown.head
    obtain ⟨lb, nb, Hb⟩ := hown.tail.head
    have hown0 := hown.tail.tail
    rw [hhp0] at hown0
    obtain ⟨lc, nc, Hc⟩ := hown0.head
    have hod := zafc hown0.tail
    simp only [hfr] at hi
    refine zhq hLD Hb ?_
    intro LX
    simp only [vz, tyf, seval, ua, nm, rg]
    refine zzh ((nx1 + 9) :: ds) _ (List.nodup_cons.2 ⟨fun hh => by have := hds _ hh; omega, hnd⟩) ?_ fun H2 h2 => ?_
    ·intro d hd
     rcases List.mem_cons.1 hd with rfl | hd
     ·simp only [updH]
      rw [if_neg (by omega)]
      exact Ha
     ·have h1 := hds d hd
      simp only [updH]
      rw [if_neg (by omega)]
      exact (hod d hd).2.2
    ·refine zam (x := .tup []) (by simp [Tryz.results109, resV, resL]) (.inr ?_)
     refine hst _ _ _ _ _ _ _ hi ?_ (Nat.le_refl _) (fun γ h => h.elim)
     intro γ _ hn
     have g3 : γ ≠ nx1 + 10 := fun e => hn (.inr (.inr (.inl e)))
     rw [h2 γ (fun hh => by
      rcases List.mem_cons.1 hh with rfl | hh
      ·exact hn (.inr (.inl rfl))
      ·exact hn (.inr (.inr (.inr (.inr hh)))))]
     simp only [updH]
     rw [if_neg g3]
def filterO (f : Gm → Option Bool) : List Gm → Option (List Gm)
 | [] => some []
 | x :: L => Option.bind (f x) fun t => Option.bind (filterO f L) fun r => some (cond t (x :: r) r)
theorem zalj {itv : VV} {mc : List VV} {bf : Nat} {L : List VV} (hit : Iter Tryz.prog G0 itv L) (hti : itv.tree = true) (htm : treeL mc = true) : VPure Tryz.prog G0 107 [itv, .fn (.func bf) [] mc] (.tree (.fn (.func 126) [] [.tp [itv], .tp [.fn (.func bf) [] mc]])) := by
 obtain ⟨f, fi, ca, rfl, _⟩ := hit
 refine VPure.run mixed Tryz.call107 Tryz.func107 rfl (by simp [Tryz.ntmps107]; kernel_rfl) ?_
 simp only [vz, tyf, seval, ua, rg]
 refine ⟨rfl, .fn (.func 126) [] [.ptr 0 0, .ptr 1 0], by simp [Tryz.results107, resV, resL, resV1, upd], 20, ?_⟩
 have hti' : (treeL fi && treeL ca) = true := hti
 simp [sealV, sealL, VV.tree, treeL, updH, htm, hti']
theorem zabq {itv : VV} {bf : Nat} {mc : List VV} {L L' : List Gm} (hit : Iter Tryz.prog G0 itv (L.map sM)) (hmt : treeL mc = true) {f : Gm → Option Bool}
  (hb : ∀ a t, f a = some t → VPure Tryz.prog G0 bf (sM a :: mc) (.tree (.lit (.bool t)))) (h : filterO f L = some L') :
  Iter Tryz.prog G0 (.fn (.func 126) [] [.tp [itv], .tp [.fn (.func bf) [] mc]]) (L'.map sM) := by
 refine ⟨126, [], _, rfl, fun β I hst hr H nx hβ hI => ?_⟩
 refine VOpen.run mixed Tryz.call126 Tryz.func126 rfl (by simp [Tryz.ntmps126]; kernel_rfl) ?_
 simp only [List.nil_append, List.cons_append, argsTm3, vz, tyf, seval, ua, rg]
 refine zmn (fun tm => tm 5 = itv ∧ tm 2 = .tp [.fn (.func bf) [] mc] ∧ tm 3 = .ptr nx 0) (by refine ⟨?_, ?_, ?_⟩ <;> simp only [ua, seval, Nat.add_zero]) ?_
 rintro tm ⟨e5, e2, e3⟩
 refine zhs hit (by first | (simp only [zpg, zjx, e5, zfs, seval] <;> rfl) | rfl) ?_
 intro LO hLO
 obtain ⟨J, hJ⟩ : ∃ J : Option (List VV) → Option (List VV) → List (Nat × VObj) → Prop, J = (fun o o' hp => match o with
  | some l => ∃ (p L2 : List Gm), l = p.map sM ∧ filterO f p = some L2 ∧ o' = some (L2.map sM) ∧ hp = [(nx, .cells (some 144) [.yl β]), (nx + 2, .deferred (some [])), (nx + 3, LO)]
  | none => ∃ LD : Code → VObj, (∃ tml ps az bo d, LD = fun c => VObj.loop .done (some c) tml ps az bo d) ∧ o' = none ∧ hp = [(nx, .cells (some 144) [.yl β]), (nx + 2, .deferred (some [])), (nx + 3, LD .ret)]) := ⟨_, rfl⟩
 refine ⟨ownI2 I J, zln hst, ?_, ?_, ?_⟩
 ·rintro v rest Fr H1 nx1 hFr ⟨hp, o', hown, hj, hi⟩
  rw [hJ] at hj
  obtain ⟨p, L2, hl, hf, rfl, rfl⟩ := hj
  cases p with
  | nil => cases hl
  | cons e p =>
  simp only [List.map_cons, List.cons.injEq] at hl
  obtain ⟨rfl, rfl⟩ := hl
  obtain ⟨la, na, Ha⟩ := hown.head
  obtain ⟨lb, nb, Hb⟩ := hown.tail.head
  obtain ⟨lc, nc, Hc⟩ := hown.tail.tail.head
  have hfr : ∀ γ, (∃ q ∈ [(nx, .cells (some 144) [.yl β]), (nx + 2, .deferred (some [])), (nx + 3, LO)], (q : Nat × VObj).1 = γ) ↔ γ = nx ∨ γ = nx + 2 ∨ γ = nx + 3 := by
   intro γ
   simp [eq_comm]
  simp only [hfr] at hi
  unfold filterO at hf
  rcases ht : f e with _ | t
  ·rw [ht] at hf; cases hf
  rw [ht, Option.bind_some] at hf
  rcases hf2 : filterO f p with _ | L3
  ·rw [hf2] at hf; cases hf
  rw [hf2, Option.bind_some, Option.some.injEq] at hf
  refine zgn mixed (psl := [6]) hLO Hc zhk rfl (by kernel_rfl) (by kernel_rfl) ?_
  intro LB LD hLB hLD
  refine zjc (fun tm => tm 6 = sM e ∧ tm 2 = .tp [.fn (.func bf) [] mc] ∧ tm 3 = .ptr nx 0) (by refine ⟨?_, ?_, ?_⟩ <;> simp only [zlh, zjk, Tryz.ntmps126, e2, e3, seval]) ?_
  clear e5 e2 e3
  rintro tm ⟨e6, e2, e3⟩
  have hne : (nx = nx + 3) = False := by simp
  have hm1 : (nx + 3 = nx1) = False := by simp; omega
  have hm2 : (nx1 = nx + 3) = False := by simp; omega
  have hm3 : (nx = nx1) = False := by simp; omega
  have hm5 : (nx + 2 = nx1) = False := by simp; omega
  have hm6 : (nx1 = nx + 2) = False := by simp; omega
  have hm4 : (nx1 = nx) = False := by simp; omega
  simp only [vz, tyf, seval, ua, nm, rg, RStart, e6, e2, e3, Ha, Hc, Nat.add_zero, hne, hm1, hm2, hm3, hm4, hm5, hm6]
  refine ktreeR ?_ (hb e t ht) ?_
  ·have h1 : treeL (cGm e) = true := zeo.tree e
   show (treeL (cGm e) && treeL mc) = true
   rw [h1, hmt]
   rfl
  cases t with
  | false =>
   simp only [cond_false] at hf
   subst hf
   simp only [vz, tyf, seval, ua, nm, rg, RStart, e6, e2, e3, Ha, Hc, Nat.add_zero, hne, hm1, hm2, hm3, hm4, hm5, hm6]
   refine ⟨by simp only [zab, seval], (show nx1 ≤ nx1 + 11 by omega), fun γ hγ => ?_, ?_⟩
   ·have g3 : γ ≠ nx + 3 := fun e => nc (e ▸ hγ)
    have g4 := hFr γ hγ
    simp only [updH]
    repeat rw [if_neg (by first | assumption | omega)]
   ·simp only [if_true]
    refine ⟨[(nx, .cells (some 144) [.yl β]), (nx + 2, .deferred (some [])), (nx + 3, LO)], some (L3.map sM), Own.cons (show nx < nx1 + 11 by omega) na ?_ (Own.cons (show nx + 2 < nx1 + 11 by omega) nb ?_ (Own.cons (show nx + 3 < nx1 + 11 by omega) nc ?_ Own.nil)), ?_, ?_⟩
    ·simp only [zab, Nat.add_zero, hne, hm1, hm2, hm3, hm4, seval, Ha]
    ·simp only [updH]
     repeat rw [if_neg (by omega)]
     exact Hb
    ·simp only [zab, seval]
    ·rw [hJ]
     exact ⟨p, L3, rfl, hf2, rfl, rfl⟩
    ·simp only [hfr]
     refine hst _ _ _ _ _ _ _ hi ?_ (by omega) (fun γ h => .inl h)
     intro γ hγ hn
     have g3 : γ ≠ nx + 3 := fun e => hn (.inr (.inr (.inr e)))
     simp only [updH]
     repeat rw [if_neg (by first | assumption | omega)]
  | true =>
   simp only [cond_true] at hf
   subst hf
   simp only [vz, tyf, seval, ua, nm, rg, RStart, e6, e2, e3, Ha, Hc, Nat.add_zero, hne, hm1, hm2, hm3, hm4, hm5, hm6]
   refine (hr (sM e) (L3.map sM) (fun γ => Fr γ ∨ γ = nx ∨ γ = nx + 2 ∨ γ = nx + 3) _ (nx1 + 11) ?_ ?_) (some (some (nx + 3))) _ _ _ rfl rfl ?_
   ·rintro γ (hγ | rfl | rfl | rfl)
    ·have := hFr γ hγ; omega
    ·omega
    ·omega
    ·omega
   ·refine hst _ _ _ _ _ _ _ hi ?_ (by show nx1 ≤ nx1 + 11; omega) (fun γ h => .inl h)
    intro γ hγ hn
    have g3 : γ ≠ nx + 3 := fun e => hn (.inr (.inr (.inr e)))
    simp only [updH]
    repeat rw [if_neg (by first | assumption | omega)]
   rintro b H2 nx2 ⟨q1, q2, q3⟩
   have Ka : H2 nx = some (.cells (some 144) [.yl β]) := by rw [q2 nx (.inr (.inl rfl))]; simp only [zab, Nat.add_zero, hne, hm1, hm2, hm3, hm4, seval, Ha]
   have Kb : H2 (nx + 2) = some (.deferred (some [])) := by rw [q2 _ (.inr (.inr (.inl rfl)))]; simp only [zab, Nat.add_zero, nm, hm5, hm6, seval, Hb]
   have Kc : H2 (nx + 3) = some LB := by rw [q2 _ (.inr (.inr (.inr rfl)))]; simp only [zab, Nat.add_zero, hm1, hm2, seval]
   have KF : ∀ γ, Fr γ → H2 γ = H1 γ := by
    intro γ hγ
    have g3 : γ ≠ nx + 3 := fun e => nc (e ▸ hγ)
    have g4 := hFr γ hγ
    rw [q2 γ (.inl hγ)]
    simp only [updH]
    repeat rw [if_neg (by first | assumption | omega)]
   cases b with
   | true =>
    simp only [vz, tyf, seval, ua, nm, rg, Bool.not_true]
    refine ⟨Kc, (show nx1 ≤ nx2 by omega), fun γ hγ => ?_, ?_⟩
    ·have g3 : γ ≠ nx + 3 := fun e => nc (e ▸ hγ)
     simp only [updH]
     rw [if_neg g3]
     exact KF γ hγ
    ·simp only [if_true] at q3 ⊢
     refine ⟨[(nx, .cells (some 144) [.yl β]), (nx + 2, .deferred (some [])), (nx + 3, LO)], some (L3.map sM), Own.cons (show nx < nx2 by omega) na ?_ (Own.cons (show nx + 2 < nx2 by omega) nb ?_ (Own.cons (show nx + 3 < nx2 by omega) nc ?_ Own.nil)), ?_, ?_⟩
     ·simp only [zab, seval, hne, Ka]
     ·simp only [zab, nm, seval, Kb]
     ·simp only [zab, seval]
     ·rw [hJ]
      exact ⟨p, L3, rfl, hf2, rfl, rfl⟩
     ·simp only [hfr]
      refine hst _ _ _ _ _ _ _ q3 ?_ (by omega) (fun γ h => .inl h)
      intro γ _ hn
      have g3 : γ ≠ nx + 3 := fun e => hn (.inr (.inr (.inr e)))
      simp only [updH]
      rw [if_neg g3]
   | false =>
    simp only [vz, tyf, seval, ua, nm, rg, Bool.not_false]
    refine ⟨Kc, (show nx1 ≤ nx2 by omega), fun γ hγ => ?_, ?_⟩
    ·have g3 : γ ≠ nx + 3 := fun e => nc (e ▸ hγ)
     simp only [updH]
     rw [if_neg g3]
     exact KF γ hγ
    ·simp only [Bool.false_eq_true, if_false] at q3 ⊢
     have hfr2 : ∀ γ, (∃ q ∈ [(nx, .cells (some 144) [.yl β]), (nx + 2, .deferred (some [])), (nx + 3, LD .ret)], (q : Nat × VObj).1 = γ) ↔ γ = nx ∨ γ = nx + 2 ∨ γ = nx + 3 := by
      intro γ
      simp [eq_comm]
     refine ⟨[(nx, .cells (some 144) [.yl β]), (nx + 2, .deferred (some [])), (nx + 3, LD .ret)], none, Own.cons (show nx < nx2 by omega) na ?_ (Own.cons (show nx + 2 < nx2 by omega) nb ?_ (Own.cons (show nx + 3 < nx2 by omega) nc ?_ Own.nil)), ?_, ?_⟩
     ·simp only [zab, seval, hne, Ka]
     ·simp only [zab, nm, seval, Kb]
     ·simp only [zab, seval]
     ·rw [hJ]
      exact ⟨LD, ⟨_, _, _, _, _, hLD⟩, rfl, rfl⟩
     ·simp only [hfr2]
      refine hst _ _ _ _ _ _ _ q3 ?_ (by omega) (fun γ h => .inl h)
      intro γ _ hn
      have g3 : γ ≠ nx + 3 := fun e => hn (.inr (.inr (.inr e)))
      simp only [updH]
      rw [if_neg g3]
 ·have hfr : ∀ γ, (∃ q ∈ [(nx, .cells (some 144) [.yl β]), (nx + 2, .deferred (some [])), (nx + 3, LO)], (q : Nat × VObj).1 = γ) ↔ γ = nx ∨ γ = nx + 2 ∨ γ = nx + 3 := by
   intro γ
   simp [eq_comm]
  refine ⟨[(nx, .cells (some 144) [.yl β]), (nx + 2, .deferred (some [])), (nx + 3, LO)], some (L'.map sM), Own.cons (show nx < nx + 4 by omega) (fun h => h) ?_ (Own.cons (show nx + 2 < nx + 4 by omega) (fun h => h) ?_ (Own.cons (show nx + 3 < nx + 4 by omega) (fun h => h) ?_ Own.nil)), ?_, ?_⟩
  ·simp only [updH]
   rw [if_neg (by omega), if_neg (by omega), if_pos (by omega)]
  ·simp only [updH]
   simp
  ·simp only [updH]
   simp
  ·rw [hJ]
   exact ⟨L, L', rfl, h, rfl, rfl⟩
  ·simp only [hfr]
   refine hst _ _ _ _ _ _ _ hI ?_ (by omega) ?_
   ·intro γ hγ _
    simp only [updH]
    repeat rw [if_neg (by omega)]
   ·rintro γ (h | rfl | rfl | rfl)
    ·exact h.elim
    ·right; omega
    ·right; omega
    ·right; omega
 ·rintro H' nx' (⟨hp, o', hown, hj, hi⟩ | ⟨hp, o', hown, hj, hi⟩)
  ·rw [hJ] at hj
   obtain ⟨p, L2, hl, hf, rfl, rfl⟩ := hj
   cases p with
   | cons e p => cases hl
   | nil =>
   simp only [filterO, Option.some.injEq] at hf
   subst hf
   obtain ⟨la, na, Ha⟩ := hown.head
   obtain ⟨lb, nb, Hb⟩ := hown.tail.head
   obtain ⟨lc, nc, Hc⟩ := hown.tail.tail.head
   have hfr : ∀ γ, (∃ q ∈ [(nx, .cells (some 144) [.yl β]), (nx + 2, .deferred (some [])), (nx + 3, LO)], (q : Nat × VObj).1 = γ) ↔ γ = nx ∨ γ = nx + 2 ∨ γ = nx + 3 := by
    intro γ
    simp [eq_comm]
   simp only [hfr] at hi
   refine zgf hLO Hc ?_
   intro LX
   simp only [vz, tyf, seval, ua, nm, rg]
   refine zsd (by simp only [zab, nm, seval, Hb]) ?_
   refine zjr (x := .tup []) (by simp [Tryz.results126, resV, resL]) (.inl ?_)
   refine hst _ _ _ _ _ _ _ hi ?_ (Nat.le_refl _) (fun γ h => h.elim)
   intro γ _ hn
   have g2 : γ ≠ nx + 2 := fun e => hn (.inr (.inr (.inl e)))
   have g3 : γ ≠ nx + 3 := fun e => hn (.inr (.inr (.inr e)))
   simp only [updH]
   repeat rw [if_neg (by first | assumption | omega)]
  ·rw [hJ] at hj
   obtain ⟨LD, ⟨tml, ps, az, bo, d, hLD⟩, rfl, rfl⟩ := hj
   obtain ⟨la, na, Ha⟩ := hown.head
   obtain ⟨lb, nb, Hb⟩ := hown.tail.head
   obtain ⟨lc, nc, Hc⟩ := hown.tail.tail.head
   have hfr : ∀ γ, (∃ q ∈ [(nx, .cells (some 144) [.yl β]), (nx + 2, .deferred (some [])), (nx + 3, LD .ret)], (q : Nat × VObj).1 = γ) ↔ γ = nx ∨ γ = nx + 2 ∨ γ = nx + 3 := by
    intro γ
    simp [eq_comm]
   simp only [hfr] at hi
   refine zhq hLD Hc ?_
   intro LX
   simp only [vz, tyf, seval, ua, nm, rg]
   refine zid (by simp only [zab, nm, seval, Hb]) ?_
   refine zam (x := .tup []) (by simp [Tryz.results126, resV, resL]) (.inr ?_)
   refine hst _ _ _ _ _ _ _ hi ?_ (Nat.le_refl _) (fun γ h => h.elim)
   intro γ _ hn
   have g2 : γ ≠ nx + 2 := fun e => hn (.inr (.inr (.inl e)))
   have g3 : γ ≠ nx + 3 := fun e => hn (.inr (.inr (.inr e)))
   simp only [updH]
   repeat rw [if_neg (by first | assumption | omega)]
theorem normX (s : Gs) {f : Nat} : normL [itX s, VV.fn (.func f) [] []] = [itX s, VV.fn (.func f) [] []] := by
 simp only [itX, zhp, zix, zadg]
def zmu (s : Gs) : Option (List Gm) := Option.bind (zij s) (filterO zbc)
def zjw (s : Gs) : VV := .fn (.func 126) [] [.tp [itX s], .tp [.fn (.func 68) [] []]]
theorem zads (s : Gs) (R : List Gm) (h : zmu s = some R) : VPure Tryz.prog G0 75 [.agg (cGs s)] (.tree (zjw s)) ∧ Iter Tryz.prog G0 (zjw s) (R.map sM) := by
 unfold zmu at h
 rcases o1 : zij s with _ | L
 ·rw [o1] at h; cases h
 rw [o1, Option.bind_some] at h
 have hi := znb s L o1
 refine ⟨?_, zabq (mc := []) (bf := 68) hi rfl (fun a t ha => zdh a t ha) h⟩
 refine VPure.run mixed Tryz.call75 Tryz.func75 rfl (by simp [Tryz.ntmps75]; kernel_rfl) ?_
 simp only [vz, tyf, seval, ua, rg]
 refine ktA (zqk s) ?_
 simp only [vz, tyf, seval, ua, rg]
 refine ktree (args0 := [itX s, .fn (.func 68) [] []]) (normX s) (by simp only [zie, zmb, zpa]; rfl) (zalj (mc := []) hi zpa rfl) ?_
 simp only [vz, tyf, seval, ua, rg]
 refine ⟨rfl, zjw s, by simp [Tryz.results75, resV, resL, resV1, upd]; rfl, 2, ?_⟩
 have h9 := @zpa s
 simp [sealV, zjw, VV.tree, treeL, h9]
theorem zuw {s : Gs} : (zjw s).tree = true := by
 have h9 := @zpa s
 simp [zjw, VV.tree, treeL, h9]
def zlk (s : Gs) : Option (Int × Int) := Option.bind (zba s) fun b => cond b (Option.bind (zmu s) fun L => cond (lenOk L) (some ((List.length L : Int), 0)) none) (some (0, 2))
theorem zpw (s : Gs) (R : Int × Int) (h : zlk s = some R) : VPure Tryz.prog G0 44 [.agg (cGs s)] (.tree (.tup [.lit (.int .i64 R.1), .lit (.int .i64 R.2)])) := by
 refine VPure.runR mixed Tryz.call44 Tryz.func44 rfl (by simp [Tryz.ntmps44]; kernel_rfl) ?_
 unfold zlk at h
 rcases o0 : zba s with _ | b
 ·rw [o0] at h; cases h
 rw [o0, Option.bind_some] at h
 simp only [vz, tyf, seval, ua, rg]
 refine ktA (zbs _ _ o0) ?_
 cases b with
 | false =>
  simp only [cond_false, Option.some.injEq] at h
  subst h
  simp only [vz, tyf, seval, ua, rg, Bool.not_false]
  refine zam (x := .tup [.lit (.int .i64 0), .lit (.int .i64 2)]) (by simp only [Tryz.results44, resV, resL, resV1, zao, zbi, uw, cr, tyf, nm, seval] <;> rfl) ?_
  refine zas (by simp only [tre, tytre]; rfl) ?_
  simp only [outV, nrm, seval, List.map_cons, List.map_nil, zcz, List.length_nil]
 | true =>
 rw [cond_true] at h
 simp only [vz, tyf, seval, ua, rg, Bool.not_true]
 rcases o2 : zmu s with _ | L
 ·rw [o2] at h; cases h
 rw [o2, Option.bind_some] at h
 obtain ⟨hp, hi⟩ := zads s L o2
 refine ktA hp ?_
 cases hln : lenOk L with
 | false => rw [hln] at h; cases h
 | true =>
 rw [hln, cond_true] at h
 have hlt : L.length < 9223372036854775808 := by simpa [lenOk] using hln
 refine zac (fun tm => tm 4 = .ptr 6 0 ∧ tm 9 = zjw s) (by refine ⟨?_, ?_⟩ <;> simp only [ua, seval]) ?_
 rintro tm ⟨e4, e9⟩
 simp only [vz, tyf, seval, ua, rg]
 refine zhs hi (by first | (simp only [zpg, zjx, e9, zfs, seval] <;> rfl) | rfl) ?_
 intro LO hLO
 simp only [Option.some.injEq] at h
 obtain ⟨J, hJ⟩ : ∃ J : Option (List VV) → List (Nat × VObj) → Prop, J = (fun o hp => match o with
  | some l => ∃ c : Nat, c + l.length = L.length ∧ hp = [(10, .deferred (some [])), (11, LO), (6, .cells (some 3) [.lit (.int .i64 c)])]
  | none => False) := ⟨_, rfl⟩
 refine ⟨ownI J, zkp, ?_, ?_, ?_⟩
 ·rintro v rest Fr H nx hFr ⟨hp, hown, hj⟩
  rw [hJ] at hj
  obtain ⟨c, hc, rfl⟩ := hj
  simp only [List.length_cons] at hc
  obtain ⟨l10, n10, H10⟩ := hown.head
  obtain ⟨l11, n11, H11⟩ := hown.tail.head
  obtain ⟨l6, n6, H6⟩ := hown.tail.tail.head
  refine zgn mixed (psl := [10]) hLO H11 zhk rfl (by kernel_rfl) (by kernel_rfl) ?_
  intro LB LD hLB hLD
  refine zjc (fun tm => tm 4 = .ptr 6 0) (by simp only [zlh, zjk, Tryz.ntmps44, e4, seval]) ?_
  clear e4 e9
  rintro tm e4
  have hw : IntKind.i64.wrap ((c : Int) + 1) = ((c + 1 : Nat) : Int) := by rw [IntWalk.i64_in _ (by omega)]; simp
  simp only [vz, tyf, seval, ua, rg, RStart, e4, H11, H6, hw]
  refine ⟨by simp only [zab, seval], (show nx ≤ nx + 3 by omega), fun γ hγ => ?_, ?_⟩
  ·have g11 : γ ≠ 11 := fun e => n11 (e ▸ hγ)
   have g6 : γ ≠ 6 := fun e => n6 (e ▸ hγ)
   simp only [updH]
   repeat rw [if_neg (by first | assumption | omega)]
  ·simp only [if_true]
   refine ⟨[(10, .deferred (some [])), (11, LO), (6, .cells (some 3) [.lit (.int .i64 ((c + 1 : Nat) : Int))])], Own.cons (show 10 < nx + 3 by omega) n10 ?_ (Own.cons (show 11 < nx + 3 by omega) n11 ?_ (Own.cons (show 6 < nx + 3 by omega) n6 ?_ Own.nil)), ?_⟩
   rotate_left 3
   ·rw [hJ]
    exact ⟨c + 1, by omega, rfl⟩
   all_goals simp only [zab, seval, H10]
 ·refine ⟨[(10, .deferred (some [])), (11, LO), (6, .cells (some 3) [.lit (.int .i64 ((0 : Nat) : Int))])], Own.cons (show 10 < 12 by omega) (fun h => h) ?_ (Own.cons (show 11 < 12 by omega) (fun h => h) ?_ (Own.cons (show 6 < 12 by omega) (fun h => h) ?_ Own.nil)), ?_⟩
  rotate_left 3
  ·rw [hJ]
   exact ⟨0, by simp, rfl⟩
  ·simp only [zab, seval]
  ·simp only [zab, seval]
  ·simp only [zab, seval] <;> rfl
 ·rintro H' nx' (⟨hp, hown, hj⟩ | ⟨hp, hown, hj⟩)
  ·rw [hJ] at hj
   obtain ⟨c, hc, rfl⟩ := hj
   simp only [List.length_nil, Nat.add_zero] at hc
   subst hc
   subst h
   obtain ⟨l10, n10, H10⟩ := hown.head
   obtain ⟨l11, n11, H11⟩ := hown.tail.head
   obtain ⟨l6, n6, H6⟩ := hown.tail.tail.head
   refine zgf hLO H11 ?_
   intro LX
   simp only [vz, tyf, seval, ua, rg, e4, H6]
   refine zid (by simp only [zab, seval, H10]) ?_
   refine zam (x := .tup [.lit (.int .i64 (L.length : Int)), .lit (.int .i64 0)]) (by simp only [Tryz.results44, resV, resL, resV1, zao, zbi, uw, cr, tyf, nm, seval] <;> rfl) ?_
   refine zas (by simp only [tre, tytre, Bool.and_self]) ?_
   simp only [outV, nrm, seval, List.map_cons, List.map_nil]
  ·rw [hJ] at hj
   exact hj.elim
end Go.V
end
