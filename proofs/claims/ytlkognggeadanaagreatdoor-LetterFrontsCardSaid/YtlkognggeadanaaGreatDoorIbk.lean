/- Part of a proof. -/
import Derived.Test.YtlkognggeadanaaGreatDoorIbj
set_option linter.all false
set_option maxRecDepth 4000
set_option maxHeartbeats 40000000
section
namespace Go.V
open Go Go.Proofs IntKind
def dropTo (e : GLe) : List GLe → Option (List GLe)
 | [] => none
 | f :: r => if e = f then some r else dropTo e r
def areE : List GLe → List GLe → Bool
 | [], r => r.isEmpty
 | e :: p, r => match dropTo e r with
  | none => false
  | some r' => areE p r'
theorem BF (a b : GLe) : (a.Word == b.Word && (a.Letters == b.Letters)) = decide (a = b) := by
 obtain ⟨a1, a2⟩ := a
 obtain ⟨b1, b2⟩ := b
 simp only [GLe.mk.injEq]
 by_cases h1 : a1 = b1 <;> by_cases h2 : a2 = b2 <;> simp [h1, h2]
theorem QT (e : GLe) : ∀ (p : List GLe) (i : Int), match dropTo e p with
  | none => tV e p i = some (.go ())
  | some r => ∃ k : Nat, tV e p i = some (.ret (i + k)) ∧ k < p.length ∧ r = p.drop (k + 1)
 | [], i => rfl
 | f :: p, i => by
  unfold dropTo
  by_cases h : e = f
  ·simp only [h, if_true]
   exact ⟨0, by simp [tV, BF], by simp, by simp⟩
  ·rw [if_neg h]
   have ih := QT e p (i + 1)
   cases hd : dropTo e p with
   | none =>
    rw [hd] at ih
    simp only at ih ⊢
    simp only [tV, BF, decide_eq_false h, cond_false, ih]
   | some r =>
    rw [hd] at ih
    simp only at ih ⊢
    obtain ⟨k, h1, h2, h3⟩ := ih
    refine ⟨k + 1, ?_, by simpa using h2, by simpa using h3⟩
    simp only [tV, BF, decide_eq_false h, cond_false, h1]
    congr 2
    omega
theorem QU : ∀ (p : List GLe) (i : Int) (r : List GLe), r.length ≤ 1000 → (ze p i r = some (.ret false) ∧ areE p r = false) ∨ ∃ r', ze p i r = some (.go r') ∧ areE p r = r'.isEmpty
 | [], i, r, _ => .inr ⟨r, rfl, rfl⟩
 | e :: p, i, r, h => by
  have hx := QT e r 0
  have hl := nF (xs := r) (by omega)
  unfold areE
  simp only [ze, QV, hl, cond_true]
  cases hd : dropTo e r with
  | none =>
   rw [hd] at hx
   simp only at hx ⊢
   left
   rw [hx]
   simp [lbind]
  | some r' =>
   rw [hd] at hx
   simp only at hx ⊢
   obtain ⟨k, h1, h2, h3⟩ := hx
   rw [h1, HP, Option.bind_some, decide_eq_false (show ¬ ((0 : Int) + k < 0) by omega), cond_false, lY (by omega) (by omega)]
   have hs : sliceO r (0 + (k : Int) + 1) (r.length : Int) = some r' := by
    unfold sliceO
    rw [if_pos (by omega)]
    congr 1
    rw [show ((0 : Int) + k + 1).toNat = k + 1 by omega, h3]
    exact List.take_of_length_le (by simp; omega)
   rw [hs, Option.bind_some]
   exact QU p (i + 1) r' (by rw [h3]; simp; omega)
theorem Kj (ends r : List GLe) (hl : lenOk ends = true) (hr : r.length ≤ 1000) : Kk ends r = some (areE ends r) := by
 simp only [Kk, hl, cond_true]
 rcases QU ends 0 r hr with ⟨h1, h2⟩ | ⟨r', h1, h2⟩
 ·rw [h1, h2]; rfl
 ·rw [h1, h2, og]
  cases r' with
  | nil => rfl
  | cons a l => simp; omega
def IsS (poss ends : List GLe) : Prop := ends.Pairwise befE ∧ (∀ e ∈ ends, e ∈ poss) ∧ ends.getLast? = poss.getLast?
theorem Kl {e : GLe} : ∀ {r r' : List GLe}, dropTo e r = some r' → ∃ a, r = a ++ e :: r'
 | [], _, h => by cases h
 | f :: r, r', h => by
  unfold dropTo at h
  split at h
  ·rename_i hf
   simp only [Option.some.injEq] at h
   subst h hf
   exact ⟨[], rfl⟩
  ·obtain ⟨a, ha⟩ := Kl h
   exact ⟨f :: a, by rw [ha]; rfl⟩
theorem QW {e : GLe} : ∀ {r : List GLe}, e ∈ r → ∃ r', dropTo e r = some r'
 | [], h => by cases h
 | f :: r, h => by
  unfold dropTo
  split
  ·exact ⟨r, rfl⟩
  ·rename_i hf
   rcases List.mem_cons.1 h with h | h
   ·exact absurd h hf
   ·exact QW h
theorem Km : ∀ (p r : List GLe), r.Pairwise befE → (areE p r = true ↔ IsS r p)
 | [], r, _ => by
  unfold areE IsS
  cases r with
  | nil => simp
  | cons a l =>
   simp only [List.isEmpty_cons, Bool.false_eq_true, false_iff]
   rintro ⟨_, _, h⟩
   simp [List.getLast?_cons] at h
 | e :: p, r, hr => by
  unfold areE
  constructor
  ·intro h
   cases hd : dropTo e r with
   | none => rw [hd] at h; cases h
   | some r' =>
    rw [hd] at h
    obtain ⟨a, rfl⟩ := Kl hd
    rw [List.pairwise_append] at hr
    obtain ⟨_, kW, _⟩ := hr
    rw [List.pairwise_cons] at kW
    obtain ⟨h1, h2, h3⟩ := (Km p r' kW.2).1 h
    refine ⟨List.pairwise_cons.2 ⟨fun x hx => kW.1 x (h2 x hx), h1⟩, fun x hx => ?_, ?_⟩
    ·rcases List.mem_cons.1 hx with rfl | hx
     ·simp
     ·have := h2 x hx
      simp [this]
    ·rw [List.getLast?_append, List.getLast?_cons, List.getLast?_cons, h3]
     simp
  ·rintro ⟨h1, h2, h3⟩
   obtain ⟨r', hd⟩ := QW (h2 e (qZb ..))
   rw [hd]
   obtain ⟨a, rfl⟩ := Kl hd
   rw [List.pairwise_append] at hr
   obtain ⟨hra, kW, Kn⟩ := hr
   rw [List.pairwise_cons] at kW h1
   refine (Km p r' kW.2).2 ⟨h1.2, fun x hx => ?_, ?_⟩
   ·have hb := h1.1 x hx
    rcases List.mem_append.1 (h2 x (qZa _ hx)) with hx' | hx'
    ·exact absurd (tw hb (Kn x hx' e (qZb ..))) nG
    ·rcases List.mem_cons.1 hx' with rfl | hx'
     ·exact absurd hb nG
     ·exact hx'
   ·rw [List.getLast?_append, List.getLast?_cons, List.getLast?_cons] at h3
    simp only [Option.some_or, Option.some.injEq] at h3
    cases hp : p.getLast? with
    | none =>
     rw [hp] at h3
     cases hr' : r'.getLast? with
     | none => rfl
     | some y =>
      rw [hr'] at h3
      simp only [Option.getD_none, Option.getD_some] at h3
      subst h3
      exact absurd (kW.1 _ (List.mem_of_getLast? hr')) nG
    | some z =>
     rw [hp] at h3
     cases hr' : r'.getLast? with
     | none =>
      rw [hr'] at h3
      simp only [Option.getD_none, Option.getD_some] at h3
      subst h3
      exact absurd (h1.1 _ (List.mem_of_getLast? hp)) nG
     | some y =>
      rw [hr'] at h3
      simp only [Option.getD_some] at h3
      rw [h3]
abbrev poss (s : GLs) (out : List Int) : List GLe := possL out s.Words 0
theorem yY {s : GLs} (h : Sh s) (out : List Int) : (poss s out).Pairwise befE := zf out _ _ fun w hw => ⟨(h.wcut w hw).1, (h.wcut w hw).2.1⟩
theorem yZ {s : GLs} (h : Sh s) (out : List Int) : (possL out s.Words 0).length ≤ 24 := by
 have := QX out s.Words 0 fun w hw => (h.wcut w hw).2.2
 have := h.nw
 omega
theorem UW {s : GLs} (h : Sh s) (x : GLx) (hl : lenOk x.Out = true) (he : lenOk x.Ends = true) : Ko s x = some (outB s x.Out && areE x.Ends (poss s x.Out)) := by
 have := h.nw
 have hn := yZ h x.Out
 simp only [Ko, Kp s _ hl (by omega), za h _ hl, Option.bind_some]
 rw [Kj _ _ he (by omega), Option.bind_some, csome]
instance {a b : GLe} : Decidable (befE a b) := inferInstanceAs (Decidable (_ ∨ _))
theorem zg {hi : Int} : ∀ (p : List Int) (q : Int), incr q p = true → (p.length : Int) < hi - q → ∃ j, q < j ∧ j ≤ hi ∧ j ∉ p
 | [], q, _, h => ⟨q + 1, by omega, by simp at h; omega, by simp⟩
 | e :: p, q, h1, h2 => by
  simp only [incr, Bool.and_eq_true, Bool.not_eq_true', decide_eq_false_iff_not] at h1
  simp only [List.length_cons] at h2
  by_cases he : e = q + 1
  ·obtain ⟨j, a, b, c⟩ := zg (hi := hi) p e h1.2 (by omega)
   refine ⟨j, by omega, b, fun hm => ?_⟩
   rcases List.mem_cons.1 hm with hm | hm
   ·omega
   ·exact c hm
  ·refine ⟨q + 1, by omega, by omega, fun hm => ?_⟩
   have hpw := tW p e h1.2
   rcases List.mem_cons.1 hm with hm | hm
   ·omega
   ·have := (List.pairwise_cons.1 hpw).1 _ hm
    omega
theorem Kq {s : GLs} {out : List Int} (h : outB s out = true) : ∃ j : Nat, j < s.Words.length ∧ out.contains (j : Int) = false := by
 simp only [outB, Bool.and_eq_true, decide_eq_true_eq] at h
 obtain ⟨h1, ⟨h2, h2'⟩, _⟩ := h
 have : ∃ j, (-1 : Int) < j ∧ j ≤ (s.Words.length : Int) - 1 ∧ j ∉ out := by
  cases out with
  | nil => exact ⟨0, by omega, by simp at h1; omega, by simp⟩
  | cons e p =>
   simp only [List.length_cons] at h1
   refine zg (e :: p) (-1) ?_ (by simp only [List.length_cons]; omega)
   simp only [List.all_cons, Bool.and_eq_true, sa] at h2'
   simp only [incrL] at h2
   simp only [incr, h2, Bool.and_true, Bool.not_eq_true', decide_eq_false_iff_not]
   omega
 obtain ⟨j, a, b, c⟩ := this
 exact ⟨j.toNat, by omega, by rw [show ((j.toNat : Nat) : Int) = j by omega]; simpa using c⟩
theorem Js {α : Type} {xs : List α} {i : Nat} {x : α} (h : xs[i]? = some x) : getI xs (i : Int) = some x := by
 unfold getI
 simp [h]
theorem QY (out : List Int) : ∀ (ws : List GLw) (i : Int), (∀ k : Nat, k < ws.length → out.contains (i + k) = true) → possL out ws i = []
 | [], _, _ => rfl
 | w :: ws, i, h => by
  have h0 := h 0 (by simp)
  rw [Int.natCast_zero, Int.add_zero] at h0
  unfold possL
  rw [h0, cond_true]
  exact QY out ws (i + 1) fun k hk => by
   have := h (k + 1) (by simp; omega)
   rwa [show i + ((k + 1 : Nat) : Int) = i + 1 + k by omega] at this
theorem Q6 (out : List Int) : ∀ (ws : List GLw) (i : Int) (m : Nat) (w : GLw), ws[m]? = some w → out.contains (i + m) = false → (∀ k : Nat, m < k → k < ws.length → out.contains (i + k) = true) → (possL out ws i).getLast? = some (GLe.mk (i + m) (w.Signs.length : Int))
 | [], _, m, w, h, _, _ => by simp at h
 | v :: ws, i, 0, w, h, h1, h2 => by
  simp only [List.getElem?_cons_zero, Option.some.injEq] at h
  subst h
  have hn := QY out ws (i + 1) fun k hk => by
   have := h2 (k + 1) (by omega) (by simp; omega)
   rwa [show i + ((k + 1 : Nat) : Int) = i + 1 + k by omega] at this
  rw [Int.natCast_zero, Int.add_zero] at h1 ⊢
  unfold possL
  rw [h1, cond_false, hn, List.append_nil]
  simp [posW]
 | v :: ws, i, m + 1, w, h, h1, h2 => by
  have e1 : i + ((m + 1 : Nat) : Int) = i + 1 + m := by omega
  rw [e1] at h1 ⊢
  have ih := Q6 out ws (i + 1) m w (by simpa using h) h1 fun k h3 h4 => by
   have := h2 (k + 1) (by omega) (by simp; omega)
   rwa [show i + ((k + 1 : Nat) : Int) = i + 1 + k by omega] at this
  unfold possL
  cases out.contains i with
  | true => exact ih
  | false => rw [cond_false, List.getLast?_append, ih]; rfl
theorem vO {s : GLs} {out : List Int} (h : outB s out = true) : possL out s.Words 0 ≠ [] := by
 obtain ⟨j, h1, h2⟩ := Kq h
 intro hn
 have : GLe.mk (j : Int) (s.Words[j].Signs.length : Int) ∈ possL out s.Words 0 := by
  rw [BT]
  exact ⟨j, s.Words[j], qZi h1, by rw [Int.zero_add]; exact h2, yc.2 ⟨by simp, .inr rfl⟩⟩
 rw [hn] at this
 cases this
end Go.V
end
section
namespace Go.V
open Go Go.Proofs IntKind
section
variable {P : Program} {K V : Type} {q : K → K → Bool} {kv : K → Value} {ew : V → VV} {t kt et : TypeId} {H : Nat → Option VObj}
theorem UX {fs : Array Field} {z : V} (hm : P.underlying t = some (.map kt et)) (hu : P.underlying kt = some (.struct fs)) (he : ∀ a b, aw P (Op.equal kt (kv a) (kv b)) = some (q a b)) (hc : ∀ b k, aw P (Instr.checkKey b 10000 kt (kv k)) = some ())
  (hz : ((P.info? et).bind (·.zero)).map ofVal2 = some (ew z)) {l : List (K × V)} {kx : VV} {k : K} (hk : kx.val? = some (kv k)) :
  vlookup P H t (.mt (mtK kv l) (mtV ew l)) kx true = some (.tup [ew (mapGet q z l k), .lit (.bool (mapHas q l k))]) := by
 have := SJ (H := fun _ => some (.map (encM kv ew l))) (β := 0) hm hu he hc hz hk rfl
 unfold vlookup at this ⊢
 rw [xa]
 exact this
end
end Go.V
end
section
namespace Go.V
open Go Go.Proofs IntKind
def dg (a b : Glp) : Bool := ((a.left == b.left) && ((a.right == b.right) && true))
theorem oE (a b : Glp) : aw Tryz.prog (Op.equal 142 (cv a) (cv b)) = some (dg a b) := by
 unfold Op.equal
 exact Ks 5 142 _ _ _ (by kernel_rfl) 9995
theorem oF (b : Bool) (k : Glp) : aw Tryz.prog (Instr.checkKey b 10000 142 (cv k)) = some () := by
 cases b <;> kernel_rfl
theorem rL (a b : Glp) (h : dg a b = true) : a = b := by
 obtain ⟨aleft, aright⟩ := a
 obtain ⟨bleft, bright⟩ := b
 simp only [dg, Bool.and_true, Bool.and_eq_true, beq_iff_eq] at h
 simp only [h]
theorem tq (a : Glp) : dg a a = true := by simp [dg]
theorem zh (a : Glp) : Instr.sameBits 10000 (cv a) (cv a) = true := by
 simp [cv, Instr.sameBits]
theorem zi : ((Tryz.prog.info? 25).bind (·.zero)).map ofVal2 = some (eC (GSpan.mk 0 0)) := by kernel_rfl
theorem zj (k : Glp) : VV.val? (.agg [.lit (.int .i64 k.left), .lit (.int .i64 k.right)]) = some (cv k) := rfl
theorem Kt {β : Nat} (l : List (Glp × GSpan)) (k : Glp) (n : GSpan) (H : Nat → Option VObj) (hb : H β = some (.map (encM cv eC l))) : vmapUpdate Tryz.prog H 90 (.mp β) (.agg [.lit (.int .i64 k.left), .lit (.int .i64 k.right)]) (.agg [.lit (.int .i64 n.Low), .lit (.int .i64 n.High)]) = some (.upd β (.map (encM cv eC (mapSet dg l k n)))) :=
 DS Tryz.underlying90 Tryz.underlying142 oE oF rL zh (zj k) hb
theorem Ku {c : VV} {cs : List VV} : aR Tryz.prog 90 (c :: cs) = some c := by
 have h1 : aggT Tryz.prog 90 = some false := by kernel_rfl
 simp [aR, vpart, h1]
theorem Kv : szT Tryz.prog 90 = some 1 := by kernel_rfl
theorem zk : vzl Tryz.prog 90 = some [.lit (.map none)] := by kernel_rfl
theorem zl {l : List (Glp × GSpan)} {a_left a_right : Int} {H : Nat → Option VObj} : vlookup Tryz.prog H 90 (.mt (mtK cv l) (mtV eC l)) (.agg [.lit (.int .i64 a_left), .lit (.int .i64 a_right)]) false = some (.agg (cGSpan (mapGet dg (GSpan.mk 0 0) l (Glp.mk a_left a_right)))) :=
 Eb Tryz.underlying90 Tryz.underlying142 oE oF zi (k := (Glp.mk a_left a_right)) rfl
theorem lkto90 {l : List (Glp × GSpan)} {a_left a_right : Int} {H : Nat → Option VObj} : vlookup Tryz.prog H 90 (.mt (mtK cv l) (mtV eC l)) (.agg [.lit (.int .i64 a_left), .lit (.int .i64 a_right)]) true = some (.tup [.agg (cGSpan (mapGet dg (GSpan.mk 0 0) l (Glp.mk a_left a_right))), .lit (.bool (mapHas dg l (Glp.mk a_left a_right)))]) :=
 UX Tryz.underlying90 Tryz.underlying142 oE oF zi (k := (Glp.mk a_left a_right)) rfl
theorem Kw (H : Nat → Option VObj) (d : Nat) (n : GSpan) : showV H d (eC n) = eC n := by cases d <;> simp [eC, showV, au, nrm]
theorem Kx {kv : Glp → Value} {l : List (Glp × GSpan)} {H : Nat → Option VObj} {d : Nat} : ((encM kv eC l).map (·.2)).map (showV H d) = mtV eC l := Ef Kw
def mqr := (And.intro (And.intro @Bt @xb) (And.intro @oG True.intro))
def mqt := (And.intro (And.intro (And.intro @Ku @Kv) (And.intro @zk @zl)) (And.intro (And.intro @lkto90 @Bt) (And.intro @xb (And.intro @jK @Kx))))
def lX (aV : GLx) (dN : Int) (e1 : GLw) : List Int → Int → Int → (List Glm) → Option (LOut (Gld) (Int × (List Glm)))
 | [], jm, fO, jn => some (.go (fO, jn))
 | e2 :: p2, jm, fO, jn => Option.bind (getI aV.Ends fO) (fun x8 => cond (x8.Word == dN && (x8.Letters == (jm + 1))) (cond (aB 32 (List.length (jn ++ [(Glm.mk dN e2 fO (decide ((jm + 1) < (List.length e1.Signs : Int))))]))) (lX aV dN e1 p2 (jm + 1) (i64.wrap (fO + 1)) (jn ++ [(Glm.mk dN e2 fO (decide ((jm + 1) < (List.length e1.Signs : Int))))])) none) (cond (aB 32 (List.length (jn ++ [(Glm.mk dN e2 fO false)]))) (lX aV dN e1 p2 (jm + 1) fO (jn ++ [(Glm.mk dN e2 fO false)])) none))
def pN (aV : GLx) : List GLw → Int → Int → (List Glm) → Option (LOut (Gld) (Int × (List Glm)))
 | [], dN, mg, mh => some (.go (mg, mh))
 | e1 :: p1, dN, mg, mh => Option.bind (vS aV.Out dN) (fun r7 => cond (r7) (pN aV p1 (dN + 1) mg mh) (cond (lenOk e1.Signs) (lbind (lX aV dN e1 e1.Signs 0 mg mh) (fun vw => some (.ret vw)) (fun c9 => pN aV p1 (dN + 1) c9.1 c9.2) (fun _ _ => none)) none))
def vF  : List GLp → Int → (List (Glp × GSpan)) → Option (LOut (Gld) ((List (Glp × GSpan))))
 | [], ke, gQ => some (.go gQ)
 | e0 :: p0, ke, gQ => vF p0 (ke + 1) (mapSet dg gQ (Glp.mk e0.Left e0.Right) e0.Space)
def rT (ag : GLs) (aV : GLx) (bh : Int) : Option (Gld) := cond (lenOk ag.Pairs) (lbind (vF ag.Pairs 0 ([] : List (Glp × GSpan))) (fun Hy => some Hy) (fun c1 => cond (lenOk ag.Words) (lbind (pN aV ag.Words 0 0 ([] : List Glm)) (fun vy => some vy) (fun Ce => some (Gld.mk ag aV bh c1 Ce.2)) (fun _ _ => none)) none) (fun _ _ => none)) none
theorem Q0 (ag : GLs) (aV : GLx) (bh : Int) (R : Gld) (h : rT ag aV bh = some R) : ad Tryz.prog G0 71 [.agg (cGLs ag), .agg (cGLx aV), .lit (.int .i64 bh)] (.tree (.agg (cGld R))) := by
 refine ad.runR mixed Tryz.call71 Tryz.func71 rfl (by simp [Tryz.ntmps71]; kernel_rfl) ?_
 obtain ⟨KF, h, kF, kN⟩ := ec h
 simp only [rT] at h
 cases kR : (lenOk ag.Pairs)
 ·simp only [kR, hs] at h
  exact absurd h kN
 simp only [kR, hs] at h
 simp only [vz, mq, mqm, tyf, mqt, kR, nm, seval]
 obtain ⟨UY, h, UZ, Ky, Va, Vb⟩ := gS h kN
 obtain ⟨Vc, Kz, h⟩ := call3 h
 obtain ⟨Vd, tX⟩ : ∃ I : Nat → St → Prop, I = (fun m st => ∃ (sb : List GLp) (eK : Int) (eM : List (Glp × GSpan)), m = List.length sb ∧ 0 ≤ eK ∧ List.drop (Int.toNat eK) ag.Pairs = sb ∧ st.df = [] ∧ 14 ≤ st.nx ∧ st.H 0 = some (.cells (some 28) (cGLs ag)) ∧ st.H 1 = some (.cells (some 31) (cGLx aV)) ∧ st.H 2 = some (.cells (some 93) ([.lit (.slice none 0 0)] ++ [.lit (.slice none 0 0)] ++ [.lit (.int .i64 0)] ++ [.lit (.int .i64 0)] ++ [.lit (.int .i64 0)] ++ [.lit (.int .i64 0)] ++ [.lit (.int .i64 0)] ++ [.lit (.slice none 0 0)] ++ [.lit (.int .i64 0)] ++ [.lit (.int .i64 0)] ++ [.lit (.slice none 0 0)] ++ [.lit (.slice none 0 0)] ++ [.lit (.int .i64 0)] ++ [.lit (.map none)] ++ [.lit (.slice none 0 0)])) ∧ st.H 6 = some (.map (encM cv eC eM)) ∧ st.H 8 = some (.cells (some 93) ((cGLs ag) ++ (cGLx aV) ++ [.lit (.int .i64 bh)] ++ [.mp 6] ++ [.lit (.slice none 0 0)])) ∧ st.tm 3 = .ptr 0 0 ∧ st.tm 4 = .ptr 1 0 ∧ st.tm 6 = .ptr 2 0 ∧ st.tm 7 = .ptr 8 0 ∧ st.tm 22 = .sl (aa cGLp ag.Pairs) (List.length ag.Pairs) false ∧ st.tm 23 = .lit (.int .i64 (List.length ag.Pairs : Int)) ∧ st.tm 24 = .lit (.int .i64 eK) ∧ UY (Vc sb eK eM)) := ⟨_, rfl⟩
 refine loopK mixed (by kernel_rfl) Vd (List.length ag.Pairs) (by rw [tX]; refine ⟨ag.Pairs, 0, ([] : List (Glp × GSpan)), rfl, qZf _, rfl, rfl, (show 14 ≤ 14 by omega), ?_, ?_, ?_, ?_, ?_, ?_, ?_, ?_, ?_, ?_, ?_, ?_, h⟩ <;> first | (simp only [ua, bT, nm, seval] <;> rfl) | rfl) ?_
 rintro m ⟨tm, H, fP, df⟩ hinv
 rw [tX] at hinv
 obtain ⟨sb, eK, eM, rfl, mM, oH, hdf, K1, mG, lV, zm, zn, m8, ed, dK, eR, dV, dW, dT, eZ, h⟩ := hinv
 simp only at hdf K1 mG lV zm zn m8 ed dK eR dV dW dT eZ
 have iq := gT (m := 14) (b := fP) (by omega)
 subst hdf Kz
 cases sb with
 | nil =>
  have jN : (decide (eK < (List.length ag.Pairs : Int))) = false := fA mM oH
  simp only [vF, hs, reduceCtorEq] at h
  replace h := Ky _ h
  try dsimp only at h
  try simp only [hs] at h
  cases lE : (lenOk ag.Words)
  ·simp only [lE, hs] at h
   exact absurd h kN
  simp only [lE, hs] at h
  simp only [vz, mq, mqm, tyf, mqt, kR, iq, ed, dK, eR, dV, dW, dT, eZ, mG, lV, zm, zn, m8, jN, lE, nm, seval]
  obtain ⟨Ve, h, Vf, zo, Vg, mN⟩ := gS h kN
  obtain ⟨Vh, K2, h⟩ := call4 h
  obtain ⟨Vi, kf⟩ : ∃ I : Nat → St → Prop, I = (fun m st => ∃ (jo : List GLw) (an : Int) (dX : Int) (cg : List Glm) (mi : VV), m = List.length jo ∧ 0 ≤ an ∧ List.drop (Int.toNat an) ag.Words = jo ∧ st.df = [] ∧ fP + 6 ≤ st.nx ∧ st.H 0 = some (.cells (some 28) (cGLs ag)) ∧ st.H 1 = some (.cells (some 31) (cGLx aV)) ∧ st.H 2 = some (.cells (some 93) ([.lit (.slice none 0 0)] ++ [.lit (.slice none 0 0)] ++ [.lit (.int .i64 0)] ++ [.lit (.int .i64 0)] ++ [.lit (.int .i64 0)] ++ [.lit (.int .i64 0)] ++ [.lit (.int .i64 0)] ++ [.lit (.slice none 0 0)] ++ [.lit (.int .i64 0)] ++ [.lit (.int .i64 0)] ++ [.lit (.slice none 0 0)] ++ [.lit (.slice none 0 0)] ++ [.lit (.int .i64 0)] ++ [.lit (.map none)] ++ [.lit (.slice none 0 0)])) ∧ st.H 6 = some (.map (encM cv eC eM)) ∧ st.H 8 = some (.cells (some 93) ((cGLs ag) ++ (cGLx aV) ++ [.lit (.int .i64 bh)] ++ [.mp 6] ++ [mi])) ∧ st.tm 3 = .ptr 0 0 ∧ st.tm 4 = .ptr 1 0 ∧ st.tm 6 = .ptr 2 0 ∧ st.tm 7 = .ptr 8 0 ∧ st.tm 40 = .lit (.int .i64 (List.length ag.Words : Int)) ∧ st.tm 10 = .lit (.int .i64 dX) ∧ st.tm 41 = .lit (.int .i64 an) ∧ ((∃ (β : Nat) (el : Option TypeId), mi = .ref β 0 (List.length cg) 4 (List.length cg) ∧ β < st.nx ∧ β ≠ 0 ∧ β ≠ 1 ∧ β ≠ 2 ∧ β ≠ 6 ∧ β ≠ 8 ∧ st.H β = some (.cells el (aa cGlm cg))) ∨ (mi = .lit (.slice none 0 0) ∧ cg = [])) ∧ Ve (Vh jo an dX cg)) := ⟨_, rfl⟩
  refine loopK mixed (by kernel_rfl) Vi (List.length ag.Words) (by rw [kf]; refine ⟨ag.Words, 0, 0, ([] : List Glm), .lit (.slice none 0 0), rfl, qZf _, rfl, rfl, (show fP + 6 ≤ fP + 6 by omega), ?_, ?_, ?_, ?_, ?_, ed, dK, eR, dV, ?_, ?_, ?_, Or.inr ⟨rfl, rfl⟩, h⟩ <;> first | (simp only [ua, bT, iq, ed, dK, eR, dV, dW, dT, eZ, mG, lV, zm, zn, m8, jN, nm, seval] <;> rfl) | rfl) ?_
  rintro m ⟨tm, H, dO, df⟩ hinv
  rw [kf] at hinv
  obtain ⟨jo, an, dX, cg, mi, rfl, dP, fQ, hdf, KA, mO, mP, mQ, dY, mR, cz, bL, bJ, bF, bG, bx, ca, oI, h⟩ := hinv
  simp only at hdf KA mO mP mQ dY mR cz bL bJ bF bG bx ca oI
  have nJ := gT (m := 14) (b := dO) (by omega)
  have dQ := qk (a := fP) (m := 6) (b := dO) (by omega)
  subst hdf K2
  rcases oI with ⟨kh, oJ, rfl, KB, tY, tZ, KC, KD, KE, vT⟩ | ⟨rfl, rfl⟩
  ·have vU := t6 KB
   have iv := ne_f tY
   have iw := ne_f tZ
   have vV := ne_f KC
   have vW := ne_f KD
   have vX := ne_f KE
   cases jo with
   | nil =>
    have lW : (decide (an < (List.length ag.Words : Int))) = false := fA dP fQ
    simp only [pN, hs, reduceCtorEq] at h
    replace h := zo _ h
    try dsimp only at h
    try simp only [hs] at h
    try simp only [vz, mq, mqm, tyf, mqt, kR, iq, jN, lE, nJ, dQ, cz, bL, bJ, bF, bG, bx, ca, mO, mP, mQ, dY, mR, vU, vT, iv, iw, vV, vW, vX, lW, nm, seval]
    refine cG (x := (.agg ((cGLs ag) ++ (cGLx aV) ++ [.lit (.int .i64 bh)] ++ [.mp 6] ++ [.ref kh 0 (List.length cg) 4 (List.length cg)]))) (by first | (simp only [Tryz.results71, resV, resL, aD, cX, cW, uw, cr, tyf, mqt, kR, iq, jN, lE, nJ, dQ, cz, bL, bJ, bF, bG, bx, ca, mO, mP, mQ, dY, mR, vU, vT, iv, iw, vV, vW, vX, lW, nm, seval] <;> rfl) | rfl) ?_
    obtain rfl := kF _ h
    refine cY ?_ ?_
    ·simp only [tre, ar, mqr, Bool.and_self]
    ·first | (simp only [outV, uw, eu, jR, jK, cr, tyf, mqt, nrm, au, kR, iq, jN, lE, nJ, dQ, cz, bL, bJ, bF, bG, bx, ca, mO, mP, mQ, dY, mR, vU, vT, iv, iw, vV, vW, vX, lW, nm, seval] <;> rfl) | rfl
   | cons bu jo =>
    have qu : (decide (an < (List.length ag.Words : Int))) = true := fB dP fQ
    have iW := dU dP fQ
    have KG := fC dP fQ lE
    simp only [pN, hs, reduceCtorEq] at h
    obtain ⟨QZ, Vj, h⟩ := optI h mN
    try simp only [hs] at h
    simp only [vz, mq, mqm, tyf, mqt, kR, iq, jN, lE, nJ, dQ, cz, bL, bJ, bF, bG, bx, ca, mO, mP, mQ, dY, mR, vU, vT, iv, iw, vV, vW, vX, qu, (aE iW), KG, nm, seval]
    refine ktree (args0 := [.sl (aa eI aV.Out) (List.length aV.Out) false, .lit (.int .i64 an)]) (by first | (simp only [nrm, au, mqr] <;> rfl) | rfl) (by simp only [tre, ar, mqr, Bool.and_self]) (Cf _ _ _ Vj) ?_
    refine bC (fun tm => tm 3 = .ptr 0 0 ∧ tm 4 = .ptr 1 0 ∧ tm 6 = .ptr 2 0 ∧ tm 7 = .ptr 8 0 ∧ tm 10 = .lit (.int .i64 dX) ∧ tm 11 = .lit (.int .i64 an) ∧ tm 40 = .lit (.int .i64 (List.length ag.Words : Int)) ∧ tm 41 = .lit (.int .i64 an) ∧ tm 47 = .lit (.bool QZ) ∧ True) (by refine ⟨cz, bL, bJ, bF, bx, ?_, bG, ca, ?_, trivial⟩ <;> first | (simp only [ua, bT, iq, jN, nJ, dQ, cz, bL, bJ, bF, bG, bx, ca, mO, mP, mQ, dY, mR, vU, vT, iv, iw, vV, vW, vX, qu, KG, nm, seval] <;> rfl) | rfl) ?_
    rintro tm ⟨hO, iG, iH, fa, fv, jM, qv, qw, rP, _⟩
    have fL := And.intro kR (And.intro iq (And.intro jN (And.intro lE (And.intro nJ (And.intro dQ (And.intro mO (And.intro mP (And.intro mQ (And.intro dY (And.intro mR (And.intro vU (And.intro vT (And.intro iv (And.intro iw (And.intro vV (And.intro vW (And.intro vX (And.intro qu KG))))))))))))))))))
    cases ki : (QZ)
    ·simp only [ki, hs] at h
     cases oL : (lenOk bu.Signs)
     ·simp only [oL, hs] at h
      exact absurd h mN
     simp only [oL, hs] at h
     simp only [vz, mq, mqm, tyf, mqt, fL, (aE iW), hO, iG, iH, fa, fv, jM, qv, qw, rP, ki, oL, nm, seval]
     obtain ⟨Vk, h, Vl, zp, Vm, mS⟩ := gS h mN
     obtain ⟨Vn, KH, h⟩ := call4 h
     obtain ⟨Vo, mT⟩ : ∃ I : Nat → St → Prop, I = (fun m st => ∃ (kS : List Int) (bm : Int) (bd : Int) (bB : List Glm) (mj : VV), m = List.length kS ∧ 0 ≤ bm ∧ List.drop (Int.toNat bm) bu.Signs = kS ∧ st.df = [] ∧ dO + 23 ≤ st.nx ∧ st.H 0 = some (.cells (some 28) (cGLs ag)) ∧ st.H 1 = some (.cells (some 31) (cGLx aV)) ∧ st.H 2 = some (.cells (some 93) ([.lit (.slice none 0 0)] ++ [.lit (.slice none 0 0)] ++ [.lit (.int .i64 0)] ++ [.lit (.int .i64 0)] ++ [.lit (.int .i64 0)] ++ [.lit (.int .i64 0)] ++ [.lit (.int .i64 0)] ++ [.lit (.slice none 0 0)] ++ [.lit (.int .i64 0)] ++ [.lit (.int .i64 0)] ++ [.lit (.slice none 0 0)] ++ [.lit (.slice none 0 0)] ++ [.lit (.int .i64 0)] ++ [.lit (.map none)] ++ [.lit (.slice none 0 0)])) ∧ st.H 6 = some (.map (encM cv eC eM)) ∧ st.H 8 = some (.cells (some 93) ((cGLs ag) ++ (cGLx aV) ++ [.lit (.int .i64 bh)] ++ [.mp 6] ++ [mj])) ∧ st.tm 3 = .ptr 0 0 ∧ st.tm 4 = .ptr 1 0 ∧ st.tm 6 = .ptr 2 0 ∧ st.tm 7 = .ptr 8 0 ∧ st.tm 11 = .lit (.int .i64 an) ∧ st.tm 12 = .lit (.int .i64 (List.length bu.Signs : Int)) ∧ st.tm 40 = .lit (.int .i64 (List.length ag.Words : Int)) ∧ st.tm 41 = .lit (.int .i64 an) ∧ st.tm 60 = .sl (aa eI bu.Signs) (List.length bu.Signs) false ∧ st.tm 61 = .lit (.int .i64 (List.length bu.Signs : Int)) ∧ st.tm 10 = .lit (.int .i64 bd) ∧ st.tm 62 = .lit (.int .i64 bm) ∧ ((∃ (β : Nat) (el : Option TypeId), mj = .ref β 0 (List.length bB) 4 (List.length bB) ∧ β < st.nx ∧ β ≠ 0 ∧ β ≠ 1 ∧ β ≠ 2 ∧ β ≠ 6 ∧ β ≠ 8 ∧ st.H β = some (.cells el (aa cGlm bB))) ∨ (mj = .lit (.slice none 0 0) ∧ bB = [])) ∧ Vk (Vn kS bm bd bB)) := ⟨_, rfl⟩
     refine loopK mixed (by kernel_rfl) Vo (List.length bu.Signs) (by rw [mT]; refine ⟨bu.Signs, 0, dX, cg, .ref kh 0 (List.length cg) 4 (List.length cg), rfl, qZf _, rfl, rfl, (show dO + 23 ≤ dO + 23 by omega), ?_, ?_, ?_, ?_, ?_, hO, iG, iH, fa, jM, ?_, qv, qw, ?_, ?_, fv, ?_, Or.inl ⟨kh, oJ, rfl, (by first | omega | (simp only [nm, seval]; done) | (simp only [nm, seval]; omega)), (by first | omega | (intro hh; simp only [fL, reduceCtorEq] at hh)), (by first | omega | (intro hh; simp only [fL, reduceCtorEq] at hh)), (by first | omega | (intro hh; simp only [fL, reduceCtorEq] at hh)), (by first | omega | (intro hh; simp only [fL, reduceCtorEq] at hh)), (by first | omega | (intro hh; simp only [fL, reduceCtorEq] at hh)), ?_⟩, h⟩ <;> first | (simp only [ua, bT, fL, hO, iG, iH, fa, fv, jM, qv, qw, rP, ki, nm, seval] <;> rfl) | rfl) ?_
     rintro m ⟨tm, H, eN, df⟩ hinv
     rw [mT] at hinv
     obtain ⟨kS, bm, bd, bB, mj, rfl, fe, gV, hdf, KI, qF, qG, qH, qI, qJ, dp, dx, bO, bP, bN, bM, cN, cU, cV, cK, cM, gp, oM, h⟩ := hinv
     simp only at hdf KI qF qG qH qI qJ dp dx bO bP bN bM cN cU cV cK cM gp oM
     have dL := gT (m := 14) (b := eN) (by omega)
     have mU := qk (a := fP) (m := 6) (b := eN) (by omega)
     have mV := qk (a := dO) (m := 23) (b := eN) (by omega)
     subst hdf KH
     rcases oM with ⟨sc, ix, rfl, KJ, KK, KL, KM, KN, KO, Cg⟩ | ⟨rfl, rfl⟩
     ·have qK := t6 KJ
      have qL := ne_f KK
      have qM := ne_f KL
      have qN := ne_f KM
      have qO := ne_f KN
      have qP := ne_f KO
      cases kS with
      | nil =>
       have qQ : (decide (bm < (List.length bu.Signs : Int))) = false := fA fe gV
       simp only [lX, hs, reduceCtorEq] at h
       replace h := zp _ h
       try dsimp only at h
       try simp only [hs] at h
       simp only [vz, mq, mqm, tyf, mqt, fL, (aE iW), ki, oL, dL, mU, mV, dp, dx, bO, bP, bN, bM, cN, cU, cV, cK, cM, gp, qF, qG, qH, qI, qJ, qK, Cg, qL, qM, qN, qO, qP, qQ, nm, seval]
       exact ⟨List.length jo, qZc _, by rw [kf]; refine ⟨jo, an + 1, bd, bB, .ref sc 0 (List.length bB) 4 (List.length bB), rfl, Int.le_trans dP (Int.le_add_one (qZf _)), bY dP fQ, rfl, (show fP + 6 ≤ eN + 3 by omega), ?_, ?_, ?_, ?_, ?_, dp, dx, bO, bP, cN, cM, ?_, Or.inl ⟨sc, ix, rfl, (by first | omega | (simp only [nm, seval]; done) | (simp only [nm, seval]; omega)), (by first | omega | (intro hh; simp only [fL, dL, mU, mV, qK, qL, qM, qN, qO, qP, reduceCtorEq] at hh)), (by first | omega | (intro hh; simp only [fL, dL, mU, mV, qK, qL, qM, qN, qO, qP, reduceCtorEq] at hh)), (by first | omega | (intro hh; simp only [fL, dL, mU, mV, qK, qL, qM, qN, qO, qP, reduceCtorEq] at hh)), (by first | omega | (intro hh; simp only [fL, dL, mU, mV, qK, qL, qM, qN, qO, qP, reduceCtorEq] at hh)), (by first | omega | (intro hh; simp only [fL, dL, mU, mV, qK, qL, qM, qN, qO, qP, reduceCtorEq] at hh)), ?_⟩, (by first | exact h | (simp only [fL, ki, qQ]; exact h))⟩ <;> first | (simp only [ua, bT, fL, ki, dL, mU, mV, dp, dx, bO, bP, bN, bM, cN, cU, cV, cK, cM, gp, qF, qG, qH, qI, qJ, qK, Cg, qL, qM, qN, qO, qP, qQ, nm, seval] <;> rfl) | rfl⟩
      | cons eG kS =>
       have zq : (decide (bm < (List.length bu.Signs : Int))) = true := fB fe gV
       have kj := dU fe gV
       have zr := fC fe gV oL
       simp only [lX, hs, reduceCtorEq] at h
       obtain ⟨zt, kl, h⟩ := optI h mS
       try simp only [hs] at h
       cases qR : (zt.Word == an && (zt.Letters == (bm + 1)))
       ·simp only [qR, hs] at h
        have gv := And.intro fL (And.intro ki (And.intro oL (And.intro dL (And.intro mU (And.intro mV (And.intro qF (And.intro qG (And.intro qH (And.intro qI (And.intro qJ (And.intro qK (And.intro Cg (And.intro qL (And.intro qM (And.intro qN (And.intro qO (And.intro qP (And.intro zq (And.intro zr qR)))))))))))))))))))
        cases lF : (aB 32 (List.length (bB ++ [(Glm.mk an eG bd false)])))
        ·simp only [lF, hs] at h
         exact absurd h mS
        simp only [lF, hs] at h
        simp only [vz, mq, mqm, tyf, mqt, gv, (aE iW), dp, dx, bO, bP, bN, bM, cN, cU, cV, cK, cM, gp, (aC kj), (bk kl), lF, nm, seval]
        refine k_app (w := 4) (enc := cGlm) (xs := bB) (ys := ([(Glm.mk an eG bd false)])) (el := ix) (fz := (some 144)) (fun _ => rfl) km kn Tryz.underlying91 (by first | rfl | assumption | (simp only [bl, bI, gw, gv, nm, seval] <;> rfl) | (simp only [bl, bI, eY, eQ, eW, eX, tyf, mqt, gv, (aE iW), dp, dx, bO, bP, bN, bM, cN, cU, cV, cK, cM, gp, (aC kj), (bk kl), lF, nm, seval]; done)) (by first | rfl | assumption | (simp only [bl, bI, gw, gv, nm, seval] <;> rfl) | (simp only [bl, bI, eY, eQ, eW, eX, tyf, mqt, gv, (aE iW), dp, dx, bO, bP, bN, bM, cN, cU, cV, cK, cM, gp, (aC kj), (bk kl), lF, nm, seval]; done)) (Nat.zero_lt_succ _) lF ?_
        simp only [vz, mq, mqm, tyf, mqt, gv, (aE iW), dp, dx, bO, bP, bN, bM, cN, cU, cV, cK, cM, gp, (aC kj), (bk kl), lF, nm, seval]
        exact ⟨List.length kS, qZc _, by rw [mT]; refine ⟨kS, bm + 1, bd, (bB ++ [(Glm.mk an eG bd false)]), .ref (eN + 31) 0 (List.length (bB ++ [(Glm.mk an eG bd false)])) 4 (List.length (bB ++ [(Glm.mk an eG bd false)])), rfl, Int.le_trans fe (Int.le_add_one (qZf _)), bY fe gV, rfl, (show dO + 23 ≤ eN + 37 by omega), ?_, ?_, ?_, ?_, ?_, dp, dx, bO, bP, bN, bM, cN, cU, cV, cK, cM, ?_, Or.inl ⟨eN + 31, (sameEl ix 144), rfl, (by first | omega | (simp only [nm, seval]; done) | (simp only [nm, seval]; omega)), (by first | omega | (intro hh; simp only [gv, reduceCtorEq] at hh)), (by first | omega | (intro hh; simp only [gv, reduceCtorEq] at hh)), (by first | omega | (intro hh; simp only [gv, reduceCtorEq] at hh)), (by first | omega | (intro hh; simp only [gv, reduceCtorEq] at hh)), (by first | omega | (intro hh; simp only [gv, reduceCtorEq] at hh)), ?_⟩, (by first | exact h | (simp only [gv]; exact h))⟩ <;> first | (simp only [ua, bT, gv, dp, dx, bO, bP, bN, bM, cN, cU, cV, cK, cM, gp, nm, seval] <;> rfl) | rfl⟩
       simp only [qR, hs] at h
       have gy := And.intro fL (And.intro ki (And.intro oL (And.intro dL (And.intro mU (And.intro mV (And.intro qF (And.intro qG (And.intro qH (And.intro qI (And.intro qJ (And.intro qK (And.intro Cg (And.intro qL (And.intro qM (And.intro qN (And.intro qO (And.intro qP (And.intro zq (And.intro zr qR)))))))))))))))))))
       cases lG : (aB 32 (List.length (bB ++ [(Glm.mk an eG bd (decide ((bm + 1) < (List.length bu.Signs : Int))))])))
       ·simp only [lG, hs] at h
        exact absurd h mS
       simp only [lG, hs] at h
       simp only [vz, mq, mqm, tyf, mqt, gy, (aE iW), dp, dx, bO, bP, bN, bM, cN, cU, cV, cK, cM, gp, (aC kj), (bk kl), lG, nm, seval]
       refine k_app (w := 4) (enc := cGlm) (xs := bB) (ys := ([(Glm.mk an eG bd (decide ((bm + 1) < (List.length bu.Signs : Int))))])) (el := ix) (fz := (some 144)) (fun _ => rfl) km kn Tryz.underlying91 (by first | rfl | assumption | (simp only [bl, bI, gw, gy, nm, seval] <;> rfl) | (simp only [bl, bI, eY, eQ, eW, eX, tyf, mqt, gy, (aE iW), dp, dx, bO, bP, bN, bM, cN, cU, cV, cK, cM, gp, (aC kj), (bk kl), lG, nm, seval]; done)) (by first | rfl | assumption | (simp only [bl, bI, gw, gy, nm, seval] <;> rfl) | (simp only [bl, bI, eY, eQ, eW, eX, tyf, mqt, gy, (aE iW), dp, dx, bO, bP, bN, bM, cN, cU, cV, cK, cM, gp, (aC kj), (bk kl), lG, nm, seval]; done)) (Nat.zero_lt_succ _) lG ?_
       simp only [vz, mq, mqm, tyf, mqt, gy, (aE iW), dp, dx, bO, bP, bN, bM, cN, cU, cV, cK, cM, gp, (aC kj), (bk kl), lG, nm, seval]
       exact ⟨List.length kS, qZc _, by rw [mT]; refine ⟨kS, bm + 1, i64.wrap (bd + 1), (bB ++ [(Glm.mk an eG bd (decide ((bm + 1) < (List.length bu.Signs : Int))))]), .ref (eN + 31) 0 (List.length (bB ++ [(Glm.mk an eG bd (decide ((bm + 1) < (List.length bu.Signs : Int))))])) 4 (List.length (bB ++ [(Glm.mk an eG bd (decide ((bm + 1) < (List.length bu.Signs : Int))))])), rfl, Int.le_trans fe (Int.le_add_one (qZf _)), bY fe gV, rfl, (show dO + 23 ≤ eN + 40 by omega), ?_, ?_, ?_, ?_, ?_, dp, dx, bO, bP, bN, bM, cN, cU, cV, cK, ?_, ?_, Or.inl ⟨eN + 31, (sameEl ix 144), rfl, (by first | omega | (simp only [nm, seval]; done) | (simp only [nm, seval]; omega)), (by first | omega | (intro hh; simp only [gy, reduceCtorEq] at hh)), (by first | omega | (intro hh; simp only [gy, reduceCtorEq] at hh)), (by first | omega | (intro hh; simp only [gy, reduceCtorEq] at hh)), (by first | omega | (intro hh; simp only [gy, reduceCtorEq] at hh)), (by first | omega | (intro hh; simp only [gy, reduceCtorEq] at hh)), ?_⟩, (by first | exact h | (simp only [gy]; exact h))⟩ <;> first | (simp only [ua, bT, gy, dp, dx, bO, bP, bN, bM, cN, cU, cV, cK, cM, gp, nm, seval] <;> rfl) | rfl⟩
     ·cases kS with
      | nil =>
       have ub : (decide (bm < (List.length bu.Signs : Int))) = false := fA fe gV
       simp only [lX, hs, reduceCtorEq] at h
       replace h := zp _ h
       try dsimp only at h
       try simp only [hs] at h
       simp only [vz, mq, mqm, tyf, mqt, fL, (aE iW), ki, oL, dL, mU, mV, dp, dx, bO, bP, bN, bM, cN, cU, cV, cK, cM, gp, qF, qG, qH, qI, qJ, ub, nm, seval]
       exact ⟨List.length jo, qZc _, by rw [kf]; refine ⟨jo, an + 1, bd, ([] : List Glm), .lit (.slice none 0 0), rfl, Int.le_trans dP (Int.le_add_one (qZf _)), bY dP fQ, rfl, (show fP + 6 ≤ eN + 3 by omega), ?_, ?_, ?_, ?_, ?_, dp, dx, bO, bP, cN, cM, ?_, Or.inr ⟨rfl, rfl⟩, (by first | exact h | (simp only [fL, ki, ub]; exact h))⟩ <;> first | (simp only [ua, bT, fL, ki, dL, mU, mV, dp, dx, bO, bP, bN, bM, cN, cU, cV, cK, cM, gp, qF, qG, qH, qI, qJ, ub, nm, seval] <;> rfl) | rfl⟩
      | cons eG kS =>
       have zu : (decide (bm < (List.length bu.Signs : Int))) = true := fB fe gV
       have mW := dU fe gV
       have zw := fC fe gV oL
       simp only [lX, hs, reduceCtorEq] at h
       obtain ⟨zx, mX, h⟩ := optI h mS
       try simp only [hs] at h
       cases qS : (zx.Word == an && (zx.Letters == (bm + 1)))
       ·simp only [qS, hs] at h
        have iy := And.intro fL (And.intro ki (And.intro oL (And.intro dL (And.intro mU (And.intro mV (And.intro qF (And.intro qG (And.intro qH (And.intro qI (And.intro qJ (And.intro zu (And.intro zw qS))))))))))))
        cases mY : (aB 32 (List.length (([] : List Glm) ++ [(Glm.mk an eG bd false)])))
        ·simp only [mY, hs] at h
         exact absurd h mS
        simp only [mY, hs] at h
        simp only [vz, mq, mqm, tyf, mqt, iy, (aE iW), dp, dx, bO, bP, bN, bM, cN, cU, cV, cK, cM, gp, (aC mW), (bk mX), mY, nm, seval]
        refine nE (w := 4) (enc := cGlm) (ys := ([(Glm.mk an eG bd false)])) (fz := (some 144)) (fun _ => rfl) km kn Tryz.underlying91 (by first | rfl | assumption | (simp only [bl, bI, gw, iy, nm, seval] <;> rfl) | (simp only [bl, bI, eY, eQ, eW, eX, tyf, mqt, iy, (aE iW), dp, dx, bO, bP, bN, bM, cN, cU, cV, cK, cM, gp, (aC mW), (bk mX), mY, nm, seval]; done)) (Nat.zero_lt_succ _) mY ?_
        simp only [vz, mq, mqm, tyf, mqt, iy, (aE iW), dp, dx, bO, bP, bN, bM, cN, cU, cV, cK, cM, gp, (aC mW), (bk mX), mY, nm, seval]
        exact ⟨List.length kS, qZc _, by rw [mT]; refine ⟨kS, bm + 1, bd, (([] : List Glm) ++ [(Glm.mk an eG bd false)]), .ref (eN + 31) 0 (List.length (([] : List Glm) ++ [(Glm.mk an eG bd false)])) 4 (List.length (([] : List Glm) ++ [(Glm.mk an eG bd false)])), rfl, Int.le_trans fe (Int.le_add_one (qZf _)), bY fe gV, rfl, (show dO + 23 ≤ eN + 37 by omega), ?_, ?_, ?_, ?_, ?_, dp, dx, bO, bP, bN, bM, cN, cU, cV, cK, cM, ?_, Or.inl ⟨eN + 31, (some 144), rfl, (by first | omega | (simp only [nm, seval]; done) | (simp only [nm, seval]; omega)), (by first | omega | (intro hh; simp only [iy, reduceCtorEq] at hh)), (by first | omega | (intro hh; simp only [iy, reduceCtorEq] at hh)), (by first | omega | (intro hh; simp only [iy, reduceCtorEq] at hh)), (by first | omega | (intro hh; simp only [iy, reduceCtorEq] at hh)), (by first | omega | (intro hh; simp only [iy, reduceCtorEq] at hh)), ?_⟩, (by first | exact h | (simp only [iy]; exact h))⟩ <;> first | (simp only [ua, bT, iy, dp, dx, bO, bP, bN, bM, cN, cU, cV, cK, cM, gp, nm, seval] <;> rfl) | rfl⟩
       simp only [qS, hs] at h
       have iz := And.intro fL (And.intro ki (And.intro oL (And.intro dL (And.intro mU (And.intro mV (And.intro qF (And.intro qG (And.intro qH (And.intro qI (And.intro qJ (And.intro zu (And.intro zw qS))))))))))))
       cases mZ : (aB 32 (List.length (([] : List Glm) ++ [(Glm.mk an eG bd (decide ((bm + 1) < (List.length bu.Signs : Int))))])))
       ·simp only [mZ, hs] at h
        exact absurd h mS
       simp only [mZ, hs] at h
       simp only [vz, mq, mqm, tyf, mqt, iz, (aE iW), dp, dx, bO, bP, bN, bM, cN, cU, cV, cK, cM, gp, (aC mW), (bk mX), mZ, nm, seval]
       refine nE (w := 4) (enc := cGlm) (ys := ([(Glm.mk an eG bd (decide ((bm + 1) < (List.length bu.Signs : Int))))])) (fz := (some 144)) (fun _ => rfl) km kn Tryz.underlying91 (by first | rfl | assumption | (simp only [bl, bI, gw, iz, nm, seval] <;> rfl) | (simp only [bl, bI, eY, eQ, eW, eX, tyf, mqt, iz, (aE iW), dp, dx, bO, bP, bN, bM, cN, cU, cV, cK, cM, gp, (aC mW), (bk mX), mZ, nm, seval]; done)) (Nat.zero_lt_succ _) mZ ?_
       simp only [vz, mq, mqm, tyf, mqt, iz, (aE iW), dp, dx, bO, bP, bN, bM, cN, cU, cV, cK, cM, gp, (aC mW), (bk mX), mZ, nm, seval]
       exact ⟨List.length kS, qZc _, by rw [mT]; refine ⟨kS, bm + 1, i64.wrap (bd + 1), (([] : List Glm) ++ [(Glm.mk an eG bd (decide ((bm + 1) < (List.length bu.Signs : Int))))]), .ref (eN + 31) 0 (List.length (([] : List Glm) ++ [(Glm.mk an eG bd (decide ((bm + 1) < (List.length bu.Signs : Int))))])) 4 (List.length (([] : List Glm) ++ [(Glm.mk an eG bd (decide ((bm + 1) < (List.length bu.Signs : Int))))])), rfl, Int.le_trans fe (Int.le_add_one (qZf _)), bY fe gV, rfl, (show dO + 23 ≤ eN + 40 by omega), ?_, ?_, ?_, ?_, ?_, dp, dx, bO, bP, bN, bM, cN, cU, cV, cK, ?_, ?_, Or.inl ⟨eN + 31, (some 144), rfl, (by first | omega | (simp only [nm, seval]; done) | (simp only [nm, seval]; omega)), (by first | omega | (intro hh; simp only [iz, reduceCtorEq] at hh)), (by first | omega | (intro hh; simp only [iz, reduceCtorEq] at hh)), (by first | omega | (intro hh; simp only [iz, reduceCtorEq] at hh)), (by first | omega | (intro hh; simp only [iz, reduceCtorEq] at hh)), (by first | omega | (intro hh; simp only [iz, reduceCtorEq] at hh)), ?_⟩, (by first | exact h | (simp only [iz]; exact h))⟩ <;> first | (simp only [ua, bT, iz, dp, dx, bO, bP, bN, bM, cN, cU, cV, cK, cM, gp, nm, seval] <;> rfl) | rfl⟩
    simp only [ki, hs] at h
    simp only [vz, mq, mqm, tyf, mqt, fL, (aE iW), hO, iG, iH, fa, fv, jM, qv, qw, rP, ki, nm, seval]
    exact ⟨List.length jo, qZc _, by rw [kf]; refine ⟨jo, an + 1, dX, cg, .ref kh 0 (List.length cg) 4 (List.length cg), rfl, Int.le_trans dP (Int.le_add_one (qZf _)), bY dP fQ, rfl, (show fP + 6 ≤ dO + 9 by omega), ?_, ?_, ?_, ?_, ?_, hO, iG, iH, fa, qv, fv, ?_, Or.inl ⟨kh, oJ, rfl, (by first | omega | (simp only [nm, seval]; done) | (simp only [nm, seval]; omega)), (by first | omega | (intro hh; simp only [fL, reduceCtorEq] at hh)), (by first | omega | (intro hh; simp only [fL, reduceCtorEq] at hh)), (by first | omega | (intro hh; simp only [fL, reduceCtorEq] at hh)), (by first | omega | (intro hh; simp only [fL, reduceCtorEq] at hh)), (by first | omega | (intro hh; simp only [fL, reduceCtorEq] at hh)), ?_⟩, (by first | exact h | (simp only [fL, ki]; exact h))⟩ <;> first | (simp only [ua, bT, fL, hO, iG, iH, fa, fv, jM, qv, qw, rP, ki, nm, seval] <;> rfl) | rfl⟩
  ·cases jo with
   | nil =>
    have uc : (decide (an < (List.length ag.Words : Int))) = false := fA dP fQ
    simp only [pN, hs, reduceCtorEq] at h
    replace h := zo _ h
    try dsimp only at h
    try simp only [hs] at h
    try simp only [vz, mq, mqm, tyf, mqt, kR, iq, jN, lE, nJ, dQ, cz, bL, bJ, bF, bG, bx, ca, mO, mP, mQ, dY, mR, uc, nm, seval]
    refine cG (x := (.agg ((cGLs ag) ++ (cGLx aV) ++ [.lit (.int .i64 bh)] ++ [.mp 6] ++ [.lit (.slice none 0 0)]))) (by first | (simp only [Tryz.results71, resV, resL, aD, cX, cW, uw, cr, tyf, mqt, kR, iq, jN, lE, nJ, dQ, cz, bL, bJ, bF, bG, bx, ca, mO, mP, mQ, dY, mR, uc, nm, seval] <;> rfl) | rfl) ?_
    obtain rfl := kF _ h
    refine cY ?_ ?_
    ·simp only [tre, ar, mqr, Bool.and_self]
    ·first | (simp only [outV, uw, eu, jR, jK, cr, tyf, mqt, nrm, au, kR, iq, jN, lE, nJ, dQ, cz, bL, bJ, bF, bG, bx, ca, mO, mP, mQ, dY, mR, uc, nm, seval] <;> rfl) | rfl
   | cons bu jo =>
    have ud : (decide (an < (List.length ag.Words : Int))) = true := fB dP fQ
    have dZ := dU dP fQ
    have ue := fC dP fQ lE
    simp only [pN, hs, reduceCtorEq] at h
    obtain ⟨zy, KP, h⟩ := optI h mN
    try simp only [hs] at h
    simp only [vz, mq, mqm, tyf, mqt, kR, iq, jN, lE, nJ, dQ, cz, bL, bJ, bF, bG, bx, ca, mO, mP, mQ, dY, mR, ud, (aE dZ), ue, nm, seval]
    refine ktree (args0 := [.sl (aa eI aV.Out) (List.length aV.Out) false, .lit (.int .i64 an)]) (by first | (simp only [nrm, au, mqr] <;> rfl) | rfl) (by simp only [tre, ar, mqr, Bool.and_self]) (Cf _ _ _ KP) ?_
    refine bC (fun tm => tm 3 = .ptr 0 0 ∧ tm 4 = .ptr 1 0 ∧ tm 6 = .ptr 2 0 ∧ tm 7 = .ptr 8 0 ∧ tm 10 = .lit (.int .i64 dX) ∧ tm 11 = .lit (.int .i64 an) ∧ tm 40 = .lit (.int .i64 (List.length ag.Words : Int)) ∧ tm 41 = .lit (.int .i64 an) ∧ tm 47 = .lit (.bool zy) ∧ True) (by refine ⟨cz, bL, bJ, bF, bx, ?_, bG, ca, ?_, trivial⟩ <;> first | (simp only [ua, bT, iq, jN, nJ, dQ, cz, bL, bJ, bF, bG, bx, ca, mO, mP, mQ, dY, mR, ud, ue, nm, seval] <;> rfl) | rfl) ?_
    rintro tm ⟨nd, nf, ng, nh, ni, oN, nj, oO, qT, _⟩
    have dR := And.intro kR (And.intro iq (And.intro jN (And.intro lE (And.intro nJ (And.intro dQ (And.intro mO (And.intro mP (And.intro mQ (And.intro dY (And.intro mR (And.intro ud ue)))))))))))
    cases eO : (zy)
    ·simp only [eO, hs] at h
     cases iA : (lenOk bu.Signs)
     ·simp only [iA, hs] at h
      exact absurd h mN
     simp only [iA, hs] at h
     simp only [vz, mq, mqm, tyf, mqt, dR, (aE dZ), nd, nf, ng, nh, ni, oN, nj, oO, qT, eO, iA, nm, seval]
     obtain ⟨KQ, h, Ra, sd, Rb, jq⟩ := gS h mN
     obtain ⟨KR, z1, h⟩ := call4 h
     obtain ⟨KS, jr⟩ : ∃ I : Nat → St → Prop, I = (fun m st => ∃ (ff : List Int) (aZ : Int) (aW : Int) (bn : List Glm) (j2 : VV), m = List.length ff ∧ 0 ≤ aZ ∧ List.drop (Int.toNat aZ) bu.Signs = ff ∧ st.df = [] ∧ dO + 23 ≤ st.nx ∧ st.H 0 = some (.cells (some 28) (cGLs ag)) ∧ st.H 1 = some (.cells (some 31) (cGLx aV)) ∧ st.H 2 = some (.cells (some 93) ([.lit (.slice none 0 0)] ++ [.lit (.slice none 0 0)] ++ [.lit (.int .i64 0)] ++ [.lit (.int .i64 0)] ++ [.lit (.int .i64 0)] ++ [.lit (.int .i64 0)] ++ [.lit (.int .i64 0)] ++ [.lit (.slice none 0 0)] ++ [.lit (.int .i64 0)] ++ [.lit (.int .i64 0)] ++ [.lit (.slice none 0 0)] ++ [.lit (.slice none 0 0)] ++ [.lit (.int .i64 0)] ++ [.lit (.map none)] ++ [.lit (.slice none 0 0)])) ∧ st.H 6 = some (.map (encM cv eC eM)) ∧ st.H 8 = some (.cells (some 93) ((cGLs ag) ++ (cGLx aV) ++ [.lit (.int .i64 bh)] ++ [.mp 6] ++ [j2])) ∧ st.tm 3 = .ptr 0 0 ∧ st.tm 4 = .ptr 1 0 ∧ st.tm 6 = .ptr 2 0 ∧ st.tm 7 = .ptr 8 0 ∧ st.tm 11 = .lit (.int .i64 an) ∧ st.tm 12 = .lit (.int .i64 (List.length bu.Signs : Int)) ∧ st.tm 40 = .lit (.int .i64 (List.length ag.Words : Int)) ∧ st.tm 41 = .lit (.int .i64 an) ∧ st.tm 60 = .sl (aa eI bu.Signs) (List.length bu.Signs) false ∧ st.tm 61 = .lit (.int .i64 (List.length bu.Signs : Int)) ∧ st.tm 10 = .lit (.int .i64 aW) ∧ st.tm 62 = .lit (.int .i64 aZ) ∧ ((∃ (β : Nat) (el : Option TypeId), j2 = .ref β 0 (List.length bn) 4 (List.length bn) ∧ β < st.nx ∧ β ≠ 0 ∧ β ≠ 1 ∧ β ≠ 2 ∧ β ≠ 6 ∧ β ≠ 8 ∧ st.H β = some (.cells el (aa cGlm bn))) ∨ (j2 = .lit (.slice none 0 0) ∧ bn = [])) ∧ KQ (KR ff aZ aW bn)) := ⟨_, rfl⟩
     refine loopK mixed (by kernel_rfl) KS (List.length bu.Signs) (by rw [jr]; refine ⟨bu.Signs, 0, dX, ([] : List Glm), .lit (.slice none 0 0), rfl, qZf _, rfl, rfl, (show dO + 23 ≤ dO + 23 by omega), ?_, ?_, ?_, ?_, ?_, nd, nf, ng, nh, oN, ?_, nj, oO, ?_, ?_, ni, ?_, Or.inr ⟨rfl, rfl⟩, h⟩ <;> first | (simp only [ua, bT, dR, nd, nf, ng, nh, ni, oN, nj, oO, qT, eO, nm, seval] <;> rfl) | rfl) ?_
     rintro m ⟨tm, H, cJ, df⟩ hinv
     rw [jr] at hinv
     obtain ⟨ff, aZ, aW, bn, j2, rfl, cQ, ep, hdf, z2, j3, j4, j5, j6, j7, cj, ck, cl, cm, cA, cB, cn, cC, cD, cE, cF, dj, ml, h⟩ := hinv
     simp only at hdf z2 j3 j4 j5 j6 j7 cj ck cl cm cA cB cn cC cD cE cF dj ml
     have gA := gT (m := 14) (b := cJ) (by omega)
     have gB := qk (a := fP) (m := 6) (b := cJ) (by omega)
     have gC := qk (a := dO) (m := 23) (b := cJ) (by omega)
     subst hdf z1
     rcases ml with ⟨oP, fR, rfl, z3, z4, z5, z6, z7, z8, qU⟩ | ⟨rfl, rfl⟩
     ·have j8 := t6 z3
      have j9 := ne_f z4
      have jA := ne_f z5
      have jB := ne_f z6
      have jC := ne_f z7
      have jD := ne_f z8
      cases ff with
      | nil =>
       have uf : (decide (aZ < (List.length bu.Signs : Int))) = false := fA cQ ep
       simp only [lX, hs, reduceCtorEq] at h
       replace h := sd _ h
       try dsimp only at h
       try simp only [hs] at h
       simp only [vz, mq, mqm, tyf, mqt, dR, (aE dZ), eO, iA, gA, gB, gC, cj, ck, cl, cm, cA, cB, cn, cC, cD, cE, cF, dj, j3, j4, j5, j6, j7, j8, qU, j9, jA, jB, jC, jD, uf, nm, seval]
       exact ⟨List.length jo, qZc _, by rw [kf]; refine ⟨jo, an + 1, aW, bn, .ref oP 0 (List.length bn) 4 (List.length bn), rfl, Int.le_trans dP (Int.le_add_one (qZf _)), bY dP fQ, rfl, (show fP + 6 ≤ cJ + 3 by omega), ?_, ?_, ?_, ?_, ?_, cj, ck, cl, cm, cn, cF, ?_, Or.inl ⟨oP, fR, rfl, (by first | omega | (simp only [nm, seval]; done) | (simp only [nm, seval]; omega)), (by first | omega | (intro hh; simp only [dR, gA, gB, gC, j8, j9, jA, jB, jC, jD, reduceCtorEq] at hh)), (by first | omega | (intro hh; simp only [dR, gA, gB, gC, j8, j9, jA, jB, jC, jD, reduceCtorEq] at hh)), (by first | omega | (intro hh; simp only [dR, gA, gB, gC, j8, j9, jA, jB, jC, jD, reduceCtorEq] at hh)), (by first | omega | (intro hh; simp only [dR, gA, gB, gC, j8, j9, jA, jB, jC, jD, reduceCtorEq] at hh)), (by first | omega | (intro hh; simp only [dR, gA, gB, gC, j8, j9, jA, jB, jC, jD, reduceCtorEq] at hh)), ?_⟩, (by first | exact h | (simp only [dR, eO, uf]; exact h))⟩ <;> first | (simp only [ua, bT, dR, eO, gA, gB, gC, cj, ck, cl, cm, cA, cB, cn, cC, cD, cE, cF, dj, j3, j4, j5, j6, j7, j8, qU, j9, jA, jB, jC, jD, uf, nm, seval] <;> rfl) | rfl⟩
      | cons d6 ff =>
       have z9 : (decide (aZ < (List.length bu.Signs : Int))) = true := fB cQ ep
       have ko := dU cQ ep
       have zA := fC cQ ep iA
       simp only [lX, hs, reduceCtorEq] at h
       obtain ⟨zB, kq, h⟩ := optI h jq
       try simp only [hs] at h
       cases qV : (zB.Word == an && (zB.Letters == (aZ + 1)))
       ·simp only [qV, hs] at h
        have gD := And.intro dR (And.intro eO (And.intro iA (And.intro gA (And.intro gB (And.intro gC (And.intro j3 (And.intro j4 (And.intro j5 (And.intro j6 (And.intro j7 (And.intro j8 (And.intro qU (And.intro j9 (And.intro jA (And.intro jB (And.intro jC (And.intro jD (And.intro z9 (And.intro zA qV)))))))))))))))))))
        cases lH : (aB 32 (List.length (bn ++ [(Glm.mk an d6 aW false)])))
        ·simp only [lH, hs] at h
         exact absurd h jq
        simp only [lH, hs] at h
        simp only [vz, mq, mqm, tyf, mqt, gD, (aE dZ), cj, ck, cl, cm, cA, cB, cn, cC, cD, cE, cF, dj, (aC ko), (bk kq), lH, nm, seval]
        refine k_app (w := 4) (enc := cGlm) (xs := bn) (ys := ([(Glm.mk an d6 aW false)])) (el := fR) (fz := (some 144)) (fun _ => rfl) km kn Tryz.underlying91 (by first | rfl | assumption | (simp only [bl, bI, gw, gD, nm, seval] <;> rfl) | (simp only [bl, bI, eY, eQ, eW, eX, tyf, mqt, gD, (aE dZ), cj, ck, cl, cm, cA, cB, cn, cC, cD, cE, cF, dj, (aC ko), (bk kq), lH, nm, seval]; done)) (by first | rfl | assumption | (simp only [bl, bI, gw, gD, nm, seval] <;> rfl) | (simp only [bl, bI, eY, eQ, eW, eX, tyf, mqt, gD, (aE dZ), cj, ck, cl, cm, cA, cB, cn, cC, cD, cE, cF, dj, (aC ko), (bk kq), lH, nm, seval]; done)) (Nat.zero_lt_succ _) lH ?_
        simp only [vz, mq, mqm, tyf, mqt, gD, (aE dZ), cj, ck, cl, cm, cA, cB, cn, cC, cD, cE, cF, dj, (aC ko), (bk kq), lH, nm, seval]
        exact ⟨List.length ff, qZc _, by rw [jr]; refine ⟨ff, aZ + 1, aW, (bn ++ [(Glm.mk an d6 aW false)]), .ref (cJ + 31) 0 (List.length (bn ++ [(Glm.mk an d6 aW false)])) 4 (List.length (bn ++ [(Glm.mk an d6 aW false)])), rfl, Int.le_trans cQ (Int.le_add_one (qZf _)), bY cQ ep, rfl, (show dO + 23 ≤ cJ + 37 by omega), ?_, ?_, ?_, ?_, ?_, cj, ck, cl, cm, cA, cB, cn, cC, cD, cE, cF, ?_, Or.inl ⟨cJ + 31, (sameEl fR 144), rfl, (by first | omega | (simp only [nm, seval]; done) | (simp only [nm, seval]; omega)), (by first | omega | (intro hh; simp only [gD, reduceCtorEq] at hh)), (by first | omega | (intro hh; simp only [gD, reduceCtorEq] at hh)), (by first | omega | (intro hh; simp only [gD, reduceCtorEq] at hh)), (by first | omega | (intro hh; simp only [gD, reduceCtorEq] at hh)), (by first | omega | (intro hh; simp only [gD, reduceCtorEq] at hh)), ?_⟩, (by first | exact h | (simp only [gD]; exact h))⟩ <;> first | (simp only [ua, bT, gD, cj, ck, cl, cm, cA, cB, cn, cC, cD, cE, cF, dj, nm, seval] <;> rfl) | rfl⟩
       simp only [qV, hs] at h
       have gE := And.intro dR (And.intro eO (And.intro iA (And.intro gA (And.intro gB (And.intro gC (And.intro j3 (And.intro j4 (And.intro j5 (And.intro j6 (And.intro j7 (And.intro j8 (And.intro qU (And.intro j9 (And.intro jA (And.intro jB (And.intro jC (And.intro jD (And.intro z9 (And.intro zA qV)))))))))))))))))))
       cases lI : (aB 32 (List.length (bn ++ [(Glm.mk an d6 aW (decide ((aZ + 1) < (List.length bu.Signs : Int))))])))
       ·simp only [lI, hs] at h
        exact absurd h jq
       simp only [lI, hs] at h
       simp only [vz, mq, mqm, tyf, mqt, gE, (aE dZ), cj, ck, cl, cm, cA, cB, cn, cC, cD, cE, cF, dj, (aC ko), (bk kq), lI, nm, seval]
       refine k_app (w := 4) (enc := cGlm) (xs := bn) (ys := ([(Glm.mk an d6 aW (decide ((aZ + 1) < (List.length bu.Signs : Int))))])) (el := fR) (fz := (some 144)) (fun _ => rfl) km kn Tryz.underlying91 (by first | rfl | assumption | (simp only [bl, bI, gw, gE, nm, seval] <;> rfl) | (simp only [bl, bI, eY, eQ, eW, eX, tyf, mqt, gE, (aE dZ), cj, ck, cl, cm, cA, cB, cn, cC, cD, cE, cF, dj, (aC ko), (bk kq), lI, nm, seval]; done)) (by first | rfl | assumption | (simp only [bl, bI, gw, gE, nm, seval] <;> rfl) | (simp only [bl, bI, eY, eQ, eW, eX, tyf, mqt, gE, (aE dZ), cj, ck, cl, cm, cA, cB, cn, cC, cD, cE, cF, dj, (aC ko), (bk kq), lI, nm, seval]; done)) (Nat.zero_lt_succ _) lI ?_
       simp only [vz, mq, mqm, tyf, mqt, gE, (aE dZ), cj, ck, cl, cm, cA, cB, cn, cC, cD, cE, cF, dj, (aC ko), (bk kq), lI, nm, seval]
       exact ⟨List.length ff, qZc _, by rw [jr]; refine ⟨ff, aZ + 1, i64.wrap (aW + 1), (bn ++ [(Glm.mk an d6 aW (decide ((aZ + 1) < (List.length bu.Signs : Int))))]), .ref (cJ + 31) 0 (List.length (bn ++ [(Glm.mk an d6 aW (decide ((aZ + 1) < (List.length bu.Signs : Int))))])) 4 (List.length (bn ++ [(Glm.mk an d6 aW (decide ((aZ + 1) < (List.length bu.Signs : Int))))])), rfl, Int.le_trans cQ (Int.le_add_one (qZf _)), bY cQ ep, rfl, (show dO + 23 ≤ cJ + 40 by omega), ?_, ?_, ?_, ?_, ?_, cj, ck, cl, cm, cA, cB, cn, cC, cD, cE, ?_, ?_, Or.inl ⟨cJ + 31, (sameEl fR 144), rfl, (by first | omega | (simp only [nm, seval]; done) | (simp only [nm, seval]; omega)), (by first | omega | (intro hh; simp only [gE, reduceCtorEq] at hh)), (by first | omega | (intro hh; simp only [gE, reduceCtorEq] at hh)), (by first | omega | (intro hh; simp only [gE, reduceCtorEq] at hh)), (by first | omega | (intro hh; simp only [gE, reduceCtorEq] at hh)), (by first | omega | (intro hh; simp only [gE, reduceCtorEq] at hh)), ?_⟩, (by first | exact h | (simp only [gE]; exact h))⟩ <;> first | (simp only [ua, bT, gE, cj, ck, cl, cm, cA, cB, cn, cC, cD, cE, cF, dj, nm, seval] <;> rfl) | rfl⟩
     ·cases ff with
      | nil =>
       have ug : (decide (aZ < (List.length bu.Signs : Int))) = false := fA cQ ep
       simp only [lX, hs, reduceCtorEq] at h
       replace h := sd _ h
       try dsimp only at h
       try simp only [hs] at h
       simp only [vz, mq, mqm, tyf, mqt, dR, (aE dZ), eO, iA, gA, gB, gC, cj, ck, cl, cm, cA, cB, cn, cC, cD, cE, cF, dj, j3, j4, j5, j6, j7, ug, nm, seval]
       exact ⟨List.length jo, qZc _, by rw [kf]; refine ⟨jo, an + 1, aW, ([] : List Glm), .lit (.slice none 0 0), rfl, Int.le_trans dP (Int.le_add_one (qZf _)), bY dP fQ, rfl, (show fP + 6 ≤ cJ + 3 by omega), ?_, ?_, ?_, ?_, ?_, cj, ck, cl, cm, cn, cF, ?_, Or.inr ⟨rfl, rfl⟩, (by first | exact h | (simp only [dR, eO, ug]; exact h))⟩ <;> first | (simp only [ua, bT, dR, eO, gA, gB, gC, cj, ck, cl, cm, cA, cB, cn, cC, cD, cE, cF, dj, j3, j4, j5, j6, j7, ug, nm, seval] <;> rfl) | rfl⟩
      | cons d6 ff =>
       have zC : (decide (aZ < (List.length bu.Signs : Int))) = true := fB cQ ep
       have nk := dU cQ ep
       have zD := fC cQ ep iA
       simp only [lX, hs, reduceCtorEq] at h
       obtain ⟨zE, nn, h⟩ := optI h jq
       try simp only [hs] at h
       cases qW : (zE.Word == an && (zE.Letters == (aZ + 1)))
       ·simp only [qW, hs] at h
        have iB := And.intro dR (And.intro eO (And.intro iA (And.intro gA (And.intro gB (And.intro gC (And.intro j3 (And.intro j4 (And.intro j5 (And.intro j6 (And.intro j7 (And.intro zC (And.intro zD qW))))))))))))
        cases np : (aB 32 (List.length (([] : List Glm) ++ [(Glm.mk an d6 aW false)])))
        ·simp only [np, hs] at h
         exact absurd h jq
        simp only [np, hs] at h
        simp only [vz, mq, mqm, tyf, mqt, iB, (aE dZ), cj, ck, cl, cm, cA, cB, cn, cC, cD, cE, cF, dj, (aC nk), (bk nn), np, nm, seval]
        refine nE (w := 4) (enc := cGlm) (ys := ([(Glm.mk an d6 aW false)])) (fz := (some 144)) (fun _ => rfl) km kn Tryz.underlying91 (by first | rfl | assumption | (simp only [bl, bI, gw, iB, nm, seval] <;> rfl) | (simp only [bl, bI, eY, eQ, eW, eX, tyf, mqt, iB, (aE dZ), cj, ck, cl, cm, cA, cB, cn, cC, cD, cE, cF, dj, (aC nk), (bk nn), np, nm, seval]; done)) (Nat.zero_lt_succ _) np ?_
        simp only [vz, mq, mqm, tyf, mqt, iB, (aE dZ), cj, ck, cl, cm, cA, cB, cn, cC, cD, cE, cF, dj, (aC nk), (bk nn), np, nm, seval]
        exact ⟨List.length ff, qZc _, by rw [jr]; refine ⟨ff, aZ + 1, aW, (([] : List Glm) ++ [(Glm.mk an d6 aW false)]), .ref (cJ + 31) 0 (List.length (([] : List Glm) ++ [(Glm.mk an d6 aW false)])) 4 (List.length (([] : List Glm) ++ [(Glm.mk an d6 aW false)])), rfl, Int.le_trans cQ (Int.le_add_one (qZf _)), bY cQ ep, rfl, (show dO + 23 ≤ cJ + 37 by omega), ?_, ?_, ?_, ?_, ?_, cj, ck, cl, cm, cA, cB, cn, cC, cD, cE, cF, ?_, Or.inl ⟨cJ + 31, (some 144), rfl, (by first | omega | (simp only [nm, seval]; done) | (simp only [nm, seval]; omega)), (by first | omega | (intro hh; simp only [iB, reduceCtorEq] at hh)), (by first | omega | (intro hh; simp only [iB, reduceCtorEq] at hh)), (by first | omega | (intro hh; simp only [iB, reduceCtorEq] at hh)), (by first | omega | (intro hh; simp only [iB, reduceCtorEq] at hh)), (by first | omega | (intro hh; simp only [iB, reduceCtorEq] at hh)), ?_⟩, (by first | exact h | (simp only [iB]; exact h))⟩ <;> first | (simp only [ua, bT, iB, cj, ck, cl, cm, cA, cB, cn, cC, cD, cE, cF, dj, nm, seval] <;> rfl) | rfl⟩
       simp only [qW, hs] at h
       have iC := And.intro dR (And.intro eO (And.intro iA (And.intro gA (And.intro gB (And.intro gC (And.intro j3 (And.intro j4 (And.intro j5 (And.intro j6 (And.intro j7 (And.intro zC (And.intro zD qW))))))))))))
       cases nq : (aB 32 (List.length (([] : List Glm) ++ [(Glm.mk an d6 aW (decide ((aZ + 1) < (List.length bu.Signs : Int))))])))
       ·simp only [nq, hs] at h
        exact absurd h jq
       simp only [nq, hs] at h
       simp only [vz, mq, mqm, tyf, mqt, iC, (aE dZ), cj, ck, cl, cm, cA, cB, cn, cC, cD, cE, cF, dj, (aC nk), (bk nn), nq, nm, seval]
       refine nE (w := 4) (enc := cGlm) (ys := ([(Glm.mk an d6 aW (decide ((aZ + 1) < (List.length bu.Signs : Int))))])) (fz := (some 144)) (fun _ => rfl) km kn Tryz.underlying91 (by first | rfl | assumption | (simp only [bl, bI, gw, iC, nm, seval] <;> rfl) | (simp only [bl, bI, eY, eQ, eW, eX, tyf, mqt, iC, (aE dZ), cj, ck, cl, cm, cA, cB, cn, cC, cD, cE, cF, dj, (aC nk), (bk nn), nq, nm, seval]; done)) (Nat.zero_lt_succ _) nq ?_
       simp only [vz, mq, mqm, tyf, mqt, iC, (aE dZ), cj, ck, cl, cm, cA, cB, cn, cC, cD, cE, cF, dj, (aC nk), (bk nn), nq, nm, seval]
       exact ⟨List.length ff, qZc _, by rw [jr]; refine ⟨ff, aZ + 1, i64.wrap (aW + 1), (([] : List Glm) ++ [(Glm.mk an d6 aW (decide ((aZ + 1) < (List.length bu.Signs : Int))))]), .ref (cJ + 31) 0 (List.length (([] : List Glm) ++ [(Glm.mk an d6 aW (decide ((aZ + 1) < (List.length bu.Signs : Int))))])) 4 (List.length (([] : List Glm) ++ [(Glm.mk an d6 aW (decide ((aZ + 1) < (List.length bu.Signs : Int))))])), rfl, Int.le_trans cQ (Int.le_add_one (qZf _)), bY cQ ep, rfl, (show dO + 23 ≤ cJ + 40 by omega), ?_, ?_, ?_, ?_, ?_, cj, ck, cl, cm, cA, cB, cn, cC, cD, cE, ?_, ?_, Or.inl ⟨cJ + 31, (some 144), rfl, (by first | omega | (simp only [nm, seval]; done) | (simp only [nm, seval]; omega)), (by first | omega | (intro hh; simp only [iC, reduceCtorEq] at hh)), (by first | omega | (intro hh; simp only [iC, reduceCtorEq] at hh)), (by first | omega | (intro hh; simp only [iC, reduceCtorEq] at hh)), (by first | omega | (intro hh; simp only [iC, reduceCtorEq] at hh)), (by first | omega | (intro hh; simp only [iC, reduceCtorEq] at hh)), ?_⟩, (by first | exact h | (simp only [iC]; exact h))⟩ <;> first | (simp only [ua, bT, iC, cj, ck, cl, cm, cA, cB, cn, cC, cD, cE, cF, dj, nm, seval] <;> rfl) | rfl⟩
    simp only [eO, hs] at h
    simp only [vz, mq, mqm, tyf, mqt, dR, (aE dZ), nd, nf, ng, nh, ni, oN, nj, oO, qT, eO, nm, seval]
    exact ⟨List.length jo, qZc _, by rw [kf]; refine ⟨jo, an + 1, dX, ([] : List Glm), .lit (.slice none 0 0), rfl, Int.le_trans dP (Int.le_add_one (qZf _)), bY dP fQ, rfl, (show fP + 6 ≤ dO + 9 by omega), ?_, ?_, ?_, ?_, ?_, nd, nf, ng, nh, nj, ni, ?_, Or.inr ⟨rfl, rfl⟩, (by first | exact h | (simp only [dR, eO]; exact h))⟩ <;> first | (simp only [ua, bT, dR, nd, nf, ng, nh, ni, oN, nj, oO, qT, eO, nm, seval] <;> rfl) | rfl⟩
 | cons bS sb =>
  have uh : (decide (eK < (List.length ag.Pairs : Int))) = true := fB mM oH
  have KT := dU mM oH
  have zF := fC mM oH kR
  simp only [vF, hs, reduceCtorEq] at h
  have ui := fun H => Kt (β := 6) eM (Glp.mk bS.Left bS.Right) bS.Space H
  try simp only [bT] at ui
  simp only [vz, mq, mqm, tyf, mqt, kR, iq, ed, dK, eR, dV, dW, dT, eZ, mG, lV, zm, zn, m8, uh, (bU KT), zF, ui, nm, seval]
  exact ⟨List.length sb, qZc _, by rw [tX]; refine ⟨sb, eK + 1, (mapSet dg eM (Glp.mk bS.Left bS.Right) bS.Space), rfl, Int.le_trans mM (Int.le_add_one (qZf _)), bY mM oH, rfl, (show 14 ≤ fP + 17 by omega), ?_, ?_, ?_, ?_, ?_, ed, dK, eR, dV, dW, dT, ?_, (by first | exact h | (simp only [uh]; exact h))⟩ <;> first | (simp only [ua, bT, iq, ed, dK, eR, dV, dW, dT, eZ, mG, lV, zm, zn, m8, uh, zF, ui, nm, seval] <;> rfl) | rfl⟩
end Go.V
end
section
namespace Go.V
open Go Go.Proofs IntKind
section
variable {K V : Type} {q : K → K → Bool} {z : V}
def getR (q : K → K → Bool) (z : V) (k : K) : List (K × V) → V
 | [] => z
 | e :: l => if q k e.1 then e.2 else getR q z k l
def setR (q : K → K → Bool) (k : K) (v : V) : List (K × V) → List (K × V)
 | [] => [(k, v)]
 | e :: l => if q k e.1 then (k, v) :: l else e :: setR q k v l
theorem BC (k : K) : ∀ (es : List K) (i : Nat), kIdx q k es (i + 1) = (kIdx q k es i).map (· + 1)
 | [], _ => rfl
 | e :: es, i => by
  unfold kIdx
  cases q k e with
  | true => rfl
  | false => exact BC k es (i + 1)
theorem KU (k : K) : ∀ l : List (K × V), mapGet q z l k = getR q z k l
 | [] => rfl
 | e :: l => by
  have ih := KU k l
  unfold mapGet at ih ⊢
  rw [List.map_cons]
  unfold kIdx getR
  cases hq : q k e.1 with
  | true => rfl
  | false =>
   simp only [cond_false, Bool.false_eq_true, if_false]
   rw [BC]
   cases h : kIdx q k (l.map (·.1)) 0 with
   | none => rw [h] at ih; exact ih
   | some i => rw [h] at ih; simpa using ih
theorem BE (k : K) (v : V) : ∀ l : List (K × V), mapSet q l k v = setR q k v l
 | [] => rfl
 | e :: l => by
  have ih := BE k v l
  unfold mapSet at ih ⊢
  rw [List.map_cons]
  unfold kIdx setR
  cases hq : q k e.1 with
  | true => rfl
  | false =>
   simp only [cond_false, Bool.false_eq_true, if_false]
   rw [BC]
   cases h : kIdx q k (l.map (·.1)) 0 with
   | none => rw [h] at ih; simpa using ih
   | some i => rw [h] at ih; simpa using ih
theorem Rc (hq : ∀ a b, q a b = true ↔ a = b) (k k' : K) (v : V) : ∀ l : List (K × V), getR q z k' (setR q k v l) = if q k' k then v else getR q z k' l
 | [] => rfl
 | e :: l => by
  have ih := Rc hq k k' v l
  unfold setR
  cases he : q k e.1 with
  | true =>
   have e1 := (hq _ _).1 he
   simp only [if_true, getR, ← e1]
   split <;> rfl
  | false =>
   simp only [Bool.false_eq_true, if_false, getR, ih]
   cases h1 : q k' e.1 with
   | true =>
    have e1 := (hq _ _).1 h1
    have : q k' k = false := by
     cases h2 : q k' k with
     | false => rfl
     | true =>
      have e2 := (hq _ _).1 h2
      rw [e2] at e1
      rw [e1, (hq _ _).2 rfl] at he
      cases he
    rw [this]
    simp
   | false => simp
theorem Ir (hq : ∀ a b, q a b = true ↔ a = b) (k k' : K) (v : V) (l : List (K × V)) : mapGet q z (mapSet q l k v) k' = if q k' k then v else mapGet q z l k' := by
 rw [KU, KU, BE, Rc hq]
end
end Go.V
end
