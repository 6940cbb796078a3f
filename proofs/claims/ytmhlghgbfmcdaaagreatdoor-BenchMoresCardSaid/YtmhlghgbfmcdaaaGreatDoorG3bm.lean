/- Part of a proof. -/
import Derived.Test.YtmhlghgbfmcdaaaGreatDoorG3bl
set_option linter.all false
set_option maxRecDepth 4000
set_option maxHeartbeats 40000000
section
namespace Go.V
open Go Go.Proofs IntKind
def mfB (b : GBk) (pl : List Int) (ch : List Int) (s : Nat) : Bool := match ch.getLast? with
 | none => BB b pl 1 s == 0
 | some a => (BB b pl 1 s == EE b pl 1 a.toNat) && (decide (a ∈ nF b s) || hF pl s == hF pl a.toNat)
structure ChOk (b : GBk) (ch : List Int) (k : Nat) : Prop where
 st : ∀ x ∈ ch, 0 ≤ x ∧ x.toNat < b.Strokes.length
 e : ch = [] → b.Strokes.length + 1 ≤ k
 l : ∀ a, ch.getLast? = some a → b.Strokes.length ≤ a.toNat + k
 n : ch.length ≤ 100
theorem ChOk.pos {b : GBk} {ch : List Int} {k : Nat} (h : ChOk b ch k) : 0 < k := by
 cases hl : ch.getLast? with
 | none => have := h.e (List.getLast?_eq_none_iff.1 hl); omega
 | some a =>
  have h1 := h.l a hl
  have h2 := h.st a (List.mem_of_getLast? hl)
  omega
theorem mf_lt {b : GBk} (hb : BH b) (hd : ∀ s, s < b.Strokes.length → 1 ≤ dF b 1 s) {pl ch : List Int} {a : Int} (ha : ch.getLast? = some a) (h0 : 0 ≤ a) (h1 : a.toNat < b.Strokes.length) {s : Nat} (hs : s < b.Strokes.length) (h : mfB b pl ch s = true) : a.toNat < s := by
 unfold mfB at h
 rw [ha] at h
 simp only [Bool.and_eq_true, beq_iff_eq, Bool.or_eq_true, decide_eq_true_eq] at h
 obtain ⟨hE, hw⟩ := h
 rcases hw with hw | hw
 ·exact (hb.nd s a hw).2
 ·refine Nat.lt_of_not_le fun hle => ?_
  have e1 := EE_eq hb pl 1 a.toNat
  have e2 := EE_eq hb pl 1 s
  have d1 := hd a.toNat h1
  have d2 := hd s hs
  by_cases e : s = a.toNat
  ·subst e; omega
  ·have : EE b pl 1 s ≤ BB b pl 1 a.toNat := tM hb.nd (fun k => (hb.d 1 k).1) (by omega) hw
   omega
theorem ChOk.next {b : GBk} (hb : BH b) (hd : ∀ s, s < b.Strokes.length → 1 ≤ dF b 1 s) {pl ch : List Int} {k : Nat} (h : ChOk b ch (k + 1)) (hn : ch.length ≤ 50) {s : Nat} (hs : s < b.Strokes.length) (hm : mfB b pl ch s = true) : ChOk b (ch ++ [(s : Int)]) k := by
 refine ⟨fun x hx => ?_, fun e => by simp at e, fun a ha => ?_, by simp; omega⟩
 ·rcases List.mem_append.1 hx with hx | hx
  ·exact h.st x hx
  ·rw [List.mem_singleton.1 hx]; omega
 ·rw [List.getLast?_concat] at ha
  cases ha
  cases hg : ch.getLast? with
  | none => have := h.e (List.getLast?_eq_none_iff.1 hg); simp; omega
  | some a =>
   have ha := h.st a (List.mem_of_getLast? hg)
   have h1 := h.l a hg
   have h2 := mf_lt hb hd hg ha.1 ha.2 hs hm
   simp; omega
end Go.V
end
section
namespace Go.V
open Go Go.Proofs IntKind
def mkOk (b : Nat) (n : Int) : Bool := decide (0 ≤ n) && aE b n.toNat
theorem G5 {b : Nat} {n : Int} : mkOk b n = true ↔ 0 ≤ n ∧ n.toNat * b ≤ 140737488355328 := by
 unfold mkOk aE
 rw [Bool.and_eq_true, decide_eq_true_eq, decide_eq_true_eq]
theorem GZ {v : Value} (n : Nat) : vzeros #[v] n = List.replicate n (ofVal1 v) := by
 unfold vzeros
 rw [List.eq_replicate_iff]
 refine ⟨by simp, fun x hx => ?_⟩
 obtain ⟨i, _, rfl⟩ := List.mem_map.1 hx
 have : i % (#[v] : Array Value).size = 0 := by simp [Nat.mod_one]
 rw [this]
 rfl
theorem MB {α : Type} {enc : α → List VV} {z : α} {x : VV} (h : enc z = [x]) : ∀ n : Nat, ae enc (List.replicate n z) = List.replicate n x
 | 0 => rfl
 | n + 1 => by rw [List.replicate_succ, List.replicate_succ, fq, h, MB h n]; rfl
section
variable {P : Program} {G : Glob} {γ : Nat} {tm : Nat → VV} {H : Nat → Option VObj} {α : Type} {enc : α → List VV} {z : α} {t e b : Nat} {n : Int} {v : Value} {x y : Operand} {d : Option Tmp} {ty : TypeId} {pos : String} {af : Array Edge} {g : Option (Nat × Bool)} {k : VV → VEff → Prop}
theorem k_mkS (ha : appOk P t = some (e, 1, b)) (hz : vzero P e = some #[v]) (hzv : enc z = [ofVal1 v]) (hx : ev G tm x = .lit (.int .i64 n)) (hy : ev G tm y = .lit (.int .i64 n)) (hg : mkOk b n = true)
  (h : k (.ref γ 0 (List.replicate n.toNat z).length 1 (List.replicate n.toNat z).length) (.new (.cells (some e) (ae enc (List.replicate n.toNat z))))) : oeK (vop P ⟨d, .makeSlice t x y, ty, pos, af, g⟩ (ev G tm) H γ) k := by
 obtain ⟨hu, inf, zz, hi, hzz, hs, hb, eE, iA, hzs⟩ := nK ha
 obtain ⟨h0, h1⟩ := G5.1 hg
 have hzc : zz.cells = #[v] := by
  unfold vzero at hz
  rw [hi] at hz
  simp only [Option.bind_some, hzz, Option.map_some, Option.some.injEq] at hz
  exact hz
 have hk : vmakeSlice P t (.lit (.int .i64 n)) (.lit (.int .i64 n)) = some (List.replicate n.toNat (ofVal1 v), n.toNat, 1) := by
  have h2 : (inf.bytes : Int) * n ≤ 140737488355328 := by
   rw [hb]
   have h3 : ((n.toNat * b : Nat) : Int) ≤ ((140737488355328 : Nat) : Int) := Int.ofNat_le.2 h1
   rw [Int.natCast_mul, Int.toNat_of_nonneg h0, Int.mul_comm] at h3
   exact h3
  have hb0' : 0 < inf.bytes := by rw [hb]; exact iA
  unfold vmakeSlice
  rw [hu]
  simp only [hi, hzz]
  rw [hs, hzc, if_pos ⟨h0, Int.le_refl _, Nat.zero_lt_one, hb0', h2, rfl⟩, Nat.mul_one, GZ]
 have he : elemT P t = some e := by simp [elemT, hu]
 rw [MB hzv, List.length_replicate] at h
 simp only [vop, hx, hy, hk, Option.map_some, he]
 exact h
end
end Go.V
end
section
namespace Go.V
open Go Go.Proofs IntKind
def Ghost (st st' : St) : Prop := (∀ β o', st'.H β = some o' → ∃ o, st.H β = some o ∧ FrozenO st.H st'.H o o') ∧ (∀ β, isDef st.H β → isDef st'.H β) ∧
 (∀ t, Frozen st.H st'.H (st.tm t) (st'.tm t)) ∧ st'.nx = st.nx ∧ st'.df = st.df
theorem Ghost.rep {G : Glob} {c : Ctx} {W : World} {st st' : St} {a : Act} (g : Ghost st st') (s : Sim c W) (hr : StRep G c W st a) :
  Ext c W (c.frz st'.H) W ∧ Sim (c.frz st'.H) W ∧ StRep G (c.frz st'.H) W st' a := by
 obtain ⟨ho, hdd, htm, hnx, hdf⟩ := g
 have ho' : ∀ β o', st'.H β = some o' → ∃ o, c.H β = some o ∧ FrozenO c.H st'.H o o' := by rw [hr.H]; exact ho
 have hl : ∀ β, (st'.H β).isSome = true → c.live β := by
  intro β h
  obtain ⟨o', h'⟩ := Option.isSome_iff_exists.1 h
  obtain ⟨o, h1, _⟩ := ho' β o' h'
  simp [Ctx.live, h1]
 have he : Ext c W (c.frz st'.H) W := xH hl
 have ab : Abides c W (c.frz st'.H) W := rS hl
 have hloop : ∀ x s pe tm ps asg bo df, st'.H x = some (.loop s pe tm ps asg bo df) → isDef st'.H df := by
  intro x s1 pe tm ps asg bo df hx
  obtain ⟨o, h1, hf⟩ := ho x _ hx
  rcases hf with rfl | ⟨el, cs, cs', rfl, e, _⟩
  ·obtain ⟨l, fn, _, _, _, hd⟩ := s.obj x _ (show c.H x = _ by rw [hr.H]; exact h1)
   exact hdd df (by rw [← hr.H]; exact hd)
  ·cases e
 refine ⟨he, s.frz ho' hloop, rfl, fun t => He s hl (by rw [hr.H]; exact htm t) (hr.tm t), ?_, ?_, hr.G.abides ab⟩
 ·rw [hnx]; exact hr.nx
 ·rw [hdf]; exact hr.df.abides ab
theorem VWp.ghost {P : Program} {G : Glob} {n : Nat} {code : Code} {Q : VExit → St → Prop} {st : St} (h : VWp P G n code (fun e s => ∃ s', Ghost s s' ∧ Q e s') st) : VWp P G n code Q st := by
 intro ro c W a hro s hr hsz
 refine wpIn_mono (h ro c W a hro s hr hsz) ?_
 rintro e a' W' ⟨ve, c', st', he, hext, hs', hr', hsz', hu, hle, s2, g, hq⟩
 obtain ⟨e2, h2, r2⟩ := g.rep hs' hr'
 refine ⟨ve, c'.frz s2.H, s2, ?_, hext.trans e2, h2, r2, hsz', fun β hb => hu β hb, by rw [g.2.2.2.1]; exact hle, hq⟩
 cases ve with
 | panic x =>
  obtain ⟨v, e1, hv⟩ := he
  exact ⟨v, e1, Rep.abides (e2.abides hs') _ hv⟩
 | normal => exact he
 | exit id => exact he
 | goto l => exact he
 | ret => exact he
theorem Ghost.refl (st : St) : Ghost st st := ⟨fun β o' h => ⟨o', h, .inl rfl⟩, fun _ h => h, fun _ => .inl rfl, rfl, rfl⟩
theorem FrozenL.snoc {H H' : Nat → Option VObj} {x y : VV} (h : Frozen H H' x y) : ∀ (cs : List VV), FrozenL H H' (cs ++ [x]) (cs ++ [y])
 | [] => ⟨h, trivial⟩
 | c :: cs => ⟨.inl rfl, FrozenL.snoc h cs⟩
theorem Ghost.snoc {tm : Nat → VV} {H : Nat → Option VObj} {nx : Nat} {df : List VDef} {γ ε n w cp : Nat} {e1 e2 : Option TypeId} {cs ys : List VV} (hγ : H γ = some (.cells e1 ys)) (hε : H ε = some (.cells e2 (cs ++ [.ref γ 0 n w cp]))) (hne : ε ≠ γ) (ht : treeL ys = true) (hl : ys.length = n * w) :
  Ghost ⟨tm, H, nx, df⟩ ⟨tm, updH (without H γ) ε (.cells e2 (cs ++ [.sl ys n false])), nx, df⟩ := by
 have hg : gone H (updH (without H γ) ε (.cells e2 (cs ++ [.sl ys n false]))) γ = some (.cells e1 ys) := by
  unfold gone
  rw [aK, if_neg (Ne.symm hne)]
  simp [without, hγ]
 have hfz : Frozen H (updH (without H γ) ε (.cells e2 (cs ++ [.sl ys n false]))) (.ref γ 0 n w cp) (.sl ys n false) := by
  refine .inr (.inr ⟨ys.length + 2, ?_⟩)
  unfold sealV
  have : (VV.ref γ 0 n w cp).tree = false := rfl
  rw [this]
  simp only [Bool.false_eq_true, if_false, hg, Nat.zero_le, if_true, List.drop_zero]
  rw [List.take_of_length_le (by omega), mG ys _ ht (by omega)]
  rfl
 refine ⟨?_, ?_, fun _ => .inl rfl, rfl, rfl⟩
 ·intro β o' h
  simp only [aK] at h
  by_cases hb : β = ε
  ·subst hb
   rw [if_pos rfl] at h
   cases h
   exact ⟨_, hε, .inr ⟨e2, _, _, rfl, rfl, FrozenL.snoc hfz cs⟩⟩
  ·rw [if_neg hb] at h
   simp only [bk] at h
   split at h
   ·cases h
   ·exact ⟨o', h, .inl rfl⟩
 ·rintro β ⟨ds, h⟩
  refine ⟨ds, ?_⟩
  have h : H β = some (.deferred ds) := h
  show updH (without H γ) ε _ β = _
  have b1 : β ≠ ε := by rintro rfl; rw [hε] at h; cases h
  have b2 : β ≠ γ := by rintro rfl; rw [hγ] at h; cases h
  rw [aK, if_neg b1, bk, if_neg b2]
  exact h
section
variable {P : Program} {H : Nat → Option VObj} {γ : Nat} {k : VV → VEff → Prop} {t t2 e e2 β δ cx : Nat} {b : Nat} {el dE : Option TypeId} {cs : List VV} {y : VV}
theorem Hf (ha : appOk P t = some (e, 1, b)) (dz : P.underlying t2 = some (.slice e2)) (hb : H β = some (.cells el cs)) (hd : H δ = some (.cells dE [y])) (hy : y.leaf = true) (hr : aE b (cs.length + 1) = true)
  (h : k (.ref γ 0 (cs.length + 1) 1 (cs.length + 1)) (.mv β (sameEl el e) (cs ++ [y]))) : oeK (aS P H γ t t2 (.ref β 0 cs.length 1 cs.length) (.ref δ 0 1 1 cx)) k := by
 obtain ⟨hu, inf, z, hi, hz, jK, rfl, eE, iA, hzs⟩ := nK ha
 have hr' : (cs.length + 1) * inf.bytes ≤ 140737488355328 := by simpa [aE] using hr
 have key : aS P H γ t t2 (.ref β 0 cs.length 1 cs.length) (.ref δ 0 1 1 cx) = some (.ref γ 0 (cs.length + 1) 1 (cs.length + 1), .mv β (sameEl el e) (cs ++ [y])) := by
  simp only [aS, nilS, vappend1, hu, dz, hi, hz, srcV, sls, hd, Nat.zero_le, if_true, List.drop_zero, eE, iA, hzs, hb]
  simp [jK, hy, hr']
 rw [key]
 exact h
theorem vr (ha : appOk P t = some (e, 1, b)) (dz : P.underlying t2 = some (.slice e2)) (hd : H δ = some (.cells dE [y])) (hy : y.leaf = true) (hr : aE b 1 = true)
  (h : k (.ref γ 0 1 1 1) (.new (.cells (some e) [y]))) : oeK (aS P H γ t t2 (.lit (.slice none 0 0)) (.ref δ 0 1 1 cx)) k := by
 obtain ⟨hu, inf, z, hi, hz, jK, rfl, eE, iA, hzs⟩ := nK ha
 have hr' : inf.bytes ≤ 140737488355328 := by simpa [aE] using hr
 have key : aS P H γ t t2 (.lit (.slice none 0 0)) (.ref δ 0 1 1 cx) = some (.ref γ 0 1 1 1, .new (.cells (some e) [y])) := by
  simp only [aS, nilS, vappend1, hu, dz, hi, hz, srcV, sls, hd, Nat.zero_le, if_true, List.drop_zero, eE, iA, hzs]
  simp [jK, hy, hr']
 rw [key]
 exact h
end
theorem Ghost.snocL {tm : Nat → VV} {H : Nat → Option VObj} {nx : Nat} {df : List VDef} {γ ε cp : Nat} {e1 e2 : Option TypeId} {xs : List (List Int)} {ys : List Int} (hγ : H γ = some (.cells e1 (ae eI ys))) (hε : H ε = some (.cells e2 (ae (eSl eI) xs ++ [.ref γ 0 ys.length 1 cp]))) (hne : ε ≠ γ) :
  Ghost ⟨tm, H, nx, df⟩ ⟨tm, updH (without H γ) ε (.cells e2 (ae (eSl eI) (xs ++ [ys]))), nx, df⟩ := by
 rw [mK]
 exact Ghost.snoc hγ hε hne (eI_ok.treeL _) (eu (w := 1) (enc := eI) (fun _ => rfl) _)
section
variable {P : Program} {H : Nat → Option VObj} {γ : Nat} {k : VV → VEff → Prop} {t t2 e e2 β δ cx : Nat} {b : Nat} {el dE : Option TypeId} {y : VV} {α : Type} {enc : α → List VV} {xs : List α} {a : α}
theorem vq (he : ∀ x, (enc x).length = 1) (ha : appOk P t = some (e, 1, b)) (dz : P.underlying t2 = some (.slice e2)) (hb : H β = some (.cells el (ae enc xs))) (hd : H δ = some (.cells dE [y])) (hy : y.leaf = true) (hr : aE b (xs ++ [a]).length = true)
  (h : k (.ref γ 0 (xs ++ [a]).length 1 (xs ++ [a]).length) (.mv β (sameEl el e) (ae enc xs ++ [y]))) : oeK (aS P H γ t t2 (.ref β 0 xs.length 1 xs.length) (.ref δ 0 1 1 cx)) k := by
 have hl : (ae enc xs).length = xs.length := by rw [eu he]; omega
 have h2 : (xs ++ [a]).length = (ae enc xs).length + 1 := by simp [hl]
 rw [← hl]
 rw [h2] at hr h
 exact Hf ha dz hb hd hy hr h
end
theorem loopKG {P : Program} {G : Glob} (hm : P.follows .mixedOrders = true) {n : Nat} {x : Code} {Q : VExit → St → Prop} {st : St} (ho : codeOk n x = true) (I : Nat → St → Prop) (m : Nat) (h0 : I m st)
  (round : ∀ m st, I m st → CWp P G n x (VExit.then (fun st' => ∃ m', m' < m ∧ ∃ s2, Ghost st' s2 ∧ I m' s2) Q) st) : CWp P G n (.loop x) Q st := by
 refine VWp.loop I h0 fun m st hI => ?_
 have h1 := iE hm x _ st ho (round m st hI)
 intro ro c W a hro s hr hsz
 refine wpIn_mono (h1 ro c W a hro s hr hsz) ?_
 rintro e a' W' ⟨ve, c', st', he, hext, hs', hr', hsz', hu, hle, hq⟩
 cases ve with
 | normal =>
  obtain ⟨m', hlt, s2, g, lu⟩ := hq
  obtain ⟨e2, h2, r2⟩ := g.rep hs' hr'
  exact ⟨.normal, c'.frz s2.H, s2, he, hext.trans e2, h2, r2, hsz', fun β hb => hu β hb, by rw [g.2.2.2.1]; exact hle, m', hlt, lu⟩
 | exit id => exact ⟨_, c', st', he, hext, hs', hr', hsz', hu, hle, hq⟩
 | goto l => exact ⟨_, c', st', he, hext, hs', hr', hsz', hu, hle, hq⟩
 | ret => exact ⟨_, c', st', he, hext, hs', hr', hsz', hu, hle, hq⟩
 | panic x => exact ⟨_, c', st', he, hext, hs', hr', hsz', hu, hle, hq⟩
end Go.V
end
section
namespace Go.V
open Go Go.Proofs IntKind
def Look (st st' : St) : Prop := st'.nx = st.nx ∧ ∀ (G : Glob) (c : Ctx) (W : World) (a : Act), Sim c W → StRep G c W st a → ∃ c', Ext c W c' W ∧ Sim c' W ∧ StRep G c' W st' a ∧ ∀ β, c'.used β → c.used β
theorem Look.trans {a b c : St} (h1 : Look a b) (h2 : Look b c) : Look a c := by
  refine ⟨h2.1.trans h1.1, fun G x W y s hr => ?_⟩
  obtain ⟨c1, e1, s1, r1, u1⟩ := h1.2 G x W y s hr
  obtain ⟨c2, e2, s2, r2, u2⟩ := h2.2 G c1 W y s1 r1
  exact ⟨c2, e1.trans e2, s2, r2, fun β hb => u1 β (u2 β hb)⟩
theorem Look.ghost {st st' : St} (g : Ghost st st') : Look st st' := by
  refine ⟨g.2.2.2.1, fun G c W a s hr => ?_⟩
  obtain ⟨e2, h2, r2⟩ := g.rep s hr
  exact ⟨c.frz st'.H, e2, h2, r2, fun β hb => hb⟩
theorem vv {c : Ctx} {W : World} {x y : VV} {Z : List VV} (h : ∀ v, Rep c W x v → Rep c W y v) : ∀ (A : List VV) (l : List Value), RepL c W (A ++ x :: Z) l → RepL c W (A ++ y :: Z) l
  | [], _, ⟨u, us, e, h1, h2⟩ => ⟨u, us, e, h _ h1, h2⟩
  | _ :: A, _, ⟨u, us, e, h1, h2⟩ => ⟨u, us, e, h1, vv h A us h2⟩
theorem Look.nil {tm : Nat → VV} {H : Nat → Option VObj} {nx : Nat} {df : List VDef} {β : Nat} {el : Option TypeId} {A Z : List VV} (hβ : H β = some (.cells el (A ++ .lit (.slice none 0 0) :: Z))) :
    Look ⟨tm, H, nx, df⟩ ⟨tm, updH H β (.cells el (A ++ .sl [] 0 false :: Z)), nx, df⟩ := by
  refine ⟨rfl, fun G c W a s hr => ?_⟩
  have hc : c.H β = some (.cells el (A ++ .lit (.slice none 0 0) :: Z)) := by rw [hr.H]; exact hβ
  have hl : c.live β := by simp [Ctx.live, hc]
  have he : Ext c W (c.upd β (.cells el (A ++ .sl [] 0 false :: Z))) W := Ext.upd hl (But.self W _)
  have ab := he.abides s
  have hs : Sim (c.upd β (.cells el (A ++ .sl [] 0 false :: Z))) W := by
    refine Sim.upd s hl (But.self W _) (fun ⟨ds, hd⟩ => by rw [hc] at hd; cases hd) ?_
    obtain ⟨arr, e, a1, a2, a3, a4, a5⟩ := s.obj β _ hc
    refine ⟨arr, e, a1, a2, by simpa using a3, ?_, a5⟩
    have hlen : (A ++ VV.lit (.slice none 0 0) :: Z).length = (A ++ VV.sl [] 0 false :: Z).length := by simp
    rw [hlen] at a4
    refine vv (x := .lit (.slice none 0 0)) (fun v hv => ?_) A _ (RepL.abides ab _ a4)
    have e : v = .slice none 0 0 := hv
    subst e
    exact ⟨none, 0, rfl, Nat.le_refl _, fun h => (by cases h), .inl rfl⟩
  refine ⟨_, he, hs, ⟨?_, fun t => Rep.abides ab _ (hr.tm t), hr.nx, hr.df.abides ab, hr.G.abides ab⟩, fun β hb => hb⟩
  show updH c.H β _ = _
  rw [hr.H]
theorem FrozenL.mid {H H' : Nat → Option VObj} {x y : VV} (h : Frozen H H' x y) (Z : List VV) : ∀ (cs : List VV), FrozenL H H' (cs ++ x :: Z) (cs ++ y :: Z)
  | [] => ⟨h, FrozenL.refl Z⟩
  | c :: cs => ⟨.inl rfl, FrozenL.mid h Z cs⟩
where
  FrozenL.refl : ∀ Z : List VV, FrozenL H H' Z Z
    | [] => trivial
    | _ :: Z => ⟨.inl rfl, FrozenL.refl Z⟩
theorem Ghost.mid {tm : Nat → VV} {H : Nat → Option VObj} {nx : Nat} {df : List VDef} {γ ε n w cp : Nat} {e1 e2 : Option TypeId} {cs ys Z : List VV} (hγ : H γ = some (.cells e1 ys)) (hε : H ε = some (.cells e2 (cs ++ .ref γ 0 n w cp :: Z))) (hne : ε ≠ γ) (ht : treeL ys = true) (hl : ys.length = n * w) :
    Ghost ⟨tm, H, nx, df⟩ ⟨tm, updH (without H γ) ε (.cells e2 (cs ++ .sl ys n false :: Z)), nx, df⟩ := by
  have hg : gone H (updH (without H γ) ε (.cells e2 (cs ++ .sl ys n false :: Z))) γ = some (.cells e1 ys) := by
    unfold gone
    rw [aK, if_neg (Ne.symm hne)]
    simp [without, hγ]
  have hfz : Frozen H (updH (without H γ) ε (.cells e2 (cs ++ .sl ys n false :: Z))) (.ref γ 0 n w cp) (.sl ys n false) := by
    refine .inr (.inr ⟨ys.length + 2, ?_⟩)
    unfold sealV
    have : (VV.ref γ 0 n w cp).tree = false := rfl
    rw [this]
    simp only [Bool.false_eq_true, if_false, hg, Nat.zero_le, if_true, List.drop_zero]
    rw [List.take_of_length_le (by omega), mG ys _ ht (by omega)]
    rfl
  refine ⟨?_, ?_, fun _ => .inl rfl, rfl, rfl⟩
  · intro β o' h
    simp only [aK] at h
    by_cases hb : β = ε
    · subst hb
      rw [if_pos rfl] at h
      cases h
      exact ⟨_, hε, .inr ⟨e2, _, _, rfl, rfl, FrozenL.mid hfz Z cs⟩⟩
    · rw [if_neg hb] at h
      simp only [bk] at h
      split at h
      · cases h
      · exact ⟨o', h, .inl rfl⟩
  · rintro β ⟨ds, h⟩
    refine ⟨ds, ?_⟩
    have h : H β = some (.deferred ds) := h
    show updH (without H γ) ε _ β = _
    have b1 : β ≠ ε := by rintro rfl; rw [hε] at h; cases h
    have b2 : β ≠ γ := by rintro rfl; rw [hγ] at h; cases h
    rw [aK, if_neg b1, bk, if_neg b2]
    exact h
theorem loopKL {P : Program} {G : Glob} (hm : P.follows .mixedOrders = true) {n : Nat} {x : Code} {Q : VExit → St → Prop} {st : St} (ho : codeOk n x = true) (I : Nat → St → Prop) (m : Nat) (h0 : I m st)
    (round : ∀ m st, I m st → CWp P G n x (VExit.then (fun st' => ∃ m', m' < m ∧ ∃ s2, Look st' s2 ∧ I m' s2) Q) st) : CWp P G n (.loop x) Q st := by
  refine VWp.loop I h0 fun m st hI => ?_
  have h1 := iE hm x _ st ho (round m st hI)
  intro ro c W a hro s hr hsz
  refine wpIn_mono (h1 ro c W a hro s hr hsz) ?_
  rintro e a' W' ⟨ve, c', st', he, hext, hs', hr', hsz', hu, hle, hq⟩
  cases ve with
  | normal =>
    obtain ⟨m', hlt, s2, g, lu⟩ := hq
    obtain ⟨c2, e2, h2, r2, u2⟩ := g.2 G c' W' a' hs' hr'
    exact ⟨.normal, c2, s2, he, hext.trans e2, h2, r2, hsz', fun β hb => hu β (u2 β hb), by rw [g.1]; exact hle, m', hlt, lu⟩
  | exit id => exact ⟨_, c', st', he, hext, hs', hr', hsz', hu, hle, hq⟩
  | goto l => exact ⟨_, c', st', he, hext, hs', hr', hsz', hu, hle, hq⟩
  | ret => exact ⟨_, c', st', he, hext, hs', hr', hsz', hu, hle, hq⟩
  | panic x => exact ⟨_, c', st', he, hext, hs', hr', hsz', hu, hle, hq⟩
def rF (dg : Int) : List Int → Int → Option (LOut (Bool) (Unit))
 | [], dj => some (.go ())
 | e0 :: p0, dj => cond (e0 == dg) (some (.ret true)) (rF dg p0 (dj + 1))
def vg (bI : List Int) (dg : Int) : Option (Bool) := cond (aO bI) (lbind (rF dg bI 0) (fun r2 => some r2) (fun c1 => some false) (fun _ _ => none)) none
theorem Rr (bI : List Int) (dg : Int) (R : Bool) (h : vg bI dg = some R) : ak Tryz.prog G0 35 [.sl (ae eI bI) (List.length bI) false, .lit (.int .i64 dg)] (.tree (.lit (.bool R))) := by
 refine ak.runR mixed Tryz.call35 Tryz.func35 rfl (by simp [Tryz.ntmps35]; kernel_rfl) ?_
 obtain ⟨KF, h, kF, kN⟩ := cV h
 simp only [vg] at h
 cases g4 : (aO bI)
 ·simp only [g4, hs] at h
  exact absurd h kN
 simp only [g4, hs] at h
 simp only [vz, tyf, g4, nm, seval]
 obtain ⟨K3, h, qW, jR, wO, mV⟩ := fZ h kN
 obtain ⟨f3, lN, h⟩ := call2 h
 obtain ⟨I3, fx⟩ : ∃ I : Nat → St → Prop, I = (fun m st => ∃ (p3 : List Int) (bP : Int), m = List.length p3 ∧ 0 ≤ bP ∧ List.drop (Int.toNat bP) bI = p3 ∧ st.df = [] ∧ 2 ≤ st.nx ∧ st.tm 0 = .sl (ae eI bI) (List.length bI) false ∧ st.tm 1 = .lit (.int .i64 dg) ∧ st.tm 5 = .lit (.int .i64 bP) ∧ K3 (f3 p3 bP)) := ⟨_, rfl⟩
 refine loopK mixed (by kernel_rfl) I3 (List.length bI) (by rw [fx]; refine ⟨bI, 0, rfl, Int.le_refl _, rfl, rfl, (show 2 ≤ 2 by omega), ?_, ?_, ?_, h⟩ <;> first | (simp only [ua, nm, seval] <;> rfl) | rfl) ?_
 rintro m ⟨tm, H, eN, df⟩ hinv
 rw [fx] at hinv
 obtain ⟨p3, bP, rfl, cu, cQ, hdf, lO, e5, e6, e7, h⟩ := hinv
 simp only at hdf lO e5 e6 e7
 have n8 := eR (m := 2) (b := eN) (by omega)
 subst hdf lN
 cases p3 with
 | nil =>
  have d9 : (decide (bP < (List.length bI : Int))) = false := ga cu cQ
  simp only [rF, hs, reduceCtorEq] at h
  replace h := jR _ h
  try dsimp only at h
  try simp only [hs] at h
  try simp only [vz, tyf, g4, n8, e5, e6, e7, d9, nm, seval]
  obtain rfl := kF _ h
  exact br Tryz.results35 rfl
 | cons e3 p3 =>
  have gM : (decide (bP < (List.length bI : Int))) = true := gb cu cQ
  have kQ := eT cu cQ
  have rI := fG cu cQ g4
  simp only [rF, hs, reduceCtorEq] at h
  cases cM : (e3 == dg)
  ·simp only [cM, hs] at h
   simp only [vz, tyf, g4, n8, e5, e6, e7, gM, (aY kQ), rI, cM, nm, seval]
   exact ⟨List.length p3, Nat.lt_succ_self _, by rw [fx]; refine ⟨p3, bP + 1, rfl, Int.le_trans cu (Int.le_add_one (Int.le_refl _)), cG cu cQ, rfl, (show 2 ≤ eN + 13 by omega), e5, e6, ?_, (by first | exact h | (simp only [gM, cM]; exact h))⟩ <;> first | (simp only [ua, n8, e5, e6, e7, gM, rI, cM, nm, seval] <;> rfl) | rfl⟩
  simp only [cM, hs] at h
  try simp only [vz, tyf, g4, n8, e5, e6, e7, gM, (aY kQ), rI, cM, nm, seval]
  replace h := qW _ h
  try dsimp only at h
  obtain rfl := kF _ h
  exact br Tryz.results35 rfl
def rG (al : GBk) (an : List Int) (bR : Int) (cz : Int) : Option (Bool) := cond (decide (bR < cz)) (Option.bind (getI an bR) (fun x1 => Option.bind (getI an cz) (fun x2 => cond (x1 == x2) (some true) (Option.bind (getI al.Strokes cz) (fun x3 => Option.bind (vg x3.Needs bR) (fun r4 => some r4)))))) (some false)
theorem Rs (al : GBk) (an : List Int) (bR : Int) (cz : Int) (R : Bool) (h : rG al an bR cz = some R) : ak Tryz.prog G0 84 [.agg (cGBk al), .sl (ae eI an) (List.length an) false, .lit (.int .i64 bR), .lit (.int .i64 cz)] (.tree (.lit (.bool R))) := by
 refine ak.runR mixed Tryz.call84 Tryz.func84 rfl (by simp [Tryz.ntmps84]; kernel_rfl) ?_
 obtain ⟨KF, h, kF, kN⟩ := cV h
 simp only [rG] at h
 simp only [vz, tyf, nm, seval]
 refine kL (fun tm => tm 1 = .sl (ae eI an) (List.length an) false ∧ tm 2 = .lit (.int .i64 bR) ∧ tm 3 = .lit (.int .i64 cz) ∧ tm 4 = .ptr 0 0 ∧ True) (by refine ⟨?_, ?_, ?_, ?_, trivial⟩ <;> first | (simp only [ua, nm, seval] <;> rfl) | rfl) ?_
 rintro tm ⟨e5, e6, e7, e8, _⟩
 cases d9 : (decide (bR < cz))
 ·simp only [d9, hs] at h
  try simp only [vz, tyf, e5, e6, e7, e8, d9, nm, seval]
  obtain rfl := kF _ h
  exact br Tryz.results84 rfl
 simp only [d9, hs] at h
 obtain ⟨Rt, pq, h⟩ := optI h kN
 try simp only [hs] at h
 obtain ⟨Ru, kP, h⟩ := optI h kN
 try simp only [hs] at h
 cases ct : (Rt == Ru)
 ·simp only [ct, hs] at h
  obtain ⟨DQ, iY, h⟩ := optI h kN
  try simp only [hs] at h
  obtain ⟨cW, lP, h⟩ := optI h kN
  try simp only [hs] at h
  simp only [vz, tyf, e5, e6, e7, e8, d9, (aY pq), (aY kP), ct, (bd iY), nm, seval]
  refine dktA (Rr _ _ _ lP) ?_
  refine bS (fun tm => tm 12 = .lit (.bool true) ∧ tm 22 = .lit (.bool false) ∧ tm 30 = .lit (.bool cW) ∧ True) (by refine ⟨?_, ?_, ?_, trivial⟩ <;> first | (simp only [ua, e5, e6, e7, e8, d9, ct, nm, seval] <;> rfl) | rfl) ?_
  rintro tm ⟨cO, eh, fv, _⟩
  try simp only [vz, tyf, d9, (aY pq), (aY kP), ct, (bd iY), cO, eh, fv, nm, seval]
  obtain rfl := kF _ h
  exact br Tryz.results84 rfl
 simp only [ct, hs] at h
 try simp only [vz, tyf, e5, e6, e7, e8, d9, (aY pq), (aY kP), ct, nm, seval]
 obtain rfl := kF _ h
 exact br Tryz.results84 rfl
def eV (x : VV) : List VV := [x]
theorem eV_eq {x : VV} : eV x = [x] := rfl
theorem vw : ∀ xs : List VV, ae eV xs = xs
  | [] => rfl
  | x :: xs => by rw [fq, vw xs]; rfl
theorem ixoV {xs : List VV} {x : VV} {i : Int} (h : getI xs i = some x) : (∀ (H : Nat → Option VObj) (β c : Nat) (k : IntKind), aA Tryz.prog H 71 (.ref β 0 xs.length 1 c) (.lit (.int k i)) = if (H β).isSome = true then some (.ptr β (i.toNat * 1)) else none) ∧ (ae eV xs).drop (i.toNat * 1) = eV x ++ ae eV (xs.drop (i.toNat + 1)) ∧ (i.toNat * 1 ≤ (ae eV xs).length) = True := ixO Tryz.underlying71 (by kernel_rfl : szT Tryz.prog 22 = some 1) (fun _ => rfl) h
def ku (b : GBk) (plan : List Int) (i : Int) : Nat → Int → List Int → Option (List Int)
 | 0, _, w => some w
 | m + 1, k, w => Option.bind (rG b plan k i) (fun r => cond r (cond (aE 8 (w ++ [k]).length) (ku b plan i m (k + 1) (w ++ [k])) none) (ku b plan i m (k + 1) w))
def ll (b : GBk) (plan : List Int) : Nat → Int → List (List Int) → List Int → Option (List (List Int) × List Int)
 | 0, _, pre, bg => some (pre, bg)
 | m + 1, i, pre, bg => Option.bind (ku b plan i i.toNat 0 []) (fun w => ll b plan m (i + 1) (pre ++ [w]) (List.set bg i.toNat (-1)))
def nG (ag : List Int) (bK : Int) (cZ : List Int) : List Int → Int → Option (LOut (Bool) (Unit))
 | [], vy => some (.go ())
 | e2 :: p2, vy => Option.bind (getI cZ e2) (fun MC => cond (decide (MC < 0)) (some (.ret false)) (Option.bind (getI ag e2) (fun Rv => cond (decide ((i64.wrap (MC + Rv)) > bK)) (some (.ret false)) (nG ag bK cZ p2 (vy + 1)))))
def lp (bf : List (List Int)) (an : List Int) (ag : List Int) (bK : Int) : List Int → Int → Int → (List Int) → Option (LOut (List Int) (Int × (List Int)))
 | [], dN, gk, cZ => some (.go (gk, cZ))
 | e1 :: p1, dN, gk, cZ => Option.bind (getI cZ dN) (fun DQ => cond (decide (DQ < 0)) (Option.bind (getI bf dN) (fun MD => cond (aO MD) (lbind (nG ag bK cZ MD 0) (fun Rw => cond (Rw) (lp bf an ag bK p1 (dN + 1) (i64.wrap (gk - 1)) (List.set cZ (Int.toNat dN) bK)) (lp bf an ag bK p1 (dN + 1) gk cZ)) (fun Ts => lp bf an ag bK p1 (dN + 1) (i64.wrap (gk - 1)) (List.set cZ (Int.toNat dN) bK)) (fun _ _ => none)) none)) (lp bf an ag bK p1 (dN + 1) gk cZ))
def mr (bf : List (List Int)) (an : List Int) (ag : List Int) : Nat → Int → Int → (List Int) → Option (LOut (List Int) (Int × Int × (List Int)))
 | 0, _, _, _ => none
 | k0 + 1, gg, bK, cl => cond (decide (gg > 0)) (cond (aO an) (lbind (lp bf an ag bK an 0 gg cl) (fun cR => some (.ret cR)) (fun ME => mr bf an ag k0 ME.1 (i64.wrap (bK + 1)) ME.2) (fun _ _ => none)) none) (some (.go (gg, bK, cl)))
def vn (al : GBk) (an : List Int) (ag : List Int) : Option (List Int) := cond (mkOk 8 (List.length an : Int)) (cond (mkOk 24 (List.length an : Int)) (cond (aO an) (Option.bind (ll al an an.length 0 [] (List.replicate (Int.toNat (List.length an : Int)) 0)) (fun rw => lbind (mr rw.1 an ag 1000000 (List.length an : Int) 0 rw.2) (fun kM => some kM) (fun Rx => some Rx.2.2) (fun _ _ => none))) none) none) none
theorem Ry (al : GBk) (an : List Int) (ag : List Int) (R : List Int) (h : vn al an ag = some R) : ak Tryz.prog G0 78 [.agg (cGBk al), .sl (ae eI an) (List.length an) false, .sl (ae eI ag) (List.length ag) false] (.own (ae eI R) R.length 1) := by
 refine ak.run mixed Tryz.call78 Tryz.func78 rfl (by simp [Tryz.ntmps78]; kernel_rfl) ?_
 obtain ⟨KF, h, kF, kN⟩ := cV h
 simp only [vn] at h
 cases cS : (mkOk 8 (List.length an : Int))
 ·simp only [cS, hs] at h
  exact absurd h kN
 simp only [cS, hs] at h
 try simp only [vz, tyf, cS, nm, seval]
 refine k_mkS (enc := eI) (z := (0 : Int)) de (by kernel_rfl) rfl (by first | (simp only [kV, kW, pJ, jM, cS, nm, seval] <;> rfl) | rfl) (by first | (simp only [kV, kW, pJ, jM, cS, nm, seval] <;> rfl) | rfl) cS ?_
 cases dk : (mkOk 24 (List.length an : Int))
 ·simp only [dk, hs] at h
  exact absurd h kN
 simp only [dk, hs] at h
 try simp only [vz, tyf, cS, dk, nm, seval]
 refine k_mkS (enc := eV) (z := .lit (.slice none 0 0)) ff (by kernel_rfl) rfl (by first | (simp only [kV, kW, pJ, jM, cS, dk, nm, seval] <;> rfl) | rfl) (by first | (simp only [kV, kW, pJ, jM, cS, dk, nm, seval] <;> rfl) | rfl) dk ?_
 simp only [vz, tyf, cS, dk, nm, seval]
 cases gl : aO an
 ·simp only [gl, hs] at h
  exact absurd h kN
 simp only [gl, hs] at h
 rcases ob : ll al an an.length 0 [] (List.replicate (Int.toNat (List.length an : Int)) 0) with _ | ⟨bf, bg⟩
 ·simp only [ob, hs] at h
  exact absurd h kN
 simp only [ob, hs] at h
 obtain ⟨IA, hIA⟩ : ∃ I : Nat → St → Prop, I = (fun m st => ∃ (p : List Int) (i : Int) (pre : List (List Int)) (iO : List Int) (xs : List VV), m = List.length p ∧ 0 ≤ i ∧ List.drop (Int.toNat i) an = p ∧ pre.length = i.toNat ∧ iO.length = an.length ∧ xs = ae (eSl eI) pre ++ List.replicate m (.lit (.slice none 0 0)) ∧ i.toNat + m = an.length ∧ ll al an m i pre iO = some (bf, bg) ∧ st.df = [] ∧ 12 ≤ st.nx ∧ st.H 0 = some (.cells (some 25) (cGBk al)) ∧ st.H 6 = some (.cells (some 3) (ae eI iO)) ∧ st.H 9 = some (.cells (some 22) (ae eV xs)) ∧ st.tm 1 = .sl (ae eI an) (List.length an) false ∧ st.tm 2 = .sl (ae eI ag) (List.length ag) false ∧ st.tm 3 = .ptr 0 0 ∧ st.tm 7 = .lit (.int .i64 (List.length an : Int)) ∧ st.tm 8 = .ref 6 0 (List.length iO) 1 (List.length iO) ∧ st.tm 9 = .ref 9 0 (List.length xs) 1 (List.length xs) ∧ st.tm 10 = .lit (.int .i64 i)) := ⟨_, rfl⟩
 refine loopKL mixed (by kernel_rfl) IA (List.length an) (by rw [hIA]; refine ⟨an, 0, [], List.replicate (Int.toNat (List.length an : Int)) 0, List.replicate (Int.toNat (List.length an : Int)) (.lit (.slice none 0 0)), rfl, Int.le_refl _, rfl, rfl, (by simp), (by simp [fz]), (by simp), ob, rfl, (show 12 ≤ 12 by omega), ?_, ?_, ?_, ?_, ?_, ?_, ?_, ?_, ?_, ?_⟩ <;> first | (simp only [ua, nm, seval] <;> rfl) | rfl) ?_
 rintro m ⟨tm, H, nxA, df⟩ hinv
 rw [hIA] at hinv
 obtain ⟨p, i, pre, iO, xs, rfl, hi, hp, hpre, hbg, hxs, hil, hrw, hdf, hnA, A0, A6, A9, a1, a2, a3, a7, a8, a9, qg⟩ := hinv
 simp only at hdf hnA A0 A6 A9 a1 a2 a3 a7 a8 a9 qg
 have nA := eR (m := 12) (b := nxA) (by omega)
 subst hdf
 have hxl : xs.length = an.length := by
  rw [hxs, List.length_append, eu (w := 1) (enc := eSl eI) (fun _ => rfl), List.length_replicate]
  omega
 cases p with
 | nil =>
  have dA : (decide (i < (List.length an : Int))) = false := ga hi hp
  simp only [List.length_nil, ll, Option.some.injEq, Prod.mk.injEq] at hrw
  obtain ⟨rfl, rfl⟩ := hrw
  simp only [List.length_nil, List.replicate_zero, List.append_nil] at hxs
  have Rz : xs.length = pre.length := by rw [hxs, eu (w := 1) (enc := eSl eI) (fun _ => rfl)]; omega
  rw [Rz] at a9
  rw [vw, hxs] at A9
  simp only [vz, tyf, cS, dk, nA, a1, a2, a3, a7, a8, a9, qg, A0, A6, A9, dA, nm, seval]
  obtain ⟨CH, h, uc, pr, CI, jU⟩ := fZ h kN
  obtain ⟨CJ, pv, h⟩ := call4 h
  obtain ⟨CK, iq⟩ : ∃ I : Nat → St → Prop, I = (fun m st => ∃ (ib : Nat) (fp : Int) (cm : Int) (cA : List Int), ib = m ∧ st.df = [] ∧ 14 ≤ st.nx ∧ st.H 6 = some (.cells ((some 3)) (ae eI cA)) ∧ st.H 9 = some (.cells ((some 22)) (ae (eSl eI) pre)) ∧ st.tm 2 = .sl (ae eI ag) (List.length ag) false ∧ st.tm 7 = .lit (.int .i64 (List.length an : Int)) ∧ st.tm 8 = .ref 6 0 (List.length cA) 1 (List.length cA) ∧ st.tm 9 = .ref 9 0 (List.length pre) 1 (List.length pre) ∧ st.tm 12 = .lit (.int .i64 fp) ∧ st.tm 13 = .lit (.int .i64 cm) ∧ CH (CJ ib fp cm cA)) := ⟨_, rfl⟩
  refine loopK mixed (by kernel_rfl) CK 1000000 (by rw [iq]; refine ⟨1000000, (List.length an : Int), 0, iO, rfl, rfl, (show 14 ≤ nxA + 6 by omega), ?_, ?_, ?_, ?_, ?_, ?_, ?_, ?_, h⟩ <;> first | (simp only [ua, nA, a1, a2, a3, a7, a8, a9, qg, A0, A6, A9, dA, nm, seval] <;> rfl) | rfl) ?_
  rintro m ⟨tm, H, cN, df⟩ hinv
  rw [iq] at hinv
  obtain ⟨ib, fp, cm, cA, rfl, hdf, pw, rT, jy, dR, bW, cB, bz, bD, bH, h⟩ := hinv
  simp only at hdf pw rT jy dR bW cB bz bD bH
  have nL := eR (m := 14) (b := cN) (by omega)
  subst hdf pv
  cases ib with
  | zero =>
   simp only [mr, hs, reduceCtorEq] at h
   exact absurd h jU
  | succ ib =>
   simp only [mr, hs, reduceCtorEq] at h
   cases iw : (decide (fp > 0))
   ·simp only [iw, hs] at h
    replace h := pr _ h
    try dsimp only at h
    try simp only [hs] at h
    try simp only [vz, tyf, cS, dk, nL, dR, bW, cB, bz, bD, bH, rT, jy, iw, nm, seval]
    obtain rfl := kF _ h
    exact ⟨rfl, .ref 6 0 (List.length cA) 1 (List.length cA), (by first | (simp only [Tryz.results78, resV, resL, aR, cw, cv, uw, cr, tyf, cS, dk, nL, rT, jy, iw, nm, seval] <;> rfl) | rfl), (ae eI cA).length + 1, 6, _, ae eI cA, ⟨_, rfl⟩, rT, mG _ _ (eI_ok.treeL _) (Nat.lt_succ_self _)⟩
   simp only [iw, hs] at h
   cases qh : (aO an)
   ·simp only [qh, hs] at h
    exact absurd h jU
   simp only [qh, hs] at h
   simp only [vz, tyf, cS, dk, nL, dR, bW, cB, bz, bD, bH, rT, jy, iw, qh, nm, seval]
   obtain ⟨R0, h, R1, Hg, R2, my⟩ := fZ h jU
   obtain ⟨R3, Hh, h⟩ := call4 h
   obtain ⟨R4, jm⟩ : ∃ I : Nat → St → Prop, I = (fun m st => ∃ (iP : List Int) (bQ : Int) (da : Int) (b4 : List Int), m = List.length iP ∧ 0 ≤ bQ ∧ List.drop (Int.toNat bQ) an = iP ∧ st.df = [] ∧ cN + 3 ≤ st.nx ∧ st.H 6 = some (.cells ((some 3)) (ae eI b4)) ∧ st.H 9 = some (.cells ((some 22)) (ae (eSl eI) pre)) ∧ st.tm 2 = .sl (ae eI ag) (List.length ag) false ∧ st.tm 7 = .lit (.int .i64 (List.length an : Int)) ∧ st.tm 8 = .ref 6 0 (List.length b4) 1 (List.length b4) ∧ st.tm 9 = .ref 9 0 (List.length pre) 1 (List.length pre) ∧ st.tm 13 = .lit (.int .i64 cm) ∧ st.tm 12 = .lit (.int .i64 da) ∧ st.tm 14 = .lit (.int .i64 bQ) ∧ R0 (R3 iP bQ da b4)) := ⟨_, rfl⟩
   refine loopK mixed (by kernel_rfl) R4 (List.length an) (by rw [jm]; refine ⟨an, 0, fp, cA, rfl, Int.le_refl _, rfl, rfl, (show cN + 3 ≤ cN + 3 by omega), ?_, ?_, dR, bW, cB, bz, bH, bD, ?_, h⟩ <;> first | (simp only [ua, nL, dR, bW, cB, bz, bD, bH, rT, jy, iw, nm, seval] <;> rfl) | rfl) ?_
   rintro m ⟨tm, H, g9, df⟩ hinv
   rw [jm] at hinv
   obtain ⟨iP, bQ, da, b4, rfl, eQ, hP, hdf, Hi, v3, v5, dr, dt, d4, ei, eO, d6, dc, h⟩ := hinv
   simp only at hdf Hi v3 v5 dr dt d4 ei eO d6 dc
   have xI := eR (m := 14) (b := g9) (by omega)
   have xJ := jz (a := cN) (m := 3) (b := g9) (by omega)
   subst hdf Hh
   cases iP with
   | nil =>
    have kT : (decide (bQ < (List.length an : Int))) = false := ga eQ hP
    simp only [lp, hs, reduceCtorEq] at h
    replace h := Hg _ h
    try dsimp only at h
    try simp only [hs] at h
    simp only [vz, tyf, cS, dk, nL, iw, qh, xI, xJ, dr, dt, d4, ei, eO, d6, dc, v3, v5, kT, nm, seval]
    exact ⟨ib, Nat.lt_succ_self _, by rw [iq]; refine ⟨ib, da, i64.wrap (cm + 1), b4, rfl, rfl, (show 14 ≤ g9 + 6 by omega), ?_, ?_, dr, dt, d4, ei, d6, ?_, (by first | exact h | (simp only [iw, kT]; exact h))⟩ <;> first | (simp only [ua, nL, iw, xI, xJ, dr, dt, d4, ei, eO, d6, dc, v3, v5, kT, nm, seval] <;> rfl) | rfl⟩
   | cons cP iP =>
    have gO : (decide (bQ < (List.length an : Int))) = true := gb eQ hP
    have gC := eT eQ hP
    have ra := fG eQ hP qh
    simp only [lp, hs, reduceCtorEq] at h
    obtain ⟨R5, gD, h⟩ := optI h my
    try simp only [hs] at h
    cases xK : (decide (R5 < 0))
    ·simp only [xK, hs] at h
     have Hj := And.intro cS (And.intro dk (And.intro nL (And.intro iw (And.intro qh (And.intro xI (And.intro xJ (And.intro v3 (And.intro v5 (And.intro gO (And.intro ra xK))))))))))
     simp only [vz, tyf, Hj, dr, dt, d4, ei, eO, d6, dc, (aY gC), (bt gD), nm, seval]
     exact ⟨List.length iP, Nat.lt_succ_self _, by rw [jm]; refine ⟨iP, bQ + 1, da, b4, rfl, Int.le_trans eQ (Int.le_add_one (Int.le_refl _)), cG eQ hP, rfl, (show cN + 3 ≤ g9 + 21 by omega), ?_, ?_, dr, dt, d4, ei, eO, d6, ?_, (by first | exact h | (simp only [Hj]; exact h))⟩ <;> first | (simp only [ua, Hj, dr, dt, d4, ei, eO, d6, dc, nm, seval] <;> rfl) | rfl⟩
    simp only [xK, hs] at h
    have k8 := And.intro cS (And.intro dk (And.intro nL (And.intro iw (And.intro qh (And.intro xI (And.intro xJ (And.intro v3 (And.intro v5 (And.intro gO (And.intro ra xK))))))))))
    obtain ⟨lA, jn, h⟩ := optI h my
    try simp only [hs] at h
    try simp only [vz, tyf, k8, dr, dt, d4, ei, eO, d6, dc, (aY gC), (bt gD), (bE jn), nm, seval]
    refine kopen ?_
    rw [ou]
    refine au.run mixed Tryz.call109 Tryz.func109 rfl (by simp [Tryz.ntmps109]; kernel_rfl) ?_
    cases mz : (aO lA)
    ·simp only [mz, hs] at h
     exact absurd h my
    simp only [mz, hs] at h
    simp only [vz, tyf, k8, (aY gC), (bt gD), (bE jn), mz, nm, seval]
    obtain ⟨R6, h, v7, Hk, R7, v8⟩ := fZ h my
    obtain ⟨R8, Hl, h⟩ := call2 h
    obtain ⟨R9, qi⟩ : ∃ I : Nat → St → Prop, I = (fun m st => ∃ (nM : List Int) (dO : Int), m = List.length nM ∧ 0 ≤ dO ∧ List.drop (Int.toNat dO) lA = nM ∧ st.df = [] ∧ g9 + 20 ≤ st.nx ∧ st.H 6 = some (.cells ((some 3)) (ae eI b4)) ∧ st.H 9 = some (.cells ((some 22)) (ae (eSl eI) pre)) ∧ st.tm 0 = .sl (ae eI lA) (List.length lA) false ∧ st.tm 1 = .ref 6 0 (List.length b4) 1 (List.length b4) ∧ st.tm 2 = .sl (ae eI ag) (List.length ag) false ∧ st.tm 3 = .lit (.int .i64 cm) ∧ st.tm 9 = .lit (.int .i64 dO) ∧ R6 (R8 nM dO)) := ⟨_, rfl⟩
    refine loopK mixed (by kernel_rfl) R9 (List.length lA) (by rw [qi]; refine ⟨lA, 0, rfl, Int.le_refl _, rfl, rfl, (show g9 + 20 ≤ g9 + 20 by omega), ?_, ?_, ?_, ?_, ?_, ?_, ?_, h⟩ <;> first | (simp only [ua, k8, nm, seval] <;> rfl) | rfl) ?_
    rintro m ⟨tm, H, iB, df⟩ hinv
    rw [qi] at hinv
    obtain ⟨nM, dO, rfl, jo, k9, hdf, Hm, nN, nO, mi, nw, mj, ny, nz, h⟩ := hinv
    simp only at hdf Hm nN nO mi nw mj ny nz
    have qj := eR (m := 14) (b := iB) (by omega)
    have qk := jz (a := cN) (m := 3) (b := iB) (by omega)
    have ql := jz (a := g9) (m := 20) (b := iB) (by omega)
    subst hdf Hl
    cases nM with
    | nil =>
     have v9 : (decide (dO < (List.length lA : Int))) = false := ga jo k9
     simp only [nG, hs, reduceCtorEq] at h
     replace h := Hk _ h
     try dsimp only at h
     try simp only [hs] at h
     try simp only [vz, tyf, k8, (aY gC), (bt gD), (bE jn), mz, qj, qk, ql, mi, nw, mj, ny, nz, nN, nO, v9, nm, seval]
     refine cn (x := (.lit (.bool true))) (by first | (simp only [Tryz.results109, resV, resL, aR, cw, cv, uw, cr, tyf, k8, (aY gC), (bt gD), (bE jn), mz, qj, qk, ql, nN, nO, v9, nm, seval] <;> rfl) | rfl) ?_
     have vA := setA (w := 1) (enc := eI) (fun _ => rfl) gD
     have qm := setB (w := 1) (enc := eI) cm (fun _ => rfl) gD
     simp only [vz, tyf, nm, seval] at qm
     have vB := setC (w := 1) (enc := eI) b4 (Int.toNat bQ) cm (fun _ => rfl)
     simp only [vz, tyf, k8, (aY gC), (bt gD), (bE jn), mz, qj, qk, ql, nN, nO, v9, dr, dt, d4, ei, eO, d6, dc, vA, qm, vB, nm, seval]
     exact ⟨List.length iP, Nat.lt_succ_self _, by rw [jm]; refine ⟨iP, bQ + 1, i64.wrap (da - 1), (List.set b4 (Int.toNat bQ) cm), rfl, Int.le_trans eQ (Int.le_add_one (Int.le_refl _)), cG eQ hP, rfl, (show cN + 3 ≤ iB + 16 by omega), ?_, ?_, dr, dt, ?_, ei, eO, ?_, ?_, (by first | exact h | (simp only [k8, v9]; exact h))⟩ <;> first | (simp only [ua, k8, qj, qk, ql, nN, nO, v9, dr, dt, d4, ei, eO, d6, dc, vA, qm, vB, nm, seval] <;> rfl) | rfl⟩
    | cons g0 nM =>
     have Ho : (decide (dO < (List.length lA : Int))) = true := gb jo k9
     have nP := eT jo k9
     have Hp := fG jo k9 mz
     simp only [nG, hs, reduceCtorEq] at h
     simp only [vz, tyf, k8, (aY gC), (bt gD), (bE jn), mz, qj, qk, ql, mi, nw, mj, ny, nz, nN, nO, Ho, (aY nP), Hp, nm, seval]
     refine kL (fun tm => tm 0 = .sl (ae eI lA) (List.length lA) false ∧ tm 1 = .ref 6 0 (List.length b4) 1 (List.length b4) ∧ tm 2 = .sl (ae eI ag) (List.length ag) false ∧ tm 3 = .lit (.int .i64 cm) ∧ tm 9 = .lit (.int .i64 dO) ∧ True) (by refine ⟨mi, nw, mj, ny, nz, trivial⟩ <;> first | (simp only [ua, k8, qj, qk, ql, mi, nw, mj, ny, nz, nN, nO, Ho, Hp, nm, seval] <;> rfl) | rfl) ?_
     rintro tm ⟨gT, vC, vD, vE, xL, _⟩
     have jq := And.intro k8 (And.intro mz (And.intro qj (And.intro qk (And.intro ql (And.intro nN (And.intro nO (And.intro Ho Hp)))))))
     obtain ⟨MF, qn, h⟩ := optI h v8
     try simp only [hs] at h
     cases iC : (decide (MF < 0))
     ·simp only [iC, hs] at h
      obtain ⟨RA, xM, h⟩ := optI h v8
      try simp only [hs] at h
      cases gU : (decide ((i64.wrap (MF + RA)) > cm))
      ·simp only [gU, hs] at h
       simp only [vz, tyf, jq, (aY gC), (bt gD), (bE jn), (aY nP), gT, vC, vD, vE, xL, (bt qn), iC, (aY xM), gU, nm, seval]
       exact ⟨List.length nM, Nat.lt_succ_self _, by rw [qi]; refine ⟨nM, dO + 1, rfl, Int.le_trans jo (Int.le_add_one (Int.le_refl _)), cG jo k9, rfl, (show g9 + 20 ≤ iB + 34 by omega), ?_, ?_, gT, vC, vD, vE, ?_, (by first | exact h | (simp only [jq, iC, gU]; exact h))⟩ <;> first | (simp only [ua, jq, gT, vC, vD, vE, xL, iC, gU, nm, seval] <;> rfl) | rfl⟩
      simp only [gU, hs] at h
      try simp only [vz, tyf, jq, (aY gC), (bt gD), (bE jn), (aY nP), gT, vC, vD, vE, xL, (bt qn), iC, (aY xM), gU, nm, seval]
      refine cn (x := (.lit (.bool false))) (by first | (simp only [Tryz.results109, resV, resL, aR, cw, cv, uw, cr, tyf, jq, (aY gC), (bt gD), (bE jn), (aY nP), (bt qn), iC, (aY xM), gU, nm, seval] <;> rfl) | rfl) ?_
      replace h := v7 _ h
      try dsimp only at h
      simp only [vz, tyf, jq, (aY gC), (bt gD), (bE jn), (aY nP), (bt qn), iC, (aY xM), gU, dr, dt, d4, ei, eO, d6, dc, nm, seval]
      exact ⟨List.length iP, Nat.lt_succ_self _, by rw [jm]; refine ⟨iP, bQ + 1, da, b4, rfl, Int.le_trans eQ (Int.le_add_one (Int.le_refl _)), cG eQ hP, rfl, (show cN + 3 ≤ iB + 35 by omega), ?_, ?_, dr, dt, d4, ei, eO, d6, ?_, (by first | exact h | (simp only [jq, iC, gU]; exact h))⟩ <;> first | (simp only [ua, jq, iC, gU, dr, dt, d4, ei, eO, d6, dc, nm, seval] <;> rfl) | rfl⟩
     simp only [iC, hs] at h
     try simp only [vz, tyf, jq, (aY gC), (bt gD), (bE jn), (aY nP), gT, vC, vD, vE, xL, (bt qn), iC, nm, seval]
     refine cn (x := (.lit (.bool false))) (by first | (simp only [Tryz.results109, resV, resL, aR, cw, cv, uw, cr, tyf, jq, (aY gC), (bt gD), (bE jn), (aY nP), (bt qn), iC, nm, seval] <;> rfl) | rfl) ?_
     replace h := v7 _ h
     try dsimp only at h
     simp only [vz, tyf, jq, (aY gC), (bt gD), (bE jn), (aY nP), (bt qn), iC, dr, dt, d4, ei, eO, d6, dc, nm, seval]
     exact ⟨List.length iP, Nat.lt_succ_self _, by rw [jm]; refine ⟨iP, bQ + 1, da, b4, rfl, Int.le_trans eQ (Int.le_add_one (Int.le_refl _)), cG eQ hP, rfl, (show cN + 3 ≤ iB + 35 by omega), ?_, ?_, dr, dt, d4, ei, eO, d6, ?_, (by first | exact h | (simp only [jq, iC]; exact h))⟩ <;> first | (simp only [ua, jq, iC, dr, dt, d4, ei, eO, d6, dc, nm, seval] <;> rfl) | rfl⟩
 | cons e p =>
  have dA : (decide (i < (List.length an : Int))) = true := gb hi hp
  have wA := fG hi hp gl
  have hin : i.toNat < an.length := by
   have := of_decide_eq_true dA
   omega
  rcases oA : getI iO i with _ | xA
  ·exfalso
   unfold getI at oA
   rw [if_pos hi] at oA
   have := List.getElem?_eq_none_iff.1 oA
   omega
  rw [List.length_cons] at hrw hxs
  simp only [ll] at hrw
  rcases hws : ku al an i i.toNat 0 [] with _ | ws
  ·rw [hws] at hrw
   cases hrw
  rw [hws] at hrw
  simp only [Option.bind_some] at hrw
  have vA := setA (w := 1) (enc := eI) (fun _ => rfl) oA
  have qm := setB (w := 1) (enc := eI) (-1 : Int) (fun _ => rfl) oA
  simp only [vz, tyf, nm, seval] at qm
  have vB := setC (w := 1) (enc := eI) iO (Int.toNat i) (-1 : Int) (fun _ => rfl)
  simp only [vz, tyf, cS, dk, nA, a1, a2, a3, a7, a8, a9, qg, A0, A6, A9, dA, (bt oA), vA, qm, vB, nm, seval]
  rw [List.replicate_succ] at hxs
  obtain ⟨IB, hIB⟩ : ∃ I : Nat → St → Prop, I = (fun m st => ∃ (k : Int) (w : List Int) (hd : VV) (ys : List VV), 0 ≤ k ∧ k.toNat + m = i.toNat ∧ ys = ae (eSl eI) pre ++ hd :: List.replicate p.length (.lit (.slice none 0 0)) ∧ ku al an i m k w = some ws ∧ st.df = [] ∧ nxA ≤ st.nx ∧ st.H 0 = some (.cells (some 25) (cGBk al)) ∧ st.H 6 = some (.cells (some 3) (ae eI (List.set iO (Int.toNat i) (-1)))) ∧ st.H 9 = some (.cells (some 22) (ae eV ys)) ∧ st.tm 1 = .sl (ae eI an) (List.length an) false ∧ st.tm 2 = .sl (ae eI ag) (List.length ag) false ∧ st.tm 3 = .ptr 0 0 ∧ st.tm 7 = .lit (.int .i64 (List.length an : Int)) ∧ st.tm 8 = .ref 6 0 (List.length iO) 1 (List.length iO) ∧ st.tm 9 = .ref 9 0 (List.length ys) 1 (List.length ys) ∧ st.tm 10 = .lit (.int .i64 i) ∧ st.tm 11 = .lit (.int .i64 k) ∧ ((∃ (β : Nat) (el : Option TypeId), hd = .ref β 0 (List.length w) 1 (List.length w) ∧ β < st.nx ∧ β ≠ 0 ∧ β ≠ 6 ∧ β ≠ 9 ∧ st.H β = some (.cells el (ae eI w))) ∨ (hd = .lit (.slice none 0 0) ∧ w = []))) := ⟨_, rfl⟩
  refine loopK mixed (by kernel_rfl) IB i.toNat (by rw [hIB]; refine ⟨0, [], .lit (.slice none 0 0), xs, Int.le_refl _, (by simp), hxs, hws, rfl, Nat.le_add_right _ _, ?_, ?_, ?_, ?_, ?_, ?_, ?_, ?_, ?_, ?_, ?_, Or.inr ⟨rfl, rfl⟩⟩ <;> first | (simp only [ua, nA, a1, a2, a3, a7, a8, a9, qg, A0, A6, A9, dA, vA, qm, vB, nm, seval] <;> rfl) | rfl) ?_
  rintro m ⟨tm, H, nxB, df⟩ hinv
  rw [hIB] at hinv
  obtain ⟨k, w, hd, ys, hk, hkm, hys, hrow, hdf, hnB, B0, B6, B9, b1, b2, b3, b7, b8, b9, dm, dp, ow⟩ := hinv
  simp only at hdf hnB B0 B6 B9 b1 b2 b3 b7 b8 b9 dm dp ow
  have nB := eR (m := 12) (b := nxB) (by omega)
  subst hdf
  cases m with
  | zero =>
   have dB : decide (k < i) = false := decide_eq_false (by clear ow; omega)
   simp only [ku, Option.some.injEq] at hrow
   subst hrow
   have hki : k = i := by clear ow; omega
   have hzl : (ae (eSl eI) pre).length = i.toNat := by rw [eu (w := 1) (enc := eSl eI) (fun _ => rfl)]; clear ow; omega
   simp only [vz, tyf, cS, dk, nA, nB, b1, b2, b3, b7, b8, b9, dm, dp, B0, B6, B9, dA, dB, wA, nm, seval]
   rw [vw] at B9
   have hcl : ae (eSl eI) (pre ++ [w]) = ae (eSl eI) pre ++ [.sl (ae eI w) w.length false] := by rw [mK]; rfl
   rcases ow with ⟨β, el, rfl, lG, MG, MH, oP, hβ⟩ | ⟨rfl, rfl⟩
   · refine ⟨p.length, Nat.lt_succ_self _, ⟨_, updH (without H β) 9 (.cells (some 22) (ae (eSl eI) pre ++ .sl (ae eI w) w.length false :: List.replicate p.length (.lit (.slice none 0 0)))), _, []⟩, Look.ghost (Ghost.mid hβ (by rw [B9, hys]) (Ne.symm oP) (eI_ok.treeL _) (eu (w := 1) (enc := eI) (fun _ => rfl) _)), ?_⟩
     rw [hIA]
     refine ⟨p, i + 1, pre ++ [w], List.set iO i.toNat (-1), ae (eSl eI) pre ++ .sl (ae eI w) w.length false :: List.replicate p.length (.lit (.slice none 0 0)), rfl, Int.le_trans hi (Int.le_add_one (Int.le_refl _)), cG hi hp, ?_, ?_, ?_, ?_, hrw, rfl, ?_, ?_, ?_, ?_, ?_, ?_, ?_, ?_, ?_, ?_, ?_⟩
     · rw [List.length_append, List.length_singleton]; omega
     · rw [List.length_set]; exact hbg
     · rw [hcl, List.append_assoc]; rfl
     · rw [List.length_cons] at hil; omega
     · dsimp only; omega
     · dsimp only
       rw [aK, if_neg (by decide), bk, if_neg (by omega)]; exact B0
     · dsimp only
       rw [aK, if_neg (by decide), bk, if_neg (by omega)]; exact B6
     · dsimp only
       rw [aK, if_pos rfl, vw]
     · simp only [ua, nB, b1, b2, b3, b7, b8, b9, dm, dp, nm, seval]
     · simp only [ua, nB, b1, b2, b3, b7, b8, b9, dm, dp, nm, seval]
     · simp only [ua, nB, b1, b2, b3, b7, b8, b9, dm, dp, nm, seval]
     · simp only [ua, nB, b1, b2, b3, b7, b8, b9, dm, dp, nm, seval]
     · simp only [ua, nB, b1, b2, b3, b7, b8, b9, dm, dp, List.length_set, nm, seval]
     · simp only [ua, nB, b1, b2, b3, b7, b8, b9, dm, dp, nm, seval]; rw [hys]; simp only [List.length_append, List.length_cons]
     · simp only [ua, nB, b1, b2, b3, b7, b8, b9, dm, dp, wA, nm, seval]
   · refine ⟨p.length, Nat.lt_succ_self _, ⟨_, updH H 9 (.cells (some 22) (ae (eSl eI) pre ++ .sl [] 0 false :: List.replicate p.length (.lit (.slice none 0 0)))), _, []⟩, Look.nil (by rw [B9, hys]), ?_⟩
     rw [hIA]
     refine ⟨p, i + 1, pre ++ [[]], List.set iO i.toNat (-1), ae (eSl eI) pre ++ .sl [] 0 false :: List.replicate p.length (.lit (.slice none 0 0)), rfl, Int.le_trans hi (Int.le_add_one (Int.le_refl _)), cG hi hp, ?_, ?_, ?_, ?_, hrw, rfl, ?_, ?_, ?_, ?_, ?_, ?_, ?_, ?_, ?_, ?_, ?_⟩
     · rw [List.length_append, List.length_singleton]; omega
     · rw [List.length_set]; exact hbg
     · rw [hcl, List.append_assoc]; rfl
     · rw [List.length_cons] at hil; omega
     · dsimp only; omega
     · dsimp only
       rw [aK, if_neg (by decide)]; exact B0
     · dsimp only
       rw [aK, if_neg (by decide)]; exact B6
     · dsimp only
       rw [aK, if_pos rfl, vw]
     · simp only [ua, nB, b1, b2, b3, b7, b8, b9, dm, dp, nm, seval]
     · simp only [ua, nB, b1, b2, b3, b7, b8, b9, dm, dp, nm, seval]
     · simp only [ua, nB, b1, b2, b3, b7, b8, b9, dm, dp, nm, seval]
     · simp only [ua, nB, b1, b2, b3, b7, b8, b9, dm, dp, nm, seval]
     · simp only [ua, nB, b1, b2, b3, b7, b8, b9, dm, dp, List.length_set, nm, seval]
     · simp only [ua, nB, b1, b2, b3, b7, b8, b9, dm, dp, nm, seval]; rw [hys]; simp only [List.length_append, List.length_cons]
     · simp only [ua, nB, b1, b2, b3, b7, b8, b9, dm, dp, wA, nm, seval]
  | succ m =>
   have dB : decide (k < i) = true := decide_eq_true (by clear ow; omega)
   have hkp : k.toNat < an.length := by clear ow; omega
   have wB := fG hk (List.drop_eq_getElem_cons hkp) gl
   have oY : getI ys i = some hd := by
    have hzl : (ae (eSl eI) pre).length = i.toNat := by rw [eu (w := 1) (enc := eSl eI) (fun _ => rfl)]; clear ow; omega
    unfold getI
    rw [if_pos hi, hys, ← hzl, List.getElem?_append_right (Nat.le_refl _), Nat.sub_self]
    rfl
   have hset : ∀ v, List.set ys (Int.toNat i) v = ae (eSl eI) pre ++ v :: List.replicate p.length (.lit (.slice none 0 0)) := by
    intro v
    have hzl : (ae (eSl eI) pre).length = i.toNat := by rw [eu (w := 1) (enc := eSl eI) (fun _ => rfl)]; clear ow; omega
    rw [hys, ← hzl, List.set_append_right _ _ (Nat.le_refl _), Nat.sub_self]
    rfl
   simp only [ku] at hrow
   rcases of : rG al an k i with _ | r
   ·rw [of] at hrow
    cases hrow
   rw [of] at hrow
   simp only [Option.bind_some] at hrow
   simp only [vz, tyf, cS, dk, nA, nB, b1, b2, b3, b7, b8, b9, dm, dp, B0, B6, B9, dA, dB, wA, nm, seval]
   refine ktA (Rs _ _ _ _ _ of) ?_
   have nQ := setA (w := 1) (enc := eV) (fun _ => rfl) oY
   have m0 := fun v => setB (w := 1) (enc := eV) v (fun _ => rfl) oY
   simp only [vz, tyf, eV_eq, nm, seval] at m0
   have nR := fun v => setC (w := 1) (enc := eV) ys (Int.toNat i) v (fun _ => rfl)
   rcases r with _ | _
   · simp only [cond_false] at hrow
     simp only [vz, tyf, cS, dk, nA, nB, b1, b2, b3, b7, b8, b9, dm, dp, B0, B6, B9, dA, dB, wA, wB, nm, seval]
     exact ⟨m, Nat.lt_succ_self _, by
      rw [hIB]
      refine ⟨k + 1, w, hd, ys, (by clear ow; omega), (by clear ow; omega), hys, hrow, rfl, (by dsimp only; clear ow; omega), ?_, ?_, ?_, ?_, ?_, ?_, ?_, ?_, ?_, ?_, ?_, ?_⟩
      rotate_right
      · rcases ow with ⟨β, el, h1, h2, h3, h4, h5, h6⟩ | h1
        · exact Or.inl ⟨β, el, h1, (by dsimp only; omega), h3, h4, h5, h6⟩
        · exact Or.inr h1
      all_goals first | (simp only [ua, cS, dk, nA, nB, b1, b2, b3, b7, b8, b9, dm, dp, B0, B6, B9, dA, dB, wA, wB, nm, seval] <;> rfl) | rfl⟩
   · simp only [cond_true] at hrow
     cases gr : (aE 8 (List.length (w ++ [k])))
     · rw [gr] at hrow
       cases hrow
     rw [gr] at hrow
     simp only [cond_true] at hrow
     rcases ow with ⟨β, el, rfl, lG, MG, MH, oP, hβ⟩ | ⟨rfl, rfl⟩
     · have q1 := fK lG
       have q2 := ne_f MG
       have q3 := ne_f MH
       have q4 := ne_f oP
       simp only [vz, tyf, cS, dk, nA, nB, b1, b2, b3, b7, b8, b9, dm, dp, B0, B6, B9, dA, dB, wA, wB, (ixoV oY), eV_eq, nQ, m0, nR, q1, q2, q3, q4, hβ, nm, seval]
       refine k_app (w := 1) (enc := eI) (xs := w) (ys := [k]) (el := el) (dE := (some 3)) (fun _ => rfl) dC de Tryz.underlying22 (by first | rfl | assumption | (simp only [aK, bk, cT, cS, dk, nA, nB, b1, b2, b3, b7, b8, b9, dm, dp, B0, B6, B9, dA, dB, wA, wB, q1, q2, q3, q4, hβ, nm, seval] <;> rfl) | (simp only [aK, bk, fq, fz, fE, fF, tyf, cS, dk, nA, nB, b1, b2, b3, b7, b8, b9, dm, dp, B0, B6, B9, dA, dB, wA, wB, q1, q2, q3, q4, hβ, nm, seval]; done)) (by first | rfl | assumption | (simp only [aK, bk, cT, cS, dk, nA, nB, b1, b2, b3, b7, b8, b9, dm, dp, B0, B6, B9, dA, dB, wA, wB, q1, q2, q3, q4, hβ, nm, seval] <;> rfl) | (simp only [aK, bk, fq, fz, fE, fF, tyf, cS, dk, nA, nB, b1, b2, b3, b7, b8, b9, dm, dp, B0, B6, B9, dA, dB, wA, wB, q1, q2, q3, q4, hβ, nm, seval]; done)) (Nat.zero_lt_succ _) gr ?_
       simp only [vz, tyf, cS, dk, nA, nB, b1, b2, b3, b7, b8, b9, dm, dp, B0, B6, B9, dA, dB, wA, wB, (ixoV oY), eV_eq, nQ, m0, nR, q1, q2, q3, q4, hβ, gr, nm, seval]
       exact ⟨m, Nat.lt_succ_self _, by
        rw [hIB]
        refine ⟨k + 1, w ++ [k], .ref (nxB + 16) 0 (List.length (w ++ [k])) 1 (List.length (w ++ [k])), List.set ys (Int.toNat i) (.ref (nxB + 16) 0 (List.length (w ++ [k])) 1 (List.length (w ++ [k]))), (by omega), (by omega), hset _, hrow, rfl, (by dsimp only; omega), ?_, ?_, ?_, ?_, ?_, ?_, ?_, ?_, ?_, ?_, ?_, Or.inl ⟨nxB + 16, sameEl el 3, rfl, (by dsimp only; omega), (by omega), (by omega), (by omega), ?_⟩⟩
        all_goals first | (simp only [ua, cS, dk, nA, nB, b1, b2, b3, b7, b8, b9, dm, dp, B0, B6, B9, dA, dB, wA, wB, (ixoV oY), eV_eq, nQ, m0, nR, q1, q2, q3, q4, hβ, nm, seval] <;> rfl) | (simp only [ua, cS, dk, nA, nB, b1, b2, b3, b7, b8, b9, dm, dp, B0, B6, B9, dA, dB, wA, wB, (ixoV oY), eV_eq, nQ, m0, nR, q1, q2, q3, q4, hβ, List.length_set, nm, seval] <;> rfl) | rfl⟩
     · simp only [vz, tyf, cS, dk, nA, nB, b1, b2, b3, b7, b8, b9, dm, dp, B0, B6, B9, dA, dB, wA, wB, (ixoV oY), eV_eq, nQ, m0, nR, nm, seval]
       refine jG (w := 1) (enc := eI) (ys := [k]) (dE := (some 3)) (fun _ => rfl) dC de Tryz.underlying22 (by first | rfl | assumption | (simp only [aK, bk, cT, cS, dk, nA, nB, b1, b2, b3, b7, b8, b9, dm, dp, B0, B6, B9, dA, dB, wA, wB, nm, seval] <;> rfl) | (simp only [aK, bk, fq, fz, fE, fF, tyf, cS, dk, nA, nB, b1, b2, b3, b7, b8, b9, dm, dp, B0, B6, B9, dA, dB, wA, wB, nm, seval]; done)) (Nat.zero_lt_succ _) gr ?_
       simp only [vz, tyf, cS, dk, nA, nB, b1, b2, b3, b7, b8, b9, dm, dp, B0, B6, B9, dA, dB, wA, wB, (ixoV oY), eV_eq, nQ, m0, nR, gr, nm, seval]
       exact ⟨m, Nat.lt_succ_self _, by
        rw [hIB]
        refine ⟨k + 1, [k], .ref (nxB + 16) 0 (List.length ([k])) 1 (List.length ([k])), List.set ys (Int.toNat i) (.ref (nxB + 16) 0 (List.length ([k])) 1 (List.length ([k]))), (by omega), (by omega), hset _, hrow, rfl, (by dsimp only; omega), ?_, ?_, ?_, ?_, ?_, ?_, ?_, ?_, ?_, ?_, ?_, Or.inl ⟨nxB + 16, some 3, rfl, (by dsimp only; omega), (by omega), (by omega), (by omega), ?_⟩⟩
        all_goals first | (simp only [ua, cS, dk, nA, nB, b1, b2, b3, b7, b8, b9, dm, dp, B0, B6, B9, dA, dB, wA, wB, (ixoV oY), eV_eq, nQ, m0, nR, nm, seval] <;> rfl) | (simp only [ua, cS, dk, nA, nB, b1, b2, b3, b7, b8, b9, dm, dp, B0, B6, B9, dA, dB, wA, wB, (ixoV oY), eV_eq, nQ, m0, nR, List.length_set, nm, seval] <;> rfl) | rfl⟩
def qb (ag : List Int) : Nat → Int → (List Int) → Option (LOut (List Int) (Int × (List Int)))
 | 0, _, _ => none
 | k0 + 1, gw, cl => cond (decide (gw < (List.length cl : Int))) (Option.bind (getI cl gw) (fun x3 => Option.bind (getI ag gw) (fun x4 => qb ag k0 (i64.wrap (gw + 1)) (List.set cl (Int.toNat gw) (i64.wrap (x3 + x4)))))) (some (.go (gw, cl)))
def vo (al : GBk) (an : List Int) (ag : List Int) : Option (List Int) := Option.bind (vn al an ag) (fun r1 => cond (aO r1) (lbind (qb ag 1000000 0 r1) (fun r6 => some r6) (fun c5 => some c5.2) (fun _ _ => none)) none)
theorem QM (al : GBk) (an : List Int) (ag : List Int) (R : List Int) (h : vo al an ag = some R) : ak Tryz.prog G0 75 [.agg (cGBk al), .sl (ae eI an) (List.length an) false, .sl (ae eI ag) (List.length ag) false] (.tree (.sl (ae eI R) (List.length R) false)) := by
 refine ak.runR mixed Tryz.call75 Tryz.func75 rfl (by simp [Tryz.ntmps75]; kernel_rfl) ?_
 obtain ⟨KF, h, kF, kN⟩ := cV h
 simp only [vo] at h
 obtain ⟨r7, o8, h⟩ := optI h kN
 try simp only [hs] at h
 simp only [vz, tyf, nm, seval]
 refine kown (args0 := [.agg (cGBk al), .sl (ae eI an) (List.length an) false, .sl (ae eI ag) (List.length ag) false]) (by first | (simp only [nrm, aN] <;> rfl) | rfl) (by simp only [tre, tytre, Bool.and_self]) (Ry _ _ _ _ o8) ?_
 simp only [vz, tyf, nm, seval]
 cases gE : (aO r7)
 ·simp only [gE, hs] at h
  exact absurd h kN
 simp only [gE, hs] at h
 obtain ⟨K9, h, QQ, xD, QR, j4⟩ := fZ h kN
 obtain ⟨f9, GG, h⟩ := call3 h
 obtain ⟨I9, fS⟩ : ∃ I : Nat → St → Prop, I = (fun m st => ∃ (p9 : Nat) (hU : Int) (cL : List Int), p9 = m ∧ st.df = [] ∧ 8 ≤ st.nx ∧ st.H 5 = some (.cells (none) (ae eI cL)) ∧ st.tm 2 = .sl (ae eI ag) (List.length ag) false ∧ st.tm 7 = .ref 5 0 (List.length cL) 1 (List.length cL) ∧ st.tm 8 = .lit (.int .i64 hU) ∧ K9 (f9 p9 hU cL)) := ⟨_, rfl⟩
 refine loopK mixed (by kernel_rfl) I9 1000000 (by rw [fS]; refine ⟨1000000, 0, r7, rfl, rfl, (show 8 ≤ 8 by omega), ?_, ?_, ?_, ?_, h⟩ <;> first | (simp only [ua, nm, seval] <;> rfl) | rfl) ?_
 rintro m ⟨tm, H, dT, df⟩ hinv
 rw [fS] at hinv
 obtain ⟨p9, hU, cL, rfl, hdf, j5, gG, bT, bJ, bx, h⟩ := hinv
 simp only at hdf j5 gG bT bJ bx
 have ic := eR (m := 8) (b := dT) (by omega)
 subst hdf GG
 cases p9 with
 | zero =>
  simp only [qb, hs, reduceCtorEq] at h
  exact absurd h j4
 | succ p9 =>
  simp only [qb, hs, reduceCtorEq] at h
  cases dS : (decide (hU < (List.length cL : Int)))
  ·simp only [dS, hs] at h
   replace h := xD _ h
   try dsimp only at h
   try simp only [hs] at h
   try simp only [vz, tyf, ic, bT, bJ, bx, gG, dS, nm, seval]
   refine cn (x := (.ref 5 0 (List.length cL) 1 (List.length cL))) (by first | (simp only [Tryz.results75, resV, resL, aR, cw, cv, uw, cr, tyf, ic, gG, dS, nm, seval] <;> rfl) | rfl) ?_
   obtain rfl := kF _ h
   refine eJ ?_ ?_
   ·simp only [tre, tytre, Bool.and_self]
   ·first | (simp only [outV, uw, eD, cr, tyf, nrm, aN, ic, bT, bJ, bx, gG, dS, nm, seval] <;> rfl) | rfl
  simp only [dS, hs] at h
  simp only [vz, tyf, ic, bT, bJ, bx, gG, dS, nm, seval]
  refine pI (fun tm => tm 2 = .sl (ae eI ag) (List.length ag) false ∧ tm 7 = .ref 5 0 (List.length cL) 1 (List.length cL) ∧ tm 8 = .lit (.int .i64 hU) ∧ True) (by refine ⟨bT, bJ, bx, trivial⟩ <;> first | (simp only [ua, ic, bT, bJ, bx, gG, dS, nm, seval] <;> rfl) | rfl) ?_
  rintro tm ⟨bF, cq, db, _⟩
  obtain ⟨Hq, kY, h⟩ := optI h j4
  try simp only [hs] at h
  obtain ⟨Hr, nf, h⟩ := optI h j4
  try simp only [hs] at h
  have ka := setA (w := 1) (enc := eI) (fun _ => rfl) kY
  have xN := setB (w := 1) (enc := eI) (i64.wrap (Hq + Hr)) (fun _ => rfl) kY
  simp only [vz, tyf, nm, seval] at xN
  have j6 := setC (w := 1) (enc := eI) cL (Int.toNat hU) (i64.wrap (Hq + Hr)) (fun _ => rfl)
  simp only [vz, tyf, ic, gG, dS, bF, cq, db, (bt kY), (aY nf), ka, xN, j6, nm, seval]
  refine kD ⟨?_, ?_⟩
  ·simp only [kE, kG, fU, kH, and_true, true_and]
   repeat' (first | exact trivial | refine And.intro ?_ ?_ | rw [fU] | rw [kI] | exact Or.inl (by decide +kernel) | exact Or.inl (by dsimp only; decide +kernel) | (refine Or.inr ⟨?_, ?_⟩ <;> simp; done) | (refine Or.inr ⟨?_, ?_⟩ <;> simp <;> omega) | (refine Or.inr ⟨?_, ?_⟩ <;> simp [VEff.wr] <;> omega))
  simp only [vz, tyf, ic, gG, dS, bF, cq, db, (bt kY), (aY nf), ka, xN, j6, nm, seval]
  exact ⟨p9, Nat.lt_succ_self _, by rw [fS]; refine ⟨p9, i64.wrap (hU + 1), (List.set cL (Int.toNat hU) (i64.wrap (Hq + Hr))), rfl, rfl, (show 8 ≤ dT + 20 by omega), ?_, bF, ?_, ?_, (by first | exact h | (simp only [dS]; exact h))⟩ <;> first | (simp only [ua, ic, gG, dS, bF, cq, db, ka, xN, j6, nm, seval] <;> rfl) | rfl⟩
def lk (bm : Bool) : List GBs → Int → (List Int) → Option (LOut (List Int) ((List Int)))
 | [], cb, dj => some (.go dj)
 | e0 :: p0, cb, dj => cond (bm) (cond (aE 8 (List.length (dj ++ [e0.Hours.High]))) (lk bm p0 (cb + 1) (dj ++ [e0.Hours.High])) none) (cond (aE 8 (List.length (dj ++ [e0.Hours.Low]))) (lk bm p0 (cb + 1) (dj ++ [e0.Hours.Low])) none)
def vh (al : GBk) (bm : Bool) : Option (List Int) := cond (aO al.Strokes) (lbind (lk bm al.Strokes 0 ([] : List Int)) (fun r2 => some r2) (fun c1 => some c1) (fun _ _ => none)) none
theorem QL (al : GBk) (bm : Bool) (R : List Int) (h : vh al bm = some R) : ak Tryz.prog G0 33 [.agg (cGBk al), .lit (.bool bm)] (.tree (.sl (ae eI R) (List.length R) false)) := by
 refine ak.runR mixed Tryz.call33 Tryz.func33 rfl (by simp [Tryz.ntmps33]; kernel_rfl) ?_
 obtain ⟨KF, h, kF, kN⟩ := cV h
 simp only [vh] at h
 cases g4 : (aO al.Strokes)
 ·simp only [g4, hs] at h
  exact absurd h kN
 simp only [g4, hs] at h
 simp only [vz, tyf, g4, nm, seval]
 obtain ⟨K3, h, qW, jR, wO, mV⟩ := fZ h kN
 obtain ⟨f3, lN, h⟩ := call3 h
 obtain ⟨I3, fx⟩ : ∃ I : Nat → St → Prop, I = (fun m st => ∃ (p3 : List GBs) (ep : Int) (bP : List Int) (m5 : VV), m = List.length p3 ∧ 0 ≤ ep ∧ List.drop (Int.toNat ep) al.Strokes = p3 ∧ st.df = [] ∧ 4 ≤ st.nx ∧ st.H 0 = some (.cells (some 25) (cGBk al)) ∧ st.tm 1 = .lit (.bool bm) ∧ st.tm 2 = .ptr 0 0 ∧ st.tm 5 = m5 ∧ st.tm 6 = .lit (.int .i64 ep) ∧ ((∃ (β : Nat) (el : Option TypeId), m5 = .ref β 0 (List.length bP) 1 (List.length bP) ∧ β < st.nx ∧ β ≠ 0 ∧ st.H β = some (.cells el (ae eI bP))) ∨ (m5 = .lit (.slice none 0 0) ∧ bP = [])) ∧ K3 (f3 p3 ep bP)) := ⟨_, rfl⟩
 refine loopK mixed (by kernel_rfl) I3 (List.length al.Strokes) (by rw [fx]; refine ⟨al.Strokes, 0, ([] : List Int), .lit (.slice none 0 0), rfl, Int.le_refl _, rfl, rfl, (show 4 ≤ 4 by omega), ?_, ?_, ?_, ?_, ?_, Or.inr ⟨rfl, rfl⟩, h⟩ <;> first | (simp only [ua, nm, seval] <;> rfl) | rfl) ?_
 rintro m ⟨tm, H, eN, df⟩ hinv
 rw [fx] at hinv
 obtain ⟨p3, ep, bP, m5, rfl, cu, cQ, hdf, lO, H5, e6, e7, e8, e9, nS, h⟩ := hinv
 simp only at hdf lO H5 e6 e7 e8 e9 nS
 have gm := eR (m := 4) (b := eN) (by omega)
 subst hdf lN
 rcases nS with ⟨Hs, iQ, rfl, Ht, Hu, fe⟩ | ⟨rfl, rfl⟩
 ·have vF := fK Ht
  have vG := ne_f Hu
  cases p3 with
  | nil =>
   have ct : (decide (ep < (List.length al.Strokes : Int))) = false := ga cu cQ
   simp only [lk, hs, reduceCtorEq] at h
   replace h := jR _ h
   try dsimp only at h
   try simp only [hs] at h
   try simp only [vz, tyf, g4, gm, e6, e7, e8, e9, H5, vF, fe, vG, ct, nm, seval]
   refine cn (x := (.ref Hs 0 (List.length bP) 1 (List.length bP))) (by first | (simp only [Tryz.results33, resV, resL, aR, cw, cv, uw, cr, tyf, g4, gm, H5, vF, fe, vG, ct, nm, seval] <;> rfl) | rfl) ?_
   obtain rfl := kF _ h
   refine eJ ?_ ?_
   ·simp only [tre, tytre, Bool.and_self]
   ·first | (simp only [outV, uw, eD, cr, tyf, nrm, aN, g4, gm, e6, e7, e8, e9, H5, vF, fe, vG, ct, nm, seval] <;> rfl) | rfl
  | cons e3 p3 =>
   have dS : (decide (ep < (List.length al.Strokes : Int))) = true := gb cu cQ
   have kK := eT cu cQ
   have MI := fG cu cQ g4
   simp only [lk, hs, reduceCtorEq] at h
   cases iZ : (bm)
   ·simp only [iZ, hs] at h
    have ja := And.intro g4 (And.intro gm (And.intro H5 (And.intro vF (And.intro fe (And.intro vG (And.intro dS (And.intro MI iZ)))))))
    cases qo : (aE 8 (List.length (bP ++ [e3.Hours.Low])))
    ·simp only [qo, hs] at h
     exact absurd h mV
    simp only [qo, hs] at h
    simp only [vz, tyf, ja, e6, e7, e8, e9, (bd kK), qo, nm, seval]
    refine k_app (w := 1) (enc := eI) (xs := bP) (ys := ([e3.Hours.Low])) (el := iQ) (dE := (some 3)) (fun _ => rfl) dC de Tryz.underlying22 (by first | rfl | assumption | (simp only [aK, bk, cT, ja, nm, seval] <;> rfl) | (simp only [aK, bk, fq, fz, fE, fF, tyf, ja, e6, e7, e8, e9, (bd kK), qo, nm, seval]; done)) (by first | rfl | assumption | (simp only [aK, bk, cT, ja, nm, seval] <;> rfl) | (simp only [aK, bk, fq, fz, fE, fF, tyf, ja, e6, e7, e8, e9, (bd kK), qo, nm, seval]; done)) (Nat.zero_lt_succ _) qo ?_
    simp only [vz, tyf, ja, e6, e7, e8, e9, (bd kK), qo, nm, seval]
    exact ⟨List.length p3, Nat.lt_succ_self _, by rw [fx]; refine ⟨p3, ep + 1, (bP ++ [e3.Hours.Low]), .ref (eN + 15) 0 (List.length (bP ++ [e3.Hours.Low])) 1 (List.length (bP ++ [e3.Hours.Low])), rfl, Int.le_trans cu (Int.le_add_one (Int.le_refl _)), cG cu cQ, rfl, (show 4 ≤ eN + 20 by omega), ?_, ?_, e7, ?_, ?_, Or.inl ⟨eN + 15, (sameEl iQ 3), rfl, (by first | omega | (simp only [nm, seval]; done) | (simp only [nm, seval]; omega)), (by first | omega | (intro hh; simp only [ja, reduceCtorEq] at hh)), ?_⟩, (by first | exact h | (simp only [ja]; exact h))⟩ <;> first | (simp only [ua, ja, e6, e7, e8, e9, nm, seval] <;> rfl) | rfl⟩
   simp only [iZ, hs] at h
   have m6 := And.intro g4 (And.intro gm (And.intro H5 (And.intro vF (And.intro fe (And.intro vG (And.intro dS (And.intro MI iZ)))))))
   cases qp : (aE 8 (List.length (bP ++ [e3.Hours.High])))
   ·simp only [qp, hs] at h
    exact absurd h mV
   simp only [qp, hs] at h
   simp only [vz, tyf, m6, e6, e7, e8, e9, (bd kK), qp, nm, seval]
   refine k_app (w := 1) (enc := eI) (xs := bP) (ys := ([e3.Hours.High])) (el := iQ) (dE := (some 3)) (fun _ => rfl) dC de Tryz.underlying22 (by first | rfl | assumption | (simp only [aK, bk, cT, m6, nm, seval] <;> rfl) | (simp only [aK, bk, fq, fz, fE, fF, tyf, m6, e6, e7, e8, e9, (bd kK), qp, nm, seval]; done)) (by first | rfl | assumption | (simp only [aK, bk, cT, m6, nm, seval] <;> rfl) | (simp only [aK, bk, fq, fz, fE, fF, tyf, m6, e6, e7, e8, e9, (bd kK), qp, nm, seval]; done)) (Nat.zero_lt_succ _) qp ?_
   simp only [vz, tyf, m6, e6, e7, e8, e9, (bd kK), qp, nm, seval]
   exact ⟨List.length p3, Nat.lt_succ_self _, by rw [fx]; refine ⟨p3, ep + 1, (bP ++ [e3.Hours.High]), .ref (eN + 15) 0 (List.length (bP ++ [e3.Hours.High])) 1 (List.length (bP ++ [e3.Hours.High])), rfl, Int.le_trans cu (Int.le_add_one (Int.le_refl _)), cG cu cQ, rfl, (show 4 ≤ eN + 20 by omega), ?_, ?_, e7, ?_, ?_, Or.inl ⟨eN + 15, (sameEl iQ 3), rfl, (by first | omega | (simp only [nm, seval]; done) | (simp only [nm, seval]; omega)), (by first | omega | (intro hh; simp only [m6, reduceCtorEq] at hh)), ?_⟩, (by first | exact h | (simp only [m6]; exact h))⟩ <;> first | (simp only [ua, m6, e6, e7, e8, e9, nm, seval] <;> rfl) | rfl⟩
 ·cases p3 with
  | nil =>
   have hZ : (decide (ep < (List.length al.Strokes : Int))) = false := ga cu cQ
   simp only [lk, hs, reduceCtorEq] at h
   replace h := jR _ h
   try dsimp only at h
   try simp only [hs] at h
   try simp only [vz, tyf, g4, gm, e6, e7, e8, e9, H5, hZ, nm, seval]
   refine cn (x := (.lit (.slice none 0 0))) (by first | (simp only [Tryz.results33, resV, resL, aR, cw, cv, uw, cr, tyf, g4, gm, H5, hZ, nm, seval] <;> rfl) | rfl) ?_
   obtain rfl := kF _ h
   refine eJ ?_ ?_
   ·simp only [tre, tytre, Bool.and_self]
   ·first | (simp only [outV, uw, eD, cr, tyf, nrm, aN, g4, gm, e6, e7, e8, e9, H5, hZ, nm, seval] <;> rfl) | rfl
  | cons e3 p3 =>
   have fw : (decide (ep < (List.length al.Strokes : Int))) = true := gb cu cQ
   have kX := eT cu cQ
   have j6 := fG cu cQ g4
   simp only [lk, hs, reduceCtorEq] at h
   cases j7 : (bm)
   ·simp only [j7, hs] at h
    cases gQ : (aE 8 (List.length (([] : List Int) ++ [e3.Hours.Low])))
    ·simp only [gQ, hs] at h
     exact absurd h mV
    simp only [gQ, hs] at h
    simp only [vz, tyf, g4, gm, e6, e7, e8, e9, H5, fw, (bd kX), j6, j7, gQ, nm, seval]
    refine jG (w := 1) (enc := eI) (ys := ([e3.Hours.Low])) (dE := (some 3)) (fun _ => rfl) dC de Tryz.underlying22 (by first | rfl | assumption | (simp only [aK, bk, cT, gm, H5, nm, seval] <;> rfl) | (simp only [aK, bk, fq, fz, fE, fF, tyf, g4, gm, e6, e7, e8, e9, H5, fw, (bd kX), j6, j7, gQ, nm, seval]; done)) (Nat.zero_lt_succ _) gQ ?_
    simp only [vz, tyf, g4, gm, e6, e7, e8, e9, H5, fw, (bd kX), j6, j7, gQ, nm, seval]
    exact ⟨List.length p3, Nat.lt_succ_self _, by rw [fx]; refine ⟨p3, ep + 1, (([] : List Int) ++ [e3.Hours.Low]), .ref (eN + 15) 0 (List.length (([] : List Int) ++ [e3.Hours.Low])) 1 (List.length (([] : List Int) ++ [e3.Hours.Low])), rfl, Int.le_trans cu (Int.le_add_one (Int.le_refl _)), cG cu cQ, rfl, (show 4 ≤ eN + 20 by omega), ?_, ?_, e7, ?_, ?_, Or.inl ⟨eN + 15, (some 3), rfl, (by first | omega | (simp only [nm, seval]; done) | (simp only [nm, seval]; omega)), (by first | omega | (intro hh; simp only [gm, reduceCtorEq] at hh)), ?_⟩, (by first | exact h | (simp only [fw, j7]; exact h))⟩ <;> first | (simp only [ua, gm, e6, e7, e8, e9, H5, fw, j6, j7, nm, seval] <;> rfl) | rfl⟩
   simp only [j7, hs] at h
   cases rU : (aE 8 (List.length (([] : List Int) ++ [e3.Hours.High])))
   ·simp only [rU, hs] at h
    exact absurd h mV
   simp only [rU, hs] at h
   simp only [vz, tyf, g4, gm, e6, e7, e8, e9, H5, fw, (bd kX), j6, j7, rU, nm, seval]
   refine jG (w := 1) (enc := eI) (ys := ([e3.Hours.High])) (dE := (some 3)) (fun _ => rfl) dC de Tryz.underlying22 (by first | rfl | assumption | (simp only [aK, bk, cT, gm, H5, nm, seval] <;> rfl) | (simp only [aK, bk, fq, fz, fE, fF, tyf, g4, gm, e6, e7, e8, e9, H5, fw, (bd kX), j6, j7, rU, nm, seval]; done)) (Nat.zero_lt_succ _) rU ?_
   simp only [vz, tyf, g4, gm, e6, e7, e8, e9, H5, fw, (bd kX), j6, j7, rU, nm, seval]
   exact ⟨List.length p3, Nat.lt_succ_self _, by rw [fx]; refine ⟨p3, ep + 1, (([] : List Int) ++ [e3.Hours.High]), .ref (eN + 15) 0 (List.length (([] : List Int) ++ [e3.Hours.High])) 1 (List.length (([] : List Int) ++ [e3.Hours.High])), rfl, Int.le_trans cu (Int.le_add_one (Int.le_refl _)), cG cu cQ, rfl, (show 4 ≤ eN + 20 by omega), ?_, ?_, e7, ?_, ?_, Or.inl ⟨eN + 15, (some 3), rfl, (by first | omega | (simp only [nm, seval]; done) | (simp only [nm, seval]; omega)), (by first | omega | (intro hh; simp only [gm, reduceCtorEq] at hh)), ?_⟩, (by first | exact h | (simp only [fw, j7]; exact h))⟩ <;> first | (simp only [ua, gm, e6, e7, e8, e9, H5, fw, j6, j7, nm, seval] <;> rfl) | rfl⟩

end Go.V
end
