/- Part of a proof. -/
import Derived.Test.YtmhlghgbfmcdaaaGreatDoorG5bl
set_option linter.all false
set_option maxRecDepth 4000
set_option maxHeartbeats 40000000
section
namespace Go.V
open Go Go.Proofs IntKind
def mfB (b : GBk) (pl : List Int) (ch : List Int) (s : Nat) : Bool := match ch.getLast? with
 | none => BB b pl 1 s == 0
 | some a => (BB b pl 1 s == EE b pl 1 a.toNat) && (decide (a ∈ nF b s) || hF pl s == hF pl a.toNat)
def skL (rc : List Int → Option (List Int)) (b : GBk) (pl : List Int) (ch : List Int) : List Nat → Option (List Int)
 | [] => none
 | s :: ss => cond (mfB b pl ch s) (cond (EE b pl 1 s == TK b pl) (some (ch ++ [(s : Int)])) (match rc (ch ++ [(s : Int)]) with | some c => some c | none => skL rc b pl ch ss)) (skL rc b pl ch ss)
def skF (b : GBk) (pl : List Int) : Nat → List Int → Option (List Int)
 | 0, _ => none
 | k + 1, ch => skL (skF b pl k) b pl ch (List.range' 0 b.Strokes.length)
structure ChOk (b : GBk) (ch : List Int) (k : Nat) : Prop where
 st : ∀ x ∈ ch, 0 ≤ x ∧ x.toNat < b.Strokes.length
 e : ch = [] → b.Strokes.length + 1 ≤ k
 l : ∀ a, ch.getLast? = some a → b.Strokes.length ≤ a.toNat + k
 n : ch.length ≤ 100
theorem ChOk.pos {b : GBk} {ch : List Int} {k : Nat} (h : ChOk b ch k) : 0 < k := by
 cases hl : ch.getLast? with
 | none => have := h.e (List.getLast?_eq_none_iff.1 hl); omega
 | some a =>
  have h1 := h.l a hl
  have h2 := h.st a (List.mem_of_getLast? hl)
  omega
theorem zL (v : Int) : ∀ (p : List Int) (c : Int), ∃ r, aT (vD v p c) (fun r => some r) (fun _ => some (-1)) (fun _ _ => none) = some r ∧ (decide (r ≥ 0) = decide (v ∈ p) ∨ c < 0)
 | [], c => ⟨-1, rfl, .inl (by simp)⟩
 | e :: p, c => by
  obtain ⟨r, h1, h2⟩ := zL v p (c + 1)
  simp only [vD]
  by_cases h : v = e
  ·subst h
   refine ⟨c, by simp [aT], ?_⟩
   by_cases hc : c < 0
   ·exact .inr hc
   ·exact .inl (by simp; omega)
  ·have hb : (v == e) = false := by simpa using h
   rw [hb, cond_false]
   refine ⟨r, h1, ?_⟩
   by_cases hc : c < 0
   ·exact .inr hc
   ·rcases h2 with h2 | h2
    ·left; rw [h2]; simp [h]
    ·omega
theorem KI {l : List Int} (hl : l.length < 9223372036854775808) (v : Int) : xl l v = some (decide (v ∈ l)) := by
 unfold xl BT
 obtain ⟨r, h1, h2⟩ := zL v l 0
 rw [fU hl, cond_true, h1]
 rcases h2 with h2 | h2
 ·simp only [Option.bind_some, h2]
 ·omega
theorem VJ {b : GBk} (hb : BH b) {pl : List Int} (hp : pl.length = b.Strokes.length) {ch : List Int} (hc : ∀ x ∈ ch, 0 ≤ x ∧ x.toNat < b.Strokes.length) (hn : ch.length ≤ 1000) {s : Int} (h0 : 0 ≤ s) (h1 : s.toNat < b.Strokes.length) {l : List (Gbe × Int)} (hl : InvE b pl l) :
  ∃ l', BU b pl ch s l = some (mfB b pl ch s.toNat, l') ∧ InvE b pl l' := by
 obtain ⟨l1, e1, dY⟩ := Eo hb hp (.inr rfl) hl h0 h1
 unfold BU mfB
 simp only [e1, Option.bind_some]
 cases hg : ch.getLast? with
 | none =>
  have := List.getLast?_eq_none_iff.1 hg
  subst this
  exact ⟨l1, rfl, dY⟩
 | some a =>
  have ham := List.mem_of_getLast? hg
  have ha := hc a ham
  have hne : 1 ≤ ch.length := List.length_pos_of_mem ham
  obtain ⟨l2, e2, fg⟩ := s5 hb hp (.inr rfl) dY ha.1 ha.2
  obtain ⟨x, g1, g2⟩ := getS h0 h1
  have hx := hb.s g2
  have hfew := hx.few (by have := hb.ns; omega)
  have hnF : nF b s.toNat = x.Needs := by unfold nF; rw [g2]
  rw [show ((ch.length : Int) == 0) = false from beq_eq_false_iff_ne.2 (by omega), cond_false, Jg hne (by omega), hg]
  simp only [Option.bind_some, e2]
  cases hE : (BB b pl 1 s.toNat == EE b pl 1 a.toNat) with
  | false => exact ⟨l2, rfl, fg⟩
  | true =>
   simp only [cond_true, g1, Option.bind_some, KI (show x.Needs.length < 9223372036854775808 by omega), hnF, getP hp h0 h1, getP hp ha.1 ha.2]
   cases decide (a ∈ x.Needs) with
   | true => exact ⟨l2, rfl, fg⟩
   | false => exact ⟨l2, rfl, fg⟩
theorem mf_lt {b : GBk} (hb : BH b) (hd : ∀ s, s < b.Strokes.length → 1 ≤ dF b 1 s) {pl ch : List Int} {a : Int} (ha : ch.getLast? = some a) (h0 : 0 ≤ a) (h1 : a.toNat < b.Strokes.length) {s : Nat} (hs : s < b.Strokes.length) (h : mfB b pl ch s = true) : a.toNat < s := by
 unfold mfB at h
 rw [ha] at h
 simp only [Bool.and_eq_true, beq_iff_eq, Bool.or_eq_true, decide_eq_true_eq] at h
 obtain ⟨hE, hw⟩ := h
 rcases hw with hw | hw
 ·exact (hb.nd s a hw).2
 ·refine Nat.lt_of_not_le fun hle => ?_
  have e1 := EE_eq hb pl 1 a.toNat
  have e2 := EE_eq hb pl 1 s
  have d1 := hd a.toNat h1
  have d2 := hd s hs
  by_cases e : s = a.toNat
  ·subst e; omega
  ·have : EE b pl 1 s ≤ BB b pl 1 a.toNat := te hb.nd (fun k => (hb.d 1 k).1) (by omega) hw
   omega
theorem ChOk.next {b : GBk} (hb : BH b) (hd : ∀ s, s < b.Strokes.length → 1 ≤ dF b 1 s) {pl ch : List Int} {k : Nat} (h : ChOk b ch (k + 1)) (hn : ch.length ≤ 50) {s : Nat} (hs : s < b.Strokes.length) (hm : mfB b pl ch s = true) : ChOk b (ch ++ [(s : Int)]) k := by
 refine ⟨fun x hx => ?_, fun e => by simp at e, fun a ha => ?_, by simp; omega⟩
 ·rcases List.mem_append.1 hx with hx | hx
  ·exact h.st x hx
  ·rw [List.mem_singleton.1 hx]; omega
 ·rw [List.getLast?_concat] at ha
  cases ha
  cases hg : ch.getLast? with
  | none => have := h.e (List.getLast?_eq_none_iff.1 hg); simp; omega
  | some a =>
   have ha := h.st a (List.mem_of_getLast? hg)
   have h1 := h.l a hg
   have h2 := mf_lt hb hd hg ha.1 ha.2 hs hm
   simp; omega
end Go.V
end
section
namespace Go.V
open Go Go.Proofs IntKind
def mkOk (b : Nat) (n : Int) : Bool := decide (0 ≤ n) && roomOk b n.toNat
theorem KJ {b : Nat} {n : Int} : mkOk b n = true ↔ 0 ≤ n ∧ n.toNat * b ≤ 140737488355328 := by
 unfold mkOk roomOk
 rw [Bool.and_eq_true, decide_eq_true_eq, decide_eq_true_eq]
theorem KK {v : Value} (n : Nat) : vzeros #[v] n = List.replicate n (ofVal1 v) := by
 unfold vzeros
 rw [List.eq_replicate_iff]
 refine ⟨by simp, fun x hx => ?_⟩
 obtain ⟨i, _, rfl⟩ := List.mem_map.1 hx
 have : i % (#[v] : Array Value).size = 0 := by simp [Nat.mod_one]
 rw [this]
 rfl
theorem Rj {α : Type} {enc : α → List VV} {z : α} {x : VV} (h : enc z = [x]) : ∀ n : Nat, ae enc (List.replicate n z) = List.replicate n x
 | 0 => rfl
 | n + 1 => by rw [List.replicate_succ, List.replicate_succ, fP, h, Rj h n]; rfl
section
variable {P : Program} {G : Glob} {γ : Nat} {tm : Nat → VV} {H : Nat → Option VObj} {α : Type} {enc : α → List VV} {z : α} {t e b : Nat} {n : Int} {v : Value} {x y : Operand} {d : Option Tmp} {ty : TypeId} {pos : String} {af : Array Edge} {g : Option (Nat × Bool)} {k : VV → VEff → Prop}
theorem k_mkS (ha : appOk P t = some (e, 1, b)) (hz : vzero P e = some #[v]) (hzv : enc z = [ofVal1 v]) (hx : ev G tm x = .lit (.int .i64 n)) (hy : ev G tm y = .lit (.int .i64 n)) (hg : mkOk b n = true)
  (h : k (.ref γ 0 (List.replicate n.toNat z).length 1 (List.replicate n.toNat z).length) (.new (.cells (some e) (ae enc (List.replicate n.toNat z))))) : oeK (vop P ⟨d, .makeSlice t x y, ty, pos, af, g⟩ (ev G tm) H γ) k := by
 obtain ⟨hu, inf, zz, hi, hzz, hs, hb, gI, sR, hzs⟩ := Cz ha
 obtain ⟨h0, h1⟩ := KJ.1 hg
 have hzc : zz.cells = #[v] := by
  unfold vzero at hz
  rw [hi] at hz
  simp only [Option.bind_some, hzz, Option.map_some, Option.some.injEq] at hz
  exact hz
 have hk : vmakeSlice P t (.lit (.int .i64 n)) (.lit (.int .i64 n)) = some (List.replicate n.toNat (ofVal1 v), n.toNat, 1) := by
  have h2 : (inf.bytes : Int) * n ≤ 140737488355328 := by
   rw [hb]
   have h3 : ((n.toNat * b : Nat) : Int) ≤ ((140737488355328 : Nat) : Int) := Int.ofNat_le.2 h1
   rw [Int.natCast_mul, Int.toNat_of_nonneg h0, Int.mul_comm] at h3
   exact h3
  have hb0' : 0 < inf.bytes := by rw [hb]; exact sR
  unfold vmakeSlice
  rw [hu]
  simp only [hi, hzz]
  rw [hs, hzc, if_pos ⟨h0, Int.le_refl _, Nat.zero_lt_one, hb0', h2, rfl⟩, Nat.mul_one, KK]
 have he : elemT P t = some e := by simp [elemT, hu]
 rw [Rj hzv, List.length_replicate] at h
 simp only [vop, hx, hy, hk, Option.map_some, he]
 exact h
end
end Go.V
end
section
namespace Go.V
open Go Go.Proofs IntKind
def Ghost (st st' : St) : Prop := (∀ β o', st'.H β = some o' → ∃ o, st.H β = some o ∧ FrozenO st.H st'.H o o') ∧ (∀ β, isDef st.H β → isDef st'.H β) ∧
 (∀ t, Frozen st.H st'.H (st.tm t) (st'.tm t)) ∧ st'.nx = st.nx ∧ st'.df = st.df
theorem Ghost.rep {G : Glob} {c : Ctx} {W : World} {st st' : St} {a : Act} (g : Ghost st st') (s : Sim c W) (hr : StRep G c W st a) :
  Ext c W (c.frz st'.H) W ∧ Sim (c.frz st'.H) W ∧ StRep G (c.frz st'.H) W st' a := by
 obtain ⟨ho, hdd, htm, hnx, hdf⟩ := g
 have ho' : ∀ β o', st'.H β = some o' → ∃ o, c.H β = some o ∧ FrozenO c.H st'.H o o' := by rw [hr.H]; exact ho
 have hl : ∀ β, (st'.H β).isSome = true → c.live β := by
  intro β h
  obtain ⟨o', h'⟩ := Option.isSome_iff_exists.1 h
  obtain ⟨o, h1, _⟩ := ho' β o' h'
  simp [Ctx.live, h1]
 have he : Ext c W (c.frz st'.H) W := C1 hl
 have ab : Abides c W (c.frz st'.H) W := vS hl
 have hloop : ∀ x s pe tm ps asg bo df, st'.H x = some (.loop s pe tm ps asg bo df) → isDef st'.H df := by
  intro x s1 pe tm ps asg bo df hx
  obtain ⟨o, h1, hf⟩ := ho x _ hx
  rcases hf with rfl | ⟨el, cs, cs', rfl, e, _⟩
  ·obtain ⟨l, fn, _, _, _, hd⟩ := s.obj x _ (show c.H x = _ by rw [hr.H]; exact h1)
   exact hdd df (by rw [← hr.H]; exact hd)
  ·cases e
 refine ⟨he, s.frz ho' hloop, rfl, fun t => Ha s hl (by rw [hr.H]; exact htm t) (hr.tm t), ?_, ?_, hr.G.abides ab⟩
 ·rw [hnx]; exact hr.nx
 ·rw [hdf]; exact hr.df.abides ab
theorem VWp.ghost {P : Program} {G : Glob} {n : Nat} {code : Code} {Q : VExit → St → Prop} {st : St} (h : VWp P G n code (fun e s => ∃ s', Ghost s s' ∧ Q e s') st) : VWp P G n code Q st := by
 intro ro c W a hro s hr hsz
 refine wpIn_mono (h ro c W a hro s hr hsz) ?_
 rintro e a' W' ⟨ve, c', st', he, hext, hs', hr', hsz', hu, hle, s2, g, hq⟩
 obtain ⟨e2, h2, r2⟩ := g.rep hs' hr'
 refine ⟨ve, c'.frz s2.H, s2, ?_, hext.trans e2, h2, r2, hsz', fun β hb => hu β hb, by rw [g.2.2.2.1]; exact hle, hq⟩
 cases ve with
 | panic x =>
  obtain ⟨v, e1, hv⟩ := he
  exact ⟨v, e1, Rep.abides (e2.abides hs') _ hv⟩
 | normal => exact he
 | exit id => exact he
 | goto l => exact he
 | ret => exact he
theorem Ghost.refl (st : St) : Ghost st st := ⟨fun β o' h => ⟨o', h, .inl rfl⟩, fun _ h => h, fun _ => .inl rfl, rfl, rfl⟩
theorem FrozenL.snoc {H H' : Nat → Option VObj} {x y : VV} (h : Frozen H H' x y) : ∀ (cs : List VV), FrozenL H H' (cs ++ [x]) (cs ++ [y])
 | [] => ⟨h, trivial⟩
 | c :: cs => ⟨.inl rfl, FrozenL.snoc h cs⟩
theorem Ghost.snoc {tm : Nat → VV} {H : Nat → Option VObj} {nx : Nat} {df : List VDef} {γ ε n w cp : Nat} {e1 e2 : Option TypeId} {cs ys : List VV} (hγ : H γ = some (.cells e1 ys)) (hε : H ε = some (.cells e2 (cs ++ [.ref γ 0 n w cp]))) (hne : ε ≠ γ) (ht : treeL ys = true) (hl : ys.length = n * w) :
  Ghost ⟨tm, H, nx, df⟩ ⟨tm, updH (without H γ) ε (.cells e2 (cs ++ [.sl ys n false])), nx, df⟩ := by
 have hg : gone H (updH (without H γ) ε (.cells e2 (cs ++ [.sl ys n false]))) γ = some (.cells e1 ys) := by
  unfold gone
  rw [bc, if_neg (Ne.symm hne)]
  simp [without, hγ]
 have hfz : Frozen H (updH (without H γ) ε (.cells e2 (cs ++ [.sl ys n false]))) (.ref γ 0 n w cp) (.sl ys n false) := by
  refine .inr (.inr ⟨ys.length + 2, ?_⟩)
  unfold sealV
  have : (VV.ref γ 0 n w cp).tree = false := rfl
  rw [this]
  simp only [Bool.false_eq_true, if_false, hg, Nat.zero_le, if_true, List.drop_zero]
  rw [List.take_of_length_le (by omega), om ys _ ht (by omega)]
  rfl
 refine ⟨?_, ?_, fun _ => .inl rfl, rfl, rfl⟩
 ·intro β o' h
  simp only [bc] at h
  by_cases hb : β = ε
  ·subst hb
   rw [if_pos rfl] at h
   cases h
   exact ⟨_, hε, .inr ⟨e2, _, _, rfl, rfl, FrozenL.snoc hfz cs⟩⟩
  ·rw [if_neg hb] at h
   simp only [bm] at h
   split at h
   ·cases h
   ·exact ⟨o', h, .inl rfl⟩
 ·rintro β ⟨ds, h⟩
  refine ⟨ds, ?_⟩
  have h : H β = some (.deferred ds) := h
  show updH (without H γ) ε _ β = _
  have b1 : β ≠ ε := by rintro rfl; rw [hε] at h; cases h
  have b2 : β ≠ γ := by rintro rfl; rw [hγ] at h; cases h
  rw [bc, if_neg b1, bm, if_neg b2]
  exact h
section
variable {P : Program} {H : Nat → Option VObj} {γ : Nat} {k : VV → VEff → Prop} {t t2 e e2 β δ cx : Nat} {b : Nat} {el jT : Option TypeId} {cs : List VV} {y : VV}
end
section
variable {P : Program} {H : Nat → Option VObj} {γ : Nat} {k : VV → VEff → Prop} {t t2 e e2 β δ cx : Nat} {b : Nat} {el jT : Option TypeId} {y : VV} {α : Type} {enc : α → List VV} {xs : List α} {a : α}
end
end Go.V
end
section
namespace Go.V
open Go Go.Proofs IntKind
def Look (st st' : St) : Prop := st'.nx = st.nx ∧ ∀ (G : Glob) (c : Ctx) (W : World) (a : Act), Sim c W → StRep G c W st a → ∃ c', Ext c W c' W ∧ Sim c' W ∧ StRep G c' W st' a ∧ ∀ β, c'.used β → c.used β
theorem Look.trans {a b c : St} (h1 : Look a b) (h2 : Look b c) : Look a c := by
  refine ⟨h2.1.trans h1.1, fun G x W y s hr => ?_⟩
  obtain ⟨c1, e1, s1, r1, u1⟩ := h1.2 G x W y s hr
  obtain ⟨c2, e2, s2, r2, u2⟩ := h2.2 G c1 W y s1 r1
  exact ⟨c2, e1.trans e2, s2, r2, fun β hb => u1 β (u2 β hb)⟩
theorem Look.ghost {st st' : St} (g : Ghost st st') : Look st st' := by
  refine ⟨g.2.2.2.1, fun G c W a s hr => ?_⟩
  obtain ⟨e2, h2, r2⟩ := g.rep s hr
  exact ⟨c.frz st'.H, e2, h2, r2, fun β hb => hb⟩
theorem zM {c : Ctx} {W : World} {x y : VV} {Z : List VV} (h : ∀ v, Rep c W x v → Rep c W y v) : ∀ (A : List VV) (l : List Value), RepL c W (A ++ x :: Z) l → RepL c W (A ++ y :: Z) l
  | [], _, ⟨u, us, e, h1, h2⟩ => ⟨u, us, e, h _ h1, h2⟩
  | _ :: A, _, ⟨u, us, e, h1, h2⟩ => ⟨u, us, e, h1, zM h A us h2⟩
theorem Look.nil {tm : Nat → VV} {H : Nat → Option VObj} {nx : Nat} {df : List VDef} {β : Nat} {el : Option TypeId} {A Z : List VV} (hβ : H β = some (.cells el (A ++ .lit (.slice none 0 0) :: Z))) :
    Look ⟨tm, H, nx, df⟩ ⟨tm, updH H β (.cells el (A ++ .sl [] 0 false :: Z)), nx, df⟩ := by
  refine ⟨rfl, fun G c W a s hr => ?_⟩
  have hc : c.H β = some (.cells el (A ++ .lit (.slice none 0 0) :: Z)) := by rw [hr.H]; exact hβ
  have hl : c.live β := by simp [Ctx.live, hc]
  have he : Ext c W (c.upd β (.cells el (A ++ .sl [] 0 false :: Z))) W := Ext.upd hl (But.self W _)
  have ab := he.abides s
  have hs : Sim (c.upd β (.cells el (A ++ .sl [] 0 false :: Z))) W := by
    refine Sim.upd s hl (But.self W _) (fun ⟨ds, hd⟩ => by rw [hc] at hd; cases hd) ?_
    obtain ⟨arr, e, a1, a2, a3, a4, a5⟩ := s.obj β _ hc
    refine ⟨arr, e, a1, a2, by simpa using a3, ?_, a5⟩
    have hlen : (A ++ VV.lit (.slice none 0 0) :: Z).length = (A ++ VV.sl [] 0 false :: Z).length := by simp
    rw [hlen] at a4
    refine zM (x := .lit (.slice none 0 0)) (fun v hv => ?_) A _ (RepL.abides ab _ a4)
    have e : v = .slice none 0 0 := hv
    subst e
    exact ⟨none, 0, rfl, Nat.le_refl _, fun h => (by cases h), .inl rfl⟩
  refine ⟨_, he, hs, ⟨?_, fun t => Rep.abides ab _ (hr.tm t), hr.nx, hr.df.abides ab, hr.G.abides ab⟩, fun β hb => hb⟩
  show updH c.H β _ = _
  rw [hr.H]
theorem FrozenL.mid {H H' : Nat → Option VObj} {x y : VV} (h : Frozen H H' x y) (Z : List VV) : ∀ (cs : List VV), FrozenL H H' (cs ++ x :: Z) (cs ++ y :: Z)
  | [] => ⟨h, FrozenL.refl Z⟩
  | c :: cs => ⟨.inl rfl, FrozenL.mid h Z cs⟩
where
  FrozenL.refl : ∀ Z : List VV, FrozenL H H' Z Z
    | [] => trivial
    | _ :: Z => ⟨.inl rfl, FrozenL.refl Z⟩
theorem Ghost.mid {tm : Nat → VV} {H : Nat → Option VObj} {nx : Nat} {df : List VDef} {γ ε n w cp : Nat} {e1 e2 : Option TypeId} {cs ys Z : List VV} (hγ : H γ = some (.cells e1 ys)) (hε : H ε = some (.cells e2 (cs ++ .ref γ 0 n w cp :: Z))) (hne : ε ≠ γ) (ht : treeL ys = true) (hl : ys.length = n * w) :
    Ghost ⟨tm, H, nx, df⟩ ⟨tm, updH (without H γ) ε (.cells e2 (cs ++ .sl ys n false :: Z)), nx, df⟩ := by
  have hg : gone H (updH (without H γ) ε (.cells e2 (cs ++ .sl ys n false :: Z))) γ = some (.cells e1 ys) := by
    unfold gone
    rw [bc, if_neg (Ne.symm hne)]
    simp [without, hγ]
  have hfz : Frozen H (updH (without H γ) ε (.cells e2 (cs ++ .sl ys n false :: Z))) (.ref γ 0 n w cp) (.sl ys n false) := by
    refine .inr (.inr ⟨ys.length + 2, ?_⟩)
    unfold sealV
    have : (VV.ref γ 0 n w cp).tree = false := rfl
    rw [this]
    simp only [Bool.false_eq_true, if_false, hg, Nat.zero_le, if_true, List.drop_zero]
    rw [List.take_of_length_le (by omega), om ys _ ht (by omega)]
    rfl
  refine ⟨?_, ?_, fun _ => .inl rfl, rfl, rfl⟩
  · intro β o' h
    simp only [bc] at h
    by_cases hb : β = ε
    · subst hb
      rw [if_pos rfl] at h
      cases h
      exact ⟨_, hε, .inr ⟨e2, _, _, rfl, rfl, FrozenL.mid hfz Z cs⟩⟩
    · rw [if_neg hb] at h
      simp only [bm] at h
      split at h
      · cases h
      · exact ⟨o', h, .inl rfl⟩
  · rintro β ⟨ds, h⟩
    refine ⟨ds, ?_⟩
    have h : H β = some (.deferred ds) := h
    show updH (without H γ) ε _ β = _
    have b1 : β ≠ ε := by rintro rfl; rw [hε] at h; cases h
    have b2 : β ≠ γ := by rintro rfl; rw [hγ] at h; cases h
    rw [bc, if_neg b1, bm, if_neg b2]
    exact h
theorem loopKL {P : Program} {G : Glob} (hm : P.follows .mixedOrders = true) {n : Nat} {x : Code} {Q : VExit → St → Prop} {st : St} (ho : codeOk n x = true) (I : Nat → St → Prop) (m : Nat) (h0 : I m st)
    (round : ∀ m st, I m st → CWp P G n x (VExit.then (fun st' => ∃ m', m' < m ∧ ∃ s2, Look st' s2 ∧ I m' s2) Q) st) : CWp P G n (.loop x) Q st := by
  refine VWp.loop I h0 fun m st hI => ?_
  have h1 := oM hm x _ st ho (round m st hI)
  intro ro c W a hro s hr hsz
  refine wpIn_mono (h1 ro c W a hro s hr hsz) ?_
  rintro e a' W' ⟨ve, c', st', he, hext, hs', hr', hsz', hu, hle, hq⟩
  cases ve with
  | normal =>
    obtain ⟨m', hlt, s2, g, VK⟩ := hq
    obtain ⟨c2, e2, h2, r2, u2⟩ := g.2 G c' W' a' hs' hr'
    exact ⟨.normal, c2, s2, he, hext.trans e2, h2, r2, hsz', fun β hb => hu β (u2 β hb), by rw [g.1]; exact hle, m', hlt, VK⟩
  | exit id => exact ⟨_, c', st', he, hext, hs', hr', hsz', hu, hle, hq⟩
  | goto l => exact ⟨_, c', st', he, hext, hs', hr', hsz', hu, hle, hq⟩
  | ret => exact ⟨_, c', st', he, hext, hs', hr', hsz', hu, hle, hq⟩
  | panic x => exact ⟨_, c', st', he, hext, hs', hr', hsz', hu, hle, hq⟩
def wt (da : Int) : List Int → Int → Option (LOut (Bool) (Unit))
 | [], ct => some (.go ())
 | e0 :: p0, ct => cond (e0 == da) (some (.ret true)) (wt da p0 (ct + 1))
def rF (bF : List Int) (da : Int) : Option (Bool) := cond (aF bF) (aT (wt da bF 0) (fun r2 => some r2) (fun c1 => some false) (fun _ _ => none)) none
theorem CY (bF : List Int) (da : Int) (R : Bool) (h : rF bF da = some R) : al Tryz.prog G0 35 [.sl (ae eI bF) (List.length bF) false, .lit (.int .i64 da)] (.tree (.lit (.bool R))) := by
 refine al.runR mixed Tryz.call35 Tryz.func35 rfl (by simp [Tryz.ntmps35]; kernel_rfl) ?_
 obtain ⟨KF, h, kF, kN⟩ := cR h
 simp only [rF] at h
 cases g4 : (aF bF)
 ·simp only [g4, hs] at h
  exact absurd h kN
 simp only [g4, hs] at h
 simp only [vz, tyf, g4, nm, seval]
 obtain ⟨K3, h, qQ, lA, xk, pn⟩ := fa h kN
 obtain ⟨f3, mM, h⟩ := call2 h
 obtain ⟨I3, fV⟩ : ∃ I : Nat → St → Prop, I = (fun m st => ∃ (p3 : List Int) (ca : Int), m = List.length p3 ∧ 0 ≤ ca ∧ List.drop (Int.toNat ca) bF = p3 ∧ st.df = [] ∧ 2 ≤ st.nx ∧ st.tm 0 = .sl (ae eI bF) (List.length bF) false ∧ st.tm 1 = .lit (.int .i64 da) ∧ st.tm 5 = .lit (.int .i64 ca) ∧ K3 (f3 p3 ca)) := ⟨_, rfl⟩
 refine loopK mixed (by kernel_rfl) I3 (List.length bF) (by rw [fV]; refine ⟨bF, 0, rfl, Int.le_refl _, rfl, rfl, (show 2 ≤ 2 by omega), ?_, ?_, ?_, h⟩ <;> first | (simp only [ua, nm, seval] <;> rfl) | rfl) ?_
 rintro m ⟨tm, H, fh, df⟩ hinv
 rw [fV] at hinv
 obtain ⟨p3, ca, rfl, cu, dg, hdf, mN, e5, e6, e7, h⟩ := hinv
 simp only at hdf mN e5 e6 e7
 have n8 := fb (m := 2) (b := fh) (by omega)
 subst hdf mM
 cases p3 with
 | nil =>
  have d9 : (decide (ca < (List.length bF : Int))) = false := fc cu dg
  simp only [wt, hs, reduceCtorEq] at h
  replace h := lA _ h
  try dsimp only at h
  try simp only [hs] at h
  try simp only [vz, tyf, g4, n8, e5, e6, e7, d9, nm, seval]
  obtain rfl := kF _ h
  exact bz Tryz.results35 rfl
 | cons e3 p3 =>
  have gJ : (decide (ca < (List.length bF : Int))) = true := fe cu dg
  have ry := dD cu dg
  have wu := eG cu dg g4
  simp only [wt, hs, reduceCtorEq] at h
  cases dW : (e3 == da)
  ·simp only [dW, hs] at h
   simp only [vz, tyf, g4, n8, e5, e6, e7, gJ, (aw ry), wu, dW, nm, seval]
   exact ⟨List.length p3, Nat.lt_succ_self _, by rw [fV]; refine ⟨p3, ca + 1, rfl, Int.le_trans cu (Int.le_add_one (Int.le_refl _)), cC cu dg, rfl, (show 2 ≤ fh + 13 by omega), e5, e6, ?_, (by first | exact h | (simp only [gJ, dW]; exact h))⟩ <;> first | (simp only [ua, n8, e5, e6, e7, gJ, wu, dW, nm, seval] <;> rfl) | rfl⟩
  simp only [dW, hs] at h
  try simp only [vz, tyf, g4, n8, e5, e6, e7, gJ, (aw ry), wu, dW, nm, seval]
  replace h := qQ _ h
  try dsimp only at h
  obtain rfl := kF _ h
  exact bz Tryz.results35 rfl
def pS (ak : GBk) (ai : List Int) (cl : Int) (cW : Int) : Option (Bool) := cond (decide (cl < cW)) (Option.bind (getI ai cl) (fun x1 => Option.bind (getI ai cW) (fun x2 => cond (x1 == x2) (some true) (Option.bind (getI ak.Strokes cW) (fun x3 => Option.bind (rF x3.Needs cl) (fun r4 => some r4)))))) (some false)
theorem Rk (ak : GBk) (ai : List Int) (cl : Int) (cW : Int) (R : Bool) (h : pS ak ai cl cW = some R) : al Tryz.prog G0 84 [.agg (cGBk ak), .sl (ae eI ai) (List.length ai) false, .lit (.int .i64 cl), .lit (.int .i64 cW)] (.tree (.lit (.bool R))) := by
 refine al.runR mixed Tryz.call84 Tryz.func84 rfl (by simp [Tryz.ntmps84]; kernel_rfl) ?_
 obtain ⟨KF, h, kF, kN⟩ := cR h
 simp only [pS] at h
 simp only [vz, tyf, nm, seval]
 refine j3 (fun tm => tm 1 = .sl (ae eI ai) (List.length ai) false ∧ tm 2 = .lit (.int .i64 cl) ∧ tm 3 = .lit (.int .i64 cW) ∧ tm 4 = .ptr 0 0 ∧ True) (by refine ⟨?_, ?_, ?_, ?_, trivial⟩ <;> first | (simp only [ua, nm, seval] <;> rfl) | rfl) ?_
 rintro tm ⟨e5, e6, e7, e8, _⟩
 cases d9 : (decide (cl < cW))
 ·simp only [d9, hs] at h
  try simp only [vz, tyf, e5, e6, e7, e8, d9, nm, seval]
  obtain rfl := kF _ h
  exact bz Tryz.results84 rfl
 simp only [d9, hs] at h
 obtain ⟨KL, z8, h⟩ := optI h kN
 try simp only [hs] at h
 obtain ⟨VL, gH, h⟩ := optI h kN
 try simp only [hs] at h
 cases bw : (KL == VL)
 ·simp only [bw, hs] at h
  obtain ⟨mz, dZ, h⟩ := optI h kN
  try simp only [hs] at h
  obtain ⟨mR, xo, h⟩ := optI h kN
  try simp only [hs] at h
  simp only [vz, tyf, e5, e6, e7, e8, d9, (aw z8), (aw gH), bw, (aM dZ), nm, seval]
  refine dktA (CY _ _ _ xo) ?_
  refine bM (fun tm => tm 12 = .lit (.bool true) ∧ tm 22 = .lit (.bool false) ∧ tm 30 = .lit (.bool mR) ∧ True) (by refine ⟨?_, ?_, ?_, trivial⟩ <;> first | (simp only [ua, e5, e6, e7, e8, d9, bw, nm, seval] <;> rfl) | rfl) ?_
  rintro tm ⟨cP, gb, fQ, _⟩
  try simp only [vz, tyf, d9, (aw z8), (aw gH), bw, (aM dZ), cP, gb, fQ, nm, seval]
  obtain rfl := kF _ h
  exact bz Tryz.results84 rfl
 simp only [bw, hs] at h
 try simp only [vz, tyf, e5, e6, e7, e8, d9, (aw z8), (aw gH), bw, nm, seval]
 obtain rfl := kF _ h
 exact bz Tryz.results84 rfl
def eV (x : VV) : List VV := [x]
theorem eV_eq {x : VV} : eV x = [x] := rfl
theorem zN : ∀ xs : List VV, ae eV xs = xs
  | [] => rfl
  | x :: xs => by rw [fP, zN xs]; rfl
theorem ixoV {xs : List VV} {x : VV} {i : Int} (h : getI xs i = some x) : (∀ (H : Nat → Option VObj) (β c : Nat) (k : IntKind), aE Tryz.prog H 71 (.ref β 0 xs.length 1 c) (.lit (.int k i)) = if (H β).isSome = true then some (.ptr β (i.toNat * 1)) else none) ∧ (ae eV xs).drop (i.toNat * 1) = eV x ++ ae eV (xs.drop (i.toNat + 1)) ∧ (i.toNat * 1 ≤ (ae eV xs).length) = True := ixO Tryz.underlying71 (by kernel_rfl : szT Tryz.prog 22 = some 1) (fun _ => rfl) h
def nv (b : GBk) (plan : List Int) (i : Int) : Nat → Int → List Int → Option (List Int)
 | 0, _, w => some w
 | m + 1, k, w => Option.bind (pS b plan k i) (fun r => cond r (cond (roomOk 8 (w ++ [k]).length) (nv b plan i m (k + 1) (w ++ [k])) none) (nv b plan i m (k + 1) w))
def oN (b : GBk) (plan : List Int) : Nat → Int → List (List Int) → List Int → Option (List (List Int) × List Int)
 | 0, _, pre, bg => some (pre, bg)
 | m + 1, i, pre, bg => Option.bind (nv b plan i i.toNat 0 []) (fun w => oN b plan m (i + 1) (pre ++ [w]) (List.set bg i.toNat (-1)))
def rG (aj : List Int) (bW : Int) (dR : List Int) : List Int → Int → Option (LOut (Bool) (Unit))
 | [], zO => some (.go ())
 | e2 :: p2, zO => Option.bind (getI dR e2) (fun CZ => cond (decide (CZ < 0)) (some (.ret false)) (Option.bind (getI aj e2) (fun wv => cond (decide ((i64.wrap (CZ + wv)) > bW)) (some (.ret false)) (rG aj bW dR p2 (zO + 1)))))
def oO (bf : List (List Int)) (ai : List Int) (aj : List Int) (bW : Int) : List Int → Int → Int → (List Int) → Option (LOut (List Int) (Int × (List Int)))
 | [], eQ, iE, dR => some (.go (iE, dR))
 | e1 :: p1, eQ, iE, dR => Option.bind (getI dR eQ) (fun mz => cond (decide (mz < 0)) (Option.bind (getI bf eQ) (fun Da => cond (aF Da) (aT (rG aj bW dR Da 0) (fun ff => cond (ff) (oO bf ai aj bW p1 (eQ + 1) (i64.wrap (iE - 1)) (List.set dR (Int.toNat eQ) bW)) (oO bf ai aj bW p1 (eQ + 1) iE dR)) (fun Y1 => oO bf ai aj bW p1 (eQ + 1) (i64.wrap (iE - 1)) (List.set dR (Int.toNat eQ) bW)) (fun _ _ => none)) none)) (oO bf ai aj bW p1 (eQ + 1) iE dR))
def pT (bf : List (List Int)) (ai : List Int) (aj : List Int) : Nat → Int → Int → (List Int) → Option (LOut (List Int) (Int × Int × (List Int)))
 | 0, _, _, _ => none
 | k0 + 1, i9, bW, bE => cond (decide (i9 > 0)) (cond (aF ai) (aT (oO bf ai aj bW ai 0 i9 bE) (fun VM => some (.ret VM)) (fun Rl => pT bf ai aj k0 Rl.1 (i64.wrap (bW + 1)) Rl.2) (fun _ _ => none)) none) (some (.go (i9, bW, bE)))
def wx (ak : GBk) (ai : List Int) (aj : List Int) : Option (List Int) := cond (mkOk 8 (List.length ai : Int)) (cond (mkOk 24 (List.length ai : Int)) (cond (aF ai) (Option.bind (oN ak ai ai.length 0 [] (List.replicate (Int.toNat (List.length ai : Int)) 0)) (fun rw => aT (pT rw.1 ai aj 1000000 (List.length ai : Int) 0 rw.2) (fun tq => some tq) (fun VN => some VN.2.2) (fun _ _ => none))) none) none) none
theorem Rm (ak : GBk) (ai : List Int) (aj : List Int) (R : List Int) (h : wx ak ai aj = some R) : al Tryz.prog G0 78 [.agg (cGBk ak), .sl (ae eI ai) (List.length ai) false, .sl (ae eI aj) (List.length aj) false] (.own (ae eI R) R.length 1) := by
 refine al.run mixed Tryz.call78 Tryz.func78 rfl (by simp [Tryz.ntmps78]; kernel_rfl) ?_
 obtain ⟨KF, h, kF, kN⟩ := cR h
 simp only [wx] at h
 cases dO : (mkOk 8 (List.length ai : Int))
 ·simp only [dO, hs] at h
  exact absurd h kN
 simp only [dO, hs] at h
 try simp only [vz, tyf, dO, nm, seval]
 refine k_mkS (enc := eI) (z := (0 : Int)) gi (by kernel_rfl) rfl (by first | (simp only [sq, sv, su, qX, dO, nm, seval] <;> rfl) | rfl) (by first | (simp only [sq, sv, su, qX, dO, nm, seval] <;> rfl) | rfl) dO ?_
 cases ed : (mkOk 24 (List.length ai : Int))
 ·simp only [ed, hs] at h
  exact absurd h kN
 simp only [ed, hs] at h
 try simp only [vz, tyf, dO, ed, nm, seval]
 refine k_mkS (enc := eV) (z := .lit (.slice none 0 0)) I0 (by kernel_rfl) rfl (by first | (simp only [sq, sv, su, qX, dO, ed, nm, seval] <;> rfl) | rfl) (by first | (simp only [sq, sv, su, qX, dO, ed, nm, seval] <;> rfl) | rfl) ed ?_
 simp only [vz, tyf, dO, ed, nm, seval]
 cases gl : aF ai
 ·simp only [gl, hs] at h
  exact absurd h kN
 simp only [gl, hs] at h
 rcases ob : oN ak ai ai.length 0 [] (List.replicate (Int.toNat (List.length ai : Int)) 0) with _ | ⟨bf, bg⟩
 ·simp only [ob, hs] at h
  exact absurd h kN
 simp only [ob, hs] at h
 obtain ⟨IA, hIA⟩ : ∃ I : Nat → St → Prop, I = (fun m st => ∃ (p : List Int) (i : Int) (pre : List (List Int)) (lp : List Int) (xs : List VV), m = List.length p ∧ 0 ≤ i ∧ List.drop (Int.toNat i) ai = p ∧ pre.length = i.toNat ∧ lp.length = ai.length ∧ xs = ae (eSl eI) pre ++ List.replicate m (.lit (.slice none 0 0)) ∧ i.toNat + m = ai.length ∧ oN ak ai m i pre lp = some (bf, bg) ∧ st.df = [] ∧ 12 ≤ st.nx ∧ st.H 0 = some (.cells (some 25) (cGBk ak)) ∧ st.H 6 = some (.cells (some 3) (ae eI lp)) ∧ st.H 9 = some (.cells (some 22) (ae eV xs)) ∧ st.tm 1 = .sl (ae eI ai) (List.length ai) false ∧ st.tm 2 = .sl (ae eI aj) (List.length aj) false ∧ st.tm 3 = .ptr 0 0 ∧ st.tm 7 = .lit (.int .i64 (List.length ai : Int)) ∧ st.tm 8 = .ref 6 0 (List.length lp) 1 (List.length lp) ∧ st.tm 9 = .ref 9 0 (List.length xs) 1 (List.length xs) ∧ st.tm 10 = .lit (.int .i64 i)) := ⟨_, rfl⟩
 refine loopKL mixed (by kernel_rfl) IA (List.length ai) (by rw [hIA]; refine ⟨ai, 0, [], List.replicate (Int.toNat (List.length ai : Int)) 0, List.replicate (Int.toNat (List.length ai : Int)) (.lit (.slice none 0 0)), rfl, Int.le_refl _, rfl, rfl, (by simp), (by simp [gv]), (by simp), ob, rfl, (show 12 ≤ 12 by omega), ?_, ?_, ?_, ?_, ?_, ?_, ?_, ?_, ?_, ?_⟩ <;> first | (simp only [ua, nm, seval] <;> rfl) | rfl) ?_
 rintro m ⟨tm, H, nxA, df⟩ hinv
 rw [hIA] at hinv
 obtain ⟨p, i, pre, lp, xs, rfl, hi, hp, hpre, hbg, hxs, hil, hrw, hdf, hnA, A0, A6, A9, a1, a2, a3, a7, a8, a9, tK⟩ := hinv
 simp only at hdf hnA A0 A6 A9 a1 a2 a3 a7 a8 a9 tK
 have nA := fb (m := 12) (b := nxA) (by omega)
 subst hdf
 have hxl : xs.length = ai.length := by
  rw [hxs, List.length_append, fm (w := 1) (enc := eSl eI) (fun _ => rfl), List.length_replicate]
  omega
 cases p with
 | nil =>
  have dA : (decide (i < (List.length ai : Int))) = false := fc hi hp
  simp only [List.length_nil, oN, Option.some.injEq, Prod.mk.injEq] at hrw
  obtain ⟨rfl, rfl⟩ := hrw
  simp only [List.length_nil, List.replicate_zero, List.append_nil] at hxs
  have VO : xs.length = pre.length := by rw [hxs, fm (w := 1) (enc := eSl eI) (fun _ => rfl)]; omega
  rw [VO] at a9
  rw [zN, hxs] at A9
  simp only [vz, tyf, dO, ed, nA, a1, a2, a3, a7, a8, a9, tK, A0, A6, A9, dA, nm, seval]
  obtain ⟨JU, h, z9, t4, JV, nq⟩ := fa h kN
  obtain ⟨JW, t5, h⟩ := call4 h
  obtain ⟨JX, kq⟩ : ∃ I : Nat → St → Prop, I = (fun m st => ∃ (jY : Nat) (gQ : Int) (cF : Int) (db : List Int), jY = m ∧ st.df = [] ∧ 14 ≤ st.nx ∧ st.H 6 = some (.cells ((some 3)) (ae eI db)) ∧ st.H 9 = some (.cells ((some 22)) (ae (eSl eI) pre)) ∧ st.tm 2 = .sl (ae eI aj) (List.length aj) false ∧ st.tm 7 = .lit (.int .i64 (List.length ai : Int)) ∧ st.tm 8 = .ref 6 0 (List.length db) 1 (List.length db) ∧ st.tm 9 = .ref 9 0 (List.length pre) 1 (List.length pre) ∧ st.tm 12 = .lit (.int .i64 gQ) ∧ st.tm 13 = .lit (.int .i64 cF) ∧ JU (JW jY gQ cF db)) := ⟨_, rfl⟩
  refine loopK mixed (by kernel_rfl) JX 1000000 (by rw [kq]; refine ⟨1000000, (List.length ai : Int), 0, lp, rfl, rfl, (show 14 ≤ nxA + 6 by omega), ?_, ?_, ?_, ?_, ?_, ?_, ?_, ?_, h⟩ <;> first | (simp only [ua, nA, a1, a2, a3, a7, a8, a9, tK, A0, A6, A9, dA, nm, seval] <;> rfl) | rfl) ?_
  rintro m ⟨tm, H, dI, df⟩ hinv
  rw [kq] at hinv
  obtain ⟨jY, gQ, cF, db, rfl, hdf, t6, wy, gu, du, dr, fW, gh, i7, jU, h⟩ := hinv
  simp only at hdf t6 wy gu du dr fW gh i7 jU
  have rH := fb (m := 14) (b := dI) (by omega)
  subst hdf t5
  cases jY with
  | zero =>
   simp only [pT, hs, reduceCtorEq] at h
   exact absurd h nq
  | succ jY =>
   simp only [pT, hs, reduceCtorEq] at h
   cases kh : (decide (gQ > 0))
   ·simp only [kh, hs] at h
    replace h := t4 _ h
    try dsimp only at h
    try simp only [hs] at h
    try simp only [vz, tyf, dO, ed, rH, du, dr, fW, gh, i7, jU, wy, gu, kh, nm, seval]
    obtain rfl := kF _ h
    exact ⟨rfl, .ref 6 0 (List.length db) 1 (List.length db), (by first | (simp only [Tryz.results78, resV, resL, aO, cj, ck, uw, cr, tyf, dO, ed, rH, wy, gu, kh, nm, seval] <;> rfl) | rfl), (ae eI db).length + 1, 6, _, ae eI db, ⟨_, rfl⟩, wy, om _ _ (eI_ok.treeL _) (Nat.lt_succ_self _)⟩
   simp only [kh, hs] at h
   cases tL : (aF ai)
   ·simp only [tL, hs] at h
    exact absurd h nq
   simp only [tL, hs] at h
   simp only [vz, tyf, dO, ed, rH, du, dr, fW, gh, i7, jU, wy, gu, kh, tL, nm, seval]
   obtain ⟨VP, h, VQ, KM, VR, pU⟩ := fa h nq
   obtain ⟨VS, KN, h⟩ := call4 h
   obtain ⟨VT, lX⟩ : ∃ I : Nat → St → Prop, I = (fun m st => ∃ (lq : List Int) (cb : Int) (dS : Int) (bK : List Int), m = List.length lq ∧ 0 ≤ cb ∧ List.drop (Int.toNat cb) ai = lq ∧ st.df = [] ∧ dI + 3 ≤ st.nx ∧ st.H 6 = some (.cells ((some 3)) (ae eI bK)) ∧ st.H 9 = some (.cells ((some 22)) (ae (eSl eI) pre)) ∧ st.tm 2 = .sl (ae eI aj) (List.length aj) false ∧ st.tm 7 = .lit (.int .i64 (List.length ai : Int)) ∧ st.tm 8 = .ref 6 0 (List.length bK) 1 (List.length bK) ∧ st.tm 9 = .ref 9 0 (List.length pre) 1 (List.length pre) ∧ st.tm 13 = .lit (.int .i64 cF) ∧ st.tm 12 = .lit (.int .i64 dS) ∧ st.tm 14 = .lit (.int .i64 cb) ∧ VP (VS lq cb dS bK)) := ⟨_, rfl⟩
   refine loopK mixed (by kernel_rfl) VT (List.length ai) (by rw [lX]; refine ⟨ai, 0, gQ, db, rfl, Int.le_refl _, rfl, rfl, (show dI + 3 ≤ dI + 3 by omega), ?_, ?_, du, dr, fW, gh, jU, i7, ?_, h⟩ <;> first | (simp only [ua, rH, du, dr, fW, gh, i7, jU, wy, gu, kh, nm, seval] <;> rfl) | rfl) ?_
   rintro m ⟨tm, H, iQ, df⟩ hinv
   rw [lX] at hinv
   obtain ⟨lq, cb, dS, bK, rfl, gm, j7, hdf, KO, zP, zQ, de, cN, d4, eA, gj, dL, dq, h⟩ := hinv
   simp only at hdf KO zP zQ de cN d4 eA gj dL dq
   have Db := fb (m := 14) (b := iQ) (by omega)
   have Dc := mn (a := dI) (m := 3) (b := iQ) (by omega)
   subst hdf KN
   cases lq with
   | nil =>
    have oL : (decide (cb < (List.length ai : Int))) = false := fc gm j7
    simp only [oO, hs, reduceCtorEq] at h
    replace h := KM _ h
    try dsimp only at h
    try simp only [hs] at h
    simp only [vz, tyf, dO, ed, rH, kh, tL, Db, Dc, de, cN, d4, eA, gj, dL, dq, zP, zQ, oL, nm, seval]
    exact ⟨jY, Nat.lt_succ_self _, by rw [kq]; refine ⟨jY, dS, i64.wrap (cF + 1), bK, rfl, rfl, (show 14 ≤ iQ + 6 by omega), ?_, ?_, de, cN, d4, eA, dL, ?_, (by first | exact h | (simp only [kh, oL]; exact h))⟩ <;> first | (simp only [ua, rH, kh, Db, Dc, de, cN, d4, eA, gj, dL, dq, zP, zQ, oL, nm, seval] <;> rfl) | rfl⟩
   | cons lM lq =>
    have j5 : (decide (cb < (List.length ai : Int))) = true := fe gm j7
    have jk := dD gm j7
    have wj := eG gm j7 tL
    simp only [oO, hs, reduceCtorEq] at h
    obtain ⟨VU, jl, h⟩ := optI h pU
    try simp only [hs] at h
    cases Dd : (decide (VU < 0))
    ·simp only [Dd, hs] at h
     have KP := And.intro dO (And.intro ed (And.intro rH (And.intro kh (And.intro tL (And.intro Db (And.intro Dc (And.intro zP (And.intro zQ (And.intro j5 (And.intro wj Dd))))))))))
     simp only [vz, tyf, KP, de, cN, d4, eA, gj, dL, dq, (aw jk), (br jl), nm, seval]
     exact ⟨List.length lq, Nat.lt_succ_self _, by rw [lX]; refine ⟨lq, cb + 1, dS, bK, rfl, Int.le_trans gm (Int.le_add_one (Int.le_refl _)), cC gm j7, rfl, (show dI + 3 ≤ iQ + 21 by omega), ?_, ?_, de, cN, d4, eA, gj, dL, ?_, (by first | exact h | (simp only [KP]; exact h))⟩ <;> first | (simp only [ua, KP, de, cN, d4, eA, gj, dL, dq, nm, seval] <;> rfl) | rfl⟩
    simp only [Dd, hs] at h
    have nw := And.intro dO (And.intro ed (And.intro rH (And.intro kh (And.intro tL (And.intro Db (And.intro Dc (And.intro zP (And.intro zQ (And.intro j5 (And.intro wj Dd))))))))))
    obtain ⟨oP, lY, h⟩ := optI h pU
    try simp only [hs] at h
    try simp only [vz, tyf, nw, de, cN, d4, eA, gj, dL, dq, (aw jk), (br jl), (dk lY), nm, seval]
    refine kopen ?_
    rw [mB]
    refine aB.run mixed Tryz.call109 Tryz.func109 rfl (by simp [Tryz.ntmps109]; kernel_rfl) ?_
    cases pV : (aF oP)
    ·simp only [pV, hs] at h
     exact absurd h pU
    simp only [pV, hs] at h
    simp only [vz, tyf, nw, (aw jk), (br jl), (dk lY), pV, nm, seval]
    obtain ⟨VW, h, zR, KQ, VX, zS⟩ := fa h pU
    obtain ⟨VY, KR, h⟩ := call2 h
    obtain ⟨VZ, tM⟩ : ∃ I : Nat → St → Prop, I = (fun m st => ∃ (rI : List Int) (eR : Int), m = List.length rI ∧ 0 ≤ eR ∧ List.drop (Int.toNat eR) oP = rI ∧ st.df = [] ∧ iQ + 20 ≤ st.nx ∧ st.H 6 = some (.cells ((some 3)) (ae eI bK)) ∧ st.H 9 = some (.cells ((some 22)) (ae (eSl eI) pre)) ∧ st.tm 0 = .sl (ae eI oP) (List.length oP) false ∧ st.tm 1 = .ref 6 0 (List.length bK) 1 (List.length bK) ∧ st.tm 2 = .sl (ae eI aj) (List.length aj) false ∧ st.tm 3 = .lit (.int .i64 cF) ∧ st.tm 9 = .lit (.int .i64 eR) ∧ VW (VY rI eR)) := ⟨_, rfl⟩
    refine loopK mixed (by kernel_rfl) VZ (List.length oP) (by rw [tM]; refine ⟨oP, 0, rfl, Int.le_refl _, rfl, rfl, (show iQ + 20 ≤ iQ + 20 by omega), ?_, ?_, ?_, ?_, ?_, ?_, ?_, h⟩ <;> first | (simp only [ua, nw, nm, seval] <;> rfl) | rfl) ?_
    rintro m ⟨tm, H, ku, df⟩ hinv
    rw [tM] at hinv
    obtain ⟨rI, eR, rfl, lZ, ny, hdf, KS, rJ, rK, mu, iL, jg, ky, kz, h⟩ := hinv
    simp only at hdf KS rJ rK mu iL jg ky kz
    have tN := fb (m := 14) (b := ku) (by omega)
    have tO := mn (a := dI) (m := 3) (b := ku) (by omega)
    have tP := mn (a := iQ) (m := 20) (b := ku) (by omega)
    subst hdf KR
    cases rI with
    | nil =>
     have zT : (decide (eR < (List.length oP : Int))) = false := fc lZ ny
     simp only [rG, hs, reduceCtorEq] at h
     replace h := KQ _ h
     try dsimp only at h
     try simp only [hs] at h
     try simp only [vz, tyf, nw, (aw jk), (br jl), (dk lY), pV, tN, tO, tP, mu, iL, jg, ky, kz, rJ, rK, zT, nm, seval]
     refine cz (x := (.lit (.bool true))) (by first | (simp only [Tryz.results109, resV, resL, aO, cj, ck, uw, cr, tyf, nw, (aw jk), (br jl), (dk lY), pV, tN, tO, tP, rJ, rK, zT, nm, seval] <;> rfl) | rfl) ?_
     have zU := setA (w := 1) (enc := eI) (fun _ => rfl) jl
     have tQ := setB (w := 1) (enc := eI) cF (fun _ => rfl) jl
     simp only [vz, tyf, nm, seval] at tQ
     have zV := setC (w := 1) (enc := eI) bK (Int.toNat cb) cF (fun _ => rfl)
     simp only [vz, tyf, nw, (aw jk), (br jl), (dk lY), pV, tN, tO, tP, rJ, rK, zT, de, cN, d4, eA, gj, dL, dq, zU, tQ, zV, nm, seval]
     exact ⟨List.length lq, Nat.lt_succ_self _, by rw [lX]; refine ⟨lq, cb + 1, i64.wrap (dS - 1), (List.set bK (Int.toNat cb) cF), rfl, Int.le_trans gm (Int.le_add_one (Int.le_refl _)), cC gm j7, rfl, (show dI + 3 ≤ ku + 16 by omega), ?_, ?_, de, cN, ?_, eA, gj, ?_, ?_, (by first | exact h | (simp only [nw, zT]; exact h))⟩ <;> first | (simp only [ua, nw, tN, tO, tP, rJ, rK, zT, de, cN, d4, eA, gj, dL, dq, zU, tQ, zV, nm, seval] <;> rfl) | rfl⟩
    | cons zW rI =>
     have KT : (decide (eR < (List.length oP : Int))) = true := fe lZ ny
     have rL := dD lZ ny
     have KU := eG lZ ny pV
     simp only [rG, hs, reduceCtorEq] at h
     simp only [vz, tyf, nw, (aw jk), (br jl), (dk lY), pV, tN, tO, tP, mu, iL, jg, ky, kz, rJ, rK, KT, (aw rL), KU, nm, seval]
     refine j3 (fun tm => tm 0 = .sl (ae eI oP) (List.length oP) false ∧ tm 1 = .ref 6 0 (List.length bK) 1 (List.length bK) ∧ tm 2 = .sl (ae eI aj) (List.length aj) false ∧ tm 3 = .lit (.int .i64 cF) ∧ tm 9 = .lit (.int .i64 eR) ∧ True) (by refine ⟨mu, iL, jg, ky, kz, trivial⟩ <;> first | (simp only [ua, nw, tN, tO, tP, mu, iL, jg, ky, kz, rJ, rK, KT, KU, nm, seval] <;> rfl) | rfl) ?_
     rintro tm ⟨k6, oQ, oR, pW, lr, _⟩
     have ma := And.intro nw (And.intro pV (And.intro tN (And.intro tO (And.intro tP (And.intro rJ (And.intro rK (And.intro KT KU)))))))
     obtain ⟨Rn, tR, h⟩ := optI h zS
     try simp only [hs] at h
     cases k7 : (decide (Rn < 0))
     ·simp only [k7, hs] at h
      obtain ⟨Wa, De, h⟩ := optI h zS
      try simp only [hs] at h
      cases oS : (decide ((i64.wrap (Rn + Wa)) > cF))
      ·simp only [oS, hs] at h
       simp only [vz, tyf, ma, (aw jk), (br jl), (dk lY), (aw rL), k6, oQ, oR, pW, lr, (br tR), k7, (aw De), oS, nm, seval]
       exact ⟨List.length rI, Nat.lt_succ_self _, by rw [tM]; refine ⟨rI, eR + 1, rfl, Int.le_trans lZ (Int.le_add_one (Int.le_refl _)), cC lZ ny, rfl, (show iQ + 20 ≤ ku + 34 by omega), ?_, ?_, k6, oQ, oR, pW, ?_, (by first | exact h | (simp only [ma, k7, oS]; exact h))⟩ <;> first | (simp only [ua, ma, k6, oQ, oR, pW, lr, k7, oS, nm, seval] <;> rfl) | rfl⟩
      simp only [oS, hs] at h
      try simp only [vz, tyf, ma, (aw jk), (br jl), (dk lY), (aw rL), k6, oQ, oR, pW, lr, (br tR), k7, (aw De), oS, nm, seval]
      refine cz (x := (.lit (.bool false))) (by first | (simp only [Tryz.results109, resV, resL, aO, cj, ck, uw, cr, tyf, ma, (aw jk), (br jl), (dk lY), (aw rL), (br tR), k7, (aw De), oS, nm, seval] <;> rfl) | rfl) ?_
      replace h := zR _ h
      try dsimp only at h
      simp only [vz, tyf, ma, (aw jk), (br jl), (dk lY), (aw rL), (br tR), k7, (aw De), oS, de, cN, d4, eA, gj, dL, dq, nm, seval]
      exact ⟨List.length lq, Nat.lt_succ_self _, by rw [lX]; refine ⟨lq, cb + 1, dS, bK, rfl, Int.le_trans gm (Int.le_add_one (Int.le_refl _)), cC gm j7, rfl, (show dI + 3 ≤ ku + 35 by omega), ?_, ?_, de, cN, d4, eA, gj, dL, ?_, (by first | exact h | (simp only [ma, k7, oS]; exact h))⟩ <;> first | (simp only [ua, ma, k7, oS, de, cN, d4, eA, gj, dL, dq, nm, seval] <;> rfl) | rfl⟩
     simp only [k7, hs] at h
     try simp only [vz, tyf, ma, (aw jk), (br jl), (dk lY), (aw rL), k6, oQ, oR, pW, lr, (br tR), k7, nm, seval]
     refine cz (x := (.lit (.bool false))) (by first | (simp only [Tryz.results109, resV, resL, aO, cj, ck, uw, cr, tyf, ma, (aw jk), (br jl), (dk lY), (aw rL), (br tR), k7, nm, seval] <;> rfl) | rfl) ?_
     replace h := zR _ h
     try dsimp only at h
     simp only [vz, tyf, ma, (aw jk), (br jl), (dk lY), (aw rL), (br tR), k7, de, cN, d4, eA, gj, dL, dq, nm, seval]
     exact ⟨List.length lq, Nat.lt_succ_self _, by rw [lX]; refine ⟨lq, cb + 1, dS, bK, rfl, Int.le_trans gm (Int.le_add_one (Int.le_refl _)), cC gm j7, rfl, (show dI + 3 ≤ ku + 35 by omega), ?_, ?_, de, cN, d4, eA, gj, dL, ?_, (by first | exact h | (simp only [ma, k7]; exact h))⟩ <;> first | (simp only [ua, ma, k7, de, cN, d4, eA, gj, dL, dq, nm, seval] <;> rfl) | rfl⟩
 | cons e p =>
  have dA : (decide (i < (List.length ai : Int))) = true := fe hi hp
  have wA := eG hi hp gl
  have hin : i.toNat < ai.length := by
   have := of_decide_eq_true dA
   omega
  rcases oA : getI lp i with _ | xA
  ·exfalso
   unfold getI at oA
   rw [if_pos hi] at oA
   have := List.getElem?_eq_none_iff.1 oA
   omega
  rw [List.length_cons] at hrw hxs
  simp only [oN] at hrw
  rcases hws : nv ak ai i i.toNat 0 [] with _ | ws
  ·rw [hws] at hrw
   cases hrw
  rw [hws] at hrw
  simp only [Option.bind_some] at hrw
  have zU := setA (w := 1) (enc := eI) (fun _ => rfl) oA
  have tQ := setB (w := 1) (enc := eI) (-1 : Int) (fun _ => rfl) oA
  simp only [vz, tyf, nm, seval] at tQ
  have zV := setC (w := 1) (enc := eI) lp (Int.toNat i) (-1 : Int) (fun _ => rfl)
  simp only [vz, tyf, dO, ed, nA, a1, a2, a3, a7, a8, a9, tK, A0, A6, A9, dA, (br oA), zU, tQ, zV, nm, seval]
  rw [List.replicate_succ] at hxs
  obtain ⟨IB, hIB⟩ : ∃ I : Nat → St → Prop, I = (fun m st => ∃ (k : Int) (w : List Int) (hd : VV) (ys : List VV), 0 ≤ k ∧ k.toNat + m = i.toNat ∧ ys = ae (eSl eI) pre ++ hd :: List.replicate p.length (.lit (.slice none 0 0)) ∧ nv ak ai i m k w = some ws ∧ st.df = [] ∧ nxA ≤ st.nx ∧ st.H 0 = some (.cells (some 25) (cGBk ak)) ∧ st.H 6 = some (.cells (some 3) (ae eI (List.set lp (Int.toNat i) (-1)))) ∧ st.H 9 = some (.cells (some 22) (ae eV ys)) ∧ st.tm 1 = .sl (ae eI ai) (List.length ai) false ∧ st.tm 2 = .sl (ae eI aj) (List.length aj) false ∧ st.tm 3 = .ptr 0 0 ∧ st.tm 7 = .lit (.int .i64 (List.length ai : Int)) ∧ st.tm 8 = .ref 6 0 (List.length lp) 1 (List.length lp) ∧ st.tm 9 = .ref 9 0 (List.length ys) 1 (List.length ys) ∧ st.tm 10 = .lit (.int .i64 i) ∧ st.tm 11 = .lit (.int .i64 k) ∧ ((∃ (β : Nat) (el : Option TypeId), hd = .ref β 0 (List.length w) 1 (List.length w) ∧ β < st.nx ∧ β ≠ 0 ∧ β ≠ 6 ∧ β ≠ 9 ∧ st.H β = some (.cells el (ae eI w))) ∨ (hd = .lit (.slice none 0 0) ∧ w = []))) := ⟨_, rfl⟩
  refine loopK mixed (by kernel_rfl) IB i.toNat (by rw [hIB]; refine ⟨0, [], .lit (.slice none 0 0), xs, Int.le_refl _, (by simp), hxs, hws, rfl, Nat.le_add_right _ _, ?_, ?_, ?_, ?_, ?_, ?_, ?_, ?_, ?_, ?_, ?_, Or.inr ⟨rfl, rfl⟩⟩ <;> first | (simp only [ua, nA, a1, a2, a3, a7, a8, a9, tK, A0, A6, A9, dA, zU, tQ, zV, nm, seval] <;> rfl) | rfl) ?_
  rintro m ⟨tm, H, nxB, df⟩ hinv
  rw [hIB] at hinv
  obtain ⟨k, w, hd, ys, hk, hkm, hys, hrow, hdf, hnB, B0, B6, B9, b1, b2, b3, b7, b8, b9, eg, eh, ow⟩ := hinv
  simp only at hdf hnB B0 B6 B9 b1 b2 b3 b7 b8 b9 eg eh ow
  have nB := fb (m := 12) (b := nxB) (by omega)
  subst hdf
  cases m with
  | zero =>
   have dB : decide (k < i) = false := decide_eq_false (by clear ow; omega)
   simp only [nv, Option.some.injEq] at hrow
   subst hrow
   have hki : k = i := by clear ow; omega
   have hzl : (ae (eSl eI) pre).length = i.toNat := by rw [fm (w := 1) (enc := eSl eI) (fun _ => rfl)]; clear ow; omega
   simp only [vz, tyf, dO, ed, nA, nB, b1, b2, b3, b7, b8, b9, eg, eh, B0, B6, B9, dA, dB, wA, nm, seval]
   rw [zN] at B9
   have hcl : ae (eSl eI) (pre ++ [w]) = ae (eSl eI) pre ++ [.sl (ae eI w) w.length false] := by rw [pg]; rfl
   rcases ow with ⟨β, el, rfl, pH, Ro, Rq, sG, hβ⟩ | ⟨rfl, rfl⟩
   · refine ⟨p.length, Nat.lt_succ_self _, ⟨_, updH (without H β) 9 (.cells (some 22) (ae (eSl eI) pre ++ .sl (ae eI w) w.length false :: List.replicate p.length (.lit (.slice none 0 0)))), _, []⟩, Look.ghost (Ghost.mid hβ (by rw [B9, hys]) (Ne.symm sG) (eI_ok.treeL _) (fm (w := 1) (enc := eI) (fun _ => rfl) _)), ?_⟩
     rw [hIA]
     refine ⟨p, i + 1, pre ++ [w], List.set lp i.toNat (-1), ae (eSl eI) pre ++ .sl (ae eI w) w.length false :: List.replicate p.length (.lit (.slice none 0 0)), rfl, Int.le_trans hi (Int.le_add_one (Int.le_refl _)), cC hi hp, ?_, ?_, ?_, ?_, hrw, rfl, ?_, ?_, ?_, ?_, ?_, ?_, ?_, ?_, ?_, ?_, ?_⟩
     · rw [List.length_append, List.length_singleton]; omega
     · rw [List.length_set]; exact hbg
     · rw [hcl, List.append_assoc]; rfl
     · rw [List.length_cons] at hil; omega
     · dsimp only; omega
     · dsimp only
       rw [bc, if_neg (by decide), bm, if_neg (by omega)]; exact B0
     · dsimp only
       rw [bc, if_neg (by decide), bm, if_neg (by omega)]; exact B6
     · dsimp only
       rw [bc, if_pos rfl, zN]
     · simp only [ua, nB, b1, b2, b3, b7, b8, b9, eg, eh, nm, seval]
     · simp only [ua, nB, b1, b2, b3, b7, b8, b9, eg, eh, nm, seval]
     · simp only [ua, nB, b1, b2, b3, b7, b8, b9, eg, eh, nm, seval]
     · simp only [ua, nB, b1, b2, b3, b7, b8, b9, eg, eh, nm, seval]
     · simp only [ua, nB, b1, b2, b3, b7, b8, b9, eg, eh, List.length_set, nm, seval]
     · simp only [ua, nB, b1, b2, b3, b7, b8, b9, eg, eh, nm, seval]; rw [hys]; simp only [List.length_append, List.length_cons]
     · simp only [ua, nB, b1, b2, b3, b7, b8, b9, eg, eh, wA, nm, seval]
   · refine ⟨p.length, Nat.lt_succ_self _, ⟨_, updH H 9 (.cells (some 22) (ae (eSl eI) pre ++ .sl [] 0 false :: List.replicate p.length (.lit (.slice none 0 0)))), _, []⟩, Look.nil (by rw [B9, hys]), ?_⟩
     rw [hIA]
     refine ⟨p, i + 1, pre ++ [[]], List.set lp i.toNat (-1), ae (eSl eI) pre ++ .sl [] 0 false :: List.replicate p.length (.lit (.slice none 0 0)), rfl, Int.le_trans hi (Int.le_add_one (Int.le_refl _)), cC hi hp, ?_, ?_, ?_, ?_, hrw, rfl, ?_, ?_, ?_, ?_, ?_, ?_, ?_, ?_, ?_, ?_, ?_⟩
     · rw [List.length_append, List.length_singleton]; omega
     · rw [List.length_set]; exact hbg
     · rw [hcl, List.append_assoc]; rfl
     · rw [List.length_cons] at hil; omega
     · dsimp only; omega
     · dsimp only
       rw [bc, if_neg (by decide)]; exact B0
     · dsimp only
       rw [bc, if_neg (by decide)]; exact B6
     · dsimp only
       rw [bc, if_pos rfl, zN]
     · simp only [ua, nB, b1, b2, b3, b7, b8, b9, eg, eh, nm, seval]
     · simp only [ua, nB, b1, b2, b3, b7, b8, b9, eg, eh, nm, seval]
     · simp only [ua, nB, b1, b2, b3, b7, b8, b9, eg, eh, nm, seval]
     · simp only [ua, nB, b1, b2, b3, b7, b8, b9, eg, eh, nm, seval]
     · simp only [ua, nB, b1, b2, b3, b7, b8, b9, eg, eh, List.length_set, nm, seval]
     · simp only [ua, nB, b1, b2, b3, b7, b8, b9, eg, eh, nm, seval]; rw [hys]; simp only [List.length_append, List.length_cons]
     · simp only [ua, nB, b1, b2, b3, b7, b8, b9, eg, eh, wA, nm, seval]
  | succ m =>
   have dB : decide (k < i) = true := decide_eq_true (by clear ow; omega)
   have hkp : k.toNat < ai.length := by clear ow; omega
   have wB := eG hk (List.drop_eq_getElem_cons hkp) gl
   have oY : getI ys i = some hd := by
    have hzl : (ae (eSl eI) pre).length = i.toNat := by rw [fm (w := 1) (enc := eSl eI) (fun _ => rfl)]; clear ow; omega
    unfold getI
    rw [if_pos hi, hys, ← hzl, List.getElem?_append_right (Nat.le_refl _), Nat.sub_self]
    rfl
   have hset : ∀ v, List.set ys (Int.toNat i) v = ae (eSl eI) pre ++ v :: List.replicate p.length (.lit (.slice none 0 0)) := by
    intro v
    have hzl : (ae (eSl eI) pre).length = i.toNat := by rw [fm (w := 1) (enc := eSl eI) (fun _ => rfl)]; clear ow; omega
    rw [hys, ← hzl, List.set_append_right _ _ (Nat.le_refl _), Nat.sub_self]
    rfl
   simp only [nv] at hrow
   rcases of : pS ak ai k i with _ | r
   ·rw [of] at hrow
    cases hrow
   rw [of] at hrow
   simp only [Option.bind_some] at hrow
   simp only [vz, tyf, dO, ed, nA, nB, b1, b2, b3, b7, b8, b9, eg, eh, B0, B6, B9, dA, dB, wA, nm, seval]
   refine ktA (Rk _ _ _ _ _ of) ?_
   have rM := setA (w := 1) (enc := eV) (fun _ => rfl) oY
   have pX := fun v => setB (w := 1) (enc := eV) v (fun _ => rfl) oY
   simp only [vz, tyf, eV_eq, nm, seval] at pX
   have rN := fun v => setC (w := 1) (enc := eV) ys (Int.toNat i) v (fun _ => rfl)
   rcases r with _ | _
   · simp only [cond_false] at hrow
     simp only [vz, tyf, dO, ed, nA, nB, b1, b2, b3, b7, b8, b9, eg, eh, B0, B6, B9, dA, dB, wA, wB, nm, seval]
     exact ⟨m, Nat.lt_succ_self _, by
      rw [hIB]
      refine ⟨k + 1, w, hd, ys, (by clear ow; omega), (by clear ow; omega), hys, hrow, rfl, (by dsimp only; clear ow; omega), ?_, ?_, ?_, ?_, ?_, ?_, ?_, ?_, ?_, ?_, ?_, ?_⟩
      rotate_right
      · rcases ow with ⟨β, el, h1, h2, h3, h4, h5, h6⟩ | h1
        · exact Or.inl ⟨β, el, h1, (by dsimp only; omega), h3, h4, h5, h6⟩
        · exact Or.inr h1
      all_goals first | (simp only [ua, dO, ed, nA, nB, b1, b2, b3, b7, b8, b9, eg, eh, B0, B6, B9, dA, dB, wA, wB, nm, seval] <;> rfl) | rfl⟩
   · simp only [cond_true] at hrow
     cases gr : (roomOk 8 (List.length (w ++ [k])))
     · rw [gr] at hrow
       cases hrow
     rw [gr] at hrow
     simp only [cond_true] at hrow
     rcases ow with ⟨β, el, rfl, pH, Ro, Rq, sG, hβ⟩ | ⟨rfl, rfl⟩
     · have q1 := hY pH
       have q2 := ne_f Ro
       have q3 := ne_f Rq
       have q4 := ne_f sG
       simp only [vz, tyf, dO, ed, nA, nB, b1, b2, b3, b7, b8, b9, eg, eh, B0, B6, B9, dA, dB, wA, wB, (ixoV oY), eV_eq, rM, pX, rN, q1, q2, q3, q4, hβ, nm, seval]
       refine k_app (w := 1) (enc := eI) (xs := w) (ys := [k]) (el := el) (jT := (some 3)) (fun _ => rfl) gL gi Tryz.underlying22 (by first | rfl | assumption | (simp only [bc, bm, dE, dO, ed, nA, nB, b1, b2, b3, b7, b8, b9, eg, eh, B0, B6, B9, dA, dB, wA, wB, q1, q2, q3, q4, hβ, nm, seval] <;> rfl) | (simp only [bc, bm, fP, gv, gd, gf, tyf, dO, ed, nA, nB, b1, b2, b3, b7, b8, b9, eg, eh, B0, B6, B9, dA, dB, wA, wB, q1, q2, q3, q4, hβ, nm, seval]; done)) (by first | rfl | assumption | (simp only [bc, bm, dE, dO, ed, nA, nB, b1, b2, b3, b7, b8, b9, eg, eh, B0, B6, B9, dA, dB, wA, wB, q1, q2, q3, q4, hβ, nm, seval] <;> rfl) | (simp only [bc, bm, fP, gv, gd, gf, tyf, dO, ed, nA, nB, b1, b2, b3, b7, b8, b9, eg, eh, B0, B6, B9, dA, dB, wA, wB, q1, q2, q3, q4, hβ, nm, seval]; done)) (Nat.zero_lt_succ _) gr ?_
       simp only [vz, tyf, dO, ed, nA, nB, b1, b2, b3, b7, b8, b9, eg, eh, B0, B6, B9, dA, dB, wA, wB, (ixoV oY), eV_eq, rM, pX, rN, q1, q2, q3, q4, hβ, gr, nm, seval]
       exact ⟨m, Nat.lt_succ_self _, by
        rw [hIB]
        refine ⟨k + 1, w ++ [k], .ref (nxB + 16) 0 (List.length (w ++ [k])) 1 (List.length (w ++ [k])), List.set ys (Int.toNat i) (.ref (nxB + 16) 0 (List.length (w ++ [k])) 1 (List.length (w ++ [k]))), (by omega), (by omega), hset _, hrow, rfl, (by dsimp only; omega), ?_, ?_, ?_, ?_, ?_, ?_, ?_, ?_, ?_, ?_, ?_, Or.inl ⟨nxB + 16, sameEl el 3, rfl, (by dsimp only; omega), (by omega), (by omega), (by omega), ?_⟩⟩
        all_goals first | (simp only [ua, dO, ed, nA, nB, b1, b2, b3, b7, b8, b9, eg, eh, B0, B6, B9, dA, dB, wA, wB, (ixoV oY), eV_eq, rM, pX, rN, q1, q2, q3, q4, hβ, nm, seval] <;> rfl) | (simp only [ua, dO, ed, nA, nB, b1, b2, b3, b7, b8, b9, eg, eh, B0, B6, B9, dA, dB, wA, wB, (ixoV oY), eV_eq, rM, pX, rN, q1, q2, q3, q4, hβ, List.length_set, nm, seval] <;> rfl) | rfl⟩
     · simp only [vz, tyf, dO, ed, nA, nB, b1, b2, b3, b7, b8, b9, eg, eh, B0, B6, B9, dA, dB, wA, wB, (ixoV oY), eV_eq, rM, pX, rN, nm, seval]
       refine l8 (w := 1) (enc := eI) (ys := [k]) (jT := (some 3)) (fun _ => rfl) gL gi Tryz.underlying22 (by first | rfl | assumption | (simp only [bc, bm, dE, dO, ed, nA, nB, b1, b2, b3, b7, b8, b9, eg, eh, B0, B6, B9, dA, dB, wA, wB, nm, seval] <;> rfl) | (simp only [bc, bm, fP, gv, gd, gf, tyf, dO, ed, nA, nB, b1, b2, b3, b7, b8, b9, eg, eh, B0, B6, B9, dA, dB, wA, wB, nm, seval]; done)) (Nat.zero_lt_succ _) gr ?_
       simp only [vz, tyf, dO, ed, nA, nB, b1, b2, b3, b7, b8, b9, eg, eh, B0, B6, B9, dA, dB, wA, wB, (ixoV oY), eV_eq, rM, pX, rN, gr, nm, seval]
       exact ⟨m, Nat.lt_succ_self _, by
        rw [hIB]
        refine ⟨k + 1, [k], .ref (nxB + 16) 0 (List.length ([k])) 1 (List.length ([k])), List.set ys (Int.toNat i) (.ref (nxB + 16) 0 (List.length ([k])) 1 (List.length ([k]))), (by omega), (by omega), hset _, hrow, rfl, (by dsimp only; omega), ?_, ?_, ?_, ?_, ?_, ?_, ?_, ?_, ?_, ?_, ?_, Or.inl ⟨nxB + 16, some 3, rfl, (by dsimp only; omega), (by omega), (by omega), (by omega), ?_⟩⟩
        all_goals first | (simp only [ua, dO, ed, nA, nB, b1, b2, b3, b7, b8, b9, eg, eh, B0, B6, B9, dA, dB, wA, wB, (ixoV oY), eV_eq, rM, pX, rN, nm, seval] <;> rfl) | (simp only [ua, dO, ed, nA, nB, b1, b2, b3, b7, b8, b9, eg, eh, B0, B6, B9, dA, dB, wA, wB, (ixoV oY), eV_eq, rM, pX, rN, List.length_set, nm, seval] <;> rfl) | rfl⟩
def tS (aj : List Int) : Nat → Int → (List Int) → Option (LOut (List Int) (Int × (List Int)))
 | 0, _, _ => none
 | k0 + 1, fq, bE => cond (decide (fq < (List.length bE : Int))) (Option.bind (getI bE fq) (fun x3 => Option.bind (getI aj fq) (fun x4 => tS aj k0 (i64.wrap (fq + 1)) (List.set bE (Int.toNat fq) (i64.wrap (x3 + x4)))))) (some (.go (fq, bE)))
def zX (ak : GBk) (ai : List Int) (aj : List Int) : Option (List Int) := Option.bind (wx ak ai aj) (fun r1 => cond (aF r1) (aT (tS aj 1000000 0 r1) (fun r6 => some r6) (fun c5 => some c5.2) (fun _ _ => none)) none)
theorem Wb (ak : GBk) (ai : List Int) (aj : List Int) (R : List Int) (h : zX ak ai aj = some R) : al Tryz.prog G0 75 [.agg (cGBk ak), .sl (ae eI ai) (List.length ai) false, .sl (ae eI aj) (List.length aj) false] (.tree (.sl (ae eI R) (List.length R) false)) := by
 refine al.runR mixed Tryz.call75 Tryz.func75 rfl (by simp [Tryz.ntmps75]; kernel_rfl) ?_
 obtain ⟨KF, h, kF, kN⟩ := cR h
 simp only [zX] at h
 obtain ⟨r7, o8, h⟩ := optI h kN
 try simp only [hs] at h
 simp only [vz, tyf, nm, seval]
 refine kown (args0 := [.agg (cGBk ak), .sl (ae eI ai) (List.length ai) false, .sl (ae eI aj) (List.length aj) false]) (by first | (simp only [nrm, aG] <;> rfl) | rfl) (by simp only [tre, aK, Bool.and_self]) (Rm _ _ _ _ o8) ?_
 simp only [vz, tyf, nm, seval]
 cases gE : (aF r7)
 ·simp only [gE, hs] at h
  exact absurd h kN
 simp only [gE, hs] at h
 obtain ⟨K9, h, Y2, Wc, Y3, KV⟩ := fa h kN
 obtain ⟨f9, Wd, h⟩ := call3 h
 obtain ⟨I9, KW⟩ : ∃ I : Nat → St → Prop, I = (fun m st => ∃ (p9 : Nat) (j8 : Int) (dC : List Int), p9 = m ∧ st.df = [] ∧ 8 ≤ st.nx ∧ st.H 5 = some (.cells (none) (ae eI dC)) ∧ st.tm 2 = .sl (ae eI aj) (List.length aj) false ∧ st.tm 7 = .ref 5 0 (List.length dC) 1 (List.length dC) ∧ st.tm 8 = .lit (.int .i64 j8) ∧ K9 (f9 p9 j8 dC)) := ⟨_, rfl⟩
 refine loopK mixed (by kernel_rfl) I9 1000000 (by rw [KW]; refine ⟨1000000, 0, r7, rfl, rfl, (show 8 ≤ 8 by omega), ?_, ?_, ?_, ?_, h⟩ <;> first | (simp only [ua, nm, seval] <;> rfl) | rfl) ?_
 rintro m ⟨tm, H, Rr, df⟩ hinv
 rw [KW] at hinv
 obtain ⟨p9, j8, dC, rfl, hdf, We, ji, bG, bX, cg, h⟩ := hinv
 simp only at hdf We ji bG bX cg
 have ka := fb (m := 8) (b := Rr) (by omega)
 subst hdf Wd
 cases p9 with
 | zero =>
  simp only [tS, hs, reduceCtorEq] at h
  exact absurd h KV
 | succ p9 =>
  simp only [tS, hs, reduceCtorEq] at h
  cases fk : (decide (j8 < (List.length dC : Int)))
  ·simp only [fk, hs] at h
   replace h := Wc _ h
   try dsimp only at h
   try simp only [hs] at h
   try simp only [vz, tyf, ka, bG, bX, cg, ji, fk, nm, seval]
   refine cz (x := (.ref 5 0 (List.length dC) 1 (List.length dC))) (by first | (simp only [Tryz.results75, resV, resL, aO, cj, ck, uw, cr, tyf, ka, ji, fk, nm, seval] <;> rfl) | rfl) ?_
   obtain rfl := kF _ h
   refine gV ?_ ?_
   ·simp only [tre, aK, Bool.and_self]
   ·first | (simp only [outV, uw, gq, cr, tyf, nrm, aG, ka, bG, bX, cg, ji, fk, nm, seval] <;> rfl) | rfl
  simp only [fk, hs] at h
  simp only [vz, tyf, ka, bG, bX, cg, ji, fk, nm, seval]
  refine sn (fun tm => tm 2 = .sl (ae eI aj) (List.length aj) false ∧ tm 7 = .ref 5 0 (List.length dC) 1 (List.length dC) ∧ tm 8 = .lit (.int .i64 j8) ∧ True) (by refine ⟨bG, bX, cg, trivial⟩ <;> first | (simp only [ua, ka, bG, bX, cg, ji, fk, nm, seval] <;> rfl) | rfl) ?_
  rintro tm ⟨bD, bH, bR, _⟩
  obtain ⟨KX, oz, h⟩ := optI h KV
  try simp only [hs] at h
  obtain ⟨zY, ou, h⟩ := optI h KV
  try simp only [hs] at h
  have mQ := setA (w := 1) (enc := eI) (fun _ => rfl) oz
  have Df := setB (w := 1) (enc := eI) (i64.wrap (KX + zY)) (fun _ => rfl) oz
  simp only [vz, tyf, nm, seval] at Df
  have m7 := setC (w := 1) (enc := eI) dC (Int.toNat j8) (i64.wrap (KX + zY)) (fun _ => rfl)
  simp only [vz, tyf, ka, ji, fk, bD, bH, bR, (br oz), (aw ou), mQ, Df, m7, nm, seval]
  refine po ⟨?_, ?_⟩
  ·simp only [jo, jq, dV, jr, and_true, true_and]
   repeat' (first | exact trivial | refine And.intro ?_ ?_ | rw [dV] | rw [js] | exact Or.inl (by decide +kernel) | exact Or.inl (by dsimp only; decide +kernel) | (refine Or.inr ⟨?_, ?_⟩ <;> simp; done) | (refine Or.inr ⟨?_, ?_⟩ <;> simp <;> omega) | (refine Or.inr ⟨?_, ?_⟩ <;> simp [VEff.wr] <;> omega))
  simp only [vz, tyf, ka, ji, fk, bD, bH, bR, (br oz), (aw ou), mQ, Df, m7, nm, seval]
  exact ⟨p9, Nat.lt_succ_self _, by rw [KW]; refine ⟨p9, i64.wrap (j8 + 1), (List.set dC (Int.toNat j8) (i64.wrap (KX + zY))), rfl, rfl, (show 8 ≤ Rr + 20 by omega), ?_, bD, ?_, ?_, (by first | exact h | (simp only [fk]; exact h))⟩ <;> first | (simp only [ua, ka, ji, fk, bD, bH, bR, mQ, Df, m7, nm, seval] <;> rfl) | rfl⟩
def oT (bk : Bool) : List GBs → Int → (List Int) → Option (LOut (List Int) ((List Int)))
 | [], iP, ct => some (.go ct)
 | e0 :: p0, iP, ct => cond (bk) (cond (roomOk 8 (List.length (ct ++ [e0.Hours.High]))) (oT bk p0 (iP + 1) (ct ++ [e0.Hours.High])) none) (cond (roomOk 8 (List.length (ct ++ [e0.Hours.Low]))) (oT bk p0 (iP + 1) (ct ++ [e0.Hours.Low])) none)
def wz (ak : GBk) (bk : Bool) : Option (List Int) := cond (aF ak.Strokes) (aT (oT bk ak.Strokes 0 ([] : List Int)) (fun r2 => some r2) (fun c1 => some c1) (fun _ _ => none)) none
theorem Rs (ak : GBk) (bk : Bool) (R : List Int) (h : wz ak bk = some R) : al Tryz.prog G0 33 [.agg (cGBk ak), .lit (.bool bk)] (.tree (.sl (ae eI R) (List.length R) false)) := by
 refine al.runR mixed Tryz.call33 Tryz.func33 rfl (by simp [Tryz.ntmps33]; kernel_rfl) ?_
 obtain ⟨KF, h, kF, kN⟩ := cR h
 simp only [wz] at h
 cases g4 : (aF ak.Strokes)
 ·simp only [g4, hs] at h
  exact absurd h kN
 simp only [g4, hs] at h
 simp only [vz, tyf, g4, nm, seval]
 obtain ⟨K3, h, qQ, lA, xk, pn⟩ := fa h kN
 obtain ⟨f3, mM, h⟩ := call3 h
 obtain ⟨I3, fV⟩ : ∃ I : Nat → St → Prop, I = (fun m st => ∃ (p3 : List GBs) (fC : Int) (ca : List Int) (pY : VV), m = List.length p3 ∧ 0 ≤ fC ∧ List.drop (Int.toNat fC) ak.Strokes = p3 ∧ st.df = [] ∧ 4 ≤ st.nx ∧ st.H 0 = some (.cells (some 25) (cGBk ak)) ∧ st.tm 1 = .lit (.bool bk) ∧ st.tm 2 = .ptr 0 0 ∧ st.tm 5 = pY ∧ st.tm 6 = .lit (.int .i64 fC) ∧ ((∃ (β : Nat) (el : Option TypeId), pY = .ref β 0 (List.length ca) 1 (List.length ca) ∧ β < st.nx ∧ β ≠ 0 ∧ st.H β = some (.cells el (ae eI ca))) ∨ (pY = .lit (.slice none 0 0) ∧ ca = [])) ∧ K3 (f3 p3 fC ca)) := ⟨_, rfl⟩
 refine loopK mixed (by kernel_rfl) I3 (List.length ak.Strokes) (by rw [fV]; refine ⟨ak.Strokes, 0, ([] : List Int), .lit (.slice none 0 0), rfl, Int.le_refl _, rfl, rfl, (show 4 ≤ 4 by omega), ?_, ?_, ?_, ?_, ?_, Or.inr ⟨rfl, rfl⟩, h⟩ <;> first | (simp only [ua, nm, seval] <;> rfl) | rfl) ?_
 rintro m ⟨tm, H, fh, df⟩ hinv
 rw [fV] at hinv
 obtain ⟨p3, fC, ca, pY, rfl, cu, dg, hdf, mN, H5, e6, e7, e8, e9, rO, h⟩ := hinv
 simp only at hdf mN H5 e6 e7 e8 e9 rO
 have iF := fb (m := 4) (b := fh) (by omega)
 subst hdf mM
 rcases rO with ⟨KY, lu, rfl, KZ, La, zZ⟩ | ⟨rfl, rfl⟩
 ·have Aa := hY KZ
  have Ab := ne_f La
  cases p3 with
  | nil =>
   have bw : (decide (fC < (List.length ak.Strokes : Int))) = false := fc cu dg
   simp only [oT, hs, reduceCtorEq] at h
   replace h := lA _ h
   try dsimp only at h
   try simp only [hs] at h
   try simp only [vz, tyf, g4, iF, e6, e7, e8, e9, H5, Aa, zZ, Ab, bw, nm, seval]
   refine cz (x := (.ref KY 0 (List.length ca) 1 (List.length ca))) (by first | (simp only [Tryz.results33, resV, resL, aO, cj, ck, uw, cr, tyf, g4, iF, H5, Aa, zZ, Ab, bw, nm, seval] <;> rfl) | rfl) ?_
   obtain rfl := kF _ h
   refine gV ?_ ?_
   ·simp only [tre, aK, Bool.and_self]
   ·first | (simp only [outV, uw, gq, cr, tyf, nrm, aG, g4, iF, e6, e7, e8, e9, H5, Aa, zZ, Ab, bw, nm, seval] <;> rfl) | rfl
  | cons e3 p3 =>
   have fk : (decide (fC < (List.length ak.Strokes : Int))) = true := fe cu dg
   have oG := dD cu dg
   have Rt := eG cu dg g4
   simp only [oT, hs, reduceCtorEq] at h
   cases lD : (bk)
   ·simp only [lD, hs] at h
    have lO := And.intro g4 (And.intro iF (And.intro H5 (And.intro Aa (And.intro zZ (And.intro Ab (And.intro fk (And.intro Rt lD)))))))
    cases tT : (roomOk 8 (List.length (ca ++ [e3.Hours.Low])))
    ·simp only [tT, hs] at h
     exact absurd h pn
    simp only [tT, hs] at h
    simp only [vz, tyf, lO, e6, e7, e8, e9, (aM oG), tT, nm, seval]
    refine k_app (w := 1) (enc := eI) (xs := ca) (ys := ([e3.Hours.Low])) (el := lu) (jT := (some 3)) (fun _ => rfl) gL gi Tryz.underlying22 (by first | rfl | assumption | (simp only [bc, bm, dE, lO, nm, seval] <;> rfl) | (simp only [bc, bm, fP, gv, gd, gf, tyf, lO, e6, e7, e8, e9, (aM oG), tT, nm, seval]; done)) (by first | rfl | assumption | (simp only [bc, bm, dE, lO, nm, seval] <;> rfl) | (simp only [bc, bm, fP, gv, gd, gf, tyf, lO, e6, e7, e8, e9, (aM oG), tT, nm, seval]; done)) (Nat.zero_lt_succ _) tT ?_
    simp only [vz, tyf, lO, e6, e7, e8, e9, (aM oG), tT, nm, seval]
    exact ⟨List.length p3, Nat.lt_succ_self _, by rw [fV]; refine ⟨p3, fC + 1, (ca ++ [e3.Hours.Low]), .ref (fh + 15) 0 (List.length (ca ++ [e3.Hours.Low])) 1 (List.length (ca ++ [e3.Hours.Low])), rfl, Int.le_trans cu (Int.le_add_one (Int.le_refl _)), cC cu dg, rfl, (show 4 ≤ fh + 20 by omega), ?_, ?_, e7, ?_, ?_, Or.inl ⟨fh + 15, (sameEl lu 3), rfl, (by first | omega | (simp only [nm, seval]; done) | (simp only [nm, seval]; omega)), (by first | omega | (intro hh; simp only [lO, reduceCtorEq] at hh)), ?_⟩, (by first | exact h | (simp only [lO]; exact h))⟩ <;> first | (simp only [ua, lO, e6, e7, e8, e9, nm, seval] <;> rfl) | rfl⟩
   simp only [lD, hs] at h
   have pZ := And.intro g4 (And.intro iF (And.intro H5 (And.intro Aa (And.intro zZ (And.intro Ab (And.intro fk (And.intro Rt lD)))))))
   cases tU : (roomOk 8 (List.length (ca ++ [e3.Hours.High])))
   ·simp only [tU, hs] at h
    exact absurd h pn
   simp only [tU, hs] at h
   simp only [vz, tyf, pZ, e6, e7, e8, e9, (aM oG), tU, nm, seval]
   refine k_app (w := 1) (enc := eI) (xs := ca) (ys := ([e3.Hours.High])) (el := lu) (jT := (some 3)) (fun _ => rfl) gL gi Tryz.underlying22 (by first | rfl | assumption | (simp only [bc, bm, dE, pZ, nm, seval] <;> rfl) | (simp only [bc, bm, fP, gv, gd, gf, tyf, pZ, e6, e7, e8, e9, (aM oG), tU, nm, seval]; done)) (by first | rfl | assumption | (simp only [bc, bm, dE, pZ, nm, seval] <;> rfl) | (simp only [bc, bm, fP, gv, gd, gf, tyf, pZ, e6, e7, e8, e9, (aM oG), tU, nm, seval]; done)) (Nat.zero_lt_succ _) tU ?_
   simp only [vz, tyf, pZ, e6, e7, e8, e9, (aM oG), tU, nm, seval]
   exact ⟨List.length p3, Nat.lt_succ_self _, by rw [fV]; refine ⟨p3, fC + 1, (ca ++ [e3.Hours.High]), .ref (fh + 15) 0 (List.length (ca ++ [e3.Hours.High])) 1 (List.length (ca ++ [e3.Hours.High])), rfl, Int.le_trans cu (Int.le_add_one (Int.le_refl _)), cC cu dg, rfl, (show 4 ≤ fh + 20 by omega), ?_, ?_, e7, ?_, ?_, Or.inl ⟨fh + 15, (sameEl lu 3), rfl, (by first | omega | (simp only [nm, seval]; done) | (simp only [nm, seval]; omega)), (by first | omega | (intro hh; simp only [pZ, reduceCtorEq] at hh)), ?_⟩, (by first | exact h | (simp only [pZ]; exact h))⟩ <;> first | (simp only [ua, pZ, e6, e7, e8, e9, nm, seval] <;> rfl) | rfl⟩
 ·cases p3 with
  | nil =>
   have jX : (decide (fC < (List.length ak.Strokes : Int))) = false := fc cu dg
   simp only [oT, hs, reduceCtorEq] at h
   replace h := lA _ h
   try dsimp only at h
   try simp only [hs] at h
   try simp only [vz, tyf, g4, iF, e6, e7, e8, e9, H5, jX, nm, seval]
   refine cz (x := (.lit (.slice none 0 0))) (by first | (simp only [Tryz.results33, resV, resL, aO, cj, ck, uw, cr, tyf, g4, iF, H5, jX, nm, seval] <;> rfl) | rfl) ?_
   obtain rfl := kF _ h
   refine gV ?_ ?_
   ·simp only [tre, aK, Bool.and_self]
   ·first | (simp only [outV, uw, gq, cr, tyf, nrm, aG, g4, iF, e6, e7, e8, e9, H5, jX, nm, seval] <;> rfl) | rfl
  | cons e3 p3 =>
   have hO : (decide (fC < (List.length ak.Strokes : Int))) = true := fe cu dg
   have lf := dD cu dg
   have m7 := eG cu dg g4
   simp only [oT, hs, reduceCtorEq] at h
   cases fS : (bk)
   ·simp only [fS, hs] at h
    cases j6 : (roomOk 8 (List.length (([] : List Int) ++ [e3.Hours.Low])))
    ·simp only [j6, hs] at h
     exact absurd h pn
    simp only [j6, hs] at h
    simp only [vz, tyf, g4, iF, e6, e7, e8, e9, H5, hO, (aM lf), m7, fS, j6, nm, seval]
    refine l8 (w := 1) (enc := eI) (ys := ([e3.Hours.Low])) (jT := (some 3)) (fun _ => rfl) gL gi Tryz.underlying22 (by first | rfl | assumption | (simp only [bc, bm, dE, iF, H5, nm, seval] <;> rfl) | (simp only [bc, bm, fP, gv, gd, gf, tyf, g4, iF, e6, e7, e8, e9, H5, hO, (aM lf), m7, fS, j6, nm, seval]; done)) (Nat.zero_lt_succ _) j6 ?_
    simp only [vz, tyf, g4, iF, e6, e7, e8, e9, H5, hO, (aM lf), m7, fS, j6, nm, seval]
    exact ⟨List.length p3, Nat.lt_succ_self _, by rw [fV]; refine ⟨p3, fC + 1, (([] : List Int) ++ [e3.Hours.Low]), .ref (fh + 15) 0 (List.length (([] : List Int) ++ [e3.Hours.Low])) 1 (List.length (([] : List Int) ++ [e3.Hours.Low])), rfl, Int.le_trans cu (Int.le_add_one (Int.le_refl _)), cC cu dg, rfl, (show 4 ≤ fh + 20 by omega), ?_, ?_, e7, ?_, ?_, Or.inl ⟨fh + 15, (some 3), rfl, (by first | omega | (simp only [nm, seval]; done) | (simp only [nm, seval]; omega)), (by first | omega | (intro hh; simp only [iF, reduceCtorEq] at hh)), ?_⟩, (by first | exact h | (simp only [hO, fS]; exact h))⟩ <;> first | (simp only [ua, iF, e6, e7, e8, e9, H5, hO, m7, fS, nm, seval] <;> rfl) | rfl⟩
   simp only [fS, hs] at h
   cases w5 : (roomOk 8 (List.length (([] : List Int) ++ [e3.Hours.High])))
   ·simp only [w5, hs] at h
    exact absurd h pn
   simp only [w5, hs] at h
   simp only [vz, tyf, g4, iF, e6, e7, e8, e9, H5, hO, (aM lf), m7, fS, w5, nm, seval]
   refine l8 (w := 1) (enc := eI) (ys := ([e3.Hours.High])) (jT := (some 3)) (fun _ => rfl) gL gi Tryz.underlying22 (by first | rfl | assumption | (simp only [bc, bm, dE, iF, H5, nm, seval] <;> rfl) | (simp only [bc, bm, fP, gv, gd, gf, tyf, g4, iF, e6, e7, e8, e9, H5, hO, (aM lf), m7, fS, w5, nm, seval]; done)) (Nat.zero_lt_succ _) w5 ?_
   simp only [vz, tyf, g4, iF, e6, e7, e8, e9, H5, hO, (aM lf), m7, fS, w5, nm, seval]
   exact ⟨List.length p3, Nat.lt_succ_self _, by rw [fV]; refine ⟨p3, fC + 1, (([] : List Int) ++ [e3.Hours.High]), .ref (fh + 15) 0 (List.length (([] : List Int) ++ [e3.Hours.High])) 1 (List.length (([] : List Int) ++ [e3.Hours.High])), rfl, Int.le_trans cu (Int.le_add_one (Int.le_refl _)), cC cu dg, rfl, (show 4 ≤ fh + 20 by omega), ?_, ?_, e7, ?_, ?_, Or.inl ⟨fh + 15, (some 3), rfl, (by first | omega | (simp only [nm, seval]; done) | (simp only [nm, seval]; omega)), (by first | omega | (intro hh; simp only [iF, reduceCtorEq] at hh)), ?_⟩, (by first | exact h | (simp only [hO, fS]; exact h))⟩ <;> first | (simp only [ua, iF, e6, e7, e8, e9, H5, hO, m7, fS, nm, seval] <;> rfl) | rfl⟩

end Go.V
end
