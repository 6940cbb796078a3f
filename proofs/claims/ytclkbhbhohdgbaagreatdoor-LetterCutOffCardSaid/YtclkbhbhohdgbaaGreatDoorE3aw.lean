/- Part of a proof. -/
import Derived.Test.YtclkbhbhohdgbaaGreatDoorE3av
import Derived.Carry
import Derived.ChangeSame
import Derived.OpenShut
import Derived.RowKit
import Derived.ChangeShapes
import Derived.DataReads
import Derived.ChangeArms
import Derived.JoinedCond
set_option linter.all false
noncomputable section
namespace Go.V
open Go
abbrev KTab := List (FuncId × List VV × VV)
def KTabOk (P : Program) (G : Gb) : KTab → Prop
 | [] => True
 | (f, args, x) :: t => (tl args = true ∧ ah P G f args (.tree x)) ∧ KTabOk P G t
def lookT : KTab → FuncId → List VV → Option VV
 | [], _, _ => none
 | (g, as, x) :: t, f, args => match Nat.beq g f with
  | true => match eqVL as args with
   | true => some x
   | false => lookT t f args
  | false => lookT t f args
theorem HM {P : Program} {G : Gb} : ∀ {t : KTab} {f : FuncId} {args : List VV} {x : VV}, KTabOk P G t → lookT t f args = some x → tl args = true ∧ ah P G f args (.tree x)
 | [], _, _, _, _, h => by cases h
 | (g, as, y) :: t, f, args, x, ht, h => by
  unfold lookT at h
  split at h
  ·rename_i hg
   split at h
   ·rename_i he
    cases h
    have e1 := Nat.eq_of_beq_eq_true hg
    have e2 := qS he
    subst e1 e2
    exact ht.1
   ·exact HM ht.2 h
  ·exact HM ht.2 h
variable {P : Program} {G : Gb} {f : FuncId} {args : List VV}
theorem aU.of_tree {x : VV} (h : ah P G f args (.tree x)) (ht : tl args = true) (H : Nat → Option Vo) (nx : Nat) :
  aU P G f args H nx (fun y H1 n1 => y = x ∧ H1 = H ∧ n1 = nx) (fun _ _ _ => False) := by
 refine ⟨h.1, fun c W vs s hH hnx hG ha => (h.2 c.A W vs s.ltA hG.tree (oR ht ha)).mono ?_⟩
 rintro e W' ⟨A', h1, h2, h3, hb, v, rfl, hx⟩
 exact ⟨c.more A', H, nx, Ext.more h1 h2 hb, Sim.more s h1 h2 h3 hb, hH, fun β h => .inl h, hnx, qZh _, .inl ⟨x, v, rfl, Rep.abides (mU (fun _ h => h)) _ hx, rfl, rfl, rfl⟩⟩
def cfT (tab : KTab) (cf : aB) : aB := fun f args H nx => match lookT tab f args with
 | some x => .ret x H nx
 | none => cf f args H nx
variable {tab : KTab}
theorem HN {cf : aB} (ht : KTabOk P G tab) (hcf : CallOk P G cf) : CallOk P G (cfT tab cf) := by
 constructor
 ·intro f args H nx x H' nx' h
  unfold cfT at h
  split at h
  ·rename_i y hy
   cases h
   obtain ⟨h1, h2⟩ := HM ht hy
   exact aU.of_tree h2 h1 H.get nx
  ·exact hcf.1 _ _ _ _ _ _ _ h
 ·intro f args H nx x H' nx' h
  unfold cfT at h
  split at h
  ·cases h
  ·exact hcf.2 _ _ _ _ _ _ _ h
def runT (P : Program) (G : Gb) (tab : KTab) (k : Nat) : RunR :=
 Nat.rec (motive := fun _ => RunR) (fun _ _ _ _ => .no .fuel) (fun k ih ro n code s => bodyA k ih (cfT tab (cfQ P (G.at (some none)) ih)) ro n s (ccB P G code)) k
theorem Tu {P : Program} {G : Gb} {tab : KTab} (hm : P.follows .mixedOrders = true) (ht : KTabOk P G tab) : ∀ (k : Nat), RunOk P G (runT P G tab k)
 | 0, _, _, _, _, _, _, h => by cases h
 | k + 1, ro, n, code, s, e, s', h => by
  intro Q hq
  have ih := Tu (G := G) hm ht k
  have hcf : CallOk P G (cfQ P (G.at (some none)) (runT P G tab k)) := by rw [zG]; exact Tt ih
  exact HO hm ih (HN ht hcf) h hq
def closedT (P : Program) (G : Gb) (tab : KTab) (k : Nat) (f : FuncId) (args : List VV) : PRes ⊕ Why := pureQ (cfQ P (G.at (some none)) (runT P G tab k)) f args
theorem ah.closedT (hm : P.follows .mixedOrders = true) (ht : KTabOk P G tab) (k : Nat) {r : PRes} (h : closedT P G tab k f args = .inl r) : ah P G f args r := by
 unfold Go.V.closedT at h
 rw [HP, zG] at h
 exact zB (Tt (Tu hm ht k)) h
end Go.V
end
section
namespace Go.V
open Go Go.RowKit Go.ChangeShapes
theorem Tv {H : Type} {enc : TypeId × Value → H} {P : Program} (hl : laidOutB P = true) {W W' : World} (hb : Below W.heap.size W W') : ∀ {ts : List TypeId} {vs : List Value} {ds : List (DataW H)} {ps : List MemPlace},
  (∀ t ∈ ts, P.readableRec t = true ∧ t < P.types.size) → DataW.TrodAll enc P W 0 (fun _ => true) true ts vs ds ps → (∀ x ∈ ps, x.block < W.heap.size) → DataW.TrodAll enc P W' 0 (fun b => decide (b < W.heap.size)) true ts vs ds ps
 | [], [], [], _, _, h, _ => h
 | [], _ :: _, _, _, _, h, _ => by simp [DataW.TrodAll] at h
 | [], [], _ :: _, _, _, h, _ => by simp [DataW.TrodAll] at h
 | _ :: _, [], _, _, _, h, _ => by simp [DataW.TrodAll] at h
 | _ :: _, _ :: _, [], _, _, h, _ => by simp [DataW.TrodAll] at h
 | t :: ts, v :: vs, d :: ds, ps, ht, h, hlt => by
  obtain ⟨p, q, h1, h2, e⟩ := h
  subst e
  exact ⟨p, q, Below.trod hl (ht t (qZb ..)).1 (ht t (qZb ..)).2 h1 hb (fun x hx => hlt x (qZf _ hx)),
   Tv hl hb (fun u hu => ht u (qZa _ hu)) h2 (fun x hx => hlt x (List.mem_append_right _ hx)), rfl⟩
variable {P : Program} {s : ChangeSpec} {apart fresh handsOn : Bool} {args : Array Value} {before : List MemPlace} {tb : TypeId}
theorem HQ {H : Type} {enc : TypeId × Value → H} {f : Func} {W W' : World} {ds gs : List (DataW H)} 
  (hl : laidOutB P = true) (hps : ∀ t ∈ f.params.toList, P.readableRec t = true ∧ t < P.types.size) (hv : s.vars = []) (hrt : f.resultTypes = #[tb]) (ht : P.underlying tb = some .bool)
  (hs : s.fn H ds = { results := [.lit (.bool true)], args := ds }) (hW : DataW.Whole enc P f.params.toList s.vars apart W args.toList ds gs before) (hb : Below W.heap.size W W') :
  s.post enc P f apart fresh handsOn false W args (.bool true) W' := by
 have hlt : ∀ x ∈ before, x.block < W.heap.size := fun x hx => by simpa using hW.lt x hx
 have Xk := hW
 obtain ⟨p, q, hA, hV, e, hz, hn⟩ := hW
 rw [hv] at hV
 obtain ⟨rfl, rfl⟩ := trodVars_none hV
 rw [List.append_nil] at e
 subst e
 refine ⟨ds, [], before, [], before, [], Xk, ?_, ?_, ?_, hb.frame _, fun h => by cases h⟩
 ·rw [List.append_nil, hs, hrt]
  exact trodAll_mk1 (shut_bool ht true)
 ·rw [List.append_nil, hs]
  exact Tv hl hb hps hA hlt
 ·rw [List.append_nil, hs, hv]
  rfl
theorem HR {H : Type} {enc : TypeId × Value → H} {G : Gb} {fi : FuncId} {f : Func} {W : World} {ds gs : List (DataW H)} {xs : List VV}
  (hl : laidOutB P = true) (hps : ∀ t ∈ f.params.toList, P.readableRec t = true ∧ t < P.types.size) (hv : s.vars = []) (hrt : f.resultTypes = #[tb]) (ht : P.underlying tb = some .bool)
  (hs : s.fn H ds = { results := [.lit (.bool true)], args := ds }) (hW : DataW.Whole enc P f.params.toList s.vars apart W args.toList ds gs before) (hG : GOk G (PCtx fun b => b < W.heap.size) W)
  (hx : Rl (PCtx fun b => b < W.heap.size) W xs args.toList) (hp : ah P G fi xs (.tree (.lit (.bool true)))) :
  Calls P fi args W fun e W' => ∃ v, e = .returned v ∧ s.post enc P f apart fresh handsOn false W args v W' := by
 have := hp.2 (fun b => b < W.heap.size) W args.toList (fun _ h => h) hG hx
 have h2 : CallsIn Fence.wide 0 P fi args W fun e W' => ∃ v, e = .returned v ∧ s.post enc P f apart fresh handsOn false W args v W' := by
  refine CallsIn.mono this ?_
  rintro e W' ⟨A', h1, h2, h3, hb, v, rfl, hxv⟩
  have e2 : v = .bool true := hxv
  subst e2
  exact ⟨_, rfl, HQ hl hps hv hrt ht hs hW hb⟩
 exact h2.calls room_wide
end Go.V
end
section
namespace Go.V
open Go Go.RowKit Go.ChangeShapes
theorem HS {W : World} {a : Addr} {m j : Nat} {u : Value} (h : W.cell? ((a.add m).add j) = some u) : W.cell? ⟨a.block, a.off + m + j, none⟩ = some u ∧ (m = 0 → j = 0 → a.spot = none) ∧ a.block < W.heap.size := by
 have key : ∀ x : Addr, W.cell? x = some u → W.cell? ⟨x.block, x.off, none⟩ = some u ∧ x.spot = none ∧ x.block < W.heap.size := by
  intro x hx
  have gp := hx
  unfold World.cell? at hx
  split at hx
  ·rename_i hb
   split at hx
   ·cases hx
   ·rename_i hs
    have : x.spot = none := by simpa using hs
    refine ⟨?_, this, (Array.getElem?_eq_some_iff.1 hb).1⟩
    unfold World.cell?
    simp only [hb]
    exact hx
  ·cases hx
 obtain ⟨h1, h2, h3⟩ := key _ h
 have eb : ((a.add m).add j).block = a.block := by unfold Addr.add; split <;> split <;> rfl
 have eo : ((a.add m).add j).off = a.off + m + j := by unfold Addr.add; split <;> split <;> simp_all
 rw [eb, eo] at h1
 rw [eb] at h3
 refine ⟨h1, fun hm hj => ?_, h3⟩
 subst hm hj
 simpa [Addr.add] using h2
end Go.V
end
section
namespace Go.V
open Go Go.RowKit Go.ChangeShapes
def contigB (P : Program) (total : Nat) : Nat → List Field → Bool
 | off, [] => Nat.beq off total
 | off, f :: fs => Nat.beq f.offset off && contigB P total (off + P.cellsOf f.type) fs
def FieldsS (S : TypeId → List VV → Prop) : List Field → List (List VV) → Prop
 | [], [] => True
 | f :: fs, ys :: yss => S f.type ys ∧ FieldsS S fs yss
 | _, _ => False
def ShapeT (P : Program) : Nat → TypeId → List VV → Prop
 | 0, _, _ => False
 | n + 1, t, xs => match P.underlying t with
  | some .bool => ∃ b, xs = [.lit (.bool b)]
  | some (.int k) => ∃ i, (Lit.int k i).wf = true ∧ xs = [.lit (.int k i)]
  | some .string => ∃ s : ByteArray, s.size ≤ maxLen ∧ xs = [.lit (.string s)]
  | some (.slice e) => xs = [.lit (.slice none 0 0)] ∨ ∃ yss : List (List VV), yss.length ≤ maxLen ∧ (∀ ys ∈ yss, ShapeT P n e ys) ∧ xs = [.sl yss.flatten yss.length false]
  | some (.struct fs) => ∃ yss, FieldsS (ShapeT P n) fs.toList yss ∧ xs = yss.flatten
  | some (.array m e) => ∃ yss : List (List VV), yss.length = m ∧ (∀ ys ∈ yss, ShapeT P n e ys) ∧ xs = yss.flatten
  | _ => True
theorem Tw {c : Ctx} {W : World} {b o es : Nat} {S : List VV → Prop} : ∀ (m i : Nat), (∀ k, k < m → ∃ (cs : List Value) (ys : List VV), cs.length = es ∧ (∀ j u, cs[j]? = some u → W.cell? ⟨b, o + (i + k) * es + j, none⟩ = some u) ∧ Rl c W ys cs ∧ S ys) →
  ∃ (yss : List (List VV)) (l : List Value), yss.length = m ∧ (∀ ys ∈ yss, S ys) ∧ Rl c W yss.flatten l ∧ (∀ j u, l[j]? = some u → W.cell? ⟨b, o + i * es + j, none⟩ = some u) ∧ l.length = m * es
 | 0, i, _ => ⟨[], [], rfl, fun ys h => (by cases h), rfl, fun j u h => (by simp at h), by simp⟩
 | m + 1, i, hall => by
  obtain ⟨cs, ys, ba, hcell, hrep, hs⟩ := hall 0 (by omega)
  obtain ⟨yss, l, h1, h2, h3, h4, h5⟩ := Tw (c := c) (W := W) (b := b) (o := o) (es := es) (S := S) m (i + 1) (fun k hk => by
   have := hall (k + 1) (by omega)
   rwa [show i + (k + 1) = i + 1 + k by omega] at this)
  refine ⟨ys :: yss, cs ++ l, by simp [h1], fun z hz => ?_, ?_, fun j u hj => ?_, by simp [ba, h5, Nat.add_mul, Nat.add_comm]⟩
  ·rcases List.mem_cons.1 hz with rfl | hz
   ·exact hs
   ·exact h2 z hz
  ·rw [List.flatten_cons]
   exact Rl.append hrep h3
  ·rcases Nat.lt_or_ge j es with hlt | hge
   ·rw [List.getElem?_append_left (by omega)] at hj
    have := hcell j u hj
    simpa using this
   ·rw [List.getElem?_append_right (by omega), ba] at hj
    have := h4 (j - es) u hj
    have e : o + (i + 1) * es + (j - es) = o + i * es + j := by rw [Nat.add_mul]; omega
    rwa [e] at this
theorem Tx {c : Ctx} {W : World} {es : Nat} {S : List VV → Prop} : ∀ (m : Nat) (cs : List Value), cs.length = m * es → (∀ k, k < m → ∃ ys, Rl c W ys ((cs.drop (k * es)).take es) ∧ S ys) →
  ∃ yss : List (List VV), yss.length = m ∧ (∀ ys ∈ yss, S ys) ∧ Rl c W yss.flatten cs
 | 0, cs, h, _ => ⟨[], rfl, fun ys h => (by cases h), by
  have : cs = [] := List.eq_nil_of_length_eq_zero (by simpa using h)
  rw [this]
  rfl⟩
 | m + 1, cs, h, hall => by
  obtain ⟨ys, h1, hs⟩ := hall 0 (by omega)
  have hl : (cs.drop es).length = m * es := by rw [List.length_drop, h, Nat.add_mul]; omega
  obtain ⟨yss, h2, h3, h4⟩ := Tx (c := c) (W := W) (S := S) m (cs.drop es) hl (fun k hk => by
   have := hall (k + 1) (by omega)
   rw [Nat.add_mul, Nat.one_mul, Nat.add_comm (k * es) es, ← List.drop_drop] at this
   exact this)
  refine ⟨ys :: yss, by simp [h2], fun z hz => ?_, ?_⟩
  ·rcases List.mem_cons.1 hz with rfl | hz
   ·exact hs
   ·exact h3 z hz
  ·rw [Nat.zero_mul, List.drop_zero] at h1
   have := Rl.append h1 h4
   rwa [List.take_append_drop] at this
theorem Ty {P : Program} {c : Ctx} {W : World} {cs : List Value} {S : TypeId → List VV → Prop} : ∀ (fs : List Field) (off : Nat), contigB P cs.length off fs = true →
  (∀ f ∈ fs, ∃ ys, Rl c W ys ((cs.drop f.offset).take (P.cellsOf f.type)) ∧ S f.type ys) → ∃ yss, FieldsS S fs yss ∧ Rl c W yss.flatten (cs.drop off)
 | [], off, h, _ => by
  have e := Nat.eq_of_beq_eq_true h
  refine ⟨[], trivial, ?_⟩
  rw [e, List.drop_length]
  rfl
 | f :: fs, off, h, hall => by
  simp only [contigB, Bool.and_eq_true] at h
  have e := Nat.eq_of_beq_eq_true h.1
  obtain ⟨ys, h1, hs⟩ := hall f (qZb ..)
  obtain ⟨yss, h2, h3⟩ := Ty fs (off + P.cellsOf f.type) h.2 (fun g hg => hall g (qZa _ hg))
  refine ⟨ys :: yss, ⟨hs, h2⟩, ?_⟩
  rw [e] at h1
  have := Rl.append h1 h3
  rwa [← List.drop_drop, List.take_append_drop] at this
def plainT (P : Program) : Nat → TypeId → Bool
 | 0, _ => false
 | n + 1, t => match P.underlying t with
  | some .bool => true
  | some (.int _) => true
  | some .string => true
  | some (.slice e) => plainT P n e
  | some (.struct fs) => contigB P (P.cellsOf t) 0 fs.toList && fs.toList.all fun f => plainT P n f.type
  | some (.array m e) => Nat.beq (P.cellsOf t) (m * P.cellsOf e) && plainT P n e
  | _ => false
theorem Tz {H : Type} {enc : TypeId × Value → H} {P : Program} {W : World} {sp : Nat → Bool} {held : Bool} : ∀ (n m : Nat) (t : TypeId) (cs : List Value) (d : DataW H) (ps : List MemPlace), plainT P m t = true →
  DataW.trod enc P W 0 sp held n t cs = some (d, ps) → ∃ xs, Rl (PCtx fun b => b < W.heap.size) W xs cs ∧ ShapeT P m t xs
 | 0, _, _, _, _, _, _, h => by simp [DataW.trod] at h
 | _ + 1, 0, _, _, _, _, hp, _ => by simp [plainT] at hp
 | n + 1, m + 1, t, cs, d, ps, hp, h => by
  have ih := Tz (enc := enc) (P := P) (W := W) (sp := sp) (held := held) n m
  unfold ShapeT
  unfold plainT at hp
  split
  ·rename_i hu
   unfold DataW.trod at h
   simp only [hu] at h
   split at h <;> simp_all
   refine ⟨[.lit _], ⟨_, _, rfl, rfl, rfl⟩, ?_⟩
   rename_i b _
   cases b <;> simp
  ·rename_i k0 hu
   unfold DataW.trod at h
   simp only [hu] at h
   split at h <;> simp_all
   exact ⟨[.lit _], ⟨_, _, rfl, rfl, rfl⟩, _, h.1.2, rfl⟩
  ·rename_i hu
   unfold DataW.trod at h
   simp only [hu] at h
   split at h <;> simp_all
   exact ⟨[.lit _], ⟨_, _, rfl, rfl, rfl⟩, _, h.1, rfl⟩
  ·rename_i e hu
   unfold DataW.trod at h
   simp only [hu] at h
   split at h
   all_goals first
    | (rename_i heq; cases heq; done)
    | skip
   case h_7 => exact ⟨[.lit (.slice none 0 0)], ⟨_, _, rfl, rfl, rfl⟩, .inl rfl⟩
   case h_8 e' a len cap heq =>
    cases heq
    split at h
    ·rename_i hc
     cases hm : (List.range len).mapM (fun i => (W.cells? 0 (a.add (i * P.cellsOf e)) (P.cellsOf e)).bind (DataW.trod enc P W 0 sp held n e)) with
     | none => rw [hm] at h; cases h
     | some elems =>
      have ba := mapM_some_length hm
      simp only [List.length_range] at ba
      have hall : ∀ k, k < len → ∃ (cs : List Value) (ys : List VV), cs.length = P.cellsOf e ∧ (∀ j u, cs[j]? = some u → W.cell? ⟨a.block, a.off + (0 + k) * P.cellsOf e + j, none⟩ = some u) ∧ Rl (PCtx fun b => b < W.heap.size) W ys cs ∧ ShapeT P m e ys := by
       intro k hkl
       have h1 := mapM_some_get hm k k (by simp [hkl])
       obtain ⟨⟨d', p'⟩, hk⟩ : ∃ x, elems[k]? = some x := ⟨_, qZj (by omega)⟩
       rw [hk, Option.bind_eq_some_iff] at h1
       obtain ⟨cs', h2, h3⟩ := h1
       obtain ⟨_, h4, h5⟩ := World.cells?_some h2
       obtain ⟨ys, q1, q2⟩ := ih e cs' d' p' (by simpa only [hu] using hp) h3
       refine ⟨cs', ys, h4, fun j u hj => ?_, q1, q2⟩
       have hjl : j < P.cellsOf e := by have := (List.getElem?_eq_some_iff.1 hj).1; omega
       have h6 := (h5 j hjl).trans hj
       rw [Nat.zero_add]
       exact (HS h6).1
      have hspot : 0 < len → 0 < P.cellsOf e → a.spot = none ∧ a.block < W.heap.size := by
       intro hl he
       have h1 := mapM_some_get hm 0 0 (by simp [hl])
       obtain ⟨⟨d', p'⟩, hk⟩ : ∃ x, elems[0]? = some x := ⟨_, qZj (by omega)⟩
       rw [hk, Option.bind_eq_some_iff] at h1
       obtain ⟨cs', h2, _⟩ := h1
       obtain ⟨_, h4, h5⟩ := World.cells?_some h2
       obtain ⟨u, qC⟩ : ∃ u, cs'[0]? = some u := ⟨_, qZj (by omega)⟩
       have h6 := (h5 0 he).trans qC
       exact ⟨(HS h6).2.1 (by simp) rfl, (HS h6).2.2⟩
      obtain ⟨yss, l, y1, y2, y3, y4, y5⟩ := Tw (c := PCtx fun b => b < W.heap.size) (W := W) (b := a.block) (o := a.off) (es := P.cellsOf e) (S := ShapeT P m e) len 0 hall
      refine ⟨[.sl yss.flatten yss.length false], ⟨_, _, rfl, ?_, rfl⟩, .inr ⟨yss, by omega, y2, rfl⟩⟩
      refine ⟨some a, cap, by simp [y1], by omega, fun h => (by cases h), ?_⟩
      by_cases hz : 0 < len ∧ 0 < P.cellsOf e
      ·obtain ⟨q5, q6⟩ := hspot hz.1 hz.2
       right
       refine ⟨a.block, a.off, ?_, q6, Rc.of_cells y3 (fun j u hj => by have := y4 j u hj; simpa using this)⟩
       obtain ⟨ab, ao, asp⟩ := a
       cases q5
       rfl
      ·left
       have h0 : len * P.cellsOf e = 0 := by
        rcases Nat.eq_zero_or_pos len with h | h
        ·rw [h, Nat.zero_mul]
        ·rcases Nat.eq_zero_or_pos (P.cellsOf e) with h' | h'
         ·rw [h', Nat.mul_zero]
         ·exact absurd ⟨h, h'⟩ hz
       have := y3.length
       exact List.eq_nil_of_length_eq_zero (by omega)
    ·cases h
   all_goals (try cases h)
  ·rename_i fs hu
   unfold DataW.trod at h
   simp only [hu] at h
   split at h
   all_goals first
    | (rename_i heq; cases heq; done)
    | skip
   case h_5.isTrue =>
    rename_i ba
    simp only [Option.map_eq_some_iff, Prod.mk.injEq] at h
    obtain ⟨ys, hm, _, _⟩ := h
    simp only [hu, Bool.and_eq_true, List.all_eq_true] at hp
    obtain ⟨yss, q1, q2⟩ := Ty (P := P) (c := PCtx fun b => b < W.heap.size) (W := W) (cs := cs) (S := ShapeT P m) fs.toList 0 (by rw [ba]; exact hp.1) (fun f hf => by
     obtain ⟨k, hk⟩ := List.mem_iff_getElem?.1 hf
     have h1 := mapM_some_get hm k f hk
     have hkl := (List.getElem?_eq_some_iff.1 hk).1
     have hyl := mapM_some_length hm
     obtain ⟨⟨d', p'⟩, hd⟩ : ∃ x, ys[k]? = some x := ⟨_, qZj (by omega)⟩
     rw [hd] at h1
     exact ih f.type _ d' p' (hp.2 f hf) h1)
    exact ⟨_, by simpa using q2, yss, q1, rfl⟩
   all_goals (try cases h)
  ·rename_i len e hu
   unfold DataW.trod at h
   simp only [hu] at h
   split at h
   all_goals first
    | (rename_i heq; cases heq; done)
    | skip
   all_goals first
    | (cases h; done)
    | skip
   rename_i ba
   simp only [Option.map_eq_some_iff, Prod.mk.injEq] at h
   obtain ⟨ys, hm, _, _⟩ := h
   simp only [hu, Bool.and_eq_true] at hp
   have hc := Nat.eq_of_beq_eq_true hp.1
   obtain ⟨yss, q1, q2, q3⟩ := Tx (c := PCtx fun b => b < W.heap.size) (W := W) (es := P.cellsOf e) (S := ShapeT P m e) len cs (by rw [ba, hc]) (fun k hk => by
    have h1 := mapM_some_get hm k k (by simp [hk])
    have hyl := mapM_some_length hm
    simp only [List.length_range] at hyl
    obtain ⟨⟨d', p'⟩, hd⟩ : ∃ x, ys[k]? = some x := ⟨_, qZj (by omega)⟩
    rw [hd] at h1
    exact ih e _ d' p' hp.2 h1)
   exact ⟨_, q3, yss, q1, q2, rfl⟩
  ·split at hp <;> first | (exfalso; simp_all; done) | cases hp
end Go.V
end
section
namespace Go.V
open Go Go.RowKit Go.ChangeShapes
def ArgS (P : Program) (n : Nat) (t : TypeId) (x : VV) : Prop :=
 ∃ ys, ShapeT P n t ys ∧ match P.underlying t with
  | some (.struct _) => x = .agg ys
  | some (.array _ _) => x = .agg ys
  | _ => ys = [x]
def ArgsS (P : Program) (n : Nat) : List TypeId → List VV → Prop
 | [], [] => True
 | t :: ts, x :: xs => ArgS P n t x ∧ ArgsS P n ts xs
 | _, _ => False
theorem HT {H : Type} {enc : TypeId × Value → H} {P : Program} {W : World} {sp : Nat → Bool} {held : Bool} {n : Nat}
  {t : TypeId} {v : Value} {d : DataW H} {ps : List MemPlace} {r : Reach} {aa : Nat} (hp : plainT P n t = true) (hv : Value.okWide P W r aa t v) (h : DataW.Trod enc P W 0 sp held t v d ps) :
  ∃ x, Rep (PCtx fun b => b < W.heap.size) W x v ∧ ArgS P n t x := by
 obtain ⟨k, h⟩ := h
 obtain ⟨ys, h1, h2⟩ := Tz k n t _ d ps hp h
 have one : v.cells = #[v] → ((∀ fs, P.underlying t ≠ some (.struct fs)) ∧ ∀ m e, P.underlying t ≠ some (.array m e)) → ∃ x, Rep (PCtx fun b => b < W.heap.size) W x v ∧ ArgS P n t x := by
  intro e hn
  rw [e] at h1
  match ys, h1 with
  | [y], ⟨u, us, e1, e2, e3⟩ =>
   simp at e1
   refine ⟨y, e1.1 ▸ e2, [y], h2, ?_⟩
   split
   ·rename_i fs hu; exact absurd hu (hn.1 fs)
   ·rename_i m e hu; exact absurd hu (hn.2 m e)
   ·rfl
  | y :: y' :: ys, ⟨u, us, e1, e2, u', us', e3, _⟩ => simp at e1; rw [e1.2] at e3; cases e3
  | [], h => simp [Rl] at h
 cases n with
 | zero => simp [plainT] at hp
 | succ n =>
 unfold plainT at hp
 unfold Value.okWide at hv
 split at hp
 ·rename_i hu
  simp only [hu] at hv
  unfold Cell.okWide Cell.ok at hv
  simp only [hu] at hv
  refine one ?_ (by simp [hu])
  cases v <;> first | rfl | exact hv.elim
 ·rename_i hu
  simp only [hu] at hv
  unfold Cell.okWide Cell.ok at hv
  simp only [hu] at hv
  refine one ?_ (by simp [hu])
  cases v <;> first | rfl | exact hv.elim
 ·rename_i hu
  simp only [hu] at hv
  unfold Cell.okWide Cell.ok at hv
  simp only [hu] at hv
  refine one ?_ (by simp [hu])
  cases v <;> first | rfl | exact hv.elim
 ·rename_i hu
  simp only [hu] at hv
  unfold Cell.okWide Cell.ok at hv
  simp only [hu] at hv
  refine one ?_ (by simp [hu])
  cases v <;> first | rfl | exact hv.elim
 ·rename_i fs hu
  simp only [hu] at hv
  obtain ⟨cs, rfl, _, _⟩ := hv
  refine ⟨.agg ys, ⟨cs.toList, rfl, h1⟩, ys, h2, ?_⟩
  simp only [hu]
 ·rename_i m e hu
  simp only [hu] at hv
  obtain ⟨cs, rfl, _, _⟩ := hv
  refine ⟨.agg ys, ⟨cs.toList, rfl, h1⟩, ys, h2, ?_⟩
  simp only [hu]
 ·cases hp
theorem T0 {H : Type} {enc : TypeId × Value → H} {P : Program} {W : World} {sp : Nat → Bool} {held : Bool} {n : Nat} {r : Reach} {aa : Nat} :
  ∀ (ts : List TypeId) (vs : List Value) (ds : List (DataW H)) (ps : List MemPlace), (ts.all fun t => plainT P n t) = true → (∀ (j : Nat) t v, ts[j]? = some t → vs[j]? = some v → Value.okWide P W r aa t v) →
   DataW.TrodAll enc P W 0 sp held ts vs ds ps → ∃ xs, Rl (PCtx fun b => b < W.heap.size) W xs vs ∧ ArgsS P n ts xs
 | [], [], [], _, _, _, _ => ⟨[], rfl, trivial⟩
 | [], _ :: _, _, _, _, _, h => by simp [DataW.TrodAll] at h
 | [], [], _ :: _, _, _, _, h => by simp [DataW.TrodAll] at h
 | _ :: _, [], _, _, _, _, h => by simp [DataW.TrodAll] at h
 | _ :: _, _ :: _, [], _, _, _, h => by simp [DataW.TrodAll] at h
 | t :: ts, v :: vs, d :: ds, ps, hp, hv, h => by
  obtain ⟨p, q, h1, h2, _⟩ := h
  simp only [List.all_cons, Bool.and_eq_true] at hp
  obtain ⟨x, hx, hs⟩ := HT hp.1 (hv 0 t v rfl rfl) h1
  obtain ⟨xs, hxs, hss⟩ := T0 ts vs ds q hp.2 (fun j t' v' a b => hv (j + 1) t' v' (by simpa using a) (by simpa using b)) h2
  exact ⟨x :: xs, ⟨v, vs, rfl, hx, hxs⟩, hs, hss⟩
theorem T1 {H : Type} {enc : TypeId × Value → H} {P : Program} {W : World} {aa : Nat} {sp : Nat → Bool} {held : Bool} : ∀ {ts : List TypeId} {vs : List Value} {ds : List (DataW H)} {ps : List MemPlace}, DataW.TrodAll enc P W aa sp held ts vs ds ps → ds.length = ts.length
 | [], [], [], _, _ => rfl
 | [], _ :: _, _, _, h => by simp [DataW.TrodAll] at h
 | [], [], _ :: _, _, h => by simp [DataW.TrodAll] at h
 | _ :: _, [], _, _, h => by simp [DataW.TrodAll] at h
 | _ :: _, _ :: _, [], _, h => by simp [DataW.TrodAll] at h
 | _ :: _, _ :: _, _ :: _, _, h => by
  obtain ⟨p, q, _, h2, _⟩ := h
  simp [T1 h2]
end Go.V
end
section
namespace Go.V
open Go Go.RowKit Go.ChangeShapes
theorem T2 {P : Program} {w : World} : ∀ {l : List (String × DataW Unit)} {ps : List MemPlace}, DataW.LaidVars P w l ps → ∀ x ∈ l, ∃ g t cs fuel p, P.globalNamed x.1 = some g ∧ (P.globals[g]?).map (·.type) = some t ∧ w.var? P x.1 = some cs ∧ DataW.trod (fun _ => ()) P w 0 (fun _ => true) false fuel t cs.toList = some (x.2, p)
 | [], _, _, x, hx => by cases hx
 | (n, d) :: r, ps, h, x, hx => by
  obtain ⟨g, t, cs, fuel, p, q, h1, h2, h3, h4, h5, _⟩ := h
  rcases List.mem_cons.1 hx with rfl | hx
  ·exact ⟨g, t, cs, fuel, p, h1, h2, h3, h4⟩
  ·exact T2 h5 x hx
theorem zH {α β : Type} {f : α → Option β} : ∀ {l : List α} {ys : List β}, l.mapM f = some ys → ∀ (i : Nat) (a : α), l[i]? = some a → ∃ b, ys[i]? = some b ∧ f a = some b
 | [], ys, h, i, a, ha => by simp at ha
 | x :: l, ys, h, i, a, ha => by
  rw [List.mapM_cons] at h
  simp only [Option.bind_eq_bind, Option.pure_def] at h
  cases hx : f x with
  | none => rw [hx] at h; simp at h
  | some b =>
   rw [hx] at h
   cases hl : l.mapM f with
   | none => rw [hl] at h; simp at h
   | some bs =>
    rw [hl] at h
    simp at h
    subst h
    cases i with
    | zero => simp at ha; subst ha; exact ⟨b, by simp, hx⟩
    | succ i => obtain ⟨c, h1, h2⟩ := zH hl i a (by simpa using ha); exact ⟨c, by simpa using h1, h2⟩
theorem T3 {c : Ctx} {W : World} {b : Nat} {k : IntKind} : ∀ (is : List Int) (o : Nat), (∀ i n, is[i]? = some n → W.cell? ⟨b, o + i, none⟩ = some (.int k n)) → Rc c W b o (is.map fun n => .lit (.int k n))
 | [], _, _ => trivial
 | n :: is, o, h => by
  refine ⟨.int k n, by simpa using h 0 n rfl, rfl, T3 is (o + 1) fun i m hi => ?_⟩
  have := h (i + 1) m (by simpa using hi)
  rwa [show o + (i + 1) = o + 1 + i by omega] at this
theorem T4 {k : IntKind} : ∀ is : List Int, tl (is.map fun n => VV.lit (.int k n)) = true
 | [] => rfl
 | n :: is => by simp [tl, VV.tree, T4 is]
theorem HU {P : Program} {W : World} {l : List (String × DataW Unit)} (h : laidMet P l W) {n : String} {k : IntKind} {is : List Int} {g N e t : Nat} (hm : l.lookup n = some (.agg (is.map fun i => .lit (.int k i))))
  (hg : P.globalNamed n = some g) (ht : (P.globals[g]?).map (·.type) = some t) (hu : P.underlying t = some (.array N e)) (he : P.underlying e = some (.int k)) (hc : P.cellsOf e = 1) (hN : is.length = N) :
  g < W.heap.size ∧ Rc (PCtx fun b => b < W.heap.size) W g 0 (is.map fun i => .lit (.int k i)) := by
 obtain ⟨ps, h, _⟩ := h
 have hmem : (n, DataW.agg (is.map fun i => .lit (.int k i))) ∈ l := by
  clear h
  induction l with
  | nil => cases hm
  | cons x r ih =>
   obtain ⟨m, d⟩ := x
   rw [List.lookup_cons] at hm
   split at hm
   ·rename_i hb
    cases hm
    obtain rfl := (beq_iff_eq.1 hb)
    exact qZb ..
   ·exact qZa _ (ih hm)
 obtain ⟨g', t', cs, fuel, p, h1, h2, h3, h4⟩ := T2 h _ hmem
 obtain rfl : g' = g := Option.some.inj (h1.symm.trans hg)
 obtain rfl : t' = t := Option.some.inj (h2.symm.trans ht)
 unfold World.var? at h3
 rw [hg] at h3
 simp only [Option.bind_some] at h3
 split at h3
 ·rename_i cs' ty' fz' hh
  cases h3
  refine ⟨(Array.getElem?_eq_some_iff.1 hh).1, T3 is 0 ?_⟩
  cases fuel with
  | zero => simp [DataW.trod] at h4
  | succ fuel =>
   unfold DataW.trod at h4
   simp only [hu] at h4
   split at h4
   ·cases hx : (List.range N).mapM fun i => DataW.trod (fun _ => ()) P W 0 (fun _ => true) false fuel e ((cs.toList.drop (i * P.cellsOf e)).take (P.cellsOf e)) with
    | none => rw [hx] at h4; simp at h4
    | some xs =>
     rw [hx] at h4
     simp only [Option.map_some, Option.some.injEq, Prod.mk.injEq, DataW.agg.injEq] at h4
     have hxs := h4.1
     intro i m hi
     have hi' : i < N := by rw [← hN]; exact (List.getElem?_eq_some_iff.1 hi).1
     obtain ⟨x, zI, Xl⟩ := zH hx i i (by simp [hi'])
     obtain ⟨q, T5, zJ⟩ := DataW.trod_int he Xl
     have h5 : (xs.map (·.1))[i]? = some x.1 := by simp [zI]
     rw [hxs] at h5
     simp only [List.getElem?_map, hi, Option.map_some, Option.some.injEq] at h5
     rw [zJ.1] at h5
     simp only [DataW.lit.injEq, Lit.int.injEq, true_and] at h5
     rw [hc, Nat.mul_one] at T5
     have h6 : cs.toList[i]? = some (.int k q) := by
      have : ((cs.toList.drop i).take 1)[0]? = some (.int k q) := by rw [T5]; rfl
      simpa using this
     rw [Nat.zero_add, h5]
     unfold World.cell?
     simp only [hh]
     simpa using h6
   ·cases h4
 ·cases h3
end Go.V
end
section
namespace Go.V
open Go
def zK : List Int := [1, 10, 100, 1000, 10000, 100000, 1000000, 10000000, 100000000, 1000000000, 10000000000, 100000000000, 1000000000000, 10000000000000, 100000000000000, 1000000000000000, 10000000000000000, 100000000000000000, 1000000000000000000, 10000000000000000000]
def G0 : Gb := ⟨fun g => match g with | 3 => some (zK.map fun n => .lit (.int .u64 n)) | _ => none, some none⟩
end Go.V
end
section
namespace Go.V
open Go Go.ChangeShapes Go.WideShapes
theorem HV {P : Program} {f : FuncId} {fn : Func} {s : ChangeSpec} {c : OpenClaim}
 (a1 : c.wf (OpenSpec.ofChange s) = true) (a2 : laidOutB P = true) (a3 : mapsRowed P = true) (a4 : fn.params.all (P.readableRec ·) = true) (a5 : namedTie P c.named s.vars = true)
 (a6 : (c.stops == []) = true) (a7 : (P.stops == []) = true) (a8 : (c.knobs == []) = true) (a9 : (P.stopKnobs == []) = true)
 (HW : (c.inPlace == P.inPlace f) = true) (HX : (c.unfollowed == P.unfollowed f) = true) (Xm : (c.recurses == P.recurses f) = true) (Xn : (c.named == P.varsNamed f) = true)
 (Xo : (c.maps == (fn.params.toList ++ s.plain.varTypes P).any (P.mapsRec ·)) = true) (Xp : (c.ifaces == (fn.params.toList ++ s.plain.varTypes P).any (P.ifacesRec ·)) = true) (Xq : (c.mapsOut == P.mapsAmong fn.resultTypes.toList) = true)
 (Xr : (c.loops == (fn.params.toList ++ s.plain.varTypes P).any (P.loopsFrom ·)) = true) (Xs : (c.wideKeys == (fn.params.toList ++ s.plain.varTypes P ++ fn.resultTypes.toList).any (P.wideKeysFrom ·)) = true)
 (Xt : s.vars.all (P.varReadable ·) = true) (Xu : fn.resultTypes.all (fun t => P.readableRec t && decide (t < P.types.size)) = true) (Xv : (c.ifacesOut == fn.resultTypes.toList.any (P.ifacesRec ·)) = true)
 (Xw : (c.loopsOut == fn.resultTypes.toList.any (P.loopsFrom ·)) = true) (Xx : (c.plainKeys == P.plainKeys) = true) (Xy : c.shortTexts.isNone = true) (Xz : P.stopsHeard = true) (X0 : P.mayEnter = true) (X1 : (c.lifted == P.liftsFinal) = true)
 (X2 : (P.make == some c.make) = true) (X3 : (c.kinds == (if c.domain.isEmpty then [] else fn.params.toList.map fun t => match P.underlying t with | some (.int k) => some k | _ => none)) = true) (X4 : (c.pinned == c.pinnedBy) = true)
 (X5 : (c.veiled == (fn.params.toList ++ s.plain.varTypes P ++ fn.resultTypes.toList).any (P.veiledRec ·)) = true) (X6 : c.veiledFits P fn.params.toList (fn.params.toList ++ s.plain.varTypes P ++ fn.resultTypes.toList) = true) : joinedFacts P f fn s c = true := by
 unfold joinedFacts
 simp only [Bool.and_eq_true]
 exact ⟨⟨⟨⟨⟨⟨⟨⟨⟨⟨⟨⟨⟨⟨⟨⟨⟨⟨⟨⟨⟨⟨⟨⟨⟨⟨⟨⟨⟨⟨⟨a1, a2⟩, a3⟩, a4⟩, a5⟩, a6⟩, a7⟩, a8⟩, a9⟩, HW⟩, HX⟩, Xm⟩, Xn⟩, Xo⟩, Xp⟩, Xq⟩, Xr⟩, Xs⟩, Xt⟩, Xu⟩, Xv⟩, Xw⟩, Xx⟩, Xy⟩, Xz⟩, X0⟩, X1⟩, X2⟩, X3⟩, X4⟩, X5⟩, X6⟩
end Go.V
end
