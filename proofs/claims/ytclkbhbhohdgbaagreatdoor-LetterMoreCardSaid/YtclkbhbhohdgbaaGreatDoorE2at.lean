/- Part of a proof. -/
import Derived.Test.YtclkbhbhohdgbaaGreatDoorE2as
import Derived.Test.YtclkbhbhohdgbaaGreatDoorE2al
set_option linter.all false
section
namespace Go.V
open Go
def putR (H' : Trie Vo) : List Nat → Trie Vo → Trie Vo
 | [], t => t
 | β :: l, t => putR H' l (t.put β (H'.get β))
theorem LQ (H' : Trie Vo) : ∀ (l : List Nat) (t : Trie Vo) (i : Nat), (putR H' l t).get i = if i ∈ l then H'.get i else t.get i
 | [], t, i => by simp [putR]
 | β :: l, t, i => by
  rw [putR, LQ H' l, Trie.get_put]
  by_cases e : i = β
  ·subst e; simp
  ·simp [e]
def oldN (M : Nat) : List Nat → List Nat
 | [] => []
 | β :: l => match Nat.blt β M with
  | true => β :: oldN M l
  | false => oldN M l
def newN (M : Nat) : List Nat → List Nat
 | [] => []
 | β :: l => match Nat.blt β M with
  | true => newN M l
  | false => β :: newN M l
theorem DM {M β : Nat} : ∀ {l : List Nat}, β ∈ oldN M l ↔ β ∈ l ∧ β < M
 | [] => by simp [oldN]
 | γ :: l => by
  unfold oldN
  have ih := DM (M := M) (β := β) (l := l)
  split
  ·rename_i h
   rw [Nat.blt_eq] at h
   rw [List.mem_cons, List.mem_cons, ih]
   constructor
   ·rintro (rfl | h1)
    ·exact ⟨.inl rfl, h⟩
    ·exact ⟨.inr h1.1, h1.2⟩
   ·rintro ⟨rfl | h1, h2⟩
    ·exact .inl rfl
    ·exact .inr ⟨h1, h2⟩
  ·rename_i h
   have h : ¬ γ < M := by rw [← Nat.blt_eq, h]; simp
   rw [List.mem_cons, ih]
   constructor
   ·rintro ⟨h1, h2⟩; exact ⟨.inr h1, h2⟩
   ·rintro ⟨rfl | h1, h2⟩
    ·exact absurd h2 h
    ·exact ⟨h1, h2⟩
theorem DN {M β : Nat} : ∀ {l : List Nat}, β ∈ newN M l ↔ β ∈ l ∧ M ≤ β
 | [] => by simp [newN]
 | γ :: l => by
  unfold newN
  have ih := DN (M := M) (β := β) (l := l)
  split
  ·rename_i h
   rw [Nat.blt_eq] at h
   rw [List.mem_cons, ih]
   constructor
   ·rintro ⟨h1, h2⟩; exact ⟨.inr h1, h2⟩
   ·rintro ⟨rfl | h1, h2⟩
    ·omega
    ·exact ⟨h1, h2⟩
  ·rename_i h
   have h : ¬ γ < M := by rw [← Nat.blt_eq, h]; simp
   rw [List.mem_cons, List.mem_cons, ih]
   constructor
   ·rintro (rfl | h1)
    ·exact ⟨.inl rfl, by omega⟩
    ·exact ⟨.inr h1.1, h1.2⟩
   ·rintro ⟨rfl | h1, h2⟩
    ·exact .inl rfl
    ·exact .inr ⟨h1, h2⟩
theorem LS (H H' : Trie Vo) (rd us : List Nat) (M : Nat) : (putR H' (newN M us) (putR H' (oldN M rd) H)).get = keepH rd us H.get H'.get M := by
 funext i
 rw [LQ, LQ]
 unfold keepH
 rcases Nat.lt_or_ge i M with h | h
 ·rw [blt_t h, if_neg (fun hm => by have := (DN.1 hm).2; omega)]
  cases hm : memQ i rd with
  | true => rw [if_pos (DM.2 ⟨ki.1 hm, h⟩)]
  | false => rw [if_neg (fun h2 => by rw [ki.2 (DM.1 h2).1] at hm; cases hm)]
 ·rw [blt_f h]
  cases hm : memQ i us with
  | true => rw [if_pos (DN.2 ⟨ki.1 hm, h⟩)]
  | false =>
   rw [if_neg (fun h2 => by rw [ki.2 (DN.1 h2).1] at hm; cases hm), if_neg (fun h2 => by have := (DM.1 h2).2; omega)]
def changedR (H H' : Trie Vo) : List Nat → List Nat
 | [] => []
 | β :: l => match eqO (H'.get β) (H.get β) with
  | true => changedR H H' l
  | false => β :: changedR H H' l
theorem LU {H H' : Trie Vo} : ∀ {l : List Nat}, ∀ β ∈ l, β ∉ changedR H H' l → H'.get β = H.get β
 | [], β, hb, _ => by cases hb
 | γ :: l, β, hb, hc => by
  unfold changedR at hc
  split at hc
  ·rename_i he
   rcases List.mem_cons.1 hb with rfl | hb
   ·exact Br he
   ·exact LU β hb hc
  ·rw [List.mem_cons, not_or] at hc
   rcases List.mem_cons.1 hb with rfl | hb
   ·exact absurd rfl hc.1
   ·exact LU β hb hc.2
def dopn2 (z : Nat) (o : Oper) (s : RS) (rd : List Nat) (x0 : VV) (H' : Trie Vo) (m : Nat) (us : List Nat) : DR :=
 match (Nat.ble s.nx m && okD (keepK rd us H'.get s.nx) H'.get rd) && (okD (keepK rd us H'.get s.nx) H'.get us && okV (keepK rd us H'.get s.nx) x0) with
 | true => .ok (z :: rd) (z :: changedR s.H H' rd) { s.put o.dst x0 with H := putR H' (newN s.nx us) (putR H' (oldN s.nx rd) s.H), nx := m }
 | false => .no (.op o)
def dopnR (cf : aI) (z : Nat) (o : Oper) (s : RS) (f : FuncId) (args : List VV) (rd : List Nat) : DR :=
 match okR (inR rd s.H.get) s.H.get rd && Nat.ble z s.nx with
 | true => match cf f args (pickR s.H rd .nil) s.nx with
  | .ret x0 H' m => dopn2 z o s rd x0 H' m (newN s.nx (reachR H' 4000 (namesV x0 rd) []))
  | .pan _ _ _ => .no (.op o)
  | .no w => .no (.deep o w)
 | false => .no (.op o)
variable {P : Program} {G : Gb} {cf : aI} {ops : Array Oper} {s s' : RS} {rd : List Nat}
theorem LV (hcf : CallOk P G cf) {aa i : Nat} {o : Oper} {rd' wr : List Nat} {f : FuncId} {args : List VV} (hw : aO ops s.st.tm o = some true) (hf : callee? P G s.st o.op = some (f, args))
  (h : dopnR cf (aa + ops.size) o s f args rd' = .ok rd wr s') : OStep P G ops aa i o s.st s'.st rd wr := by
 unfold dopnR at h
 split at h
 ·rename_i hok
  simp only [Bool.and_eq_true, Nat.ble_eq] at hok
  split at h
  ·rename_i x0 H' m hc
   unfold dopn2 at h
   split at h
   ·rename_i hk
    simp only [Bool.and_eq_true, Nat.ble_eq] at hk
    have ho := hcf.1 _ _ _ _ _ _ _ hc
    rw [TQ] at ho
    have := OStep.opn (P := P) (G := G) (ops := ops) (aa := aa) (i := i) (o := o) (st := s.st) (f := f) (args := args) (rd := rd') (ch := changedR s.H H' rd') (us := newN s.nx (reachR H' 4000 (namesV x0 rd') [])) (x0 := x0) (Hn := H'.get) (m := m)
     hw hf ho hok.1 hk.1.2 hk.2.1 hk.2.2 (fun β hb hc => LU β hb hc) hk.1.1 hok.2
    cases h
    have e : ({ s.put o.dst x0 with H := putR H' (newN s.nx (newN s.nx (reachR H' 4000 (namesV x0 rd') []))) (putR H' (oldN s.nx rd') s.H), nx := m } : RS).st =
      { s.st.put o.dst x0 with H := keepH rd' (newN s.nx (reachR H' 4000 (namesV x0 rd') [])) s.st.H H'.get s.st.nx, nx := m } := by
     rw [← RS.put_st]
     show St.mk _ _ _ _ = St.mk _ _ _ _
     rw [LS]
     rfl
    rw [e]
    exact this
   ·cases h
  ·cases h
  ·cases h
 ·cases h
def dstepO (P : Program) (G : Gb) (cf : aI) (ops : Array Oper) (z γ : Nat) (o : Oper) (s : RS) : DR :=
 match aO ops s.st.tm o with
 | none => .no (.op o)
 | some false => .ok [] [] (s.put o.dst (.lit undef))
 | some true => match callee? P G s.st o.op with
  | some (f, args) => match hasBody P f with
   | true => dopnR cf z o s f args (reachR s.H 2000 (namesL args []) [])
   | false => match vop P o (s.st.ρ G) s.H.get γ with
    | some (x, eff) => .ok (rdV o (s.st.ρ G)) (eff.wr γ) { s.put o.dst x with H := effR γ s.H eff }
    | none => .no (.op o)
  | none => match vop P o (s.st.ρ G) s.H.get γ with
   | some (x, eff) => .ok (rdV o (s.st.ρ G)) (eff.wr γ) { s.put o.dst x with H := effR γ s.H eff }
   | none => .no (.op o)
theorem Se (hcf : CallOk P G cf) {aa i : Nat} {o : Oper} {wr : List Nat} (h : dstepO P G cf ops (aa + ops.size) (aa + i) o s = .ok rd wr s') : OStep P G ops aa i o s.st s'.st rd wr := by
 have opc : aO ops s.st.tm o = some true → (match vop P o (s.st.ρ G) s.H.get (aa + i) with
    | some (x, eff) => DR.ok (rdV o (s.st.ρ G)) (eff.wr (aa + i)) { s.put o.dst x with H := effR (aa + i) s.H eff }
    | none => .no (.op o)) = .ok rd wr s' → OStep P G ops aa i o s.st s'.st rd wr := by
  intro hw h
  split at h
  ·rename_i x eff hv
   cases h
   have e : ({ s.put o.dst x with H := effR (aa + i) s.H eff } : RS).st = { s.st.put o.dst x with H := eff.app (aa + i) s.st.H } := by
    rw [← RS.put_st]
    show St.mk _ _ _ _ = St.mk _ _ _ _
    congr 1
    exact vD _ _ _
   rw [e]
   exact .op hw hv
  ·cases h
 unfold dstepO at h
 split at h
 ·cases h
 ·rename_i hw
  cases h
  rw [RS.put_st]
  exact .skip hw
 ·rename_i hw
  split at h
  ·rename_i f args hf
   split at h
   ·exact LV hcf hw hf h
   ·exact opc hw h
  ·exact opc hw h
def ltAll (z : Nat) : List Nat → Bool
 | [] => true
 | β :: l => Nat.blt β z && ltAll z l
theorem LW {z : Nat} : ∀ {l : List Nat}, ltAll z l = true → ∀ β ∈ l, β < z
 | [], _, β, hb => by cases hb
 | γ :: l, h, β, hb => by
  simp only [ltAll, Bool.and_eq_true, Nat.blt_eq] at h
  rcases List.mem_cons.1 hb with rfl | hb
  ·exact h.1
  ·exact LW h.2 β hb
def zoneQ (z : Nat) (w rd wr : List Nat) : Bool := match memQ z w with
 | true => ltAll z rd && ltAll z wr
 | false => true
theorem TR {z : Nat} {w wr : List Nat} (h : zoneQ z w rd wr = true) : z ∈ w → (∀ β ∈ rd, β < z) ∧ ∀ β ∈ wr, β < z := by
 intro hm
 unfold zoneQ at h
 rw [ki.2 hm] at h
 simp only [Bool.and_eq_true] at h
 exact ⟨LW h.1, LW h.2⟩
def hitO (ms : List Nat) (z j : Nat) (rd wr : List Nat) : Tr → Bool
 | [] => true
 | p :: tr => (befQ ms p.1 j || ((disj p.2.2 rd && disj p.2.2 wr && disj wr p.2.1) && (zoneQ z p.2.2 rd wr && zoneQ z wr p.2.1 p.2.2))) && hitO ms z j rd wr tr
theorem FQ {ops : Array Oper} {z j : Nat} (hj : j < ops.size) {rd wr : List Nat} : ∀ {tr : Tr}, hitO (masks ops) z j rd wr tr = true → ∀ p ∈ tr, aK ops ops.size p.1 j = true ∨ IndepO z p (j, rd, wr)
 | [], _, p, hp => by cases hp
 | q :: tr, h, p, hp => by
  simp only [hitO, Bool.and_eq_true, Bool.or_eq_true] at h
  rcases List.mem_cons.1 hp with rfl | hp
  ·rcases h.1 with h1 | ⟨h1, h2⟩
   ·exact .inl (uY hj h1)
   ·exact .inr ⟨⟨fun β hb => ⟨vN h1.1.1 β hb, vN h1.1.2 β hb⟩, fun β hb => vN h1.2 β hb⟩, TR h2.1, TR h2.2⟩
  ·exact FQ hj h.2 p hp
def drawO (P : Program) (G : Gb) (cf : aI) (ops : Array Oper) (aa : Nat) : Nat → List Oper → Tr → RS → ER
 | _, [], _, s => .mk .normal s
 | i, o :: l, tr, s => match dstepO P G cf ops (aa + ops.size) (aa + i) o s with
  | .ok rd wr s' => match hitO (masks ops) (aa + ops.size) i rd wr tr with
   | true => drawO P G cf ops aa (i + 1) l ((i, rd, wr) :: tr) s'
   | false => .no (.order o)
  | .no w => .no w
def relO (ops : Array Oper) (z : Nat) (p q : Nat × List Nat × List Nat) : Prop := aK ops ops.size p.1 q.1 = true ∨ IndepO z p q
theorem TS {P : Program} {G : Gb} {cf : aI} (hcf : CallOk P G cf) {ops : Array Oper} {aa : Nat} : ∀ (l : List Oper) (i : Nat) (tr : Tr) (s s' : RS) (e : Vx), (∀ k, l[k]? = ops[i + k]?) →
  drawO P G cf ops aa i l tr s = .mk e s' → e = .normal ∧ ∃ tr', OSteps P G ops aa (List.range' i l.length) s.st s'.st tr' ∧ (∀ q ∈ tr', i ≤ q.1) ∧ (∀ q ∈ tr', ∀ p ∈ tr, relO ops (aa + ops.size) p q) ∧ tr'.Pairwise fun p q => p.1 < q.1 ∧ relO ops (aa + ops.size) p q
 | [], i, tr, s, s', e, _, h => by
  cases h
  exact ⟨rfl, [], .nil, fun q hq => (by cases hq), fun q hq => (by cases hq), List.Pairwise.nil⟩
 | o :: l, i, tr, s, s', e, hl, h => by
  have ho : ops[i]? = some o := by have := hl 0; simpa using this.symm
  have hi := (Array.getElem?_eq_some_iff.1 ho).1
  unfold drawO at h
  split at h
  ·rename_i rd wr s1 hs
   split at h
   ·rename_i hh
    obtain ⟨he, tr', h1, h2, h3, h4⟩ := TS hcf l (i + 1) ((i, rd, wr) :: tr) s1 s' e (fun k => by have := hl (k + 1); simp at this; rw [this]; congr 1; omega) h
    refine ⟨he, (i, rd, wr) :: tr', .cons ho (Se hcf hs) h1, ?_, ?_, ?_⟩
    ·intro q hq
     rcases List.mem_cons.1 hq with rfl | hq
     ·exact qZg _
     ·have := h2 q hq; omega
    ·intro q hq p hp
     rcases List.mem_cons.1 hq with rfl | hq
     ·exact FQ hi hh p hp
     ·exact h3 q hq p (qZa _ hp)
    ·exact List.pairwise_cons.2 ⟨fun q hq => ⟨by have := h2 q hq; show i < q.1; omega, h3 q hq _ (qZb ..)⟩, h4⟩
   ·cases h
  ·cases h
theorem X5 (hm : P.follows .mixedOrders = true) (hcf : CallOk P G cf) {n id : Nat} {e : Vx} {Q : Vx → St → Prop} (hback : backOk ops = true) (hdst : dstsOk n ops = true) (hap : apartOk ops = true)
  (h : drawO P G cf ops s.nx 0 ops.toList [] (RS.mk s.tm s.H (s.nx + ops.size) s.df) = .mk e s') (hq : Q e s'.st) : VWp P G n (.region id ops true) Q s.st := by
 obtain ⟨he, tr, h1, _, _, h4⟩ := TS hcf ops.toList 0 [] _ s' e (fun k => by simp) h
 subst he
 rw [Array.length_toList, ← List.range_eq_range'] at h1
 refine VWp.regionOpen hm hback hdst h1 ?_ hq
 refine h4.imp ?_
 rintro p q ⟨hlt, hr⟩
 rcases hr with hb | hi
 ·exact .inl hb
 ·cases hbb : aK ops ops.size p.1 q.1 with
  | true => exact .inl rfl
  | false =>
   refine .inr ⟨hi, fun o o' ho ho' => ?_⟩
   have h1 := (Array.getElem?_eq_some_iff.1 ho).1
   have h2 := (Array.getElem?_eq_some_iff.1 ho').1
   unfold apartOk at hap
   rw [List.all_eq_true] at hap
   have := hap p.1 (List.mem_range.2 h1)
   rw [List.all_eq_true] at this
   have := this q.1 (List.mem_range.2 h2)
   simp [hlt, hbb, ho, ho'] at this
   exact this
end Go.V
end
