/- Part of the proof of a statement of YtljphegpidbnjaaGreatDoor: a logic of values by content, the lifted functions, and what follows. -/
import Derived.Test.YtljphegpidbnjaaGreatDoorMar
import Derived.Test.YtljphegpidbnjaaGreatDoorMan
import Derived.Test.YtljphegpidbnjaaGreatDoorMaq
import Derived.Carry
import Derived.ChangeSame
import Derived.OpenShut
import Derived.RowKit
import Derived.ChangeShapes
set_option linter.unusedVariables false
set_option linter.unusedSimpArgs false
set_option linter.unusedSectionVars false
set_option linter.constructorNameAsVariable false
section
/- Regions in an open order whose calls leave their objects open: run. -/
namespace Go.V
open Go

def putR (H' : Trie VObj) : List Nat → Trie VObj → Trie VObj
  | [], t => t
  | β :: l, t => putR H' l (t.put β (H'.get β))
theorem putR_get (H' : Trie VObj) : ∀ (l : List Nat) (t : Trie VObj) (i : Nat), (putR H' l t).get i = if i ∈ l then H'.get i else t.get i
  | [], t, i => by simp [putR]
  | β :: l, t, i => by
    rw [putR, putR_get H' l, Trie.get_put]
    by_cases e : i = β
    · subst e; simp
    · simp [e]
def oldN (M : Nat) : List Nat → List Nat
  | [] => []
  | β :: l => match Nat.blt β M with
    | true => β :: oldN M l
    | false => oldN M l
def newN (M : Nat) : List Nat → List Nat
  | [] => []
  | β :: l => match Nat.blt β M with
    | true => newN M l
    | false => β :: newN M l
theorem oldN_mem {M β : Nat} : ∀ {l : List Nat}, β ∈ oldN M l ↔ β ∈ l ∧ β < M
  | [] => by simp [oldN]
  | γ :: l => by
    unfold oldN
    have ih := oldN_mem (M := M) (β := β) (l := l)
    split
    · rename_i h
      rw [Nat.blt_eq] at h
      rw [List.mem_cons, List.mem_cons, ih]
      constructor
      · rintro (rfl | h1)
        · exact ⟨.inl rfl, h⟩
        · exact ⟨.inr h1.1, h1.2⟩
      · rintro ⟨rfl | h1, h2⟩
        · exact .inl rfl
        · exact .inr ⟨h1, h2⟩
    · rename_i h
      have h : ¬ γ < M := by rw [← Nat.blt_eq, h]; simp
      rw [List.mem_cons, ih]
      constructor
      · rintro ⟨h1, h2⟩; exact ⟨.inr h1, h2⟩
      · rintro ⟨rfl | h1, h2⟩
        · exact absurd h2 h
        · exact ⟨h1, h2⟩
theorem newN_mem {M β : Nat} : ∀ {l : List Nat}, β ∈ newN M l ↔ β ∈ l ∧ M ≤ β
  | [] => by simp [newN]
  | γ :: l => by
    unfold newN
    have ih := newN_mem (M := M) (β := β) (l := l)
    split
    · rename_i h
      rw [Nat.blt_eq] at h
      rw [List.mem_cons, ih]
      constructor
      · rintro ⟨h1, h2⟩; exact ⟨.inr h1, h2⟩
      · rintro ⟨rfl | h1, h2⟩
        · omega
        · exact ⟨h1, h2⟩
    · rename_i h
      have h : ¬ γ < M := by rw [← Nat.blt_eq, h]; simp
      rw [List.mem_cons, List.mem_cons, ih]
      constructor
      · rintro (rfl | h1)
        · exact ⟨.inl rfl, by omega⟩
        · exact ⟨.inr h1.1, h1.2⟩
      · rintro ⟨rfl | h1, h2⟩
        · exact .inl rfl
        · exact .inr ⟨h1, h2⟩
theorem keepR_get (H H' : Trie VObj) (rd us : List Nat) (M : Nat) : (putR H' (newN M us) (putR H' (oldN M rd) H)).get = keepH rd us H.get H'.get M := by
  funext i
  rw [putR_get, putR_get]
  unfold keepH
  rcases Nat.lt_or_ge i M with h | h
  · rw [blt_t h, if_neg (fun hm => by have := (newN_mem.1 hm).2; omega)]
    cases hm : memQ i rd with
    | true => rw [if_pos (oldN_mem.2 ⟨memQ_iff.1 hm, h⟩)]
    | false => rw [if_neg (fun h2 => by rw [memQ_iff.2 (oldN_mem.1 h2).1] at hm; cases hm)]
  · rw [blt_f h]
    cases hm : memQ i us with
    | true => rw [if_pos (newN_mem.2 ⟨memQ_iff.1 hm, h⟩)]
    | false =>
      rw [if_neg (fun h2 => by rw [memQ_iff.2 (newN_mem.1 h2).1] at hm; cases hm), if_neg (fun h2 => by have := (oldN_mem.1 h2).2; omega)]
def changedR (H H' : Trie VObj) : List Nat → List Nat
  | [] => []
  | β :: l => match eqO (H'.get β) (H.get β) with
    | true => changedR H H' l
    | false => β :: changedR H H' l
theorem changedR_spec {H H' : Trie VObj} : ∀ {l : List Nat}, ∀ β ∈ l, β ∉ changedR H H' l → H'.get β = H.get β
  | [], β, hb, _ => by cases hb
  | γ :: l, β, hb, hc => by
    unfold changedR at hc
    split at hc
    · rename_i he
      rcases List.mem_cons.1 hb with rfl | hb
      · exact eqO_spec he
      · exact changedR_spec β hb hc
    · rw [List.mem_cons, not_or] at hc
      rcases List.mem_cons.1 hb with rfl | hb
      · exact absurd rfl hc.1
      · exact changedR_spec β hb hc.2

def dopn2 (z : Nat) (o : Oper) (s : RS) (rd : List Nat) (x0 : VV) (H' : Trie VObj) (m : Nat) (us : List Nat) : DR :=
  match (Nat.ble s.nx m && okD (keepK rd us H'.get s.nx) H'.get rd) && (okD (keepK rd us H'.get s.nx) H'.get us && okV (keepK rd us H'.get s.nx) x0) with
  | true => .ok (z :: rd) (z :: changedR s.H H' rd) { s.put o.dst x0 with H := putR H' (newN s.nx us) (putR H' (oldN s.nx rd) s.H), nx := m }
  | false => .no (.op o)
def dopnR (cf : CallR) (z : Nat) (o : Oper) (s : RS) (f : FuncId) (args : List VV) (rd : List Nat) : DR :=
  match okR (inR rd s.H.get) s.H.get rd && Nat.ble z s.nx with
  | true => match cf f args (pickR s.H rd .nil) s.nx with
    | .ret x0 H' m => dopn2 z o s rd x0 H' m (newN s.nx (reachR H' 4000 (namesV x0 rd) []))
    | .pan _ _ _ => .no (.op o)
    | .no w => .no (.deep o w)
  | false => .no (.op o)
theorem dopnR_sound {P : Program} {G : Glob} {cf : CallR} (hcf : CallOk P G cf) {ops : Array Oper} {base i : Nat} {o : Oper} {s s' : RS} {rd' rd wr : List Nat} {f : FuncId} {args : List VV} (hw : wantV ops s.st.tm o = some true) (hf : callee? G s.st o.op = some (f, args))
    (h : dopnR cf (base + ops.size) o s f args rd' = .ok rd wr s') : OStep P G ops base i o s.st s'.st rd wr := by
  unfold dopnR at h
  split at h
  · rename_i hok
    simp only [Bool.and_eq_true, Nat.ble_eq] at hok
    split at h
    · rename_i x0 H' m hc
      unfold dopn2 at h
      split at h
      · rename_i hk
        simp only [Bool.and_eq_true, Nat.ble_eq] at hk
        have ho := hcf.1 _ _ _ _ _ _ _ hc
        rw [pickR_restr] at ho
        have := OStep.opn (P := P) (G := G) (ops := ops) (base := base) (i := i) (o := o) (st := s.st) (f := f) (args := args) (rd := rd') (ch := changedR s.H H' rd') (us := newN s.nx (reachR H' 4000 (namesV x0 rd') [])) (x0 := x0) (Hn := H'.get) (m := m)
          hw hf ho hok.1 hk.1.2 hk.2.1 hk.2.2 (fun β hb hc => changedR_spec β hb hc) hk.1.1 hok.2
        cases h
        have e : ({ s.put o.dst x0 with H := putR H' (newN s.nx (newN s.nx (reachR H' 4000 (namesV x0 rd') []))) (putR H' (oldN s.nx rd') s.H), nx := m } : RS).st =
            { s.st.put o.dst x0 with H := keepH rd' (newN s.nx (reachR H' 4000 (namesV x0 rd') [])) s.st.H H'.get s.st.nx, nx := m } := by
          rw [← RS.put_st]
          show St.mk _ _ _ _ = St.mk _ _ _ _
          rw [keepR_get]
          rfl
        rw [e]
        exact this
      · cases h
    · cases h
    · cases h
  · cases h

def dstepO (P : Program) (G : Glob) (cf : CallR) (ops : Array Oper) (z γ : Nat) (o : Oper) (s : RS) : DR :=
  match wantV ops s.st.tm o with
  | none => .no (.op o)
  | some false => .ok [] [] (s.put o.dst (.lit undef))
  | some true => match callee? G s.st o.op with
    | some (f, args) => match hasBody P f with
      | true => dopnR cf z o s f args (reachR s.H 2000 (namesL args []) [])
      | false => match vop P o (s.st.ρ G) s.H.get γ with
        | some (x, eff) => .ok (rdV o (s.st.ρ G)) (eff.wr γ) { s.put o.dst x with H := effR γ s.H eff }
        | none => .no (.op o)
    | none => match vop P o (s.st.ρ G) s.H.get γ with
      | some (x, eff) => .ok (rdV o (s.st.ρ G)) (eff.wr γ) { s.put o.dst x with H := effR γ s.H eff }
      | none => .no (.op o)

theorem dstepO_sound {P : Program} {G : Glob} {cf : CallR} (hcf : CallOk P G cf) {ops : Array Oper} {base i : Nat} {o : Oper} {s s' : RS} {rd wr : List Nat} (h : dstepO P G cf ops (base + ops.size) (base + i) o s = .ok rd wr s') : OStep P G ops base i o s.st s'.st rd wr := by
  have opc : wantV ops s.st.tm o = some true → (match vop P o (s.st.ρ G) s.H.get (base + i) with
        | some (x, eff) => DR.ok (rdV o (s.st.ρ G)) (eff.wr (base + i)) { s.put o.dst x with H := effR (base + i) s.H eff }
        | none => .no (.op o)) = .ok rd wr s' → OStep P G ops base i o s.st s'.st rd wr := by
    intro hw h
    split at h
    · rename_i x eff hv
      cases h
      have e : ({ s.put o.dst x with H := effR (base + i) s.H eff } : RS).st = { s.st.put o.dst x with H := eff.app (base + i) s.st.H } := by
        rw [← RS.put_st]
        show St.mk _ _ _ _ = St.mk _ _ _ _
        congr 1
        exact effR_get _ _ _
      rw [e]
      exact .op hw hv
    · cases h
  unfold dstepO at h
  split at h
  · cases h
  · rename_i hw
    cases h
    rw [RS.put_st]
    exact .skip hw
  · rename_i hw
    split at h
    · rename_i f args hf
      split at h
      · exact dopnR_sound hcf hw hf h
      · exact opc hw h
    · exact opc hw h

def ltAll (z : Nat) : List Nat → Bool
  | [] => true
  | β :: l => Nat.blt β z && ltAll z l
theorem ltAll_spec {z : Nat} : ∀ {l : List Nat}, ltAll z l = true → ∀ β ∈ l, β < z
  | [], _, β, hb => by cases hb
  | γ :: l, h, β, hb => by
    simp only [ltAll, Bool.and_eq_true, Nat.blt_eq] at h
    rcases List.mem_cons.1 hb with rfl | hb
    · exact h.1
    · exact ltAll_spec h.2 β hb
def zoneQ (z : Nat) (w rd wr : List Nat) : Bool := match memQ z w with
  | true => ltAll z rd && ltAll z wr
  | false => true
theorem zoneQ_spec {z : Nat} {w rd wr : List Nat} (h : zoneQ z w rd wr = true) : z ∈ w → (∀ β ∈ rd, β < z) ∧ ∀ β ∈ wr, β < z := by
  intro hm
  unfold zoneQ at h
  rw [memQ_iff.2 hm] at h
  simp only [Bool.and_eq_true] at h
  exact ⟨ltAll_spec h.1, ltAll_spec h.2⟩
def hitO (ms : List Nat) (z j : Nat) (rd wr : List Nat) : Tr → Bool
  | [] => true
  | p :: tr => (befQ ms p.1 j || ((disj p.2.2 rd && disj p.2.2 wr && disj wr p.2.1) && (zoneQ z p.2.2 rd wr && zoneQ z wr p.2.1 p.2.2))) && hitO ms z j rd wr tr
theorem hitO_spec {ops : Array Oper} {z j : Nat} (hj : j < ops.size) {rd wr : List Nat} : ∀ {tr : Tr}, hitO (masks ops) z j rd wr tr = true → ∀ p ∈ tr, isBefore ops ops.size p.1 j = true ∨ IndepO z p (j, rd, wr)
  | [], _, p, hp => by cases hp
  | q :: tr, h, p, hp => by
    simp only [hitO, Bool.and_eq_true, Bool.or_eq_true] at h
    rcases List.mem_cons.1 hp with rfl | hp
    · rcases h.1 with h1 | ⟨h1, h2⟩
      · exact .inl (befQ_ok hj h1)
      · exact .inr ⟨⟨fun β hb => ⟨disj_spec h1.1.1 β hb, disj_spec h1.1.2 β hb⟩, fun β hb => disj_spec h1.2 β hb⟩, zoneQ_spec h2.1, zoneQ_spec h2.2⟩
    · exact hitO_spec hj h.2 p hp

def drawO (P : Program) (G : Glob) (cf : CallR) (ops : Array Oper) (base : Nat) : Nat → List Oper → Tr → RS → ER
  | _, [], _, s => .mk .normal s
  | i, o :: l, tr, s => match dstepO P G cf ops (base + ops.size) (base + i) o s with
    | .ok rd wr s' => match hitO (masks ops) (base + ops.size) i rd wr tr with
      | true => drawO P G cf ops base (i + 1) l ((i, rd, wr) :: tr) s'
      | false => .no (.order o)
    | .no w => .no w

def relO (ops : Array Oper) (z : Nat) (p q : Nat × List Nat × List Nat) : Prop := isBefore ops ops.size p.1 q.1 = true ∨ IndepO z p q
theorem drawO_sound {P : Program} {G : Glob} {cf : CallR} (hcf : CallOk P G cf) {ops : Array Oper} {base : Nat} : ∀ (l : List Oper) (i : Nat) (tr : Tr) (s s' : RS) (e : VExit), (∀ k, l[k]? = ops[i + k]?) →
    drawO P G cf ops base i l tr s = .mk e s' → e = .normal ∧ ∃ tr', OSteps P G ops base (List.range' i l.length) s.st s'.st tr' ∧ (∀ q ∈ tr', i ≤ q.1) ∧ (∀ q ∈ tr', ∀ p ∈ tr, relO ops (base + ops.size) p q) ∧ tr'.Pairwise fun p q => p.1 < q.1 ∧ relO ops (base + ops.size) p q
  | [], i, tr, s, s', e, _, h => by
    cases h
    exact ⟨rfl, [], .nil, fun q hq => (by cases hq), fun q hq => (by cases hq), List.Pairwise.nil⟩
  | o :: l, i, tr, s, s', e, hl, h => by
    have ho : ops[i]? = some o := by have := hl 0; simpa using this.symm
    have hi := (Array.getElem?_eq_some_iff.1 ho).1
    unfold drawO at h
    split at h
    · rename_i rd wr s1 hs
      split at h
      · rename_i hh
        obtain ⟨he, tr', h1, h2, h3, h4⟩ := drawO_sound hcf l (i + 1) ((i, rd, wr) :: tr) s1 s' e (fun k => by have := hl (k + 1); simp at this; rw [this]; congr 1; omega) h
        refine ⟨he, (i, rd, wr) :: tr', .cons ho (dstepO_sound hcf hs) h1, ?_, ?_, ?_⟩
        · intro q hq
          rcases List.mem_cons.1 hq with rfl | hq
          · exact Nat.le_refl _
          · have := h2 q hq; omega
        · intro q hq p hp
          rcases List.mem_cons.1 hq with rfl | hq
          · exact hitO_spec hi hh p hp
          · exact h3 q hq p (List.mem_cons_of_mem _ hp)
        · exact List.pairwise_cons.2 ⟨fun q hq => ⟨by have := h2 q hq; show i < q.1; omega, h3 q hq _ (List.mem_cons_self ..)⟩, h4⟩
      · cases h
    · cases h

theorem drawO_region {P : Program} {G : Glob} {cf : CallR} (hm : P.follows .mixedOrders = true) (hcf : CallOk P G cf) {n id : Nat} {ops : Array Oper} {s s' : RS} {e : VExit} {Q : VExit → St → Prop} (hback : backOk ops = true) (hdst : dstsOk n ops = true) (hap : apartOk ops = true)
    (h : drawO P G cf ops s.nx 0 ops.toList [] (RS.mk s.tm s.H (s.nx + ops.size) s.df) = .mk e s') (hq : Q e s'.st) : VWp P G n (.region id ops true) Q s.st := by
  obtain ⟨he, tr, h1, _, _, h4⟩ := drawO_sound hcf ops.toList 0 [] _ s' e (fun k => by simp) h
  subst he
  rw [Array.length_toList, ← List.range_eq_range'] at h1
  refine VWp.regionOpen hm hback hdst h1 ?_ hq
  refine h4.imp ?_
  rintro p q ⟨hlt, hr⟩
  rcases hr with hb | hi
  · exact .inl hb
  · cases hbb : isBefore ops ops.size p.1 q.1 with
    | true => exact .inl rfl
    | false =>
      refine .inr ⟨hi, fun o o' ho ho' => ?_⟩
      have h1 := (Array.getElem?_eq_some_iff.1 ho).1
      have h2 := (Array.getElem?_eq_some_iff.1 ho').1
      unfold apartOk at hap
      rw [List.all_eq_true] at hap
      have := hap p.1 (List.mem_range.2 h1)
      rw [List.all_eq_true] at this
      have := this q.1 (List.mem_range.2 h2)
      simp [hlt, hbb, ho, ho'] at this
      exact this
end Go.V
end
section
/- Regions whose order is open, that fall apart at calls; closed calls, run quickly. -/
namespace Go.V
open Go

/-! ### Where a region falls apart -/
def callish (o : Oper) : Bool := match o.op with
  | .call k => match k.callee with
    | .value _ => true
    | _ => false
  | .panic _ => true
  | _ => false
def ones (i : Nat) : Nat := Nat.sub (Nat.pow 2 i) 1
def allB (ms : List Nat) : Nat → Nat → Bool
  | 0, _ => true
  | j + 1, i => befQ ms j i && allB ms j i
def allA (ms : List Nat) (i : Nat) : Nat → Nat → Bool
  | 0, _ => true
  | m + 1, j => befQ ms i j && allA ms i m (j + 1)
/-- All others come before it, or behind. -/
def isBar (ops : Array Oper) (i : Nat) : Bool := allB (masks ops) i i && allA (masks ops) i (ops.size - (i + 1)) (i + 1)

theorem allB_spec {ms : List Nat} : ∀ {k i : Nat}, allB ms k i = true → ∀ j, j < k → befQ ms j i = true
  | 0, _, _, j, h => by omega
  | k + 1, i, h, j, hj => by
    simp only [allB, Bool.and_eq_true] at h
    by_cases e : j = k
    · subst e; exact h.1
    · exact allB_spec h.2 j (by omega)
theorem allA_spec {ms : List Nat} {i : Nat} : ∀ {m k : Nat}, allA ms i m k = true → ∀ j, k ≤ j → j < k + m → befQ ms i j = true
  | 0, _, _, j, h1, h2 => by omega
  | m + 1, k, h, j, h1, h2 => by
    simp only [allA, Bool.and_eq_true] at h
    by_cases e : j = k
    · subst e; exact h.1
    · exact allA_spec h.2 j (by omega) (by omega)

def segQ (ops : Array Oper) : Nat → List Oper → List Oper → List (List Oper × Oper) × List Oper
  | _, [], acc => ([], acc.reverse)
  | i, o :: l, acc => match callish o && isBar ops i with
    | true => match segQ ops (i + 1) l [] with
      | (segs, last) => ((acc.reverse, o) :: segs, last)
    | false => segQ ops (i + 1) l (o :: acc)

inductive Segs (ops : Array Oper) : Nat → List (List Oper × Oper) → List Oper → Prop
  | last {i : Nat} {l : List Oper} : (∀ k o, l[k]? = some o → ops[i + k]? = some o) → i + l.length = ops.size → Segs ops i [] l
  | cons {i : Nat} {l last : List Oper} {b : Oper} {rest : List (List Oper × Oper)} : (∀ k o, l[k]? = some o → ops[i + k]? = some o) → ops[i + l.length]? = some b → isBar ops (i + l.length) = true → Segs ops (i + l.length + 1) rest last → Segs ops i ((l, b) :: rest) last

theorem segQ_ok {ops : Array Oper} : ∀ (l : List Oper) (i : Nat) (acc : List Oper), acc.length ≤ i → (∀ k o, acc.reverse[k]? = some o → ops[i - acc.length + k]? = some o) → (∀ k o, l[k]? = some o → ops[i + k]? = some o) → i + l.length = ops.size →
    Segs ops (i - acc.length) (segQ ops i l acc).1 (segQ ops i l acc).2
  | [], i, acc, hle, hacc, hl, hsz => by
    refine .last hacc ?_
    show i - acc.length + acc.reverse.length = ops.size
    simp at hsz ⊢
    omega
  | o :: l, i, acc, hle, hacc, hl, hsz => by
    have hl' : ∀ k o, l[k]? = some o → ops[i + 1 + k]? = some o := fun k o' hk => by have := hl (k + 1) o' (by simpa using hk); rw [show i + 1 + k = i + (k + 1) by omega]; exact this
    have ho : ops[i]? = some o := by have := hl 0 o (by simp); simpa using this
    have hsz' : i + 1 + l.length = ops.size := by simp at hsz; omega
    unfold segQ
    cases hb : callish o && isBar ops i with
    | true =>
      simp only [Bool.and_eq_true] at hb
      have ih := segQ_ok l (i + 1) [] (by simp) (fun k o' hk => by simp at hk) hl' hsz'
      simp only [List.length_nil, Nat.sub_zero] at ih
      have e : i - acc.length + acc.reverse.length = i := by simp; omega
      exact .cons hacc (by rw [e]; exact ho) (by rw [e]; exact hb.2) (by rw [e]; exact ih)
    | false =>
      have ih := segQ_ok l (i + 1) (o :: acc) (by simp; omega) (fun k o' hk => by
        simp only [List.reverse_cons] at hk
        have e : i + 1 - (o :: acc).length = i - acc.length := by simp
        rw [e]
        by_cases hk' : k < acc.reverse.length
        · rw [List.getElem?_append_left hk'] at hk
          exact hacc k o' hk
        · rw [List.getElem?_append_right (by omega)] at hk
          have hk2 : k - acc.reverse.length = 0 := by
            rcases Nat.eq_zero_or_pos (k - acc.reverse.length) with h | h
            · exact h
            · rw [List.getElem?_eq_none (show [o].length ≤ _ from h)] at hk; cases hk
          rw [hk2] at hk
          simp at hk
          subst hk
          have : i - acc.length + k = i := by simp only [List.length_reverse] at hk2 hk'; omega
          rw [this]; exact ho) hl' hsz'
      have e : i + 1 - (o :: acc).length = i - acc.length := by simp
      rw [e] at ih
      exact ih

noncomputable def runS (P : Program) (G : Glob) (run : RunR) (cf : CallR) (ro : Option Nat) (ops : Array Oper) (base : Nat) (last : List Oper) (segs : List (List Oper × Oper)) : Nat → RS → ER :=
  List.rec (motive := fun _ => Nat → RS → ER) (fun i s => drawA P G cf ops base last i [] [] s)
    (fun p _ ih i s => thenQ (drawA P G cf ops base p.1 i [] [] s) (fun s1 => SR.rec (motive := fun _ => ER) (fun s2 => ih (Nat.succ (Nat.add i p.1.length)) s2) (fun x s2 => .mk (.panic x) s2) (fun w => .no w) (stepA P G run cf ro ops (Nat.add base (Nat.add i p.1.length)) p.2 s1 (guardA ops s1.tm p.2)))) segs

theorem drawA_sound {P : Program} {G : Glob} {cf : CallR} {ro : Option Nat} (hcf : CallOk P (G.at (some ro)) cf) {ops : Array Oper} (hap : apartOk ops = true) {base : Nat} {l : List Oper} {i : Nat} {s s' : RS} {e : VExit} (hl : ∀ k o, l[k]? = some o → ops[i + k]? = some o)
    (h : drawA P G cf ops base l i [] [] s = .mk e s') : e = .normal ∧ ∃ tr, QSteps P (G.at (some ro)) ops base (List.range' i l.length) s.st s'.st tr ∧ TraceOk ops tr := by
  have h1 := drawA_eq P G (some ro) cf ops base l i [] s
  rw [show wrT [] = [] from rfl, show someT [] = [] from rfl, h] at h1
  rw [drawQ_eq] at h1
  obtain ⟨he, tr, hq, ht⟩ := drawR_sound hcf l i [] [] s s' e hl (fun p hp => by cases hp) trivial h1.symm
  refine ⟨he, tr, hq, traceK_sound hap tr ?_ (by simpa using ht)⟩
  rw [hq.fst]
  exact List.pairwise_lt_range'

theorem runS_sound {P : Program} {G : Glob} {run : RunR} {cf : CallR} (hrun : RunOk P G run) (hcf : CallOk P G cf) {ro : Option Nat} {n : Nat} {ops : Array Oper} (hd : dstsOk n ops = true) (hap : apartOk ops = true) {base : Nat} {last : List Oper} {Q : VExit → St → Prop} : ∀ (segs : List (List Oper × Oper)) (i : Nat) (s s' : RS) (e : VExit), Segs ops i segs last →
    runS P G run cf ro ops base last segs i s = .mk e s' → Q e s'.st → ∃ isegs ilast, VDraw P (G.at (some ro)) n ops base Q isegs ilast s.st ∧ barOk ops isegs ilast = true ∧ flat isegs ilast = List.range' i (ops.size - i)
  | [], i, s, s', e, hs, h, hq => by
    cases hs with
    | last hl hsz =>
      obtain ⟨he, tr, h1, h2⟩ := drawA_sound (ro := ro) hcf hap hl h
      subst he
      refine ⟨[], List.range' i last.length, ⟨s'.st, tr, h1, h2, hq⟩, rfl, ?_⟩
      show List.range' i last.length = _
      congr 1
      omega
  | (l, b) :: rest, i, s, s', e, hs, h, hq => by
    cases hs with
    | cons hl hb hbar hrest =>
      have hlt : i + l.length < ops.size := (Array.getElem?_eq_some_iff.1 hb).1
      simp only [isBar, Bool.and_eq_true] at hbar
      have hbef : ∀ j, j < i + l.length → isBefore ops ops.size j (i + l.length) = true := fun j hj => befQ_ok hlt (allB_spec hbar.1 j hj)
      have haft : ∀ j, i + l.length + 1 ≤ j → j < ops.size → isBefore ops ops.size (i + l.length) j = true := fun j h1 h2 => befQ_ok h2 (allA_spec hbar.2 j h1 (by omega))
      have h' : thenQ (drawA P G cf ops base l i [] [] s) (fun s1 => SR.rec (motive := fun _ => ER) (fun s2 => runS P G run cf ro ops base last rest (i + l.length + 1) s2) (fun x s2 => .mk (.panic x) s2) (fun w => .no w) (stepA P G run cf ro ops (base + (i + l.length)) b s1 (guardA ops s1.tm b))) = .mk e s' := h
      cases hda : drawA P G cf ops base l i [] [] s with
      | no w => rw [hda] at h'; cases h'
      | mk e1 s1 =>
        obtain ⟨he, tr, h1, h2⟩ := drawA_sound (ro := ro) hcf hap hl hda
        subst he
        rw [hda] at h'
        have h'' : SR.rec (motive := fun _ => ER) (fun s2 => runS P G run cf ro ops base last rest (i + l.length + 1) s2) (fun x s2 => .mk (.panic x) s2) (fun w => .no w) (stepA P G run cf ro ops (base + (i + l.length)) b s1 (guardA ops s1.tm b)) = .mk e s' := h'
        rw [stepA_eq, stepQ_eq] at h''
        have rng : List.range' i l.length ++ (i + l.length) :: List.range' (i + l.length + 1) (ops.size - (i + l.length + 1)) = List.range' i (ops.size - i) := by
          have e1 : ops.size - i = l.length + (1 + (ops.size - (i + l.length + 1))) := by omega
          rw [e1, ← List.range'_append_1, Nat.add_comm 1 (ops.size - (i + l.length + 1)), List.range'_succ]
        cases hst : stepR P (G.at (some ro)) run cf ro ops (base + (i + l.length)) b s1 with
        | no w => rw [hst] at h''; cases h''
        | pan x s2 =>
          rw [hst] at h''
          cases h''
          refine ⟨[(List.range' i l.length, i + l.length)], List.range' (i + l.length + 1) (ops.size - (i + l.length + 1)), ⟨s1.st, tr, h1, h2, ?_⟩, ?_, rng⟩
          · refine stepR_sound (G := G) hrun hcf hb hd (fun s3 h3 => ?_) (fun y s3 h3 => ?_) (fun w h3 => ?_)
            · rw [hst] at h3; cases h3
            · rw [hst] at h3; cases h3; exact hq
            · rw [hst] at h3; cases h3
          · simp only [barOk, Bool.and_true, Bool.and_eq_true, List.all_eq_true, flat]
            refine ⟨fun j hj => ?_, fun j hj => ?_⟩
            · have := List.mem_range'_1.1 hj
              exact hbef j (by omega)
            · have := List.mem_range'_1.1 hj
              exact haft j (by omega) (by omega)
        | ok s2 =>
          rw [hst] at h''
          obtain ⟨isegs, ilast, g1, g2, g3⟩ := runS_sound hrun hcf hd hap rest (i + l.length + 1) s2 s' e hrest h'' hq
          refine ⟨(List.range' i l.length, i + l.length) :: isegs, ilast, ⟨s1.st, tr, h1, h2, ?_⟩, ?_, ?_⟩
          · refine stepR_sound (G := G) hrun hcf hb hd (fun s3 h3 => ?_) (fun y s3 h3 => ?_) (fun w h3 => ?_)
            · rw [hst] at h3; cases h3; exact g1
            · rw [hst] at h3; cases h3
            · rw [hst] at h3; cases h3
          · simp only [barOk, Bool.and_eq_true, List.all_eq_true]
            refine ⟨⟨fun j hj => ?_, fun j hj => ?_⟩, g2⟩
            · have := List.mem_range'_1.1 hj
              exact hbef j (by omega)
            · rw [g3] at hj
              have := List.mem_range'_1.1 hj
              exact haft j (by omega) (by omega)
          · show List.range' i l.length ++ (i + l.length) :: flat isegs ilast = _
            rw [g3]
            exact rng

/-! ### Code -/
/-- If it stops, once more, with calls that leave their objects open. -/
noncomputable def orR (r : ER) (again : ER) : ER := ER.rec (motive := fun _ => ER) (fun e s => .mk e s) (fun w => ER.rec (motive := fun _ => ER) (fun e s => .mk e s) (fun _ => .no w) again) r
theorem orR_ok {r again : ER} {e : VExit} {s : RS} (h : orR r again = .mk e s) : r = .mk e s ∨ again = .mk e s := by
  cases r with
  | mk e1 s1 => exact .inl h
  | no w =>
    cases again with
    | mk e1 s1 => exact .inr h
    | no w' => cases h
noncomputable def regB (P : Program) (G : Glob) (run : RunR) (cf : CallR) (ro : Option Nat) (n : Nat) (code : Code) (ops : Array Oper) (s : RS) (draw : Bool) : ER :=
  Bool.rec (motive := fun _ => ER) (.no (.code code))
    (Bool.rec (motive := fun _ => ER) (seqA P G run cf ro ops s.nx ops.toList 0 (RS.mk s.tm s.H (Nat.add s.nx ops.size) s.df))
      (orR (Prod.rec (motive := fun _ => ER) (fun segs last => runS P G run cf ro ops s.nx last segs 0 (RS.mk s.tm s.H (Nat.add s.nx ops.size) s.df)) (segQ ops 0 ops.toList [])) (drawO P (G.at (some ro)) cf ops s.nx 0 ops.toList [] (RS.mk s.tm s.H (Nat.add s.nx ops.size) s.df))) draw) (regQ n ops draw)
noncomputable def ccB (P : Program) (G : Glob) (code : Code) : CC := match code with
  | .region _ ops draw => .mk (fun _ run cf ro n s => regB P G run cf ro n code ops s draw)
  | code => cc P G code

theorem bodyB_sound {P : Program} {G : Glob} (hm : P.follows .mixedOrders = true) {k : Nat} {run : RunR} {cf : CallR} (ih : RunOk P G run) (hcf : CallOk P G cf) {ro : Option Nat} {n : Nat} {code : Code} {s s' : RS} {e : VExit}
    (h : bodyA k run cf ro n s (ccB P G code) = .mk e s') {Q : VExit → St → Prop} (hq : Q e s'.st) : VWp P (G.at (some ro)) n code Q s.st := by
  have hcf' : CallOk P (G.at (some ro)) cf := hcf
  cases code with
  | skip => cases h; exact VWp.skip hq
  | label l => cases h; exact VWp.label hq
  | exit id => cases h; exact VWp.exit hq
  | ret => cases h; exact VWp.ret hq
  | goto l => cases h
  | refuse w => cases h
  | seq a b =>
    have h' : thenQ (run ro n a s) (fun s' => run ro n b s') = .mk e s' := h
    cases hs : run ro n a s with
    | no w => rw [hs] at h'; cases h'
    | mk e1 s1 =>
      rw [hs] at h'
      cases e1 with
      | normal => exact VWp.seq (ih ro n a s .normal s1 hs _ (ih ro n b s1 e s' h' Q hq))
      | exit id => cases h'; exact VWp.seq (ih ro n a s _ _ hs _ hq)
      | goto l => cases h'; exact VWp.seq (ih ro n a s _ _ hs _ hq)
      | ret => cases h'; exact VWp.seq (ih ro n a s _ _ hs _ hq)
      | panic x => cases h'; exact VWp.seq (ih ro n a s _ _ hs _ hq)
  | cond c a b =>
    have h' : condQ (ρQ G s.tm c) (.cond c a b) (run ro n a s) (run ro n b s) = .mk e s' := h
    unfold condQ at h'
    cases hb : boolQ (ρQ G s.tm c) with
    | none => rw [hb] at h'; cases h'
    | some t =>
      rw [hb] at h'
      have hv := boolQ_eq hb
      rw [← ρQ_at G (some ro), ρQ_eq] at hv
      refine VWp.cond (t := t) hv ?_
      cases t with
      | true => exact ih ro n a s e s' h' Q hq
      | false => exact ih ro n b s e s' h' Q hq
  | block id a =>
    have h' : blockQ (run ro n a s) id = .mk e s' := h
    cases hs : run ro n a s with
    | no w => rw [hs] at h'; cases h'
    | mk e1 s1 =>
      rw [hs] at h'
      refine VWp.block (ih ro n a s e1 s1 hs _ ?_)
      cases e1 with
      | normal => cases h'; exact hq
      | goto l => cases h'; exact hq
      | ret => cases h'; exact hq
      | panic x => cases h'; exact hq
      | exit id' =>
        have h'' : Bool.rec (motive := fun _ => ER) (.mk (.exit id') s1) (.mk .normal s1) (Nat.beq id' id) = .mk e s' := h'
        show (if id' = id then _ else _)
        by_cases hid : id' = id
        · have hb : Nat.beq id' id = true := by simpa using hid
          rw [hb] at h''
          cases h''
          rw [if_pos hid]; exact hq
        · have hb : Nat.beq id' id = false := by cases hq : Nat.beq id' id with | false => rfl | true => exact absurd (by simpa using hq) hid
          rw [hb] at h''
          cases h''
          rw [if_neg hid]; exact hq
  | loop a =>
    have h' : loopQ (run ro n a) k s = .mk e s' := h
    rw [loopQ_eq] at h'
    exact VWp.loopRounds k (loopR_sound (fun s e s' hs Q hq => ih ro n a s e s' hs Q hq) k s s' e h' hq (loopR_ne k s s' e h'))
  | scope a =>
    have h' : scopeQ (run ro n a s) (.scope a) = .mk e s' := h
    cases hs : run ro n a s with
    | no w => rw [hs] at h'; cases h'
    | mk e1 s1 =>
      rw [hs] at h'
      cases e1 with
      | goto l => cases h'
      | normal => cases h'; exact VWp.scope (ih ro n a s _ _ hs _ hq)
      | exit id => cases h'; exact VWp.scope (ih ro n a s _ _ hs _ hq)
      | ret => cases h'; exact VWp.scope (ih ro n a s _ _ hs _ hq)
      | panic x => cases h'; exact VWp.scope (ih ro n a s _ _ hs _ hq)
  | region id ops draw =>
    have h' : regB P G run cf ro n (.region id ops draw) ops s draw = .mk e s' := h
    unfold regB at h'
    cases hreg : regQ n ops draw with
    | false => rw [hreg] at h'; cases h'
    | true =>
      rw [hreg] at h'
      cases draw with
      | false =>
        have h'' : seqA P G run cf ro ops s.nx ops.toList 0 (RS.mk s.tm s.H (s.nx + ops.size) s.df) = .mk e s' := h'
        rw [seqA_eq, seqQ_eq] at h''
        refine VWp.region ?_
        have := seqR_sound (G := G) ih hcf (n := n) (dstsQ_ok hreg) (Q := Q) ops.toList 0 { s with nx := s.nx + ops.size } s' e (fun k => by simp) h'' hq
        rw [List.range_eq_range']
        rw [Array.length_toList] at this
        exact this
      | true =>
        have hreg2 := hreg
        simp only [regQ, Bool.and_eq_true] at hreg2
        have h1 := backQ_ok hreg2.1.1
        have h2 := dstsQ_ok hreg2.1.2
        have h3 := apartQ_ok hreg2.2
        have h0 : orR (runS P G run cf ro ops s.nx (segQ ops 0 ops.toList []).2 (segQ ops 0 ops.toList []).1 0 (RS.mk s.tm s.H (s.nx + ops.size) s.df)) (drawO P (G.at (some ro)) cf ops s.nx 0 ops.toList [] (RS.mk s.tm s.H (s.nx + ops.size) s.df)) = .mk e s' := h'
        rcases orR_ok h0 with h'' | h''
        · have hseg := segQ_ok (ops := ops) ops.toList 0 [] (by simp) (fun k o hk => by simp at hk) (fun k o hk => by simpa using hk) (by simp)
          simp only [List.length_nil, Nat.sub_zero] at hseg
          obtain ⟨isegs, ilast, g1, g2, g3⟩ := runS_sound (Q := Q) ih hcf h2 h3 _ 0 { s with nx := s.nx + ops.size } s' e hseg h'' hq
          refine VWp.regionDraw hm isegs ilast ?_ g1
          simp only [h1, h2, g2, Bool.true_and, decide_eq_true_eq]
          rw [g3, List.range_eq_range']
          rfl
        · have hcf2 : CallOk P (G.at (some ro)) cf := hcf
          have := drawO_region (G := G.at (some ro)) hm hcf2 (n := n) (id := id) h1 h2 h3 h'' hq
          exact this
  | rangeFunc g ps as bo =>
    have h' : rangeCQ G run cf ro n (.rangeFunc g ps as bo) g ps as bo s = .mk e s' := h
    cases ro with
    | some β => cases h'
    | none =>
      simp only [rangeCQ, ρQ_eq] at h'
      unfold rangeFQ at h'
      split at h'
      · rename_i f first captured hg
        exact rangeR_sound hcf (fun c s e s' hs Q hq => ih none n c s e s' hs Q hq) hg h' hq
      · cases h'

noncomputable def runB (P : Program) (G : Glob) (k : Nat) : RunR :=
  Nat.rec (motive := fun _ => RunR) (fun _ _ _ _ => .no .fuel) (fun k ih ro n code s => bodyA k ih (cfQ P (G.at (some none)) ih) ro n s (ccB P G code)) k
theorem runB_sound {P : Program} {G : Glob} (hm : P.follows .mixedOrders = true) : ∀ (k : Nat), RunOk P G (runB P G k)
  | 0, _, _, _, _, _, _, h => by cases h
  | k + 1, ro, n, code, s, e, s', h => by
    intro Q hq
    have ih := runB_sound (G := G) hm k
    have hcf : CallOk P G (cfQ P (G.at (some none)) (runB P G k)) := by rw [cfQ_eq]; exact callR_sound ih
    exact bodyB_sound hm ih hcf h hq

/-- A closed call, run quickly. -/
noncomputable def closedB (P : Program) (G : Glob) (k : Nat) (f : FuncId) (args : List VV) : PRes ⊕ Why := pureQ (cfQ P (G.at (some none)) (runB P G k)) f args
theorem VPure.closedB {P : Program} {G : Glob} (hm : P.follows .mixedOrders = true) (k : Nat) {f : FuncId} {args : List VV} {r : PRes} (h : closedB P G k f args = .inl r) : VPure P G f args r := by
  unfold Go.V.closedB at h
  rw [pureQ_eq, cfQ_eq] at h
  exact pureR_sound (callR_sound (runB_sound hm k)) h
end Go.V
end
section
/- Closed calls whose results are kept in a table. -/
namespace Go.V
open Go

/-- A function, its arguments, its result: trees. -/
abbrev KTab := List (FuncId × List VV × VV)
def KTabOk (P : Program) (G : Glob) : KTab → Prop
  | [] => True
  | (f, args, x) :: t => (treeL args = true ∧ VPure P G f args (.tree x)) ∧ KTabOk P G t

def lookT : KTab → FuncId → List VV → Option VV
  | [], _, _ => none
  | (g, as, x) :: t, f, args => match Nat.beq g f with
    | true => match eqVL as args with
      | true => some x
      | false => lookT t f args
    | false => lookT t f args
theorem lookT_ok {P : Program} {G : Glob} : ∀ {t : KTab} {f : FuncId} {args : List VV} {x : VV}, KTabOk P G t → lookT t f args = some x → treeL args = true ∧ VPure P G f args (.tree x)
  | [], _, _, _, _, h => by cases h
  | (g, as, y) :: t, f, args, x, ht, h => by
    unfold lookT at h
    split at h
    · rename_i hg
      split at h
      · rename_i he
        cases h
        have e1 := Nat.eq_of_beq_eq_true hg
        have e2 := eqVL_spec he
        subst e1 e2
        exact ht.1
      · exact lookT_ok ht.2 h
    · exact lookT_ok ht.2 h

theorem VOpen.of_tree {P : Program} {G : Glob} {f : FuncId} {args : List VV} {x : VV} (h : VPure P G f args (.tree x)) (ht : treeL args = true) (H : Nat → Option VObj) (nx : Nat) :
    VOpen P G f args H nx (fun y H1 n1 => y = x ∧ H1 = H ∧ n1 = nx) (fun _ _ _ => False) := by
  refine ⟨h.1, fun c W vs s hH hnx hG ha => (h.2 c.A W vs s.ltA hG.tree (repL_tree ht ha)).mono ?_⟩
  rintro e W' ⟨A', h1, h2, h3, hb, v, rfl, hx⟩
  exact ⟨c.more A', H, nx, Ext.more h1 h2 hb, Sim.more s h1 h2 h3 hb, hH, fun β h => .inl h, hnx, Nat.le_refl _, .inl ⟨x, v, rfl, Rep.abides (abides_of_p (fun _ h => h)) _ hx, rfl, rfl, rfl⟩⟩

def cfT (tab : KTab) (cf : CallR) : CallR := fun f args H nx => match lookT tab f args with
  | some x => .ret x H nx
  | none => cf f args H nx
theorem cfT_ok {P : Program} {G : Glob} {tab : KTab} {cf : CallR} (ht : KTabOk P G tab) (hcf : CallOk P G cf) : CallOk P G (cfT tab cf) := by
  constructor
  · intro f args H nx x H' nx' h
    unfold cfT at h
    split at h
    · rename_i y hy
      cases h
      obtain ⟨h1, h2⟩ := lookT_ok ht hy
      exact VOpen.of_tree h2 h1 H.get nx
    · exact hcf.1 _ _ _ _ _ _ _ h
  · intro f args H nx x H' nx' h
    unfold cfT at h
    split at h
    · cases h
    · exact hcf.2 _ _ _ _ _ _ _ h

noncomputable def runT (P : Program) (G : Glob) (tab : KTab) (k : Nat) : RunR :=
  Nat.rec (motive := fun _ => RunR) (fun _ _ _ _ => .no .fuel) (fun k ih ro n code s => bodyA k ih (cfT tab (cfQ P (G.at (some none)) ih)) ro n s (ccB P G code)) k
theorem runT_sound {P : Program} {G : Glob} {tab : KTab} (hm : P.follows .mixedOrders = true) (ht : KTabOk P G tab) : ∀ (k : Nat), RunOk P G (runT P G tab k)
  | 0, _, _, _, _, _, _, h => by cases h
  | k + 1, ro, n, code, s, e, s', h => by
    intro Q hq
    have ih := runT_sound (G := G) hm ht k
    have hcf : CallOk P G (cfQ P (G.at (some none)) (runT P G tab k)) := by rw [cfQ_eq]; exact callR_sound ih
    exact bodyB_sound hm ih (cfT_ok ht hcf) h hq

/-- A closed call, run quickly, with a table. -/
noncomputable def closedT (P : Program) (G : Glob) (tab : KTab) (k : Nat) (f : FuncId) (args : List VV) : PRes ⊕ Why := pureQ (cfQ P (G.at (some none)) (runT P G tab k)) f args
theorem VPure.closedT {P : Program} {G : Glob} {tab : KTab} (hm : P.follows .mixedOrders = true) (ht : KTabOk P G tab) (k : Nat) {f : FuncId} {args : List VV} {r : PRes} (h : closedT P G tab k f args = .inl r) : VPure P G f args r := by
  unfold Go.V.closedT at h
  rw [pureQ_eq, cfQ_eq] at h
  exact pureR_sound (callR_sound (runT_sound hm ht k)) h
end Go.V
end
section
/- A law's frame: what its caller asks behind the call. -/
namespace Go.V
open Go Go.RowKit Go.ChangeShapes

theorem trodAll_below {H : Type} {enc : TypeId × Value → H} {P : Program} (hl : laidOutB P = true) {W W' : World} (hb : Below W.heap.size W W') : ∀ {ts : List TypeId} {vs : List Value} {ds : List (DataW H)} {ps : List MemPlace},
    (∀ t ∈ ts, P.readableRec t = true ∧ t < P.types.size) → DataW.TrodAll enc P W 0 (fun _ => true) true ts vs ds ps → (∀ x ∈ ps, x.block < W.heap.size) → DataW.TrodAll enc P W' 0 (fun b => decide (b < W.heap.size)) true ts vs ds ps
  | [], [], [], _, _, h, _ => h
  | [], _ :: _, _, _, _, h, _ => by simp [DataW.TrodAll] at h
  | [], [], _ :: _, _, _, h, _ => by simp [DataW.TrodAll] at h
  | _ :: _, [], _, _, _, h, _ => by simp [DataW.TrodAll] at h
  | _ :: _, _ :: _, [], _, _, h, _ => by simp [DataW.TrodAll] at h
  | t :: ts, v :: vs, d :: ds, ps, ht, h, hlt => by
    obtain ⟨p, q, h1, h2, e⟩ := h
    subst e
    exact ⟨p, q, Below.trod hl (ht t (List.mem_cons_self ..)).1 (ht t (List.mem_cons_self ..)).2 h1 hb (fun x hx => hlt x (List.mem_append_left _ hx)),
      trodAll_below hl hb (fun u hu => ht u (List.mem_cons_of_mem _ hu)) h2 (fun x hx => hlt x (List.mem_append_right _ hx)), rfl⟩

/-- What the row asks, if the law returned true and left all that was there as it was. -/
theorem law_post {H : Type} {enc : TypeId × Value → H} {P : Program} {f : Func} {s : ChangeSpec} {apart fresh handsOn : Bool} {W W' : World} {args : Array Value} {ds gs : List (DataW H)} {before : List MemPlace} {tb : TypeId}
    (hl : laidOutB P = true) (hps : ∀ t ∈ f.params.toList, P.readableRec t = true ∧ t < P.types.size) (hv : s.vars = []) (hrt : f.resultTypes = #[tb]) (ht : P.underlying tb = some .bool)
    (hs : s.fn H ds = { results := [.lit (.bool true)], args := ds }) (hW : DataW.Whole enc P f.params.toList s.vars apart W args.toList ds gs before) (hb : Below W.heap.size W W') :
    s.post enc P f apart fresh handsOn false W args (.bool true) W' := by
  have hlt : ∀ x ∈ before, x.block < W.heap.size := fun x hx => by simpa using hW.lt x hx
  have hW0 := hW
  obtain ⟨p, q, hA, hV, e, hz, hn⟩ := hW
  rw [hv] at hV
  obtain ⟨rfl, rfl⟩ := trodVars_none hV
  rw [List.append_nil] at e
  subst e
  refine ⟨ds, [], before, [], before, [], hW0, ?_, ?_, ?_, hb.frame _, fun h => by cases h⟩
  · rw [List.append_nil, hs, hrt]
    exact trodAll_mk1 (shut_bool ht true)
  · rw [List.append_nil, hs]
    exact trodAll_below hl hb hps hA hlt
  · rw [List.append_nil, hs, hv]
    rfl

/-- A law's contract, out of a call on trees. -/
theorem law_calls {H : Type} {enc : TypeId × Value → H} {P : Program} {G : Glob} {fi : FuncId} {f : Func} {s : ChangeSpec} {apart fresh handsOn : Bool} {W : World} {args : Array Value} {ds gs : List (DataW H)} {before : List MemPlace} {tb : TypeId} {xs : List VV}
    (hl : laidOutB P = true) (hps : ∀ t ∈ f.params.toList, P.readableRec t = true ∧ t < P.types.size) (hv : s.vars = []) (hrt : f.resultTypes = #[tb]) (ht : P.underlying tb = some .bool)
    (hs : s.fn H ds = { results := [.lit (.bool true)], args := ds }) (hW : DataW.Whole enc P f.params.toList s.vars apart W args.toList ds gs before) (hG : GOk G (PCtx fun b => b < W.heap.size) W)
    (hx : RepL (PCtx fun b => b < W.heap.size) W xs args.toList) (hp : VPure P G fi xs (.tree (.lit (.bool true)))) :
    Calls P fi args W fun e W' => ∃ v, e = .returned v ∧ s.post enc P f apart fresh handsOn false W args v W' := by
  have := hp.2 (fun b => b < W.heap.size) W args.toList (fun _ h => h) hG hx
  have h2 : CallsIn Fence.wide 0 P fi args W fun e W' => ∃ v, e = .returned v ∧ s.post enc P f apart fresh handsOn false W args v W' := by
    refine CallsIn.mono this ?_
    rintro e W' ⟨A', h1, h2, h3, hb, v, rfl, hxv⟩
    have e2 : v = .bool true := hxv
    subst e2
    exact ⟨_, rfl, law_post hl hps hv hrt ht hs hW hb⟩
  exact h2.calls room_wide
end Go.V
end
