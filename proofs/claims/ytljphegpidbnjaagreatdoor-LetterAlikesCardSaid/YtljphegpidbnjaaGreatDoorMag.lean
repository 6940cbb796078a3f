/- Part of the proof of a statement of YtljphegpidbnjaaGreatDoor: a logic of values by content, the lifted functions, and what follows. -/
import Derived.Test.YtljphegpidbnjaaGreatDoorMaf
set_option linter.unusedVariables false
set_option linter.unusedSimpArgs false
set_option linter.unusedSectionVars false
set_option linter.constructorNameAsVariable false
section
/- Calls that see a part of the caller's objects. -/
namespace Go.V
open Go

/-- What such a call gives, told over the call alone. -/
def VOpen (P : Program) (G : Glob) (f : FuncId) (args : List VV) (H : Nat → Option VObj) (nx : Nat) (R : VV → (Nat → Option VObj) → Nat → Prop) (Rp : VV → (Nat → Option VObj) → Nat → Prop) : Prop :=
  Callable P f ∧ ∀ c W vs, Sim c W → c.H = H → (∀ β, c.used β → β < nx) → GOk G c W → RepL c W args vs →
    CallsIn Fence.wide 0 P f ⟨vs⟩ W fun e W' => ∃ c' H' nx', Ext c W c' W' ∧ Sim c' W' ∧ c'.H = H' ∧ (∀ β, c'.used β → c.used β ∨ nx ≤ β) ∧ (∀ β, c'.used β → β < nx') ∧ nx ≤ nx' ∧
      ((∃ x v, e = .returned v ∧ Rep c' W' x v ∧ R x H' nx') ∨ (∃ x v, e = .panicked [{ v, recovered := false }] ∧ Rep c' W' x v ∧ Rp x H' nx'))

theorem VOpen.mono {P : Program} {G : Glob} {f : FuncId} {args : List VV} {H : Nat → Option VObj} {nx : Nat} {R R' Rp Rp' : VV → (Nat → Option VObj) → Nat → Prop} (h : VOpen P G f args H nx R Rp) (h1 : ∀ x H n, R x H n → R' x H n)
    (h2 : ∀ x H n, Rp x H n → Rp' x H n) : VOpen P G f args H nx R' Rp' := by
  refine ⟨h.1, fun c W vs s hH hnx hG ha => (h.2 c W vs s hH hnx hG ha).mono ?_⟩
  rintro e W' ⟨c', H', nx', g1, g2, g3, g4, g5, g6, g7⟩
  refine ⟨c', H', nx', g1, g2, g3, g4, g5, g6, g7.imp ?_ ?_⟩
  · rintro ⟨x, v, k1, k2, k3⟩; exact ⟨x, v, k1, k2, h1 _ _ _ k3⟩
  · rintro ⟨x, v, k1, k2, k3⟩; exact ⟨x, v, k1, k2, h2 _ _ _ k3⟩


/-- The objects of some names. -/
def restr (rd : List Nat) (H : Nat → Option VObj) : Nat → Option VObj := fun β => if β ∈ rd then H β else none
theorem restr_sub (rd : List Nat) (H : Nat → Option VObj) : SubHeap (restr rd H) H := fun x o h => by
  unfold restr at h
  split at h
  · exact h
  · cases h
/-! What was made is held fast: names from some number on. -/
mutual
def sealN (H : Nat → Option VObj) (M : Nat) : Nat → VV → Option VV
  | 0, _ => none
  | n + 1, x => if x.tree then some x else
    match x with
    | .ref β off len es cp => if β < M then (if (H β).isSome then some (.ref β off len es cp) else none) else match H β with
      | some (.cells _ cs) => if off ≤ cs.length then (sealNL H M n ((cs.drop off).take (len * es))).map fun l => .sl l len false else none
      | _ => none
    | .ptr β off => if β < M then (if (H β).isSome then some (.ptr β off) else none) else match H β with
      | some (.cells _ cs) => if off ≤ cs.length then (sealNL H M n (cs.drop off)).map .tp else none
      | _ => none
    | .mp β => if β < M then (if (H β).isSome then some (.mp β) else none) else match H β with
      | some (.map es) => (sealNL H M n (es.map (·.2))).map fun l => .mt (es.map (·.1)) l
      | _ => none
    | .agg cs => (sealNL H M n cs).map .agg
    | .tup cs => (sealNL H M n cs).map .tup
    | .fn f a b => match sealNL H M n a, sealNL H M n b with
      | some a, some b => some (.fn f a b)
      | _, _ => none
    | .ifc t x => (sealN H M n x).map (.ifc t)
    | _ => none
def sealNL (H : Nat → Option VObj) (M : Nat) : Nat → List VV → Option (List VV)
  | 0, _ => none
  | _ + 1, [] => some []
  | n + 1, x :: xs => match sealN H M n x, sealNL H M n xs with
    | some y, some ys => some (y :: ys)
    | _, _ => none
end

theorem sealN_rep {c' d : Ctx} {W' : World} (s' : Sim c' W') {M : Nat} (hA : ∀ b, c'.A b → d.A b) (hnew : ∀ β, M ≤ β → (c'.H β).isSome = true → d.A (c'.φ β))
    (hold : ∀ β, β < M → (c'.H β).isSome = true → d.used β ∧ (d.live β → d.φ β = c'.φ β ∧ d.room β = c'.room β)) : ∀ (n : Nat),
    (∀ x v y, sealN c'.H M n x = some y → Rep c' W' x v → Rep d W' y v) ∧ (∀ xs l ys, sealNL c'.H M n xs = some ys → RepL c' W' xs l → RepL d W' ys l) := by
  intro n
  induction n with
  | zero => exact ⟨fun x v y h _ => by simp [sealN] at h, fun xs l ys h _ => by simp [sealNL] at h⟩
  | succ n ih =>
    have cells : ∀ {b o : Nat} {xs ys : List VV}, sealNL c'.H M n xs = some ys → RepC c' W' b o xs → RepC d W' b o ys := by
      intro b o xs ys h hc
      obtain ⟨l, hl, hcell⟩ := RepC.list hc
      exact RepC.of_cells (ih.2 _ _ _ h hl) hcell
    constructor
    · intro x v y h hr
      unfold sealN at h
      split at h
      · rename_i ht
        cases h
        exact Rep.abides (abides_of_p hA) _ (rep_tree ht hr)
      · split at h
        · rename_i β off len es cp _
          split at h
          · rename_i hlt
            split at h
            · rename_i hs
              cases h
              obtain ⟨h1, h2⟩ := hold β hlt hs
              refine ⟨⟨h1, hr.1.2⟩, fun hl => ?_⟩
              obtain ⟨e1, e2⟩ := h2 hl
              rw [e1, e2]
              exact hr.2 hs
            · cases h
          · rename_i hge
            split at h
            · rename_i el cs hβ
              split at h
              · rename_i hle
                obtain ⟨ys, hys, e⟩ := omap h
                subst e
                have hlive : c'.live β := by simp [Ctx.live, hβ]
                obtain ⟨cap, hv, hcap, _, _⟩ := hr.2 hlive
                have hc := RepC.take (len * es) (RepC.drop off (RepC.of_obj s' hβ))
                have := cells hys hc
                exact ⟨_, cap, hv, hcap, fun h => by simp at h, .inr ⟨_, _, rfl, hnew β (by omega) (by simp [hβ]), by simpa using this⟩⟩
              · cases h
            · cases h
        · rename_i β off _
          split at h
          · rename_i hlt
            split at h
            · rename_i hs
              cases h
              obtain ⟨h1, h2⟩ := hold β hlt hs
              refine ⟨⟨h1, hr.1.2⟩, fun hl => ?_⟩
              obtain ⟨e1, e2⟩ := h2 hl
              rw [e1]
              exact hr.2 hs
            · cases h
          · rename_i hge
            split at h
            · rename_i el cs hβ
              split at h
              · rename_i hle
                obtain ⟨ys, hys, e⟩ := omap h
                subst e
                have hlive : c'.live β := by simp [Ctx.live, hβ]
                have hv := hr.2 hlive
                have hc := RepC.drop off (RepC.of_obj s' hβ)
                have := cells hys hc
                exact ⟨_, _, hv, hnew β (by omega) (by simp [hβ]), by simpa using this⟩
              · cases h
            · cases h
        · rename_i β _
          split at h
          · rename_i hlt
            split at h
            · rename_i hs
              cases h
              obtain ⟨h1, h2⟩ := hold β hlt hs
              refine ⟨⟨h1, hr.1.2⟩, fun hl => ?_⟩
              obtain ⟨e1, e2⟩ := h2 hl
              rw [e1]
              exact hr.2 hs
            · cases h
          · rename_i hge
            split at h
            · rename_i es hβ
              obtain ⟨ys, hys, e⟩ := omap h
              subst e
              have hlive : c'.live β := by simp [Ctx.live, hβ]
              have hv := hr.2 hlive
              obtain ⟨ents, clk, h1, h2, h3⟩ := s'.obj β _ hβ
              exact ⟨_, hv, hnew β (by omega) (by simp [hβ]), ents, clk, h1, h2, ih.2 _ _ _ hys h3⟩
            · cases h
        · obtain ⟨ys, hys, e⟩ := omap h
          subst e
          obtain ⟨l, e, hl⟩ := hr
          exact ⟨l, e, ih.2 _ _ _ hys hl⟩
        · obtain ⟨ys, hys, e⟩ := omap h
          subst e
          obtain ⟨l, e, hl⟩ := hr
          exact ⟨l, e, ih.2 _ _ _ hys hl⟩
        · split at h
          · rename_i a b ha hb
            cases h
            obtain ⟨l, m, e, hl, hm⟩ := hr
            exact ⟨l, m, e, ih.2 _ _ _ ha hl, ih.2 _ _ _ hb hm⟩
          · cases h
        · obtain ⟨ys, hys, e⟩ := omap h
          subst e
          obtain ⟨u, e, hu⟩ := hr
          exact ⟨u, e, ih.1 _ _ _ hys hu⟩
        · cases h
    · intro xs l ys h hr
      cases xs with
      | nil => simp [sealNL] at h; subst h; exact hr
      | cons x xs =>
        obtain ⟨u, us, e, h1, h2⟩ := hr
        unfold sealNL at h
        split at h
        · rename_i y ys' hy hys
          cases h
          exact ⟨u, us, e, ih.1 _ _ _ hy h1, ih.2 _ _ _ hys h2⟩
        · cases h

/-! Values all of whose names are of some. -/
mutual
def okV (K : Nat → Bool) : VV → Bool
  | .any | .lit _ => true
  | .agg cs => okVL K cs
  | .tup cs => okVL K cs
  | .sl cs _ _ => okVL K cs
  | .tp cs => okVL K cs
  | .mt _ vs => okVL K vs
  | .ref β _ _ _ _ => K β
  | .ptr β _ => K β
  | .mp β => K β
  | .it _ | .yl _ => false
  | .fn _ a b => okVL K a && okVL K b
  | .ifc _ x => okV K x
def okVL (K : Nat → Bool) : List VV → Bool
  | [] => true
  | x :: xs => okV K x && okVL K xs
end
section ok
variable {c' d : Ctx} {W' : World} {K : Nat → Bool} (hA : ∀ b, c'.A b → d.A b) (hK : ∀ β, K β = true → d.used β ∧ c'.live β ∧ d.φ β = c'.φ β ∧ d.room β = c'.room β)
include hA hK
mutual
theorem okV_rep : ∀ (x : VV) {v : Value}, okV K x = true → Rep c' W' x v → Rep d W' x v
  | .any, _, _, _ => trivial
  | .lit _, _, _, h => h
  | .agg cs, _, ht, ⟨l, e, h⟩ => ⟨l, e, okVL_rep cs (by simpa [okV] using ht) h⟩
  | .tup cs, _, ht, ⟨l, e, h⟩ => ⟨l, e, okVL_rep cs (by simpa [okV] using ht) h⟩
  | .sl cs _ _, _, ht, ⟨base, cap, e, h1, h2, h3⟩ => ⟨base, cap, e, h1, h2, h3.imp id fun ⟨b, o, e2, hb, h⟩ => ⟨b, o, e2, hA b hb, okVC_rep cs (by simpa [okV] using ht) h⟩⟩
  | .tp cs, _, ht, ⟨b, o, e, hb, h⟩ => ⟨b, o, e, hA b hb, okVC_rep cs (by simpa [okV] using ht) h⟩
  | .mt _ vs, _, ht, ⟨b, e, hb, ents, clk, h1, h2, h3⟩ => ⟨b, e, hA b hb, ents, clk, h1, h2, okVL_rep vs (by simpa [okV] using ht) h3⟩
  | .ref β off len es cp, _, ht, ⟨⟨hu, ho⟩, h⟩ => by
    obtain ⟨k1, k2, k3, k4⟩ := hK β (by simpa [okV] using ht)
    refine ⟨⟨k1, ho⟩, fun _ => ?_⟩
    rw [k3, k4]
    exact h k2
  | .ptr β off, _, ht, ⟨⟨hu, ho⟩, h⟩ => by
    obtain ⟨k1, k2, k3, k4⟩ := hK β (by simpa [okV] using ht)
    refine ⟨⟨k1, ho⟩, fun _ => ?_⟩
    rw [k3]
    exact h k2
  | .mp β, _, ht, ⟨⟨hu, ho⟩, h⟩ => by
    obtain ⟨k1, k2, k3, k4⟩ := hK β (by simpa [okV] using ht)
    refine ⟨⟨k1, ho⟩, fun _ => ?_⟩
    rw [k3]
    exact h k2
  | .it _, _, ht, _ => by simp [okV] at ht
  | .yl _, _, ht, _ => by simp [okV] at ht
  | .fn _ a b, _, ht, ⟨l, m, e, h1, h2⟩ => by
    simp [okV] at ht
    exact ⟨l, m, e, okVL_rep a ht.1 h1, okVL_rep b ht.2 h2⟩
  | .ifc _ x, _, ht, ⟨u, e, h⟩ => ⟨u, e, okV_rep x (by simpa [okV] using ht) h⟩
theorem okVL_rep : ∀ (xs : List VV) {l : List Value}, okVL K xs = true → RepL c' W' xs l → RepL d W' xs l
  | [], _, _, h => h
  | x :: xs, _, ht, ⟨u, us, e, h1, h2⟩ => by
    simp [okVL] at ht
    exact ⟨u, us, e, okV_rep x ht.1 h1, okVL_rep xs ht.2 h2⟩
theorem okVC_rep : ∀ (xs : List VV) {b o : Nat}, okVL K xs = true → RepC c' W' b o xs → RepC d W' b o xs
  | [], _, _, _, _ => trivial
  | x :: xs, _, _, ht, ⟨u, e, h1, h2⟩ => by
    simp [okVL] at ht
    exact ⟨u, e, okV_rep x ht.1 h1, okVC_rep xs ht.2 h2⟩
end
end ok
def okO (K : Nat → Bool) : Option VObj → Bool
  | some (.cells _ cs) => okVL K cs
  | some (.map es) => okVL K (es.map (·.2))
  | some (.stri _ _) => true
  | _ => false
def okR (K : Nat → Bool) (H : Nat → Option VObj) : List Nat → Bool
  | [] => true
  | β :: l => okO K (H β) && okR K H l
theorem okR_spec {K : Nat → Bool} {H : Nat → Option VObj} : ∀ {l : List Nat}, okR K H l = true → ∀ β ∈ l, okO K (H β) = true
  | [], _, β, hb => by cases hb
  | γ :: l, h, β, hb => by
    simp only [okR, Bool.and_eq_true] at h
    rcases List.mem_cons.1 hb with rfl | hb
    · exact h.1
    · exact okR_spec h.2 β hb
theorem objRep_move {c' d : Ctx} {W' : World} {K : Nat → Bool} {β : Nat} {o : VObj} (h : ObjRep c' W' β o) (hφ : d.φ β = c'.φ β) (hr : d.room β = c'.room β) (hok : okO K (some o) = true) (hA : ∀ b, c'.A b → d.A b)
    (hK : ∀ β, K β = true → d.used β ∧ c'.live β ∧ d.φ β = c'.φ β ∧ d.room β = c'.room β) : ObjRep d W' β o := by
  cases o with
  | cells el cs => obtain ⟨arr, e, h1, h2, h3, h4, h5⟩ := h; exact ⟨arr, e, by rw [hφ]; exact h1, by rw [hr]; exact h2, h3, okVL_rep hA hK cs hok h4, h5⟩
  | map es => obtain ⟨ents, clk, h1, h2, h3⟩ := h; exact ⟨ents, clk, by rw [hφ]; exact h1, h2, okVL_rep hA hK _ hok h3⟩
  | stri s pos => show W'.heap[d.φ β]? = _; rw [hφ]; exact h
  | loop _ _ _ _ _ _ _ => cases hok
  | deferred _ => cases hok

/-- Names of a list that are there. -/
def memQ (β : Nat) : List Nat → Bool
  | [] => false
  | γ :: l => Nat.beq β γ || memQ β l
theorem memQ_iff {β : Nat} : ∀ {l : List Nat}, memQ β l = true ↔ β ∈ l
  | [] => by simp [memQ]
  | γ :: l => by simp [memQ, memQ_iff (l := l)]
def inR (rd : List Nat) (H : Nat → Option VObj) (β : Nat) : Bool := memQ β rd && (H β).isSome
theorem restr_congr {rd : List Nat} {H H' : Nat → Option VObj} (h : ∀ β ∈ rd, H' β = H β) : restr rd H' = restr rd H := by
  funext β
  unfold restr
  split
  · exact h β ‹_›
  · rfl
theorem okR_congr {rd : List Nat} {H H' : Nat → Option VObj} (h : ∀ β ∈ rd, H' β = H β) (hok : okR (inR rd H) H rd = true) : okR (inR rd H') H' rd = true := by
  have e : inR rd H' = inR rd H := by
    funext β
    unfold inR
    cases hm : memQ β rd with
    | false => rfl
    | true => rw [h β (memQ_iff.1 hm)]
  rw [e]
  have key : ∀ l : List Nat, (∀ β ∈ l, β ∈ rd) → okR (inR rd H) H l = true → okR (inR rd H) H' l = true := by
    intro l
    induction l with
    | nil => intro _ h; exact h
    | cons β l ih =>
      intro hl hh
      simp only [okR, Bool.and_eq_true] at hh ⊢
      refine ⟨?_, ih (fun γ hg => hl γ (List.mem_cons_of_mem _ hg)) hh.2⟩
      rw [h β (hl β (List.mem_cons_self ..))]
      exact hh.1
  exact key rd (fun _ h => h) hok

/-- A call on a part of the heap that leaves the objects as they were. -/
theorem frame_call {P : Program} {G : Glob} {f : FuncId} {args : List VV} {rd : List Nat} {M : Nat} {x0 x : VV} {Hn : Nat → Option VObj} {c : Ctx} {W : World} {vs : List Value} (s : Sim c W)
    (hv : VOpen P G f args (restr rd c.H) M (fun y H1 _ => y = x0 ∧ H1 = Hn) (fun _ _ _ => False)) (hM : ∀ β, c.used β → β < M) (hG : GOk G c W) (hargs : RepL c W args vs) (hpl : okR (inR rd c.H) c.H rd = true)
    (hsame : ∀ β ∈ rd, Hn β = c.H β) {n : Nat} (hx : sealN Hn M n x0 = some x) :
    CallsIn Fence.wide 0 P f ⟨vs⟩ W fun e W' => ∃ v A', e = .returned v ∧ Ext c W (c.more A') W' ∧ Sim (c.more A') W' ∧ Rep (c.more A') W' x v := by
  have hsub := restr_sub rd c.H
  have sr : Sim (c.sub (restr rd c.H)) W := Sim.sub s hsub (fun y st pe tm ps as bo df hy => by
    have h1 := hsub y _ hy
    have hmem : y ∈ rd := by
      unfold restr at hy
      split at hy
      · assumption
      · cases hy
    have := okR_spec hpl y hmem
    rw [h1] at this
    cases this)
  have absub : Abides c W (c.sub (restr rd c.H)) W := (Ext.sub (W := W) hsub).abides s
  refine (hv.2 (c.sub (restr rd c.H)) W vs sr rfl hM (hG.abides absub) (RepL.abides absub _ hargs)).mono ?_
  rintro e W' ⟨c', H', nx', hext, s', hH', hu, hu', hle, hres⟩
  rcases hres with ⟨y, v, rfl, hrv, rfl, rfl⟩ | ⟨_, _, _, _, hf⟩
  · have hlive_rd : ∀ β, β < M → c'.live β → β ∈ rd ∧ c.live β := by
      intro β hlt hl
      have huc : c.used β := by
        rcases hu β (s'.used β hl) with h | h
        · exact h
        · omega
      have hl2 : (c.sub (restr rd c.H)).live β := hext.live β huc hl
      have hl3 : (restr rd c.H β).isSome = true := hl2
      refine ⟨?_, hsub.live hl3⟩
      unfold restr at hl3
      split at hl3
      · assumption
      · cases hl3
    have hrd : ∀ β ∈ rd, c.live β → c'.live β ∧ c'.φ β = c.φ β ∧ c'.room β = c.room β := by
      intro β hb hl
      have e1 : c'.H β = c.H β := by rw [hH']; exact hsame β hb
      have hl' : c'.live β := by unfold Ctx.live; rw [e1]; exact hl
      exact ⟨hl', hext.φ β (s.used β hl) hl', hext.room β (s.used β hl) hl'⟩
    have hnewge : ∀ γ, M ≤ γ → c'.live γ → W.heap.size ≤ c'.φ γ := by
      intro γ hM' hl
      rcases Nat.lt_or_ge (c'.φ γ) W.heap.size with h | h
      · obtain ⟨β, hβ, e⟩ := hext.old γ hl h
        have hβ' : (restr rd c.H β).isSome = true := hβ
        have hcl := hsub.live hβ'
        have hmem : β ∈ rd := by
          unfold restr at hβ'
          split at hβ'
          · assumption
          · cases hβ'
        obtain ⟨hl', ef, _⟩ := hrd β hmem hcl
        have e2 : c'.φ β = c'.φ γ := by rw [ef]; exact e
        have := s'.inj β γ hl' hl e2
        have hlt := hM β (s.used β hcl)
        omega
      · exact h
    have hAnot : ∀ β, c.live β → ¬ c'.A (c.φ β) := by
      intro β hl hA
      by_cases hb : β ∈ rd
      · obtain ⟨hl', ef, _⟩ := hrd β hb hl
        exact s'.notA β hl' (ef ▸ hA)
      · rcases hext.newA _ hA with h | h | ⟨δ, hδ, e⟩
        · exact s.notA β hl h
        · have := s.lt β hl; omega
        · have hδ' : (restr rd c.H δ).isSome = true := hδ
          have := s.inj δ β (hsub.live hδ') hl e
          subst this
          unfold restr at hδ'
          rw [if_neg hb] at hδ'
          cases hδ'
    let A' : Nat → Prop := fun b => c'.A b ∨ ∃ γ, M ≤ γ ∧ c'.live γ ∧ c'.φ γ = b
    have hnotA' : ∀ β, c.live β → ¬ A' (c.φ β) := by
      rintro β hl (h | ⟨γ, h1, h2, h3⟩)
      · exact hAnot β hl h
      · have := hnewge γ h1 h2
        have := s.lt β hl
        omega
    have hkeep : ∀ b, b < W.heap.size → (∀ β, c.live β → β ∈ rd → c.φ β ≠ b) → W'.heap[b]? = W.heap[b]? := by
      intro b hb hn
      refine hext.keep b hb fun β hl => ?_
      have hl' : (restr rd c.H β).isSome = true := hl
      have hmem : β ∈ rd := by
        unfold restr at hl'
        split at hl'
        · assumption
        · cases hl'
      exact hn β (hsub.live hl') hmem
    have he : Ext c W (c.more A') W' :=
      { A := fun b h => .inl (hext.A b h)
        newA := by
          rintro b (h | ⟨γ, h1, h2, h3⟩)
          · rcases hext.newA b h with h | h | ⟨δ, hδ, e⟩
            · exact .inl h
            · exact .inr (.inl h)
            · exact .inr (.inr ⟨δ, hsub.live hδ, e⟩)
          · exact .inr (.inl (h3 ▸ hnewge γ h1 h2))
        used := fun _ h => h, live := fun _ _ h => h, φ := fun _ _ _ => rfl, room := fun _ _ _ => rfl
        keep := fun b hb hn => hkeep b hb fun β hl _ => hn β hl
        old := fun γ h _ => ⟨γ, h, rfl⟩
        size := hext.size, os := hext.os, tape := hext.tape, output := hext.output }
    have hs : Sim (c.more A') W' := by
      refine ⟨s.used, fun β o ho => ?_, fun β hl => Nat.lt_of_lt_of_le (s.lt β hl) hext.size, fun β hl => hnotA' β hl, s.inj, ?_⟩
      · have ho' : c.H β = some o := ho
        have hl : c.live β := by simp [Ctx.live, ho']
        by_cases hb : β ∈ rd
        · obtain ⟨hl', ef, er⟩ := hrd β hb hl
          have hoc : c'.H β = some o := by rw [hH', hsame β hb, ho']
          have hobj := s'.obj β o hoc
          have hpl' := okR_spec hpl β hb
          rw [ho'] at hpl'
          refine objRep_move hobj ef.symm er.symm hpl' (fun b h => .inl h) fun δ hδ => ?_
          simp only [inR, Bool.and_eq_true, memQ_iff] at hδ
          obtain ⟨k1, k2, k3⟩ := hrd δ hδ.1 hδ.2
          exact ⟨s.used δ hδ.2, k1, k2.symm, k3.symm⟩
        · refine (s.obj β o ho').abides (he.abides s) (s.used β hl) hl (hkeep _ (s.lt β hl) fun δ hδ hm e => hb ((s.inj δ β hδ hl e) ▸ hm)) ?_
          intro st pe tm ps as bo df e
          subst e
          exact s.loopOk ho'
      · rintro b (h | ⟨γ, h1, h2, h3⟩)
        · exact s'.ltA b h
        · exact h3 ▸ s'.lt γ h2
    refine ⟨v, A', rfl, he, hs, ?_⟩
    refine (sealN_rep (d := c.more A') s' (M := M) (fun b h => .inl h) (fun β h1 h2 => .inr ⟨β, h1, h2, rfl⟩) (fun β hlt hsm => ?_) n).1 y v x (by rw [hH']; exact hx) hrv
    obtain ⟨hmem, hcl⟩ := hlive_rd β hlt hsm
    obtain ⟨_, ef, er⟩ := hrd β hmem hcl
    exact ⟨s.used β hcl, fun _ => ⟨ef.symm, er.symm⟩⟩
  · exact hf.elim
end Go.V
end
section
/- Steps of operations. -/
namespace Go.V
open Go

/-! ### Steps -/
/-- Which function is called, with what. -/
def callee? (G : Glob) (st : St) : Op → Option (FuncId × List VV)
  | .call k =>
    match k.callee with
    | .value fo => match st.ρ G fo with
      | .fn (.func f) first captured => some (f, first ++ k.args.toList.map (st.ρ G) ++ captured)
      | _ => none
    | _ => none
  | _ => none

theorem callee_run {P : Program} {G : Glob} {c : Ctx} {W : World} {st : St} {a : Act} (hr : StRep G c W st a) {o : Oper} {f : FuncId} {args : List VV} (h : callee? G st o.op = some (f, args)) (hc : Callable P f) :
    ∃ vs, RepL c W args vs ∧ (execOp a.eval o).run P W = .ok (.enter f ⟨vs⟩) W ∧ (∀ k, o.op ≠ .defer k) := by
  unfold callee? at h
  split at h
  · rename_i k hk
    split at h
    · rename_i fo hfo
      split at h
      · rename_i g first captured hρ
        cases h
        have h1 := hr.eval fo
        rw [hρ] at h1
        obtain ⟨l, m, e, hl, hm⟩ := h1
        refine ⟨l ++ (k.args.toList.map a.eval) ++ m, RepL.append (RepL.append hl (repL_ρ hr.eval _)) hm, ?_, fun k' => by rw [hk]; simp⟩
        have ha := hc (⟨l ++ (k.args.toList.map a.eval) ++ m⟩) W
        rw [← ha]
        have e2 : (⟨l⟩ ++ k.args.map a.eval ++ ⟨m⟩ : Array Value) = ⟨l ++ k.args.toList.map a.eval ++ m⟩ := by
          apply Array.ext'; simp
        simp only [execOp, hk, resolve, hfo, Deferred.ofValue, e, pure_bind, invoke, e2]
      · cases h
    · cases h
  · cases h

/-- How deep is sealed. -/
abbrev fuelS : Nat := 100000

inductive QStep (P : Program) (G : Glob) (ops : Array Oper) (base i : Nat) (o : Oper) : St → St → List Nat → List Nat → Prop
  | skip {st : St} : wantV ops st.tm o = some false → QStep P G ops base i o st (st.put o.dst (.lit undef)) [] []
  | op {st : St} {x : VV} {eff : VEff} : wantV ops st.tm o = some true → vop P o (st.ρ G) st.H (base + i) = some (x, eff) →
      QStep P G ops base i o st { st.put o.dst x with H := eff.app (base + i) st.H } (rdV o (st.ρ G)) (eff.wr (base + i))
  | call {st : St} {f : FuncId} {args : List VV} {x : VV} : wantV ops st.tm o = some true → callee? G st o.op = some (f, args) → treeL args = true → VPure P G f args (.tree x) →
      QStep P G ops base i o st (st.put o.dst x) [] []
  | callOwn {st : St} {f : FuncId} {args cs : List VV} {len es : Nat} : wantV ops st.tm o = some true → callee? G st o.op = some (f, args) → treeL args = true → VPure P G f args (.own cs len es) →
      QStep P G ops base i o st { st.put o.dst (.ref (base + i) 0 len es len) with H := (VEff.new (.cells none cs)).app (base + i) st.H } [] [base + i]
  | callSeen {st : St} {f : FuncId} {args args' : List VV} {x : VV} : wantV ops st.tm o = some true → callee? G st o.op = some (f, args) → sealL st.H fuelS args = some args' → VPure P G f args' (.tree x) → x.flat = true →
      QStep P G ops base i o st (st.put o.dst x) (nmL st.H fuelS args) []
  | callSeenOwn {st : St} {f : FuncId} {args args' cs : List VV} {len es : Nat} : wantV ops st.tm o = some true → callee? G st o.op = some (f, args) → sealL st.H fuelS args = some args' → VPure P G f args' (.own cs len es) → flatL cs = true →
      QStep P G ops base i o st { st.put o.dst (.ref (base + i) 0 len es len) with H := (VEff.new (.cells none cs)).app (base + i) st.H } (nmL st.H fuelS args) [base + i]
  | callFrame {st : St} {f : FuncId} {args : List VV} {rd : List Nat} {x0 x : VV} {Hn : Nat → Option VObj} {n : Nat} : wantV ops st.tm o = some true → callee? G st o.op = some (f, args) →
      VOpen P G f args (restr rd st.H) st.nx (fun y H1 _ => y = x0 ∧ H1 = Hn) (fun _ _ _ => False) → okR (inR rd st.H) st.H rd = true → (∀ β ∈ rd, Hn β = st.H β) → sealN Hn st.nx n x0 = some x →
      QStep P G ops base i o st (st.put o.dst x) rd []

theorem StRep.step {G : Glob} {c c' : Ctx} {W W' : World} {st : St} {a : Act} (hr : StRep G c W st a) (ab : Abides c W c' W') {dst : Option Tmp} {x : VV} {v : Value} {H' : Nat → Option VObj} (hH : c'.H = H') (hx : Rep c' W' x v)
    (hd : ∀ d, dst = some d → d < a.tmps.size) (hu : ∀ β, c'.used β → β < st.nx) : StRep G c' W' { st.put dst x with H := H' } (a.put dst v) where
  H := hH
  tm := by
    have := rep_put (st := st) (dst := dst) (fun t => Rep.abides ab _ (hr.tm t)) hd hx
    intro t
    have h2 := this t
    cases dst <;> exact h2
  nx := by cases dst <;> exact hu
  df := by
    rw [defers_put]
    cases dst <;> exact hr.df.abides ab
  G := hr.G.abides ab

theorem vop_notDefer {P : Program} {o : Oper} {ρ : Operand → VV} {H : Nat → Option VObj} {γ : Nat} {r : VV × VEff} (h : vop P o ρ H γ = some r) : ∀ k, o.op ≠ .defer k := by
  intro k e
  simp [vop, e] at h

/-- One step, in memory. -/
theorem qstep_sound {P : Program} {G : Glob} {ro : Option Nat} {ops : Array Oper} {base i : Nat} {o : Oper} {st st' : St} {rd wr : List Nat} (hi : ops[i]? = some o) (hq : QStep P G ops base i o st st' rd wr)
    {c : Ctx} {W : World} {a : Act} (s : Sim c W) (hr : StRep G c W st a) (hd : ∀ d, o.dst = some d → d < a.tmps.size) (hγ : ¬ c.used (base + i)) (hnx : base + i < st.nx)
    {K : Act → World → Prop} {Q : Exit → Act → World → Prop}
    (k : ∀ a' W' c', Ext c W c' W' → Sim c' W' → StRep G c' W' st' a' → a'.tmps.size = a.tmps.size → (∀ β, c'.used β → c.used β ∨ β = base + i) → K a' W') :
    wpOpIn (Fw ro) 0 P ops Q i K a W := by
  unfold wpOpIn
  simp only [hi]
  cases hq with
  | skip hw =>
    have hw' := wantV_sound hr.tm hw
    rw [if_neg (by rw [hw']; simp)]
    refine ⟨fun _ _ => trivial, k _ W c (Ext.refl c W) s ?_ (by simp) fun _ h => .inl h⟩
    have := hr.step (abides_of_heap rfl) (dst := o.dst) (x := .lit undef) (v := undef) (H' := st.H) hr.H rfl hd hr.nx
    cases hdst : o.dst <;> rw [hdst] at this <;> exact this
  | @op x eff hw hv =>
    have hw' := wantV_sound hr.tm hw
    rw [if_pos hw']
    rw [← hr.H] at hv
    obtain ⟨r, v, W', c', hrun, hrv, hx, he, hs, hH, hu⟩ := vop_sound s hγ hr.eval hv
    have hK : K (a.put o.dst v) W' := k _ W' c' he hs (hr.step (he.abides s) (by rw [hH, hr.H]) hx hd (fun β hb => by
      rcases hu β hb with h | h
      · exact hr.nx β h
      · rw [h]; exact hnx)) (by simp) hu
    refine ⟨fun _ _ => trivial, ?_⟩
    rw [Oper.semAt_eq _ _ _ (vop_notDefer hv), hrun]
    rcases hrv with rfl | ⟨rfl, rfl⟩
    · exact hK
    · exact hK
  | @call f args x hw hf ht hp =>
    have hw' := wantV_sound hr.tm hw
    rw [if_pos hw']
    obtain ⟨vs, hvs, hrun, hnd⟩ := callee_run hr hf hp.1
    refine ⟨fun _ _ => trivial, ?_⟩
    rw [Oper.semAt_eq _ _ _ hnd, hrun, Oper.uponIn_enter]
    refine ⟨fun h => (by cases h), callsIn_fw ((hp.2 c.A W vs s.ltA (fun g cs hg => ?_) (repL_tree ht hvs)).mono ?_)⟩
    · exact hr.G.tree g cs hg
    · rintro e W' ⟨A', h1, h2, h3, hb, v, rfl, hx⟩
      have he := Ext.more h1 h2 hb
      have hs := Sim.more s h1 h2 h3 hb
      refine k _ W' (c.more A') he hs ?_ (by simp) (fun _ h => .inl h)
      have := hr.step (he.abides s) (dst := o.dst) (x := x) (v := v) (H' := st.H) hr.H (Rep.abides (abides_of_p (fun _ h => h)) _ hx) hd hr.nx
      cases hdst : o.dst <;> rw [hdst] at this <;> exact this
  | @callOwn f args cs len es hw hf ht hp =>
    have hw' := wantV_sound hr.tm hw
    rw [if_pos hw']
    obtain ⟨vs, hvs, hrun, hnd⟩ := callee_run hr hf hp.1
    refine ⟨fun _ _ => trivial, ?_⟩
    rw [Oper.semAt_eq _ _ _ hnd, hrun, Oper.uponIn_enter]
    refine ⟨fun h => (by cases h), callsIn_fw ((hp.2 c.A W vs s.ltA (fun g cs hg => ?_) (repL_tree ht hvs)).mono ?_)⟩
    · exact hr.G.tree g cs hg
    · rintro e W' ⟨A', h1, h2, h3, hb, b, arr, elem, cap, rfl, q1, q2, q3, q4, q5, q6, q7, q8⟩
      have he := Ext.more h1 h2 hb
      have hs := Sim.more s h1 h2 h3 hb
      have hγ' : ¬ (c.more A').used (base + i) := hγ
      have hbut : But W' W' b := But.refl W' b
      have e1 : Ext c W ((c.more A').push c.H (base + i) (.cells none cs) b arr.size) W' :=
        { Ext.push (c := c) (SubHeap.refl _) hγ (.inl q2) ⟨fun k hk _ => hb.block k hk, hb.size, hb.os, hb.tape, hb.output⟩ with A := h1, newA := fun b hA => (h2 b hA).imp id .inl }
      have s1 : Sim ((c.more A').push c.H (base + i) (.cells none cs) b arr.size) W' := by
        have ab1 : Abides (c.more A') W' ((c.more A').push c.H (base + i) (.cells none cs) b arr.size) W' :=
          ⟨fun _ h => h, fun _ _ => rfl, fun _ h => .inr h, fun β hu hl => by
            rcases Ctx.push_live hl with e | ⟨_, h⟩
            · exact absurd (e ▸ hu) hγ'
            · exact h, fun β hu _ => by
            have : β ≠ base + i := fun e => hγ' (e ▸ hu)
            simp [Ctx.push, this], fun β hu _ => by
            have : β ≠ base + i := fun e => hγ' (e ▸ hu)
            simp [Ctx.push, this]⟩
        refine ⟨fun β hl => ?_, fun β ob hob => ?_, fun β hl => ?_, fun β hl => ?_, fun β δ hl hl' e => ?_, h3⟩
        · rcases Ctx.push_live hl with e | ⟨_, h⟩
          · exact .inl e
          · exact .inr (s.used β h)
        · by_cases e : β = base + i
          · subst e
            simp [Ctx.push] at hob
            subst hob
            exact ⟨arr, elem, by simpa [Ctx.push] using q5, by simp [Ctx.push], q7, RepL.abides (abides_of_p (fun _ h => h)) _ q8, fun _ h => by cases h⟩
          · have hob' : c.H β = some ob := by simpa [Ctx.push, e] using hob
            have hl : c.live β := by simp [Ctx.live, hob']
            refine (hs.obj β ob hob').abides ab1 (s.used β hl) (by simp [Ctx.live, Ctx.push, e, hob']) rfl ?_
            intro st pe tm ps as bo df e'
            subst e'
            obtain ⟨ds, hds⟩ := s.loopOk hob'
            by_cases e2 : df = base + i
            · exact absurd (e2 ▸ s.used df (by simp [Ctx.live, hds])) hγ
            · exact ⟨ds, by simpa [Ctx.push, e2] using hds⟩
        · rcases Ctx.push_live hl with e | ⟨e, h⟩
          · simpa [Ctx.push, e] using q3
          · simp only [Ctx.push, e, if_false]; exact hs.lt β h
        · rcases Ctx.push_live hl with e | ⟨e, h⟩
          · simp only [Ctx.push, e, if_true]; exact q4
          · simp only [Ctx.push, e, if_false]; exact hs.notA β h
        · rcases Ctx.push_live hl with ex | ⟨ex, hx⟩ <;> rcases Ctx.push_live hl' with ey | ⟨ey, hy⟩
          · rw [ex, ey]
          · simp [Ctx.push, ex, ey] at e
            have := s.lt δ hy
            have e' : b = c.φ δ := e
            omega
          · simp [Ctx.push, ex, ey] at e
            have := s.lt β hx
            have e' : c.φ β = b := e
            omega
          · simp [Ctx.push, ex, ey] at e; exact s.inj β δ hx hy e
      refine k _ W' _ e1 s1 ?_ (by simp) (fun β h => h.symm)
      refine hr.step (e1.abides s) (H' := (VEff.new (.cells none cs)).app (base + i) st.H) ?_ ?_ hd ?_
      · rw [← hr.H]; rfl
      · exact rep_ref_push q1 q6 q1
      · intro β hb
        rcases hb with h | h
        · rw [h]; exact hnx
        · exact hr.nx β h
  | @callFrame f args rd x0 x Hn n hw hf hv hok hsame hx =>
    have hw' := wantV_sound hr.tm hw
    rw [if_pos hw']
    obtain ⟨vs, hvs, hrun, hnd⟩ := callee_run hr hf hv.1
    rw [← hr.H] at hv hok hsame
    refine ⟨fun _ _ => trivial, ?_⟩
    rw [Oper.semAt_eq _ _ _ hnd, hrun, Oper.uponIn_enter]
    refine ⟨fun h => (by cases h), callsIn_fw ((frame_call s hv hr.nx hr.G hvs hok hsame hx).mono ?_)⟩
    rintro e W' ⟨v, A', rfl, he, hs, hrx⟩
    refine k _ W' (c.more A') he hs ?_ (by simp) (fun _ h => .inl h)
    have := hr.step (he.abides s) (dst := o.dst) (x := x) (v := v) (H' := st.H) hr.H hrx hd hr.nx
    cases hdst : o.dst <;> rw [hdst] at this <;> exact this
  | @callSeen f args args' x hw hf hse hp hfl =>
    have hw' := wantV_sound hr.tm hw
    rw [if_pos hw']
    obtain ⟨vs, hvs, hrun, hnd⟩ := callee_run hr hf hp.1
    rw [← hr.H] at hse
    have hvs' := (seal_rep s (SubHeap.refl _) fuelS).2 _ _ _ hse hvs
    have hA : ∀ b, heldIn c c.H b → b < W.heap.size := by
      rintro b (h | ⟨β, hl, e⟩)
      · exact s.ltA b h
      · exact e ▸ s.lt β hl
    have hG : GOk G (PCtx (heldIn c c.H)) W := hr.G.tree.abides (abides_of_p (fun b hb => Or.inl hb))
    refine ⟨fun _ _ => trivial, ?_⟩
    rw [Oper.semAt_eq _ _ _ hnd, hrun, Oper.uponIn_enter]
    refine ⟨fun h => (by cases h), callsIn_fw ((hp.2 _ W vs hA hG hvs').mono ?_)⟩
    · rintro e W' ⟨A0, g1, g2, g3, hb, v, rfl, hx0⟩
      have h1 : ∀ b, c.A b → c.A b := fun _ h => h
      have h2 : ∀ b, c.A b → c.A b ∨ W.heap.size ≤ b := fun _ h => .inl h
      have h3 : ∀ b, c.A b → b < W'.heap.size := fun b hA => Nat.lt_of_lt_of_le (s.ltA b hA) hb.size
      have he := Ext.more h1 h2 hb
      have hs := Sim.more s h1 h2 h3 hb
      refine k _ W' (c.more c.A) he hs ?_ (by simp) (fun _ h => .inl h)
      have := hr.step (he.abides s) (dst := o.dst) (x := x) (v := v) (H' := st.H) hr.H (rep_flat hfl hx0) hd hr.nx
      cases hdst : o.dst <;> rw [hdst] at this <;> exact this
  | @callSeenOwn f args args' cs len es hw hf hse hp hfl =>
    have hw' := wantV_sound hr.tm hw
    rw [if_pos hw']
    obtain ⟨vs, hvs, hrun, hnd⟩ := callee_run hr hf hp.1
    rw [← hr.H] at hse
    have hvs' := (seal_rep s (SubHeap.refl _) fuelS).2 _ _ _ hse hvs
    have hA : ∀ b, heldIn c c.H b → b < W.heap.size := by
      rintro b (h | ⟨β, hl, e⟩)
      · exact s.ltA b h
      · exact e ▸ s.lt β hl
    have hG : GOk G (PCtx (heldIn c c.H)) W := hr.G.tree.abides (abides_of_p (fun b hb => Or.inl hb))
    refine ⟨fun _ _ => trivial, ?_⟩
    rw [Oper.semAt_eq _ _ _ hnd, hrun, Oper.uponIn_enter]
    refine ⟨fun h => (by cases h), callsIn_fw ((hp.2 _ W vs hA hG hvs').mono ?_)⟩
    · rintro e W' ⟨A0, g1, g2, g3, hb, b, arr, elem, cap, rfl, q1, q2, q3, q40, q5, q6, q7, q80⟩
      have h1 : ∀ b, c.A b → c.A b := fun _ h => h
      have h2 : ∀ b, c.A b → c.A b ∨ W.heap.size ≤ b := fun _ h => .inl h
      have h3 : ∀ b, c.A b → b < W'.heap.size := fun b hA => Nat.lt_of_lt_of_le (s.ltA b hA) hb.size
      have q4 : ¬ c.A b := fun h => by have := s.ltA b h; omega
      have q8 : RepL (PCtx c.A) W' cs (arr.toList.take cs.length) := repL_flat hfl q80
      have he := Ext.more h1 h2 hb
      have hs := Sim.more s h1 h2 h3 hb
      have hγ' : ¬ (c.more c.A).used (base + i) := hγ
      have hbut : But W' W' b := But.refl W' b
      have e1 : Ext c W ((c.more c.A).push c.H (base + i) (.cells none cs) b arr.size) W' :=
        { Ext.push (c := c) (SubHeap.refl _) hγ (.inl q2) ⟨fun k hk _ => hb.block k hk, hb.size, hb.os, hb.tape, hb.output⟩ with A := h1, newA := fun b hA => (h2 b hA).imp id .inl }
      have s1 : Sim ((c.more c.A).push c.H (base + i) (.cells none cs) b arr.size) W' := by
        have ab1 : Abides (c.more c.A) W' ((c.more c.A).push c.H (base + i) (.cells none cs) b arr.size) W' :=
          ⟨fun _ h => h, fun _ _ => rfl, fun _ h => .inr h, fun β hu hl => by
            rcases Ctx.push_live hl with e | ⟨_, h⟩
            · exact absurd (e ▸ hu) hγ'
            · exact h, fun β hu _ => by
            have : β ≠ base + i := fun e => hγ' (e ▸ hu)
            simp [Ctx.push, this], fun β hu _ => by
            have : β ≠ base + i := fun e => hγ' (e ▸ hu)
            simp [Ctx.push, this]⟩
        refine ⟨fun β hl => ?_, fun β ob hob => ?_, fun β hl => ?_, fun β hl => ?_, fun β δ hl hl' e => ?_, h3⟩
        · rcases Ctx.push_live hl with e | ⟨_, h⟩
          · exact .inl e
          · exact .inr (s.used β h)
        · by_cases e : β = base + i
          · subst e
            simp [Ctx.push] at hob
            subst hob
            exact ⟨arr, elem, by simpa [Ctx.push] using q5, by simp [Ctx.push], q7, RepL.abides (abides_of_p (fun _ h => h)) _ q8, fun _ h => by cases h⟩
          · have hob' : c.H β = some ob := by simpa [Ctx.push, e] using hob
            have hl : c.live β := by simp [Ctx.live, hob']
            refine (hs.obj β ob hob').abides ab1 (s.used β hl) (by simp [Ctx.live, Ctx.push, e, hob']) rfl ?_
            intro st pe tm ps as bo df e'
            subst e'
            obtain ⟨ds, hds⟩ := s.loopOk hob'
            by_cases e2 : df = base + i
            · exact absurd (e2 ▸ s.used df (by simp [Ctx.live, hds])) hγ
            · exact ⟨ds, by simpa [Ctx.push, e2] using hds⟩
        · rcases Ctx.push_live hl with e | ⟨e, h⟩
          · simpa [Ctx.push, e] using q3
          · simp only [Ctx.push, e, if_false]; exact hs.lt β h
        · rcases Ctx.push_live hl with e | ⟨e, h⟩
          · simp only [Ctx.push, e, if_true]; exact q4
          · simp only [Ctx.push, e, if_false]; exact hs.notA β h
        · rcases Ctx.push_live hl with ex | ⟨ex, hx⟩ <;> rcases Ctx.push_live hl' with ey | ⟨ey, hy⟩
          · rw [ex, ey]
          · simp [Ctx.push, ex, ey] at e
            have := s.lt δ hy
            have e' : b = c.φ δ := e
            omega
          · simp [Ctx.push, ex, ey] at e
            have := s.lt β hx
            have e' : c.φ β = b := e
            omega
          · simp [Ctx.push, ex, ey] at e; exact s.inj β δ hx hy e
      refine k _ W' _ e1 s1 ?_ (by simp) (fun β h => h.symm)
      refine hr.step (e1.abides s) (H' := (VEff.new (.cells none cs)).app (base + i) st.H) ?_ ?_ hd ?_
      · rw [← hr.H]; rfl
      · exact rep_ref_push q1 q6 q1
      · intro β hb
        rcases hb with h | h
        · rw [h]; exact hnx
        · exact hr.nx β h


end Go.V
end
