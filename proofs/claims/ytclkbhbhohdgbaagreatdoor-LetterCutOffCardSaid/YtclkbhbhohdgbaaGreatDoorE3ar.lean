/- Part of a proof. -/
import Derived.Test.YtclkbhbhohdgbaaGreatDoorE3ac
set_option linter.all false
section
namespace Go.V
open Go
def keepH (rd us : List Nat) (H Hn : Nat → Option Vo) (M : Nat) : Nat → Option Vo := fun β => match Nat.blt β M with
  | true => match memQ β rd with
    | true => Hn β
    | false => H β
  | false => match memQ β us with
    | true => Hn β
    | false => H β
def keepK (rd us : List Nat) (Hn : Nat → Option Vo) (M : Nat) (β : Nat) : Bool := match Nat.blt β M with
  | true => inR rd Hn β
  | false => inR us Hn β
def keepF (M : Nat) (f g : Nat → Nat) : Nat → Nat := fun β => match Nat.blt β M with
  | true => f β
  | false => g β
variable {M : Nat}
theorem blt_t {β : Nat} (h : β < M) : Nat.blt β M = true := by simpa [Nat.blt_eq] using h
theorem blt_f {β : Nat} (h : M ≤ β) : Nat.blt β M = false := by
  cases hb : Nat.blt β M with
  | false => rfl
  | true => rw [Nat.blt_eq] at hb; omega
def okD (K : Nat → Bool) (H : Nat → Option Vo) : List Nat → Bool
  | [] => true
  | β :: l => (match H β with
    | none => true
    | some o => okO K (some o)) && okD K H l
theorem KT {K : Nat → Bool} {H : Nat → Option Vo} : ∀ {l : List Nat}, okD K H l = true → ∀ β ∈ l, ∀ o, H β = some o → okO K (some o) = true
  | [], _, β, hb, _, _ => by cases hb
  | γ :: l, h, β, hb, o, ho => by
    simp only [okD, Bool.and_eq_true] at h
    rcases List.mem_cons.1 hb with rfl | hb
    · have := h.1
      rw [ho] at this
      exact this
    · exact KT h.2 β hb o ho
theorem KR {P : Program} {G : Gb} {f : FuncId} {args : List VV} {rd us : List Nat} {m : Nat} {x0 : VV} {Hn : Nat → Option Vo} {c : Ctx} {W : World} {vs : List Value} (s : Sim c W)
    (hv : aU P G f args (restr rd c.H) M (fun y H1 n1 => y = x0 ∧ H1 = Hn ∧ n1 = m) (fun _ _ _ => False)) (hM : ∀ β, c.used β → β < M) (hG : GOk G c W) (bz : Rl c W args vs) (hpl : okR (inR rd c.H) c.H rd = true)
    (hold : okD (keepK rd us Hn M) Hn rd = true) (hnew : okD (keepK rd us Hn M) Hn us = true) (hx : okV (keepK rd us Hn M) x0 = true) :
    CallsIn Fence.wide 0 P f ⟨vs⟩ W fun e W' => ∃ v d, e = .returned v ∧ Ext c W d W' ∧ Sim d W' ∧ Rep d W' x0 v ∧ d.H = keepH rd us c.H Hn M ∧ (∀ β, d.used β → c.used β ∨ M ≤ β) ∧ (∀ β, d.used β → β < m) ∧ M ≤ m := by
  have aY := Fy rd c.H
  have restr_live : ∀ {β}, (restr rd c.H β).isSome = true → β ∈ rd ∧ c.live β := by
    intro β hl
    refine ⟨?_, aY.live hl⟩
    unfold restr at hl
    split at hl
    · assumption
    · cases hl
  have sr : Sim (c.sub (restr rd c.H)) W := Sim.sub s aY (fun y st pe tm ps as bo df hy => by
    have h1 := aY y _ hy
    have := yv hpl y (restr_live (by rw [hy]; rfl)).1
    rw [h1] at this
    cases this)
  have absub : Abides c W (c.sub (restr rd c.H)) W := (Ext.sub (W := W) aY).abides s
  refine (hv.2 (c.sub (restr rd c.H)) W vs sr rfl hM (hG.abides absub) (Rl.abides absub _ bz)).mono ?_
  rintro e W' ⟨c', H', nx', aD, s', hH', hu, hu', hle, hres⟩
  rcases hres with ⟨y, v, rfl, hrv, rfl, rfl, rfl⟩ | ⟨_, _, _, _, hf⟩
  · subst hH'
    have hrd : ∀ {β}, β < M → c'.live β → β ∈ rd ∧ c.live β ∧ c'.φ β = c.φ β ∧ c'.room β = c.room β := by
      intro β hlt hl
      have huc : c.used β := by
        rcases hu β (s'.used β hl) with h | h
        · exact h
        · omega
      have mg : (restr rd c.H β).isSome = true := aD.live β huc hl
      exact ⟨(restr_live mg).1, (restr_live mg).2, aD.φ β huc hl, aD.room β huc hl⟩
    have hnewat : ∀ γ, M ≤ γ → c'.live γ → W.heap.size ≤ c'.φ γ ∨ ∃ β ∈ rd, c.live β ∧ c.φ β = c'.φ γ := by
      intro γ hM' hl
      rcases Nat.lt_or_ge (c'.φ γ) W.heap.size with h | h
      · obtain ⟨β, hβ, e⟩ := aD.old γ hl h
        exact .inr ⟨β, (restr_live hβ).1, (restr_live hβ).2, e⟩
      · exact .inl h
    have hAnot : ∀ β, c.live β → β ∉ rd → ¬ c'.A (c.φ β) := by
      intro β hl hb hA
      rcases aD.newA _ hA with h | h | ⟨δ, hδ, e⟩
      · exact s.notA β hl h
      · have := s.lt β hl
        have h' : W.heap.size ≤ c.φ β := h
        omega
      · have := s.inj δ β (restr_live hδ).2 hl e
        exact hb (this ▸ (restr_live hδ).1)
    let d : Ctx := { A := c'.A, φ := keepF M c.φ c'.φ, room := keepF M c.room c'.room, used := c'.used, H := keepH rd us c.H c'.H M }
    have su : ∀ {β}, β < M → d.φ β = c.φ β := fun h => by show keepF M c.φ c'.φ _ = _; unfold keepF; rw [blt_t h]
    have t6 : ∀ {β}, M ≤ β → d.φ β = c'.φ β := fun h => by show keepF M c.φ c'.φ _ = _; unfold keepF; rw [blt_f h]
    have KU : ∀ {β}, β < M → d.room β = c.room β := fun h => by show keepF M c.room c'.room _ = _; unfold keepF; rw [blt_t h]
    have UH : ∀ {β}, M ≤ β → d.room β = c'.room β := fun h => by show keepF M c.room c'.room _ = _; unfold keepF; rw [blt_f h]
    have dHr : ∀ {β}, β < M → β ∈ rd → d.H β = c'.H β := fun h hb => by show keepH rd us c.H c'.H M _ = _; unfold keepH; rw [blt_t h, kK.2 hb]
    have dHo : ∀ {β}, β < M → β ∉ rd → d.H β = c.H β := fun {β} h hb => by
      show keepH rd us c.H c'.H M _ = _
      unfold keepH
      rw [blt_t h]
      cases hq : memQ β rd with
      | true => exact absurd (kK.1 hq) hb
      | false => rfl
    have dHn : ∀ {β}, M ≤ β → β ∈ us → d.H β = c'.H β := fun h hb => by show keepH rd us c.H c'.H M _ = _; unfold keepH; rw [blt_f h, kK.2 hb]
    have dHm : ∀ {β}, M ≤ β → β ∉ us → d.H β = c.H β := fun {β} h hb => by
      show keepH rd us c.H c'.H M _ = _
      unfold keepH
      rw [blt_f h]
      cases hq : memQ β us with
      | true => exact absurd (kK.1 hq) hb
      | false => rfl
    have t7 : ∀ {β}, M ≤ β → d.live β → β ∈ us ∧ c'.live β ∧ d.H β = c'.H β := fun {β} h hl => by
      by_cases hb : β ∈ us
      · have e := dHn h hb
        exact ⟨hb, by unfold Ctx.live at hl ⊢; rwa [e] at hl, e⟩
      · have e := dHm h hb
        have hc : c.live β := by unfold Ctx.live at hl ⊢; rwa [e] at hl
        have := hM β (s.used β hc)
        omega
    have sv : ∀ {β}, β < M → d.live β → c.live β ∧ ((β ∈ rd ∧ c'.live β ∧ d.H β = c'.H β ∧ c'.φ β = c.φ β ∧ c'.room β = c.room β) ∨ (β ∉ rd ∧ d.H β = c.H β)) := by
      intro β h hl
      by_cases hb : β ∈ rd
      · have e := dHr h hb
        have hl' : c'.live β := by unfold Ctx.live at hl ⊢; rwa [e] at hl
        obtain ⟨_, k2, k3, k4⟩ := hrd h hl'
        exact ⟨k2, .inl ⟨hb, hl', e, k3, k4⟩⟩
      · have e := dHo h hb
        exact ⟨by unfold Ctx.live at hl ⊢; rwa [e] at hl, .inr ⟨hb, e⟩⟩
    have hK : ∀ β, keepK rd us c'.H M β = true → d.used β ∧ c'.live β ∧ d.φ β = c'.φ β ∧ d.room β = c'.room β := by
      intro β hk
      unfold keepK at hk
      rcases Nat.lt_or_ge β M with h | h
      · rw [blt_t h] at hk
        simp only [inR, Bool.and_eq_true, kK] at hk
        obtain ⟨_, _, k2, k3⟩ := hrd h hk.2
        exact ⟨s'.used β hk.2, hk.2, (su h).trans k2.symm, (KU h).trans k3.symm⟩
      · rw [blt_f h] at hk
        simp only [inR, Bool.and_eq_true, kK] at hk
        exact ⟨s'.used β hk.2, hk.2, t6 h, UH h⟩
    have hkeep : ∀ b, b < W.heap.size → (∀ β, c.live β → β ∈ rd → c.φ β ≠ b) → W'.heap[b]? = W.heap[b]? := by
      intro b hb hn
      refine aD.keep b hb fun β hl => ?_
      exact hn β (restr_live hl).2 (restr_live hl).1
    have he : Ext c W d W' :=
      { A := fun b h => aD.A b h
        newA := by
          intro b h
          rcases aD.newA b h with h | h | ⟨δ, hδ, e⟩
          · exact .inl h
          · exact .inr (.inl h)
          · exact .inr (.inr ⟨δ, aY.live hδ, e⟩)
        used := fun β h => aD.used β h
        live := fun β hu hl => (sv (hM β hu) hl).1
        φ := fun β hu _ => su (hM β hu)
        room := fun β hu _ => KU (hM β hu)
        keep := fun b hb hn => hkeep b hb fun β hl _ => hn β hl
        old := fun γ hl hlt => by
          rcases Nat.lt_or_ge γ M with h | h
          · exact ⟨γ, (sv h hl).1, (su h).symm⟩
          · rw [t6 h] at hlt ⊢
            rcases hnewat γ h (t7 h hl).2.1 with h1 | ⟨β, _, h1, h2⟩
            · omega
            · exact ⟨β, h1, h2⟩
        size := aD.size, os := aD.os, tape := aD.tape, output := aD.output }
    have mixed : ∀ {β γ}, β < M → M ≤ γ → d.live β → d.live γ → d.φ β = d.φ γ → False := by
      intro β γ h h' hl hl' e
      rw [su h, t6 h'] at e
      obtain ⟨hc, hor⟩ := sv h hl
      obtain ⟨_, hg, _⟩ := t7 h' hl'
      rcases hor with ⟨_, k1, _, k2, _⟩ | ⟨hb, _⟩
      · have := s'.inj β γ k1 hg (k2.trans e)
        omega
      · rcases hnewat γ h' hg with h1 | ⟨δ, h1, h2, h3⟩
        · have := s.lt β hc
          omega
        · exact hb ((s.inj δ β h2 hc (h3.trans e.symm)) ▸ h1)
    have hs : Sim d W' := by
      refine ⟨fun β hl => ?_, fun β o ho => ?_, fun β hl => ?_, fun β hl => ?_, fun β γ hl hl' e => ?_, fun b h => s'.ltA b h⟩
      · rcases Nat.lt_or_ge β M with h | h
        · exact aD.used β (s.used β (sv h hl).1)
        · exact s'.used β (t7 h hl).2.1
      · have hl : d.live β := by unfold Ctx.live; rw [ho]; rfl
        rcases Nat.lt_or_ge β M with h | h
        · obtain ⟨hc, hor⟩ := sv h hl
          rcases hor with ⟨hb, k1, k2, k3, k4⟩ | ⟨hb, k2⟩
          · have hoc : c'.H β = some o := k2 ▸ ho
            exact Dh (s'.obj β o hoc) ((su h).trans k3.symm) ((KU h).trans k4.symm) (KT hold β hb o hoc) (fun b h => h) hK
          · have ho' : c.H β = some o := k2 ▸ ho
            refine (s.obj β o ho').abides (he.abides s) (s.used β hc) hl (hkeep _ (s.lt β hc) fun δ hδ hm e => hb ((s.inj δ β hδ hc e) ▸ hm)) ?_
            intro st pe tm ps as bo df e
            subst e
            obtain ⟨ds, hds⟩ := s.loopOk ho'
            have hul : c.live df := by simp [Ctx.live, hds]
            have hdf : df ∉ rd := fun hm => by
              have := yv hpl df hm
              rw [hds] at this
              cases this
            exact ⟨ds, (dHo (hM df (s.used df hul)) hdf).trans hds⟩
        · obtain ⟨hm, _, k2⟩ := t7 h hl
          have hoc : c'.H β = some o := k2 ▸ ho
          exact Dh (s'.obj β o hoc) (t6 h) (UH h) (KT hnew β hm o hoc) (fun b h => h) hK
      · rcases Nat.lt_or_ge β M with h | h
        · rw [su h]
          exact qZd (s.lt β (sv h hl).1) aD.size
        · rw [t6 h]
          exact s'.lt β (t7 h hl).2.1
      · rcases Nat.lt_or_ge β M with h | h
        · rw [su h]
          obtain ⟨hc, hor⟩ := sv h hl
          rcases hor with ⟨_, k1, _, k3, _⟩ | ⟨hb, _⟩
          · rw [← k3]
            exact s'.notA β k1
          · exact hAnot β hc hb
        · rw [t6 h]
          exact s'.notA β (t7 h hl).2.1
      · rcases Nat.lt_or_ge β M with h | h <;> rcases Nat.lt_or_ge γ M with h' | h'
        · rw [su h, su h'] at e
          exact s.inj β γ (sv h hl).1 (sv h' hl').1 e
        · exact (mixed h h' hl hl' e).elim
        · exact (mixed h' h hl' hl e.symm).elim
        · rw [t6 h, t6 h'] at e
          exact s'.inj β γ (t7 h hl).2.1 (t7 h' hl').2.1 e
    exact ⟨v, d, rfl, he, hs, rB (c' := c') (d := d) (fun b h => h) hK _ hx hrv, rfl, hu, hu', hle⟩
  · exact hf.elim
end Go.V
end
