/- Part of a proof. -/
import Derived.Test.YtclkbhbhohdgbaaGreatDoorE2ap
set_option linter.all false
noncomputable section
namespace Go.V
open Go
theorem ρQ_at (G : Gb) (r : Option (Option Nat)) (t : Trie VV) : ρQ (G.at r) t = ρQ G t := by
 funext y; cases y <;> rfl
inductive CO where
 | v (f : Trie VV → Trie Vo → Option VV)
 | e (f : Trie VV → Trie Vo → Nat → Option (VV × Ve))
 | c (k : Call)
 | p (x : Operand)
 | d
def lenC (P : Program) (G : Gb) (k : Call) : CO := match k.args.toList, k.argTypes.toList with
 | [x], [t] => .v (fun m H => lenQ P H t (ρQ G m x))
 | _, _ => .e (fun m H γ => vbuiltin P k (ρQ G m) H.get γ)
def callC (P : Program) (G : Gb) (k : Call) : CO := match k.callee with
 | .value _ => .c k
 | .invoke _ _ => .c k
 | .builtin .len => lenC P G k
 | _ => .e (fun m H γ => vbuiltin P k (ρQ G m) H.get γ)
def selQ (x a b : VV) : Option VV := match x with
 | .lit (.bool t) => some (Bool.rec (motive := fun _ => VV) b a t)
 | _ => none
def extQ (x : VV) (i : Nat) : Option VV := match x with
 | .tup vs => headQ (dropQ i vs)
 | _ => none
def bin2Q (P : Program) (H : Trie Vo) (op : BinOp) (t : TypeId) (x y : Operand) (a b : VV) : Option VV := match binQ P H op t x y a b with
 | some (z, _) => some z
 | none => none
def opc (P : Program) (G : Gb) (o : Oper) : CO :=
 match o.op with
 | .move x => .v (fun m _ => some (ρQ G m x))
 | .assign x => .v (fun m _ => some (ρQ G m x))
 | .pick c a b => .v (fun m _ => selQ (ρQ G m c) (ρQ G m a) (ρQ G m b))
 | .load t x => .v (fun m H => loadQ P H t (ρQ G m x))
 | .binOp op t x y _ => .v (fun m H => bin2Q P H op t x y (ρQ G m x) (ρQ G m y))
 | .fieldAddr t x f => .v (fun m H => fieldAddrQ P H t (ρQ G m x) f)
 | .field t x f => .v (fun m _ => fieldQ P t (ρQ G m x) f)
 | .indexAddr t x i => .v (fun m H => indexAddrQ P H t (ρQ G m x) (ρQ G m i))
 | .index t x i => .v (fun m _ => vindex P t (ρQ G m x) (ρQ G m i))
 | .extract t i => .v (fun m _ => extQ (ρQ G m t) i)
 | .alloc e => .e (fun _ _ γ => allocQ P γ e)
 | .box e x => .e (fun m _ γ => boxQ γ e (bc (ρQ G m x)))
 | .store t a x => .e (fun m H _ => storeQ P H t (ρQ G m a) (ρQ G m x))
 | .call k => callC P G k
 | .panic x => .p x
 | .defer _ => .d
 | _ => .e (fun m H γ => vopQ P o (ρQ G m) H γ)
def coQ (m : Trie VV) (H : Trie Vo) (γ : Nat) (r : Option (VV × Ve)) (c : CO) : Option (VV × Ve) :=
 CO.rec (motive := fun _ => Option (VV × Ve)) (fun f => q1 (f m H)) (fun f => f m H γ) (fun _ => r) (fun _ => r) r c
theorem Bm (P : Program) (G : Gb) (o : Oper) (m : Trie VV) (H : Trie Vo) (γ : Nat) : coQ m H γ (vopQ P o (ρQ G m) H γ) (opc P G o) = vopQ P o (ρQ G m) H γ := by
 unfold opc coQ
 cases hop : o.op <;> simp only [vopQ, hop]
 case move => rfl
 case assign => rfl
 case pick c a b =>
  simp only [selQ, pickQ]
  cases ρQ G m c <;> try rfl
  rename_i v
  cases v <;> rfl
 case binOp op t x y yt =>
  simp only [bin2Q]
  have key : ∀ r : Option (VV × Ve), (∀ p, r = some p → p.2 = .none) → q1 (match r with | some (z, _) => some z | none => none) = r := by
   intro r h
   cases r with
   | none => rfl
   | some p => obtain ⟨z, e⟩ := p; have := h _ rfl; simp only at this; subst this; rfl
  refine key _ ?_
  intro p hp
  have mapE : ∀ {α : Type} {q : Option α} {f : α → VV} {p : VV × Ve}, (q.map fun v => (f v, Ve.none)) = some p → p.2 = .none := by
   intro α q f p h
   cases q with
   | none => cases h
   | some a => cases h; rfl
  unfold binQ at hp
  split at hp
  ·split at hp
   ·split at hp
    ·cases hp; rfl
    ·cases hp
   ·split at hp
    ·exact mapE hp
    ·exact mapE hp
  ·split at hp
   ·exact mapE hp
   ·exact mapE hp
 case extract t i =>
  simp only [extQ, extractQ]
  cases ρQ G m t <;> rfl
 case call k =>
  unfold callC callQ
  obtain ⟨callee, as, ats⟩ := k
  cases callee with
  | value f => rfl
  | invoke r n => rfl
  | builtin b =>
   cases b <;> try rfl
   obtain ⟨as⟩ := as
   obtain ⟨ats⟩ := ats
   rcases as with _ | ⟨x, _ | ⟨y, as⟩⟩ <;> rcases ats with _ | ⟨t, _ | ⟨u, ats⟩⟩ <;> rfl
def vputQ (o : Oper) (s : RS) (r : Option VV) : SR := Option.rec (motive := fun _ => SR) (.no (.op o)) (fun x => .ok (s.putQ o.dst x)) r
def vA (P : Program) (G : Gb) (run : RunR) (cf : aI) (ro : Option Nat) (ops : Array Oper) (γ : Nat) (o : Oper) (s : RS) (c : CO) : SR :=
 CO.rec (motive := fun _ => SR) (fun f => vputQ o s (f s.tm s.H)) (fun f => oz o γ s (f s.tm s.H γ)) (fun k => callS P G run cf γ o k s) (fun x => panS o s (ρQ G s.tm x)) (aT P (G.at (some ro)) run cf ro ops γ o s) c
theorem Lv (P : Program) (G : Gb) (run : RunR) (cf : aI) (ro : Option Nat) (ops : Array Oper) (γ : Nat) (o : Oper) (s : RS) : vA P G run cf ro ops γ o s (opc P G o) = actS P (G.at (some ro)) run cf ro ops γ o s := by
 have h := Bm P G o s.tm s.H γ
 have hq : opQ P (G.at (some ro)) γ o s = oz o γ s (coQ s.tm s.H γ (vopQ P o (ρQ G s.tm) s.H γ) (opc P G o)) := by
  rw [h]; unfold opQ; rw [ρQ_at]
 have hv : ∀ r : Option VV, vputQ o s r = oz o γ s (q1 r) := by intro r; cases r <;> rfl
 unfold actS vA
 cases hop : o.op
 case call k =>
  simp only
  obtain ⟨callee, as, ats⟩ := k
  cases callee with
  | value f =>
   have e : opc P G o = .c ⟨.value f, as, ats⟩ := by simp only [opc, hop, callC]
   rw [e]
   simp only [callS, ρQ_at]
   simp only [callV, ρQ_at]
   cases ρQ G s.tm f <;> rfl
  | invoke r n =>
   have e : opc P G o = .c ⟨.invoke r n, as, ats⟩ := by simp only [opc, hop, callC]
   rw [e]
   simp only [callS, ρQ_at]
   simp only [callV, ρQ_at]
   cases recvV P n (ρQ G s.tm r) <;> rfl
  | builtin b =>
   simp only [callS]
   rw [hq]
   cases hc : opc P G o with
   | v f => exact hv _
   | e f => rfl
   | c k => exact absurd hc (by simp only [opc, hop, callC]; cases b <;> simp only [lenC] <;> (try split) <;> simp)
   | p x => exact absurd hc (by simp only [opc, hop, callC]; cases b <;> simp only [lenC] <;> (try split) <;> simp)
   | d => exact absurd hc (by simp only [opc, hop, callC]; cases b <;> simp only [lenC] <;> (try split) <;> simp)
 case panic x =>
  have e : opc P G o = .p x := by simp only [opc, hop]
  rw [e]
  simp only [ρQ_at]
 case defer k =>
  have e : opc P G o = .d := by simp only [opc, hop]
  rw [e]
 all_goals
  simp only
  rw [hq]
  cases hc : opc P G o with
  | v f => exact hv _
  | e f => rfl
  | c k => exact absurd hc (by simp only [opc, hop]; simp)
  | p x => exact absurd hc (by simp only [opc, hop]; simp)
  | d => exact absurd hc (by simp only [opc, hop]; simp)
def stepA (P : Program) (G : Gb) (run : RunR) (cf : aI) (ro : Option Nat) (ops : Array Oper) (γ : Nat) (o : Oper) (s : RS) (g : Option Bool) : SR :=
 Option.rec (motive := fun _ => SR) (.no (.op o)) (fun b => Bool.rec (motive := fun _ => SR) (.ok (s.putQ o.dst (.lit undef))) (vA P G run cf ro ops γ o s (opc P G o)) b) g
def guardA (ops : Array Oper) (t : Trie VV) (o : Oper) : Option Bool := Option.rec (motive := fun _ => Option Bool) (some true) (fun p => guardQ1 ops t p.1 p.2) o.guard
theorem TO (ops : Array Oper) (t : Trie VV) (o : Oper) : guardA ops t o = guardQ ops t o := by
 unfold guardA guardQ
 cases o.guard <;> rfl
theorem JN (P : Program) (G : Gb) (run : RunR) (cf : aI) (ro : Option Nat) (ops : Array Oper) (γ : Nat) (o : Oper) (s : RS) : stepA P G run cf ro ops γ o s (guardA ops s.tm o) = stepQ P (G.at (some ro)) run cf ro ops γ o s := by
 unfold stepA stepQ stepQ1
 rw [TO]
 cases guardQ ops s.tm o with
 | none => rfl
 | some b =>
  cases b with
  | false => rfl
  | true => exact Lv P G run cf ro ops γ o s
def seqA (P : Program) (G : Gb) (run : RunR) (cf : aI) (ro : Option Nat) (ops : Array Oper) (aa : Nat) (l : List Oper) : Nat → RS → ER :=
 List.rec (motive := fun _ => Nat → RS → ER) (fun _ s => .mk .normal s)
  (fun o _ ih i s => SR.rec (motive := fun _ => ER) (fun s' => ih (Nat.succ i) s') (fun x s' => .mk (.panic x) s') (fun w => .no w) (stepA P G run cf ro ops (Nat.add aa i) o s (guardA ops s.tm o))) l
theorem Ap (P : Program) (G : Gb) (run : RunR) (cf : aI) (ro : Option Nat) (ops : Array Oper) (aa : Nat) : ∀ (l : List Oper) (i : Nat) (s : RS), seqA P G run cf ro ops aa l i s = seqQ P (G.at (some ro)) run cf ro ops aa l i s
 | [], _, _ => rfl
 | o :: l, i, s => by
  have ih := fun i s => Ap P G run cf ro ops aa l i s
  show SR.rec (motive := fun _ => ER) (fun s' => seqA P G run cf ro ops aa l (i + 1) s') (fun x s' => .mk (.panic x) s') (fun w => .no w) (stepA P G run cf ro ops (aa + i) o s (guardA ops s.tm o)) =
   SR.rec (motive := fun _ => ER) (fun s' => seqQ P (G.at (some ro)) run cf ro ops aa l (i + 1) s') (fun x s' => .mk (.panic x) s') (fun w => .no w) (stepQ P (G.at (some ro)) run cf ro ops (aa + i) o s)
  rw [JN]
  cases stepQ P (G.at (some ro)) run cf ro ops (aa + i) o s with
  | ok s' => exact ih (i + 1) s'
  | pan x s' => rfl
  | no w => rfl
def vputD (o : Oper) (rd : List Nat) (s : RS) (r : Option VV) : DR := Option.rec (motive := fun _ => DR) (.no (.op o)) (fun x => .ok rd [] (s.putQ o.dst x)) r
def dactA (P : Program) (G : Gb) (cf : aI) (γ : Nat) (o : Oper) (s : RS) (c : CO) : DR :=
 CO.rec (motive := fun _ => DR) (fun f => vputD o (rdV o (ρQ G s.tm)) s (f s.tm s.H)) (fun f => dopQ1 o (ρQ G s.tm) γ s (f s.tm s.H γ)) (fun _ => dactQ P G cf γ o s) (fun _ => dactQ P G cf γ o s) (dactQ P G cf γ o s) c
theorem Lw (P : Program) (G : Gb) (r : Option (Option Nat)) (γ : Nat) (o : Oper) (s : RS) : dopQ P (G.at r) γ o s = dopQ P G γ o s := by unfold dopQ; rw [ρQ_at]
theorem Lz (P : Program) (G : Gb) (r : Option (Option Nat)) (cf : aI) (γ : Nat) (o : Oper) (s : RS) : dactQ P (G.at r) cf γ o s = dactQ P G cf γ o s := by
 unfold dactQ dcalleeQ dcallQ
 simp only [ρQ_at, Lw]
theorem L0 (P : Program) (G : Gb) (cf : aI) (γ : Nat) (o : Oper) (s : RS) : dactA P G cf γ o s (opc P G o) = dactQ P G cf γ o s := by
 have h := Bm P G o s.tm s.H γ
 have hq : dopQ P G γ o s = dopQ1 o (ρQ G s.tm) γ s (coQ s.tm s.H γ (vopQ P o (ρQ G s.tm) s.H γ) (opc P G o)) := by
  rw [h]; rfl
 have hv : ∀ r : Option VV, vputD o (rdV o (ρQ G s.tm)) s r = dopQ1 o (ρQ G s.tm) γ s (q1 r) := by intro r; cases r <;> rfl
 unfold dactA
 cases hc : opc P G o with
 | c k => rfl
 | p x => rfl
 | d => rfl
 | v f =>
  rw [hc] at hq
  have e : dactQ P G cf γ o s = dopQ P G γ o s := by
   unfold dactQ
   cases hop : o.op <;> try rfl
   rename_i k
   obtain ⟨callee, as, ats⟩ := k
   cases callee <;> try rfl
   all_goals exact absurd hc (by simp only [opc, hop, callC]; simp)
  rw [e, hq]
  exact hv _
 | e f =>
  rw [hc] at hq
  have e : dactQ P G cf γ o s = dopQ P G γ o s := by
   unfold dactQ
   cases hop : o.op <;> try rfl
   rename_i k
   obtain ⟨callee, as, ats⟩ := k
   cases callee <;> try rfl
   all_goals exact absurd hc (by simp only [opc, hop, callC]; simp)
  rw [e, hq]
  rfl
def dstepA (P : Program) (G : Gb) (cf : aI) (ops : Array Oper) (γ : Nat) (o : Oper) (s : RS) (g : Option Bool) : DR :=
 Option.rec (motive := fun _ => DR) (.no (.op o)) (fun b => Bool.rec (motive := fun _ => DR) (.ok [] [] (s.putQ o.dst (.lit undef))) (dactA P G cf γ o s (opc P G o)) b) g
theorem L1 (P : Program) (G : Gb) (r : Option (Option Nat)) (cf : aI) (ops : Array Oper) (γ : Nat) (o : Oper) (s : RS) : dstepA P G cf ops γ o s (guardA ops s.tm o) = dstepQ P (G.at r) cf ops γ o s := by
 unfold dstepA dstepQ dstepQ1
 rw [TO, Lz]
 cases guardQ ops s.tm o with
 | none => rfl
 | some b =>
  cases b with
  | false => rfl
  | true => exact L0 P G cf γ o s
def drawA1 (ops : Array Oper) (i : Nat) (tr ws : Tr) (next : Tr → Tr → RS → ER) (o : Oper) (r : DR) : ER :=
 DR.rec (motive := fun _ => ER) (fun rd wr s' => List.rec (motive := fun _ => ER)
   (List.rec (motive := fun _ => ER) (next ((i, rd, []) :: tr) ws s') (fun _ _ _ => Bool.rec (motive := fun _ => ER) (.no (.order o)) (next ((i, rd, []) :: tr) ws s') (hitQ (masks ops) i rd [] ws)) ws)
   (fun _ _ _ => Bool.rec (motive := fun _ => ER) (.no (.order o)) (next ((i, rd, wr) :: tr) ((i, rd, wr) :: ws) s') (hitQ (masks ops) i rd wr tr)) wr) (fun w => .no w) r
def drawA (P : Program) (G : Gb) (cf : aI) (ops : Array Oper) (aa : Nat) (l : List Oper) : Nat → Tr → Tr → RS → ER :=
 List.rec (motive := fun _ => Nat → Tr → Tr → RS → ER) (fun _ _ _ s => .mk .normal s) (fun o _ ih i tr ws s => drawA1 ops i tr ws (ih (Nat.succ i)) o (dstepA P G cf ops (Nat.add aa i) o s (guardA ops s.tm o))) l
def someT (tr : Tr) : Tr := tr.filter fun p => !(p.2.1.isEmpty && p.2.2.isEmpty)
def wrT (tr : Tr) : Tr := tr.filter fun p => !p.2.2.isEmpty
theorem L4 : ∀ l : List Nat, disj l [] = true
 | [] => rfl
 | x :: l => by simp [disj, L4 l]
theorem DH (ms : List Nat) (j : Nat) (rd wr : List Nat) : ∀ tr : Tr, hitQ ms j rd wr (someT tr) = hitQ ms j rd wr tr
 | [] => rfl
 | p :: tr => by
  have ih := DH ms j rd wr tr
  obtain ⟨i, r, w⟩ := p
  unfold someT at ih ⊢
  cases r <;> cases w <;> simp only [List.filter_cons, List.isEmpty_nil, List.isEmpty_cons, Bool.and_self, Bool.not_true, Bool.false_eq_true, if_false, Bool.and_false, Bool.false_and, Bool.not_false, if_true, hitQ, ih, Bool.and_true, Bool.true_and]
  simp [disj, L4]
theorem vB (ms : List Nat) (j : Nat) (rd : List Nat) : ∀ tr : Tr, hitQ ms j rd [] (wrT tr) = hitQ ms j rd [] tr
 | [] => rfl
 | p :: tr => by
  have ih := vB ms j rd tr
  obtain ⟨i, r, w⟩ := p
  unfold wrT at ih ⊢
  cases w <;> simp only [List.filter_cons, List.isEmpty_nil, List.isEmpty_cons, Bool.not_true, Bool.false_eq_true, if_false, Bool.not_false, if_true, hitQ, ih]
  simp [disj]
theorem Ak (P : Program) (G : Gb) (r : Option (Option Nat)) (cf : aI) (ops : Array Oper) (aa : Nat) : ∀ (l : List Oper) (i : Nat) (tr : Tr) (s : RS), drawA P G cf ops aa l i tr (wrT tr) s = drawQ P (G.at r) cf ops aa l i (someT tr) s
 | [], _, _, _ => rfl
 | o :: l, i, tr, s => by
  have ih := fun tr s => Ak P G r cf ops aa l (i + 1) tr s
  show drawA1 ops i tr (wrT tr) (drawA P G cf ops aa l (i + 1)) o (dstepA P G cf ops (aa + i) o s (guardA ops s.tm o)) = drawQ1 ops i (someT tr) (drawQ P (G.at r) cf ops aa l (i + 1)) o (dstepQ P (G.at r) cf ops (aa + i) o s)
  rw [L1 P G r]
  cases dstepQ P (G.at r) cf ops (aa + i) o s with
  | no w => rfl
  | ok rd wr s' =>
   cases wr with
   | nil =>
    have e1 : wrT ((i, rd, []) :: tr) = wrT tr := by simp [wrT]
    have Bn := ih ((i, rd, []) :: tr) s'
    rw [e1] at Bn
    have L5 : wrT tr = [] → hitQ (masks ops) i rd [] (someT tr) = true := by
     intro h
     rw [DH, ← vB, h]; rfl
    have key : drawA1 ops i tr (wrT tr) (drawA P G cf ops aa l (i + 1)) o (.ok rd [] s') = Bool.rec (motive := fun _ => ER) (.no (.order o)) (drawA P G cf ops aa l (i + 1) ((i, rd, []) :: tr) (wrT tr) s') (hitQ (masks ops) i rd [] (someT tr)) := by
     unfold drawA1
     simp only
     cases hw : wrT tr with
     | nil => rw [L5 hw]
     | cons a ws => rw [DH, ← vB _ _ _ tr, hw]
    rw [key, Bn]
    cases rd with
    | nil =>
     have e2 : someT ((i, [], []) :: tr) = someT tr := by simp [someT]
     rw [e2]
     have : hitQ (masks ops) i [] [] (someT tr) = true := by
      generalize someT tr = q
      induction q with
      | nil => rfl
      | cons p q ihq => simp [hitQ, L4, ihq, disj]
     rw [this]
     rfl
    | cons a rd =>
     have e2 : someT ((i, a :: rd, []) :: tr) = (i, a :: rd, []) :: someT tr := by simp [someT]
     rw [e2]
     rfl
   | cons b wr =>
    have e1 : wrT ((i, rd, b :: wr) :: tr) = (i, rd, b :: wr) :: wrT tr := by simp [wrT]
    have e2 : someT ((i, rd, b :: wr) :: tr) = (i, rd, b :: wr) :: someT tr := by simp [someT]
    have Bn := ih ((i, rd, b :: wr) :: tr) s'
    rw [e1, e2] at Bn
    have hs := DH (masks ops) i rd (b :: wr) tr
    have l1 : drawA1 ops i tr (wrT tr) (drawA P G cf ops aa l (i + 1)) o (.ok rd (b :: wr) s') = Bool.rec (motive := fun _ => ER) (.no (.order o)) (drawA P G cf ops aa l (i + 1) ((i, rd, b :: wr) :: tr) ((i, rd, b :: wr) :: wrT tr) s') (hitQ (masks ops) i rd (b :: wr) tr) := rfl
    have l2 : drawQ1 ops i (someT tr) (drawQ P (G.at r) cf ops aa l (i + 1)) o (.ok rd (b :: wr) s') = Bool.rec (motive := fun _ => ER) (.no (.order o)) (drawQ P (G.at r) cf ops aa l (i + 1) ((i, rd, b :: wr) :: someT tr) s') (hitQ (masks ops) i rd (b :: wr) (someT tr)) := by
     cases rd <;> rfl
    rw [l1, l2, Bn, hs]
inductive CC where
 | mk (f : Nat → RunR → aI → Option Nat → Nat → RS → ER)
def regA (P : Program) (G : Gb) (run : RunR) (cf : aI) (ro : Option Nat) (n : Nat) (code : Code) (ops : Array Oper) (s : RS) (draw : Bool) : ER :=
 Bool.rec (motive := fun _ => ER) (.no (.code code))
  (Bool.rec (motive := fun _ => ER) (seqA P G run cf ro ops s.nx ops.toList 0 (RS.mk s.tm s.H (Nat.add s.nx ops.size) s.df)) (drawA P G cf ops s.nx ops.toList 0 [] [] (RS.mk s.tm s.H (Nat.add s.nx ops.size) s.df)) draw) (regQ n ops draw)
def cc (P : Program) (G : Gb) (code : Code) : CC := match code with
 | .skip => .mk (fun _ _ _ _ _ s => .mk .normal s)
 | .label _ => .mk (fun _ _ _ _ _ s => .mk .normal s)
 | .exit id => .mk (fun _ _ _ _ _ s => .mk (.exit id) s)
 | .ret => .mk (fun _ _ _ _ _ s => .mk .ret s)
 | .seq a b => .mk (fun _ run _ ro n s => thenQ (run ro n a s) (fun s' => run ro n b s'))
 | .cond c a b => .mk (fun _ run _ ro n s => condQ (ρQ G s.tm c) code (run ro n a s) (run ro n b s))
 | .block id a => .mk (fun _ run _ ro n s => blockQ (run ro n a s) id)
 | .loop a => .mk (fun k run _ ro n s => loopQ (run ro n a) k s)
 | .scope a => .mk (fun _ run _ ro n s => scopeQ (run ro n a s) code)
 | .region _ ops draw => .mk (fun _ run cf ro n s => regA P G run cf ro n code ops s draw)
 | .rangeFunc g ps as bo => .mk (fun _ run cf ro n s => rangeCQ G run cf ro n code g ps as bo s)
 | .goto _ => .mk (fun _ _ _ _ _ _ => .no (.code code))
 | .refuse _ => .mk (fun _ _ _ _ _ _ => .no (.code code))
def bodyA (k : Nat) (run : RunR) (cf : aI) (ro : Option Nat) (n : Nat) (s : RS) (c : CC) : ER := CC.rec (motive := fun _ => ER) (fun f => f k run cf ro n s) c
end Go.V
end
