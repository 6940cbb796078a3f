/- Part of a proof. -/
import Derived.Test.YtclkbhbhohdgbaaGreatDoorE2ak
set_option linter.all false
section
namespace Go.V
open Go
def seqR (P : Program) (G : Gb) (run : RunR) (cf : aI) (ro : Option Nat) (ops : Array Oper) (aa : Nat) : Nat → List Oper → RS → ER
 | _, [], s => .mk .normal s
 | i, o :: l, s => match aT P G run cf ro ops (aa + i) o s with
  | .ok s' => seqR P G run cf ro ops aa (i + 1) l s'
  | .pan x s' => .mk (.panic x) s'
  | .no w => .no w
theorem Tn {P : Program} {G : Gb} {run : RunR} {cf : aI} (aN : RunOk P G run) (hcf : CallOk P G cf) {ro : Option Nat} {n : Nat} {ops : Array Oper} {aa : Nat} (hd : dstsOk n ops = true) {Q : Vx → St → Prop} : ∀ (l : List Oper) (i : Nat) (s s' : RS) (e : Vx), (∀ k, l[k]? = ops[i + k]?) →
  seqR P (G.at (some ro)) run cf ro ops aa i l s = .mk e s' → Q e s'.st → VSeq P (G.at (some ro)) n ops aa Q (List.range' i l.length) s.st
 | [], i, s, s', e, _, h, hq => by cases h; exact hq
 | o :: l, i, s, s', e, hl, h, hq => by
  have ho : ops[i]? = some o := by have := hl 0; simpa using this.symm
  unfold seqR at h
  show aP P (G.at (some ro)) n ops aa i s.st _ _
  refine Am aN hcf ho hd (fun s1 hs => ?_) (fun x s1 hs => ?_) (fun w hs => ?_)
  ·rw [hs] at h
   exact Tn aN hcf hd l (i + 1) s1 s' e (fun k => by have := hl (k + 1); simp at this; rw [this]; congr 1; omega) h hq
  ·rw [hs] at h
   cases h
   exact hq
  ·rw [hs] at h
   cases h
def pureR (cf : aI) (f : FuncId) (args : List VV) : PRes ⊕ Why :=
 match cf f args .nil 0 with
 | .ret x H' _ => match x with
  | .ref β 0 len es _ => match H'.get β with
   | some (.cells _ mU) => match aW (without H'.get β) fuelS mU with
    | some cs => .inl (.own cs len es)
    | none => .inr (.sealx f x)
   | _ => .inr (.sealx f x)
  | x => match sealV H'.get fuelS x with
   | some y => .inl (.tree y)
   | none => .inr (.sealx f x)
 | .pan x H' _ => match sealV H'.get fuelS x with
   | some y => .inl (.panic y)
   | none => .inr (.sealx f x)
 | .no w => .inr w
variable {P : Program} {G : Gb} {cf : aI} {f : FuncId} {args : List VV}
theorem Bv (hcf : CallOk P G cf) {r : PRes} (h : pureR cf f args = .inl r) : ah P G f args r := by
 unfold pureR at h
 split at h
 ·rename_i x H' nx' hc
  have ho := hcf.1 _ _ _ _ _ _ _ hc
  rw [C2] at ho
  split at h
  ·rename_i β len es cp
   split at h
   ·rename_i mU hβ
    split at h
    ·rename_i cs hcs
     cases h
     refine ah.of_open (ho.mono ?_ ?_)
     ·rintro y H1 n1 ⟨rfl, rfl, _⟩
      exact ⟨fuelS, β, _, mU, ⟨_, rfl⟩, hβ, hcs⟩
     ·rintro y H1 n1 h; exact h.elim
    ·cases h
   ·cases h
  ·split at h
   ·rename_i y hy
    cases h
    refine ah.of_open (ho.mono ?_ ?_)
    ·rintro z H1 n1 ⟨rfl, rfl, _⟩
     exact ⟨fuelS, hy⟩
    ·rintro z H1 n1 h; exact h.elim
   ·cases h
 ·rename_i x H' nx' hc
  have ho := hcf.2 _ _ _ _ _ _ _ hc
  rw [C2] at ho
  split at h
  ·rename_i y hy
   cases h
   refine ah.of_open (ho.mono ?_ ?_)
   ·rintro z H1 n1 h; exact h.elim
   ·rintro z H1 n1 ⟨rfl, rfl, _⟩
    exact ⟨y, fuelS, rfl, hy⟩
  ·cases h
 ·cases h
inductive DR where
 | ok (rd wr : List Nat) (s : RS)
 | no (w : Why)
def mtEnd : VV → Bool
 | .agg l => match l.getLast? with
  | some (.mt [] []) => true
  | _ => false
 | _ => false
def dframeAt (cf : aI) (o : Oper) (s : RS) (f : FuncId) (args : List VV) (rd : List Nat) : DR :=
 match okR (inR rd s.H.get) s.H.get rd with
 | true => match cf f args (pickR s.H rd .nil) s.nx with
  | .ret x0 H' _ => match sameR s.H H' rd with
   | true => match sealN H'.get s.nx fuelS x0 with
    | some x => match mtEnd x with
     | true => .no (.sealx f x0)
     | false => .ok rd [] (s.put o.dst x)
    | none => .no (.sealx f x0)
   | false => .no (.op o)
  | .pan _ _ _ => .no (.op o)
  | .no w => .no (.deep o w)
 | false => .no (.op o)
def dframeR (cf : aI) (o : Oper) (s : RS) (f : FuncId) (args : List VV) : DR :=
 dframeAt cf o s f args (reachR s.H 2000 (namesL args []) [])
variable {ops : Array Oper} {aa i : Nat} {o : Oper} {s s' : RS} {rd : List Nat}
theorem Eg (hcf : CallOk P G cf) {rd' wr : List Nat} (hw : aO ops s.st.tm o = some true) (hf : callee? P G s.st o.op = some (f, args))
  (h : dframeAt cf o s f args rd' = .ok rd wr s') : QStep P G ops aa i o s.st s'.st rd wr := by
 unfold dframeAt at h
 split at h
 ·rename_i hok
  split at h
  ·rename_i x0 H' nx' hc
   split at h
   ·rename_i hsame
    split at h
    ·rename_i x hx
     split at h
     ·cases h
     ·cases h
      rw [RS.put_st]
      have ho := hcf.1 _ _ _ _ _ _ _ hc
      rw [TQ] at ho
      exact .callFrame hw hf (ho.mono (fun y H1 n1 h => ⟨h.1, h.2.1⟩) (fun y H1 n1 h => h)) hok (UI hsame) hx
    ·cases h
   ·cases h
  ·cases h
  ·cases h
 ·cases h
def dseenR (cf : aI) (γ : Nat) (o : Oper) (s : RS) (f : FuncId) (args : List VV) : DR :=
 match aW s.H.get fuelS args with
 | none => dframeR cf o s f args
 | some args' => match pureR cf f args' with
  | .inl (.tree x) => match x.flat with
   | true => .ok (nmL s.H.get fuelS args) [] (s.put o.dst x)
   | false => dframeR cf o s f args
  | .inl (.own cs len es) => match flatL cs with
   | true => .ok (nmL s.H.get fuelS args) [γ] { s.put o.dst (.ref γ 0 len es len) with H := s.H.put γ (some (.cells none cs)) }
   | false => dframeR cf o s f args
  | .inl (.panic _) => .no (.op o)
  | .inr _ => dframeR cf o s f args
theorem ZC (hcf : CallOk P G cf) {wr : List Nat} (hw : aO ops s.st.tm o = some true) (hf : callee? P G s.st o.op = some (f, args))
  (h : dseenR cf (aa + i) o s f args = .ok rd wr s') : QStep P G ops aa i o s.st s'.st rd wr := by
 unfold dseenR at h
 split at h
 ·exact Eg hcf hw hf h
 ·rename_i args' hse
  split at h
  ·rename_i x hx
   split at h
   ·rename_i hfl
    cases h
    rw [RS.put_st]
    exact .callSeen hw hf hse (Bv hcf hx) hfl
   ·exact Eg hcf hw hf h
  ·rename_i cs len es hx
   split at h
   ·rename_i hfl
    cases h
    have e : ({ s.put o.dst (.ref (aa + i) 0 len es len) with H := s.H.put (aa + i) (some (.cells none cs)) } : RS).st = { s.st.put o.dst (.ref (aa + i) 0 len es len) with H := (Ve.new (.cells none cs)).app (aa + i) s.st.H } := by
     rw [← RS.put_st]
     show St.mk _ _ _ _ = St.mk _ _ _ _
     congr 1
     exact vD (aa + i) s.H (.new (.cells none cs))
    rw [e]
    exact .callSeenOwn hw hf hse (Bv hcf hx) hfl
   ·exact Eg hcf hw hf h
  ·cases h
  ·exact Eg hcf hw hf h
theorem NewC.of_open {cs : List VV} (ht : tl cs = true)
  (h : aX P G f args (fun _ => none) 0 (fun y H1 _ => ∃ β, y = .agg (cs ++ [.mp β]) ∧ H1 β = some (.map [])) (fun _ _ _ => False)) : NewC P G f args cs := by
 refine ⟨h.1, fun A W vs hA hG bD => (h.2 (PCtx A) W vs (zf hA) rfl (fun β hb => hb.elim) hG bD).mono ?_⟩
 rintro e W' ⟨c', H', nx', aM, hs', hH', hu, hu', hle, hres⟩
 have hbelow := zg aM
 rcases hres with ⟨x, v, rfl, hrv, β, rfl, hβ⟩ | ⟨x, v, rfl, hv, hF⟩
 ·subst hH'
  have hl : c'.live β := by simp [Ctx.live, hβ]
  obtain ⟨l, rfl, hrl⟩ := hrv
  obtain ⟨l', u, rfl, h1, h2⟩ := Sp hrl
  have iC := h2.2 hl
  subst iC
  obtain ⟨ents, clk, g1, g2, g3⟩ := hs'.obj β _ hβ
  refine ⟨c'.A, fun b hb => aM.A b hb, fun b hb => ?_, hs'.ltA, hbelow, l', c'.φ β, ents, clk, rfl, og ht h1, ?_, hs'.lt β hl, hs'.notA β hl, g1, ?_⟩
  ·rcases aM.newA b hb with h | h | ⟨β, h, _⟩
   ·exact .inl h
   ·exact .inr h
   ·simp [PCtx, Ctx.live] at h
  ·rcases Nat.lt_or_ge (c'.φ β) W.heap.size with h | h
   ·obtain ⟨γ, hγ, _⟩ := aM.old β hl h
    simp [PCtx, Ctx.live] at hγ
   ·exact h
  ·simpa using g2
 ·exact hF.elim
def cutMp : List VV → Option (List VV × Nat)
 | [] => none
 | [.mp β] => some ([], β)
 | x :: l => match cutMp l with
  | some (cs, β) => some (x :: cs, β)
  | none => none
theorem UJ : ∀ {l cs : List VV} {β : Nat}, cutMp l = some (cs, β) → l = cs ++ [.mp β]
 | [], _, _, h => by cases h
 | [x], cs, β, h => by
  cases x with
  | mp γ => cases h; rfl
  | _ => cases h
 | x :: y :: l, cs, β, h => by
  have key : ∀ {c2 : List VV} {γ : Nat}, cutMp (y :: l) = some (c2, γ) → x :: y :: l = (x :: c2) ++ [.mp γ] := fun h' => by rw [UJ h']; rfl
  have h' : (match cutMp (y :: l) with
   | some (cs, β) => some (x :: cs, β)
   | none => none) = some (cs, β) := by
   cases x <;> exact h
  split at h'
  ·rename_i c2 γ h2
   cases h'
   exact key h2
  ·cases h'
def dnewR (cf : aI) (γ : Nat) (o : Oper) (s : RS) (f : FuncId) (args : List VV) : DR := match cf f args .nil 0 with
 | .ret (.agg l) H' _ => match cutMp l with
  | some (cs, β) => match tl cs with
   | true => match H'.get β with
    | some (.map []) => .ok [] [γ] { s.put o.dst (.agg (cs ++ [.mp γ])) with H := s.H.put γ (some (.map [])) }
    | _ => .no (.op o)
   | false => .no (.op o)
  | none => .no (.op o)
 | _ => .no (.op o)
theorem PN (hcf : CallOk P G cf) {wr : List Nat} (hw : aO ops s.st.tm o = some true) (hf : callee? P G s.st o.op = some (f, args)) (ht : tl args = true)
  (h : dnewR cf (aa + i) o s f args = .ok rd wr s') : QStep P G ops aa i o s.st s'.st rd wr := by
 unfold dnewR at h
 split at h
 ·rename_i l H' nx' hc
  split at h
  ·rename_i cs β hl
   split at h
   ·rename_i htr
    split at h
    ·rename_i hβ
     cases h
     have ho := hcf.1 _ _ _ _ _ _ _ hc
     rw [C2] at ho
     have e : ({ s.put o.dst (.agg (cs ++ [.mp (aa + i)])) with H := s.H.put (aa + i) (some (.map [])) } : RS).st = { s.st.put o.dst (.agg (cs ++ [.mp (aa + i)])) with H := (Ve.new (.map [])).app (aa + i) s.st.H } := by
      rw [← RS.put_st]
      show St.mk _ _ _ _ = St.mk _ _ _ _
      congr 1
      exact vD (aa + i) s.H (.new (.map []))
     rw [e]
     refine .callNew hw hf ht (NewC.of_open htr (ho.mono ?_ ?_))
     ·rintro y H1 n1 ⟨rfl, rfl, _⟩
      exact ⟨β, by rw [UJ hl], hβ⟩
     ·rintro y H1 n1 h; exact h.elim
    ·cases h
   ·cases h
  ·cases h
 ·cases h
def dstepR (P : Program) (G : Gb) (cf : aI) (ops : Array Oper) (γ : Nat) (o : Oper) (s : RS) : DR :=
 match aO ops s.st.tm o with
 | none => .no (.op o)
 | some false => .ok [] [] (s.put o.dst (.lit undef))
 | some true => match callee? P G s.st o.op with
  | some (f, args) => match hasBody P f with
   | true => match tl args with
    | true => match pureR cf f args with
     | .inl (.tree x) => match mtEnd x with
      | true => dnewR cf γ o s f args
      | false => .ok [] [] (s.put o.dst x)
     | .inl (.own cs len es) => .ok [] [γ] { s.put o.dst (.ref γ 0 len es len) with H := s.H.put γ (some (.cells none cs)) }
     | .inl (.panic _) => .no (.op o)
     | .inr w => .no (.deep o w)
    | false => dseenR cf γ o s f args
   | false => match vop P o (s.st.ρ G) s.H.get γ with
    | some (x, eff) => .ok (rdV o (s.st.ρ G)) (eff.wr γ) { s.put o.dst x with H := effR γ s.H eff }
    | none => .no (.op o)
  | none => match vop P o (s.st.ρ G) s.H.get γ with
   | some (x, eff) => .ok (rdV o (s.st.ρ G)) (eff.wr γ) { s.put o.dst x with H := effR γ s.H eff }
   | none => .no (.op o)
theorem UK (hcf : CallOk P G cf) {wr : List Nat} (h : dstepR P G cf ops (aa + i) o s = .ok rd wr s') : QStep P G ops aa i o s.st s'.st rd wr := by
 have opc : aO ops s.st.tm o = some true → (match vop P o (s.st.ρ G) s.H.get (aa + i) with
    | some (x, eff) => DR.ok (rdV o (s.st.ρ G)) (eff.wr (aa + i)) { s.put o.dst x with H := effR (aa + i) s.H eff }
    | none => .no (.op o)) = .ok rd wr s' → QStep P G ops aa i o s.st s'.st rd wr := by
  intro hw h
  split at h
  ·rename_i x eff hv
   cases h
   have e : ({ s.put o.dst x with H := effR (aa + i) s.H eff } : RS).st = { s.st.put o.dst x with H := eff.app (aa + i) s.st.H } := by
    rw [← RS.put_st]
    show St.mk _ _ _ _ = St.mk _ _ _ _
    congr 1
    exact vD _ _ _
   rw [e]
   exact .op hw hv
  ·cases h
 unfold dstepR at h
 split at h
 ·cases h
 ·rename_i hw
  cases h
  rw [RS.put_st]
  exact .skip hw
 ·rename_i hw
  split at h
  ·rename_i f args hf
   split at h
   ·split at h
    ·rename_i ht
     split at h
     ·rename_i x hx
      split at h
      ·exact PN hcf hw hf ht h
      ·cases h
       rw [RS.put_st]
       exact .call hw hf ht (Bv hcf hx)
     ·rename_i cs len es hx
      cases h
      have e : ({ s.put o.dst (.ref (aa + i) 0 len es len) with H := s.H.put (aa + i) (some (.cells none cs)) } : RS).st = { s.st.put o.dst (.ref (aa + i) 0 len es len) with H := (Ve.new (.cells none cs)).app (aa + i) s.st.H } := by
       rw [← RS.put_st]
       show St.mk _ _ _ _ = St.mk _ _ _ _
       congr 1
       exact vD (aa + i) s.H (.new (.cells none cs))
      rw [e]
      exact .callOwn hw hf ht (Bv hcf hx)
     ·cases h
     ·cases h
    ·exact ZC hcf hw hf h
   ·exact opc hw h
  ·exact opc hw h
def disj : List Nat → List Nat → Bool
 | [], _ => true
 | x :: l, m => !(m.contains x) && disj l m
theorem vN : ∀ {l m : List Nat}, disj l m = true → ∀ x ∈ l, x ∉ m
 | [], _, _, x, hx => by cases hx
 | y :: l, m, h, x, hx => by
  simp only [disj, Bool.and_eq_true, Bool.not_eq_true', List.contains_eq_mem, decide_eq_false_iff_not] at h
  rcases List.mem_cons.1 hx with rfl | hx
  ·exact h.1
  ·exact vN h.2 x hx
def hitQ (ms : List Nat) (j : Nat) (rd wr : List Nat) : Tr → Bool
 | [] => true
 | p :: tr => ((disj p.2.2 rd && disj p.2.2 wr && disj wr p.2.1) || befQ ms p.1 j) && hitQ ms j rd wr tr
theorem UL {ops : Array Oper} {j : Nat} (hj : j < ops.size) {rd wr : List Nat} : ∀ {tr : Tr}, hitQ (masks ops) j rd wr tr = true → ∀ p ∈ tr, aK ops ops.size p.1 j = true ∨ Indep p (j, rd, wr)
 | [], _, p, hp => by cases hp
 | q :: tr, h, p, hp => by
  simp only [hitQ, Bool.and_eq_true, Bool.or_eq_true] at h
  rcases List.mem_cons.1 hp with rfl | hp
  ·rcases h.1 with h1 | h1
   ·right
    exact ⟨fun β hb => ⟨vN h1.1.1 β hb, vN h1.1.2 β hb⟩, fun β hb => vN h1.2 β hb⟩
   ·exact .inl (uY hj h1)
  ·exact UL hj h.2 p hp
def drawR (P : Program) (G : Gb) (cf : aI) (ops : Array Oper) (aa : Nat) : Nat → List Oper → Tr → RS → ER
 | _, [], _, s => .mk .normal s
 | i, o :: l, tr, s => match dstepR P G cf ops (aa + i) o s with
  | .ok [] [] s' => drawR P G cf ops aa (i + 1) l tr s'
  | .ok rd wr s' => match hitQ (masks ops) i rd wr tr with
   | true => drawR P G cf ops aa (i + 1) l ((i, rd, wr) :: tr) s'
   | false => .no (.order o)
  | .no w => .no w
theorem JM {P : Program} {G : Gb} {cf : aI} (hcf : CallOk P G cf) {ops : Array Oper} {aa : Nat} : ∀ (l : List Oper) (i : Nat) (tr ft : Tr) (s s' : RS) (e : Vx), (∀ k o, l[k]? = some o → ops[i + k]? = some o) → (∀ p ∈ ft, p ∈ tr ∨ (p.2.1 = [] ∧ p.2.2 = [])) → traceK ops ft →
  drawR P G cf ops aa i l tr s = .mk e s' → e = .normal ∧ ∃ tr', QSteps P G ops aa (List.range' i l.length) s.st s'.st tr' ∧ traceK ops (ft ++ tr')
 | [], i, tr, ft, s, s', e, _, _, hft, h => by
  cases h
  exact ⟨rfl, [], .nil, by simpa using hft⟩
 | o :: l, i, tr, ft, s, s', e, hl, bh, hft, h => by
  have ho : ops[i]? = some o := by have := hl 0 o (by simp); simpa using this
  have hi := (Array.getElem?_eq_some_iff.1 ho).1
  have hl' : ∀ k o, l[k]? = some o → ops[i + 1 + k]? = some o := fun k o' hk => by have := hl (k + 1) o' (by simpa using hk); rw [show i + 1 + k = i + (k + 1) by omega]; exact this
  have app : ∀ rd wr, (∀ p ∈ ft, aK ops ops.size p.1 i = true ∨ Indep p (i, rd, wr)) → traceK ops (ft ++ [(i, rd, wr)]) := fun rd wr hh => PO hft hh
  unfold drawR at h
  split at h
  ·rename_i s1 hs
   obtain ⟨he, tr', hq, ht⟩ := JM hcf l (i + 1) tr (ft ++ [(i, [], [])]) s1 s' e hl' (fun p hp => by
    rcases List.mem_append.1 hp with hp | hp
    ·exact bh p hp
    ·rw [List.mem_singleton.1 hp]; exact .inr ⟨rfl, rfl⟩) (app [] [] fun p _ => .inr ⟨fun β _ => ⟨by simp, by simp⟩, fun β hb => by cases hb⟩) h
   exact ⟨he, (i, [], []) :: tr', .cons ho (UK hcf hs) hq, by simpa using ht⟩
  ·rename_i rd wr s1 hne hs
   split at h
   ·rename_i hh
    obtain ⟨he, tr', hq, ht⟩ := JM hcf l (i + 1) ((i, rd, wr) :: tr) (ft ++ [(i, rd, wr)]) s1 s' e hl' (fun p hp => by
     rcases List.mem_append.1 hp with hp | hp
     ·exact (bh p hp).imp (qZa _) id
     ·rw [List.mem_singleton.1 hp]; exact .inl qZb) (app rd wr fun p hp => by
     rcases bh p hp with hp | ⟨e1, e2⟩
     ·exact UL hi hh p hp
     ·exact .inr ⟨fun β hb => (by rw [e2] at hb; cases hb), fun β _ => (by rw [e1]; simp)⟩) h
    exact ⟨he, (i, rd, wr) :: tr', .cons ho (UK hcf hs) hq, by simpa using ht⟩
   ·cases h
  ·cases h
def loopR (f : RS → ER) : Nat → RS → ER
 | 0, _ => .no .fuel
 | m + 1, s => match f s with
  | .mk .normal s' => loopR f m s'
  | .mk e s' => .mk e s'
  | .no w => .no w
theorem Tm {P : Program} {G : Gb} {n : Nat} {x : Code} {Q : Vx → St → Prop} {f : RS → ER} (hf : ∀ s e s', f s = .mk e s' → ∀ Q : Vx → St → Prop, Q e s'.st → VWp P G n x Q s.st) :
  ∀ (m : Nat) (s s' : RS) (e : Vx), loopR f m s = .mk e s' → Q e s'.st → e ≠ .normal → VRounds P G n x Q m s.st
 | 0, _, _, _, h, _, _ => by cases h
 | m + 1, s, s', e, h, hq, he => by
  unfold loopR at h
  show VWp P G n x _ s.st
  split at h
  ·rename_i s1 hs
   exact hf s .normal s1 hs _ (Tm hf m s1 s' e h hq he)
  ·rename_i e1 s1 hno hs
   cases h
   apply hf s e s' hs
   cases e with
   | normal => exact absurd rfl he
   | exit id => exact hq
   | goto l => exact hq
   | ret => exact hq
   | panic x => exact hq
  ·cases h
theorem Ao {f : RS → ER} : ∀ (m : Nat) (s s' : RS) (e : Vx), loopR f m s = .mk e s' → e ≠ .normal
 | 0, _, _, _, h => by cases h
 | m + 1, s, s', e, h => by
  unfold loopR at h
  split at h
  ·exact Ao m _ s' e h
  ·rename_i e1 s1 hno hs
   cases h
   intro he
   exact hno he
  ·cases h
def opsR (P : Program) (G : Gb) (ops : Array Oper) (aa : Nat) : Nat → List Oper → RS → SR
 | _, [], s => .ok s
 | i, o :: l, s => match aO ops s.st.tm o with
  | none => .no (.op o)
  | some false => opsR P G ops aa (i + 1) l (s.put o.dst (.lit undef))
  | some true => match opR P G (aa + i) o s with
   | .ok s' => opsR P G ops aa (i + 1) l s'
   | r => r
theorem PQ {P : Program} {G : Gb} {ops : Array Oper} {aa : Nat} {K : St → Prop} : ∀ (l : List Oper) (i : Nat) (s s' : RS), (∀ k, l[k]? = ops[i + k]?) → opsR P G ops aa i l s = .ok s' → K s'.st → VOps P G ops aa K (List.range' i l.length) s.st
 | [], i, s, s', _, h, hk => by cases h; exact hk
 | o :: l, i, s, s', hl, h, hk => by
  have ho : ops[i]? = some o := by have := hl 0; simpa using this.symm
  have hl' : ∀ k, l[k]? = ops[i + 1 + k]? := fun k => by have := hl (k + 1); simp at this; rw [this]; congr 1; omega
  unfold opsR at h
  refine ⟨o, ho, ?_⟩
  split at h
  ·cases h
  ·rename_i hw
   have := PQ l (i + 1) _ s' hl' h hk
   rw [RS.put_st] at this
   exact .inl ⟨hw, this⟩
  ·rename_i hw
   split at h
   ·rename_i s1 hs
    have := PQ l (i + 1) _ s' hl' h hk
    unfold opR at hs
    split at hs
    ·rename_i x eff hv
     cases hs
     refine .inr ⟨hw, x, eff, hv, ?_⟩
     have e : ({ s.put o.dst x with H := effR (aa + i) s.H eff } : RS).st = { s.st.put o.dst x with H := eff.app (aa + i) s.st.H } := by
      rw [← RS.put_st]
      show St.mk _ _ _ _ = St.mk _ _ _ _
      congr 1
      exact vD _ _ _
     rwa [e] at this
    ·cases hs
   ·rename_i r hno
    exact absurd h (hno s')
def regQ (n : Nat) (ops : Array Oper) : Bool → Bool
 | false => dstsQ n ops.toList
 | true => backQ 0 ops.toList && dstsQ n ops.toList && apartQ ops
def runD (P : Program) (G : Gb) (run : RunR) (n : Nat) (code : Code) (s : RS) (u : VMode) : ER × VMode :=
 match code with
 | .seq (.region id ops false) rest => match ops.toList with
  | o :: l => match o.op, o.guard with
   | .call ⟨.builtin .recover, _, _⟩, none => match regQ n ops false with
    | true => match opsR P G ops s.nx 1 l { s.put o.dst (recoverV u).1 with nx := s.nx + ops.size } with
     | .ok s' => (run none n rest s', (recoverV u).2)
     | .pan _ _ => (.no (.op o), u)
     | .no w => (.no w, u)
    | false => (.no (.op o), u)
   | _, _ => (run none n (.seq (.region id ops false) rest) s, u)
  | [] => (run none n (.seq (.region id ops false) rest) s, u)
 | code => (run none n code s, u)
variable {code : Code} {u' : VMode}
theorem PR {run : RunR} (aN : RunOk P G run) {n : Nat} {u : VMode} {e : Vx} (h : runD P (G.at (some none)) run n code s u = (.mk e s', u')) {Q : Vx → VMode → St → Prop} (hq : Q e u' s'.st) : VWpS P (G.at (some none)) n code Q u s.st := by
 have plain : ∀ {code : Code}, (run none n code s, u) = (.mk e s', u') → VWpS P (G.at (some none)) n code Q u s.st := by
  intro code h
  injection h with h1 h2
  subst h2
  exact VWpS.of rfl (aN none n code s e s' h1 (fun e s => Q e u s) hq)
 unfold runD at h
 split at h
 ·rename_i id ops rest
  split at h
  ·rename_i o l wc
   split at h
   ·rename_i as ats hop hg
    split at h
    ·rename_i hreg
     have ho : ops[0]? = some o := by
      have : ops.toList[0]? = some o := by rw [wc]; rfl
      simpa using this
     have hsz : ops.size - 1 = l.length := by
      have : ops.toList.length = l.length + 1 := by rw [wc]; rfl
      rw [Array.length_toList] at this
      omega
     split at h
     ·rename_i s1 hs
      injection h with h1 h2
      subst h2
      refine VWpS.seq (VWpS.recover (Aq hreg) ho hg hop ?_)
      rw [hsz]
      have e1 : ({ s.put o.dst (recoverV u).1 with nx := s.nx + ops.size } : RS).st = { s.st.put o.dst (recoverV u).1 with nx := s.st.nx + ops.size } := by rw [← RS.put_st]; rfl
      have := PQ (P := P) (G := G.at (some none)) (ops := ops) (aa := s.nx) (K := fun st => Vx.thenS (VWpS P (G.at (some none)) n rest Q) Q .normal (recoverV u).2 st) l 1 _ s1 (fun k => by
       have : ops.toList[k + 1]? = l[k]? := by rw [wc]; rfl
       rw [← this, Array.getElem?_toList, Nat.add_comm]) hs ?_
      ·rw [e1] at this
       exact this
      ·show VWpS P (G.at (some none)) n rest Q (recoverV u).2 s1.st
       exact VWpS.of rfl (aN none n rest s1 e s' h1 (fun e s => Q e (recoverV u).2 s) hq)
     ·injection h with h1 h2; cases h1
     ·injection h with h1 h2; cases h1
    ·injection h with h1 h2; cases h1
   ·exact plain h
  ·exact plain h
 ·exact plain h
inductive LR where
 | ok (u : VMode) (H : Trie Vo) (nx : Nat)
 | no (w : Why)
def nameQ (fn : Func) : Bool := !(fn.name == "runtime.NumGoroutine")
def deferR (P : Program) (G : Gb) (run : RunR) (f : FuncId) (args : List VV) (H : Trie Vo) (nx : Nat) (u : VMode) : LR :=
 match P.funcs[f]? with
 | none => .no (.fn f)
 | some fn => match fn.body with
  | none => .no (.fn f)
  | some code => match nameQ fn && Nat.ble args.length fn.ntmps with
   | true => match runD P G run fn.ntmps code (RS.mk (Trie.ofList 0 args .nil) H nx []) u with
    | (.mk e s, u') => match e, s.df, resV P s.st fn.results.toList with
     | .ret, [], some _ => .ok u' s.H s.nx
     | .normal, [], some _ => .ok u' s.H s.nx
     | _, _, _ => .no (.fn f)
    | (.no w, _) => .no w
   | false => .no (.fn f)
theorem UM {fn : Func} (hf : P.funcs[f]? = some fn) (hb : fn.body = some code) (hn : nameQ fn = true) : Callable P f := by
 intro args W
 have hn' : ¬ fn.name = "runtime.NumGoroutine" := by simpa [nameQ] using hn
 simp [callFunc, Sem.run_bind, hf, hb, hn']
variable {H : Trie Vo}
theorem ZD {run : RunR} (aN : RunOk P G run) {H' : Trie Vo} {nx nx' : Nat} {u : VMode} (h : deferR P (G.at (some none)) run f args H nx u = .ok u' H' nx') {R : VMode → (Nat → Option Vo) → Nat → Prop}
  (hR : R u' H'.get nx') : VDeferred P G f args H.get nx u R := by
 unfold deferR at h
 split at h
 ·cases h
 ·rename_i fn hf
  split at h
  ·cases h
  ·rename_i code hb
   split at h
   ·rename_i hc
    simp only [Bool.and_eq_true, Nat.ble_eq] at hc
    split at h
    ·rename_i e s u1 hr
     have body : u1 = u' → s.H = H' → s.nx = nx' → DPost P fn R e u1 s.st → VDeferred P G f args H.get nx u R := by
      intro e1 e2 e3 hp
      have := PR aN hr (Q := DPost P fn R) hp
      rw [argsR] at this
      exact VDeferred.of_body (UM hf hb hc.1) hf hb hc.2 this
     split at h
     ·rename_i x hdf hx
      cases h
      exact body rfl rfl rfl ⟨hdf, ⟨x, hx⟩, hR⟩
     ·rename_i x hdf hx
      cases h
      exact body rfl rfl rfl ⟨hdf, ⟨x, hx⟩, hR⟩
     ·cases h
    ·cases h
   ·cases h
def leaveR (P : Program) (G : Gb) (run : RunR) (fn : Func) (f : FuncId) (s : RS) : List VDef → VMode → Trie Vo → Nat → CR
 | [], .ret, H, nx => match resV P { s.st with H := H.get, nx := nx, df := [] } fn.results.toList with
  | some x => .ret x H nx
  | none => .no (.fn f)
 | [], .pan x false, H, nx => .pan x H nx
 | [], .pan _ true, _, _ => .no (.fn f)
 | .coll β :: ds, u, H, nx => match H.get β with
  | some (.deferred (some [])) => leaveR P G run fn f s ds u (H.put β (some (.deferred none))) nx
  | _ => .no (.fn f)
 | .fn (.func g) cap args :: ds, u, H, nx => match deferR P G run g (args ++ cap) H nx u with
  | .ok u' H' nx' => leaveR P G run fn f s ds (settleV u') H' nx'
  | .no w => .no w
 | .fn _ _ _ :: _, _, _, _ => .no (.fn f)
theorem C3 {P : Program} {G : Gb} {run : RunR} (aN : RunOk P G run) {fn : Func} {f : FuncId} {s : RS} {R Rp : VV → (Nat → Option Vo) → Nat → Prop} : ∀ (df : List VDef) (u : VMode) (H : Trie Vo) (nx : Nat),
  (∀ x H' nx', leaveR P (G.at (some none)) run fn f s df u H nx = .ret x H' nx' → R x H'.get nx') → (∀ x H' nx', leaveR P (G.at (some none)) run fn f s df u H nx = .pan x H' nx' → Rp x H'.get nx') → (∀ w, leaveR P (G.at (some none)) run fn f s df u H nx ≠ .no w) →
  leavesK P G (finK P fn s.st R Rp) df u H.get nx
 | [], .ret, H, nx, h1, h2, h3 => by
  show ∃ x, _
  unfold leaveR at h1 h3
  cases hx : resV P { s.st with H := H.get, nx := nx, df := [] } fn.results.toList with
  | none => exact absurd (by rw [hx]) (h3 (.fn f))
  | some x => exact ⟨x, rfl, h1 x H nx (by rw [hx])⟩
 | [], .pan x false, H, nx, h1, h2, h3 => h2 x H nx rfl
 | [], .pan x true, H, nx, h1, h2, h3 => absurd rfl (h3 (.fn f))
 | .coll β :: ds, u, H, nx, h1, h2, h3 => by
  unfold leaveR at h1 h2 h3
  cases hb : H.get β with
  | none => exact absurd (by rw [hb]) (h3 (.fn f))
  | some ob =>
   cases ob with
   | deferred c =>
    cases c with
    | none => exact absurd (by rw [hb]) (h3 (.fn f))
    | some l =>
     cases l with
     | cons a l => exact absurd (by rw [hb]) (h3 (.fn f))
     | nil =>
      rw [hb] at h1 h2 h3
      refine ⟨hb, ?_⟩
      have := C3 (R := R) (Rp := Rp) aN ds u (H.put β (some (.deferred none))) nx h1 h2 h3
      rw [s9] at this
      exact this
   | cells _ => exact absurd (by rw [hb]) (h3 (.fn f))
   | map _ => exact absurd (by rw [hb]) (h3 (.fn f))
   | stri _ _ => exact absurd (by rw [hb]) (h3 (.fn f))
   | loop _ _ _ _ _ _ _ => exact absurd (by rw [hb]) (h3 (.fn f))
   | loopF _ _ _ _ _ _ _ => exact absurd (by rw [hb]) (h3 (.fn f))
 | .fn (.func g) cap args :: ds, u, H, nx, h1, h2, h3 => by
  unfold leaveR at h1 h2 h3
  cases hd : deferR P (G.at (some none)) run g (args ++ cap) H nx u with
  | no w => exact absurd (by rw [hd]) (h3 w)
  | ok u' H' nx' =>
   rw [hd] at h1 h2 h3
   exact ZD aN hd (C3 aN ds (settleV u') H' nx' h1 h2 h3)
 | .fn (.method _) _ _ :: _, _, _, _, _, _, h3 => absurd rfl (h3 (.fn f))
 | .fn (.methodOf _ _) _ _ :: _, _, _, _, _, _, h3 => absurd rfl (h3 (.fn f))
 | .fn (.via _ _ _ _) _ _ :: _, _, _, _, _, _, h3 => absurd rfl (h3 (.fn f))
 | .fn (.yield _) _ _ :: _, _, _, _, _, _, h3 => absurd rfl (h3 (.fn f))
def callR (P : Program) (G : Gb) (run : RunR) : aI := fun f args H nx =>
 match P.funcs[f]? with
 | none => .no (.fn f)
 | some fn => match fn.body with
  | none => .no (.fn f)
  | some code => match nameQ fn && Nat.ble args.length fn.ntmps with
   | true => match run none fn.ntmps code (RS.mk (Trie.ofList 0 args .nil) H nx []) with
    | .mk .ret s => leaveR P G run fn f s s.df .ret s.H s.nx
    | .mk .normal s => leaveR P G run fn f s s.df .ret s.H s.nx
    | .mk (.panic x) s => leaveR P G run fn f s s.df (.pan x false) s.H s.nx
    | .mk _ _ => .no (.fn f)
    | .no w => .no w
   | false => .no (.fn f)
theorem UN {run : RunR} (aN : RunOk P G run) {nx : Nat} {R Rp : VV → (Nat → Option Vo) → Nat → Prop}
  (h1 : ∀ x H' nx', callR P (G.at (some none)) run f args H nx = .ret x H' nx' → R x H'.get nx') (h2 : ∀ x H' nx', callR P (G.at (some none)) run f args H nx = .pan x H' nx' → Rp x H'.get nx') (h3 : ∀ w, callR P (G.at (some none)) run f args H nx ≠ .no w) : aX P G f args H.get nx R Rp := by
 unfold callR at h1 h2 h3
 cases hf : P.funcs[f]? with
 | none => exact absurd (by simp only [hf]) (h3 (.fn f))
 | some fn =>
  cases hb : fn.body with
  | none => exact absurd (by simp only [hf, hb]) (h3 (.fn f))
  | some code =>
   cases hc : nameQ fn && Nat.ble args.length fn.ntmps with
   | false => exact absurd (by simp only [hf, hb, hc]) (h3 (.fn f))
   | true =>
    simp only [hf, hb, hc] at h1 h2 h3
    simp only [Bool.and_eq_true, Nat.ble_eq] at hc
    cases hr : run none fn.ntmps code (RS.mk (Trie.ofList 0 args .nil) H nx []) with
    | no w => exact absurd (by rw [hr]) (h3 w)
    | mk e s =>
     rw [hr] at h1 h2 h3
     have body : OpenPostD P G fn R Rp e s.st → aX P G f args H.get nx R Rp := by
      intro hq
      have := aN none fn.ntmps code _ e s hr _ hq
      rw [argsR] at this
      exact aX.of_bodyD (UM hf hb hc.1) hf hb hc.2 this
     cases e with
     | ret => exact body (C3 aN s.df .ret s.H s.nx h1 h2 h3)
     | normal => exact body (C3 aN s.df .ret s.H s.nx h1 h2 h3)
     | panic x => exact body (C3 aN s.df (.pan x false) s.H s.nx h1 h2 h3)
     | exit id => exact absurd rfl (h3 (.fn f))
     | goto l => exact absurd rfl (h3 (.fn f))
theorem Um {run : RunR} (aN : RunOk P G run) : CallOk P G (callR P (G.at (some none)) run) :=
 ⟨fun f args H nx x H' nx' h => UN aN (fun y H1 n1 e => by rw [h] at e; cases e; exact ⟨rfl, rfl, rfl⟩) (fun y H1 n1 e => by rw [h] at e; cases e) (fun w e => by rw [h] at e; cases e),
  fun f args H nx x H' nx' h => UN aN (fun y H1 n1 e => by rw [h] at e; cases e) (fun y H1 n1 e => by rw [h] at e; cases e; exact ⟨rfl, rfl, rfl⟩) (fun w e => by rw [h] at e; cases e)⟩
end Go.V
end
