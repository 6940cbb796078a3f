/- Part of a proof. -/
import Derived.Test.YtclkbhbhohdgbaaGreatDoorE3ah
import Derived.Test.YtclkbhbhohdgbaaGreatDoorE3ai
import Derived.Scope
set_option linter.all false
section
namespace Go.V
open Go
variable {c : Code}
section scope
variable {P : Program} {b : Frame} {a : Act} {k : List Item} {cs : List Frame} {w : World} {Q : Exit → Act → World → Prop} {F : Fence} {n : Nat}
theorem xZ : step P (lone (b.atR a (.code (.scope c) :: k)) cs w) = .next (lone (b.atR a (.code c :: .inScope c :: k)) cs w) :=
 step_lone_go (by simp [stepG, stepG.exec, Frame.atR])
theorem zud : step P (lone (b.atR a (.inScope c :: k)) cs w) = .next (lone (b.atR a k) cs w) :=
 step_lone_go (by simp [stepG, stepG.exec, Frame.atR])
theorem Ou (h : c.wpIn F n P (Exit.noGoto Q) a w) : (Code.scope c).wpIn F n P Q a w := by
 intro b k cs hro hb hr
 have h0 : (lone (b.atR a (.code (.scope c) :: k)) cs w).fenced P F := fenced_calm hb hr rfl
 obtain ⟨e, a₁, w₁, hq, harr⟩ := h b (.inScope c :: k) cs hro hb hr
 cases e with
 | normal => exact ⟨.normal, a₁, w₁, hq, .head h0 xZ (StepsIn.trans harr (.one (fenced_calm hb hr rfl) zud))⟩
 | exit id' =>
  have hx : exitTo id' (.inScope c :: k) = exitTo id' k := by simp [exitTo]
  exact ⟨.exit id', a₁, w₁, hq, fun k' hk => .head h0 xZ (harr.1 k' (by rw [hx]; exact hk)),
   fun hr' hk => let ⟨k₁, h1, h2⟩ := harr.2 hr' (by rw [hx]; exact hk); ⟨k₁, h1, .head h0 xZ h2⟩⟩
 | goto l => exact hq.elim
 | ret => exact ⟨_, a₁, w₁, hq, .of_steps (.one h0 xZ) harr⟩
 | panic ch => exact ⟨_, a₁, w₁, hq, .of_steps (.one h0 xZ) harr⟩
 | outgrown => exact ⟨_, a₁, w₁, hq, .of_steps (.one h0 xZ) harr⟩
end scope
def Vx.noGoto (Q : Vx → St → Prop) : Vx → St → Prop
 | .goto _, _ => False
 | e, st => Q e st
variable {P : Program} {G : Gb} {n : Nat}
theorem VWp.scope {Q : Vx → St → Prop} {st : St} {x : Code} (h : VWp P G n x (Vx.noGoto Q) st) : VWp P G n (.scope x) Q st := by
 intro ro c W a hro s hr hs
 refine Ou (wpIn_mono (h ro c W a hro s hr hs) ?_)
 rintro e a' W' ⟨ve, c', st', h1, h2, h3, h4, h5, h6, h7, h8⟩
 cases ve with
 | goto l => exact h8.elim
 | normal => have e1 : e = .normal := h1; subst e1; exact ⟨.normal, c', st', rfl, h2, h3, h4, h5, h6, h7, h8⟩
 | exit id => have e1 : e = .exit id := h1; subst e1; exact ⟨.exit id, c', st', rfl, h2, h3, h4, h5, h6, h7, h8⟩
 | ret => have e1 : e = .ret := h1; subst e1; exact ⟨.ret, c', st', rfl, h2, h3, h4, h5, h6, h7, h8⟩
 | panic x =>
  obtain ⟨v, e1, hv⟩ := h1
  subst e1
  exact ⟨.panic x, c', st', ⟨v, rfl, hv⟩, h2, h3, h4, h5, h6, h7, h8⟩
inductive Why where
 | fuel
 | op (o : Oper)
 | code (c : Code)
 | fn (f : FuncId)
 | sealx (f : FuncId) (x : VV)
 | order (o : Oper)
 | text (n : Nat)
 | deep (o : Oper) (w : Why)
inductive CR where
 | ret (x : VV) (H : Trie Vo) (nx : Nat)
 | pan (x : VV) (H : Trie Vo) (nx : Nat)
 | no (w : Why)
inductive SR where
 | ok (s : RS)
 | pan (x : VV) (s : RS)
 | no (w : Why)
inductive ER where
 | mk (e : Vx) (s : RS)
 | no (w : Why)
abbrev aB := FuncId → List VV → Trie Vo → Nat → CR
abbrev RunR := Option Nat → Nat → Code → RS → ER
def CallOk (P : Program) (G : Gb) (cf : aB) : Prop :=
 (∀ f args H nx x H' nx', cf f args H nx = .ret x H' nx' → aU P G f args H.get nx (fun y H1 n1 => y = x ∧ H1 = H'.get ∧ n1 = nx') (fun _ _ _ => False)) ∧
 (∀ f args H nx x H' nx', cf f args H nx = .pan x H' nx' → aU P G f args H.get nx (fun _ _ _ => False) (fun y H1 n1 => y = x ∧ H1 = H'.get ∧ n1 = nx'))
def RunOk (P : Program) (G : Gb) (run : RunR) : Prop := ∀ ro n code s e s', run ro n code s = .mk e s' → ∀ Q : Vx → St → Prop, Q e s'.st → VWp P (G.at (some ro)) n code Q s.st
def opR (P : Program) (G : Gb) (γ : Nat) (o : Oper) (s : RS) : SR :=
 match vop P o (s.st.ρ G) s.H.get γ with
 | some (x, eff) => .ok { s.put o.dst x with H := effR γ s.H eff }
 | none => .no (.op o)
def jumpOf : Vx → Option (Option Code)
 | .normal => some none
 | .ret => some (some .ret)
 | .exit id => some (some (.exit id))
 | .goto l => some (some (.goto l))
 | .panic _ => none
def yieldL (run : RunR) (o : Oper) (β : Nat) (args : List VV) (s : RS) : SR :=
 match s.H.get β with
 | some (.loop .ready _ tm ps as bo _) =>
  if Nat.beq args.length ps.size then
   match run (some β) tm.length as (RS.mk (Trie.ofList 0 (roundTm tm ps.toList args) .nil) s.H s.nx []) with
   | .mk .normal s1 =>
    match s1.H.get β with
    | some (.loop .ready pe j3 j4 j5 j6 nt) =>
     match run (some β) tm.length bo { s1 with H := s1.H.put β (some (.loop .busy pe j3 j4 j5 j6 nt)) } with
     | .mk e s2 =>
      match jumpOf e with
      | some jump => match s2.H.get β with
       | some (.loop _ _ pn po pq pr rC) => .ok { s.put o.dst (.lit (.bool jump.isNone)) with H := s2.H.put β (some (.loop (if jump.isNone then .ready else .done) jump pn po pq pr rC)), nx := s2.nx }
       | _ => .no (.op o)
      | none => .no (.op o)
     | .no w => .no (.deep o w)
    | _ => .no (.op o)
   | .mk _ _ => .no (.op o)
   | .no w => .no (.deep o w)
  else .no (.op o)
 | _ => .no (.op o)
def yieldFR (P : Program) (run : RunR) (o : Oper) (β : Nat) (args : List VV) (s : RS) : SR :=
 match s.H.get β with
 | some (.loopF .ready _ tm ps as bo f) =>
  if Nat.beq args.length ps.size && P.funcs[f]?.isSome then
   match run (some β) tm.length as (RS.mk (Trie.ofList 0 (roundTm tm ps.toList args) .nil) s.H s.nx []) with
   | .mk .normal s1 =>
    match s1.H.get β with
    | some (.loopF .ready pe j3 j4 j5 j6 tU) =>
     match run (some β) tm.length bo { s1 with H := s1.H.put β (some (.loopF .busy pe j3 j4 j5 j6 tU)) } with
     | .mk e s2 =>
      match jumpOf e with
      | some jump => match s2.H.get β with
       | some (.loopF _ _ pn po pq pr fn2) => .ok { s.put o.dst (.lit (.bool jump.isNone)) with H := s2.H.put β (some (.loopF (if jump.isNone then .ready else .done) jump pn po pq pr fn2)), nx := s2.nx }
       | _ => .no (.op o)
      | none => match e with
       | .panic x => match s2.df with
        | [] => .pan x { s with H := s2.H, nx := s2.nx }
        | _ => .no (.op o)
       | _ => .no (.op o)
     | .no w => .no (.deep o w)
    | _ => .no (.op o)
   | .mk _ _ => .no (.op o)
   | .no w => .no (.deep o w)
  else .no (.op o)
 | _ => .no (.op o)
def yieldR (P : Program) (run : RunR) (o : Oper) (β : Nat) (args : List VV) (s : RS) : SR :=
 match s.H.get β with
 | some (.loopF _ _ _ _ _ _ _) => yieldFR P run o β args s
 | _ => yieldL run o β args s
def hasBody (P : Program) (f : FuncId) : Bool := match P.funcs[f]? with
 | some fn => fn.body.isSome
 | none => false
def aQ (P : Program) (G : Gb) (run : RunR) (cf : aB) (ro : Option Nat) (ops : Array Oper) (γ : Nat) (o : Oper) (s : RS) : SR :=
 match aJ ops s.st.tm o with
 | none => .no (.op o)
 | some false => .ok (s.put o.dst (.lit undef))
 | some true => match o.op with
  | .call k => match k.callee with
   | .value fo => match s.st.ρ G fo with
    | .fn (.func f) first captured =>
     match hasBody P f with
     | true => match cf f (first ++ k.args.toList.map (s.st.ρ G) ++ captured) s.H s.nx with
      | .ret x H' nx' => .ok { s.put o.dst x with H := H', nx := nx' }
      | .pan x H' nx' => .pan x { s with H := H', nx := nx' }
      | .no w => .no (.deep o w)
     | false => opR P G γ o s
    | .yl β => yieldR P run o β (k.args.toList.map (s.st.ρ G)) s
    | _ => .no (.op o)
   | .invoke r m => match recvV P m (s.st.ρ G r) with
    | .fn (.func f) first captured =>
     match hasBody P f with
     | true => match cf f (first ++ k.args.toList.map (s.st.ρ G) ++ captured) s.H s.nx with
      | .ret x H' nx' => .ok { s.put o.dst x with H := H', nx := nx' }
      | .pan x H' nx' => .pan x { s with H := H', nx := nx' }
      | .no w => .no (.deep o w)
     | false => opR P G γ o s
    | _ => .no (.op o)
   | _ => opR P G γ o s
  | .defer k => match ro, k.callee with
   | none, .value fo => match s.st.ρ G fo with
    | .fn f first captured => .ok { s.put o.dst (.lit undef) with df := .fn f captured (first ++ k.args.toList.map (s.st.ρ G)) :: s.df }
    | _ => .no (.op o)
   | _, _ => .no (.op o)
  | .panic x => match s.st.ρ G x with
   | .ifc t y => .pan (.ifc t y) s
   | _ => .no (.op o)
  | _ => opR P G γ o s
theorem put_H (s : RS) (d : Option Tmp) (x : VV) : (s.put d x).H = s.H := by cases d <;> rfl
theorem Es (s : RS) (d : Option Tmp) (x : VV) (H : Trie Vo) (nx : Nat) : ({ s.put d x with H := H, nx := nx } : RS).st = { s.st.put d x with H := H.get, nx := nx } := by rw [← RS.put_st]; rfl
theorem Ov (s : RS) (d : Option Tmp) (x : VV) (df : List VDef) : ({ s.put d x with df := df } : RS).st = { s.st.put d x with df := df } := by rw [← RS.put_st]; rfl
theorem sH (H : Trie Vo) (β : Nat) (o : Vo) : (H.put β (some o)).get = updH H.get β o := by
 funext i; rw [Trie.get_put]; rfl
variable {ops : Array Oper} {aa i : Nat} {o : Oper} {s s' : RS} {K : St → Prop} {Qp : VV → St → Prop}
theorem Ow (h : opR P G (aa + i) o s = .ok s') (ho : ops[i]? = some o) (hd : dstsOk n ops = true) (hw : aJ ops s.st.tm o = some true) 
  (hk : K s'.st) : aK P G n ops aa i s.st K Qp := by
 unfold opR at h
 split at h
 ·rename_i x eff hv
  cases h
  refine aK.quiet ho hd (.op hw hv) ?_
  have e : ({ s.put o.dst x with H := effR (aa + i) s.H eff } : RS).st = { s.st.put o.dst x with H := eff.app (aa + i) s.st.H } := by
   rw [← RS.put_st]
   show St.mk _ _ _ _ = St.mk _ _ _ _
   congr 1
   exact tM _ _ _
  rwa [e] at hk
 ·cases h
theorem Ox {γ : Nat} {x : VV} (h : opR P G γ o s = .pan x s') : False := by
 unfold opR at h; split at h <;> cases h
variable {β : Nat}
theorem Oy {run : RunR} {args : List VV} {x : VV} (h : yieldL run o β args s = .pan x s') : False := by
 unfold yieldL at h
 repeat' split at h
 all_goals cases h
variable {ro : Option Nat} {k : Call} {fo : Operand}
theorem zxj {run : RunR} (aI : RunOk P G run) 
  (h : yieldL run o β (k.args.toList.map (s.st.ρ (G.at (some ro)))) s = .ok s') (ho : ops[i]? = some o) (hd : dstsOk n ops = true) (hw : aJ ops s.st.tm o = some true) (hop : o.op = .call k) (hk : k.callee = .value fo) (hf : s.st.ρ (G.at (some ro)) fo = .yl β) 
  (hK : K s'.st) : aK P (G.at (some ro)) n ops aa i s.st K Qp := by
 unfold yieldL at h
 split at h
 ·rename_i pe tm ps as bo df hβ
  split at h
  ·rename_i hn
   split at h
   ·rename_i s1 h1
    split at h
    ·rename_i fF j3 j4 j5 j6 nt hβ1
     split at h
     ·rename_i e s2 h2
      split at h
      ·rename_i jump hj
       split at h
       ·rename_i dw Oz pn po pq pr rC hβ2
        cases h
        refine aK.yield ho hd hw hop hk hf hβ (by simpa using hn) ?_
        have a1 := aI (some β) tm.length as _ .normal s1 h1 (RoundStart P (G.at (some ro)) tm.length β bo o s.st K) ⟨fF, j3, j4, j5, j6, nt, hβ1, ?_⟩
        ·rw [argsR] at a1
         exact a1
        ·have a2 := aI (some β) tm.length bo _ e s2 h2 (RoundEnd β o s.st K) ?_
         ·have e2 : ({ s1 with H := s1.H.put β (some (.loop .busy fF j3 j4 j5 j6 nt)) } : RS).st = { s1.st with H := updH s1.st.H β (.loop .busy fF j3 j4 j5 j6 nt) } := by
           simp only [RS.st, sH]
          rw [e2] at a2
          exact a2
         ·have done : RoundDone β o s.st K jump s2.st := by
           refine ⟨dw, Oz, pn, po, pq, pr, rC, hβ2, ?_⟩
           rw [Es, sH] at hK
           exact hK
          cases e <;> simp only [jumpOf] at hj <;> cases hj <;> exact done
       ·cases h
      ·cases h
     ·cases h
    ·cases h
   ·cases h
   ·cases h
  ·cases h
 ·cases h
def SR.good (K : St → Prop) (Qp : VV → St → Prop) : SR → Prop
 | .ok s' => K s'.st
 | .pan x s' => Qp x s'.st
 | .no _ => False
theorem SR.good_of {r : SR} (hK : ∀ s', r = .ok s' → K s'.st) (hQ : ∀ x s', r = .pan x s' → Qp x s'.st) (hno : ∀ w, r ≠ .no w) : r.good K Qp := by
 cases r with
 | ok s' => exact hK _ rfl
 | pan x s' => exact hQ _ _ rfl
 | no w => exact hno _ rfl
theorem zuu {run : RunR} (aI : RunOk P G run) 
  (ho : ops[i]? = some o) (hd : dstsOk n ops = true) (hw : aJ ops s.st.tm o = some true) (hop : o.op = .call k) (hk : k.callee = .value fo) (hf : s.st.ρ (G.at (some ro)) fo = .yl β) 
  (h : (yieldFR P run o β (k.args.toList.map (s.st.ρ (G.at (some ro)))) s).good K Qp) : aK P (G.at (some ro)) n ops aa i s.st K Qp := by
 unfold yieldFR at h
 split at h
 ·rename_i pe tm ps as bo f hβ
  split at h
  ·rename_i hn
   simp only [Bool.and_eq_true] at hn
   obtain ⟨kO, vC⟩ := hn
   obtain ⟨fn, hfn⟩ := Option.isSome_iff_exists.mp vC
   split at h
   ·rename_i s1 h1
    split at h
    ·rename_i fF j3 j4 j5 j6 nt hβ1
     split at h
     ·rename_i e s2 h2
      refine aK.yieldF ho hd hw hop hk hf hβ (by simpa using kO) hfn ?_
      have a1 := aI (some β) tm.length as _ .normal s1 h1 (RoundStartF P (G.at (some ro)) tm.length β bo o s.st K Qp) ⟨fF, j3, j4, j5, j6, nt, hβ1, ?_⟩
      ·rw [argsR] at a1
       exact a1
      ·have a2 := aI (some β) tm.length bo _ e s2 h2 (RoundEndF β o s.st K Qp) ?_
       ·have e2 : ({ s1 with H := s1.H.put β (some (.loopF .busy fF j3 j4 j5 j6 nt)) } : RS).st = { s1.st with H := updH s1.st.H β (.loopF .busy fF j3 j4 j5 j6 nt) } := by
         simp only [RS.st, sH]
        rw [e2] at a2
        exact a2
       ·split at h
        ·rename_i jump hj
         split at h
         ·rename_i dw Oz pn po pq pr rC hβ2
          have done : RoundDoneF β o s.st K jump s2.st := by
           refine ⟨dw, Oz, pn, po, pq, pr, rC, hβ2, ?_⟩
           have := h
           simp only [SR.good] at this
           rw [Es, sH] at this
           exact this
          cases e <;> simp only [jumpOf] at hj <;> cases hj <;> exact done
         ·exact h.elim
        ·rename_i hj
         split at h
         ·rename_i x
          split at h
          ·rename_i hdf
           exact ⟨hdf, h⟩
          ·exact h.elim
         ·exact h.elim
     ·exact h.elim
    ·exact h.elim
   ·exact h.elim
   ·exact h.elim
  ·exact h.elim
 ·exact h.elim
theorem zxk {run : RunR} (aI : RunOk P G run) 
  (ho : ops[i]? = some o) (hd : dstsOk n ops = true) (hw : aJ ops s.st.tm o = some true) (hop : o.op = .call k) (hk : k.callee = .value fo) (hf : s.st.ρ (G.at (some ro)) fo = .yl β) 
  (hK : ∀ s', yieldR P run o β (k.args.toList.map (s.st.ρ (G.at (some ro)))) s = .ok s' → K s'.st) (hQ : ∀ x s', yieldR P run o β (k.args.toList.map (s.st.ρ (G.at (some ro)))) s = .pan x s' → Qp x s'.st)
  (hno : ∀ w, yieldR P run o β (k.args.toList.map (s.st.ρ (G.at (some ro)))) s ≠ .no w) : aK P (G.at (some ro)) n ops aa i s.st K Qp := by
 have h := SR.good_of hK hQ hno
 unfold yieldR at h
 split at h
 ·exact zuu aI ho hd hw hop hk hf h
 ·cases hy : yieldL run o β (k.args.toList.map (s.st.ρ (G.at (some ro)))) s with
  | ok s' => rw [hy] at h; exact zxj aI hy ho hd hw hop hk hf h
  | pan x s' => exact (Oy hy).elim
  | no w => rw [hy] at h; exact h.elim
theorem zA {run : RunR} {cf : aB} (aI : RunOk P G run) (hcf : CallOk P G cf) (ho : ops[i]? = some o) (hd : dstsOk n ops = true) 
  (hk : ∀ s', aQ P (G.at (some ro)) run cf ro ops (aa + i) o s = .ok s' → K s'.st) (hq : ∀ x s', aQ P (G.at (some ro)) run cf ro ops (aa + i) o s = .pan x s' → Qp x s'.st) (hno : ∀ w, aQ P (G.at (some ro)) run cf ro ops (aa + i) o s ≠ .no w) :
  aK P (G.at (some ro)) n ops aa i s.st K Qp := by
 have opk : aJ ops s.st.tm o = some true → aQ P (G.at (some ro)) run cf ro ops (aa + i) o s = opR P (G.at (some ro)) (aa + i) o s → aK P (G.at (some ro)) n ops aa i s.st K Qp := by
  intro hw e
  cases h : opR P (G.at (some ro)) (aa + i) o s with
  | ok s' => exact Ow h ho hd hw (hk s' (e.trans h))
  | pan x s' => exact (Ox h).elim
  | no w => exact absurd (e.trans h) (hno w)
 cases hw : aJ ops s.st.tm o with
 | none => exact absurd (by simp only [aQ, hw]) (hno (.op o))
 | some b =>
  cases b with
  | false =>
   refine aK.quiet ho hd (.skip hw) ?_
   rw [← RS.put_st]
   exact hk _ (by simp only [aQ, hw])
  | true =>
   cases hop : o.op with
   | call k =>
    obtain ⟨callee, as, ats⟩ := k
    cases callee with
    | value fo =>
     cases hρ : s.st.ρ (G.at (some ro)) fo with
     | fn fn first captured =>
      cases fn with
      | func f =>
       cases hb : hasBody P f with
       | false => exact opk hw (by simp only [aQ, hw, hop, hρ, hb])
       | true =>
        have hf : callee? P (G.at (some ro)) s.st o.op = some (f, first ++ as.toList.map (s.st.ρ (G.at (some ro))) ++ captured) := by simp [callee?, hop, hρ]
        cases hc : cf f (first ++ as.toList.map (s.st.ρ (G.at (some ro))) ++ captured) s.H s.nx with
        | ret x H' nx' =>
         refine aK.open ho hd hw hf ((hcf.1 _ _ _ _ _ _ _ hc).mono ?_ ?_)
         ·rintro y H1 n1 ⟨rfl, rfl, rfl⟩
          have := hk { s.put o.dst y with H := H', nx := n1 } (by simp only [aQ, hw, hop, hρ, hb, hc])
          rw [Es] at this
          exact this
         ·rintro y H1 n1 h; exact h.elim
        | pan x H' nx' =>
         refine aK.open ho hd hw hf ((hcf.2 _ _ _ _ _ _ _ hc).mono ?_ ?_)
         ·rintro y H1 n1 h; exact h.elim
         ·rintro y H1 n1 ⟨rfl, rfl, rfl⟩
          exact hq y { s with H := H', nx := n1 } (by simp only [aQ, hw, hop, hρ, hb, hc])
        | no w => exact absurd (by simp only [aQ, hw, hop, hρ, hb, hc]) (hno (.deep o w))
      | method _ => exact absurd (by simp only [aQ, hw, hop, hρ]) (hno (.op o))
      | methodOf _ _ => exact absurd (by simp only [aQ, hw, hop, hρ]) (hno (.op o))
      | via _ _ _ _ => exact absurd (by simp only [aQ, hw, hop, hρ]) (hno (.op o))
      | yield _ => exact absurd (by simp only [aQ, hw, hop, hρ]) (hno (.op o))
     | yl β =>
      have e : aQ P (G.at (some ro)) run cf ro ops (aa + i) o s = yieldR P run o β (as.toList.map (s.st.ρ (G.at (some ro)))) s := by simp only [aQ, hw, hop, hρ]
      exact zxk (k := ⟨.value fo, as, ats⟩) aI ho hd hw hop rfl hρ (fun s' h => hk s' (e.trans h)) (fun x s' h => hq x s' (e.trans h)) (fun w h => hno w (e.trans h))
     | any => exact absurd (by simp only [aQ, hw, hop, hρ]) (hno (.op o))
     | lit _ => exact absurd (by simp only [aQ, hw, hop, hρ]) (hno (.op o))
     | agg _ => exact absurd (by simp only [aQ, hw, hop, hρ]) (hno (.op o))
     | tup _ => exact absurd (by simp only [aQ, hw, hop, hρ]) (hno (.op o))
     | sl _ _ _ => exact absurd (by simp only [aQ, hw, hop, hρ]) (hno (.op o))
     | tp _ => exact absurd (by simp only [aQ, hw, hop, hρ]) (hno (.op o))
     | ref _ _ _ _ => exact absurd (by simp only [aQ, hw, hop, hρ]) (hno (.op o))
     | ptr _ _ => exact absurd (by simp only [aQ, hw, hop, hρ]) (hno (.op o))
     | mt _ _ => exact absurd (by simp only [aQ, hw, hop, hρ]) (hno (.op o))
     | mp _ => exact absurd (by simp only [aQ, hw, hop, hρ]) (hno (.op o))
     | it _ => exact absurd (by simp only [aQ, hw, hop, hρ]) (hno (.op o))
     | ifc _ _ => exact absurd (by simp only [aQ, hw, hop, hρ]) (hno (.op o))
    | invoke rr m =>
     cases hρ : recvV P m (s.st.ρ (G.at (some ro)) rr) with
     | fn fn first captured =>
      cases fn with
      | func f =>
       cases hb : hasBody P f with
       | false => exact opk hw (by simp only [aQ, hw, hop, hρ, hb])
       | true =>
        have hf : callee? P (G.at (some ro)) s.st o.op = some (f, first ++ as.toList.map (s.st.ρ (G.at (some ro))) ++ captured) := by simp [callee?, hop, hρ]
        cases hc : cf f (first ++ as.toList.map (s.st.ρ (G.at (some ro))) ++ captured) s.H s.nx with
        | ret x H' nx' =>
         refine aK.open ho hd hw hf ((hcf.1 _ _ _ _ _ _ _ hc).mono ?_ ?_)
         ·rintro y H1 n1 ⟨rfl, rfl, rfl⟩
          have := hk { s.put o.dst y with H := H', nx := n1 } (by simp only [aQ, hw, hop, hρ, hb, hc])
          rw [Es] at this
          exact this
         ·rintro y H1 n1 h; exact h.elim
        | pan x H' nx' =>
         refine aK.open ho hd hw hf ((hcf.2 _ _ _ _ _ _ _ hc).mono ?_ ?_)
         ·rintro y H1 n1 h; exact h.elim
         ·rintro y H1 n1 ⟨rfl, rfl, rfl⟩
          exact hq y { s with H := H', nx := n1 } (by simp only [aQ, hw, hop, hρ, hb, hc])
        | no w => exact absurd (by simp only [aQ, hw, hop, hρ, hb, hc]) (hno (.deep o w))
      | _ => exact absurd (by simp only [aQ, hw, hop, hρ]) (hno (.op o))
     | _ => exact absurd (by simp only [aQ, hw, hop, hρ]) (hno (.op o))
    | builtin b => exact opk hw (by simp only [aQ, hw, hop])
   | defer k =>
    obtain ⟨callee, as, ats⟩ := k
    cases ro with
    | some β => exact absurd (by simp only [aQ, hw, hop]) (hno (.op o))
    | none =>
     cases callee with
     | value fo =>
      have e : aQ P (G.at (some none)) run cf none ops (aa + i) o s = (match s.st.ρ (G.at (some none)) fo with
       | .fn f first captured => .ok { s.put o.dst (.lit undef) with df := .fn f captured (first ++ as.toList.map (s.st.ρ (G.at (some none)))) :: s.df }
       | _ => .no (.op o)) := by simp only [aQ, hw, hop]
      split at e
      ·rename_i f first captured hρ
       refine aK.defer rfl ho hd hw hop rfl hρ ?_
       have := hk _ e
       rw [Ov] at this
       exact this
      ·exact absurd e (hno _)
     | invoke r m => exact absurd (by simp only [aQ, hw, hop]) (hno (.op o))
     | builtin b => exact absurd (by simp only [aQ, hw, hop]) (hno (.op o))
   | panic x =>
    have e : aQ P (G.at (some ro)) run cf ro ops (aa + i) o s = (match s.st.ρ (G.at (some ro)) x with
     | .ifc t y => .pan (.ifc t y) s
     | _ => .no (.op o)) := by simp only [aQ, hw, hop]
    split at e
    ·rename_i t y hx
     exact aK.panic ho hw hop hx (hq _ _ e)
    ·exact absurd e (hno _)
   | _ => exact opk hw (by simp only [aQ, hw, hop])
end Go.V
end
