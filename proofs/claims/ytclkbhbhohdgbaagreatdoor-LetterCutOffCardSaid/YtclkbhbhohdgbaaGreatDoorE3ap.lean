/- Part of a proof. -/
import Derived.Test.YtclkbhbhohdgbaaGreatDoorE3ao
set_option linter.all false
noncomputable section
namespace Go.V
open Go
def RS.putQ (s : RS) (dst : Option Tmp) (x : VV) : RS := Option.rec (motive := fun _ => RS) s (fun d => RS.mk (setV s.tm d (some x)) s.H s.nx s.df) dst
theorem RS.putQ_eq (s : RS) (dst : Option Tmp) (x : VV) : s.putQ dst x = s.put dst x := by
 cases dst with
 | none => rfl
 | some d => simp only [RS.putQ, RS.put, Bj]
def doneQ (s : RS) (dst : Option Tmp) (γ : Nat) (x : VV) (e : Ve) : RS :=
 Ve.rec (motive := fun _ => RS) (s.putQ dst x) (fun o => { s.putQ dst x with H := setO s.H γ (some o) }) (fun β o => { s.putQ dst x with H := setO s.H β (some o) }) (fun β el cs => { s.putQ dst x with H := setO (setO s.H β none) γ (some (.cells el cs)) }) (fun β => { s.putQ dst x with H := setO s.H β none }) e
theorem CW (s : RS) (dst : Option Tmp) (γ : Nat) (x : VV) (e : Ve) : doneQ s dst γ x e = { s.put dst x with H := effR γ s.H e } := by
 cases e with
 | none =>
  simp only [doneQ, RS.putQ_eq, effR]
  cases dst <;> rfl
 | new o => simp only [doneQ, RS.putQ_eq, effR, xS]
 | upd β o => simp only [doneQ, RS.putQ_eq, effR, xS]
 | mv β el cs => simp only [doneQ, RS.putQ_eq, effR, xS]
 | kill β => simp only [doneQ, RS.putQ_eq, effR, xS]
def qi (o : Oper) (γ : Nat) (s : RS) (r : Option (VV × Ve)) : SR := match r with
 | some (x, e) => .ok (doneQ s o.dst γ x e)
 | none => .no (.op o)
def opQ (P : Program) (G : Gb) (γ : Nat) (o : Oper) (s : RS) : SR := qi o γ s (vopQ P o (ρQ G s.tm) s.H γ)
theorem sA (P : Program) (G : Gb) (γ : Nat) (o : Oper) (s : RS) : opQ P G γ o s = opR P G γ o s := by
 unfold opQ opR qi
 rw [yH, ρQ_eq]
 cases vop P o (s.st.ρ G) s.H.get γ with
 | none => rfl
 | some p => obtain ⟨x, e⟩ := p; simp only [CW]
def gdst (ops : Array Oper) (j : Nat) : Option Tmp := (ops[j]?).bind (·.dst)
def sameB (a b : Bool) : Bool := Bool.rec (motive := fun _ => Bool) (Bool.rec (motive := fun _ => Bool) true false b) b a
def guardS (w : Bool) (x : VV) : Option Bool := Option.rec (motive := fun _ => Option Bool) (match x with
  | .lit (.bool b) => some (b == w)
  | .lit (.tuple _) => some false
  | _ => none) (fun b => some (sameB b w)) (boolQ x)
theorem RK (w : Bool) (x : VV) : guardS w x = (match x with
  | .lit (.bool b) => some (b == w)
  | .lit (.tuple _) => some false
  | _ => none) := by
 unfold guardS
 cases h : boolQ x with
 | none => rfl
 | some b => have := yF h; subst this; cases b <;> cases w <;> rfl
def guardQ1 (ops : Array Oper) (t : Trie VV) (j : Nat) (w : Bool) : Option Bool := match gdst ops j with
 | none => some false
 | some d => guardS w (tmQ t d)
def guardQ (ops : Array Oper) (t : Trie VV) (o : Oper) : Option Bool := match o.guard with
 | none => some true
 | some (j, w) => guardQ1 ops t j w
theorem V8 (ops : Array Oper) (s : RS) (o : Oper) : guardQ ops s.tm o = aJ ops s.st.tm o := by
 unfold guardQ aJ
 cases o.guard with
 | none => rfl
 | some p =>
  obtain ⟨j, w⟩ := p
  simp only [guardQ1, gdst]
  cases (ops[j]?).bind (·.dst) with
  | none => rfl
  | some d => simp only [RK, yG]; rfl
def mapQ (f : Operand → VV) (l : List Operand) : List VV := List.rec (motive := fun _ => List VV) [] (fun x _ ih => f x :: ih) l
theorem yf (f : Operand → VV) : ∀ l : List Operand, mapQ f l = l.map f
 | [] => rfl
 | x :: l => by show f x :: mapQ f l = _; rw [yf f l]; rfl
def appQ (l m : List VV) : List VV := List.rec (motive := fun _ => List VV) m (fun x _ ih => x :: ih) l
theorem CX : ∀ l m : List VV, appQ l m = l ++ m
 | [], _ => rfl
 | x :: l, m => by show x :: appQ l m = _; rw [CX l m]; rfl
def backQ' (o : Oper) (s : RS) (r : CR) : SR :=
 CR.rec (motive := fun _ => SR) (fun x H nx => .ok { s.putQ o.dst x with H := H, nx := nx }) (fun x H nx => .pan x { s with H := H, nx := nx }) (fun w => .no (.deep o w)) r
def callV (P : Program) (G : Gb) (run : RunR) (cf : aB) (γ : Nat) (o : Oper) (s : RS) (args : List Operand) (x : VV) : SR := match x with
 | .fn (.func f) first captured => match hasBody P f with
  | true => backQ' o s (cf f (appQ first (appQ (mapQ (ρQ G s.tm) args) captured)) s.H s.nx)
  | false => opQ P G γ o s
 | .yl β => yieldR P run o β (mapQ (ρQ G s.tm) args) s
 | _ => .no (.op o)
def callS (P : Program) (G : Gb) (run : RunR) (cf : aB) (γ : Nat) (o : Oper) (k : Call) (s : RS) : SR := match k.callee with
 | .value fo => callV P G run cf γ o s k.args.toList (ρQ G s.tm fo)
 | .invoke r m => callV P G run cf γ o s k.args.toList (recvV P m (ρQ G s.tm r))
 | _ => opQ P G γ o s
def panS (o : Oper) (s : RS) (x : VV) : SR := match x with
 | .ifc t y => .pan (.ifc t y) s
 | _ => .no (.op o)
def actS (P : Program) (G : Gb) (run : RunR) (cf : aB) (ro : Option Nat) (ops : Array Oper) (γ : Nat) (o : Oper) (s : RS) : SR := match o.op with
 | .call k => callS P G run cf γ o k s
 | .defer _ => aQ P G run cf ro ops γ o s
 | .panic x => panS o s (ρQ G s.tm x)
 | _ => opQ P G γ o s
def stepQ1 (P : Program) (G : Gb) (run : RunR) (cf : aB) (ro : Option Nat) (ops : Array Oper) (γ : Nat) (o : Oper) (s : RS) (g : Option Bool) : SR := match g with
 | none => .no (.op o)
 | some false => .ok (s.putQ o.dst (.lit undef))
 | some true => actS P G run cf ro ops γ o s
def stepQ (P : Program) (G : Gb) (run : RunR) (cf : aB) (ro : Option Nat) (ops : Array Oper) (γ : Nat) (o : Oper) (s : RS) : SR := stepQ1 P G run cf ro ops γ o s (guardQ ops s.tm o)
theorem RI (P : Program) (G : Gb) (run : RunR) (cf : aB) (ro : Option Nat) (ops : Array Oper) (γ : Nat) (o : Oper) (s : RS) : stepQ P G run cf ro ops γ o s = aQ P G run cf ro ops γ o s := by
 unfold stepQ stepQ1
 rw [V8]
 cases hw : aJ ops s.st.tm o with
 | none => simp only [aQ, hw]
 | some b =>
  cases b with
  | false => simp only [aQ, hw, RS.putQ_eq]
  | true =>
   simp only [actS]
   cases hop : o.op with
   | call k =>
    obtain ⟨callee, as, ats⟩ := k
    cases callee with
    | value fo =>
     simp only [callS, aQ, hw, hop, ρQ_eq]
     cases hρ : s.st.ρ G fo with
     | fn fn first captured =>
      cases fn with
      | func f =>
       simp only [callV]
       cases hb : hasBody P f with
       | false => simp only [sA]
       | true =>
        simp only [yf, CX, ρQ_eq, ← List.append_assoc]
        cases cf f (first ++ as.toList.map (s.st.ρ G) ++ captured) s.H s.nx <;> simp only [backQ', RS.putQ_eq]
      | _ => rfl
     | yl β => simp only [callV, yf, ρQ_eq]
     | _ => rfl
    | invoke r m =>
     simp only [callS, aQ, hw, hop, ρQ_eq]
     cases hρ : recvV P m (s.st.ρ G r) with
     | fn fn first captured =>
      cases fn with
      | func f =>
       simp only [callV]
       cases hb : hasBody P f with
       | false => simp only [sA]
       | true =>
        simp only [yf, CX, ρQ_eq, ← List.append_assoc]
        cases cf f (first ++ as.toList.map (s.st.ρ G) ++ captured) s.H s.nx <;> simp only [backQ', RS.putQ_eq]
      | _ => rfl
     | yl β => exact absurd hρ (F3 _ _ _)
     | _ => rfl
    | builtin b => simp only [callS, aQ, hw, hop, sA]
   | defer k => rfl
   | panic x =>
    simp only [panS, aQ, hw, hop, ρQ_eq]
    cases s.st.ρ G x <;> rfl
   | _ => simp only [aQ, hw, hop, sA]
def seqQ (P : Program) (G : Gb) (run : RunR) (cf : aB) (ro : Option Nat) (ops : Array Oper) (aa : Nat) (l : List Oper) : Nat → RS → ER :=
 List.rec (motive := fun _ => Nat → RS → ER) (fun _ s => .mk .normal s)
  (fun o _ ih i s => SR.rec (motive := fun _ => ER) (fun s' => ih (Nat.succ i) s') (fun x s' => .mk (.panic x) s') (fun w => .no w) (stepQ P G run cf ro ops (Nat.add aa i) o s)) l
theorem CU (P : Program) (G : Gb) (run : RunR) (cf : aB) (ro : Option Nat) (ops : Array Oper) (aa : Nat) : ∀ (l : List Oper) (i : Nat) (s : RS), seqQ P G run cf ro ops aa l i s = seqR P G run cf ro ops aa i l s
 | [], _, _ => rfl
 | o :: l, i, s => by
  show SR.rec (motive := fun _ => ER) (fun s' => seqQ P G run cf ro ops aa l (i + 1) s') (fun x s' => .mk (.panic x) s') (fun w => .no w) (stepQ P G run cf ro ops (aa + i) o s) = _
  rw [RI]
  unfold seqR
  cases aQ P G run cf ro ops (aa + i) o s with
  | ok s' => exact CU P G run cf ro ops aa l (i + 1) s'
  | pan x s' => rfl
  | no w => rfl
def sealQ1 (f : FuncId) (H : Trie Vo) (x : VV) : PRes ⊕ Why :=
 Bool.rec (motive := fun _ => PRes ⊕ Why) (match sealV H.get fuelS x with
   | some y => .inl (.tree y)
   | none => .inr (.sealx f x)) (.inl (.tree x)) (treeQ x)
theorem RL (f : FuncId) (H : Trie Vo) (x : VV) : sealQ1 f H x = (match sealV H.get fuelS x with
   | some y => .inl (.tree y)
   | none => .inr (.sealx f x)) := by
 unfold sealQ1
 rw [Eg]
 cases h : x.tree with
 | false => rfl
 | true =>
  have : sealV H.get fuelS x = some x := by simp [sealV, h]
  rw [this]
def pureQ1 (f : FuncId) (r : CR) : PRes ⊕ Why := match r with
 | .ret x H' _ => match x with
  | .ref β 0 len es _ => match H'.get β with
   | some (.cells _ nC) => match aT (without H'.get β) fuelS nC with
    | some cs => .inl (.own cs len es)
    | none => .inr (.sealx f x)
   | _ => .inr (.sealx f x)
  | x => sealQ1 f H' x
 | .pan x H' _ => match sealV H'.get fuelS x with
   | some y => .inl (.panic y)
   | none => .inr (.sealx f x)
 | .no w => .inr w
def pureQ (cf : aB) (f : FuncId) (args : List VV) : PRes ⊕ Why := pureQ1 f (cf f args .nil 0)
theorem HP (cf : aB) (f : FuncId) (args : List VV) : pureQ cf f args = pureR cf f args := by
 unfold pureQ pureR pureQ1
 simp only [RL]
 cases cf f args .nil 0 with
 | ret x H' nx =>
  cases x <;> first | rfl | (rename_i off _ _ _; cases off <;> rfl)
 | pan x H' nx => rfl
 | no w => rfl
def dopQ1 (o : Oper) (ρ : Operand → VV) (γ : Nat) (s : RS) (r : Option (VV × Ve)) : DR := match r with
 | some (x, e) => .ok (rdV o ρ) (e.wr γ) (doneQ s o.dst γ x e)
 | none => .no (.op o)
def dopQ (P : Program) (G : Gb) (γ : Nat) (o : Oper) (s : RS) : DR := dopQ1 o (ρQ G s.tm) γ s (vopQ P o (ρQ G s.tm) s.H γ)
theorem tJ (P : Program) (G : Gb) (γ : Nat) (o : Oper) (s : RS) : dopQ P G γ o s = (match vop P o (s.st.ρ G) s.H.get γ with
   | some (x, eff) => DR.ok (rdV o (s.st.ρ G)) (eff.wr γ) { s.put o.dst x with H := effR γ s.H eff }
   | none => .no (.op o)) := by
 unfold dopQ dopQ1
 rw [yH, ρQ_eq]
 cases vop P o (s.st.ρ G) s.H.get γ with
 | none => rfl
 | some p => obtain ⟨x, e⟩ := p; simp only [CW]
def dbackQ (cf : aB) (f : FuncId) (args : List VV) (o : Oper) (γ : Nat) (s : RS) (r : PRes ⊕ Why) : DR := match r with
 | .inl (.tree x) => match mtEnd x with
  | true => dnewR cf γ o s f args
  | false => .ok [] [] (s.putQ o.dst x)
 | .inl (.own cs len es) => .ok [] [γ] { s.putQ o.dst (.ref γ 0 len es len) with H := setO s.H γ (some (.cells none cs)) }
 | .inl (.panic _) => .no (.op o)
 | .inr w => .no (.deep o w)
def dcallQ (P : Program) (G : Gb) (cf : aB) (γ : Nat) (o : Oper) (s : RS) (f : FuncId) (args : List VV) : DR := match hasBody P f with
 | true => match treeLQ args with
  | true => dbackQ cf f args o γ s (pureQ cf f args)
  | false => dseenR cf γ o s f args
 | false => dopQ P G γ o s
def dcalleeQ (P : Program) (G : Gb) (cf : aB) (γ : Nat) (o : Oper) (s : RS) (args : List Operand) (x : VV) : DR := match x with
 | .fn (.func f) first captured => dcallQ P G cf γ o s f (appQ first (appQ (mapQ (ρQ G s.tm) args) captured))
 | _ => dopQ P G γ o s
def dactQ (P : Program) (G : Gb) (cf : aB) (γ : Nat) (o : Oper) (s : RS) : DR := match o.op with
 | .call k => match k.callee with
  | .value fo => dcalleeQ P G cf γ o s k.args.toList (ρQ G s.tm fo)
  | .invoke r m => dcalleeQ P G cf γ o s k.args.toList (recvV P m (ρQ G s.tm r))
  | _ => dopQ P G γ o s
 | _ => dopQ P G γ o s
def dstepQ1 (P : Program) (G : Gb) (cf : aB) (γ : Nat) (o : Oper) (s : RS) (g : Option Bool) : DR := match g with
 | none => .no (.op o)
 | some false => .ok [] [] (s.putQ o.dst (.lit undef))
 | some true => dactQ P G cf γ o s
def dstepQ (P : Program) (G : Gb) (cf : aB) (ops : Array Oper) (γ : Nat) (o : Oper) (s : RS) : DR := dstepQ1 P G cf γ o s (guardQ ops s.tm o)
theorem RM (P : Program) (G : Gb) (cf : aB) (ops : Array Oper) (γ : Nat) (o : Oper) (s : RS) : dstepQ P G cf ops γ o s = dstepR P G cf ops γ o s := by
 unfold dstepQ dstepQ1
 rw [V8]
 cases hw : aJ ops s.st.tm o with
 | none => simp only [dstepR, hw]
 | some b =>
  cases b with
  | false => simp only [dstepR, hw, RS.putQ_eq]
  | true =>
   simp only [dactQ, dstepR, hw]
   cases hop : o.op with
   | call k =>
    obtain ⟨callee, as, ats⟩ := k
    cases callee with
    | value fo =>
     simp only [callee?, ρQ_eq]
     cases hρ : s.st.ρ G fo with
     | fn fn first captured =>
      cases fn with
      | func f =>
       simp only [dcalleeQ, dcallQ, yf, CX, ρQ_eq, ← List.append_assoc]
       cases hb : hasBody P f with
       | false => exact tJ P G γ o s
       | true =>
        simp only [KP]
        cases tl (first ++ as.toList.map (s.st.ρ G) ++ captured) with
        | false => rfl
        | true =>
         simp only [HP]
         cases pureR cf f (first ++ as.toList.map (s.st.ρ G) ++ captured) with
         | inl r =>
          cases r with
          | tree x => cases hm : mtEnd x <;> simp only [dbackQ, RS.putQ_eq, hm]
          | _ => simp only [dbackQ, RS.putQ_eq, xS]
         | inr w => rfl
      | _ => exact tJ P G γ o s
     | _ => exact tJ P G γ o s
    | invoke rr m =>
     simp only [callee?, ρQ_eq]
     cases hρ : recvV P m (s.st.ρ G rr) with
     | fn fn first captured =>
      cases fn with
      | func f =>
       simp only [dcalleeQ, dcallQ, yf, CX, ρQ_eq, ← List.append_assoc]
       cases hb : hasBody P f with
       | false => exact tJ P G γ o s
       | true =>
        simp only [KP]
        cases tl (first ++ as.toList.map (s.st.ρ G) ++ captured) with
        | false => rfl
        | true =>
         simp only [HP]
         cases pureR cf f (first ++ as.toList.map (s.st.ρ G) ++ captured) with
         | inl r =>
          cases r with
          | tree x => cases hm : mtEnd x <;> simp only [dbackQ, RS.putQ_eq, hm]
          | _ => simp only [dbackQ, RS.putQ_eq, xS]
         | inr w => rfl
      | _ => exact tJ P G γ o s
     | _ => exact tJ P G γ o s
    | builtin b => exact tJ P G γ o s
   | _ => exact tJ P G γ o s
def drawQ1 (ops : Array Oper) (i : Nat) (tr : Tr) (next : Tr → RS → ER) (o : Oper) (r : DR) : ER := match r with
 | .ok [] [] s' => next tr s'
 | .ok rd wr s' => Bool.rec (motive := fun _ => ER) (.no (.order o)) (next ((i, rd, wr) :: tr) s') (hitQ (masks ops) i rd wr tr)
 | .no w => .no w
def drawQ (P : Program) (G : Gb) (cf : aB) (ops : Array Oper) (aa : Nat) (l : List Oper) : Nat → Tr → RS → ER :=
 List.rec (motive := fun _ => Nat → Tr → RS → ER) (fun _ _ s => .mk .normal s) (fun o _ ih i tr s => drawQ1 ops i tr (ih (Nat.succ i)) o (dstepQ P G cf ops (Nat.add aa i) o s)) l
theorem CQ (P : Program) (G : Gb) (cf : aB) (ops : Array Oper) (aa : Nat) : ∀ (l : List Oper) (i : Nat) (tr : Tr) (s : RS), drawQ P G cf ops aa l i tr s = drawR P G cf ops aa i l tr s
 | [], _, _, _ => rfl
 | o :: l, i, tr, s => by
  have ih := fun tr s => CQ P G cf ops aa l (i + 1) tr s
  show drawQ1 ops i tr (drawQ P G cf ops aa l (i + 1)) o (dstepQ P G cf ops (aa + i) o s) = _
  rw [RM]
  unfold drawR drawQ1
  cases dstepR P G cf ops (aa + i) o s with
  | no w => rfl
  | ok rd wr s' =>
   cases rd with
   | nil =>
    cases wr with
    | nil => simp only [ih]
    | cons a wr => simp only [ih]; cases hitQ (masks ops) i [] (a :: wr) tr <;> rfl
   | cons a rd => simp only [ih]; cases hitQ (masks ops) i (a :: rd) wr tr <;> rfl
def loopQ (f : RS → ER) (m : Nat) : RS → ER :=
 Nat.rec (motive := fun _ => RS → ER) (fun _ => .no .fuel)
  (fun _ ih s => ER.rec (motive := fun _ => ER) (fun e s' => Vx.rec (motive := fun _ => ER) (ih s') (fun id => .mk (.exit id) s') (fun l => .mk (.goto l) s') (.mk .ret s') (fun x => .mk (.panic x) s') e) (fun w => .no w) (f s)) m
theorem CT (f : RS → ER) : ∀ (m : Nat) (s : RS), loopQ f m s = loopR f m s
 | 0, _ => rfl
 | m + 1, s => by
  show ER.rec (motive := fun _ => ER) (fun e s' => Vx.rec (motive := fun _ => ER) (loopQ f m s') (fun id => .mk (.exit id) s') (fun l => .mk (.goto l) s') (.mk .ret s') (fun x => .mk (.panic x) s') e) (fun w => .no w) (f s) = _
  unfold loopR
  cases f s with
  | no w => rfl
  | mk e s' => cases e <;> first | exact CT f m s' | rfl
def thenQ (r : ER) (f : RS → ER) : ER :=
 ER.rec (motive := fun _ => ER) (fun e s' => Vx.rec (motive := fun _ => ER) (f s') (fun id => .mk (.exit id) s') (fun l => .mk (.goto l) s') (.mk .ret s') (fun x => .mk (.panic x) s') e) (fun w => .no w) r
def blockQ (r : ER) (id : Nat) : ER :=
 ER.rec (motive := fun _ => ER) (fun e s' => Vx.rec (motive := fun _ => ER) (.mk .normal s') (fun id' => Bool.rec (motive := fun _ => ER) (.mk (.exit id') s') (.mk .normal s') (Nat.beq id' id)) (fun l => .mk (.goto l) s') (.mk .ret s') (fun x => .mk (.panic x) s') e) (fun w => .no w) r
def condQ (x : VV) (code : Code) (a b : ER) : ER := Option.rec (motive := fun _ => ER) (.no (.code code)) (fun t => Bool.rec (motive := fun _ => ER) b a t) (boolQ x)
def scopeQ (r : ER) (code : Code) : ER := match r with
 | .mk (.goto _) _ => .no (.code code)
 | x => x
def rangeFQ (cf : aB) (jump : Code → RS → ER) (n : Nat) (s : RS) (ps : Array Tmp) (as bo : Code) (code : Code) (x : VV) : ER := match x with
 | .fn (.func f) first captured => rangeR cf jump n s f first captured ps as bo
 | _ => .no (.code code)
def rangeCQ (G : Gb) (run : RunR) (cf : aB) (ro : Option Nat) (n : Nat) (code : Code) (g : Operand) (ps : Array Tmp) (as bo : Code) (s : RS) : ER := match ro with
 | none => rangeFQ cf (fun c s => run none n c s) n s ps as bo code (ρQ (G.at (some none)) s.tm g)
 | some _ => .no (.code code)
def enterQ (P : Program) (G : Gb) (run : RunR) (f : FuncId) (fn : Func) (code : Code) (args : List VV) (H : Trie Vo) (nx : Nat) : CR :=
 match run none fn.ntmps code (RS.mk (listV args 0 .nil) H nx []) with
 | .mk .ret s => leaveR P G run fn f s s.df .ret s.H s.nx
 | .mk .normal s => leaveR P G run fn f s s.df .ret s.H s.nx
 | .mk (.panic x) s => leaveR P G run fn f s s.df (.pan x false) s.H s.nx
 | .mk _ _ => .no (.fn f)
 | .no w => .no w
def textQ (P : Program) (f : FuncId) : Option (Func × Code) := match P.funcs[f]? with
 | none => none
 | some fn => match fn.body with
  | none => none
  | some code => match nameQ fn with
   | true => some (fn, code)
   | false => none
def cfQ (P : Program) (G : Gb) (run : RunR) : aB := fun f args H nx => match textQ P f with
 | some (fn, code) => Bool.rec (motive := fun _ => CR) (.no (.fn f)) (enterQ P G run f fn code args H nx) (Nat.ble args.length fn.ntmps)
 | none => .no (.fn f)
theorem zG (P : Program) (G : Gb) (run : RunR) : cfQ P G run = callR P G run := by
 funext f args H nx
 unfold cfQ callR textQ
 cases P.funcs[f]? with
 | none => rfl
 | some fn =>
  cases hb : fn.body with
  | none => simp only [hb]
  | some code =>
   simp only [hb]
   cases nameQ fn with
   | false => rfl
   | true =>
    simp only [Bool.true_and]
    cases Nat.ble args.length fn.ntmps with
    | false => rfl
    | true =>
     simp only [enterQ, Bl]
     rfl
end Go.V
end
