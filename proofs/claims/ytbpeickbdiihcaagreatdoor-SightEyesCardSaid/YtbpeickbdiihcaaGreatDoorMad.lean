/- Part of the proof of statements of YtbpeickbdiihcaaGreatDoor: a logic of values by content, the lifted functions, and what follows. -/
import Derived.Test.YtbpeickbdiihcaaGreatDoorMac
import Derived.Laws.BytesString
import Derived.Lib.UnsafeStr
import Derived.Laws.Cover3
set_option linter.unusedVariables false
set_option linter.unusedSimpArgs false
set_option linter.unusedSectionVars false
set_option linter.constructorNameAsVariable false
section
namespace Go.V
open Go
def byteL : List VV → Option (List UInt8)
  | [] => some []
  | x :: xs => match x with
    | .lit (.int .u8 n) => if 0 ≤ n ∧ n < 256 then match byteL xs with | some l => some (UInt8.ofNat n.toNat :: l) | none => none else none
    | _ => none
theorem byteL_rep {c : Ctx} {W : World} : ∀ {xs : List VV} {l : List UInt8} {vs : List Value}, byteL xs = some l → RepL c W xs vs → vs = l.map fun b => Value.int .u8 b.toNat
  | [], l, vs, h, hr => by
    have e : vs = [] := hr
    subst e
    simp [byteL] at h
    subst h; rfl
  | x :: xs, l, vs, h, ⟨u, us, e, h1, h2⟩ => by
    subst e
    unfold byteL at h
    split at h
    · rename_i n
      split at h
      · rename_i hn
        split at h
        · rename_i l' hl
          cases h
          have := byteL_rep hl h2
          have e1 : u = .int .u8 n := h1
          rw [this, e1]
          have e2 : ((UInt8.ofNat n.toNat).toNat : Int) = n := by
            rw [UInt8.toNat_ofNat']
            omega
          rw [List.map_cons, e2]
        · cases h
      · cases h
    · cases h
theorem foldl_push_bytes : ∀ (l : List UInt8) (acc : ByteArray), (l.map fun b => (b.toNat : Int)).foldl (fun r n => r.push (UInt8.ofNat n.toNat)) acc = ⟨acc.data ++ l.toArray⟩
  | [], acc => by simp
  | x :: l, acc => by
    simp only [List.map_cons, List.foldl_cons]
    rw [foldl_push_bytes l]
    apply ByteArray.ext
    simp [ByteArray.push]
def vconv (P : Program) (H : Nat → Option VObj) (src dst : TypeId) (x : VV) : Option VV :=
  match P.underlying src, P.underlying dst with
  | some (.slice e), some .string => match P.underlying e, sls H x with
    | some (.int .u8), some (cs, len) => if len ≤ cs.length then (byteL (cs.take len)).map fun l => .lit (.string ⟨⟨l⟩⟩) else none
    | _, _ => none
  | _, _ => none
theorem stp_conv {P : Program} {c : Ctx} {W : World} (s : Sim c W) {γ : Nat} {src dst : TypeId} {x y : VV} {v : Value} (h : vconv P c.H src dst x = some y) (hr : Rep c W x v) : Stp P (asNext (convert src dst v)) c W γ y .none := by
  unfold vconv at h
  split at h
  · rename_i e hs hd
    split at h
    · rename_i cs len he hx
      split at h
      · rename_i hle
        cases hb : byteL (cs.take len) with
        | none => simp [hb] at h
        | some l =>
          simp [hb] at h
          subst h
          obtain ⟨base, cap, e1, hcap, h3⟩ := sls_rep s hx hr
          subst e1
          refine Stp.same s (run_asNext (v := .string ⟨⟨l⟩⟩) ?_) rfl
          rw [run_convert_bytes_string W src dst e base len cap hs he hd]
          rcases h3 with h3 | ⟨b, o, rfl, hcs⟩
          · subst h3
            have h0 : len = 0 := by simpa using hle
            subst h0
            simp [byteL] at hb
            subst hb
            cases base with
            | none => rfl
            | some a => rfl
          · obtain ⟨vs, hvs, hcell⟩ := RepC.list (RepC.take len hcs)
            have hlen : vs.length = len := by rw [hvs.length]; simp; omega
            have hvb := byteL_rep hb hvs
            have hrun := run_loadCells_list (P := P) W ⟨b, o, none⟩ vs (fun j u hu => by rw [addr_add]; exact hcell j u hu)
            rw [hlen, hvb] at hrun
            have := run_bytesToString (P := P) W ⟨b, o, none⟩ len cap (l.map fun b => (b.toNat : Int)) (by rw [hrun]; simp)
            rw [this, foldl_push_bytes]
            congr 2
            apply ByteArray.ext
            simp [ByteArray.empty, ByteArray.emptyWithCapacity]
            try rfl
      · cases h
    · cases h
  · cases h
def vsliceData (H : Nat → Option VObj) (x : VV) : Option VV :=
  match x with
  | .ref β off len _ _ => if 0 < len ∧ (H β).isSome = true then some (.ptr β off) else none
  | .sl cs len _ => if 0 < len ∧ cs ≠ [] then some (.tp cs) else none
  | _ => none
theorem stp_sliceData {P : Program} {c : Ctx} {W : World} (s : Sim c W) {γ : Nat} {ts : Array TypeId} {ty : TypeId} {x y : VV} {v : Value} (h : vsliceData c.H x = some y) (hr : Rep c W x v) : Stp P (asNext (Builtin.unsafeSliceData_ ts ty #[v])) c W γ y .none := by
  unfold vsliceData at h
  split at h
  · rename_i β off len es cp
    split at h
    · rename_i hc
      cases h
      obtain ⟨cap, rfl, h1, h2, h3⟩ := hr.2 hc.2
      exact Stp.same s (run_asNext (Lib.run_unsafeSliceData_row (P := P) W ts ty ⟨c.φ β, off, none⟩ len cap (by omega))) ⟨⟨hr.1.1, rfl⟩, fun _ => rfl⟩
    · cases h
  · rename_i cs len full
    split at h
    · rename_i hc
      cases h
      obtain ⟨base, cap, rfl, h1, h2, h3⟩ := hr
      rcases h3 with h3 | ⟨b, o, rfl, hA, hcs⟩
      · exact absurd h3 hc.2
      · exact Stp.same s (run_asNext (Lib.run_unsafeSliceData_row (P := P) W ts ty ⟨b, o, none⟩ len cap (by omega))) ⟨b, o, rfl, hA, hcs⟩
    · cases h
  · cases h
theorem kill_ok {c : Ctx} {W W' : World} (s : Sim c W) {β : Nat} {el : Option TypeId} {cs : List VV} (hβ : c.H β = some (.cells el cs)) (hb : But W W' (c.φ β)) :
    Ext c W (c.sub (without c.H β)) W' ∧ Sim (c.sub (without c.H β)) W' := by
  have hlive : c.live β := by simp [Ctx.live, hβ]
  have hsub := SubHeap.without c.H β
  have hne : ∀ x, (without c.H β x).isSome = true → c.φ x ≠ c.φ β := by
    intro x hx e
    have := s.inj x β (hsub.live hx) hlive e
    subst this
    simp [without] at hx
  have he : Ext c W (c.sub (without c.H β)) W' :=
    { A := fun _ h => h, newA := fun _ h => .inl h, used := fun _ h => h, live := fun x _ h => hsub.live h, φ := fun _ _ _ => rfl, room := fun _ _ _ => rfl,
      keep := fun b hlt hn => hb.keep b hlt (fun e => hn β hlive e.symm), old := fun x h _ => ⟨x, hsub.live h, rfl⟩, size := hb.size, os := hb.os, tape := hb.tape, output := hb.output }
  refine ⟨he, fun x h => s.used x (hsub.live h), fun x ox hx => ?_, fun x h => Nat.lt_of_lt_of_le (s.lt x (hsub.live h)) hb.size, fun x h => s.notA x (hsub.live h), fun x y hx hy e => s.inj x y (hsub.live hx) (hsub.live hy) e, fun b hA => Nat.lt_of_lt_of_le (s.ltA b hA) hb.size⟩
  have hx0 : without c.H β x = some ox := hx
  have hxs : (without c.H β x).isSome = true := by simp [hx0]
  refine (s.obj x ox (hsub x ox hx0)).abides (he.abides s) (s.used x (hsub.live hxs)) (by simp [Ctx.live, Ctx.sub, hx0]) (hb.keep _ (s.lt x (hsub.live hxs)) (hne x hxs)) ?_
  intro st pe tm ps as bo df e'
  subst e'
  exact isDef.without hβ (s.loopOk (hsub x _ hx0))
def vunsafeString (P : Program) (H : Nat → Option VObj) (pt : TypeId) (p n : VV) : Option (VV × VEff) :=
  match p, n with
  | .ptr β 0, .lit (.int .i64 n) => match H β, P.underlying pt with
    | some (.cells (some e) cs), some (.pointer e') => if e' = e ∧ P.cellsOf e = 1 ∧ 0 < n ∧ n ≤ 9223372036854775807 ∧ n.toNat ≤ cs.length then (byteL (cs.take n.toNat)).map fun l => (.lit (.string ⟨⟨l⟩⟩), .kill β) else none
    | _, _ => none
  | _, _ => none
theorem But.freeze (W : World) (b n : Nat) : But W (W.freeze ⟨b, 0, none⟩ n) b := by
  unfold World.freeze
  split
  · exact But.refl W b
  · exact ⟨fun k hk hne => by simp [Array.getElem?_modify, hne, Ne.symm hne], by simp, rfl, rfl, rfl⟩
theorem stp_unsafeString {P : Program} {c : Ctx} {W : World} (s : Sim c W) {γ : Nat} {pt it ty : TypeId} {p n x : VV} {v w : Value} {eff : VEff} (h : vunsafeString P c.H pt p n = some (x, eff)) (hr : Rep c W p v) (hn : Rep c W n w) :
    Stp P (asNext (Builtin.unsafeString_ #[pt, it] ty #[v, w])) c W γ x eff := by
  unfold vunsafeString at h
  split at h
  · rename_i β k
    split at h
    · rename_i e cs e' hβ hp
      split at h
      · rename_i hc
        obtain ⟨c1, c2, c3, c4, c5⟩ := hc
        subst c1
        cases hb : byteL (cs.take k.toNat) with
        | none => simp [hb] at h
        | some l =>
          simp [hb] at h
          obtain ⟨rfl, rfl⟩ := h
          have hlive : c.live β := by simp [Ctx.live, hβ]
          have hv : v = .pointer (some ⟨c.φ β, 0, none⟩) := hr.2 hlive
          have hw : w = .int .i64 k := hn
          subst hv hw
          obtain ⟨arr, e0, g1, g2, g3, g4, g5⟩ := s.obj β _ hβ
          have he0 := g5 _ rfl
          subst he0
          obtain ⟨vs, hvs, hcell⟩ := RepC.list (RepC.take k.toNat (RepC.of_obj s hβ))
          have hvb := byteL_rep hb hvs
          have hlen : l.length = k.toNat := by
            have h1 := hvs.length
            rw [hvb] at h1
            simp at h1
            omega
          have hkl : (k : Int) = (l.length : Int) := by omega
          rw [hkl]
          have hrun := Lib.run_unsafeString_row (P := P) W pt it ty e0 hp c2 (c.φ β) arr.size (by simp [World.shape?, g1]) l (by intro e; subst e; simp at hlen; omega) (by omega) (by omega) (fun j u hu => by
            rw [addr_add]
            exact hcell j _ (by rw [hvb]; simp [hu]))
          obtain ⟨k1, k2⟩ := kill_ok s hβ (But.freeze W (c.φ β) l.length)
          exact ⟨_, _, _, _, run_asNext hrun, .inl rfl, rfl, k1, k2, rfl, fun _ h => .inl h⟩
      · cases h
    · cases h
  · cases h
def posSz (P : Program) (t : TypeId) : Bool := match szT P t with
  | some n => n != 0
  | none => false
theorem posSz_spec {P : Program} {t : TypeId} (h : posSz P t = true) : ∃ n, szT P t = some n ∧ n ≠ 0 := by
  unfold posSz at h
  split at h
  · rename_i n hn; exact ⟨n, hn, by simpa using h⟩
  · cases h
def vptrConv (P : Program) (H : Nat → Option VObj) (src dst : TypeId) (x : VV) : Option VV :=
  match x with
  | .ptr β off => match P.underlying src, P.underlying dst, H β with
    | some (.pointer t), some .unsafePointer, some (.cells _ cs) => if off < cs.length ∧ posSz P t = true then some (.ptr β off) else none
    | some .unsafePointer, some (.pointer u), some (.cells (some e) cs) => if e = u ∧ off = 0 ∧ P.cellsOf u ≠ 0 ∧ P.cellsOf u ≤ cs.length ∧ posSz P u = true then some (.ptr β 0) else none
    | _, _, _ => none
  | _ => none
theorem liesAt_one {P : Program} {e : TypeId} (hc : P.cellsOf e ≠ 0) {count : Nat} (hn : 1 ≤ count) : liesAt P P.depth e count 0 e 1 = true := by
  have hd : P.depth = (2 * (P.types.size + Made.depth) + 1) + 1 := rfl
  rw [hd]
  simp only [liesAt, Bool.or_eq_true]
  left
  rw [hd]
  simp [rowAt, hc, hn, sameLayout]
theorem stp_ptrConv {P : Program} {c : Ctx} {W : World} (s : Sim c W) {γ : Nat} {src dst : TypeId} {x y : VV} {v : Value} (h : vptrConv P c.H src dst x = some y) (hr : Rep c W x v) : Stp P (asNext (convert src dst v)) c W γ y .none := by
  unfold vptrConv at h
  split at h
  · rename_i β off
    split at h
    · rename_i t el cs hs hd hβ
      split at h
      · rename_i hc
        cases h
        obtain ⟨c1, c2⟩ := hc
        have hlive : c.live β := by simp [Ctx.live, hβ]
        have hv : v = .pointer (some ⟨c.φ β, off, none⟩) := hr.2 hlive
        subst hv
        obtain ⟨arr, e0, g1, g2, g3, g4, g5⟩ := s.obj β _ hβ
        have hsh : W.shape? (c.φ β) = some (e0, arr.size) := by simp [World.shape?, g1]
        obtain ⟨n, hn, c2⟩ := posSz_spec c2
        · refine Stp.same s (run_asNext (v := .pointer (some ⟨c.φ β, off, none⟩)) ?_) ⟨hr.1, fun _ => rfl⟩
          have hlt : ¬ arr.size ≤ off := by omega
          simp [convert, run_underlying hs, run_underlying hd, Conv.unsafePointer, Conv.seenAt, viewAt, hsh, cellsIn, run_sizeOf' hn, c2, hlt]
      · cases h
    · rename_i u e cs hs hd hβ
      split at h
      · rename_i hc
        cases h
        obtain ⟨c1, c2, c3, c4, c5⟩ := hc
        subst c1 c2
        have hlive : c.live β := by simp [Ctx.live, hβ]
        have hv : v = .pointer (some ⟨c.φ β, 0, none⟩) := hr.2 hlive
        subst hv
        obtain ⟨arr, e0, g1, g2, g3, g4, g5⟩ := s.obj β _ hβ
        have he0 := g5 _ rfl
        subst he0
        have hsh : W.shape? (c.φ β) = some (e0, arr.size) := by simp [World.shape?, g1]
        obtain ⟨n, hn, c5⟩ := posSz_spec c5
        · have hlies := liesAt_one (P := P) c3 (count := arr.size / P.cellsOf e0) ((Nat.one_le_div_iff (Nat.pos_of_ne_zero c3)).2 (by omega))
          refine Stp.same s (run_asNext (v := .pointer (some ⟨c.φ β, 0, none⟩)) ?_) ⟨hr.1, fun _ => rfl⟩
          simp [convert, run_underlying hs, run_underlying hd, Conv.unsafePointer, Conv.seenAt, viewAt, hsh, variablesAt, run_sizeOf' hn, c5, hlies]
      · cases h
    · cases h
  · cases h
def vptrEq (P : Program) (H : Nat → Option VObj) (op : BinOp) (t : TypeId) (a b : VV) : Option VV :=
  match op with
  | .eql => (eq1 P H t a b).map fun r => .lit (.bool r)
  | .neq => (eq1 P H t a b).map fun r => .lit (.bool !r)
  | _ => none
 where eq1 (P : Program) (H : Nat → Option VObj) (t : TypeId) (a b : VV) : Option Bool :=
  match P.underlying t with
  | some (.pointer el) => match szT P el with
    | some n => if n = 0 then none else match a, b with
      | .ptr β o1, .ptr δ o2 => if β = δ ∧ (H β).isSome = true then some (o1 == o2) else none
      | .ptr β _, .lit (.pointer none) => if (H β).isSome = true then some false else none
      | .lit (.pointer none), .ptr β _ => if (H β).isSome = true then some false else none
      | _, _ => none
    | none => none
  | some (.slice _) => match a, b with
    | .ref β _ _ _ _, .lit (.slice none 0 0) => if (H β).isSome = true then some false else none
    | .sl cs _ _, .lit (.slice none 0 0) => if cs ≠ [] then some false else none
    | _, _ => none
  | _ => none
theorem run_eqIn_ptr {P : Program} (W : World) (d : Nat) (t el : TypeId) (b o1 o2 n : Nat) (hu : P.underlying t = some (.pointer el)) (hn : szT P el = some n) (h0 : n ≠ 0) :
    (Op.equalIn (d + 1) t (.pointer (some ⟨b, o1, none⟩)) (.pointer (some ⟨b, o2, none⟩))).run P W = .ok (o1 == o2) W := by
  have e3 : ((⟨b, o1, none⟩ : Addr) == ⟨b, o2, none⟩) = (o1 == o2) := by
    rw [Bool.eq_iff_iff]; simp
  simp [Op.equalIn, run_underlying hu, run_sizeOf' hn, h0, sameAddr, e3]
theorem run_eqIn_nil {P : Program} (W : World) (d : Nat) (t el : TypeId) (a : Addr) (hu : P.underlying t = some (.pointer el)) :
    (Op.equalIn (d + 1) t (.pointer (some a)) (.pointer none)).run P W = .ok false W := by
  simp [Op.equalIn, run_underlying hu]
theorem run_eqIn_nil' {P : Program} (W : World) (d : Nat) (t el : TypeId) (a : Addr) (hu : P.underlying t = some (.pointer el)) :
    (Op.equalIn (d + 1) t (.pointer none) (.pointer (some a))).run P W = .ok false W := by
  simp [Op.equalIn, run_underlying hu]
theorem eq1_run {P : Program} {c : Ctx} {W : World} {t : TypeId} {a b : VV} {u v : Value} {r : Bool} (h : vptrEq.eq1 P c.H t a b = some r) (ha : Rep c W a u) (hb : Rep c W b v) :
    (Op.equal t u v).run P W = .ok r W ∧ ((∃ p q, u = .pointer p ∧ v = .pointer q) ∨ ∃ a1 l1 c1 a2 l2 c2, u = .slice a1 l1 c1 ∧ v = .slice a2 l2 c2) := by
  unfold vptrEq.eq1 at h
  split at h
  · rename_i el hu
    split at h
    · rename_i n hn
      split at h
      · cases h
      · rename_i h0
        split at h
        · rename_i β o1 δ o2
          split at h
          · rename_i hc
            cases h
            obtain ⟨c1, c2⟩ := hc
            subst c1
            have e1 : u = .pointer (some ⟨c.φ β, o1, none⟩) := ha.2 c2
            have e2 : v = .pointer (some ⟨c.φ β, o2, none⟩) := hb.2 c2
            subst e1 e2
            refine ⟨?_, .inl ⟨_, _, rfl, rfl⟩⟩
            exact run_eqIn_ptr W 9999 t el (c.φ β) o1 o2 n hu hn h0
          · cases h
        · rename_i β o1
          split at h
          · rename_i hc
            cases h
            have e1 : u = .pointer (some ⟨c.φ β, o1, none⟩) := ha.2 hc
            have e2 : v = .pointer none := hb
            subst e1 e2
            exact ⟨run_eqIn_nil W 9999 t el _ hu, .inl ⟨_, _, rfl, rfl⟩⟩
          · cases h
        · rename_i β o1
          split at h
          · rename_i hc
            cases h
            have e1 : u = .pointer none := ha
            have e2 : v = .pointer (some ⟨c.φ β, o1, none⟩) := hb.2 hc
            subst e1 e2
            exact ⟨run_eqIn_nil' W 9999 t el _ hu, .inl ⟨_, _, rfl, rfl⟩⟩
          · cases h
        · cases h
    · cases h
  · rename_i el hu
    split at h
    · rename_i β off len es cp
      split at h
      · rename_i hc
        cases h
        obtain ⟨cap, e1, _⟩ := ha.2 hc
        have e2 : v = .slice none 0 0 := hb
        subst e1 e2
        exact ⟨run_equal_slice_nil W t el _ _ _ hu, .inr ⟨_, _, _, _, _, _, rfl, rfl⟩⟩
      · cases h
    · rename_i cs len full
      split at h
      · rename_i hc
        cases h
        obtain ⟨base, cap, e1, _, _, h3⟩ := ha
        have e2 : v = .slice none 0 0 := hb
        subst e1 e2
        rcases h3 with h3 | ⟨b, o, rfl, _⟩
        · exact absurd h3 hc
        · exact ⟨run_equal_slice_nil W t el _ _ _ hu, .inr ⟨_, _, _, _, _, _, rfl, rfl⟩⟩
      · cases h
    · cases h
  · cases h
theorem vptrEq_run {P : Program} {c : Ctx} {W : World} {op : BinOp} {t : TypeId} {x y : Operand} {a b z : VV} {u v : Value} (h : vptrEq P c.H op t a b = some z) (ha : Rep c W a u) (hb : Rep c W b v) :
    ∃ w, ((do eqGuard op t x y u v; binOp op t u v) : Sem Value).run P W = .ok w W ∧ Rep c W z w := by
  unfold vptrEq at h
  split at h
  · cases hq : vptrEq.eq1 P c.H t a b with
    | none => simp [hq] at h
    | some r =>
      simp [hq] at h
      subst h
      obtain ⟨h1, ⟨p, q, rfl, rfl⟩ | ⟨_, _, _, _, _, _, rfl, rfl⟩⟩ := eq1_run hq ha hb
      all_goals exact ⟨.bool r, by simp [eqGuard, binOp, h1], rfl⟩
  · cases hq : vptrEq.eq1 P c.H t a b with
    | none => simp [hq] at h
    | some r =>
      simp [hq] at h
      subst h
      obtain ⟨h1, ⟨p, q, rfl, rfl⟩ | ⟨_, _, _, _, _, _, rfl, rfl⟩⟩ := eq1_run hq ha hb
      all_goals exact ⟨.bool !r, by simp [eqGuard, binOp, h1], rfl⟩
  · cases h
def vclear (P : Program) (H : Nat → Option VObj) (t : TypeId) (x : VV) : Option (VV × VEff) :=
  match P.underlying t, nilS x with
  | some (.slice _), .sl [] 0 _ => some (.tup [], .none)
  | some (.slice e), .ref β off len es _ => match H β, vzero P e with
    | some (.cells el cs), some z => if 0 < len ∧ z.size = es ∧ off + len * es ≤ cs.length ∧ (vzeros z (len * es)).all VV.leaf = true then some (.tup [], .upd β (.cells el (overwrite cs off (vzeros z (len * es))))) else none
    | _, _ => none
  | _, _ => none
theorem stp_clear {P : Program} {c : Ctx} {W : World} (s : Sim c W) {γ : Nat} {t ty : TypeId} {x y : VV} {v : Value} {eff : VEff} (h : vclear P c.H t x = some (y, eff)) (hr : Rep c W x v) : Stp P (asNext (Builtin.clear_ #[t] ty #[v])) c W γ y eff := by
  replace hr := nilS_rep hr
  unfold vclear at h
  generalize nilS x = x' at h hr
  split at h
  · rename_i e full hu
    cases h
    obtain ⟨base, cap, rfl, h1, h2, h3⟩ := hr
    refine Stp.same s (run_asNext (v := .tuple #[]) ?_) ⟨[], rfl, rfl⟩
    cases base <;> simp [Builtin.clear_, run_underlying hu]
  · rename_i e β off len es cp hu
    split at h
    · rename_i el cs z hβ hz
      split at h
      · rename_i hc
        obtain ⟨c1, c2, c3, c4⟩ := hc
        cases h
        subst c2
        have hlive : c.live β := by simp [Ctx.live, hβ]
        obtain ⟨cap, hv, hcap, hrm, _⟩ := hr.2 hlive
        subst hv
        obtain ⟨zv, hzr, hzc, _⟩ := vzero_run hz W
        have hrep := vzeros_rep (c := c) (W := W) z (len * z.size)
        have hl := hrep.length
        simp only [Array.length_toList, Array.size_map, Array.size_range] at hl
        obtain ⟨W', hst, he, hs⟩ := store_obj (P := P) (off := off) s hβ hrep (all_one c4 hrep) (by omega)
        refine ⟨_, .tuple #[], W', c.upd β (.cells el (overwrite cs off (vzeros z (len * z.size)))), run_asNext ?_, .inl rfl, ⟨[], rfl, rfl⟩, he, hs, rfl, fun _ h => .inl h⟩
        have hne : len ≠ 0 := by omega
        obtain ⟨k, rfl⟩ : ∃ k, len = k + 1 := ⟨len - 1, by omega⟩
        simp only [Array.toList_map, Array.toList_range] at hst
        simp [Builtin.clear_, run_underlying hu, hzr, Builtin.zeroCells, hzc, hst]
      · cases h
    · cases h
  · cases h
def vnative (P : Program) (f : FuncId) (args : List VV) : Option VV :=
  match P.funcs[f]? with
  | some fn => match fn.body with
    | some _ => none
    | none => if fn.name = "internal/abi.NoEscape" ∧ (Extern.findNext fn).isNone = true then match args with
        | [x] => some x
        | _ => none
      else match valL? args with
      | some vs => match evalP P (callFunc f ⟨vs⟩) with
        | some (.value v) => some (ofVal v)
        | _ => none
      | none => none
  | none => none
theorem noEscape_row (fn : Func) (h : fn.name = "internal/abi.NoEscape") : Extern.find fn = some Extern.AbiNoEscape.same := by
  have h1 : Extern.allGenericRows.lookup "internal/abi.NoEscape" = none := by kernel_rfl
  have h2 : Extern.allTypedRows.lookup "internal/abi.NoEscape" = none := by kernel_rfl
  have h3 : Extern.allRows.lookup "internal/abi.NoEscape" = some Extern.AbiNoEscape.same := by kernel_rfl
  simp [Extern.find, h, h1, h2, h3]
theorem vnative_run {P : Program} {c : Ctx} {W : World} {f : FuncId} {args : List VV} {vs : List Value} {y : VV} (h : vnative P f args = some y) (hr : RepL c W args vs) : ∃ v, (callFunc f ⟨vs⟩).run P W = .ok (.value v) W ∧ Rep c W y v := by
  unfold vnative at h
  split at h
  · rename_i fn hf
    split at h
    · cases h
    · rename_i hb
      split at h
      · rename_i hn
        split at h
        · rename_i x
          cases h
          obtain ⟨u, us, e, h1, h2⟩ := hr
          have e2 : us = [] := h2
          subst e2
          subst e
          have hnx : Extern.findNext fn = none := by simpa using hn.2
          have hng : ¬ fn.name = "runtime.NumGoroutine" := by rw [hn.1]; decide
          refine ⟨u, ?_, h1⟩
          have hs : Extern.AbiNoEscape.same (⟨[u]⟩ : Array Value) = pure u := rfl
          simp [callFunc, hf, hb, hng, hnx, noEscape_row fn hn.1, hs]
        · cases h
      · split at h
        · rename_i vs' hvs
          split at h
          · rename_i v hv
            cases h
            have e := repL_val hvs hr
            subst e
            exact ⟨v, evalP_run hv W, rep_ofVal c W v⟩
          · cases h
        · cases h
  · cases h
def vsliceX (P : Program) (H : Nat → Option VObj) (t : TypeId) (x : VV) (lo hi mx : Option VV) : Option VV :=
  match mx with
  | some _ => none
  | none => match P.underlying t, x with
    | some (.slice e), .ref β off _ es cp => match hi with
      | none => none
      | some z => match szT P e, vbound 0 lo, vbound 0 (some z) with
        | some n, some l, some h => if l < h ∧ h ≤ cp ∧ n = es ∧ (H β).isSome = true then some (.ref β (off + l * n) (h - l) n (cp - l)) else none
        | _, _, _ => none
    | some (.array n e), .ptr β off => match H β with
      | some (.cells _ cs) => match szT P e, vbound 0 lo, vbound n hi with
        | some sz, some l, some h => if l ≤ h ∧ h ≤ n ∧ l < n ∧ off + n * sz ≤ cs.length then some (.ref β (off + l * sz) (h - l) sz (n - l)) else none
        | _, _, _ => none
      | _ => none
    | _, _ => none
theorem vbound_any (d d' : Nat) (z : VV) : vbound d (some z) = vbound d' (some z) := by
  cases z <;> try rfl
  rename_i v
  cases v <;> rfl
theorem run_boundsX {P : Program} {c : Ctx} {W : World} {lo hi : Option VV} {vlo vhi : Option Value} {l h len cap : Nat} {b : Bool} (hlo : vbound 0 lo = some l) (hhi : vbound len hi = some h)
    (rlo : RepO c W lo vlo) (rhi : RepO c W hi vhi) (h1 : l ≤ h) (h2 : h ≤ cap) : (Instr.sliceBounds b len cap vlo vhi none).run P W = .ok (l, h, cap) W := by
  unfold Instr.sliceBounds
  cases hi with
  | none =>
    cases vhi with
    | some _ => exact rhi.elim
    | none =>
      have e := vbound_none hhi
      subst e
      cases lo with
      | none =>
        cases vlo with
        | some _ => exact rlo.elim
        | none => have e := vbound_none hlo; subst e; simp
      | some x =>
        cases vlo with
        | none => exact rlo.elim
        | some v => simp [run_sliceBound hlo rlo h1]
  | some y =>
    cases vhi with
    | none => exact rhi.elim
    | some u =>
      cases lo with
      | none =>
        cases vlo with
        | some _ => exact rlo.elim
        | none => have e := vbound_none hlo; subst e; simp [run_sliceBound hhi rhi h2]
      | some x =>
        cases vlo with
        | none => exact rlo.elim
        | some v => simp [run_sliceBound hhi rhi h2, run_sliceBound hlo rlo h1]
theorem stp_sliceX {P : Program} {c : Ctx} {W : World} (s : Sim c W) {γ : Nat} {t : TypeId} {x y : VV} {v : Value} {lo hi mx : Option VV} {vlo vhi vmx : Option Value} (h : vsliceX P c.H t x lo hi mx = some y) (hr : Rep c W x v)
    (rlo : RepO c W lo vlo) (rhi : RepO c W hi vhi) (rmx : RepO c W mx vmx) : Stp P (asNext (Instr.sliceAt t v vlo vhi vmx)) c W γ y .none := by
  unfold vsliceX at h
  split at h
  · cases h
  · have hmx : vmx = none := by cases vmx with | none => rfl | some _ => exact rmx.elim
    subst hmx
    split at h
    · rename_i e β off len es cp hu
      split at h
      · cases h
      · rename_i z
        split at h
        · rename_i n l hh hn hlo hhi
          split at h
          · rename_i hc
            obtain ⟨c1, c2, c3, c4⟩ := hc
            cases h
            subst c3
            obtain ⟨cap, e1, h1, h2, h3⟩ := hr.2 c4
            subst e1
            have hhi' : vbound len (some z) = some hh := by rw [vbound_any len 0]; exact hhi
            have hb := run_boundsX (P := P) (b := true) (cap := cap) hlo hhi' rlo rhi (by omega) (by omega)
            have hne : ¬ (cap = l) := by omega
            refine Stp.same s (run_asNext (v := .slice (some ⟨c.φ β, off + l * n, none⟩) (hh - l) (cap - l)) ?_) ⟨hr.1.imp id (fun _ => rfl), fun _ => ⟨cap - l, rfl, by omega, ?_, by omega⟩⟩
            · simp [Instr.sliceAt, run_underlying hu, Instr.slice, hb, run_sizeOf' hn, hne, addr_add]
            · have e3 : l * n + (cap - l) * n = cap * n := by rw [← Nat.add_mul]; congr 1; omega
              omega
          · cases h
        · cases h
    · rename_i n e β off hu
      split at h
      · rename_i el cs hβ
        split at h
        · rename_i sz l hh hn hlo hhi
          split at h
          · rename_i hc
            obtain ⟨c1, c2, c3, c4⟩ := hc
            cases h
            have hlive : c.live β := by simp [Ctx.live, hβ]
            have hv : v = .pointer (some ⟨c.φ β, off, none⟩) := hr.2 hlive
            subst hv
            obtain ⟨arr0, e0, g1, g2, g3, g4, g5⟩ := s.obj β _ hβ
            have hb := run_boundsX (P := P) (b := false) (cap := n) hlo hhi rlo rhi c1 c2
            have hne : ¬ (n = l) := by omega
            refine Stp.same s (run_asNext (v := .slice (some ⟨c.φ β, off + l * sz, none⟩) (hh - l) (n - l)) ?_) ⟨⟨s.used β hlive, rfl⟩, fun _ => ⟨n - l, rfl, by omega, ?_, Nat.le_refl _⟩⟩
            · simp [Instr.sliceAt, Instr.sureAddr, run_underlying hu, hb, run_sizeOf' hn, hne, addr_add]
            · have e3 : l * sz + (n - l) * sz = n * sz := by rw [← Nat.add_mul]; congr 1; omega
              rw [← g2]
              omega
          · cases h
        · cases h
      · cases h
    · cases h
end Go.V
end
