/- Part of a proof. -/
import Derived.Test.YtmhlghgbfmcdaaaGreatDoorG6aa
import Derived.IntWalk
import Derived.Laws.BytesString
import Derived.Lib.UnsafeStr
import Derived.Laws.Cover3
set_option linter.all false
section
namespace Go.V
open Go IntKind
def vlen (P : Program) (H : Nat → Option VObj) (t : TypeId) (x : VV) : Option VV :=
 match P.underlying t with
 | some .string => match x with | .lit (.string s) => some (.lit (.int .i64 s.size)) | _ => none
 | some (.slice _) => match sls H x with | some (_, len) => some (.lit (.int .i64 len)) | none => none
 | some (.array n _) => some (.lit (.int .i64 n))
 | some (.map _ _) => match x with
  | .lit (.map none) => some (.lit (.int .i64 0))
  | .mp β => match H β with | some (.map es) => some (.lit (.int .i64 es.length)) | _ => none
  | .mt ks _ => some (.lit (.int .i64 ks.length))
  | _ => none
 | _ => none
theorem F3 {P : Program} {c : Ctx} {W : World} (s : Sim c W) {γ : Nat} {t ty : TypeId} {x y : VV} {v : Value} (h : vlen P c.H t x = some y) (hr : Rep c W x v) :
  Stp P (aU (Builtin.len_ #[t] ty #[v])) c W γ y .none := by
 unfold vlen at h
 split at h
 ·rename_i hu
  split at h
  ·rename_i st
   cases h
   have : v = .string st := hr
   subst this
   exact Stp.same s (bU (by simp [Builtin.len_, run_underlying hu, goInt])) rfl
  ·cases h
 ·rename_i e hu
  split at h
  ·rename_i cs len hs
   cases h
   obtain ⟨base, cap, rfl, _⟩ := xD s hs hr
   exact Stp.same s (bU (v := .int .i64 len) (by simp [Builtin.len_, run_underlying hu, goInt])) rfl
  ·cases h
 ·rename_i n e hu
  cases h
  exact Stp.same s (bU (by simp [Builtin.len_, run_underlying hu, goInt])) rfl
 ·rename_i k e hu
  split at h
  ·cases h
   have : v = .map none := hr
   subst this
   exact Stp.same s (bU (by simp [Builtin.len_, run_underlying hu, goInt])) rfl
  ·rename_i β
   split at h
   ·rename_i es hβ
    cases h
    have : v = .map (some (c.φ β)) := hr.2 (by simp [Ctx.live, hβ])
    subst this
    obtain ⟨ents, clk, h1, h2, _⟩ := s.obj β _ hβ
    have hl : ents.size = es.length := by
     have := congrArg List.length h2
     simpa using this
    refine Stp.same s (bU (v := .int .i64 es.length) ?_) rfl
    have hg : (getObj (c.φ β)).run P W = .ok (.map ents clk) W := by simp [getObj, Sem.run, h1]
    simp [Builtin.len_, run_underlying hu, hg, goInt, hl]
   ·cases h
  ·rename_i ks vs
   cases h
   obtain ⟨b, e, _, ents, clk, h1, h2, _⟩ := hr
   subst e
   have hl : ents.size = ks.length := by
    have := congrArg List.length h2
    simpa using this
   refine Stp.same s (bU (v := .int .i64 ks.length) ?_) rfl
   have hg : (getObj b).run P W = .ok (.map ents clk) W := by simp [getObj, Sem.run, h1]
   simp [Builtin.len_, run_underlying hu, hg, goInt, hl]
  ·cases h
 ·cases h
def srcT (d : TypeDesc) : Prop := (∃ e, d = .slice e) ∨ d = .string
def srcV (H : Nat → Option VObj) (d2 : TypeDesc) (x : VV) (size : Nat) : Option (List VV × Nat) :=
 match d2 with
 | .slice _ => sls H x
 | .string => match x with
  | .lit (.string s) => if size = 1 then some (s.data.toList.map fun b => .lit (.int .u8 b.toNat), s.size) else none
  | _ => none
 | _ => none
def vappend1 (P : Program) (H : Nat → Option VObj) (γ : Nat) (t t2 : TypeId) (s x : VV) : Option (VV × VEff) :=
 match P.underlying t, P.underlying t2 with
 | some (.slice e), some d2 =>
  match P.info? e with
  | none => none
  | some inf =>
  match srcV H d2 x inf.size with
  | some (xs, n) =>
   match inf.zero with
   | some z =>
    if 0 < inf.size ∧ 0 < inf.bytes ∧ z.cells.size = inf.size ∧ n * inf.size ≤ xs.length ∧ (xs.take (n * inf.size)).all VV.leaf = true then
     match s with
     | .sl cs len full =>
      if n = 0 then some (s, .none)
      else if full = true ∧ cs.length = len * inf.size ∧ (len + n) * inf.bytes ≤ 140737488355328 then
       some (.ref γ 0 (len + n) inf.size (len + n), .new (.cells (some e) (cs ++ xs.take (n * inf.size))))
      else none
     | .ref β off len es cp =>
      match H β with
      | some (.cells el cs) =>
       if es = inf.size ∧ len + n ≤ cp ∧ off + (len + n) * inf.size ≤ cs.length then
        some (.ref β off (len + n) inf.size cp, .upd β (.cells el (overwrite cs (off + len * inf.size) (xs.take (n * inf.size)))))
       else if off = 0 ∧ es = inf.size ∧ cs.length = len * inf.size ∧ (len + n) * inf.bytes ≤ 140737488355328 then
        some (.ref γ 0 (len + n) inf.size (len + n), .mv β (sameEl el e) (cs ++ xs.take (n * inf.size)))
       else none
      | _ => none
     | _ => none
    else none
   | none => none
  | none => none
 | _, _ => none
def vappend (P : Program) (H : Nat → Option VObj) (γ : Nat) (t t2 : TypeId) (s x : VV) : Option (VV × VEff) := vappend1 P H γ t t2 (nilS s) x
theorem Jp {P : Program} {c : Ctx} {W : World} (s : Sim c W) {x : VV} {v : Value} {cs : List VV} {len size : Nat} (h : sls c.H x = some (cs, len)) (hr : Rep c W x v) (hle : len * size ≤ cs.length) :
  ∃ base cap l, v = .slice base len cap ∧ len ≤ cap ∧ l.length = len * size ∧ RepL c W (cs.take (len * size)) l ∧
   (∀ W', W'.heap = W.heap → (Builtin.firstCells size len v).run P W' = .ok ⟨l⟩ W') ∧ (∀ W', (Builtin.lenOf v).run P W' = .ok len W') := by
 obtain ⟨base, cap, e, hcap, h3⟩ := xD s h hr
 subst e
 rcases h3 with h3 | ⟨b, o, rfl, hcs⟩
 ·subst h3
  have h0 : len * size = 0 := by simpa using hle
  refine ⟨base, cap, [], rfl, hcap, by simp [h0], by simp [RepL], fun W' _ => ?_, fun W' => by simp [Builtin.lenOf]⟩
  cases base with
  | none => simp [Builtin.firstCells]
  | some a => simp [Builtin.firstCells, h0, loadCells, loadCellsFrom]
 ·obtain ⟨l, hl, hc⟩ := RepC.list (RepC.take (len * size) hcs)
  have hlen : l.length = len * size := by rw [hl.length]; simp; omega
  refine ⟨_, cap, l, rfl, hcap, hlen, hl, fun W' hW => ?_, fun W' => by simp [Builtin.lenOf]⟩
  have hcell : ∀ a, W'.cell? a = W.cell? a := fun a => by unfold World.cell?; rw [hW]
  have := run_loadCells_list (P := P) W' ⟨b, o, none⟩ l (fun j u hu => by rw [hcell, iW]; exact hc j u hu)
  rw [hlen] at this
  simpa [Builtin.firstCells] using this
theorem Nk {c : Ctx} {W : World} : ∀ l : List UInt8, RepL c W (l.map fun b => .lit (.int .u8 b.toNat)) (l.map fun b => Value.int .u8 b.toNat)
 | [] => rfl
 | _ :: l => ⟨_, _, rfl, rfl, Nk l⟩
theorem Jq {P : Program} {c : Ctx} {W : World} (s : Sim c W) {d2 : TypeDesc} {x : VV} {v : Value} {cs : List VV} {len size : Nat} (h : srcV c.H d2 x size = some (cs, len)) (hr : Rep c W x v) (hle : len * size ≤ cs.length) :
  srcT d2 ∧ ∃ l : List Value, l.length = len * size ∧ RepL c W (cs.take (len * size)) l ∧
   (∀ W', W'.heap = W.heap → (Builtin.firstCells size len v).run P W' = .ok ⟨l⟩ W') ∧ (∀ W', (Builtin.lenOf v).run P W' = .ok len W') := by
 cases d2 with
 | slice e2 =>
  obtain ⟨_, _, l, _, _, h1, h2, h3, h4⟩ := Jp (P := P) s (show sls c.H x = some (cs, len) from h) hr hle
  exact ⟨.inl ⟨e2, rfl⟩, l, h1, h2, h3, h4⟩
 | string =>
  simp only [srcV] at h
  split at h
  ·rename_i st
   split at h
   ·rename_i hs
    cases h
    subst hs
    have e : v = .string st := hr
    subst e
    have hsz : st.data.toList.length = st.size := Array.length_toList
    refine ⟨.inr rfl, st.data.toList.map fun b => Value.int .u8 b.toNat, by rw [List.length_map, hsz, Nat.mul_one], ?_, fun W' _ => ?_, fun W' => by simp [Builtin.lenOf]⟩
    ·rw [List.take_of_length_le (by rw [List.length_map, hsz, Nat.mul_one]; exact Nat.le_refl _)]
     exact Nk _
    ·simp only [Builtin.firstCells, Sem.run_pure]
     congr 1
     apply Array.ext'
     have : st.extract 0 st.size = st := by simp
     rw [this]
     simp
   ·cases h
  ·cases h
 | _ => simp [srcV] at h
theorem yw {c : Ctx} {W : World} : ∀ {cs : List VV} {l : List Value}, cs.all VV.leaf = true → RepL c W cs l → ∀ u ∈ l, u.oneCell' = true
 | [], l, _, h, u, hu => by have : l = [] := h; subst this; cases hu
 | y :: ys, _, ha, ⟨w, ws, e, h1, h2⟩, u, hu => by
  subst e
  simp only [List.all_cons, Bool.and_eq_true] at ha
  rcases List.mem_cons.1 hu with rfl | hu
  ·exact E6 ha.1 h1
  ·exact yw ha.2 h2 u hu
theorem But.drew_alloc (W : World) (o : Obj) : But W (W.drew.alloc o) W.heap.size :=
 (But.drew W _).trans (But.alloc W.drew o)
theorem Nl {P : Program} {W : World} {t t2 ty e : TypeId} {d2 : TypeDesc} {i : TypeInfo} {z v : Value} {base : Option Addr} {sLen sCap n : Nat} {olds news : List Value}
  (ht : P.underlying t = some (.slice e)) (wi : P.underlying t2 = some d2) (lZ : srcT d2) (hi : P.info? e = some i) (hz : i.zero = some z)
  (ho : ∀ W', W'.heap = W.heap → (Builtin.firstCells i.size sLen (.slice base sLen sCap)).run P W' = .ok ⟨olds⟩ W')
  (hn : ∀ W', W'.heap = W.heap → (Builtin.firstCells i.size n v).run P W' = .ok ⟨news⟩ W') (hlen : ∀ W', (Builtin.lenOf v).run P W' = .ok n W')
  (hg : sCap < sLen + n) (hb : (sLen + n) * i.bytes ≤ 140737488355328) (mm : 0 < i.bytes) :
  (Builtin.append_ #[t, t2] ty #[.slice base sLen sCap, v]).run P W =
   .ok (.slice (some ⟨W.heap.size, 0, none⟩) (sLen + n) (grownCap W (sLen + n) sCap e))
    (W.drew.alloc (.cells (⟨olds ++ news⟩ ++ Builtin.zeroCells z.cells (grownCap W (sLen + n) sCap e - (sLen + n))) e)) := by
 have h1 : ¬ (sLen + n ≤ sCap) := by omega
 have TC : sLen + n ≤ 140737488355328 := Nat.le_trans (Nat.le_mul_of_pos_right _ mm) hb
 have h63' : ¬ (9223372036854775807 < ((sLen : Int) + (n : Int))) := by omega
 have h48' : ¬ (281474976710656 < Builtin.nextslicecap (sLen + n) sCap * i.bytes) := Nat.not_lt.2 (growslice_fits hg hb)
 have hn' := hn W.drew rfl
 have ho' := ho W.drew rfl
 rcases lZ with ⟨e2, rfl⟩ | rfl <;>
  simp [Builtin.append_, run_underlying ht, run_underlying wi, sizeOf, typeInfo, zeroValue, hi, hz, hlen, h1, h63', h48', Question.forced, hn', ho', newRow, grownCap]
 all_goals
  congr 2
  apply Array.ext'
  simp
theorem S4 {P : Program} {W : World} {t t2 ty e : TypeId} {d2 : TypeDesc} {i : TypeInfo} {v : Value} {b sLen sCap n : Nat} {news : List Value}
  (ht : P.underlying t = some (.slice e)) (wi : P.underlying t2 = some d2) (lZ : srcT d2) (hi : P.info? e = some i)
  (hn : ∀ W', W'.heap = W.heap → (Builtin.firstCells i.size n v).run P W' = .ok ⟨news⟩ W') (hlen : ∀ W', (Builtin.lenOf v).run P W' = .ok n W')
  (hl : news.length = n * i.size) (h1 : ∀ u ∈ news, u.oneCell' = true) {cur : Array Value} {e' : TypeId} (hg : W.heap[b]? = some (.cells cur e' (0, 0)))
  (hroom : sLen + n ≤ sCap) (hfit : sLen * i.size + news.length ≤ cur.size) :
  (Builtin.append_ #[t, t2] ty #[.slice (some ⟨b, 0, none⟩) sLen sCap, v]).run P W =
   .ok (.slice (some ⟨b, 0, none⟩) (sLen + n) sCap) (W.setRow b (cur.toList.take (sLen * i.size) ++ news ++ cur.toList.drop (sLen * i.size + news.length)).toArray) := by
 have hst := run_storeCells_at P b (sLen * i.size) e' news 0 cur W hg (by simpa using hfit) h1
 simp only [Nat.add_zero] at hst
 have ha : (⟨b, 0, none⟩ : Addr).add (sLen * i.size) = ⟨b, sLen * i.size, none⟩ := by rw [iW]; simp
 rcases lZ with ⟨e2, rfl⟩ | rfl <;>
  simp [Builtin.append_, run_underlying ht, run_underlying wi, sizeOf, typeInfo, hi, hlen, hroom, hn W rfl, ha, hst]
theorem S5 {P : Program} {c : Ctx} {W : World} (s : Sim c W) {γ : Nat} (hγ : ¬ c.used γ) {t t2 ty : TypeId} {x y z : VV} {v w : Value} {eff : VEff} (h : vappend1 P c.H γ t t2 x y = some (z, eff)) (hr : Rep c W x v) (hw : Rep c W y w) :
  Stp P (aU (Builtin.append_ #[t, t2] ty #[v, w])) c W γ z eff := by
 unfold vappend1 at h
 split at h
 ·rename_i e d2 hu fg
  split at h
  ·cases h
  rename_i inf hi
  split at h
  ·rename_i xs n hx
   split at h
   ·rename_i zv hz
    split at h
    ·rename_i hc
     obtain ⟨c1, c2, c3, c4, c5⟩ := hc
     obtain ⟨lZ, news, hnl, hnr, hnf, hnlen⟩ := Jq (P := P) s hx hw c4
     split at h
     ·rename_i cs len full
      split at h
      ·rename_i h0
       cases h
       subst h0
       obtain ⟨base, cap, rfl, hcap, h2, h3⟩ := hr
       have hne : news = [] := by simpa using hnl
       subst hne
       have yx := hnf W rfl
       refine Stp.same s (bU (v := .slice base len cap) ?_) ⟨base, cap, rfl, hcap, h2, h3⟩
       cases base with
       | none => rcases lZ with ⟨e2, rfl⟩ | rfl <;> simp [Builtin.append_, run_underlying hu, run_underlying fg, sizeOf, typeInfo, hi, hnlen, hcap, yx]
       | some a => rcases lZ with ⟨e2, rfl⟩ | rfl <;> simp [Builtin.append_, run_underlying hu, run_underlying fg, sizeOf, typeInfo, hi, hnlen, hcap, yx, storeCells]
      ·split at h
       ·rename_i h0 hcc
        obtain ⟨d1, d2, d3⟩ := hcc
        cases h
        obtain ⟨base, cap, olds, hve, hcap, hol, hor, hof, _⟩ := Jp (P := P) (cs := cs) (len := len) (size := inf.size) s rfl hr (by omega)
        subst hve
        have hfull : cap = len := by
         obtain ⟨_, _, e1, _, h2, _⟩ := hr
         cases e1
         exact h2 d1
        subst hfull
        have hrun := Nl (ty := ty) hu fg lZ hi hz hof hnf hnlen (by omega) d3 c2
        have hge := grownCap_ge W (cap + n) cap e
        refine ⟨_, _, _, _, bU hrun, .inl rfl, ?_, Ext.push (o := .cells (some e) (cs ++ xs.take (n * inf.size))) (rm := (⟨olds ++ news⟩ ++ Builtin.zeroCells zv.cells (grownCap W (cap + n) cap e - (cap + n)) : Array Value).size) (ar.refl _) hγ (.inl (Nat.le_refl _)) (But.drew_alloc W _), ?_, rfl, fun β hb => hb.symm⟩
        ·refine mg hge ?_ (by omega)
         simp only [Array.size_append, List.size_toArray, size_zeroCells, c3, List.length_append, hol, hnl]
         rw [← Nat.add_mul, ← Nat.add_mul]
         exact Nat.mul_le_mul_right _ (by omega)
        ·refine Sim.push s (ar.refl _) hγ (.inl (Nat.le_refl _)) (But.drew_alloc W _) (by simp) (fun q hq e => by have := s.lt q hq; omega) (fun _ _ _ _ _ _ _ _ h => s.loopOk h) ?_
         have hcsl : cs.take (cap * inf.size) = cs := List.take_of_length_le (by omega)
         rw [hcsl] at hor
         refine ⟨⟨olds ++ news⟩ ++ Builtin.zeroCells zv.cells (grownCap W (cap + n) cap e - (cap + n)), e, ?_, ?_, ?_, ?_, fun _ h => by cases h; rfl⟩
         ·simp only [Ctx.push, if_true]; exact ml W.drew _
         ·simp only [Ctx.push, if_true]
         ·simp [hol, hnl, d2]; omega
         ·refine RepL.abides (oX s (ar.refl _) hγ (.inl (Nat.le_refl _)) (But.drew_alloc W _)) _ ?_
          have := RepL.append hor hnr
          have hlen2 := this.length
          rw [show ((⟨olds ++ news⟩ ++ Builtin.zeroCells zv.cells (grownCap W (cap + n) cap e - (cap + n)) : Array Value).toList).take (cs ++ xs.take (n * inf.size)).length = olds ++ news from ?_]
          ·exact this
          ·rw [← hlen2]
           simp only [Array.toList_append]
           rw [List.take_left']
           rfl
       ·cases h
     ·rename_i β off len es cp
      split at h
      ·rename_i el cs hβ
       split at h
       ·rename_i hcc
        obtain ⟨d0, d1, d2⟩ := hcc
        cases h
        subst d0
        have hlive : c.live β := by simp [Ctx.live, hβ]
        obtain ⟨cap, hve, hcap, hrm, hcp⟩ := hr.2 hlive
        subst hve
        have hml : (len + n) * inf.size = len * inf.size + n * inf.size := Nat.add_mul _ _ _
        have hxl : (xs.take (n * inf.size)).length = n * inf.size := by simp; omega
        obtain ⟨W', hst, he, hs⟩ := E9 (P := P) (off := off + len * inf.size) s hβ hnr (yw c5 hnr) (by omega)
        have yx := hnf W rfl
        have hroom : len + n ≤ cap := by omega
        refine ⟨_, .slice (some ⟨c.φ β, off, none⟩) (len + n) cap, W', c.upd β (.cells el (overwrite cs (off + len * inf.size) (xs.take (n * inf.size)))), bU ?_, .inl rfl, ⟨⟨s.used β hlive, rfl⟩, fun _ => ⟨cap, rfl, hroom, hrm, hcp⟩⟩, he, hs, rfl, fun _ h => .inl h⟩
        rcases lZ with ⟨e2, rfl⟩ | rfl <;> simp [Builtin.append_, run_underlying hu, run_underlying fg, sizeOf, typeInfo, hi, hnlen, hroom, yx, iW, hst]
       ·split at h
        rotate_left
        ·cases h
        rename_i hcc
        obtain ⟨d0, d1, d2, d3⟩ := hcc
        cases h
        subst d0 d1
        have hlive : c.live β := by simp [Ctx.live, hβ]
        obtain ⟨cap, hve, hcap, hrm, _⟩ := hr.2 hlive
        have hsl : sls c.H (.ref β 0 len inf.size cp) = some (cs, len) := by simp [sls, hβ]
        obtain ⟨base, cap', olds, hve', _, hol, hor, hof, _⟩ := Jp (P := P) (size := inf.size) s hsl hr (by omega)
        rw [hve] at hve'
        cases hve'
        subst hve
        have hcsl : cs.take (len * inf.size) = cs := List.take_of_length_le (by omega)
        rw [hcsl] at hor
        have hrep := RepL.append hor hnr
        have hlen2 := hrep.length
        have hfree : ∀ q, (without c.H β q).isSome = true → c.φ q ≠ c.φ β := by
         intro q hq e
         have hq' := (ar.without c.H β).live hq
         have := s.inj q β hq' hlive e
         subst this
         simp [without] at hq
        have hloop : ∀ x st pe tm ps as bo df, without c.H β x = some (.loop st pe tm ps as bo df) → isDef (without c.H β) df := by
         intro x st pe tm ps as bo df hx
         exact isDef.without hβ (s.loopOk (ar.without c.H β _ _ hx))
        by_cases hroom : len + n ≤ cap
        ·obtain ⟨arr, e', g1, g2, g3, g4, g5⟩ := s.obj β _ hβ
         have hbound : (len + n) * inf.size ≤ arr.size := by
          rw [g2]
          have := Nat.mul_le_mul_right inf.size hroom
          omega
         rw [Nat.add_mul] at hbound
         have hrun := S4 (ty := ty) (b := c.φ β) hu fg lZ hi hnf hnlen hnl (yw c5 hnr) g1 hroom (by omega)
         refine ⟨_, _, _, _, bU hrun, .inl rfl, ?_, Ext.push (o := .cells (sameEl el e) (cs ++ xs.take (n * inf.size))) (rm := c.room β) (ar.without _ β) hγ (.inr ⟨β, hlive, rfl⟩) (But.setRow W _ _), ?_, rfl, fun β hb => hb.symm⟩
         ·exact mg hroom (by omega) hroom
         ·refine Sim.push s (ar.without _ β) hγ (.inr ⟨β, hlive, rfl⟩) (But.setRow W _ _) (by simpa using s.lt β hlive) hfree hloop ?_
          refine ⟨(arr.toList.take (len * inf.size) ++ news ++ arr.toList.drop (len * inf.size + news.length)).toArray, e', ?_, ?_, ?_, ?_, fun _ h => by obtain ⟨rfl, h2⟩ := Mj h; exact g5 _ h2⟩
          ·simp only [Ctx.push, if_true]; exact setRow_heap W (c.φ β) arr _ e' (0, 0) g1
          ·simp only [Ctx.push, if_true]; rw [← g2]; simp; omega
          ·simp [hnl]; omega
          ·refine RepL.abides (oX s (ar.without _ β) hγ (.inr ⟨β, hlive, rfl⟩) (But.setRow W _ _)) _ ?_
           have e1 : ((arr.toList.take (len * inf.size) ++ news ++ arr.toList.drop (len * inf.size + news.length)).toArray.toList).take (cs ++ xs.take (n * inf.size)).length = arr.toList.take cs.length ++ news := by
            rw [← hlen2]
            simp only [d2]
            rw [List.take_left']
            simp; omega
           rw [e1]
           exact RepL.append g4 hnr
        ·have hrun := Nl (ty := ty) hu fg lZ hi hz hof hnf hnlen (by omega) d3 c2
         have hge := grownCap_ge W (len + n) cap e
         refine ⟨_, _, _, _, bU hrun, .inl rfl, ?_, Ext.push (o := .cells (sameEl el e) (cs ++ xs.take (n * inf.size))) (rm := (⟨olds ++ news⟩ ++ Builtin.zeroCells zv.cells (grownCap W (len + n) cap e - (len + n)) : Array Value).size) (ar.without _ β) hγ (.inl (Nat.le_refl _)) (But.drew_alloc W _), ?_, rfl, fun β hb => hb.symm⟩
         ·refine mg hge ?_ (by omega)
          simp only [Array.size_append, List.size_toArray, size_zeroCells, c3, List.length_append, hol, hnl]
          rw [← Nat.add_mul, ← Nat.add_mul]
          exact Nat.mul_le_mul_right _ (by omega)
         ·refine Sim.push s (ar.without _ β) hγ (.inl (Nat.le_refl _)) (But.drew_alloc W _) (by simp) (fun q hq e => by have := s.lt q ((ar.without c.H β).live hq); omega) hloop ?_
          refine ⟨⟨olds ++ news⟩ ++ Builtin.zeroCells zv.cells (grownCap W (len + n) cap e - (len + n)), e, ?_, ?_, ?_, ?_, fun _ h => (Mj h).1.symm⟩
          ·simp only [Ctx.push, if_true]; exact ml W.drew _
          ·simp only [Ctx.push, if_true]
          ·simp [hol, hnl, d2]; omega
          ·refine RepL.abides (oX s (ar.without _ β) hγ (.inl (Nat.le_refl _)) (But.drew_alloc W _)) _ ?_
           rw [show ((⟨olds ++ news⟩ ++ Builtin.zeroCells zv.cells (grownCap W (len + n) cap e - (len + n)) : Array Value).toList).take (cs ++ xs.take (n * inf.size)).length = olds ++ news from ?_]
           ·exact hrep
           ·rw [← hlen2]
            simp only [Array.toList_append]
            rw [List.take_left']
            rfl
      ·cases h
     ·cases h
    ·cases h
   ·cases h
  ·cases h
 ·cases h
theorem F4 {P : Program} {c : Ctx} {W : World} (s : Sim c W) {γ : Nat} (hγ : ¬ c.used γ) {t t2 ty : TypeId} {x y z : VV} {v w : Value} {eff : VEff} (h : vappend P c.H γ t t2 x y = some (z, eff)) (hr : Rep c W x v) (hw : Rep c W y w) :
  Stp P (aU (Builtin.append_ #[t, t2] ty #[v, w])) c W γ z eff := S5 s hγ h (uc hr) hw
def vmakeSlice (P : Program) (t : TypeId) (l k : VV) : Option (List VV × Nat × Nat) :=
 match P.underlying t, l, k with
 | some (.slice e), .lit (.int _ l), .lit (.int _ k) =>
  match P.info? e with
  | some inf =>
   match inf.zero with
   | some z =>
    if 0 ≤ l ∧ l ≤ k ∧ 0 < inf.size ∧ 0 < inf.bytes ∧ inf.bytes * k ≤ 140737488355328 ∧ z.cells.size = inf.size then
     some (vzeros z.cells (l.toNat * inf.size), l.toNat, inf.size)
    else none
   | none => none
  | none => none
 | _, _, _ => none
theorem wj {n : Int} (h0 : 0 ≤ n) (h : n ≤ 140737488355328) : i64.wrap n = n := by
 have : i64.wrap n = n := IntWalk.i64_in _ ⟨by omega, by omega⟩
 exact this
theorem QN {P : Program} {c : Ctx} {W : World} (s : Sim c W) {γ : Nat} (hγ : ¬ c.used γ) {t : TypeId} {x y : VV} {v w : Value} {cs : List VV} {len es : Nat} (h : vmakeSlice P t x y = some (cs, len, es))
  (hr : Rep c W x v) (hw : Rep c W y w) : Stp P (aU (Instr.makeSlice t v w)) c W γ (.ref γ 0 len es len) (.new (.cells (elemT P t) cs)) := by
 unfold vmakeSlice at h
 split at h
 ·rename_i e k1 l k2 k hu
  have hel : elemT P t = some e := by simp [elemT, hu]
  rw [hel]
  split at h
  ·rename_i inf hi
   split at h
   ·rename_i z hz
    split at h
    ·rename_i hc
     obtain ⟨c1, c2, c3, c4, c5, c6⟩ := hc
     cases h
     have hv : v = .int k1 l := hr
     have hw' : w = .int k2 k := hw
     subst hv hw'
     have hk : k ≤ 140737488355328 := by
      have h1 : (1 : Int) ≤ inf.bytes := by omega
      have := Int.mul_le_mul_of_nonneg_right h1 (show 0 ≤ k by omega)
      omega
     have wl := wj (n := l) (by omega) (by omega)
     have wk := wj (n := k) (by omega) (by omega)
     have hle : l.toNat * inf.size ≤ k.toNat * inf.size := Nat.mul_le_mul_right _ (by omega)
     refine uf (arr := (Array.range (k.toNat * inf.size)).map (fun i => z.cells[i % z.cells.size]!)) (t := e) s hγ ?_ (by simp [vzeros]; omega) ?_ (mg (cap := k.toNat) (by omega) (by simp) (by omega))
     ·have t1 : ¬ (k < 0 ∨ 281474976710656 < (inf.bytes : Int) * k) := by omega
      have t2 : ¬ (l < 0) := by omega
      have t3 : ¬ (k < l) := by omega
      have hn : inf.size ≠ 0 := by omega
      by_cases yn : k.toNat * inf.size = 0
      ·have vW : k = 0 := by
        rcases Nat.mul_eq_zero.1 yn with h | h <;> omega
       have gh : l = 0 := by omega
       subst vW gh
       have w0 : i64.wrap 0 = 0 := by decide
       simp [aU, Instr.makeSlice, run_underlying hu, asInt, asIntOf, typeInfo, hi, sizeOf, newRow, w0]
       have e0 : ∀ f : Nat → Value, (Array.range 0).map f = #[] := by intro f; simp
       rw [e0, e0]
      ·simp [aU, Instr.makeSlice, run_underlying hu, asInt, asIntOf, typeInfo, hi, wl, wk, t1, t2, t3, sizeOf, newRow, zeroValue, hz]
       intro h
       exact absurd h yn
     ·have : (vzeros z.cells (l.toNat * inf.size)).length = l.toNat * inf.size := by simp [vzeros]
      rw [this]
      have e1 : vzeros z.cells (l.toNat * inf.size) = (vzeros z.cells (k.toNat * inf.size)).take (l.toNat * inf.size) := by
       unfold vzeros
       rw [← List.map_take, List.take_range, Nat.min_eq_left hle]
      rw [e1]
      exact RepL.take _ (EG z.cells _)
    ·cases h
   ·cases h
  ·cases h
 ·cases h
theorem cK {α β : Type} {P : Program} : ∀ (x : Sem α) (f : α → Sem β), aE P (x >>= f) = (aE P x).bind fun a => aE P (f a)
 | .pure a, f => rfl
 | .program k, f => by
  show aE P ((k P).bind f) = _
  exact cK (k P) f
 | .load .., _ => rfl
 | .store .., _ => rfl
 | .new .., _ => rfl
 | .shape .., _ => rfl
 | .freeze .., _ => rfl
 | .frozen .., _ => rfl
 | .getObj .., _ => rfl
 | .setObj .., _ => rfl
 | .choose .., _ => rfl
 | .sys .., _ => rfl
 | .mark _ k, f => cK k f
 | .halt .., _ => rfl
theorem gF {α : Type} (P : Program) (a : α) : aE P (pure a : Sem α) = some a := rfl
def dummy (k : Value) : MapEntry := { key := k, val := .bool false, born := 0 }
def kfind (P : Program) (kt : TypeId) (k : Value) (keys : List Value) : Option (Option Nat) :=
 (aE P (Instr.findKey kt k (keys.map dummy))).map fun r => r.map (·.1)
def pairAt (es : List MapEntry) (i : Nat) : Option Nat → Option (Nat × Value)
 | none => none
 | some j => (es[j - i]?).map fun e => (j, e.val)
theorem Nm (kind : TypeDesc) (k : Value) : ∀ (es : List MapEntry) (i : Nat),
  match Instr.findNow kind k ((es.map (·.key)).map dummy) i with
  | none => Instr.findNow kind k es i = none
  | some none => Instr.findNow kind k es i = some none
  | some (some (j, _)) => ∃ e, i ≤ j ∧ es[j - i]? = some e ∧ Instr.findNow kind k es i = some (some (j, e.val))
 | [], i => by simp [Instr.findNow]
 | e :: es, i => by
  have ih := Nm kind k es (i + 1)
  simp only [List.map_cons, Instr.findNow, dummy]
  cases hs : Instr.sameNow kind k e.key with
  | none => simp
  | some b =>
   cases b with
   | true => exact ⟨e, Nat.le_refl _, by simp, rfl⟩
   | false =>
    simp only
    split at ih
    ·exact ih
    ·exact ih
    ·rename_i j v h
     obtain ⟨e', hle, he', hf⟩ := ih
     exact ⟨e', by omega, by rw [show j - i = (j - (i + 1)) + 1 by omega]; simpa using he', hf⟩
theorem Nn {P : Program} (kt : TypeId) (k : Value) (W : World) : ∀ (es : List MapEntry) (i : Nat) (r : Option (Nat × Value)),
  aE P (Instr.findAsking kt k ((es.map (·.key)).map dummy) i) = some r →
  (∀ p, r = some p → i ≤ p.1 ∧ p.1 - i < es.length) ∧ (Instr.findAsking kt k es i).run P W = .ok (pairAt es i (r.map (·.1))) W
 | [], i, r, h => by
  simp only [List.map_nil, Instr.findAsking, gF, Option.some.injEq] at h
  subst h
  exact ⟨fun p hp => (by cases hp), by simp [Instr.findAsking, pairAt]⟩
 | e :: es, i, r, h => by
  simp only [List.map_cons, Instr.findAsking, cK] at h
  cases hq : aE P (Op.equal kt k (dummy e.key).key) with
  | none => simp [hq] at h
  | some b =>
   simp only [hq, Option.bind_some] at h
   have hr := ju hq W
   simp only [dummy] at hr
   cases b with
   | true =>
    simp only [if_true] at h
    have : r = some (i, (dummy e.key).val) := by
     simp only [gF, Option.some.injEq] at h
     exact h.symm
    subst this
    exact ⟨fun p hp => by cases hp; simp, by simp [Instr.findAsking, hr, pairAt]⟩
   | false =>
    simp at h
    have ih := Nn (P := P) kt k W es (i + 1) r (by simpa using h)
    refine ⟨fun p hp => by have := ih.1 p hp; simp; omega, ?_⟩
    simp only [Instr.findAsking, Sem.run_bind, hr, Result.andThen_ok, Bool.false_eq_true, if_false, ih.2]
    congr 1
    cases r with
    | none => rfl
    | some p =>
     have := (ih.1 p rfl).1
     simp only [Option.map_some, pairAt]
     rw [show p.1 - i = (p.1 - (i + 1)) + 1 by omega]
     simp
theorem Jr {P : Program} {kt : TypeId} {k : Value} {es : List MapEntry} {r : Option Nat} (h : kfind P kt k (es.map (·.key)) = some r) (W : World) :
  (∀ j, r = some j → j < es.length) ∧ (Instr.findKey kt k es).run P W = .ok (pairAt es 0 r) W := by
 unfold kfind at h
 cases hq : aE P (Instr.findKey kt k ((es.map (·.key)).map dummy)) with
 | none => rw [hq] at h; cases h
 | some q =>
  simp only [hq, Option.map_some, Option.some.injEq] at h
  subst h
  unfold Instr.findKey at hq ⊢
  rw [cK] at hq
  cases hu : aE P (underlying kt) with
  | none => simp [hu] at hq
  | some d =>
   simp only [hu, Option.bind_some] at hq
   simp only [Sem.run_bind, ju hu, Result.andThen_ok]
   have hfn := Nm d k es 0
   split at hfn
   ·rename_i hn
    rw [hn] at hq
    simp only [hfn]
    have ha := Nn (P := P) kt k W es 0 q (by simpa using hq)
    refine ⟨fun j hj => ?_, ha.2⟩
    cases q with
    | none => simp at hj
    | some p => simp at hj; have := (ha.1 p rfl).2; omega
   ·rename_i hn
    rw [hn] at hq
    simp only [gF, Option.some.injEq] at hq
    subst hq
    simp [hfn, pairAt]
   ·rename_i j v hn
    rw [hn] at hq
    simp only [gF, Option.some.injEq] at hq
    subst hq
    obtain ⟨e, _, he, hf⟩ := hfn
    refine ⟨fun i hi => by
     simp at hi; subst hi
     simp at he
     exact (List.getElem?_eq_some_iff.1 he).1, ?_⟩
    simp at he
    simp [hf, pairAt, he]
def mapOf (H : Nat → Option VObj) : VV → Option (List (Value × VV))
 | .mp β => match H β with
  | some (.map es) => some es
  | _ => none
 | .mt ks vs => some (ks.zip vs)
 | _ => none
theorem Js {c : Ctx} {W : World} (s : Sim c W) {x : VV} {v : Value} {es : List (Value × VV)} (h : mapOf c.H x = some es) (hr : Rep c W x v) :
  ∃ b ents clk, v = .map (some b) ∧ W.heap[b]? = some (.map ents clk) ∧ ents.toList.map (·.key) = es.map (·.1) ∧ RepL c W (es.map (·.2)) (ents.toList.map (·.val)) := by
 cases x with
 | mp β =>
  unfold mapOf at h
  simp only at h
  split at h
  ·rename_i es' hβ
   cases h
   have hv : v = .map (some (c.φ β)) := hr.2 (by simp [Ctx.live, hβ])
   obtain ⟨ents, clk, h1, h2, h3⟩ := s.obj β _ hβ
   exact ⟨_, ents, clk, hv, h1, h2, h3⟩
  ·cases h
 | mt ks vs =>
  cases h
  obtain ⟨b, e, hA, ents, clk, h1, h2, h3⟩ := hr
  have hl := h3.length
  have hk : ks.length = vs.length := by rw [← h2, ← hl]; simp
  refine ⟨b, ents, clk, e, h1, ?_, ?_⟩
  ·rw [h2, List.map_fst_zip (by omega)]
  ·rw [List.map_snd_zip (by omega)]; exact h3
 | _ => simp [mapOf] at h
def vlookup (P : Program) (H : Nat → Option VObj) (t : TypeId) (x k : VV) (ok : Bool) : Option VV :=
 match P.underlying t, k.val? with
 | some (.map kt et), some k =>
  match mapOf H x with
  | some es =>
   match aE P (Instr.checkKey es.isEmpty 10000 kt k), kfind P kt k (es.map (·.1)), (P.info? et).bind (·.zero) with
   | some (), some r, some z =>
    match r with
    | some i => match es[i]? with
     | some p => some (if ok then .tup [p.2, .lit (.bool true)] else p.2)
     | none => none
    | none => some (if ok then .tup [ofVal2 z, .lit (.bool false)] else ofVal2 z)
   | _, _, _ => none
  | none => none
 | _, _ => none
theorem FC {P : Program} {c : Ctx} {W : World} (s : Sim c W) {γ : Nat} {t : TypeId} {x k y : VV} {v w : Value} {ok : Bool} (h : vlookup P c.H t x k ok = some y) (hr : Rep c W x v) (hk : Rep c W k w) :
  Stp P (aU (Instr.lookup t v w ok)) c W γ y .none := by
 unfold vlookup at h
 split at h
 ·rename_i kt et kv hu hkv
  have hw := km hkv hk
  subst hw
  split at h
  ·rename_i es hβ
   split at h
   ·rename_i r z hck hkf hz
    obtain ⟨bq, ents, clk, hv, h1, h2, h3⟩ := Js s hβ hr
    subst hv
    have hg : (getObj bq).run P W = .ok (.map ents clk) W := by simp [getObj, Sem.run, h1]
    rw [← h2] at hkf
    obtain ⟨hlt, hrun⟩ := Jr hkf W
    have hl : ents.toList.length = es.length := by
     have := congrArg List.length h2
     simpa using this
    have hemp : ents.isEmpty = es.isEmpty := by
     rw [Bool.eq_iff_iff]; simp only [Array.isEmpty_iff_size_eq_zero, List.isEmpty_iff_length_eq_zero]; simp at hl; omega
    have hck' := ju hck W
    rw [← hemp] at hck'
    have hzr : (zeroValue et).run P W = .ok z W := by
     cases hi : P.info? et with
     | none => simp [hi] at hz
     | some i => simp [hi] at hz; simp [zeroValue, typeInfo, hi, hz]
    cases r with
    | some i =>
     have hi := hlt i rfl
     simp only at h
     split at h
     ·rename_i p hp
      cases h
      have hpe : ents.toList[i]? = some (ents.toList[i]'hi) := List.getElem?_eq_getElem hi
      obtain ⟨u, hu', hru⟩ := RepL.get i h3 (x := p.2) (by simp [hp])
      have hue : u = (ents.toList[i]'hi).val := by
       simp [hpe] at hu'
       exact hu'.symm
      refine Stp.same s (bU (v := if ok then .tuple #[u, .bool true] else u) ?_) ?_
      ·simp only [Instr.lookup, Sem.run_bind, run_underlying hu, Result.andThen_ok, hg, Sem.run_pure, hck', hrun, pairAt, Nat.sub_zero, hpe, Option.map_some]
       rw [hue]
      ·cases ok
       ·simpa using hru
       ·exact ⟨[u, .bool true], rfl, u, _, rfl, hru, _, _, rfl, rfl, rfl⟩
     ·cases h
    | none =>
     simp only at h
     cases h
     refine Stp.same s (bU (v := if ok then .tuple #[z, .bool false] else z) ?_) ?_
     ·simp only [Instr.lookup, Sem.run_bind, run_underlying hu, Result.andThen_ok, hg, Sem.run_pure, hck', hrun, pairAt, hzr]
     ·cases ok
      ·simpa using tZ c W z
      ·exact ⟨[z, .bool false], rfl, z, _, rfl, tZ c W z, _, _, rfl, rfl, rfl⟩
   ·cases h
  ·cases h
 ·cases h
theorem FA {P : Program} {c : Ctx} {W : World} (s : Sim c W) {γ : Nat} (hγ : ¬ c.used γ) {t : TypeId} :
  Stp P (aU (Instr.makeMap t none)) c W γ (.mp γ) (.new (.map [])) := by
 obtain ⟨h1, h2⟩ := oZ (ob := .map #[] 0) (o := .map []) (rm := 0) s hγ ⟨#[], 0, by simp only [Ctx.push, if_true]; exact ml _ _, by simp, by simp [RepL]⟩
 refine ⟨_, .map (some W.heap.size), _, c.push c.H γ (.map []) W.heap.size 0, bU (by simp [Instr.makeMap]), .inl rfl, ⟨⟨.inl rfl, rfl⟩, fun _ => by simp [Ctx.push]⟩, h1, h2, rfl, fun β hb => hb.symm⟩
def vmapUpdate (P : Program) (H : Nat → Option VObj) (t : TypeId) (x k y : VV) : Option VEff :=
 match P.underlying t, x, k.val? with
 | some (.map kt _), .mp β, some kv =>
  match H β with
  | some (.map es) =>
   match aE P (Instr.checkKey false 10000 kt kv), kfind P kt kv (es.map (·.1)) with
   | some (), some (some i) =>
    match es[i]? with
    | some p => if Instr.sameBits 10000 p.1 kv then some (.upd β (.map (es.set i (kv, y)))) else none
    | none => none
   | some (), some none => some (.upd β (.map (es ++ [(kv, y)])))
   | _, _ => none
  | _ => none
 | _, _, _ => none
theorem But.setObj (W : World) (b : Nat) (o : Obj) : But W { W with heap := W.heap.setIfInBounds b o } b :=
 ⟨fun k _ hb => by
  show (W.heap.setIfInBounds b o)[k]? = W.heap[k]?
  rw [Array.getElem?_setIfInBounds_ne (fun e => hb e.symm)], by simp, rfl, rfl, rfl⟩
theorem rD {P : Program} {W : World} {b : Nat} {o o' : Obj} (h : W.heap[b]? = some o) (hc : ∀ c e f, o ≠ .cells c e f) :
  (setObj b o').run P W = .ok () { W with heap := W.heap.setIfInBounds b o' } := by
 simp only [setObj, Sem.run, h]
theorem rE {W : World} {b : Nat} {o o' : Obj} (h : W.heap[b]? = some o) : ({ W with heap := W.heap.setIfInBounds b o' } : World).heap[b]? = some o' := by
 have := (Array.getElem?_eq_some_iff.1 h).1
 show (W.heap.setIfInBounds b o')[b]? = _
 simp [this]
theorem Mr {P : Program} {c : Ctx} {W : World} (s : Sim c W) {γ : Nat} {t : TypeId} {x k y : VV} {v w u : Value} {eff : VEff} (h : vmapUpdate P c.H t x k y = some eff) (hr : Rep c W x v) (hk : Rep c W k w) (hy : Rep c W y u) :
  Stp P (do Instr.mapUpdate t v w u; pure .skip) c W γ .any eff := by
 unfold vmapUpdate at h
 split at h
 ·rename_i kt et β kv hu hkv
  have hw := km hkv hk
  subst hw
  split at h
  ·rename_i es hβ
   have hlive : c.live β := by simp [Ctx.live, hβ]
   have hv : v = .map (some (c.φ β)) := hr.2 hlive
   subst hv
   obtain ⟨ents, clk, h1, h2, h3⟩ := s.obj β _ hβ
   have hg : (getObj (c.φ β)).run P W = .ok (.map ents clk) W := by simp [getObj, Sem.run, h1]
   have hnd : isDef c.H β → ∀ o, ∃ ds, o = VObj.deferred ds := fun ⟨ds, hd⟩ => by rw [hβ] at hd; cases hd
   split at h
   ·rename_i i hck hkf
    rw [← h2] at hkf
    obtain ⟨hlt, hrun⟩ := Jr hkf W
    have hi := hlt i rfl
    have hpe : ents.toList[i]? = some (ents.toList[i]'hi) := List.getElem?_eq_getElem hi
    split at h
    ·rename_i p hp
     split at h
     ·rename_i hsb
      cases h
      have hkey : (ents.toList[i]'hi).key = p.1 := by
       have := congrArg (fun l => l[i]?) h2
       simp only [List.getElem?_map, hpe, hp, Option.map_some, Option.some.injEq] at this
       exact this
      have hmod : (ents.modify i fun e => { e with key := w, val := u }).toList = ents.toList.set i { (ents.toList[i]'hi) with key := w, val := u } := by
       rw [Array.toList_modify, List.modify_eq_set, hpe]; rfl
      have hpa : ents[i]? = some (ents.toList[i]'hi) := by rw [← Array.getElem?_toList]; exact hpe
      have hset := rD (P := P) (o' := .map (ents.modify i fun e => { e with key := w, val := u }) clk) h1 (by intros; simp)
      have ab := (Ext.upd (o := .map (es.set i (w, y))) hlive (But.setObj W (c.φ β) (.map (ents.modify i fun e => { e with key := w, val := u }) clk))).abides s
      refine ⟨.skip, undef, _, c.upd β (.map (es.set i (w, y))), ?_, .inr ⟨rfl, rfl⟩, trivial, Ext.upd hlive (But.setObj W _ _), Sim.upd s hlive (But.setObj W _ _) (fun hd => hnd hd _) ⟨ents.modify i fun e => { e with key := w, val := u }, clk, rE h1, ?_, ?_⟩, rfl, fun _ h => .inl h⟩
      ·simp only [Instr.mapUpdate, Sem.run_bind, run_underlying hu, Result.andThen_ok, hg, ju hck W, hrun, pairAt, Nat.sub_zero, hpe, Option.map_some, hpa, Option.getD_some, hkey, Instr.keyThatStays, hsb, if_true, Sem.run_pure, hset]
      ·rw [hmod, List.map_set, List.map_set, h2]
      ·apply RepL.abides ab
       rw [hmod, List.map_set, List.map_set]
       exact RepL.set i h3 hy
     ·cases h
    ·cases h
   ·rename_i hck hkf
    cases h
    rw [← h2] at hkf
    obtain ⟨_, hrun⟩ := Jr hkf W
    have hset := rD (P := P) (o' := .map (ents.push { key := w, val := u, born := clk }) (clk + 1)) h1 (by intros; simp)
    have ab := (Ext.upd (o := .map (es ++ [(w, y)])) hlive (But.setObj W (c.φ β) (.map (ents.push { key := w, val := u, born := clk }) (clk + 1)))).abides s
    refine ⟨.skip, undef, _, c.upd β (.map (es ++ [(w, y)])), ?_, .inr ⟨rfl, rfl⟩, trivial, Ext.upd hlive (But.setObj W _ _), Sim.upd s hlive (But.setObj W _ _) (fun hd => hnd hd _) ⟨ents.push { key := w, val := u, born := clk }, clk + 1, rE h1, ?_, ?_⟩, rfl, fun _ h => .inl h⟩
    ·simp only [Instr.mapUpdate, Sem.run_bind, run_underlying hu, Result.andThen_ok, hg, ju hck W, hrun, pairAt, Sem.run_pure, hset]
    ·simp [h2]
    ·apply RepL.abides ab
     have S6 : RepL c W [y] [u] := ⟨u, [], rfl, hy, rfl⟩
     have := RepL.append h3 S6
     simpa using this
   ·cases h
  ·cases h
 ·cases h
theorem QO {P : Program} {c : Ctx} {W : World} (s : Sim c W) {γ : Nat} (hγ : ¬ c.used γ) {t : TypeId} {st : ByteArray} (hu : P.underlying t = some .string) :
  Stp P (aU (Instr.range t (.string st))) c W γ (.it γ) (.new (.stri st 0)) := by
 obtain ⟨h1, h2⟩ := oZ (ob := .stringIter st 0) (o := .stri st 0) (rm := 0) s hγ (by show (W.alloc _).heap[_]? = _; simp only [Ctx.push, if_true]; exact ml _ _)
 exact ⟨_, .pointer (some ⟨W.heap.size, 0, none⟩), _, c.push c.H γ (.stri st 0) W.heap.size 0, bU (by simp [Instr.range, run_underlying hu]), .inl rfl, ⟨⟨.inl rfl, rfl⟩, fun _ => by simp [Ctx.push]⟩, h1, h2, rfl, fun β hb => hb.symm⟩
def vnext (H : Nat → Option VObj) (x : VV) (isString : Bool) : Option (VV × VEff) :=
 match x, isString with
 | .it β, true =>
  match H β with
  | some (.stri s pos) =>
   if pos < s.size then
    some (.tup [.lit (.bool true), .lit (.int .i64 pos), .lit (.int .i32 (Utf8.decode s pos).1)], .upd β (.stri s (pos + (Utf8.decode s pos).2)))
   else some (.tup [.lit (.bool false)], .none)
  | _ => none
 | _, _ => none
theorem FD {P : Program} {c : Ctx} {W : World} (s : Sim c W) {γ : Nat} {t : TypeId} {x y : VV} {v : Value} {b : Bool} {eff : VEff} (h : vnext c.H x b = some (y, eff)) (hr : Rep c W x v) :
  Stp P (aU (Instr.next v b t)) c W γ y eff := by
 unfold vnext at h
 split at h
 ·rename_i β
  split at h
  ·rename_i st pos hβ
   have hlive : c.live β := by simp [Ctx.live, hβ]
   have hv : v = .pointer (some ⟨c.φ β, 0, none⟩) := hr.2 hlive
   subst hv
   have h1 : W.heap[c.φ β]? = some (.stringIter st pos) := s.obj β _ hβ
   have hg : (getObj (c.φ β)).run P W = .ok (.stringIter st pos) W := by simp [getObj, Sem.run, h1]
   split at h
   ·rename_i hlt
    cases h
    have hset := rD (P := P) (o' := .stringIter st (pos + (Utf8.decode st pos).2)) h1 (by intros; simp)
    refine ⟨_, .tuple #[.bool true, .int .i64 pos, .int .i32 (Utf8.decode st pos).1], _, c.upd β (.stri st (pos + (Utf8.decode st pos).2)), bU ?_, .inl rfl, ⟨_, rfl, _, _, rfl, rfl, _, _, rfl, rfl, _, _, rfl, rfl, rfl⟩,
     Ext.upd hlive (But.setObj W _ (.stringIter st (pos + (Utf8.decode st pos).2))), Sim.upd s hlive (But.setObj W _ _) (fun ⟨ds, hd⟩ => by rw [hβ] at hd; cases hd) (rE h1), rfl, fun _ h => .inl h⟩
    simp [Instr.next, hg, hlt, hset, goInt]
   ·rename_i hlt
    cases h
    exact Stp.same s (bU (v := .tuple #[.bool false]) (by simp [Instr.next, hg, hlt])) ⟨_, rfl, _, _, rfl, rfl, rfl⟩
  ·cases h
 ·cases h
def vtypeAssert (P : Program) (x : VV) (asserted : TypeId) (ok : Bool) : Option VV :=
 let holds (y : VV) : VV := if ok then .tup [y, .lit (.bool true)] else y
 let fails : Option VV := if ok then ((P.info? asserted).bind (·.zero)).map fun z => .tup [ofVal2 z, .lit (.bool false)] else none
 match P.underlying asserted, x with
 | some (.interface want), .ifc t _ =>
  match P.info? t with
  | some inf => match Instr.missingMethod want inf.methods with
   | none => some (holds x)
   | some _ => fails
  | none => none
 | some (.interface _), .lit .nilIface => fails
 | some (.interface _), _ => none
 | some _, .ifc t y => if t = asserted then some (holds y) else fails
 | some _, .lit .nilIface => fails
 | _, _ => none
def taHolds (ok : Bool) (v : Value) : Value := if ok then .tuple #[v, .bool true] else v
theorem S7 {P : Program} {W : World} {a t t' : TypeId} {want : Array (String × TypeId)} {u : Value} {inf : TypeInfo} {ok : Bool} (hu : P.underlying a = some (.interface want)) (hi : P.info? t' = some inf)
  (hm : Instr.missingMethod want inf.methods = none) : (Instr.typeAssert (.iface t' u) t a ok).run P W = .ok (taHolds ok (.iface t' u)) W := by
 have hti : (typeInfo t').run P W = .ok inf W := by simp [typeInfo, hi]
 simp only [Instr.typeAssert, Sem.run_bind, run_underlying hu, Result.andThen_ok, hti, hm, Sem.run_pure]
 rfl
theorem S8 {P : Program} {W : World} {a t t' : TypeId} {want : Array (String × TypeId)} {u z : Value} {inf : TypeInfo} {m : String} (hu : P.underlying a = some (.interface want)) (hi : P.info? t' = some inf)
  (hm : Instr.missingMethod want inf.methods = some m) (hz : (zeroValue a).run P W = .ok z W) : (Instr.typeAssert (.iface t' u) t a true).run P W = .ok (.tuple #[z, .bool false]) W := by
 have hti : (typeInfo t').run P W = .ok inf W := by simp [typeInfo, hi]
 simp only [Instr.typeAssert, Sem.run_bind, run_underlying hu, Result.andThen_ok, hti, hm, if_true, hz, Sem.run_pure]
theorem wm {P : Program} {W : World} {a t : TypeId} {d : TypeDesc} {z : Value} (hu : P.underlying a = some d) (hz : (zeroValue a).run P W = .ok z W) :
  (Instr.typeAssert .nilIface t a true).run P W = .ok (.tuple #[z, .bool false]) W := by
 simp only [Instr.typeAssert, Sem.run_bind, run_underlying hu, Result.andThen_ok]
 cases d <;> simp only [Sem.run_bind, if_true, hz, Result.andThen_ok, Sem.run_pure]
theorem Jt {P : Program} {W : World} {a t : TypeId} {d : TypeDesc} {u : Value} {ok : Bool} (hu : P.underlying a = some d) (hne : ∀ w, d ≠ .interface w) :
  (Instr.typeAssert (.iface a u) t a ok).run P W = .ok (taHolds ok u) W := by
 simp only [Instr.typeAssert, Sem.run_bind, run_underlying hu, Result.andThen_ok]
 cases d <;> first | exact absurd rfl (hne _) | (simp only [if_true, Sem.run_pure]; rfl)
theorem Ju {P : Program} {W : World} {a t t' : TypeId} {d : TypeDesc} {u z : Value} (hu : P.underlying a = some d) (hne : ∀ w, d ≠ .interface w) (ht : t' ≠ a) (hz : (zeroValue a).run P W = .ok z W) :
  (Instr.typeAssert (.iface t' u) t a true).run P W = .ok (.tuple #[z, .bool false]) W := by
 simp only [Instr.typeAssert, Sem.run_bind, run_underlying hu, Result.andThen_ok]
 cases d <;> first | exact absurd rfl (hne _) | simp only [if_neg ht, Sem.run_bind, if_true, hz, Result.andThen_ok, Sem.run_pure]
theorem QP {P : Program} {c : Ctx} {W : World} (s : Sim c W) {γ : Nat} {t a : TypeId} {x y : VV} {v : Value} {ok : Bool} (h : vtypeAssert P x a ok = some y) (hr : Rep c W x v) :
  Stp P (aU (Instr.typeAssert v t a ok)) c W γ y .none := by
 have holds : ∀ {z : VV} {u : Value}, Rep c W z u → Rep c W (if ok then .tup [z, .lit (.bool true)] else z) (taHolds ok u) := by
  intro z u hz
  cases ok
  ·exact hz
  ·exact ⟨_, rfl, _, _, rfl, hz, _, _, rfl, rfl, rfl⟩
 have fails : ∀ {y : VV}, (if ok then ((P.info? a).bind (·.zero)).map fun z => VV.tup [ofVal2 z, .lit (.bool false)] else none) = some y →
   ∃ z, ok = true ∧ (zeroValue a).run P W = .ok z W ∧ y = .tup [ofVal2 z, .lit (.bool false)] := by
  intro y hy
  cases ok
  ·cases hy
  ·cases hi : P.info? a with
   | none => rw [hi] at hy; cases hy
   | some i =>
    cases hz : i.zero with
    | none => rw [hi] at hy; simp only [Option.bind_some, hz] at hy; cases hy
    | some z =>
     rw [hi] at hy; simp only [Option.bind_some, hz, Option.map_some, if_true, Option.some.injEq] at hy
     exact ⟨z, rfl, by simp [zeroValue, typeInfo, hi, hz], hy.symm⟩
 have rf : ∀ z, Rep c W (.tup [ofVal2 z, .lit (.bool false)]) (.tuple #[z, .bool false]) := fun z => ⟨_, rfl, _, _, rfl, tZ c W z, _, _, rfl, rfl, rfl⟩
 unfold vtypeAssert at h
 simp only at h
 split at h
 ·rename_i want t' y' hu
  obtain ⟨u, rfl, hru⟩ := hr
  split at h
  ·rename_i inf hi
   split at h
   ·rename_i hm
    cases h
    exact Stp.same s (bU (S7 hu hi hm)) (holds (z := .ifc t' y') ⟨u, rfl, hru⟩)
   ·rename_i m hm
    obtain ⟨z, rfl, hz, rfl⟩ := fails h
    exact Stp.same s (bU (S8 hu hi hm hz)) (rf z)
  ·cases h
 ·rename_i want hu
  have : v = .nilIface := hr
  subst this
  obtain ⟨z, rfl, hz, rfl⟩ := fails h
  exact Stp.same s (bU (wm hu hz)) (rf z)
 ·cases h
 ·rename_i d t' y' hne hu
  obtain ⟨u, rfl, hru⟩ := hr
  split at h
  ·rename_i ht
   subst ht
   cases h
   exact Stp.same s (bU (Jt hu (fun w e => hne w e))) (holds hru)
  ·rename_i ht
   obtain ⟨z, rfl, hz, rfl⟩ := fails h
   exact Stp.same s (bU (Ju hu (fun w e => hne w e) ht hz)) (rf z)
 ·rename_i d hne hu
  have : v = .nilIface := hr
  subst this
  obtain ⟨z, rfl, hz, rfl⟩ := fails h
  exact Stp.same s (bU (wm hu hz)) (rf z)
 ·cases h
def byteL : List VV → Option (List UInt8)
  | [] => some []
  | x :: xs => match x with
    | .lit (.int .u8 n) => if 0 ≤ n ∧ n < 256 then match byteL xs with | some l => some (UInt8.ofNat n.toNat :: l) | none => none else none
    | _ => none
theorem Jv {c : Ctx} {W : World} : ∀ {xs : List VV} {l : List UInt8} {vs : List Value}, byteL xs = some l → RepL c W xs vs → vs = l.map fun b => Value.int .u8 b.toNat
  | [], l, vs, h, hr => by
    have e : vs = [] := hr
    subst e
    simp [byteL] at h
    subst h; rfl
  | x :: xs, l, vs, h, ⟨u, us, e, h1, h2⟩ => by
    subst e
    unfold byteL at h
    split at h
    · rename_i n
      split at h
      · rename_i hn
        split at h
        · rename_i l' hl
          cases h
          have := Jv hl h2
          have e1 : u = .int .u8 n := h1
          rw [this, e1]
          have e2 : ((UInt8.ofNat n.toNat).toNat : Int) = n := by
            rw [UInt8.toNat_ofNat']
            omega
          rw [List.map_cons, e2]
        · cases h
      · cases h
    · cases h
theorem No : ∀ (l : List UInt8) (acc : ByteArray), (l.map fun b => (b.toNat : Int)).foldl (fun r n => r.push (UInt8.ofNat n.toNat)) acc = ⟨acc.data ++ l.toArray⟩
  | [], acc => by simp
  | x :: l, acc => by
    simp only [List.map_cons, List.foldl_cons]
    rw [No l]
    apply ByteArray.ext
    simp [ByteArray.push]
def vconv (P : Program) (H : Nat → Option VObj) (src dst : TypeId) (x : VV) : Option VV :=
  match P.underlying src, P.underlying dst with
  | some (.slice e), some .string => match P.underlying e, sls H x with
    | some (.int .u8), some (cs, len) => if len ≤ cs.length then (byteL (cs.take len)).map fun l => .lit (.string ⟨⟨l⟩⟩) else none
    | _, _ => none
  | _, _ => none
theorem F8 {P : Program} {c : Ctx} {W : World} (s : Sim c W) {γ : Nat} {src dst : TypeId} {x y : VV} {v : Value} (h : vconv P c.H src dst x = some y) (hr : Rep c W x v) : Stp P (aU (convert src dst v)) c W γ y .none := by
  unfold vconv at h
  split at h
  · rename_i e hs hd
    split at h
    · rename_i cs len he hx
      split at h
      · rename_i hle
        cases hb : byteL (cs.take len) with
        | none => simp [hb] at h
        | some l =>
          simp [hb] at h
          subst h
          obtain ⟨base, cap, e1, hcap, h3⟩ := xD s hx hr
          subst e1
          refine Stp.same s (bU (v := .string ⟨⟨l⟩⟩) ?_) rfl
          rw [run_convert_bytes_string W src dst e base len cap hs he hd]
          rcases h3 with h3 | ⟨b, o, rfl, hcs⟩
          · subst h3
            have h0 : len = 0 := by simpa using hle
            subst h0
            simp [byteL] at hb
            subst hb
            cases base with
            | none => rfl
            | some a => rfl
          · obtain ⟨vs, hvs, hcell⟩ := RepC.list (RepC.take len hcs)
            have hlen : vs.length = len := by rw [hvs.length]; simp; omega
            have hvb := Jv hb hvs
            have hrun := run_loadCells_list (P := P) W ⟨b, o, none⟩ vs (fun j u hu => by rw [iW]; exact hcell j u hu)
            rw [hlen, hvb] at hrun
            have := run_bytesToString (P := P) W ⟨b, o, none⟩ len cap (l.map fun b => (b.toNat : Int)) (by rw [hrun]; simp)
            rw [this, No]
            congr 2
            apply ByteArray.ext
            simp [ByteArray.empty, ByteArray.emptyWithCapacity]
            try rfl
      · cases h
    · cases h
  · cases h
def vsliceData (H : Nat → Option VObj) (x : VV) : Option VV :=
  match x with
  | .ref β off len _ _ => if 0 < len ∧ (H β).isSome = true then some (.ptr β off) else none
  | .sl cs len _ => if 0 < len ∧ cs ≠ [] then some (.tp cs) else none
  | _ => none
theorem QK {P : Program} {c : Ctx} {W : World} (s : Sim c W) {γ : Nat} {ts : Array TypeId} {ty : TypeId} {x y : VV} {v : Value} (h : vsliceData c.H x = some y) (hr : Rep c W x v) : Stp P (aU (Builtin.unsafeSliceData_ ts ty #[v])) c W γ y .none := by
  unfold vsliceData at h
  split at h
  · rename_i β off len es cp
    split at h
    · rename_i hc
      cases h
      obtain ⟨cap, rfl, h1, h2, h3⟩ := hr.2 hc.2
      exact Stp.same s (bU (Lib.run_unsafeSliceData_row (P := P) W ts ty ⟨c.φ β, off, none⟩ len cap (by omega))) ⟨⟨hr.1.1, rfl⟩, fun _ => rfl⟩
    · cases h
  · rename_i cs len full
    split at h
    · rename_i hc
      cases h
      obtain ⟨base, cap, rfl, h1, h2, h3⟩ := hr
      rcases h3 with h3 | ⟨b, o, rfl, hA, hcs⟩
      · exact absurd h3 hc.2
      · exact Stp.same s (bU (Lib.run_unsafeSliceData_row (P := P) W ts ty ⟨b, o, none⟩ len cap (by omega))) ⟨b, o, rfl, hA, hcs⟩
    · cases h
  · cases h
theorem Jw {c : Ctx} {W W' : World} (s : Sim c W) {β : Nat} {el : Option TypeId} {cs : List VV} (hβ : c.H β = some (.cells el cs)) (hb : But W W' (c.φ β)) :
    Ext c W (c.sub (without c.H β)) W' ∧ Sim (c.sub (without c.H β)) W' := by
  have hlive : c.live β := by simp [Ctx.live, hβ]
  have hsub := ar.without c.H β
  have hne : ∀ x, (without c.H β x).isSome = true → c.φ x ≠ c.φ β := by
    intro x hx e
    have := s.inj x β (hsub.live hx) hlive e
    subst this
    simp [without] at hx
  have he : Ext c W (c.sub (without c.H β)) W' :=
    { A := fun _ h => h, newA := fun _ h => .inl h, used := fun _ h => h, live := fun x _ h => hsub.live h, φ := fun _ _ _ => rfl, room := fun _ _ _ => rfl,
      keep := fun b hlt hn => hb.keep b hlt (fun e => hn β hlive e.symm), old := fun x h _ => ⟨x, hsub.live h, rfl⟩, size := hb.size, os := hb.os, tape := hb.tape, output := hb.output }
  refine ⟨he, fun x h => s.used x (hsub.live h), fun x ox hx => ?_, fun x h => Nat.lt_of_lt_of_le (s.lt x (hsub.live h)) hb.size, fun x h => s.notA x (hsub.live h), fun x y hx hy e => s.inj x y (hsub.live hx) (hsub.live hy) e, fun b hA => Nat.lt_of_lt_of_le (s.ltA b hA) hb.size⟩
  have dq : without c.H β x = some ox := hx
  have hxs : (without c.H β x).isSome = true := by simp [dq]
  refine (s.obj x ox (hsub x ox dq)).abides (he.abides s) (s.used x (hsub.live hxs)) (by simp [Ctx.live, Ctx.sub, dq]) (hb.keep _ (s.lt x (hsub.live hxs)) (hne x hxs)) ?_
  intro st pe tm ps as bo df e'
  subst e'
  exact isDef.without hβ (s.loopOk (hsub x _ dq))
def vunsafeString (P : Program) (H : Nat → Option VObj) (pt : TypeId) (p n : VV) : Option (VV × VEff) :=
  match p, n with
  | .ptr β 0, .lit (.int .i64 n) => match H β, P.underlying pt with
    | some (.cells (some e) cs), some (.pointer e') => if e' = e ∧ P.cellsOf e = 1 ∧ 0 < n ∧ n ≤ 9223372036854775807 ∧ n.toNat ≤ cs.length then (byteL (cs.take n.toNat)).map fun l => (.lit (.string ⟨⟨l⟩⟩), .kill β) else none
    | _, _ => none
  | _, _ => none
theorem But.freeze (W : World) (b n : Nat) : But W (W.freeze ⟨b, 0, none⟩ n) b := by
  unfold World.freeze
  split
  · exact But.refl W b
  · exact ⟨fun k hk hne => by simp [Array.getElem?_modify, hne, Ne.symm hne], by simp, rfl, rfl, rfl⟩
theorem QL {P : Program} {c : Ctx} {W : World} (s : Sim c W) {γ : Nat} {pt it ty : TypeId} {p n x : VV} {v w : Value} {eff : VEff} (h : vunsafeString P c.H pt p n = some (x, eff)) (hr : Rep c W p v) (hn : Rep c W n w) :
    Stp P (aU (Builtin.unsafeString_ #[pt, it] ty #[v, w])) c W γ x eff := by
  unfold vunsafeString at h
  split at h
  · rename_i β k
    split at h
    · rename_i e cs e' hβ hp
      split at h
      · rename_i hc
        obtain ⟨c1, c2, c3, c4, c5⟩ := hc
        subst c1
        cases hb : byteL (cs.take k.toNat) with
        | none => simp [hb] at h
        | some l =>
          simp [hb] at h
          obtain ⟨rfl, rfl⟩ := h
          have hlive : c.live β := by simp [Ctx.live, hβ]
          have hv : v = .pointer (some ⟨c.φ β, 0, none⟩) := hr.2 hlive
          have hw : w = .int .i64 k := hn
          subst hv hw
          obtain ⟨arr, e0, g1, g2, g3, g4, g5⟩ := s.obj β _ hβ
          have wo := g5 _ rfl
          subst wo
          obtain ⟨vs, hvs, hcell⟩ := RepC.list (RepC.take k.toNat (RepC.of_obj s hβ))
          have hvb := Jv hb hvs
          have hlen : l.length = k.toNat := by
            have h1 := hvs.length
            rw [hvb] at h1
            simp at h1
            omega
          have hkl : (k : Int) = (l.length : Int) := by omega
          rw [hkl]
          have hrun := Lib.run_unsafeString_row (P := P) W pt it ty e0 hp c2 (c.φ β) arr.size (by simp [World.shape?, g1]) l (by intro e; subst e; simp at hlen; omega) (by omega) (by omega) (fun j u hu => by
            rw [iW]
            exact hcell j _ (by rw [hvb]; simp [hu]))
          obtain ⟨k1, k2⟩ := Jw s hβ (But.freeze W (c.φ β) l.length)
          exact ⟨_, _, _, _, bU hrun, .inl rfl, rfl, k1, k2, rfl, fun _ h => .inl h⟩
      · cases h
    · cases h
  · cases h
def posSz (P : Program) (t : TypeId) : Bool := match szT P t with
  | some n => n != 0
  | none => false
theorem Np {P : Program} {t : TypeId} (h : posSz P t = true) : ∃ n, szT P t = some n ∧ n ≠ 0 := by
  unfold posSz at h
  split at h
  · rename_i n hn; exact ⟨n, hn, by simpa using h⟩
  · cases h
def vptrConv (P : Program) (H : Nat → Option VObj) (src dst : TypeId) (x : VV) : Option VV :=
  match x with
  | .ptr β off => match P.underlying src, P.underlying dst, H β with
    | some (.pointer t), some .unsafePointer, some (.cells _ cs) => if off < cs.length ∧ posSz P t = true then some (.ptr β off) else none
    | some .unsafePointer, some (.pointer u), some (.cells (some e) cs) => if e = u ∧ off = 0 ∧ P.cellsOf u ≠ 0 ∧ P.cellsOf u ≤ cs.length ∧ posSz P u = true then some (.ptr β 0) else none
    | _, _, _ => none
  | _ => none
theorem Jx {P : Program} {e : TypeId} (hc : P.cellsOf e ≠ 0) {count : Nat} (hn : 1 ≤ count) : liesAt P P.depth e count 0 e 1 = true := by
  have hd : P.depth = (2 * (P.types.size + Made.depth) + 1) + 1 := rfl
  rw [hd]
  simp only [liesAt, Bool.or_eq_true]
  left
  rw [hd]
  simp [rowAt, hc, hn, sameLayout]
theorem F9 {P : Program} {c : Ctx} {W : World} (s : Sim c W) {γ : Nat} {src dst : TypeId} {x y : VV} {v : Value} (h : vptrConv P c.H src dst x = some y) (hr : Rep c W x v) : Stp P (aU (convert src dst v)) c W γ y .none := by
  unfold vptrConv at h
  split at h
  · rename_i β off
    split at h
    · rename_i t el cs hs hd hβ
      split at h
      · rename_i hc
        cases h
        obtain ⟨c1, c2⟩ := hc
        have hlive : c.live β := by simp [Ctx.live, hβ]
        have hv : v = .pointer (some ⟨c.φ β, off, none⟩) := hr.2 hlive
        subst hv
        obtain ⟨arr, e0, g1, g2, g3, g4, g5⟩ := s.obj β _ hβ
        have hsh : W.shape? (c.φ β) = some (e0, arr.size) := by simp [World.shape?, g1]
        obtain ⟨n, hn, c2⟩ := Np c2
        · refine Stp.same s (bU (v := .pointer (some ⟨c.φ β, off, none⟩)) ?_) ⟨hr.1, fun _ => rfl⟩
          have hlt : ¬ arr.size ≤ off := by omega
          simp [convert, run_underlying hs, run_underlying hd, Conv.unsafePointer, Conv.seenAt, viewAt, hsh, cellsIn, gQ hn, c2, hlt]
      · cases h
    · rename_i u e cs hs hd hβ
      split at h
      · rename_i hc
        cases h
        obtain ⟨c1, c2, c3, c4, c5⟩ := hc
        subst c1 c2
        have hlive : c.live β := by simp [Ctx.live, hβ]
        have hv : v = .pointer (some ⟨c.φ β, 0, none⟩) := hr.2 hlive
        subst hv
        obtain ⟨arr, e0, g1, g2, g3, g4, g5⟩ := s.obj β _ hβ
        have wo := g5 _ rfl
        subst wo
        have hsh : W.shape? (c.φ β) = some (e0, arr.size) := by simp [World.shape?, g1]
        obtain ⟨n, hn, c5⟩ := Np c5
        · have hlies := Jx (P := P) c3 (count := arr.size / P.cellsOf e0) ((Nat.one_le_div_iff (Nat.pos_of_ne_zero c3)).2 (by omega))
          refine Stp.same s (bU (v := .pointer (some ⟨c.φ β, 0, none⟩)) ?_) ⟨hr.1, fun _ => rfl⟩
          simp [convert, run_underlying hs, run_underlying hd, Conv.unsafePointer, Conv.seenAt, viewAt, hsh, variablesAt, gQ hn, c5, hlies]
      · cases h
    · cases h
  · cases h
def vptrEq (P : Program) (H : Nat → Option VObj) (op : BinOp) (t : TypeId) (a b : VV) : Option VV :=
  match op with
  | .eql => (eq1 P H t a b).map fun r => .lit (.bool r)
  | .neq => (eq1 P H t a b).map fun r => .lit (.bool !r)
  | _ => none
 where eq1 (P : Program) (H : Nat → Option VObj) (t : TypeId) (a b : VV) : Option Bool :=
  match P.underlying t with
  | some (.pointer el) => match szT P el with
    | some n => if n = 0 then none else match a, b with
      | .ptr β o1, .ptr δ o2 => if β = δ ∧ (H β).isSome = true then some (o1 == o2) else none
      | .ptr β _, .lit (.pointer none) => if (H β).isSome = true then some false else none
      | .lit (.pointer none), .ptr β _ => if (H β).isSome = true then some false else none
      | _, _ => none
    | none => none
  | some (.slice _) => match a, b with
    | .ref β _ _ _ _, .lit (.slice none 0 0) => if (H β).isSome = true then some false else none
    | .sl cs _ _, .lit (.slice none 0 0) => if cs ≠ [] then some false else none
    | _, _ => none
  | _ => none
theorem S9 {P : Program} (W : World) (d : Nat) (t el : TypeId) (b o1 o2 n : Nat) (hu : P.underlying t = some (.pointer el)) (hn : szT P el = some n) (h0 : n ≠ 0) :
    (Op.equalIn (d + 1) t (.pointer (some ⟨b, o1, none⟩)) (.pointer (some ⟨b, o2, none⟩))).run P W = .ok (o1 == o2) W := by
  have e3 : ((⟨b, o1, none⟩ : Addr) == ⟨b, o2, none⟩) = (o1 == o2) := by
    rw [Bool.eq_iff_iff]; simp
  simp [Op.equalIn, run_underlying hu, gQ hn, h0, sameAddr, e3]
theorem SA {P : Program} (W : World) (d : Nat) (t el : TypeId) (a : Addr) (hu : P.underlying t = some (.pointer el)) :
    (Op.equalIn (d + 1) t (.pointer (some a)) (.pointer none)).run P W = .ok false W := by
  simp [Op.equalIn, run_underlying hu]
theorem SB {P : Program} (W : World) (d : Nat) (t el : TypeId) (a : Addr) (hu : P.underlying t = some (.pointer el)) :
    (Op.equalIn (d + 1) t (.pointer none) (.pointer (some a))).run P W = .ok false W := by
  simp [Op.equalIn, run_underlying hu]
theorem wq {P : Program} {c : Ctx} {W : World} {t : TypeId} {a b : VV} {u v : Value} {r : Bool} (h : vptrEq.eq1 P c.H t a b = some r) (ha : Rep c W a u) (hb : Rep c W b v) :
    (Op.equal t u v).run P W = .ok r W ∧ ((∃ p q, u = .pointer p ∧ v = .pointer q) ∨ ∃ a1 l1 c1 a2 l2 c2, u = .slice a1 l1 c1 ∧ v = .slice a2 l2 c2) := by
  unfold vptrEq.eq1 at h
  split at h
  · rename_i el hu
    split at h
    · rename_i n hn
      split at h
      · cases h
      · rename_i h0
        split at h
        · rename_i β o1 δ o2
          split at h
          · rename_i hc
            cases h
            obtain ⟨c1, c2⟩ := hc
            subst c1
            have e1 : u = .pointer (some ⟨c.φ β, o1, none⟩) := ha.2 c2
            have e2 : v = .pointer (some ⟨c.φ β, o2, none⟩) := hb.2 c2
            subst e1 e2
            refine ⟨?_, .inl ⟨_, _, rfl, rfl⟩⟩
            exact S9 W 9999 t el (c.φ β) o1 o2 n hu hn h0
          · cases h
        · rename_i β o1
          split at h
          · rename_i hc
            cases h
            have e1 : u = .pointer (some ⟨c.φ β, o1, none⟩) := ha.2 hc
            have e2 : v = .pointer none := hb
            subst e1 e2
            exact ⟨SA W 9999 t el _ hu, .inl ⟨_, _, rfl, rfl⟩⟩
          · cases h
        · rename_i β o1
          split at h
          · rename_i hc
            cases h
            have e1 : u = .pointer none := ha
            have e2 : v = .pointer (some ⟨c.φ β, o1, none⟩) := hb.2 hc
            subst e1 e2
            exact ⟨SB W 9999 t el _ hu, .inl ⟨_, _, rfl, rfl⟩⟩
          · cases h
        · cases h
    · cases h
  · rename_i el hu
    split at h
    · rename_i β off len es cp
      split at h
      · rename_i hc
        cases h
        obtain ⟨cap, e1, _⟩ := ha.2 hc
        have e2 : v = .slice none 0 0 := hb
        subst e1 e2
        exact ⟨run_equal_slice_nil W t el _ _ _ hu, .inr ⟨_, _, _, _, _, _, rfl, rfl⟩⟩
      · cases h
    · rename_i cs len full
      split at h
      · rename_i hc
        cases h
        obtain ⟨base, cap, e1, _, _, h3⟩ := ha
        have e2 : v = .slice none 0 0 := hb
        subst e1 e2
        rcases h3 with h3 | ⟨b, o, rfl, _⟩
        · exact absurd h3 hc
        · exact ⟨run_equal_slice_nil W t el _ _ _ hu, .inr ⟨_, _, _, _, _, _, rfl, rfl⟩⟩
      · cases h
    · cases h
  · cases h
theorem F7 {P : Program} {c : Ctx} {W : World} {op : BinOp} {t : TypeId} {x y : Operand} {a b z : VV} {u v : Value} (h : vptrEq P c.H op t a b = some z) (ha : Rep c W a u) (hb : Rep c W b v) :
    ∃ w, ((do eqGuard op t x y u v; binOp op t u v) : Sem Value).run P W = .ok w W ∧ Rep c W z w := by
  unfold vptrEq at h
  split at h
  · cases hq : vptrEq.eq1 P c.H t a b with
    | none => simp [hq] at h
    | some r =>
      simp [hq] at h
      subst h
      obtain ⟨h1, ⟨p, q, rfl, rfl⟩ | ⟨_, _, _, _, _, _, rfl, rfl⟩⟩ := wq hq ha hb
      all_goals exact ⟨.bool r, by simp [eqGuard, binOp, h1], rfl⟩
  · cases hq : vptrEq.eq1 P c.H t a b with
    | none => simp [hq] at h
    | some r =>
      simp [hq] at h
      subst h
      obtain ⟨h1, ⟨p, q, rfl, rfl⟩ | ⟨_, _, _, _, _, _, rfl, rfl⟩⟩ := wq hq ha hb
      all_goals exact ⟨.bool !r, by simp [eqGuard, binOp, h1], rfl⟩
  · cases h
def vclear (P : Program) (H : Nat → Option VObj) (t : TypeId) (x : VV) : Option (VV × VEff) :=
  match P.underlying t, nilS x with
  | some (.slice _), .sl [] 0 _ => some (.tup [], .none)
  | some (.slice e), .ref β off len es _ => match H β, vzero P e with
    | some (.cells el cs), some z => if 0 < len ∧ z.size = es ∧ off + len * es ≤ cs.length ∧ (vzeros z (len * es)).all VV.leaf = true then some (.tup [], .upd β (.cells el (overwrite cs off (vzeros z (len * es))))) else none
    | _, _ => none
  | _, _ => none
theorem F5 {P : Program} {c : Ctx} {W : World} (s : Sim c W) {γ : Nat} {t ty : TypeId} {x y : VV} {v : Value} {eff : VEff} (h : vclear P c.H t x = some (y, eff)) (hr : Rep c W x v) : Stp P (aU (Builtin.clear_ #[t] ty #[v])) c W γ y eff := by
  replace hr := uc hr
  unfold vclear at h
  generalize nilS x = x' at h hr
  split at h
  · rename_i e full hu
    cases h
    obtain ⟨base, cap, rfl, h1, h2, h3⟩ := hr
    refine Stp.same s (bU (v := .tuple #[]) ?_) ⟨[], rfl, rfl⟩
    cases base <;> simp [Builtin.clear_, run_underlying hu]
  · rename_i e β off len es cp hu
    split at h
    · rename_i el cs z hβ hz
      split at h
      · rename_i hc
        obtain ⟨c1, c2, c3, c4⟩ := hc
        cases h
        subst c2
        have hlive : c.live β := by simp [Ctx.live, hβ]
        obtain ⟨cap, hv, hcap, hrm, _⟩ := hr.2 hlive
        subst hv
        obtain ⟨zv, hzr, hzc, _⟩ := ud hz W
        have hrep := EG (c := c) (W := W) z (len * z.size)
        have hl := hrep.length
        simp only [Array.length_toList, Array.size_map, Array.size_range] at hl
        obtain ⟨W', hst, he, hs⟩ := E9 (P := P) (off := off) s hβ hrep (yw c4 hrep) (by omega)
        refine ⟨_, .tuple #[], W', c.upd β (.cells el (overwrite cs off (vzeros z (len * z.size)))), bU ?_, .inl rfl, ⟨[], rfl, rfl⟩, he, hs, rfl, fun _ h => .inl h⟩
        have hne : len ≠ 0 := by omega
        obtain ⟨k, rfl⟩ : ∃ k, len = k + 1 := ⟨len - 1, by omega⟩
        simp only [Array.toList_map, Array.toList_range] at hst
        simp [Builtin.clear_, run_underlying hu, hzr, Builtin.zeroCells, hzc, hst]
      · cases h
    · cases h
  · cases h
def vnative (P : Program) (f : FuncId) (args : List VV) : Option VV :=
  match P.funcs[f]? with
  | some fn => match fn.body with
    | some _ => none
    | none => if fn.name = "internal/abi.NoEscape" ∧ (Extern.findNext fn).isNone = true then match args with
        | [x] => some x
        | _ => none
      else match valL? args with
      | some vs => match aE P (callFunc f ⟨vs⟩) with
        | some (.value v) => some (ofVal v)
        | _ => none
      | none => none
  | none => none
theorem SC (fn : Func) (h : fn.name = "internal/abi.NoEscape") : Extern.find fn = some Extern.AbiNoEscape.same := by
  have h1 : Extern.allGenericRows.lookup "internal/abi.NoEscape" = none := by kernel_rfl
  have h2 : Extern.allTypedRows.lookup "internal/abi.NoEscape" = none := by kernel_rfl
  have h3 : Extern.allRows.lookup "internal/abi.NoEscape" = some Extern.AbiNoEscape.same := by kernel_rfl
  simp [Extern.find, h, h1, h2, h3]
theorem F6 {P : Program} {c : Ctx} {W : World} {f : FuncId} {args : List VV} {vs : List Value} {y : VV} (h : vnative P f args = some y) (hr : RepL c W args vs) : ∃ v, (callFunc f ⟨vs⟩).run P W = .ok (.value v) W ∧ Rep c W y v := by
  unfold vnative at h
  split at h
  · rename_i fn hf
    split at h
    · cases h
    · rename_i hb
      split at h
      · rename_i hn
        split at h
        · rename_i x
          cases h
          obtain ⟨u, us, e, h1, h2⟩ := hr
          have e2 : us = [] := h2
          subst e2
          subst e
          have hnx : Extern.findNext fn = none := by simpa using hn.2
          have hng : ¬ fn.name = "runtime.NumGoroutine" := by rw [hn.1]; decide
          refine ⟨u, ?_, h1⟩
          have hs : Extern.AbiNoEscape.same (⟨[u]⟩ : Array Value) = pure u := rfl
          simp [callFunc, hf, hb, hng, hnx, SC fn hn.1, hs]
        · cases h
      · split at h
        · rename_i vs' hvs
          split at h
          · rename_i v hv
            cases h
            have e := rO hvs hr
            subst e
            exact ⟨v, ju hv W, ub c W v⟩
          · cases h
        · cases h
  · cases h
def vsliceX (P : Program) (H : Nat → Option VObj) (t : TypeId) (x : VV) (lo hi mx : Option VV) : Option VV :=
  match mx with
  | some _ => none
  | none => match P.underlying t, x with
    | some (.slice e), .ref β off _ es cp => match hi with
      | none => none
      | some z => match szT P e, vbound 0 lo, vbound 0 (some z) with
        | some n, some l, some h => if l < h ∧ h ≤ cp ∧ n = es ∧ (H β).isSome = true then some (.ref β (off + l * n) (h - l) n (cp - l)) else none
        | _, _, _ => none
    | some (.array n e), .ptr β off => match H β with
      | some (.cells _ cs) => match szT P e, vbound 0 lo, vbound n hi with
        | some sz, some l, some h => if l ≤ h ∧ h ≤ n ∧ l < n ∧ off + n * sz ≤ cs.length then some (.ref β (off + l * sz) (h - l) sz (n - l)) else none
        | _, _, _ => none
      | _ => none
    | _, _ => none
theorem Jy (d d' : Nat) (z : VV) : vbound d (some z) = vbound d' (some z) := by
  cases z <;> try rfl
  rename_i v
  cases v <;> rfl
theorem Nq {P : Program} {c : Ctx} {W : World} {lo hi : Option VV} {vlo vhi : Option Value} {l h len cap : Nat} {b : Bool} (hlo : vbound 0 lo = some l) (hhi : vbound len hi = some h)
    (rlo : RepO c W lo vlo) (rhi : RepO c W hi vhi) (h1 : l ≤ h) (h2 : h ≤ cap) : (Instr.sliceBounds b len cap vlo vhi none).run P W = .ok (l, h, cap) W := by
  unfold Instr.sliceBounds
  cases hi with
  | none =>
    cases vhi with
    | some _ => exact rhi.elim
    | none =>
      have e := lR hhi
      subst e
      cases lo with
      | none =>
        cases vlo with
        | some _ => exact rlo.elim
        | none => have e := lR hlo; subst e; simp
      | some x =>
        cases vlo with
        | none => exact rlo.elim
        | some v => simp [ie hlo rlo h1]
  | some y =>
    cases vhi with
    | none => exact rhi.elim
    | some u =>
      cases lo with
      | none =>
        cases vlo with
        | some _ => exact rlo.elim
        | none => have e := lR hlo; subst e; simp [ie hhi rhi h2]
      | some x =>
        cases vlo with
        | none => exact rlo.elim
        | some v => simp [ie hhi rhi h2, ie hlo rlo h1]
theorem FB {P : Program} {c : Ctx} {W : World} (s : Sim c W) {γ : Nat} {t : TypeId} {x y : VV} {v : Value} {lo hi mx : Option VV} {vlo vhi vmx : Option Value} (h : vsliceX P c.H t x lo hi mx = some y) (hr : Rep c W x v)
    (rlo : RepO c W lo vlo) (rhi : RepO c W hi vhi) (rmx : RepO c W mx vmx) : Stp P (aU (Instr.sliceAt t v vlo vhi vmx)) c W γ y .none := by
  unfold vsliceX at h
  split at h
  · cases h
  · have hmx : vmx = none := by cases vmx with | none => rfl | some _ => exact rmx.elim
    subst hmx
    split at h
    · rename_i e β off len es cp hu
      split at h
      · cases h
      · rename_i z
        split at h
        · rename_i n l hh hn hlo hhi
          split at h
          · rename_i hc
            obtain ⟨c1, c2, c3, c4⟩ := hc
            cases h
            subst c3
            obtain ⟨cap, e1, h1, h2, h3⟩ := hr.2 c4
            subst e1
            have hhi' : vbound len (some z) = some hh := by rw [Jy len 0]; exact hhi
            have hb := Nq (P := P) (b := true) (cap := cap) hlo hhi' rlo rhi (by omega) (by omega)
            have hne : ¬ (cap = l) := by omega
            refine Stp.same s (bU (v := .slice (some ⟨c.φ β, off + l * n, none⟩) (hh - l) (cap - l)) ?_) ⟨hr.1.imp id (fun _ => rfl), fun _ => ⟨cap - l, rfl, by omega, ?_, by omega⟩⟩
            · simp [Instr.sliceAt, run_underlying hu, Instr.slice, hb, gQ hn, hne, iW]
            · have e3 : l * n + (cap - l) * n = cap * n := by rw [← Nat.add_mul]; congr 1; omega
              omega
          · cases h
        · cases h
    · rename_i n e β off hu
      split at h
      · rename_i el cs hβ
        split at h
        · rename_i sz l hh hn hlo hhi
          split at h
          · rename_i hc
            obtain ⟨c1, c2, c3, c4⟩ := hc
            cases h
            have hlive : c.live β := by simp [Ctx.live, hβ]
            have hv : v = .pointer (some ⟨c.φ β, off, none⟩) := hr.2 hlive
            subst hv
            obtain ⟨SD, e0, g1, g2, g3, g4, g5⟩ := s.obj β _ hβ
            have hb := Nq (P := P) (b := false) (cap := n) hlo hhi rlo rhi c1 c2
            have hne : ¬ (n = l) := by omega
            refine Stp.same s (bU (v := .slice (some ⟨c.φ β, off + l * sz, none⟩) (hh - l) (n - l)) ?_) ⟨⟨s.used β hlive, rfl⟩, fun _ => ⟨n - l, rfl, by omega, ?_, Nat.le_refl _⟩⟩
            · simp [Instr.sliceAt, Instr.sureAddr, run_underlying hu, hb, gQ hn, hne, iW]
            · have e3 : l * sz + (n - l) * sz = n * sz := by rw [← Nat.add_mul]; congr 1; omega
              rw [← g2]
              omega
          · cases h
        · cases h
      · cases h
    · cases h
end Go.V
end
