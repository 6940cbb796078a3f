/- Part of a proof: a logic of values by content, lifted functions, what follows. -/
import Derived.Test.YtgdgkkloccpbnaaGreatDoorZbc
set_option linter.all false
section
namespace Go.V
open Go
set_option linter.defProp false
section
variable {P : Program} {G : Glob} {n : Nat} {γ : Nat} {tm : Nat → VV} {H : Nat → Option VObj} {nx : Nat} {df : List VDef} {K : St → Prop} {Kd : List Nat → List Nat → St → Prop} {Qp : VV → St → Prop}
 {d : Option Tmp} {ty : TypeId} {pos : String} {af : Array Edge} {g : Option (Nat × Bool)}
section
variable {a b : Prop} {x y : VV} {k : VV → Prop}
theorem guardK_tt : guardK (.lit (.bool true)) true a b = a := by simp [guardK]
theorem guardK_tf : guardK (.lit (.bool true)) false a b = b := by simp [guardK]
theorem guardK_ft : guardK (.lit (.bool false)) true a b = b := by simp [guardK]
theorem guardK_ff : guardK (.lit (.bool false)) false a b = a := by simp [guardK]
theorem guardK_u {w : Bool} : guardK (.lit undef) w a b = b := rfl
theorem pickK_t : pickK (.lit (.bool true)) x y k = k x := by simp [pickK]
theorem pickK_f : pickK (.lit (.bool false)) x y k = k y := by simp [pickK]
theorem condK_t : condK (.lit (.bool true)) a b = a := by simp [condK]
theorem condK_f : condK (.lit (.bool false)) a b = b := by simp [condK]
end
theorem leafL_nil : leafL [] = true := rfl
theorem leafL_cons {x : VV} {xs : List VV} : leafL (x :: xs) = (x.leaf && leafL xs) := rfl
theorem leaf_int {k : IntKind} {i : Int} : (VV.lit (.int k i)).leaf = true := rfl
theorem leaf_bool {b : Bool} : (VV.lit (.bool b)).leaf = true := rfl
theorem leaf_string {b : ByteArray} : (VV.lit (.string b)).leaf = true := rfl
theorem leaf_slice {b : Option Addr} {l c : Nat} : (VV.lit (.slice b l c)).leaf = true := rfl
theorem leaf_sl {cs : List VV} {k : Nat} {f : Bool} : (VV.sl cs k f).leaf = true := rfl
theorem leaf_ref {β o l e c : Nat} : (VV.ref β o l e c).leaf = true := rfl
theorem vcells_agg {cs : List VV} : vcells (.agg cs) = if leafL cs = true then some cs else none := by simp only [vcells, leafL_all]
theorem vcells1 {x : VV} (h : x.leaf = true) : vcells x = some [x] := by
 cases x <;> first | rfl | (simp [vcells, h]; done) | cases h
theorem vcells_int {k : IntKind} {i : Int} : vcells (.lit (.int k i)) = some [.lit (.int k i)] := rfl
theorem vcells_bool {b : Bool} : vcells (.lit (.bool b)) = some [.lit (.bool b)] := rfl
theorem vcells_string {b : ByteArray} : vcells (.lit (.string b)) = some [.lit (.string b)] := rfl
theorem vcells_nil {b : Option Addr} {l c : Nat} : vcells (.lit (.slice b l c)) = some [.lit (.slice b l c)] := rfl
theorem vcells_sl {cs : List VV} {k : Nat} {f : Bool} : vcells (.sl cs k f) = some [.sl cs k f] := rfl
theorem vcells_ref {β o l e c : Nat} : vcells (.ref β o l e c) = some [.ref β o l e c] := rfl
theorem overwrite_eq {cs xs : List VV} {off : Nat} : overwrite cs off xs = cs.take off ++ (xs ++ cs.drop (off + xs.length)) := by simp [overwrite, List.append_assoc]
def vzl (P : Program) (t : TypeId) : Option (List VV) := (vzero P t).map fun z => z.toList.map ofVal1
theorem body_allocL {t : TypeId} : bodyK P G γ ⟨d, .alloc t, ty, pos, af, g⟩ ⟨tm, H, nx, df⟩ K Qp = (match vzl P t with | some cs => fin d γ tm H nx df K (.ptr γ 0) (.new (.cells (some t) cs)) | none => False) := by
 rw [body_alloc]; unfold vzl; cases vzero P t <;> rfl
theorem dbody_allocL {t : TypeId} : dbodyK P G γ ⟨d, .alloc t, ty, pos, af, g⟩ ⟨tm, H, nx, df⟩ Kd = (match vzl P t with | some cs => fin d γ tm H nx df (Kd (rdV ⟨d, .alloc t, ty, pos, af, g⟩ (ev G tm)) [γ]) (.ptr γ 0) (.new (.cells (some t) cs)) | none => False) := by
 rw [dbody_alloc]; unfold vzl; cases vzero P t <;> rfl
def vstoreV (P : Program) (H : Nat → Option VObj) (t : TypeId) (a x : VV) : Option (VV × VEff) := match a with
  | .ptr β off => match H β, vcells x, szT P t with
   | some (.cells el cs), some xs, some n => if xs.length = n ∧ off + n ≤ cs.length then some (.any, .upd β (.cells el (overwrite cs off xs))) else none
   | _, _, _ => none
  | _ => none
theorem body_storeV {t : TypeId} {a x : Operand} : bodyK P G γ ⟨d, .store t a x, ty, pos, af, g⟩ ⟨tm, H, nx, df⟩ K Qp = oeK (vstoreV P H t (ev G tm a) (ev G tm x)) (fun y e => fin d γ tm H nx df K y e) := by
 rw [body_store]; rfl
theorem vstoreV_ptr {t : TypeId} {x : VV} {β off : Nat} : vstoreV P H t (.ptr β off) x = (match H β, vcells x, szT P t with
   | some (.cells el cs), some xs, some n => if xs.length = n ∧ off + n ≤ cs.length then some (.any, .upd β (.cells el (overwrite cs off xs))) else none
   | _, _, _ => none) := rfl
end
def eI (n : Int) : List VV := [.lit (.int .i64 n)]
def eU8 (n : Int) : List VV := [.lit (.int .u8 n)]
def eB (b : Bool) : List VV := [.lit (.bool b)]
def eS (s : ByteArray) : List VV := [.lit (.string s)]
def eSl {α : Type} (enc : α → List VV) (xs : List α) : List VV := [.sl (cellsL enc xs) xs.length false]
theorem eI_eq {n : Int} : eI n = [.lit (.int .i64 n)] := rfl
theorem eU8_eq {n : Int} : eU8 n = [.lit (.int .u8 n)] := rfl
theorem eB_eq {b : Bool} : eB b = [.lit (.bool b)] := rfl
theorem eS_eq {s : ByteArray} : eS s = [.lit (.string s)] := rfl
theorem eSl_eq {α : Type} {enc : α → List VV} {xs : List α} : eSl enc xs = [.sl (cellsL enc xs) xs.length false] := rfl
structure EncOk {α : Type} (enc : α → List VV) : Prop where
 tree : ∀ x, treeL (enc x) = true
 norm : ∀ x, normL (enc x) = enc x
 shown : ∀ x H d, (enc x).map (showV H d) = enc x
theorem eI_ok : EncOk eI := ⟨fun _ => rfl, fun _ => rfl, fun _ _ d => by cases d <;> rfl⟩
theorem eU8_ok : EncOk eU8 := ⟨fun _ => rfl, fun _ => rfl, fun _ _ d => by cases d <;> rfl⟩
theorem eB_ok : EncOk eB := ⟨fun _ => rfl, fun _ => rfl, fun _ _ d => by cases d <;> rfl⟩
theorem eS_ok : EncOk eS := ⟨fun _ => rfl, fun _ => rfl, fun _ _ d => by cases d <;> rfl⟩
section
variable {α : Type} {enc : α → List VV} (h : EncOk enc)
include h
theorem EncOk.treeL (xs : List α) : Go.V.treeL (cellsL enc xs) = true := treeL_cellsL h.tree xs
theorem EncOk.normL (xs : List α) : Go.V.normL (cellsL enc xs) = cellsL enc xs := normL_cellsL h.norm xs
theorem EncOk.showL (xs : List α) (H : Nat → Option VObj) (d : Nat) : (cellsL enc xs).map (showV H d) = cellsL enc xs := map_cellsL (fun x => h.shown x H d) xs
theorem EncOk.sl : EncOk (eSl enc) := ⟨fun x => by simp [eSl, Go.V.treeL, VV.tree, h.treeL], fun x => by simp [eSl, Go.V.normL, normV, h.normL], fun x H d => by cases d <;> rfl⟩
end
theorem EncOk.of {α : Type} {enc : α → List VV} (h1 : ∀ x, Go.V.treeL (enc x) = true) (h2 : ∀ x, Go.V.normL (enc x) = enc x) (h3 : ∀ x H d, (enc x).map (showV H d) = enc x) : EncOk enc := ⟨h1, h2, h3⟩
theorem showV_lit {H : Nat → Option VObj} {d : Nat} {v : Value} : showV H d (.lit v) = .lit v := by cases d <;> rfl
theorem showV_sl {H : Nat → Option VObj} {d n : Nat} {cs : List VV} {f : Bool} : showV H d (.sl cs n f) = .sl cs n f := by cases d <;> rfl
theorem showV_mp {H : Nat → Option VObj} {d β : Nat} : showV H (d + 1) (.mp β) = (match H β with
   | some (.map es) => .mt (es.map (·.1)) ((es.map (·.2)).map (showV H d))
   | _ => .mp β) := rfl
theorem showV_ref {H : Nat → Option VObj} {d β off len es cp : Nat} : showV H (d + 1) (.ref β off len es cp) = (match H β with
   | some (.cells _ cs) => if off ≤ cs.length then .sl (((cs.drop off).take (len * es)).map (showV H d)) len false else .ref β off len es cp
   | _ => .ref β off len es cp) := rfl
theorem showV_agg {H : Nat → Option VObj} {d : Nat} {cs : List VV} : showV H (d + 1) (.agg cs) = .agg (cs.map (showV H d)) := rfl
theorem showV_tup {H : Nat → Option VObj} {d : Nat} {cs : List VV} : showV H (d + 1) (.tup cs) = .tup (cs.map (showV H d)) := rfl
theorem normV_sl {cs : List VV} {n : Nat} {f : Bool} : normV (.sl cs n f) = .sl (normL cs) n false := by simp [normV]
theorem normV_nil : normV (.lit (.slice none 0 0)) = .sl [] 0 false := by simp [normV]
theorem normV_agg {cs : List VV} : normV (.agg cs) = .agg (normL cs) := by simp [normV]
theorem normV_tup {cs : List VV} : normV (.tup cs) = .tup (normL cs) := by simp [normV]
theorem normV_int {k : IntKind} {n : Int} : normV (.lit (.int k n)) = .lit (.int k n) := by simp [normV]
theorem normV_bool {b : Bool} : normV (.lit (.bool b)) = .lit (.bool b) := by simp [normV]
theorem normV_string {b : ByteArray} : normV (.lit (.string b)) = .lit (.string b) := by simp [normV]
theorem normL_nil : normL [] = [] := rfl
theorem normL_cons {x : VV} {xs : List VV} : normL (x :: xs) = normV x :: normL xs := by simp [normL]
theorem tree_any : VV.tree .any = true := rfl
def vs := (And.intro (And.intro (And.intro (And.intro (And.intro (And.intro (And.intro @cwp_seq @cwp_region) (And.intro @cwp_ret @cwp_skip)) (And.intro (And.intro @cwp_cond @cwp_block) (And.intro @cwp_exit @then_normal))) (And.intro (And.intro (And.intro @then_ret @then_exit) (And.intro @block_normal @block_exit)) (And.intro (And.intro @block_ret @seqK_nil) (And.intro @seqK_cons @stepK_go)))) (And.intro (And.intro (And.intro (And.intro @stepK_if @gK_some) (And.intro @guardK_undef @body_move)) (And.intro (And.intro @body_assign @body_bin) (And.intro @body_un @body_pick))) (And.intro (And.intro (And.intro @body_load @body_indexAddr) (And.intro @body_len @treeL_cons)) (And.intro (And.intro @treeL_nil @tree_lit) (And.intro @fin_some (And.intro @ev_tmp @ev_int)))))) (And.intro (And.intro (And.intro (And.intro (And.intro @ev_bool @ev_func) (And.intro @upd_apply @bin_leq)) (And.intro (And.intro @bin_lss @bin_add) (And.intro @un_not @oK_some))) (And.intro (And.intro (And.intro @oeK_some @argsTm1) (And.intro @argsTm2 @drawK_quiet)) (And.intro (And.intro @quietB_nil @quietB_cons) (And.intro @dstepK_if (And.intro @dbody_move @dbody_assign))))) (And.intro (And.intro (And.intro (And.intro @dbody_pick @dbody_load) (And.intro @dbody_fieldAddr @dbody_field)) (And.intro (And.intro @dbody_indexAddr @dbody_index) (And.intro @dbody_bin @dbody_un))) (And.intro (And.intro (And.intro @dbody_build @dbody_len) (And.intro @dbody_extract @dbody_call)) (And.intro (And.intro @body_fieldAddr @body_field) (And.intro @body_index (And.intro @body_build @body_extract))))))) (And.intro (And.intro (And.intro (And.intro (And.intro (And.intro @bin_eql @bin_neq) (And.intro @bin_gtr @bin_geq)) (And.intro (And.intro @bin_sub @bin_mul) (And.intro @argsTm3 @argsTm4))) (And.intro (And.intro (And.intro @argsTm5 @tree_sl) (And.intro @tree_agg @tree_tup)) (And.intro (And.intro @dstepK_goM @drawK_consM) (And.intro @drwQ_nil (And.intro @drwQ_cons @guardK_tt))))) (And.intro (And.intro (And.intro (And.intro @guardK_tf @guardK_ft) (And.intro @guardK_ff @guardK_u)) (And.intro (And.intro @pickK_t @pickK_f) (And.intro @condK_t @condK_f))) (And.intro (And.intro (And.intro @body_call @body_append) (And.intro @body_slice @body_makeSlice)) (And.intro (And.intro @body_storeV @vstoreV_ptr) (And.intro @body_allocL (And.intro @body_box @leafL_nil)))))) (And.intro (And.intro (And.intro (And.intro (And.intro @leafL_cons @leaf_int) (And.intro @leaf_bool @leaf_string)) (And.intro (And.intro @leaf_slice @leaf_sl) (And.intro @leaf_ref @vcells_agg))) (And.intro (And.intro (And.intro @vcells_int @vcells_bool) (And.intro @vcells_string @vcells_nil)) (And.intro (And.intro @vcells_sl @vcells_ref) (And.intro @overwrite_eq (And.intro @body_buildSlice @dbody_allocL))))) (And.intro (And.intro (And.intro (And.intro @dbody_box @dbody_buildSlice) (And.intro @dbody_append @dbody_slice)) (And.intro (And.intro @dbody_makeSlice @fin_new) (And.intro @fin_upd @fin_mv))) (And.intro (And.intro (And.intro @ev_str @ev_nilslice) (And.intro @oK_none @updH_apply)) (And.intro (And.intro @without_apply @then_panic) (And.intro @block_panic (And.intro @tgt_tp @tgt_ptr))))))))
section
variable {i : Nat} {a : Oper} {l : List Oper} {x : VV} {xs ys : List VV}
theorem mO_succ : (a :: l)[i + 1]? = l[i]? := rfl
theorem mO_zero : (a :: l)[0]? = some a := rfl
theorem mV_succ : (x :: xs)[i + 1]? = xs[i]? := rfl
theorem mV_zero : (x :: xs)[0]? = some x := rfl
theorem mO_bind {f : Oper → Option Tmp} : (some a).bind f = f a := rfl
theorem mL_bind {f : List VV → Option VV} : (some xs).bind f = f xs := rfl
theorem mV_map {f : VV → VV} : (some x).map f = some (f x) := rfl
theorem mO_len : (a :: l).length = l.length + 1 := rfl
theorem mO_len0 : ([] : List Oper).length = 0 := rfl
theorem mV_len : (x :: xs).length = xs.length + 1 := rfl
theorem mV_len0 : ([] : List VV).length = 0 := rfl
theorem mP_map {f : Operand → VV} {o : Operand} {os : List Operand} : (o :: os).map f = f o :: os.map f := rfl
theorem mP_map0 {f : Operand → VV} : ([] : List Operand).map f = [] := rfl
theorem mQ_map {f : Nat × Operand → Nat × VV} {o : Nat × Operand} {os : List (Nat × Operand)} : (o :: os).map f = f o :: os.map f := rfl
theorem mQ_map0 {f : Nat × Operand → Nat × VV} : ([] : List (Nat × Operand)).map f = [] := rfl
theorem mV_vmap {f : VV → VV} : (x :: xs).map f = f x :: xs.map f := rfl
theorem mV_vmap0 {f : VV → VV} : ([] : List VV).map f = [] := rfl
theorem mV_app : (x :: xs) ++ ys = x :: (xs ++ ys) := rfl
theorem mV_app0 : [] ++ ys = ys := rfl
theorem mV_drop : (x :: xs).drop (i + 1) = xs.drop i := rfl
theorem mV_drop0 : xs.drop 0 = xs := by simp
theorem mV_take : (x :: xs).take (i + 1) = x :: xs.take i := rfl
theorem mV_take0 : xs.take 0 = [] := by simp
theorem mI_some {o : VObj} : (some o).isSome = true := rfl
theorem m_nil : (([] : List Nat) = []) = True := by simp
theorem m_ne {a b : Bool} : (a ≠ b) = ¬ (a = b) := rfl
theorem m_neN {a b : Nat} : (a ≠ b) = ¬ (a = b) := rfl
end
def cr := (And.intro (And.intro (And.intro (And.intro (And.intro @mO_succ (And.intro @mO_zero @mV_succ)) (And.intro @mV_zero (And.intro @mO_bind @mL_bind))) (And.intro (And.intro @mV_map (And.intro @mO_len @mO_len0)) (And.intro (And.intro @mV_len @mV_len0) (And.intro @mP_map @mP_map0)))) (And.intro (And.intro (And.intro @mQ_map (And.intro @mQ_map0 @mV_vmap)) (And.intro @mV_vmap0 (And.intro @mV_app @mV_app0))) (And.intro (And.intro @mV_drop (And.intro @mV_drop0 @mV_take)) (And.intro (And.intro @mV_take0 @mI_some) (And.intro @m_nil @m_ne))))) (And.intro (And.intro (And.intro (And.intro @m_neN (And.intro @Nat.zero_add @not_true_eq_false)) (And.intro @not_false_eq_true (And.intro @false_implies @true_implies))) (And.intro (And.intro @true_and (And.intro @and_true @false_and)) (And.intro (And.intro @and_false @Bool.false_eq_true) (And.intro @Bool.true_eq_false @Bool.not_true)))) (And.intro (And.intro (And.intro @Bool.not_false (And.intro @Bool.and_self @decide_true)) (And.intro (And.intro @decide_false @Nat.add_assoc) (And.intro @Nat.zero_mul @Nat.one_mul))) (And.intro (And.intro @Nat.zero_le (And.intro @true_or @or_true)) (And.intro (And.intro @false_or @or_false) (And.intro @not_true @not_false_iff))))))
def nrm := (And.intro (And.intro (And.intro (And.intro @normV_sl @normV_nil) (And.intro @normV_agg (And.intro @normV_tup @normV_int))) (And.intro (And.intro @normV_bool @normV_string) (And.intro @normL_nil (And.intro @normL_cons @eI_ok.normL)))) (And.intro (And.intro (And.intro @eU8_ok.normL @eB_ok.normL) (And.intro @eS_ok.normL (And.intro @showV_lit @showV_sl))) (And.intro (And.intro @showV_agg (And.intro @showV_tup @eI_ok.showL)) (And.intro @eU8_ok.showL (And.intro @eB_ok.showL @eS_ok.showL)))))
def tre := (And.intro (And.intro (And.intro @treeL_nil @treeL_cons) (And.intro @tree_lit (And.intro @tree_sl @tree_agg))) (And.intro (And.intro @tree_tup (And.intro @eI_ok.treeL @eU8_ok.treeL)) (And.intro @eB_ok.treeL (And.intro @eS_ok.treeL @tree_any))))
end Go.V
end
