/- Part of a proof. -/
import Derived.Test.YtekhjalgmlflpaaGreatDoorRax
set_option linter.all false
section
namespace Go.V
open Go
set_option linter.defProp false
section
variable {P : Program} {G : Glob} {n : Nat} {γ : Nat} {tm : Nat → VV} {H : Nat → Option VObj} {nx : Nat} {df : List VDef} {K : St → Prop} {Kd : List Nat → List Nat → St → Prop} {Qp : VV → St → Prop}
 {d : Option Tmp} {ty : TypeId} {pos : String} {af : Array Edge} {g : Option (Nat × Bool)}
section
variable {a b : Prop} {x y : VV} {k : VV → Prop}
theorem zaik : guardK (.lit (.bool true)) true a b = a := by simp [guardK]
theorem zaja : guardK (.lit (.bool true)) false a b = b := by simp [guardK]
theorem zais : guardK (.lit (.bool false)) true a b = b := by simp [guardK]
theorem zajw : guardK (.lit (.bool false)) false a b = a := by simp [guardK]
theorem zano {w : Bool} : guardK (.lit undef) w a b = b := rfl
theorem zaro : pickK (.lit (.bool true)) x y k = k x := by simp [pickK]
theorem zarn : pickK (.lit (.bool false)) x y k = k y := by simp [pickK]
theorem zaqt : condK (.lit (.bool true)) a b = a := by simp [condK]
theorem zaqn : condK (.lit (.bool false)) a b = b := by simp [condK]
end
theorem zca : leafL [] = true := rfl
theorem zbo {x : VV} {xs : List VV} : leafL (x :: xs) = (x.leaf && leafL xs) := rfl
theorem zsk {k : IntKind} {i : Int} : (VV.lit (.int k i)).leaf = true := rfl
theorem zob {b : Bool} : (VV.lit (.bool b)).leaf = true := rfl
theorem zkz {b : ByteArray} : (VV.lit (.string b)).leaf = true := rfl
theorem zmd {b : Option Addr} {l c : Nat} : (VV.lit (.slice b l c)).leaf = true := rfl
theorem zaac {cs : List VV} {k : Nat} {f : Bool} : (VV.sl cs k f).leaf = true := rfl
theorem zalt {β o l e c : Nat} : (VV.ref β o l e c).leaf = true := rfl
theorem zhs {cs : List VV} : vcells (.agg cs) = if leafL cs = true then some cs else none := by simp only [vcells, zml]
theorem vcells1 {x : VV} (h : x.leaf = true) : vcells x = some [x] := by
 cases x <;> first | rfl | (simp [vcells, h]; done) | cases h
theorem zadv {k : IntKind} {i : Int} : vcells (.lit (.int k i)) = some [.lit (.int k i)] := rfl
theorem zaaw {b : Bool} : vcells (.lit (.bool b)) = some [.lit (.bool b)] := rfl
theorem zvm {b : ByteArray} : vcells (.lit (.string b)) = some [.lit (.string b)] := rfl
theorem zact {b : Option Addr} {l c : Nat} : vcells (.lit (.slice b l c)) = some [.lit (.slice b l c)] := rfl
theorem zahq {cs : List VV} {k : Nat} {f : Bool} : vcells (.sl cs k f) = some [.sl cs k f] := rfl
theorem zadj {β o l e c : Nat} : vcells (.ref β o l e c) = some [.ref β o l e c] := rfl
theorem zwp {cs xs : List VV} {off : Nat} : overwrite cs off xs = cs.take off ++ (xs ++ cs.drop (off + xs.length)) := by simp [overwrite, List.append_assoc]
def vzl (P : Program) (t : TypeId) : Option (List VV) := (vzero P t).map fun z => z.toList.map ofVal1
theorem zabn {t : TypeId} : bodyK P G γ ⟨d, .alloc t, ty, pos, af, g⟩ ⟨tm, H, nx, df⟩ K Qp = (match vzl P t with | some cs => fin d γ tm H nx df K (.ptr γ 0) (.new (.cells (some t) cs)) | none => False) := by
 rw [zaej]; unfold vzl; cases vzero P t <;> rfl
theorem zxn {t : TypeId} : dbodyK P G γ ⟨d, .alloc t, ty, pos, af, g⟩ ⟨tm, H, nx, df⟩ Kd = (match vzl P t with | some cs => fin d γ tm H nx df (Kd (rdV ⟨d, .alloc t, ty, pos, af, g⟩ (ev G tm)) [γ]) (.ptr γ 0) (.new (.cells (some t) cs)) | none => False) := by
 rw [zaal]; unfold vzl; cases vzero P t <;> rfl
def vstoreV (P : Program) (H : Nat → Option VObj) (t : TypeId) (a x : VV) : Option (VV × VEff) := match a with
  | .ptr β off => match H β, vcells x, szT P t with
   | some (.cells el cs), some xs, some n => if xs.length = n ∧ off + n ≤ cs.length then some (.any, .upd β (.cells el (overwrite cs off xs))) else none
   | _, _, _ => none
  | _ => none
theorem zabv {t : TypeId} {a x : Operand} : bodyK P G γ ⟨d, .store t a x, ty, pos, af, g⟩ ⟨tm, H, nx, df⟩ K Qp = oeK (vstoreV P H t (ev G tm a) (ev G tm x)) (fun y e => fin d γ tm H nx df K y e) := by
 rw [zadz]; rfl
theorem zabe {t : TypeId} {x : VV} {β off : Nat} : vstoreV P H t (.ptr β off) x = (match H β, vcells x, szT P t with
   | some (.cells el cs), some xs, some n => if xs.length = n ∧ off + n ≤ cs.length then some (.any, .upd β (.cells el (overwrite cs off xs))) else none
   | _, _, _ => none) := rfl
end
def eI (n : Int) : List VV := [.lit (.int .i64 n)]
def eU8 (n : Int) : List VV := [.lit (.int .u8 n)]
def eB (b : Bool) : List VV := [.lit (.bool b)]
def eS (s : ByteArray) : List VV := [.lit (.string s)]
def eSl {α : Type} (enc : α → List VV) (xs : List α) : List VV := [.sl (cellsL enc xs) xs.length false]
theorem eI_eq {n : Int} : eI n = [.lit (.int .i64 n)] := rfl
theorem zair {n : Int} : eU8 n = [.lit (.int .u8 n)] := rfl
theorem eB_eq {b : Bool} : eB b = [.lit (.bool b)] := rfl
theorem eS_eq {s : ByteArray} : eS s = [.lit (.string s)] := rfl
theorem zaiu {α : Type} {enc : α → List VV} {xs : List α} : eSl enc xs = [.sl (cellsL enc xs) xs.length false] := rfl
structure EncOk {α : Type} (enc : α → List VV) : Prop where
 tree : ∀ x, treeL (enc x) = true
 norm : ∀ x, normL (enc x) = enc x
 shown : ∀ x H d, (enc x).map (showV H d) = enc x
theorem eI_ok : EncOk eI := ⟨fun _ => rfl, fun _ => rfl, fun _ _ d => by cases d <;> rfl⟩
theorem zalq : EncOk eU8 := ⟨fun _ => rfl, fun _ => rfl, fun _ _ d => by cases d <;> rfl⟩
theorem eB_ok : EncOk eB := ⟨fun _ => rfl, fun _ => rfl, fun _ _ d => by cases d <;> rfl⟩
theorem eS_ok : EncOk eS := ⟨fun _ => rfl, fun _ => rfl, fun _ _ d => by cases d <;> rfl⟩
section
variable {α : Type} {enc : α → List VV} (h : EncOk enc)
include h
theorem EncOk.treeL (xs : List α) : Go.V.treeL (cellsL enc xs) = true := zly h.tree xs
theorem EncOk.normL (xs : List α) : Go.V.normL (cellsL enc xs) = cellsL enc xs := zlw h.norm xs
theorem EncOk.showL (xs : List α) (H : Nat → Option VObj) (d : Nat) : (cellsL enc xs).map (showV H d) = cellsL enc xs := zug (fun x => h.shown x H d) xs
theorem EncOk.sl : EncOk (eSl enc) := ⟨fun x => by simp [eSl, Go.V.treeL, VV.tree, h.treeL], fun x => by simp [eSl, Go.V.normL, normV, h.normL], fun x H d => by cases d <;> rfl⟩
end
theorem EncOk.of {α : Type} {enc : α → List VV} (h1 : ∀ x, Go.V.treeL (enc x) = true) (h2 : ∀ x, Go.V.normL (enc x) = enc x) (h3 : ∀ x H d, (enc x).map (showV H d) = enc x) : EncOk enc := ⟨h1, h2, h3⟩
theorem zaje {H : Nat → Option VObj} {d : Nat} {v : Value} : showV H d (.lit v) = .lit v := by cases d <;> rfl
theorem zaln {H : Nat → Option VObj} {d n : Nat} {cs : List VV} {f : Bool} : showV H d (.sl cs n f) = .sl cs n f := by cases d <;> rfl
theorem zaf {H : Nat → Option VObj} {d β off len es cp : Nat} : showV H (d + 1) (.ref β off len es cp) = (match H β with
   | some (.cells _ cs) => if off ≤ cs.length then .sl (((cs.drop off).take (len * es)).map (showV H d)) len false else .ref β off len es cp
   | _ => .ref β off len es cp) := rfl
theorem zahl {H : Nat → Option VObj} {d : Nat} {cs : List VV} : showV H (d + 1) (.agg cs) = .agg (cs.map (showV H d)) := rfl
theorem zaib {H : Nat → Option VObj} {d : Nat} {cs : List VV} : showV H (d + 1) (.tup cs) = .tup (cs.map (showV H d)) := rfl
theorem zafs {cs : List VV} {n : Nat} {f : Bool} : normV (.sl cs n f) = .sl (normL cs) n false := by simp [normV]
theorem zxx : normV (.lit (.slice none 0 0)) = .sl [] 0 false := by simp [normV]
theorem zyc {cs : List VV} : normV (.agg cs) = .agg (normL cs) := by simp [normV]
theorem zajh {cs : List VV} : normV (.tup cs) = .tup (normL cs) := by simp [normV]
theorem zye {k : IntKind} {n : Int} : normV (.lit (.int k n)) = .lit (.int k n) := by simp [normV]
theorem ztk {b : Bool} : normV (.lit (.bool b)) = .lit (.bool b) := by simp [normV]
theorem zxr {b : ByteArray} : normV (.lit (.string b)) = .lit (.string b) := by simp [normV]
theorem zih : normL [] = [] := rfl
theorem zhd {x : VV} {xs : List VV} : normL (x :: xs) = normV x :: normL xs := by simp [normL]
theorem zalj : VV.tree .any = true := rfl
def vs := (And.intro (And.intro (And.intro (And.intro (And.intro (And.intro (And.intro @zaqc @zaft) (And.intro @zapl @zanv)) (And.intro (And.intro @zalp @zagz) (And.intro @zals @zabb))) (And.intro (And.intro (And.intro @zamx @zaiw) (And.intro @zvv @zafi)) (And.intro (And.intro @zaiq @zalu) (And.intro @zajo @zamb)))) (And.intro (And.intro (And.intro (And.intro @zamw @zaps) (And.intro @zxi @zajn)) (And.intro (And.intro @zabf @zanw) (And.intro @zapg @zagw))) (And.intro (And.intro (And.intro @zahc @zsr) (And.intro @zamv @zjg)) (And.intro (And.intro @zme @zxe) (And.intro @zamk (And.intro @zpn @zahj)))))) (And.intro (And.intro (And.intro (And.intro (And.intro @zasr @zkq) (And.intro @zgf @zaqq)) (And.intro (And.intro @zash @zast) (And.intro @zavc @zaow))) (And.intro (And.intro (And.intro @zaof @argsTm1) (And.intro @argsTm2 @zaby)) (And.intro (And.intro @zacm @zaam) (And.intro @zaju (And.intro @zacq @zwe))))) (And.intro (And.intro (And.intro (And.intro @zadt @zacl) (And.intro @zqh @zaau)) (And.intro (And.intro @zqn @zabr) (And.intro @zaia @zamp))) (And.intro (And.intro (And.intro @zaaz @zaix) (And.intro @ztl @zafy)) (And.intro (And.intro @zsg @zacs) (And.intro @zuw (And.intro @zadm @zwj))))))) (And.intro (And.intro (And.intro (And.intro (And.intro (And.intro @zaos @zasa) (And.intro @zase @zarq)) (And.intro (And.intro @zaqh @zaqp) (And.intro @argsTm3 @argsTm4))) (And.intro (And.intro (And.intro @argsTm5 @zakx) (And.intro @zagj @zafx)) (And.intro (And.intro @zacy @zabk) (And.intro @zalx (And.intro @zajr @zaik))))) (And.intro (And.intro (And.intro (And.intro @zaja @zais) (And.intro @zajw @zano)) (And.intro (And.intro @zaro @zarn) (And.intro @zaqt @zaqn))) (And.intro (And.intro (And.intro @zaih @zaap) (And.intro @zage @zsd)) (And.intro (And.intro @zabv @zabe) (And.intro @zabn (And.intro @zamf @zca)))))) (And.intro (And.intro (And.intro (And.intro (And.intro @zbo @zsk) (And.intro @zob @zkz)) (And.intro (And.intro @zmd @zaac) (And.intro @zalt @zhs))) (And.intro (And.intro (And.intro @zadv @zaaw) (And.intro @zvm @zact)) (And.intro (And.intro @zahq @zadj) (And.intro @zwp (And.intro @zqm @zxn))))) (And.intro (And.intro (And.intro (And.intro @zaji @zpb) (And.intro @zws @zaba)) (And.intro (And.intro @zql @zaqz) (And.intro @zapr @zaxi))) (And.intro (And.intro (And.intro @zauo @zaai) (And.intro @zarr @zaa)) (And.intro (And.intro @zac @zacn) (And.intro @zabx (And.intro @zcc @zba))))))))
section
variable {i : Nat} {a : Oper} {l : List Oper} {x : VV} {xs ys : List VV}
theorem zare : (a :: l)[i + 1]? = l[i]? := rfl
theorem zarv : (a :: l)[0]? = some a := rfl
theorem zasu : (x :: xs)[i + 1]? = xs[i]? := rfl
theorem zarh : (x :: xs)[0]? = some x := rfl
theorem zaqy {f : Oper → Option Tmp} : (some a).bind f = f a := rfl
theorem zaqd {f : List VV → Option VV} : (some xs).bind f = f xs := rfl
theorem zaxa {f : VV → VV} : (some x).map f = some (f x) := rfl
theorem zavk : (a :: l).length = l.length + 1 := rfl
theorem zarx : ([] : List Oper).length = 0 := rfl
theorem zave : (x :: xs).length = xs.length + 1 := rfl
theorem zaqs : ([] : List VV).length = 0 := rfl
theorem zawc {f : Operand → VV} {o : Operand} {os : List Operand} : (o :: os).map f = f o :: os.map f := rfl
theorem zask {f : Operand → VV} : ([] : List Operand).map f = [] := rfl
theorem zaua {f : Nat × Operand → Nat × VV} {o : Nat × Operand} {os : List (Nat × Operand)} : (o :: os).map f = f o :: os.map f := rfl
theorem zasx {f : Nat × Operand → Nat × VV} : ([] : List (Nat × Operand)).map f = [] := rfl
theorem zasv {f : VV → VV} : (x :: xs).map f = f x :: xs.map f := rfl
theorem zana {f : VV → VV} : ([] : List VV).map f = [] := rfl
theorem zjb : (x :: xs) ++ ys = x :: (xs ++ ys) := rfl
theorem zgn : [] ++ ys = ys := rfl
theorem zarg : (x :: xs).drop (i + 1) = xs.drop i := rfl
theorem zamr : xs.drop 0 = xs := by simp
theorem zata : (x :: xs).take (i + 1) = x :: xs.take i := rfl
theorem zans : xs.take 0 = [] := by simp
theorem zapo {o : VObj} : (some o).isSome = true := rfl
theorem m_nil : (([] : List Nat) = []) = True := by simp
theorem m_ne {a b : Bool} : (a ≠ b) = ¬ (a = b) := rfl
theorem m_neN {a b : Nat} : (a ≠ b) = ¬ (a = b) := rfl
end
def cr := (And.intro (And.intro (And.intro (And.intro (And.intro @zare (And.intro @zarv @zasu)) (And.intro @zarh (And.intro @zaqy @zaqd))) (And.intro (And.intro @zaxa (And.intro @zavk @zarx)) (And.intro (And.intro @zave @zaqs) (And.intro @zawc @zask)))) (And.intro (And.intro (And.intro @zaua (And.intro @zasx @zasv)) (And.intro @zana (And.intro @zjb @zgn))) (And.intro (And.intro @zarg (And.intro @zamr @zata)) (And.intro (And.intro @zans @zapo) (And.intro @m_nil @m_ne))))) (And.intro (And.intro (And.intro (And.intro @m_neN (And.intro @Nat.zero_add @not_true_eq_false)) (And.intro @not_false_eq_true (And.intro @false_implies @true_implies))) (And.intro (And.intro @true_and (And.intro @and_true @false_and)) (And.intro (And.intro @and_false @Bool.false_eq_true) (And.intro @Bool.true_eq_false @Bool.not_true)))) (And.intro (And.intro (And.intro @Bool.not_false (And.intro @Bool.and_self @decide_true)) (And.intro (And.intro @decide_false @Nat.add_assoc) (And.intro @Nat.zero_mul @Nat.one_mul))) (And.intro (And.intro @Nat.zero_le (And.intro @true_or @or_true)) (And.intro (And.intro @false_or @or_false) (And.intro @not_true @not_false_iff))))))
def nrm := (And.intro (And.intro (And.intro (And.intro @zafs @zxx) (And.intro @zyc (And.intro @zajh @zye))) (And.intro (And.intro @ztk @zxr) (And.intro @zih (And.intro @zhd @eI_ok.normL)))) (And.intro (And.intro (And.intro @zalq.normL @eB_ok.normL) (And.intro @eS_ok.normL (And.intro @zaje @zaln))) (And.intro (And.intro @zahl (And.intro @zaib @eI_ok.showL)) (And.intro @zalq.showL (And.intro @eB_ok.showL @eS_ok.showL)))))
def tre := (And.intro (And.intro (And.intro @zme @zjg) (And.intro @zxe (And.intro @zakx @zagj))) (And.intro (And.intro @zafx (And.intro @eI_ok.treeL @zalq.treeL)) (And.intro @eB_ok.treeL (And.intro @eS_ok.treeL @zalj))))
end Go.V
end
