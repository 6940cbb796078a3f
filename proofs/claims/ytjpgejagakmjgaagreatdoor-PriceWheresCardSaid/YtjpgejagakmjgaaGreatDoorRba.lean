/- Part of a proof. -/
import Derived.Test.YtjpgejagakmjgaaGreatDoorRaz
set_option linter.all false
section
namespace Go.V
open Go
set_option linter.defProp false
section
variable {P : Program} {G : Glob} {n : Nat} {γ : Nat} {tm : Nat → VV} {H : Nat → Option VObj} {nx : Nat} {df : List VDef} {K : St → Prop} {Kd : List Nat → List Nat → St → Prop} {Qp : VV → St → Prop}
 {d : Option Tmp} {ty : TypeId} {pos : String} {af : Array Edge} {g : Option (Nat × Bool)}
section
variable {a b : Prop} {x y : VV} {k : VV → Prop}
theorem zahu : guardK (.lit (.bool true)) true a b = a := by simp [guardK]
theorem zahq : guardK (.lit (.bool true)) false a b = b := by simp [guardK]
theorem zahs : guardK (.lit (.bool false)) true a b = b := by simp [guardK]
theorem zajp : guardK (.lit (.bool false)) false a b = a := by simp [guardK]
theorem zalm {w : Bool} : guardK (.lit undef) w a b = b := rfl
theorem zarv : pickK (.lit (.bool true)) x y k = k x := by simp [pickK]
theorem zasg : pickK (.lit (.bool false)) x y k = k y := by simp [pickK]
theorem zatf : condK (.lit (.bool true)) a b = a := by simp [condK]
theorem zaqn : condK (.lit (.bool false)) a b = b := by simp [condK]
end
theorem zcg : leafL [] = true := rfl
theorem zbo {x : VV} {xs : List VV} : leafL (x :: xs) = (x.leaf && leafL xs) := rfl
theorem zsy {k : IntKind} {i : Int} : (VV.lit (.int k i)).leaf = true := rfl
theorem zoe {b : Bool} : (VV.lit (.bool b)).leaf = true := rfl
theorem zkj {b : ByteArray} : (VV.lit (.string b)).leaf = true := rfl
theorem zlq {b : Option Addr} {l c : Nat} : (VV.lit (.slice b l c)).leaf = true := rfl
theorem zyj {cs : List VV} {k : Nat} {f : Bool} : (VV.sl cs k f).leaf = true := rfl
theorem zand {β o l e c : Nat} : (VV.ref β o l e c).leaf = true := rfl
theorem zkc {cs : List VV} : vcells (.agg cs) = if leafL cs = true then some cs else none := by simp only [vcells, zmh]
theorem vcells1 {x : VV} (h : x.leaf = true) : vcells x = some [x] := by
 cases x <;> first | rfl | (simp [vcells, h]; done) | cases h
theorem zafd {k : IntKind} {i : Int} : vcells (.lit (.int k i)) = some [.lit (.int k i)] := rfl
theorem zaan {b : Bool} : vcells (.lit (.bool b)) = some [.lit (.bool b)] := rfl
theorem zuo {b : ByteArray} : vcells (.lit (.string b)) = some [.lit (.string b)] := rfl
theorem zafa {b : Option Addr} {l c : Nat} : vcells (.lit (.slice b l c)) = some [.lit (.slice b l c)] := rfl
theorem zaht {cs : List VV} {k : Nat} {f : Bool} : vcells (.sl cs k f) = some [.sl cs k f] := rfl
theorem zach {β o l e c : Nat} : vcells (.ref β o l e c) = some [.ref β o l e c] := rfl
theorem zwy {cs xs : List VV} {off : Nat} : overwrite cs off xs = cs.take off ++ (xs ++ cs.drop (off + xs.length)) := by simp [overwrite, List.append_assoc]
def vzl (P : Program) (t : TypeId) : Option (List VV) := (vzero P t).map fun z => z.toList.map ofVal1
theorem zabv {t : TypeId} : bodyK P G γ ⟨d, .alloc t, ty, pos, af, g⟩ ⟨tm, H, nx, df⟩ K Qp = (match vzl P t with | some cs => fin d γ tm H nx df K (.ptr γ 0) (.new (.cells (some t) cs)) | none => False) := by
 rw [zafm]; unfold vzl; cases vzero P t <;> rfl
theorem zyd {t : TypeId} : dbodyK P G γ ⟨d, .alloc t, ty, pos, af, g⟩ ⟨tm, H, nx, df⟩ Kd = (match vzl P t with | some cs => fin d γ tm H nx df (Kd (rdV ⟨d, .alloc t, ty, pos, af, g⟩ (ev G tm)) [γ]) (.ptr γ 0) (.new (.cells (some t) cs)) | none => False) := by
 rw [zaas]; unfold vzl; cases vzero P t <;> rfl
def vstoreV (P : Program) (H : Nat → Option VObj) (t : TypeId) (a x : VV) : Option (VV × VEff) := match a with
  | .ptr β off => match H β, vcells x, szT P t with
   | some (.cells el cs), some xs, some n => if xs.length = n ∧ off + n ≤ cs.length then some (.any, .upd β (.cells el (overwrite cs off xs))) else none
   | _, _, _ => none
  | _ => none
theorem zaaw {t : TypeId} {a x : Operand} : bodyK P G γ ⟨d, .store t a x, ty, pos, af, g⟩ ⟨tm, H, nx, df⟩ K Qp = oeK (vstoreV P H t (ev G tm a) (ev G tm x)) (fun y e => fin d γ tm H nx df K y e) := by
 rw [zacz]; rfl
theorem zace {t : TypeId} {x : VV} {β off : Nat} : vstoreV P H t (.ptr β off) x = (match H β, vcells x, szT P t with
   | some (.cells el cs), some xs, some n => if xs.length = n ∧ off + n ≤ cs.length then some (.any, .upd β (.cells el (overwrite cs off xs))) else none
   | _, _, _ => none) := rfl
end
def eI (n : Int) : List VV := [.lit (.int .i64 n)]
def eU8 (n : Int) : List VV := [.lit (.int .u8 n)]
def eB (b : Bool) : List VV := [.lit (.bool b)]
def eS (s : ByteArray) : List VV := [.lit (.string s)]
def eSl {α : Type} (enc : α → List VV) (xs : List α) : List VV := [.sl (cellsL enc xs) xs.length false]
theorem eI_eq {n : Int} : eI n = [.lit (.int .i64 n)] := rfl
theorem zajt {n : Int} : eU8 n = [.lit (.int .u8 n)] := rfl
theorem eB_eq {b : Bool} : eB b = [.lit (.bool b)] := rfl
theorem eS_eq {s : ByteArray} : eS s = [.lit (.string s)] := rfl
theorem zahn {α : Type} {enc : α → List VV} {xs : List α} : eSl enc xs = [.sl (cellsL enc xs) xs.length false] := rfl
structure EncOk {α : Type} (enc : α → List VV) : Prop where
 tree : ∀ x, treeL (enc x) = true
 norm : ∀ x, normL (enc x) = enc x
 shown : ∀ x H d, (enc x).map (showV H d) = enc x
theorem eI_ok : EncOk eI := ⟨fun _ => rfl, fun _ => rfl, fun _ _ d => by cases d <;> rfl⟩
theorem zaom : EncOk eU8 := ⟨fun _ => rfl, fun _ => rfl, fun _ _ d => by cases d <;> rfl⟩
theorem eB_ok : EncOk eB := ⟨fun _ => rfl, fun _ => rfl, fun _ _ d => by cases d <;> rfl⟩
theorem eS_ok : EncOk eS := ⟨fun _ => rfl, fun _ => rfl, fun _ _ d => by cases d <;> rfl⟩
section
variable {α : Type} {enc : α → List VV} (h : EncOk enc)
include h
theorem EncOk.treeL (xs : List α) : Go.V.treeL (cellsL enc xs) = true := zpc h.tree xs
theorem EncOk.normL (xs : List α) : Go.V.normL (cellsL enc xs) = cellsL enc xs := zqd h.norm xs
theorem EncOk.showL (xs : List α) (H : Nat → Option VObj) (d : Nat) : (cellsL enc xs).map (showV H d) = cellsL enc xs := ztx (fun x => h.shown x H d) xs
theorem EncOk.sl : EncOk (eSl enc) := ⟨fun x => by simp [eSl, Go.V.treeL, VV.tree, h.treeL], fun x => by simp [eSl, Go.V.normL, normV, h.normL], fun x H d => by cases d <;> rfl⟩
end
theorem EncOk.of {α : Type} {enc : α → List VV} (h1 : ∀ x, Go.V.treeL (enc x) = true) (h2 : ∀ x, Go.V.normL (enc x) = enc x) (h3 : ∀ x H d, (enc x).map (showV H d) = enc x) : EncOk enc := ⟨h1, h2, h3⟩
theorem zajq {H : Nat → Option VObj} {d : Nat} {v : Value} : showV H d (.lit v) = .lit v := by cases d <;> rfl
theorem zamh {H : Nat → Option VObj} {d n : Nat} {cs : List VV} {f : Bool} : showV H d (.sl cs n f) = .sl cs n f := by cases d <;> rfl
theorem zai {H : Nat → Option VObj} {d β off len es cp : Nat} : showV H (d + 1) (.ref β off len es cp) = (match H β with
   | some (.cells _ cs) => if off ≤ cs.length then .sl (((cs.drop off).take (len * es)).map (showV H d)) len false else .ref β off len es cp
   | _ => .ref β off len es cp) := rfl
theorem zahr {H : Nat → Option VObj} {d : Nat} {cs : List VV} : showV H (d + 1) (.agg cs) = .agg (cs.map (showV H d)) := rfl
theorem zajg {H : Nat → Option VObj} {d : Nat} {cs : List VV} : showV H (d + 1) (.tup cs) = .tup (cs.map (showV H d)) := rfl
theorem zafr {cs : List VV} {n : Nat} {f : Bool} : normV (.sl cs n f) = .sl (normL cs) n false := by simp [normV]
theorem zzb : normV (.lit (.slice none 0 0)) = .sl [] 0 false := by simp [normV]
theorem zzr {cs : List VV} : normV (.agg cs) = .agg (normL cs) := by simp [normV]
theorem zaiz {cs : List VV} : normV (.tup cs) = .tup (normL cs) := by simp [normV]
theorem zaac {k : IntKind} {n : Int} : normV (.lit (.int k n)) = .lit (.int k n) := by simp [normV]
theorem zov {b : Bool} : normV (.lit (.bool b)) = .lit (.bool b) := by simp [normV]
theorem zwl {b : ByteArray} : normV (.lit (.string b)) = .lit (.string b) := by simp [normV]
theorem zgr : normL [] = [] := rfl
theorem zfs {x : VV} {xs : List VV} : normL (x :: xs) = normV x :: normL xs := by simp [normL]
theorem zanc : VV.tree .any = true := rfl
def vs := (And.intro (And.intro (And.intro (And.intro (And.intro (And.intro (And.intro @zark @zafx) (And.intro @zaqi @zalx)) (And.intro (And.intro @zani @zaji) (And.intro @zamd @zaby))) (And.intro (And.intro (And.intro @zana @zaje) (And.intro @zxe @zaeg)) (And.intro (And.intro @zaix @zaoj) (And.intro @zagr @zamq)))) (And.intro (And.intro (And.intro (And.intro @zalj @zaqr) (And.intro @zwb @zagu)) (And.intro (And.intro @zaaz @zamu) (And.intro @zatp @zaim))) (And.intro (And.intro (And.intro @zahx @ztf) (And.intro @zanh @zto)) (And.intro (And.intro @zyl @zadl) (And.intro @zaoi (And.intro @zaql @zaus)))))) (And.intro (And.intro (And.intro (And.intro (And.intro @zatw @zakj) (And.intro @zsk @zasd)) (And.intro (And.intro @zatz @zaum) (And.intro @zawr @zatn))) (And.intro (And.intro (And.intro @zaor @argsTm1) (And.intro @argsTm2 @zabx)) (And.intro (And.intro @zacs @zaax) (And.intro @zaiu (And.intro @zaci @zwa))))) (And.intro (And.intro (And.intro (And.intro @zagh @zafi) (And.intro @zqi @zabn)) (And.intro (And.intro @zqs @zabo) (And.intro @zahe @zamc))) (And.intro (And.intro (And.intro @zabi @zajn) (And.intro @zuq @zagl)) (And.intro (And.intro @zsu @zagn) (And.intro @zvp (And.intro @zaft @zwp))))))) (And.intro (And.intro (And.intro (And.intro (And.intro (And.intro @zaqz @zart) (And.intro @zasr @zaro)) (And.intro (And.intro @zato @zarc) (And.intro @argsTm3 @argsTm4))) (And.intro (And.intro (And.intro @argsTm5 @zakl) (And.intro @zaes @zadc)) (And.intro (And.intro @zafc @zaay) (And.intro @zane (And.intro @zaid @zahu))))) (And.intro (And.intro (And.intro (And.intro @zahq @zahs) (And.intro @zajp @zalm)) (And.intro (And.intro @zarv @zasg) (And.intro @zatf @zaqn))) (And.intro (And.intro (And.intro @zaii @zaba) (And.intro @zagd @ztb)) (And.intro (And.intro @zaaw @zace) (And.intro @zabv (And.intro @zame @zcg)))))) (And.intro (And.intro (And.intro (And.intro (And.intro @zbo @zsy) (And.intro @zoe @zkj)) (And.intro (And.intro @zlq @zyj) (And.intro @zand @zkc))) (And.intro (And.intro (And.intro @zafd @zaan) (And.intro @zuo @zafa)) (And.intro (And.intro @zaht @zach) (And.intro @zwy (And.intro @zqq @zyd))))) (And.intro (And.intro (And.intro (And.intro @zajj @zps) (And.intro @zxf @zabq)) (And.intro (And.intro @zqg @zasp) (And.intro @zapz @zawt))) (And.intro (And.intro (And.intro @zayh @zabp) (And.intro @zatd @zad)) (And.intro (And.intro @zab @zagb) (And.intro @zabz (And.intro @zbd @zan))))))))
section
variable {i : Nat} {a : Oper} {l : List Oper} {x : VV} {xs ys : List VV}
theorem zask : (a :: l)[i + 1]? = l[i]? := rfl
theorem zasm : (a :: l)[0]? = some a := rfl
theorem zaqq : (x :: xs)[i + 1]? = xs[i]? := rfl
theorem zasa : (x :: xs)[0]? = some x := rfl
theorem zarn {f : Oper → Option Tmp} : (some a).bind f = f a := rfl
theorem zard {f : List VV → Option VV} : (some xs).bind f = f xs := rfl
theorem zavb {f : VV → VV} : (some x).map f = some (f x) := rfl
theorem zavo : (a :: l).length = l.length + 1 := rfl
theorem zapy : ([] : List Oper).length = 0 := rfl
theorem zawc : (x :: xs).length = xs.length + 1 := rfl
theorem zaul : ([] : List VV).length = 0 := rfl
theorem zawv {f : Operand → VV} {o : Operand} {os : List Operand} : (o :: os).map f = f o :: os.map f := rfl
theorem zaqg {f : Operand → VV} : ([] : List Operand).map f = [] := rfl
theorem zaxv {f : Nat × Operand → Nat × VV} {o : Nat × Operand} {os : List (Nat × Operand)} : (o :: os).map f = f o :: os.map f := rfl
theorem zauc {f : Nat × Operand → Nat × VV} : ([] : List (Nat × Operand)).map f = [] := rfl
theorem zaqj {f : VV → VV} : (x :: xs).map f = f x :: xs.map f := rfl
theorem zaog {f : VV → VV} : ([] : List VV).map f = [] := rfl
theorem zfu : (x :: xs) ++ ys = x :: (xs ++ ys) := rfl
theorem zdf : [] ++ ys = ys := rfl
theorem zapb : (x :: xs).drop (i + 1) = xs.drop i := rfl
theorem zamb : xs.drop 0 = xs := by simp
theorem zarw : (x :: xs).take (i + 1) = x :: xs.take i := rfl
theorem zalt : xs.take 0 = [] := by simp
theorem zaqx {o : VObj} : (some o).isSome = true := rfl
theorem m_nil : (([] : List Nat) = []) = True := by simp
theorem m_ne {a b : Bool} : (a ≠ b) = ¬ (a = b) := rfl
theorem m_neN {a b : Nat} : (a ≠ b) = ¬ (a = b) := rfl
end
def cr := (And.intro (And.intro (And.intro (And.intro (And.intro @zask (And.intro @zasm @zaqq)) (And.intro @zasa (And.intro @zarn @zard))) (And.intro (And.intro @zavb (And.intro @zavo @zapy)) (And.intro (And.intro @zawc @zaul) (And.intro @zawv @zaqg)))) (And.intro (And.intro (And.intro @zaxv (And.intro @zauc @zaqj)) (And.intro @zaog (And.intro @zfu @zdf))) (And.intro (And.intro @zapb (And.intro @zamb @zarw)) (And.intro (And.intro @zalt @zaqx) (And.intro @m_nil @m_ne))))) (And.intro (And.intro (And.intro (And.intro @m_neN (And.intro @Nat.zero_add @not_true_eq_false)) (And.intro @not_false_eq_true (And.intro @false_implies @true_implies))) (And.intro (And.intro @true_and (And.intro @and_true @false_and)) (And.intro (And.intro @and_false @Bool.false_eq_true) (And.intro @Bool.true_eq_false @Bool.not_true)))) (And.intro (And.intro (And.intro @Bool.not_false (And.intro @Bool.and_self @decide_true)) (And.intro (And.intro @decide_false @Nat.add_assoc) (And.intro @Nat.zero_mul @Nat.one_mul))) (And.intro (And.intro @Nat.zero_le (And.intro @true_or @or_true)) (And.intro (And.intro @false_or @or_false) (And.intro @not_true @not_false_iff))))))
def nrm := (And.intro (And.intro (And.intro (And.intro @zafr @zzb) (And.intro @zzr (And.intro @zaiz @zaac))) (And.intro (And.intro @zov @zwl) (And.intro @zgr (And.intro @zfs @eI_ok.normL)))) (And.intro (And.intro (And.intro @zaom.normL @eB_ok.normL) (And.intro @eS_ok.normL (And.intro @zajq @zamh))) (And.intro (And.intro @zahr (And.intro @zajg @eI_ok.showL)) (And.intro @zaom.showL (And.intro @eB_ok.showL @eS_ok.showL)))))
def tre := (And.intro (And.intro (And.intro @zyl @zto) (And.intro @zadl (And.intro @zakl @zaes))) (And.intro (And.intro @zadc (And.intro @eI_ok.treeL @zaom.treeL)) (And.intro @eB_ok.treeL (And.intro @eS_ok.treeL @zanc))))
end Go.V
end
