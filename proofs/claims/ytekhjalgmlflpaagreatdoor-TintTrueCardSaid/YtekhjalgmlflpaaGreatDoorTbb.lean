/- Part of a proof. -/
import Derived.Test.YtekhjalgmlflpaaGreatDoorTba
set_option linter.all false
section
namespace Go.V
open Go
set_option linter.defProp false
section
variable {P : Program} {G : Glob} {n : Nat} {γ : Nat} {tm : Nat → VV} {H : Nat → Option VObj} {nx : Nat} {df : List VDef} {K : St → Prop} {Kd : List Nat → List Nat → St → Prop} {Qp : VV → St → Prop}
 {d : Option Tmp} {ty : TypeId} {pos : String} {af : Array Edge} {g : Option (Nat × Bool)}
section
variable {a b : Prop} {x y : VV} {k : VV → Prop}
theorem zafy : guardK (.lit (.bool true)) true a b = a := by simp [guardK]
theorem zafv : guardK (.lit (.bool true)) false a b = b := by simp [guardK]
theorem zahg : guardK (.lit (.bool false)) true a b = b := by simp [guardK]
theorem zagq : guardK (.lit (.bool false)) false a b = a := by simp [guardK]
theorem zakc {w : Bool} : guardK (.lit undef) w a b = b := rfl
theorem zaqg : pickK (.lit (.bool true)) x y k = k x := by simp [pickK]
theorem zaom : pickK (.lit (.bool false)) x y k = k y := by simp [pickK]
theorem zank : condK (.lit (.bool true)) a b = a := by simp [condK]
theorem zaoz : condK (.lit (.bool false)) a b = b := by simp [condK]
end
theorem zfa : leafL [] = true := rfl
theorem zdy {x : VV} {xs : List VV} : leafL (x :: xs) = (x.leaf && leafL xs) := rfl
theorem zvs {k : IntKind} {i : Int} : (VV.lit (.int k i)).leaf = true := rfl
theorem zxe {b : Bool} : (VV.lit (.bool b)).leaf = true := rfl
theorem zrg {b : ByteArray} : (VV.lit (.string b)).leaf = true := rfl
theorem znw {b : Option Addr} {l c : Nat} : (VV.lit (.slice b l c)).leaf = true := rfl
theorem zacm {cs : List VV} {k : Nat} {f : Bool} : (VV.sl cs k f).leaf = true := rfl
theorem zajo {β o l e c : Nat} : (VV.ref β o l e c).leaf = true := rfl
theorem zof {cs : List VV} : vcells (.agg cs) = if leafL cs = true then some cs else none := by simp only [vcells, zlu]
theorem vcells1 {x : VV} (h : x.leaf = true) : vcells x = some [x] := by
 cases x <;> first | rfl | (simp [vcells, h]; done) | cases h
theorem zadt {k : IntKind} {i : Int} : vcells (.lit (.int k i)) = some [.lit (.int k i)] := rfl
theorem zzr {b : Bool} : vcells (.lit (.bool b)) = some [.lit (.bool b)] := rfl
theorem zaco {b : Option Addr} {l c : Nat} : vcells (.lit (.slice b l c)) = some [.lit (.slice b l c)] := rfl
theorem zahf {cs : List VV} {k : Nat} {f : Bool} : vcells (.sl cs k f) = some [.sl cs k f] := rfl
theorem zacn {β o l e c : Nat} : vcells (.ref β o l e c) = some [.ref β o l e c] := rfl
theorem zwn {cs xs : List VV} {off : Nat} : overwrite cs off xs = cs.take off ++ (xs ++ cs.drop (off + xs.length)) := by simp [overwrite, List.append_assoc]
def vzl (P : Program) (t : TypeId) : Option (List VV) := (vzero P t).map fun z => z.toList.map ofVal1
theorem zaaq {t : TypeId} : bodyK P G γ ⟨d, .alloc t, ty, pos, af, g⟩ ⟨tm, H, nx, df⟩ K Qp = (match vzl P t with | some cs => fin d γ tm H nx df K (.ptr γ 0) (.new (.cells (some t) cs)) | none => False) := by
 rw [zaea]; unfold vzl; cases vzero P t <;> rfl
theorem zvf {t : TypeId} : dbodyK P G γ ⟨d, .alloc t, ty, pos, af, g⟩ ⟨tm, H, nx, df⟩ Kd = (match vzl P t with | some cs => fin d γ tm H nx df (Kd (rdV ⟨d, .alloc t, ty, pos, af, g⟩ (ev G tm)) [γ]) (.ptr γ 0) (.new (.cells (some t) cs)) | none => False) := by
 rw [zaba]; unfold vzl; cases vzero P t <;> rfl
def vstoreV (P : Program) (H : Nat → Option VObj) (t : TypeId) (a x : VV) : Option (VV × VEff) := match a with
  | .ptr β off => match H β, vcells x, szT P t with
   | some (.cells el cs), some xs, some n => if xs.length = n ∧ off + n ≤ cs.length then some (.any, .upd β (.cells el (overwrite cs off xs))) else none
   | _, _, _ => none
  | _ => none
theorem zaaa {t : TypeId} {a x : Operand} : bodyK P G γ ⟨d, .store t a x, ty, pos, af, g⟩ ⟨tm, H, nx, df⟩ K Qp = oeK (vstoreV P H t (ev G tm a) (ev G tm x)) (fun y e => fin d γ tm H nx df K y e) := by
 rw [zaei]; rfl
theorem zaac {t : TypeId} {x : VV} {β off : Nat} : vstoreV P H t (.ptr β off) x = (match H β, vcells x, szT P t with
   | some (.cells el cs), some xs, some n => if xs.length = n ∧ off + n ≤ cs.length then some (.any, .upd β (.cells el (overwrite cs off xs))) else none
   | _, _, _ => none) := rfl
end
def eI (n : Int) : List VV := [.lit (.int .i64 n)]
def eU8 (n : Int) : List VV := [.lit (.int .u8 n)]
def eB (b : Bool) : List VV := [.lit (.bool b)]
def eS (s : ByteArray) : List VV := [.lit (.string s)]
def eSl {α : Type} (enc : α → List VV) (xs : List α) : List VV := [.sl (cellsL enc xs) xs.length false]
theorem eI_eq {n : Int} : eI n = [.lit (.int .i64 n)] := rfl
theorem zakp {n : Int} : eU8 n = [.lit (.int .u8 n)] := rfl
theorem eB_eq {b : Bool} : eB b = [.lit (.bool b)] := rfl
theorem eS_eq {s : ByteArray} : eS s = [.lit (.string s)] := rfl
theorem zajs {α : Type} {enc : α → List VV} {xs : List α} : eSl enc xs = [.sl (cellsL enc xs) xs.length false] := rfl
structure EncOk {α : Type} (enc : α → List VV) : Prop where
 tree : ∀ x, treeL (enc x) = true
 norm : ∀ x, normL (enc x) = enc x
 shown : ∀ x H d, (enc x).map (showV H d) = enc x
theorem eI_ok : EncOk eI := ⟨fun _ => rfl, fun _ => rfl, fun _ _ d => by cases d <;> rfl⟩
theorem zaju : EncOk eU8 := ⟨fun _ => rfl, fun _ => rfl, fun _ _ d => by cases d <;> rfl⟩
theorem eB_ok : EncOk eB := ⟨fun _ => rfl, fun _ => rfl, fun _ _ d => by cases d <;> rfl⟩
theorem eS_ok : EncOk eS := ⟨fun _ => rfl, fun _ => rfl, fun _ _ d => by cases d <;> rfl⟩
section
variable {α : Type} {enc : α → List VV} (h : EncOk enc)
include h
theorem EncOk.treeL (xs : List α) : Go.V.treeL (cellsL enc xs) = true := zll h.tree xs
theorem EncOk.normL (xs : List α) : Go.V.normL (cellsL enc xs) = cellsL enc xs := zlf h.norm xs
theorem EncOk.showL (xs : List α) (H : Nat → Option VObj) (d : Nat) : (cellsL enc xs).map (showV H d) = cellsL enc xs := ztj (fun x => h.shown x H d) xs
theorem EncOk.sl : EncOk (eSl enc) := ⟨fun x => by simp [eSl, Go.V.treeL, VV.tree, h.treeL], fun x => by simp [eSl, Go.V.normL, normV, h.normL], fun x H d => by cases d <;> rfl⟩
end
theorem EncOk.of {α : Type} {enc : α → List VV} (h1 : ∀ x, Go.V.treeL (enc x) = true) (h2 : ∀ x, Go.V.normL (enc x) = enc x) (h3 : ∀ x H d, (enc x).map (showV H d) = enc x) : EncOk enc := ⟨h1, h2, h3⟩
theorem zagd {H : Nat → Option VObj} {d : Nat} {v : Value} : showV H d (.lit v) = .lit v := by cases d <;> rfl
theorem zaks {H : Nat → Option VObj} {d n : Nat} {cs : List VV} {f : Bool} : showV H d (.sl cs n f) = .sl cs n f := by cases d <;> rfl
theorem zad {H : Nat → Option VObj} {d β off len es cp : Nat} : showV H (d + 1) (.ref β off len es cp) = (match H β with
   | some (.cells _ cs) => if off ≤ cs.length then .sl (((cs.drop off).take (len * es)).map (showV H d)) len false else .ref β off len es cp
   | _ => .ref β off len es cp) := rfl
theorem zahy {H : Nat → Option VObj} {d : Nat} {cs : List VV} : showV H (d + 1) (.agg cs) = .agg (cs.map (showV H d)) := rfl
theorem zagy {H : Nat → Option VObj} {d : Nat} {cs : List VV} : showV H (d + 1) (.tup cs) = .tup (cs.map (showV H d)) := rfl
theorem zaey {cs : List VV} {n : Nat} {f : Bool} : normV (.sl cs n f) = .sl (normL cs) n false := by simp [normV]
theorem zye : normV (.lit (.slice none 0 0)) = .sl [] 0 false := by simp [normV]
theorem zyn {cs : List VV} : normV (.agg cs) = .agg (normL cs) := by simp [normV]
theorem zahz {cs : List VV} : normV (.tup cs) = .tup (normL cs) := by simp [normV]
theorem zyb {k : IntKind} {n : Int} : normV (.lit (.int k n)) = .lit (.int k n) := by simp [normV]
theorem ztl {b : Bool} : normV (.lit (.bool b)) = .lit (.bool b) := by simp [normV]
theorem zvp {b : ByteArray} : normV (.lit (.string b)) = .lit (.string b) := by simp [normV]
theorem zix : normL [] = [] := rfl
theorem zhp {x : VV} {xs : List VV} : normL (x :: xs) = normV x :: normL xs := by simp [normL]
theorem zajy : VV.tree .any = true := rfl
def vs := (And.intro (And.intro (And.intro (And.intro (And.intro (And.intro @zaqf (And.intro @zadf @zaqe)) (And.intro (And.intro @zalp @zalt) (And.intro @zagr @zajr))) (And.intro (And.intro (And.intro @zabg @zakb) (And.intro @zail @zvl)) (And.intro (And.intro @zabl @zagj) (And.intro @zakq @zaga)))) (And.intro (And.intro (And.intro @zalo (And.intro @zajv @zaqp)) (And.intro (And.intro @zahm @zabc) (And.intro @zalz @zaoq))) (And.intro (And.intro (And.intro @zagv @zagw) (And.intro @zsj @zalg)) (And.intro (And.intro @zie @zmb) (And.intro @zwp @zakg))))) (And.intro (And.intro (And.intro (And.intro @zpg (And.intro @zaid @zaow)) (And.intro (And.intro @zjx @zfs) (And.intro @zaqh @zapp))) (And.intro (And.intro (And.intro @zapm @zath) (And.intro @zaps @zame)) (And.intro (And.intro @argsTm1 @argsTm2) (And.intro @zzp @zaeb)))) (And.intro (And.intro (And.intro (And.intro @zabb @zahw) (And.intro @zaej @zwi)) (And.intro (And.intro @zacg @zadv) (And.intro @zpx @zaad))) (And.intro (And.intro (And.intro @zpr @zaag) (And.intro @zagi @zakw)) (And.intro (And.intro @zaae @zafo) (And.intro @zaeh @zsn)))))) (And.intro (And.intro (And.intro (And.intro (And.intro @zafk (And.intro @zabt @zvo)) (And.intro (And.intro @zaog @zany) (And.intro @zaqs @zapc))) (And.intro (And.intro (And.intro @zanz @zanf) (And.intro @argsTm3 @argsTm4)) (And.intro (And.intro @zair @zafi) (And.intro @zacx @zafm)))) (And.intro (And.intro (And.intro @zzn (And.intro @zajm @zagp)) (And.intro (And.intro @zafy @zafv) (And.intro @zahg @zagq))) (And.intro (And.intro (And.intro @zakc @zaqg) (And.intro @zaom @zank)) (And.intro (And.intro @zaoz @zagc) (And.intro @zaak @zaex))))) (And.intro (And.intro (And.intro (And.intro @zaaa (And.intro @zaac @zaaq)) (And.intro (And.intro @zamp @zfa) (And.intro @zdy @zvs))) (And.intro (And.intro (And.intro @znw @zacm) (And.intro @zajo @zof)) (And.intro (And.intro @zadt @zzr) (And.intro @zaco @zahf)))) (And.intro (And.intro (And.intro (And.intro @zacn @zwn) (And.intro @zpq @zvf)) (And.intro (And.intro @zph @zvx) (And.intro @zaoc @zapd))) (And.intro (And.intro (And.intro @zaso @zzu) (And.intro @zab @zak)) (And.intro (And.intro @zaep @zabd) (And.intro @zbi @zao)))))))
section
variable {i : Nat} {a : Oper} {l : List Oper} {x : VV} {xs ys : List VV}
theorem zaqw : (a :: l)[i + 1]? = l[i]? := rfl
theorem zapg : (a :: l)[0]? = some a := rfl
theorem zapv : (x :: xs)[i + 1]? = xs[i]? := rfl
theorem zaqj : (x :: xs)[0]? = some x := rfl
theorem zaqz {f : Oper → Option Tmp} : (some a).bind f = f a := rfl
theorem zann {f : List VV → Option VV} : (some xs).bind f = f xs := rfl
theorem zasb : (a :: l).length = l.length + 1 := rfl
theorem zapi : ([] : List Oper).length = 0 := rfl
theorem zatg : (x :: xs).length = xs.length + 1 := rfl
theorem zanl : ([] : List VV).length = 0 := rfl
theorem zaua {f : Operand → VV} {o : Operand} {os : List Operand} : (o :: os).map f = f o :: os.map f := rfl
theorem zaoj {f : Operand → VV} : ([] : List Operand).map f = [] := rfl
theorem zasr {f : Nat × Operand → Nat × VV} {o : Nat × Operand} {os : List (Nat × Operand)} : (o :: os).map f = f o :: os.map f := rfl
theorem zaoa {f : Nat × Operand → Nat × VV} : ([] : List (Nat × Operand)).map f = [] := rfl
theorem zaoh {f : VV → VV} : (x :: xs).map f = f x :: xs.map f := rfl
theorem zakk {f : VV → VV} : ([] : List VV).map f = [] := rfl
theorem zpe : (x :: xs) ++ ys = x :: (xs ++ ys) := rfl
theorem zkc : [] ++ ys = ys := rfl
theorem zanh : (x :: xs).drop (i + 1) = xs.drop i := rfl
theorem zamt : xs.drop 0 = xs := by simp
theorem zaok : (x :: xs).take (i + 1) = x :: xs.take i := rfl
theorem zaml : xs.take 0 = [] := by simp
theorem zanx {o : VObj} : (some o).isSome = true := rfl
end
def cr := (And.intro (And.intro (And.intro (And.intro (And.intro @zaqw @zapg) (And.intro @zapv @zaqj)) (And.intro (And.intro @zaqz @zann) (And.intro @zasb @zapi))) (And.intro (And.intro (And.intro @zatg @zanl) (And.intro @zaua @zaoj)) (And.intro (And.intro @zasr @zaoa) (And.intro @zaoh @zakk)))) (And.intro (And.intro (And.intro (And.intro @zpe @zkc) (And.intro @zanh @zamt)) (And.intro (And.intro @zaok @zaml) (And.intro @zanx @Nat.zero_add))) (And.intro (And.intro (And.intro @true_and @and_true) (And.intro @Bool.not_true @Bool.not_false)) (And.intro (And.intro @Bool.and_self @decide_true) (And.intro @decide_false (And.intro @Nat.add_assoc @Nat.zero_le))))))
def nrm := (And.intro (And.intro (And.intro (And.intro @zaey @zye) (And.intro @zyn (And.intro @zahz @zyb))) (And.intro (And.intro @ztl @zvp) (And.intro @zix (And.intro @zhp @eI_ok.normL)))) (And.intro (And.intro (And.intro @zaju.normL @eB_ok.normL) (And.intro @eS_ok.normL (And.intro @zagd @zaks))) (And.intro (And.intro @zahy (And.intro @zagy @eI_ok.showL)) (And.intro @zaju.showL (And.intro @eB_ok.showL @eS_ok.showL)))))
def tre := (And.intro (And.intro (And.intro @zmb @zie) (And.intro @zwp (And.intro @zair @zafi))) (And.intro (And.intro @zacx (And.intro @eI_ok.treeL @zaju.treeL)) (And.intro @eB_ok.treeL (And.intro @eS_ok.treeL @zajy))))
end Go.V
end
