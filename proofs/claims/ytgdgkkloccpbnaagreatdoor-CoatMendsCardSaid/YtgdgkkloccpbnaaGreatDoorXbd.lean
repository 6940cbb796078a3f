/- Part of a proof: a logic of values by content, lifted functions, what follows. -/
import Derived.Test.YtgdgkkloccpbnaaGreatDoorXbc
set_option linter.all false
section
namespace Go.V
open Go
set_option linter.defProp false
section
variable {P : Program} {G : Glob} {n : Nat} {γ : Nat} {tm : Nat → VV} {H : Nat → Option VObj} {nx : Nat} {df : List VDef} {K : St → Prop} {Kd : List Nat → List Nat → St → Prop} {Qp : VV → St → Prop}
 {d : Option Tmp} {ty : TypeId} {pos : String} {af : Array Edge} {g : Option (Nat × Bool)}
section
variable {a b : Prop} {x y : VV} {k : VV → Prop}
theorem zaha : guardK (.lit (.bool true)) true a b = a := by simp [guardK]
theorem zafa : guardK (.lit (.bool true)) false a b = b := by simp [guardK]
theorem zagj : guardK (.lit (.bool false)) true a b = b := by simp [guardK]
theorem zahr : guardK (.lit (.bool false)) false a b = a := by simp [guardK]
theorem zaku {w : Bool} : guardK (.lit undef) w a b = b := rfl
theorem zapb : pickK (.lit (.bool true)) x y k = k x := by simp [pickK]
theorem zaoj : pickK (.lit (.bool false)) x y k = k y := by simp [pickK]
theorem zaqj : condK (.lit (.bool true)) a b = a := by simp [condK]
theorem zang : condK (.lit (.bool false)) a b = b := by simp [condK]
end
theorem zcy : leafL [] = true := rfl
theorem zcc {x : VV} {xs : List VV} : leafL (x :: xs) = (x.leaf && leafL xs) := rfl
theorem zue {k : IntKind} {i : Int} : (VV.lit (.int k i)).leaf = true := rfl
theorem zra {b : Bool} : (VV.lit (.bool b)).leaf = true := rfl
theorem zlb {b : ByteArray} : (VV.lit (.string b)).leaf = true := rfl
theorem zmq {b : Option Addr} {l c : Nat} : (VV.lit (.slice b l c)).leaf = true := rfl
theorem zadl {cs : List VV} {k : Nat} {f : Bool} : (VV.sl cs k f).leaf = true := rfl
theorem zaks {β o l e c : Nat} : (VV.ref β o l e c).leaf = true := rfl
theorem ztj {cs : List VV} : vcells (.agg cs) = if leafL cs = true then some cs else none := by simp only [vcells, zja]
theorem vcells1 {x : VV} (h : x.leaf = true) : vcells x = some [x] := by
 cases x <;> first | rfl | (simp [vcells, h]; done) | cases h
theorem zaem {k : IntKind} {i : Int} : vcells (.lit (.int k i)) = some [.lit (.int k i)] := rfl
theorem zzi {b : Bool} : vcells (.lit (.bool b)) = some [.lit (.bool b)] := rfl
theorem zsn {b : ByteArray} : vcells (.lit (.string b)) = some [.lit (.string b)] := rfl
theorem zacj {b : Option Addr} {l c : Nat} : vcells (.lit (.slice b l c)) = some [.lit (.slice b l c)] := rfl
theorem zags {cs : List VV} {k : Nat} {f : Bool} : vcells (.sl cs k f) = some [.sl cs k f] := rfl
theorem zacy {β o l e c : Nat} : vcells (.ref β o l e c) = some [.ref β o l e c] := rfl
theorem zvt {cs xs : List VV} {off : Nat} : overwrite cs off xs = cs.take off ++ (xs ++ cs.drop (off + xs.length)) := by simp [overwrite, List.append_assoc]
def vzl (P : Program) (t : TypeId) : Option (List VV) := (vzero P t).map fun z => z.toList.map ofVal1
theorem zyw {t : TypeId} : bodyK P G γ ⟨d, .alloc t, ty, pos, af, g⟩ ⟨tm, H, nx, df⟩ K Qp = (match vzl P t with | some cs => fin d γ tm H nx df K (.ptr γ 0) (.new (.cells (some t) cs)) | none => False) := by
 rw [zabb]; unfold vzl; cases vzero P t <;> rfl
theorem zur {t : TypeId} : dbodyK P G γ ⟨d, .alloc t, ty, pos, af, g⟩ ⟨tm, H, nx, df⟩ Kd = (match vzl P t with | some cs => fin d γ tm H nx df (Kd (rdV ⟨d, .alloc t, ty, pos, af, g⟩ (ev G tm)) [γ]) (.ptr γ 0) (.new (.cells (some t) cs)) | none => False) := by
 rw [zye]; unfold vzl; cases vzero P t <;> rfl
def vstoreV (P : Program) (H : Nat → Option VObj) (t : TypeId) (a x : VV) : Option (VV × VEff) := match a with
  | .ptr β off => match H β, vcells x, szT P t with
   | some (.cells el cs), some xs, some n => if xs.length = n ∧ off + n ≤ cs.length then some (.any, .upd β (.cells el (overwrite cs off xs))) else none
   | _, _, _ => none
  | _ => none
theorem zyf {t : TypeId} {a x : Operand} : bodyK P G γ ⟨d, .store t a x, ty, pos, af, g⟩ ⟨tm, H, nx, df⟩ K Qp = oeK (vstoreV P H t (ev G tm a) (ev G tm x)) (fun y e => fin d γ tm H nx df K y e) := by
 rw [zaes]; rfl
theorem zyi {t : TypeId} {x : VV} {β off : Nat} : vstoreV P H t (.ptr β off) x = (match H β, vcells x, szT P t with
   | some (.cells el cs), some xs, some n => if xs.length = n ∧ off + n ≤ cs.length then some (.any, .upd β (.cells el (overwrite cs off xs))) else none
   | _, _, _ => none) := rfl
end
def eI (n : Int) : List VV := [.lit (.int .i64 n)]
def eU8 (n : Int) : List VV := [.lit (.int .u8 n)]
def eB (b : Bool) : List VV := [.lit (.bool b)]
def eS (s : ByteArray) : List VV := [.lit (.string s)]
def eSl {α : Type} (enc : α → List VV) (xs : List α) : List VV := [.sl (cellsL enc xs) xs.length false]
theorem eI_eq {n : Int} : eI n = [.lit (.int .i64 n)] := rfl
theorem zajj {n : Int} : eU8 n = [.lit (.int .u8 n)] := rfl
theorem eB_eq {b : Bool} : eB b = [.lit (.bool b)] := rfl
theorem eS_eq {s : ByteArray} : eS s = [.lit (.string s)] := rfl
theorem zaki {α : Type} {enc : α → List VV} {xs : List α} : eSl enc xs = [.sl (cellsL enc xs) xs.length false] := rfl
structure EncOk {α : Type} (enc : α → List VV) : Prop where
 tree : ∀ x, treeL (enc x) = true
 norm : ∀ x, normL (enc x) = enc x
 shown : ∀ x H d, (enc x).map (showV H d) = enc x
theorem eI_ok : EncOk eI := ⟨fun _ => rfl, fun _ => rfl, fun _ _ d => by cases d <;> rfl⟩
theorem zajn : EncOk eU8 := ⟨fun _ => rfl, fun _ => rfl, fun _ _ d => by cases d <;> rfl⟩
theorem eB_ok : EncOk eB := ⟨fun _ => rfl, fun _ => rfl, fun _ _ d => by cases d <;> rfl⟩
theorem eS_ok : EncOk eS := ⟨fun _ => rfl, fun _ => rfl, fun _ _ d => by cases d <;> rfl⟩
section
variable {α : Type} {enc : α → List VV} (h : EncOk enc)
include h
theorem EncOk.treeL (xs : List α) : Go.V.treeL (cellsL enc xs) = true := zjv h.tree xs
theorem EncOk.normL (xs : List α) : Go.V.normL (cellsL enc xs) = cellsL enc xs := zjt h.norm xs
theorem EncOk.showL (xs : List α) (H : Nat → Option VObj) (d : Nat) : (cellsL enc xs).map (showV H d) = cellsL enc xs := zsh (fun x => h.shown x H d) xs
theorem EncOk.sl : EncOk (eSl enc) := ⟨fun x => by simp [eSl, Go.V.treeL, VV.tree, h.treeL], fun x => by simp [eSl, Go.V.normL, normV, h.normL], fun x H d => by cases d <;> rfl⟩
end
theorem EncOk.of {α : Type} {enc : α → List VV} (h1 : ∀ x, Go.V.treeL (enc x) = true) (h2 : ∀ x, Go.V.normL (enc x) = enc x) (h3 : ∀ x H d, (enc x).map (showV H d) = enc x) : EncOk enc := ⟨h1, h2, h3⟩
theorem zagf {H : Nat → Option VObj} {d : Nat} {v : Value} : showV H d (.lit v) = .lit v := by cases d <;> rfl
theorem zako {H : Nat → Option VObj} {d n : Nat} {cs : List VV} {f : Bool} : showV H d (.sl cs n f) = .sl cs n f := by cases d <;> rfl
theorem zabf {H : Nat → Option VObj} {d β : Nat} : showV H (d + 1) (.mp β) = (match H β with
   | some (.map es) => .mt (es.map (·.1)) ((es.map (·.2)).map (showV H d))
   | _ => .mp β) := rfl
theorem zba {H : Nat → Option VObj} {d β off len es cp : Nat} : showV H (d + 1) (.ref β off len es cp) = (match H β with
   | some (.cells _ cs) => if off ≤ cs.length then .sl (((cs.drop off).take (len * es)).map (showV H d)) len false else .ref β off len es cp
   | _ => .ref β off len es cp) := rfl
theorem zahh {H : Nat → Option VObj} {d : Nat} {cs : List VV} : showV H (d + 1) (.agg cs) = .agg (cs.map (showV H d)) := rfl
theorem zafx {H : Nat → Option VObj} {d : Nat} {cs : List VV} : showV H (d + 1) (.tup cs) = .tup (cs.map (showV H d)) := rfl
theorem zade {cs : List VV} {n : Nat} {f : Bool} : normV (.sl cs n f) = .sl (normL cs) n false := by simp [normV]
theorem zwy : normV (.lit (.slice none 0 0)) = .sl [] 0 false := by simp [normV]
theorem zwa {cs : List VV} : normV (.agg cs) = .agg (normL cs) := by simp [normV]
theorem zahc {cs : List VV} : normV (.tup cs) = .tup (normL cs) := by simp [normV]
theorem zyd {k : IntKind} {n : Int} : normV (.lit (.int k n)) = .lit (.int k n) := by simp [normV]
theorem zrw {b : Bool} : normV (.lit (.bool b)) = .lit (.bool b) := by simp [normV]
theorem zvk {b : ByteArray} : normV (.lit (.string b)) = .lit (.string b) := by simp [normV]
theorem zjd : normL [] = [] := rfl
theorem zgz {x : VV} {xs : List VV} : normL (x :: xs) = normV x :: normL xs := by simp [normL]
theorem zalg : VV.tree .any = true := rfl
def vs := (And.intro (And.intro (And.intro (And.intro (And.intro (And.intro (And.intro @zaop @zacp) (And.intro @zanh @zaln)) (And.intro (And.intro @zajb @zaga) (And.intro @zajg @zyk))) (And.intro (And.intro (And.intro @zalw @zago) (And.intro @zux @zadn)) (And.intro (And.intro @zafn @zall) (And.intro @zahy @zajo)))) (And.intro (And.intro (And.intro (And.intro @zajy @zaoy) (And.intro @zuq @zage)) (And.intro (And.intro @zym @zame) (And.intro @zapp @zahi))) (And.intro (And.intro (And.intro @zagb @zqg) (And.intro @zajx @zml)) (And.intro (And.intro @zxi @zvm) (And.intro @zakf (And.intro @zhm @zis)))))) (And.intro (And.intro (And.intro (And.intro (And.intro @zapg @zfn) (And.intro @zco @zanp)) (And.intro (And.intro @zape @zapc) (And.intro @zaru @zaof))) (And.intro (And.intro (And.intro @zalr @argsTm1) (And.intro @argsTm2 @zyo)) (And.intro (And.intro @zadu @zyh) (And.intro @zaho (And.intro @zacl @zud))))) (And.intro (And.intro (And.intro (And.intro @zabh @zaet) (And.intro @zox @zzj)) (And.intro (And.intro @zot @zzp) (And.intro @zaff @zalq))) (And.intro (And.intro (And.intro @zzk @zaic) (And.intro @zto @zach)) (And.intro (And.intro @zqj @zaea) (And.intro @zsa (And.intro @zacx @ztv))))))) (And.intro (And.intro (And.intro (And.intro (And.intro (And.intro @zann @zapl) (And.intro @zana @zano)) (And.intro (And.intro @zaoo @zapq) (And.intro @argsTm3 @argsTm4))) (And.intro (And.intro (And.intro @argsTm5 @zair) (And.intro @zabc @zadz)) (And.intro (And.intro @zaed @zzf) (And.intro @zaky (And.intro @zafu @zaha))))) (And.intro (And.intro (And.intro (And.intro @zafa @zagj) (And.intro @zahr @zaku)) (And.intro (And.intro @zapb @zaoj) (And.intro @zaqj @zang))) (And.intro (And.intro (And.intro @zaex @zyv) (And.intro @zaee @zqv)) (And.intro (And.intro @zyf @zyi) (And.intro @zyw (And.intro @zakz @zcy)))))) (And.intro (And.intro (And.intro (And.intro (And.intro @zcc @zue) (And.intro @zra @zlb)) (And.intro (And.intro @zmq @zadl) (And.intro @zaks @ztj))) (And.intro (And.intro (And.intro @zaem @zzi) (And.intro @zsn @zacj)) (And.intro (And.intro @zags @zacy) (And.intro @zvt (And.intro @zow @zur))))) (And.intro (And.intro (And.intro (And.intro @zahz @zod) (And.intro @zuy @zzg)) (And.intro (And.intro @zom @zaqs) (And.intro @zapy @zask))) (And.intro (And.intro (And.intro @zast @zzq) (And.intro @zapz @zab)) (And.intro (And.intro @zaa @zaag) (And.intro @zzd (And.intro @zev @zcq))))))))
section
variable {i : Nat} {a : Oper} {l : List Oper} {x : VV} {xs ys : List VV}
theorem zanw : (a :: l)[i + 1]? = l[i]? := rfl
theorem zank : (a :: l)[0]? = some a := rfl
theorem zaqt : (x :: xs)[i + 1]? = xs[i]? := rfl
theorem zapt : (x :: xs)[0]? = some x := rfl
theorem zanz {f : Oper → Option Tmp} : (some a).bind f = f a := rfl
theorem zaqa {f : List VV → Option VV} : (some xs).bind f = f xs := rfl
theorem zatv {f : VV → VV} : (some x).map f = some (f x) := rfl
theorem zars : (a :: l).length = l.length + 1 := rfl
theorem zapd : ([] : List Oper).length = 0 := rfl
theorem zarx : (x :: xs).length = xs.length + 1 := rfl
theorem zaqd : ([] : List VV).length = 0 := rfl
theorem zasd {f : Operand → VV} {o : Operand} {os : List Operand} : (o :: os).map f = f o :: os.map f := rfl
theorem zaqu {f : Operand → VV} : ([] : List Operand).map f = [] := rfl
theorem zato {f : Nat × Operand → Nat × VV} {o : Nat × Operand} {os : List (Nat × Operand)} : (o :: os).map f = f o :: os.map f := rfl
theorem zaqe {f : Nat × Operand → Nat × VV} : ([] : List (Nat × Operand)).map f = [] := rfl
theorem zany {f : VV → VV} : (x :: xs).map f = f x :: xs.map f := rfl
theorem zaml {f : VV → VV} : ([] : List VV).map f = [] := rfl
theorem zdd : (x :: xs) ++ ys = x :: (xs ++ ys) := rfl
theorem zbk : [] ++ ys = ys := rfl
theorem zanv : (x :: xs).drop (i + 1) = xs.drop i := rfl
theorem zakd : xs.drop 0 = xs := by simp
theorem zaoz : (x :: xs).take (i + 1) = x :: xs.take i := rfl
theorem zamf : xs.take 0 = [] := by simp
theorem zaqp {o : VObj} : (some o).isSome = true := rfl
theorem m_nil : (([] : List Nat) = []) = True := by simp
theorem m_ne {a b : Bool} : (a ≠ b) = ¬ (a = b) := rfl
theorem m_neN {a b : Nat} : (a ≠ b) = ¬ (a = b) := rfl
end
def cr := (And.intro (And.intro (And.intro (And.intro (And.intro @zanw (And.intro @zank @zaqt)) (And.intro @zapt (And.intro @zanz @zaqa))) (And.intro (And.intro @zatv (And.intro @zars @zapd)) (And.intro (And.intro @zarx @zaqd) (And.intro @zasd @zaqu)))) (And.intro (And.intro (And.intro @zato (And.intro @zaqe @zany)) (And.intro @zaml (And.intro @zdd @zbk))) (And.intro (And.intro @zanv (And.intro @zakd @zaoz)) (And.intro (And.intro @zamf @zaqp) (And.intro @m_nil @m_ne))))) (And.intro (And.intro (And.intro (And.intro @m_neN (And.intro @Nat.zero_add @not_true_eq_false)) (And.intro @not_false_eq_true (And.intro @false_implies @true_implies))) (And.intro (And.intro @true_and (And.intro @and_true @false_and)) (And.intro (And.intro @and_false @Bool.false_eq_true) (And.intro @Bool.true_eq_false @Bool.not_true)))) (And.intro (And.intro (And.intro @Bool.not_false (And.intro @Bool.and_self @decide_true)) (And.intro (And.intro @decide_false @Nat.add_assoc) (And.intro @Nat.zero_mul @Nat.one_mul))) (And.intro (And.intro @Nat.zero_le (And.intro @true_or @or_true)) (And.intro (And.intro @false_or @or_false) (And.intro @not_true @not_false_iff))))))
def nrm := (And.intro (And.intro (And.intro (And.intro @zade @zwy) (And.intro @zwa (And.intro @zahc @zyd))) (And.intro (And.intro @zrw @zvk) (And.intro @zjd (And.intro @zgz @eI_ok.normL)))) (And.intro (And.intro (And.intro @zajn.normL @eB_ok.normL) (And.intro @eS_ok.normL (And.intro @zagf @zako))) (And.intro (And.intro @zahh (And.intro @zafx @eI_ok.showL)) (And.intro @zajn.showL (And.intro @eB_ok.showL @eS_ok.showL)))))
def tre := (And.intro (And.intro (And.intro @zxi @zml) (And.intro @zvm (And.intro @zair @zabc))) (And.intro (And.intro @zadz (And.intro @eI_ok.treeL @zajn.treeL)) (And.intro @eB_ok.treeL (And.intro @eS_ok.treeL @zalg))))
end Go.V
end
