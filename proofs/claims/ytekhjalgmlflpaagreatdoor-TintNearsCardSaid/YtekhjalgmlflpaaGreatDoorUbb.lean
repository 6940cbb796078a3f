/- Part of a proof. -/
import Derived.Test.YtekhjalgmlflpaaGreatDoorUba
set_option linter.all false
section
namespace Go.V
open Go
set_option linter.defProp false
section
variable {P : Program} {G : Glob} {n : Nat} {γ : Nat} {tm : Nat → VV} {H : Nat → Option VObj} {nx : Nat} {df : List VDef} {K : St → Prop} {Kd : List Nat → List Nat → St → Prop} {Qp : VV → St → Prop}
 {d : Option Tmp} {ty : TypeId} {pos : String} {af : Array Edge} {g : Option (Nat × Bool)}
section
variable {a b : Prop} {x y : VV} {k : VV → Prop}
theorem zahv : guardK (.lit (.bool true)) true a b = a := by simp [guardK]
theorem zafy : guardK (.lit (.bool true)) false a b = b := by simp [guardK]
theorem zagt : guardK (.lit (.bool false)) true a b = b := by simp [guardK]
theorem zahl : guardK (.lit (.bool false)) false a b = a := by simp [guardK]
theorem zajl {w : Bool} : guardK (.lit undef) w a b = b := rfl
theorem zamv : pickK (.lit (.bool true)) x y k = k x := by simp [pickK]
theorem zant : pickK (.lit (.bool false)) x y k = k y := by simp [pickK]
theorem zaqw : condK (.lit (.bool true)) a b = a := by simp [condK]
theorem zaqf : condK (.lit (.bool false)) a b = b := by simp [condK]
end
theorem zbh : leafL [] = true := rfl
theorem zay {x : VV} {xs : List VV} : leafL (x :: xs) = (x.leaf && leafL xs) := rfl
theorem zum {k : IntKind} {i : Int} : (VV.lit (.int k i)).leaf = true := rfl
theorem zqm {b : Bool} : (VV.lit (.bool b)).leaf = true := rfl
theorem zlh {b : ByteArray} : (VV.lit (.string b)).leaf = true := rfl
theorem znd {b : Option Addr} {l c : Nat} : (VV.lit (.slice b l c)).leaf = true := rfl
theorem zaar {cs : List VV} {k : Nat} {f : Bool} : (VV.sl cs k f).leaf = true := rfl
theorem zalm {β o l e c : Nat} : (VV.ref β o l e c).leaf = true := rfl
theorem zgq {cs : List VV} : vcells (.agg cs) = if leafL cs = true then some cs else none := by simp only [vcells, zjq]
theorem vcells1 {x : VV} (h : x.leaf = true) : vcells x = some [x] := by
 cases x <;> first | rfl | (simp [vcells, h]; done) | cases h
theorem zacb {k : IntKind} {i : Int} : vcells (.lit (.int k i)) = some [.lit (.int k i)] := rfl
theorem zaae {b : Bool} : vcells (.lit (.bool b)) = some [.lit (.bool b)] := rfl
theorem zsv {b : ByteArray} : vcells (.lit (.string b)) = some [.lit (.string b)] := rfl
theorem zaem {b : Option Addr} {l c : Nat} : vcells (.lit (.slice b l c)) = some [.lit (.slice b l c)] := rfl
theorem zagb {cs : List VV} {k : Nat} {f : Bool} : vcells (.sl cs k f) = some [.sl cs k f] := rfl
theorem zaeq {β o l e c : Nat} : vcells (.ref β o l e c) = some [.ref β o l e c] := rfl
theorem zve {cs xs : List VV} {off : Nat} : overwrite cs off xs = cs.take off ++ (xs ++ cs.drop (off + xs.length)) := by simp [overwrite, List.append_assoc]
def vzl (P : Program) (t : TypeId) : Option (List VV) := (vzero P t).map fun z => z.toList.map ofVal1
theorem zzs {t : TypeId} : bodyK P G γ ⟨d, .alloc t, ty, pos, af, g⟩ ⟨tm, H, nx, df⟩ K Qp = (match vzl P t with | some cs => fin d γ tm H nx df K (.ptr γ 0) (.new (.cells (some t) cs)) | none => False) := by
 rw [zadz]; unfold vzl; cases vzero P t <;> rfl
theorem zux {t : TypeId} : dbodyK P G γ ⟨d, .alloc t, ty, pos, af, g⟩ ⟨tm, H, nx, df⟩ Kd = (match vzl P t with | some cs => fin d γ tm H nx df (Kd (rdV ⟨d, .alloc t, ty, pos, af, g⟩ (ev G tm)) [γ]) (.ptr γ 0) (.new (.cells (some t) cs)) | none => False) := by
 rw [zzz]; unfold vzl; cases vzero P t <;> rfl
def vstoreV (P : Program) (H : Nat → Option VObj) (t : TypeId) (a x : VV) : Option (VV × VEff) := match a with
  | .ptr β off => match H β, vcells x, szT P t with
   | some (.cells el cs), some xs, some n => if xs.length = n ∧ off + n ≤ cs.length then some (.any, .upd β (.cells el (overwrite cs off xs))) else none
   | _, _, _ => none
  | _ => none
theorem zzi {t : TypeId} {a x : Operand} : bodyK P G γ ⟨d, .store t a x, ty, pos, af, g⟩ ⟨tm, H, nx, df⟩ K Qp = oeK (vstoreV P H t (ev G tm a) (ev G tm x)) (fun y e => fin d γ tm H nx df K y e) := by
 rw [zadn]; rfl
theorem zzu {t : TypeId} {x : VV} {β off : Nat} : vstoreV P H t (.ptr β off) x = (match H β, vcells x, szT P t with
   | some (.cells el cs), some xs, some n => if xs.length = n ∧ off + n ≤ cs.length then some (.any, .upd β (.cells el (overwrite cs off xs))) else none
   | _, _, _ => none) := rfl
end
def eI (n : Int) : List VV := [.lit (.int .i64 n)]
def eU8 (n : Int) : List VV := [.lit (.int .u8 n)]
def eB (b : Bool) : List VV := [.lit (.bool b)]
def eS (s : ByteArray) : List VV := [.lit (.string s)]
def eSl {α : Type} (enc : α → List VV) (xs : List α) : List VV := [.sl (cellsL enc xs) xs.length false]
theorem eI_eq {n : Int} : eI n = [.lit (.int .i64 n)] := rfl
theorem zajc {n : Int} : eU8 n = [.lit (.int .u8 n)] := rfl
theorem eB_eq {b : Bool} : eB b = [.lit (.bool b)] := rfl
theorem eS_eq {s : ByteArray} : eS s = [.lit (.string s)] := rfl
theorem zaje {α : Type} {enc : α → List VV} {xs : List α} : eSl enc xs = [.sl (cellsL enc xs) xs.length false] := rfl
structure EncOk {α : Type} (enc : α → List VV) : Prop where
 tree : ∀ x, treeL (enc x) = true
 norm : ∀ x, normL (enc x) = enc x
 shown : ∀ x H d, (enc x).map (showV H d) = enc x
theorem eI_ok : EncOk eI := ⟨fun _ => rfl, fun _ => rfl, fun _ _ d => by cases d <;> rfl⟩
theorem zakl : EncOk eU8 := ⟨fun _ => rfl, fun _ => rfl, fun _ _ d => by cases d <;> rfl⟩
theorem eB_ok : EncOk eB := ⟨fun _ => rfl, fun _ => rfl, fun _ _ d => by cases d <;> rfl⟩
theorem eS_ok : EncOk eS := ⟨fun _ => rfl, fun _ => rfl, fun _ _ d => by cases d <;> rfl⟩
section
variable {α : Type} {enc : α → List VV} (h : EncOk enc)
include h
theorem EncOk.treeL (xs : List α) : Go.V.treeL (cellsL enc xs) = true := zjy h.tree xs
theorem EncOk.normL (xs : List α) : Go.V.normL (cellsL enc xs) = cellsL enc xs := zkd h.norm xs
theorem EncOk.showL (xs : List α) (H : Nat → Option VObj) (d : Nat) : (cellsL enc xs).map (showV H d) = cellsL enc xs := ztz (fun x => h.shown x H d) xs
theorem EncOk.sl : EncOk (eSl enc) := ⟨fun x => by simp [eSl, Go.V.treeL, VV.tree, h.treeL], fun x => by simp [eSl, Go.V.normL, normV, h.normL], fun x H d => by cases d <;> rfl⟩
end
theorem EncOk.of {α : Type} {enc : α → List VV} (h1 : ∀ x, Go.V.treeL (enc x) = true) (h2 : ∀ x, Go.V.normL (enc x) = enc x) (h3 : ∀ x H d, (enc x).map (showV H d) = enc x) : EncOk enc := ⟨h1, h2, h3⟩
theorem zahf {H : Nat → Option VObj} {d : Nat} {v : Value} : showV H d (.lit v) = .lit v := by cases d <;> rfl
theorem zamg {H : Nat → Option VObj} {d n : Nat} {cs : List VV} {f : Bool} : showV H d (.sl cs n f) = .sl cs n f := by cases d <;> rfl
theorem zad {H : Nat → Option VObj} {d β off len es cp : Nat} : showV H (d + 1) (.ref β off len es cp) = (match H β with
   | some (.cells _ cs) => if off ≤ cs.length then .sl (((cs.drop off).take (len * es)).map (showV H d)) len false else .ref β off len es cp
   | _ => .ref β off len es cp) := rfl
theorem zagj {H : Nat → Option VObj} {d : Nat} {cs : List VV} : showV H (d + 1) (.agg cs) = .agg (cs.map (showV H d)) := rfl
theorem zahg {H : Nat → Option VObj} {d : Nat} {cs : List VV} : showV H (d + 1) (.tup cs) = .tup (cs.map (showV H d)) := rfl
theorem zaam {cs : List VV} {n : Nat} {f : Bool} : normV (.sl cs n f) = .sl (normL cs) n false := by simp [normV]
theorem zwn : normV (.lit (.slice none 0 0)) = .sl [] 0 false := by simp [normV]
theorem zwc {cs : List VV} : normV (.agg cs) = .agg (normL cs) := by simp [normV]
theorem zagr {cs : List VV} : normV (.tup cs) = .tup (normL cs) := by simp [normV]
theorem zxr {k : IntKind} {n : Int} : normV (.lit (.int k n)) = .lit (.int k n) := by simp [normV]
theorem zte {b : Bool} : normV (.lit (.bool b)) = .lit (.bool b) := by simp [normV]
theorem zvv {b : ByteArray} : normV (.lit (.string b)) = .lit (.string b) := by simp [normV]
theorem zjj : normL [] = [] := rfl
theorem zhk {x : VV} {xs : List VV} : normL (x :: xs) = normV x :: normL xs := by simp [normL]
theorem zajy : VV.tree .any = true := rfl
def vs := (And.intro (And.intro (And.intro (And.intro (And.intro (And.intro (And.intro @zaor @zaal) (And.intro @zaoj @zami)) (And.intro (And.intro @zaiz @zahu) (And.intro @zakd @zzp))) (And.intro (And.intro (And.intro @zakp @zafq) (And.intro @zuu @zaet)) (And.intro (And.intro @zagd @zajd) (And.intro @zafg @zamh)))) (And.intro (And.intro (And.intro (And.intro @zakx @zapz) (And.intro @zuo @zahx)) (And.intro (And.intro @zzo @zakc) (And.intro @zapv @zaha))) (And.intro (And.intro (And.intro @zafd @zrg) (And.intro @zalf @zhd)) (And.intro (And.intro @zkz @zuk) (And.intro @zalv (And.intro @znk @zahn)))))) (And.intro (And.intro (And.intro (And.intro (And.intro @zank @zil) (And.intro @zet @zaql)) (And.intro (And.intro @zaoy @zanf) (And.intro @zaur @zamz))) (And.intro (And.intro (And.intro @zajs @argsTm1) (And.intro @argsTm2 @zyw)) (And.intro (And.intro @zaeh @zaaa) (And.intro @zaht (And.intro @zach @zut))))) (And.intro (And.intro (And.intro (And.intro @zabd @zacn) (And.intro @zpb @zzc)) (And.intro (And.intro @zoq @zaab) (And.intro @zagu @zajn))) (And.intro (And.intro (And.intro @zzl @zagc) (And.intro @ztn @zacj)) (And.intro (And.intro @zqg @zaaw) (And.intro @zsm (And.intro @zadu @zuf))))))) (And.intro (And.intro (And.intro (And.intro (And.intro (And.intro @zaot @zaqu) (And.intro @zapm @zanw)) (And.intro (And.intro @zand @zane) (And.intro @argsTm3 @argsTm4))) (And.intro (And.intro (And.intro @argsTm5 @zaiw) (And.intro @zaek @zaas)) (And.intro (And.intro @zado @zyn) (And.intro @zajx (And.intro @zafm @zahv))))) (And.intro (And.intro (And.intro (And.intro @zafy @zagt) (And.intro @zahl @zajl)) (And.intro (And.intro @zamv @zant) (And.intro @zaqw @zaqf))) (And.intro (And.intro (And.intro @zafa @zzn) (And.intro @zaah @zrp)) (And.intro (And.intro @zzi @zzu) (And.intro @zzs (And.intro @zalq @zbh)))))) (And.intro (And.intro (And.intro (And.intro (And.intro @zay @zum) (And.intro @zqm @zlh)) (And.intro (And.intro @znd @zaar) (And.intro @zalm @zgq))) (And.intro (And.intro (And.intro @zacb @zaae) (And.intro @zsv @zaem)) (And.intro (And.intro @zagb @zaeq) (And.intro @zve (And.intro @zow @zux))))) (And.intro (And.intro (And.intro (And.intro @zafi @zmx) (And.intro @zuz @zzr)) (And.intro (And.intro @zox @zaqn) (And.intro @zamq @zauj))) (And.intro (And.intro (And.intro @zasr @zyo) (And.intro @zapt @zaa)) (And.intro (And.intro @zab @zabo) (And.intro @zyt (And.intro @zbs @zat))))))))
section
variable {i : Nat} {a : Oper} {l : List Oper} {x : VV} {xs ys : List VV}
theorem zapr : (a :: l)[i + 1]? = l[i]? := rfl
theorem zaon : (a :: l)[0]? = some a := rfl
theorem zaop : (x :: xs)[i + 1]? = xs[i]? := rfl
theorem zaoo : (x :: xs)[0]? = some x := rfl
theorem zaqo {f : Oper → Option Tmp} : (some a).bind f = f a := rfl
theorem zaod {f : List VV → Option VV} : (some xs).bind f = f xs := rfl
theorem zauf {f : VV → VV} : (some x).map f = some (f x) := rfl
theorem zatt : (a :: l).length = l.length + 1 := rfl
theorem zaqp : ([] : List Oper).length = 0 := rfl
theorem zatl : (x :: xs).length = xs.length + 1 := rfl
theorem zapw : ([] : List VV).length = 0 := rfl
theorem zars {f : Operand → VV} {o : Operand} {os : List Operand} : (o :: os).map f = f o :: os.map f := rfl
theorem zamw {f : Operand → VV} : ([] : List Operand).map f = [] := rfl
theorem zasq {f : Nat × Operand → Nat × VV} {o : Nat × Operand} {os : List (Nat × Operand)} : (o :: os).map f = f o :: os.map f := rfl
theorem zaqh {f : Nat × Operand → Nat × VV} : ([] : List (Nat × Operand)).map f = [] := rfl
theorem zaov {f : VV → VV} : (x :: xs).map f = f x :: xs.map f := rfl
theorem zaln {f : VV → VV} : ([] : List VV).map f = [] := rfl
theorem zaag : (x :: xs) ++ ys = x :: (xs ++ ys) := rfl
theorem zph : [] ++ ys = ys := rfl
theorem zaol : (x :: xs).drop (i + 1) = xs.drop i := rfl
theorem zalt : xs.drop 0 = xs := by simp
theorem zaoe : (x :: xs).take (i + 1) = x :: xs.take i := rfl
theorem zaiy : xs.take 0 = [] := by simp
theorem zapa {o : VObj} : (some o).isSome = true := rfl
theorem m_nil : (([] : List Nat) = []) = True := by simp
theorem m_ne {a b : Bool} : (a ≠ b) = ¬ (a = b) := rfl
theorem m_neN {a b : Nat} : (a ≠ b) = ¬ (a = b) := rfl
end
def cr := (And.intro (And.intro (And.intro (And.intro (And.intro @zapr (And.intro @zaon @zaop)) (And.intro @zaoo (And.intro @zaqo @zaod))) (And.intro (And.intro @zauf (And.intro @zatt @zaqp)) (And.intro (And.intro @zatl @zapw) (And.intro @zars @zamw)))) (And.intro (And.intro (And.intro @zasq (And.intro @zaqh @zaov)) (And.intro @zaln (And.intro @zaag @zph))) (And.intro (And.intro @zaol (And.intro @zalt @zaoe)) (And.intro (And.intro @zaiy @zapa) (And.intro @m_nil @m_ne))))) (And.intro (And.intro (And.intro (And.intro @m_neN (And.intro @Nat.zero_add @not_true_eq_false)) (And.intro @not_false_eq_true (And.intro @false_implies @true_implies))) (And.intro (And.intro @true_and (And.intro @and_true @false_and)) (And.intro (And.intro @and_false @Bool.false_eq_true) (And.intro @Bool.true_eq_false @Bool.not_true)))) (And.intro (And.intro (And.intro @Bool.not_false (And.intro @Bool.and_self @decide_true)) (And.intro (And.intro @decide_false @Nat.add_assoc) (And.intro @Nat.zero_mul @Nat.one_mul))) (And.intro (And.intro @Nat.zero_le (And.intro @true_or @or_true)) (And.intro (And.intro @false_or @or_false) (And.intro @not_true @not_false_iff))))))
def nrm := (And.intro (And.intro (And.intro (And.intro @zaam @zwn) (And.intro @zwc (And.intro @zagr @zxr))) (And.intro (And.intro @zte @zvv) (And.intro @zjj (And.intro @zhk @eI_ok.normL)))) (And.intro (And.intro (And.intro @zakl.normL @eB_ok.normL) (And.intro @eS_ok.normL (And.intro @zahf @zamg))) (And.intro (And.intro @zagj (And.intro @zahg @eI_ok.showL)) (And.intro @zakl.showL (And.intro @eB_ok.showL @eS_ok.showL)))))
def tre := (And.intro (And.intro (And.intro @zkz @zhd) (And.intro @zuk (And.intro @zaiw @zaek))) (And.intro (And.intro @zaas (And.intro @eI_ok.treeL @zakl.treeL)) (And.intro @eB_ok.treeL (And.intro @eS_ok.treeL @zajy))))
end Go.V
end
