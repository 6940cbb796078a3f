/- Part of a proof. -/
import Derived.Test.YtekhjalgmlflpaaGreatDoorYba
set_option linter.all false
section
namespace Go.V
open Go
set_option linter.defProp false
section
variable {P : Program} {G : Glob} {n : Nat} {γ : Nat} {tm : Nat → VV} {H : Nat → Option VObj} {nx : Nat} {df : List VDef} {K : St → Prop} {Kd : List Nat → List Nat → St → Prop} {Qp : VV → St → Prop}
 {d : Option Tmp} {ty : TypeId} {pos : String} {af : Array Edge} {g : Option (Nat × Bool)}
section
variable {a b : Prop} {x y : VV} {k : VV → Prop}
theorem zade : guardK (.lit (.bool true)) true a b = a := by simp [guardK]
theorem zafd : guardK (.lit (.bool true)) false a b = b := by simp [guardK]
theorem zacp : guardK (.lit (.bool false)) true a b = b := by simp [guardK]
theorem zaeq : guardK (.lit (.bool false)) false a b = a := by simp [guardK]
theorem zagp {w : Bool} : guardK (.lit undef) w a b = b := rfl
theorem zami : pickK (.lit (.bool true)) x y k = k x := by simp [pickK]
theorem zani : pickK (.lit (.bool false)) x y k = k y := by simp [pickK]
theorem zakj : condK (.lit (.bool true)) a b = a := by simp [condK]
theorem zajr : condK (.lit (.bool false)) a b = b := by simp [condK]
end
theorem zbd : leafL [] = true := rfl
theorem zav {x : VV} {xs : List VV} : leafL (x :: xs) = (x.leaf && leafL xs) := rfl
theorem zabv {k : IntKind} {i : Int} : (VV.lit (.int k i)).leaf = true := rfl
theorem zwc {b : Bool} : (VV.lit (.bool b)).leaf = true := rfl
theorem zod {b : ByteArray} : (VV.lit (.string b)).leaf = true := rfl
theorem zqm {b : Option Addr} {l c : Nat} : (VV.lit (.slice b l c)).leaf = true := rfl
theorem zafk {cs : List VV} {k : Nat} {f : Bool} : (VV.sl cs k f).leaf = true := rfl
theorem zahx {β o l e c : Nat} : (VV.ref β o l e c).leaf = true := rfl
theorem zfu {cs : List VV} : vcells (.agg cs) = if leafL cs = true then some cs else none := by simp only [vcells, zjs]
theorem vcells1 {x : VV} (h : x.leaf = true) : vcells x = some [x] := by
 cases x <;> first | rfl | (simp [vcells, h]; done) | cases h
theorem zys {k : IntKind} {i : Int} : vcells (.lit (.int k i)) = some [.lit (.int k i)] := rfl
theorem zww {b : Bool} : vcells (.lit (.bool b)) = some [.lit (.bool b)] := rfl
theorem zse {b : ByteArray} : vcells (.lit (.string b)) = some [.lit (.string b)] := rfl
theorem zaay {b : Option Addr} {l c : Nat} : vcells (.lit (.slice b l c)) = some [.lit (.slice b l c)] := rfl
theorem zafa {cs : List VV} {k : Nat} {f : Bool} : vcells (.sl cs k f) = some [.sl cs k f] := rfl
theorem zzi {β o l e c : Nat} : vcells (.ref β o l e c) = some [.ref β o l e c] := rfl
theorem zto {cs xs : List VV} {off : Nat} : overwrite cs off xs = cs.take off ++ (xs ++ cs.drop (off + xs.length)) := by simp [overwrite, List.append_assoc]
def vzl (P : Program) (t : TypeId) : Option (List VV) := (vzero P t).map fun z => z.toList.map ofVal1
theorem zxu {t : TypeId} : bodyK P G γ ⟨d, .alloc t, ty, pos, af, g⟩ ⟨tm, H, nx, df⟩ K Qp = (match vzl P t with | some cs => fin d γ tm H nx df K (.ptr γ 0) (.new (.cells (some t) cs)) | none => False) := by
 rw [zyj]; unfold vzl; cases vzero P t <;> rfl
theorem zsy {t : TypeId} : dbodyK P G γ ⟨d, .alloc t, ty, pos, af, g⟩ ⟨tm, H, nx, df⟩ Kd = (match vzl P t with | some cs => fin d γ tm H nx df (Kd (rdV ⟨d, .alloc t, ty, pos, af, g⟩ (ev G tm)) [γ]) (.ptr γ 0) (.new (.cells (some t) cs)) | none => False) := by
 rw [zxr]; unfold vzl; cases vzero P t <;> rfl
def vstoreV (P : Program) (H : Nat → Option VObj) (t : TypeId) (a x : VV) : Option (VV × VEff) := match a with
  | .ptr β off => match H β, vcells x, szT P t with
   | some (.cells el cs), some xs, some n => if xs.length = n ∧ off + n ≤ cs.length then some (.any, .upd β (.cells el (overwrite cs off xs))) else none
   | _, _, _ => none
  | _ => none
theorem zxc {t : TypeId} {a x : Operand} : bodyK P G γ ⟨d, .store t a x, ty, pos, af, g⟩ ⟨tm, H, nx, df⟩ K Qp = oeK (vstoreV P H t (ev G tm a) (ev G tm x)) (fun y e => fin d γ tm H nx df K y e) := by
 rw [zzo]; rfl
theorem zwk {t : TypeId} {x : VV} {β off : Nat} : vstoreV P H t (.ptr β off) x = (match H β, vcells x, szT P t with
   | some (.cells el cs), some xs, some n => if xs.length = n ∧ off + n ≤ cs.length then some (.any, .upd β (.cells el (overwrite cs off xs))) else none
   | _, _, _ => none) := rfl
end
def eI (n : Int) : List VV := [.lit (.int .i64 n)]
def eU8 (n : Int) : List VV := [.lit (.int .u8 n)]
def eB (b : Bool) : List VV := [.lit (.bool b)]
def eS (s : ByteArray) : List VV := [.lit (.string s)]
def eSl {α : Type} (enc : α → List VV) (xs : List α) : List VV := [.sl (cellsL enc xs) xs.length false]
theorem eI_eq {n : Int} : eI n = [.lit (.int .i64 n)] := rfl
theorem zamn {n : Int} : eU8 n = [.lit (.int .u8 n)] := rfl
theorem eB_eq {b : Bool} : eB b = [.lit (.bool b)] := rfl
theorem eS_eq {s : ByteArray} : eS s = [.lit (.string s)] := rfl
theorem zajs {α : Type} {enc : α → List VV} {xs : List α} : eSl enc xs = [.sl (cellsL enc xs) xs.length false] := rfl
structure EncOk {α : Type} (enc : α → List VV) : Prop where
 tree : ∀ x, treeL (enc x) = true
 norm : ∀ x, normL (enc x) = enc x
 shown : ∀ x H d, (enc x).map (showV H d) = enc x
theorem eI_ok : EncOk eI := ⟨fun _ => rfl, fun _ => rfl, fun _ _ d => by cases d <;> rfl⟩
theorem zagi : EncOk eU8 := ⟨fun _ => rfl, fun _ => rfl, fun _ _ d => by cases d <;> rfl⟩
theorem eB_ok : EncOk eB := ⟨fun _ => rfl, fun _ => rfl, fun _ _ d => by cases d <;> rfl⟩
theorem eS_ok : EncOk eS := ⟨fun _ => rfl, fun _ => rfl, fun _ _ d => by cases d <;> rfl⟩
section
variable {α : Type} {enc : α → List VV} (h : EncOk enc)
include h
theorem EncOk.treeL (xs : List α) : Go.V.treeL (cellsL enc xs) = true := zjo h.tree xs
theorem EncOk.normL (xs : List α) : Go.V.normL (cellsL enc xs) = cellsL enc xs := zjd h.norm xs
theorem EncOk.showL (xs : List α) (H : Nat → Option VObj) (d : Nat) : (cellsL enc xs).map (showV H d) = cellsL enc xs := zrl (fun x => h.shown x H d) xs
theorem EncOk.sl : EncOk (eSl enc) := ⟨fun x => by simp [eSl, Go.V.treeL, VV.tree, h.treeL], fun x => by simp [eSl, Go.V.normL, normV, h.normL], fun x H d => by cases d <;> rfl⟩
end
theorem EncOk.of {α : Type} {enc : α → List VV} (h1 : ∀ x, Go.V.treeL (enc x) = true) (h2 : ∀ x, Go.V.normL (enc x) = enc x) (h3 : ∀ x H d, (enc x).map (showV H d) = enc x) : EncOk enc := ⟨h1, h2, h3⟩
theorem zadk {H : Nat → Option VObj} {d : Nat} {v : Value} : showV H d (.lit v) = .lit v := by cases d <;> rfl
theorem zahk {H : Nat → Option VObj} {d n : Nat} {cs : List VV} {f : Bool} : showV H d (.sl cs n f) = .sl cs n f := by cases d <;> rfl
theorem zah {H : Nat → Option VObj} {d β off len es cp : Nat} : showV H (d + 1) (.ref β off len es cp) = (match H β with
   | some (.cells _ cs) => if off ≤ cs.length then .sl (((cs.drop off).take (len * es)).map (showV H d)) len false else .ref β off len es cp
   | _ => .ref β off len es cp) := rfl
theorem zady {H : Nat → Option VObj} {d : Nat} {cs : List VV} : showV H (d + 1) (.agg cs) = .agg (cs.map (showV H d)) := rfl
theorem zaex {H : Nat → Option VObj} {d : Nat} {cs : List VV} : showV H (d + 1) (.tup cs) = .tup (cs.map (showV H d)) := rfl
theorem zaad {cs : List VV} {n : Nat} {f : Bool} : normV (.sl cs n f) = .sl (normL cs) n false := by simp [normV]
theorem zui : normV (.lit (.slice none 0 0)) = .sl [] 0 false := by simp [normV]
theorem zut {cs : List VV} : normV (.agg cs) = .agg (normL cs) := by simp [normV]
theorem zadf {cs : List VV} : normV (.tup cs) = .tup (normL cs) := by simp [normV]
theorem zuy {k : IntKind} {n : Int} : normV (.lit (.int k n)) = .lit (.int k n) := by simp [normV]
theorem zrq {b : Bool} : normV (.lit (.bool b)) = .lit (.bool b) := by simp [normV]
theorem zsz {b : ByteArray} : normV (.lit (.string b)) = .lit (.string b) := by simp [normV]
theorem ziu : normL [] = [] := rfl
theorem zgy {x : VV} {xs : List VV} : normL (x :: xs) = normV x :: normL xs := by simp [normL]
theorem zags : VV.tree .any = true := rfl
def vs := (And.intro (And.intro (And.intro (And.intro (And.intro (And.intro (And.intro @zanf @zace) (And.intro @zans @zaho)) (And.intro (And.intro @zahw @zacf) (And.intro @zain @zxs))) (And.intro (And.intro (And.intro @zagu @zadu) (And.intro @ztt @zaak)) (And.intro (And.intro @zaej @zahn) (And.intro @zaea @zahf)))) (And.intro (And.intro (And.intro (And.intro @zaha @zalr) (And.intro @ztf @zacn)) (And.intro (And.intro @zwe @zahm) (And.intro @zakn @zacz))) (And.intro (And.intro (And.intro @zadd @zpg) (And.intro @zagt @zgv)) (And.intro (And.intro @zka @zsq) (And.intro @zahq (And.intro @zmm @zadm)))))) (And.intro (And.intro (And.intro (And.intro (And.intro @zane @zil) (And.intro @zem @zanb)) (And.intro (And.intro @zakh @zalq) (And.intro @zaqj @zajl))) (And.intro (And.intro (And.intro @zago @argsTm1) (And.intro @argsTm2 @zwd)) (And.intro (And.intro @zabh @zxl) (And.intro @zaed (And.intro @zzs @ztb))))) (And.intro (And.intro (And.intro (And.intro @zaae @zya) (And.intro @znn @zwz)) (And.intro (And.intro @znt @zxd) (And.intro @zaeg @zagd))) (And.intro (And.intro (And.intro @zwy @zact) (And.intro @zrw @zyz)) (And.intro (And.intro @zpv @zaai) (And.intro @zsc (And.intro @zabn @ztv))))))) (And.intro (And.intro (And.intro (And.intro (And.intro (And.intro @zakz @zalv) (And.intro @zalx @zajt)) (And.intro (And.intro @zamo @zakw) (And.intro @argsTm3 @argsTm4))) (And.intro (And.intro (And.intro @argsTm5 @zafh) (And.intro @zabp @zabg)) (And.intro (And.intro @zabz @zxf) (And.intro @zaiy (And.intro @zack @zade))))) (And.intro (And.intro (And.intro (And.intro @zafd @zacp) (And.intro @zaeq @zagp)) (And.intro (And.intro @zami @zani) (And.intro @zakj @zajr))) (And.intro (And.intro (And.intro @zadw @zxt) (And.intro @zabi @zpy)) (And.intro (And.intro @zxc @zwk) (And.intro @zxu (And.intro @zaic @zbd)))))) (And.intro (And.intro (And.intro (And.intro (And.intro @zav @zabv) (And.intro @zwc @zod)) (And.intro (And.intro @zqm @zafk) (And.intro @zahx @zfu))) (And.intro (And.intro (And.intro @zys @zww) (And.intro @zse @zaay)) (And.intro (And.intro @zafa @zzi) (And.intro @zto (And.intro @znq @zsy))))) (And.intro (And.intro (And.intro (And.intro @zacg @zmg) (And.intro @zti @zwq)) (And.intro (And.intro @zno @zajo) (And.intro @zakt @zaqi))) (And.intro (And.intro (And.intro @zapo @zwt) (And.intro @zalf @zaa)) (And.intro (And.intro @zaq @zyk) (And.intro @zxh (And.intro @zbq @zat))))))))
section
variable {i : Nat} {a : Oper} {l : List Oper} {x : VV} {xs ys : List VV}
theorem zakm : (a :: l)[i + 1]? = l[i]? := rfl
theorem zaka : (a :: l)[0]? = some a := rfl
theorem zann : (x :: xs)[i + 1]? = xs[i]? := rfl
theorem zalg : (x :: xs)[0]? = some x := rfl
theorem zamb {f : Oper → Option Tmp} : (some a).bind f = f a := rfl
theorem zant {f : List VV → Option VV} : (some xs).bind f = f xs := rfl
theorem zaor {f : VV → VV} : (some x).map f = some (f x) := rfl
theorem zape : (a :: l).length = l.length + 1 := rfl
theorem zamq : ([] : List Oper).length = 0 := rfl
theorem zaon : (x :: xs).length = xs.length + 1 := rfl
theorem zamm : ([] : List VV).length = 0 := rfl
theorem zapa {f : Operand → VV} {o : Operand} {os : List Operand} : (o :: os).map f = f o :: os.map f := rfl
theorem zajy {f : Operand → VV} : ([] : List Operand).map f = [] := rfl
theorem zars {f : Nat × Operand → Nat × VV} {o : Nat × Operand} {os : List (Nat × Operand)} : (o :: os).map f = f o :: os.map f := rfl
theorem zalu {f : Nat × Operand → Nat × VV} : ([] : List (Nat × Operand)).map f = [] := rfl
theorem zamw {f : VV → VV} : (x :: xs).map f = f x :: xs.map f := rfl
theorem zaie {f : VV → VV} : ([] : List VV).map f = [] := rfl
theorem zzv : (x :: xs) ++ ys = x :: (xs ++ ys) := rfl
theorem zsf : [] ++ ys = ys := rfl
theorem zalk : (x :: xs).drop (i + 1) = xs.drop i := rfl
theorem zaiq : xs.drop 0 = xs := by simp
theorem zakk : (x :: xs).take (i + 1) = x :: xs.take i := rfl
theorem zajb : xs.take 0 = [] := by simp
theorem zamd {o : VObj} : (some o).isSome = true := rfl
theorem m_nil : (([] : List Nat) = []) = True := by simp
theorem m_ne {a b : Bool} : (a ≠ b) = ¬ (a = b) := rfl
theorem m_neN {a b : Nat} : (a ≠ b) = ¬ (a = b) := rfl
end
def cr := (And.intro (And.intro (And.intro (And.intro (And.intro @zakm (And.intro @zaka @zann)) (And.intro @zalg (And.intro @zamb @zant))) (And.intro (And.intro @zaor (And.intro @zape @zamq)) (And.intro (And.intro @zaon @zamm) (And.intro @zapa @zajy)))) (And.intro (And.intro (And.intro @zars (And.intro @zalu @zamw)) (And.intro @zaie (And.intro @zzv @zsf))) (And.intro (And.intro @zalk (And.intro @zaiq @zakk)) (And.intro (And.intro @zajb @zamd) (And.intro @m_nil @m_ne))))) (And.intro (And.intro (And.intro (And.intro @m_neN (And.intro @Nat.zero_add @not_true_eq_false)) (And.intro @not_false_eq_true (And.intro @false_implies @true_implies))) (And.intro (And.intro @true_and (And.intro @and_true @false_and)) (And.intro (And.intro @and_false @Bool.false_eq_true) (And.intro @Bool.true_eq_false @Bool.not_true)))) (And.intro (And.intro (And.intro @Bool.not_false (And.intro @Bool.and_self @decide_true)) (And.intro (And.intro @decide_false @Nat.add_assoc) (And.intro @Nat.zero_mul @Nat.one_mul))) (And.intro (And.intro @Nat.zero_le (And.intro @true_or @or_true)) (And.intro (And.intro @false_or @or_false) (And.intro @not_true @not_false_iff))))))
def nrm := (And.intro (And.intro (And.intro (And.intro @zaad @zui) (And.intro @zut (And.intro @zadf @zuy))) (And.intro (And.intro @zrq @zsz) (And.intro @ziu (And.intro @zgy @eI_ok.normL)))) (And.intro (And.intro (And.intro @zagi.normL @eB_ok.normL) (And.intro @eS_ok.normL (And.intro @zadk @zahk))) (And.intro (And.intro @zady (And.intro @zaex @eI_ok.showL)) (And.intro @zagi.showL (And.intro @eB_ok.showL @eS_ok.showL)))))
def tre := (And.intro (And.intro (And.intro @zka @zgv) (And.intro @zsq (And.intro @zafh @zabp))) (And.intro (And.intro @zabg (And.intro @eI_ok.treeL @zagi.treeL)) (And.intro @eB_ok.treeL (And.intro @eS_ok.treeL @zags))))
end Go.V
end
