/- Part of a proof. -/
import Derived.Test.YtekhjalgmlflpaaGreatDoorWba
set_option linter.all false
section
namespace Go.V
open Go
set_option linter.defProp false
section
variable {P : Program} {G : Glob} {n : Nat} {γ : Nat} {tm : Nat → VV} {H : Nat → Option VObj} {nx : Nat} {df : List VDef} {K : St → Prop} {Kd : List Nat → List Nat → St → Prop} {Qp : VV → St → Prop}
 {d : Option Tmp} {ty : TypeId} {pos : String} {af : Array Edge} {g : Option (Nat × Bool)}
section
variable {a b : Prop} {x y : VV} {k : VV → Prop}
theorem zafr : guardK (.lit (.bool true)) true a b = a := by simp [guardK]
theorem zahg : guardK (.lit (.bool true)) false a b = b := by simp [guardK]
theorem zahl : guardK (.lit (.bool false)) true a b = b := by simp [guardK]
theorem zahz : guardK (.lit (.bool false)) false a b = a := by simp [guardK]
theorem zajo {w : Bool} : guardK (.lit undef) w a b = b := rfl
theorem zaqn : pickK (.lit (.bool true)) x y k = k x := by simp [pickK]
theorem zaor : pickK (.lit (.bool false)) x y k = k y := by simp [pickK]
theorem zaqk : condK (.lit (.bool true)) a b = a := by simp [condK]
theorem zanl : condK (.lit (.bool false)) a b = b := by simp [condK]
end
theorem zbu : leafL [] = true := rfl
theorem zbj {x : VV} {xs : List VV} : leafL (x :: xs) = (x.leaf && leafL xs) := rfl
theorem zafc {k : IntKind} {i : Int} : (VV.lit (.int k i)).leaf = true := rfl
theorem zyj {b : Bool} : (VV.lit (.bool b)).leaf = true := rfl
theorem zqh {b : ByteArray} : (VV.lit (.string b)).leaf = true := rfl
theorem ztv {b : Option Addr} {l c : Nat} : (VV.lit (.slice b l c)).leaf = true := rfl
theorem zaiy {cs : List VV} {k : Nat} {f : Bool} : (VV.sl cs k f).leaf = true := rfl
theorem zamm {β o l e c : Nat} : (VV.ref β o l e c).leaf = true := rfl
theorem zhd {cs : List VV} : vcells (.agg cs) = if leafL cs = true then some cs else none := by simp only [vcells, zlf]
theorem vcells1 {x : VV} (h : x.leaf = true) : vcells x = some [x] := by
 cases x <;> first | rfl | (simp [vcells, h]; done) | cases h
theorem zabq {k : IntKind} {i : Int} : vcells (.lit (.int k i)) = some [.lit (.int k i)] := rfl
theorem zaar {b : Bool} : vcells (.lit (.bool b)) = some [.lit (.bool b)] := rfl
theorem zus {b : ByteArray} : vcells (.lit (.string b)) = some [.lit (.string b)] := rfl
theorem zaau {b : Option Addr} {l c : Nat} : vcells (.lit (.slice b l c)) = some [.lit (.slice b l c)] := rfl
theorem zagm {cs : List VV} {k : Nat} {f : Bool} : vcells (.sl cs k f) = some [.sl cs k f] := rfl
theorem zadm {β o l e c : Nat} : vcells (.ref β o l e c) = some [.ref β o l e c] := rfl
theorem zwe {cs xs : List VV} {off : Nat} : overwrite cs off xs = cs.take off ++ (xs ++ cs.drop (off + xs.length)) := by simp [overwrite, List.append_assoc]
def vzl (P : Program) (t : TypeId) : Option (List VV) := (vzero P t).map fun z => z.toList.map ofVal1
theorem zzb {t : TypeId} : bodyK P G γ ⟨d, .alloc t, ty, pos, af, g⟩ ⟨tm, H, nx, df⟩ K Qp = (match vzl P t with | some cs => fin d γ tm H nx df K (.ptr γ 0) (.new (.cells (some t) cs)) | none => False) := by
 rw [zabo]; unfold vzl; cases vzero P t <;> rfl
theorem zvk {t : TypeId} : dbodyK P G γ ⟨d, .alloc t, ty, pos, af, g⟩ ⟨tm, H, nx, df⟩ Kd = (match vzl P t with | some cs => fin d γ tm H nx df (Kd (rdV ⟨d, .alloc t, ty, pos, af, g⟩ (ev G tm)) [γ]) (.ptr γ 0) (.new (.cells (some t) cs)) | none => False) := by
 rw [zaaf]; unfold vzl; cases vzero P t <;> rfl
def vstoreV (P : Program) (H : Nat → Option VObj) (t : TypeId) (a x : VV) : Option (VV × VEff) := match a with
  | .ptr β off => match H β, vcells x, szT P t with
   | some (.cells el cs), some xs, some n => if xs.length = n ∧ off + n ≤ cs.length then some (.any, .upd β (.cells el (overwrite cs off xs))) else none
   | _, _, _ => none
  | _ => none
theorem zzv {t : TypeId} {a x : Operand} : bodyK P G γ ⟨d, .store t a x, ty, pos, af, g⟩ ⟨tm, H, nx, df⟩ K Qp = oeK (vstoreV P H t (ev G tm a) (ev G tm x)) (fun y e => fin d γ tm H nx df K y e) := by
 rw [zacd]; rfl
theorem zzw {t : TypeId} {x : VV} {β off : Nat} : vstoreV P H t (.ptr β off) x = (match H β, vcells x, szT P t with
   | some (.cells el cs), some xs, some n => if xs.length = n ∧ off + n ≤ cs.length then some (.any, .upd β (.cells el (overwrite cs off xs))) else none
   | _, _, _ => none) := rfl
end
def eI (n : Int) : List VV := [.lit (.int .i64 n)]
def eU8 (n : Int) : List VV := [.lit (.int .u8 n)]
def eB (b : Bool) : List VV := [.lit (.bool b)]
def eS (s : ByteArray) : List VV := [.lit (.string s)]
def eSl {α : Type} (enc : α → List VV) (xs : List α) : List VV := [.sl (cellsL enc xs) xs.length false]
theorem eI_eq {n : Int} : eI n = [.lit (.int .i64 n)] := rfl
theorem zaol {n : Int} : eU8 n = [.lit (.int .u8 n)] := rfl
theorem eB_eq {b : Bool} : eB b = [.lit (.bool b)] := rfl
theorem eS_eq {s : ByteArray} : eS s = [.lit (.string s)] := rfl
theorem zaqt {α : Type} {enc : α → List VV} {xs : List α} : eSl enc xs = [.sl (cellsL enc xs) xs.length false] := rfl
structure EncOk {α : Type} (enc : α → List VV) : Prop where
 tree : ∀ x, treeL (enc x) = true
 norm : ∀ x, normL (enc x) = enc x
 shown : ∀ x H d, (enc x).map (showV H d) = enc x
theorem eI_ok : EncOk eI := ⟨fun _ => rfl, fun _ => rfl, fun _ _ d => by cases d <;> rfl⟩
theorem zamj : EncOk eU8 := ⟨fun _ => rfl, fun _ => rfl, fun _ _ d => by cases d <;> rfl⟩
theorem eB_ok : EncOk eB := ⟨fun _ => rfl, fun _ => rfl, fun _ _ d => by cases d <;> rfl⟩
theorem eS_ok : EncOk eS := ⟨fun _ => rfl, fun _ => rfl, fun _ _ d => by cases d <;> rfl⟩
section
variable {α : Type} {enc : α → List VV} (h : EncOk enc)
include h
theorem EncOk.treeL (xs : List α) : Go.V.treeL (cellsL enc xs) = true := zky h.tree xs
theorem EncOk.normL (xs : List α) : Go.V.normL (cellsL enc xs) = cellsL enc xs := zkr h.norm xs
theorem EncOk.showL (xs : List α) (H : Nat → Option VObj) (d : Nat) : (cellsL enc xs).map (showV H d) = cellsL enc xs := zty (fun x => h.shown x H d) xs
theorem EncOk.sl : EncOk (eSl enc) := ⟨fun x => by simp [eSl, Go.V.treeL, VV.tree, h.treeL], fun x => by simp [eSl, Go.V.normL, normV, h.normL], fun x H d => by cases d <;> rfl⟩
end
theorem EncOk.of {α : Type} {enc : α → List VV} (h1 : ∀ x, Go.V.treeL (enc x) = true) (h2 : ∀ x, Go.V.normL (enc x) = enc x) (h3 : ∀ x H d, (enc x).map (showV H d) = enc x) : EncOk enc := ⟨h1, h2, h3⟩
theorem zahk {H : Nat → Option VObj} {d : Nat} {v : Value} : showV H d (.lit v) = .lit v := by cases d <;> rfl
theorem zalc {H : Nat → Option VObj} {d n : Nat} {cs : List VV} {f : Bool} : showV H d (.sl cs n f) = .sl cs n f := by cases d <;> rfl
theorem zaf {H : Nat → Option VObj} {d β off len es cp : Nat} : showV H (d + 1) (.ref β off len es cp) = (match H β with
   | some (.cells _ cs) => if off ≤ cs.length then .sl (((cs.drop off).take (len * es)).map (showV H d)) len false else .ref β off len es cp
   | _ => .ref β off len es cp) := rfl
theorem zagl {H : Nat → Option VObj} {d : Nat} {cs : List VV} : showV H (d + 1) (.agg cs) = .agg (cs.map (showV H d)) := rfl
theorem zahs {H : Nat → Option VObj} {d : Nat} {cs : List VV} : showV H (d + 1) (.tup cs) = .tup (cs.map (showV H d)) := rfl
theorem zaca {cs : List VV} {n : Nat} {f : Bool} : normV (.sl cs n f) = .sl (normL cs) n false := by simp [normV]
theorem zxp : normV (.lit (.slice none 0 0)) = .sl [] 0 false := by simp [normV]
theorem zxf {cs : List VV} : normV (.agg cs) = .agg (normL cs) := by simp [normV]
theorem zafq {cs : List VV} : normV (.tup cs) = .tup (normL cs) := by simp [normV]
theorem zxz {k : IntKind} {n : Int} : normV (.lit (.int k n)) = .lit (.int k n) := by simp [normV]
theorem ztk {b : Bool} : normV (.lit (.bool b)) = .lit (.bool b) := by simp [normV]
theorem zvs {b : ByteArray} : normV (.lit (.string b)) = .lit (.string b) := by simp [normV]
theorem ziq : normL [] = [] := rfl
theorem zgx {x : VV} {xs : List VV} : normL (x :: xs) = normV x :: normL xs := by simp [normL]
theorem zami : VV.tree .any = true := rfl
def vs := (And.intro (And.intro (And.intro (And.intro (And.intro (And.intro (And.intro @zana @zadr) (And.intro @zaop @zajx)) (And.intro (And.intro @zalu @zago) (And.intro @zaks @zzl))) (And.intro (And.intro (And.intro @zajw @zahm) (And.intro @zva @zadw)) (And.intro (And.intro @zagz @zalf) (And.intro @zahx @zald)))) (And.intro (And.intro (And.intro (And.intro @zajn @zaoa) (And.intro @zwq @zagq)) (And.intro (And.intro @zzz @zaky) (And.intro @zarg @zafj))) (And.intro (And.intro (And.intro @zahj @zrh) (And.intro @zalt @zib)) (And.intro (And.intro @zlm @zvh) (And.intro @zamh (And.intro @znz @zahr)))))) (And.intro (And.intro (And.intro (And.intro (And.intro @zanw @zje) (And.intro @zfg @zarp)) (And.intro (And.intro @zarm @zaqx) (And.intro @zavq @zaqo))) (And.intro (And.intro (And.intro @zakw @argsTm1) (And.intro @argsTm2 @zzn)) (And.intro (And.intro @zabs @zzm) (And.intro @zafl (And.intro @zadd @zwj))))) (And.intro (And.intro (And.intro (And.intro @zabr @zacv) (And.intro @zph @zzh)) (And.intro (And.intro @zpg @zzd) (And.intro @zafs @zamt))) (And.intro (And.intro (And.intro @zaak @zage) (And.intro @zto @zaei)) (And.intro (And.intro @zsb @zaez) (And.intro @zti (And.intro @zabd @zwf))))))) (And.intro (And.intro (And.intro (And.intro (And.intro (And.intro @zaqh @zarb) (And.intro @zapc @zaql)) (And.intro (And.intro @zaqc @zant) (And.intro @argsTm3 @argsTm4))) (And.intro (And.intro (And.intro @argsTm5 @zaiv) (And.intro @zaax @zabf)) (And.intro (And.intro @zaes @zzr) (And.intro @zalj (And.intro @zahd @zafr))))) (And.intro (And.intro (And.intro (And.intro @zahg @zahl) (And.intro @zahz @zajo)) (And.intro (And.intro @zaqn @zaor) (And.intro @zaqk @zanl))) (And.intro (And.intro (And.intro @zagi @zaab) (And.intro @zadp @zrg)) (And.intro (And.intro @zzv @zzw) (And.intro @zzb (And.intro @zamq @zbu)))))) (And.intro (And.intro (And.intro (And.intro (And.intro @zbj @zafc) (And.intro @zyj @zqh)) (And.intro (And.intro @ztv @zaiy) (And.intro @zamm @zhd))) (And.intro (And.intro (And.intro @zabq @zaar) (And.intro @zus @zaau)) (And.intro (And.intro @zagm @zadm) (And.intro @zwe (And.intro @zpc @zvk))))) (And.intro (And.intro (And.intro (And.intro @zahb @zny) (And.intro @zvp @zzc)) (And.intro (And.intro @zpd @zarq) (And.intro @zaoz @zasu))) (And.intro (And.intro (And.intro @zavh @zza) (And.intro @zark @zaa)) (And.intro (And.intro @zas @zadk) (And.intro @zaam (And.intro @zbo @zau))))))))
section
variable {i : Nat} {a : Oper} {l : List Oper} {x : VV} {xs ys : List VV}
theorem zans : (a :: l)[i + 1]? = l[i]? := rfl
theorem zari : (a :: l)[0]? = some a := rfl
theorem zaro : (x :: xs)[i + 1]? = xs[i]? := rfl
theorem zanb : (x :: xs)[0]? = some x := rfl
theorem zanx {f : Oper → Option Tmp} : (some a).bind f = f a := rfl
theorem zapm {f : List VV → Option VV} : (some xs).bind f = f xs := rfl
theorem zavc {f : VV → VV} : (some x).map f = some (f x) := rfl
theorem zate : (a :: l).length = l.length + 1 := rfl
theorem zarl : ([] : List Oper).length = 0 := rfl
theorem zarz : (x :: xs).length = xs.length + 1 := rfl
theorem zaqv : ([] : List VV).length = 0 := rfl
theorem zatg {f : Operand → VV} {o : Operand} {os : List Operand} : (o :: os).map f = f o :: os.map f := rfl
theorem zapp {f : Operand → VV} : ([] : List Operand).map f = [] := rfl
theorem zasz {f : Nat × Operand → Nat × VV} {o : Nat × Operand} {os : List (Nat × Operand)} : (o :: os).map f = f o :: os.map f := rfl
theorem zanf {f : Nat × Operand → Nat × VV} : ([] : List (Nat × Operand)).map f = [] := rfl
theorem zaov {f : VV → VV} : (x :: xs).map f = f x :: xs.map f := rfl
theorem zalr {f : VV → VV} : ([] : List VV).map f = [] := rfl
theorem zuf : (x :: xs) ++ ys = x :: (xs ++ ys) := rfl
theorem zmr : [] ++ ys = ys := rfl
theorem zapi : (x :: xs).drop (i + 1) = xs.drop i := rfl
theorem zalv : xs.drop 0 = xs := by simp
theorem zaoc : (x :: xs).take (i + 1) = x :: xs.take i := rfl
theorem zakt : xs.take 0 = [] := by simp
theorem zang {o : VObj} : (some o).isSome = true := rfl
theorem m_nil : (([] : List Nat) = []) = True := by simp
theorem m_ne {a b : Bool} : (a ≠ b) = ¬ (a = b) := rfl
theorem m_neN {a b : Nat} : (a ≠ b) = ¬ (a = b) := rfl
end
def cr := (And.intro (And.intro (And.intro (And.intro (And.intro @zans (And.intro @zari @zaro)) (And.intro @zanb (And.intro @zanx @zapm))) (And.intro (And.intro @zavc (And.intro @zate @zarl)) (And.intro (And.intro @zarz @zaqv) (And.intro @zatg @zapp)))) (And.intro (And.intro (And.intro @zasz (And.intro @zanf @zaov)) (And.intro @zalr (And.intro @zuf @zmr))) (And.intro (And.intro @zapi (And.intro @zalv @zaoc)) (And.intro (And.intro @zakt @zang) (And.intro @m_nil @m_ne))))) (And.intro (And.intro (And.intro (And.intro @m_neN (And.intro @Nat.zero_add @not_true_eq_false)) (And.intro @not_false_eq_true (And.intro @false_implies @true_implies))) (And.intro (And.intro @true_and (And.intro @and_true @false_and)) (And.intro (And.intro @and_false @Bool.false_eq_true) (And.intro @Bool.true_eq_false @Bool.not_true)))) (And.intro (And.intro (And.intro @Bool.not_false (And.intro @Bool.and_self @decide_true)) (And.intro (And.intro @decide_false @Nat.add_assoc) (And.intro @Nat.zero_mul @Nat.one_mul))) (And.intro (And.intro @Nat.zero_le (And.intro @true_or @or_true)) (And.intro (And.intro @false_or @or_false) (And.intro @not_true @not_false_iff))))))
def nrm := (And.intro (And.intro (And.intro (And.intro @zaca @zxp) (And.intro @zxf (And.intro @zafq @zxz))) (And.intro (And.intro @ztk @zvs) (And.intro @ziq (And.intro @zgx @eI_ok.normL)))) (And.intro (And.intro (And.intro @zamj.normL @eB_ok.normL) (And.intro @eS_ok.normL (And.intro @zahk @zalc))) (And.intro (And.intro @zagl (And.intro @zahs @eI_ok.showL)) (And.intro @zamj.showL (And.intro @eB_ok.showL @eS_ok.showL)))))
def tre := (And.intro (And.intro (And.intro @zlm @zib) (And.intro @zvh (And.intro @zaiv @zaax))) (And.intro (And.intro @zabf (And.intro @eI_ok.treeL @zamj.treeL)) (And.intro @eB_ok.treeL (And.intro @eS_ok.treeL @zami))))
end Go.V
end
