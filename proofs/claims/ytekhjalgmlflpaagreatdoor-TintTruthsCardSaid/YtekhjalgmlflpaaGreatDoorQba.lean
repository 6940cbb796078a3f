/- Part of a proof: a logic of values by content, lifted functions, what follows. -/
import Derived.Test.YtekhjalgmlflpaaGreatDoorQaz
set_option linter.all false
section
namespace Go.V
open Go
set_option linter.defProp false
section
variable {P : Program} {G : Glob} {n : Nat} {γ : Nat} {tm : Nat → VV} {H : Nat → Option VObj} {nx : Nat} {df : List VDef} {K : St → Prop} {Kd : List Nat → List Nat → St → Prop} {Qp : VV → St → Prop}
 {d : Option Tmp} {ty : TypeId} {pos : String} {af : Array Edge} {g : Option (Nat × Bool)}
section
variable {a b : Prop} {x y : VV} {k : VV → Prop}
theorem zahn : guardK (.lit (.bool true)) true a b = a := by simp [guardK]
theorem zahu : guardK (.lit (.bool true)) false a b = b := by simp [guardK]
theorem zahv : guardK (.lit (.bool false)) true a b = b := by simp [guardK]
theorem zafn : guardK (.lit (.bool false)) false a b = a := by simp [guardK]
theorem zajy {w : Bool} : guardK (.lit undef) w a b = b := rfl
theorem zana : pickK (.lit (.bool true)) x y k = k x := by simp [pickK]
theorem zamw : pickK (.lit (.bool false)) x y k = k y := by simp [pickK]
theorem zapm : condK (.lit (.bool true)) a b = a := by simp [condK]
theorem zaqk : condK (.lit (.bool false)) a b = b := by simp [condK]
end
theorem zbt : leafL [] = true := rfl
theorem zbg {x : VV} {xs : List VV} : leafL (x :: xs) = (x.leaf && leafL xs) := rfl
theorem zwe {k : IntKind} {i : Int} : (VV.lit (.int k i)).leaf = true := rfl
theorem zrd {b : Bool} : (VV.lit (.bool b)).leaf = true := rfl
theorem zlx {b : ByteArray} : (VV.lit (.string b)).leaf = true := rfl
theorem zof {b : Option Addr} {l c : Nat} : (VV.lit (.slice b l c)).leaf = true := rfl
theorem zadw {cs : List VV} {k : Nat} {f : Bool} : (VV.sl cs k f).leaf = true := rfl
theorem zajh {β o l e c : Nat} : (VV.ref β o l e c).leaf = true := rfl
theorem zhl {cs : List VV} : vcells (.agg cs) = if leafL cs = true then some cs else none := by simp only [vcells, zlg]
theorem vcells1 {x : VV} (h : x.leaf = true) : vcells x = some [x] := by
 cases x <;> first | rfl | (simp [vcells, h]; done) | cases h
theorem zaei {k : IntKind} {i : Int} : vcells (.lit (.int k i)) = some [.lit (.int k i)] := rfl
theorem zaaa {b : Bool} : vcells (.lit (.bool b)) = some [.lit (.bool b)] := rfl
theorem zss {b : ByteArray} : vcells (.lit (.string b)) = some [.lit (.string b)] := rfl
theorem zach {b : Option Addr} {l c : Nat} : vcells (.lit (.slice b l c)) = some [.lit (.slice b l c)] := rfl
theorem zahr {cs : List VV} {k : Nat} {f : Bool} : vcells (.sl cs k f) = some [.sl cs k f] := rfl
theorem zacu {β o l e c : Nat} : vcells (.ref β o l e c) = some [.ref β o l e c] := rfl
theorem zvs {cs xs : List VV} {off : Nat} : overwrite cs off xs = cs.take off ++ (xs ++ cs.drop (off + xs.length)) := by simp [overwrite, List.append_assoc]
def vzl (P : Program) (t : TypeId) : Option (List VV) := (vzero P t).map fun z => z.toList.map ofVal1
theorem zzs {t : TypeId} : bodyK P G γ ⟨d, .alloc t, ty, pos, af, g⟩ ⟨tm, H, nx, df⟩ K Qp = (match vzl P t with | some cs => fin d γ tm H nx df K (.ptr γ 0) (.new (.cells (some t) cs)) | none => False) := by
 rw [zadf]; unfold vzl; cases vzero P t <;> rfl
theorem zwc {t : TypeId} : dbodyK P G γ ⟨d, .alloc t, ty, pos, af, g⟩ ⟨tm, H, nx, df⟩ Kd = (match vzl P t with | some cs => fin d γ tm H nx df (Kd (rdV ⟨d, .alloc t, ty, pos, af, g⟩ (ev G tm)) [γ]) (.ptr γ 0) (.new (.cells (some t) cs)) | none => False) := by
 rw [zaao]; unfold vzl; cases vzero P t <;> rfl
def vstoreV (P : Program) (H : Nat → Option VObj) (t : TypeId) (a x : VV) : Option (VV × VEff) := match a with
  | .ptr β off => match H β, vcells x, szT P t with
   | some (.cells el cs), some xs, some n => if xs.length = n ∧ off + n ≤ cs.length then some (.any, .upd β (.cells el (overwrite cs off xs))) else none
   | _, _, _ => none
  | _ => none
theorem zzk {t : TypeId} {a x : Operand} : bodyK P G γ ⟨d, .store t a x, ty, pos, af, g⟩ ⟨tm, H, nx, df⟩ K Qp = oeK (vstoreV P H t (ev G tm a) (ev G tm x)) (fun y e => fin d γ tm H nx df K y e) := by
 rw [zabw]; rfl
theorem zzb {t : TypeId} {x : VV} {β off : Nat} : vstoreV P H t (.ptr β off) x = (match H β, vcells x, szT P t with
   | some (.cells el cs), some xs, some n => if xs.length = n ∧ off + n ≤ cs.length then some (.any, .upd β (.cells el (overwrite cs off xs))) else none
   | _, _, _ => none) := rfl
end
def eI (n : Int) : List VV := [.lit (.int .i64 n)]
def eU8 (n : Int) : List VV := [.lit (.int .u8 n)]
def eB (b : Bool) : List VV := [.lit (.bool b)]
def eS (s : ByteArray) : List VV := [.lit (.string s)]
def eSl {α : Type} (enc : α → List VV) (xs : List α) : List VV := [.sl (cellsL enc xs) xs.length false]
theorem eI_eq {n : Int} : eI n = [.lit (.int .i64 n)] := rfl
theorem zakj {n : Int} : eU8 n = [.lit (.int .u8 n)] := rfl
theorem eB_eq {b : Bool} : eB b = [.lit (.bool b)] := rfl
theorem eS_eq {s : ByteArray} : eS s = [.lit (.string s)] := rfl
theorem zamg {α : Type} {enc : α → List VV} {xs : List α} : eSl enc xs = [.sl (cellsL enc xs) xs.length false] := rfl
structure EncOk {α : Type} (enc : α → List VV) : Prop where
 tree : ∀ x, treeL (enc x) = true
 norm : ∀ x, normL (enc x) = enc x
 shown : ∀ x H d, (enc x).map (showV H d) = enc x
theorem eI_ok : EncOk eI := ⟨fun _ => rfl, fun _ => rfl, fun _ _ d => by cases d <;> rfl⟩
theorem zajz : EncOk eU8 := ⟨fun _ => rfl, fun _ => rfl, fun _ _ d => by cases d <;> rfl⟩
theorem eB_ok : EncOk eB := ⟨fun _ => rfl, fun _ => rfl, fun _ _ d => by cases d <;> rfl⟩
theorem eS_ok : EncOk eS := ⟨fun _ => rfl, fun _ => rfl, fun _ _ d => by cases d <;> rfl⟩
section
variable {α : Type} {enc : α → List VV} (h : EncOk enc)
include h
theorem EncOk.treeL (xs : List α) : Go.V.treeL (cellsL enc xs) = true := zky h.tree xs
theorem EncOk.normL (xs : List α) : Go.V.normL (cellsL enc xs) = cellsL enc xs := zkt h.norm xs
theorem EncOk.showL (xs : List α) (H : Nat → Option VObj) (d : Nat) : (cellsL enc xs).map (showV H d) = cellsL enc xs := zun (fun x => h.shown x H d) xs
theorem EncOk.sl : EncOk (eSl enc) := ⟨fun x => by simp [eSl, Go.V.treeL, VV.tree, h.treeL], fun x => by simp [eSl, Go.V.normL, normV, h.normL], fun x H d => by cases d <;> rfl⟩
end
theorem EncOk.of {α : Type} {enc : α → List VV} (h1 : ∀ x, Go.V.treeL (enc x) = true) (h2 : ∀ x, Go.V.normL (enc x) = enc x) (h3 : ∀ x H d, (enc x).map (showV H d) = enc x) : EncOk enc := ⟨h1, h2, h3⟩
theorem zagg {H : Nat → Option VObj} {d : Nat} {v : Value} : showV H d (.lit v) = .lit v := by cases d <;> rfl
theorem zakb {H : Nat → Option VObj} {d n : Nat} {cs : List VV} {f : Bool} : showV H d (.sl cs n f) = .sl cs n f := by cases d <;> rfl
theorem zae {H : Nat → Option VObj} {d β off len es cp : Nat} : showV H (d + 1) (.ref β off len es cp) = (match H β with
   | some (.cells _ cs) => if off ≤ cs.length then .sl (((cs.drop off).take (len * es)).map (showV H d)) len false else .ref β off len es cp
   | _ => .ref β off len es cp) := rfl
theorem zahc {H : Nat → Option VObj} {d : Nat} {cs : List VV} : showV H (d + 1) (.agg cs) = .agg (cs.map (showV H d)) := rfl
theorem zahf {H : Nat → Option VObj} {d : Nat} {cs : List VV} : showV H (d + 1) (.tup cs) = .tup (cs.map (showV H d)) := rfl
theorem zadm {cs : List VV} {n : Nat} {f : Bool} : normV (.sl cs n f) = .sl (normL cs) n false := by simp [normV]
theorem zxi : normV (.lit (.slice none 0 0)) = .sl [] 0 false := by simp [normV]
theorem zxd {cs : List VV} : normV (.agg cs) = .agg (normL cs) := by simp [normV]
theorem zagl {cs : List VV} : normV (.tup cs) = .tup (normL cs) := by simp [normV]
theorem zyy {k : IntKind} {n : Int} : normV (.lit (.int k n)) = .lit (.int k n) := by simp [normV]
theorem zts {b : Bool} : normV (.lit (.bool b)) = .lit (.bool b) := by simp [normV]
theorem zuz {b : ByteArray} : normV (.lit (.string b)) = .lit (.string b) := by simp [normV]
theorem zhv : normL [] = [] := rfl
theorem zgm {x : VV} {xs : List VV} : normL (x :: xs) = normV x :: normL xs := by simp [normL]
theorem zald : VV.tree .any = true := rfl
def vs := (And.intro (And.intro (And.intro (And.intro (And.intro (And.intro (And.intro @zanx @zade) (And.intro @zanz @zaje)) (And.intro (And.intro @zalc @zahi) (And.intro @zami @zzu))) (And.intro (And.intro (And.intro @zajs @zahq) (And.intro @zus @zabm)) (And.intro (And.intro @zaht @zaly) (And.intro @zaia @zaka)))) (And.intro (And.intro (And.intro (And.intro @zakf @zaog) (And.intro @zuu @zagu)) (And.intro (And.intro @zzq @zajq) (And.intro @zapv @zagm))) (And.intro (And.intro (And.intro @zagr @zrw) (And.intro @zalj @zik)) (And.intro (And.intro @zli @zwd) (And.intro @zale (And.intro @znt @zahl)))))) (And.intro (And.intro (And.intro (And.intro (And.intro @zans @zjl) (And.intro @zfj @zapw)) (And.intro (And.intro @zaqj @zapz) (And.intro @zase @zara))) (And.intro (And.intro (And.intro @zajt @argsTm1) (And.intro @argsTm2 @zyz)) (And.intro (And.intro @zaew @zaam) (And.intro @zahs (And.intro @zaby @zwr))))) (And.intro (And.intro (And.intro (And.intro @zaem @zabl) (And.intro @zps @zaap)) (And.intro (And.intro @zpj @zzx) (And.intro @zahg @zakn))) (And.intro (And.intro (And.intro @zaar @zafk) (And.intro @zsr @zaba)) (And.intro (And.intro @zri @zacg) (And.intro @ztc (And.intro @zacj @zuw))))))) (And.intro (And.intro (And.intro (And.intro (And.intro (And.intro @zanb @zapa) (And.intro @zapu @zani)) (And.intro (And.intro @zaos @zaow) (And.intro @argsTm3 @argsTm4))) (And.intro (And.intro (And.intro @argsTm5 @zajb) (And.intro @zaeb @zabr)) (And.intro (And.intro @zabx @zzj) (And.intro @zakd (And.intro @zags @zahn))))) (And.intro (And.intro (And.intro (And.intro @zahu @zahv) (And.intro @zafn @zajy)) (And.intro (And.intro @zana @zamw) (And.intro @zapm @zaqk))) (And.intro (And.intro (And.intro @zafg @zzm) (And.intro @zabz @zsl)) (And.intro (And.intro @zzk @zzb) (And.intro @zzs (And.intro @zako @zbt)))))) (And.intro (And.intro (And.intro (And.intro (And.intro @zbg @zwe) (And.intro @zrd @zlx)) (And.intro (And.intro @zof @zadw) (And.intro @zajh @zhl))) (And.intro (And.intro (And.intro @zaei @zaaa) (And.intro @zss @zach)) (And.intro (And.intro @zahr @zacu) (And.intro @zvs (And.intro @zpl @zwc))))) (And.intro (And.intro (And.intro (And.intro @zahw @zov) (And.intro @zvr @zzo)) (And.intro (And.intro @zpv @zanf) (And.intro @zaoh @zavb))) (And.intro (And.intro (And.intro @zars @zze) (And.intro @zaoy @zaa)) (And.intro (And.intro @zao @zadn) (And.intro @zzr (And.intro @zbs @zat))))))))
section
variable {i : Nat} {a : Oper} {l : List Oper} {x : VV} {xs ys : List VV}
theorem zamu : (a :: l)[i + 1]? = l[i]? := rfl
theorem zaor : (a :: l)[0]? = some a := rfl
theorem zaop : (x :: xs)[i + 1]? = xs[i]? := rfl
theorem zapl : (x :: xs)[0]? = some x := rfl
theorem zano {f : Oper → Option Tmp} : (some a).bind f = f a := rfl
theorem zaoz {f : List VV → Option VV} : (some xs).bind f = f xs := rfl
theorem zauv {f : VV → VV} : (some x).map f = some (f x) := rfl
theorem zasa : (a :: l).length = l.length + 1 := rfl
theorem zaoi : ([] : List Oper).length = 0 := rfl
theorem zatg : (x :: xs).length = xs.length + 1 := rfl
theorem zaps : ([] : List VV).length = 0 := rfl
theorem zasb {f : Operand → VV} {o : Operand} {os : List Operand} : (o :: os).map f = f o :: os.map f := rfl
theorem zaqm {f : Operand → VV} : ([] : List Operand).map f = [] := rfl
theorem zatd {f : Nat × Operand → Nat × VV} {o : Nat × Operand} {os : List (Nat × Operand)} : (o :: os).map f = f o :: os.map f := rfl
theorem zaoj {f : Nat × Operand → Nat × VV} : ([] : List (Nat × Operand)).map f = [] := rfl
theorem zanv {f : VV → VV} : (x :: xs).map f = f x :: xs.map f := rfl
theorem zamc {f : VV → VV} : ([] : List VV).map f = [] := rfl
theorem zto : (x :: xs) ++ ys = x :: (xs ++ ys) := rfl
theorem zmm : [] ++ ys = ys := rfl
theorem zapr : (x :: xs).drop (i + 1) = xs.drop i := rfl
theorem zaki : xs.drop 0 = xs := by simp
theorem zann : (x :: xs).take (i + 1) = x :: xs.take i := rfl
theorem zalf : xs.take 0 = [] := by simp
theorem zaoc {o : VObj} : (some o).isSome = true := rfl
theorem m_nil : (([] : List Nat) = []) = True := by simp
theorem m_ne {a b : Bool} : (a ≠ b) = ¬ (a = b) := rfl
theorem m_neN {a b : Nat} : (a ≠ b) = ¬ (a = b) := rfl
end
def cr := (And.intro (And.intro (And.intro (And.intro (And.intro @zamu (And.intro @zaor @zaop)) (And.intro @zapl (And.intro @zano @zaoz))) (And.intro (And.intro @zauv (And.intro @zasa @zaoi)) (And.intro (And.intro @zatg @zaps) (And.intro @zasb @zaqm)))) (And.intro (And.intro (And.intro @zatd (And.intro @zaoj @zanv)) (And.intro @zamc (And.intro @zto @zmm))) (And.intro (And.intro @zapr (And.intro @zaki @zann)) (And.intro (And.intro @zalf @zaoc) (And.intro @m_nil @m_ne))))) (And.intro (And.intro (And.intro (And.intro @m_neN (And.intro @Nat.zero_add @not_true_eq_false)) (And.intro @not_false_eq_true (And.intro @false_implies @true_implies))) (And.intro (And.intro @true_and (And.intro @and_true @false_and)) (And.intro (And.intro @and_false @Bool.false_eq_true) (And.intro @Bool.true_eq_false @Bool.not_true)))) (And.intro (And.intro (And.intro @Bool.not_false (And.intro @Bool.and_self @decide_true)) (And.intro (And.intro @decide_false @Nat.add_assoc) (And.intro @Nat.zero_mul @Nat.one_mul))) (And.intro (And.intro @Nat.zero_le (And.intro @true_or @or_true)) (And.intro (And.intro @false_or @or_false) (And.intro @not_true @not_false_iff))))))
def nrm := (And.intro (And.intro (And.intro (And.intro @zadm @zxi) (And.intro @zxd (And.intro @zagl @zyy))) (And.intro (And.intro @zts @zuz) (And.intro @zhv (And.intro @zgm @eI_ok.normL)))) (And.intro (And.intro (And.intro @zajz.normL @eB_ok.normL) (And.intro @eS_ok.normL (And.intro @zagg @zakb))) (And.intro (And.intro @zahc (And.intro @zahf @eI_ok.showL)) (And.intro @zajz.showL (And.intro @eB_ok.showL @eS_ok.showL)))))
def tre := (And.intro (And.intro (And.intro @zli @zik) (And.intro @zwd (And.intro @zajb @zaeb))) (And.intro (And.intro @zabr (And.intro @eI_ok.treeL @zajz.treeL)) (And.intro @eB_ok.treeL (And.intro @eS_ok.treeL @zald))))
end Go.V
end
