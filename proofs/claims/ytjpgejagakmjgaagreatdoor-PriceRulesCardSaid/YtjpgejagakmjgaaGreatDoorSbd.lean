/- Part of a proof. -/
import Derived.Test.YtjpgejagakmjgaaGreatDoorSbc
set_option linter.all false
section
namespace Go.V
open Go
set_option linter.defProp false
section
variable {P : Program} {G : Glob} {n : Nat} {γ : Nat} {tm : Nat → VV} {H : Nat → Option VObj} {nx : Nat} {df : List VDef} {K : St → Prop} {Kd : List Nat → List Nat → St → Prop} {Qp : VV → St → Prop}
 {d : Option Tmp} {ty : TypeId} {pos : String} {af : Array Edge} {g : Option (Nat × Bool)}
section
variable {a b : Prop} {x y : VV} {k : VV → Prop}
theorem zabx : guardK (.lit (.bool true)) true a b = a := by simp [guardK]
theorem zaco : guardK (.lit (.bool true)) false a b = b := by simp [guardK]
theorem zaed : guardK (.lit (.bool false)) true a b = b := by simp [guardK]
theorem zabw : guardK (.lit (.bool false)) false a b = a := by simp [guardK]
theorem zahj {w : Bool} : guardK (.lit undef) w a b = b := rfl
theorem zame : pickK (.lit (.bool true)) x y k = k x := by simp [pickK]
theorem zakf : pickK (.lit (.bool false)) x y k = k y := by simp [pickK]
theorem zaoe : condK (.lit (.bool true)) a b = a := by simp [condK]
theorem zanp : condK (.lit (.bool false)) a b = b := by simp [condK]
end
theorem zbn : leafL [] = true := rfl
theorem zbd {x : VV} {xs : List VV} : leafL (x :: xs) = (x.leaf && leafL xs) := rfl
theorem zry {k : IntKind} {i : Int} : (VV.lit (.int k i)).leaf = true := rfl
theorem zov {b : Bool} : (VV.lit (.bool b)).leaf = true := rfl
theorem zjp {b : ByteArray} : (VV.lit (.string b)).leaf = true := rfl
theorem zmp {b : Option Addr} {l c : Nat} : (VV.lit (.slice b l c)).leaf = true := rfl
theorem zaau {cs : List VV} {k : Nat} {f : Bool} : (VV.sl cs k f).leaf = true := rfl
theorem zajd {β o l e c : Nat} : (VV.ref β o l e c).leaf = true := rfl
theorem zha {cs : List VV} : vcells (.agg cs) = if leafL cs = true then some cs else none := by simp only [vcells, zii]
theorem vcells1 {x : VV} (h : x.leaf = true) : vcells x = some [x] := by
 cases x <;> first | rfl | (simp [vcells, h]; done) | cases h
theorem zyk {k : IntKind} {i : Int} : vcells (.lit (.int k i)) = some [.lit (.int k i)] := rfl
theorem zxa {b : Bool} : vcells (.lit (.bool b)) = some [.lit (.bool b)] := rfl
theorem zpu {b : ByteArray} : vcells (.lit (.string b)) = some [.lit (.string b)] := rfl
theorem zyf {b : Option Addr} {l c : Nat} : vcells (.lit (.slice b l c)) = some [.lit (.slice b l c)] := rfl
theorem zaep {cs : List VV} {k : Nat} {f : Bool} : vcells (.sl cs k f) = some [.sl cs k f] := rfl
theorem zyz {β o l e c : Nat} : vcells (.ref β o l e c) = some [.ref β o l e c] := rfl
theorem zsx {cs xs : List VV} {off : Nat} : overwrite cs off xs = cs.take off ++ (xs ++ cs.drop (off + xs.length)) := by simp [overwrite, List.append_assoc]
def vzl (P : Program) (t : TypeId) : Option (List VV) := (vzero P t).map fun z => z.toList.map ofVal1
theorem zwu {t : TypeId} : bodyK P G γ ⟨d, .alloc t, ty, pos, af, g⟩ ⟨tm, H, nx, df⟩ K Qp = (match vzl P t with | some cs => fin d γ tm H nx df K (.ptr γ 0) (.new (.cells (some t) cs)) | none => False) := by
 rw [zzt]; unfold vzl; cases vzero P t <;> rfl
theorem zrz {t : TypeId} : dbodyK P G γ ⟨d, .alloc t, ty, pos, af, g⟩ ⟨tm, H, nx, df⟩ Kd = (match vzl P t with | some cs => fin d γ tm H nx df (Kd (rdV ⟨d, .alloc t, ty, pos, af, g⟩ (ev G tm)) [γ]) (.ptr γ 0) (.new (.cells (some t) cs)) | none => False) := by
 rw [zwv]; unfold vzl; cases vzero P t <;> rfl
def vstoreV (P : Program) (H : Nat → Option VObj) (t : TypeId) (a x : VV) : Option (VV × VEff) := match a with
  | .ptr β off => match H β, vcells x, szT P t with
   | some (.cells el cs), some xs, some n => if xs.length = n ∧ off + n ≤ cs.length then some (.any, .upd β (.cells el (overwrite cs off xs))) else none
   | _, _, _ => none
  | _ => none
theorem zxj {t : TypeId} {a x : Operand} : bodyK P G γ ⟨d, .store t a x, ty, pos, af, g⟩ ⟨tm, H, nx, df⟩ K Qp = oeK (vstoreV P H t (ev G tm a) (ev G tm x)) (fun y e => fin d γ tm H nx df K y e) := by
 rw [zzh]; rfl
theorem zvz {t : TypeId} {x : VV} {β off : Nat} : vstoreV P H t (.ptr β off) x = (match H β, vcells x, szT P t with
   | some (.cells el cs), some xs, some n => if xs.length = n ∧ off + n ≤ cs.length then some (.any, .upd β (.cells el (overwrite cs off xs))) else none
   | _, _, _ => none) := rfl
end
def eI (n : Int) : List VV := [.lit (.int .i64 n)]
def eU8 (n : Int) : List VV := [.lit (.int .u8 n)]
def eB (b : Bool) : List VV := [.lit (.bool b)]
def eS (s : ByteArray) : List VV := [.lit (.string s)]
def eSl {α : Type} (enc : α → List VV) (xs : List α) : List VV := [.sl (cellsL enc xs) xs.length false]
theorem eI_eq {n : Int} : eI n = [.lit (.int .i64 n)] := rfl
theorem zahz {n : Int} : eU8 n = [.lit (.int .u8 n)] := rfl
theorem eB_eq {b : Bool} : eB b = [.lit (.bool b)] := rfl
theorem eS_eq {s : ByteArray} : eS s = [.lit (.string s)] := rfl
theorem zajf {α : Type} {enc : α → List VV} {xs : List α} : eSl enc xs = [.sl (cellsL enc xs) xs.length false] := rfl
structure EncOk {α : Type} (enc : α → List VV) : Prop where
 tree : ∀ x, treeL (enc x) = true
 norm : ∀ x, normL (enc x) = enc x
 shown : ∀ x H d, (enc x).map (showV H d) = enc x
theorem eI_ok : EncOk eI := ⟨fun _ => rfl, fun _ => rfl, fun _ _ d => by cases d <;> rfl⟩
theorem zagy : EncOk eU8 := ⟨fun _ => rfl, fun _ => rfl, fun _ _ d => by cases d <;> rfl⟩
theorem eB_ok : EncOk eB := ⟨fun _ => rfl, fun _ => rfl, fun _ _ d => by cases d <;> rfl⟩
theorem eS_ok : EncOk eS := ⟨fun _ => rfl, fun _ => rfl, fun _ _ d => by cases d <;> rfl⟩
section
variable {α : Type} {enc : α → List VV} (h : EncOk enc)
include h
theorem EncOk.treeL (xs : List α) : Go.V.treeL (cellsL enc xs) = true := zmr h.tree xs
theorem EncOk.normL (xs : List α) : Go.V.normL (cellsL enc xs) = cellsL enc xs := zla h.norm xs
theorem EncOk.showL (xs : List α) (H : Nat → Option VObj) (d : Nat) : (cellsL enc xs).map (showV H d) = cellsL enc xs := zrl (fun x => h.shown x H d) xs
theorem EncOk.sl : EncOk (eSl enc) := ⟨fun x => by simp [eSl, Go.V.treeL, VV.tree, h.treeL], fun x => by simp [eSl, Go.V.normL, normV, h.normL], fun x H d => by cases d <;> rfl⟩
end
theorem EncOk.of {α : Type} {enc : α → List VV} (h1 : ∀ x, Go.V.treeL (enc x) = true) (h2 : ∀ x, Go.V.normL (enc x) = enc x) (h3 : ∀ x H d, (enc x).map (showV H d) = enc x) : EncOk enc := ⟨h1, h2, h3⟩
theorem zaef {H : Nat → Option VObj} {d : Nat} {v : Value} : showV H d (.lit v) = .lit v := by cases d <;> rfl
theorem zajr {H : Nat → Option VObj} {d n : Nat} {cs : List VV} {f : Bool} : showV H d (.sl cs n f) = .sl cs n f := by cases d <;> rfl
theorem zay {H : Nat → Option VObj} {d β off len es cp : Nat} : showV H (d + 1) (.ref β off len es cp) = (match H β with
   | some (.cells _ cs) => if off ≤ cs.length then .sl (((cs.drop off).take (len * es)).map (showV H d)) len false else .ref β off len es cp
   | _ => .ref β off len es cp) := rfl
theorem zaec {H : Nat → Option VObj} {d : Nat} {cs : List VV} : showV H (d + 1) (.agg cs) = .agg (cs.map (showV H d)) := rfl
theorem zaea {H : Nat → Option VObj} {d : Nat} {cs : List VV} : showV H (d + 1) (.tup cs) = .tup (cs.map (showV H d)) := rfl
theorem zzn {cs : List VV} {n : Nat} {f : Bool} : normV (.sl cs n f) = .sl (normL cs) n false := by simp [normV]
theorem zvv : normV (.lit (.slice none 0 0)) = .sl [] 0 false := by simp [normV]
theorem zuq {cs : List VV} : normV (.agg cs) = .agg (normL cs) := by simp [normV]
theorem zaem {cs : List VV} : normV (.tup cs) = .tup (normL cs) := by simp [normV]
theorem ztz {k : IntKind} {n : Int} : normV (.lit (.int k n)) = .lit (.int k n) := by simp [normV]
theorem zkz {b : Bool} : normV (.lit (.bool b)) = .lit (.bool b) := by simp [normV]
theorem ztp {b : ByteArray} : normV (.lit (.string b)) = .lit (.string b) := by simp [normV]
theorem zgq : normL [] = [] := rfl
theorem zfy {x : VV} {xs : List VV} : normL (x :: xs) = normV x :: normL xs := by simp [normL]
theorem zaif : VV.tree .any = true := rfl
def vs := (And.intro (And.intro (And.intro (And.intro (And.intro (And.intro (And.intro @zaom @zyn) (And.intro @zalm @zaie)) (And.intro (And.intro @zajh @zadh) (And.intro @zajv @zxg))) (And.intro (And.intro (And.intro @zajo @zadm) (And.intro @ztr @zabd)) (And.intro (And.intro @zadw @zahw) (And.intro @zael @zagz)))) (And.intro (And.intro (And.intro (And.intro @zaij @zalq) (And.intro @zsn @zacd)) (And.intro (And.intro @zxm @zaiv) (And.intro @zapp @zact))) (And.intro (And.intro (And.intro @zabs @zot) (And.intro @zajc @zrh)) (And.intro (And.intro @zvi @zaac) (And.intro @zair (And.intro @zasg @zatp)))))) (And.intro (And.intro (And.intro (And.intro (And.intro @zaph @zaoj) (And.intro @zvs @zapn)) (And.intro (And.intro @zakp @zals) (And.intro @zasm @zaob))) (And.intro (And.intro (And.intro @zaho @argsTm1) (And.intro @argsTm2 @zxp)) (And.intro (And.intro @zaad @zxo) (And.intro @zacm (And.intro @zzd @zss))))) (And.intro (And.intro (And.intro (And.intro @zxz @zyo) (And.intro @zmx @zwr)) (And.intro (And.intro @zmv @zxk) (And.intro @zaew @zaju))) (And.intro (And.intro (And.intro @zxl @zacv) (And.intro @zrd @zzz)) (And.intro (And.intro @zom @zabl) (And.intro @zpn (And.intro @zzw @zsz))))))) (And.intro (And.intro (And.intro (And.intro (And.intro (And.intro @zaps @zamc) (And.intro @zapo @zalf)) (And.intro (And.intro @zalk @zaou) (And.intro @argsTm3 @argsTm4))) (And.intro (And.intro (And.intro @argsTm5 @zafv) (And.intro @zyv @zzc)) (And.intro (And.intro @zzu @zxn) (And.intro @zaji (And.intro @zaei @zabx))))) (And.intro (And.intro (And.intro (And.intro @zaco @zaed) (And.intro @zabw @zahj)) (And.intro (And.intro @zame @zakf) (And.intro @zaoe @zanp))) (And.intro (And.intro (And.intro @zadv @zwd) (And.intro @zaay @zon)) (And.intro (And.intro @zxj @zvz) (And.intro @zwu (And.intro @zaih @zbn)))))) (And.intro (And.intro (And.intro (And.intro (And.intro @zbd @zry) (And.intro @zov @zjp)) (And.intro (And.intro @zmp @zaau) (And.intro @zajd @zha))) (And.intro (And.intro (And.intro @zyk @zxa) (And.intro @zpu @zyf)) (And.intro (And.intro @zaep @zyz) (And.intro @zsx (And.intro @zne @zrz))))) (And.intro (And.intro (And.intro (And.intro @zach @zmg) (And.intro @zsd @zws)) (And.intro (And.intro @zna @zapt) (And.intro @zamt @zasd))) (And.intro (And.intro (And.intro @zaqk @zxh) (And.intro @zaot @zag)) (And.intro (And.intro @zac @zzj) (And.intro @zwh (And.intro @zbz @zbc))))))))
section
variable {i : Nat} {a : Oper} {l : List Oper} {x : VV} {xs ys : List VV}
theorem zakd : (a :: l)[i + 1]? = l[i]? := rfl
theorem zapv : (a :: l)[0]? = some a := rfl
theorem zakk : (x :: xs)[i + 1]? = xs[i]? := rfl
theorem zamr : (x :: xs)[0]? = some x := rfl
theorem zany {f : Oper → Option Tmp} : (some a).bind f = f a := rfl
theorem zaof {f : List VV → Option VV} : (some xs).bind f = f xs := rfl
theorem zasr {f : VV → VV} : (some x).map f = some (f x) := rfl
theorem zarv : (a :: l).length = l.length + 1 := rfl
theorem zang : ([] : List Oper).length = 0 := rfl
theorem zaqt : (x :: xs).length = xs.length + 1 := rfl
theorem zanv : ([] : List VV).length = 0 := rfl
theorem zaqx {f : Operand → VV} {o : Operand} {os : List Operand} : (o :: os).map f = f o :: os.map f := rfl
theorem zakz {f : Operand → VV} : ([] : List Operand).map f = [] := rfl
theorem zaqu {f : Nat × Operand → Nat × VV} {o : Nat × Operand} {os : List (Nat × Operand)} : (o :: os).map f = f o :: os.map f := rfl
theorem zaoa {f : Nat × Operand → Nat × VV} : ([] : List (Nat × Operand)).map f = [] := rfl
theorem zamh {f : VV → VV} : (x :: xs).map f = f x :: xs.map f := rfl
theorem zahi {f : VV → VV} : ([] : List VV).map f = [] := rfl
theorem zlz : (x :: xs) ++ ys = x :: (xs ++ ys) := rfl
theorem zhe : [] ++ ys = ys := rfl
theorem zami : (x :: xs).drop (i + 1) = xs.drop i := rfl
theorem zagu : xs.drop 0 = xs := by simp
theorem zaov : (x :: xs).take (i + 1) = x :: xs.take i := rfl
theorem zahp : xs.take 0 = [] := by simp
theorem zamu {o : VObj} : (some o).isSome = true := rfl
theorem m_nil : (([] : List Nat) = []) = True := by simp
theorem m_ne {a b : Bool} : (a ≠ b) = ¬ (a = b) := rfl
theorem m_neN {a b : Nat} : (a ≠ b) = ¬ (a = b) := rfl
end
def cr := (And.intro (And.intro (And.intro (And.intro (And.intro @zakd (And.intro @zapv @zakk)) (And.intro @zamr (And.intro @zany @zaof))) (And.intro (And.intro @zasr (And.intro @zarv @zang)) (And.intro (And.intro @zaqt @zanv) (And.intro @zaqx @zakz)))) (And.intro (And.intro (And.intro @zaqu (And.intro @zaoa @zamh)) (And.intro @zahi (And.intro @zlz @zhe))) (And.intro (And.intro @zami (And.intro @zagu @zaov)) (And.intro (And.intro @zahp @zamu) (And.intro @m_nil @m_ne))))) (And.intro (And.intro (And.intro (And.intro @m_neN (And.intro @Nat.zero_add @not_true_eq_false)) (And.intro @not_false_eq_true (And.intro @false_implies @true_implies))) (And.intro (And.intro @true_and (And.intro @and_true @false_and)) (And.intro (And.intro @and_false @Bool.false_eq_true) (And.intro @Bool.true_eq_false @Bool.not_true)))) (And.intro (And.intro (And.intro @Bool.not_false (And.intro @Bool.and_self @decide_true)) (And.intro (And.intro @decide_false @Nat.add_assoc) (And.intro @Nat.zero_mul @Nat.one_mul))) (And.intro (And.intro @Nat.zero_le (And.intro @true_or @or_true)) (And.intro (And.intro @false_or @or_false) (And.intro @not_true @not_false_iff))))))
def nrm := (And.intro (And.intro (And.intro (And.intro @zzn @zvv) (And.intro @zuq (And.intro @zaem @ztz))) (And.intro (And.intro @zkz @ztp) (And.intro @zgq (And.intro @zfy @eI_ok.normL)))) (And.intro (And.intro (And.intro @zagy.normL @eB_ok.normL) (And.intro @eS_ok.normL (And.intro @zaef @zajr))) (And.intro (And.intro @zaec (And.intro @zaea @eI_ok.showL)) (And.intro @zagy.showL (And.intro @eB_ok.showL @eS_ok.showL)))))
def tre := (And.intro (And.intro (And.intro @zvi @zrh) (And.intro @zaac (And.intro @zafv @zyv))) (And.intro (And.intro @zzc (And.intro @eI_ok.treeL @zagy.treeL)) (And.intro @eB_ok.treeL (And.intro @eS_ok.treeL @zaif))))
end Go.V
end
