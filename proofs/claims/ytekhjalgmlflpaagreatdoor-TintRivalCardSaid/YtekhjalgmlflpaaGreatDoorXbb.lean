/- Part of a proof. -/
import Derived.Test.YtekhjalgmlflpaaGreatDoorXba
set_option linter.all false
section
namespace Go.V
open Go
set_option linter.defProp false
section
variable {P : Program} {G : Glob} {n : Nat} {γ : Nat} {tm : Nat → VV} {H : Nat → Option VObj} {nx : Nat} {df : List VDef} {K : St → Prop} {Kd : List Nat → List Nat → St → Prop} {Qp : VV → St → Prop}
 {d : Option Tmp} {ty : TypeId} {pos : String} {af : Array Edge} {g : Option (Nat × Bool)}
section
variable {a b : Prop} {x y : VV} {k : VV → Prop}
theorem zafy : guardK (.lit (.bool true)) true a b = a := by simp [guardK]
theorem zafr : guardK (.lit (.bool true)) false a b = b := by simp [guardK]
theorem zahd : guardK (.lit (.bool false)) true a b = b := by simp [guardK]
theorem zagd : guardK (.lit (.bool false)) false a b = a := by simp [guardK]
theorem zakt {w : Bool} : guardK (.lit undef) w a b = b := rfl
theorem zaps : pickK (.lit (.bool true)) x y k = k x := by simp [pickK]
theorem zaok : pickK (.lit (.bool false)) x y k = k y := by simp [pickK]
theorem zaoj : condK (.lit (.bool true)) a b = a := by simp [condK]
theorem zaqg : condK (.lit (.bool false)) a b = b := by simp [condK]
end
theorem zem : leafL [] = true := rfl
theorem zdo {x : VV} {xs : List VV} : leafL (x :: xs) = (x.leaf && leafL xs) := rfl
theorem zaaz {k : IntKind} {i : Int} : (VV.lit (.int k i)).leaf = true := rfl
theorem zaha {b : Bool} : (VV.lit (.bool b)).leaf = true := rfl
theorem zyu {b : ByteArray} : (VV.lit (.string b)).leaf = true := rfl
theorem zty {b : Option Addr} {l c : Nat} : (VV.lit (.slice b l c)).leaf = true := rfl
theorem zaib {cs : List VV} {k : Nat} {f : Bool} : (VV.sl cs k f).leaf = true := rfl
theorem zakf {β o l e c : Nat} : (VV.ref β o l e c).leaf = true := rfl
theorem zoj {cs : List VV} : vcells (.agg cs) = if leafL cs = true then some cs else none := by simp only [vcells, zkw]
theorem vcells1 {x : VV} (h : x.leaf = true) : vcells x = some [x] := by
 cases x <;> first | rfl | (simp [vcells, h]; done) | cases h
theorem zada {k : IntKind} {i : Int} : vcells (.lit (.int k i)) = some [.lit (.int k i)] := rfl
theorem zzs {b : Bool} : vcells (.lit (.bool b)) = some [.lit (.bool b)] := rfl
theorem zaci {b : Option Addr} {l c : Nat} : vcells (.lit (.slice b l c)) = some [.lit (.slice b l c)] := rfl
theorem zahy {cs : List VV} {k : Nat} {f : Bool} : vcells (.sl cs k f) = some [.sl cs k f] := rfl
theorem zaan {β o l e c : Nat} : vcells (.ref β o l e c) = some [.ref β o l e c] := rfl
theorem zus {cs xs : List VV} {off : Nat} : overwrite cs off xs = cs.take off ++ (xs ++ cs.drop (off + xs.length)) := by simp [overwrite, List.append_assoc]
def vzl (P : Program) (t : TypeId) : Option (List VV) := (vzero P t).map fun z => z.toList.map ofVal1
theorem zaae {t : TypeId} : bodyK P G γ ⟨d, .alloc t, ty, pos, af, g⟩ ⟨tm, H, nx, df⟩ K Qp = (match vzl P t with | some cs => fin d γ tm H nx df K (.ptr γ 0) (.new (.cells (some t) cs)) | none => False) := by
 rw [zacz]; unfold vzl; cases vzero P t <;> rfl
theorem zvu {t : TypeId} : dbodyK P G γ ⟨d, .alloc t, ty, pos, af, g⟩ ⟨tm, H, nx, df⟩ Kd = (match vzl P t with | some cs => fin d γ tm H nx df (Kd (rdV ⟨d, .alloc t, ty, pos, af, g⟩ (ev G tm)) [γ]) (.ptr γ 0) (.new (.cells (some t) cs)) | none => False) := by
 rw [zzh]; unfold vzl; cases vzero P t <;> rfl
def vstoreV (P : Program) (H : Nat → Option VObj) (t : TypeId) (a x : VV) : Option (VV × VEff) := match a with
  | .ptr β off => match H β, vcells x, szT P t with
   | some (.cells el cs), some xs, some n => if xs.length = n ∧ off + n ≤ cs.length then some (.any, .upd β (.cells el (overwrite cs off xs))) else none
   | _, _, _ => none
  | _ => none
theorem zzg {t : TypeId} {a x : Operand} : bodyK P G γ ⟨d, .store t a x, ty, pos, af, g⟩ ⟨tm, H, nx, df⟩ K Qp = oeK (vstoreV P H t (ev G tm a) (ev G tm x)) (fun y e => fin d γ tm H nx df K y e) := by
 rw [zacn]; rfl
theorem zzk {t : TypeId} {x : VV} {β off : Nat} : vstoreV P H t (.ptr β off) x = (match H β, vcells x, szT P t with
   | some (.cells el cs), some xs, some n => if xs.length = n ∧ off + n ≤ cs.length then some (.any, .upd β (.cells el (overwrite cs off xs))) else none
   | _, _, _ => none) := rfl
end
def eI (n : Int) : List VV := [.lit (.int .i64 n)]
def eU8 (n : Int) : List VV := [.lit (.int .u8 n)]
def eB (b : Bool) : List VV := [.lit (.bool b)]
def eS (s : ByteArray) : List VV := [.lit (.string s)]
def eSl {α : Type} (enc : α → List VV) (xs : List α) : List VV := [.sl (cellsL enc xs) xs.length false]
theorem eI_eq {n : Int} : eI n = [.lit (.int .i64 n)] := rfl
theorem zaox {n : Int} : eU8 n = [.lit (.int .u8 n)] := rfl
theorem eB_eq {b : Bool} : eB b = [.lit (.bool b)] := rfl
theorem eS_eq {s : ByteArray} : eS s = [.lit (.string s)] := rfl
theorem zapj {α : Type} {enc : α → List VV} {xs : List α} : eSl enc xs = [.sl (cellsL enc xs) xs.length false] := rfl
structure EncOk {α : Type} (enc : α → List VV) : Prop where
 tree : ∀ x, treeL (enc x) = true
 norm : ∀ x, normL (enc x) = enc x
 shown : ∀ x H d, (enc x).map (showV H d) = enc x
theorem eI_ok : EncOk eI := ⟨fun _ => rfl, fun _ => rfl, fun _ _ d => by cases d <;> rfl⟩
theorem zakg : EncOk eU8 := ⟨fun _ => rfl, fun _ => rfl, fun _ _ d => by cases d <;> rfl⟩
theorem eB_ok : EncOk eB := ⟨fun _ => rfl, fun _ => rfl, fun _ _ d => by cases d <;> rfl⟩
theorem eS_ok : EncOk eS := ⟨fun _ => rfl, fun _ => rfl, fun _ _ d => by cases d <;> rfl⟩
section
variable {α : Type} {enc : α → List VV} (h : EncOk enc)
include h
theorem EncOk.treeL (xs : List α) : Go.V.treeL (cellsL enc xs) = true := zkk h.tree xs
theorem EncOk.normL (xs : List α) : Go.V.normL (cellsL enc xs) = cellsL enc xs := zkm h.norm xs
theorem EncOk.showL (xs : List α) (H : Nat → Option VObj) (d : Nat) : (cellsL enc xs).map (showV H d) = cellsL enc xs := zug (fun x => h.shown x H d) xs
theorem EncOk.sl : EncOk (eSl enc) := ⟨fun x => by simp [eSl, Go.V.treeL, VV.tree, h.treeL], fun x => by simp [eSl, Go.V.normL, normV, h.normL], fun x H d => by cases d <;> rfl⟩
end
theorem EncOk.of {α : Type} {enc : α → List VV} (h1 : ∀ x, Go.V.treeL (enc x) = true) (h2 : ∀ x, Go.V.normL (enc x) = enc x) (h3 : ∀ x H d, (enc x).map (showV H d) = enc x) : EncOk enc := ⟨h1, h2, h3⟩
theorem zahi {H : Nat → Option VObj} {d : Nat} {v : Value} : showV H d (.lit v) = .lit v := by cases d <;> rfl
theorem zamw {H : Nat → Option VObj} {d n : Nat} {cs : List VV} {f : Bool} : showV H d (.sl cs n f) = .sl cs n f := by cases d <;> rfl
theorem zak {H : Nat → Option VObj} {d β off len es cp : Nat} : showV H (d + 1) (.ref β off len es cp) = (match H β with
   | some (.cells _ cs) => if off ≤ cs.length then .sl (((cs.drop off).take (len * es)).map (showV H d)) len false else .ref β off len es cp
   | _ => .ref β off len es cp) := rfl
theorem zagk {H : Nat → Option VObj} {d : Nat} {cs : List VV} : showV H (d + 1) (.agg cs) = .agg (cs.map (showV H d)) := rfl
theorem zahm {H : Nat → Option VObj} {d : Nat} {cs : List VV} : showV H (d + 1) (.tup cs) = .tup (cs.map (showV H d)) := rfl
theorem zaaq {cs : List VV} {n : Nat} {f : Bool} : normV (.sl cs n f) = .sl (normL cs) n false := by simp [normV]
theorem zyf : normV (.lit (.slice none 0 0)) = .sl [] 0 false := by simp [normV]
theorem zxv {cs : List VV} : normV (.agg cs) = .agg (normL cs) := by simp [normV]
theorem zafj {cs : List VV} : normV (.tup cs) = .tup (normL cs) := by simp [normV]
theorem zya {k : IntKind} {n : Int} : normV (.lit (.int k n)) = .lit (.int k n) := by simp [normV]
theorem zsd {b : Bool} : normV (.lit (.bool b)) = .lit (.bool b) := by simp [normV]
theorem zur {b : ByteArray} : normV (.lit (.string b)) = .lit (.string b) := by simp [normV]
theorem zie : normL [] = [] := rfl
theorem zgz {x : VV} {xs : List VV} : normL (x :: xs) = normV x :: normL xs := by simp [normL]
theorem zald : VV.tree .any = true := rfl
def vs := (And.intro (And.intro (And.intro (And.intro (And.intro (And.intro @zanw (And.intro @zacf @zaqr)) (And.intro (And.intro @zakq @zajq) (And.intro @zafg @zajj))) (And.intro (And.intro (And.intro @zze @zamc) (And.intro @zahf @zwb)) (And.intro (And.intro @zabq @zafu) (And.intro @zajg @zagp)))) (And.intro (And.intro (And.intro @zakv (And.intro @zamf @zaqp)) (And.intro (And.intro @zafo @zzi) (And.intro @zalh @zaoy))) (And.intro (And.intro (And.intro @zafl @zafi) (And.intro @zqw @zalm)) (And.intro (And.intro @zhd @zjw) (And.intro @zvj @zamk))))) (And.intro (And.intro (And.intro (And.intro @zmo (And.intro @zafn @zaoc)) (And.intro (And.intro @zis @zev) (And.intro @zaqt @zano))) (And.intro (And.intro (And.intro @zapw @zare) (And.intro @zaqo @zalp)) (And.intro (And.intro @argsTm1 @argsTm2) (And.intro @zzc @zaev)))) (And.intro (And.intro (And.intro (And.intro @zaaf @zahu) (And.intro @zabl @zvr)) (And.intro (And.intro @zaem @zaap) (And.intro @zpe @zaah))) (And.intro (And.intro (And.intro @zpb @zaad) (And.intro @zagh @zalq)) (And.intro (And.intro @zaaa @zago) (And.intro @zaet @zre)))))) (And.intro (And.intro (And.intro (And.intro (And.intro @zadc (And.intro @zacw @zvd)) (And.intro (And.intro @zaov @zanv) (And.intro @zaog @zapq))) (And.intro (And.intro (And.intro @zaoq @zapl) (And.intro @argsTm3 @argsTm4)) (And.intro (And.intro @zaii @zadm) (And.intro @zadf @zabp)))) (And.intro (And.intro (And.intro @zaak (And.intro @zalx @zahk)) (And.intro (And.intro @zafy @zafr) (And.intro @zahd @zagd))) (And.intro (And.intro (And.intro @zakt @zaps) (And.intro @zaok @zaoj)) (And.intro (And.intro @zaqg @zaga) (And.intro @zaaj @zaeu))))) (And.intro (And.intro (And.intro (And.intro @zzg (And.intro @zzk @zaae)) (And.intro (And.intro @zajz @zem) (And.intro @zdo @zaaz))) (And.intro (And.intro (And.intro @zty @zaib) (And.intro @zakf @zoj)) (And.intro (And.intro @zada @zzs) (And.intro @zaci @zahy)))) (And.intro (And.intro (And.intro (And.intro @zaan @zus) (And.intro @zpg @zvu)) (And.intro (And.intro @zne @zvz) (And.intro @zaor @zanr))) (And.intro (And.intro (And.intro @zarp @zaab) (And.intro @zac @zas)) (And.intro (And.intro @zadq @zaac) (And.intro @zbz @zba)))))))
section
variable {i : Nat} {a : Oper} {l : List Oper} {x : VV} {xs ys : List VV}
theorem zant : (a :: l)[i + 1]? = l[i]? := rfl
theorem zaod : (a :: l)[0]? = some a := rfl
theorem zaql : (x :: xs)[i + 1]? = xs[i]? := rfl
theorem zapr : (x :: xs)[0]? = some x := rfl
theorem zapz {f : Oper → Option Tmp} : (some a).bind f = f a := rfl
theorem zaqk {f : List VV → Option VV} : (some xs).bind f = f xs := rfl
theorem zatb : (a :: l).length = l.length + 1 := rfl
theorem zapo : ([] : List Oper).length = 0 := rfl
theorem zark : (x :: xs).length = xs.length + 1 := rfl
theorem zaph : ([] : List VV).length = 0 := rfl
theorem zasr {f : Operand → VV} {o : Operand} {os : List Operand} : (o :: os).map f = f o :: os.map f := rfl
theorem zaom {f : Operand → VV} : ([] : List Operand).map f = [] := rfl
theorem zaro {f : Nat × Operand → Nat × VV} {o : Nat × Operand} {os : List (Nat × Operand)} : (o :: os).map f = f o :: os.map f := rfl
theorem zany {f : Nat × Operand → Nat × VV} : ([] : List (Nat × Operand)).map f = [] := rfl
theorem zapy {f : VV → VV} : (x :: xs).map f = f x :: xs.map f := rfl
theorem zajr {f : VV → VV} : ([] : List VV).map f = [] := rfl
theorem zsg : (x :: xs) ++ ys = x :: (xs ++ ys) := rfl
theorem zmf : [] ++ ys = ys := rfl
theorem zaqn : (x :: xs).drop (i + 1) = xs.drop i := rfl
theorem zala : xs.drop 0 = xs := by simp
theorem zaqb : (x :: xs).take (i + 1) = x :: xs.take i := rfl
theorem zaju : xs.take 0 = [] := by simp
theorem zapf {o : VObj} : (some o).isSome = true := rfl
end
def cr := (And.intro (And.intro (And.intro (And.intro (And.intro @zant @zaod) (And.intro @zaql @zapr)) (And.intro (And.intro @zapz @zaqk) (And.intro @zatb @zapo))) (And.intro (And.intro (And.intro @zark @zaph) (And.intro @zasr @zaom)) (And.intro (And.intro @zaro @zany) (And.intro @zapy @zajr)))) (And.intro (And.intro (And.intro (And.intro @zsg @zmf) (And.intro @zaqn @zala)) (And.intro (And.intro @zaqb @zaju) (And.intro @zapf @Nat.zero_add))) (And.intro (And.intro (And.intro @true_and @and_true) (And.intro @Bool.not_true @Bool.not_false)) (And.intro (And.intro @Bool.and_self @decide_true) (And.intro @decide_false (And.intro @Nat.add_assoc @Nat.zero_le))))))
def nrm := (And.intro (And.intro (And.intro (And.intro @zaaq @zyf) (And.intro @zxv (And.intro @zafj @zya))) (And.intro (And.intro @zsd @zur) (And.intro @zie (And.intro @zgz @eI_ok.normL)))) (And.intro (And.intro (And.intro @zakg.normL @eB_ok.normL) (And.intro @eS_ok.normL (And.intro @zahi @zamw))) (And.intro (And.intro @zagk (And.intro @zahm @eI_ok.showL)) (And.intro @zakg.showL (And.intro @eB_ok.showL @eS_ok.showL)))))
def tre := (And.intro (And.intro (And.intro @zjw @zhd) (And.intro @zvj (And.intro @zaii @zadm))) (And.intro (And.intro @zadf (And.intro @eI_ok.treeL @zakg.treeL)) (And.intro @eB_ok.treeL (And.intro @eS_ok.treeL @zald))))
end Go.V
end
