/- Part of a proof. -/
import Derived.Test.YtekhjalgmlflpaaGreatDoorVba
set_option linter.all false
section
namespace Go.V
open Go
set_option linter.defProp false
section
variable {P : Program} {G : Glob} {n : Nat} {γ : Nat} {tm : Nat → VV} {H : Nat → Option VObj} {nx : Nat} {df : List VDef} {K : St → Prop} {Kd : List Nat → List Nat → St → Prop} {Qp : VV → St → Prop}
 {d : Option Tmp} {ty : TypeId} {pos : String} {af : Array Edge} {g : Option (Nat × Bool)}
section
variable {a b : Prop} {x y : VV} {k : VV → Prop}
theorem zagn : guardK (.lit (.bool true)) true a b = a := by simp [guardK]
theorem zagl : guardK (.lit (.bool true)) false a b = b := by simp [guardK]
theorem zahm : guardK (.lit (.bool false)) true a b = b := by simp [guardK]
theorem zags : guardK (.lit (.bool false)) false a b = a := by simp [guardK]
theorem zajx {w : Bool} : guardK (.lit undef) w a b = b := rfl
theorem zaol : pickK (.lit (.bool true)) x y k = k x := by simp [pickK]
theorem zany : pickK (.lit (.bool false)) x y k = k y := by simp [pickK]
theorem zarr : condK (.lit (.bool true)) a b = a := by simp [condK]
theorem zaoc : condK (.lit (.bool false)) a b = b := by simp [condK]
end
theorem zbp : leafL [] = true := rfl
theorem zbi {x : VV} {xs : List VV} : leafL (x :: xs) = (x.leaf && leafL xs) := rfl
theorem zabh {k : IntKind} {i : Int} : (VV.lit (.int k i)).leaf = true := rfl
theorem zyj {b : Bool} : (VV.lit (.bool b)).leaf = true := rfl
theorem zpn {b : ByteArray} : (VV.lit (.string b)).leaf = true := rfl
theorem zsj {b : Option Addr} {l c : Nat} : (VV.lit (.slice b l c)).leaf = true := rfl
theorem zaji {cs : List VV} {k : Nat} {f : Bool} : (VV.sl cs k f).leaf = true := rfl
theorem zamj {β o l e c : Nat} : (VV.ref β o l e c).leaf = true := rfl
theorem zgv {cs : List VV} : vcells (.agg cs) = if leafL cs = true then some cs else none := by simp only [vcells, zkp]
theorem vcells1 {x : VV} (h : x.leaf = true) : vcells x = some [x] := by
 cases x <;> first | rfl | (simp [vcells, h]; done) | cases h
theorem zaex {k : IntKind} {i : Int} : vcells (.lit (.int k i)) = some [.lit (.int k i)] := rfl
theorem zzg {b : Bool} : vcells (.lit (.bool b)) = some [.lit (.bool b)] := rfl
theorem zsv {b : ByteArray} : vcells (.lit (.string b)) = some [.lit (.string b)] := rfl
theorem zack {b : Option Addr} {l c : Nat} : vcells (.lit (.slice b l c)) = some [.lit (.slice b l c)] := rfl
theorem zaig {cs : List VV} {k : Nat} {f : Bool} : vcells (.sl cs k f) = some [.sl cs k f] := rfl
theorem zaby {β o l e c : Nat} : vcells (.ref β o l e c) = some [.ref β o l e c] := rfl
theorem zuy {cs xs : List VV} {off : Nat} : overwrite cs off xs = cs.take off ++ (xs ++ cs.drop (off + xs.length)) := by simp [overwrite, List.append_assoc]
def vzl (P : Program) (t : TypeId) : Option (List VV) := (vzero P t).map fun z => z.toList.map ofVal1
theorem zaae {t : TypeId} : bodyK P G γ ⟨d, .alloc t, ty, pos, af, g⟩ ⟨tm, H, nx, df⟩ K Qp = (match vzl P t with | some cs => fin d γ tm H nx df K (.ptr γ 0) (.new (.cells (some t) cs)) | none => False) := by
 rw [zaek]; unfold vzl; cases vzero P t <;> rfl
theorem zwa {t : TypeId} : dbodyK P G γ ⟨d, .alloc t, ty, pos, af, g⟩ ⟨tm, H, nx, df⟩ Kd = (match vzl P t with | some cs => fin d γ tm H nx df (Kd (rdV ⟨d, .alloc t, ty, pos, af, g⟩ (ev G tm)) [γ]) (.ptr γ 0) (.new (.cells (some t) cs)) | none => False) := by
 rw [zzd]; unfold vzl; cases vzero P t <;> rfl
def vstoreV (P : Program) (H : Nat → Option VObj) (t : TypeId) (a x : VV) : Option (VV × VEff) := match a with
  | .ptr β off => match H β, vcells x, szT P t with
   | some (.cells el cs), some xs, some n => if xs.length = n ∧ off + n ≤ cs.length then some (.any, .upd β (.cells el (overwrite cs off xs))) else none
   | _, _, _ => none
  | _ => none
theorem zzq {t : TypeId} {a x : Operand} : bodyK P G γ ⟨d, .store t a x, ty, pos, af, g⟩ ⟨tm, H, nx, df⟩ K Qp = oeK (vstoreV P H t (ev G tm a) (ev G tm x)) (fun y e => fin d γ tm H nx df K y e) := by
 rw [zaff]; rfl
theorem zzz {t : TypeId} {x : VV} {β off : Nat} : vstoreV P H t (.ptr β off) x = (match H β, vcells x, szT P t with
   | some (.cells el cs), some xs, some n => if xs.length = n ∧ off + n ≤ cs.length then some (.any, .upd β (.cells el (overwrite cs off xs))) else none
   | _, _, _ => none) := rfl
end
def eI (n : Int) : List VV := [.lit (.int .i64 n)]
def eU8 (n : Int) : List VV := [.lit (.int .u8 n)]
def eB (b : Bool) : List VV := [.lit (.bool b)]
def eS (s : ByteArray) : List VV := [.lit (.string s)]
def eSl {α : Type} (enc : α → List VV) (xs : List α) : List VV := [.sl (cellsL enc xs) xs.length false]
theorem eI_eq {n : Int} : eI n = [.lit (.int .i64 n)] := rfl
theorem zasf {n : Int} : eU8 n = [.lit (.int .u8 n)] := rfl
theorem eB_eq {b : Bool} : eB b = [.lit (.bool b)] := rfl
theorem eS_eq {s : ByteArray} : eS s = [.lit (.string s)] := rfl
theorem zaon {α : Type} {enc : α → List VV} {xs : List α} : eSl enc xs = [.sl (cellsL enc xs) xs.length false] := rfl
structure EncOk {α : Type} (enc : α → List VV) : Prop where
 tree : ∀ x, treeL (enc x) = true
 norm : ∀ x, normL (enc x) = enc x
 shown : ∀ x H d, (enc x).map (showV H d) = enc x
theorem eI_ok : EncOk eI := ⟨fun _ => rfl, fun _ => rfl, fun _ _ d => by cases d <;> rfl⟩
theorem zakx : EncOk eU8 := ⟨fun _ => rfl, fun _ => rfl, fun _ _ d => by cases d <;> rfl⟩
theorem eB_ok : EncOk eB := ⟨fun _ => rfl, fun _ => rfl, fun _ _ d => by cases d <;> rfl⟩
theorem eS_ok : EncOk eS := ⟨fun _ => rfl, fun _ => rfl, fun _ _ d => by cases d <;> rfl⟩
section
variable {α : Type} {enc : α → List VV} (h : EncOk enc)
include h
theorem EncOk.treeL (xs : List α) : Go.V.treeL (cellsL enc xs) = true := zkj h.tree xs
theorem EncOk.normL (xs : List α) : Go.V.normL (cellsL enc xs) = cellsL enc xs := zkk h.norm xs
theorem EncOk.showL (xs : List α) (H : Nat → Option VObj) (d : Nat) : (cellsL enc xs).map (showV H d) = cellsL enc xs := zty (fun x => h.shown x H d) xs
theorem EncOk.sl : EncOk (eSl enc) := ⟨fun x => by simp [eSl, Go.V.treeL, VV.tree, h.treeL], fun x => by simp [eSl, Go.V.normL, normV, h.normL], fun x H d => by cases d <;> rfl⟩
end
theorem EncOk.of {α : Type} {enc : α → List VV} (h1 : ∀ x, Go.V.treeL (enc x) = true) (h2 : ∀ x, Go.V.normL (enc x) = enc x) (h3 : ∀ x H d, (enc x).map (showV H d) = enc x) : EncOk enc := ⟨h1, h2, h3⟩
theorem zagf {H : Nat → Option VObj} {d : Nat} {v : Value} : showV H d (.lit v) = .lit v := by cases d <;> rfl
theorem zamt {H : Nat → Option VObj} {d n : Nat} {cs : List VV} {f : Bool} : showV H d (.sl cs n f) = .sl cs n f := by cases d <;> rfl
theorem zak {H : Nat → Option VObj} {d β off len es cp : Nat} : showV H (d + 1) (.ref β off len es cp) = (match H β with
   | some (.cells _ cs) => if off ≤ cs.length then .sl (((cs.drop off).take (len * es)).map (showV H d)) len false else .ref β off len es cp
   | _ => .ref β off len es cp) := rfl
theorem zaih {H : Nat → Option VObj} {d : Nat} {cs : List VV} : showV H (d + 1) (.agg cs) = .agg (cs.map (showV H d)) := rfl
theorem zahc {H : Nat → Option VObj} {d : Nat} {cs : List VV} : showV H (d + 1) (.tup cs) = .tup (cs.map (showV H d)) := rfl
theorem zacl {cs : List VV} {n : Nat} {f : Bool} : normV (.sl cs n f) = .sl (normL cs) n false := by simp [normV]
theorem zyf : normV (.lit (.slice none 0 0)) = .sl [] 0 false := by simp [normV]
theorem zxf {cs : List VV} : normV (.agg cs) = .agg (normL cs) := by simp [normV]
theorem zair {cs : List VV} : normV (.tup cs) = .tup (normL cs) := by simp [normV]
theorem zxd {k : IntKind} {n : Int} : normV (.lit (.int k n)) = .lit (.int k n) := by simp [normV]
theorem ztu {b : Bool} : normV (.lit (.bool b)) = .lit (.bool b) := by simp [normV]
theorem zvy {b : ByteArray} : normV (.lit (.string b)) = .lit (.string b) := by simp [normV]
theorem zim : normL [] = [] := rfl
theorem zgw {x : VV} {xs : List VV} : normL (x :: xs) = normV x :: normL xs := by simp [normL]
theorem zalt : VV.tree .any = true := rfl
def vs := (And.intro (And.intro (And.intro (And.intro (And.intro (And.intro (And.intro @zaqk @zacn) (And.intro @zans @zaln)) (And.intro (And.intro @zamw @zagw) (And.intro @zalz @zzp))) (And.intro (And.intro (And.intro @zamx @zahj) (And.intro @zvv @zadz)) (And.intro (And.intro @zaij @zanh) (And.intro @zagr @zanf)))) (And.intro (And.intro (And.intro (And.intro @zalu @zapd) (And.intro @zvs @zais)) (And.intro (And.intro @zaai @zalc) (And.intro @zapa @zahr))) (And.intro (And.intro (And.intro @zail @zqu) (And.intro @zamu @zhw)) (And.intro (And.intro @zkv @zwh) (And.intro @zams (And.intro @znv @zahg)))))) (And.intro (And.intro (And.intro (And.intro (And.intro @zarp @ziw) (And.intro @zfc @zapb)) (And.intro (And.intro @zaof @zapy) (And.intro @zatg @zaoo))) (And.intro (And.intro (And.intro @zamg @argsTm1) (And.intro @argsTm2 @zaal)) (And.intro (And.intro @zabi @zzm) (And.intro @zafv (And.intro @zado @zvn))))) (And.intro (And.intro (And.intro (And.intro @zabv @zabq) (And.intro @zpa @zzs)) (And.intro (And.intro @zoz @zyz) (And.intro @zagt @zame))) (And.intro (And.intro (And.intro @zzi @zagg) (And.intro @ztj @zacq)) (And.intro (And.intro @zrg @zaem) (And.intro @zuh (And.intro @zaba @zwn))))))) (And.intro (And.intro (And.intro (And.intro (And.intro (And.intro @zaou @zaor) (And.intro @zaoq @zanu)) (And.intro (And.intro @zarn @zapp) (And.intro @argsTm3 @argsTm4))) (And.intro (And.intro (And.intro @argsTm5 @zajt) (And.intro @zadk @zacw)) (And.intro (And.intro @zaeo @zaah) (And.intro @zakq (And.intro @zaho @zagn))))) (And.intro (And.intro (And.intro (And.intro @zagl @zahm) (And.intro @zags @zajx)) (And.intro (And.intro @zaol @zany) (And.intro @zarr @zaoc))) (And.intro (And.intro (And.intro @zafs @zaab) (And.intro @zaef @zqr)) (And.intro (And.intro @zzq @zzz) (And.intro @zaae (And.intro @zaks @zbp)))))) (And.intro (And.intro (And.intro (And.intro (And.intro @zbi @zabh) (And.intro @zyj @zpn)) (And.intro (And.intro @zsj @zaji) (And.intro @zamj @zgv))) (And.intro (And.intro (And.intro @zaex @zzg) (And.intro @zsv @zack)) (And.intro (And.intro @zaig @zaby) (And.intro @zuy (And.intro @zox @zwa))))) (And.intro (And.intro (And.intro (And.intro @zahh @znd) (And.intro @zuu @zaak)) (And.intro (And.intro @zov @zapt) (And.intro @zaoj @zavq))) (And.intro (And.intro (And.intro @zawa @zzb) (And.intro @zapv @zaa)) (And.intro (And.intro @zar @zaco) (And.intro @zyw (And.intro @zcc @zax))))))))
section
variable {i : Nat} {a : Oper} {l : List Oper} {x : VV} {xs ys : List VV}
theorem zarm : (a :: l)[i + 1]? = l[i]? := rfl
theorem zaqr : (a :: l)[0]? = some a := rfl
theorem zash : (x :: xs)[i + 1]? = xs[i]? := rfl
theorem zarq : (x :: xs)[0]? = some x := rfl
theorem zapq {f : Oper → Option Tmp} : (some a).bind f = f a := rfl
theorem zanw {f : List VV → Option VV} : (some xs).bind f = f xs := rfl
theorem zawi {f : VV → VV} : (some x).map f = some (f x) := rfl
theorem zasq : (a :: l).length = l.length + 1 := rfl
theorem zaov : ([] : List Oper).length = 0 := rfl
theorem zauw : (x :: xs).length = xs.length + 1 := rfl
theorem zaqp : ([] : List VV).length = 0 := rfl
theorem zaug {f : Operand → VV} {o : Operand} {os : List Operand} : (o :: os).map f = f o :: os.map f := rfl
theorem zaqt {f : Operand → VV} : ([] : List Operand).map f = [] := rfl
theorem zass {f : Nat × Operand → Nat × VV} {o : Nat × Operand} {os : List (Nat × Operand)} : (o :: os).map f = f o :: os.map f := rfl
theorem zaqb {f : Nat × Operand → Nat × VV} : ([] : List (Nat × Operand)).map f = [] := rfl
theorem zasg {f : VV → VV} : (x :: xs).map f = f x :: xs.map f := rfl
theorem zanl {f : VV → VV} : ([] : List VV).map f = [] := rfl
theorem zsd : (x :: xs) ++ ys = x :: (xs ++ ys) := rfl
theorem zmh : [] ++ ys = ys := rfl
theorem zara : (x :: xs).drop (i + 1) = xs.drop i := rfl
theorem zakw : xs.drop 0 = xs := by simp
theorem zanx : (x :: xs).take (i + 1) = x :: xs.take i := rfl
theorem zamm : xs.take 0 = [] := by simp
theorem zapu {o : VObj} : (some o).isSome = true := rfl
theorem m_nil : (([] : List Nat) = []) = True := by simp
theorem m_ne {a b : Bool} : (a ≠ b) = ¬ (a = b) := rfl
theorem m_neN {a b : Nat} : (a ≠ b) = ¬ (a = b) := rfl
end
def cr := (And.intro (And.intro (And.intro (And.intro (And.intro @zarm (And.intro @zaqr @zash)) (And.intro @zarq (And.intro @zapq @zanw))) (And.intro (And.intro @zawi (And.intro @zasq @zaov)) (And.intro (And.intro @zauw @zaqp) (And.intro @zaug @zaqt)))) (And.intro (And.intro (And.intro @zass (And.intro @zaqb @zasg)) (And.intro @zanl (And.intro @zsd @zmh))) (And.intro (And.intro @zara (And.intro @zakw @zanx)) (And.intro (And.intro @zamm @zapu) (And.intro @m_nil @m_ne))))) (And.intro (And.intro (And.intro (And.intro @m_neN (And.intro @Nat.zero_add @not_true_eq_false)) (And.intro @not_false_eq_true (And.intro @false_implies @true_implies))) (And.intro (And.intro @true_and (And.intro @and_true @false_and)) (And.intro (And.intro @and_false @Bool.false_eq_true) (And.intro @Bool.true_eq_false @Bool.not_true)))) (And.intro (And.intro (And.intro @Bool.not_false (And.intro @Bool.and_self @decide_true)) (And.intro (And.intro @decide_false @Nat.add_assoc) (And.intro @Nat.zero_mul @Nat.one_mul))) (And.intro (And.intro @Nat.zero_le (And.intro @true_or @or_true)) (And.intro (And.intro @false_or @or_false) (And.intro @not_true @not_false_iff))))))
def nrm := (And.intro (And.intro (And.intro (And.intro @zacl @zyf) (And.intro @zxf (And.intro @zair @zxd))) (And.intro (And.intro @ztu @zvy) (And.intro @zim (And.intro @zgw @eI_ok.normL)))) (And.intro (And.intro (And.intro @zakx.normL @eB_ok.normL) (And.intro @eS_ok.normL (And.intro @zagf @zamt))) (And.intro (And.intro @zaih (And.intro @zahc @eI_ok.showL)) (And.intro @zakx.showL (And.intro @eB_ok.showL @eS_ok.showL)))))
def tre := (And.intro (And.intro (And.intro @zkv @zhw) (And.intro @zwh (And.intro @zajt @zadk))) (And.intro (And.intro @zacw (And.intro @eI_ok.treeL @zakx.treeL)) (And.intro @eB_ok.treeL (And.intro @eS_ok.treeL @zalt))))
end Go.V
end
