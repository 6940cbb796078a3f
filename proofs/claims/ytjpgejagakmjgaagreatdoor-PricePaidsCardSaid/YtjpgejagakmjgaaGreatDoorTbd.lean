/- Part of a proof. -/
import Derived.Test.YtjpgejagakmjgaaGreatDoorTbc
set_option linter.all false
section
namespace Go.V
open Go
set_option linter.defProp false
section
variable {P : Program} {G : Glob} {n : Nat} {γ : Nat} {tm : Nat → VV} {H : Nat → Option VObj} {nx : Nat} {df : List VDef} {K : St → Prop} {Kd : List Nat → List Nat → St → Prop} {Qp : VV → St → Prop}
 {d : Option Tmp} {ty : TypeId} {pos : String} {af : Array Edge} {g : Option (Nat × Bool)}
section
variable {a b : Prop} {x y : VV} {k : VV → Prop}
theorem zafs : guardK (.lit (.bool true)) true a b = a := by simp [guardK]
theorem zagg : guardK (.lit (.bool true)) false a b = b := by simp [guardK]
theorem zaev : guardK (.lit (.bool false)) true a b = b := by simp [guardK]
theorem zads : guardK (.lit (.bool false)) false a b = a := by simp [guardK]
theorem zalf {w : Bool} : guardK (.lit undef) w a b = b := rfl
theorem zanv : pickK (.lit (.bool true)) x y k = k x := by simp [pickK]
theorem zapd : pickK (.lit (.bool false)) x y k = k y := by simp [pickK]
theorem zaoy : condK (.lit (.bool true)) a b = a := by simp [condK]
theorem zane : condK (.lit (.bool false)) a b = b := by simp [condK]
end
theorem zbw : leafL [] = true := rfl
theorem zbm {x : VV} {xs : List VV} : leafL (x :: xs) = (x.leaf && leafL xs) := rfl
theorem zzq {k : IntKind} {i : Int} : (VV.lit (.int k i)).leaf = true := rfl
theorem zwj {b : Bool} : (VV.lit (.bool b)).leaf = true := rfl
theorem zof {b : ByteArray} : (VV.lit (.string b)).leaf = true := rfl
theorem zrf {b : Option Addr} {l c : Nat} : (VV.lit (.slice b l c)).leaf = true := rfl
theorem zahj {cs : List VV} {k : Nat} {f : Bool} : (VV.sl cs k f).leaf = true := rfl
theorem zahz {β o l e c : Nat} : (VV.ref β o l e c).leaf = true := rfl
theorem zhu {cs : List VV} : vcells (.agg cs) = if leafL cs = true then some cs else none := by simp only [vcells, zjq]
theorem vcells1 {x : VV} (h : x.leaf = true) : vcells x = some [x] := by
 cases x <;> first | rfl | (simp [vcells, h]; done) | cases h
theorem zade {k : IntKind} {i : Int} : vcells (.lit (.int k i)) = some [.lit (.int k i)] := rfl
theorem zyk {b : Bool} : vcells (.lit (.bool b)) = some [.lit (.bool b)] := rfl
theorem zqs {b : ByteArray} : vcells (.lit (.string b)) = some [.lit (.string b)] := rfl
theorem zacb {b : Option Addr} {l c : Nat} : vcells (.lit (.slice b l c)) = some [.lit (.slice b l c)] := rfl
theorem zafu {cs : List VV} {k : Nat} {f : Bool} : vcells (.sl cs k f) = some [.sl cs k f] := rfl
theorem zacc {β o l e c : Nat} : vcells (.ref β o l e c) = some [.ref β o l e c] := rfl
theorem zul {cs xs : List VV} {off : Nat} : overwrite cs off xs = cs.take off ++ (xs ++ cs.drop (off + xs.length)) := by simp [overwrite, List.append_assoc]
def vzl (P : Program) (t : TypeId) : Option (List VV) := (vzero P t).map fun z => z.toList.map ofVal1
theorem zyx {t : TypeId} : bodyK P G γ ⟨d, .alloc t, ty, pos, af, g⟩ ⟨tm, H, nx, df⟩ K Qp = (match vzl P t with | some cs => fin d γ tm H nx df K (.ptr γ 0) (.new (.cells (some t) cs)) | none => False) := by
 rw [zabw]; unfold vzl; cases vzero P t <;> rfl
theorem zuh {t : TypeId} : dbodyK P G γ ⟨d, .alloc t, ty, pos, af, g⟩ ⟨tm, H, nx, df⟩ Kd = (match vzl P t with | some cs => fin d γ tm H nx df (Kd (rdV ⟨d, .alloc t, ty, pos, af, g⟩ (ev G tm)) [γ]) (.ptr γ 0) (.new (.cells (some t) cs)) | none => False) := by
 rw [zxo]; unfold vzl; cases vzero P t <;> rfl
def vstoreV (P : Program) (H : Nat → Option VObj) (t : TypeId) (a x : VV) : Option (VV × VEff) := match a with
  | .ptr β off => match H β, vcells x, szT P t with
   | some (.cells el cs), some xs, some n => if xs.length = n ∧ off + n ≤ cs.length then some (.any, .upd β (.cells el (overwrite cs off xs))) else none
   | _, _, _ => none
  | _ => none
theorem zxp {t : TypeId} {a x : Operand} : bodyK P G γ ⟨d, .store t a x, ty, pos, af, g⟩ ⟨tm, H, nx, df⟩ K Qp = oeK (vstoreV P H t (ev G tm a) (ev G tm x)) (fun y e => fin d γ tm H nx df K y e) := by
 rw [zabj]; rfl
theorem zym {t : TypeId} {x : VV} {β off : Nat} : vstoreV P H t (.ptr β off) x = (match H β, vcells x, szT P t with
   | some (.cells el cs), some xs, some n => if xs.length = n ∧ off + n ≤ cs.length then some (.any, .upd β (.cells el (overwrite cs off xs))) else none
   | _, _, _ => none) := rfl
end
def eI (n : Int) : List VV := [.lit (.int .i64 n)]
def eU8 (n : Int) : List VV := [.lit (.int .u8 n)]
def eB (b : Bool) : List VV := [.lit (.bool b)]
def eS (s : ByteArray) : List VV := [.lit (.string s)]
def eSl {α : Type} (enc : α → List VV) (xs : List α) : List VV := [.sl (cellsL enc xs) xs.length false]
theorem eI_eq {n : Int} : eI n = [.lit (.int .i64 n)] := rfl
theorem zara {n : Int} : eU8 n = [.lit (.int .u8 n)] := rfl
theorem eB_eq {b : Bool} : eB b = [.lit (.bool b)] := rfl
theorem eS_eq {s : ByteArray} : eS s = [.lit (.string s)] := rfl
theorem zarf {α : Type} {enc : α → List VV} {xs : List α} : eSl enc xs = [.sl (cellsL enc xs) xs.length false] := rfl
structure EncOk {α : Type} (enc : α → List VV) : Prop where
 tree : ∀ x, treeL (enc x) = true
 norm : ∀ x, normL (enc x) = enc x
 shown : ∀ x H d, (enc x).map (showV H d) = enc x
theorem eI_ok : EncOk eI := ⟨fun _ => rfl, fun _ => rfl, fun _ _ d => by cases d <;> rfl⟩
theorem zajb : EncOk eU8 := ⟨fun _ => rfl, fun _ => rfl, fun _ _ d => by cases d <;> rfl⟩
theorem eB_ok : EncOk eB := ⟨fun _ => rfl, fun _ => rfl, fun _ _ d => by cases d <;> rfl⟩
theorem eS_ok : EncOk eS := ⟨fun _ => rfl, fun _ => rfl, fun _ _ d => by cases d <;> rfl⟩
section
variable {α : Type} {enc : α → List VV} (h : EncOk enc)
include h
theorem EncOk.treeL (xs : List α) : Go.V.treeL (cellsL enc xs) = true := znh h.tree xs
theorem EncOk.normL (xs : List α) : Go.V.normL (cellsL enc xs) = cellsL enc xs := zmk h.norm xs
theorem EncOk.showL (xs : List α) (H : Nat → Option VObj) (d : Nat) : (cellsL enc xs).map (showV H d) = cellsL enc xs := zqw (fun x => h.shown x H d) xs
theorem EncOk.sl : EncOk (eSl enc) := ⟨fun x => by simp [eSl, Go.V.treeL, VV.tree, h.treeL], fun x => by simp [eSl, Go.V.normL, normV, h.normL], fun x H d => by cases d <;> rfl⟩
end
theorem EncOk.of {α : Type} {enc : α → List VV} (h1 : ∀ x, Go.V.treeL (enc x) = true) (h2 : ∀ x, Go.V.normL (enc x) = enc x) (h3 : ∀ x H d, (enc x).map (showV H d) = enc x) : EncOk enc := ⟨h1, h2, h3⟩
theorem zaeo {H : Nat → Option VObj} {d : Nat} {v : Value} : showV H d (.lit v) = .lit v := by cases d <;> rfl
theorem zaiw {H : Nat → Option VObj} {d n : Nat} {cs : List VV} {f : Bool} : showV H d (.sl cs n f) = .sl cs n f := by cases d <;> rfl
theorem zan {H : Nat → Option VObj} {d β off len es cp : Nat} : showV H (d + 1) (.ref β off len es cp) = (match H β with
   | some (.cells _ cs) => if off ≤ cs.length then .sl (((cs.drop off).take (len * es)).map (showV H d)) len false else .ref β off len es cp
   | _ => .ref β off len es cp) := rfl
theorem zaeq {H : Nat → Option VObj} {d : Nat} {cs : List VV} : showV H (d + 1) (.agg cs) = .agg (cs.map (showV H d)) := rfl
theorem zafz {H : Nat → Option VObj} {d : Nat} {cs : List VV} : showV H (d + 1) (.tup cs) = .tup (cs.map (showV H d)) := rfl
theorem zabc {cs : List VV} {n : Nat} {f : Bool} : normV (.sl cs n f) = .sl (normL cs) n false := by simp [normV]
theorem zwx : normV (.lit (.slice none 0 0)) = .sl [] 0 false := by simp [normV]
theorem zvq {cs : List VV} : normV (.agg cs) = .agg (normL cs) := by simp [normV]
theorem zage {cs : List VV} : normV (.tup cs) = .tup (normL cs) := by simp [normV]
theorem zvz {k : IntKind} {n : Int} : normV (.lit (.int k n)) = .lit (.int k n) := by simp [normV]
theorem zng {b : Bool} : normV (.lit (.bool b)) = .lit (.bool b) := by simp [normV]
theorem zti {b : ByteArray} : normV (.lit (.string b)) = .lit (.string b) := by simp [normV]
theorem zhj : normL [] = [] := rfl
theorem zfn {x : VV} {xs : List VV} : normL (x :: xs) = normV x :: normL xs := by simp [normL]
theorem zald : VV.tree .any = true := rfl
def vs := (And.intro (And.intro (And.intro (And.intro (And.intro (And.intro (And.intro @zaqr @zzh) (And.intro @zaos @zalg)) (And.intro (And.intro @zajc @zadj) (And.intro @zaia @zxu))) (And.intro (And.intro (And.intro @zaja @zaec) (And.intro @zus @zadf)) (And.intro (And.intro @zafy @zaju) (And.intro @zaeu @zakj)))) (And.intro (And.intro (And.intro (And.intro @zako @zaqv) (And.intro @zsz @zaef)) (And.intro (And.intro @zxk @zakq) (And.intro @zanl @zaee))) (And.intro (And.intro (And.intro @zafq @zqi) (And.intro @zais @zrk)) (And.intro (And.intro @zxi @zacz) (And.intro @zaiv (And.intro @zasg @zauu)))))) (And.intro (And.intro (And.intro (And.intro (And.intro @zamd @zans) (And.intro @zwp @zanx)) (And.intro (And.intro @zaoj @zapa) (And.intro @zaub @zaqn))) (And.intro (And.intro (And.intro @zakx @argsTm1) (And.intro @argsTm2 @zyf)) (And.intro (And.intro @zzg @zxq) (And.intro @zaex (And.intro @zaab @zuj))))) (And.intro (And.intro (And.intro (And.intro @zaak @zzs) (And.intro @znm @zxx)) (And.intro (And.intro @zns @zyi) (And.intro @zaep @zaiz))) (And.intro (And.intro (And.intro @zyv @zaeh) (And.intro @zrd @zacw)) (And.intro (And.intro @zpq @zaax) (And.intro @zrs (And.intro @zaas @ztm))))))) (And.intro (And.intro (And.intro (And.intro (And.intro (And.intro @zanc @zamy) (And.intro @zarh @zaqe)) (And.intro (And.intro @zame @zanr) (And.intro @argsTm3 @argsTm4))) (And.intro (And.intro (And.intro @argsTm5 @zahd) (And.intro @zadb @zzl)) (And.intro (And.intro @zacq @zyo) (And.intro @zaje (And.intro @zagp @zafs))))) (And.intro (And.intro (And.intro (And.intro @zagg @zaev) (And.intro @zads @zalf)) (And.intro (And.intro @zanv @zapd) (And.intro @zaoy @zane))) (And.intro (And.intro (And.intro @zafg @zza) (And.intro @zzc @zpf)) (And.intro (And.intro @zxp @zym) (And.intro @zyx (And.intro @zajv @zbw)))))) (And.intro (And.intro (And.intro (And.intro (And.intro @zbm @zzq) (And.intro @zwj @zof)) (And.intro (And.intro @zrf @zahj) (And.intro @zahz @zhu))) (And.intro (And.intro (And.intro @zade @zyk) (And.intro @zqs @zacb)) (And.intro (And.intro @zafu @zacc) (And.intro @zul (And.intro @znp @zuh))))) (And.intro (And.intro (And.intro (And.intro @zaez @zlu) (And.intro @ztj @zyz)) (And.intro (And.intro @zny @zapj) (And.intro @zanp @zatq))) (And.intro (And.intro (And.intro @zaum @zxw) (And.intro @zaom @zab)) (And.intro (And.intro @zaa @zabs) (And.intro @zyq (And.intro @zbu @zat))))))))
section
variable {i : Nat} {a : Oper} {l : List Oper} {x : VV} {xs ys : List VV}
theorem zapz : (a :: l)[i + 1]? = l[i]? := rfl
theorem zaps : (a :: l)[0]? = some a := rfl
theorem zaqk : (x :: xs)[i + 1]? = xs[i]? := rfl
theorem zapf : (x :: xs)[0]? = some x := rfl
theorem zamm {f : Oper → Option Tmp} : (some a).bind f = f a := rfl
theorem zamb {f : List VV → Option VV} : (some xs).bind f = f xs := rfl
theorem zato {f : VV → VV} : (some x).map f = some (f x) := rfl
theorem zaty : (a :: l).length = l.length + 1 := rfl
theorem zani : ([] : List Oper).length = 0 := rfl
theorem zatx : (x :: xs).length = xs.length + 1 := rfl
theorem zapn : ([] : List VV).length = 0 := rfl
theorem zask {f : Operand → VV} {o : Operand} {os : List Operand} : (o :: os).map f = f o :: os.map f := rfl
theorem zamu {f : Operand → VV} : ([] : List Operand).map f = [] := rfl
theorem zatj {f : Nat × Operand → Nat × VV} {o : Nat × Operand} {os : List (Nat × Operand)} : (o :: os).map f = f o :: os.map f := rfl
theorem zano {f : Nat × Operand → Nat × VV} : ([] : List (Nat × Operand)).map f = [] := rfl
theorem zanf {f : VV → VV} : (x :: xs).map f = f x :: xs.map f := rfl
theorem zain {f : VV → VV} : ([] : List VV).map f = [] := rfl
theorem zcn : (x :: xs) ++ ys = x :: (xs ++ ys) := rfl
theorem zbl : [] ++ ys = ys := rfl
theorem zalw : (x :: xs).drop (i + 1) = xs.drop i := rfl
theorem zaix : xs.drop 0 = xs := by simp
theorem zapm : (x :: xs).take (i + 1) = x :: xs.take i := rfl
theorem zajo : xs.take 0 = [] := by simp
theorem zapo {o : VObj} : (some o).isSome = true := rfl
theorem m_nil : (([] : List Nat) = []) = True := by simp
theorem m_ne {a b : Bool} : (a ≠ b) = ¬ (a = b) := rfl
theorem m_neN {a b : Nat} : (a ≠ b) = ¬ (a = b) := rfl
end
def cr := (And.intro (And.intro (And.intro (And.intro (And.intro @zapz (And.intro @zaps @zaqk)) (And.intro @zapf (And.intro @zamm @zamb))) (And.intro (And.intro @zato (And.intro @zaty @zani)) (And.intro (And.intro @zatx @zapn) (And.intro @zask @zamu)))) (And.intro (And.intro (And.intro @zatj (And.intro @zano @zanf)) (And.intro @zain (And.intro @zcn @zbl))) (And.intro (And.intro @zalw (And.intro @zaix @zapm)) (And.intro (And.intro @zajo @zapo) (And.intro @m_nil @m_ne))))) (And.intro (And.intro (And.intro (And.intro @m_neN (And.intro @Nat.zero_add @not_true_eq_false)) (And.intro @not_false_eq_true (And.intro @false_implies @true_implies))) (And.intro (And.intro @true_and (And.intro @and_true @false_and)) (And.intro (And.intro @and_false @Bool.false_eq_true) (And.intro @Bool.true_eq_false @Bool.not_true)))) (And.intro (And.intro (And.intro @Bool.not_false (And.intro @Bool.and_self @decide_true)) (And.intro (And.intro @decide_false @Nat.add_assoc) (And.intro @Nat.zero_mul @Nat.one_mul))) (And.intro (And.intro @Nat.zero_le (And.intro @true_or @or_true)) (And.intro (And.intro @false_or @or_false) (And.intro @not_true @not_false_iff))))))
def nrm := (And.intro (And.intro (And.intro (And.intro @zabc @zwx) (And.intro @zvq (And.intro @zage @zvz))) (And.intro (And.intro @zng @zti) (And.intro @zhj (And.intro @zfn @eI_ok.normL)))) (And.intro (And.intro (And.intro @zajb.normL @eB_ok.normL) (And.intro @eS_ok.normL (And.intro @zaeo @zaiw))) (And.intro (And.intro @zaeq (And.intro @zafz @eI_ok.showL)) (And.intro @zajb.showL (And.intro @eB_ok.showL @eS_ok.showL)))))
def tre := (And.intro (And.intro (And.intro @zxi @zrk) (And.intro @zacz (And.intro @zahd @zadb))) (And.intro (And.intro @zzl (And.intro @eI_ok.treeL @zajb.treeL)) (And.intro @eB_ok.treeL (And.intro @eS_ok.treeL @zald))))
end Go.V
end
