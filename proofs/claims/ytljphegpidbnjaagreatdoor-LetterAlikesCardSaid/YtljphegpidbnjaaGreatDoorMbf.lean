/- Part of the proof of a statement of YtljphegpidbnjaaGreatDoor: a logic of values by content, the lifted functions, and what follows. -/
import Derived.Test.YtljphegpidbnjaaGreatDoorMbe
import Derived.Test.YtljphegpidbnjaaGreatDoorProg
set_option linter.unusedVariables false
set_option linter.unusedSimpArgs false
set_option linter.unusedSectionVars false
set_option linter.constructorNameAsVariable false
section
/- The types of the program. -/
namespace Go.V
open Go Go.Proofs
set_option linter.defProp false
set_option linter.unusedSimpArgs false
set_option linter.unusedVariables false
def G0 : Glob := ⟨fun _ => none, some none⟩
theorem mixed : Tryz.prog.follows .mixedOrders = true := by kernel_rfl
structure GSpan where
  Low : Int
  High : Int
  deriving Inhabited, DecidableEq
def cGSpan (x : GSpan) : List VV := [.lit (.int .i64 x.Low), .lit (.int .i64 x.High)]
theorem cGSpan_eq {x : GSpan} : cGSpan x = [.lit (.int .i64 x.Low), .lit (.int .i64 x.High)] := rfl
theorem cGSpan_ok : EncOk cGSpan := EncOk.of (fun x => by simp only [cGSpan_eq, tre, Bool.and_self]) (fun x => by simp only [cGSpan_eq, nrm]) (fun x H d => by simp only [cGSpan_eq, nrm, List.map_cons, List.map_nil])
structure GLetterPair where
  Left : Int
  Right : Int
  Space : GSpan
  deriving Inhabited, DecidableEq
def cGLetterPair (x : GLetterPair) : List VV := [.lit (.int .i64 x.Left), .lit (.int .i64 x.Right), .lit (.int .i64 x.Space.Low), .lit (.int .i64 x.Space.High)]
theorem cGLetterPair_eq {x : GLetterPair} : cGLetterPair x = [.lit (.int .i64 x.Left), .lit (.int .i64 x.Right), .lit (.int .i64 x.Space.Low), .lit (.int .i64 x.Space.High)] := rfl
theorem cGLetterPair_ok : EncOk cGLetterPair := EncOk.of (fun x => by simp only [cGLetterPair_eq, tre, cGSpan_ok.tree, cGSpan_ok.treeL, Bool.and_self]) (fun x => by simp only [cGLetterPair_eq, nrm, cGSpan_ok.norm, cGSpan_ok.normL, cGSpan_ok.shown, cGSpan_ok.showL]) (fun x H d => by simp only [cGLetterPair_eq, nrm, List.map_cons, List.map_nil])
structure GLetterWord where
  Signs : List Int
  Cuts : List Int
  Free : Bool
  deriving Inhabited, DecidableEq
def cGLetterWord (x : GLetterWord) : List VV := [.sl (cellsL eI x.Signs) (List.length x.Signs) false, .sl (cellsL eI x.Cuts) (List.length x.Cuts) false, .lit (.bool x.Free)]
theorem cGLetterWord_eq {x : GLetterWord} : cGLetterWord x = [.sl (cellsL eI x.Signs) (List.length x.Signs) false, .sl (cellsL eI x.Cuts) (List.length x.Cuts) false, .lit (.bool x.Free)] := rfl
theorem cGLetterWord_ok : EncOk cGLetterWord := EncOk.of (fun x => by simp only [cGLetterWord_eq, tre, cGSpan_ok.tree, cGSpan_ok.treeL, cGLetterPair_ok.tree, cGLetterPair_ok.treeL, Bool.and_self]) (fun x => by simp only [cGLetterWord_eq, nrm, cGSpan_ok.norm, cGSpan_ok.normL, cGSpan_ok.shown, cGSpan_ok.showL, cGLetterPair_ok.norm, cGLetterPair_ok.normL, cGLetterPair_ok.shown, cGLetterPair_ok.showL]) (fun x H d => by simp only [cGLetterWord_eq, nrm, List.map_cons, List.map_nil])
structure GLetterSheet where
  Widths : List Int
  Pairs : List GLetterPair
  Other : GSpan
  Gap : GSpan
  Hyphen : Int
  Words : List GLetterWord
  Wide : Int
  Rows : Int
  deriving Inhabited, DecidableEq
def cGLetterSheet (x : GLetterSheet) : List VV := [.sl (cellsL eI x.Widths) (List.length x.Widths) false, .sl (cellsL cGLetterPair x.Pairs) (List.length x.Pairs) false, .lit (.int .i64 x.Other.Low), .lit (.int .i64 x.Other.High), .lit (.int .i64 x.Gap.Low), .lit (.int .i64 x.Gap.High), .lit (.int .i64 x.Hyphen), .sl (cellsL cGLetterWord x.Words) (List.length x.Words) false, .lit (.int .i64 x.Wide), .lit (.int .i64 x.Rows)]
theorem cGLetterSheet_eq {x : GLetterSheet} : cGLetterSheet x = [.sl (cellsL eI x.Widths) (List.length x.Widths) false, .sl (cellsL cGLetterPair x.Pairs) (List.length x.Pairs) false, .lit (.int .i64 x.Other.Low), .lit (.int .i64 x.Other.High), .lit (.int .i64 x.Gap.Low), .lit (.int .i64 x.Gap.High), .lit (.int .i64 x.Hyphen), .sl (cellsL cGLetterWord x.Words) (List.length x.Words) false, .lit (.int .i64 x.Wide), .lit (.int .i64 x.Rows)] := rfl
theorem cGLetterSheet_ok : EncOk cGLetterSheet := EncOk.of (fun x => by simp only [cGLetterSheet_eq, tre, cGSpan_ok.tree, cGSpan_ok.treeL, cGLetterPair_ok.tree, cGLetterPair_ok.treeL, cGLetterWord_ok.tree, cGLetterWord_ok.treeL, Bool.and_self]) (fun x => by simp only [cGLetterSheet_eq, nrm, cGSpan_ok.norm, cGSpan_ok.normL, cGSpan_ok.shown, cGSpan_ok.showL, cGLetterPair_ok.norm, cGLetterPair_ok.normL, cGLetterPair_ok.shown, cGLetterPair_ok.showL, cGLetterWord_ok.norm, cGLetterWord_ok.normL, cGLetterWord_ok.shown, cGLetterWord_ok.showL]) (fun x H d => by simp only [cGLetterSheet_eq, nrm, List.map_cons, List.map_nil])
structure GLetterEnd where
  Word : Int
  Letters : Int
  deriving Inhabited, DecidableEq
def cGLetterEnd (x : GLetterEnd) : List VV := [.lit (.int .i64 x.Word), .lit (.int .i64 x.Letters)]
theorem cGLetterEnd_eq {x : GLetterEnd} : cGLetterEnd x = [.lit (.int .i64 x.Word), .lit (.int .i64 x.Letters)] := rfl
theorem cGLetterEnd_ok : EncOk cGLetterEnd := EncOk.of (fun x => by simp only [cGLetterEnd_eq, tre, cGSpan_ok.tree, cGSpan_ok.treeL, cGLetterPair_ok.tree, cGLetterPair_ok.treeL, cGLetterWord_ok.tree, cGLetterWord_ok.treeL, cGLetterSheet_ok.tree, cGLetterSheet_ok.treeL, Bool.and_self]) (fun x => by simp only [cGLetterEnd_eq, nrm, cGSpan_ok.norm, cGSpan_ok.normL, cGSpan_ok.shown, cGSpan_ok.showL, cGLetterPair_ok.norm, cGLetterPair_ok.normL, cGLetterPair_ok.shown, cGLetterPair_ok.showL, cGLetterWord_ok.norm, cGLetterWord_ok.normL, cGLetterWord_ok.shown, cGLetterWord_ok.showL, cGLetterSheet_ok.norm, cGLetterSheet_ok.normL, cGLetterSheet_ok.shown, cGLetterSheet_ok.showL]) (fun x H d => by simp only [cGLetterEnd_eq, nrm, List.map_cons, List.map_nil])
structure GLetterSetting where
  Out : List Int
  Ends : List GLetterEnd
  deriving Inhabited, DecidableEq
def cGLetterSetting (x : GLetterSetting) : List VV := [.sl (cellsL eI x.Out) (List.length x.Out) false, .sl (cellsL cGLetterEnd x.Ends) (List.length x.Ends) false]
theorem cGLetterSetting_eq {x : GLetterSetting} : cGLetterSetting x = [.sl (cellsL eI x.Out) (List.length x.Out) false, .sl (cellsL cGLetterEnd x.Ends) (List.length x.Ends) false] := rfl
theorem cGLetterSetting_ok : EncOk cGLetterSetting := EncOk.of (fun x => by simp only [cGLetterSetting_eq, tre, cGSpan_ok.tree, cGSpan_ok.treeL, cGLetterPair_ok.tree, cGLetterPair_ok.treeL, cGLetterWord_ok.tree, cGLetterWord_ok.treeL, cGLetterSheet_ok.tree, cGLetterSheet_ok.treeL, cGLetterEnd_ok.tree, cGLetterEnd_ok.treeL, Bool.and_self]) (fun x => by simp only [cGLetterSetting_eq, nrm, cGSpan_ok.norm, cGSpan_ok.normL, cGSpan_ok.shown, cGSpan_ok.showL, cGLetterPair_ok.norm, cGLetterPair_ok.normL, cGLetterPair_ok.shown, cGLetterPair_ok.showL, cGLetterWord_ok.norm, cGLetterWord_ok.normL, cGLetterWord_ok.shown, cGLetterWord_ok.showL, cGLetterSheet_ok.norm, cGLetterSheet_ok.normL, cGLetterSheet_ok.shown, cGLetterSheet_ok.showL, cGLetterEnd_ok.norm, cGLetterEnd_ok.normL, cGLetterEnd_ok.shown, cGLetterEnd_ok.showL]) (fun x H d => by simp only [cGLetterSetting_eq, nrm, List.map_cons, List.map_nil])
structure Glettermark where
  word : Int
  sign : Int
  row : Int
  hyphen : Bool
  deriving Inhabited, DecidableEq
def cGlettermark (x : Glettermark) : List VV := [.lit (.int .i64 x.word), .lit (.int .i64 x.sign), .lit (.int .i64 x.row), .lit (.bool x.hyphen)]
theorem cGlettermark_eq {x : Glettermark} : cGlettermark x = [.lit (.int .i64 x.word), .lit (.int .i64 x.sign), .lit (.int .i64 x.row), .lit (.bool x.hyphen)] := rfl
theorem cGlettermark_ok : EncOk cGlettermark := EncOk.of (fun x => by simp only [cGlettermark_eq, tre, cGSpan_ok.tree, cGSpan_ok.treeL, cGLetterPair_ok.tree, cGLetterPair_ok.treeL, cGLetterWord_ok.tree, cGLetterWord_ok.treeL, cGLetterSheet_ok.tree, cGLetterSheet_ok.treeL, cGLetterEnd_ok.tree, cGLetterEnd_ok.treeL, cGLetterSetting_ok.tree, cGLetterSetting_ok.treeL, Bool.and_self]) (fun x => by simp only [cGlettermark_eq, nrm, cGSpan_ok.norm, cGSpan_ok.normL, cGSpan_ok.shown, cGSpan_ok.showL, cGLetterPair_ok.norm, cGLetterPair_ok.normL, cGLetterPair_ok.shown, cGLetterPair_ok.showL, cGLetterWord_ok.norm, cGLetterWord_ok.normL, cGLetterWord_ok.shown, cGLetterWord_ok.showL, cGLetterSheet_ok.norm, cGLetterSheet_ok.normL, cGLetterSheet_ok.shown, cGLetterSheet_ok.showL, cGLetterEnd_ok.norm, cGLetterEnd_ok.normL, cGLetterEnd_ok.shown, cGLetterEnd_ok.showL, cGLetterSetting_ok.norm, cGLetterSetting_ok.normL, cGLetterSetting_ok.shown, cGLetterSetting_ok.showL]) (fun x H d => by simp only [cGlettermark_eq, nrm, List.map_cons, List.map_nil])
structure Gmahlstickref01Letter where
  Word : Int
  Sign : Int
  deriving Inhabited, DecidableEq
def cGmahlstickref01Letter (x : Gmahlstickref01Letter) : List VV := [.lit (.int .i64 x.Word), .lit (.int .i64 x.Sign)]
theorem cGmahlstickref01Letter_eq {x : Gmahlstickref01Letter} : cGmahlstickref01Letter x = [.lit (.int .i64 x.Word), .lit (.int .i64 x.Sign)] := rfl
theorem cGmahlstickref01Letter_ok : EncOk cGmahlstickref01Letter := EncOk.of (fun x => by simp only [cGmahlstickref01Letter_eq, tre, cGSpan_ok.tree, cGSpan_ok.treeL, cGLetterPair_ok.tree, cGLetterPair_ok.treeL, cGLetterWord_ok.tree, cGLetterWord_ok.treeL, cGLetterSheet_ok.tree, cGLetterSheet_ok.treeL, cGLetterEnd_ok.tree, cGLetterEnd_ok.treeL, cGLetterSetting_ok.tree, cGLetterSetting_ok.treeL, cGlettermark_ok.tree, cGlettermark_ok.treeL, Bool.and_self]) (fun x => by simp only [cGmahlstickref01Letter_eq, nrm, cGSpan_ok.norm, cGSpan_ok.normL, cGSpan_ok.shown, cGSpan_ok.showL, cGLetterPair_ok.norm, cGLetterPair_ok.normL, cGLetterPair_ok.shown, cGLetterPair_ok.showL, cGLetterWord_ok.norm, cGLetterWord_ok.normL, cGLetterWord_ok.shown, cGLetterWord_ok.showL, cGLetterSheet_ok.norm, cGLetterSheet_ok.normL, cGLetterSheet_ok.shown, cGLetterSheet_ok.showL, cGLetterEnd_ok.norm, cGLetterEnd_ok.normL, cGLetterEnd_ok.shown, cGLetterEnd_ok.showL, cGLetterSetting_ok.norm, cGLetterSetting_ok.normL, cGLetterSetting_ok.shown, cGLetterSetting_ok.showL, cGlettermark_ok.norm, cGlettermark_ok.normL, cGlettermark_ok.shown, cGlettermark_ok.showL]) (fun x H d => by simp only [cGmahlstickref01Letter_eq, nrm, List.map_cons, List.map_nil])
structure GlettersignPair where
  left : Int
  right : Int
  deriving Inhabited, DecidableEq
def cGlettersignPair (x : GlettersignPair) : List VV := [.lit (.int .i64 x.left), .lit (.int .i64 x.right)]
theorem cGlettersignPair_eq {x : GlettersignPair} : cGlettersignPair x = [.lit (.int .i64 x.left), .lit (.int .i64 x.right)] := rfl
theorem cGlettersignPair_ok : EncOk cGlettersignPair := EncOk.of (fun x => by simp only [cGlettersignPair_eq, tre, cGSpan_ok.tree, cGSpan_ok.treeL, cGLetterPair_ok.tree, cGLetterPair_ok.treeL, cGLetterWord_ok.tree, cGLetterWord_ok.treeL, cGLetterSheet_ok.tree, cGLetterSheet_ok.treeL, cGLetterEnd_ok.tree, cGLetterEnd_ok.treeL, cGLetterSetting_ok.tree, cGLetterSetting_ok.treeL, cGlettermark_ok.tree, cGlettermark_ok.treeL, cGmahlstickref01Letter_ok.tree, cGmahlstickref01Letter_ok.treeL, Bool.and_self]) (fun x => by simp only [cGlettersignPair_eq, nrm, cGSpan_ok.norm, cGSpan_ok.normL, cGSpan_ok.shown, cGSpan_ok.showL, cGLetterPair_ok.norm, cGLetterPair_ok.normL, cGLetterPair_ok.shown, cGLetterPair_ok.showL, cGLetterWord_ok.norm, cGLetterWord_ok.normL, cGLetterWord_ok.shown, cGLetterWord_ok.showL, cGLetterSheet_ok.norm, cGLetterSheet_ok.normL, cGLetterSheet_ok.shown, cGLetterSheet_ok.showL, cGLetterEnd_ok.norm, cGLetterEnd_ok.normL, cGLetterEnd_ok.shown, cGLetterEnd_ok.showL, cGLetterSetting_ok.norm, cGLetterSetting_ok.normL, cGLetterSetting_ok.shown, cGLetterSetting_ok.showL, cGlettermark_ok.norm, cGlettermark_ok.normL, cGlettermark_ok.shown, cGlettermark_ok.showL, cGmahlstickref01Letter_ok.norm, cGmahlstickref01Letter_ok.normL, cGmahlstickref01Letter_ok.shown, cGmahlstickref01Letter_ok.showL]) (fun x H d => by simp only [cGlettersignPair_eq, nrm, List.map_cons, List.map_nil])
structure GlinesKind where
  Word : ByteArray
  Others : Int
  deriving Inhabited, DecidableEq
def cGlinesKind (x : GlinesKind) : List VV := [.lit (.string x.Word), .lit (.int .i64 x.Others)]
theorem cGlinesKind_eq {x : GlinesKind} : cGlinesKind x = [.lit (.string x.Word), .lit (.int .i64 x.Others)] := rfl
theorem cGlinesKind_ok : EncOk cGlinesKind := EncOk.of (fun x => by simp only [cGlinesKind_eq, tre, cGSpan_ok.tree, cGSpan_ok.treeL, cGLetterPair_ok.tree, cGLetterPair_ok.treeL, cGLetterWord_ok.tree, cGLetterWord_ok.treeL, cGLetterSheet_ok.tree, cGLetterSheet_ok.treeL, cGLetterEnd_ok.tree, cGLetterEnd_ok.treeL, cGLetterSetting_ok.tree, cGLetterSetting_ok.treeL, cGlettermark_ok.tree, cGlettermark_ok.treeL, cGmahlstickref01Letter_ok.tree, cGmahlstickref01Letter_ok.treeL, cGlettersignPair_ok.tree, cGlettersignPair_ok.treeL, Bool.and_self]) (fun x => by simp only [cGlinesKind_eq, nrm, cGSpan_ok.norm, cGSpan_ok.normL, cGSpan_ok.shown, cGSpan_ok.showL, cGLetterPair_ok.norm, cGLetterPair_ok.normL, cGLetterPair_ok.shown, cGLetterPair_ok.showL, cGLetterWord_ok.norm, cGLetterWord_ok.normL, cGLetterWord_ok.shown, cGLetterWord_ok.showL, cGLetterSheet_ok.norm, cGLetterSheet_ok.normL, cGLetterSheet_ok.shown, cGLetterSheet_ok.showL, cGLetterEnd_ok.norm, cGLetterEnd_ok.normL, cGLetterEnd_ok.shown, cGLetterEnd_ok.showL, cGLetterSetting_ok.norm, cGLetterSetting_ok.normL, cGLetterSetting_ok.shown, cGLetterSetting_ok.showL, cGlettermark_ok.norm, cGlettermark_ok.normL, cGlettermark_ok.shown, cGlettermark_ok.showL, cGmahlstickref01Letter_ok.norm, cGmahlstickref01Letter_ok.normL, cGmahlstickref01Letter_ok.shown, cGmahlstickref01Letter_ok.showL, cGlettersignPair_ok.norm, cGlettersignPair_ok.normL, cGlettersignPair_ok.shown, cGlettersignPair_ok.showL]) (fun x H d => by simp only [cGlinesKind_eq, nrm, List.map_cons, List.map_nil])
structure GletterfrontLine where
  wide : Int
  rows : Int
  deriving Inhabited, DecidableEq
def cGletterfrontLine (x : GletterfrontLine) : List VV := [.lit (.int .i64 x.wide), .lit (.int .i64 x.rows)]
theorem cGletterfrontLine_eq {x : GletterfrontLine} : cGletterfrontLine x = [.lit (.int .i64 x.wide), .lit (.int .i64 x.rows)] := rfl
theorem cGletterfrontLine_ok : EncOk cGletterfrontLine := EncOk.of (fun x => by simp only [cGletterfrontLine_eq, tre, cGSpan_ok.tree, cGSpan_ok.treeL, cGLetterPair_ok.tree, cGLetterPair_ok.treeL, cGLetterWord_ok.tree, cGLetterWord_ok.treeL, cGLetterSheet_ok.tree, cGLetterSheet_ok.treeL, cGLetterEnd_ok.tree, cGLetterEnd_ok.treeL, cGLetterSetting_ok.tree, cGLetterSetting_ok.treeL, cGlettermark_ok.tree, cGlettermark_ok.treeL, cGmahlstickref01Letter_ok.tree, cGmahlstickref01Letter_ok.treeL, cGlettersignPair_ok.tree, cGlettersignPair_ok.treeL, cGlinesKind_ok.tree, cGlinesKind_ok.treeL, Bool.and_self]) (fun x => by simp only [cGletterfrontLine_eq, nrm, cGSpan_ok.norm, cGSpan_ok.normL, cGSpan_ok.shown, cGSpan_ok.showL, cGLetterPair_ok.norm, cGLetterPair_ok.normL, cGLetterPair_ok.shown, cGLetterPair_ok.showL, cGLetterWord_ok.norm, cGLetterWord_ok.normL, cGLetterWord_ok.shown, cGLetterWord_ok.showL, cGLetterSheet_ok.norm, cGLetterSheet_ok.normL, cGLetterSheet_ok.shown, cGLetterSheet_ok.showL, cGLetterEnd_ok.norm, cGLetterEnd_ok.normL, cGLetterEnd_ok.shown, cGLetterEnd_ok.showL, cGLetterSetting_ok.norm, cGLetterSetting_ok.normL, cGLetterSetting_ok.shown, cGLetterSetting_ok.showL, cGlettermark_ok.norm, cGlettermark_ok.normL, cGlettermark_ok.shown, cGlettermark_ok.showL, cGmahlstickref01Letter_ok.norm, cGmahlstickref01Letter_ok.normL, cGmahlstickref01Letter_ok.shown, cGmahlstickref01Letter_ok.showL, cGlettersignPair_ok.norm, cGlettersignPair_ok.normL, cGlettersignPair_ok.shown, cGlettersignPair_ok.showL, cGlinesKind_ok.norm, cGlinesKind_ok.normL, cGlinesKind_ok.shown, cGlinesKind_ok.showL]) (fun x H d => by simp only [cGletterfrontLine_eq, nrm, List.map_cons, List.map_nil])
structure GletterspacesLine where
  other : GSpan
  gap : GSpan
  hyphen : Int
  deriving Inhabited, DecidableEq
def cGletterspacesLine (x : GletterspacesLine) : List VV := [.lit (.int .i64 x.other.Low), .lit (.int .i64 x.other.High), .lit (.int .i64 x.gap.Low), .lit (.int .i64 x.gap.High), .lit (.int .i64 x.hyphen)]
theorem cGletterspacesLine_eq {x : GletterspacesLine} : cGletterspacesLine x = [.lit (.int .i64 x.other.Low), .lit (.int .i64 x.other.High), .lit (.int .i64 x.gap.Low), .lit (.int .i64 x.gap.High), .lit (.int .i64 x.hyphen)] := rfl
theorem cGletterspacesLine_ok : EncOk cGletterspacesLine := EncOk.of (fun x => by simp only [cGletterspacesLine_eq, tre, cGSpan_ok.tree, cGSpan_ok.treeL, cGLetterPair_ok.tree, cGLetterPair_ok.treeL, cGLetterWord_ok.tree, cGLetterWord_ok.treeL, cGLetterSheet_ok.tree, cGLetterSheet_ok.treeL, cGLetterEnd_ok.tree, cGLetterEnd_ok.treeL, cGLetterSetting_ok.tree, cGLetterSetting_ok.treeL, cGlettermark_ok.tree, cGlettermark_ok.treeL, cGmahlstickref01Letter_ok.tree, cGmahlstickref01Letter_ok.treeL, cGlettersignPair_ok.tree, cGlettersignPair_ok.treeL, cGlinesKind_ok.tree, cGlinesKind_ok.treeL, cGletterfrontLine_ok.tree, cGletterfrontLine_ok.treeL, Bool.and_self]) (fun x => by simp only [cGletterspacesLine_eq, nrm, cGSpan_ok.norm, cGSpan_ok.normL, cGSpan_ok.shown, cGSpan_ok.showL, cGLetterPair_ok.norm, cGLetterPair_ok.normL, cGLetterPair_ok.shown, cGLetterPair_ok.showL, cGLetterWord_ok.norm, cGLetterWord_ok.normL, cGLetterWord_ok.shown, cGLetterWord_ok.showL, cGLetterSheet_ok.norm, cGLetterSheet_ok.normL, cGLetterSheet_ok.shown, cGLetterSheet_ok.showL, cGLetterEnd_ok.norm, cGLetterEnd_ok.normL, cGLetterEnd_ok.shown, cGLetterEnd_ok.showL, cGLetterSetting_ok.norm, cGLetterSetting_ok.normL, cGLetterSetting_ok.shown, cGLetterSetting_ok.showL, cGlettermark_ok.norm, cGlettermark_ok.normL, cGlettermark_ok.shown, cGlettermark_ok.showL, cGmahlstickref01Letter_ok.norm, cGmahlstickref01Letter_ok.normL, cGmahlstickref01Letter_ok.shown, cGmahlstickref01Letter_ok.showL, cGlettersignPair_ok.norm, cGlettersignPair_ok.normL, cGlettersignPair_ok.shown, cGlettersignPair_ok.showL, cGlinesKind_ok.norm, cGlinesKind_ok.normL, cGlinesKind_ok.shown, cGlinesKind_ok.showL, cGletterfrontLine_ok.norm, cGletterfrontLine_ok.normL, cGletterfrontLine_ok.shown, cGletterfrontLine_ok.showL]) (fun x H d => by simp only [cGletterspacesLine_eq, nrm, List.map_cons, List.map_nil])
structure GlettersignLine where
  width : Int
  deriving Inhabited, DecidableEq
def cGlettersignLine (x : GlettersignLine) : List VV := [.lit (.int .i64 x.width)]
theorem cGlettersignLine_eq {x : GlettersignLine} : cGlettersignLine x = [.lit (.int .i64 x.width)] := rfl
theorem cGlettersignLine_ok : EncOk cGlettersignLine := EncOk.of (fun x => by simp only [cGlettersignLine_eq, tre, cGSpan_ok.tree, cGSpan_ok.treeL, cGLetterPair_ok.tree, cGLetterPair_ok.treeL, cGLetterWord_ok.tree, cGLetterWord_ok.treeL, cGLetterSheet_ok.tree, cGLetterSheet_ok.treeL, cGLetterEnd_ok.tree, cGLetterEnd_ok.treeL, cGLetterSetting_ok.tree, cGLetterSetting_ok.treeL, cGlettermark_ok.tree, cGlettermark_ok.treeL, cGmahlstickref01Letter_ok.tree, cGmahlstickref01Letter_ok.treeL, cGlettersignPair_ok.tree, cGlettersignPair_ok.treeL, cGlinesKind_ok.tree, cGlinesKind_ok.treeL, cGletterfrontLine_ok.tree, cGletterfrontLine_ok.treeL, cGletterspacesLine_ok.tree, cGletterspacesLine_ok.treeL, Bool.and_self]) (fun x => by simp only [cGlettersignLine_eq, nrm, cGSpan_ok.norm, cGSpan_ok.normL, cGSpan_ok.shown, cGSpan_ok.showL, cGLetterPair_ok.norm, cGLetterPair_ok.normL, cGLetterPair_ok.shown, cGLetterPair_ok.showL, cGLetterWord_ok.norm, cGLetterWord_ok.normL, cGLetterWord_ok.shown, cGLetterWord_ok.showL, cGLetterSheet_ok.norm, cGLetterSheet_ok.normL, cGLetterSheet_ok.shown, cGLetterSheet_ok.showL, cGLetterEnd_ok.norm, cGLetterEnd_ok.normL, cGLetterEnd_ok.shown, cGLetterEnd_ok.showL, cGLetterSetting_ok.norm, cGLetterSetting_ok.normL, cGLetterSetting_ok.shown, cGLetterSetting_ok.showL, cGlettermark_ok.norm, cGlettermark_ok.normL, cGlettermark_ok.shown, cGlettermark_ok.showL, cGmahlstickref01Letter_ok.norm, cGmahlstickref01Letter_ok.normL, cGmahlstickref01Letter_ok.shown, cGmahlstickref01Letter_ok.showL, cGlettersignPair_ok.norm, cGlettersignPair_ok.normL, cGlettersignPair_ok.shown, cGlettersignPair_ok.showL, cGlinesKind_ok.norm, cGlinesKind_ok.normL, cGlinesKind_ok.shown, cGlinesKind_ok.showL, cGletterfrontLine_ok.norm, cGletterfrontLine_ok.normL, cGletterfrontLine_ok.shown, cGletterfrontLine_ok.showL, cGletterspacesLine_ok.norm, cGletterspacesLine_ok.normL, cGletterspacesLine_ok.shown, cGletterspacesLine_ok.showL]) (fun x H d => by simp only [cGlettersignLine_eq, nrm, List.map_cons, List.map_nil])
structure GletterpairLine where
  pair : GLetterPair
  deriving Inhabited, DecidableEq
def cGletterpairLine (x : GletterpairLine) : List VV := [.lit (.int .i64 x.pair.Left), .lit (.int .i64 x.pair.Right), .lit (.int .i64 x.pair.Space.Low), .lit (.int .i64 x.pair.Space.High)]
theorem cGletterpairLine_eq {x : GletterpairLine} : cGletterpairLine x = [.lit (.int .i64 x.pair.Left), .lit (.int .i64 x.pair.Right), .lit (.int .i64 x.pair.Space.Low), .lit (.int .i64 x.pair.Space.High)] := rfl
theorem cGletterpairLine_ok : EncOk cGletterpairLine := EncOk.of (fun x => by simp only [cGletterpairLine_eq, tre, cGSpan_ok.tree, cGSpan_ok.treeL, cGLetterPair_ok.tree, cGLetterPair_ok.treeL, cGLetterWord_ok.tree, cGLetterWord_ok.treeL, cGLetterSheet_ok.tree, cGLetterSheet_ok.treeL, cGLetterEnd_ok.tree, cGLetterEnd_ok.treeL, cGLetterSetting_ok.tree, cGLetterSetting_ok.treeL, cGlettermark_ok.tree, cGlettermark_ok.treeL, cGmahlstickref01Letter_ok.tree, cGmahlstickref01Letter_ok.treeL, cGlettersignPair_ok.tree, cGlettersignPair_ok.treeL, cGlinesKind_ok.tree, cGlinesKind_ok.treeL, cGletterfrontLine_ok.tree, cGletterfrontLine_ok.treeL, cGletterspacesLine_ok.tree, cGletterspacesLine_ok.treeL, cGlettersignLine_ok.tree, cGlettersignLine_ok.treeL, Bool.and_self]) (fun x => by simp only [cGletterpairLine_eq, nrm, cGSpan_ok.norm, cGSpan_ok.normL, cGSpan_ok.shown, cGSpan_ok.showL, cGLetterPair_ok.norm, cGLetterPair_ok.normL, cGLetterPair_ok.shown, cGLetterPair_ok.showL, cGLetterWord_ok.norm, cGLetterWord_ok.normL, cGLetterWord_ok.shown, cGLetterWord_ok.showL, cGLetterSheet_ok.norm, cGLetterSheet_ok.normL, cGLetterSheet_ok.shown, cGLetterSheet_ok.showL, cGLetterEnd_ok.norm, cGLetterEnd_ok.normL, cGLetterEnd_ok.shown, cGLetterEnd_ok.showL, cGLetterSetting_ok.norm, cGLetterSetting_ok.normL, cGLetterSetting_ok.shown, cGLetterSetting_ok.showL, cGlettermark_ok.norm, cGlettermark_ok.normL, cGlettermark_ok.shown, cGlettermark_ok.showL, cGmahlstickref01Letter_ok.norm, cGmahlstickref01Letter_ok.normL, cGmahlstickref01Letter_ok.shown, cGmahlstickref01Letter_ok.showL, cGlettersignPair_ok.norm, cGlettersignPair_ok.normL, cGlettersignPair_ok.shown, cGlettersignPair_ok.showL, cGlinesKind_ok.norm, cGlinesKind_ok.normL, cGlinesKind_ok.shown, cGlinesKind_ok.showL, cGletterfrontLine_ok.norm, cGletterfrontLine_ok.normL, cGletterfrontLine_ok.shown, cGletterfrontLine_ok.showL, cGletterspacesLine_ok.norm, cGletterspacesLine_ok.normL, cGletterspacesLine_ok.shown, cGletterspacesLine_ok.showL, cGlettersignLine_ok.norm, cGlettersignLine_ok.normL, cGlettersignLine_ok.shown, cGlettersignLine_ok.showL]) (fun x H d => by simp only [cGletterpairLine_eq, nrm, List.map_cons, List.map_nil])
structure GletterwordLine where
  word : GLetterWord
  deriving Inhabited, DecidableEq
def cGletterwordLine (x : GletterwordLine) : List VV := [.sl (cellsL eI x.word.Signs) (List.length x.word.Signs) false, .sl (cellsL eI x.word.Cuts) (List.length x.word.Cuts) false, .lit (.bool x.word.Free)]
theorem cGletterwordLine_eq {x : GletterwordLine} : cGletterwordLine x = [.sl (cellsL eI x.word.Signs) (List.length x.word.Signs) false, .sl (cellsL eI x.word.Cuts) (List.length x.word.Cuts) false, .lit (.bool x.word.Free)] := rfl
theorem cGletterwordLine_ok : EncOk cGletterwordLine := EncOk.of (fun x => by simp only [cGletterwordLine_eq, tre, cGSpan_ok.tree, cGSpan_ok.treeL, cGLetterPair_ok.tree, cGLetterPair_ok.treeL, cGLetterWord_ok.tree, cGLetterWord_ok.treeL, cGLetterSheet_ok.tree, cGLetterSheet_ok.treeL, cGLetterEnd_ok.tree, cGLetterEnd_ok.treeL, cGLetterSetting_ok.tree, cGLetterSetting_ok.treeL, cGlettermark_ok.tree, cGlettermark_ok.treeL, cGmahlstickref01Letter_ok.tree, cGmahlstickref01Letter_ok.treeL, cGlettersignPair_ok.tree, cGlettersignPair_ok.treeL, cGlinesKind_ok.tree, cGlinesKind_ok.treeL, cGletterfrontLine_ok.tree, cGletterfrontLine_ok.treeL, cGletterspacesLine_ok.tree, cGletterspacesLine_ok.treeL, cGlettersignLine_ok.tree, cGlettersignLine_ok.treeL, cGletterpairLine_ok.tree, cGletterpairLine_ok.treeL, Bool.and_self]) (fun x => by simp only [cGletterwordLine_eq, nrm, cGSpan_ok.norm, cGSpan_ok.normL, cGSpan_ok.shown, cGSpan_ok.showL, cGLetterPair_ok.norm, cGLetterPair_ok.normL, cGLetterPair_ok.shown, cGLetterPair_ok.showL, cGLetterWord_ok.norm, cGLetterWord_ok.normL, cGLetterWord_ok.shown, cGLetterWord_ok.showL, cGLetterSheet_ok.norm, cGLetterSheet_ok.normL, cGLetterSheet_ok.shown, cGLetterSheet_ok.showL, cGLetterEnd_ok.norm, cGLetterEnd_ok.normL, cGLetterEnd_ok.shown, cGLetterEnd_ok.showL, cGLetterSetting_ok.norm, cGLetterSetting_ok.normL, cGLetterSetting_ok.shown, cGLetterSetting_ok.showL, cGlettermark_ok.norm, cGlettermark_ok.normL, cGlettermark_ok.shown, cGlettermark_ok.showL, cGmahlstickref01Letter_ok.norm, cGmahlstickref01Letter_ok.normL, cGmahlstickref01Letter_ok.shown, cGmahlstickref01Letter_ok.showL, cGlettersignPair_ok.norm, cGlettersignPair_ok.normL, cGlettersignPair_ok.shown, cGlettersignPair_ok.showL, cGlinesKind_ok.norm, cGlinesKind_ok.normL, cGlinesKind_ok.shown, cGlinesKind_ok.showL, cGletterfrontLine_ok.norm, cGletterfrontLine_ok.normL, cGletterfrontLine_ok.shown, cGletterfrontLine_ok.showL, cGletterspacesLine_ok.norm, cGletterspacesLine_ok.normL, cGletterspacesLine_ok.shown, cGletterspacesLine_ok.showL, cGlettersignLine_ok.norm, cGlettersignLine_ok.normL, cGlettersignLine_ok.shown, cGlettersignLine_ok.showL, cGletterpairLine_ok.norm, cGletterpairLine_ok.normL, cGletterpairLine_ok.shown, cGletterpairLine_ok.showL]) (fun x H d => by simp only [cGletterwordLine_eq, nrm, List.map_cons, List.map_nil])
structure Gutf8acceptRange where
  lo : Int
  hi : Int
  deriving Inhabited, DecidableEq
def cGutf8acceptRange (x : Gutf8acceptRange) : List VV := [.lit (.int .u8 x.lo), .lit (.int .u8 x.hi)]
theorem cGutf8acceptRange_eq {x : Gutf8acceptRange} : cGutf8acceptRange x = [.lit (.int .u8 x.lo), .lit (.int .u8 x.hi)] := rfl
theorem cGutf8acceptRange_ok : EncOk cGutf8acceptRange := EncOk.of (fun x => by simp only [cGutf8acceptRange_eq, tre, cGSpan_ok.tree, cGSpan_ok.treeL, cGLetterPair_ok.tree, cGLetterPair_ok.treeL, cGLetterWord_ok.tree, cGLetterWord_ok.treeL, cGLetterSheet_ok.tree, cGLetterSheet_ok.treeL, cGLetterEnd_ok.tree, cGLetterEnd_ok.treeL, cGLetterSetting_ok.tree, cGLetterSetting_ok.treeL, cGlettermark_ok.tree, cGlettermark_ok.treeL, cGmahlstickref01Letter_ok.tree, cGmahlstickref01Letter_ok.treeL, cGlettersignPair_ok.tree, cGlettersignPair_ok.treeL, cGlinesKind_ok.tree, cGlinesKind_ok.treeL, cGletterfrontLine_ok.tree, cGletterfrontLine_ok.treeL, cGletterspacesLine_ok.tree, cGletterspacesLine_ok.treeL, cGlettersignLine_ok.tree, cGlettersignLine_ok.treeL, cGletterpairLine_ok.tree, cGletterpairLine_ok.treeL, cGletterwordLine_ok.tree, cGletterwordLine_ok.treeL, Bool.and_self]) (fun x => by simp only [cGutf8acceptRange_eq, nrm, cGSpan_ok.norm, cGSpan_ok.normL, cGSpan_ok.shown, cGSpan_ok.showL, cGLetterPair_ok.norm, cGLetterPair_ok.normL, cGLetterPair_ok.shown, cGLetterPair_ok.showL, cGLetterWord_ok.norm, cGLetterWord_ok.normL, cGLetterWord_ok.shown, cGLetterWord_ok.showL, cGLetterSheet_ok.norm, cGLetterSheet_ok.normL, cGLetterSheet_ok.shown, cGLetterSheet_ok.showL, cGLetterEnd_ok.norm, cGLetterEnd_ok.normL, cGLetterEnd_ok.shown, cGLetterEnd_ok.showL, cGLetterSetting_ok.norm, cGLetterSetting_ok.normL, cGLetterSetting_ok.shown, cGLetterSetting_ok.showL, cGlettermark_ok.norm, cGlettermark_ok.normL, cGlettermark_ok.shown, cGlettermark_ok.showL, cGmahlstickref01Letter_ok.norm, cGmahlstickref01Letter_ok.normL, cGmahlstickref01Letter_ok.shown, cGmahlstickref01Letter_ok.showL, cGlettersignPair_ok.norm, cGlettersignPair_ok.normL, cGlettersignPair_ok.shown, cGlettersignPair_ok.showL, cGlinesKind_ok.norm, cGlinesKind_ok.normL, cGlinesKind_ok.shown, cGlinesKind_ok.showL, cGletterfrontLine_ok.norm, cGletterfrontLine_ok.normL, cGletterfrontLine_ok.shown, cGletterfrontLine_ok.showL, cGletterspacesLine_ok.norm, cGletterspacesLine_ok.normL, cGletterspacesLine_ok.shown, cGletterspacesLine_ok.showL, cGlettersignLine_ok.norm, cGlettersignLine_ok.normL, cGlettersignLine_ok.shown, cGlettersignLine_ok.showL, cGletterpairLine_ok.norm, cGletterpairLine_ok.normL, cGletterpairLine_ok.shown, cGletterpairLine_ok.showL, cGletterwordLine_ok.norm, cGletterwordLine_ok.normL, cGletterwordLine_ok.shown, cGletterwordLine_ok.showL]) (fun x H d => by simp only [cGutf8acceptRange_eq, nrm, List.map_cons, List.map_nil])
theorem sl58_ok : EncOk (eSl eI) := EncOk.sl eI_ok
theorem sl85_ok : EncOk (eSl cGmahlstickref01Letter) := EncOk.sl cGmahlstickref01Letter_ok
theorem ld2 {c : VV} {cs : List VV} : vload Tryz.prog 2 (c :: cs) = some c := by
  have h1 : aggT Tryz.prog 2 = some false := by kernel_rfl
  simp [vload, vpart, h1]
theorem sz2 : szT Tryz.prog 2 = some 1 := by kernel_rfl
theorem ld3 {c : VV} {cs : List VV} : vload Tryz.prog 3 (c :: cs) = some c := by
  have h1 : aggT Tryz.prog 3 = some false := by kernel_rfl
  simp [vload, vpart, h1]
theorem sz3 : szT Tryz.prog 3 = some 1 := by kernel_rfl
theorem ld4 {c : VV} {cs : List VV} : vload Tryz.prog 4 (c :: cs) = some c := by
  have h1 : aggT Tryz.prog 4 = some false := by kernel_rfl
  simp [vload, vpart, h1]
theorem sz4 : szT Tryz.prog 4 = some 1 := by kernel_rfl
theorem ld5 {c : VV} {cs : List VV} : vload Tryz.prog 5 (c :: cs) = some c := by
  have h1 : aggT Tryz.prog 5 = some false := by kernel_rfl
  simp [vload, vpart, h1]
theorem sz5 : szT Tryz.prog 5 = some 1 := by kernel_rfl
theorem ld9 {c : VV} {cs : List VV} : vload Tryz.prog 9 (c :: cs) = some c := by
  have h1 : aggT Tryz.prog 9 = some false := by kernel_rfl
  simp [vload, vpart, h1]
theorem sz9 : szT Tryz.prog 9 = some 1 := by kernel_rfl
theorem ld22 {c : VV} {cs : List VV} : vload Tryz.prog 22 (c :: cs) = some c := by
  have h1 : aggT Tryz.prog 22 = some false := by kernel_rfl
  simp [vload, vpart, h1]
theorem sz22 : szT Tryz.prog 22 = some 1 := by kernel_rfl
theorem len22 {H : Nat → Option VObj} {cs : List VV} {n : Nat} {f : Bool} : vlen Tryz.prog H 22 (.sl cs n f) = some (.lit (.int .i64 n)) := by simp [vlen, Tryz.underlying22, sls]
theorem lenN22 {H : Nat → Option VObj} : vlen Tryz.prog H 22 (.lit (.slice none 0 0)) = some (.lit (.int .i64 0)) := by simp [vlen, Tryz.underlying22, sls]
theorem lenR22 {H : Nat → Option VObj} {β off n w c : Nat} : vlen Tryz.prog H 22 (.ref β off n w c) = (match H β with | some (.cells _ cs) => if off ≤ cs.length then some (.lit (.int .i64 n)) else none | _ => none) := lenR Tryz.underlying22
theorem et22 : elemT Tryz.prog 22 = some 3 := by simp [elemT, Tryz.underlying22]
theorem ao22 : appOk Tryz.prog 22 = some (3, 1, 8) := by kernel_rfl
theorem tk22 {xs : List Int} : (cellsL eI xs).take (xs.length * 1) = cellsL eI xs := take_cells (fun _ => rfl)
theorem lf22 : ∀ x : Int, leafL (eI x) = true := fun x => by simp only [eI_eq, eU8_eq, eB_eq, eS_eq, eSl_eq, leafL_nil, leafL_cons, leaf_int, leaf_bool, leaf_string, leaf_slice, leaf_sl, Bool.and_self]
theorem ixo22 {xs : List Int} {x : Int} {i : Int} (h : getI xs i = some x) : (∀ (H : Nat → Option VObj) (β c : Nat) (k : IntKind), vindexAddr Tryz.prog H 22 (.ref β 0 xs.length 1 c) (.lit (.int k i)) = if (H β).isSome = true then some (.ptr β (i.toNat * 1)) else none) ∧ (cellsL eI xs).drop (i.toNat * 1) = eI x ++ cellsL eI (xs.drop (i.toNat + 1)) ∧ (i.toNat * 1 ≤ (cellsL eI xs).length) = True := ixO Tryz.underlying22 (by kernel_rfl : szT Tryz.prog 3 = some 1) (fun _ => rfl) h
theorem bs22_1 {a0 : VV} (h : leafL [a0] = true) : vbuildSlice Tryz.prog 22 1 [(0, a0)] = some ([a0], 1) := by
  have h2 : szT Tryz.prog 3 = some 1 := by kernel_rfl
  have h3 : vzero Tryz.prog 3 = some #[.int .i64 0] := by kernel_rfl
  simp only [leafL_cons, leafL_nil, Bool.and_true, Bool.and_eq_true] at h
  simp [vbuildSlice, Tryz.underlying22, h2, h3, vfill, vcells1, h, overwrite, vzeros, List.range_succ]
theorem bs22_2 {a0 a1 : VV} (h : leafL [a0, a1] = true) : vbuildSlice Tryz.prog 22 2 [(0, a0), (1, a1)] = some ([a0, a1], 1) := by
  have h2 : szT Tryz.prog 3 = some 1 := by kernel_rfl
  have h3 : vzero Tryz.prog 3 = some #[.int .i64 0] := by kernel_rfl
  simp only [leafL_cons, leafL_nil, Bool.and_true, Bool.and_eq_true] at h
  simp [vbuildSlice, Tryz.underlying22, h2, h3, vfill, vcells1, h, overwrite, vzeros, List.range_succ]
theorem bs22_3 {a0 a1 a2 : VV} (h : leafL [a0, a1, a2] = true) : vbuildSlice Tryz.prog 22 3 [(0, a0), (1, a1), (2, a2)] = some ([a0, a1, a2], 1) := by
  have h2 : szT Tryz.prog 3 = some 1 := by kernel_rfl
  have h3 : vzero Tryz.prog 3 = some #[.int .i64 0] := by kernel_rfl
  simp only [leafL_cons, leafL_nil, Bool.and_true, Bool.and_eq_true] at h
  simp [vbuildSlice, Tryz.underlying22, h2, h3, vfill, vcells1, h, overwrite, vzeros, List.range_succ]
theorem ix22 {H : Nat → Option VObj} {xs : List Int} {x : Int} {f : Bool} {k : IntKind} {i : Int} (h : getI xs i = some x) : vindexAddr Tryz.prog H 22 (.sl (cellsL eI xs) xs.length f) (.lit (.int k i)) = some (.tp (eI x ++ cellsL eI (xs.drop (i.toNat + 1)))) :=
  ixG Tryz.underlying22 (by kernel_rfl : szT Tryz.prog 3 = some 1) (by decide) (fun _ => rfl) h
theorem ld23 {c : VV} {cs : List VV} : vload Tryz.prog 23 (c :: cs) = some c := by
  have h1 : aggT Tryz.prog 23 = some false := by kernel_rfl
  simp [vload, vpart, h1]
theorem sz23 : szT Tryz.prog 23 = some 1 := by kernel_rfl
theorem len23 {H : Nat → Option VObj} {cs : List VV} {n : Nat} {f : Bool} : vlen Tryz.prog H 23 (.sl cs n f) = some (.lit (.int .i64 n)) := by simp [vlen, Tryz.underlying23, sls]
theorem lenN23 {H : Nat → Option VObj} : vlen Tryz.prog H 23 (.lit (.slice none 0 0)) = some (.lit (.int .i64 0)) := by simp [vlen, Tryz.underlying23, sls]
theorem lenR23 {H : Nat → Option VObj} {β off n w c : Nat} : vlen Tryz.prog H 23 (.ref β off n w c) = (match H β with | some (.cells _ cs) => if off ≤ cs.length then some (.lit (.int .i64 n)) else none | _ => none) := lenR Tryz.underlying23
theorem et23 : elemT Tryz.prog 23 = some 92 := by simp [elemT, Tryz.underlying23]
theorem ao23 : appOk Tryz.prog 23 = some (92, 4, 32) := by kernel_rfl
theorem tk23 {xs : List GLetterPair} : (cellsL cGLetterPair xs).take (xs.length * 4) = cellsL cGLetterPair xs := take_cells (fun _ => rfl)
theorem lf23 : ∀ x : GLetterPair, leafL (cGLetterPair x) = true := fun x => by simp only [eI_eq, eU8_eq, eB_eq, eS_eq, eSl_eq, cGLetterPair_eq, leafL_nil, leafL_cons, leaf_int, leaf_bool, leaf_string, leaf_slice, leaf_sl, Bool.and_self]
theorem ixo23 {xs : List GLetterPair} {x : GLetterPair} {i : Int} (h : getI xs i = some x) : (∀ (H : Nat → Option VObj) (β c : Nat) (k : IntKind), vindexAddr Tryz.prog H 23 (.ref β 0 xs.length 4 c) (.lit (.int k i)) = if (H β).isSome = true then some (.ptr β (i.toNat * 4)) else none) ∧ (cellsL cGLetterPair xs).drop (i.toNat * 4) = cGLetterPair x ++ cellsL cGLetterPair (xs.drop (i.toNat + 1)) ∧ (i.toNat * 4 ≤ (cellsL cGLetterPair xs).length) = True := ixO Tryz.underlying23 (by kernel_rfl : szT Tryz.prog 92 = some 4) (fun _ => rfl) h
theorem bs23_1 {c0 c1 c2 c3 : VV} (h : leafL [c0, c1, c2, c3] = true) : vbuildSlice Tryz.prog 23 1 [(0, .agg [c0, c1, c2, c3])] = some ([c0, c1, c2, c3], 4) := by
  have h2 : szT Tryz.prog 92 = some 4 := by kernel_rfl
  have h3 : vzero Tryz.prog 92 = some #[.int .i64 0, .int .i64 0, .int .i64 0, .int .i64 0] := by kernel_rfl
  simp only [leafL_cons, leafL_nil, Bool.and_true, Bool.and_eq_true] at h
  simp [vbuildSlice, Tryz.underlying23, h2, h3, vfill, vcells, h, overwrite, vzeros]
theorem ix23 {H : Nat → Option VObj} {xs : List GLetterPair} {x : GLetterPair} {f : Bool} {k : IntKind} {i : Int} (h : getI xs i = some x) : vindexAddr Tryz.prog H 23 (.sl (cellsL cGLetterPair xs) xs.length f) (.lit (.int k i)) = some (.tp (cGLetterPair x ++ cellsL cGLetterPair (xs.drop (i.toNat + 1)))) :=
  ixG Tryz.underlying23 (by kernel_rfl : szT Tryz.prog 92 = some 4) (by decide) (fun _ => rfl) h
theorem ld24 {c0 c1 : VV} {cs : List VV} : vload Tryz.prog 24 (c0 :: c1 :: cs) = some (.agg [c0, c1]) := by
  have h1 : aggT Tryz.prog 24 = some true := by kernel_rfl
  have h2 : szT Tryz.prog 24 = some 2 := by kernel_rfl
  simp [vload, vpart, h1, h2]
theorem sz24 : szT Tryz.prog 24 = some 2 := by kernel_rfl
theorem vzl24 : vzl Tryz.prog 24 = some [.lit (.int .i64 0), .lit (.int .i64 0)] := by kernel_rfl
theorem fa24_0 {H : Nat → Option VObj} {cs : List VV} : vfieldAddr Tryz.prog H 24 (.tp cs) 0 = some (.tp (cs.drop 0)) := by
  have h2 : szT Tryz.prog 3 = some 1 := by kernel_rfl
  simp [vfieldAddr, Tryz.underlying24, h2]
theorem fp24_0 {H : Nat → Option VObj} {β o : Nat} : vfieldAddr Tryz.prog H 24 (.ptr β o) 0 = if (H β).isSome = true then some (.ptr β (o + 0)) else none := by
  have h2 : szT Tryz.prog 3 = some 1 := by kernel_rfl
  simp [vfieldAddr, Tryz.underlying24, h2]
theorem fa24_1 {H : Nat → Option VObj} {cs : List VV} : vfieldAddr Tryz.prog H 24 (.tp cs) 1 = some (.tp (cs.drop 1)) := by
  have h2 : szT Tryz.prog 3 = some 1 := by kernel_rfl
  simp [vfieldAddr, Tryz.underlying24, h2]
theorem fp24_1 {H : Nat → Option VObj} {β o : Nat} : vfieldAddr Tryz.prog H 24 (.ptr β o) 1 = if (H β).isSome = true then some (.ptr β (o + 1)) else none := by
  have h2 : szT Tryz.prog 3 = some 1 := by kernel_rfl
  simp [vfieldAddr, Tryz.underlying24, h2]
theorem ld25 {c0 c1 : VV} {cs : List VV} : vload Tryz.prog 25 (c0 :: c1 :: cs) = some (.agg [c0, c1]) := by
  have h1 : aggT Tryz.prog 25 = some true := by kernel_rfl
  have h2 : szT Tryz.prog 25 = some 2 := by kernel_rfl
  simp [vload, vpart, h1, h2]
theorem sz25 : szT Tryz.prog 25 = some 2 := by kernel_rfl
theorem vzl25 : vzl Tryz.prog 25 = some [.lit (.int .i64 0), .lit (.int .i64 0)] := by kernel_rfl
theorem fa25_0 {H : Nat → Option VObj} {cs : List VV} : vfieldAddr Tryz.prog H 25 (.tp cs) 0 = some (.tp (cs.drop 0)) := by
  have h2 : szT Tryz.prog 3 = some 1 := by kernel_rfl
  simp [vfieldAddr, Tryz.underlying25, h2]
theorem fp25_0 {H : Nat → Option VObj} {β o : Nat} : vfieldAddr Tryz.prog H 25 (.ptr β o) 0 = if (H β).isSome = true then some (.ptr β (o + 0)) else none := by
  have h2 : szT Tryz.prog 3 = some 1 := by kernel_rfl
  simp [vfieldAddr, Tryz.underlying25, h2]
theorem fa25_1 {H : Nat → Option VObj} {cs : List VV} : vfieldAddr Tryz.prog H 25 (.tp cs) 1 = some (.tp (cs.drop 1)) := by
  have h2 : szT Tryz.prog 3 = some 1 := by kernel_rfl
  simp [vfieldAddr, Tryz.underlying25, h2]
theorem fp25_1 {H : Nat → Option VObj} {β o : Nat} : vfieldAddr Tryz.prog H 25 (.ptr β o) 1 = if (H β).isSome = true then some (.ptr β (o + 1)) else none := by
  have h2 : szT Tryz.prog 3 = some 1 := by kernel_rfl
  simp [vfieldAddr, Tryz.underlying25, h2]
theorem ld26 {c : VV} {cs : List VV} : vload Tryz.prog 26 (c :: cs) = some c := by
  have h1 : aggT Tryz.prog 26 = some false := by kernel_rfl
  simp [vload, vpart, h1]
theorem sz26 : szT Tryz.prog 26 = some 1 := by kernel_rfl
theorem len26 {H : Nat → Option VObj} {cs : List VV} {n : Nat} {f : Bool} : vlen Tryz.prog H 26 (.sl cs n f) = some (.lit (.int .i64 n)) := by simp [vlen, Tryz.underlying26, sls]
theorem lenN26 {H : Nat → Option VObj} : vlen Tryz.prog H 26 (.lit (.slice none 0 0)) = some (.lit (.int .i64 0)) := by simp [vlen, Tryz.underlying26, sls]
theorem lenR26 {H : Nat → Option VObj} {β off n w c : Nat} : vlen Tryz.prog H 26 (.ref β off n w c) = (match H β with | some (.cells _ cs) => if off ≤ cs.length then some (.lit (.int .i64 n)) else none | _ => none) := lenR Tryz.underlying26
theorem et26 : elemT Tryz.prog 26 = some 49 := by simp [elemT, Tryz.underlying26]
theorem ao26 : appOk Tryz.prog 26 = some (49, 3, 56) := by kernel_rfl
theorem tk26 {xs : List GLetterWord} : (cellsL cGLetterWord xs).take (xs.length * 3) = cellsL cGLetterWord xs := take_cells (fun _ => rfl)
theorem lf26 : ∀ x : GLetterWord, leafL (cGLetterWord x) = true := fun x => by simp only [eI_eq, eU8_eq, eB_eq, eS_eq, eSl_eq, cGLetterWord_eq, leafL_nil, leafL_cons, leaf_int, leaf_bool, leaf_string, leaf_slice, leaf_sl, Bool.and_self]
theorem ixo26 {xs : List GLetterWord} {x : GLetterWord} {i : Int} (h : getI xs i = some x) : (∀ (H : Nat → Option VObj) (β c : Nat) (k : IntKind), vindexAddr Tryz.prog H 26 (.ref β 0 xs.length 3 c) (.lit (.int k i)) = if (H β).isSome = true then some (.ptr β (i.toNat * 3)) else none) ∧ (cellsL cGLetterWord xs).drop (i.toNat * 3) = cGLetterWord x ++ cellsL cGLetterWord (xs.drop (i.toNat + 1)) ∧ (i.toNat * 3 ≤ (cellsL cGLetterWord xs).length) = True := ixO Tryz.underlying26 (by kernel_rfl : szT Tryz.prog 49 = some 3) (fun _ => rfl) h
theorem bs26_1 {c0 c1 c2 : VV} (h : leafL [c0, c1, c2] = true) : vbuildSlice Tryz.prog 26 1 [(0, .agg [c0, c1, c2])] = some ([c0, c1, c2], 3) := by
  have h2 : szT Tryz.prog 49 = some 3 := by kernel_rfl
  have h3 : vzero Tryz.prog 49 = some #[.slice none 0 0, .slice none 0 0, .bool false] := by kernel_rfl
  simp only [leafL_cons, leafL_nil, Bool.and_true, Bool.and_eq_true] at h
  simp [vbuildSlice, Tryz.underlying26, h2, h3, vfill, vcells, h, overwrite, vzeros]
theorem ix26 {H : Nat → Option VObj} {xs : List GLetterWord} {x : GLetterWord} {f : Bool} {k : IntKind} {i : Int} (h : getI xs i = some x) : vindexAddr Tryz.prog H 26 (.sl (cellsL cGLetterWord xs) xs.length f) (.lit (.int k i)) = some (.tp (cGLetterWord x ++ cellsL cGLetterWord (xs.drop (i.toNat + 1)))) :=
  ixG Tryz.underlying26 (by kernel_rfl : szT Tryz.prog 49 = some 3) (by decide) (fun _ => rfl) h
theorem ld27 {c0 c1 c2 c3 c4 c5 c6 c7 c8 c9 : VV} {cs : List VV} : vload Tryz.prog 27 (c0 :: c1 :: c2 :: c3 :: c4 :: c5 :: c6 :: c7 :: c8 :: c9 :: cs) = some (.agg [c0, c1, c2, c3, c4, c5, c6, c7, c8, c9]) := by
  have h1 : aggT Tryz.prog 27 = some true := by kernel_rfl
  have h2 : szT Tryz.prog 27 = some 10 := by kernel_rfl
  simp [vload, vpart, h1, h2]
theorem sz27 : szT Tryz.prog 27 = some 10 := by kernel_rfl
theorem vzl27 : vzl Tryz.prog 27 = some [.lit (.slice none 0 0), .lit (.slice none 0 0), .lit (.int .i64 0), .lit (.int .i64 0), .lit (.int .i64 0), .lit (.int .i64 0), .lit (.int .i64 0), .lit (.slice none 0 0), .lit (.int .i64 0), .lit (.int .i64 0)] := by kernel_rfl
theorem fa27_0 {H : Nat → Option VObj} {cs : List VV} : vfieldAddr Tryz.prog H 27 (.tp cs) 0 = some (.tp (cs.drop 0)) := by
  have h2 : szT Tryz.prog 22 = some 1 := by kernel_rfl
  simp [vfieldAddr, Tryz.underlying27, h2]
theorem fp27_0 {H : Nat → Option VObj} {β o : Nat} : vfieldAddr Tryz.prog H 27 (.ptr β o) 0 = if (H β).isSome = true then some (.ptr β (o + 0)) else none := by
  have h2 : szT Tryz.prog 22 = some 1 := by kernel_rfl
  simp [vfieldAddr, Tryz.underlying27, h2]
theorem fa27_1 {H : Nat → Option VObj} {cs : List VV} : vfieldAddr Tryz.prog H 27 (.tp cs) 1 = some (.tp (cs.drop 1)) := by
  have h2 : szT Tryz.prog 23 = some 1 := by kernel_rfl
  simp [vfieldAddr, Tryz.underlying27, h2]
theorem fp27_1 {H : Nat → Option VObj} {β o : Nat} : vfieldAddr Tryz.prog H 27 (.ptr β o) 1 = if (H β).isSome = true then some (.ptr β (o + 1)) else none := by
  have h2 : szT Tryz.prog 23 = some 1 := by kernel_rfl
  simp [vfieldAddr, Tryz.underlying27, h2]
theorem fa27_2 {H : Nat → Option VObj} {cs : List VV} : vfieldAddr Tryz.prog H 27 (.tp cs) 2 = some (.tp (cs.drop 2)) := by
  have h2 : szT Tryz.prog 25 = some 2 := by kernel_rfl
  simp [vfieldAddr, Tryz.underlying27, h2]
theorem fp27_2 {H : Nat → Option VObj} {β o : Nat} : vfieldAddr Tryz.prog H 27 (.ptr β o) 2 = if (H β).isSome = true then some (.ptr β (o + 2)) else none := by
  have h2 : szT Tryz.prog 25 = some 2 := by kernel_rfl
  simp [vfieldAddr, Tryz.underlying27, h2]
theorem fa27_3 {H : Nat → Option VObj} {cs : List VV} : vfieldAddr Tryz.prog H 27 (.tp cs) 3 = some (.tp (cs.drop 4)) := by
  have h2 : szT Tryz.prog 25 = some 2 := by kernel_rfl
  simp [vfieldAddr, Tryz.underlying27, h2]
theorem fp27_3 {H : Nat → Option VObj} {β o : Nat} : vfieldAddr Tryz.prog H 27 (.ptr β o) 3 = if (H β).isSome = true then some (.ptr β (o + 4)) else none := by
  have h2 : szT Tryz.prog 25 = some 2 := by kernel_rfl
  simp [vfieldAddr, Tryz.underlying27, h2]
theorem fa27_4 {H : Nat → Option VObj} {cs : List VV} : vfieldAddr Tryz.prog H 27 (.tp cs) 4 = some (.tp (cs.drop 6)) := by
  have h2 : szT Tryz.prog 3 = some 1 := by kernel_rfl
  simp [vfieldAddr, Tryz.underlying27, h2]
theorem fp27_4 {H : Nat → Option VObj} {β o : Nat} : vfieldAddr Tryz.prog H 27 (.ptr β o) 4 = if (H β).isSome = true then some (.ptr β (o + 6)) else none := by
  have h2 : szT Tryz.prog 3 = some 1 := by kernel_rfl
  simp [vfieldAddr, Tryz.underlying27, h2]
theorem fa27_5 {H : Nat → Option VObj} {cs : List VV} : vfieldAddr Tryz.prog H 27 (.tp cs) 5 = some (.tp (cs.drop 7)) := by
  have h2 : szT Tryz.prog 26 = some 1 := by kernel_rfl
  simp [vfieldAddr, Tryz.underlying27, h2]
theorem fp27_5 {H : Nat → Option VObj} {β o : Nat} : vfieldAddr Tryz.prog H 27 (.ptr β o) 5 = if (H β).isSome = true then some (.ptr β (o + 7)) else none := by
  have h2 : szT Tryz.prog 26 = some 1 := by kernel_rfl
  simp [vfieldAddr, Tryz.underlying27, h2]
theorem fa27_6 {H : Nat → Option VObj} {cs : List VV} : vfieldAddr Tryz.prog H 27 (.tp cs) 6 = some (.tp (cs.drop 8)) := by
  have h2 : szT Tryz.prog 3 = some 1 := by kernel_rfl
  simp [vfieldAddr, Tryz.underlying27, h2]
theorem fp27_6 {H : Nat → Option VObj} {β o : Nat} : vfieldAddr Tryz.prog H 27 (.ptr β o) 6 = if (H β).isSome = true then some (.ptr β (o + 8)) else none := by
  have h2 : szT Tryz.prog 3 = some 1 := by kernel_rfl
  simp [vfieldAddr, Tryz.underlying27, h2]
theorem fa27_7 {H : Nat → Option VObj} {cs : List VV} : vfieldAddr Tryz.prog H 27 (.tp cs) 7 = some (.tp (cs.drop 9)) := by
  have h2 : szT Tryz.prog 3 = some 1 := by kernel_rfl
  simp [vfieldAddr, Tryz.underlying27, h2]
theorem fp27_7 {H : Nat → Option VObj} {β o : Nat} : vfieldAddr Tryz.prog H 27 (.ptr β o) 7 = if (H β).isSome = true then some (.ptr β (o + 9)) else none := by
  have h2 : szT Tryz.prog 3 = some 1 := by kernel_rfl
  simp [vfieldAddr, Tryz.underlying27, h2]
theorem ld28 {c0 c1 c2 c3 c4 c5 c6 c7 c8 c9 : VV} {cs : List VV} : vload Tryz.prog 28 (c0 :: c1 :: c2 :: c3 :: c4 :: c5 :: c6 :: c7 :: c8 :: c9 :: cs) = some (.agg [c0, c1, c2, c3, c4, c5, c6, c7, c8, c9]) := by
  have h1 : aggT Tryz.prog 28 = some true := by kernel_rfl
  have h2 : szT Tryz.prog 28 = some 10 := by kernel_rfl
  simp [vload, vpart, h1, h2]
theorem sz28 : szT Tryz.prog 28 = some 10 := by kernel_rfl
theorem vzl28 : vzl Tryz.prog 28 = some [.lit (.slice none 0 0), .lit (.slice none 0 0), .lit (.int .i64 0), .lit (.int .i64 0), .lit (.int .i64 0), .lit (.int .i64 0), .lit (.int .i64 0), .lit (.slice none 0 0), .lit (.int .i64 0), .lit (.int .i64 0)] := by kernel_rfl
theorem fa28_0 {H : Nat → Option VObj} {cs : List VV} : vfieldAddr Tryz.prog H 28 (.tp cs) 0 = some (.tp (cs.drop 0)) := by
  have h2 : szT Tryz.prog 22 = some 1 := by kernel_rfl
  simp [vfieldAddr, Tryz.underlying28, h2]
theorem fp28_0 {H : Nat → Option VObj} {β o : Nat} : vfieldAddr Tryz.prog H 28 (.ptr β o) 0 = if (H β).isSome = true then some (.ptr β (o + 0)) else none := by
  have h2 : szT Tryz.prog 22 = some 1 := by kernel_rfl
  simp [vfieldAddr, Tryz.underlying28, h2]
theorem fa28_1 {H : Nat → Option VObj} {cs : List VV} : vfieldAddr Tryz.prog H 28 (.tp cs) 1 = some (.tp (cs.drop 1)) := by
  have h2 : szT Tryz.prog 23 = some 1 := by kernel_rfl
  simp [vfieldAddr, Tryz.underlying28, h2]
theorem fp28_1 {H : Nat → Option VObj} {β o : Nat} : vfieldAddr Tryz.prog H 28 (.ptr β o) 1 = if (H β).isSome = true then some (.ptr β (o + 1)) else none := by
  have h2 : szT Tryz.prog 23 = some 1 := by kernel_rfl
  simp [vfieldAddr, Tryz.underlying28, h2]
theorem fa28_2 {H : Nat → Option VObj} {cs : List VV} : vfieldAddr Tryz.prog H 28 (.tp cs) 2 = some (.tp (cs.drop 2)) := by
  have h2 : szT Tryz.prog 25 = some 2 := by kernel_rfl
  simp [vfieldAddr, Tryz.underlying28, h2]
theorem fp28_2 {H : Nat → Option VObj} {β o : Nat} : vfieldAddr Tryz.prog H 28 (.ptr β o) 2 = if (H β).isSome = true then some (.ptr β (o + 2)) else none := by
  have h2 : szT Tryz.prog 25 = some 2 := by kernel_rfl
  simp [vfieldAddr, Tryz.underlying28, h2]
theorem fa28_3 {H : Nat → Option VObj} {cs : List VV} : vfieldAddr Tryz.prog H 28 (.tp cs) 3 = some (.tp (cs.drop 4)) := by
  have h2 : szT Tryz.prog 25 = some 2 := by kernel_rfl
  simp [vfieldAddr, Tryz.underlying28, h2]
theorem fp28_3 {H : Nat → Option VObj} {β o : Nat} : vfieldAddr Tryz.prog H 28 (.ptr β o) 3 = if (H β).isSome = true then some (.ptr β (o + 4)) else none := by
  have h2 : szT Tryz.prog 25 = some 2 := by kernel_rfl
  simp [vfieldAddr, Tryz.underlying28, h2]
theorem fa28_4 {H : Nat → Option VObj} {cs : List VV} : vfieldAddr Tryz.prog H 28 (.tp cs) 4 = some (.tp (cs.drop 6)) := by
  have h2 : szT Tryz.prog 3 = some 1 := by kernel_rfl
  simp [vfieldAddr, Tryz.underlying28, h2]
theorem fp28_4 {H : Nat → Option VObj} {β o : Nat} : vfieldAddr Tryz.prog H 28 (.ptr β o) 4 = if (H β).isSome = true then some (.ptr β (o + 6)) else none := by
  have h2 : szT Tryz.prog 3 = some 1 := by kernel_rfl
  simp [vfieldAddr, Tryz.underlying28, h2]
theorem fa28_5 {H : Nat → Option VObj} {cs : List VV} : vfieldAddr Tryz.prog H 28 (.tp cs) 5 = some (.tp (cs.drop 7)) := by
  have h2 : szT Tryz.prog 26 = some 1 := by kernel_rfl
  simp [vfieldAddr, Tryz.underlying28, h2]
theorem fp28_5 {H : Nat → Option VObj} {β o : Nat} : vfieldAddr Tryz.prog H 28 (.ptr β o) 5 = if (H β).isSome = true then some (.ptr β (o + 7)) else none := by
  have h2 : szT Tryz.prog 26 = some 1 := by kernel_rfl
  simp [vfieldAddr, Tryz.underlying28, h2]
theorem fa28_6 {H : Nat → Option VObj} {cs : List VV} : vfieldAddr Tryz.prog H 28 (.tp cs) 6 = some (.tp (cs.drop 8)) := by
  have h2 : szT Tryz.prog 3 = some 1 := by kernel_rfl
  simp [vfieldAddr, Tryz.underlying28, h2]
theorem fp28_6 {H : Nat → Option VObj} {β o : Nat} : vfieldAddr Tryz.prog H 28 (.ptr β o) 6 = if (H β).isSome = true then some (.ptr β (o + 8)) else none := by
  have h2 : szT Tryz.prog 3 = some 1 := by kernel_rfl
  simp [vfieldAddr, Tryz.underlying28, h2]
theorem fa28_7 {H : Nat → Option VObj} {cs : List VV} : vfieldAddr Tryz.prog H 28 (.tp cs) 7 = some (.tp (cs.drop 9)) := by
  have h2 : szT Tryz.prog 3 = some 1 := by kernel_rfl
  simp [vfieldAddr, Tryz.underlying28, h2]
theorem fp28_7 {H : Nat → Option VObj} {β o : Nat} : vfieldAddr Tryz.prog H 28 (.ptr β o) 7 = if (H β).isSome = true then some (.ptr β (o + 9)) else none := by
  have h2 : szT Tryz.prog 3 = some 1 := by kernel_rfl
  simp [vfieldAddr, Tryz.underlying28, h2]
theorem ld29 {c : VV} {cs : List VV} : vload Tryz.prog 29 (c :: cs) = some c := by
  have h1 : aggT Tryz.prog 29 = some false := by kernel_rfl
  simp [vload, vpart, h1]
theorem sz29 : szT Tryz.prog 29 = some 1 := by kernel_rfl
theorem len29 {H : Nat → Option VObj} {cs : List VV} {n : Nat} {f : Bool} : vlen Tryz.prog H 29 (.sl cs n f) = some (.lit (.int .i64 n)) := by simp [vlen, Tryz.underlying29, sls]
theorem lenN29 {H : Nat → Option VObj} : vlen Tryz.prog H 29 (.lit (.slice none 0 0)) = some (.lit (.int .i64 0)) := by simp [vlen, Tryz.underlying29, sls]
theorem lenR29 {H : Nat → Option VObj} {β off n w c : Nat} : vlen Tryz.prog H 29 (.ref β off n w c) = (match H β with | some (.cells _ cs) => if off ≤ cs.length then some (.lit (.int .i64 n)) else none | _ => none) := lenR Tryz.underlying29
theorem et29 : elemT Tryz.prog 29 = some 81 := by simp [elemT, Tryz.underlying29]
theorem ao29 : appOk Tryz.prog 29 = some (81, 2, 16) := by kernel_rfl
theorem tk29 {xs : List GLetterEnd} : (cellsL cGLetterEnd xs).take (xs.length * 2) = cellsL cGLetterEnd xs := take_cells (fun _ => rfl)
theorem lf29 : ∀ x : GLetterEnd, leafL (cGLetterEnd x) = true := fun x => by simp only [eI_eq, eU8_eq, eB_eq, eS_eq, eSl_eq, cGLetterEnd_eq, leafL_nil, leafL_cons, leaf_int, leaf_bool, leaf_string, leaf_slice, leaf_sl, Bool.and_self]
theorem ixo29 {xs : List GLetterEnd} {x : GLetterEnd} {i : Int} (h : getI xs i = some x) : (∀ (H : Nat → Option VObj) (β c : Nat) (k : IntKind), vindexAddr Tryz.prog H 29 (.ref β 0 xs.length 2 c) (.lit (.int k i)) = if (H β).isSome = true then some (.ptr β (i.toNat * 2)) else none) ∧ (cellsL cGLetterEnd xs).drop (i.toNat * 2) = cGLetterEnd x ++ cellsL cGLetterEnd (xs.drop (i.toNat + 1)) ∧ (i.toNat * 2 ≤ (cellsL cGLetterEnd xs).length) = True := ixO Tryz.underlying29 (by kernel_rfl : szT Tryz.prog 81 = some 2) (fun _ => rfl) h
theorem bs29_1 {c0 c1 : VV} (h : leafL [c0, c1] = true) : vbuildSlice Tryz.prog 29 1 [(0, .agg [c0, c1])] = some ([c0, c1], 2) := by
  have h2 : szT Tryz.prog 81 = some 2 := by kernel_rfl
  have h3 : vzero Tryz.prog 81 = some #[.int .i64 0, .int .i64 0] := by kernel_rfl
  simp only [leafL_cons, leafL_nil, Bool.and_true, Bool.and_eq_true] at h
  simp [vbuildSlice, Tryz.underlying29, h2, h3, vfill, vcells, h, overwrite, vzeros]
theorem ix29 {H : Nat → Option VObj} {xs : List GLetterEnd} {x : GLetterEnd} {f : Bool} {k : IntKind} {i : Int} (h : getI xs i = some x) : vindexAddr Tryz.prog H 29 (.sl (cellsL cGLetterEnd xs) xs.length f) (.lit (.int k i)) = some (.tp (cGLetterEnd x ++ cellsL cGLetterEnd (xs.drop (i.toNat + 1)))) :=
  ixG Tryz.underlying29 (by kernel_rfl : szT Tryz.prog 81 = some 2) (by decide) (fun _ => rfl) h
theorem ld30 {c0 c1 : VV} {cs : List VV} : vload Tryz.prog 30 (c0 :: c1 :: cs) = some (.agg [c0, c1]) := by
  have h1 : aggT Tryz.prog 30 = some true := by kernel_rfl
  have h2 : szT Tryz.prog 30 = some 2 := by kernel_rfl
  simp [vload, vpart, h1, h2]
theorem sz30 : szT Tryz.prog 30 = some 2 := by kernel_rfl
theorem vzl30 : vzl Tryz.prog 30 = some [.lit (.slice none 0 0), .lit (.slice none 0 0)] := by kernel_rfl
theorem fa30_0 {H : Nat → Option VObj} {cs : List VV} : vfieldAddr Tryz.prog H 30 (.tp cs) 0 = some (.tp (cs.drop 0)) := by
  have h2 : szT Tryz.prog 22 = some 1 := by kernel_rfl
  simp [vfieldAddr, Tryz.underlying30, h2]
theorem fp30_0 {H : Nat → Option VObj} {β o : Nat} : vfieldAddr Tryz.prog H 30 (.ptr β o) 0 = if (H β).isSome = true then some (.ptr β (o + 0)) else none := by
  have h2 : szT Tryz.prog 22 = some 1 := by kernel_rfl
  simp [vfieldAddr, Tryz.underlying30, h2]
theorem fa30_1 {H : Nat → Option VObj} {cs : List VV} : vfieldAddr Tryz.prog H 30 (.tp cs) 1 = some (.tp (cs.drop 1)) := by
  have h2 : szT Tryz.prog 29 = some 1 := by kernel_rfl
  simp [vfieldAddr, Tryz.underlying30, h2]
theorem fp30_1 {H : Nat → Option VObj} {β o : Nat} : vfieldAddr Tryz.prog H 30 (.ptr β o) 1 = if (H β).isSome = true then some (.ptr β (o + 1)) else none := by
  have h2 : szT Tryz.prog 29 = some 1 := by kernel_rfl
  simp [vfieldAddr, Tryz.underlying30, h2]
theorem ld31 {c0 c1 : VV} {cs : List VV} : vload Tryz.prog 31 (c0 :: c1 :: cs) = some (.agg [c0, c1]) := by
  have h1 : aggT Tryz.prog 31 = some true := by kernel_rfl
  have h2 : szT Tryz.prog 31 = some 2 := by kernel_rfl
  simp [vload, vpart, h1, h2]
theorem sz31 : szT Tryz.prog 31 = some 2 := by kernel_rfl
theorem vzl31 : vzl Tryz.prog 31 = some [.lit (.slice none 0 0), .lit (.slice none 0 0)] := by kernel_rfl
theorem fa31_0 {H : Nat → Option VObj} {cs : List VV} : vfieldAddr Tryz.prog H 31 (.tp cs) 0 = some (.tp (cs.drop 0)) := by
  have h2 : szT Tryz.prog 22 = some 1 := by kernel_rfl
  simp [vfieldAddr, Tryz.underlying31, h2]
theorem fp31_0 {H : Nat → Option VObj} {β o : Nat} : vfieldAddr Tryz.prog H 31 (.ptr β o) 0 = if (H β).isSome = true then some (.ptr β (o + 0)) else none := by
  have h2 : szT Tryz.prog 22 = some 1 := by kernel_rfl
  simp [vfieldAddr, Tryz.underlying31, h2]
theorem fa31_1 {H : Nat → Option VObj} {cs : List VV} : vfieldAddr Tryz.prog H 31 (.tp cs) 1 = some (.tp (cs.drop 1)) := by
  have h2 : szT Tryz.prog 29 = some 1 := by kernel_rfl
  simp [vfieldAddr, Tryz.underlying31, h2]
theorem fp31_1 {H : Nat → Option VObj} {β o : Nat} : vfieldAddr Tryz.prog H 31 (.ptr β o) 1 = if (H β).isSome = true then some (.ptr β (o + 1)) else none := by
  have h2 : szT Tryz.prog 29 = some 1 := by kernel_rfl
  simp [vfieldAddr, Tryz.underlying31, h2]
theorem ld35 {c : VV} {cs : List VV} : vload Tryz.prog 35 (c :: cs) = some c := by
  have h1 : aggT Tryz.prog 35 = some false := by kernel_rfl
  simp [vload, vpart, h1]
theorem sz35 : szT Tryz.prog 35 = some 1 := by kernel_rfl
theorem ld48 {c0 c1 c2 : VV} {cs : List VV} : vload Tryz.prog 48 (c0 :: c1 :: c2 :: cs) = some (.agg [c0, c1, c2]) := by
  have h1 : aggT Tryz.prog 48 = some true := by kernel_rfl
  have h2 : szT Tryz.prog 48 = some 3 := by kernel_rfl
  simp [vload, vpart, h1, h2]
theorem sz48 : szT Tryz.prog 48 = some 3 := by kernel_rfl
theorem vzl48 : vzl Tryz.prog 48 = some [.lit (.slice none 0 0), .lit (.slice none 0 0), .lit (.bool false)] := by kernel_rfl
theorem fa48_0 {H : Nat → Option VObj} {cs : List VV} : vfieldAddr Tryz.prog H 48 (.tp cs) 0 = some (.tp (cs.drop 0)) := by
  have h2 : szT Tryz.prog 22 = some 1 := by kernel_rfl
  simp [vfieldAddr, Tryz.underlying48, h2]
theorem fp48_0 {H : Nat → Option VObj} {β o : Nat} : vfieldAddr Tryz.prog H 48 (.ptr β o) 0 = if (H β).isSome = true then some (.ptr β (o + 0)) else none := by
  have h2 : szT Tryz.prog 22 = some 1 := by kernel_rfl
  simp [vfieldAddr, Tryz.underlying48, h2]
theorem fa48_1 {H : Nat → Option VObj} {cs : List VV} : vfieldAddr Tryz.prog H 48 (.tp cs) 1 = some (.tp (cs.drop 1)) := by
  have h2 : szT Tryz.prog 22 = some 1 := by kernel_rfl
  simp [vfieldAddr, Tryz.underlying48, h2]
theorem fp48_1 {H : Nat → Option VObj} {β o : Nat} : vfieldAddr Tryz.prog H 48 (.ptr β o) 1 = if (H β).isSome = true then some (.ptr β (o + 1)) else none := by
  have h2 : szT Tryz.prog 22 = some 1 := by kernel_rfl
  simp [vfieldAddr, Tryz.underlying48, h2]
theorem fa48_2 {H : Nat → Option VObj} {cs : List VV} : vfieldAddr Tryz.prog H 48 (.tp cs) 2 = some (.tp (cs.drop 2)) := by
  have h2 : szT Tryz.prog 4 = some 1 := by kernel_rfl
  simp [vfieldAddr, Tryz.underlying48, h2]
theorem fp48_2 {H : Nat → Option VObj} {β o : Nat} : vfieldAddr Tryz.prog H 48 (.ptr β o) 2 = if (H β).isSome = true then some (.ptr β (o + 2)) else none := by
  have h2 : szT Tryz.prog 4 = some 1 := by kernel_rfl
  simp [vfieldAddr, Tryz.underlying48, h2]
theorem ld49 {c0 c1 c2 : VV} {cs : List VV} : vload Tryz.prog 49 (c0 :: c1 :: c2 :: cs) = some (.agg [c0, c1, c2]) := by
  have h1 : aggT Tryz.prog 49 = some true := by kernel_rfl
  have h2 : szT Tryz.prog 49 = some 3 := by kernel_rfl
  simp [vload, vpart, h1, h2]
theorem sz49 : szT Tryz.prog 49 = some 3 := by kernel_rfl
theorem vzl49 : vzl Tryz.prog 49 = some [.lit (.slice none 0 0), .lit (.slice none 0 0), .lit (.bool false)] := by kernel_rfl
theorem fa49_0 {H : Nat → Option VObj} {cs : List VV} : vfieldAddr Tryz.prog H 49 (.tp cs) 0 = some (.tp (cs.drop 0)) := by
  have h2 : szT Tryz.prog 22 = some 1 := by kernel_rfl
  simp [vfieldAddr, Tryz.underlying49, h2]
theorem fp49_0 {H : Nat → Option VObj} {β o : Nat} : vfieldAddr Tryz.prog H 49 (.ptr β o) 0 = if (H β).isSome = true then some (.ptr β (o + 0)) else none := by
  have h2 : szT Tryz.prog 22 = some 1 := by kernel_rfl
  simp [vfieldAddr, Tryz.underlying49, h2]
theorem fa49_1 {H : Nat → Option VObj} {cs : List VV} : vfieldAddr Tryz.prog H 49 (.tp cs) 1 = some (.tp (cs.drop 1)) := by
  have h2 : szT Tryz.prog 22 = some 1 := by kernel_rfl
  simp [vfieldAddr, Tryz.underlying49, h2]
theorem fp49_1 {H : Nat → Option VObj} {β o : Nat} : vfieldAddr Tryz.prog H 49 (.ptr β o) 1 = if (H β).isSome = true then some (.ptr β (o + 1)) else none := by
  have h2 : szT Tryz.prog 22 = some 1 := by kernel_rfl
  simp [vfieldAddr, Tryz.underlying49, h2]
theorem fa49_2 {H : Nat → Option VObj} {cs : List VV} : vfieldAddr Tryz.prog H 49 (.tp cs) 2 = some (.tp (cs.drop 2)) := by
  have h2 : szT Tryz.prog 4 = some 1 := by kernel_rfl
  simp [vfieldAddr, Tryz.underlying49, h2]
theorem fp49_2 {H : Nat → Option VObj} {β o : Nat} : vfieldAddr Tryz.prog H 49 (.ptr β o) 2 = if (H β).isSome = true then some (.ptr β (o + 2)) else none := by
  have h2 : szT Tryz.prog 4 = some 1 := by kernel_rfl
  simp [vfieldAddr, Tryz.underlying49, h2]
theorem ld58 {c : VV} {cs : List VV} : vload Tryz.prog 58 (c :: cs) = some c := by
  have h1 : aggT Tryz.prog 58 = some false := by kernel_rfl
  simp [vload, vpart, h1]
theorem sz58 : szT Tryz.prog 58 = some 1 := by kernel_rfl
theorem len58 {H : Nat → Option VObj} {cs : List VV} {n : Nat} {f : Bool} : vlen Tryz.prog H 58 (.sl cs n f) = some (.lit (.int .i64 n)) := by simp [vlen, Tryz.underlying58, sls]
theorem lenN58 {H : Nat → Option VObj} : vlen Tryz.prog H 58 (.lit (.slice none 0 0)) = some (.lit (.int .i64 0)) := by simp [vlen, Tryz.underlying58, sls]
theorem lenR58 {H : Nat → Option VObj} {β off n w c : Nat} : vlen Tryz.prog H 58 (.ref β off n w c) = (match H β with | some (.cells _ cs) => if off ≤ cs.length then some (.lit (.int .i64 n)) else none | _ => none) := lenR Tryz.underlying58
theorem et58 : elemT Tryz.prog 58 = some 22 := by simp [elemT, Tryz.underlying58]
theorem ao58 : appOk Tryz.prog 58 = some (22, 1, 24) := by kernel_rfl
theorem tk58 {xs : List (List Int)} : (cellsL (eSl eI) xs).take (xs.length * 1) = cellsL (eSl eI) xs := take_cells (fun _ => rfl)
theorem lf58 : ∀ x : (List Int), leafL ((eSl eI) x) = true := fun x => by simp only [eI_eq, eU8_eq, eB_eq, eS_eq, eSl_eq, leafL_nil, leafL_cons, leaf_int, leaf_bool, leaf_string, leaf_slice, leaf_sl, Bool.and_self]
theorem ixo58 {xs : List (List Int)} {x : (List Int)} {i : Int} (h : getI xs i = some x) : (∀ (H : Nat → Option VObj) (β c : Nat) (k : IntKind), vindexAddr Tryz.prog H 58 (.ref β 0 xs.length 1 c) (.lit (.int k i)) = if (H β).isSome = true then some (.ptr β (i.toNat * 1)) else none) ∧ (cellsL (eSl eI) xs).drop (i.toNat * 1) = (eSl eI) x ++ cellsL (eSl eI) (xs.drop (i.toNat + 1)) ∧ (i.toNat * 1 ≤ (cellsL (eSl eI) xs).length) = True := ixO Tryz.underlying58 (by kernel_rfl : szT Tryz.prog 22 = some 1) (fun _ => rfl) h
theorem bs58_1 {a0 : VV} (h : leafL [a0] = true) : vbuildSlice Tryz.prog 58 1 [(0, a0)] = some ([a0], 1) := by
  have h2 : szT Tryz.prog 22 = some 1 := by kernel_rfl
  have h3 : vzero Tryz.prog 22 = some #[.slice none 0 0] := by kernel_rfl
  simp only [leafL_cons, leafL_nil, Bool.and_true, Bool.and_eq_true] at h
  simp [vbuildSlice, Tryz.underlying58, h2, h3, vfill, vcells1, h, overwrite, vzeros, List.range_succ]
theorem bs58_2 {a0 a1 : VV} (h : leafL [a0, a1] = true) : vbuildSlice Tryz.prog 58 2 [(0, a0), (1, a1)] = some ([a0, a1], 1) := by
  have h2 : szT Tryz.prog 22 = some 1 := by kernel_rfl
  have h3 : vzero Tryz.prog 22 = some #[.slice none 0 0] := by kernel_rfl
  simp only [leafL_cons, leafL_nil, Bool.and_true, Bool.and_eq_true] at h
  simp [vbuildSlice, Tryz.underlying58, h2, h3, vfill, vcells1, h, overwrite, vzeros, List.range_succ]
theorem bs58_3 {a0 a1 a2 : VV} (h : leafL [a0, a1, a2] = true) : vbuildSlice Tryz.prog 58 3 [(0, a0), (1, a1), (2, a2)] = some ([a0, a1, a2], 1) := by
  have h2 : szT Tryz.prog 22 = some 1 := by kernel_rfl
  have h3 : vzero Tryz.prog 22 = some #[.slice none 0 0] := by kernel_rfl
  simp only [leafL_cons, leafL_nil, Bool.and_true, Bool.and_eq_true] at h
  simp [vbuildSlice, Tryz.underlying58, h2, h3, vfill, vcells1, h, overwrite, vzeros, List.range_succ]
theorem ix58 {H : Nat → Option VObj} {xs : List (List Int)} {x : (List Int)} {f : Bool} {k : IntKind} {i : Int} (h : getI xs i = some x) : vindexAddr Tryz.prog H 58 (.sl (cellsL (eSl eI) xs) xs.length f) (.lit (.int k i)) = some (.tp ((eSl eI) x ++ cellsL (eSl eI) (xs.drop (i.toNat + 1)))) :=
  ixG Tryz.underlying58 (by kernel_rfl : szT Tryz.prog 22 = some 1) (by decide) (fun _ => rfl) h
theorem ld71 {c : VV} {cs : List VV} : vload Tryz.prog 71 (c :: cs) = some c := by
  have h1 : aggT Tryz.prog 71 = some false := by kernel_rfl
  simp [vload, vpart, h1]
theorem sz71 : szT Tryz.prog 71 = some 1 := by kernel_rfl
theorem len71 {H : Nat → Option VObj} {cs : List VV} {n : Nat} {f : Bool} : vlen Tryz.prog H 71 (.sl cs n f) = some (.lit (.int .i64 n)) := by simp [vlen, Tryz.underlying71, sls]
theorem lenN71 {H : Nat → Option VObj} : vlen Tryz.prog H 71 (.lit (.slice none 0 0)) = some (.lit (.int .i64 0)) := by simp [vlen, Tryz.underlying71, sls]
theorem lenR71 {H : Nat → Option VObj} {β off n w c : Nat} : vlen Tryz.prog H 71 (.ref β off n w c) = (match H β with | some (.cells _ cs) => if off ≤ cs.length then some (.lit (.int .i64 n)) else none | _ => none) := lenR Tryz.underlying71
theorem et71 : elemT Tryz.prog 71 = some 129 := by simp [elemT, Tryz.underlying71]
theorem ao71 : appOk Tryz.prog 71 = some (129, 4, 32) := by kernel_rfl
theorem tk71 {xs : List Glettermark} : (cellsL cGlettermark xs).take (xs.length * 4) = cellsL cGlettermark xs := take_cells (fun _ => rfl)
theorem lf71 : ∀ x : Glettermark, leafL (cGlettermark x) = true := fun x => by simp only [eI_eq, eU8_eq, eB_eq, eS_eq, eSl_eq, cGlettermark_eq, leafL_nil, leafL_cons, leaf_int, leaf_bool, leaf_string, leaf_slice, leaf_sl, Bool.and_self]
theorem ixo71 {xs : List Glettermark} {x : Glettermark} {i : Int} (h : getI xs i = some x) : (∀ (H : Nat → Option VObj) (β c : Nat) (k : IntKind), vindexAddr Tryz.prog H 71 (.ref β 0 xs.length 4 c) (.lit (.int k i)) = if (H β).isSome = true then some (.ptr β (i.toNat * 4)) else none) ∧ (cellsL cGlettermark xs).drop (i.toNat * 4) = cGlettermark x ++ cellsL cGlettermark (xs.drop (i.toNat + 1)) ∧ (i.toNat * 4 ≤ (cellsL cGlettermark xs).length) = True := ixO Tryz.underlying71 (by kernel_rfl : szT Tryz.prog 129 = some 4) (fun _ => rfl) h
theorem bs71_1 {c0 c1 c2 c3 : VV} (h : leafL [c0, c1, c2, c3] = true) : vbuildSlice Tryz.prog 71 1 [(0, .agg [c0, c1, c2, c3])] = some ([c0, c1, c2, c3], 4) := by
  have h2 : szT Tryz.prog 129 = some 4 := by kernel_rfl
  have h3 : vzero Tryz.prog 129 = some #[.int .i64 0, .int .i64 0, .int .i64 0, .bool false] := by kernel_rfl
  simp only [leafL_cons, leafL_nil, Bool.and_true, Bool.and_eq_true] at h
  simp [vbuildSlice, Tryz.underlying71, h2, h3, vfill, vcells, h, overwrite, vzeros]
theorem ix71 {H : Nat → Option VObj} {xs : List Glettermark} {x : Glettermark} {f : Bool} {k : IntKind} {i : Int} (h : getI xs i = some x) : vindexAddr Tryz.prog H 71 (.sl (cellsL cGlettermark xs) xs.length f) (.lit (.int k i)) = some (.tp (cGlettermark x ++ cellsL cGlettermark (xs.drop (i.toNat + 1)))) :=
  ixG Tryz.underlying71 (by kernel_rfl : szT Tryz.prog 129 = some 4) (by decide) (fun _ => rfl) h
theorem ld80 {c0 c1 : VV} {cs : List VV} : vload Tryz.prog 80 (c0 :: c1 :: cs) = some (.agg [c0, c1]) := by
  have h1 : aggT Tryz.prog 80 = some true := by kernel_rfl
  have h2 : szT Tryz.prog 80 = some 2 := by kernel_rfl
  simp [vload, vpart, h1, h2]
theorem sz80 : szT Tryz.prog 80 = some 2 := by kernel_rfl
theorem vzl80 : vzl Tryz.prog 80 = some [.lit (.int .i64 0), .lit (.int .i64 0)] := by kernel_rfl
theorem fa80_0 {H : Nat → Option VObj} {cs : List VV} : vfieldAddr Tryz.prog H 80 (.tp cs) 0 = some (.tp (cs.drop 0)) := by
  have h2 : szT Tryz.prog 3 = some 1 := by kernel_rfl
  simp [vfieldAddr, Tryz.underlying80, h2]
theorem fp80_0 {H : Nat → Option VObj} {β o : Nat} : vfieldAddr Tryz.prog H 80 (.ptr β o) 0 = if (H β).isSome = true then some (.ptr β (o + 0)) else none := by
  have h2 : szT Tryz.prog 3 = some 1 := by kernel_rfl
  simp [vfieldAddr, Tryz.underlying80, h2]
theorem fa80_1 {H : Nat → Option VObj} {cs : List VV} : vfieldAddr Tryz.prog H 80 (.tp cs) 1 = some (.tp (cs.drop 1)) := by
  have h2 : szT Tryz.prog 3 = some 1 := by kernel_rfl
  simp [vfieldAddr, Tryz.underlying80, h2]
theorem fp80_1 {H : Nat → Option VObj} {β o : Nat} : vfieldAddr Tryz.prog H 80 (.ptr β o) 1 = if (H β).isSome = true then some (.ptr β (o + 1)) else none := by
  have h2 : szT Tryz.prog 3 = some 1 := by kernel_rfl
  simp [vfieldAddr, Tryz.underlying80, h2]
theorem ld81 {c0 c1 : VV} {cs : List VV} : vload Tryz.prog 81 (c0 :: c1 :: cs) = some (.agg [c0, c1]) := by
  have h1 : aggT Tryz.prog 81 = some true := by kernel_rfl
  have h2 : szT Tryz.prog 81 = some 2 := by kernel_rfl
  simp [vload, vpart, h1, h2]
theorem sz81 : szT Tryz.prog 81 = some 2 := by kernel_rfl
theorem vzl81 : vzl Tryz.prog 81 = some [.lit (.int .i64 0), .lit (.int .i64 0)] := by kernel_rfl
theorem fa81_0 {H : Nat → Option VObj} {cs : List VV} : vfieldAddr Tryz.prog H 81 (.tp cs) 0 = some (.tp (cs.drop 0)) := by
  have h2 : szT Tryz.prog 3 = some 1 := by kernel_rfl
  simp [vfieldAddr, Tryz.underlying81, h2]
theorem fp81_0 {H : Nat → Option VObj} {β o : Nat} : vfieldAddr Tryz.prog H 81 (.ptr β o) 0 = if (H β).isSome = true then some (.ptr β (o + 0)) else none := by
  have h2 : szT Tryz.prog 3 = some 1 := by kernel_rfl
  simp [vfieldAddr, Tryz.underlying81, h2]
theorem fa81_1 {H : Nat → Option VObj} {cs : List VV} : vfieldAddr Tryz.prog H 81 (.tp cs) 1 = some (.tp (cs.drop 1)) := by
  have h2 : szT Tryz.prog 3 = some 1 := by kernel_rfl
  simp [vfieldAddr, Tryz.underlying81, h2]
theorem fp81_1 {H : Nat → Option VObj} {β o : Nat} : vfieldAddr Tryz.prog H 81 (.ptr β o) 1 = if (H β).isSome = true then some (.ptr β (o + 1)) else none := by
  have h2 : szT Tryz.prog 3 = some 1 := by kernel_rfl
  simp [vfieldAddr, Tryz.underlying81, h2]
theorem ld85 {c : VV} {cs : List VV} : vload Tryz.prog 85 (c :: cs) = some c := by
  have h1 : aggT Tryz.prog 85 = some false := by kernel_rfl
  simp [vload, vpart, h1]
theorem sz85 : szT Tryz.prog 85 = some 1 := by kernel_rfl
theorem len85 {H : Nat → Option VObj} {cs : List VV} {n : Nat} {f : Bool} : vlen Tryz.prog H 85 (.sl cs n f) = some (.lit (.int .i64 n)) := by simp [vlen, Tryz.underlying85, sls]
theorem lenN85 {H : Nat → Option VObj} : vlen Tryz.prog H 85 (.lit (.slice none 0 0)) = some (.lit (.int .i64 0)) := by simp [vlen, Tryz.underlying85, sls]
theorem lenR85 {H : Nat → Option VObj} {β off n w c : Nat} : vlen Tryz.prog H 85 (.ref β off n w c) = (match H β with | some (.cells _ cs) => if off ≤ cs.length then some (.lit (.int .i64 n)) else none | _ => none) := lenR Tryz.underlying85
theorem et85 : elemT Tryz.prog 85 = some 88 := by simp [elemT, Tryz.underlying85]
theorem ao85 : appOk Tryz.prog 85 = some (88, 1, 24) := by kernel_rfl
theorem tk85 {xs : List (List Gmahlstickref01Letter)} : (cellsL (eSl cGmahlstickref01Letter) xs).take (xs.length * 1) = cellsL (eSl cGmahlstickref01Letter) xs := take_cells (fun _ => rfl)
theorem lf85 : ∀ x : (List Gmahlstickref01Letter), leafL ((eSl cGmahlstickref01Letter) x) = true := fun x => by simp only [eI_eq, eU8_eq, eB_eq, eS_eq, eSl_eq, leafL_nil, leafL_cons, leaf_int, leaf_bool, leaf_string, leaf_slice, leaf_sl, Bool.and_self]
theorem ixo85 {xs : List (List Gmahlstickref01Letter)} {x : (List Gmahlstickref01Letter)} {i : Int} (h : getI xs i = some x) : (∀ (H : Nat → Option VObj) (β c : Nat) (k : IntKind), vindexAddr Tryz.prog H 85 (.ref β 0 xs.length 1 c) (.lit (.int k i)) = if (H β).isSome = true then some (.ptr β (i.toNat * 1)) else none) ∧ (cellsL (eSl cGmahlstickref01Letter) xs).drop (i.toNat * 1) = (eSl cGmahlstickref01Letter) x ++ cellsL (eSl cGmahlstickref01Letter) (xs.drop (i.toNat + 1)) ∧ (i.toNat * 1 ≤ (cellsL (eSl cGmahlstickref01Letter) xs).length) = True := ixO Tryz.underlying85 (by kernel_rfl : szT Tryz.prog 88 = some 1) (fun _ => rfl) h
theorem bs85_1 {a0 : VV} (h : leafL [a0] = true) : vbuildSlice Tryz.prog 85 1 [(0, a0)] = some ([a0], 1) := by
  have h2 : szT Tryz.prog 88 = some 1 := by kernel_rfl
  have h3 : vzero Tryz.prog 88 = some #[.slice none 0 0] := by kernel_rfl
  simp only [leafL_cons, leafL_nil, Bool.and_true, Bool.and_eq_true] at h
  simp [vbuildSlice, Tryz.underlying85, h2, h3, vfill, vcells1, h, overwrite, vzeros, List.range_succ]
theorem bs85_2 {a0 a1 : VV} (h : leafL [a0, a1] = true) : vbuildSlice Tryz.prog 85 2 [(0, a0), (1, a1)] = some ([a0, a1], 1) := by
  have h2 : szT Tryz.prog 88 = some 1 := by kernel_rfl
  have h3 : vzero Tryz.prog 88 = some #[.slice none 0 0] := by kernel_rfl
  simp only [leafL_cons, leafL_nil, Bool.and_true, Bool.and_eq_true] at h
  simp [vbuildSlice, Tryz.underlying85, h2, h3, vfill, vcells1, h, overwrite, vzeros, List.range_succ]
theorem bs85_3 {a0 a1 a2 : VV} (h : leafL [a0, a1, a2] = true) : vbuildSlice Tryz.prog 85 3 [(0, a0), (1, a1), (2, a2)] = some ([a0, a1, a2], 1) := by
  have h2 : szT Tryz.prog 88 = some 1 := by kernel_rfl
  have h3 : vzero Tryz.prog 88 = some #[.slice none 0 0] := by kernel_rfl
  simp only [leafL_cons, leafL_nil, Bool.and_true, Bool.and_eq_true] at h
  simp [vbuildSlice, Tryz.underlying85, h2, h3, vfill, vcells1, h, overwrite, vzeros, List.range_succ]
theorem ix85 {H : Nat → Option VObj} {xs : List (List Gmahlstickref01Letter)} {x : (List Gmahlstickref01Letter)} {f : Bool} {k : IntKind} {i : Int} (h : getI xs i = some x) : vindexAddr Tryz.prog H 85 (.sl (cellsL (eSl cGmahlstickref01Letter) xs) xs.length f) (.lit (.int k i)) = some (.tp ((eSl cGmahlstickref01Letter) x ++ cellsL (eSl cGmahlstickref01Letter) (xs.drop (i.toNat + 1)))) :=
  ixG Tryz.underlying85 (by kernel_rfl : szT Tryz.prog 88 = some 1) (by decide) (fun _ => rfl) h
theorem ld88 {c : VV} {cs : List VV} : vload Tryz.prog 88 (c :: cs) = some c := by
  have h1 : aggT Tryz.prog 88 = some false := by kernel_rfl
  simp [vload, vpart, h1]
theorem sz88 : szT Tryz.prog 88 = some 1 := by kernel_rfl
theorem len88 {H : Nat → Option VObj} {cs : List VV} {n : Nat} {f : Bool} : vlen Tryz.prog H 88 (.sl cs n f) = some (.lit (.int .i64 n)) := by simp [vlen, Tryz.underlying88, sls]
theorem lenN88 {H : Nat → Option VObj} : vlen Tryz.prog H 88 (.lit (.slice none 0 0)) = some (.lit (.int .i64 0)) := by simp [vlen, Tryz.underlying88, sls]
theorem lenR88 {H : Nat → Option VObj} {β off n w c : Nat} : vlen Tryz.prog H 88 (.ref β off n w c) = (match H β with | some (.cells _ cs) => if off ≤ cs.length then some (.lit (.int .i64 n)) else none | _ => none) := lenR Tryz.underlying88
theorem et88 : elemT Tryz.prog 88 = some 136 := by simp [elemT, Tryz.underlying88]
theorem ao88 : appOk Tryz.prog 88 = some (136, 2, 16) := by kernel_rfl
theorem tk88 {xs : List Gmahlstickref01Letter} : (cellsL cGmahlstickref01Letter xs).take (xs.length * 2) = cellsL cGmahlstickref01Letter xs := take_cells (fun _ => rfl)
theorem lf88 : ∀ x : Gmahlstickref01Letter, leafL (cGmahlstickref01Letter x) = true := fun x => by simp only [eI_eq, eU8_eq, eB_eq, eS_eq, eSl_eq, cGmahlstickref01Letter_eq, leafL_nil, leafL_cons, leaf_int, leaf_bool, leaf_string, leaf_slice, leaf_sl, Bool.and_self]
theorem ixo88 {xs : List Gmahlstickref01Letter} {x : Gmahlstickref01Letter} {i : Int} (h : getI xs i = some x) : (∀ (H : Nat → Option VObj) (β c : Nat) (k : IntKind), vindexAddr Tryz.prog H 88 (.ref β 0 xs.length 2 c) (.lit (.int k i)) = if (H β).isSome = true then some (.ptr β (i.toNat * 2)) else none) ∧ (cellsL cGmahlstickref01Letter xs).drop (i.toNat * 2) = cGmahlstickref01Letter x ++ cellsL cGmahlstickref01Letter (xs.drop (i.toNat + 1)) ∧ (i.toNat * 2 ≤ (cellsL cGmahlstickref01Letter xs).length) = True := ixO Tryz.underlying88 (by kernel_rfl : szT Tryz.prog 136 = some 2) (fun _ => rfl) h
theorem bs88_1 {c0 c1 : VV} (h : leafL [c0, c1] = true) : vbuildSlice Tryz.prog 88 1 [(0, .agg [c0, c1])] = some ([c0, c1], 2) := by
  have h2 : szT Tryz.prog 136 = some 2 := by kernel_rfl
  have h3 : vzero Tryz.prog 136 = some #[.int .i64 0, .int .i64 0] := by kernel_rfl
  simp only [leafL_cons, leafL_nil, Bool.and_true, Bool.and_eq_true] at h
  simp [vbuildSlice, Tryz.underlying88, h2, h3, vfill, vcells, h, overwrite, vzeros]
theorem ix88 {H : Nat → Option VObj} {xs : List Gmahlstickref01Letter} {x : Gmahlstickref01Letter} {f : Bool} {k : IntKind} {i : Int} (h : getI xs i = some x) : vindexAddr Tryz.prog H 88 (.sl (cellsL cGmahlstickref01Letter xs) xs.length f) (.lit (.int k i)) = some (.tp (cGmahlstickref01Letter x ++ cellsL cGmahlstickref01Letter (xs.drop (i.toNat + 1)))) :=
  ixG Tryz.underlying88 (by kernel_rfl : szT Tryz.prog 136 = some 2) (by decide) (fun _ => rfl) h
theorem ld91 {c0 c1 c2 c3 : VV} {cs : List VV} : vload Tryz.prog 91 (c0 :: c1 :: c2 :: c3 :: cs) = some (.agg [c0, c1, c2, c3]) := by
  have h1 : aggT Tryz.prog 91 = some true := by kernel_rfl
  have h2 : szT Tryz.prog 91 = some 4 := by kernel_rfl
  simp [vload, vpart, h1, h2]
theorem sz91 : szT Tryz.prog 91 = some 4 := by kernel_rfl
theorem vzl91 : vzl Tryz.prog 91 = some [.lit (.int .i64 0), .lit (.int .i64 0), .lit (.int .i64 0), .lit (.int .i64 0)] := by kernel_rfl
theorem fa91_0 {H : Nat → Option VObj} {cs : List VV} : vfieldAddr Tryz.prog H 91 (.tp cs) 0 = some (.tp (cs.drop 0)) := by
  have h2 : szT Tryz.prog 3 = some 1 := by kernel_rfl
  simp [vfieldAddr, Tryz.underlying91, h2]
theorem fp91_0 {H : Nat → Option VObj} {β o : Nat} : vfieldAddr Tryz.prog H 91 (.ptr β o) 0 = if (H β).isSome = true then some (.ptr β (o + 0)) else none := by
  have h2 : szT Tryz.prog 3 = some 1 := by kernel_rfl
  simp [vfieldAddr, Tryz.underlying91, h2]
theorem fa91_1 {H : Nat → Option VObj} {cs : List VV} : vfieldAddr Tryz.prog H 91 (.tp cs) 1 = some (.tp (cs.drop 1)) := by
  have h2 : szT Tryz.prog 3 = some 1 := by kernel_rfl
  simp [vfieldAddr, Tryz.underlying91, h2]
theorem fp91_1 {H : Nat → Option VObj} {β o : Nat} : vfieldAddr Tryz.prog H 91 (.ptr β o) 1 = if (H β).isSome = true then some (.ptr β (o + 1)) else none := by
  have h2 : szT Tryz.prog 3 = some 1 := by kernel_rfl
  simp [vfieldAddr, Tryz.underlying91, h2]
theorem fa91_2 {H : Nat → Option VObj} {cs : List VV} : vfieldAddr Tryz.prog H 91 (.tp cs) 2 = some (.tp (cs.drop 2)) := by
  have h2 : szT Tryz.prog 25 = some 2 := by kernel_rfl
  simp [vfieldAddr, Tryz.underlying91, h2]
theorem fp91_2 {H : Nat → Option VObj} {β o : Nat} : vfieldAddr Tryz.prog H 91 (.ptr β o) 2 = if (H β).isSome = true then some (.ptr β (o + 2)) else none := by
  have h2 : szT Tryz.prog 25 = some 2 := by kernel_rfl
  simp [vfieldAddr, Tryz.underlying91, h2]
theorem ld92 {c0 c1 c2 c3 : VV} {cs : List VV} : vload Tryz.prog 92 (c0 :: c1 :: c2 :: c3 :: cs) = some (.agg [c0, c1, c2, c3]) := by
  have h1 : aggT Tryz.prog 92 = some true := by kernel_rfl
  have h2 : szT Tryz.prog 92 = some 4 := by kernel_rfl
  simp [vload, vpart, h1, h2]
theorem sz92 : szT Tryz.prog 92 = some 4 := by kernel_rfl
theorem vzl92 : vzl Tryz.prog 92 = some [.lit (.int .i64 0), .lit (.int .i64 0), .lit (.int .i64 0), .lit (.int .i64 0)] := by kernel_rfl
theorem fa92_0 {H : Nat → Option VObj} {cs : List VV} : vfieldAddr Tryz.prog H 92 (.tp cs) 0 = some (.tp (cs.drop 0)) := by
  have h2 : szT Tryz.prog 3 = some 1 := by kernel_rfl
  simp [vfieldAddr, Tryz.underlying92, h2]
theorem fp92_0 {H : Nat → Option VObj} {β o : Nat} : vfieldAddr Tryz.prog H 92 (.ptr β o) 0 = if (H β).isSome = true then some (.ptr β (o + 0)) else none := by
  have h2 : szT Tryz.prog 3 = some 1 := by kernel_rfl
  simp [vfieldAddr, Tryz.underlying92, h2]
theorem fa92_1 {H : Nat → Option VObj} {cs : List VV} : vfieldAddr Tryz.prog H 92 (.tp cs) 1 = some (.tp (cs.drop 1)) := by
  have h2 : szT Tryz.prog 3 = some 1 := by kernel_rfl
  simp [vfieldAddr, Tryz.underlying92, h2]
theorem fp92_1 {H : Nat → Option VObj} {β o : Nat} : vfieldAddr Tryz.prog H 92 (.ptr β o) 1 = if (H β).isSome = true then some (.ptr β (o + 1)) else none := by
  have h2 : szT Tryz.prog 3 = some 1 := by kernel_rfl
  simp [vfieldAddr, Tryz.underlying92, h2]
theorem fa92_2 {H : Nat → Option VObj} {cs : List VV} : vfieldAddr Tryz.prog H 92 (.tp cs) 2 = some (.tp (cs.drop 2)) := by
  have h2 : szT Tryz.prog 25 = some 2 := by kernel_rfl
  simp [vfieldAddr, Tryz.underlying92, h2]
theorem fp92_2 {H : Nat → Option VObj} {β o : Nat} : vfieldAddr Tryz.prog H 92 (.ptr β o) 2 = if (H β).isSome = true then some (.ptr β (o + 2)) else none := by
  have h2 : szT Tryz.prog 25 = some 2 := by kernel_rfl
  simp [vfieldAddr, Tryz.underlying92, h2]
theorem ld118 {c : VV} {cs : List VV} : vload Tryz.prog 118 (c :: cs) = some c := by
  have h1 : aggT Tryz.prog 118 = some false := by kernel_rfl
  simp [vload, vpart, h1]
theorem sz118 : szT Tryz.prog 118 = some 1 := by kernel_rfl
theorem len118 {H : Nat → Option VObj} {cs : List VV} {n : Nat} {f : Bool} : vlen Tryz.prog H 118 (.sl cs n f) = some (.lit (.int .i64 n)) := by simp [vlen, Tryz.underlying118, sls]
theorem lenN118 {H : Nat → Option VObj} : vlen Tryz.prog H 118 (.lit (.slice none 0 0)) = some (.lit (.int .i64 0)) := by simp [vlen, Tryz.underlying118, sls]
theorem lenR118 {H : Nat → Option VObj} {β off n w c : Nat} : vlen Tryz.prog H 118 (.ref β off n w c) = (match H β with | some (.cells _ cs) => if off ≤ cs.length then some (.lit (.int .i64 n)) else none | _ => none) := lenR Tryz.underlying118
theorem et118 : elemT Tryz.prog 118 = some 9 := by simp [elemT, Tryz.underlying118]
theorem ao118 : appOk Tryz.prog 118 = some (9, 1, 16) := by kernel_rfl
theorem tk118 {xs : List ByteArray} : (cellsL eS xs).take (xs.length * 1) = cellsL eS xs := take_cells (fun _ => rfl)
theorem lf118 : ∀ x : ByteArray, leafL (eS x) = true := fun x => by simp only [eI_eq, eU8_eq, eB_eq, eS_eq, eSl_eq, leafL_nil, leafL_cons, leaf_int, leaf_bool, leaf_string, leaf_slice, leaf_sl, Bool.and_self]
theorem ixo118 {xs : List ByteArray} {x : ByteArray} {i : Int} (h : getI xs i = some x) : (∀ (H : Nat → Option VObj) (β c : Nat) (k : IntKind), vindexAddr Tryz.prog H 118 (.ref β 0 xs.length 1 c) (.lit (.int k i)) = if (H β).isSome = true then some (.ptr β (i.toNat * 1)) else none) ∧ (cellsL eS xs).drop (i.toNat * 1) = eS x ++ cellsL eS (xs.drop (i.toNat + 1)) ∧ (i.toNat * 1 ≤ (cellsL eS xs).length) = True := ixO Tryz.underlying118 (by kernel_rfl : szT Tryz.prog 9 = some 1) (fun _ => rfl) h
theorem bs118_1 {a0 : VV} (h : leafL [a0] = true) : vbuildSlice Tryz.prog 118 1 [(0, a0)] = some ([a0], 1) := by
  have h2 : szT Tryz.prog 9 = some 1 := by kernel_rfl
  have h3 : vzero Tryz.prog 9 = some #[.string ⟨#[]⟩] := by kernel_rfl
  simp only [leafL_cons, leafL_nil, Bool.and_true, Bool.and_eq_true] at h
  simp [vbuildSlice, Tryz.underlying118, h2, h3, vfill, vcells1, h, overwrite, vzeros, List.range_succ]
theorem bs118_2 {a0 a1 : VV} (h : leafL [a0, a1] = true) : vbuildSlice Tryz.prog 118 2 [(0, a0), (1, a1)] = some ([a0, a1], 1) := by
  have h2 : szT Tryz.prog 9 = some 1 := by kernel_rfl
  have h3 : vzero Tryz.prog 9 = some #[.string ⟨#[]⟩] := by kernel_rfl
  simp only [leafL_cons, leafL_nil, Bool.and_true, Bool.and_eq_true] at h
  simp [vbuildSlice, Tryz.underlying118, h2, h3, vfill, vcells1, h, overwrite, vzeros, List.range_succ]
theorem bs118_3 {a0 a1 a2 : VV} (h : leafL [a0, a1, a2] = true) : vbuildSlice Tryz.prog 118 3 [(0, a0), (1, a1), (2, a2)] = some ([a0, a1, a2], 1) := by
  have h2 : szT Tryz.prog 9 = some 1 := by kernel_rfl
  have h3 : vzero Tryz.prog 9 = some #[.string ⟨#[]⟩] := by kernel_rfl
  simp only [leafL_cons, leafL_nil, Bool.and_true, Bool.and_eq_true] at h
  simp [vbuildSlice, Tryz.underlying118, h2, h3, vfill, vcells1, h, overwrite, vzeros, List.range_succ]
theorem ix118 {H : Nat → Option VObj} {xs : List ByteArray} {x : ByteArray} {f : Bool} {k : IntKind} {i : Int} (h : getI xs i = some x) : vindexAddr Tryz.prog H 118 (.sl (cellsL eS xs) xs.length f) (.lit (.int k i)) = some (.tp (eS x ++ cellsL eS (xs.drop (i.toNat + 1)))) :=
  ixG Tryz.underlying118 (by kernel_rfl : szT Tryz.prog 9 = some 1) (by decide) (fun _ => rfl) h
theorem ld126 {c0 c1 : VV} {cs : List VV} : vload Tryz.prog 126 (c0 :: c1 :: cs) = some (.agg [c0, c1]) := by
  have h1 : aggT Tryz.prog 126 = some true := by kernel_rfl
  have h2 : szT Tryz.prog 126 = some 2 := by kernel_rfl
  simp [vload, vpart, h1, h2]
theorem sz126 : szT Tryz.prog 126 = some 2 := by kernel_rfl
theorem vzl126 : vzl Tryz.prog 126 = some [.lit (.int .i64 0), .lit (.int .i64 0)] := by kernel_rfl
theorem fa126_0 {H : Nat → Option VObj} {cs : List VV} : vfieldAddr Tryz.prog H 126 (.tp cs) 0 = some (.tp (cs.drop 0)) := by
  have h2 : szT Tryz.prog 3 = some 1 := by kernel_rfl
  simp [vfieldAddr, Tryz.underlying126, h2]
theorem fp126_0 {H : Nat → Option VObj} {β o : Nat} : vfieldAddr Tryz.prog H 126 (.ptr β o) 0 = if (H β).isSome = true then some (.ptr β (o + 0)) else none := by
  have h2 : szT Tryz.prog 3 = some 1 := by kernel_rfl
  simp [vfieldAddr, Tryz.underlying126, h2]
theorem fa126_1 {H : Nat → Option VObj} {cs : List VV} : vfieldAddr Tryz.prog H 126 (.tp cs) 1 = some (.tp (cs.drop 1)) := by
  have h2 : szT Tryz.prog 3 = some 1 := by kernel_rfl
  simp [vfieldAddr, Tryz.underlying126, h2]
theorem fp126_1 {H : Nat → Option VObj} {β o : Nat} : vfieldAddr Tryz.prog H 126 (.ptr β o) 1 = if (H β).isSome = true then some (.ptr β (o + 1)) else none := by
  have h2 : szT Tryz.prog 3 = some 1 := by kernel_rfl
  simp [vfieldAddr, Tryz.underlying126, h2]
theorem ld127 {c0 c1 : VV} {cs : List VV} : vload Tryz.prog 127 (c0 :: c1 :: cs) = some (.agg [c0, c1]) := by
  have h1 : aggT Tryz.prog 127 = some true := by kernel_rfl
  have h2 : szT Tryz.prog 127 = some 2 := by kernel_rfl
  simp [vload, vpart, h1, h2]
theorem sz127 : szT Tryz.prog 127 = some 2 := by kernel_rfl
theorem vzl127 : vzl Tryz.prog 127 = some [.lit (.int .i64 0), .lit (.int .i64 0)] := by kernel_rfl
theorem fa127_0 {H : Nat → Option VObj} {cs : List VV} : vfieldAddr Tryz.prog H 127 (.tp cs) 0 = some (.tp (cs.drop 0)) := by
  have h2 : szT Tryz.prog 3 = some 1 := by kernel_rfl
  simp [vfieldAddr, Tryz.underlying127, h2]
theorem fp127_0 {H : Nat → Option VObj} {β o : Nat} : vfieldAddr Tryz.prog H 127 (.ptr β o) 0 = if (H β).isSome = true then some (.ptr β (o + 0)) else none := by
  have h2 : szT Tryz.prog 3 = some 1 := by kernel_rfl
  simp [vfieldAddr, Tryz.underlying127, h2]
theorem fa127_1 {H : Nat → Option VObj} {cs : List VV} : vfieldAddr Tryz.prog H 127 (.tp cs) 1 = some (.tp (cs.drop 1)) := by
  have h2 : szT Tryz.prog 3 = some 1 := by kernel_rfl
  simp [vfieldAddr, Tryz.underlying127, h2]
theorem fp127_1 {H : Nat → Option VObj} {β o : Nat} : vfieldAddr Tryz.prog H 127 (.ptr β o) 1 = if (H β).isSome = true then some (.ptr β (o + 1)) else none := by
  have h2 : szT Tryz.prog 3 = some 1 := by kernel_rfl
  simp [vfieldAddr, Tryz.underlying127, h2]
theorem ld128 {c0 c1 c2 c3 : VV} {cs : List VV} : vload Tryz.prog 128 (c0 :: c1 :: c2 :: c3 :: cs) = some (.agg [c0, c1, c2, c3]) := by
  have h1 : aggT Tryz.prog 128 = some true := by kernel_rfl
  have h2 : szT Tryz.prog 128 = some 4 := by kernel_rfl
  simp [vload, vpart, h1, h2]
theorem sz128 : szT Tryz.prog 128 = some 4 := by kernel_rfl
theorem vzl128 : vzl Tryz.prog 128 = some [.lit (.int .i64 0), .lit (.int .i64 0), .lit (.int .i64 0), .lit (.bool false)] := by kernel_rfl
theorem fa128_0 {H : Nat → Option VObj} {cs : List VV} : vfieldAddr Tryz.prog H 128 (.tp cs) 0 = some (.tp (cs.drop 0)) := by
  have h2 : szT Tryz.prog 3 = some 1 := by kernel_rfl
  simp [vfieldAddr, Tryz.underlying128, h2]
theorem fp128_0 {H : Nat → Option VObj} {β o : Nat} : vfieldAddr Tryz.prog H 128 (.ptr β o) 0 = if (H β).isSome = true then some (.ptr β (o + 0)) else none := by
  have h2 : szT Tryz.prog 3 = some 1 := by kernel_rfl
  simp [vfieldAddr, Tryz.underlying128, h2]
theorem fa128_1 {H : Nat → Option VObj} {cs : List VV} : vfieldAddr Tryz.prog H 128 (.tp cs) 1 = some (.tp (cs.drop 1)) := by
  have h2 : szT Tryz.prog 3 = some 1 := by kernel_rfl
  simp [vfieldAddr, Tryz.underlying128, h2]
theorem fp128_1 {H : Nat → Option VObj} {β o : Nat} : vfieldAddr Tryz.prog H 128 (.ptr β o) 1 = if (H β).isSome = true then some (.ptr β (o + 1)) else none := by
  have h2 : szT Tryz.prog 3 = some 1 := by kernel_rfl
  simp [vfieldAddr, Tryz.underlying128, h2]
theorem fa128_2 {H : Nat → Option VObj} {cs : List VV} : vfieldAddr Tryz.prog H 128 (.tp cs) 2 = some (.tp (cs.drop 2)) := by
  have h2 : szT Tryz.prog 3 = some 1 := by kernel_rfl
  simp [vfieldAddr, Tryz.underlying128, h2]
theorem fp128_2 {H : Nat → Option VObj} {β o : Nat} : vfieldAddr Tryz.prog H 128 (.ptr β o) 2 = if (H β).isSome = true then some (.ptr β (o + 2)) else none := by
  have h2 : szT Tryz.prog 3 = some 1 := by kernel_rfl
  simp [vfieldAddr, Tryz.underlying128, h2]
theorem fa128_3 {H : Nat → Option VObj} {cs : List VV} : vfieldAddr Tryz.prog H 128 (.tp cs) 3 = some (.tp (cs.drop 3)) := by
  have h2 : szT Tryz.prog 4 = some 1 := by kernel_rfl
  simp [vfieldAddr, Tryz.underlying128, h2]
theorem fp128_3 {H : Nat → Option VObj} {β o : Nat} : vfieldAddr Tryz.prog H 128 (.ptr β o) 3 = if (H β).isSome = true then some (.ptr β (o + 3)) else none := by
  have h2 : szT Tryz.prog 4 = some 1 := by kernel_rfl
  simp [vfieldAddr, Tryz.underlying128, h2]
theorem ld129 {c0 c1 c2 c3 : VV} {cs : List VV} : vload Tryz.prog 129 (c0 :: c1 :: c2 :: c3 :: cs) = some (.agg [c0, c1, c2, c3]) := by
  have h1 : aggT Tryz.prog 129 = some true := by kernel_rfl
  have h2 : szT Tryz.prog 129 = some 4 := by kernel_rfl
  simp [vload, vpart, h1, h2]
theorem sz129 : szT Tryz.prog 129 = some 4 := by kernel_rfl
theorem vzl129 : vzl Tryz.prog 129 = some [.lit (.int .i64 0), .lit (.int .i64 0), .lit (.int .i64 0), .lit (.bool false)] := by kernel_rfl
theorem fa129_0 {H : Nat → Option VObj} {cs : List VV} : vfieldAddr Tryz.prog H 129 (.tp cs) 0 = some (.tp (cs.drop 0)) := by
  have h2 : szT Tryz.prog 3 = some 1 := by kernel_rfl
  simp [vfieldAddr, Tryz.underlying129, h2]
theorem fp129_0 {H : Nat → Option VObj} {β o : Nat} : vfieldAddr Tryz.prog H 129 (.ptr β o) 0 = if (H β).isSome = true then some (.ptr β (o + 0)) else none := by
  have h2 : szT Tryz.prog 3 = some 1 := by kernel_rfl
  simp [vfieldAddr, Tryz.underlying129, h2]
theorem fa129_1 {H : Nat → Option VObj} {cs : List VV} : vfieldAddr Tryz.prog H 129 (.tp cs) 1 = some (.tp (cs.drop 1)) := by
  have h2 : szT Tryz.prog 3 = some 1 := by kernel_rfl
  simp [vfieldAddr, Tryz.underlying129, h2]
theorem fp129_1 {H : Nat → Option VObj} {β o : Nat} : vfieldAddr Tryz.prog H 129 (.ptr β o) 1 = if (H β).isSome = true then some (.ptr β (o + 1)) else none := by
  have h2 : szT Tryz.prog 3 = some 1 := by kernel_rfl
  simp [vfieldAddr, Tryz.underlying129, h2]
theorem fa129_2 {H : Nat → Option VObj} {cs : List VV} : vfieldAddr Tryz.prog H 129 (.tp cs) 2 = some (.tp (cs.drop 2)) := by
  have h2 : szT Tryz.prog 3 = some 1 := by kernel_rfl
  simp [vfieldAddr, Tryz.underlying129, h2]
theorem fp129_2 {H : Nat → Option VObj} {β o : Nat} : vfieldAddr Tryz.prog H 129 (.ptr β o) 2 = if (H β).isSome = true then some (.ptr β (o + 2)) else none := by
  have h2 : szT Tryz.prog 3 = some 1 := by kernel_rfl
  simp [vfieldAddr, Tryz.underlying129, h2]
theorem fa129_3 {H : Nat → Option VObj} {cs : List VV} : vfieldAddr Tryz.prog H 129 (.tp cs) 3 = some (.tp (cs.drop 3)) := by
  have h2 : szT Tryz.prog 4 = some 1 := by kernel_rfl
  simp [vfieldAddr, Tryz.underlying129, h2]
theorem fp129_3 {H : Nat → Option VObj} {β o : Nat} : vfieldAddr Tryz.prog H 129 (.ptr β o) 3 = if (H β).isSome = true then some (.ptr β (o + 3)) else none := by
  have h2 : szT Tryz.prog 4 = some 1 := by kernel_rfl
  simp [vfieldAddr, Tryz.underlying129, h2]
theorem ld131 {c : VV} {cs : List VV} : vload Tryz.prog 131 (c :: cs) = some c := by
  have h1 : aggT Tryz.prog 131 = some false := by kernel_rfl
  simp [vload, vpart, h1]
theorem sz131 : szT Tryz.prog 131 = some 1 := by kernel_rfl
theorem ld135 {c0 c1 : VV} {cs : List VV} : vload Tryz.prog 135 (c0 :: c1 :: cs) = some (.agg [c0, c1]) := by
  have h1 : aggT Tryz.prog 135 = some true := by kernel_rfl
  have h2 : szT Tryz.prog 135 = some 2 := by kernel_rfl
  simp [vload, vpart, h1, h2]
theorem sz135 : szT Tryz.prog 135 = some 2 := by kernel_rfl
theorem vzl135 : vzl Tryz.prog 135 = some [.lit (.int .i64 0), .lit (.int .i64 0)] := by kernel_rfl
theorem fa135_0 {H : Nat → Option VObj} {cs : List VV} : vfieldAddr Tryz.prog H 135 (.tp cs) 0 = some (.tp (cs.drop 0)) := by
  have h2 : szT Tryz.prog 3 = some 1 := by kernel_rfl
  simp [vfieldAddr, Tryz.underlying135, h2]
theorem fp135_0 {H : Nat → Option VObj} {β o : Nat} : vfieldAddr Tryz.prog H 135 (.ptr β o) 0 = if (H β).isSome = true then some (.ptr β (o + 0)) else none := by
  have h2 : szT Tryz.prog 3 = some 1 := by kernel_rfl
  simp [vfieldAddr, Tryz.underlying135, h2]
theorem fa135_1 {H : Nat → Option VObj} {cs : List VV} : vfieldAddr Tryz.prog H 135 (.tp cs) 1 = some (.tp (cs.drop 1)) := by
  have h2 : szT Tryz.prog 3 = some 1 := by kernel_rfl
  simp [vfieldAddr, Tryz.underlying135, h2]
theorem fp135_1 {H : Nat → Option VObj} {β o : Nat} : vfieldAddr Tryz.prog H 135 (.ptr β o) 1 = if (H β).isSome = true then some (.ptr β (o + 1)) else none := by
  have h2 : szT Tryz.prog 3 = some 1 := by kernel_rfl
  simp [vfieldAddr, Tryz.underlying135, h2]
theorem ld136 {c0 c1 : VV} {cs : List VV} : vload Tryz.prog 136 (c0 :: c1 :: cs) = some (.agg [c0, c1]) := by
  have h1 : aggT Tryz.prog 136 = some true := by kernel_rfl
  have h2 : szT Tryz.prog 136 = some 2 := by kernel_rfl
  simp [vload, vpart, h1, h2]
theorem sz136 : szT Tryz.prog 136 = some 2 := by kernel_rfl
theorem vzl136 : vzl Tryz.prog 136 = some [.lit (.int .i64 0), .lit (.int .i64 0)] := by kernel_rfl
theorem fa136_0 {H : Nat → Option VObj} {cs : List VV} : vfieldAddr Tryz.prog H 136 (.tp cs) 0 = some (.tp (cs.drop 0)) := by
  have h2 : szT Tryz.prog 3 = some 1 := by kernel_rfl
  simp [vfieldAddr, Tryz.underlying136, h2]
theorem fp136_0 {H : Nat → Option VObj} {β o : Nat} : vfieldAddr Tryz.prog H 136 (.ptr β o) 0 = if (H β).isSome = true then some (.ptr β (o + 0)) else none := by
  have h2 : szT Tryz.prog 3 = some 1 := by kernel_rfl
  simp [vfieldAddr, Tryz.underlying136, h2]
theorem fa136_1 {H : Nat → Option VObj} {cs : List VV} : vfieldAddr Tryz.prog H 136 (.tp cs) 1 = some (.tp (cs.drop 1)) := by
  have h2 : szT Tryz.prog 3 = some 1 := by kernel_rfl
  simp [vfieldAddr, Tryz.underlying136, h2]
theorem fp136_1 {H : Nat → Option VObj} {β o : Nat} : vfieldAddr Tryz.prog H 136 (.ptr β o) 1 = if (H β).isSome = true then some (.ptr β (o + 1)) else none := by
  have h2 : szT Tryz.prog 3 = some 1 := by kernel_rfl
  simp [vfieldAddr, Tryz.underlying136, h2]
theorem ld152 {c : VV} {cs : List VV} : vload Tryz.prog 152 (c :: cs) = some c := by
  have h1 : aggT Tryz.prog 152 = some false := by kernel_rfl
  simp [vload, vpart, h1]
theorem sz152 : szT Tryz.prog 152 = some 1 := by kernel_rfl
theorem len152 {H : Nat → Option VObj} {cs : List VV} {n : Nat} {f : Bool} : vlen Tryz.prog H 152 (.sl cs n f) = some (.lit (.int .i64 n)) := by simp [vlen, Tryz.underlying152, sls]
theorem lenN152 {H : Nat → Option VObj} : vlen Tryz.prog H 152 (.lit (.slice none 0 0)) = some (.lit (.int .i64 0)) := by simp [vlen, Tryz.underlying152, sls]
theorem lenR152 {H : Nat → Option VObj} {β off n w c : Nat} : vlen Tryz.prog H 152 (.ref β off n w c) = (match H β with | some (.cells _ cs) => if off ≤ cs.length then some (.lit (.int .i64 n)) else none | _ => none) := lenR Tryz.underlying152
theorem et152 : elemT Tryz.prog 152 = some 177 := by simp [elemT, Tryz.underlying152]
theorem ao152 : appOk Tryz.prog 152 = some (177, 2, 24) := by kernel_rfl
theorem tk152 {xs : List GlinesKind} : (cellsL cGlinesKind xs).take (xs.length * 2) = cellsL cGlinesKind xs := take_cells (fun _ => rfl)
theorem lf152 : ∀ x : GlinesKind, leafL (cGlinesKind x) = true := fun x => by simp only [eI_eq, eU8_eq, eB_eq, eS_eq, eSl_eq, cGlinesKind_eq, leafL_nil, leafL_cons, leaf_int, leaf_bool, leaf_string, leaf_slice, leaf_sl, Bool.and_self]
theorem ixo152 {xs : List GlinesKind} {x : GlinesKind} {i : Int} (h : getI xs i = some x) : (∀ (H : Nat → Option VObj) (β c : Nat) (k : IntKind), vindexAddr Tryz.prog H 152 (.ref β 0 xs.length 2 c) (.lit (.int k i)) = if (H β).isSome = true then some (.ptr β (i.toNat * 2)) else none) ∧ (cellsL cGlinesKind xs).drop (i.toNat * 2) = cGlinesKind x ++ cellsL cGlinesKind (xs.drop (i.toNat + 1)) ∧ (i.toNat * 2 ≤ (cellsL cGlinesKind xs).length) = True := ixO Tryz.underlying152 (by kernel_rfl : szT Tryz.prog 177 = some 2) (fun _ => rfl) h
theorem bs152_1 {c0 c1 : VV} (h : leafL [c0, c1] = true) : vbuildSlice Tryz.prog 152 1 [(0, .agg [c0, c1])] = some ([c0, c1], 2) := by
  have h2 : szT Tryz.prog 177 = some 2 := by kernel_rfl
  have h3 : vzero Tryz.prog 177 = some #[.string ⟨#[]⟩, .int .i64 0] := by kernel_rfl
  simp only [leafL_cons, leafL_nil, Bool.and_true, Bool.and_eq_true] at h
  simp [vbuildSlice, Tryz.underlying152, h2, h3, vfill, vcells, h, overwrite, vzeros]
theorem ix152 {H : Nat → Option VObj} {xs : List GlinesKind} {x : GlinesKind} {f : Bool} {k : IntKind} {i : Int} (h : getI xs i = some x) : vindexAddr Tryz.prog H 152 (.sl (cellsL cGlinesKind xs) xs.length f) (.lit (.int k i)) = some (.tp (cGlinesKind x ++ cellsL cGlinesKind (xs.drop (i.toNat + 1)))) :=
  ixG Tryz.underlying152 (by kernel_rfl : szT Tryz.prog 177 = some 2) (by decide) (fun _ => rfl) h
theorem ld176 {c0 c1 : VV} {cs : List VV} : vload Tryz.prog 176 (c0 :: c1 :: cs) = some (.agg [c0, c1]) := by
  have h1 : aggT Tryz.prog 176 = some true := by kernel_rfl
  have h2 : szT Tryz.prog 176 = some 2 := by kernel_rfl
  simp [vload, vpart, h1, h2]
theorem sz176 : szT Tryz.prog 176 = some 2 := by kernel_rfl
theorem vzl176 : vzl Tryz.prog 176 = some [.lit (.string ⟨#[]⟩), .lit (.int .i64 0)] := by kernel_rfl
theorem fa176_0 {H : Nat → Option VObj} {cs : List VV} : vfieldAddr Tryz.prog H 176 (.tp cs) 0 = some (.tp (cs.drop 0)) := by
  have h2 : szT Tryz.prog 9 = some 1 := by kernel_rfl
  simp [vfieldAddr, Tryz.underlying176, h2]
theorem fp176_0 {H : Nat → Option VObj} {β o : Nat} : vfieldAddr Tryz.prog H 176 (.ptr β o) 0 = if (H β).isSome = true then some (.ptr β (o + 0)) else none := by
  have h2 : szT Tryz.prog 9 = some 1 := by kernel_rfl
  simp [vfieldAddr, Tryz.underlying176, h2]
theorem fa176_1 {H : Nat → Option VObj} {cs : List VV} : vfieldAddr Tryz.prog H 176 (.tp cs) 1 = some (.tp (cs.drop 1)) := by
  have h2 : szT Tryz.prog 3 = some 1 := by kernel_rfl
  simp [vfieldAddr, Tryz.underlying176, h2]
theorem fp176_1 {H : Nat → Option VObj} {β o : Nat} : vfieldAddr Tryz.prog H 176 (.ptr β o) 1 = if (H β).isSome = true then some (.ptr β (o + 1)) else none := by
  have h2 : szT Tryz.prog 3 = some 1 := by kernel_rfl
  simp [vfieldAddr, Tryz.underlying176, h2]
theorem ld177 {c0 c1 : VV} {cs : List VV} : vload Tryz.prog 177 (c0 :: c1 :: cs) = some (.agg [c0, c1]) := by
  have h1 : aggT Tryz.prog 177 = some true := by kernel_rfl
  have h2 : szT Tryz.prog 177 = some 2 := by kernel_rfl
  simp [vload, vpart, h1, h2]
theorem sz177 : szT Tryz.prog 177 = some 2 := by kernel_rfl
theorem vzl177 : vzl Tryz.prog 177 = some [.lit (.string ⟨#[]⟩), .lit (.int .i64 0)] := by kernel_rfl
theorem fa177_0 {H : Nat → Option VObj} {cs : List VV} : vfieldAddr Tryz.prog H 177 (.tp cs) 0 = some (.tp (cs.drop 0)) := by
  have h2 : szT Tryz.prog 9 = some 1 := by kernel_rfl
  simp [vfieldAddr, Tryz.underlying177, h2]
theorem fp177_0 {H : Nat → Option VObj} {β o : Nat} : vfieldAddr Tryz.prog H 177 (.ptr β o) 0 = if (H β).isSome = true then some (.ptr β (o + 0)) else none := by
  have h2 : szT Tryz.prog 9 = some 1 := by kernel_rfl
  simp [vfieldAddr, Tryz.underlying177, h2]
theorem fa177_1 {H : Nat → Option VObj} {cs : List VV} : vfieldAddr Tryz.prog H 177 (.tp cs) 1 = some (.tp (cs.drop 1)) := by
  have h2 : szT Tryz.prog 3 = some 1 := by kernel_rfl
  simp [vfieldAddr, Tryz.underlying177, h2]
theorem fp177_1 {H : Nat → Option VObj} {β o : Nat} : vfieldAddr Tryz.prog H 177 (.ptr β o) 1 = if (H β).isSome = true then some (.ptr β (o + 1)) else none := by
  have h2 : szT Tryz.prog 3 = some 1 := by kernel_rfl
  simp [vfieldAddr, Tryz.underlying177, h2]
theorem ld178 {c0 c1 : VV} {cs : List VV} : vload Tryz.prog 178 (c0 :: c1 :: cs) = some (.agg [c0, c1]) := by
  have h1 : aggT Tryz.prog 178 = some true := by kernel_rfl
  have h2 : szT Tryz.prog 178 = some 2 := by kernel_rfl
  simp [vload, vpart, h1, h2]
theorem sz178 : szT Tryz.prog 178 = some 2 := by kernel_rfl
theorem vzl178 : vzl Tryz.prog 178 = some [.lit (.int .i64 0), .lit (.int .i64 0)] := by kernel_rfl
theorem fa178_0 {H : Nat → Option VObj} {cs : List VV} : vfieldAddr Tryz.prog H 178 (.tp cs) 0 = some (.tp (cs.drop 0)) := by
  have h2 : szT Tryz.prog 3 = some 1 := by kernel_rfl
  simp [vfieldAddr, Tryz.underlying178, h2]
theorem fp178_0 {H : Nat → Option VObj} {β o : Nat} : vfieldAddr Tryz.prog H 178 (.ptr β o) 0 = if (H β).isSome = true then some (.ptr β (o + 0)) else none := by
  have h2 : szT Tryz.prog 3 = some 1 := by kernel_rfl
  simp [vfieldAddr, Tryz.underlying178, h2]
theorem fa178_1 {H : Nat → Option VObj} {cs : List VV} : vfieldAddr Tryz.prog H 178 (.tp cs) 1 = some (.tp (cs.drop 1)) := by
  have h2 : szT Tryz.prog 3 = some 1 := by kernel_rfl
  simp [vfieldAddr, Tryz.underlying178, h2]
theorem fp178_1 {H : Nat → Option VObj} {β o : Nat} : vfieldAddr Tryz.prog H 178 (.ptr β o) 1 = if (H β).isSome = true then some (.ptr β (o + 1)) else none := by
  have h2 : szT Tryz.prog 3 = some 1 := by kernel_rfl
  simp [vfieldAddr, Tryz.underlying178, h2]
theorem ld179 {c0 c1 : VV} {cs : List VV} : vload Tryz.prog 179 (c0 :: c1 :: cs) = some (.agg [c0, c1]) := by
  have h1 : aggT Tryz.prog 179 = some true := by kernel_rfl
  have h2 : szT Tryz.prog 179 = some 2 := by kernel_rfl
  simp [vload, vpart, h1, h2]
theorem sz179 : szT Tryz.prog 179 = some 2 := by kernel_rfl
theorem vzl179 : vzl Tryz.prog 179 = some [.lit (.int .i64 0), .lit (.int .i64 0)] := by kernel_rfl
theorem fa179_0 {H : Nat → Option VObj} {cs : List VV} : vfieldAddr Tryz.prog H 179 (.tp cs) 0 = some (.tp (cs.drop 0)) := by
  have h2 : szT Tryz.prog 3 = some 1 := by kernel_rfl
  simp [vfieldAddr, Tryz.underlying179, h2]
theorem fp179_0 {H : Nat → Option VObj} {β o : Nat} : vfieldAddr Tryz.prog H 179 (.ptr β o) 0 = if (H β).isSome = true then some (.ptr β (o + 0)) else none := by
  have h2 : szT Tryz.prog 3 = some 1 := by kernel_rfl
  simp [vfieldAddr, Tryz.underlying179, h2]
theorem fa179_1 {H : Nat → Option VObj} {cs : List VV} : vfieldAddr Tryz.prog H 179 (.tp cs) 1 = some (.tp (cs.drop 1)) := by
  have h2 : szT Tryz.prog 3 = some 1 := by kernel_rfl
  simp [vfieldAddr, Tryz.underlying179, h2]
theorem fp179_1 {H : Nat → Option VObj} {β o : Nat} : vfieldAddr Tryz.prog H 179 (.ptr β o) 1 = if (H β).isSome = true then some (.ptr β (o + 1)) else none := by
  have h2 : szT Tryz.prog 3 = some 1 := by kernel_rfl
  simp [vfieldAddr, Tryz.underlying179, h2]
theorem ld180 {c0 c1 c2 c3 c4 : VV} {cs : List VV} : vload Tryz.prog 180 (c0 :: c1 :: c2 :: c3 :: c4 :: cs) = some (.agg [c0, c1, c2, c3, c4]) := by
  have h1 : aggT Tryz.prog 180 = some true := by kernel_rfl
  have h2 : szT Tryz.prog 180 = some 5 := by kernel_rfl
  simp [vload, vpart, h1, h2]
theorem sz180 : szT Tryz.prog 180 = some 5 := by kernel_rfl
theorem vzl180 : vzl Tryz.prog 180 = some [.lit (.int .i64 0), .lit (.int .i64 0), .lit (.int .i64 0), .lit (.int .i64 0), .lit (.int .i64 0)] := by kernel_rfl
theorem fa180_0 {H : Nat → Option VObj} {cs : List VV} : vfieldAddr Tryz.prog H 180 (.tp cs) 0 = some (.tp (cs.drop 0)) := by
  have h2 : szT Tryz.prog 25 = some 2 := by kernel_rfl
  simp [vfieldAddr, Tryz.underlying180, h2]
theorem fp180_0 {H : Nat → Option VObj} {β o : Nat} : vfieldAddr Tryz.prog H 180 (.ptr β o) 0 = if (H β).isSome = true then some (.ptr β (o + 0)) else none := by
  have h2 : szT Tryz.prog 25 = some 2 := by kernel_rfl
  simp [vfieldAddr, Tryz.underlying180, h2]
theorem fa180_1 {H : Nat → Option VObj} {cs : List VV} : vfieldAddr Tryz.prog H 180 (.tp cs) 1 = some (.tp (cs.drop 2)) := by
  have h2 : szT Tryz.prog 25 = some 2 := by kernel_rfl
  simp [vfieldAddr, Tryz.underlying180, h2]
theorem fp180_1 {H : Nat → Option VObj} {β o : Nat} : vfieldAddr Tryz.prog H 180 (.ptr β o) 1 = if (H β).isSome = true then some (.ptr β (o + 2)) else none := by
  have h2 : szT Tryz.prog 25 = some 2 := by kernel_rfl
  simp [vfieldAddr, Tryz.underlying180, h2]
theorem fa180_2 {H : Nat → Option VObj} {cs : List VV} : vfieldAddr Tryz.prog H 180 (.tp cs) 2 = some (.tp (cs.drop 4)) := by
  have h2 : szT Tryz.prog 3 = some 1 := by kernel_rfl
  simp [vfieldAddr, Tryz.underlying180, h2]
theorem fp180_2 {H : Nat → Option VObj} {β o : Nat} : vfieldAddr Tryz.prog H 180 (.ptr β o) 2 = if (H β).isSome = true then some (.ptr β (o + 4)) else none := by
  have h2 : szT Tryz.prog 3 = some 1 := by kernel_rfl
  simp [vfieldAddr, Tryz.underlying180, h2]
theorem ld181 {c0 c1 c2 c3 c4 : VV} {cs : List VV} : vload Tryz.prog 181 (c0 :: c1 :: c2 :: c3 :: c4 :: cs) = some (.agg [c0, c1, c2, c3, c4]) := by
  have h1 : aggT Tryz.prog 181 = some true := by kernel_rfl
  have h2 : szT Tryz.prog 181 = some 5 := by kernel_rfl
  simp [vload, vpart, h1, h2]
theorem sz181 : szT Tryz.prog 181 = some 5 := by kernel_rfl
theorem vzl181 : vzl Tryz.prog 181 = some [.lit (.int .i64 0), .lit (.int .i64 0), .lit (.int .i64 0), .lit (.int .i64 0), .lit (.int .i64 0)] := by kernel_rfl
theorem fa181_0 {H : Nat → Option VObj} {cs : List VV} : vfieldAddr Tryz.prog H 181 (.tp cs) 0 = some (.tp (cs.drop 0)) := by
  have h2 : szT Tryz.prog 25 = some 2 := by kernel_rfl
  simp [vfieldAddr, Tryz.underlying181, h2]
theorem fp181_0 {H : Nat → Option VObj} {β o : Nat} : vfieldAddr Tryz.prog H 181 (.ptr β o) 0 = if (H β).isSome = true then some (.ptr β (o + 0)) else none := by
  have h2 : szT Tryz.prog 25 = some 2 := by kernel_rfl
  simp [vfieldAddr, Tryz.underlying181, h2]
theorem fa181_1 {H : Nat → Option VObj} {cs : List VV} : vfieldAddr Tryz.prog H 181 (.tp cs) 1 = some (.tp (cs.drop 2)) := by
  have h2 : szT Tryz.prog 25 = some 2 := by kernel_rfl
  simp [vfieldAddr, Tryz.underlying181, h2]
theorem fp181_1 {H : Nat → Option VObj} {β o : Nat} : vfieldAddr Tryz.prog H 181 (.ptr β o) 1 = if (H β).isSome = true then some (.ptr β (o + 2)) else none := by
  have h2 : szT Tryz.prog 25 = some 2 := by kernel_rfl
  simp [vfieldAddr, Tryz.underlying181, h2]
theorem fa181_2 {H : Nat → Option VObj} {cs : List VV} : vfieldAddr Tryz.prog H 181 (.tp cs) 2 = some (.tp (cs.drop 4)) := by
  have h2 : szT Tryz.prog 3 = some 1 := by kernel_rfl
  simp [vfieldAddr, Tryz.underlying181, h2]
theorem fp181_2 {H : Nat → Option VObj} {β o : Nat} : vfieldAddr Tryz.prog H 181 (.ptr β o) 2 = if (H β).isSome = true then some (.ptr β (o + 4)) else none := by
  have h2 : szT Tryz.prog 3 = some 1 := by kernel_rfl
  simp [vfieldAddr, Tryz.underlying181, h2]
theorem ld182 {c0 : VV} {cs : List VV} : vload Tryz.prog 182 (c0 :: cs) = some (.agg [c0]) := by
  have h1 : aggT Tryz.prog 182 = some true := by kernel_rfl
  have h2 : szT Tryz.prog 182 = some 1 := by kernel_rfl
  simp [vload, vpart, h1, h2]
theorem sz182 : szT Tryz.prog 182 = some 1 := by kernel_rfl
theorem vzl182 : vzl Tryz.prog 182 = some [.lit (.int .i64 0)] := by kernel_rfl
theorem fa182_0 {H : Nat → Option VObj} {cs : List VV} : vfieldAddr Tryz.prog H 182 (.tp cs) 0 = some (.tp (cs.drop 0)) := by
  have h2 : szT Tryz.prog 3 = some 1 := by kernel_rfl
  simp [vfieldAddr, Tryz.underlying182, h2]
theorem fp182_0 {H : Nat → Option VObj} {β o : Nat} : vfieldAddr Tryz.prog H 182 (.ptr β o) 0 = if (H β).isSome = true then some (.ptr β (o + 0)) else none := by
  have h2 : szT Tryz.prog 3 = some 1 := by kernel_rfl
  simp [vfieldAddr, Tryz.underlying182, h2]
theorem ld183 {c0 : VV} {cs : List VV} : vload Tryz.prog 183 (c0 :: cs) = some (.agg [c0]) := by
  have h1 : aggT Tryz.prog 183 = some true := by kernel_rfl
  have h2 : szT Tryz.prog 183 = some 1 := by kernel_rfl
  simp [vload, vpart, h1, h2]
theorem sz183 : szT Tryz.prog 183 = some 1 := by kernel_rfl
theorem vzl183 : vzl Tryz.prog 183 = some [.lit (.int .i64 0)] := by kernel_rfl
theorem fa183_0 {H : Nat → Option VObj} {cs : List VV} : vfieldAddr Tryz.prog H 183 (.tp cs) 0 = some (.tp (cs.drop 0)) := by
  have h2 : szT Tryz.prog 3 = some 1 := by kernel_rfl
  simp [vfieldAddr, Tryz.underlying183, h2]
theorem fp183_0 {H : Nat → Option VObj} {β o : Nat} : vfieldAddr Tryz.prog H 183 (.ptr β o) 0 = if (H β).isSome = true then some (.ptr β (o + 0)) else none := by
  have h2 : szT Tryz.prog 3 = some 1 := by kernel_rfl
  simp [vfieldAddr, Tryz.underlying183, h2]
theorem ld184 {c0 c1 c2 c3 : VV} {cs : List VV} : vload Tryz.prog 184 (c0 :: c1 :: c2 :: c3 :: cs) = some (.agg [c0, c1, c2, c3]) := by
  have h1 : aggT Tryz.prog 184 = some true := by kernel_rfl
  have h2 : szT Tryz.prog 184 = some 4 := by kernel_rfl
  simp [vload, vpart, h1, h2]
theorem sz184 : szT Tryz.prog 184 = some 4 := by kernel_rfl
theorem vzl184 : vzl Tryz.prog 184 = some [.lit (.int .i64 0), .lit (.int .i64 0), .lit (.int .i64 0), .lit (.int .i64 0)] := by kernel_rfl
theorem fa184_0 {H : Nat → Option VObj} {cs : List VV} : vfieldAddr Tryz.prog H 184 (.tp cs) 0 = some (.tp (cs.drop 0)) := by
  have h2 : szT Tryz.prog 92 = some 4 := by kernel_rfl
  simp [vfieldAddr, Tryz.underlying184, h2]
theorem fp184_0 {H : Nat → Option VObj} {β o : Nat} : vfieldAddr Tryz.prog H 184 (.ptr β o) 0 = if (H β).isSome = true then some (.ptr β (o + 0)) else none := by
  have h2 : szT Tryz.prog 92 = some 4 := by kernel_rfl
  simp [vfieldAddr, Tryz.underlying184, h2]
theorem ld185 {c0 c1 c2 c3 : VV} {cs : List VV} : vload Tryz.prog 185 (c0 :: c1 :: c2 :: c3 :: cs) = some (.agg [c0, c1, c2, c3]) := by
  have h1 : aggT Tryz.prog 185 = some true := by kernel_rfl
  have h2 : szT Tryz.prog 185 = some 4 := by kernel_rfl
  simp [vload, vpart, h1, h2]
theorem sz185 : szT Tryz.prog 185 = some 4 := by kernel_rfl
theorem vzl185 : vzl Tryz.prog 185 = some [.lit (.int .i64 0), .lit (.int .i64 0), .lit (.int .i64 0), .lit (.int .i64 0)] := by kernel_rfl
theorem fa185_0 {H : Nat → Option VObj} {cs : List VV} : vfieldAddr Tryz.prog H 185 (.tp cs) 0 = some (.tp (cs.drop 0)) := by
  have h2 : szT Tryz.prog 92 = some 4 := by kernel_rfl
  simp [vfieldAddr, Tryz.underlying185, h2]
theorem fp185_0 {H : Nat → Option VObj} {β o : Nat} : vfieldAddr Tryz.prog H 185 (.ptr β o) 0 = if (H β).isSome = true then some (.ptr β (o + 0)) else none := by
  have h2 : szT Tryz.prog 92 = some 4 := by kernel_rfl
  simp [vfieldAddr, Tryz.underlying185, h2]
theorem ld186 {c0 c1 c2 : VV} {cs : List VV} : vload Tryz.prog 186 (c0 :: c1 :: c2 :: cs) = some (.agg [c0, c1, c2]) := by
  have h1 : aggT Tryz.prog 186 = some true := by kernel_rfl
  have h2 : szT Tryz.prog 186 = some 3 := by kernel_rfl
  simp [vload, vpart, h1, h2]
theorem sz186 : szT Tryz.prog 186 = some 3 := by kernel_rfl
theorem vzl186 : vzl Tryz.prog 186 = some [.lit (.slice none 0 0), .lit (.slice none 0 0), .lit (.bool false)] := by kernel_rfl
theorem fa186_0 {H : Nat → Option VObj} {cs : List VV} : vfieldAddr Tryz.prog H 186 (.tp cs) 0 = some (.tp (cs.drop 0)) := by
  have h2 : szT Tryz.prog 49 = some 3 := by kernel_rfl
  simp [vfieldAddr, Tryz.underlying186, h2]
theorem fp186_0 {H : Nat → Option VObj} {β o : Nat} : vfieldAddr Tryz.prog H 186 (.ptr β o) 0 = if (H β).isSome = true then some (.ptr β (o + 0)) else none := by
  have h2 : szT Tryz.prog 49 = some 3 := by kernel_rfl
  simp [vfieldAddr, Tryz.underlying186, h2]
theorem ld187 {c0 c1 c2 : VV} {cs : List VV} : vload Tryz.prog 187 (c0 :: c1 :: c2 :: cs) = some (.agg [c0, c1, c2]) := by
  have h1 : aggT Tryz.prog 187 = some true := by kernel_rfl
  have h2 : szT Tryz.prog 187 = some 3 := by kernel_rfl
  simp [vload, vpart, h1, h2]
theorem sz187 : szT Tryz.prog 187 = some 3 := by kernel_rfl
theorem vzl187 : vzl Tryz.prog 187 = some [.lit (.slice none 0 0), .lit (.slice none 0 0), .lit (.bool false)] := by kernel_rfl
theorem fa187_0 {H : Nat → Option VObj} {cs : List VV} : vfieldAddr Tryz.prog H 187 (.tp cs) 0 = some (.tp (cs.drop 0)) := by
  have h2 : szT Tryz.prog 49 = some 3 := by kernel_rfl
  simp [vfieldAddr, Tryz.underlying187, h2]
theorem fp187_0 {H : Nat → Option VObj} {β o : Nat} : vfieldAddr Tryz.prog H 187 (.ptr β o) 0 = if (H β).isSome = true then some (.ptr β (o + 0)) else none := by
  have h2 : szT Tryz.prog 49 = some 3 := by kernel_rfl
  simp [vfieldAddr, Tryz.underlying187, h2]
theorem ld191 {c : VV} {cs : List VV} : vload Tryz.prog 191 (c :: cs) = some c := by
  have h1 : aggT Tryz.prog 191 = some false := by kernel_rfl
  simp [vload, vpart, h1]
theorem sz191 : szT Tryz.prog 191 = some 1 := by kernel_rfl
theorem len191 {H : Nat → Option VObj} {cs : List VV} {n : Nat} {f : Bool} : vlen Tryz.prog H 191 (.sl cs n f) = some (.lit (.int .i64 n)) := by simp [vlen, Tryz.underlying191, sls]
theorem lenN191 {H : Nat → Option VObj} : vlen Tryz.prog H 191 (.lit (.slice none 0 0)) = some (.lit (.int .i64 0)) := by simp [vlen, Tryz.underlying191, sls]
theorem lenR191 {H : Nat → Option VObj} {β off n w c : Nat} : vlen Tryz.prog H 191 (.ref β off n w c) = (match H β with | some (.cells _ cs) => if off ≤ cs.length then some (.lit (.int .i64 n)) else none | _ => none) := lenR Tryz.underlying191
theorem et191 : elemT Tryz.prog 191 = some 5 := by simp [elemT, Tryz.underlying191]
theorem ao191 : appOk Tryz.prog 191 = some (5, 1, 1) := by kernel_rfl
theorem tk191 {xs : List Int} : (cellsL eU8 xs).take (xs.length * 1) = cellsL eU8 xs := take_cells (fun _ => rfl)
theorem lf191 : ∀ x : Int, leafL (eU8 x) = true := fun x => by simp only [eI_eq, eU8_eq, eB_eq, eS_eq, eSl_eq, leafL_nil, leafL_cons, leaf_int, leaf_bool, leaf_string, leaf_slice, leaf_sl, Bool.and_self]
theorem ixo191 {xs : List Int} {x : Int} {i : Int} (h : getI xs i = some x) : (∀ (H : Nat → Option VObj) (β c : Nat) (k : IntKind), vindexAddr Tryz.prog H 191 (.ref β 0 xs.length 1 c) (.lit (.int k i)) = if (H β).isSome = true then some (.ptr β (i.toNat * 1)) else none) ∧ (cellsL eU8 xs).drop (i.toNat * 1) = eU8 x ++ cellsL eU8 (xs.drop (i.toNat + 1)) ∧ (i.toNat * 1 ≤ (cellsL eU8 xs).length) = True := ixO Tryz.underlying191 (by kernel_rfl : szT Tryz.prog 5 = some 1) (fun _ => rfl) h
theorem bs191_1 {a0 : VV} (h : leafL [a0] = true) : vbuildSlice Tryz.prog 191 1 [(0, a0)] = some ([a0], 1) := by
  have h2 : szT Tryz.prog 5 = some 1 := by kernel_rfl
  have h3 : vzero Tryz.prog 5 = some #[.int .u8 0] := by kernel_rfl
  simp only [leafL_cons, leafL_nil, Bool.and_true, Bool.and_eq_true] at h
  simp [vbuildSlice, Tryz.underlying191, h2, h3, vfill, vcells1, h, overwrite, vzeros, List.range_succ]
theorem bs191_2 {a0 a1 : VV} (h : leafL [a0, a1] = true) : vbuildSlice Tryz.prog 191 2 [(0, a0), (1, a1)] = some ([a0, a1], 1) := by
  have h2 : szT Tryz.prog 5 = some 1 := by kernel_rfl
  have h3 : vzero Tryz.prog 5 = some #[.int .u8 0] := by kernel_rfl
  simp only [leafL_cons, leafL_nil, Bool.and_true, Bool.and_eq_true] at h
  simp [vbuildSlice, Tryz.underlying191, h2, h3, vfill, vcells1, h, overwrite, vzeros, List.range_succ]
theorem bs191_3 {a0 a1 a2 : VV} (h : leafL [a0, a1, a2] = true) : vbuildSlice Tryz.prog 191 3 [(0, a0), (1, a1), (2, a2)] = some ([a0, a1, a2], 1) := by
  have h2 : szT Tryz.prog 5 = some 1 := by kernel_rfl
  have h3 : vzero Tryz.prog 5 = some #[.int .u8 0] := by kernel_rfl
  simp only [leafL_cons, leafL_nil, Bool.and_true, Bool.and_eq_true] at h
  simp [vbuildSlice, Tryz.underlying191, h2, h3, vfill, vcells1, h, overwrite, vzeros, List.range_succ]
theorem ix191 {H : Nat → Option VObj} {xs : List Int} {x : Int} {f : Bool} {k : IntKind} {i : Int} (h : getI xs i = some x) : vindexAddr Tryz.prog H 191 (.sl (cellsL eU8 xs) xs.length f) (.lit (.int k i)) = some (.tp (eU8 x ++ cellsL eU8 (xs.drop (i.toNat + 1)))) :=
  ixG Tryz.underlying191 (by kernel_rfl : szT Tryz.prog 5 = some 1) (by decide) (fun _ => rfl) h
theorem ld236 {c0 c1 : VV} {cs : List VV} : vload Tryz.prog 236 (c0 :: c1 :: cs) = some (.agg [c0, c1]) := by
  have h1 : aggT Tryz.prog 236 = some true := by kernel_rfl
  have h2 : szT Tryz.prog 236 = some 2 := by kernel_rfl
  simp [vload, vpart, h1, h2]
theorem sz236 : szT Tryz.prog 236 = some 2 := by kernel_rfl
theorem vzl236 : vzl Tryz.prog 236 = some [.lit (.int .u8 0), .lit (.int .u8 0)] := by kernel_rfl
theorem fa236_0 {H : Nat → Option VObj} {cs : List VV} : vfieldAddr Tryz.prog H 236 (.tp cs) 0 = some (.tp (cs.drop 0)) := by
  have h2 : szT Tryz.prog 5 = some 1 := by kernel_rfl
  simp [vfieldAddr, Tryz.underlying236, h2]
theorem fp236_0 {H : Nat → Option VObj} {β o : Nat} : vfieldAddr Tryz.prog H 236 (.ptr β o) 0 = if (H β).isSome = true then some (.ptr β (o + 0)) else none := by
  have h2 : szT Tryz.prog 5 = some 1 := by kernel_rfl
  simp [vfieldAddr, Tryz.underlying236, h2]
theorem fa236_1 {H : Nat → Option VObj} {cs : List VV} : vfieldAddr Tryz.prog H 236 (.tp cs) 1 = some (.tp (cs.drop 1)) := by
  have h2 : szT Tryz.prog 5 = some 1 := by kernel_rfl
  simp [vfieldAddr, Tryz.underlying236, h2]
theorem fp236_1 {H : Nat → Option VObj} {β o : Nat} : vfieldAddr Tryz.prog H 236 (.ptr β o) 1 = if (H β).isSome = true then some (.ptr β (o + 1)) else none := by
  have h2 : szT Tryz.prog 5 = some 1 := by kernel_rfl
  simp [vfieldAddr, Tryz.underlying236, h2]
theorem ld237 {c0 c1 : VV} {cs : List VV} : vload Tryz.prog 237 (c0 :: c1 :: cs) = some (.agg [c0, c1]) := by
  have h1 : aggT Tryz.prog 237 = some true := by kernel_rfl
  have h2 : szT Tryz.prog 237 = some 2 := by kernel_rfl
  simp [vload, vpart, h1, h2]
theorem sz237 : szT Tryz.prog 237 = some 2 := by kernel_rfl
theorem vzl237 : vzl Tryz.prog 237 = some [.lit (.int .u8 0), .lit (.int .u8 0)] := by kernel_rfl
theorem fa237_0 {H : Nat → Option VObj} {cs : List VV} : vfieldAddr Tryz.prog H 237 (.tp cs) 0 = some (.tp (cs.drop 0)) := by
  have h2 : szT Tryz.prog 5 = some 1 := by kernel_rfl
  simp [vfieldAddr, Tryz.underlying237, h2]
theorem fp237_0 {H : Nat → Option VObj} {β o : Nat} : vfieldAddr Tryz.prog H 237 (.ptr β o) 0 = if (H β).isSome = true then some (.ptr β (o + 0)) else none := by
  have h2 : szT Tryz.prog 5 = some 1 := by kernel_rfl
  simp [vfieldAddr, Tryz.underlying237, h2]
theorem fa237_1 {H : Nat → Option VObj} {cs : List VV} : vfieldAddr Tryz.prog H 237 (.tp cs) 1 = some (.tp (cs.drop 1)) := by
  have h2 : szT Tryz.prog 5 = some 1 := by kernel_rfl
  simp [vfieldAddr, Tryz.underlying237, h2]
theorem fp237_1 {H : Nat → Option VObj} {β o : Nat} : vfieldAddr Tryz.prog H 237 (.ptr β o) 1 = if (H β).isSome = true then some (.ptr β (o + 1)) else none := by
  have h2 : szT Tryz.prog 5 = some 1 := by kernel_rfl
  simp [vfieldAddr, Tryz.underlying237, h2]
def tyf := (And.intro (And.intro (And.intro (And.intro (And.intro (And.intro (And.intro (And.intro @cGSpan_eq (And.intro @cGLetterPair_eq @cGLetterWord_eq)) (And.intro @cGLetterSheet_eq (And.intro @cGLetterEnd_eq @cGLetterSetting_eq))) (And.intro (And.intro @cGlettermark_eq (And.intro @cGmahlstickref01Letter_eq @cGlettersignPair_eq)) (And.intro @cGlinesKind_eq (And.intro @cGletterfrontLine_eq @cGletterspacesLine_eq)))) (And.intro (And.intro (And.intro @cGlettersignLine_eq (And.intro @cGletterpairLine_eq @cGletterwordLine_eq)) (And.intro @cGutf8acceptRange_eq (And.intro @ld2 @sz2))) (And.intro (And.intro @ld3 (And.intro @sz3 @ld4)) (And.intro @sz4 (And.intro @ld5 @sz5))))) (And.intro (And.intro (And.intro (And.intro @ld9 (And.intro @sz9 @ld22)) (And.intro @sz22 (And.intro @len22 @lenN22))) (And.intro (And.intro @lenR22 (And.intro @et22 @tk22)) (And.intro @bs22_1 (And.intro @bs22_2 @bs22_3)))) (And.intro (And.intro (And.intro @ld23 (And.intro @sz23 @len23)) (And.intro @lenN23 (And.intro @lenR23 @et23))) (And.intro (And.intro @tk23 (And.intro @bs23_1 @ld24)) (And.intro @sz24 (And.intro @vzl24 @fa24_0)))))) (And.intro (And.intro (And.intro (And.intro (And.intro @fp24_0 (And.intro @fa24_1 @fp24_1)) (And.intro @ld25 (And.intro @sz25 @vzl25))) (And.intro (And.intro @fa25_0 (And.intro @fp25_0 @fa25_1)) (And.intro @fp25_1 (And.intro @ld26 @sz26)))) (And.intro (And.intro (And.intro @len26 (And.intro @lenN26 @lenR26)) (And.intro @et26 (And.intro @tk26 @bs26_1))) (And.intro (And.intro @ld27 (And.intro @sz27 @vzl27)) (And.intro @fa27_0 (And.intro @fp27_0 @fa27_1))))) (And.intro (And.intro (And.intro (And.intro @fp27_1 (And.intro @fa27_2 @fp27_2)) (And.intro @fa27_3 (And.intro @fp27_3 @fa27_4))) (And.intro (And.intro @fp27_4 (And.intro @fa27_5 @fp27_5)) (And.intro @fa27_6 (And.intro @fp27_6 @fa27_7)))) (And.intro (And.intro (And.intro @fp27_7 (And.intro @ld28 @sz28)) (And.intro @vzl28 (And.intro @fa28_0 @fp28_0))) (And.intro (And.intro @fa28_1 (And.intro @fp28_1 @fa28_2)) (And.intro (And.intro @fp28_2 @fa28_3) (And.intro @fp28_3 @fa28_4))))))) (And.intro (And.intro (And.intro (And.intro (And.intro (And.intro @fp28_4 (And.intro @fa28_5 @fp28_5)) (And.intro @fa28_6 (And.intro @fp28_6 @fa28_7))) (And.intro (And.intro @fp28_7 (And.intro @ld29 @sz29)) (And.intro @len29 (And.intro @lenN29 @lenR29)))) (And.intro (And.intro (And.intro @et29 (And.intro @tk29 @bs29_1)) (And.intro @ld30 (And.intro @sz30 @vzl30))) (And.intro (And.intro @fa30_0 (And.intro @fp30_0 @fa30_1)) (And.intro @fp30_1 (And.intro @ld31 @sz31))))) (And.intro (And.intro (And.intro (And.intro @vzl31 (And.intro @fa31_0 @fp31_0)) (And.intro @fa31_1 (And.intro @fp31_1 @ld35))) (And.intro (And.intro @sz35 (And.intro @ld48 @sz48)) (And.intro @vzl48 (And.intro @fa48_0 @fp48_0)))) (And.intro (And.intro (And.intro @fa48_1 (And.intro @fp48_1 @fa48_2)) (And.intro @fp48_2 (And.intro @ld49 @sz49))) (And.intro (And.intro @vzl49 (And.intro @fa49_0 @fp49_0)) (And.intro @fa49_1 (And.intro @fp49_1 @fa49_2)))))) (And.intro (And.intro (And.intro (And.intro (And.intro @fp49_2 (And.intro @ld58 @sz58)) (And.intro @len58 (And.intro @lenN58 @lenR58))) (And.intro (And.intro @et58 (And.intro @tk58 @bs58_1)) (And.intro @bs58_2 (And.intro @bs58_3 @ld71)))) (And.intro (And.intro (And.intro @sz71 (And.intro @len71 @lenN71)) (And.intro @lenR71 (And.intro @et71 @tk71))) (And.intro (And.intro @bs71_1 (And.intro @ld80 @sz80)) (And.intro @vzl80 (And.intro @fa80_0 @fp80_0))))) (And.intro (And.intro (And.intro (And.intro @fa80_1 (And.intro @fp80_1 @ld81)) (And.intro @sz81 (And.intro @vzl81 @fa81_0))) (And.intro (And.intro @fp81_0 (And.intro @fa81_1 @fp81_1)) (And.intro @ld85 (And.intro @sz85 @len85)))) (And.intro (And.intro (And.intro @lenN85 (And.intro @lenR85 @et85)) (And.intro @tk85 (And.intro @bs85_1 @bs85_2))) (And.intro (And.intro @bs85_3 (And.intro @ld88 @sz88)) (And.intro (And.intro @len88 @lenN88) (And.intro @lenR88 @et88)))))))) (And.intro (And.intro (And.intro (And.intro (And.intro (And.intro (And.intro @tk88 (And.intro @bs88_1 @ld91)) (And.intro @sz91 (And.intro @vzl91 @fa91_0))) (And.intro (And.intro @fp91_0 (And.intro @fa91_1 @fp91_1)) (And.intro @fa91_2 (And.intro @fp91_2 @ld92)))) (And.intro (And.intro (And.intro @sz92 (And.intro @vzl92 @fa92_0)) (And.intro @fp92_0 (And.intro @fa92_1 @fp92_1))) (And.intro (And.intro @fa92_2 (And.intro @fp92_2 @ld118)) (And.intro @sz118 (And.intro @len118 @lenN118))))) (And.intro (And.intro (And.intro (And.intro @lenR118 (And.intro @et118 @tk118)) (And.intro @bs118_1 (And.intro @bs118_2 @bs118_3))) (And.intro (And.intro @ld126 (And.intro @sz126 @vzl126)) (And.intro @fa126_0 (And.intro @fp126_0 @fa126_1)))) (And.intro (And.intro (And.intro @fp126_1 (And.intro @ld127 @sz127)) (And.intro @vzl127 (And.intro @fa127_0 @fp127_0))) (And.intro (And.intro @fa127_1 (And.intro @fp127_1 @ld128)) (And.intro @sz128 (And.intro @vzl128 @fa128_0)))))) (And.intro (And.intro (And.intro (And.intro (And.intro @fp128_0 (And.intro @fa128_1 @fp128_1)) (And.intro @fa128_2 (And.intro @fp128_2 @fa128_3))) (And.intro (And.intro @fp128_3 (And.intro @ld129 @sz129)) (And.intro @vzl129 (And.intro @fa129_0 @fp129_0)))) (And.intro (And.intro (And.intro @fa129_1 (And.intro @fp129_1 @fa129_2)) (And.intro @fp129_2 (And.intro @fa129_3 @fp129_3))) (And.intro (And.intro @ld131 (And.intro @sz131 @ld135)) (And.intro @sz135 (And.intro @vzl135 @fa135_0))))) (And.intro (And.intro (And.intro (And.intro @fp135_0 (And.intro @fa135_1 @fp135_1)) (And.intro @ld136 (And.intro @sz136 @vzl136))) (And.intro (And.intro @fa136_0 (And.intro @fp136_0 @fa136_1)) (And.intro @fp136_1 (And.intro @ld152 @sz152)))) (And.intro (And.intro (And.intro @len152 (And.intro @lenN152 @lenR152)) (And.intro @et152 (And.intro @tk152 @bs152_1))) (And.intro (And.intro @ld176 (And.intro @sz176 @vzl176)) (And.intro (And.intro @fa176_0 @fp176_0) (And.intro @fa176_1 @fp176_1))))))) (And.intro (And.intro (And.intro (And.intro (And.intro (And.intro @ld177 (And.intro @sz177 @vzl177)) (And.intro @fa177_0 (And.intro @fp177_0 @fa177_1))) (And.intro (And.intro @fp177_1 (And.intro @ld178 @sz178)) (And.intro @vzl178 (And.intro @fa178_0 @fp178_0)))) (And.intro (And.intro (And.intro @fa178_1 (And.intro @fp178_1 @ld179)) (And.intro @sz179 (And.intro @vzl179 @fa179_0))) (And.intro (And.intro @fp179_0 (And.intro @fa179_1 @fp179_1)) (And.intro @ld180 (And.intro @sz180 @vzl180))))) (And.intro (And.intro (And.intro (And.intro @fa180_0 (And.intro @fp180_0 @fa180_1)) (And.intro @fp180_1 (And.intro @fa180_2 @fp180_2))) (And.intro (And.intro @ld181 (And.intro @sz181 @vzl181)) (And.intro @fa181_0 (And.intro @fp181_0 @fa181_1)))) (And.intro (And.intro (And.intro @fp181_1 (And.intro @fa181_2 @fp181_2)) (And.intro @ld182 (And.intro @sz182 @vzl182))) (And.intro (And.intro @fa182_0 (And.intro @fp182_0 @ld183)) (And.intro (And.intro @sz183 @vzl183) (And.intro @fa183_0 @fp183_0)))))) (And.intro (And.intro (And.intro (And.intro (And.intro @ld184 (And.intro @sz184 @vzl184)) (And.intro @fa184_0 (And.intro @fp184_0 @ld185))) (And.intro (And.intro @sz185 (And.intro @vzl185 @fa185_0)) (And.intro @fp185_0 (And.intro @ld186 @sz186)))) (And.intro (And.intro (And.intro @vzl186 (And.intro @fa186_0 @fp186_0)) (And.intro @ld187 (And.intro @sz187 @vzl187))) (And.intro (And.intro @fa187_0 (And.intro @fp187_0 @ld191)) (And.intro @sz191 (And.intro @len191 @lenN191))))) (And.intro (And.intro (And.intro (And.intro @lenR191 (And.intro @et191 @tk191)) (And.intro @bs191_1 (And.intro @bs191_2 @bs191_3))) (And.intro (And.intro @ld236 (And.intro @sz236 @vzl236)) (And.intro @fa236_0 (And.intro @fp236_0 @fa236_1)))) (And.intro (And.intro (And.intro @fp236_1 (And.intro @ld237 @sz237)) (And.intro @vzl237 (And.intro @fa237_0 @fp237_0))) (And.intro (And.intro @fa237_1 (And.intro @fp237_1 @eI_eq)) (And.intro (And.intro @eU8_eq @eB_eq) (And.intro @eS_eq @eSl_eq)))))))))
def tynrm := (And.intro (And.intro (And.intro (And.intro (And.intro (And.intro @cGSpan_ok.norm @cGSpan_ok.normL) (And.intro @cGSpan_ok.shown @cGSpan_ok.showL)) (And.intro (And.intro @cGLetterPair_ok.norm @cGLetterPair_ok.normL) (And.intro @cGLetterPair_ok.shown (And.intro @cGLetterPair_ok.showL @cGLetterWord_ok.norm)))) (And.intro (And.intro (And.intro @cGLetterWord_ok.normL @cGLetterWord_ok.shown) (And.intro @cGLetterWord_ok.showL @cGLetterSheet_ok.norm)) (And.intro (And.intro @cGLetterSheet_ok.normL @cGLetterSheet_ok.shown) (And.intro @cGLetterSheet_ok.showL (And.intro @cGLetterEnd_ok.norm @cGLetterEnd_ok.normL))))) (And.intro (And.intro (And.intro (And.intro @cGLetterEnd_ok.shown @cGLetterEnd_ok.showL) (And.intro @cGLetterSetting_ok.norm @cGLetterSetting_ok.normL)) (And.intro (And.intro @cGLetterSetting_ok.shown @cGLetterSetting_ok.showL) (And.intro @cGlettermark_ok.norm (And.intro @cGlettermark_ok.normL @cGlettermark_ok.shown)))) (And.intro (And.intro (And.intro @cGlettermark_ok.showL @cGmahlstickref01Letter_ok.norm) (And.intro @cGmahlstickref01Letter_ok.normL @cGmahlstickref01Letter_ok.shown)) (And.intro (And.intro @cGmahlstickref01Letter_ok.showL @cGlettersignPair_ok.norm) (And.intro @cGlettersignPair_ok.normL (And.intro @cGlettersignPair_ok.shown @cGlettersignPair_ok.showL)))))) (And.intro (And.intro (And.intro (And.intro (And.intro @cGlinesKind_ok.norm @cGlinesKind_ok.normL) (And.intro @cGlinesKind_ok.shown @cGlinesKind_ok.showL)) (And.intro (And.intro @cGletterfrontLine_ok.norm @cGletterfrontLine_ok.normL) (And.intro @cGletterfrontLine_ok.shown (And.intro @cGletterfrontLine_ok.showL @cGletterspacesLine_ok.norm)))) (And.intro (And.intro (And.intro @cGletterspacesLine_ok.normL @cGletterspacesLine_ok.shown) (And.intro @cGletterspacesLine_ok.showL @cGlettersignLine_ok.norm)) (And.intro (And.intro @cGlettersignLine_ok.normL @cGlettersignLine_ok.shown) (And.intro @cGlettersignLine_ok.showL (And.intro @cGletterpairLine_ok.norm @cGletterpairLine_ok.normL))))) (And.intro (And.intro (And.intro (And.intro @cGletterpairLine_ok.shown @cGletterpairLine_ok.showL) (And.intro @cGletterwordLine_ok.norm @cGletterwordLine_ok.normL)) (And.intro (And.intro @cGletterwordLine_ok.shown @cGletterwordLine_ok.showL) (And.intro @cGutf8acceptRange_ok.norm (And.intro @cGutf8acceptRange_ok.normL @cGutf8acceptRange_ok.shown)))) (And.intro (And.intro (And.intro @cGutf8acceptRange_ok.showL @sl58_ok.norm) (And.intro @sl58_ok.normL @sl58_ok.shown)) (And.intro (And.intro @sl58_ok.showL @sl85_ok.norm) (And.intro @sl85_ok.normL (And.intro @sl85_ok.shown @sl85_ok.showL)))))))
def tytre := (And.intro (And.intro (And.intro (And.intro (And.intro @cGSpan_ok.tree @cGSpan_ok.treeL) (And.intro @cGLetterPair_ok.tree @cGLetterPair_ok.treeL)) (And.intro (And.intro @cGLetterWord_ok.tree @cGLetterWord_ok.treeL) (And.intro @cGLetterSheet_ok.tree (And.intro @cGLetterSheet_ok.treeL @cGLetterEnd_ok.tree)))) (And.intro (And.intro (And.intro @cGLetterEnd_ok.treeL @cGLetterSetting_ok.tree) (And.intro @cGLetterSetting_ok.treeL @cGlettermark_ok.tree)) (And.intro (And.intro @cGlettermark_ok.treeL @cGmahlstickref01Letter_ok.tree) (And.intro @cGmahlstickref01Letter_ok.treeL (And.intro @cGlettersignPair_ok.tree @cGlettersignPair_ok.treeL))))) (And.intro (And.intro (And.intro (And.intro @cGlinesKind_ok.tree @cGlinesKind_ok.treeL) (And.intro @cGletterfrontLine_ok.tree @cGletterfrontLine_ok.treeL)) (And.intro (And.intro @cGletterspacesLine_ok.tree @cGletterspacesLine_ok.treeL) (And.intro @cGlettersignLine_ok.tree (And.intro @cGlettersignLine_ok.treeL @cGletterpairLine_ok.tree)))) (And.intro (And.intro (And.intro @cGletterpairLine_ok.treeL @cGletterwordLine_ok.tree) (And.intro @cGletterwordLine_ok.treeL @cGutf8acceptRange_ok.tree)) (And.intro (And.intro @cGutf8acceptRange_ok.treeL @sl58_ok.tree) (And.intro @sl58_ok.treeL (And.intro @sl85_ok.tree @sl85_ok.treeL))))))
end Go.V
end
