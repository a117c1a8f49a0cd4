import PyProof.Rows.All
import Wide.All
import OpenK.AllK
import Wide.FinOn
import HandS.ForMost
import HandS.Codes
import HandS.Gcd
import HandS.IsInst
import HandS.Wide
import HandS.ForExc
import HandS.ExcIs
import HandS.ExcInit
import HandS.ExcField
import HandS.CallSlots
import HandS.Defaults
import HandS.TupMul
import HandS.Text
import HandS.Walk
import HandS.Rev
import HandS.MapJoin
import HandS.Star
import HandS.Style
import HandS.TupLe
import KE.KUnpackStar
import PyProof.StrOps2
import KE.GoesMore
import KE.KTurns
import HandS.ExcInit
import HandS.ExcField
import HandS.CallSlots
import HandS.Defaults
import HandS.Walk
import HandS.Star
import HandS.NoneIn
import HandS.Style
import HandS.StrMore
import HandS.FStr
import HandS.TryMany
import HandS.RaiseMore
import KE.KUnpackStar
import PySem.Challenge.RW_truepart_k60_parameters_declared_and_set
set_option Elab.async false
set_option linter.all false
set_option maxHeartbeats 8000000
set_option maxRecDepth 100000
namespace Tp
open PySem L2
def top (i : Nat) : Stmt := PySem.Challenge.pw_truepart_k60_parameters_declared_and_set.main.body.getD i (.Pass ⟨0, 0, 0, 0⟩)
abbrev sRowEnd : Stmt := top 23
abbrev sIsRow : Stmt := top 24
abbrev sIsShortWord : Stmt := top 25
abbrev sLess : Stmt := top 36
abbrev sIsParameterName : Stmt := top 52
abbrev sDocumentNames : Stmt := inClass (top 15) 1
abbrev sDeclare : Stmt := top 176
abbrev sSetValue : Stmt := top 177
abbrev sPerform : Stmt := top 189
abbrev sDocumentInit : Stmt := inClass (top 15) 0
abbrev sDocumentCopied : Stmt := inClass (top 15) 4
abbrev sApply : Stmt := top 190
abbrev sLLawNumber : Stmt := top 192
abbrev sLLawFraction : Stmt := top 194
abbrev sLLawSmall : Stmt := top 195
abbrev sLLawLess : Stmt := top 196
abbrev sLLawDue : Stmt := top 197
abbrev sLLawApply : Stmt := top 198
abbrev sDocumentSetting : Stmt := inClass (top 15) 2
abbrev sLaw : Stmt := top 199
theorem scRowEnd : FnScope ["text", "at", "allowed"] ["text", "at", "allowed"] (defScope sRowEnd) := ⟨rfl, rfl, rfl, by decide +kernel, rfl, by decide +kernel, by decide +kernel⟩
theorem scIsRow : FnScope ["text", "allowed"] ["text", "allowed"] (defScope sIsRow) := ⟨rfl, rfl, rfl, by decide +kernel, rfl, by decide +kernel, by decide +kernel⟩
theorem scIsShortWord : FnScope ["text", "first", "others"] ["text", "first", "others"] (defScope sIsShortWord) := ⟨rfl, rfl, rfl, by decide +kernel, rfl, by decide +kernel, by decide +kernel⟩
theorem scLess : FnScope ["a", "b"] ["a", "b"] (defScope sLess) := ⟨rfl, rfl, rfl, by decide +kernel, rfl, by decide +kernel, by decide +kernel⟩
theorem scIsParameterName : FnScope ["text"] ["text"] (defScope sIsParameterName) := ⟨rfl, rfl, rfl, by decide +kernel, rfl, by decide +kernel, by decide +kernel⟩
theorem scDocumentNames : FnScope ["self", "row"] ["self"] (defScope sDocumentNames) := ⟨rfl, rfl, rfl, by decide +kernel, rfl, by decide +kernel, by decide +kernel⟩
theorem scDeclare : FnScope ["document", "name", "value", "low", "high", "names", "row"] ["document", "name", "value", "low", "high"] (defScope sDeclare) := ⟨rfl, rfl, rfl, by decide +kernel, rfl, by decide +kernel, by decide +kernel⟩
theorem scSetValue : FnScope ["document", "name", "value", "at", "_", "low", "high"] ["document", "name", "value"] (defScope sSetValue) := ⟨rfl, rfl, rfl, by decide +kernel, rfl, by decide +kernel, by decide +kernel⟩
theorem scPerform : FnScope ["document", "edit", "kind", "parts"] ["document", "edit"] (defScope sPerform) := ⟨rfl, rfl, rfl, by decide +kernel, rfl, by decide +kernel, by decide +kernel⟩
theorem scDocumentInit : FnScope ["self", "low", "high"] ["self", "low", "high"] (defScope sDocumentInit) := ⟨rfl, rfl, rfl, by decide +kernel, rfl, by decide +kernel, by decide +kernel⟩
theorem scDocumentCopied : FnScope ["self", "found", "row"] ["self"] (defScope sDocumentCopied) := ⟨rfl, rfl, rfl, by decide +kernel, rfl, by decide +kernel, by decide +kernel⟩
theorem scApply : FnScope ["document", "edit", "made", "number"] ["document", "edit"] (defScope sApply) := ⟨rfl, rfl, rfl, by decide +kernel, rfl, by decide +kernel, by decide +kernel⟩
theorem scLLawNumber : FnScope ["script", "k", "cell", "first", "second"] ["script", "k"] (defScope sLLawNumber) := ⟨rfl, rfl, rfl, by decide +kernel, rfl, by decide +kernel, by decide +kernel⟩
theorem scLLawFraction : FnScope ["number", "divisor", "a", "b", "k", "rest"] ["number", "divisor"] (defScope sLLawFraction) := ⟨rfl, rfl, rfl, by decide +kernel, rfl, by decide +kernel, by decide +kernel⟩
theorem scLLawSmall : FnScope ["draw"] ["draw"] (defScope sLLawSmall) := ⟨rfl, rfl, rfl, by decide +kernel, rfl, by decide +kernel, by decide +kernel⟩
theorem scLLawLess : FnScope ["a", "b"] ["a", "b"] (defScope sLLawLess) := ⟨rfl, rfl, rfl, by decide +kernel, rfl, by decide +kernel, by decide +kernel⟩
theorem scLLawDue : FnScope ["rows", "edit", "names", "row"] ["rows", "edit"] (defScope sLLawDue) := ⟨rfl, rfl, rfl, by decide +kernel, rfl, by decide +kernel, by decide +kernel⟩
theorem scLLawApply : FnScope ["document", "edit", "wrong"] ["document", "edit"] (defScope sLLawApply) := ⟨rfl, rfl, rfl, by decide +kernel, rfl, by decide +kernel, by decide +kernel⟩
theorem scDocumentSetting : FnScope ["self", "row"] ["self"] (defScope sDocumentSetting) := ⟨rfl, rfl, rfl, by decide +kernel, rfl, by decide +kernel, by decide +kernel⟩
theorem scLaw : FnScope ["script", "menu", "low", "high", "document", "rows", "k", "draw", "name", "a", "b", "c", "least", "most", "edit", "before", "due", "actual", "row"] ["script"] (defScope sLaw) := ⟨rfl, rfl, rfl, by decide +kernel, rfl, by decide +kernel, by decide +kernel⟩
structure Txt (mg : Str → Option Value) : Prop where
  int : mg "int" = none
  isinstance : mg "isinstance" = none
  len : mg "len" = none
  list : mg "list" = none
  range : mg "range" = none
  str : mg "str" = none
  tuple : mg "tuple" = none
  gcd : mg "gcd" = some (.builtin "math.gcd")
structure Cons (K : PySem.W.Frag) (mg : Str → Option Value) (aLETTERS : Tok) (aWORD_CHARACTERS : Tok) (aNAME_LENGTH : Tok) (aMOST_PARAMETERS : Tok) : Prop where
  gLETTERS : mg "LETTERS" = some (.str "abcdefghijklmnopqrstuvwxyzABCDEFGHIJKLMNOPQRSTUVWXYZ" aLETTERS)
  gWORD_CHARACTERS : mg "WORD_CHARACTERS" = some (.str "abcdefghijklmnopqrstuvwxyzABCDEFGHIJKLMNOPQRSTUVWXYZ0123456789_" aWORD_CHARACTERS)
  gNAME_LENGTH : mg "NAME_LENGTH" = some (.int 16 aNAME_LENGTH)
  gMOST_PARAMETERS : mg "MOST_PARAMETERS" = some (.int 4 aMOST_PARAMETERS)
abbrev sIni : Stmt := (C8.clsBody (top 3)).getD 0 (.Pass ⟨0, 0, 0, 0⟩)
theorem scIni : FnScope ["self", "line", "column"] ["self", "line", "column"] (defScope sIni) := ⟨rfl, rfl, rfl, by decide +kernel, rfl, by decide +kernel, by decide +kernel⟩
structure ObDocument (K : PySem.W.Frag) (mg : Str → Option Value) (C : Addr) : Prop where
  g : mg "Document" = some (.ref C)
  cl : Cls K C
  nlow : NoAttr K C "low"
  nhigh : NoAttr K C "high"
  nparameters : NoAttr K C "parameters"
  nfeatures : NoAttr K C "features"
  nkept : NoAttr K C "kept"
  nlast_feature : NoAttr K C "last_feature"
  nlast_name : NoAttr K C "last_name"
section
variable {K : PySem.W.Frag} {C D : Addr} {c : Value} {r : Bool}
theorem exm_two (b : PySem.W.subIn K (.ref D) (.type "BaseException") = some true) (i : PySem.W.isClsIn K D = true) (t : PySem.W.typeIn K (.ref D) = some (.type "type")) (s : PySem.W.subIn K c (.ref D) = some r) : PySem.W.exmOne K c (.ref D) = some r := by
  have e1 : (PySem.W.subIn K (.ref D) (.type "BaseException") == some true) = true := by rw [b]; rfl
  have i' : (PySem.W.clsIn K D).isSome = true := i
  have e2 : ((PySem.W.clsIn K D).isSome && PySem.W.typeIn K (.ref D) == some (.type "type")) = true := by rw [i', t]; rfl
  unfold PySem.W.exmOne PySem.W.kitCls
  rw [if_pos e1]
  show (if _ then _ else _) = _
  rw [if_pos e2]
  exact s
theorem kit_self : PySem.W.kitOne K (.ref C) (.ref C) = some true := by
  unfold PySem.W.kitOne
  exact if_pos (beq_iff_eq.mpr rfl)
theorem kit_not (s0 : PySem.W.subIn K (.ref C) (.ref C) = some true) (i : PySem.W.isClsIn K D = true) (t : PySem.W.typeIn K (.ref D) = some (.type "type")) (s : PySem.W.subIn K (.ref C) (.ref D) = some false) : PySem.W.kitOne K (.ref C) (.ref D) = some false := by
  have i' : (PySem.W.clsIn K D).isSome = true := i
  have e2 : ((PySem.W.clsIn K D).isSome && PySem.W.typeIn K (.ref D) == some (.type "type")) = true := by rw [i', t]; rfl
  unfold PySem.W.kitOne PySem.W.kitCls
  rw [if_neg (fun z => ?_)]
  · show (if _ then _ else _) = _
    rw [if_pos e2]
    exact s
  · have e := Value.ref.inj (beq_iff_eq.mp z)
    subst e
    rw [s0] at s
    cases s
theorem kit_kind {T : String} (h : PySem.W.kitMeta T = true) (s : PySem.W.subIn K (.ref C) (.type T) = some r) : PySem.W.kitOne K (.ref C) (.type T) = some r := by
  unfold PySem.W.kitOne PySem.W.kitCls
  rw [if_neg (fun z => by have e := beq_iff_eq.mp z; cases e)]
  show (if _ then _ else _) = _
  rw [if_pos h]
  exact s
end

structure Exns (K : PySem.W.Frag) (mg : Str → Option Value) (CPartError CTextFault CUnknown CTaken CBeyond CFull : Addr) : Prop where
  gPartError : mg "PartError" = some (.ref CPartError)
  gTextFault : mg "TextFault" = some (.ref CTextFault)
  gUnknown : mg "Unknown" = some (.ref CUnknown)
  gTaken : mg "Taken" = some (.ref CTaken)
  gBeyond : mg "Beyond" = some (.ref CBeyond)
  gFull : mg "Full" = some (.ref CFull)
  xTaken : PySem.W.excIn K CTaken [.type "ValueError", .type "Exception", .type "BaseException", .type "object"] "ValueError.__new__" = true
  kTaken : PySem.W.keepIn K (.ref CTaken) = true
  bTaken : PySem.W.subIn K (.ref CTaken) (.type "BaseException") = some true
  tTaken : PySem.W.typeIn K (.ref CTaken) = some (.type "type")
  xFull : PySem.W.excIn K CFull [.type "ValueError", .type "Exception", .type "BaseException", .type "object"] "ValueError.__new__" = true
  kFull : PySem.W.keepIn K (.ref CFull) = true
  bFull : PySem.W.subIn K (.ref CFull) (.type "BaseException") = some true
  tFull : PySem.W.typeIn K (.ref CFull) = some (.type "type")
  xBeyond : PySem.W.excIn K CBeyond [.type "ValueError", .type "Exception", .type "BaseException", .type "object"] "ValueError.__new__" = true
  kBeyond : PySem.W.keepIn K (.ref CBeyond) = true
  bBeyond : PySem.W.subIn K (.ref CBeyond) (.type "BaseException") = some true
  tBeyond : PySem.W.typeIn K (.ref CBeyond) = some (.type "type")
  xUnknown : PySem.W.excIn K CUnknown [.type "ValueError", .type "Exception", .type "BaseException", .type "object"] "ValueError.__new__" = true
  kUnknown : PySem.W.keepIn K (.ref CUnknown) = true
  bUnknown : PySem.W.subIn K (.ref CUnknown) (.type "BaseException") = some true
  tUnknown : PySem.W.typeIn K (.ref CUnknown) = some (.type "type")
  bTextFault : PySem.W.subIn K (.ref CTextFault) (.type "BaseException") = some true
  tTextFault : PySem.W.typeIn K (.ref CTextFault) = some (.type "type")
  iTextFault : PySem.W.isClsIn K CTextFault = true
  iTaken : PySem.W.isClsIn K CTaken = true
  iFull : PySem.W.isClsIn K CFull = true
  iBeyond : PySem.W.isClsIn K CBeyond = true
  iUnknown : PySem.W.isClsIn K CUnknown = true
  bPartError : PySem.W.subIn K (.ref CPartError) (.type "BaseException") = some true
  tPartError : PySem.W.typeIn K (.ref CPartError) = some (.type "type")
  iPartError : PySem.W.isClsIn K CPartError = true
  sTaken_TextFault : PySem.W.subIn K (.ref CTaken) (.ref CTextFault) = some false
  sTaken_Taken : PySem.W.subIn K (.ref CTaken) (.ref CTaken) = some true
  sTaken_Full : PySem.W.subIn K (.ref CTaken) (.ref CFull) = some false
  sTaken_Beyond : PySem.W.subIn K (.ref CTaken) (.ref CBeyond) = some false
  sTaken_Unknown : PySem.W.subIn K (.ref CTaken) (.ref CUnknown) = some false
  sTaken_PartError : PySem.W.subIn K (.ref CTaken) (.ref CPartError) = some true
  sFull_TextFault : PySem.W.subIn K (.ref CFull) (.ref CTextFault) = some false
  sFull_Taken : PySem.W.subIn K (.ref CFull) (.ref CTaken) = some false
  sFull_Full : PySem.W.subIn K (.ref CFull) (.ref CFull) = some true
  sFull_Beyond : PySem.W.subIn K (.ref CFull) (.ref CBeyond) = some false
  sFull_Unknown : PySem.W.subIn K (.ref CFull) (.ref CUnknown) = some false
  sFull_PartError : PySem.W.subIn K (.ref CFull) (.ref CPartError) = some true
  sBeyond_TextFault : PySem.W.subIn K (.ref CBeyond) (.ref CTextFault) = some false
  sBeyond_Taken : PySem.W.subIn K (.ref CBeyond) (.ref CTaken) = some false
  sBeyond_Full : PySem.W.subIn K (.ref CBeyond) (.ref CFull) = some false
  sBeyond_Beyond : PySem.W.subIn K (.ref CBeyond) (.ref CBeyond) = some true
  sBeyond_Unknown : PySem.W.subIn K (.ref CBeyond) (.ref CUnknown) = some false
  sBeyond_PartError : PySem.W.subIn K (.ref CBeyond) (.ref CPartError) = some true
  sUnknown_TextFault : PySem.W.subIn K (.ref CUnknown) (.ref CTextFault) = some false
  sUnknown_Taken : PySem.W.subIn K (.ref CUnknown) (.ref CTaken) = some false
  sUnknown_Full : PySem.W.subIn K (.ref CUnknown) (.ref CFull) = some false
  sUnknown_Beyond : PySem.W.subIn K (.ref CUnknown) (.ref CBeyond) = some false
  sUnknown_Unknown : PySem.W.subIn K (.ref CUnknown) (.ref CUnknown) = some true
  sUnknown_PartError : PySem.W.subIn K (.ref CUnknown) (.ref CPartError) = some true
  sTextFault_TextFault : PySem.W.subIn K (.ref CTextFault) (.ref CTextFault) = some true
  sTextFault_Taken : PySem.W.subIn K (.ref CTextFault) (.ref CTaken) = some false
  sTextFault_Full : PySem.W.subIn K (.ref CTextFault) (.ref CFull) = some false
  sTextFault_Beyond : PySem.W.subIn K (.ref CTextFault) (.ref CBeyond) = some false
  sTextFault_Unknown : PySem.W.subIn K (.ref CTextFault) (.ref CUnknown) = some false
  sTextFault_PartError : PySem.W.subIn K (.ref CTextFault) (.ref CPartError) = some true
structure Flt (K : PySem.W.Frag) (mg : Str → Option Value) (CPartError CTextFault CUnknown CTaken CBeyond CFull fIni : Addr) : Prop where
  g : mg "TextFault" = some (.ref CTextFault)
  cls : ∃ nm q N bs bm sn sub ab col dd k0 k1 k2 k3 k5, K.lookup CTextFault = some (excClassObj nm q CTextFault N bs bm true sn sub ab col dd k0 k1 k2 k3 k5 "ValueError.__new__") ∧ PySem.HandSPX.refsVE bm = true
  sa : PySem.W.findIn K (.ref CTextFault) "__setattr__" = some (some (.builtin "object.__setattr__"))
  ga : PySem.W.findIn K (.ref CTextFault) "__getattribute__" = some (some (.builtin "BaseException.__getattribute__"))
  gg : PySem.W.findIn K (.ref CTextFault) "__getattr__" = some none
  nline : PySem.W.findIn K (.ref CTextFault) "line" = some none
  ncolumn : PySem.W.findIn K (.ref CTextFault) "column" = some none
  iC : PySem.W.findIn K (.ref CTextFault) "__init__" = some (some (.ref fIni))
  tI : PySem.W.typeIn K (.ref fIni) = some (.type "function")
  kC : PySem.W.keepIn K (.ref CTextFault) = true
  exC : PySem.W.subIn K (.ref CTextFault) (.type "BaseException") = some true
  tyC : PySem.W.typeIn K (.ref CTextFault) = some (.type "type")
  hdC : PySem.W.hasDictIn K CTextFault = true
  clC : PySem.W.isClsIn K CTextFault = true
  seC : PySem.W.subIn K (.ref CTextFault) (.ref CTextFault) = some true
  i4 : PySem.W.findIn K (.ref CTextFault) "__class__" = some (some (.builtin "object.__class__"))
  i5 : PySem.W.specialIn K (.builtin "object.__class__") "__get__" = some (some (.builtin "getset_descriptor.__get__"))
  i6 : PySem.W.takesIn K (.builtin "object.__class__") = some true
  i7 : PySem.W.mroIn K CTextFault (.type "object") = some true
  cbPartError : PySem.W.subIn K (.ref CPartError) (.type "BaseException") = some true
  ciPartError : PySem.W.isClsIn K CPartError = true
  ctPartError : PySem.W.typeIn K (.ref CPartError) = some (.type "type")
  csPartError : PySem.W.subIn K (.ref CTextFault) (.ref CPartError) = some true
theorem Flt.ox {K : PySem.W.Frag} {mg : Str → Option Value} {CPartError CTextFault CUnknown CTaken CBeyond CFull fIni : Addr} (h : Flt K mg CPartError CTextFault CUnknown CTaken CBeyond CFull fIni) : OexC K CTextFault := ⟨h.cls, h.sa, h.exC, h.tyC, h.kC⟩
theorem Flt.xf {K : PySem.W.Frag} {mg : Str → Option Value} {CPartError CTextFault CUnknown CTaken CBeyond CFull fIni : Addr} (h : Flt K mg CPartError CTextFault CUnknown CTaken CBeyond CFull fIni) : XfC K CTextFault := ⟨h.ga, h.gg, h.exC, h.hdC⟩
theorem Flt.ec {K : PySem.W.Frag} {mg : Str → Option Value} {CPartError CTextFault CUnknown CTaken CBeyond CFull fIni : Addr} (h : Flt K mg CPartError CTextFault CUnknown CTaken CBeyond CFull fIni) : ExcC K CTextFault := ⟨h.ga, h.gg, h.exC, h.hdC, h.i4, h.i5, h.i6, h.i7⟩
theorem Flt.ePartError {K : PySem.W.Frag} {mg : Str → Option Value} {CPartError CTextFault CUnknown CTaken CBeyond CFull fIni : Addr} (h : Flt K mg CPartError CTextFault CUnknown CTaken CBeyond CFull fIni) : PySem.W.exmOne K (.ref CTextFault) (.ref CPartError) = some true := exm_two h.cbPartError h.ciPartError h.ctPartError h.csPartError
theorem Flt.eTextFault {K : PySem.W.Frag} {mg : Str → Option Value} {CPartError CTextFault CUnknown CTaken CBeyond CFull fIni : Addr} (h : Flt K mg CPartError CTextFault CUnknown CTaken CBeyond CFull fIni) : PySem.W.exmOne K (.ref CTextFault) (.ref CTextFault) = some true := exm_two h.exC h.clC h.tyC h.seC
theorem Flt.kTextFault {K : PySem.W.Frag} {mg : Str → Option Value} {CPartError CTextFault CUnknown CTaken CBeyond CFull fIni : Addr} (h : Flt K mg CPartError CTextFault CUnknown CTaken CBeyond CFull fIni) : PySem.W.kitOne K (.ref CTextFault) (.ref CTextFault) = some true := kit_self
theorem Exns.mTaken_TextFault {K : PySem.W.Frag} {mg : Str → Option Value} {CPartError CTextFault CUnknown CTaken CBeyond CFull : Addr} (EX : Exns K mg CPartError CTextFault CUnknown CTaken CBeyond CFull) : PySem.W.exmOne K (.ref CTaken) (.ref CTextFault) = some false := exm_two EX.bTextFault EX.iTextFault EX.tTextFault EX.sTaken_TextFault
theorem Exns.mTaken_Taken {K : PySem.W.Frag} {mg : Str → Option Value} {CPartError CTextFault CUnknown CTaken CBeyond CFull : Addr} (EX : Exns K mg CPartError CTextFault CUnknown CTaken CBeyond CFull) : PySem.W.exmOne K (.ref CTaken) (.ref CTaken) = some true := exm_two EX.bTaken EX.iTaken EX.tTaken EX.sTaken_Taken
theorem Exns.mTaken_Full {K : PySem.W.Frag} {mg : Str → Option Value} {CPartError CTextFault CUnknown CTaken CBeyond CFull : Addr} (EX : Exns K mg CPartError CTextFault CUnknown CTaken CBeyond CFull) : PySem.W.exmOne K (.ref CTaken) (.ref CFull) = some false := exm_two EX.bFull EX.iFull EX.tFull EX.sTaken_Full
theorem Exns.mTaken_Beyond {K : PySem.W.Frag} {mg : Str → Option Value} {CPartError CTextFault CUnknown CTaken CBeyond CFull : Addr} (EX : Exns K mg CPartError CTextFault CUnknown CTaken CBeyond CFull) : PySem.W.exmOne K (.ref CTaken) (.ref CBeyond) = some false := exm_two EX.bBeyond EX.iBeyond EX.tBeyond EX.sTaken_Beyond
theorem Exns.mTaken_Unknown {K : PySem.W.Frag} {mg : Str → Option Value} {CPartError CTextFault CUnknown CTaken CBeyond CFull : Addr} (EX : Exns K mg CPartError CTextFault CUnknown CTaken CBeyond CFull) : PySem.W.exmOne K (.ref CTaken) (.ref CUnknown) = some false := exm_two EX.bUnknown EX.iUnknown EX.tUnknown EX.sTaken_Unknown
theorem Exns.mTaken_PartError {K : PySem.W.Frag} {mg : Str → Option Value} {CPartError CTextFault CUnknown CTaken CBeyond CFull : Addr} (EX : Exns K mg CPartError CTextFault CUnknown CTaken CBeyond CFull) : PySem.W.exmOne K (.ref CTaken) (.ref CPartError) = some true := exm_two EX.bPartError EX.iPartError EX.tPartError EX.sTaken_PartError
theorem Exns.mFull_TextFault {K : PySem.W.Frag} {mg : Str → Option Value} {CPartError CTextFault CUnknown CTaken CBeyond CFull : Addr} (EX : Exns K mg CPartError CTextFault CUnknown CTaken CBeyond CFull) : PySem.W.exmOne K (.ref CFull) (.ref CTextFault) = some false := exm_two EX.bTextFault EX.iTextFault EX.tTextFault EX.sFull_TextFault
theorem Exns.mFull_Taken {K : PySem.W.Frag} {mg : Str → Option Value} {CPartError CTextFault CUnknown CTaken CBeyond CFull : Addr} (EX : Exns K mg CPartError CTextFault CUnknown CTaken CBeyond CFull) : PySem.W.exmOne K (.ref CFull) (.ref CTaken) = some false := exm_two EX.bTaken EX.iTaken EX.tTaken EX.sFull_Taken
theorem Exns.mFull_Full {K : PySem.W.Frag} {mg : Str → Option Value} {CPartError CTextFault CUnknown CTaken CBeyond CFull : Addr} (EX : Exns K mg CPartError CTextFault CUnknown CTaken CBeyond CFull) : PySem.W.exmOne K (.ref CFull) (.ref CFull) = some true := exm_two EX.bFull EX.iFull EX.tFull EX.sFull_Full
theorem Exns.mFull_Beyond {K : PySem.W.Frag} {mg : Str → Option Value} {CPartError CTextFault CUnknown CTaken CBeyond CFull : Addr} (EX : Exns K mg CPartError CTextFault CUnknown CTaken CBeyond CFull) : PySem.W.exmOne K (.ref CFull) (.ref CBeyond) = some false := exm_two EX.bBeyond EX.iBeyond EX.tBeyond EX.sFull_Beyond
theorem Exns.mFull_Unknown {K : PySem.W.Frag} {mg : Str → Option Value} {CPartError CTextFault CUnknown CTaken CBeyond CFull : Addr} (EX : Exns K mg CPartError CTextFault CUnknown CTaken CBeyond CFull) : PySem.W.exmOne K (.ref CFull) (.ref CUnknown) = some false := exm_two EX.bUnknown EX.iUnknown EX.tUnknown EX.sFull_Unknown
theorem Exns.mFull_PartError {K : PySem.W.Frag} {mg : Str → Option Value} {CPartError CTextFault CUnknown CTaken CBeyond CFull : Addr} (EX : Exns K mg CPartError CTextFault CUnknown CTaken CBeyond CFull) : PySem.W.exmOne K (.ref CFull) (.ref CPartError) = some true := exm_two EX.bPartError EX.iPartError EX.tPartError EX.sFull_PartError
theorem Exns.mBeyond_TextFault {K : PySem.W.Frag} {mg : Str → Option Value} {CPartError CTextFault CUnknown CTaken CBeyond CFull : Addr} (EX : Exns K mg CPartError CTextFault CUnknown CTaken CBeyond CFull) : PySem.W.exmOne K (.ref CBeyond) (.ref CTextFault) = some false := exm_two EX.bTextFault EX.iTextFault EX.tTextFault EX.sBeyond_TextFault
theorem Exns.mBeyond_Taken {K : PySem.W.Frag} {mg : Str → Option Value} {CPartError CTextFault CUnknown CTaken CBeyond CFull : Addr} (EX : Exns K mg CPartError CTextFault CUnknown CTaken CBeyond CFull) : PySem.W.exmOne K (.ref CBeyond) (.ref CTaken) = some false := exm_two EX.bTaken EX.iTaken EX.tTaken EX.sBeyond_Taken
theorem Exns.mBeyond_Full {K : PySem.W.Frag} {mg : Str → Option Value} {CPartError CTextFault CUnknown CTaken CBeyond CFull : Addr} (EX : Exns K mg CPartError CTextFault CUnknown CTaken CBeyond CFull) : PySem.W.exmOne K (.ref CBeyond) (.ref CFull) = some false := exm_two EX.bFull EX.iFull EX.tFull EX.sBeyond_Full
theorem Exns.mBeyond_Beyond {K : PySem.W.Frag} {mg : Str → Option Value} {CPartError CTextFault CUnknown CTaken CBeyond CFull : Addr} (EX : Exns K mg CPartError CTextFault CUnknown CTaken CBeyond CFull) : PySem.W.exmOne K (.ref CBeyond) (.ref CBeyond) = some true := exm_two EX.bBeyond EX.iBeyond EX.tBeyond EX.sBeyond_Beyond
theorem Exns.mBeyond_Unknown {K : PySem.W.Frag} {mg : Str → Option Value} {CPartError CTextFault CUnknown CTaken CBeyond CFull : Addr} (EX : Exns K mg CPartError CTextFault CUnknown CTaken CBeyond CFull) : PySem.W.exmOne K (.ref CBeyond) (.ref CUnknown) = some false := exm_two EX.bUnknown EX.iUnknown EX.tUnknown EX.sBeyond_Unknown
theorem Exns.mBeyond_PartError {K : PySem.W.Frag} {mg : Str → Option Value} {CPartError CTextFault CUnknown CTaken CBeyond CFull : Addr} (EX : Exns K mg CPartError CTextFault CUnknown CTaken CBeyond CFull) : PySem.W.exmOne K (.ref CBeyond) (.ref CPartError) = some true := exm_two EX.bPartError EX.iPartError EX.tPartError EX.sBeyond_PartError
theorem Exns.mUnknown_TextFault {K : PySem.W.Frag} {mg : Str → Option Value} {CPartError CTextFault CUnknown CTaken CBeyond CFull : Addr} (EX : Exns K mg CPartError CTextFault CUnknown CTaken CBeyond CFull) : PySem.W.exmOne K (.ref CUnknown) (.ref CTextFault) = some false := exm_two EX.bTextFault EX.iTextFault EX.tTextFault EX.sUnknown_TextFault
theorem Exns.mUnknown_Taken {K : PySem.W.Frag} {mg : Str → Option Value} {CPartError CTextFault CUnknown CTaken CBeyond CFull : Addr} (EX : Exns K mg CPartError CTextFault CUnknown CTaken CBeyond CFull) : PySem.W.exmOne K (.ref CUnknown) (.ref CTaken) = some false := exm_two EX.bTaken EX.iTaken EX.tTaken EX.sUnknown_Taken
theorem Exns.mUnknown_Full {K : PySem.W.Frag} {mg : Str → Option Value} {CPartError CTextFault CUnknown CTaken CBeyond CFull : Addr} (EX : Exns K mg CPartError CTextFault CUnknown CTaken CBeyond CFull) : PySem.W.exmOne K (.ref CUnknown) (.ref CFull) = some false := exm_two EX.bFull EX.iFull EX.tFull EX.sUnknown_Full
theorem Exns.mUnknown_Beyond {K : PySem.W.Frag} {mg : Str → Option Value} {CPartError CTextFault CUnknown CTaken CBeyond CFull : Addr} (EX : Exns K mg CPartError CTextFault CUnknown CTaken CBeyond CFull) : PySem.W.exmOne K (.ref CUnknown) (.ref CBeyond) = some false := exm_two EX.bBeyond EX.iBeyond EX.tBeyond EX.sUnknown_Beyond
theorem Exns.mUnknown_Unknown {K : PySem.W.Frag} {mg : Str → Option Value} {CPartError CTextFault CUnknown CTaken CBeyond CFull : Addr} (EX : Exns K mg CPartError CTextFault CUnknown CTaken CBeyond CFull) : PySem.W.exmOne K (.ref CUnknown) (.ref CUnknown) = some true := exm_two EX.bUnknown EX.iUnknown EX.tUnknown EX.sUnknown_Unknown
theorem Exns.mUnknown_PartError {K : PySem.W.Frag} {mg : Str → Option Value} {CPartError CTextFault CUnknown CTaken CBeyond CFull : Addr} (EX : Exns K mg CPartError CTextFault CUnknown CTaken CBeyond CFull) : PySem.W.exmOne K (.ref CUnknown) (.ref CPartError) = some true := exm_two EX.bPartError EX.iPartError EX.tPartError EX.sUnknown_PartError
theorem Exns.mTextFault_TextFault {K : PySem.W.Frag} {mg : Str → Option Value} {CPartError CTextFault CUnknown CTaken CBeyond CFull : Addr} (EX : Exns K mg CPartError CTextFault CUnknown CTaken CBeyond CFull) : PySem.W.exmOne K (.ref CTextFault) (.ref CTextFault) = some true := exm_two EX.bTextFault EX.iTextFault EX.tTextFault EX.sTextFault_TextFault
theorem Exns.mTextFault_Taken {K : PySem.W.Frag} {mg : Str → Option Value} {CPartError CTextFault CUnknown CTaken CBeyond CFull : Addr} (EX : Exns K mg CPartError CTextFault CUnknown CTaken CBeyond CFull) : PySem.W.exmOne K (.ref CTextFault) (.ref CTaken) = some false := exm_two EX.bTaken EX.iTaken EX.tTaken EX.sTextFault_Taken
theorem Exns.mTextFault_Full {K : PySem.W.Frag} {mg : Str → Option Value} {CPartError CTextFault CUnknown CTaken CBeyond CFull : Addr} (EX : Exns K mg CPartError CTextFault CUnknown CTaken CBeyond CFull) : PySem.W.exmOne K (.ref CTextFault) (.ref CFull) = some false := exm_two EX.bFull EX.iFull EX.tFull EX.sTextFault_Full
theorem Exns.mTextFault_Beyond {K : PySem.W.Frag} {mg : Str → Option Value} {CPartError CTextFault CUnknown CTaken CBeyond CFull : Addr} (EX : Exns K mg CPartError CTextFault CUnknown CTaken CBeyond CFull) : PySem.W.exmOne K (.ref CTextFault) (.ref CBeyond) = some false := exm_two EX.bBeyond EX.iBeyond EX.tBeyond EX.sTextFault_Beyond
theorem Exns.mTextFault_Unknown {K : PySem.W.Frag} {mg : Str → Option Value} {CPartError CTextFault CUnknown CTaken CBeyond CFull : Addr} (EX : Exns K mg CPartError CTextFault CUnknown CTaken CBeyond CFull) : PySem.W.exmOne K (.ref CTextFault) (.ref CUnknown) = some false := exm_two EX.bUnknown EX.iUnknown EX.tUnknown EX.sTextFault_Unknown
theorem Exns.mTextFault_PartError {K : PySem.W.Frag} {mg : Str → Option Value} {CPartError CTextFault CUnknown CTaken CBeyond CFull : Addr} (EX : Exns K mg CPartError CTextFault CUnknown CTaken CBeyond CFull) : PySem.W.exmOne K (.ref CTextFault) (.ref CPartError) = some true := exm_two EX.bPartError EX.iPartError EX.tPartError EX.sTextFault_PartError
local macro_rules | `(tactic| walk_at "rd") => `(tactic| repeat (first | refine ⟨_, rfl, ?_⟩ | refine ⟨rfl, ?_⟩ | refine ⟨_, _, rfl, rfl, ?_⟩ | refine Or.inl ⟨_, rfl, ?_⟩ | refine ⟨(by show (0 : Int) < _; decide), ?_⟩ | refine ⟨⟨by decide, by decide⟩, ?_⟩ | refine ⟨Or.inr ⟨by decide, by decide⟩, ?_⟩ | refine ⟨Or.inl ⟨by decide, by decide⟩, ?_⟩ | refine ⟨⟨by decide, by decide, by decide⟩, ?_⟩))
abbrev zs (l : List Int) : List V := l.map V.int
theorem same_upd {H : Hp} {p : Addr} {o : HO} (h : H p = none) : Same H (upd H p o) := fun b x e => by
  rw [upd_ne (ne_of_none e h)]
  exact e
theorem same_tup {K : PySem.W.Frag} {H H' : Hp} {a : Addr} {xs : List V} (e : Same H H') (h : SqT K H a xs) : SqT K H' a xs := by
  rcases h with (h | ⟨o, h⟩) | h
  · exact .inl (.inl (e _ _ h))
  · exact .inl (.inr ⟨o, e _ _ h⟩)
  · exact .inr h
theorem zs_get {l : List Int} {i : Nat} {v : V} (h : (zs l)[i]? = some v) : ∃ z, v = .int z ∧ l[i]? = some z := by
  rw [show zs l = l.map V.int from rfl, List.getElem?_map] at h
  cases e : l[i]? with
  | none =>
    rw [e] at h
    cases h
  | some z =>
    rw [e] at h
    exact ⟨z, (Option.some.inj h).symm, rfl⟩
theorem zs_snoc {l : List Int} {i : Nat} {z : Int} (f : Int → Int) (h : l[i]? = some z) : zs ((l.map f).take i) ++ [V.int (f z)] = zs ((l.map f).take (i + 1)) := by
  show ((l.map f).take i).map V.int ++ [V.int (f z)] = ((l.map f).take (i + 1)).map V.int
  rw [List.take_add_one, List.getElem?_map, h, List.map_append]
  rfl
theorem zs_len {l : List Int} (n : Nat) (h : l.length ≤ 1000) : (zs (l.take n)).length < sizeLine := by
  show ((l.take n).map V.int).length < sizeLine
  rw [List.length_map, List.length_take]
  exact small1000 (by omega)
theorem ne_of_bang {n m : Int} (h : (!decide (V.int n = V.int m)) = true) : n ≠ m := fun e => by
  rw [e, decide_eq_true rfl] at h
  cases h
theorem eq_of_nobang {n m : Int} (h : ¬ (!decide (V.int n = V.int m)) = true) : n = m := by
  by_cases e : n = m
  · exact e
  · exact absurd (by rw [decide_eq_false (fun z => e (V.int.inj z))]; rfl) h
theorem eq_of_dec {n m : Int} (h : decide (V.int n = V.int m) = true) : n = m := V.int.inj (of_decide_eq_true h)
theorem ne_of_nodec {n m : Int} (h : ¬ decide (V.int n = V.int m) = true) : n ≠ m := fun e => h (decide_eq_true (by rw [e]))

/-! Euclid by turns. -/
/-- one turn of the walk (a, b) -> (b, a % b), of naturals -/
theorem gcd_turn (a b : Nat) : Nat.gcd b (a % b) = Nat.gcd a b := by
  rw [Nat.gcd_comm b, ← Nat.gcd_rec, Nat.gcd_comm]
theorem prod_turn {a b : Nat} (h : b ≤ a) (hb : 0 < b) : 2 * (b * (a % b)) ≤ a * b := by
  have h1 : a % b < b := Nat.mod_lt _ hb
  have h2 : a = b * (a / b) + a % b := (Nat.div_add_mod a b).symm
  have h3 : 1 ≤ a / b := (Nat.one_le_div_iff hb).mpr h
  have h4 : b * 1 ≤ b * (a / b) := Nat.mul_le_mul_left b h3
  have h5 : 2 * (a % b) ≤ a := by omega
  calc 2 * (b * (a % b)) = b * (2 * (a % b)) := by rw [Nat.mul_left_comm]
    _ ≤ b * a := Nat.mul_le_mul_left b h5
    _ = a * b := Nat.mul_comm _ _
/-- what holds behind i turns from (a0, b0) -/
structure Eu (a0 b0 i a b : Nat) : Prop where
  g : Nat.gcd a b = Nat.gcd a0 b0
  p : a * b * 2 ^ i ≤ 2 * (a0 * b0)
  o : i = 0 ∨ b ≤ a
  z : i = 0 → a = a0 ∧ b = b0
theorem Eu.start (a b : Nat) : Eu a b 0 a b := ⟨rfl, by rw [Nat.pow_zero]; omega, .inl rfl, fun _ => ⟨rfl, rfl⟩⟩
theorem Eu.turn {a0 b0 i a b : Nat} (e : Eu a0 b0 i a b) (hb : 0 < b) : Eu a0 b0 (i + 1) b (a % b) := by
  refine ⟨(gcd_turn a b).trans e.g, ?_, .inr (Nat.le_of_lt (Nat.mod_lt _ hb)), fun z => by omega⟩
  rcases e.o with hi | hle
  · obtain ⟨rfl, rfl⟩ := e.z hi
    subst hi
    have h1 : b * (a % b) ≤ b * a := Nat.mul_le_mul_left b (Nat.mod_le a b)
    have h2 : b * a = a * b := Nat.mul_comm _ _
    rw [Nat.zero_add, Nat.pow_one]
    omega
  · have h1 := prod_turn hle hb
    have h2 := e.p
    have h3 : b * (a % b) * 2 ^ (i + 1) = 2 * (b * (a % b)) * 2 ^ i := by
      rw [Nat.pow_succ]
      rw [Nat.mul_comm (2 ^ i) 2, ← Nat.mul_assoc, Nat.mul_comm (b * (a % b)) 2]
    rw [h3]
    exact Nat.le_trans (Nat.mul_le_mul_right _ h1) h2
/-- too many turns: nothing is left -/
theorem Eu.stop {a0 b0 i a b : Nat} (e : Eu a0 b0 i a b) (hi : i ≠ 0) (h : 2 * (a0 * b0) < 2 ^ i) : b = 0 := by
  rcases Nat.eq_zero_or_pos b with h0 | h0
  · exact h0
  · have hle : b ≤ a := by
      rcases e.o with h1 | h1
      · exact absurd h1 hi
      · exact h1
    have h1 : 1 ≤ a * b := Nat.mul_pos (by omega) h0
    have h2 : 1 * 2 ^ i ≤ a * b * 2 ^ i := Nat.mul_le_mul_right _ h1
    have h3 := e.p
    omega
theorem Eu.end {a0 b0 i a : Nat} (e : Eu a0 b0 i a 0) : a = Nat.gcd a0 b0 := by
  rw [← e.g, Nat.gcd_zero_right]
/-- the greatest divisor of a row, as it is reckoned from the left -/
def gl (l : List Int) : Nat := l.foldl (fun g v => Nat.gcd v.natAbs g) 0
theorem gl_snoc (l : List Int) (v : Int) : gl (l ++ [v]) = Nat.gcd v.natAbs (gl l) := by
  unfold gl
  rw [List.foldl_append]
  rfl
theorem gl_lt {l : List Int} {v : Int} (h : gl l < 2 ^ 100) (hv : v.natAbs < 2 ^ 100) : gl (l ++ [v]) < 2 ^ 100 := by
  rw [gl_snoc]
  rcases Nat.eq_zero_or_pos v.natAbs with e | e
  · rw [e, Nat.gcd_zero_left]
    exact h
  · exact Nat.lt_of_le_of_lt (Nat.le_of_dvd e (Nat.gcd_dvd_left _ _)) hv
theorem take_snoc {l : List Int} {i : Nat} {z : Int} (h : l[i]? = some z) : l.take (i + 1) = l.take i ++ [z] := by
  rw [List.take_add_one, h]
  rfl
theorem eu_far {a b n : Nat} (hn : 201 ≤ n) (ha : a < 2 ^ 100) (hb : b < 2 ^ 100) : 2 * (a * b) < 2 ^ n := by
  have h1 : a * b < 2 ^ 100 * 2 ^ 100 := Nat.mul_lt_mul'' ha hb
  rw [← Nat.pow_add] at h1
  have h2 : (2 : Nat) * 2 ^ (100 + 100) = 2 ^ 201 := by decide +kernel
  have h3 : (2 : Nat) ^ 201 ≤ 2 ^ n := Nat.pow_le_pow_right (by decide) hn
  omega
theorem fmod_nat (a b : Nat) : (a : Int).fmod (b : Int) = ((a % b : Nat) : Int) := by
  rw [Int.fmod_eq_emod_of_nonneg _ (Int.natCast_nonneg _)]
  exact (Int.natCast_emod a b).symm

/-- // by any divisor other than 0, below 2 ^ 9000 in size -/
def CDivX (_ j : Int) : Prop := j ≠ 0 ∧ j.natAbs.log2 < 9000
theorem op_fdivX {X : Cx} : OpR X (binaryOp .FloorDiv) (rI CDivX fun i j => .int (i.fdiv j)) :=
  opI fun _ _ _ _ _ _ _ hc q =>
    PyProof.Rows.floordiv_int hc.1 q (.inl (PyProof.noPylong_of_log2 hc.2))
theorem wide_divx {i j : Int} {b : Nat} (h : j ≠ 0) (hb : j.natAbs < 2 ^ b) (h0 : 0 < b) (h9 : b ≤ 9000) : CDivX i j :=
  ⟨h, Nat.lt_of_lt_of_le (PySem.Flt.log2_lt_of h0 hb) h9⟩
/-- n noughts -/
def nou (n : Nat) : Str := ⟨(List.replicate n (Str.ofString "0").cps).foldl (· ++ ·) #[]⟩
theorem nou_len {n : Nat} (h : n ≤ 100) : (nou n).length ≤ sizeLine := by
  have : ∀ n : _root_.Fin 101, (nou n.val).length ≤ 100 := by decide +kernel
  have h1 := this ⟨n, by omega⟩
  rw [PySem.sizeLine_eq]
  exact Nat.le_trans h1 (by decide)
theorem op_nou {X : Cx} : OpR X (binaryOp .Mult) (fun x y H Q => ∃ n : Nat, x = .str "0" ∧ y = .int (n : Int) ∧ 1 ≤ n ∧ n ≤ 100 ∧ Q (.str (nou n)) H) := by
  intro pins s σ H x y v u Q I rx ry h
  obtain ⟨n, rfl, rfl, h1, h2, q⟩ := h
  obtain ⟨t, rfl⟩ := rx
  obtain ⟨t', rfl⟩ := ry
  have e1 : ¬ ((n : Int) < 1) := by omega
  have el : (Str.ofString "0").length = 1 := by decide +kernel
  refine PySem.P.mul_str ?_ ?_ ?_ ?_
  · rw [decide_eq_false (by omega), decide_eq_false (by omega)]
    rfl
  · intro _ _
    rw [el]
    have : (2 ^ 63 - 1 : Int) / n ≥ 1 := by
      have : (1 : Int) * n ≤ 2 ^ 63 - 1 := by omega
      exact (Int.le_ediv_iff_mul_le (by omega)).mpr this
    omega
  · intro _ _
    rw [el]
    unfold PySem.Builtin.Str.tooLong
    rw [PySem.sizeLine_eq]
    exact decide_eq_false (by omega)
  · rw [if_neg e1]
    by_cases hn : n = 1
    · subst hn
      have e2 : nou 1 = Str.ofString "0" := by decide +kernel
      rw [e2] at q
      exact ⟨.str (Str.ofString "0"), H, I, ⟨t, rfl⟩, q⟩
    · have : ((n : Int) == 1 || (Str.ofString "0").length == 0) = false := by
        rw [el]
        simp
        omega
      rw [this, if_neg Bool.false_ne_true]
      exact ⟨nou_len h2, .str (nou n), H, I.tok _, ⟨_, rfl⟩, q⟩
theorem suite_of {X : Cx} {a C : Addr} {oe : Obj} {pn : List (Addr × Obj)} {cls : Value} {d : Option Addr} {sts : List Stmt} {ts : TS} (hz : Zc cls d oe)
    (h : Zc (.ref C) none oe → PSs (X.suite a ((a, oe) :: pn)) sts ts) : PSs (X.suite a ((a, oe) :: pn)) sts (fun D σ H => (cls = .ref C ∧ d = none) ∧ ts D σ H) :=
  ⟨fun pins s σ H D I hq => by
    obtain ⟨⟨rfl, rfl⟩, q⟩ := hq
    exact (h hz).run pins s σ H D I q⟩
theorem ten_text : ∀ n : Nat, 1 ≤ n → n ≤ 20 → PySem.intText? (Str.ofString "1" ++ nou n) = some ((10 : Int) ^ n) ∧ (Str.ofString "1" ++ nou n).length ≤ 640 ∧ (nou n).length ≤ 100 := by
  intro n h1 h2
  have : ∀ n : _root_.Fin 21, 1 ≤ n.val → PySem.intText? (Str.ofString "1" ++ nou n.val) = some ((10 : Int) ^ n.val) ∧ (Str.ofString "1" ++ nou n.val).length ≤ 640 ∧ (nou n.val).length ≤ 100 := by decide +kernel
  exact this ⟨n, by omega⟩ h1

/-- the divisor by which fraction divides both -/
def sg (n d : Int) : Int := if d < 0 then -((Nat.gcd n.natAbs d.natAbs : Nat) : Int) else ((Nat.gcd n.natAbs d.natAbs : Nat) : Int)
theorem sg_abs (n d : Int) : (sg n d).natAbs = Nat.gcd n.natAbs d.natAbs := by
  unfold sg
  split
  · rw [Int.natAbs_neg, Int.natAbs_natCast]
  · rw [Int.natAbs_natCast]
theorem sg_ne {n d : Int} (h : d ≠ 0) : sg n d ≠ 0 := by
  intro e
  have h1 := sg_abs n d
  rw [e] at h1
  have h2 : Nat.gcd n.natAbs d.natAbs = 0 := h1.symm
  have h3 := Nat.gcd_eq_zero_iff.mp h2
  omega
theorem sg_dn (n d : Int) : sg n d ∣ n := by
  have h : ((Nat.gcd n.natAbs d.natAbs : Nat) : Int) ∣ n := Int.dvd_natAbs.mp (Int.natCast_dvd_natCast.mpr (Nat.gcd_dvd_left _ _))
  unfold sg
  split
  · exact Int.neg_dvd.mpr h
  · exact h
theorem sg_dd (n d : Int) : sg n d ∣ d := by
  have h : ((Nat.gcd n.natAbs d.natAbs : Nat) : Int) ∣ d := Int.dvd_natAbs.mp (Int.natCast_dvd_natCast.mpr (Nat.gcd_dvd_right _ _))
  unfold sg
  split
  · exact Int.neg_dvd.mpr h
  · exact h
theorem fdiv_back {d v : Int} (h : d ∣ v) : v.fdiv d * d = v := Int.fdiv_mul_cancel h
theorem part_le {f d v : Int} (e : f * d = v) (hd : d ≠ 0) : f.natAbs ≤ v.natAbs := by
  rw [← e, Int.natAbs_mul]
  exact Nat.le_mul_of_pos_right _ (by omega)
/-- what fraction yields -/
structure Fr (n d p q : Int) : Prop where
  hp : p * sg n d = n
  hq : q * sg n d = d
  q0 : 0 < q
  one : Nat.gcd p.natAbs q.natAbs = 1
theorem fr_of {n d : Int} (h : d ≠ 0) : Fr n d (n.fdiv (sg n d)) (d.fdiv (sg n d)) := by
  have e1 := fdiv_back (sg_dn n d)
  have e2 := fdiv_back (sg_dd n d)
  have hs := sg_ne (n := n) h
  refine ⟨e1, e2, ?_, ?_⟩
  · rcases Int.lt_or_le 0 (d.fdiv (sg n d)) with h1 | h1
    · exact h1
    · exfalso
      have hg : 0 < Nat.gcd n.natAbs d.natAbs := Nat.gcd_pos_of_pos_right _ (by omega)
      rcases Int.lt_or_le d 0 with h2 | h2
      · have h3 : sg n d < 0 := by
          unfold sg
          rw [if_pos h2]
          omega
        have h4 := Int.mul_nonneg_of_nonpos_of_nonpos h1 (Int.le_of_lt h3)
        omega
      · have h3 : 0 < sg n d := by
          unfold sg
          rw [if_neg (by omega)]
          omega
        have h4 := Int.mul_nonpos_of_nonpos_of_nonneg h1 (Int.le_of_lt h3)
        omega
  · have e3 : Nat.gcd n.natAbs d.natAbs = Nat.gcd (n.fdiv (sg n d)).natAbs (d.fdiv (sg n d)).natAbs * (sg n d).natAbs := by
      rw [← Nat.gcd_mul_right, ← Int.natAbs_mul, ← Int.natAbs_mul, e1, e2]
    rw [sg_abs] at e3
    have hg : 0 < Nat.gcd n.natAbs d.natAbs := Nat.gcd_pos_of_pos_right _ (by omega)
    exact (Nat.eq_of_mul_eq_mul_right hg (by rw [Nat.one_mul]; exact e3)).symm
theorem Fr.cross {n d p q : Int} (f : Fr n d p q) : p * d = n * q := by
  have h1 := f.hp
  have h2 := f.hq
  calc p * d = p * (q * sg n d) := by rw [h2]
    _ = (p * sg n d) * q := by rw [Int.mul_comm q, Int.mul_assoc]
    _ = n * q := by rw [h1]
theorem sg_one (n : Int) : sg n 1 = 1 := by
  unfold sg
  rw [if_neg (by decide)]
  show ((Nat.gcd n.natAbs 1 : Nat) : Int) = 1
  rw [Nat.gcd_one_right]
  rfl
theorem rd_one (n : Int) : [n.fdiv (sg n 1), (1 : Int).fdiv (sg n 1)] = [n, 1] := by rw [sg_one, Int.fdiv_one, Int.fdiv_one]

/-- in lowest terms -/
def rd2 (n d : Int) : List Int := [n.fdiv (sg n d), d.fdiv (sg n d)]
theorem low_uniq {p q r s : Int} (h1 : Nat.gcd p.natAbs q.natAbs = 1) (h2 : Nat.gcd r.natAbs s.natAbs = 1) (hq : 0 < q) (hs : 0 < s) (h : p * s = r * q) : p = r ∧ q = s := by
  have hn : p.natAbs * s.natAbs = r.natAbs * q.natAbs := by
    rw [← Int.natAbs_mul, ← Int.natAbs_mul, h]
  have d1 : q.natAbs ∣ s.natAbs := by
    have h3 : q.natAbs ∣ p.natAbs * s.natAbs := ⟨r.natAbs, by rw [hn, Nat.mul_comm]⟩
    exact Nat.Coprime.dvd_of_dvd_mul_left (show Nat.Coprime q.natAbs p.natAbs from (Nat.gcd_comm _ _).trans h1) h3
  have d2 : s.natAbs ∣ q.natAbs := by
    have h3 : s.natAbs ∣ r.natAbs * q.natAbs := ⟨p.natAbs, by rw [← hn, Nat.mul_comm]⟩
    exact Nat.Coprime.dvd_of_dvd_mul_left (show Nat.Coprime s.natAbs r.natAbs from (Nat.gcd_comm _ _).trans h2) h3
  have e : q.natAbs = s.natAbs := Nat.dvd_antisymm d1 d2
  have e2 : q = s := by omega
  subst e2
  exact ⟨Int.eq_of_mul_eq_mul_right (by omega) h, rfl⟩
theorem rd2_eq {n d n' d' : Int} (hd : 0 < d) (hd' : 0 < d') (h : n * d' = n' * d) : rd2 n d = rd2 n' d' := by
  have f := fr_of (n := n) (show d ≠ 0 by omega)
  have f' := fr_of (n := n') (show d' ≠ 0 by omega)
  have c1 := f.cross
  have c2 := f'.cross
  unfold rd2
  generalize n.fdiv (sg n d) = p at f c1
  generalize d.fdiv (sg n d) = q at f c1
  generalize n'.fdiv (sg n' d') = r at f' c2
  generalize d'.fdiv (sg n' d') = s at f' c2
  have e : p * s = r * q := by
    have h1 : (p * s) * (d * d') = (r * q) * (d * d') := by
      calc (p * s) * (d * d') = (p * d) * (s * d') := by
              rw [Int.mul_assoc, Int.mul_assoc, Int.mul_left_comm s d d']
        _ = (n * q) * (s * d') := by rw [c1]
        _ = (n * d') * (q * s) := by
              rw [Int.mul_assoc, Int.mul_assoc, Int.mul_comm s d', Int.mul_left_comm q d' s]
        _ = (n' * d) * (q * s) := by rw [h]
        _ = (n' * s) * (d * q) := by
              rw [Int.mul_assoc, Int.mul_assoc, Int.mul_comm q s, Int.mul_left_comm d s q]
        _ = (r * d') * (d * q) := by rw [c2]
        _ = (r * q) * (d * d') := by
              rw [Int.mul_assoc, Int.mul_assoc, Int.mul_comm d q, Int.mul_left_comm d' q d, Int.mul_comm d' d]
    exact Int.eq_of_mul_eq_mul_right (Int.mul_ne_zero (by omega) (by omega)) h1
  have u := low_uniq f.one f'.one f.q0 f'.q0 e
  rw [u.1, u.2]
theorem sg_zero_one : sg 0 1 = 1 := sg_one 0
theorem rd2_zero : rd2 0 1 = [0, 1] := by
  unfold rd2
  rw [sg_zero_one, Int.fdiv_one, Int.fdiv_one]
/-- the digits of a number are not too few -/
theorem lt_digits (n : Nat) : n < 2 ^ (4 * (toString (n : Int)).length + 4) := by
  have e : toString (n : Int) = Nat.repr n := rfl
  rw [e]
  have h : n < 10 ^ ((Nat.repr n).length + 1) := (Nat.length_repr_le_iff (Nat.succ_pos _)).mp (Nat.le_succ _)
  refine Nat.lt_of_lt_of_le h ?_
  have h2 : (10 : Nat) ^ ((Nat.repr n).length + 1) ≤ 16 ^ ((Nat.repr n).length + 1) := Nat.pow_le_pow_left (by decide) _
  have h3 : (16 : Nat) ^ ((Nat.repr n).length + 1) = 2 ^ (4 * (Nat.repr n).length + 4) := by
    rw [show (16 : Nat) = 2 ^ 4 from rfl, ← Nat.pow_mul]
    rfl
  omega
theorem eu_digits {a b t : Nat} (h : t = 4 * (toString (a : Int)).length + 4 * (toString (b : Int)).length + 60) : 2 * (a * b) < 2 ^ t := by
  subst h
  have h1 := lt_digits a
  have h2 := lt_digits b
  have h3 : a * b < 2 ^ (4 * (toString (a : Int)).length + 4) * 2 ^ (4 * (toString (b : Int)).length + 4) := Nat.mul_lt_mul'' h1 h2
  rw [← Nat.pow_add] at h3
  have h4 : 2 * (a * b) < 2 * 2 ^ (4 * (toString (a : Int)).length + 4 + (4 * (toString (b : Int)).length + 4)) := by omega
  rw [← Nat.pow_succ'] at h4
  exact Nat.lt_of_lt_of_le h4 (Nat.pow_le_pow_right (by decide) (by omega))
theorem args2 {x y : Int} (hx : 0 ≤ x) (hy : 0 ≤ y) : [V.int x, V.int y] ++ [] = [V.int ((x.natAbs : Nat) : Int), V.int ((y.natAbs : Nat) : Int)] := by
  have e1 : ((x.natAbs : Nat) : Int) = x := by omega
  have e2 : ((y.natAbs : Nat) : Int) = y := by omega
  rw [e1, e2]
  rfl
theorem mod_abs (x : Int) {b : Int} (h : 0 < b) : (x % b).natAbs ≤ b.natAbs := by
  have h1 := Int.emod_nonneg x (show b ≠ 0 by omega)
  have h2 := Int.emod_lt_of_pos x h
  omega
theorem mul_lt_abs {a b : Int} {A B : Nat} (ha : a.natAbs ≤ A) (hb : b.natAbs ≤ B) : (a * b).natAbs ≤ A * B := by
  rw [Int.natAbs_mul]
  exact Nat.mul_le_mul ha hb
def pd2 (x y : Int) : PyData := .tuple [.int x, .int y]
theorem dp2 {K : PySem.W.Frag} {H : Hp} {u : Addr} {x y : Int} (h : SqT K H u (zs [x, y])) : Dp K H (.ref u) (pd2 x y) :=
  .tup h (.cons (.int x) (.cons (.int y) .nil))
theorem eqv2 (x y : Int) : PyData.eqv (pd2 x y) (pd2 x y) = true := by
  unfold pd2
  simp [PyData.eqv, PyData.eqvAll]

def dv (x y z : Int) : Int := let g : Int := (Nat.gcd (Nat.gcd x.natAbs y.natAbs) z.natAbs : Nat)
  if HT.lexLt [x, y, z] [0, 0, 0] = true then -g else g
def g3 (x y z : Int) : Nat := Nat.gcd (Nat.gcd x.natAbs y.natAbs) z.natAbs
/-- the first one that is not 0 is below 0 -/
def dn (x y z : Int) : Bool := decide (x < 0) || (decide (x = 0) && (decide (y < 0) || (decide (y = 0) && decide (z < 0))))
theorem lex_dn (x y z : Int) : HT.lexLt [x, y, z] [0, 0, 0] = dn x y z := by
  rw [HT.lexLt_cons, HT.lexLt_cons, HT.lexLt_cons, HT.lexLt_nil_nil]
  unfold dn
  by_cases hx : x = 0
  · subst hx
    by_cases hy : y = 0
    · subst hy
      by_cases hz : z = 0
      · subst hz; decide
      · simp [hz]
    · simp [hy]
  · simp [hx]
theorem dv_eq (x y z : Int) : dv x y z = if dn x y z = true then -(g3 x y z : Int) else (g3 x y z : Int) := by
  unfold dv g3
  rw [lex_dn]
theorem dv_abs (x y z : Int) : (dv x y z).natAbs = g3 x y z := by
  rw [dv_eq]
  split
  · rw [Int.natAbs_neg, Int.natAbs_natCast]
  · rw [Int.natAbs_natCast]
theorem g3_pos {x y z : Int} (h : ¬ (x = 0 ∧ y = 0 ∧ z = 0)) : 0 < g3 x y z := by
  rcases Nat.eq_zero_or_pos (g3 x y z) with e | e
  · exfalso
    have h1 := Nat.gcd_eq_zero_iff.mp e
    have h2 := Nat.gcd_eq_zero_iff.mp h1.1
    omega
  · exact e
theorem dv_ne {x y z : Int} (h : ¬ (x = 0 ∧ y = 0 ∧ z = 0)) : dv x y z ≠ 0 := by
  intro e
  have h1 := dv_abs x y z
  have h2 := g3_pos h
  rw [e] at h1
  have : (0 : Int).natAbs = 0 := rfl
  omega
theorem g3_dx (x y z : Int) : (g3 x y z : Int) ∣ x := by
  refine Int.dvd_natAbs.mp (Int.natCast_dvd_natCast.mpr ?_)
  exact Nat.dvd_trans (Nat.gcd_dvd_left _ _) (Nat.gcd_dvd_left _ _)
theorem g3_dy (x y z : Int) : (g3 x y z : Int) ∣ y := by
  refine Int.dvd_natAbs.mp (Int.natCast_dvd_natCast.mpr ?_)
  exact Nat.dvd_trans (Nat.gcd_dvd_left _ _) (Nat.gcd_dvd_right _ _)
theorem g3_dz (x y z : Int) : (g3 x y z : Int) ∣ z := by
  refine Int.dvd_natAbs.mp (Int.natCast_dvd_natCast.mpr ?_)
  exact Nat.gcd_dvd_right _ _
theorem dv_dvd {x y z v : Int} (h : (g3 x y z : Int) ∣ v) : dv x y z ∣ v := by
  rw [dv_eq]
  split
  · exact Int.neg_dvd.mpr h
  · exact h
theorem dv_dx (x y z : Int) : dv x y z ∣ x := dv_dvd (g3_dx x y z)
theorem dv_dy (x y z : Int) : dv x y z ∣ y := dv_dvd (g3_dy x y z)
theorem dv_dz (x y z : Int) : dv x y z ∣ z := dv_dvd (g3_dz x y z)
theorem g3_le {x y z : Int} {n : Nat} (h : ¬ (x = 0 ∧ y = 0 ∧ z = 0)) (hx : x.natAbs ≤ n) (hy : y.natAbs ≤ n) (hz : z.natAbs ≤ n) : g3 x y z ≤ n := by
  by_cases h1 : x = 0
  · by_cases h2 : y = 0
    · have h3 : z ≠ 0 := fun e => h ⟨h1, h2, e⟩
      exact Nat.le_trans (Nat.le_of_dvd (by omega) (Nat.gcd_dvd_right _ _)) hz
    · exact Nat.le_trans (Nat.le_of_dvd (by omega) (Nat.dvd_trans (Nat.gcd_dvd_left _ _) (Nat.gcd_dvd_right _ _))) hy
  · exact Nat.le_trans (Nat.le_of_dvd (by omega) (Nat.dvd_trans (Nat.gcd_dvd_left _ _) (Nat.gcd_dvd_left _ _))) hx
theorem g3_mul (x y z t : Int) : g3 (x * t) (y * t) (z * t) = g3 x y z * t.natAbs := by
  unfold g3
  rw [Int.natAbs_mul, Int.natAbs_mul, Int.natAbs_mul, Nat.gcd_mul_right, Nat.gcd_mul_right]
/-- the parts have no divisor left -/
theorem g3_one {x y z a b c : Int} (h : ¬ (x = 0 ∧ y = 0 ∧ z = 0)) (ha : a * dv x y z = x) (hb : b * dv x y z = y) (hc : c * dv x y z = z) : g3 a b c = 1 := by
  have h1 : g3 x y z = g3 a b c * (dv x y z).natAbs := by
    have := g3_mul a b c (dv x y z)
    rw [ha, hb, hc] at this
    exact this
  rw [dv_abs] at h1
  have h2 := g3_pos h
  exact (Nat.eq_of_mul_eq_mul_right h2 (by rw [Nat.one_mul]; exact h1)).symm
theorem neg_mul_iff {v t : Int} (ht : 0 < t) : (v * t < 0 ↔ v < 0) ∧ (v * t = 0 ↔ v = 0) := by
  constructor
  · constructor
    · intro h
      rcases Int.lt_or_le v 0 with h1 | h1
      · exact h1
      · have := Int.mul_nonneg h1 (Int.le_of_lt ht)
        omega
    · exact fun h => Int.mul_neg_of_neg_of_pos h ht
  · constructor
    · intro h
      rcases Int.mul_eq_zero.mp h with h1 | h1
      · exact h1
      · omega
    · intro h
      rw [h, Int.zero_mul]
theorem dn_mul {x y z t : Int} (ht : 0 < t) : dn (x * t) (y * t) (z * t) = dn x y z := by
  unfold dn
  have hx := neg_mul_iff (v := x) ht
  have hy := neg_mul_iff (v := y) ht
  have hz := neg_mul_iff (v := z) ht
  simp only [hx, hy, hz]
theorem dn_neg {x y z : Int} (h : ¬ (x = 0 ∧ y = 0 ∧ z = 0)) : dn (-x) (-y) (-z) = !dn x y z := by
  unfold dn
  rcases Int.lt_trichotomy x 0 with hx | hx | hx
  · have h1 : ¬ (-x < 0) := by omega
    have h2 : ¬ (-x = 0) := by omega
    simp [hx, h1, h2]
    omega
  · subst hx
    rcases Int.lt_trichotomy y 0 with hy | hy | hy
    · have h1 : ¬ (-y < 0) := by omega
      have h2 : ¬ (-y = 0) := by omega
      simp [hy, h1, h2]
      omega
    · subst hy
      have hz : z ≠ 0 := fun e => h ⟨rfl, rfl, e⟩
      by_cases h1 : z < 0
      · have h2 : ¬ (-z < 0) := by omega
        simp [h1, h2]
        omega
      · have h2 : -z < 0 := by omega
        simp [h1, h2]
        omega
    · have h1 : -y < 0 := by omega
      have h2 : ¬ y < 0 := by omega
      have h3 : ¬ y = 0 := by omega
      simp [h1, h2, h3]
      omega
  · have h1 : -x < 0 := by omega
    have h2 : ¬ x < 0 := by omega
    have h3 : ¬ x = 0 := by omega
    simp [h1, h2, h3]
    omega
theorem dv_mul {x y z t : Int} (h : ¬ (x = 0 ∧ y = 0 ∧ z = 0)) (ht : t ≠ 0) : dv (x * t) (y * t) (z * t) = dv x y z * t := by
  rw [dv_eq, dv_eq, g3_mul]
  rcases Int.lt_or_gt_of_ne ht with h1 | h1
  · have e1 : ∀ v : Int, v * t = -v * -t := fun v => (Int.neg_mul_neg v t).symm
    have e2 : (t.natAbs : Int) = -t := by omega
    have h2 : ¬ (-x = 0 ∧ -y = 0 ∧ -z = 0) := by omega
    rw [e1 x, e1 y, e1 z, dn_mul (by omega), dn_neg h]
    cases dn x y z with
    | true => simp [e2, Int.neg_mul, Int.mul_neg]
    | false => simp [e2, Int.neg_mul, Int.mul_neg]
  · have e2 : (t.natAbs : Int) = t := by omega
    rw [dn_mul h1]
    cases dn x y z with
    | true => simp [e2, Int.neg_mul, Int.mul_neg]
    | false => simp [e2, Int.neg_mul, Int.mul_neg]
theorem fdiv_same {d v t : Int} (hd : d ≠ 0) (ht : t ≠ 0) (h : d ∣ v) : (v * t).fdiv (d * t) = v.fdiv d := by
  obtain ⟨k, rfl⟩ := h
  rw [Int.mul_assoc, Int.mul_comm k t, ← Int.mul_assoc, Int.mul_fdiv_cancel_left _ hd, Int.mul_fdiv_cancel_left]
  exact Int.mul_ne_zero hd ht

theorem zs_push {l : List Int} {n : Int} : zs l ++ [V.int n] = zs (l ++ [n]) := by
  show l.map V.int ++ [V.int n] = (l ++ [n]).map V.int
  rw [List.map_append]
  rfl
theorem zs_lt {l : List Int} (h : l.length ≤ 1000) : (zs l).length < sizeLine := by
  show (l.map V.int).length < sizeLine
  rw [List.length_map]
  exact small1000 h
theorem row_all {rs : List Int} {b : Int} (h : ∀ r ∈ rs, 0 ≤ r ∧ r < b) (x : Int) (hb : 0 < b) : ∀ r ∈ rs ++ [x % b], 0 ≤ r ∧ r < b := by
  intro r hr
  rcases List.mem_append.mp hr with h1 | h1
  · exact h r h1
  · rw [List.mem_singleton.mp h1]
    exact ⟨Int.emod_nonneg _ (by omega), Int.emod_lt_of_pos _ hb⟩
theorem ixN_in {n : Nat} {i : Int} (h0 : 0 ≤ i) (h : i < (n : Int)) : ixN n i = some i.toNat := by
  unfold ixN
  rw [if_pos h0, if_pos h]
theorem len3 {rs : List Int} (h : rs.length = 3) : ∃ a b c, rs = [a, b, c] := by
  match rs, h with
  | [a, b, c], _ => exact ⟨a, b, c, rfl⟩
theorem gl_three (x y z : Int) : gl [x, y, z] = g3 x y z := by
  show Nat.gcd z.natAbs (Nat.gcd y.natAbs (Nat.gcd x.natAbs 0)) = Nat.gcd (Nat.gcd x.natAbs y.natAbs) z.natAbs
  rw [Nat.gcd_zero_right, Nat.gcd_comm z.natAbs, Nat.gcd_comm y.natAbs]
def fs3 (x y z : Int) : Int := if x ≠ 0 then x else if y ≠ 0 then y else z
theorem fs3_get {x y z : Int} (h : ¬ (x = 0 ∧ y = 0 ∧ z = 0)) : (zs ([x, y, z].filter fun v => decide (v ≠ 0)))[0]? = some (.int (fs3 x y z)) := by
  unfold fs3
  by_cases hx : x = 0
  · by_cases hy : y = 0
    · have hz : z ≠ 0 := fun e => h ⟨hx, hy, e⟩
      simp [hx, hy, hz]
    · simp [hx, hy]
  · simp [hx]
theorem fs3_dn {x y z : Int} (h : ¬ (x = 0 ∧ y = 0 ∧ z = 0)) : decide (fs3 x y z < 0) = dn x y z := by
  unfold fs3 dn
  by_cases hx : x = 0
  · by_cases hy : y = 0
    · simp [hx, hy]
    · simp [hx, hy]
  · simp [hx]
theorem fil_snoc {l : List Int} {i : Nat} {z : Int} (h : l[i]? = some z) (hz : z ≠ 0) : zs ((l.take i).filter fun v => decide (v ≠ 0)) ++ [V.int z] = zs ((l.take (i + 1)).filter fun v => decide (v ≠ 0)) := by
  rw [take_snoc h, List.filter_append, zs_push]
  simp [hz]
theorem fil_same {l : List Int} {i : Nat} {z : Int} (h : l[i]? = some z) (hz : z = 0) : (l.take (i + 1)).filter (fun v => decide (v ≠ 0)) = (l.take i).filter fun v => decide (v ≠ 0) := by
  rw [take_snoc h, List.filter_append]
  simp [hz]
theorem fil_lt {l : List Int} (n : Nat) (h : l.length ≤ 1000) : (zs ((l.take n).filter fun v => decide (v ≠ 0))).length < sizeLine := by
  refine zs_lt ?_
  have h1 := List.length_filter_le (fun v : Int => decide (v ≠ 0)) (l.take n)
  rw [List.length_take] at h1
  omega
theorem zs_at {l : List Int} {i : Nat} {z : Int} (h : l[i]? = some z) : atI (zs l) (i : Int) = some (V.int z) := atI_nat (by
  rw [show zs l = l.map V.int from rfl, List.getElem?_map, h]
  rfl)
theorem parts_at {x y z d : Int} (hx : d ∣ x) (hy : d ∣ y) (hz : d ∣ z) {i : Nat} (hi : i < 3) : ∃ f v : Int, [x.fdiv d, y.fdiv d, z.fdiv d][i]? = some f ∧ [x, y, z][i]? = some v ∧ f * d = v := by
  obtain rfl | rfl | rfl : i = 0 ∨ i = 1 ∨ i = 2 := by omega
  · exact ⟨_, _, rfl, rfl, fdiv_back hx⟩
  · exact ⟨_, _, rfl, rfl, fdiv_back hy⟩
  · exact ⟨_, _, rfl, rfl, fdiv_back hz⟩
def pd3 (x y z : Int) : PyData := .tuple [.int x, .int y, .int z]
theorem dp3 {K : PySem.W.Frag} {H : Hp} {u : Addr} {x y z : Int} (h : SqT K H u (zs [x, y, z])) : Dp K H (.ref u) (pd3 x y z) :=
  .tup h (.cons (.int x) (.cons (.int y) (.cons (.int z) .nil)))
theorem eqv3 (x y z : Int) : PyData.eqv (pd3 x y z) (pd3 x y z) = true := by
  unfold pd3
  simp [PyData.eqv, PyData.eqvAll]

def sgn (i : Int) : Int := if i < 0 then -1 else if 0 < i then 1 else 0
theorem sgn_mul {a b : Int} (hb : 0 < b) : sgn (a * b) = sgn a := by
  have h := neg_mul_iff (v := a) hb
  have h2 : 0 < a * b ↔ 0 < a := by
    constructor
    · intro z
      have h3 : ¬ a < 0 := fun y => by
        have := h.1.mpr y
        omega
      have h4 : ¬ a = 0 := fun y => by
        have := h.2.mpr y
        omega
      omega
    · exact fun z => Int.mul_pos z hb
  unfold sgn
  by_cases h3 : a < 0
  · rw [if_pos h3, if_pos (h.1.mpr h3)]
  · rw [if_neg h3, if_neg (fun z => h3 (h.1.mp z))]
    by_cases h4 : 0 < a
    · rw [if_pos h4, if_pos (h2.mpr h4)]
    · rw [if_neg h4, if_neg (fun z => h4 (h2.mp z))]
theorem sg_pos {n d : Int} (h : 0 < d) : 0 < sg n d := by
  have hg : 0 < Nat.gcd n.natAbs d.natAbs := Nat.gcd_pos_of_pos_right _ (by omega)
  unfold sg
  rw [if_neg (by omega)]
  omega
/-- the sign of a fraction is that of its numerator, before and behind -/
theorem sgn_low {n d : Int} (h : 0 < d) : sgn (n.fdiv (sg n d)) = sgn n := by
  have h1 := fdiv_back (sg_dn n d)
  have h2 := sgn_mul (a := n.fdiv (sg n d)) (sg_pos (n := n) h)
  rw [h1] at h2
  exact h2.symm
theorem rd2_le {n d : Int} (hd : d ≠ 0) : ∃ p q, rd2 n d = [p, q] ∧ p.natAbs ≤ n.natAbs ∧ q.natAbs ≤ d.natAbs ∧ Fr n d p q :=
  have f := fr_of (n := n) hd
  ⟨_, _, rfl, part_le f.hp (sg_ne hd), part_le f.hq (sg_ne hd), f⟩
/-- a sum of two, each brought to lowest terms -/
theorem rd2_plus {a b c d p q r s : Int} (f : Fr a b p q) (g : Fr c d r s) (hb : 0 < b) (hd : 0 < d) : rd2 (p * s + r * q) (q * s) = rd2 (a * d + c * b) (b * d) := by
  have q0 := f.q0
  have s0 := g.q0
  have c1 := f.cross
  have c2 := g.cross
  exact rd2_eq (Int.mul_pos q0 s0) (Int.mul_pos hb hd) (by grind)
/-- what is in lowest terms stays -/
theorem low_of {p q : Int} (h : Nat.gcd p.natAbs q.natAbs = 1) (hq : 0 < q) : rd2 p q = [p, q] := by
  have f := fr_of (n := p) (show q ≠ 0 by omega)
  have c := f.cross
  have u := low_uniq f.one h f.q0 hq (by rw [f.cross])
  unfold rd2
  rw [u.1, u.2]
theorem fr_low {n d p q : Int} (f : Fr n d p q) : rd2 p q = [p, q] := low_of f.one f.q0
theorem eu_far2 {a b n : Nat} (hn : 3601 ≤ n) (ha : a < 2 ^ 1800) (hb : b < 2 ^ 1800) : 2 * (a * b) < 2 ^ n := by
  have h1 : a * b < 2 ^ 1800 * 2 ^ 1800 := Nat.mul_lt_mul'' ha hb
  rw [← Nat.pow_add] at h1
  have h2 : (2 : Nat) ^ 3601 ≤ 2 ^ n := Nat.pow_le_pow_right (by decide) hn
  rw [show (3601 : Nat) = 1 + (1800 + 1800) from rfl, Nat.pow_add] at h2
  generalize (2 : Nat) ^ (1800 + 1800) = B at *
  generalize (2 : Nat) ^ n = C at *
  omega
theorem rd2_eq0 {n d n' d' : Int} (hd : d ≠ 0) (hd' : d' ≠ 0) (h : n * d' = n' * d) : rd2 n d = rd2 n' d' := by
  have f := fr_of (n := n) hd
  have f' := fr_of (n := n') hd'
  have c1 := f.cross
  have c2 := f'.cross
  unfold rd2
  generalize n.fdiv (sg n d) = p at f c1
  generalize d.fdiv (sg n d) = q at f c1
  generalize n'.fdiv (sg n' d') = r at f' c2
  generalize d'.fdiv (sg n' d') = s at f' c2
  have e : p * s = r * q := by
    have h1 : (p * s) * (d * d') = (r * q) * (d * d') := by grind
    exact Int.eq_of_mul_eq_mul_right (Int.mul_ne_zero hd hd') h1
  have u := low_uniq f.one f'.one f.q0 f'.q0 e
  rw [u.1, u.2]

/-- a row of fractions: where each stands, its two numbers -/
structure Rows (K : PySem.W.Frag) (H : Hp) (ws : List (Addr × Int × Int)) : Prop where
  at_ : ∀ w ∈ ws, SqT K H w.1 (zs [w.2.1, w.2.2])
  b1 : ∀ w ∈ ws, w.2.1.natAbs < 2 ^ 40
  b2 : ∀ w ∈ ws, w.2.2.natAbs < 2 ^ 40
  b3 : ∀ w ∈ ws, 0 < w.2.2
  few : ws.length ≤ 9
theorem Rows.nil {K : PySem.W.Frag} {H : Hp} : Rows K H [] :=
  ⟨(fun _ h => nomatch h), (fun _ h => nomatch h), (fun _ h => nomatch h), (fun _ h => nomatch h), by decide⟩
def rf (ws : List (Addr × Int × Int)) : List V := ws.map fun w => V.ref w.1
theorem Rows.same {K : PySem.W.Frag} {H H' : Hp} {ws : List (Addr × Int × Int)} (r : Rows K H ws) (s : Same H H') : Rows K H' ws :=
  ⟨fun w hw => same_tup s (r.at_ w hw), r.b1, r.b2, r.b3, r.few⟩
theorem Rows.take {K : PySem.W.Frag} {H : Hp} {ws : List (Addr × Int × Int)} (r : Rows K H ws) (i : Nat) : Rows K H (ws.take i) :=
  ⟨fun w hw => r.at_ w (List.mem_of_mem_take hw), fun w hw => r.b1 w (List.mem_of_mem_take hw), fun w hw => r.b2 w (List.mem_of_mem_take hw), fun w hw => r.b3 w (List.mem_of_mem_take hw), by
    rw [List.length_take]
    have := r.few
    omega⟩
theorem rf_get {ws : List (Addr × Int × Int)} {i : Nat} {v : V} (h : (rf ws)[i]? = some v) : ∃ w, v = .ref w.1 ∧ ws[i]? = some w := by
  rw [show rf ws = ws.map fun w => V.ref w.1 from rfl, List.getElem?_map] at h
  cases e : ws[i]? with
  | none =>
    rw [e] at h
    cases h
  | some w =>
    rw [e] at h
    exact ⟨w, (Option.some.inj h).symm, rfl⟩
theorem rf_len (ws : List (Addr × Int × Int)) : (rf ws).length = ws.length := List.length_map _
theorem take_sn {α : Type} {l : List α} {i : Nat} {z : α} (h : l[i]? = some z) : l.take (i + 1) = l.take i ++ [z] := by
  rw [List.take_add_one, h]
  rfl
theorem tup_upd {K : PySem.W.Frag} {H : Hp} {a l : Addr} {xs ys : List V} {o : HO} (h : SqT K H a xs) (hl : H l = some (.lst ys)) : SqT K (upd H l o) a xs := by
  rcases h with (h | ⟨ob, h⟩) | h
  · refine .inl (.inl ?_)
    rw [upd_ne (ne_of h hl (by intro z; cases z))]
    exact h
  · refine .inl (.inr ⟨ob, ?_⟩)
    rw [upd_ne (ne_of h hl (by intro z; cases z))]
    exact h
  · exact .inr h
theorem tyx_tup {K : PySem.W.Frag} {H : Hp} {a : Addr} {xs : List V} (h : SqT K H a xs) : TyX K H (.ref a) (.type "tuple") := by
  rcases h with (h | ⟨ob, h⟩) | ⟨o, its, n, h, hc, _⟩
  · exact .base (.tup h)
  · exact .fTuple h
  · exact .kTuple h hc
theorem no_self {x : V} (h : (!decide (x = x)) = true) : False := by
  rw [decide_eq_true rfl] at h
  cases h

section ZipMixed
open PySem PySem.Spec PyProof.Rows
/-- a list or a tuple that stands still -/
def SqB (f : Bool) (K : PySem.W.Frag) (H : Hp) (q : Addr) (vs : List V) : Prop := bif f then SqT K H q vs else SqL K H q vs
def ItB (f : Bool) (h : Heap) (it q : Addr) (i : Nat) : Prop := bif f then h.IsTupleIter it q i else h.IsListIter it q i
def AtB (f : Bool) (h : Heap) (q : Addr) (us : Array Value) : Prop := bif f then h.IsTuple q us else h.IsList q us
def oB (f : Bool) (q : Addr) : Obj := bif f then { cls := .type "tuple_iterator", data := .fields #[.ref q, .int 0 0] } else { cls := .type "list_iterator", data := .fields #[.ref q, .int 0 0] }
theorem ItB.live {f : Bool} {h : Heap} {it q : Addr} {i : Nat} (s : ItB f h it q i) : ∃ o, h.get? it = some o ∧ ∀ v, o.data ≠ .cell v := by
  cases f
  · obtain ⟨o, e, _, d⟩ := s
    exact ⟨o, e, fun v z => by rw [d] at z; cases z⟩
  · obtain ⟨o, e, _, d⟩ := s
    exact ⟨o, e, fun v z => by rw [d] at z; cases z⟩
theorem ItB.keep {f : Bool} {h h' : Heap} {it q : Addr} {i : Nat} (s : ItB f h it q i) (k : ∀ o, h.get? it = some o → h'.get? it = some o) : ItB f h' it q i := by
  cases f
  · exact Heap.IsListIter.at s k
  · exact Heap.IsTupleIter.at s k
theorem SqB.at_ {X : Cx} {pins : List (Addr × Obj)} {σ : L2.St} {H : Hp} {s : Shared} {f : Bool} {q : Addr} {vs : List V} (I : Inv X pins σ H s) (h : SqB f X.K H q vs) :
    ∃ us : List Value, Vals vs us ∧ AtB f s.heap q us.toArray := by
  cases f
  · obtain ⟨us, rv, p, _⟩ := I.list h
    exact ⟨us, rv, p.isList⟩
  · obtain ⟨us, rv, p, _⟩ := I.tuple h
    exact ⟨us, rv, p⟩
theorem SqB.inj {X : Cx} {pins : List (Addr × Obj)} {σ : L2.St} {H : Hp} {s : Shared} {f : Bool} {q : Addr} {vs ws : List V} (I : Inv X pins σ H s) (h : SqB f X.K H q vs) (h2 : SqB f X.K H q ws) : vs = ws := by
  cases f
  · exact I.list_inj h h2
  · exact I.tuple_inj h h2
theorem drawsB {P : Program} {w : World} {A : Around} (hh : A.handled = none) (f : Bool) (it q : Addr) (hne : q ≠ it) (us : Array Value) :
    Draws P w A it [it, q] us.size (fun i v => us[i]? = some v) (fun i h => ItB f h it q i ∧ AtB f h q us) := by
  cases f
  · exact Draws.list hh it q hne us
  · exact Draws.tuple hh it q hne us
theorem beginsB (f : Bool) (q : Addr) (us : Array Value) : Begins (.ref q) (oB f q) fun h => AtB f h q us := by
  cases f
  · exact begins_list q us
  · exact begins_tuple q us
theorem AtB.lt {f : Bool} {h : Heap} {q : Addr} {us : Array Value} (p : AtB f h q us) : q < h.objs.size := by
  cases f
  · obtain ⟨o, e, _⟩ := p
    exact Heap.lt_size e
  · obtain ⟨o, e, _⟩ := p
    exact Heap.lt_size e
theorem oB_it {f : Bool} {h : Heap} {it q : Addr} (e : h.get? it = some (oB f q)) : ItB f h it q 0 := by
  cases f
  · exact ⟨_, e, rfl, rfl⟩
  · exact ⟨_, e, rfl, rfl⟩
theorem sep_of {z TI TO i1 i2 a b : Addr} (D : ZipApart z TI TO i1 i2 a b) : ZipSep2 z TI TO i1 i2 [i1, a] [i2, b] where
  TIz := D.TIz
  TOz := D.TOz
  TITO := D.TITO
  TIi1 := D.TIi1
  mem1 := by simp
  zf1 := by simp [D.i1z.symm, D.l1z.symm]
  Tf1 := by simp [D.TOi1, D.l1TO.symm]
  TIi2 := D.TIi2
  mem2 := by simp
  zf2 := by simp [D.i2z.symm, D.l2z.symm]
  Tf2 := by simp [D.TOi2, D.l2TO.symm]
  sep1_2 := by simp [D.i12, D.l2i1.symm]
  sep2_1 := by simp [D.i12.symm, D.l1i2.symm]
/-- the two as they stand at each turn, what they hold in new pairs -/
def ItzB (f g : Bool) (K : PySem.W.Frag) (a b : Addr) : It :=
  ⟨fun i H => ∃ (xs ys : List V) (x y : V), SqB f K H a xs ∧ SqB g K H b ys ∧ xs[i]? = some x ∧ ys[i]? = some y,
    fun i H v H' => ∃ T x y, v = .ref T ∧ H T = none ∧ H' = upd H T (.tup [x, y]) ∧ (∀ xs, SqB f K H a xs → xs[i]? = some x) ∧ ∀ ys, SqB g K H b ys → ys[i]? = some y,
    fun i H => ∃ xs ys : List V, SqB f K H a xs ∧ SqB g K H b ys ∧ i ≤ xs.length ∧ i ≤ ys.length ∧ (i = xs.length ∨ i = ys.length)⟩
theorem turn_zipB {P : Program} {w : World} {K : PySem.W.Frag} {elts : List Expr} {kk : Nat} {tpos : Pos} {a b z TI TO i1 i2 : Addr} (f g : Bool) (D : ZipApart z TI TO i1 i2 a b) :
    Turn P w K (.Tuple elts kk tpos) (ItzB f g K a b) [z, TI, TO, i1, i2] z (fun i h => IsZip h z TI TO .none ∧ IsPair h TI (.ref i1) (.ref i2) ∧ (∃ x y, IsPair h TO x y) ∧ ItB f h i1 a i ∧ ItB g h i2 b i) where
  mem := by simp
  obj := fun i h st c hc => by
    obtain ⟨hz, hTI, ⟨x, y, hTO⟩, h1, h2⟩ := st
    have e' : c = z ∨ c = TI ∨ c = TO ∨ c = i1 ∨ c = i2 := by simpa using hc
    rcases e' with rfl | rfl | rfl | rfl | rfl
    · exact ⟨_, hz, fun v q => nomatch q⟩
    · exact ⟨_, hTI, fun v q => nomatch q⟩
    · exact ⟨_, hTO, fun v q => nomatch q⟩
    · exact h1.live
    · exact h2.live
  keep := fun i h h' st k => by
    obtain ⟨hz, hTI, ⟨x, y, hTO⟩, h1, h2⟩ := st
    exact ⟨k z (by simp) _ hz, k TI (by simp) _ hTI, ⟨x, y, k TO (by simp) _ hTO⟩, h1.keep fun o q => k i1 (by simp) o q, h2.keep fun o q => k i2 (by simp) o q⟩
  item := by
    intro X hP hw hK hc i pins s σ H E I hf st hg
    subst hP hw hK
    obtain ⟨hz, hTI, ⟨x0, y0, hTO⟩, h1, h2⟩ := st
    obtain ⟨xs, ys, x, y, hqx, hqy, hx, hy⟩ := hg
    obtain ⟨us, rv, p⟩ := hqx.at_ I
    obtain ⟨us2, rv2, p2⟩ := hqy.at_ I
    obtain ⟨u, hu, ru⟩ := rv.get hx
    obtain ⟨u2, hu2, ru2⟩ := rv2.get hy
    have hzl : z < s.heap.objs.size := Heap.lt_size hz
    have lx : i < us.toArray.size := by
      have := (List.getElem?_eq_some_iff.mp hu).1
      simpa using this
    have ly : i < us2.toArray.size := by
      have := (List.getElem?_eq_some_iff.mp hu2).1
      simpa using this
    have hhd : X.A.in1.handled = none := I.ok.hd hc
    refine wpAny_pyNext_zipD2_item (sep_of D) (drawsB hhd f i1 a D.l1i1 us.toArray) (drawsB hhd g i2 b D.l2i2 us2.toArray) hz hTI hTO ⟨h1, p⟩ ⟨h2, p2⟩ lx ly fun v1 v2 h' tk e1 e2 z' TO' st1 st2 hT hsz hk => ?_
    have w1 : v1 = u := by
      have : us[i]? = some v1 := by simpa using e1
      rw [hu] at this
      exact (Option.some.inj this).symm
    have w2 : v2 = u2 := by
      have : us2[i]? = some v2 := by simpa using e2
      rw [hu2] at this
      exact (Option.some.inj this).symm
    subst w1 w2
    refine ⟨_, rfl, wpAny_letOwnedTupleGo_zip (s := { s with heap := h', toks := tk }) z' fun h'' z'' sb => ?_⟩
    have hT2 : h''.get? s.heap.objs.size = some { cls := .type "tuple", data := .seq #[v1, v2] } := (sb.2 _ (Nat.ne_of_gt hzl)).trans hT
    have new : ObjOk X.prog X.w (upd H s.heap.objs.size (.tup [x, y])) h'' s.heap.objs.size (.tup [x, y]) :=
      ⟨by show 2 ≤ sizeLine; decide, [v1, v2], .cons ru (.cons ru2 .nil), ⟨_, hT2, rfl, _, rfl⟩⟩
    have I1 : Inv X pins σ (upd H s.heap.objs.size (.tup [x, y])) { s with heap := h'', toks := tk } :=
      I.turnedNew (t' := tk) (ch := [z, TI, TO, i1, i2]) (fun c o hb q => (sb.2 c (fun q' => hb (by simp [q']))).trans (hk c o (fun q' => hb (by simp [q'])) (fun q' => hb (by simp [q'])) (fun q' => hb (by simp [q'])) (fun q' => hb (by simp [q'])) q)) hf (Nat.le_refl _) new
    refine ⟨.ref s.heap.objs.size, _, I1, rfl, ⟨_, x, y, rfl, I.hok.fresh (Nat.le_refl _), rfl, fun l hl => by rw [hl.inj I hqx]; exact hx, fun l hl => by rw [hl.inj I hqy]; exact hy⟩, ⟨z'', ?_, ⟨v1, v2, ?_⟩, ?_, ?_⟩, fun c hcm => ?_⟩
    · exact (sb.2 _ D.TIz).trans (hk _ _ D.TIz D.TITO D.TIi1 D.TIi2 hTI)
    · exact (sb.2 _ D.TOz).trans TO'
    · exact st1.1.keep fun o q => (sb.2 _ D.i1z).trans q
    · exact st2.1.keep fun o q => (sb.2 _ D.i2z).trans q
    · have hlt : c < s.heap.objs.size := by
        have e' : c = z ∨ c = TI ∨ c = TO ∨ c = i1 ∨ c = i2 := by simpa using hcm
        rcases e' with rfl | rfl | rfl | rfl | rfl
        · exact hzl
        · exact Heap.lt_size hTI
        · exact Heap.lt_size hTO
        · obtain ⟨_, e1, _⟩ := h1.live; exact Heap.lt_size e1
        · obtain ⟨_, e1, _⟩ := h2.live; exact Heap.lt_size e1
      rw [upd_ne (Nat.ne_of_lt hlt)]
      exact (hf c hcm).1
  done := by
    intro X hP hw hK hc i pins s σ H E I hf st hg
    subst hP hw hK
    obtain ⟨hz, hTI, ⟨x0, y0, hTO⟩, h1, h2⟩ := st
    obtain ⟨xs, ys, hqx, hqy, hend1, hend2, hend3⟩ := hg
    obtain ⟨us, rv, p⟩ := hqx.at_ I
    obtain ⟨us2, rv2, p2⟩ := hqy.at_ I
    have l1 := rv.length
    have l2 := rv2.length
    have hhd : X.A.in1.handled = none := I.ok.hd hc
    have z1 : us.toArray.size = us.length := by simp
    have z2 : us2.toArray.size = us2.length := by simp
    exact wpAny_pyNext_zipD2_end (sep_of D) (drawsB hhd f i1 a D.l1i1 us.toArray) (drawsB hhd g i2 b D.l2i2 us2.toArray) hz hTI hTO ⟨h1, p⟩ ⟨h2, p2⟩ (by omega) (by omega) (by omega) fun h' tk hk => ⟨rfl, I.turnedL (t' := tk) (ch := [z, TI, TO, i1, i2]) (fun c o hb q =>
      hk c o (fun q' => hb (by simp [q'])) (fun q' => hb (by simp [q'])) (fun q' => hb (by simp [q'])) (fun q' => hb (by simp [q'])) q) hf⟩
  self := fun A i s Q E st h => wpAny_pyIter_zip st.1 h
def iZipB (K : PySem.W.Frag) (ta : TA) : TI := fun σ H R => ta σ H fun vs H1 => ∃ (f g : Bool) (a b : Addr) (xs ys : List V), vs = [.ref a, .ref b] ∧ SqB f K H1 a xs ∧ SqB g K H1 b ys ∧ R (ItzB f g K a b) H1
theorem pi_zipB {X : Cx} {e e2 : Expr} {ta : TA} {p pos tpos : Pos} {elts : List Expr} {kk : Nat} (hg : Gl X "zip") (hm : X.mg "zip" = none) (ha : PA X [e, e2] ta)
    (hs : starEach [e, e2] X.env = (false, eval e X.env) :: starEach [e2] X.env := by rfl) (hpl : (backTo pos (starEach [e2] X.env)).any (·.1) = false := by rfl) :
    PI X (.Tuple elts kk tpos) (.Call (.Name "zip" p) [e, e2] [] pos) (iZipB X.K ta) := by
  refine ⟨fun pins s σ H R I h => ?_⟩
  refine Call_ (ld_blt I hg hm PyProof.Rows.boot_zip (PyProof.Rows.callWith_type1 (thn (ha.run pos pins s σ H _ I h) fun us s1 ⟨vs, H1, I1, r1, q1⟩ => ?_) hs hpl))
  obtain ⟨f, g, a, b, xs, ys, rfl, hqx, hqy, q⟩ := q1
  obtain ⟨u1, u2, rfl, r, r'⟩ := vals2 r1
  cases r
  cases r'
  obtain ⟨_, rv, p1⟩ := hqx.at_ I1
  obtain ⟨_, rv2, p2⟩ := hqy.at_ I1
  refine zip_begins2 (beginsB f a _) (beginsB g b _) p1 p2 fun h' hz hTI hTO h1 h2 hsz hk => wpAny_pyIter_zip hz ?_
  have I2 : Inv X pins σ H1 { s1 with heap := h' } := I1.kept (t' := s1.toks) hk
  refine ⟨s1.heap.objs.size + 4, [s1.heap.objs.size + 4, s1.heap.objs.size + 2, s1.heap.objs.size + 3, s1.heap.objs.size, s1.heap.objs.size + 1], _, _, H1, rfl, I2, turn_zipB f g (PySem.W.ktu_apart s1.heap.objs.size a b p1.lt p2.lt), ⟨hz, hTI, ⟨_, _, hTO⟩, oB_it h1, oB_it h2⟩, fun c hcm => ?_, q⟩
  have e' : c = s1.heap.objs.size + 4 ∨ c = s1.heap.objs.size + 2 ∨ c = s1.heap.objs.size + 3 ∨ c = s1.heap.objs.size ∨ c = s1.heap.objs.size + 1 := by simpa using hcm
  have hle : s1.heap.objs.size ≤ c := by
    rcases e' with z | z | z | z | z
    · rw [z]; exact Nat.le_add_right _ _
    · rw [z]; exact Nat.le_add_right _ _
    · rw [z]; exact Nat.le_add_right _ _
    · rw [z]; exact Nat.le_refl _
    · rw [z]; exact Nat.le_add_right _ _
  exact I1.fpOk hle (I1.hok.fresh hle)
theorem walk_zipB {f g : Bool} {K : PySem.W.Frag} {a b : Addr} {xs ys : List V} {n : Nat} (hn : n = min xs.length ys.length) : Walk (ItzB f g K a b) n (fun H => SqB f K H a xs ∧ SqB g K H b ys) (YPair (fun i => xs[i]?) (fun i => ys[i]?)) := by
  subst hn
  refine ⟨fun i _ hi q => ?_, fun _ q => ⟨xs, ys, q.1, q.2, by omega, by omega, by omega⟩, fun i H v H' _ q y => ?_⟩
  · have h1 : i < xs.length := by omega
    have h2 : i < ys.length := by omega
    exact ⟨xs, ys, xs[i], ys[i], q.1, q.2, by simp [h1], by simp [h2]⟩
  · obtain ⟨T, u, u2, h1, h2, h3, h4, h5⟩ := y
    exact ⟨T, u, u2, h1, h2, h3, h4 xs q.1, h5 ys q.2⟩
end ZipMixed

theorem rat_rd {n d : Int} (hd : d ≠ 0) : rd2 n d = [(Rat.divInt n d).num, ((Rat.divInt n d).den : Int)] := by
  have h0 : ((Rat.divInt n d).den : Int) ≠ 0 := by
    have := (Rat.divInt n d).den_nz
    omega
  have e : Rat.divInt n d = Rat.divInt (Rat.divInt n d).num ((Rat.divInt n d).den : Int) := (Rat.num_divInt_den _).symm
  have c := (Rat.divInt_eq_divInt_iff hd h0).mp e
  rw [rd2_eq0 hd h0 c]
  exact low_of (Rat.divInt n d).reduced (by have := (Rat.divInt n d).den_nz; omega)
/-- a fraction that stands at an address -/
def Fx (K : PySem.W.Frag) (H : Hp) (a : Addr) (r : Rat) : Prop := SqT K H a (zs [r.num, (r.den : Int)])
theorem Fx.same {K : PySem.W.Frag} {H H' : Hp} {a : Addr} {r : Rat} (h : Fx K H a r) (s : Same H H') : Fx K H' a r := same_tup s h
theorem fx_rd {K : PySem.W.Frag} {H : Hp} {a : Addr} {n d : Int} (hd : d ≠ 0) (h : H a = some (.tup (zs (rd2 n d)))) : Fx K H a (Rat.divInt n d) := by
  unfold Fx
  rw [← rat_rd hd]
  exact SqT.of h
theorem fx_at {K : PySem.W.Frag} {H : Hp} {a : Addr} {r : Rat} (h : H a = some (.tup (zs [r.num, (r.den : Int)]))) : Fx K H a r := SqT.of h
def Bd (n : Nat) (r : Rat) : Prop := r.num.natAbs < 2 ^ n ∧ r.den < 2 ^ n
theorem Bd.up {n m : Nat} {r : Rat} (h : Bd n r) (hm : n ≤ m) : Bd m r :=
  ⟨Nat.lt_of_lt_of_le h.1 (Nat.pow_le_pow_right (by decide) hm), Nat.lt_of_lt_of_le h.2 (Nat.pow_le_pow_right (by decide) hm)⟩
theorem Bd.den {n : Nat} {r : Rat} (h : Bd n r) : ((r.den : Nat) : Int).natAbs < 2 ^ n := h.2
theorem den_pos (r : Rat) : (0 : Int) < (r.den : Int) := by
  have := r.den_nz
  omega
theorem den_ne (r : Rat) : ((r.den : Nat) : Int) ≠ 0 := by
  have := den_pos r
  omega
theorem bd_of {n d : Int} {k : Nat} (hd : d ≠ 0) (h1 : n.natAbs < 2 ^ k) (h2 : d.natAbs < 2 ^ k) : Bd k (Rat.divInt n d) := by
  obtain ⟨p, q, e, l1, l2, _⟩ := rd2_le (n := n) hd
  rw [rat_rd hd] at e
  have e1 : (Rat.divInt n d).num = p := by injection e
  have e2 : ((Rat.divInt n d).den : Int) = q := by
    injection e with _ e
    injection e
  refine ⟨by rw [e1]; omega, ?_⟩
  have : (Rat.divInt n d).den = q.natAbs := by rw [← e2]; rfl
  omega
theorem add_div (r s : Rat) : r + s = Rat.divInt (r.num * s.den + s.num * r.den) (r.den * s.den) := by
  rw [Rat.add_def', Rat.divInt_eq_div, Rat.mkRat_eq_div]
  rfl
theorem sub_div (r s : Rat) : r - s = Rat.divInt (r.num * s.den - s.num * r.den) (r.den * s.den) := by
  rw [Rat.sub_def', Rat.divInt_eq_div, Rat.mkRat_eq_div]
  rfl
theorem mul_div (r s : Rat) : r * s = Rat.divInt (r.num * s.num) (r.den * s.den) := by
  rw [Rat.mul_def', Rat.divInt_eq_div, Rat.mkRat_eq_div]
  rfl
theorem dd_ne (r s : Rat) : ((r.den : Int) * (s.den : Int)) ≠ 0 := Int.mul_ne_zero (den_ne r) (den_ne s)
theorem pow_two_add (a b : Nat) : (2 : Nat) ^ (a + b + 1) = 2 * 2 ^ (a + b) := by
  rw [Nat.pow_succ, Nat.mul_comm]
theorem wl {x y : Int} {a b : Nat} (h : x.natAbs < 2 ^ a) (h2 : y.natAbs < 2 ^ b) : (x * y).natAbs < 2 ^ (a + b) := by
  rw [Int.natAbs_mul, Nat.pow_add]
  exact Nat.mul_lt_mul'' h h2
theorem Bd.mul {a b : Nat} {r s : Rat} (h : Bd a r) (h2 : Bd b s) : Bd (a + b) (r * s) := by
  rw [mul_div]
  exact bd_of (dd_ne r s) (wl h.1 h2.1) (wl h.den h2.den)
theorem Bd.add {a b : Nat} {r s : Rat} (h : Bd a r) (h2 : Bd b s) : Bd (a + b + 1) (r + s) := by
  rw [add_div]
  have e := pow_two_add a b
  have w1 := wl h.1 h2.den
  have w2 := wl h2.1 h.den
  have w3 := wl h.den h2.den
  rw [Nat.add_comm b a] at w2
  have := Int.natAbs_add_le (r.num * (s.den : Int)) (s.num * (r.den : Int))
  exact bd_of (dd_ne r s) (by omega) (by omega)
theorem Bd.sub {a b : Nat} {r s : Rat} (h : Bd a r) (h2 : Bd b s) : Bd (a + b + 1) (r - s) := by
  rw [sub_div]
  have e := pow_two_add a b
  have w1 := wl h.1 h2.den
  have w2 := wl h2.1 h.den
  have w3 := wl h.den h2.den
  rw [Nat.add_comm b a] at w2
  have := Int.natAbs_sub_le (r.num * (s.den : Int)) (s.num * (r.den : Int))
  exact bd_of (dd_ne r s) (by omega) (by omega)
theorem Bd.neg {a : Nat} {r : Rat} (h : Bd a r) : Bd a (-r) := by
  refine ⟨?_, ?_⟩
  · rw [Rat.neg_num, Int.natAbs_neg]
    exact h.1
  · rw [Rat.neg_den]
    exact h.2
theorem bd_zero : Bd 1 0 := ⟨by decide, by decide⟩
theorem bd_one : Bd 1 1 := ⟨by decide, by decide⟩
def pdr (r : Rat) : PyData := pd2 r.num (r.den : Int)
theorem dpr {K : PySem.W.Frag} {H : Hp} {a : Addr} {r : Rat} (h : Fx K H a r) : Dp K H (.ref a) (pdr r) := dp2 h
theorem eqvr (r s : Rat) : PyData.eqv (pdr r) (pdr s) = decide (r = s) := by
  unfold pdr pd2
  simp only [PyData.eqv, PyData.eqvAll, Bool.and_true]
  by_cases h : r = s
  · subst h
    simp
  · rw [decide_eq_false h]
    by_cases h1 : r.num = s.num
    · have h2 : ¬ r.den = s.den := fun z => h (Rat.ext h1 z)
      simp [h1]
      omega
    · simp [h1]
/-- a row of fractions: where each stands, what it is -/
def Rx (K : PySem.W.Frag) (H : Hp) (ws : List (Addr × Rat)) : Prop := ∀ w ∈ ws, Fx K H w.1 w.2
def fr (ws : List (Addr × Rat)) : List V := ws.map fun w => V.ref w.1
theorem Rx.same {K : PySem.W.Frag} {H H' : Hp} {ws : List (Addr × Rat)} (h : Rx K H ws) (s : Same H H') : Rx K H' ws := fun w hw => (h w hw).same s
theorem fr_len (ws : List (Addr × Rat)) : (fr ws).length = ws.length := List.length_map _
theorem fr_get {ws : List (Addr × Rat)} {i : Nat} {v : V} (h : (fr ws)[i]? = some v) : ∃ w, v = .ref w.1 ∧ ws[i]? = some w := by
  rw [show fr ws = ws.map fun w => V.ref w.1 from rfl, List.getElem?_map] at h
  cases e : ws[i]? with
  | none =>
    rw [e] at h
    cases h
  | some w =>
    rw [e] at h
    exact ⟨w, (Option.some.inj h).symm, rfl⟩
theorem fr_at {ws : List (Addr × Rat)} {i : Nat} {r : Rat} (h : (ws.map (·.2))[i]? = some r) : ∃ t, (fr ws)[i]? = some (.ref t) ∧ (t, r) ∈ ws := by
  rw [List.getElem?_map] at h
  cases e : ws[i]? with
  | none =>
    rw [e] at h
    cases h
  | some w =>
    rw [e] at h
    have : w.2 = r := Option.some.inj h
    subst this
    refine ⟨w.1, ?_, List.mem_of_getElem? e⟩
    rw [show fr ws = ws.map fun w => V.ref w.1 from rfl, List.getElem?_map, e]
    rfl
theorem dpAll {K : PySem.W.Frag} {H : Hp} : ∀ {ws : List (Addr × Rat)}, Rx K H ws → DpAll K H (fr ws) ((ws.map (·.2)).map pdr)
  | [], _ => .nil
  | w :: ws, h => .cons (dpr (h w List.mem_cons_self)) (dpAll fun x hx => h x (List.mem_cons_of_mem _ hx))
theorem eqvAllr : ∀ rs ss : List Rat, PyData.eqvAll (rs.map pdr) (ss.map pdr) = decide (rs = ss)
  | [], [] => rfl
  | [], _ :: _ => rfl
  | _ :: _, [] => rfl
  | r :: rs, s :: ss => by
    rw [List.map_cons, List.map_cons, PyData.eqvAll, eqvr, eqvAllr rs ss]
    by_cases h1 : r = s
    · by_cases h2 : rs = ss
      · simp [h1, h2]
      · simp [h1, h2]
    · simp [h1]
theorem shr (rs : List Rat) : PyData.canLayAll0 (rs.map pdr) = true ∧ PyData.depthAll (rs.map pdr) ≤ 1 := by
  induction rs with
  | nil => decide
  | cons r rs ih =>
    rw [List.map_cons, PyData.canLayAll0, PyData.depthAll, ih.1]
    exact ⟨rfl, Nat.max_le.mpr ⟨Nat.le_refl 1, ih.2⟩⟩
theorem shrl (rs : List Rat) : SeqAt.shaped (.list (rs.map pdr)) = true := by
  have h1 := (shr rs).1
  have h2 := (shr rs).2
  unfold SeqAt.shaped
  rw [PyData.canLay0, PyData.depth, h1, decide_eq_true (by omega)]
  rfl
theorem shrt (rs : List Rat) : SeqAt.shaped (.tuple (rs.map pdr)) = true := by
  have h1 := (shr rs).1
  have h2 := (shr rs).2
  unfold SeqAt.shaped
  rw [PyData.canLay0, PyData.depth, h1, decide_eq_true (by omega)]
  rfl
/-- a value along parameters: its base, its slopes -/
def Vx (K : PySem.W.Frag) (H : Hp) (t : Addr) (b : Rat) (ss : List Rat) : Prop := ∃ (p q : Addr) (ws : List (Addr × Rat)), SqT K H t [.ref p, .ref q] ∧ Fx K H p b ∧ SqT K H q (fr ws) ∧ Rx K H ws ∧ ws.map (·.2) = ss
theorem Vx.same {K : PySem.W.Frag} {H H' : Hp} {t : Addr} {b : Rat} {ss : List Rat} (h : Vx K H t b ss) (s : Same H H') : Vx K H' t b ss := by
  obtain ⟨p, q, ws, h1, h2, h3, h4, h5⟩ := h
  exact ⟨p, q, ws, same_tup s h1, h2.same s, same_tup s h3, h4.same s, h5⟩
def pdv (b : Rat) (ss : List Rat) : PyData := .tuple [pdr b, .tuple (ss.map pdr)]
theorem dpv {K : PySem.W.Frag} {H : Hp} {t : Addr} {b : Rat} {ss : List Rat} (h : Vx K H t b ss) : Dp K H (.ref t) (pdv b ss) := by
  obtain ⟨p, q, ws, h1, h2, h3, h4, rfl⟩ := h
  exact .tup h1 (.cons (dpr h2) (.cons (.tup h3 (dpAll h4)) .nil))
theorem eqvv (b c : Rat) (ss us : List Rat) : PyData.eqv (pdv b ss) (pdv c us) = decide (b = c ∧ ss = us) := by
  unfold pdv
  rw [PyData.eqv, PyData.eqvAll, PyData.eqvAll, PyData.eqvAll, eqvr, PyData.eqv, eqvAllr]
  by_cases h1 : b = c
  · by_cases h2 : ss = us
    · simp [h1, h2]
    · simp [h1, h2]
  · simp [h1]
theorem shv (b : Rat) (ss : List Rat) : SeqAt.shaped (pdv b ss) = true := by
  have h1 := (shr ss).1
  have h2 := (shr ss).2
  unfold SeqAt.shaped pdv
  simp only [PyData.canLay0, PyData.canLayAll0, PyData.depth, PyData.depthAll, h1, pdr, pd2]
  simp
  omega
theorem sh1 (r : Rat) : SeqAt.shaped (pdr r) = true := rfl
theorem over_tup {K : PySem.W.Frag} {H H' : Hp} {t D : Addr} {xs ys : List V} (h : SqT K H t xs) (hl : H D = some (.lst ys)) (s : ∀ b o, b ≠ D → H b = some o → H' b = some o) : SqT K H' t xs := by
  rcases h with (h | ⟨ob, h⟩) | h
  · exact .inl (.inl (s _ _ (ne_of h hl (by intro z; cases z)) h))
  · exact .inl (.inr ⟨ob, s _ _ (ne_of h hl (by intro z; cases z)) h⟩)
  · exact .inr h
/-- a comprehension whose elements are fractions: those of L -/
theorem lc_row {K : PySem.W.Frag} {J : It} {n : Nat} {G : Hp → Prop} {Y : Nat → Hp → V → Hp → Prop} (w : Walk J n G Y) (L : List Rat) (hL : L.length = n) (hz : n ≤ 1000)
    {g : TG} {te : TE} {vs : List Nat} {σ : L2.St} {H1 : Hp} {D : Addr} {Qd : Hp → Prop} (hD : H1 D = none) (hG : ∀ H, Same H1 H → G H)
    (hs : ∀ i r x H H' (k : V → Hp → Prop), L[i]? = some r → Same H1 H → Y i H x H' → (∀ t H4, Same H H4 → Fx K H4 t r → k (.ref t) H4) → g x (wipe σ vs) H' fun σ2 H2 => wipe σ2 vs = wipe σ vs ∧ te σ2 H2 k)
    (hd : ∀ H ws, Same H1 H → H D = some (.lst (fr ws)) → Rx K H ws → ws.map (·.2) = L → Qd H) :
    ∃ W : Nat → Nat → Hp → Prop, (∃ m, W 0 m (upd H1 D (.lst []))) ∧ ∀ i m H, W i m H →
      (J.stop i H ∧ Qd H) ∨ (J.go i H ∧ ∃ Nx : Hp → Prop, (∀ H', Nx H' → ∃ m', m' < m ∧ W (i + 1) m' H') ∧ ∀ x H', J.yld i H x H' → g x (wipe σ vs) H' fun σ2 H2 => wipe σ2 vs = wipe σ vs ∧ tYes σ2 H2 fun b H3 =>
        if b = true then te σ2 H3 fun y H4 => ∃ acc, H4 D = some (.lst acc) ∧ acc.length < sizeLine ∧ Nx (upd H4 D (.lst (acc ++ [y]))) else Nx H3) := by
  subst hL
  refine lc_it w (fun i H => Same H1 H ∧ ∃ ws, H D = some (.lst (fr ws)) ∧ Rx K H ws ∧ ws.map (·.2) = L.take i) ⟨same_upd hD, [], upd_same, (fun _ z => nomatch z), rfl⟩ (fun i H _ h => hG H h.1) ?_ ?_
  · rintro i x H H' hi ⟨s1, ws, e1, r1, m1⟩ y
    have hr : L[i]? = some L[i] := List.getElem?_eq_getElem hi
    have q := hs i L[i] x H H' (fun y H4 => ∃ acc, H4 D = some (.lst acc) ∧ acc.length < sizeLine ∧ (fun H => Same H1 H ∧ ∃ ws, H D = some (.lst (fr ws)) ∧ Rx K H ws ∧ ws.map (·.2) = L.take (i + 1)) (upd H4 D (.lst (acc ++ [y])))) hr s1 y (fun t H4 s4 f4 => ?_)
    · refine Eq.mp (congrArg (g x (wipe σ vs) H') ?_) q
      funext σ2 H2
      simp [tYes]
    · have e4 := s4 _ _ e1
      have hlen : ws.length = (L.take i).length := by rw [← m1, List.length_map]
      rw [List.length_take] at hlen
      refine ⟨fr ws, e4, ?_, fun b o e => ?_, ws ++ [(t, L[i])], ?_, fun v hv => ?_, ?_⟩
      · rw [fr_len]
        exact small1000 (by omega)
      · rw [upd_ne (ne_of_none e hD)]
        exact s4 _ _ (s1 _ _ e)
      · rw [upd_same, show fr (ws ++ [(t, L[i])]) = fr ws ++ [.ref t] from List.map_append]
      · rcases List.mem_append.mp hv with h | h
        · exact over_tup ((r1.same s4) v h) e4 fun b o hb e => by rw [upd_ne hb]; exact e
        · rw [List.mem_singleton.mp h]
          exact over_tup f4 e4 fun b o hb e => by rw [upd_ne hb]; exact e
      · rw [List.map_append, m1, List.take_add_one, hr]
        rfl
  · rintro H ⟨s1, ws, e1, r1, m1⟩
    rw [List.take_length] at m1
    exact hd H ws s1 e1 r1 m1
/-- a comprehension whose elements are plain values: those of L -/
theorem lc_val {J : It} {n : Nat} {G : Hp → Prop} {Y : Nat → Hp → V → Hp → Prop} (w : Walk J n G Y) (L : List V) (hL : L.length = n) (hz : n ≤ 1000)
    {g : TG} {te : TE} {vs : List Nat} {σ : L2.St} {H1 : Hp} {D : Addr} {Qd : Hp → Prop} (hD : H1 D = none) (hG : ∀ H, Same H1 H → G H)
    (hs : ∀ i r x H H' (k : V → Hp → Prop), L[i]? = some r → Same H1 H → Y i H x H' → (∀ H4, Same H H4 → k r H4) → g x (wipe σ vs) H' fun σ2 H2 => wipe σ2 vs = wipe σ vs ∧ te σ2 H2 k)
    (hd : ∀ H, Same H1 H → H D = some (.lst L) → Qd H) :
    ∃ W : Nat → Nat → Hp → Prop, (∃ m, W 0 m (upd H1 D (.lst []))) ∧ ∀ i m H, W i m H →
      (J.stop i H ∧ Qd H) ∨ (J.go i H ∧ ∃ Nx : Hp → Prop, (∀ H', Nx H' → ∃ m', m' < m ∧ W (i + 1) m' H') ∧ ∀ x H', J.yld i H x H' → g x (wipe σ vs) H' fun σ2 H2 => wipe σ2 vs = wipe σ vs ∧ tYes σ2 H2 fun b H3 =>
        if b = true then te σ2 H3 fun y H4 => ∃ acc, H4 D = some (.lst acc) ∧ acc.length < sizeLine ∧ Nx (upd H4 D (.lst (acc ++ [y]))) else Nx H3) := by
  subst hL
  refine lc_it w (fun i H => Same H1 H ∧ H D = some (.lst (L.take i))) ⟨same_upd hD, upd_same⟩ (fun i H _ h => hG H h.1) ?_ ?_
  · rintro i x H H' hi ⟨s1, e1⟩ y
    have hr : L[i]? = some L[i] := List.getElem?_eq_getElem hi
    have q := hs i L[i] x H H' (fun y H4 => ∃ acc, H4 D = some (.lst acc) ∧ acc.length < sizeLine ∧ (fun H => Same H1 H ∧ H D = some (.lst (L.take (i + 1)))) (upd H4 D (.lst (acc ++ [y])))) hr s1 y (fun H4 s4 => ?_)
    · refine Eq.mp (congrArg (g x (wipe σ vs) H') ?_) q
      funext σ2 H2
      simp [tYes]
    · have e4 := s4 _ _ e1
      refine ⟨L.take i, e4, ?_, fun b o e => ?_, ?_⟩
      · rw [List.length_take]
        exact small1000 (by omega)
      · rw [upd_ne (ne_of_none e hD)]
        exact s4 _ _ (s1 _ _ e)
      · rw [upd_same, List.take_add_one, hr]
        rfl
  · rintro H ⟨s1, e1⟩
    rw [List.take_length] at e1
    exact hd H s1 e1
def sumR (l : List Rat) : Rat := l.foldl (· + ·) 0
theorem foldl_sum (b : Rat) (l : List Rat) : l.foldl (· + ·) b = b + sumR l := by
  unfold sumR
  induction l generalizing b with
  | nil => exact (Rat.add_zero b).symm
  | cons x l ih =>
    rw [List.foldl_cons, List.foldl_cons, ih, ih (0 + x)]
    grind
theorem sum_bd {n : Nat} {l : List Rat} (h : ∀ r ∈ l, Bd n r) : ∀ i ≤ l.length, Bd (1 + (n + 1) * i) (sumR (l.take i)) := by
  intro i
  induction i with
  | zero =>
    intro _
    exact bd_zero
  | succ i ih =>
    intro hi
    have e : l[i]? = some l[i] := List.getElem?_eq_getElem (by omega)
    have b1 := ih (by omega)
    have b2 := h l[i] (List.getElem_mem _)
    have e2 : sumR (l.take (i + 1)) = sumR (l.take i) + l[i] := by
      unfold sumR
      rw [List.take_add_one, e, List.foldl_append]
      rfl
    rw [e2]
    refine (b1.add b2).up ?_
    rw [Nat.mul_succ]
    omega

section
open PySem PySem.Spec PyProof.Rows
/-- a tuple, once: itself -/
theorem mul_once (l : Addr) (its : Array Value) (n : Nat) (dt : Option Addr) (sl : Array (Option Value)) (u : Tok) :
    Meets (Builtin.«tuple.__mul__» ⟨[.ref l, .int 1 u], []⟩) (fun _ R s => s.heap.get? l = some { cls := .type "tuple", dict := dt, data := .seq its n, slots := sl } ∧ R (.ok (.ret (Value.ref l))) s) :=
  .of_wp fun prog w A R s h => by
    obtain ⟨hp, g, dw, tk, os⟩ := s; obtain ⟨hl, h⟩ := h
    have ix := AutoSeq1.idx_int
    wp_walk using wpAny_loadPart' hl
    exact ⟨_, rfl, h⟩
/-- a tuple, no times: an empty one -/
theorem mul_none (l : Addr) (its : Array Value) (n : Nat) (dt : Option Addr) (sl : Array (Option Value)) (u : Tok) (hi : its.isEmpty = false) :
    Meets (Builtin.«tuple.__mul__» ⟨[.ref l, .int 0 u], []⟩) (fun _ R s => s.heap.get? l = some { cls := .type "tuple", dict := dt, data := .seq its n, slots := sl } ∧
      R (.ok (.ret (Value.ref s.heap.objs.size))) { s with heap := s.heap.push { cls := Value.type "tuple", data := Data.seq #[] }, toks := s.toks }) :=
  .of_wp fun prog w A R s h => by
    obtain ⟨hp, g, dw, tk, os⟩ := s; obtain ⟨hl, h⟩ := h
    have ix := AutoSeq1.idx_int
    have c1 : (its.isEmpty || (0 : Int) == 1) = false := by rw [hi]; rfl
    wp_walk using wpAny_loadPart' hl
    repeat (first
      | (refine wpAny_ite_false (decide_eq_false (by rw [c1]; exact Bool.false_ne_true)) ?_; wp_walk using wpAny_loadPart' hl))
    exact ⟨_, rfl, h⟩
section
variable {X : Cx}
theorem op_mulOnce : OpR X (binaryOp .Mult) (fun x y H Q => ∃ l xs, x = .ref l ∧ y = .int 1 ∧ SqT X.K H l xs ∧ Q (.ref l) H) := by
  intro pins s σ H x y v u Q I rx ry hh
  obtain ⟨l, xs, rfl, rfl, hT, q⟩ := hh
  obtain rfl : v = .ref l := rx
  obtain ⟨tk1, rfl⟩ := ry
  obtain ⟨its, r, ⟨⟨kl, dt, da, sl⟩, ho, hc, n, hd⟩, _⟩ := I.tuple hT
  dsimp only at hc hd; subst hc hd
  exact wpAny_binaryOp_repeat_ref (T := "tuple") (U := "int") (by decide) ⟨_, ho, rfl⟩ (fun s' => typeIs_int s' 1 tk1) noFill_tuple_mul F.fills_int_mul F.slot_int_rmul repeat_tuple F.slot_int_index.lookup
    (call_meets F.slot_int_rmul (typeIs_int s 1 tk1) F.entry_int_rmul (F.args_int_rmul_2 _ _) (int_rmul_tuple 1 tk1 l its.toArray n dt sl)
      ⟨ho, rfl, ⟨_, ho, rfl⟩, call_meets F.slot_tuple_mul ⟨_, ho, rfl⟩ F.entry_tuple_mul (F.args_tuple_mul_2 _ _) (mul_once l its.toArray n dt sl tk1) ⟨ho, ⟨.ref l, H, I, rfl, q⟩⟩⟩)
theorem op_mulNone : OpR X (binaryOp .Mult) (fun x y H Q => ∃ l xs, x = .ref l ∧ y = .int 0 ∧ SqT X.K H l xs ∧ xs ≠ [] ∧ ∀ p, H p = none → Q (.ref p) (upd H p (.tup []))) := by
  intro pins s σ H x y v u Q I rx ry hh
  obtain ⟨l, xs, rfl, rfl, hT, hne, q⟩ := hh
  obtain rfl : v = .ref l := rx
  obtain ⟨tk1, rfl⟩ := ry
  obtain ⟨its, r, ⟨⟨kl, dt, da, sl⟩, ho, hc, n, hd⟩, _⟩ := I.tuple hT
  dsimp only at hc hd; subst hc hd
  have hi : its.toArray.isEmpty = false := by
    cases r with
    | nil => exact absurd rfl hne
    | cons _ _ => rfl
  exact wpAny_binaryOp_repeat_ref (T := "tuple") (U := "int") (by decide) ⟨_, ho, rfl⟩ (fun s' => typeIs_int s' 0 tk1) noFill_tuple_mul F.fills_int_mul F.slot_int_rmul repeat_tuple F.slot_int_index.lookup
    (call_meets F.slot_int_rmul (typeIs_int s 0 tk1) F.entry_int_rmul (F.args_int_rmul_2 _ _) (int_rmul_tuple 0 tk1 l its.toArray n dt sl)
      ⟨ho, rfl, ⟨_, ho, rfl⟩, call_meets F.slot_tuple_mul ⟨_, ho, rfl⟩ F.entry_tuple_mul (F.args_tuple_mul_2 _ _) (mul_none l its.toArray n dt sl tk1 hi) ⟨ho,
        ⟨.ref s.heap.objs.size, _, I.laid (t' := s.toks) (o := .tup []) (fun b ob e => Heap.get?_push_of_some _ e) (Nat.le_refl _) ⟨by show 0 ≤ sizeLine; decide, [], .nil, IsTup.new _ _⟩, rfl, q _ (I.hok.fresh (Nat.le_refl _))⟩⟩⟩)
end
end

section
open PySem PySem.Spec PyProof.Rows
/-- the promise of an error's __init__ that keeps a line and a column -/
def spFIni (K : PySem.W.Frag) (C : Addr) : Sp := fun vs H Q _ => ∃ (a : Addr) (l c : Int), vs = [.ref a, .int l, .int c] ∧ H a = some (exo a C none) ∧
  ∀ (d : Addr) (H' : Hp), H d = none → d ≠ a → H' a = some (exo a C (some d)) → H' d = some (exd d [("column", .int c), ("line", .int l)]) → (∀ b o, b ≠ a → b ≠ d → H b = some o → H' b = some o) → Q .non H'
theorem fault_mk {K : PySem.W.Frag} {H1 : Hp} {C : Addr} {l c : Int} {W : Value → Option Addr → Hp → Prop}
    (hW : ∀ (d : Addr) (H' : Hp), Same H1 H' → H1 d = none → H' d = some (.xd [("column", .int c), ("line", .int l)]) → W (.ref C) (some d) H') :
    [V.int l, V.int c].length ≤ 1000 ∧ ∀ a, H1 a = none → spFIni K C (.ref a :: ([V.int l, V.int c] ++ [])) (upd H1 a (exo a C none))
      (fun v H2 => v = .non ∧ ∃ (d : Addr) (fs : List (Str × V)), H2 a = some (exo a C (some d)) ∧ H2 d = some (exd d fs) ∧ H1 d = none ∧ W (.ref C) (some d) (upd (del H2 a) d (.xd fs))) (fun _ _ _ => False) := by
  refine ⟨by show 2 ≤ 1000; decide, fun a ha => ⟨a, l, c, rfl, upd_same, fun d H' hd hda e1 e2 hk => ⟨rfl, d, _, e1, e2, ?_, ?_⟩⟩⟩
  · rw [upd_ne hda] at hd
    exact hd
  · rw [upd_ne hda] at hd
    refine hW d _ (fun b o e => ?_) hd upd_same
    have nb : b ≠ d := ne_of_none e hd
    have na : b ≠ a := ne_of_none e ha
    rw [upd_ne nb, del_ne na]
    exact hk b o na nb (by rw [upd_ne na]; exact e)
theorem suite_ofD {X : Cx} {a C : Addr} {oe : Obj} {pn : List (Addr × Obj)} {cls : Value} {d : Option Addr} {sts : List Stmt} {ts : Addr → TS} (hz : Zc cls d oe)
    (h : ∀ dd, Zc (.ref C) (some dd) oe → PSs (X.suite a ((a, oe) :: pn)) sts (ts dd)) : PSs (X.suite a ((a, oe) :: pn)) sts (fun D σ H => ∃ dd, (cls = .ref C ∧ d = some dd) ∧ ts dd D σ H) :=
  ⟨fun pins s σ H D I hq => by
    obtain ⟨dd, ⟨rfl, rfl⟩, q⟩ := hq
    exact (h dd hz).run pins s σ H D I q⟩
end

/-- what a def owes that refuses a text: the error with its two fields -/
def fE (C : Addr) (E : XK) (H : Hp) (l c : Int) : Prop := ∀ (d : Addr) (H' : Hp), Same H H' → H' d = some (.xd [("column", .int c), ("line", .int l)]) → E (.ref C) (some d) H'
theorem fE.same {C : Addr} {E : XK} {H H' : Hp} {l c : Int} (h : fE C E H l c) (s : Same H H') : fE C E H' l c := fun d H2 s2 e => h d H2 (s.trans s2) e
theorem pss_no {X : Cx} {b : List Stmt} : PSs X b (fun _ _ _ => False) := ⟨fun _ _ _ _ _ _ h => h.elim⟩

section
open PySem PySem.Spec PySem.Calls PyProof.Rows PySem.W
section
variable {prog : Program} {w : World} {A : Around} {E : Value → Shared → Prop} {s : Shared} {K : Frag} {xe Ck : Addr} {ox : Obj}
/-- the class of an error that has a dict, asked by isinstance -/
theorem tp_class {Q : Option Value → Shared → Prop} {dt : Obj} (C : L2.ExcC K Ck) (X : K.In s.heap) (I : InstAt s.heap xe ox Ck (some dt)) (h : Q (some (.ref Ck)) { s with toks := s.toks + 1 }) :
    wpAny (model prog w) A (getAttr? (.ref xe) "__class__") Q E s := by
  have hcl : (clsIn K Ck).isSome = true := by
    obtain ⟨cd, e, _⟩ := any_some C.hd
    rw [e]; rfl
  have hfo : findObj K Ck (some dt) "__class__" = some (.bind (.builtin "getset_descriptor.__get__") (.builtin "object.__class__")) := findObj_data hcl C.ha C.hn C.ht
  obtain ⟨hp, gs, dw, tk, os⟩ := s
  have lT := I.type (M := model prog w); have lG := looks_findIn (M := model prog w) X C.hg
  have lA := looks_findIn (M := model prog w) X C.hk; have lF := looks_find (M := model prog w) X I hfo
  have lS : Looks (model prog w) hp (isInstance (.ref xe) (.type "BaseException")) true := lT.andThen (looks_subIn X C.hs)
  have n0 : (false && onTheHeap (Value.builtin "BaseException.__getattribute__")) = false := rfl
  have n1 : (onTheHeap (Value.ref Ck) && Value.builtin "BaseException.__getattribute__" == Value.builtin "object.__getattribute__") = false := by
    rw [show (Value.builtin "BaseException.__getattribute__" == Value.builtin "object.__getattribute__") = false by decide +kernel]; rfl
  unfold getAttr? getAttrBy? getAttrBy; refine wpAny_bind (wpAny_mkText (wpAny_bind (wpAny_attempt (wpAny_holding (wpAny_bind (lT.at (wpAny_bind (lG.at ?_))))))))
  show wpAny _ _ (if (onTheHeap (Value.ref Ck) && Value.builtin "BaseException.__getattribute__" == Value.builtin "object.__getattribute__") = true then _ else _) _ _ _
  rw [n1, if_neg Bool.false_ne_true]
  unfold getAttrByItsOwn hookBefore; refine wpAny_bind ?_
  rw [if_pos (show onTheHeap (Value.ref Ck) = true from rfl)]
  refine lA.at (wpAny_bind (wpAny_attempt (wpAny_holding ?_)))
  unfold callGetattribute
  rw [n0, if_neg Bool.false_ne_true]
  unfold boundAndCalled
  rw [PySem.F.excAttr_ValueError.ga.bind (.ref xe)]
  refine wpAny_bind (wpAny_pure ?_)
  show wpAny _ _ (call (.builtin "BaseException.__getattribute__") [.ref xe, .str "__class__" tk]) _ _ _
  refine wpAny_call (codeAny_call_builtin PySem.F.excAttr_ValueError.ga.plain PySem.F.entry_bexc_ga ?_)
  refine @check_slot (model prog w) _ _ ⟨hp, gs, dw, tk + 1, os⟩ "BaseException.__getattribute__" "BaseException" "__getattribute__" (.ref xe) [.str "__class__" tk] [] _ (by decide +kernel) (by decide +kernel) lS (PySem.F.args_bexc_ga (.ref xe) (.str "__class__" tk)) ?_
  unfold Builtin.«object.__getattribute__»
  refine wpAny_bind (wpAny_of_eq (a := ((Value.ref xe : Value), [Value.str "__class__" tk])) (by first | rfl | (simp only [slotArgs]; rfl)) ?_)
  refine wpAny_bind (wpAny_pure (wpAny_bind (lT.at (wpAny_bind (lF.at ?_)))))
  show wpAny _ _ (holding [Value.builtin "object.__class__"] (call (.builtin "getset_descriptor.__get__") [.builtin "object.__class__", .ref xe, .ref Ck]) >>= ret) _ _ _
  refine wpAny_bind (wpAny_holding (wpAny_call (class_get (s := ⟨hp, gs, dw, tk + 1, os⟩) (ox := ox) (od := some dt) X I C.hm ?_)))
  refine wpAny_pure ?_
  show wpAny _ _ (handedOut (.ref Ck)) _ _ _
  rw [handedOut_of (v := .ref Ck) rfl]
  first
    | exact wpAny_pure (wpAny_pure h)
    | exact wpAny_pure h
    | exact wpAny_pure (wpAny_bind (wpAny_pure (wpAny_pure h)))
theorem xd_kit {dt : Obj} (C : L2.ExcC K Ck) : KitX K (.ref xe) (.ref Ck) (fun h => InstAt h xe ox Ck (some dt)) where
  ty := fun _ _ _ I => I.type
  ca := fun X I k => tp_class C X I k
  it := fun _ _ X _ => by
    obtain ⟨cdx, hcx, _⟩ := any_some C.hd
    unfold clsIn at hcx; split at hcx
    case h_2 => cases hcx
    case h_1 hlk =>
      intro A1 Q1 E1 s1 k q
      unfold isType loadHead; exact wpAny_bind (wpAny_loadPart (k _ _ (X _ _ hlk)) (wpAny_pure q))
  ne := fun h tp dd its n sl X htp => by
    obtain ⟨cdx, hcx, _⟩ := any_some C.hd
    rw [beq_eq_false_iff_ne]
    intro e
    obtain rfl : Ck = tp := Value.ref.inj e
    unfold clsIn at hcx; split at hcx
    case h_2 => cases hcx
    case h_1 hlk => cases (X _ _ hlk).symm.trans htp
end
end
section
open PySem PySem.Spec PyProof.Rows
/-- isinstance(e, c), e an error with its dict at dd -/
def rIsD (K : PySem.W.Frag) (C a dd : Addr) : List V → Hp → VK → Prop := fun xs H Q => ∃ (c : V) (cv : Value) (b : Bool) (fs : List (Str × V)), xs = [.ref a, c] ∧ (∀ u, RelV c u → u = cv) ∧ PySem.W.kitOne K (.ref C) cv = some b ∧ H dd = some (.xd fs) ∧ Q (.bl b) H
theorem call_isD {X : Cx} {a C dd : Addr} {oe : Obj} {pn : List (Addr × Obj)} (T : ExcC X.K C) (hz : Zc (.ref C) (some dd) oe) (hf : ∃ vs, oe.data = .fields vs) : CallR (X.suite a ((a, oe) :: pn)) (.builtin "isinstance") (rIsD X.K C a dd) := by
  intro pins s σ H xs us Q I r h
  obtain ⟨c, cv, b, fs, rfl, hcv, e, hdd, q⟩ := h
  match us, r with
  | [_, _], .cons rx (.cons rt .nil) =>
    cases rx
    obtain rfl := hcv _ rt
    have hg := (I.pin (a, oe) (List.mem_append_left _ List.mem_cons_self)).1
    obtain ⟨mA, hns, _⟩ : ObjOk X.prog X.w H s.heap dd (.xd fs) := I.hok dd _ hdd
    obtain ⟨od, ho, _⟩ := lookIn_ns hns
    obtain ⟨vs, hv⟩ := hf
    have J : PySem.W.InstAt s.heap a oe C (some od) := ⟨hg, hz.1, by unfold PySem.W.notCls; rw [hv], by rw [hz.2]; exact ho⟩
    exact PySem.W.kia_one (xd_kit T) I.kIn J e (fun z => nomatch z) fun tk => ⟨.bl b, H, I.kept (t' := tk) (fun _ _ y => y), rfl, q⟩
end

section
open SX
/-- how many signs from i on are among b -/
def dg (b a : List Nat) (i : Nat) : Nat := ((a.drop i).takeWhile fun c => decide (c ∈ b)).length
theorem tw_in {p : Nat → Bool} : ∀ {l : List Nat} {j : Nat}, j < (l.takeWhile p).length → ∃ c, l[j]? = some c ∧ p c = true
  | [], _, h => absurd h (Nat.not_lt_zero _)
  | c :: l, j, h => by
    rw [List.takeWhile_cons] at h
    by_cases hc : p c = true
    · rw [if_pos hc] at h
      cases j with
      | zero => exact ⟨c, rfl, hc⟩
      | succ j =>
        obtain ⟨d, h1, h2⟩ := tw_in (l := l) (j := j) (Nat.lt_of_succ_lt_succ h)
        exact ⟨d, h1, h2⟩
    · rw [if_neg hc] at h
      exact absurd h (Nat.not_lt_zero _)
theorem tw_out {p : Nat → Bool} : ∀ {l : List Nat} {c : Nat}, l[(l.takeWhile p).length]? = some c → p c = false
  | [], _, h => by cases h
  | d :: l, c, h => by
    rw [List.takeWhile_cons] at h
    by_cases hd : p d = true
    · rw [if_pos hd, List.length_cons, List.getElem?_cons_succ] at h
      exact tw_out h
    · rw [if_neg hd] at h
      obtain rfl : d = c := Option.some.inj h
      exact Bool.eq_false_iff.mpr hd
theorem tw_len {p : Nat → Bool} (l : List Nat) : (l.takeWhile p).length ≤ l.length := by
  induction l with
  | nil => exact Nat.le_refl _
  | cons c l ih =>
    rw [List.takeWhile_cons]
    split
    · rw [List.length_cons, List.length_cons]
      omega
    · exact Nat.zero_le _
theorem dg_le {b a : List Nat} {i : Nat} (h : i ≤ a.length) : i + dg b a i ≤ a.length := by
  have h1 := tw_len (p := fun c => decide (c ∈ b)) (a.drop i)
  rw [List.length_drop] at h1
  unfold dg
  omega
theorem dg_in {b a : List Nat} {i j : Nat} (h : j < dg b a i) : ∃ c, a[i + j]? = some c ∧ c ∈ b := by
  obtain ⟨c, h1, h2⟩ := tw_in h
  rw [List.getElem?_drop] at h1
  exact ⟨c, h1, of_decide_eq_true h2⟩
theorem dg_out {b a : List Nat} {i c : Nat} (h : a[i + dg b a i]? = some c) : c ∉ b := by
  have h1 : (a.drop i)[((a.drop i).takeWhile fun c => decide (c ∈ b)).length]? = some c := by
    rw [List.getElem?_drop]
    exact h
  exact of_decide_eq_false (tw_out h1)
theorem cut_S {a : List Nat} {i n : Nat} (h : i + n ≤ a.length) : cutS (S a) (some ((i : Nat) : Int)) (some ((i + n : Nat) : Int)) = S ((a.drop i).take n) := by
  unfold cutS
  rw [HT.sIx_nat, HT.sIx_nat, S_len, show min i a.length = i by omega, show min (i + n) a.length = i + n by omega, show i + n - i = n by omega]
theorem cut_to {a : List Nat} {n : Nat} : cutS (S a) none (some ((n : Nat) : Int)) = S (a.take n) := by
  unfold cutS
  rw [HT.sIx_nat, HT.sIx_none, S_len, List.drop_zero, Nat.sub_zero]
  refine congrArg S ?_
  rcases Nat.le_total n a.length with h | h
  · rw [show min n a.length = n by omega]
  · rw [show min n a.length = a.length by omega, List.take_of_length_le (Nat.le_refl _), List.take_of_length_le h]
theorem cut_from {a : List Nat} {n : Nat} : cutS (S a) (some ((n : Nat) : Int)) none = S (a.drop n) := by
  unfold cutS
  rw [HT.sIx_nat, HT.sIx_none, S_len]
  refine congrArg S ?_
  show (a.drop (min n a.length)).take (a.length - min n a.length) = a.drop n
  rcases Nat.le_total n a.length with h | h
  · rw [show min n a.length = n by omega, List.take_of_length_le (by rw [List.length_drop]; omega)]
  · rw [show min n a.length = a.length by omega, List.drop_of_length_le h, List.drop_of_length_le (Nat.le_refl _), List.take_nil]
def D10 : List Nat := [48, 49, 50, 51, 52, 53, 54, 55, 56, 57]
theorem D10_S : ("0123456789" : Str) = S D10 := by decide +kernel
theorem mem_D10 {c : Nat} (h : c ∈ D10) : 48 ≤ c ∧ c ≤ 57 := by
  simp only [D10, List.mem_cons, List.not_mem_nil, or_false] at h
  omega
theorem D10_mem {c : Nat} (h : 48 ≤ c ∧ c ≤ 57) : c ∈ D10 := by
  simp only [D10, List.mem_cons, List.not_mem_nil, or_false]
  omega
/-- the number that n digits from i on tell -/
def dv10 (a : List Nat) (i n : Nat) : Nat := NumText.digitsVal ((a.drop i).take n)
theorem fold_lt : ∀ (l : List Nat) (x k : Nat), (∀ c ∈ l, 48 ≤ c ∧ c ≤ 57) → x < 10 ^ k → l.foldl (fun acc c => acc * 10 + (c - 48)) x < 10 ^ (k + l.length)
  | [], _, _, _, h => h
  | c :: l, x, k, hc, h => by
    rw [List.foldl_cons, List.length_cons, show k + (l.length + 1) = (k + 1) + l.length by omega]
    refine fold_lt l _ _ (fun d hd => hc d (List.mem_cons_of_mem _ hd)) ?_
    have := hc c List.mem_cons_self
    rw [Nat.pow_succ]
    omega
theorem slice_dig {a : List Nat} {i n : Nat} (h : n ≤ dg D10 a i) : ∀ c ∈ (a.drop i).take n, 48 ≤ c ∧ c ≤ 57 := by
  intro c hc
  obtain ⟨j, hj⟩ := List.mem_iff_getElem?.mp hc
  rw [List.getElem?_take] at hj
  by_cases hjn : j < n
  · rw [if_pos hjn, List.getElem?_drop] at hj
    obtain ⟨d, h1, h2⟩ := dg_in (b := D10) (a := a) (i := i) (j := j) (by omega)
    rw [hj] at h1
    rw [Option.some.inj h1]
    exact mem_D10 h2
  · rw [if_neg hjn] at hj
    cases hj
theorem dv_lt {a : List Nat} {i n : Nat} (h : n ≤ dg D10 a i) : dv10 a i n < 10 ^ n := by
  have := fold_lt ((a.drop i).take n) 0 0 (slice_dig h) (by decide)
  refine Nat.lt_of_lt_of_le this (Nat.pow_le_pow_right (by decide) ?_)
  rw [List.length_take]
  omega
theorem dv_int {a : List Nat} {i n : Nat} (h : n ≤ dg D10 a i) (h0 : 0 < n) (h12 : n ≤ 600) (hi : i + n ≤ a.length) : PySem.intText? (S ((a.drop i).take n)) = some ((dv10 a i n : Nat) : Int) := by
  have hl : ((a.drop i).take n).length = n := by
    rw [List.length_take, List.length_drop]
    omega
  refine PySem.intText_digits (x := S ((a.drop i).take n)) (slice_dig h) (fun e => ?_) ?_
  · have := congrArg List.length e
    rw [hl] at this
    simp at this
    omega
  · rw [S_len, hl]
    omega
end
section
open SX
theorem op_addS {X : Cx} : OpR X (binaryOp .Add) (fun x y H Q => ∃ a b : List Nat, x = .str (S a) ∧ y = .str (S b) ∧ a.length + b.length ≤ 100000 ∧ Q (.str (S (a ++ b))) H) := by
  intro pins s σ H x y v u Q I rx ry h
  obtain ⟨a, b, rfl, rfl, hz, q⟩ := h
  refine op_add_str pins s σ H _ _ v u Q I rx ry ⟨S a, S b, rfl, rfl, ?_, ?_⟩
  · rw [S_len, S_len, PySem.sizeLine_eq]
    omega
  · rw [S_cat]
    exact q
theorem lit_minus : ("-" : Str) = S [45] := by decide +kernel
theorem lit_slash : ("/" : Str) = S [47] := by decide +kernel
theorem lit_nil : ("" : Str) = S [] := by decide +kernel
theorem S_ne {a b : List Nat} (h : ¬ decide (V.str (S a) = V.str (S b)) = true) : a ≠ b := fun e => h (decide_eq_true (by rw [e]))
theorem S_eq {a b : List Nat} (h : decide (V.str (S a) = V.str (S b)) = true) : a = b := S_inj (V.str.inj (of_decide_eq_true h))
end

section
open SX
theorem tw_app {p : Nat → Bool} : ∀ {l r : List Nat}, (∀ c ∈ l, p c = true) → (∀ c, r.head? = some c → p c = false) → (l ++ r).takeWhile p = l
  | [], r, _, h => by
    cases r with
    | nil => rfl
    | cons c r =>
      rw [List.nil_append, List.takeWhile_cons, if_neg (by rw [h c rfl]; exact Bool.false_ne_true)]
  | c :: l, r, h1, h2 => by
    rw [List.cons_append, List.takeWhile_cons, if_pos (h1 c List.mem_cons_self), tw_app (fun d hd => h1 d (List.mem_cons_of_mem _ hd)) h2]
theorem numL_D10 (n : Nat) : ∀ c ∈ TL.numL n, decide (c ∈ D10) = true := fun c hc => decide_eq_true (D10_mem (TL.numL_digits n c hc))
/-- the digits of a number, behind what stands in front, up to what is no digit -/
theorem dg_num {p r : List Nat} {n : Nat} (hr : ∀ c, r.head? = some c → c ∉ D10) : dg D10 (p ++ (TL.numL n ++ r)) p.length = (TL.numL n).length := by
  unfold dg
  rw [List.drop_left, tw_app (numL_D10 n) fun c hc => decide_eq_false (hr c hc)]
theorem dv_num {p r : List Nat} {n : Nat} : dv10 (p ++ (TL.numL n ++ r)) p.length (TL.numL n).length = n := by
  unfold dv10
  rw [List.drop_left, List.take_left, TL.numL_val]
theorem num_head {n : Nat} {r : List Nat} : (TL.numL n ++ r)[0]? ≠ some 45 := by
  intro h
  cases e : TL.numL n with
  | nil => exact TL.numL_ne n e
  | cons c l =>
    rw [e] at h
    have hc := TL.numL_digits n c (by rw [e]; exact List.mem_cons_self)
    have : c = 45 := Option.some.inj h
    omega
theorem str_int (i : Int) : Str.ofString (toString i) = S ((if i < 0 then [45] else []) ++ TL.numL i.natAbs) := by
  cases i with
  | ofNat n =>
    rw [if_neg (show ¬ Int.ofNat n < 0 from Int.not_lt.mpr (Int.natCast_nonneg n))]
    exact num_S n
  | negSucc n =>
    rw [if_pos (Int.negSucc_lt_zero n)]
    have e : toString (Int.negSucc n) = "-" ++ toString (((n + 1 : Nat)) : Int) := rfl
    rw [e]
    refine TL.ext_tl ?_
    have h2 := congrArg (fun x : Str => x.cps.toList) (num_S (n + 1))
    show (Str.ofString ("-" ++ toString (((n + 1 : Nat)) : Int))).cps.toList = [45] ++ TL.numL (n + 1)
    rw [← (show _ = TL.numL (n + 1) from h2)]
    rw [PySem.Str.ofString_eq_toList, PySem.Str.ofString_eq_toList]
    show (("-" ++ toString (((n + 1 : Nat)) : Int)).toList.map Char.toNat) = [45] ++ ((toString (((n + 1 : Nat)) : Int)).toList.map Char.toNat)
    rw [String.toList_append, List.map_append]
    rfl
end

section
open PySem PySem.Spec PyProof.Rows PySem.Builtin PySem.Builtin.Str
section
variable {prog : Program} {w : World} {A : Around} {E : Value → Shared → Prop} {s : Shared}
/-- what a text joins of a list gone through from its end -/
theorem join_rev {g : Str} {tg : Tok} {ri la : Addr} {us : Array Value} {ys : List Str} {Q : Value → Shared → Prop} (hcalm : A.handled = none) (hri : s.heap.IsRevIter ri la ((us.size : Int) - 1)) (hla : s.heap.IsList la us) (hne : la ≠ ri) (hfew : us.size ≤ sizeLine)
    (hys : ∀ acc : Array Value, ItemsOf (fun i v => us[us.size - 1 - i]? = some v) acc us.size → StrsAre acc.toList ys) (hfit : (ys.map (·.length)).sum + ys.length * g.length ≤ 16777216)
    (hq : ∀ h' k t', (∀ b o, b ≠ ri → s.heap.get? b = some o → h'.get? b = some o) → Q (.str (Txt.join g ys) t') { s with heap := h', toks := k }) :
    wpAny (model prog w) A (call (.builtin "str.join") [.str g tg, .ref ri]) Q E s := by
  have chk := F.slot_str_join.check (M := model prog w)
  refine wpAny_call (codeAny_call_builtin F.slot_str_join.plain F.entry_str_join
    (chk _ _ _ _ _ _ _ (typeIs_str _ _ _) (F.args_str_join_2 _ _) ?_))
  rw [join_tree_other]
  refine wpAny_bind (wpAny_typeOf hri.typeIs ?_)
  show wpAny _ A.in1 ((pyIter (.ref ri)).tryCatch _ >>= fun u => collect u >>= fun row => joinTail g row) _ _ s
  refine wpAny_bind (wpAny_tryCatch (wpAny_pyIter_revIter hri ?_))
  have hc1 : A.in1.handled = none := hcalm
  refine wpAny_bind (RT.collect_rev hc1 hri hla hne hfew fun h' k acc hk hacc => ?_)
  obtain ⟨row, er, et⟩ := strsAre_values (hys acc hacc)
  subst et
  rw [er]
  have fit2 := joinOk_of hfit
  unfold JoinOk at fit2
  rw [Bool.not_eq_true'] at fit2
  have gv : Gives (joinTail g (strValues row)) (joinMade g row) := by
    have g1 := gives_joinTail g row fit2
    cases row with
    | nil => exact g1
    | cons p r =>
      cases r with
      | nil => exact g1
      | cons q r' => exact g1
  exact gv prog w A (wants Q E) _ (post_join row ⟨joinFit_length fit2, fun t' k2 => hq h' k2 t' hk⟩)
end
section
variable {X : Cx}
theorem strs_of : ∀ {us : List Value} {ys : List Str}, Vals (ys.map V.str) us → StrsAre us ys
  | [], [], _ => .nil
  | _ :: _, _ :: _, .cons r t => by
    obtain ⟨k, rfl⟩ := r
    exact .cons _ k (strs_of t)
/-- g.join(reversed(x)), x a list of texts -/
def tJoinRev (K : PySem.W.Frag) (to te : TE) : TE := fun σ H Q => to σ H fun x H1 => (∃ g, x = .str g) ∧ te σ H1 fun v H2 => ∃ (g : Str) (la : Addr) (ys : List Str),
  x = .str g ∧ v = .ref la ∧ SqL K H2 la (ys.map V.str) ∧ (ys.map (·.length)).sum + ys.length * g.length ≤ 16777216 ∧ Q (.str (Txt.join g ys.reverse)) H2
theorem pe_joinRev {o e : Expr} {to te : TE} {apos pos p2 pos2 : Pos} (hc : X.calm = true) (ho : PE X o to) (hg2 : Gl X "reversed") (hm2 : X.mg "reversed" = none) (he : PE X e te)
    (hs1 : starEach [.Call (.Name "reversed" p2) [e] [] pos2] X.env = [(false, eval (.Call (.Name "reversed" p2) [e] [] pos2) X.env)] := by rfl)
    (hs : starEach [e] X.env = (false, eval e X.env) :: starEach [] X.env := by rfl)
    (hbase : attributeBase o "join" X.env (eval o X.env) = eval o X.env := by rfl) (hline : (apos.endLine == pos.line) = true := by rfl) :
    PE X (.Call (.Attribute o "join" apos) [.Call (.Name "reversed" p2) [e] [] pos2] [] pos) (tJoinRev X.K to te) := by
  refine ⟨fun pins s σ H Q I h => ?_⟩
  refine PySem.Call_method1 hbase hs1 hline (thn (ho.run pins s σ H _ I h) fun v0 s1 ⟨x, H1, I1, r1, q1⟩ => ?_)
  obtain ⟨⟨g, rfl⟩, q1⟩ := q1
  obtain ⟨t, rfl⟩ := _root_.id r1
  refine ⟨"str", _, F.plainAttrs_str, F.slot_str_join, F.type_str_join, typeIs_str _ _ _, (fun _ e => nomatch e),
    Calls.callWith_builtin rfl (Calls.evalArgs_plain (Calls.spliced_cons ?_))⟩
  refine Call_ (ld_blt I1 hg2 hm2 PyProof.Rows.boot_reversed
    (PyProof.Rows.callWith_type1 (args_cons (thn (he.run pins s1 σ H1 _ I1 q1) fun u s2 ⟨v, H2, I2, r2, q2⟩ => args_nil ?_) hs) hs rfl))
  obtain ⟨g', la, ys, eg, ev, hq, hfit, q3⟩ := q2
  cases eg
  subst ev
  obtain rfl : u = Value.ref la := r2
  obtain ⟨us, rv, pl, hz⟩ := I2.list hq
  refine call_reversed_list pl.isList (Calls.spliced_nil ?_)
  have kp : ∀ b ob, s2.heap.get? b = some ob → (s2.heap.push (revObj la ((us.toArray.size : Int) - 1))).get? b = some ob := fun b ob z => Heap.get?_push_of_some _ z
  have I3 : Inv X pins σ H2 { s2 with heap := s2.heap.push (revObj la ((us.toArray.size : Int) - 1)) } := I2.kept (t' := s2.toks) kp
  obtain ⟨f0, f1, f2, f3, f4, f5⟩ := I2.fpOk (H' := H2) (b := s2.heap.objs.size) (Nat.le_refl _) (I2.hok.fresh (Nat.le_refl _))
  have hl := pl.isList
  obtain ⟨ol, hol, _⟩ := id hl
  have hne : la ≠ s2.heap.objs.size := Nat.ne_of_lt (Heap.lt_size hol)
  have hfew : us.toArray.size ≤ sizeLine := by
    rw [List.size_toArray, ← rv.length]
    exact hz
  refine join_rev (ys := ys.reverse) (s := { s2 with heap := s2.heap.push (revObj la ((us.toArray.size : Int) - 1)) }) (I2.ok.hd hc) ⟨_, Heap.get?_push_size _ rfl, rfl, rfl⟩ (hl.push _) hne hfew (fun acc hacc => ?_) ?_ (fun h' k t' hk => ?_)
  · have r4 := RT.vals_rev rv hacc
    rw [← List.map_reverse] at r4
    exact strs_of r4
  · rw [List.map_reverse, List.sum_reverse, List.length_reverse]
    exact hfit
  · exact ⟨.str _, H2, I3.turned (t' := k) (fun b ob hb z => hk b ob hb z) f0 f1 f3 f4 f5, ⟨t', rfl⟩, q3⟩
end
end

def Bz (n : Nat) (x : Int) : Prop := x.natAbs < 2 ^ n
theorem Bz.up {n m : Nat} {x : Int} (h : Bz n x) (hm : n ≤ m) : Bz m x := Nat.lt_of_lt_of_le h (Nat.pow_le_pow_right (by decide) hm)
theorem Bz.mul {n m : Nat} {x y : Int} (h : Bz n x) (h2 : Bz m y) : Bz (n + m) (x * y) := wide_lt h h2
theorem Bz.neg {n : Nat} {x : Int} (h : Bz n x) : Bz n (-x) := by
  unfold Bz
  rw [Int.natAbs_neg]
  exact h
theorem Bz.add {n m : Nat} {x y : Int} (h : Bz n x) (h2 : Bz m y) : Bz (max n m + 1) (x + y) := by
  have a1 := h.up (Nat.le_max_left n m)
  have a2 := h2.up (Nat.le_max_right n m)
  unfold Bz at *
  rw [Nat.pow_succ]
  have := Int.natAbs_add_le x y
  omega
theorem Bz.sub {n m : Nat} {x y : Int} (h : Bz n x) (h2 : Bz m y) : Bz (max n m + 1) (x - y) := h.add h2.neg
theorem Bz.wide {n m : Nat} {x y : Int} (h : Bz n x) (h2 : Bz m y) (hn : n + m ≤ 900000) : CMulW x y :=
  wide_mul (h.up (Nat.le_succ n)) (h2.up (Nat.le_succ m)) (Nat.succ_pos _) (Nat.succ_pos _) (by omega)
theorem Bd.nz {n : Nat} {r : Rat} (h : Bd n r) : Bz n r.num := h.1
theorem Bd.dz {n : Nat} {r : Rat} (h : Bd n r) : Bz n (r.den : Int) := h.2
theorem bz_of {n : Nat} {x : Int} (h : x.natAbs < 2 ^ n) : Bz n x := h
theorem bz_lt {n : Nat} {x : Int} {b : Nat} (hb : b ≤ 2 ^ n) (h : x.natAbs < b) : Bz n x := Nat.lt_of_lt_of_le h hb
theorem bd_div {n d : Int} {k : Nat} (hd : d ≠ 0) (h1 : Bz k n) (h2 : Bz k d) : Bd k (Rat.divInt n d) := bd_of hd h1 h2
theorem tn {n : Nat} (h : Nat.ble n 1000 = true) : n ≤ sizeLine := Nat.le_trans (Nat.le_of_ble_eq_true h) (by decide)
theorem same_hu {H H' : Hp} {p : Addr} {o : HO} (h : upd H p o = H') (n : H p = none) : Same H H' := h ▸ same_upd n
theorem at_hu {H H' : Hp} {p : Addr} {o : HO} (h : upd H p o = H') : H' p = some o := h ▸ upd_same
theorem same_tr {H H1 H2 : Hp} (h2 : Same H1 H2) (h1 : Same H H1) : Same H H2 := h1.trans h2
theorem fx_up {K : PySem.W.Frag} {H H' : Hp} {a : Addr} {r : Rat} (s : Same H H') (h : Fx K H a r) : Fx K H' a r := h.same s
theorem vx_up {K : PySem.W.Frag} {H H' : Hp} {a : Addr} {r : Rat} {ss : List Rat} (s : Same H H') (h : Vx K H a r ss) : Vx K H' a r ss := h.same s
theorem seq_up {K : PySem.W.Frag} {H H' : Hp} {a : Addr} {xs : List V} (s : Same H H') (h : SqL K H a xs) : SqL K H' a xs := s.seq h
local macro_rules | `(tactic| walk_at "ss") => `(tactic| first | exact Same.refl _ | assumption | exact same_tr (by assumption) (by walk_at "ss"))
local macro_rules | `(tactic| walk_at "bz") => `(tactic| first | assumption | exact Bd.nz (by assumption) | exact Bd.dz (by assumption) | exact Bz.mul (by walk_at "bz") (by walk_at "bz") | exact Bz.add (by walk_at "bz") (by walk_at "bz") | exact Bz.sub (by walk_at "bz") (by walk_at "bz") | exact Bz.neg (by walk_at "bz") | exact bz_of (n := 1) (by decide) | exact bz_of (n := 4) (by decide)| exact bz_of (n := 8) (by decide)| exact bz_of (n := 20) (by decide))
local macro_rules | `(tactic| walk_at "sm0") => `(tactic| assumption)
local macro_rules | `(tactic| walk_at "sm1") => `(tactic| first | assumption | exact same_tup (by assumption) (by walk_at "sm0"))
local macro_rules | `(tactic| walk_at "sm2") => `(tactic| first | assumption | exact same_tup (by assumption) (by walk_at "sm1"))
local macro_rules | `(tactic| walk_at "sm3") => `(tactic| first | assumption | exact same_tup (by assumption) (by walk_at "sm2"))
local macro_rules | `(tactic| walk_at "sm4") => `(tactic| first | assumption | exact same_tup (by assumption) (by walk_at "sm3"))
local macro_rules | `(tactic| walk_at "sm5") => `(tactic| first | assumption | exact same_tup (by assumption) (by walk_at "sm4"))
local macro_rules | `(tactic| walk_at "sm6") => `(tactic| first | assumption | exact same_tup (by assumption) (by walk_at "sm5"))
local macro_rules | `(tactic| walk_at "sm7") => `(tactic| first | assumption | exact same_tup (by assumption) (by walk_at "sm6"))
local macro_rules | `(tactic| walk_at "sm") => `(tactic| walk_at "sm7")
local macro_rules | `(tactic| walk_at "sf0") => `(tactic| assumption)
local macro_rules | `(tactic| walk_at "sf1") => `(tactic| first | assumption | exact fx_up (by assumption) (by walk_at "sf0") | exact vx_up (by assumption) (by walk_at "sf0") | exact seq_up (by assumption) (by walk_at "sf0"))
local macro_rules | `(tactic| walk_at "sf2") => `(tactic| first | assumption | exact fx_up (by assumption) (by walk_at "sf1") | exact vx_up (by assumption) (by walk_at "sf1") | exact seq_up (by assumption) (by walk_at "sf1"))
local macro_rules | `(tactic| walk_at "sf3") => `(tactic| first | assumption | exact fx_up (by assumption) (by walk_at "sf2") | exact vx_up (by assumption) (by walk_at "sf2") | exact seq_up (by assumption) (by walk_at "sf2"))
local macro_rules | `(tactic| walk_at "sf4") => `(tactic| first | assumption | exact fx_up (by assumption) (by walk_at "sf3") | exact vx_up (by assumption) (by walk_at "sf3") | exact seq_up (by assumption) (by walk_at "sf3"))
local macro_rules | `(tactic| walk_at "sf5") => `(tactic| first | assumption | exact fx_up (by assumption) (by walk_at "sf4") | exact vx_up (by assumption) (by walk_at "sf4") | exact seq_up (by assumption) (by walk_at "sf4"))
local macro_rules | `(tactic| walk_at "sf6") => `(tactic| first | assumption | exact fx_up (by assumption) (by walk_at "sf5") | exact vx_up (by assumption) (by walk_at "sf5") | exact seq_up (by assumption) (by walk_at "sf5"))
local macro_rules | `(tactic| walk_at "sf7") => `(tactic| first | assumption | exact fx_up (by assumption) (by walk_at "sf6") | exact vx_up (by assumption) (by walk_at "sf6") | exact seq_up (by assumption) (by walk_at "sf6"))
local macro_rules | `(tactic| walk_at "sf") => `(tactic| walk_at "sf7")
local macro_rules | `(tactic| walk_at "go") => `(tactic| repeat (first | refine ⟨_, rfl, ?_⟩ | refine ⟨rfl, ?_⟩ | refine ⟨_, _, rfl, rfl, ?_⟩ | refine ⟨Bz.wide (by walk_at "bz") (by walk_at "bz") (by decide), ?_⟩ | refine ⟨_, _, _, _, rfl, rfl, (by walk_at "sm"), atI_nat (j := 0) (by rfl), ?_⟩ | refine ⟨_, _, _, _, rfl, rfl, (by walk_at "sm"), atI_nat (j := 1) (by rfl), ?_⟩ | refine ⟨_, _, _, _, rfl, rfl, (by walk_at "sm"), atI_nat (j := 2) (by rfl), ?_⟩ | refine ⟨_, _, _, _, rfl, rfl, (by walk_at "sm"), atI_nat (j := 3) (by rfl), ?_⟩ | refine ⟨_, _, rfl, (by walk_at "sm"), (by rfl), ?_⟩ | refine ⟨⟨by decide, by decide⟩, ?_⟩ | refine ⟨(by show (0 : Int) < _; decide), ?_⟩ | refine ⟨Or.inr ⟨by decide, by decide⟩, ?_⟩ | refine ⟨Or.inl ⟨by decide, by decide⟩, ?_⟩ | refine Or.inl ⟨_, rfl, ?_⟩ | refine And.intro (by assumption) ?_ | refine ⟨_, _, rfl, ?_⟩))
/-- a comprehension whose elements are things of a kind R that stands while nothing but the new list changes -/
theorem lc_obj {J : It} {n : Nat} {G : Hp → Prop} {Y : Nat → Hp → V → Hp → Prop} (w : Walk J n G Y) (R : Nat → Hp → V → Prop)
    (stab : ∀ {i H H' v D acc}, R i H v → H D = some (.lst acc) → (∀ b o, b ≠ D → H b = some o → H' b = some o) → R i H' v) (hz : n ≤ 1000)
    {g : TG} {te : TE} {vs : List Nat} {σ : L2.St} {H1 : Hp} {D : Addr} {Qd : Hp → Prop} (hD : H1 D = none) (hG : ∀ H, Same H1 H → G H)
    (hs : ∀ i x H H' (k : V → Hp → Prop), i < n → Same H1 H → Y i H x H' → (∀ v H4, Same H H4 → R i H4 v → k v H4) → g x (wipe σ vs) H' fun σ2 H2 => wipe σ2 vs = wipe σ vs ∧ te σ2 H2 k)
    (hd : ∀ H us, Same H1 H → H D = some (.lst us) → us.length = n → (∀ i v, us[i]? = some v → R i H v) → Qd H) :
    ∃ W : Nat → Nat → Hp → Prop, (∃ m, W 0 m (upd H1 D (.lst []))) ∧ ∀ i m H, W i m H →
      (J.stop i H ∧ Qd H) ∨ (J.go i H ∧ ∃ Nx : Hp → Prop, (∀ H', Nx H' → ∃ m', m' < m ∧ W (i + 1) m' H') ∧ ∀ x H', J.yld i H x H' → g x (wipe σ vs) H' fun σ2 H2 => wipe σ2 vs = wipe σ vs ∧ tYes σ2 H2 fun b H3 =>
        if b = true then te σ2 H3 fun y H4 => ∃ acc, H4 D = some (.lst acc) ∧ acc.length < sizeLine ∧ Nx (upd H4 D (.lst (acc ++ [y]))) else Nx H3) := by
  refine lc_it w (fun i H => Same H1 H ∧ ∃ us, H D = some (.lst us) ∧ us.length = i ∧ ∀ j v, us[j]? = some v → R j H v) ⟨same_upd hD, [], upd_same, rfl, (fun j v h => by simp at h)⟩ (fun i H _ h => hG H h.1) ?_ ?_
  · rintro i x H H' hi ⟨s1, us, e1, l1, r1⟩ y
    have q := hs i x H H' (fun y H4 => ∃ acc, H4 D = some (.lst acc) ∧ acc.length < sizeLine ∧ (fun H => Same H1 H ∧ ∃ us, H D = some (.lst us) ∧ us.length = i + 1 ∧ ∀ j v, us[j]? = some v → R j H v) (upd H4 D (.lst (acc ++ [y])))) hi s1 y (fun v H4 s4 f4 => ?_)
    · refine Eq.mp (congrArg (g x (wipe σ vs) H') ?_) q
      funext σ2 H2
      simp [tYes]
    · have e4 := s4 _ _ e1
      refine ⟨us, e4, small1000 (by omega), fun b o e => ?_, us ++ [v], upd_same, by rw [List.length_append, l1]; rfl, fun j u hu => ?_⟩
      · rw [upd_ne (ne_of_none e hD)]
        exact s4 _ _ (s1 _ _ e)
      · by_cases hj : j < i
        · rw [List.getElem?_append_left (by omega)] at hu
          have hf := stab (r1 j u hu) e1 (fun b o _ e => s4 b o e)
          exact stab hf e4 fun b o hb e => by rw [upd_ne hb]; exact e
        · have hj2 : j < (us ++ [v]).length := (List.getElem?_eq_some_iff.mp hu).1
          rw [List.length_append, l1] at hj2
          have hj3 : j = i := by
            simp at hj2
            omega
          subst hj3
          rw [List.getElem?_append_right (by omega), l1, Nat.sub_self] at hu
          obtain rfl : v = u := Option.some.inj hu
          exact stab f4 e4 fun b o hb e => by rw [upd_ne hb]; exact e
  · rintro H ⟨s1, us, e1, l1, r1⟩
    exact hd H us s1 e1 l1 r1
theorem over_fx {K : PySem.W.Frag} {H H' : Hp} {t D : Addr} {r : Rat} {ys : List V} (h : Fx K H t r) (hl : H D = some (.lst ys)) (s : ∀ b o, b ≠ D → H b = some o → H' b = some o) : Fx K H' t r := over_tup h hl s
theorem over_vx {K : PySem.W.Frag} {H H' : Hp} {t D : Addr} {b : Rat} {ss : List Rat} {ys : List V} (h : Vx K H t b ss) (hl : H D = some (.lst ys)) (s : ∀ b o, b ≠ D → H b = some o → H' b = some o) : Vx K H' t b ss := by
  obtain ⟨p, q, ws, h1, h2, h3, h4, h5⟩ := h
  exact ⟨p, q, ws, over_tup h1 hl s, over_tup h2 hl s, over_tup h3 hl s, fun w hw => over_tup (h4 w hw) hl s, h5⟩

section
open PySem PySem.Spec PySem.Calls PyProof.Rows PySem.W
/-- a list taken apart, one of the targets with a star -/
theorem tp_parts {prog : Program} {w : World} {A : Around} {E : Value → Shared → Prop} {s : Shared} {a : Addr} {its : Array Value} {n i : Nat} {Q : List Value → Shared → Prop} (hl : s.heap.IsList a its) (hh : A.handled = none) (hi : i < n) (hn : n ≤ its.size + 1) (hz : its.size ≤ 16384)
    (h : ∀ (h' : Heap) tk, (∀ b o, s.heap.get? b = some o → h'.get? b = some o) → Q (its.toList.take i ++ [.ref h'.objs.size] ++ (its.toList.drop i).drop (its.size + 1 - n)) { s with heap := h'.push { cls := .type "list", data := .seq ((its.toList.drop i).take (its.size + 1 - n)).toArray }, toks := tk }) :
    wpAny (model prog w) A (unpackItems (.ref a) n (some i)) Q E s := by
  have far : a ≠ s.heap.objs.size := by
    obtain ⟨o, ho, _⟩ := hl
    exact Nat.ne_of_lt (Heap.lt_size ho)
  unfold unpackItems
  refine wpAny_bind ?_
  unfold notIterableAtAll
  refine wpAny_bind (wpAny_specialOf hl.typeIs slot_list_iter.lookup ?_)
  refine wpAny_pure ?_
  simp only [Bool.false_eq_true, if_false]
  refine wpAny_bind (wpAny_holding (wpAny_pyIter_list hl ?_))
  refine wpAny_bind (wpAny_holding (kun_draw far i 0 _ _ ⟨_, Heap.get?_push_size _ rfl, rfl, rfl⟩ (hl.push _) (by omega) fun h1 it1 sb => ?_))
  have l1 : h1.IsList a its := (hl.push _).extBut sb.extBut far
  rw [Nat.zero_add] at it1
  obtain ⟨oi, hoi, _⟩ := id it1
  obtain ⟨ol, hol, _⟩ := id l1
  rw [List.drop_zero]
  have f1 : (its.toList.take i).length = i := by
    rw [List.length_take, Array.length_toList]
    omega
  rw [if_neg (by rw [f1]; exact Nat.lt_irrefl _)]
  refine wpAny_bind (wpAny_holding (kun_collect (s := { s with heap := h1 }) (T := "list_iterator") (.inr (.inr (.inl rfl))) (Walks.list (A := A.in1) hh s.heap.objs.size a far its) (fun j u st => st.1.typeIs) (k := i) (by omega) ⟨it1, l1⟩ (Heap.lt_size hoi) (Heap.lt_size hol) (fun h2 tk hk => ?_) (by rw [sizeLine_eq]; exact Nat.le_trans hz (by decide))))
  have f2 : (its.toList.drop i).length = its.size - i := by
    rw [List.length_drop, Array.length_toList]
  have f3 : (its.toList.drop i).length - (n - 1 - i) = its.size + 1 - n := by
    rw [f2]
    omega
  show wpAny _ _ (if (its.toList.drop i).length < n - 1 - i then _ else _) _ _ _
  rw [if_neg (by rw [f2]; omega)]
  show wpAny _ _ (newList ((its.toList.drop i).take ((its.toList.drop i).length - (n - 1 - i))) >>= fun d => pure (its.toList.take i ++ [d] ++ (its.toList.drop i).drop ((its.toList.drop i).length - (n - 1 - i)))) _ _ _
  rw [f3]
  have old : ∀ b o, s.heap.get? b = some o → h2.get? b = some o := fun b o e => by
    have nb : b ≠ s.heap.objs.size := Nat.ne_of_lt (Heap.lt_size e)
    exact hk b o nb (sb.extBut b o nb (Heap.get?_push_of_some _ e))
  refine wpAny_bind (PySem.wpAny_newList (wpAny_pure (h h2 tk old)) ?_)
  rw [List.length_take, f2, sizeLine_eq]
  omega
end
section
open PySem PySem.Spec PyProof.Rows
variable {X : Cx} {pos : Pos}
theorem vals_take {vs : List V} {us : List Value} (r : Vals vs us) (n : Nat) : Vals (vs.take n) (us.take n) := by
  induction r generalizing n with
  | nil =>
    rw [List.take_nil, List.take_nil]
    exact .nil
  | cons h t ih =>
    cases n with
    | zero => exact .nil
    | succ n => exact .cons h (ih n)
theorem vals_drop {vs : List V} {us : List Value} (r : Vals vs us) (n : Nat) : Vals (vs.drop n) (us.drop n) := by
  induction r generalizing n with
  | nil =>
    rw [List.drop_nil, List.drop_nil]
    exact .nil
  | cons h t ih =>
    cases n with
    | zero => exact .cons h t
    | succ n => exact ih n
theorem vals_app {vs ws : List V} {us ys : List Value} (r : Vals vs us) (q : Vals ws ys) : Vals (vs ++ ws) (us ++ ys) := by
  induction r with
  | nil => exact q
  | cons h t ih => exact .cons h ih
theorem pgs_star {e : Expr} {p : Pos} {es : List Expr} {t : TG} {u : TGs} (h1 : PG X e t) (h2 : PGs X es u)
    (hs : (assignEach (.Starred e p :: es) X.env).map (·.2) = assign e X.env :: (assignEach es X.env).map (·.2) := by rfl) : PGs X (.Starred e p :: es) (gCons t u) := by
  refine ⟨fun pins s σ H vs us Q I r h => ?_⟩
  obtain ⟨v, vr, e1, h⟩ := h
  subst e1
  cases r with
  | cons r rr =>
    rw [hs]
    refine assignInOrder_cons (thn (h1.run pins s σ H _ _ _ I r h) fun _ s1 ⟨σ1, H1, I1, q1⟩ => ?_)
    exact h2.run pins s1 σ1 H1 _ _ Q I1 rr q1
/-- (a, *b, ..) = a list, the star at place i of n -/
def gStar (K : PySem.W.Frag) (n i : Nat) (t : TGs) : TG := fun v σ H Q => ∃ a xs, v = .ref a ∧ SqL K H a xs ∧ n ≤ xs.length + 1 ∧ xs.length ≤ 16384 ∧
  ∀ D, H D = none → t (xs.take i ++ [.ref D] ++ (xs.drop i).drop (xs.length + 1 - n)) σ (upd H D (.lst ((xs.drop i).take (xs.length + 1 - n)))) Q
theorem pg_star {es : List Expr} {k : Nat} {t : TGs} {n i : Nat} (hc : X.calm = true) (h : PGs X es t)
    (hn : (assignEach es X.env).length = n := by rfl) (hst : (assignEach es X.env).findIdx? (·.1) = some i := by rfl) (hi : i < n := by decide) : PG X (.Tuple es k pos) (gStar X.K n i t) := by
  refine ⟨fun pins s σ H v u Q I r hw => ?_⟩
  obtain ⟨a, xs, e1, hq, hl, hm, hw⟩ := hw
  subst e1
  cases r
  obtain ⟨its, rv, pl, hz⟩ := I.list hq
  have hlen := rv.length
  have hl' : s.heap.IsList a its.toArray := pl.isList
  rw [PyProof.Rows.assign_Tuple]
  refine wpAny_bind (wpAny_standAt ?_)
  unfold unpack
  rw [hn, hst]
  refine wpAny_bind (wpAny_holding (tp_parts hl' (I.ok.hd hc) hi (by rw [List.size_toArray]; omega) (by rw [List.size_toArray]; omega) fun h' tk hx => ?_))
  have I1 : Inv X pins σ H { s with heap := h', toks := tk } := I.kept (t' := tk) hx
  have ez : its.toArray.size = xs.length := by rw [List.size_toArray, hlen]
  rw [ez, show its.toArray.toList = its from rfl]
  have I2 := I1.laid (a := h'.objs.size) (o := .lst ((xs.drop i).take (xs.length + 1 - n))) (h' := h'.push { cls := .type "list", data := .seq ((its.drop i).take (xs.length + 1 - n)).toArray }) (t' := tk) (fun b o e => Heap.get?_push_of_some _ e) (Nat.le_refl _)
    ⟨by
      rw [List.length_take, List.length_drop, PySem.sizeLine_eq]
      omega, _, 0, vals_take (vals_drop rv i) _, Heap.get?_push_size _ rfl⟩
  refine h.run pins _ σ _ _ _ Q I2 ?_ (hw _ (I1.hok.fresh (Nat.le_refl _)))
  exact vals_app (vals_app (vals_take rv i) (.cons rfl .nil)) (vals_drop (vals_drop rv i) _)
end

section
open SX
/-- small letters; letters and digits -/
def SLl : List Nat := [97, 98, 99, 100, 101, 102, 103, 104, 105, 106, 107, 108, 109, 110, 111, 112, 113, 114, 115, 116, 117, 118, 119, 120, 121, 122]
def CLl : List Nat := [65, 66, 67, 68, 69, 70, 71, 72, 73, 74, 75, 76, 77, 78, 79, 80, 81, 82, 83, 84, 85, 86, 87, 88, 89, 90]
def LDl : List Nat := SLl ++ CLl ++ D10
theorem SL_S : ("abcdefghijklmnopqrstuvwxyz" : Str) = S SLl := by decide +kernel
theorem LD_S : ("abcdefghijklmnopqrstuvwxyzABCDEFGHIJKLMNOPQRSTUVWXYZ0123456789" : Str) = S LDl := by decide +kernel
theorem dot_S : ("." : Str) = S [46] := by decide +kernel
theorem zero_S : ("0" : Str) = S [48] := by decide +kernel
theorem tw_all {p : Nat → Bool} : ∀ l : List Nat, ((l.takeWhile p).length = l.length ↔ l.all p = true)
  | [] => by simp
  | c :: l => by
    rw [List.takeWhile_cons, List.all_cons]
    have ih := tw_all (p := p) l
    by_cases hc : p c = true
    · rw [if_pos hc, hc, Bool.true_and, List.length_cons, List.length_cons]
      constructor
      · intro h
        exact ih.mp (by omega)
      · intro h
        rw [ih.mpr h]
    · rw [if_neg hc]
      simp [hc]
def allIn (b a : List Nat) : Bool := a.all fun c => decide (c ∈ b)
theorem dg_all {b a : List Nat} : dg b a 0 = a.length ↔ allIn b a = true := by
  unfold dg allIn
  rw [List.drop_zero]
  exact tw_all a
def isRow (b a : List Nat) : Bool := decide (0 < a.length) && allIn b a
def shortW (f b a : List Nat) : Bool := isRow b a && (decide (a.length ≤ 16) && (match a.head? with | some c => decide (c ∈ f) | none => false))
def plainN (m : Nat) (a : List Nat) : Bool := isRow D10 a && (decide (a.length ≤ m) && (decide (a = [48]) || (match a.head? with | some c => decide (c ≠ 48) | none => false)))
theorem isRow_ne {b a : List Nat} (h : isRow b a = true) : ∃ c r, a = c :: r := by
  unfold isRow at h
  cases a with
  | nil => simp at h
  | cons c r => exact ⟨c, r, rfl⟩
/-- the parts between points -/
def sp (a : List Nat) : List (List Nat) := TL.spl [46] 0 [] a
theorem spl_ne (b : List Nat) : ∀ (l acc : List Nat), TL.spl [46] 0 acc l ≠ []
  | [], acc => by
    rw [TL.spl_nil]
    exact List.cons_ne_nil _ _
  | c :: r, acc => by
    cases h : TL.pre [46] (c :: r) with
    | true =>
      rw [TL.spl_hit h]
      exact List.cons_ne_nil _ _
    | false =>
      rw [TL.spl_miss h]
      exact spl_ne b r _
theorem sp_ne (a : List Nat) : sp a ≠ [] := spl_ne [] a []
theorem split_sp (a : List Nat) : Txt.split (S a) (S [46]) = (sp a).map S := split_S (by decide) (by decide)
theorem join_spl : ∀ (l acc : List Nat), TL.joinL [46] (TL.spl [46] 0 acc l) = acc ++ l
  | [], acc => by
    rw [TL.spl_nil, List.append_nil]
    rfl
  | c :: r, acc => by
    cases h : TL.pre [46] (c :: r) with
    | true =>
      have hc : c = 46 := by
        have h' : ([c] == [46]) = true := h
        injection eq_of_beq h'
      rw [TL.spl_hit h]
      show TL.joinL [46] (acc :: TL.spl [46] 0 [] r) = _
      have ih := join_spl r []
      have hne := spl_ne [] r []
      cases e : TL.spl [46] 0 [] r with
      | nil => exact absurd e hne
      | cons p q =>
        rw [e] at ih
        show acc ++ ([46] ++ TL.joinL [46] (p :: q)) = _
        rw [ih, hc]
        rfl
    | false =>
      rw [TL.spl_miss h, join_spl r]
      simp
theorem join_sp (a : List Nat) : TL.joinL [46] (sp a) = a := join_spl a []
theorem join_len : ∀ l : List (List Nat), (∀ p ∈ l, p.length ≤ (TL.joinL [46] l).length) ∧ l.length ≤ (TL.joinL [46] l).length + 1
  | [] => ⟨(fun _ h => nomatch h), Nat.zero_le _⟩
  | [p] => by
    refine ⟨fun q h => ?_, ?_⟩
    · rw [List.mem_singleton.mp h]
      exact Nat.le_refl _
    · show 1 ≤ _
      omega
  | p :: q :: r => by
    obtain ⟨h1, h2⟩ := join_len (q :: r)
    have e : TL.joinL [46] (p :: q :: r) = p ++ ([46] ++ TL.joinL [46] (q :: r)) := rfl
    rw [e, List.length_append, List.length_append]
    refine ⟨fun x hx => ?_, ?_⟩
    · rcases List.mem_cons.mp hx with rfl | hx
      · omega
      · have := h1 x hx
        omega
    · rw [List.length_cons]
      show (q :: r).length + 1 ≤ p.length + (1 + _) + 1
      omega
theorem sp_len (a : List Nat) : (∀ p ∈ sp a, p.length ≤ a.length) ∧ (sp a).length ≤ a.length + 1 := by
  have h := join_len (sp a)
  rw [join_sp] at h
  exact h
theorem snoc_of {α : Type} {l : List α} (h : l ≠ []) : ∃ i x, l = i ++ [x] := ⟨l.dropLast, l.getLast h, (List.dropLast_concat_getLast h).symm⟩
/-- what an origin tells: its number, its occurrences, its name -/
def rdo (a : List Nat) : Option (Nat × List Nat × List Nat) :=
  match (sp a).getLast?, (sp a).dropLast with
  | some nm, n :: ks => if (shortW SLl LDl nm && decide (ks.length ≤ 12) && (n :: ks).all (plainN 6) && decide ([48] ∉ ks)) = true then some (NumText.digitsVal n, ks.map NumText.digitsVal, nm) else none
  | _, _ => none
theorem numL_head {n : Nat} (h : 1 ≤ n) : (TL.numL n).head? ≠ some 48 := by
  induction n using Nat.strongRecOn with
  | _ n ih =>
    rcases Nat.lt_or_ge n 10 with g | g
    · rw [TL.numL_lt g]
      intro e
      have : 48 + n = 48 := Option.some.inj e
      omega
    · rw [TL.numL_step g]
      have h2 := ih (n / 10) (by omega) (by omega)
      cases e : TL.numL (n / 10) with
      | nil => exact absurd e (TL.numL_ne _)
      | cons c r =>
        rw [e] at h2
        exact h2
theorem numL_plain {n : Nat} (h : n < 10 ^ 6) : plainN 6 (TL.numL n) = true := by
  unfold plainN isRow allIn
  have l1 := TL.numL_len (k := 6) (by decide) h
  have hne := TL.numL_ne n
  have hall : (TL.numL n).all (fun c => decide (c ∈ D10)) = true := List.all_eq_true.mpr fun c hc => decide_eq_true (D10_mem (TL.numL_digits n c hc))
  have pos : 0 < (TL.numL n).length := List.length_pos_iff.mpr hne
  rw [hall]
  rcases Nat.eq_zero_or_pos n with rfl | hp
  · decide
  · have hh := numL_head hp
    cases e : TL.numL n with
    | nil => exact absurd e hne
    | cons c r =>
      rw [e] at hh l1 pos
      have hc : c ≠ 48 := fun z => hh (by rw [z]; rfl)
      simp [hc] at *
      omega
end
section
open SX
def sv (l : List Nat) : V := .str (S l)
def okO (init : List (List Nat)) (nm : List Nat) : Option (Nat × List Nat × List Nat) :=
  match init with
  | [] => none
  | n :: ks => if (shortW SLl LDl nm && decide (ks.length ≤ 12) && (n :: ks).all (plainN 6) && decide ([48] ∉ ks)) = true then some (NumText.digitsVal n, ks.map NumText.digitsVal, nm) else none
theorem rdo_eq {a : List Nat} {i : List (List Nat)} {x : List Nat} (h : sp a = i ++ [x]) : rdo a = okO i x := by
  unfold rdo okO
  rw [h]
  simp
  cases i <;> rfl
theorem star_mid {ys : List V} {y : V} : (((ys ++ [y]).drop 0).take ((ys ++ [y]).length + 1 - 2)) = ys := by
  rw [List.drop_zero, List.length_append, show ys.length + [y].length + 1 - 2 = ys.length from by show ys.length + 1 + 1 - 2 = _; omega, List.take_left]
theorem star_all {ys : List V} {y d : V} : ((ys ++ [y]).take 0 ++ [d] ++ ((ys ++ [y]).drop 0).drop ((ys ++ [y]).length + 1 - 2)) = [d, y] := by
  rw [List.drop_zero, List.length_append, show ys.length + [y].length + 1 - 2 = ys.length from by show ys.length + 1 + 1 - 2 = _; omega, List.drop_left]
  rfl
/-- an origin, as it is told -/
def Ot (K : PySem.W.Frag) (H : Hp) (t : Addr) (n : Nat) (ks : List Nat) (nm : List Nat) : Prop := ∃ q : Addr, SqT K H t [.int (n : Int), .ref q, .str (S nm)] ∧ SqT K H q (ks.map fun k => V.int (k : Nat))
theorem plainN_int {m : Nat} {a : List Nat} (hm : m ≤ 600) (h : plainN m a = true) : PySem.intText? (S a) = some ((NumText.digitsVal a : Nat) : Int) ∧ (S a).length ≤ 640 := by
  unfold plainN isRow allIn at h
  simp only [Bool.and_eq_true, decide_eq_true_eq] at h
  obtain ⟨⟨h0, h1⟩, h2, _⟩ := h
  refine ⟨PySem.intText_digits (x := S a) (fun c hc => mem_D10 (of_decide_eq_true (List.all_eq_true.mp h1 c hc))) (fun e => ?_) ?_, ?_⟩
  · have e' : a = [] := e
    rw [e'] at h0
    exact absurd h0 (by decide)
  · rw [S_len]
    omega
  · rw [S_len]
    omega
end
section
open SX
theorem cut_tail {x : V} {xs : List V} : cutV (x :: xs) (some 1) none = xs := by
  unfold cutV
  have e : HT.sIx (x :: xs).length 0 (some 1) = 1 := by
    rw [show (some 1 : Option Int) = some ((1 : Nat) : Int) from rfl, HT.sIx_nat, List.length_cons]
    omega
  rw [e, HT.sIx_none]
  rw [List.drop_succ_cons, List.drop_zero, List.length_cons, Nat.add_sub_cancel, List.take_length]
theorem inV_zero (ks : List (List Nat)) : inV (.str (S [48])) (ks.map sv) = decide ([48] ∈ ks) := by
  unfold inV
  induction ks with
  | nil => rfl
  | cons k ks ih =>
    rw [List.map_cons, List.any_cons, ih]
    have e : eqV (sv k) (.str (S [48])) = decide (k = [48]) := by
      show (S k == S [48]) = _
      rw [S_beq_eq]
    rw [e]
    by_cases h : k = [48]
    · subst h
      simp
    · have h2 : ¬ [48] = k := fun z => h z.symm
      simp [h, h2]
theorem flat_sv (ks : List (List Nat)) : (ks.map sv).all flatV = true := by
  induction ks with
  | nil => rfl
  | cons k ks ih =>
    rw [List.map_cons, List.all_cons, ih]
    rfl
theorem all_id {α : Type} (f : α → Bool) (l : List α) : (l.map f).all id = l.all f := by
  rw [List.all_map]
  rfl
theorem okO_ok {n nm : List Nat} {ks : List (List Nat)} (h1 : shortW SLl LDl nm = true) (h2 : ks.length ≤ 12) (h3 : (n :: ks).all (plainN 6) = true) (h4 : [48] ∉ ks) : okO (n :: ks) nm = some (NumText.digitsVal n, ks.map NumText.digitsVal, nm) := by
  unfold okO
  simp only [h1, h3, decide_eq_true h2, decide_eq_true h4, Bool.and_self, if_true]
theorem okO_bad3 {n nm : List Nat} {ks : List (List Nat)} (h3 : (n :: ks).all (plainN 6) = false) : okO (n :: ks) nm = none := by
  unfold okO
  simp only [h3, Bool.and_false, Bool.false_and]
  rfl
theorem okO_bad4 {n nm : List Nat} {ks : List (List Nat)} (h4 : [48] ∈ ks) : okO (n :: ks) nm = none := by
  unfold okO
  simp only [decide_eq_false (show ¬ ([48] ∉ ks) from fun h => h h4), Bool.and_false]
  rfl
theorem st_take {x : V} {xs : List V} {d : V} : ((x :: xs).take 1 ++ [d] ++ ((x :: xs).drop 1).drop ((x :: xs).length + 1 - 2)) = [x, d] := by
  rw [List.drop_succ_cons, List.drop_zero, List.length_cons, show xs.length + 1 + 1 - 2 = xs.length by omega, List.drop_length]
  rfl
theorem st_mid {x : V} {xs : List V} : (((x :: xs).drop 1).take ((x :: xs).length + 1 - 2)) = xs := by
  rw [List.drop_succ_cons, List.drop_zero, List.length_cons, show xs.length + 1 + 1 - 2 = xs.length by omega, List.take_length]
end
section
open SX
/-- the text of an origin -/
def otl (n : Nat) (ks : List Nat) (nm : List Nat) : List Nat := TL.joinL [46] ((n :: ks).map TL.numL ++ [nm])
theorem joinL_len {m : Nat} : ∀ l : List (List Nat), (∀ p ∈ l, p.length ≤ m) → (TL.joinL [46] l).length ≤ l.length * (m + 1)
  | [], _ => Nat.zero_le _
  | [p], h => by
    have := h p List.mem_cons_self
    show p.length ≤ 1 * (m + 1)
    omega
  | p :: q :: r, h => by
    have h1 := h p List.mem_cons_self
    have h2 := joinL_len (q :: r) (fun x hx => h x (List.mem_cons_of_mem _ hx))
    have e : TL.joinL [46] (p :: q :: r) = p ++ ([46] ++ TL.joinL [46] (q :: r)) := rfl
    rw [e, List.length_append, List.length_append, List.length_cons (as := q :: r), Nat.add_mul]
    show p.length + (1 + _) ≤ _
    omega
theorem sum_lens {m : Nat} : ∀ l : List (List Nat), (∀ p ∈ l, p.length ≤ m) → ((l.map S).map (·.length)).sum ≤ l.length * m
  | [], _ => Nat.zero_le _
  | p :: r, h => by
    have h1 := h p List.mem_cons_self
    have h2 := sum_lens r (fun x hx => h x (List.mem_cons_of_mem _ hx))
    rw [List.map_cons, List.map_cons, List.sum_cons, S_len, List.length_cons, Nat.add_mul]
    omega
end
section
open SX
theorem cut_mid {x y : V} {xs : List V} : cutV (x :: (xs ++ [y])) (some 1) (some (-1)) = xs := by
  have e1 : HT.sIx (x :: (xs ++ [y])).length 0 (some 1) = 1 := by
    rw [show (some 1 : Option Int) = some ((1 : Nat) : Int) from rfl, HT.sIx_nat, List.length_cons]
    omega
  have e2 : HT.sIx (x :: (xs ++ [y])).length (x :: (xs ++ [y])).length (some (-1)) = xs.length + 1 := by
    show (if (-1 : Int) < 0 then ((-1 : Int) + ((x :: (xs ++ [y])).length : Int)).toNat else min (-1 : Int).toNat (x :: (xs ++ [y])).length) = _
    rw [if_pos (by decide), List.length_cons, List.length_append]
    show ((-1 : Int) + ((xs.length + 1 + 1 : Nat) : Int)).toNat = _
    omega
  unfold cutV
  rw [e1, e2, List.drop_succ_cons, List.drop_zero, Nat.add_sub_cancel, List.take_left]
end
section
open SX
theorem ld_46 {a : List Nat} (h : allIn LDl a = true) : 46 ∉ a := fun hm => by
  have := of_decide_eq_true (List.all_eq_true.mp h 46 hm)
  exact absurd this (by decide)
theorem shortW_in {f b a : List Nat} (h : shortW f b a = true) : allIn b a = true ∧ a.length ≤ 16 := by
  unfold shortW isRow at h
  simp only [Bool.and_eq_true, decide_eq_true_eq] at h
  exact ⟨h.1.2, h.2.1⟩
theorem shortW_take {c : Nat} {r : List Nat} (hc : c ∈ SLl) (h : allIn LDl (c :: r) = true) : shortW SLl LDl ((c :: r).take 16) = true := by
  have e : (c :: r).take 16 = c :: r.take 15 := rfl
  have h2 : allIn LDl (c :: r.take 15) = true := by
    rw [← e]
    unfold allIn at *
    rw [List.all_eq_true] at *
    exact fun x hx => h x (List.mem_of_mem_take hx)
  have h3 : (r.take 15).length ≤ 15 := by
    rw [List.length_take]
    omega
  rw [e]
  unfold shortW isRow
  rw [h2]
  simp [hc]
  omega
theorem sp_otl {n : Nat} {ks nm : List Nat} (h : 46 ∉ nm) : sp (otl n ks nm) = (n :: ks).map TL.numL ++ [nm] := by
  refine SX.spl_join (by simp) fun p hp => ?_
  rcases List.mem_append.mp hp with h1 | h1
  · obtain ⟨z, _, rfl⟩ := List.mem_map.mp h1
    exact TL.numL_free (.inl (by decide))
  · rw [List.mem_singleton.mp h1]
    exact h
theorem rdo_otl {n : Nat} {ks nm : List Nat} (hn : n < 10 ^ 6) (hks : ∀ k ∈ ks, 1 ≤ k ∧ k < 10 ^ 6) (hl : ks.length ≤ 12) (hnm : shortW SLl LDl nm = true) : rdo (otl n ks nm) = some (n, ks, nm) := by
  rw [rdo_eq (sp_otl (ld_46 (shortW_in hnm).1)), List.map_cons, okO_ok hnm (by rw [List.length_map]; exact hl) ?_ ?_]
  · rw [TL.numL_val, List.map_map]
    refine congrArg (fun z => some (n, z, nm)) ?_
    clear hks hl
    induction ks with
    | nil => rfl
    | cons k ks ih =>
      rw [List.map_cons, ih]
      show TL.numL k |> NumText.digitsVal |> fun z => z :: ks = k :: ks
      rw [TL.numL_val]
  · rw [List.all_cons, numL_plain hn, Bool.true_and, List.all_map, List.all_eq_true]
    exact fun k hk => numL_plain (hks k hk).2
  · intro hm
    obtain ⟨k, hk, e⟩ := List.mem_map.mp hm
    exact numL_head (hks k hk).1 (by rw [e]; rfl)
def pdo (n : Nat) (ks nm : List Nat) : PyData := .tuple [.int (n : Int), .tuple (ks.map fun k => .int (k : Nat)), .str (S nm)]
theorem dp_ot {K : PySem.W.Frag} {H : Hp} {t : Addr} {n : Nat} {ks nm : List Nat} (h : Ot K H t n ks nm) : Dp K H (.ref t) (pdo n ks nm) := by
  obtain ⟨q, h1, h2⟩ := h
  refine .tup h1 (.cons (.int _) (.cons (.tup h2 ?_) (.cons (.str _) .nil)))
  clear h1 h2
  induction ks with
  | nil => exact .nil
  | cons k ks ih => exact .cons (.int _) ih
theorem sh_pdo {n : Nat} {ks nm : List Nat} (h : allIn LDl nm = true) : SeqAt.shaped (pdo n ks nm) = true := by
  have h1 : PyData.canLayAll0 (ks.map fun k => PyData.int (k : Nat)) = true ∧ PyData.depthAll (ks.map fun k => PyData.int (k : Nat)) ≤ 1 := by
    clear h
    induction ks with
    | nil => decide
    | cons r rs ih =>
      rw [List.map_cons, PyData.canLayAll0, PyData.depthAll, ih.1]
      exact ⟨rfl, Nat.max_le.mpr ⟨by show 0 ≤ 1; decide, ih.2⟩⟩
  have h3 : (PyData.str (S nm)).canLay0 = true := by
    show PySem.PyData.strOk (S nm) = true
    unfold PySem.PyData.strOk
    rw [← Array.all_toList]
    show nm.all _ = true
    rw [List.all_eq_true]
    intro c hc
    have hm := of_decide_eq_true (List.all_eq_true.mp h c hc)
    have : ∀ c ∈ LDl, decide (c < 0x110000) = true := by decide
    exact this c hm
  obtain ⟨h1, h2⟩ := h1
  unfold SeqAt.shaped pdo
  simp only [PyData.canLay0, PyData.canLayAll0, PyData.depth, PyData.depthAll, h1] at h3 ⊢
  simp only [h3]
  simp
  omega
theorem eqv_pdo {n : Nat} {ks nm : List Nat} (h : allIn LDl nm = true) : PyData.eqv (pdo n ks nm) (pdo n ks nm) = true := by
  have h2 := sh_pdo (n := n) (ks := ks) h
  unfold SeqAt.shaped at h2
  exact SeqAt.eqv_refl _ (by
    rw [Bool.and_eq_true] at h2
    exact h2.1)
theorem rdo_in {a : List Nat} {n : Nat} {ks nm : List Nat} (h : rdo a = some (n, ks, nm)) : allIn LDl nm = true := by
  obtain ⟨i, x, e⟩ := snoc_of (sp_ne a)
  rw [rdo_eq e] at h
  unfold okO at h
  cases i with
  | nil => cases h
  | cons m l =>
    dsimp only at h
    split at h
    · rename_i g
      simp only [Bool.and_eq_true] at g
      injection h with h
      injection h with _ h
      injection h with _ h
      rw [← h]
      exact (shortW_in g.1.1.1).1
    · cases h
theorem otl_len {n : Nat} {ks nm : List Nat} (hn : n < 10 ^ 6) (hks : ∀ k ∈ ks, k < 10 ^ 6) (hl : ks.length ≤ 12) (hnm : nm.length ≤ 16) : (otl n ks nm).length ≤ 238 := by
  have h := joinL_len (m := 16) ((n :: ks).map TL.numL ++ [nm]) (fun p hp => by
    rcases List.mem_append.mp hp with h | h
    · obtain ⟨z, hz, rfl⟩ := List.mem_map.mp h
      have h2 : z < 10 ^ 6 := by
        rcases List.mem_cons.mp hz with rfl | h3
        · exact hn
        · exact hks z h3
      have := TL.numL_len (k := 6) (by decide) h2
      omega
    · rw [List.mem_singleton.mp h]
      exact hnm)
  unfold otl
  rw [List.length_append, List.length_map, List.length_cons, show [nm].length = 1 from rfl] at h
  have h2 : (ks.length + 1 + 1) * (16 + 1) ≤ 14 * 17 := Nat.mul_le_mul (by omega) (by decide)
  omega
theorem rdo_nil : rdo [] = none := by decide
end

theorem iteF' {b : Bool} {p q : Prop} (h : b = false) (hq : q) : if b = true then p else q := by
  rw [h, if_neg Bool.false_ne_true]
  exact hq
theorem iteT' {b : Bool} {p q : Prop} (h : b = true) (hp : p) : if b = true then p else q := by
  rw [h, if_pos rfl]
  exact hp

section
open SX (S)
/-- what a ratio from i on tells: the column of its fault, or its worth and its end -/
def ratio (a : List Nat) (i : Nat) : Nat ⊕ (Rat × Nat) :=
  if dg D10 a i = 0 ∨ 12 < dg D10 a i then .inl (i + 1)
  else if a[i + dg D10 a i]? = some 47 then
    if dg D10 a (i + dg D10 a i + 1) = 0 ∨ 12 < dg D10 a (i + dg D10 a i + 1) then .inl (i + dg D10 a i + 2)
    else if dv10 a (i + dg D10 a i + 1) (dg D10 a (i + dg D10 a i + 1)) = 0 then .inl (i + dg D10 a i + 2)
    else .inr (Rat.divInt (dv10 a i (dg D10 a i) : Nat) (dv10 a (i + dg D10 a i + 1) (dg D10 a (i + dg D10 a i + 1)) : Nat), i + dg D10 a i + 1 + dg D10 a (i + dg D10 a i + 1))
  else .inr (Rat.divInt (dv10 a i (dg D10 a i) : Nat) 1, i + dg D10 a i)
theorem dv_12 {a : List Nat} {i : Nat} (h : dg D10 a i ≤ 12) : dv10 a i (dg D10 a i) < 10 ^ 12 := Nat.lt_of_lt_of_le (dv_lt (Nat.le_refl _)) (Nat.pow_le_pow_right (by decide) h)
theorem ten2000 : (10 : Nat) ^ 12 < 2 ^ 2000 := Nat.lt_of_lt_of_le (show (10 : Nat) ^ 12 < 2 ^ 40 by decide) (Nat.pow_le_pow_right (by decide) (by decide))
theorem lit_ne {c : Nat} (h : (!decide (V.str ⟨#[c]⟩ = V.str (Str.ofString "/"))) = true) : c ≠ 47 := fun e => by
  subst e
  have : (V.str ⟨#[47]⟩) = V.str (Str.ofString "/") := congrArg V.str lit_slash.symm
  rw [decide_eq_true this] at h
  cases h
theorem lit_eq {c : Nat} (h : ¬ (!decide (V.str ⟨#[c]⟩ = V.str (Str.ofString "/"))) = true) : c = 47 := by
  by_cases e : V.str ⟨#[c]⟩ = V.str (Str.ofString "/")
  · have e2 : S [c] = S [47] := (V.str.inj e).trans lit_slash
    have := SX.S_inj e2
    injection this
  · exfalso
    rw [decide_eq_false e] at h
    exact h rfl

def WCl : List Nat := [97, 98, 99, 100, 101, 102, 103, 104, 105, 106, 107, 108, 109, 110, 111, 112, 113, 114, 115, 116, 117, 118, 119, 120, 121, 122, 65, 66, 67, 68, 69, 70, 71, 72, 73, 74, 75, 76, 77, 78, 79, 80, 81, 82, 83, 84, 85, 86, 87, 88, 89, 90, 48, 49, 50, 51, 52, 53, 54, 55, 56, 57, 95]
theorem WCl_S : ("abcdefghijklmnopqrstuvwxyzABCDEFGHIJKLMNOPQRSTUVWXYZ0123456789_" : Str) = S WCl := by decide +kernel
theorem lit_blank : (" " : Str) = S [32] := by decide +kernel
theorem lit_star : ("*" : Str) = S [42] := by decide +kernel
theorem lit_pm : ("+-" : Str) = S [43, 45] := by decide +kernel
/-- whether a sign of b stands at i -/
def isAt (a : List Nat) (i : Nat) (b : List Nat) : Bool := match a[i]? with
  | some c => decide (c ∈ b)
  | none => false
/-- behind the blanks -/
def skb (a : List Nat) (i : Nat) : Nat := i + dg [32] a i
def word (a : List Nat) (i : Nat) : List Nat := (a.drop i).take (dg WCl a i)
/-- the slopes of the parameter with an index -/
def unit (j n : Nat) : List Rat := (List.range n).map fun i => if i = j then 1 else 0
def ix (w : List Nat) : List (List Nat) → Nat
  | [] => 0
  | n :: l => if n = w then 0 else ix w l + 1
theorem ix_at {w : List Nat} : ∀ {l : List (List Nat)}, w ∈ l → ix w l < l.length ∧ l[ix w l]? = some w ∧ ∀ m x, m < ix w l → l[m]? = some x → x ≠ w
  | [], h => by cases h
  | n :: l, h => by
    unfold ix
    by_cases e : n = w
    · rw [if_pos e]
      subst e
      exact ⟨Nat.succ_pos _, rfl, fun m x hm => absurd hm (Nat.not_lt_zero m)⟩
    · rw [if_neg e]
      have h2 : w ∈ l := by
        rcases List.mem_cons.mp h with h | h
        · exact absurd h.symm e
        · exact h
      obtain ⟨h3, h4, h5⟩ := ix_at h2
      refine ⟨Nat.succ_lt_succ h3, h4, fun m x hm hx => ?_⟩
      cases m with
      | zero =>
        obtain rfl := Option.some.inj hx
        exact e
      | succ m => exact h5 m x (by omega) hx
def rpar (nms : List (List Nat)) (a : List Nat) (i : Nat) : Nat ⊕ (Nat × Nat) :=
  if word a i ∈ nms then .inr (ix (word a i) nms, i + dg WCl a i) else .inl (i + 1)
def rterm (nms : List (List Nat)) (a : List Nat) (i : Nat) : Nat ⊕ ((Rat × List Rat) × Nat) :=
  if isAt a i D10 then
    match ratio a i with
    | .inl c => .inl c
    | .inr (r, e) =>
      if isAt a (skb a e) [42] then
        match rpar nms a (skb a (skb a e + 1)) with
        | .inl c => .inl c
        | .inr (k, e2) => .inr ((r * 0, (unit k nms.length).map fun y => r * y), skb a e2)
      else .inr ((r, List.replicate nms.length 0), skb a e)
  else
    match rpar nms a i with
    | .inl c => .inl c
    | .inr (k, e2) => .inr ((0, unit k nms.length), skb a e2)
theorem S_sl {a : List Nat} (h : a.length ≤ 3000) : (S a).length ≤ sizeLine := by
  rw [SX.S_len, PySem.sizeLine_eq]
  omega
theorem lenS (a : List Nat) : (((S a).length : Nat) : Int) = (a.length : Int) := by rw [SX.S_len]
theorem eqV_sv (x y : List Nat) : eqV (sv x) (sv y) = decide (x = y) := by
  show (S x == S y) = decide (x = y)
  by_cases h : x = y
  · subst h
    simp
  · rw [decide_eq_false h]
    exact beq_eq_false_iff_ne.mpr fun z => h (SX.S_inj z)
theorem inV_sv (w : List Nat) (ks : List (List Nat)) : inV (sv w) (ks.map sv) = decide (w ∈ ks) := by
  unfold inV
  induction ks with
  | nil => rfl
  | cons k ks ih =>
    rw [List.map_cons, List.any_cons, ih, eqV_sv]
    by_cases h : k = w
    · subst h
      simp
    · have h2 : ¬ w = k := fun z => h z.symm
      by_cases h3 : w ∈ ks
      · simp [h3]
      · simp [h, h2, h3]
theorem sv_flat (nms : List (List Nat)) : (nms.map sv).all flatV = true := by
  rw [List.all_map, List.all_eq_true]
  exact fun _ _ => rfl
theorem skb_le {a : List Nat} {i : Nat} (h : i ≤ a.length) : skb a i ≤ a.length := dg_le h
theorem isAt_lt {a b : List Nat} {i : Nat} (h : isAt a i b = true) : i < a.length := by
  unfold isAt at h
  rcases Nat.lt_or_ge i a.length with g | g
  · exact g
  · rw [List.getElem?_eq_none g] at h
    cases h
theorem rpar_le {nms : List (List Nat)} {a : List Nat} {i k e : Nat} (hi : i ≤ a.length) (h : rpar nms a i = .inr (k, e)) : k < nms.length ∧ e ≤ a.length ∧ e = i + dg WCl a i := by
  unfold rpar at h
  split at h
  · rename_i g
    injection h with h
    injection h with h1 h2
    subst h1 h2
    exact ⟨(ix_at g).1, dg_le hi, rfl⟩
  · cases h
theorem ratio_le {a : List Nat} {i e : Nat} {r : Rat} (hi : i ≤ a.length) (h : ratio a i = .inr (r, e)) : e ≤ a.length ∧ Bd 40 r ∧ i < e := by
  unfold ratio at h
  have h1 := dg_le (b := D10) hi
  split at h
  · cases h
  rename_i n1
  split at h
  · rename_i c47
    have hlt : i + dg D10 a i < a.length := (List.getElem?_eq_some_iff.mp c47).1
    have h2 := dg_le (b := D10) (a := a) (i := i + dg D10 a i + 1) (by omega)
    split at h
    · cases h
    rename_i n2
    split at h
    · cases h
    rename_i n3
    injection h with h
    injection h with e1 e2
    subst e1 e2
    have v1 := dv_12 (a := a) (i := i) (by omega)
    have v2 := dv_12 (a := a) (i := i + dg D10 a i + 1) (by omega)
    have b40 : (10 : Nat) ^ 12 ≤ 2 ^ 40 := by decide
    exact ⟨by omega, bd_of (by omega) (by rw [Int.natAbs_natCast]; omega) (by rw [Int.natAbs_natCast]; omega), by omega⟩
  · injection h with h
    injection h with e1 e2
    subst e1 e2
    have v1 := dv_12 (a := a) (i := i) (by omega)
    have b40 : (10 : Nat) ^ 12 ≤ 2 ^ 40 := by decide
    exact ⟨h1, bd_of (by decide) (by rw [Int.natAbs_natCast]; omega) (by decide), by omega⟩
theorem rterm_eq (nms : List (List Nat)) (a : List Nat) (i : Nat) : rterm nms a i = if isAt a i D10 = true then
    match ratio a i with
    | .inl c => .inl c
    | .inr (r, e) =>
      if isAt a (skb a e) [42] then
        match rpar nms a (skb a (skb a e + 1)) with
        | .inl c => .inl c
        | .inr (k, e2) => .inr ((r * 0, (unit k nms.length).map fun y => r * y), skb a e2)
      else .inr ((r, List.replicate nms.length 0), skb a e)
  else
    match rpar nms a i with
    | .inl c => .inl c
    | .inr (k, e2) => .inr ((0, unit k nms.length), skb a e2) := rfl
theorem unit_bd {k n : Nat} : ∀ r ∈ unit k n, Bd 60 r := by
  intro r hr
  unfold unit at hr
  obtain ⟨i, _, rfl⟩ := List.mem_map.mp hr
  split
  · exact bd_one.up (by decide)
  · exact bd_zero.up (by decide)
def lcml (l : List Rat) : Nat := l.foldl (fun d r => Nat.lcm d r.den) 1
def shortV (l : List Rat) : Bool := decide (lcml l < 1000000000000) && l.all fun r => decide (r.num.natAbs * (lcml l / r.den) < 1000000000000)
theorem lcml_snoc (l : List Rat) (r : Rat) : lcml (l ++ [r]) = Nat.lcm (lcml l) r.den := by
  unfold lcml
  rw [List.foldl_append]
  rfl
theorem lcm_step {d m : Nat} : ((d : Int) / ((Nat.gcd d m : Nat) : Int)) * (m : Int) = ((Nat.lcm d m : Nat) : Int) := by
  rw [← Int.natCast_ediv, ← Int.natCast_mul]
  congr 1
  rw [Nat.lcm, Nat.div_mul_right_comm (Nat.gcd_dvd_left d m)]
theorem lcm_stepF {d m : Nat} : ((d : Int).fdiv ((Nat.gcd d m : Nat) : Int)) * (m : Int) = ((Nat.lcm d m : Nat) : Int) := by
  rw [Int.fdiv_eq_ediv_of_nonneg _ (Int.natCast_nonneg _), lcm_step]
theorem fdiv_le {d g : Nat} : ((d : Int).fdiv (g : Int)).natAbs ≤ d := by
  rw [Int.fdiv_eq_ediv_of_nonneg _ (Int.natCast_nonneg _), ← Int.natCast_ediv, Int.natAbs_natCast]
  exact Nat.div_le_self _ _
theorem lcml_take {l : List Rat} {i : Nat} {r : Rat} (h : l[i]? = some r) : lcml (l.take (i + 1)) = Nat.lcm (lcml (l.take i)) r.den := by
  rw [List.take_add_one, h]
  exact lcml_snoc _ _
theorem lcml_bd {l : List Rat} {n : Nat} (h : ∀ r ∈ l, Bd n r) : ∀ i, lcml (l.take i) < 2 ^ (n * i + 1) ∧ 0 < lcml (l.take i) := by
  intro i
  induction i with
  | zero => exact ⟨by show 1 < 2 ^ (0 + 1); decide, Nat.one_pos⟩
  | succ i ih =>
    cases e : l[i]? with
    | none =>
      have h2 : l.take (i + 1) = l.take i := by
        rw [List.take_add_one, e]
        simp
      rw [h2]
      exact ⟨Nat.lt_of_lt_of_le ih.1 (Nat.pow_le_pow_right (by decide) (by rw [Nat.mul_succ]; omega)), ih.2⟩
    | some r =>
      rw [lcml_take e]
      have hb := (h r (List.mem_of_getElem? e)).2
      have hp : 0 < r.den := Nat.pos_of_ne_zero r.den_nz
      refine ⟨?_, Nat.lcm_pos ih.2 hp⟩
      refine Nat.lt_of_le_of_lt (Nat.le_of_dvd (Nat.mul_pos ih.2 hp) (Nat.lcm_dvd (Nat.dvd_mul_right _ _) (Nat.dvd_mul_left _ _))) ?_
      rw [show n * (i + 1) + 1 = (n * i + 1) + n by rw [Nat.mul_succ]; omega, Nat.pow_add]
      exact Nat.mul_lt_mul'' ih.1 hb
theorem lt_case (d : Nat) : (decide (d < 1000000000000) = true ∧ decide ((d : Int) < 1000000000000) = true) ∨ (decide (d < 1000000000000) = false ∧ decide ((d : Int) < 1000000000000) = false) := by
  cases h : decide (d < 1000000000000) with
  | true => exact .inl ⟨rfl, decide_eq_true (by have := of_decide_eq_true h; omega)⟩
  | false => exact .inr ⟨rfl, decide_eq_false (by have := of_decide_eq_false h; omega)⟩
theorem lt_same (d : Nat) : decide (d < 1000000000000) = decide ((d : Int) < 1000000000000) := decide_eq_decide.mpr (by omega)
theorem lt_elim {P : Prop} (d : Nat) (h1 : decide (d < 1000000000000) = true → decide ((d : Int) < 1000000000000) = true → P) (h2 : decide (d < 1000000000000) = false → decide ((d : Int) < 1000000000000) = false → P) : P := by
  rcases lt_case d with h | h
  · exact h1 h.1 h.2
  · exact h2 h.1 h.2
theorem ge12 (z : Int) : decide ((10 : Int) ^ (12 : Int).toNat ≤ z) = !decide (z < 1000000000000) := by
  rw [show (10 : Int) ^ (12 : Int).toNat = 1000000000000 from by decide +kernel]
  cases h : decide (z < 1000000000000) with
  | true => exact decide_eq_false (by have := of_decide_eq_true h; omega)
  | false => exact decide_eq_true (by have := of_decide_eq_false h; omega)
theorem sz_abs (D : Nat) (r : Rat) : (r.num * (D : Int).fdiv (r.den : Int)).natAbs = r.num.natAbs * (D / r.den) := by
  rw [Int.natAbs_mul, Int.fdiv_eq_ediv_of_nonneg _ (Int.natCast_nonneg _), ← Int.natCast_ediv, Int.natAbs_natCast]
def okN (D : Nat) (r : Rat) : Bool := decide (r.num.natAbs * (D / r.den) < 1000000000000)
theorem okN_eq (D : Nat) (r : Rat) : okN D r = (decide (r.num * (D : Int).fdiv (r.den : Int) < 1000000000000) && decide (-(r.num * (D : Int).fdiv (r.den : Int)) < 1000000000000)) := by
  unfold okN
  rw [← sz_abs, ← Bool.decide_and]
  exact decide_eq_decide.mpr (by omega)
theorem all_snoc {l : List Rat} {i : Nat} {r : Rat} {p : Rat → Bool} (h : l[i]? = some r) : (l.take (i + 1)).all p = ((l.take i).all p && p r) := by
  rw [List.take_add_one, h, List.all_append]
  simp
theorem all_no {l : List Rat} {r : Rat} {p : Rat → Bool} (h : r ∈ l) (hp : p r = false) : l.all p = false := by
  rw [Bool.eq_false_iff]
  intro z
  rw [List.all_eq_true.mp z r h] at hp
  cases hp
/-- a number above the common divisor -/
def ovr (D : Nat) (r : Rat) : Int := (if r.num < 0 then -r.num else r.num) * (D : Int).fdiv (r.den : Int)
theorem ovr_eq (D : Nat) (r : Rat) : ovr D r = ((r.num.natAbs * (D / r.den) : Nat) : Int) := by
  unfold ovr
  rw [Int.fdiv_eq_ediv_of_nonneg _ (Int.natCast_nonneg _), ← Int.natCast_ediv, Int.natCast_mul]
  congr 1
  split <;> omega
theorem short_max {l : List Rat} {m : Int} (h1 : m ∈ l.map (ovr (lcml l))) (h2 : ∀ y ∈ l.map (ovr (lcml l)), y ≤ m) : decide (m < 1000000000000) = l.all fun r => decide (r.num.natAbs * (lcml l / r.den) < 1000000000000) := by
  rw [Bool.eq_iff_iff, decide_eq_true_iff, List.all_eq_true]
  constructor
  · intro h r hr
    have h3 := h2 _ (List.mem_map_of_mem hr)
    rw [ovr_eq] at h3
    exact decide_eq_true (by omega)
  · intro h
    obtain ⟨r, hr, rfl⟩ := List.mem_map.mp h1
    have h3 := of_decide_eq_true (h r hr)
    rw [ovr_eq]
    omega
def rloop (nms : List (List Nat)) (a : List Nat) : Nat → Rat → List Rat → Nat → Nat ⊕ (Rat × List Rat)
  | 0, x, xs, _ => .inr (x, xs)
  | f + 1, x, xs, i =>
    if a.length ≤ i then .inr (x, xs)
    else if isAt a i [43, 45] then
      match rterm nms a (skb a (i + 1)) with
      | .inl c => .inl c
      | .inr ((y, ys), e) =>
        if isAt a i [45] then rloop nms a f (x + -y) (List.zipWith (fun r s => r + s) xs (ys.map fun y => -y)) e
        else rloop nms a f (x + y) (List.zipWith (fun r s => r + s) xs ys) e
    else .inl (i + 1)
def rexpr (nms : List (List Nat)) (a : List Nat) : Nat ⊕ (Rat × List Rat) :=
  if isAt a (skb a 0) [45] then
    match rterm nms a (skb a (skb a 0 + 1)) with
    | .inl c => .inl c
    | .inr ((x, xs), e) => rloop nms a (a.length + 1) (-x) (xs.map fun y => -y) e
  else
    match rterm nms a (skb a 0) with
    | .inl c => .inl c
    | .inr ((x, xs), e) => rloop nms a (a.length + 1) x xs e
def rfull (nms : List (List Nat)) (a : List Nat) : Nat ⊕ (Rat × List Rat) :=
  match rexpr nms a with
  | .inl c => .inl c
  | .inr (x, xs) => if shortV (x :: xs) then .inr (x, xs) else .inl 1
theorem skb_ge {a : List Nat} {i : Nat} : i ≤ skb a i := Nat.le_add_right _ _
theorem rterm_ok {nms : List (List Nat)} {a : List Nat} {i e : Nat} {x : Rat} {xs : List Rat} (hi : i ≤ a.length) (h : rterm nms a i = .inr ((x, xs), e)) : i ≤ e ∧ e ≤ a.length ∧ Bd 42 x ∧ (∀ r ∈ xs, Bd 42 r) ∧ xs.length = nms.length := by
  have ul : ∀ k n, (unit k n).length = n := fun k n => by
    unfold unit
    rw [List.length_map, List.length_range]
  have ub : ∀ k n, ∀ r ∈ unit k n, Bd 1 r := by
    intro k n r hr
    unfold unit at hr
    obtain ⟨i, _, rfl⟩ := List.mem_map.mp hr
    split
    · exact bd_one
    · exact bd_zero
  rw [rterm_eq] at h
  by_cases g : isAt a i D10 = true
  · rw [if_pos g] at h
    cases hr : ratio a i with
    | inl c =>
      rw [hr] at h
      cases h
    | inr p =>
      obtain ⟨r, e1⟩ := p
      obtain ⟨el, br, ei⟩ := ratio_le hi hr
      rw [hr] at h
      dsimp only at h
      have s1 := skb_le el
      have s2 := skb_ge (a := a) (i := e1)
      by_cases g2 : isAt a (skb a e1) [42] = true
      · rw [if_pos g2] at h
        have lt := isAt_lt g2
        have sl2 := skb_le (a := a) (i := skb a e1 + 1) (by omega)
        have sg2 := skb_ge (a := a) (i := skb a e1 + 1)
        cases hp : rpar nms a (skb a (skb a e1 + 1)) with
        | inl c =>
          rw [hp] at h
          cases h
        | inr p =>
          obtain ⟨k, e2⟩ := p
          obtain ⟨k1, k2, k3⟩ := rpar_le sl2 hp
          rw [hp] at h
          dsimp only at h
          injection h with h
          injection h with h he
          injection h with hx hxs
          subst hx hxs he
          have s3 := skb_le k2
          have s4 := skb_ge (a := a) (i := e2)
          refine ⟨by omega, s3, (br.mul bd_zero).up (by decide), fun y hy => ?_, by rw [List.length_map, ul]⟩
          obtain ⟨z, hz, rfl⟩ := List.mem_map.mp hy
          exact (br.mul (ub _ _ z hz)).up (by decide)
      · rw [if_neg g2] at h
        injection h with h
        injection h with h he
        injection h with hx hxs
        subst hx hxs he
        refine ⟨by omega, s1, br.up (by decide), fun y hy => ?_, by rw [List.length_replicate]⟩
        rw [List.eq_of_mem_replicate hy]
        exact bd_zero.up (by decide)
  · rw [if_neg g] at h
    cases hp : rpar nms a i with
    | inl c =>
      rw [hp] at h
      cases h
    | inr p =>
      obtain ⟨k, e2⟩ := p
      obtain ⟨k1, k2, k3⟩ := rpar_le hi hp
      rw [hp] at h
      dsimp only at h
      injection h with h
      injection h with h he
      injection h with hx hxs
      subst hx hxs he
      have s3 := skb_le k2
      have s4 := skb_ge (a := a) (i := e2)
      exact ⟨by omega, s3, bd_zero.up (by decide), fun y hy => (ub _ _ y hy).up (by decide), ul _ _⟩
/-- how many signs stand from i on -/
def sgc (a : List Nat) (i : Nat) : Nat := ((a.drop i).filter fun c => decide (c ∈ [43, 45])).length
theorem sgc_step {a : List Nat} {i : Nat} (h : isAt a i [43, 45] = true) : sgc a i = sgc a (i + 1) + 1 := by
  have lt := isAt_lt h
  unfold isAt at h
  rw [List.getElem?_eq_getElem lt] at h
  unfold sgc
  have h2 : decide (a[i] ∈ [43, 45]) = true := h
  rw [List.drop_eq_getElem_cons lt, List.filter_cons_of_pos (p := fun c => decide (c ∈ [43, 45])) h2]
  rfl
theorem sgc_mono {a : List Nat} {i j : Nat} (h : i ≤ j) : sgc a j ≤ sgc a i := by
  obtain ⟨k, rfl⟩ : ∃ k, j = i + k := ⟨j - i, by omega⟩
  unfold sgc
  rw [← List.drop_drop]
  exact List.Sublist.length_le ((List.drop_sublist k (a.drop i)).filter _)
theorem zip_bd {n m : Nat} {xs ys : List Rat} (h1 : ∀ r ∈ xs, Bd n r) (h2 : ∀ r ∈ ys, Bd m r) : ∀ r ∈ List.zipWith (fun r s => r + s) xs ys, Bd (n + m + 1) r := by
  intro r hr
  obtain ⟨i, hi⟩ := List.mem_iff_getElem?.mp hr
  rw [List.getElem?_zipWith] at hi
  cases e1 : xs[i]? with
  | none =>
    rw [e1] at hi
    cases hi
  | some c =>
    cases e2 : ys[i]? with
    | none =>
      rw [e1, e2] at hi
      cases hi
    | some d =>
      rw [e1, e2] at hi
      obtain hi : c + d = r := Option.some.inj hi
      rw [← hi]
      exact (h1 _ (List.mem_of_getElem? e1)).add (h2 _ (List.mem_of_getElem? e2))
theorem neg_bd {n : Nat} {xs : List Rat} (h : ∀ r ∈ xs, Bd n r) : ∀ r ∈ xs.map (fun y => -y), Bd n r := by
  intro r hr
  obtain ⟨y, hy, rfl⟩ := List.mem_map.mp hr
  exact (h y hy).neg
theorem rloop_eq (nms : List (List Nat)) (a : List Nat) (f : Nat) (x : Rat) (xs : List Rat) (i : Nat) : rloop nms a (f + 1) x xs i = if a.length ≤ i then .inr (x, xs)
    else if isAt a i [43, 45] = true then
      match rterm nms a (skb a (i + 1)) with
      | .inl c => .inl c
      | .inr ((y, ys), e) =>
        if isAt a i [45] = true then rloop nms a f (x + -y) (List.zipWith (fun r s => r + s) xs (ys.map fun y => -y)) e
        else rloop nms a f (x + y) (List.zipWith (fun r s => r + s) xs ys) e
    else .inl (i + 1) := rfl
end

section
open SX (S)
theorem tw_lenE {p : Nat → Bool} : ∀ {x r : List Nat}, (∀ c ∈ x, p c = true) → (∀ c, r.head? = some c → p c = false) → ((x ++ r).takeWhile p).length = x.length
  | [], [], _, _ => rfl
  | [], d :: r, _, h => by
    have := h d rfl
    simp [List.takeWhile_cons, this]
  | d :: x, r, h, h2 => by
    have h3 := h d List.mem_cons_self
    rw [List.cons_append, List.takeWhile_cons, if_pos h3, List.length_cons, List.length_cons, tw_lenE (fun c hc => h c (List.mem_cons_of_mem _ hc)) h2]
theorem dg_appE {b pre x r : List Nat} (hx : ∀ c ∈ x, c ∈ b) (hr : ∀ c, r.head? = some c → c ∉ b) : dg b (pre ++ (x ++ r)) pre.length = x.length := by
  unfold dg
  rw [List.drop_left]
  exact tw_lenE (fun c hc => decide_eq_true (hx c hc)) (fun c hc => decide_eq_false (hr c hc))
theorem isAt_app {p r : List Nat} {c : Nat} {b : List Nat} : isAt (p ++ c :: r) p.length b = decide (c ∈ b) := by
  unfold isAt
  rw [List.getElem?_append_right (Nat.le_refl _), Nat.sub_self]
  rfl
theorem isAt_end {p : List Nat} {b : List Nat} : isAt p p.length b = false := by
  unfold isAt
  rw [List.getElem?_eq_none (Nat.le_refl _)]
def blk (B : List Nat) : Prop := ∀ c ∈ B, c = 32
/-- what stands behind a term and its blanks: nothing, or a sign -/
def sEnd (r : List Nat) : Prop := ∀ c, r.head? = some c → c ∈ [43, 45]
theorem sEnd_32 {r : List Nat} (h : sEnd r) : ∀ c, r.head? = some c → c ≠ 32 := fun c hc e => by
  have := h c hc
  rw [e] at this
  exact absurd this (by decide)
theorem skb_app {p B r : List Nat} (hB : blk B) (hr : ∀ c, r.head? = some c → c ≠ 32) : skb (p ++ (B ++ r)) p.length = p.length + B.length := by
  unfold skb
  rw [dg_appE (b := [32]) (fun c hc => by rw [hB c hc]; decide) fun c hc hm => hr c hc (List.mem_singleton.mp hm)]
theorem isAt_sEnd {p r : List Nat} (h : sEnd r) : isAt (p ++ r) p.length [42] = false := by
  cases r with
  | nil =>
    rw [List.append_nil]
    exact isAt_end
  | cons c r =>
    rw [isAt_app]
    have := h c rfl
    have h2 : ∀ c ∈ [43, 45], decide (c ∈ [42]) = false := by decide
    exact h2 c this
theorem head_app {B r : List Nat} {P : Nat → Prop} (h1 : ∀ c ∈ B, P c) (h2 : ∀ c, r.head? = some c → P c) : ∀ c, (B ++ r).head? = some c → P c := by
  intro c hc
  cases B with
  | nil => exact h2 c hc
  | cons d B =>
    obtain rfl : d = c := Option.some.inj hc
    exact h1 d List.mem_cons_self
theorem numL_pos (n : Nat) : 0 < (TL.numL n).length := List.length_pos_iff.mpr (TL.numL_ne n)
theorem ratio_num {p r : List Nat} {n : Nat} (hn : n < 10 ^ 12) (hr : ∀ c, r.head? = some c → c ∉ D10 ∧ c ≠ 47) : ratio (p ++ (TL.numL n ++ r)) p.length = .inr (Rat.divInt (n : Int) 1, p.length + (TL.numL n).length) := by
  have h1 := dg_num (p := p) (n := n) (r := r) fun c hc => (hr c hc).1
  have h2 := dv_num (p := p) (n := n) (r := r)
  have h3 := TL.numL_len (k := 12) (by decide) hn
  have h4 := numL_pos n
  have h5 : (p ++ (TL.numL n ++ r))[p.length + (TL.numL n).length]? ≠ some 47 := by
    rw [← List.append_assoc, List.getElem?_append_right (by rw [List.length_append]; exact Nat.le_refl _), List.length_append, Nat.sub_self]
    intro z
    cases r with
    | nil => cases z
    | cons c r =>
      obtain rfl : c = 47 := Option.some.inj z
      exact (hr 47 rfl).2 rfl
  unfold ratio
  rw [h1, h2, if_neg (by omega), if_neg h5]
theorem ratio_frac {p r : List Nat} {n m : Nat} (hn : n < 10 ^ 12) (hm : m < 10 ^ 12) (h0 : 0 < m) (hr : ∀ c, r.head? = some c → c ∉ D10) :
    ratio (p ++ (TL.numL n ++ (47 :: (TL.numL m ++ r)))) p.length = .inr (Rat.divInt (n : Int) (m : Int), p.length + (TL.numL n).length + 1 + (TL.numL m).length) := by
  have h1 := dg_num (p := p) (n := n) (r := 47 :: (TL.numL m ++ r)) fun c hc => by
    obtain rfl : 47 = c := Option.some.inj hc
    decide
  have h2 := dv_num (p := p) (n := n) (r := 47 :: (TL.numL m ++ r))
  have h3 := TL.numL_len (k := 12) (by decide) hn
  have h4 := numL_pos n
  have e : p ++ (TL.numL n ++ (47 :: (TL.numL m ++ r))) = (p ++ (TL.numL n ++ [47])) ++ (TL.numL m ++ r) := by simp
  have el : (p ++ (TL.numL n ++ [47])).length = p.length + (TL.numL n).length + 1 := by
    simp
    omega
  have k1 := dg_num (p := p ++ (TL.numL n ++ [47])) (n := m) (r := r) hr
  have k2 := dv_num (p := p ++ (TL.numL n ++ [47])) (n := m) (r := r)
  rw [← e, el] at k1 k2
  have k3 := TL.numL_len (k := 12) (by decide) hm
  have k4 := numL_pos m
  have h5 : (p ++ (TL.numL n ++ (47 :: (TL.numL m ++ r))))[p.length + (TL.numL n).length]? = some 47 := by
    rw [← List.append_assoc, List.getElem?_append_right (by rw [List.length_append]; exact Nat.le_refl _), List.length_append, Nat.sub_self]
    rfl
  unfold ratio
  rw [h1, h2, if_neg (by omega), if_pos h5, k1, k2, if_neg (by omega), if_neg (by omega)]
theorem rpar_name {nms : List (List Nat)} {p w r : List Nat} (hw : w ∈ nms) (hc : ∀ c ∈ w, c ∈ WCl) (hr : ∀ c, r.head? = some c → c ∉ WCl) : rpar nms (p ++ (w ++ r)) p.length = .inr (ix w nms, p.length + w.length) := by
  have h1 := dg_appE (pre := p) hc hr
  have h2 : word (p ++ (w ++ r)) p.length = w := by
    unfold word
    rw [h1, List.drop_left, List.take_left]
  unfold rpar
  rw [h2, h1, if_pos hw]
/-- what a term tells, whatever stands around it -/
def TermOk (nms : List (List Nat)) (w : List Nat) (x : Rat) (xs : List Rat) : Prop := (∃ c t, w = c :: t ∧ c ≠ 32 ∧ c ≠ 45) ∧ ∀ p B r, blk B → sEnd r → rterm nms (p ++ (w ++ (B ++ r))) p.length = .inr ((x, xs), p.length + w.length + B.length)
/-- a number that is written -/
def NumOk (w : List Nat) (x : Rat) : Prop := (∃ c t, w = c :: t ∧ c ∈ D10) ∧ ∀ p r, (∀ c, r.head? = some c → c ∉ D10 ∧ c ≠ 47) → ratio (p ++ (w ++ r)) p.length = .inr (x, p.length + w.length)
theorem numL_hd (n : Nat) : ∃ c t, TL.numL n = c :: t ∧ c ∈ D10 := by
  cases e : TL.numL n with
  | nil => exact absurd e (TL.numL_ne n)
  | cons c t => exact ⟨c, t, rfl, of_decide_eq_true (numL_D10 n c (by rw [e]; exact List.mem_cons_self))⟩
theorem num_ok {n : Nat} (h : n < 10 ^ 12) : NumOk (TL.numL n) (Rat.divInt (n : Int) 1) := ⟨numL_hd n, fun _ _ hr => ratio_num h hr⟩
theorem frac_ok {n m : Nat} (h : n < 10 ^ 12) (h2 : m < 10 ^ 12) (h0 : 0 < m) : NumOk (TL.numL n ++ 47 :: TL.numL m) (Rat.divInt (n : Int) (m : Int)) := by
  obtain ⟨c, t, e, hc⟩ := numL_hd n
  refine ⟨⟨c, t ++ 47 :: TL.numL m, by rw [e]; rfl, hc⟩, fun p r hr => ?_⟩
  have h3 := ratio_frac (p := p) (r := r) h h2 h0 fun c hc => (hr c hc).1
  rw [show p ++ ((TL.numL n ++ 47 :: TL.numL m) ++ r) = p ++ (TL.numL n ++ (47 :: (TL.numL m ++ r))) by simp, h3]
  congr 2
  rw [List.length_append, List.length_cons]
  omega
theorem isAt_head {p w r : List Nat} {b : List Nat} {c : Nat} {t : List Nat} (e : w = c :: t) : isAt (p ++ (w ++ r)) p.length b = decide (c ∈ b) := by
  subst e
  exact isAt_app
theorem d10_ne {c : Nat} (h : c ∈ D10) : c ≠ 32 ∧ c ≠ 45 := by
  have : ∀ c ∈ D10, c ≠ 32 ∧ c ≠ 45 := by decide
  exact this c h
theorem term_num {nms : List (List Nat)} {w : List Nat} {x : Rat} (h : NumOk w x) : TermOk nms w x (List.replicate nms.length 0) := by
  obtain ⟨⟨c, t, e, hc⟩, hr⟩ := h
  refine ⟨⟨c, t, e, d10_ne hc⟩, fun p B r hB hs => ?_⟩
  have hh : ∀ c, (B ++ r).head? = some c → c ∉ D10 ∧ c ≠ 47 := head_app (P := fun c => c ∉ D10 ∧ c ≠ 47) (fun c hc => by rw [hB c hc]; decide) (fun c hc => by
    have : ∀ c ∈ [43, 45], c ∉ D10 ∧ c ≠ 47 := by decide
    exact this c (hs c hc))
  have h1 := hr p (B ++ r) hh
  have e1 : skb (p ++ (w ++ (B ++ r))) (p.length + w.length) = p.length + w.length + B.length := by
    have := skb_app (p := p ++ w) hB (sEnd_32 hs)
    rw [List.length_append, List.append_assoc] at this
    exact this
  have e2 : isAt (p ++ (w ++ (B ++ r))) (p.length + w.length + B.length) [42] = false := by
    have := isAt_sEnd (p := p ++ (w ++ B)) hs
    rw [List.length_append, List.length_append, List.append_assoc, List.append_assoc] at this
    rw [Nat.add_assoc]
    exact this
  rw [rterm_eq, isAt_head e, decide_eq_true hc, if_pos rfl, h1]
  dsimp only
  rw [e1, e2]
  rfl
theorem term_name {nms : List (List Nat)} {w : List Nat} (hw : w ∈ nms) (hc : ∀ c ∈ w, c ∈ WCl) (h0 : ∃ c t, w = c :: t ∧ c ∉ D10) : TermOk nms w 0 (unit (ix w nms) nms.length) := by
  obtain ⟨c, t, e, hd⟩ := h0
  have hcw : c ∈ WCl := hc c (by rw [e]; exact List.mem_cons_self)
  refine ⟨⟨c, t, e, by
    have : ∀ c ∈ WCl, c ≠ 32 ∧ c ≠ 45 := by decide
    exact this c hcw⟩, fun p B r hB hs => ?_⟩
  have hh : ∀ c, (B ++ r).head? = some c → c ∉ WCl := head_app (P := fun c => c ∉ WCl) (fun c hc => by rw [hB c hc]; decide) (fun c hc => by
    have : ∀ c ∈ [43, 45], c ∉ WCl := by decide
    exact this c (hs c hc))
  have h1 := rpar_name (p := p) hw hc hh
  have e1 : skb (p ++ (w ++ (B ++ r))) (p.length + w.length) = p.length + w.length + B.length := by
    have := skb_app (p := p ++ w) hB (sEnd_32 hs)
    rw [List.length_append, List.append_assoc] at this
    exact this
  rw [rterm_eq, isAt_head e, decide_eq_false hd, if_neg Bool.false_ne_true, h1]
  dsimp only
  rw [e1]
theorem term_prod {nms : List (List Nat)} {w n b : List Nat} {x : Rat} (h : NumOk w x) (hb : blk b) (hn : n ∈ nms) (hc : ∀ c ∈ n, c ∈ WCl) (h0 : ∃ c t, n = c :: t ∧ c ∉ D10) : TermOk nms (w ++ (b ++ (42 :: (b ++ n)))) (x * 0) ((unit (ix n nms) nms.length).map fun y => x * y) := by
  obtain ⟨⟨c, t, e, hd⟩, hr⟩ := h
  obtain ⟨c2, t2, en, hd2⟩ := h0
  have hc2 : c2 ∈ WCl := hc c2 (by rw [en]; exact List.mem_cons_self)
  refine ⟨⟨c, t ++ (b ++ (42 :: (b ++ n))), by rw [e]; rfl, d10_ne hd⟩, fun p B r hB hs => ?_⟩
  have hh : ∀ c, (B ++ r).head? = some c → c ∉ WCl := head_app (P := fun c => c ∉ WCl) (fun c hc => by rw [hB c hc]; decide) (fun c hc => by
    have : ∀ c ∈ [43, 45], c ∉ WCl := by decide
    exact this c (hs c hc))
  have ea : p ++ ((w ++ (b ++ (42 :: (b ++ n)))) ++ (B ++ r)) = p ++ (w ++ (b ++ (42 :: (b ++ (n ++ (B ++ r)))))) := by simp
  have h1 := hr p (b ++ (42 :: (b ++ (n ++ (B ++ r))))) (head_app (P := fun c => c ∉ D10 ∧ c ≠ 47) (fun c hc => by rw [hb c hc]; decide) (fun c hc => by
    obtain rfl : 42 = c := Option.some.inj hc
    decide))
  have e1 : skb (p ++ (w ++ (b ++ (42 :: (b ++ (n ++ (B ++ r))))))) (p.length + w.length) = p.length + w.length + b.length := by
    have := skb_app (p := p ++ w) (r := 42 :: (b ++ (n ++ (B ++ r)))) hb (fun c hc => by
      obtain rfl : 42 = c := Option.some.inj hc
      decide)
    rw [List.length_append, List.append_assoc] at this
    exact this
  have e2 : isAt (p ++ (w ++ (b ++ (42 :: (b ++ (n ++ (B ++ r))))))) (p.length + w.length + b.length) [42] = true := by
    have := isAt_app (p := p ++ (w ++ b)) (c := 42) (r := b ++ (n ++ (B ++ r))) (b := [42])
    rw [List.length_append, List.length_append, List.append_assoc, List.append_assoc] at this
    rw [Nat.add_assoc, this]
    decide
  have e3 : skb (p ++ (w ++ (b ++ (42 :: (b ++ (n ++ (B ++ r))))))) (p.length + w.length + b.length + 1) = p.length + w.length + b.length + 1 + b.length := by
    have := skb_app (p := p ++ (w ++ (b ++ [42]))) (r := n ++ (B ++ r)) hb (fun c hc => by
      rw [en] at hc
      obtain rfl : c2 = c := Option.some.inj hc
      have : ∀ c ∈ WCl, c ≠ 32 := by decide
      exact this _ hc2)
    have el : (p ++ (w ++ (b ++ [42]))).length = p.length + w.length + b.length + 1 := by
      simp only [List.length_append, List.length_cons, List.length_nil]
      omega
    rw [show p ++ (w ++ (b ++ [42])) ++ (b ++ (n ++ (B ++ r))) = p ++ (w ++ (b ++ (42 :: (b ++ (n ++ (B ++ r)))))) by simp, el] at this
    exact this
  have e4 : rpar nms (p ++ (w ++ (b ++ (42 :: (b ++ (n ++ (B ++ r))))))) (p.length + w.length + b.length + 1 + b.length) = .inr (ix n nms, p.length + w.length + b.length + 1 + b.length + n.length) := by
    have := rpar_name (p := p ++ (w ++ (b ++ (42 :: b)))) (r := B ++ r) hn hc hh
    have el : (p ++ (w ++ (b ++ (42 :: b)))).length = p.length + w.length + b.length + 1 + b.length := by
      simp only [List.length_append, List.length_cons]
      omega
    rw [show p ++ (w ++ (b ++ (42 :: b))) ++ (n ++ (B ++ r)) = p ++ (w ++ (b ++ (42 :: (b ++ (n ++ (B ++ r)))))) by simp, el] at this
    exact this
  have e5 : skb (p ++ (w ++ (b ++ (42 :: (b ++ (n ++ (B ++ r))))))) (p.length + w.length + b.length + 1 + b.length + n.length) = p.length + w.length + b.length + 1 + b.length + n.length + B.length := by
    have := skb_app (p := p ++ (w ++ (b ++ (42 :: (b ++ n))))) hB (sEnd_32 hs)
    have el : (p ++ (w ++ (b ++ (42 :: (b ++ n))))).length = p.length + w.length + b.length + 1 + b.length + n.length := by
      simp only [List.length_append, List.length_cons]
      omega
    rw [show p ++ (w ++ (b ++ (42 :: (b ++ n)))) ++ (B ++ r) = p ++ (w ++ (b ++ (42 :: (b ++ (n ++ (B ++ r)))))) by simp, el] at this
    exact this
  rw [ea, rterm_eq, isAt_head e, decide_eq_true hd, if_pos rfl, h1]
  dsimp only
  rw [e1, e2, if_pos rfl, e3, e4]
  dsimp only
  rw [e5]
  congr 2
  simp only [List.length_append, List.length_cons]
  omega
end

section
open SX (S)
/-- a term with its sign, the blanks behind the sign, and the blanks behind the term -/
structure EI where
  neg : Bool
  bs : List Nat
  w : List Nat
  x : Rat
  xs : List Rat
  B : List Nat
def sgE (b : Bool) (x : Rat) : Rat := if b = true then -x else x
def EI.txt (i : EI) : List Nat := (if i.neg = true then 45 else 43) :: (i.bs ++ (i.w ++ i.B))
def flatE : List EI → List Nat
  | [] => []
  | i :: l => (if i.neg = true then 45 else 43) :: (i.bs ++ (i.w ++ (i.B ++ flatE l)))
theorem flatE_cons (i : EI) (l : List EI) : flatE (i :: l) = i.txt ++ flatE l := by
  show _ :: _ = _
  unfold EI.txt
  simp
def EOk (nms : List (List Nat)) (i : EI) : Prop := blk i.bs ∧ blk i.B ∧ TermOk nms i.w i.x i.xs
def sumE (x : Rat) (xs : List Rat) : List EI → Rat × List Rat
  | [] => (x, xs)
  | i :: l => sumE (x + sgE i.neg i.x) (List.zipWith (fun r s => r + s) xs (i.xs.map (sgE i.neg))) l
theorem flatE_end : ∀ l, sEnd (flatE l)
  | [], c, h => by cases h
  | i :: l, c, h => by
    have e : (if i.neg = true then 45 else 43) = c := Option.some.inj h
    rw [← e]
    split <;> decide
theorem flatE_len : ∀ l, l.length ≤ (flatE l).length
  | [] => Nat.le_refl _
  | i :: l => by
    have := flatE_len l
    show _ ≤ (_ :: _).length
    simp only [List.length_cons, List.length_append]
    omega
theorem w_ne {nms : List (List Nat)} {w r : List Nat} {x : Rat} {xs : List Rat} (h : TermOk nms w x xs) : ∀ c, (w ++ r).head? = some c → c ≠ 32 ∧ c ≠ 45 := by
  obtain ⟨⟨c, t, e, h1, h2⟩, _⟩ := h
  subst e
  intro d hd
  obtain rfl : c = d := Option.some.inj hd
  exact ⟨h1, h2⟩
theorem rloop_flat {nms : List (List Nat)} : ∀ (l : List EI), (∀ i ∈ l, EOk nms i) → ∀ (f : Nat) (p : List Nat) (x : Rat) (xs : List Rat), l.length < f → rloop nms (p ++ flatE l) f x xs p.length = .inr (sumE x xs l)
  | [], _, f, p, x, xs, hf => by
    obtain ⟨f, rfl⟩ : ∃ f', f = f' + 1 := ⟨f - 1, by omega⟩
    rw [rloop_eq, if_pos (by show (p ++ []).length ≤ _; rw [List.append_nil]; exact Nat.le_refl _)]
    rfl
  | i :: l, hi, f, p, x, xs, hf => by
    obtain ⟨f, rfl⟩ : ∃ f', f = f' + 1 := ⟨f - 1, by omega⟩
    obtain ⟨h1, h2, h3⟩ := hi i List.mem_cons_self
    have hl : l.length < f := by
      rw [List.length_cons] at hf
      omega
    have ih := rloop_flat l (fun j hj => hi j (List.mem_cons_of_mem _ hj)) f
    have hw := w_ne (r := i.B ++ flatE l) h3
    obtain ⟨c, hc⟩ : ∃ c, (if i.neg = true then 45 else 43) = c := ⟨_, rfl⟩
    have hc2 : c ∈ [43, 45] := by
      rw [← hc]
      split <;> decide
    have ea : p ++ flatE (i :: l) = p ++ c :: (i.bs ++ (i.w ++ (i.B ++ flatE l))) := by
      rw [← hc]
      rfl
    have e0 : isAt (p ++ flatE (i :: l)) p.length [43, 45] = true := by
      rw [ea, isAt_app]
      exact decide_eq_true hc2
    have e1 : isAt (p ++ flatE (i :: l)) p.length [45] = i.neg := by
      rw [ea, isAt_app, ← hc]
      cases i.neg <;> decide
    have l1 : (p ++ [c]).length = p.length + 1 := by
      rw [List.length_append]
      rfl
    have e2 : skb (p ++ flatE (i :: l)) (p.length + 1) = (p ++ (c :: i.bs)).length := by
      have := skb_app (p := p ++ [c]) (r := i.w ++ (i.B ++ flatE l)) h1 fun d hd => (hw d hd).1
      rw [l1, show p ++ [c] ++ (i.bs ++ (i.w ++ (i.B ++ flatE l))) = p ++ c :: (i.bs ++ (i.w ++ (i.B ++ flatE l))) by simp, ← ea] at this
      rw [this]
      simp only [List.length_append, List.length_cons]
      omega
    have e3 := h3.2 (p ++ (c :: i.bs)) i.B (flatE l) h2 (flatE_end l)
    rw [show p ++ (c :: i.bs) ++ (i.w ++ (i.B ++ flatE l)) = p ++ c :: (i.bs ++ (i.w ++ (i.B ++ flatE l))) by simp, ← ea] at e3
    have l2 : (p ++ (c :: i.bs)).length + i.w.length + i.B.length = (p ++ (c :: (i.bs ++ (i.w ++ i.B)))).length := by
      simp only [List.length_append, List.length_cons]
      omega
    have e4 : p ++ flatE (i :: l) = (p ++ (c :: (i.bs ++ (i.w ++ i.B)))) ++ flatE l := by
      rw [ea]
      simp
    have hlen : ¬ (p ++ flatE (i :: l)).length ≤ p.length := by
      rw [ea]
      simp only [List.length_append, List.length_cons]
      omega
    rw [rloop_eq, if_neg hlen, if_pos e0, e2, e3, e1]
    dsimp only
    rw [l2, e4]
    unfold sumE sgE
    cases i.neg with
    | true =>
      rw [if_pos rfl]
      exact ih _ _ _ hl
    | false =>
      rw [if_neg Bool.false_ne_true, ih _ _ _ hl]
      simp
/-- the text of a first term behind leading blanks -/
def headE (L : List Nat) (i : EI) : List Nat := L ++ ((if i.neg = true then 45 :: i.bs else []) ++ (i.w ++ i.B))
theorem rexpr_flat {nms : List (List Nat)} {L : List Nat} {i : EI} {l : List EI} (hL : blk L) (h : EOk nms i) (hl : ∀ i ∈ l, EOk nms i) :
    rexpr nms (headE L i ++ flatE l) = .inr (sumE (sgE i.neg i.x) (i.xs.map (sgE i.neg)) l) := by
  obtain ⟨h1, h2, h3⟩ := h
  have hw := w_ne (r := i.B ++ flatE l) h3
  have hf : l.length < (headE L i ++ flatE l).length + 1 := by
    have := flatE_len l
    rw [List.length_append]
    omega
  unfold headE at hf ⊢
  cases hn : i.neg with
  | true =>
    rw [hn] at hf
    rw [if_pos rfl] at hf ⊢
    have ea : (L ++ (45 :: i.bs ++ (i.w ++ i.B))) ++ flatE l = L ++ (45 :: (i.bs ++ (i.w ++ (i.B ++ flatE l)))) := by simp
    have e0 : skb ((L ++ (45 :: i.bs ++ (i.w ++ i.B))) ++ flatE l) 0 = L.length := by
      have := skb_app (p := []) (r := 45 :: (i.bs ++ (i.w ++ (i.B ++ flatE l)))) hL fun d hd => by
        obtain rfl : 45 = d := Option.some.inj hd
        decide
      rw [ea]
      simpa using this
    have e1 : isAt ((L ++ (45 :: i.bs ++ (i.w ++ i.B))) ++ flatE l) L.length [45] = true := by
      rw [ea, isAt_app]
      decide
    have l1 : (L ++ [45]).length = L.length + 1 := by
      rw [List.length_append]
      rfl
    have e2 : skb ((L ++ (45 :: i.bs ++ (i.w ++ i.B))) ++ flatE l) (L.length + 1) = (L ++ (45 :: i.bs)).length := by
      have := skb_app (p := L ++ [45]) (r := i.w ++ (i.B ++ flatE l)) h1 fun d hd => (hw d hd).1
      rw [l1, show L ++ [45] ++ (i.bs ++ (i.w ++ (i.B ++ flatE l))) = L ++ (45 :: (i.bs ++ (i.w ++ (i.B ++ flatE l)))) by simp, ← ea] at this
      rw [this]
      simp only [List.length_append, List.length_cons]
      omega
    have e3 := h3.2 (L ++ (45 :: i.bs)) i.B (flatE l) h2 (flatE_end l)
    rw [show L ++ (45 :: i.bs) ++ (i.w ++ (i.B ++ flatE l)) = L ++ (45 :: (i.bs ++ (i.w ++ (i.B ++ flatE l)))) by simp, ← ea] at e3
    have l2 : (L ++ (45 :: i.bs)).length + i.w.length + i.B.length = (L ++ (45 :: i.bs ++ (i.w ++ i.B))).length := by
      simp only [List.length_append, List.length_cons]
      omega
    unfold rexpr
    rw [e0, if_pos e1, e2, e3]
    dsimp only
    rw [l2, rloop_flat l hl _ _ _ _ hf]
    unfold sgE
    simp
  | false =>
    rw [hn] at hf
    rw [if_neg Bool.false_ne_true, List.nil_append] at hf ⊢
    have ea : (L ++ (i.w ++ i.B)) ++ flatE l = L ++ (i.w ++ (i.B ++ flatE l)) := by simp
    have e0 : skb ((L ++ (i.w ++ i.B)) ++ flatE l) 0 = L.length := by
      have := skb_app (p := []) (r := i.w ++ (i.B ++ flatE l)) hL fun d hd => (hw d hd).1
      rw [ea]
      simpa using this
    have e1 : ¬ isAt ((L ++ (i.w ++ i.B)) ++ flatE l) L.length [45] = true := by
      rw [ea]
      obtain ⟨⟨c, t, e, h4, h5⟩, _⟩ := h3
      rw [isAt_head e]
      intro z
      exact h5 (List.mem_singleton.mp (of_decide_eq_true z))
    have e3 := h3.2 L i.B (flatE l) h2 (flatE_end l)
    rw [← ea] at e3
    have l2 : L.length + i.w.length + i.B.length = (L ++ (i.w ++ i.B)).length := by
      simp only [List.length_append]
      omega
    unfold rexpr
    rw [e0, if_neg e1, e3]
    dsimp only
    rw [l2, rloop_flat l hl _ _ _ _ hf]
    unfold sgE
    simp
/-- a text that an expression's further terms may follow -/
def GE (nms : List (List Nat)) (a : List Nat) (x : Rat) (xs : List Rat) : Prop := ∀ l : List EI, (∀ i ∈ l, EOk nms i) → rexpr nms (a ++ flatE l) = .inr (sumE x xs l)
theorem GE.first {nms : List (List Nat)} {L : List Nat} {i : EI} (hL : blk L) (h : EOk nms i) : GE nms (headE L i) (sgE i.neg i.x) (i.xs.map (sgE i.neg)) := fun _ hl => rexpr_flat hL h hl
theorem GE.next {nms : List (List Nat)} {a : List Nat} {x : Rat} {xs : List Rat} {i : EI} (g : GE nms a x xs) (h : EOk nms i) : GE nms (a ++ i.txt) (x + sgE i.neg i.x) (List.zipWith (fun r s => r + s) xs (i.xs.map (sgE i.neg))) := by
  intro l hl
  have := g (i :: l) fun j hj => by
    rcases List.mem_cons.mp hj with e | e
    · rw [e]
      exact h
    · exact hl j e
  rw [flatE_cons, ← List.append_assoc] at this
  exact this
theorem GE.full {nms : List (List Nat)} {a : List Nat} {x : Rat} {xs : List Rat} (g : GE nms a x xs) : rfull nms a = if shortV (x :: xs) = true then .inr (x, xs) else .inl 1 := by
  have := g [] fun _ h => by cases h
  rw [show a ++ flatE [] = a from List.append_nil a] at this
  unfold rfull
  rw [this]
  rfl
/-- the number of signs in a text -/
def sgs (a : List Nat) : Nat := (a.filter fun c => decide (c ∈ [43, 45])).length
theorem sgs_app (a b : List Nat) : sgs (a ++ b) = sgs a + sgs b := by
  unfold sgs
  rw [List.filter_append, List.length_append]
theorem div1E (n : Int) : Rat.divInt n 1 = (n : Rat) := (Rat.divInt_ofNat n 1).trans (Rat.mkRat_one n)
theorem fx_litE {K : PySem.W.Frag} {H : Hp} {a : Addr} {r : Rat} {p q : Int} (h : H a = some (.tup [.int p, .int q])) (h1 : r.num = p) (h2 : (r.den : Int) = q) : Fx K H a r := by
  subst h1 h2
  exact SqT.of h
theorem sqt_setq {K : PySem.W.Frag} {H : Hp} {q a : Addr} {ws ws' xs : List V} (hq : H q = some (.lst ws)) (h : SqT K H a xs) : SqT K (upd H q (.lst ws')) a xs := by
  rcases h with (h | ⟨o, h⟩) | h
  · exact .inl (.inl (by rw [upd_ne (fun e => by rw [e, hq] at h; cases h)]; exact h))
  · exact .inl (.inr ⟨o, by rw [upd_ne (fun e => by rw [e, hq] at h; cases h)]; exact h⟩)
  · exact .inr h
theorem sgE_bd {n : Nat} {b : Bool} {f : Rat} (h : Bd n f) : Bd n (sgE b f) := by
  cases b with
  | true => exact h.neg
  | false => exact h
/-- every object but one stays -/
def SameX (q : Addr) (H H' : Hp) : Prop := ∀ a o, a ≠ q → H a = some o → H' a = some o
theorem SameX.seq {K : PySem.W.Frag} {q a : Addr} {H H' : Hp} {xs : List V} (h : SameX q H H') (n : a ≠ q) (e : H a = some (.lst xs)) : H' a = some (.lst xs) := h a _ n e
def NmOk (n : List Nat) : Prop := (∀ c ∈ n, c ∈ WCl) ∧ (∃ c t, n = c :: t ∧ c ∉ D10) ∧ n.length ≤ 8
def NmsOk (nms : List (List Nat)) : Prop := nms.length ≤ 4 ∧ nms.Nodup ∧ ∀ n ∈ nms, NmOk n
def WrOk (w : List Nat) : Prop := w.length ≤ 30 ∧ sgs w = 0
theorem sgs_none : ∀ {a : List Nat}, (∀ c ∈ a, c ∉ [43, 45]) → sgs a = 0
  | [], _ => rfl
  | c :: a, h => by
    have := sgs_none fun d hd => h d (List.mem_cons_of_mem _ hd)
    unfold sgs at this ⊢
    rw [List.filter_cons, if_neg (by simpa using h c List.mem_cons_self)]
    exact this
theorem sgs_num (n : Nat) : sgs (TL.numL n) = 0 := sgs_none fun c hc => by
  have h := of_decide_eq_true (numL_D10 n c hc)
  have : ∀ c ∈ D10, c ∉ [43, 45] := by decide
  exact this c h
theorem sgs_nm {n : List Nat} (h : NmOk n) : sgs n = 0 := sgs_none fun c hc => by
  have : ∀ c ∈ WCl, c ∉ [43, 45] := by decide
  exact this c (h.1 c hc)
def four : List (List Nat) := [[119], [104, 101, 105, 103, 104, 116, 95, 50], [87], [115, 48]]
theorem four_ok (n : Nat) : NmsOk (four.take n) := by
  have h4 : ∀ m ∈ four, (∀ c ∈ m, c ∈ WCl) ∧ m ≠ [] ∧ m.head? ≠ none ∧ (∀ c, m.head? = some c → c ∉ D10) ∧ m.length ≤ 8 := by decide
  refine ⟨?_, (by decide : four.Nodup).sublist (List.take_sublist n four), fun m hm => ?_⟩
  · rw [List.length_take]
    show min n 4 ≤ 4
    omega
  · obtain ⟨h1, h2, h3, h5, h6⟩ := h4 m (List.mem_of_mem_take hm)
    refine ⟨h1, ?_, h6⟩
    cases m with
    | nil => exact absurd rfl h2
    | cons c t => exact ⟨c, t, rfl, h5 c rfl⟩
theorem same_ofX {q : Addr} {H0 H1 H2 : Hp} (h : H0 q = none) (s : Same H0 H1) (x : SameX q H1 H2) : Same H0 H2 := fun a o e => x a o (fun z => by rw [z, h] at e; cases e) (s a o e)
theorem zip_nought : ∀ {n : Nat} {l : List Rat}, l.length = n → List.zipWith (fun r s => r + s) (List.replicate n (0 : Rat)) l = l
  | 0, [], _ => rfl
  | n + 1, x :: l, h => by
    rw [List.replicate_succ, List.zipWith_cons_cons, zip_nought (by rw [List.length_cons] at h; omega), Rat.zero_add]
def pdsl (l : List (List Nat)) : PyData := .list (l.map fun x => PyData.str (S x))
theorem dps_all {K : PySem.W.Frag} {H : Hp} : ∀ l : List (List Nat), DpAll K H (l.map sv) (l.map fun x => PyData.str (S x))
  | [] => .nil
  | _ :: l => .cons (.str _) (dps_all l)
theorem shs {l : List (List Nat)} (h : ∀ n ∈ l, ∀ c ∈ n, c ∈ WCl) : PyData.canLayAll0 (l.map fun x => PyData.str (S x)) = true ∧ PyData.depthAll (l.map fun x => PyData.str (S x)) = 0 := by
  induction l with
  | nil => decide
  | cons r rs ih =>
    have ih := ih fun n hn => h n (List.mem_cons_of_mem _ hn)
    have h3 : (PyData.str (S r)).canLay0 = true := by
      show PySem.PyData.strOk (S r) = true
      unfold PySem.PyData.strOk
      rw [← Array.all_toList]
      show r.all _ = true
      rw [List.all_eq_true]
      intro c hc
      have : ∀ c ∈ WCl, decide (c < 0x110000) = true := by decide
      exact this c (h r List.mem_cons_self c hc)
    rw [List.map_cons, PyData.canLayAll0, PyData.depthAll, ih.1, ih.2, h3]
    exact ⟨rfl, rfl⟩
theorem shs_l {l : List (List Nat)} (h : ∀ n ∈ l, ∀ c ∈ n, c ∈ WCl) : SeqAt.shaped (pdsl l) = true := by
  unfold SeqAt.shaped pdsl
  rw [PyData.canLay0, PyData.depth, (shs h).1, (shs h).2]
  rfl
theorem eqvs_self {l : List (List Nat)} (h : ∀ n ∈ l, ∀ c ∈ n, c ∈ WCl) : PyData.eqv (pdsl l) (pdsl l) = true := by
  have h2 := shs_l h
  unfold SeqAt.shaped at h2
  exact SeqAt.eqv_refl _ (by
    rw [Bool.and_eq_true] at h2
    exact h2.1)
/-- a single worth among noughts -/
def oneL (n k : Nat) (f : Rat) : List Rat := (List.range n).map fun i => if i = k then f else 0
theorem oneL_len (n k : Nat) (f : Rat) : (oneL n k f).length = n := by
  unfold oneL
  rw [List.length_map, List.length_range]
theorem sgE_0 (b : Bool) : sgE b 0 = 0 := by cases b <;> decide +kernel
theorem set_one {v : List Rat} {n k : Nat} {y f : Rat} {b : Bool} (hn : v.length = n) (hk : v[k]? = some y) : List.zipWith (fun r s => r + s) v ((oneL n k f).map (sgE b)) = v.set k (y + sgE b f) := by
  apply List.ext_getElem?
  intro i
  rw [List.getElem?_zipWith, List.getElem?_map, List.getElem?_set]
  unfold oneL
  rw [List.getElem?_map]
  rcases Nat.lt_or_ge i n with h | h
  · rw [List.getElem?_range h, List.getElem?_eq_getElem (by omega : i < v.length)]
    by_cases e : k = i
    · subst e
      rw [List.getElem?_eq_getElem (by omega : k < v.length)] at hk
      have hk := Option.some.inj hk
      rw [if_pos rfl]
      simp [hk, hn, h]
    · rw [if_neg e]
      have e2 : ¬ i = k := fun z => e z.symm
      simp [e2, sgE_0, Rat.add_zero]
  · rw [List.getElem?_eq_none (show v.length ≤ i by omega), List.getElem?_eq_none (l := List.range n) (by rw [List.length_range]; exact h)]
    have : k ≠ i := by
      intro z
      subst z
      rw [List.getElem?_eq_none (by omega)] at hk
      cases hk
    rw [if_neg this]
theorem oneL_zero (n : Nat) (f : Rat) : oneL (n + 1) 0 f = f :: List.replicate n 0 := by
  unfold oneL
  rw [List.range_succ_eq_map, List.map_cons, if_pos rfl, List.map_map]
  congr 1
  rw [List.eq_replicate_iff]
  refine ⟨by rw [List.length_map, List.length_range], fun r hr => ?_⟩
  obtain ⟨i, _, rfl⟩ := List.mem_map.mp hr
  show (if i + 1 = 0 then f else 0) = 0
  rw [if_neg (Nat.succ_ne_zero i)]
theorem oneL_succ (n k : Nat) (f : Rat) : oneL (n + 1) (k + 1) f = 0 :: (unit k n).map fun y => f * y := by
  unfold oneL unit
  rw [List.range_succ_eq_map, List.map_cons, if_neg (by omega), List.map_map, List.map_map]
  congr 1
  apply List.map_congr_left
  intro i _
  show (if i + 1 = k + 1 then f else 0) = f * (if i = k then 1 else 0)
  by_cases e : i = k
  · rw [if_pos e, if_pos (by omega), Rat.mul_one]
  · rw [if_neg e, if_neg (by omega), Rat.mul_zero]
theorem ix_nd {w : List Nat} : ∀ {l : List (List Nat)} {k : Nat}, l.Nodup → l[k]? = some w → ix w l = k
  | [], k, _, h => by cases h
  | n :: l, 0, _, h => by
    obtain rfl := Option.some.inj h
    unfold ix
    rw [if_pos rfl]
  | n :: l, k + 1, hd, h => by
    have h2 : l[k]? = some w := h
    have hm : w ∈ l := List.mem_of_getElem? h2
    have hd2 := List.nodup_cons.mp hd
    have e : ¬ n = w := fun z => hd2.1 (z ▸ hm)
    unfold ix
    rw [if_neg e, ix_nd hd2.2 h2]
end

section
open SX (S)
/-- the text of a fraction -/
def tdl (r : Rat) : List Nat := (if r.num < 0 then [45] else []) ++ (TL.numL r.num.natAbs ++ if r.den = 1 then [] else 47 :: TL.numL r.den)
/-- a fraction without its sign -/
def ab (s : Rat) : Rat := if s.num < 0 then -s else s
theorem ab_num (s : Rat) : (ab s).num = (s.num.natAbs : Int) := by
  unfold ab
  split
  · rw [Rat.neg_num]
    omega
  · omega
theorem ab_den (s : Rat) : (ab s).den = s.den := by
  unfold ab
  split
  · exact Rat.neg_den s
  · rfl
theorem sgE_ab (s : Rat) : sgE (decide (s.num < 0)) (ab s) = s := by
  unfold sgE ab
  by_cases h : s.num < 0
  · rw [decide_eq_true h, if_pos rfl, if_pos h, Rat.neg_neg]
  · rw [decide_eq_false h, if_neg Bool.false_ne_true, if_neg h]
theorem sgE_mul (b : Bool) (x y : Rat) : sgE b (x * y) = sgE b x * y := by
  cases b with
  | true => exact (Rat.neg_mul x y).symm
  | false => rfl
theorem sgE_zero (b : Bool) : sgE b 0 = 0 := by
  cases b with
  | true => exact Rat.neg_zero
  | false => rfl
/-- the text of a term, without its sign -/
def tx (o : Option (List Nat)) (s : Rat) : List Nat := match o with
  | some n => if ab s = 1 then n else tdl (ab s) ++ 42 :: n
  | none => tdl (ab s)
/-- a term behind a text -/
def jn (t : List Nat) (s : Rat) (w : List Nat) : List Nat := if t = [] then (if s.num < 0 then [45] else []) ++ w else t ++ ((if s.num < 0 then [32, 45, 32] else [32, 43, 32]) ++ w)
def Sm (r : Rat) : Prop := r.num.natAbs ≤ 1000 ∧ r.den ≤ 12
theorem Sm.bd {r : Rat} (h : Sm r) : Bd 42 r := by
  have b : (1000 : Nat) < 2 ^ 42 := by decide
  exact ⟨Nat.lt_of_le_of_lt h.1 b, Nat.lt_of_le_of_lt h.2 (by decide)⟩
theorem tdl_ok {r : Rat} (h0 : 0 ≤ r.num) (h1 : r.num.natAbs < 10 ^ 12) (h2 : r.den < 10 ^ 12) : NumOk (tdl r) r := by
  have e : tdl r = TL.numL r.num.natAbs ++ if r.den = 1 then [] else 47 :: TL.numL r.den := by
    unfold tdl
    rw [if_neg (by omega)]
    rfl
  have e2 : (r.num.natAbs : Int) = r.num := by omega
  rw [e]
  by_cases hd : r.den = 1
  · rw [if_pos hd, List.append_nil]
    have := num_ok (n := r.num.natAbs) h1
    rw [e2] at this
    have e3 : Rat.divInt r.num 1 = r := by
      have := Rat.num_divInt_den r
      rw [hd] at this
      exact this
    rw [e3] at this
    exact this
  · rw [if_neg hd]
    have := frac_ok (n := r.num.natAbs) (m := r.den) h1 h2 (Nat.pos_of_ne_zero r.den_nz)
    rw [e2, Rat.num_divInt_den] at this
    exact this
theorem tdl_ab {s : Rat} (h : Sm s) : NumOk (tdl (ab s)) (ab s) := by
  have b : (1000 : Nat) < 10 ^ 12 := by decide
  have b2 : (12 : Nat) < 10 ^ 12 := by decide
  refine tdl_ok (by rw [ab_num]; omega) ?_ ?_
  · rw [ab_num, Int.natAbs_natCast]
    exact Nat.lt_of_le_of_lt h.1 b
  · rw [ab_den]
    exact Nat.lt_of_le_of_lt h.2 b2
theorem tx_name {nms : List (List Nat)} {n : List Nat} {s : Rat} (hs : Sm s) (hn : n ∈ nms) (hN : NmOk n) : ∃ z zs, TermOk nms (tx (some n) s) z zs ∧ sgE (decide (s.num < 0)) z = 0 ∧ zs.map (sgE (decide (s.num < 0))) = (unit (ix n nms) nms.length).map fun y => s * y := by
  unfold tx
  dsimp only
  by_cases h1 : ab s = 1
  · rw [if_pos h1]
    refine ⟨0, _, term_name hn hN.1 hN.2.1, sgE_zero _, List.map_congr_left fun y _ => ?_⟩
    have := sgE_mul (decide (s.num < 0)) (ab s) y
    rw [sgE_ab, h1, Rat.one_mul] at this
    exact this
  · rw [if_neg h1]
    refine ⟨_, _, term_prod (tdl_ab hs) (b := []) (fun c hc => nomatch hc) hn hN.1 hN.2.1, by rw [Rat.mul_zero]; exact sgE_zero _, ?_⟩
    rw [List.map_map]
    refine List.map_congr_left fun y _ => ?_
    show sgE (decide (s.num < 0)) (ab s * y) = s * y
    rw [sgE_mul, sgE_ab]
theorem tx_base {nms : List (List Nat)} {s : Rat} (hs : Sm s) : TermOk nms (tx none s) (ab s) (List.replicate nms.length 0) := term_num (tdl_ab hs)
/-- a text behind which blanks and more terms may stand -/
def GB (nms : List (List Nat)) (t : List Nat) (x : Rat) (xs : List Rat) : Prop := ∀ B, blk B → GE nms (t ++ B) x xs
theorem GB.one {nms : List (List Nat)} {w : List Nat} {s z : Rat} {zs : List Rat} (h : TermOk nms w z zs) : GB nms (jn [] s w) (sgE (decide (s.num < 0)) z) (zs.map (sgE (decide (s.num < 0)))) := by
  intro B hB
  have := GE.first (nms := nms) (L := []) (i := ⟨decide (s.num < 0), [], w, z, zs, B⟩) (fun c hc => nomatch hc) ⟨(fun c hc => nomatch hc), hB, h⟩
  have e : headE [] ⟨decide (s.num < 0), [], w, z, zs, B⟩ = jn [] s w ++ B := by
    unfold headE jn
    by_cases hn : s.num < 0
    · simp [hn]
    · simp [hn]
  rw [e] at this
  exact this
theorem GB.more {nms : List (List Nat)} {t w : List Nat} {s x z : Rat} {xs zs : List Rat} (g : GB nms t x xs) (ht : t ≠ []) (h : TermOk nms w z zs) : GB nms (jn t s w) (x + sgE (decide (s.num < 0)) z) (List.zipWith (fun r s => r + s) xs (zs.map (sgE (decide (s.num < 0))))) := by
  intro B hB
  have b32 : blk [32] := fun c hc => List.mem_singleton.mp hc
  have := (g [32] b32).next (i := ⟨decide (s.num < 0), [32], w, z, zs, B⟩) ⟨b32, hB, h⟩
  have e : t ++ [32] ++ EI.txt ⟨decide (s.num < 0), [32], w, z, zs, B⟩ = jn t s w ++ B := by
    unfold EI.txt jn
    rw [if_neg ht]
    by_cases hn : s.num < 0
    · simp [hn]
    · simp [hn]
  rw [e] at this
  exact this
/-- the first k slopes, 0 for the others -/
def pr (xs : List Rat) (k : Nat) : List Rat := (List.range xs.length).map fun i => if i < k then xs.getD i 0 else 0
theorem pr_len (xs : List Rat) (k : Nat) : (pr xs k).length = xs.length := by
  unfold pr
  rw [List.length_map, List.length_range]
theorem pr_all (xs : List Rat) : pr xs xs.length = xs := by
  refine List.ext_getElem? fun i => ?_
  unfold pr
  rw [List.getElem?_map]
  rcases Nat.lt_or_ge i xs.length with h | h
  · rw [List.getElem?_range h]
    show some (if i < xs.length then xs.getD i 0 else 0) = _
    rw [if_pos h, List.getD_eq_getElem?_getD, List.getElem?_eq_getElem h]
    rfl
  · rw [List.getElem?_eq_none (by rw [List.length_range]; exact h), List.getElem?_eq_none h]
    rfl
theorem pr_zero (xs : List Rat) : pr xs 0 = List.replicate xs.length 0 := by
  refine List.eq_replicate_iff.mpr ⟨pr_len _ _, fun b hb => ?_⟩
  obtain ⟨i, _, rfl⟩ := List.mem_map.mp hb
  rfl
theorem pr_skip {xs : List Rat} {k : Nat} (h : xs[k]? = some 0) : pr xs (k + 1) = pr xs k := by
  refine List.map_congr_left fun i _ => ?_
  by_cases h1 : i < k
  · rw [if_pos h1, if_pos (by omega)]
  · rw [if_neg h1]
    by_cases h2 : i = k
    · subst h2
      rw [if_pos (by omega), List.getD_eq_getElem?_getD, h]
      rfl
    · rw [if_neg (by omega)]
theorem pr_step {xs : List Rat} {k : Nat} {s : Rat} (h : xs[k]? = some s) : List.zipWith (fun r s => r + s) (pr xs k) ((unit k xs.length).map fun y => s * y) = pr xs (k + 1) := by
  refine List.ext_getElem? fun i => ?_
  unfold pr unit
  rw [List.getElem?_zipWith, List.getElem?_map, List.getElem?_map, List.getElem?_map, List.getElem?_map]
  rcases Nat.lt_or_ge i xs.length with hi | hi
  · rw [List.getElem?_range hi]
    show some ((if i < k then xs.getD i 0 else 0) + s * (if i = k then 1 else 0)) = some (if i < k + 1 then xs.getD i 0 else 0)
    by_cases h1 : i < k
    · rw [if_pos h1, if_neg (show ¬ i = k by omega), if_pos (show i < k + 1 by omega), Rat.mul_zero, Rat.add_zero]
    · by_cases h2 : i = k
      · subst h2
        rw [if_neg h1, if_pos rfl, if_pos (show i < i + 1 by omega), Rat.mul_one, Rat.zero_add, List.getD_eq_getElem?_getD, h]
        rfl
      · rw [if_neg h1, if_neg h2, if_neg (show ¬ i < k + 1 by omega), Rat.mul_zero, Rat.add_zero]
  · rw [List.getElem?_eq_none (by rw [List.length_range]; exact hi)]
    rfl
theorem ix_nodup : ∀ {nms : List (List Nat)} {k : Nat} {n : List Nat}, nms.Nodup → nms[k]? = some n → ix n nms = k
  | m :: nms, 0, n, _, h => by
    obtain rfl : m = n := Option.some.inj h
    unfold ix
    rw [if_pos rfl]
  | m :: nms, k + 1, n, hd, h => by
    have h2 : nms[k]? = some n := h
    have hne : m ≠ n := fun e => by
      subst e
      exact (List.nodup_cons.mp hd).1 (List.mem_of_getElem? h2)
    unfold ix
    rw [if_neg hne, ix_nodup (List.nodup_cons.mp hd).2 h2]
/-- the texts of the slopes, one behind the other -/
def etx1 (l : List (List Nat × Rat)) (t : List Nat) : List Nat := l.foldl (fun t p => if p.2 = 0 then t else jn t p.2 (tx (some p.1) p.2)) t
def etx (nms : List (List Nat)) (x : Rat) (xs : List Rat) : List Nat :=
  if x = 0 ∧ etx1 (nms.zip xs) [] ≠ [] then etx1 (nms.zip xs) [] else jn (etx1 (nms.zip xs) []) x (tx none x)
theorem TermOk.ne {nms : List (List Nat)} {w : List Nat} {x : Rat} {xs : List Rat} (h : TermOk nms w x xs) : w ≠ [] := by
  obtain ⟨⟨c, t, e, _⟩, _⟩ := h
  rw [e]
  exact fun z => nomatch z
theorem jn_ne {t w : List Nat} {s : Rat} (h : w ≠ []) : jn t s w ≠ [] := by
  unfold jn
  split
  · exact fun z => h (List.append_eq_nil_iff.mp z).2
  · exact fun z => h (List.append_eq_nil_iff.mp (List.append_eq_nil_iff.mp z).2).2
theorem zip_at {nms : List (List Nat)} {xs : List Rat} {k : Nat} (hl : xs.length = nms.length) (hk : k < nms.length) : ∃ n s, nms[k]? = some n ∧ xs[k]? = some s ∧ (nms.zip xs)[k]? = some (n, s) := by
  refine ⟨nms[k], xs[k], List.getElem?_eq_getElem hk, List.getElem?_eq_getElem (by omega), ?_⟩
  rw [List.getElem?_zip_eq_some]
  exact ⟨List.getElem?_eq_getElem hk, List.getElem?_eq_getElem (by omega)⟩
theorem etx1_snoc {l : List (List Nat × Rat)} {k : Nat} {n : List Nat} {s : Rat} (h : l[k]? = some (n, s)) : etx1 (l.take (k + 1)) [] = if s = 0 then etx1 (l.take k) [] else jn (etx1 (l.take k) []) s (tx (some n) s) := by
  unfold etx1
  rw [List.take_add_one, h, List.foldl_append]
  rfl
theorem etx1_ok {nms : List (List Nat)} {xs : List Rat} (hN : NmsOk nms) (hl : xs.length = nms.length) (hS : ∀ s ∈ xs, Sm s) : ∀ k ≤ nms.length,
    (etx1 ((nms.zip xs).take k) [] = [] ∧ pr xs k = pr xs 0) ∨ (etx1 ((nms.zip xs).take k) [] ≠ [] ∧ GB nms (etx1 ((nms.zip xs).take k) []) 0 (pr xs k)) := by
  intro k
  induction k with
  | zero => exact fun _ => .inl ⟨rfl, rfl⟩
  | succ k ih =>
    intro hk
    obtain ⟨n, s, h1, h2, h3⟩ := zip_at hl (show k < nms.length by omega)
    have hs := hS s (List.mem_of_getElem? h2)
    have hn := List.mem_of_getElem? h1
    rw [etx1_snoc h3]
    by_cases h0 : s = 0
    · rw [if_pos h0, pr_skip (by rw [h2, h0])]
      exact ih (by omega)
    · rw [if_neg h0]
      obtain ⟨z, zs, t1, t2, t3⟩ := tx_name hs hn (hN.2.2 n hn)
      rw [ix_nodup hN.2.1 h1] at t3
      right
      refine ⟨jn_ne t1.ne, ?_⟩
      rcases ih (by omega) with ⟨e1, e2⟩ | ⟨e1, e2⟩
      · have g := GB.one (s := s) t1
        rw [t2, t3] at g
        rw [e1]
        have e4 := pr_step h2
        rw [e2, pr_zero, ← hl, zip_nought (by rw [List.length_map]; unfold unit; rw [List.length_map, List.length_range])] at *
        rw [← e4]
        exact g
      · have g := e2.more (s := s) e1 t1
        rw [t2, t3, Rat.zero_add, ← hl, pr_step h2] at g
        exact g
theorem short_sm {l : List Rat} (h : ∀ r ∈ l, Sm r) : shortV l = true := by
  have hd : ∀ d ≤ 12, 0 < d → d ∣ 27720 := by
    intro d h1 h2
    have : ∀ m ≤ 12, 0 < m → 27720 / m * m = 27720 := by decide
    exact ⟨27720 / d, by rw [Nat.mul_comm]; exact (this d h1 h2).symm⟩
  have lc : ∀ (l : List Rat) (d : Nat), d ∣ 27720 → (∀ r ∈ l, Sm r) → l.foldl (fun d r => Nat.lcm d r.den) d ∣ 27720 := by
    intro l
    induction l with
    | nil => exact fun d h1 _ => h1
    | cons r l ih => exact fun d h1 h2 => ih _ (Nat.lcm_dvd h1 (hd _ (h2 r List.mem_cons_self).2 (Nat.pos_of_ne_zero r.den_nz))) fun s hs => h2 s (List.mem_cons_of_mem _ hs)
  have hD : lcml l ∣ 27720 := lc l 1 (Nat.one_dvd _) h
  have hl : lcml l ≤ 27720 := Nat.le_of_dvd (by decide) hD
  unfold shortV
  rw [Bool.and_eq_true]
  refine ⟨decide_eq_true (by omega), ?_⟩
  rw [List.all_eq_true]
  intro r hr
  have hn := (h r hr).1
  have hq : lcml l / r.den ≤ 27720 := Nat.le_trans (Nat.div_le_self _ _) hl
  have := Nat.mul_le_mul hn hq
  exact decide_eq_true (by omega)
theorem zip_noughtR : ∀ xs : List Rat, List.zipWith (fun r s => r + s) xs (List.replicate xs.length (0 : Rat)) = xs
  | [] => rfl
  | y :: ys => by rw [List.length_cons, List.replicate_succ, List.zipWith_cons_cons, Rat.add_zero, zip_noughtR ys]
theorem etx_full {nms : List (List Nat)} {x : Rat} {xs : List Rat} (hN : NmsOk nms) (hl : xs.length = nms.length) (hx : Sm x) (hS : ∀ s ∈ xs, Sm s) : rfull nms (etx nms x xs) = .inr (x, xs) := by
  have key : GB nms (etx nms x xs) x xs := by
    have h := etx1_ok hN hl hS nms.length (Nat.le_refl _)
    have hz : (nms.zip xs).take nms.length = nms.zip xs := List.take_of_length_le (by rw [List.length_zip]; omega)
    have hb := tx_base (nms := nms) hx
    have hp : pr xs nms.length = xs := by
      rw [← hl]
      exact pr_all xs
    have hr : (List.replicate nms.length (0 : Rat)).map (sgE (decide (x.num < 0))) = List.replicate nms.length 0 := by
      rw [List.map_replicate, sgE_zero]
    rw [hz, hp] at h
    unfold etx
    rcases h with ⟨e1, e2⟩ | ⟨e1, e2⟩
    · rw [e1, if_neg (fun z => z.2 rfl)]
      have g := GB.one (s := x) hb
      rw [sgE_ab, hr, ← hl, ← pr_zero, ← e2] at g
      exact g
    · by_cases h0 : x = 0
      · rw [if_pos ⟨h0, e1⟩, h0]
        exact e2
      · rw [if_neg (fun z => h0 z.1)]
        have g := e2.more (s := x) e1 hb
        rw [sgE_ab, Rat.zero_add, hr] at g
        have ez : List.zipWith (fun r s => r + s) xs (List.replicate nms.length (0 : Rat)) = xs := by
          rw [← hl]
          exact zip_noughtR xs
        rw [ez] at g
        exact g
  have g := (key [] (fun c hc => nomatch hc)).full
  rw [List.append_nil, if_pos (short_sm fun r hr => by
    rcases List.mem_cons.mp hr with rfl | hr
    · exact hx
    · exact hS r hr)] at g
  exact g
theorem tdl_len {s : Rat} (h : Sm s) : (tdl (ab s)).length ≤ 7 ∧ sgs (tdl (ab s)) = 0 := by
  have hd := TL.numL_len (n := s.den) (k := 2) (by decide) (Nat.lt_of_le_of_lt h.2 (by decide))
  have hn := TL.numL_len (n := s.num.natAbs) (k := 4) (by decide) (Nat.lt_of_le_of_lt h.1 (by decide))
  have e : tdl (ab s) = TL.numL s.num.natAbs ++ if s.den = 1 then [] else 47 :: TL.numL s.den := by
    unfold tdl
    rw [ab_num, ab_den, Int.natAbs_natCast, if_neg (by omega)]
    rfl
  rw [e, List.length_append, sgs_app, sgs_num]
  split
  · exact ⟨by show _ + 0 ≤ 7; omega, rfl⟩
  · refine ⟨by rw [List.length_cons]; omega, ?_⟩
    rw [show (47 :: TL.numL s.den) = [47] ++ TL.numL s.den from rfl, sgs_app, sgs_num]
    decide
theorem tx_len {o : Option (List Nat)} {s : Rat} (h : Sm s) (hN : ∀ n, o = some n → NmOk n) : (tx o s).length ≤ 16 ∧ sgs (tx o s) = 0 := by
  obtain ⟨l1, l2⟩ := tdl_len h
  cases o with
  | none => exact ⟨Nat.le_trans l1 (by decide), l2⟩
  | some n =>
    have hn := hN n rfl
    have hg := sgs_nm hn
    have h8 := hn.2.2
    unfold tx
    dsimp only
    split
    · exact ⟨by omega, hg⟩
    · rw [List.length_append, List.length_cons, sgs_app, l2, show (42 :: n) = [42] ++ n from rfl, sgs_app, hg]
      exact ⟨by omega, by decide⟩
theorem jn_len {t w : List Nat} {s : Rat} (h : w.length ≤ 16 ∧ sgs w = 0) : (jn t s w).length ≤ t.length + 19 ∧ sgs (jn t s w) ≤ sgs t + 1 := by
  unfold jn
  by_cases ht : t = []
  · rw [if_pos ht, List.length_append, sgs_app, h.2]
    have := h.1
    split
    · exact ⟨by show 1 + _ ≤ _; omega, by show 1 + 0 ≤ _; omega⟩
    · exact ⟨by show 0 + _ ≤ _; omega, Nat.zero_le _⟩
  · rw [if_neg ht, List.length_append, List.length_append, sgs_app, sgs_app, h.2]
    have := h.1
    split
    · exact ⟨by show _ + (3 + _) ≤ _; omega, by show _ + (1 + 0) ≤ _; omega⟩
    · exact ⟨by show _ + (3 + _) ≤ _; omega, by show _ + (1 + 0) ≤ _; omega⟩
theorem etx1_len {nms : List (List Nat)} {xs : List Rat} (hN : NmsOk nms) (hl : xs.length = nms.length) (hS : ∀ s ∈ xs, Sm s) : ∀ k ≤ nms.length, (etx1 ((nms.zip xs).take k) []).length ≤ 19 * k ∧ sgs (etx1 ((nms.zip xs).take k) []) ≤ k := by
  intro k
  induction k with
  | zero => exact fun _ => ⟨Nat.le_refl _, Nat.le_refl _⟩
  | succ k ih =>
    intro hk
    obtain ⟨n, s, h1, h2, h3⟩ := zip_at hl (show k < nms.length by omega)
    have hs := hS s (List.mem_of_getElem? h2)
    have hn := List.mem_of_getElem? h1
    obtain ⟨i1, i2⟩ := ih (by omega)
    rw [etx1_snoc h3]
    split
    · exact ⟨by omega, by omega⟩
    · have j := jn_len (t := etx1 ((nms.zip xs).take k) []) (s := s) (tx_len (o := some n) hs fun m hm => by obtain rfl := Option.some.inj hm; exact hN.2.2 _ hn)
      exact ⟨by omega, by omega⟩
theorem etx_len {nms : List (List Nat)} {x : Rat} {xs : List Rat} (hN : NmsOk nms) (hl : xs.length = nms.length) (hx : Sm x) (hS : ∀ s ∈ xs, Sm s) : (etx nms x xs).length ≤ 100 ∧ sgs (etx nms x xs) ≤ 5 := by
  obtain ⟨i1, i2⟩ := etx1_len hN hl hS nms.length (Nat.le_refl _)
  have h4 := hN.1
  rw [List.take_of_length_le (by rw [List.length_zip]; omega)] at i1 i2
  unfold etx
  split
  · exact ⟨by omega, by omega⟩
  · have j := jn_len (t := etx1 (nms.zip xs) []) (s := x) (tx_len (o := none) hx fun m hm => nomatch hm)
    exact ⟨by omega, by omega⟩
/-- what the program joins: the terms of the slopes other than 0, and the base's -/
def wts (l : List (List Nat × Rat)) : List (Rat × List Nat) := (l.filter fun p => decide (p.2 ≠ 0)).map fun p => (p.2, tx (some p.1) p.2)
def jall (l : List (Rat × List Nat)) (t : List Nat) : List Nat := l.foldl (fun t p => jn t p.1 p.2) t
theorem jall_wts : ∀ (l : List (List Nat × Rat)) (t : List Nat), jall (wts l) t = etx1 l t
  | [], _ => rfl
  | p :: l, t => by
    unfold wts etx1
    by_cases h : p.2 = 0
    · rw [List.filter_cons_of_neg (by simp [h]), List.foldl_cons, if_pos h]
      exact jall_wts l t
    · rw [List.filter_cons_of_pos (by simp [h]), List.foldl_cons, if_neg h]
      exact jall_wts l _
theorem jall_ne : ∀ {l : List (Rat × List Nat)} {t : List Nat}, (∀ p ∈ l, p.2 ≠ []) → t ≠ [] → jall l t ≠ []
  | [], _, _, h => h
  | p :: l, t, h1, h => show jall l (jn t p.1 p.2) ≠ [] from jall_ne (fun q hq => h1 q (List.mem_cons_of_mem _ hq)) (jn_ne (h1 p List.mem_cons_self))
theorem jall_nil {l : List (Rat × List Nat)} (h : ∀ p ∈ l, p.2 ≠ []) : jall l [] = [] ↔ l = [] := by
  cases l with
  | nil => exact ⟨fun _ => rfl, fun _ => rfl⟩
  | cons p l => exact ⟨fun z => absurd (show jall l (jn [] p.1 p.2) = [] from z) (jall_ne (fun q hq => h q (List.mem_cons_of_mem _ hq)) (jn_ne (h p List.mem_cons_self))), fun z => nomatch z⟩
theorem jall_all {nms : List (List Nat)} {x : Rat} {xs : List Rat} (hne : ∀ p ∈ wts (nms.zip xs), p.2 ≠ []) : jall (wts (nms.zip xs) ++ if x ≠ 0 ∨ wts (nms.zip xs) = [] then [(x, tx none x)] else []) [] = etx nms x xs := by
  have h := jall_nil hne
  rw [jall_wts] at h
  unfold etx
  unfold jall
  rw [List.foldl_append]
  have e : (wts (nms.zip xs)).foldl (fun t p => jn t p.1 p.2) [] = etx1 (nms.zip xs) [] := jall_wts _ _
  rw [e]
  by_cases h1 : x = 0 ∧ etx1 (nms.zip xs) [] ≠ []
  · rw [if_pos h1, if_neg (fun z => by
      rcases z with z | z
      · exact z h1.1
      · exact h1.2 (h.mpr z))]
    rfl
  · rw [if_neg h1, if_pos]
    · rfl
    · by_cases hx : x = 0
      · exact .inr (h.mp (Classical.byContradiction fun z => h1 ⟨hx, z⟩))
      · exact .inl hx
theorem wts_ne {nms : List (List Nat)} {xs : List Rat} (hN : NmsOk nms) (hS : ∀ s ∈ xs, Sm s) : ∀ p ∈ wts (nms.zip xs), p.2 ≠ [] ∧ Sm p.1 ∧ p.2.length ≤ 16 := by
  intro p hp
  obtain ⟨q, hq, rfl⟩ := List.mem_map.mp hp
  have h1 := List.of_mem_zip (List.mem_filter.mp hq).1
  have hs := hS _ h1.2
  obtain ⟨z, zs, t1, _⟩ := tx_name hs h1.1 (hN.2.2 _ h1.1)
  exact ⟨t1.ne, hs, (tx_len hs fun m hm => by obtain rfl := Option.some.inj hm; exact hN.2.2 _ h1.1).1⟩
end

/-- a comprehension with a condition, whose elements are things of a kind: those of L that are some -/
theorem lc_sel {α : Type} (Rel : Hp → Addr → α → Prop) (up : ∀ {H H' t x}, Same H H' → Rel H t x → Rel H' t x) (over : ∀ {H H' t D x ys}, Rel H t x → H D = some (.lst ys) → (∀ b o, b ≠ D → H b = some o → H' b = some o) → Rel H' t x)
    {J : It} {n : Nat} {G : Hp → Prop} {Y : Nat → Hp → V → Hp → Prop} (w : Walk J n G Y) (L : List (Option α)) (hL : L.length = n) (hz : n ≤ 1000)
    {g : TG} {tt : TT} {te : TE} {vs : List Nat} {σ : L2.St} {H1 : Hp} {D : Addr} {Qd : Hp → Prop} (hD : H1 D = none) (hG : ∀ H, Same H1 H → G H)
    (hs : ∀ i c x H H' (kk : V → Hp → Prop) (kn : Hp → Prop), L[i]? = some c → Same H1 H → Y i H x H' → (∀ r, c = some r → ∀ t H4, Same H H4 → Rel H4 t r → kk (.ref t) H4) → (c = none → ∀ H4, Same H H4 → kn H4) → g x (wipe σ vs) H' fun σ2 H2 => wipe σ2 vs = wipe σ vs ∧ tt σ2 H2 fun b H3 => if b = true then te σ2 H3 kk else kn H3)
    (hd : ∀ H (ws : List (Addr × α)), Same H1 H → H D = some (.lst (ws.map fun w => .ref w.1)) → (∀ w ∈ ws, Rel H w.1 w.2) → ws.map (·.2) = L.filterMap id → Qd H) :
    ∃ W : Nat → Nat → Hp → Prop, (∃ m, W 0 m (upd H1 D (.lst []))) ∧ ∀ i m H, W i m H →
      (J.stop i H ∧ Qd H) ∨ (J.go i H ∧ ∃ Nx : Hp → Prop, (∀ H', Nx H' → ∃ m', m' < m ∧ W (i + 1) m' H') ∧ ∀ x H', J.yld i H x H' → g x (wipe σ vs) H' fun σ2 H2 => wipe σ2 vs = wipe σ vs ∧ tt σ2 H2 fun b H3 =>
        if b = true then te σ2 H3 fun y H4 => ∃ acc, H4 D = some (.lst acc) ∧ acc.length < sizeLine ∧ Nx (upd H4 D (.lst (acc ++ [y]))) else Nx H3) := by
  subst hL
  refine lc_it w (fun i H => Same H1 H ∧ ∃ ws : List (Addr × α), H D = some (.lst (ws.map fun w => .ref w.1)) ∧ (∀ w ∈ ws, Rel H w.1 w.2) ∧ ws.map (·.2) = (L.take i).filterMap id ∧ ws.length ≤ i) ⟨same_upd hD, [], upd_same, (fun _ z => nomatch z), rfl, Nat.le_refl _⟩ (fun i H _ h => hG H h.1) ?_ ?_
  · rintro i x H H' hi ⟨s1, ws, e1, r1, m1, l1⟩ y
    have hr : L[i]? = some L[i] := List.getElem?_eq_getElem hi
    have tk : (L.take (i + 1)).filterMap id = (L.take i).filterMap id ++ [L[i]].filterMap id := by
      rw [List.take_add_one, hr, List.filterMap_append]
      rfl
    refine hs i L[i] x H H' _ _ hr s1 y (fun r hc t H4 s4 f4 => ?_) (fun hc H4 s4 => ?_)
    · have e4 := s4 _ _ e1
      refine ⟨_, e4, ?_, fun b o e => ?_, ws ++ [(t, r)], ?_, fun v hv => ?_, ?_, ?_⟩
      · rw [List.length_map]
        exact small1000 (by omega)
      · rw [upd_ne (ne_of_none e hD)]
        exact s4 _ _ (s1 _ _ e)
      · rw [upd_same, List.map_append]
        rfl
      · rcases List.mem_append.mp hv with h | h
        · exact over (up s4 (r1 v h)) e4 fun b o hb e => by rw [upd_ne hb]; exact e
        · rw [List.mem_singleton.mp h]
          exact over f4 e4 fun b o hb e => by rw [upd_ne hb]; exact e
      · rw [List.map_append, m1, tk, hc]
        rfl
      · rw [List.length_append]
        exact Nat.succ_le_succ l1
    · refine ⟨s1.trans s4, ws, s4 _ _ e1, fun w hw => up s4 (r1 w hw), ?_, Nat.le_succ_of_le l1⟩
      rw [tk, m1, hc]
      exact (List.append_nil _).symm
  · rintro H ⟨s1, ws, e1, r1, m1, _⟩
    rw [List.take_length] at m1
    exact hd H ws s1 e1 r1 m1
section
open SX (S)
/-- a term: its slope, its text -/
def Tm (K : PySem.W.Frag) (H : Hp) (t : Addr) (p : Rat × List Nat) : Prop := ∃ u, SqT K H t [.ref u, .str (S p.2)] ∧ Fx K H u p.1
theorem Tm.up {K : PySem.W.Frag} {H H' : Hp} {t : Addr} {p : Rat × List Nat} (s : Same H H') (h : Tm K H t p) : Tm K H' t p := by
  obtain ⟨u, h1, h2⟩ := h
  exact ⟨u, same_tup s h1, h2.same s⟩
theorem Tm.over {K : PySem.W.Frag} {H H' : Hp} {t D : Addr} {p : Rat × List Nat} {ys : List V} (h : Tm K H t p) (hl : H D = some (.lst ys)) (s : ∀ b o, b ≠ D → H b = some o → H' b = some o) : Tm K H' t p := by
  obtain ⟨u, h1, h2⟩ := h
  exact ⟨u, over_tup h1 hl s, over_tup h2 hl s⟩
def wsel (l : List (List Nat × Rat)) : List (Option (Rat × List Nat)) := l.map fun p => if p.2 = 0 then none else some (p.2, tx (some p.1) p.2)
theorem wsel_wts : ∀ l, (wsel l).filterMap id = wts l
  | [] => rfl
  | p :: l => by
    have ih := wsel_wts l
    unfold wsel wts at *
    by_cases h : p.2 = 0
    · rw [List.map_cons, if_pos h, List.filter_cons_of_neg (by simp [h])]
      exact ih
    · rw [List.map_cons, if_neg h, List.filter_cons_of_pos (by simp [h]), List.map_cons, ← ih]
      rfl
end

def Ro {α : Type} (ws : List (Addr × α)) : List V := ws.map fun w => V.ref w.1
theorem Ro_len {α : Type} (ws : List (Addr × α)) : (Ro ws).length = ws.length := List.length_map _
theorem Ro_get {α : Type} {ws : List (Addr × α)} {i : Nat} {v : V} (h : (Ro ws)[i]? = some v) : ∃ w, v = .ref w.1 ∧ ws[i]? = some w := by
  rw [show Ro ws = ws.map fun w => V.ref w.1 from rfl, List.getElem?_map] at h
  cases e : ws[i]? with
  | none =>
    rw [e] at h
    cases h
  | some w =>
    rw [e] at h
    exact ⟨w, (Option.some.inj h).symm, rfl⟩
theorem Ro_at {α : Type} {ws : List (Addr × α)} {i : Nat} {w : Addr × α} (h : ws[i]? = some w) : (Ro ws)[i]? = some (.ref w.1) := by
  rw [show Ro ws = ws.map fun w => V.ref w.1 from rfl, List.getElem?_map, h]
  rfl
/-- a comprehension whose elements are things of a kind that may be lists: those of L -/
theorem lc_relD {α : Type} {J : It} {n : Nat} {G : Hp → Prop} {Y : Nat → Hp → V → Hp → Prop} (w : Walk J n G Y) (L : List α) (hL : L.length = n) (hz : n ≤ 1000)
    {g : TG} {te : TE} {vs : List Nat} {σ : L2.St} {H1 : Hp} {D : Addr} {Qd : Hp → Prop} (hD : H1 D = none) (Rel : Hp → Addr → α → Prop) (up : ∀ {H H' t x}, Same H H' → Rel H t x → Rel H' t x) (over : ∀ {H H' t x ys}, Rel H t x → H D = some (.lst ys) → (∀ b o, b ≠ D → H b = some o → H' b = some o) → Rel H' t x) (hG : ∀ H, Same H1 H → G H)
    (hs : ∀ i r x H H' (k : V → Hp → Prop), L[i]? = some r → Same H1 H → (∃ ys, H D = some (.lst ys)) → Y i H x H' → (∀ t H4, Same H H4 → Rel H4 t r → k (.ref t) H4) → g x (wipe σ vs) H' fun σ2 H2 => wipe σ2 vs = wipe σ vs ∧ te σ2 H2 k)
    (hd : ∀ H (ws : List (Addr × α)), Same H1 H → H D = some (.lst (Ro ws)) → (∀ w ∈ ws, Rel H w.1 w.2) → ws.map (·.2) = L → Qd H) :
    ∃ W : Nat → Nat → Hp → Prop, (∃ m, W 0 m (upd H1 D (.lst []))) ∧ ∀ i m H, W i m H →
      (J.stop i H ∧ Qd H) ∨ (J.go i H ∧ ∃ Nx : Hp → Prop, (∀ H', Nx H' → ∃ m', m' < m ∧ W (i + 1) m' H') ∧ ∀ x H', J.yld i H x H' → g x (wipe σ vs) H' fun σ2 H2 => wipe σ2 vs = wipe σ vs ∧ tYes σ2 H2 fun b H3 =>
        if b = true then te σ2 H3 fun y H4 => ∃ acc, H4 D = some (.lst acc) ∧ acc.length < sizeLine ∧ Nx (upd H4 D (.lst (acc ++ [y]))) else Nx H3) := by
  subst hL
  refine lc_it w (fun i H => Same H1 H ∧ ∃ ws : List (Addr × α), H D = some (.lst (Ro ws)) ∧ (∀ w ∈ ws, Rel H w.1 w.2) ∧ ws.map (·.2) = L.take i) ⟨same_upd hD, [], upd_same, (fun _ z => nomatch z), rfl⟩ (fun i H _ h => hG H h.1) ?_ ?_
  · rintro i x H H' hi ⟨s1, ws, e1, r1, m1⟩ y
    have hr : L[i]? = some L[i] := List.getElem?_eq_getElem hi
    have q := hs i L[i] x H H' (fun y H4 => ∃ acc, H4 D = some (.lst acc) ∧ acc.length < sizeLine ∧ (fun H => Same H1 H ∧ ∃ ws : List (Addr × α), H D = some (.lst (Ro ws)) ∧ (∀ w ∈ ws, Rel H w.1 w.2) ∧ ws.map (·.2) = L.take (i + 1)) (upd H4 D (.lst (acc ++ [y])))) hr s1 ⟨_, e1⟩ y (fun t H4 s4 f4 => ?_)
    · refine Eq.mp (congrArg (g x (wipe σ vs) H') ?_) q
      funext σ2 H2
      simp [tYes]
    · have e4 := s4 _ _ e1
      have hlen : ws.length = (L.take i).length := by rw [← m1, List.length_map]
      rw [List.length_take] at hlen
      refine ⟨_, e4, ?_, fun b o e => ?_, ws ++ [(t, L[i])], ?_, fun v hv => ?_, ?_⟩
      · rw [Ro_len]
        exact small1000 (by omega)
      · rw [upd_ne (ne_of_none e hD)]
        exact s4 _ _ (s1 _ _ e)
      · rw [upd_same]
        unfold Ro
        rw [List.map_append]
        rfl
      · rcases List.mem_append.mp hv with h | h
        · exact over (up s4 (r1 v h)) e4 fun b o hb e => by rw [upd_ne hb]; exact e
        · rw [List.mem_singleton.mp h]
          exact over f4 e4 fun b o hb e => by rw [upd_ne hb]; exact e
      · rw [List.map_append, m1, List.take_add_one, hr]
        rfl
  · rintro H ⟨s1, ws, e1, r1, m1⟩
    rw [List.take_length] at m1
    exact hd H ws s1 e1 r1 m1

section
open PySem PySem.Spec PySem.Calls PyProof.Rows PySem.W
/-- a tuple taken apart, one of the targets with a star -/
theorem tp_partsT {prog : Program} {w : World} {A : Around} {E : Value → Shared → Prop} {s : Shared} {a : Addr} {its : Array Value} {n i : Nat} {Q : List Value → Shared → Prop} (hl : IsTup s.heap a its) (hh : A.handled = none) (hi : i < n) (hn : n ≤ its.size + 1) (hz : its.size ≤ 16384)
    (h : ∀ (h' : Heap) tk, (∀ b o, s.heap.get? b = some o → h'.get? b = some o) → Q (its.toList.take i ++ [.ref h'.objs.size] ++ (its.toList.drop i).drop (its.size + 1 - n)) { s with heap := h'.push { cls := .type "list", data := .seq ((its.toList.drop i).take (its.size + 1 - n)).toArray }, toks := tk }) :
    wpAny (model prog w) A (unpackItems (.ref a) n (some i)) Q E s := by
  have far : a ≠ s.heap.objs.size := by
    obtain ⟨o, ho, _⟩ := hl
    exact Nat.ne_of_lt (Heap.lt_size ho)
  unfold unpackItems
  refine wpAny_bind ?_
  unfold notIterableAtAll
  refine wpAny_bind (wpAny_specialOf hl.typeIs slot_tuple_iter.lookup ?_)
  refine wpAny_pure ?_
  simp only [Bool.false_eq_true, if_false]
  refine wpAny_bind (wpAny_holding (iter_tuple hl ?_))
  refine wpAny_bind (wpAny_holding (draw_tuple far i 0 _ _ ⟨_, Heap.get?_push_size _ rfl, rfl, rfl⟩ (hl.push _) (by omega) fun h1 it1 sb => ?_))
  have l1 : IsTup h1 a its := (hl.push _).extBut sb.extBut far
  rw [Nat.zero_add] at it1
  obtain ⟨oi, hoi, _⟩ := id it1
  obtain ⟨ol, hol, _⟩ := id l1
  rw [List.drop_zero]
  have f1 : (its.toList.take i).length = i := by
    rw [List.length_take, Array.length_toList]
    omega
  rw [if_neg (by rw [f1]; exact Nat.lt_irrefl _)]
  refine wpAny_bind (wpAny_holding (kun_collect (s := { s with heap := h1 }) (T := "tuple_iterator") (.inr (.inr (.inr rfl))) (Walks.tuple (A := A.in1) hh s.heap.objs.size a far its) (fun j u st => st.1.typeIs) (k := i) (by omega) ⟨it1, l1⟩ (Heap.lt_size hoi) (Heap.lt_size hol) (fun h2 tk hk => ?_) (by rw [sizeLine_eq]; exact Nat.le_trans hz (by decide))))
  have f2 : (its.toList.drop i).length = its.size - i := by
    rw [List.length_drop, Array.length_toList]
  have f3 : (its.toList.drop i).length - (n - 1 - i) = its.size + 1 - n := by
    rw [f2]
    omega
  show wpAny _ _ (if (its.toList.drop i).length < n - 1 - i then _ else _) _ _ _
  rw [if_neg (by rw [f2]; omega)]
  show wpAny _ _ (newList ((its.toList.drop i).take ((its.toList.drop i).length - (n - 1 - i))) >>= fun d => pure (its.toList.take i ++ [d] ++ (its.toList.drop i).drop ((its.toList.drop i).length - (n - 1 - i)))) _ _ _
  rw [f3]
  have old : ∀ b o, s.heap.get? b = some o → h2.get? b = some o := fun b o e => by
    have nb : b ≠ s.heap.objs.size := Nat.ne_of_lt (Heap.lt_size e)
    exact hk b o nb (sb.extBut b o nb (Heap.get?_push_of_some _ e))
  refine wpAny_bind (PySem.wpAny_newList (wpAny_pure (h h2 tk old)) ?_)
  rw [List.length_take, f2, sizeLine_eq]
  omega
end
section
open PySem PySem.Spec PyProof.Rows
variable {X : Cx} {pos : Pos}
/-- (a, *b, ..) = a tuple, the star at place i of n -/
def gStarT (K : PySem.W.Frag) (n i : Nat) (t : TGs) : TG := fun v σ H Q => ∃ a xs, v = .ref a ∧ SqT K H a xs ∧ n ≤ xs.length + 1 ∧ xs.length ≤ 16384 ∧
  ∀ D, H D = none → t (xs.take i ++ [.ref D] ++ (xs.drop i).drop (xs.length + 1 - n)) σ (upd H D (.lst ((xs.drop i).take (xs.length + 1 - n)))) Q
theorem pg_starT {es : List Expr} {k : Nat} {t : TGs} {n i : Nat} (hc : X.calm = true) (h : PGs X es t)
    (hn : (assignEach es X.env).length = n := by rfl) (hst : (assignEach es X.env).findIdx? (·.1) = some i := by rfl) (hi : i < n := by decide) : PG X (.Tuple es k pos) (gStarT X.K n i t) := by
  refine ⟨fun pins s σ H v u Q I r hw => ?_⟩
  obtain ⟨a, xs, e1, hq, hl, hm, hw⟩ := hw
  subst e1
  cases r
  obtain ⟨its, rv, pl, hz⟩ := I.tuple hq
  have hlen := rv.length
  rw [PyProof.Rows.assign_Tuple]
  refine wpAny_bind (wpAny_standAt ?_)
  unfold unpack
  rw [hn, hst]
  refine wpAny_bind (wpAny_holding (tp_partsT pl (I.ok.hd hc) hi (by rw [List.size_toArray]; omega) (by rw [List.size_toArray]; omega) fun h' tk hx => ?_))
  have I1 : Inv X pins σ H { s with heap := h', toks := tk } := I.kept (t' := tk) hx
  have ez : its.toArray.size = xs.length := by rw [List.size_toArray, hlen]
  rw [ez, show its.toArray.toList = its from rfl]
  have I2 := I1.laid (a := h'.objs.size) (o := .lst ((xs.drop i).take (xs.length + 1 - n))) (h' := h'.push { cls := .type "list", data := .seq ((its.drop i).take (xs.length + 1 - n)).toArray }) (t' := tk) (fun b o e => Heap.get?_push_of_some _ e) (Nat.le_refl _)
    ⟨by
      rw [List.length_take, List.length_drop, PySem.sizeLine_eq]
      omega, _, 0, vals_take (vals_drop rv i) _, Heap.get?_push_size _ rfl⟩
  refine h.run pins _ σ _ _ _ Q I2 ?_ (hw _ (I1.hok.fresh (Nat.le_refl _)))
  exact vals_app (vals_app (vals_take rv i) (.cons rfl .nil)) (vals_drop (vals_drop rv i) _)
end

section
open PySem PySem.Spec PyProof.Rows
abbrev HSuite := Addr → Value → Option Addr → TS
/-- clauses: the slot of the clause's name if it has one, its class, what its suite asks -/
def wMx (K : PySem.W.Frag) (D : Ends) : List (Option Nat × Value × HSuite) → WX
  | [] => fun _ _ _ _ => False
  | (none, k, ts) :: more => fun cl dd τ G => ∃ hit, PySem.W.exmOne K cl k = some hit ∧ (hit = true → ∀ x, G x = none → ts x cl dd D τ G) ∧ (hit = false → wMx K D more cl dd τ G)
  | (some j, k, ts) :: more => fun cl dd τ G => ∃ hit, PySem.W.exmOne K cl k = some hit ∧
      (hit = true → ∀ x, G x = none → ts x cl dd { nx := fun τ' G' => D.nx (τ'.set j none) G', rt := D.rt, bk := fun τ' G' => D.bk (τ'.set j none) G', ct := fun τ' G' => D.ct (τ'.set j none) G' } (τ.set j (some (.ref x))) G) ∧ (hit = false → wMx K D more cl dd τ G)
inductive Clauses (X : Cx) : List ExceptHandler → List (Option Nat × Value × HSuite) → Prop
  | nil : Clauses X [] []
  | plain {nm : Str} {k : Value} {ts : HSuite} {s0 : Stmt} {su : List Stmt} {q1 q2 : Pos} {hs : List ExceptHandler} {l : List (Option Nat × Value × HSuite)} (named : Names X nm k)
      (does : ∀ (x : Addr) (ox : Obj) (cl : Value) (dd : Option Addr) (ps : List (Addr × Obj)), Zc cl dd ox → (∃ vs, ox.data = .fields vs) → PSs (X.suite x ((x, ox) :: ps)) (s0 :: su) (ts x cl dd)) (r : Clauses X hs l) : Clauses X (.ExceptHandler (some (.Name nm q1)) none (s0 :: su) q2 :: hs) ((none, k, ts) :: l)
  | as_ {nm v : Str} {j : Nat} {k : Value} {ts : HSuite} {s0 : Stmt} {su : List Stmt} {q1 q2 : Pos} {hs : List ExceptHandler} {l : List (Option Nat × Value × HSuite)} (named : Names X nm k) (slots : X.N.Nodup) (slot : X.N[j]? = some v) (isLoc : X.env.kindOf v = some .local)
      (does : ∀ (x : Addr) (ox : Obj) (cl : Value) (dd : Option Addr) (ps : List (Addr × Obj)), Zc cl dd ox → (∃ vs, ox.data = .fields vs) → PSs (X.suite x ((x, ox) :: ps)) (s0 :: su) (ts x cl dd)) (r : Clauses X hs l) : Clauses X (.ExceptHandler (some (.Name nm q1)) (some v) (s0 :: su) q2 :: hs) ((some j, k, ts) :: l)
theorem ps_try_mx {X : Cx} {body : List Stmt} {h₀ : ExceptHandler} {more : List ExceptHandler} {l : List (Option Nat × Value × HSuite)} {pos : Pos} {tb : WX → TS} (stk : X.stack = X.env :: X.outer) (own : X.env.frame = some X.env.locals)
    (runs : ∀ (W : WX) (ps : List (Addr × Obj)) (xe : Value → Shared → Prop), Takes (X.tr ps xe) W → PassesOwn (model X.prog X.w) X.A X.env xe → PSs (X.tr ps xe) body (tb W)) (cls : Clauses X (h₀ :: more) l) :
    PS X (.Try body (h₀ :: more) [] [] pos) (fun D τ G => tb (wMx X.K D l) D τ G) := by
  constructor
  intro ps st τ G D Iv asks
  have good := Iv.ok
  have frm : X.A.frames = some (X.env :: X.outer) := stk ▸ good.frames
  apply wpAny_Try_except
  have inner := (runs (wMx X.K D l) (X.pn ++ ps) (fun x s1 => wpAny (model X.prog X.w) X.A (noteFrame x X.env) (fun _ s2 => wpAny (model X.prog X.w) X.A (setFlight x none) (fun _ s3 => wpAny (model X.prog X.w) X.A (handleBy x X.env (h₀ :: more)) (SP X ps D) X.xe s3) X.xe s2) X.xe s1) ?caught PassesOwn.looking).run [] st τ G D (Iv.toTry _) asks
  case caught =>
    intro _ s1 thrown
    obtain ⟨x, B, sI, ps', τ1, G1, cl, dd, rfl, Jt, fresh, upw, above, gone, sameOs, bare, wish⟩ := thrown
    have J1 : Inv X ps τ1 G1 sI := Jt.ofTry good
    have above' : Sky B (X.env :: X.outer) x (Zc cl dd) X.env.locals s1.heap := stk ▸ above
    show wpAny (model X.prog X.w) X.A (noteFrame (.ref x) X.env) _ _ _
    apply Sky.land Zc.steady frm own above'
    intro hp2 down up2
    have J2 : Inv X ps τ1 G1 { s1 with heap := hp2 } := J1.landed fresh down.1 (upw.trans up2) sameOs bare
    obtain ⟨ox, fs2, at2, zx, df2⟩ := down.there
    have noFrame : x ∉ frs (X.env :: X.outer) := by
      intro mem
      obtain ⟨_, oy, atY, notF⟩ := down.2.2.1.mem mem
      have same : ox = oy := Option.some.inj (at2.symm.trans atY)
      exact notF _ (same ▸ df2)
    have offL : x ≠ X.env.locals := fun z => noFrame (List.mem_filterMap.mpr ⟨X.env, List.mem_cons_self, by rw [own, z]⟩)
    have offF : x ∉ X.fs := by
      intro mem
      obtain ⟨e1, in1, eq1⟩ := List.mem_filterMap.mp mem
      exact noFrame (List.mem_filterMap.mpr ⟨e1, List.mem_cons_of_mem _ in1, eq1⟩)
    have inSuite := J2.suite at2 df2 gone offL offF
    have chain : ∀ {hs : List ExceptHandler} {l' : List (Option Nat × Value × HSuite)}, Clauses X hs l' → wMx X.K D l' cl dd τ1 G1 → wpAny (model X.prog X.w) X.A (handleBy (.ref x) X.env hs) (SP X ps D) X.xe { s1 with heap := hp2 } := by
      intro hs l' cs
      have looks : PySem.W.Looks (model X.prog X.w) hp2 (typeOf (.ref x)) cl := fun A1 Q1 E1 t1 kp q => wpAny_typeOf_ref (kp _ _ at2) (zx.1 ▸ q)
      have asked : ∀ {nm : Str} {k : Value} {q1 : Pos} {Q1 : Value → Shared → Prop} {E1 : Value → Shared → Prop}, Names X nm k → Q1 k { s1 with heap := hp2 } → wpAny (model X.prog X.w) (X.A.mark (some (.ref x))) (eval (.Name nm q1) X.env) Q1 E1 { s1 with heap := hp2 } := by
        intro nm k q1 Q1 E1 named done
        obtain ⟨gl, nodbg, bound | ⟨unb, boot, nn⟩⟩ := named
        · exact ld_glob (X := X.suite x ((x, ox) :: (X.pn ++ ps))) inSuite gl bound done nodbg
        · exact ld_blt (X := X.suite x ((x, ox) :: (X.pn ++ ps))) inSuite gl unb boot done nn nodbg
      induction cs with
      | nil => exact fun no => no.elim
      | @plain nm k ts s0 su q1 q2 hs2 l2 named does r ih =>
        rintro ⟨hit, is, yes, no⟩
        refine wpAny_handleBy_cons (codeAny_handlers_test (asked named ((PySem.W.exm_one (M := model X.prog X.w) J2.kIn looks is).here ?_))) (by intro q; cases q)
        cases hit with
        | false => exact ih (no rfl)
        | true =>
          apply codeAny_handlers_suite
          apply HandSPX.lands_againZ down
          intro hp3 down3 up3
          obtain ⟨oz, fs3, at3, zz, df3⟩ := down3.there
          have J3 : Inv X ps τ1 G1 { s1 with heap := hp3 } := J1.landed fresh down3.1 ((upw.trans up2).trans up3) sameOs bare
          refine wpAny_mono ((does x oz cl dd (X.pn ++ ps) zz ⟨_, df3⟩).run [] _ _ G1 _ (J3.suite at3 df3 gone offL offF) (yes rfl x gone)) (fun out s6 end6 => ?_) (fun _ _ z => z.elim)
          cases out with
          | ret u =>
            obtain ⟨v6, τ6, G6, K6, r6, q6⟩ := end6
            exact ⟨_, _, _, K6.unsuite good, r6, q6⟩
          | next | brk | cont =>
            obtain ⟨τ6, G6, K6, q6⟩ := end6
            exact ⟨_, _, K6.unsuite good, q6⟩
      | @as_ nm v j k ts s0 su q1 q2 hs2 l2 named slots slot isLoc does r ih =>
        rintro ⟨hit, is, yes, no⟩
        refine wpAny_handleBy_cons (codeAny_handlers_test (asked named ((PySem.W.exm_one (M := model X.prog X.w) J2.kIn looks is).here ?_))) (by intro q; cases q)
        cases hit with
        | false => exact ih (no rfl)
        | true =>
          apply codeAny_handlers_suite_as
          apply HandSPX.lands_againZ down
          intro hp3 down3 up3
          obtain ⟨oz, fs3, at3, zz, df3⟩ := down3.there
          have J3 : Inv X ps τ1 G1 { s1 with heap := hp3 } := J1.landed fresh down3.1 ((upw.trans up2).trans up3) sameOs bare
          refine store_ok (X := X.suite x ((x, oz) :: (X.pn ++ ps))) (v := .ref x) (J3.suite at3 df3 gone offL offF) slots slot (.inl isLoc) rfl (fun s5 K5 => ?_) (.inr isLoc)
          refine wpAny_mono ((does x oz cl dd (X.pn ++ ps) zz ⟨_, df3⟩).run [] s5 _ G1 _ K5 (yes rfl x gone)) (fun out s6 end6 => ?_) (fun _ _ z => z.elim)
          have leave : ∀ {τ6 : L2.St} {G6 : Hp} {Q6 : Shared → Prop}, Inv (X.suite x ((x, oz) :: (X.pn ++ ps))) [] τ6 G6 s6 → (∀ s7, Inv X ps (τ6.set j none) G6 s7 → Q6 s7) → wpAny (model X.prog X.w) X.A (do bindName X.env v .none; unbindBehindTheSuite X.env v q2) (fun _ s7 => Q6 s7) X.xe s6 := fun K6 fin => gone_ok (K6.unsuite good) slots slot isLoc fin
          cases out with
          | ret u =>
            obtain ⟨v6, τ6, G6, K6, r6, q6⟩ := end6
            exact leave K6 fun _ J7 => ⟨_, _, _, J7, r6, q6⟩
          | next | brk | cont =>
            obtain ⟨τ6, G6, K6, q6⟩ := end6
            exact leave K6 fun _ J7 => ⟨_, _, J7, q6⟩
    exact chain cls wish
  refine wpAny_mono inner (fun out s1 fin => ?_) fun _ _ z => z
  cases out with
  | next =>
    obtain ⟨τ1, G1, J1, q1⟩ := fin
    exact wpAny_execs_nil ⟨τ1, G1, J1.ofTry good, q1⟩
  | brk | cont =>
    obtain ⟨τ1, G1, J1, q1⟩ := fin
    exact ⟨τ1, G1, J1.ofTry good, q1⟩
  | ret u =>
    obtain ⟨v1, τ1, G1, J1, r1, q1⟩ := fin
    exact ⟨v1, τ1, G1, J1.ofTry good, r1, q1⟩
theorem pe_dead {X : Cx} {e : Expr} : PE X e (fun _ _ _ => False) := ⟨fun _ _ _ _ _ _ h => h.elim⟩
end


section
variable {P : Program} {w : World} {K : PySem.W.Frag} {mg : Str → Option Value} {base : Heap}
theorem okIni {C fIni : Addr} {fdIni : FuncData} (F : Fun K "__init__" "TextFault.__init__" sIni fIni fdIni) (ox : OexC K C) (nl : PySem.W.findIn K (.ref C) "line" = some none) (nc : PySem.W.findIn K (.ref C) "column" = some none) :
    FnOk P w K mg base CX0 1 fIni fdIni ["self", "line", "column"] (spFIni K C) := by
  refine F.ok scIni (fun vs H Q E h => ?_) (fun cdv A outer s H vs Q E hr h => ?_)
  · obtain ⟨a, l, c, rfl, ha, k⟩ := h
    rfl
  · obtain ⟨a, l, c, rfl, ha, k⟩ := h
    refine ⟨_, (pss_cons (ps_ost (pv 0) (pv 1)) (pss_one (ps_ost (pv 0) (pv 2)))), ?_⟩
    refine ⟨_, rfl, _, rfl, a, C, rfl, ox, nl, .inl ⟨ha, fun dx hd hda => ?_⟩⟩
    have e1 : (upd (upd H dx (exd dx [("line", .int l)])) a (exo a C (some dx))) a = some (exo a C (some dx)) := upd_same
    have e2 : (upd (upd H dx (exd dx [("line", .int l)])) a (exo a C (some dx))) dx = some (exd dx [("line", .int l)]) := by
      rw [upd_ne hda, upd_same]
    refine ⟨_, rfl, _, rfl, a, C, rfl, ox, nc, .inr ⟨dx, _, e1, e2, by show 1 ≤ 900; decide, ?_⟩⟩
    refine k dx _ hd hda (by rw [upd_ne hda.symm]; exact e1) upd_same (fun b o b1 b2 e => ?_)
    rw [upd_ne b2, upd_ne b1, upd_ne b2]
    exact e
open SX (S)
def spRowEnd (K : PySem.W.Frag) : Sp := fun vs H Q _ => ∃ (a b : List Nat) (i : Nat), vs = [.str (S a), .int i, .str (S b)] ∧ a.length ≤ 3000 ∧ i ≤ a.length ∧ Q (.int ((i + dg b a i : Nat) : Int)) H
theorem okRowEnd {fRowEnd : Addr} {fdRowEnd : FuncData} (F : Fun K "row_end" "row_end" sRowEnd fRowEnd fdRowEnd) (T : Txt mg) {aLETTERS : Tok} {aWORD_CHARACTERS : Tok} {aNAME_LENGTH : Tok} {aMOST_PARAMETERS : Tok} (CT : Cons K mg aLETTERS aWORD_CHARACTERS aNAME_LENGTH aMOST_PARAMETERS) {CPartError CTextFault CUnknown CTaken CBeyond CFull : Addr} (EX : Exns K mg CPartError CTextFault CUnknown CTaken CBeyond CFull) {fIni : Addr} {fdIni : FuncData} (FL : Flt K mg CPartError CTextFault CUnknown CTaken CBeyond CFull fIni) (GIni : FnOk P w K mg base CX0 1 fIni fdIni ["self", "line", "column"] (spFIni K CTextFault)) (bIni : Binds K fdIni ["self", "line", "column"] []) {CDocument : Addr} (OBDocument : ObDocument K mg CDocument) :
    FnOk P w K mg base CX0 1 fRowEnd fdRowEnd ["text", "at", "allowed"] (spRowEnd K) := by
  refine F.ok scRowEnd (fun vs H Q E h => ?_) (fun cdv A outer s H vs Q E hr h => ?_)
  · obtain ⟨a, b, i, rfl, hlen, hi, k⟩ := h
    rfl
  · obtain ⟨a, b, i, rfl, hlen, hi, k⟩ := h
    refine ⟨_, (C8.pss_cut (ps_while PassesOwn.never (PW.pt (pw_and (pt_cmpR op_lt (pv 1) (pe_callB call_len_str (by rfl) T.len PySem.boot_len (pa_cons (pv 0) pa_nil)) (nomark _)) (pw_and1 (pt_cmpR op_in_sign (pe_ix ix_str (pv 0) (pv 1) (fun _ _ => rfl)) (pv 2) (by rfl)))))
        (pss_one (ps_aug (i := 1) scRowEnd.nd rfl (.inl rfl) pe_int ip_add)))
      (pss_one (ps_ret (pv 1)))), ?_⟩
    have hz : (S a).length ≤ sizeLine := by
      rw [SX.S_len, PySem.sizeLine_eq]
      omega
    refine ⟨fun σ' H' => σ' = [some (.str (S a)), some (.int ((i + dg b a i : Nat) : Int)), some (.str (S b))] ∧ H' = H, ?_, ?_⟩
    · refine ⟨fun m σ' H' => ∃ j, m = dg b a i - j ∧ j ≤ dg b a i ∧ σ' = [some (.str (S a)), some (.int ((i + j : Nat) : Int)), some (.str (S b))] ∧ H' = H, ⟨_, 0, rfl, Nat.zero_le _, rfl, rfl⟩, ?_⟩
      rintro m σ' H' ⟨j, rfl, hj, rfl, rfl⟩
      refine ⟨_, rfl, _, rfl, S a, rfl, hz, _, _, rfl, rfl, _, rfl, ?_⟩
      refine ite2 (fun g => ?_) (fun g => ?_)
      · have hlt : i + j < a.length := by
          have g1 := of_decide_eq_true g
          rw [SX.S_len] at g1
          omega
        obtain ⟨c, hc⟩ : ∃ c, a[i + j]? = some c := ⟨a[i + j], List.getElem?_eq_getElem hlt⟩
        refine ⟨_, rfl, _, rfl, S a, _, c, rfl, rfl, hz, atI_nat hc, _, rfl, c, S b, rfl, rfl, _, rfl, ite2 (fun g => ?_) (fun g => ?_)⟩
        · have hb : c ∈ b := of_decide_eq_true g
          have hj2 : j < dg b a i := by
            rcases Nat.lt_or_ge j (dg b a i) with h | h
            · exact h
            · exfalso
              have e : j = dg b a i := by omega
              subst e
              exact dg_out hc hb
          refine ⟨fun σ' H2 => σ' = [some (.str (S a)), some (.int ((i + (j + 1) : Nat) : Int)), some (.str (S b))] ∧ H2 = H', ?_, ?_⟩
          · rintro σ' H2 ⟨rfl, rfl⟩
            exact ⟨_, by omega, j + 1, rfl, hj2, rfl, rfl⟩
          · walk_at "rd"
            rfl
        · have hb : c ∉ b := of_decide_eq_false (by simpa using g)
          have e : j = dg b a i := by
            rcases Nat.lt_or_ge j (dg b a i) with h | h
            · exfalso
              obtain ⟨d, h1, h2⟩ := dg_in h
              rw [hc] at h1
              rw [← Option.some.inj h1] at h2
              exact hb h2
            · omega
          subst e
          exact ⟨rfl, rfl⟩
      · have hge : a.length ≤ i + j := by
          have g1 : ¬ ((i + j : Nat) : Int) < ((S a).length : Int) := fun z => g (decide_eq_true z)
          rw [SX.S_len] at g1
          omega
        have h1 := dg_le (b := b) hi
        have e : j = dg b a i := by omega
        subst e
        exact ⟨rfl, rfl⟩
    · rintro σ' H' ⟨rfl, rfl⟩
      exact ⟨_, rfl, k⟩
theorem lenS0 : True := trivial
def spIsRow (K : PySem.W.Frag) : Sp := fun vs H Q _ => ∃ a b : List Nat, vs = [.str (S a), .str (S b)] ∧ a.length ≤ 3000 ∧ Q (.bl (isRow b a)) H
theorem okIsRow {fIsRow : Addr} {fdIsRow : FuncData} (F : Fun K "is_row" "is_row" sIsRow fIsRow fdIsRow) (T : Txt mg) {aLETTERS : Tok} {aWORD_CHARACTERS : Tok} {aNAME_LENGTH : Tok} {aMOST_PARAMETERS : Tok} (CT : Cons K mg aLETTERS aWORD_CHARACTERS aNAME_LENGTH aMOST_PARAMETERS) {CPartError CTextFault CUnknown CTaken CBeyond CFull : Addr} (EX : Exns K mg CPartError CTextFault CUnknown CTaken CBeyond CFull) {fIni : Addr} {fdIni : FuncData} (FL : Flt K mg CPartError CTextFault CUnknown CTaken CBeyond CFull fIni) (GIni : FnOk P w K mg base CX0 1 fIni fdIni ["self", "line", "column"] (spFIni K CTextFault)) (bIni : Binds K fdIni ["self", "line", "column"] []) {CDocument : Addr} (OBDocument : ObDocument K mg CDocument)
    {fRowEnd : Addr} {fdRowEnd : FuncData} (GRowEnd : FnOk P w K mg base CX0 1 fRowEnd fdRowEnd ["text", "at", "allowed"] (spRowEnd K)) (gRowEnd : mg "row_end" = some (.ref fRowEnd)) (kpRowEnd : PySem.W.keepIn K (.ref fRowEnd) = true) (bRowEnd : Binds K fdRowEnd ["text", "at", "allowed"] []) :
    FnOk P w K mg base CX0 2 fIsRow fdIsRow ["text", "allowed"] (spIsRow K) := by
  refine F.ok scIsRow (fun vs H Q E h => ?_) (fun cdv A outer s H vs Q E hr h => ?_)
  · obtain ⟨a, b, rfl, hl, k⟩ := h
    rfl
  · obtain ⟨a, b, rfl, hl, k⟩ := h
    refine ⟨_, (pss_one (ps_ret (pe_and (pe_cmpR op_gt (pe_callB call_len_str (by rfl) T.len PySem.boot_len (pa_cons (pv 0) pa_nil)) pe_int (nomark _)) (pe_one (pe_cmpR op_eq (pe_call GRowEnd hr (by rfl) gRowEnd kpRowEnd bRowEnd .nil pass0 (pa_cons (pv 0) (pa_cons pe_int (pa_cons (pv 1) pa_nil)))) (pe_callB call_len_str (by rfl) T.len PySem.boot_len (pa_cons (pv 0) pa_nil)) (nomark _)))))), ?_⟩
    have hz := S_sl hl
    unfold isRow at k
    walk_at "go"
    rw [lenS]
    by_cases h0 : 0 < a.length
    · rw [decide_eq_true h0, Bool.true_and] at k
      refine iteT' (decide_eq_true (by omega)) ?_
      walk_at "go"
      refine ⟨a, b, 0, rfl, hl, Nat.zero_le _, ?_⟩
      walk_at "go"
      rw [lenS, show decide (V.int ((0 + dg b a 0 : Nat) : Int) = V.int (a.length : Int)) = allIn b a from by
        rw [Nat.zero_add]
        by_cases h : allIn b a = true
        · rw [h, dg_all.mpr h]
          exact decide_eq_true rfl
        · rw [Bool.not_eq_true] at h
          rw [h]
          refine decide_eq_false fun z => ?_
          have z2 := V.int.inj z
          have := dg_all.mp (show dg b a 0 = a.length by omega)
          rw [h] at this
          cases this]
      exact k
    · rw [decide_eq_false h0, Bool.false_and] at k
      refine iteF' (decide_eq_false (by omega)) ?_
      exact k
def spIsShortWord (K : PySem.W.Frag) : Sp := fun vs H Q _ => ∃ a f b : List Nat, vs = [.str (S a), .str (S f), .str (S b)] ∧ a.length ≤ 3000 ∧ Q (.bl (shortW f b a)) H
theorem okIsShortWord {fIsShortWord : Addr} {fdIsShortWord : FuncData} (F : Fun K "is_short_word" "is_short_word" sIsShortWord fIsShortWord fdIsShortWord) (T : Txt mg) {aLETTERS : Tok} {aWORD_CHARACTERS : Tok} {aNAME_LENGTH : Tok} {aMOST_PARAMETERS : Tok} (CT : Cons K mg aLETTERS aWORD_CHARACTERS aNAME_LENGTH aMOST_PARAMETERS) {CPartError CTextFault CUnknown CTaken CBeyond CFull : Addr} (EX : Exns K mg CPartError CTextFault CUnknown CTaken CBeyond CFull) {fIni : Addr} {fdIni : FuncData} (FL : Flt K mg CPartError CTextFault CUnknown CTaken CBeyond CFull fIni) (GIni : FnOk P w K mg base CX0 1 fIni fdIni ["self", "line", "column"] (spFIni K CTextFault)) (bIni : Binds K fdIni ["self", "line", "column"] []) {CDocument : Addr} (OBDocument : ObDocument K mg CDocument)
    {fIsRow : Addr} {fdIsRow : FuncData} (GIsRow : FnOk P w K mg base CX0 2 fIsRow fdIsRow ["text", "allowed"] (spIsRow K)) (gIsRow : mg "is_row" = some (.ref fIsRow)) (kpIsRow : PySem.W.keepIn K (.ref fIsRow) = true) (bIsRow : Binds K fdIsRow ["text", "allowed"] []) :
    FnOk P w K mg base CX0 3 fIsShortWord fdIsShortWord ["text", "first", "others"] (spIsShortWord K) := by
  refine F.ok scIsShortWord (fun vs H Q E h => ?_) (fun cdv A outer s H vs Q E hr h => ?_)
  · obtain ⟨a, f, b, rfl, hl, k⟩ := h
    rfl
  · obtain ⟨a, f, b, rfl, hl, k⟩ := h
    refine ⟨_, (pss_one (ps_ret (pe_and (pe_call GIsRow hr (by rfl) gIsRow kpIsRow bIsRow .nil pass0 (pa_cons (pv 0) (pa_cons (pv 2) pa_nil))) (pe_and (pe_cmpR op_le (pe_callB call_len_str (by rfl) T.len PySem.boot_len (pa_cons (pv 0) pa_nil)) (pe_glob (v := .int 16) (by rfl) CT.gNAME_LENGTH ⟨_, rfl⟩) (nomark _)) (pe_one (pe_cmpR op_in_sign (pe_ix ix_str (pv 0) pe_int (fun _ _ => rfl)) (pv 1) (by rfl))))))), ?_⟩
    have hz := S_sl hl
    unfold shortW at k
    walk_at "go"
    cases hr1 : isRow b a with
    | false =>
      rw [hr1, Bool.false_and] at k
      exact k
    | true =>
      rw [hr1, Bool.true_and] at k
      walk_at "go"
      rw [lenS]
      by_cases h16 : a.length ≤ 16
      · rw [decide_eq_true h16, Bool.true_and] at k
        refine iteT' (decide_eq_true (by omega)) ?_
        obtain ⟨c, r, rfl⟩ := isRow_ne hr1
        walk_at "go"
        refine ⟨S (c :: r), 0, c, rfl, rfl, hz, atI_nat (j := 0) rfl, ?_⟩
        walk_at "go"
        exact k
      · rw [decide_eq_false h16, Bool.false_and] at k
        exact iteF' (decide_eq_false (by omega)) k
def spLess (K : PySem.W.Frag) : Sp := fun vs H Q _ => ∃ (a b : Addr) (p q r s : Int), vs = [.ref a, .ref b] ∧ SqT K H a (zs [p, q]) ∧ SqT K H b (zs [r, s]) ∧ p.natAbs < 2 ^ 800 ∧ q.natAbs < 2 ^ 800 ∧ r.natAbs < 2 ^ 800 ∧ s.natAbs < 2 ^ 800 ∧ Q (.bl (decide (p * s < r * q))) H
theorem okLess {fLess : Addr} {fdLess : FuncData} (F : Fun K "less" "less" sLess fLess fdLess) (T : Txt mg) {aLETTERS : Tok} {aWORD_CHARACTERS : Tok} {aNAME_LENGTH : Tok} {aMOST_PARAMETERS : Tok} (CT : Cons K mg aLETTERS aWORD_CHARACTERS aNAME_LENGTH aMOST_PARAMETERS) {CPartError CTextFault CUnknown CTaken CBeyond CFull : Addr} (EX : Exns K mg CPartError CTextFault CUnknown CTaken CBeyond CFull) {fIni : Addr} {fdIni : FuncData} (FL : Flt K mg CPartError CTextFault CUnknown CTaken CBeyond CFull fIni) (GIni : FnOk P w K mg base CX0 1 fIni fdIni ["self", "line", "column"] (spFIni K CTextFault)) (bIni : Binds K fdIni ["self", "line", "column"] []) {CDocument : Addr} (OBDocument : ObDocument K mg CDocument) :
    FnOk P w K mg base CX0 1 fLess fdLess ["a", "b"] (spLess K) := by
  refine F.ok scLess (fun vs H Q E h => ?_) (fun cdv A outer s H vs Q E hr h => ?_)
  · obtain ⟨a, b, p, q, r, s, rfl, hA, hB, hp, hq, hr', hs, k⟩ := h
    rfl
  · obtain ⟨a, b, p, q, r, s, rfl, hA, hB, hp, hq, hr', hs, k⟩ := h
    refine ⟨_, (pss_one (ps_ret (pe_cmpR op_lt (pe_op op_mulW (pe_ix ix_tup (pv 0) pe_int (fun _ _ => rfl)) (pe_ix ix_tup (pv 1) pe_int (fun _ _ => rfl))) (pe_op op_mulW (pe_ix ix_tup (pv 1) pe_int (fun _ _ => rfl)) (pe_ix ix_tup (pv 0) pe_int (fun _ _ => rfl))) (nomark _)))), ?_⟩
    exact ⟨.ref a, rfl, a, _, 0, _, rfl, rfl, hA, atI_nat (j := 0) rfl, .ref b, rfl, b, _, 1, _, rfl, rfl, hB, atI_nat (j := 1) rfl, _, _, rfl, rfl, wide_mul hp hs (by decide) (by decide) (by decide), .ref b, rfl, b, _, 0, _, rfl, rfl, hB, atI_nat (j := 0) rfl, .ref a, rfl, a, _, 1, _, rfl, rfl, hA, atI_nat (j := 1) rfl, _, _, rfl, rfl, wide_mul hr' hq (by decide) (by decide) (by decide), _, _, rfl, rfl, k⟩
def LTl : List Nat := [97, 98, 99, 100, 101, 102, 103, 104, 105, 106, 107, 108, 109, 110, 111, 112, 113, 114, 115, 116, 117, 118, 119, 120, 121, 122, 65, 66, 67, 68, 69, 70, 71, 72, 73, 74, 75, 76, 77, 78, 79, 80, 81, 82, 83, 84, 85, 86, 87, 88, 89, 90]
theorem LTl_S : ("abcdefghijklmnopqrstuvwxyzABCDEFGHIJKLMNOPQRSTUVWXYZ" : Str) = S LTl := by decide +kernel
def spIsParameterName (K : PySem.W.Frag) : Sp := fun vs H Q _ => ∃ a : List Nat, vs = [.str (S a)] ∧ a.length ≤ 3000 ∧ Q (.bl (shortW LTl WCl a)) H
theorem okIsParameterName {fIsParameterName : Addr} {fdIsParameterName : FuncData} (F : Fun K "is_parameter_name" "is_parameter_name" sIsParameterName fIsParameterName fdIsParameterName) (T : Txt mg) {aLETTERS : Tok} {aWORD_CHARACTERS : Tok} {aNAME_LENGTH : Tok} {aMOST_PARAMETERS : Tok} (CT : Cons K mg aLETTERS aWORD_CHARACTERS aNAME_LENGTH aMOST_PARAMETERS) {CPartError CTextFault CUnknown CTaken CBeyond CFull : Addr} (EX : Exns K mg CPartError CTextFault CUnknown CTaken CBeyond CFull) {fIni : Addr} {fdIni : FuncData} (FL : Flt K mg CPartError CTextFault CUnknown CTaken CBeyond CFull fIni) (GIni : FnOk P w K mg base CX0 1 fIni fdIni ["self", "line", "column"] (spFIni K CTextFault)) (bIni : Binds K fdIni ["self", "line", "column"] []) {CDocument : Addr} (OBDocument : ObDocument K mg CDocument)
    {fIsShortWord : Addr} {fdIsShortWord : FuncData} (GIsShortWord : FnOk P w K mg base CX0 3 fIsShortWord fdIsShortWord ["text", "first", "others"] (spIsShortWord K)) (gIsShortWord : mg "is_short_word" = some (.ref fIsShortWord)) (kpIsShortWord : PySem.W.keepIn K (.ref fIsShortWord) = true) (bIsShortWord : Binds K fdIsShortWord ["text", "first", "others"] []) :
    FnOk P w K mg base CX0 4 fIsParameterName fdIsParameterName ["text"] (spIsParameterName K) := by
  refine F.ok scIsParameterName (fun vs H Q E h => ?_) (fun cdv A outer s H vs Q E hr h => ?_)
  · obtain ⟨a, rfl, hl, k⟩ := h
    rfl
  · obtain ⟨a, rfl, hl, k⟩ := h
    refine ⟨_, (pss_one (ps_ret (pe_call GIsShortWord hr (by rfl) gIsShortWord kpIsShortWord bIsShortWord .nil pass0 (pa_cons (pv 0) (pa_cons (pe_glob (v := .str "abcdefghijklmnopqrstuvwxyzABCDEFGHIJKLMNOPQRSTUVWXYZ") (by rfl) CT.gLETTERS ⟨_, rfl⟩) (pa_cons (pe_glob (v := .str "abcdefghijklmnopqrstuvwxyzABCDEFGHIJKLMNOPQRSTUVWXYZ0123456789_") (by rfl) CT.gWORD_CHARACTERS ⟨_, rfl⟩) pa_nil)))))), ?_⟩
    refine ⟨_, rfl, a, LTl, WCl, ?_, hl, k⟩
    rw [← LTl_S, ← WCl_S]
    rfl
abbrev Same3 := Same
/-- a parameter of a document -/
structure Pm where
  nm : List Nat
  v : Rat
  lo : Rat
  hi : Rat
def PmAt (K : PySem.W.Frag) (H : Hp) (w : Addr) (p : Pm) : Prop := ∃ v l h : Addr, H w = some (.lst [sv p.nm, .ref v, .ref l, .ref h]) ∧ Fx K H v p.v ∧ Fx K H l p.lo ∧ Fx K H h p.hi
theorem PmAt.up {K : PySem.W.Frag} {H H' : Hp} {w : Addr} {p : Pm} (s : Same H H') (h : PmAt K H w p) : PmAt K H' w p := by
  obtain ⟨v, l, g, h1, h2, h3, h4⟩ := h
  exact ⟨v, l, g, s _ _ h1, h2.same s, h3.same s, h4.same s⟩
theorem PmAt.over {K : PySem.W.Frag} {H H' : Hp} {w D : Addr} {p : Pm} {ys : List V} (h : PmAt K H w p) (hne : w ≠ D) (hl : H D = some (.lst ys)) (s : ∀ b o, b ≠ D → H b = some o → H' b = some o) : PmAt K H' w p := by
  obtain ⟨v, l, g, h1, h2, h3, h4⟩ := h
  exact ⟨v, l, g, s _ _ hne h1, over_fx h2 hl s, over_fx h3 hl s, over_fx h4 hl s⟩
theorem PmAt.ne {K : PySem.W.Frag} {H : Hp} {w D : Addr} {p : Pm} (h : PmAt K H w p) (hD : H D = none) : w ≠ D := fun e => by
  obtain ⟨v, l, g, h1, _⟩ := h
  rw [e, hD] at h1
  cases h1
/-- rows of parameters -/
def PsAt (K : PySem.W.Frag) (H : Hp) (ws : List (Addr × Pm)) : Prop := ∀ w ∈ ws, PmAt K H w.1 w.2
theorem PsAt.up {K : PySem.W.Frag} {H H' : Hp} {ws : List (Addr × Pm)} (s : Same H H') (h : PsAt K H ws) : PsAt K H' ws := fun w hw => (h w hw).up s
/-- a row is not the list of rows -/
theorem PmAt.neL {K : PySem.W.Frag} {H : Hp} {w D : Addr} {p : Pm} {ws : List (Addr × Pm)} (h : PmAt K H w p) (hD : H D = some (.lst (Ro ws))) : w ≠ D := fun e => by
  obtain ⟨v, l, g, h1, _⟩ := h
  rw [e, hD] at h1
  have h2 := HO.lst.inj (Option.some.inj h1)
  cases ws with
  | nil => cases h2
  | cons x ws => cases (List.cons.inj h2).1
theorem PsAt.over {K : PySem.W.Frag} {H H' : Hp} {D : Addr} {ws vs : List (Addr × Pm)} (h : PsAt K H ws) (hl : H D = some (.lst (Ro vs))) (s : ∀ b o, b ≠ D → H b = some o → H' b = some o) : PsAt K H' ws := fun w hw => (h w hw).over ((h w hw).neL hl) hl s
def dcF (lo hi P F G : Addr) : List (Str × V) := [("low", .ref lo), ("high", .ref hi), ("parameters", .ref P), ("features", .ref F), ("kept", .ref G), ("last_feature", .int 0), ("last_name", .int 0)]
/-- a document without features and kept names -/
def DcAt (K : PySem.W.Frag) (CD : Addr) (H : Hp) (p : Addr) (lo hi P : Addr) (ws : List (Addr × Pm)) : Prop := ∃ dx F G : Addr, H p = some (.ins CD dx (dcF lo hi P F G)) ∧ H P = some (.lst (Ro ws)) ∧ H F = some (.lst []) ∧ H G = some (.lst []) ∧ PsAt K H ws ∧ P ≠ F ∧ P ≠ G
theorem DcAt.up {K : PySem.W.Frag} {CD : Addr} {H H' : Hp} {p lo hi P : Addr} {ws : List (Addr × Pm)} (s : Same H H') (h : DcAt K CD H p lo hi P ws) : DcAt K CD H' p lo hi P ws := by
  obtain ⟨dx, F, G, h1, h2, h3, h4, h5, h6⟩ := h
  exact ⟨dx, F, G, s _ _ h1, s _ _ h2, s _ _ h3, s _ _ h4, h5.up s, h6⟩
theorem dc_low (lo hi P F G : Addr) : (dcF lo hi P F G).lookup ("low" : Str) = some (.ref lo) := by kernel_rfl
theorem dc_high (lo hi P F G : Addr) : (dcF lo hi P F G).lookup ("high" : Str) = some (.ref hi) := by kernel_rfl
theorem dc_par (lo hi P F G : Addr) : (dcF lo hi P F G).lookup ("parameters" : Str) = some (.ref P) := by kernel_rfl
theorem dc_fea (lo hi P F G : Addr) : (dcF lo hi P F G).lookup ("features" : Str) = some (.ref F) := by kernel_rfl
theorem dc_kep (lo hi P F G : Addr) : (dcF lo hi P F G).lookup ("kept" : Str) = some (.ref G) := by kernel_rfl
theorem dc_lf (lo hi P F G : Addr) : (dcF lo hi P F G).lookup ("last_feature" : Str) = some (.int 0) := by kernel_rfl
theorem dc_ln (lo hi P F G : Addr) : (dcF lo hi P F G).lookup ("last_name" : Str) = some (.int 0) := by kernel_rfl
theorem dc_no {m : Str} (lo hi P F G : Addr) (h : (["low", "high", "parameters", "features", "kept", "last_feature", "last_name"] : List Str).contains m = false) : (dcF lo hi P F G).lookup m = none := by
  unfold dcF
  simp only [List.contains_cons, List.contains_nil, Bool.or_false, Bool.or_eq_false_iff] at h
  simp only [List.lookup, h.1, h.2.1, h.2.2.1, h.2.2.2.1, h.2.2.2.2.1, h.2.2.2.2.2.1, h.2.2.2.2.2.2]
def Sm1 (q : Addr) (H H' : Hp) : Prop := ∀ b o, b ≠ q → H b = some o → H' b = some o
theorem Sm1.trans {p : Addr} {H H1 H2 : Hp} (a : Sm1 p H H1) (b : Sm1 p H1 H2) : Sm1 p H H2 := fun x o hx e => b x o hx (a x o hx e)
theorem Sm1.upd {p : Addr} {H : Hp} {o : HO} : Sm1 p H (L2.upd H p o) := fun b o hb e => by
  rw [upd_ne hb]
  exact e
theorem sm1 {p : Addr} {H H' : Hp} (s : Same H H') : Sm1 p H H' := fun b o _ e => s b o e
theorem over_insT {K : PySem.W.Frag} {H H' : Hp} {t p C dx : Addr} {fs : List (Str × V)} {xs : List V} (h : SqT K H t xs) (hl : H p = some (.ins C dx fs)) (s : Sm1 p H H') : SqT K H' t xs := by
  rcases h with (h | ⟨ob, h⟩) | h
  · exact .inl (.inl (s _ _ (ne_of h hl (by intro z; cases z)) h))
  · exact .inl (.inr ⟨ob, s _ _ (ne_of h hl (by intro z; cases z)) h⟩)
  · exact .inr h
theorem lst_ins {H H' : Hp} {t p C dx : Addr} {fs : List (Str × V)} {xs : List V} (h : H t = some (.lst xs)) (hl : H p = some (.ins C dx fs)) (s : Sm1 p H H') : H' t = some (.lst xs) := s _ _ (fun e => by
  rw [e, hl] at h
  cases h) h
theorem PsAt.overI {K : PySem.W.Frag} {H H' : Hp} {p C dx : Addr} {fs : List (Str × V)} {ws : List (Addr × Pm)} (h : PsAt K H ws) (hl : H p = some (.ins C dx fs)) (s : Sm1 p H H') : PsAt K H' ws := fun w hw => by
  obtain ⟨v, l, g, h1, h2, h3, h4⟩ := h w hw
  exact ⟨v, l, g, lst_ins h1 hl s, over_insT h2 hl s, over_insT h3 hl s, over_insT h4 hl s⟩
theorem dc_make (lo hi P F G : Addr) : putF "last_name" (.int 0) (putF "last_feature" (.int 0) (putF "kept" (.ref G) (putF "features" (.ref F) (putF "parameters" (.ref P) (putF "high" (.ref hi) (putF "low" (.ref lo) [])))))) = dcF lo hi P F G := by kernel_rfl
theorem dc_p1 (lo hi P F G P' : Addr) : putF "parameters" (.ref P') (dcF lo hi P F G) = dcF lo hi P' F G := by kernel_rfl
theorem dc_p2 (lo hi P F G F' : Addr) : putF "features" (.ref F') (dcF lo hi P F G) = dcF lo hi P F' G := by kernel_rfl
theorem dc_p3 (lo hi P F G G' : Addr) : putF "kept" (.ref G') (dcF lo hi P F G) = dcF lo hi P F G' := by kernel_rfl
theorem dc_p4 (lo hi P F G : Addr) : putF "last_feature" (.int 0) (dcF lo hi P F G) = dcF lo hi P F G := by kernel_rfl
theorem dc_p5 (lo hi P F G : Addr) : putF "last_name" (.int 0) (dcF lo hi P F G) = dcF lo hi P F G := by kernel_rfl
def spDocumentNames (K : PySem.W.Frag) (CDocument : Addr) : Sp := fun vs H Q _ => ∃ (p lo hi P : Addr) (ws : List (Addr × Pm)), vs = [.ref p] ∧ DcAt K CDocument H p lo hi P ws ∧ ws.length ≤ 100 ∧ ∀ (H' : Hp) (D : Addr), Same H H' → H D = none → H' D = some (.lst (ws.map fun w => sv w.2.nm)) → Q (.ref D) H'
theorem okDocumentNames {fDocumentNames : Addr} {fdDocumentNames : FuncData} (F : Fun K "names" "Document.names" sDocumentNames fDocumentNames fdDocumentNames) (T : Txt mg) {aLETTERS : Tok} {aWORD_CHARACTERS : Tok} {aNAME_LENGTH : Tok} {aMOST_PARAMETERS : Tok} (CT : Cons K mg aLETTERS aWORD_CHARACTERS aNAME_LENGTH aMOST_PARAMETERS) {CPartError CTextFault CUnknown CTaken CBeyond CFull : Addr} (EX : Exns K mg CPartError CTextFault CUnknown CTaken CBeyond CFull) {fIni : Addr} {fdIni : FuncData} (FL : Flt K mg CPartError CTextFault CUnknown CTaken CBeyond CFull fIni) (GIni : FnOk P w K mg base CX0 1 fIni fdIni ["self", "line", "column"] (spFIni K CTextFault)) (bIni : Binds K fdIni ["self", "line", "column"] []) {CDocument : Addr} (OBDocument : ObDocument K mg CDocument) :
    FnOk P w K mg base CX0 1 fDocumentNames fdDocumentNames ["self"] (spDocumentNames K CDocument) := by
  refine F.ok scDocumentNames (fun vs H Q E h => ?_) (fun cdv A outer s H vs Q E hr h => ?_)
  · obtain ⟨p, lo, hi, P, ws, rfl, hD, hl, q⟩ := h
    rfl
  · obtain ⟨p, lo, hi, P, ws, rfl, hD, hl, q⟩ := h
    refine ⟨_, (pss_one (ps_ret (pe_lc (own := [("row", 1)]) (by rfl) scDocumentNames.nd (pi_list (pe_fld (pv 0) rfl)) (blkOk_by (own := [("row", 1)]) (N := ["self", "row"]) (sc := defScope sDocumentNames) (by decide +kernel)) (fun _ _ _ _ _ => (pg_name (i := 1) scDocumentNames.nd rfl (Or.inl rfl))) (fun _ _ _ _ _ => pts_nil) (fun _ _ _ _ _ => (pe_ix (show IxR _ (rIxL K) from ix_list) (pv 1) pe_int (fun _ _ => rfl)))))), ?_⟩
    obtain ⟨dx, F, G, h1, h2, h3, h4, h5, hPF0, hPG0⟩ := hD
    refine ⟨_, rfl, p, _, dx, _, _, rfl, h1, OBDocument.cl, OBDocument.nparameters, dc_par _ _ _ _ _, ?_⟩
    refine ⟨P, rfl, ⟨_, SqL.of h2⟩, fun D hD => ?_⟩
    refine lc_val (walk_list (K := K) (a := P) (xs := Ro ws)) (ws.map fun w => sv w.2.nm) (by rw [List.length_map, Ro_len]) (by rw [Ro_len]; omega) hD (fun H s => s.seq (SqL.of h2)) ?_ ?_
    · rintro i r x H3 H4 kk hr s3 ⟨rfl, hv⟩ yk
      obtain ⟨w, rfl, gw⟩ := Ro_get hv
      obtain ⟨v, l, g, e1, _⟩ := (h5 w (List.mem_of_getElem? gw)).up s3
      have er : r = sv w.2.nm := by
        rw [List.getElem?_map, gw] at hr
        exact (Option.some.inj hr).symm
      subst er
      exact ⟨rfl, _, rfl, w.1, _, _, _, rfl, rfl, SqL.of e1, atI_nat (j := 0) rfl, yk _ (Same.refl _)⟩
    intro H3 s3 e3
    exact q H3 D s3 hD e3
def fP (C : Addr) (E : XK) (H : Hp) : Prop := ∀ H' : Hp, Same H H' → E (.ref C) none H'
theorem fP.up {C : Addr} {E : XK} {H H1 : Hp} (h : fP C E H) (s : Same H H1) : fP C E H1 := fun H' s' => h H' (s.trans s')
def Sm2 (p P : Addr) (H H' : Hp) : Prop := ∀ b o, b ≠ p → b ≠ P → H b = some o → H' b = some o
def ltF (a b : Rat) : Bool := decide (a.num * (b.den : Int) < b.num * (a.den : Int))
def bdF (a : Rat) : Prop := a.num.natAbs < 2 ^ 800 ∧ (a.den : Int).natAbs < 2 ^ 800
def bdP (p : Pm) : Prop := bdF p.v ∧ bdF p.lo ∧ bdF p.hi
theorem str_len (a b : Str) : (a ++ b).length = a.length + b.length := by
  show (a.cps ++ b.cps).size = _
  rw [Array.size_append]
  rfl
theorem inV_names (nm : List Nat) (ws : List (Addr × Pm)) : inV (sv nm) (ws.map fun w => sv w.2.nm) = decide (nm ∈ ws.map (·.2.nm)) := by
  induction ws with
  | nil => rfl
  | cons w ws ih =>
    unfold inV at ih ⊢
    rw [List.map_cons, List.any_cons, ih, List.map_cons, eqV_sv, Bool.eq_iff_iff, Bool.or_eq_true, decide_eq_true_eq, decide_eq_true_eq, decide_eq_true_eq, List.mem_cons]
    constructor
    · rintro (h | h)
      · exact .inl h.symm
      · exact .inr h
    · rintro (h | h)
      · exact .inl h.symm
      · exact .inr h
theorem flat_names (ws : List (Addr × Pm)) : (ws.map fun w => sv w.2.nm).all flatV = true := by
  rw [List.all_map]
  exact List.all_eq_true.mpr fun _ _ => rfl
def spDeclare (K : PySem.W.Frag) (CDocument : Addr) (CTextFault CTaken CFull CBeyond CUnknown : Addr) : Sp := fun vs H Q E => ∃ (p lo hi P v l h : Addr) (ws : List (Addr × Pm)) (n : Pm), vs = [.ref p, .str (SX.S n.nm), .ref v, .ref l, .ref h] ∧ DcAt K CDocument H p lo hi P ws ∧ ws.length ≤ 4 ∧ Fx K H v n.v ∧ Fx K H l n.lo ∧ Fx K H h n.hi ∧ bdP n ∧ n.nm.length ≤ 100 ∧
  (shortW LTl WCl n.nm = false → fE CTextFault E H 1 1) ∧
  (shortW LTl WCl n.nm = true → n.nm ∈ ws.map (·.2.nm) → fP CTaken E H) ∧
  (shortW LTl WCl n.nm = true → n.nm ∉ ws.map (·.2.nm) → ws.length = 4 → fP CFull E H) ∧
  (shortW LTl WCl n.nm = true → n.nm ∉ ws.map (·.2.nm) → ws.length ≠ 4 → (ltF n.v n.lo || ltF n.hi n.v) = true → fP CBeyond E H) ∧
  (shortW LTl WCl n.nm = true → n.nm ∉ ws.map (·.2.nm) → ws.length ≠ 4 → (ltF n.v n.lo || ltF n.hi n.v) = false → ∀ (H' : Hp) (t : Addr), Sm2 p P H H' → DcAt K CDocument H' p lo hi P (ws ++ [(t, n)]) → Q .non H')
theorem okDeclare {fDeclare : Addr} {fdDeclare : FuncData} (F : Fun K "declare" "declare" sDeclare fDeclare fdDeclare) (T : Txt mg) {aLETTERS : Tok} {aWORD_CHARACTERS : Tok} {aNAME_LENGTH : Tok} {aMOST_PARAMETERS : Tok} (CT : Cons K mg aLETTERS aWORD_CHARACTERS aNAME_LENGTH aMOST_PARAMETERS) {CPartError CTextFault CUnknown CTaken CBeyond CFull : Addr} (EX : Exns K mg CPartError CTextFault CUnknown CTaken CBeyond CFull) {fIni : Addr} {fdIni : FuncData} (FL : Flt K mg CPartError CTextFault CUnknown CTaken CBeyond CFull fIni) (GIni : FnOk P w K mg base CX0 1 fIni fdIni ["self", "line", "column"] (spFIni K CTextFault)) (bIni : Binds K fdIni ["self", "line", "column"] []) {CDocument : Addr} (OBDocument : ObDocument K mg CDocument)
    {fDocumentNames : Addr} {fdDocumentNames : FuncData} (GDocumentNames : FnOk P w K mg base CX0 1 fDocumentNames fdDocumentNames ["self"] (spDocumentNames K CDocument)) (gDocumentNames : Meth K CDocument "names" fDocumentNames) (kpDocumentNames : PySem.W.keepIn K (.ref fDocumentNames) = true) (bDocumentNames : Binds K fdDocumentNames ["self"] [])
    {fIsParameterName : Addr} {fdIsParameterName : FuncData} (GIsParameterName : FnOk P w K mg base CX0 4 fIsParameterName fdIsParameterName ["text"] (spIsParameterName K)) (gIsParameterName : mg "is_parameter_name" = some (.ref fIsParameterName)) (kpIsParameterName : PySem.W.keepIn K (.ref fIsParameterName) = true) (bIsParameterName : Binds K fdIsParameterName ["text"] [])
    {fLess : Addr} {fdLess : FuncData} (GLess : FnOk P w K mg base CX0 1 fLess fdLess ["a", "b"] (spLess K)) (gLess : mg "less" = some (.ref fLess)) (kpLess : PySem.W.keepIn K (.ref fLess) = true) (bLess : Binds K fdLess ["a", "b"] []) :
    FnOk P w K mg base (L2.CX P w) 5 fDeclare fdDeclare ["document", "name", "value", "low", "high"] (spDeclare K CDocument CTextFault CTaken CFull CBeyond CUnknown) := by
  refine F.okX scDeclare (fun vs H Q E h => ?_) (fun cdv A outer s H vs Q E hr h => ?_)
  · obtain ⟨p, lo, hi, P, v, l, h, ws, n, rfl, hD, hl, f1, f2, f3, hb, hnl, q1, q2, q3, q4, q5⟩ := h
    rfl
  · obtain ⟨p, lo, hi, P, v, l, h, ws, n, rfl, hD, hl, f1, f2, f3, hb, hnl, q1, q2, q3, q4, q5⟩ := h
    refine ⟨_, (pss_cons (ps_if (pt_not (pt_val (pe_call GIsParameterName hr (by rfl) gIsParameterName kpIsParameterName bIsParameterName .nil pass0 (pa_cons (pv 1) pa_nil))))
        (pss_one (ps_raise rfl (takes_of rfl rfl rfl rfl) (pmk_oex FL.ox FL.iC FL.tI GIni (hr.mono (by decide)) bIni .nil pass0 (by rfl) FL.g (pa_cons pe_int (pa_cons pe_int pa_nil)))))
        pss_nil)
      (pss_cons (ps_if (pt_cmpR op_in_seq (pv 1) (pe_meth0 (pv 0) OBDocument.cl gDocumentNames GDocumentNames (hr.mono (by decide)) bDocumentNames .nil pass0) (by rfl))
        (pss_one (ps_raise rfl (takes_of rfl rfl rfl rfl) (SkE.pmk_own1 PySem.F.excBase_ValueError EX.xTaken EX.gTaken EX.kTaken (raises_own EX.bTaken EX.tTaken) rfl (pe_joined (.cons pe_str (.cons (pe_fmt (pv 1)) .nil))))))
        pss_nil)
      (pss_cons (ps_if (pt_cmpR op_eq (pe_callB call_len_seq (by rfl) T.len PySem.boot_len (pa_cons (pe_fld (pv 0) rfl) pa_nil)) (pe_glob (v := .int 4) (by rfl) CT.gMOST_PARAMETERS ⟨_, rfl⟩) (nomark _))
        (pss_one (ps_raise rfl (takes_of rfl rfl rfl rfl) (SkE.pmk_own1 PySem.F.excBase_ValueError EX.xFull EX.gFull EX.kFull (raises_own EX.bFull EX.tFull) rfl (pe_joined (.cons pe_str (.cons (pe_fmt (pe_glob (v := .int 4) (by rfl) CT.gMOST_PARAMETERS ⟨_, rfl⟩)) (.cons pe_str .nil)))))))
        pss_nil)
      (pss_cons (ps_if (PW.pt (pw_or (pt_val (pe_call GLess (hr.mono (by decide)) (by rfl) gLess kpLess bLess .nil pass0 (pa_cons (pv 2) (pa_cons (pv 3) pa_nil)))) (pw_or1 (pt_val (pe_call GLess (hr.mono (by decide)) (by rfl) gLess kpLess bLess .nil pass0 (pa_cons (pv 4) (pa_cons (pv 2) pa_nil)))))))
        (pss_one (ps_raise rfl (takes_of rfl rfl rfl rfl) (SkE.pmk_own1 PySem.F.excBase_ValueError EX.xBeyond EX.gBeyond EX.kBeyond (raises_own EX.bBeyond EX.tBeyond) rfl pe_str)))
        pss_nil)
      (pss_cons (ps_expr (pe_bm PySem.F.plainAttrs_list PySem.F.slot_list_append PySem.F.type_list_append mt_append (pe_fld (pv 0) rfl) (pa_cons (pe_lst (pa_cons (pv 1) (pa_cons (pv 2) (pa_cons (pv 3) (pa_cons (pv 4) pa_nil))))) pa_nil)))
      (pss_cons (ps_set (i := 5) scDeclare.nd rfl (Or.inr rfl) (pe_meth0 (pv 0) OBDocument.cl gDocumentNames GDocumentNames (hr.mono (by decide)) bDocumentNames .nil pass0))
      (pss_one (ps_fld (pv 0) (pe_lc (own := [("row", 6)]) (by rfl) scDeclare.nd (pi_list (pe_fld (pv 0) rfl)) (blkOk_by (own := [("row", 6)]) (N := ["document", "name", "value", "low", "high", "names", "row"]) (sc := defScope sDeclare) (by decide +kernel)) (fun _ _ _ _ _ => (pg_name (i := 6) scDeclare.nd rfl (Or.inl rfl))) (fun _ _ _ _ _ => pts_nil) (fun _ _ _ _ _ => pe_dead)) rfl)))))))), ?_⟩
    have hD0 := hD
    obtain ⟨dx, F, G, h1, h2, h3, h4, h5, hPF0, hPG0⟩ := hD0
    walk_at "go"
    refine ⟨by omega, ?_⟩
    cases hsw : shortW LTl WCl n.nm with
    | false =>
      refine ⟨_, rfl, ?_⟩
      refine iteT' rfl ?_
      exact fault_mk fun d H' s _ e => q1 hsw d H' s e
    | true =>
      refine ⟨_, rfl, ?_⟩
      refine iteF' rfl ?_
      walk_at "go"
      refine ⟨p, dx, _, rfl, h1, dc_no _ _ _ _ _ (by decide +kernel), ?_⟩
      refine ⟨p, lo, hi, P, ws, rfl, hD, by omega, fun H1 N1 s1 nN1 eN1 => ?_⟩
      refine ⟨N1, _, rfl, .inl (SqL.of eN1), rfl, flat_names ws, ?_⟩
      rw [if_neg Bool.false_ne_true, show inV (V.str (SX.S n.nm)) (ws.map fun w => sv w.2.nm) = _ from inV_names n.nm ws]
      refine ⟨_, rfl, ?_⟩
      have hDz := hD.up s1
      by_cases hin : n.nm ∈ ws.map (·.2.nm)
      · refine iteT' (decide_eq_true hin) ?_
        refine ⟨_, rfl, by rw [PySem.sizeLine_eq]; decide +kernel, ?_⟩
        refine ⟨_, rfl, .inl ⟨_, rfl, S_sl (by omega), _, rfl, ?_, ?_⟩⟩
        · rw [str_len, show (Str.empty ++ "there is a parameter " : Str).length = 21 by decide +kernel, SX.S_len, PySem.sizeLine_eq]
          omega
        · exact q2 hsw hin H1 s1
      · refine iteF' (decide_eq_false hin) ?_
        refine ⟨_, rfl, p, _, dx, _, _, rfl, s1 _ _ h1, OBDocument.cl, OBDocument.nparameters, dc_par _ _ _ _ _, ?_⟩
        refine ⟨P, _, rfl, .inl (SqL.of (s1 _ _ h2)), ?_⟩
        rw [Ro_len]
        walk_at "go"
        by_cases h40 : ws.length = 4
        · refine iteT' (decide_eq_true (by rw [h40]; rfl)) ?_
          refine ⟨_, rfl, by rw [PySem.sizeLine_eq]; decide +kernel, ?_⟩
          refine .inr ⟨4, rfl, by decide, _, rfl, by rw [PySem.sizeLine_eq]; decide +kernel, ?_⟩
          refine ⟨_, rfl, by rw [PySem.sizeLine_eq]; decide +kernel, ?_⟩
          exact q3 hsw hin h40 H1 s1
        · refine iteF' (decide_eq_false fun z => h40 (by have := V.int.inj z; omega)) ?_
          walk_at "go"
          refine ⟨v, l, n.v.num, (n.v.den : Int), n.lo.num, (n.lo.den : Int), rfl, f1.same s1, f2.same s1, hb.1.1, hb.1.2, hb.2.1.1, hb.2.1.2, ?_⟩
          refine ⟨_, rfl, ?_⟩
          rw [show decide (n.v.num * (n.lo.den : Int) < n.lo.num * (n.v.den : Int)) = ltF n.v n.lo from rfl]
          cases hl1 : ltF n.v n.lo with
          | true =>
            refine iteT' rfl ?_
            exact q4 hsw hin h40 (by rw [hl1]; rfl) H1 s1
          | false =>
            refine iteF' rfl ?_
            walk_at "go"
            refine ⟨h, v, n.hi.num, (n.hi.den : Int), n.v.num, (n.v.den : Int), rfl, f3.same s1, f1.same s1, hb.2.2.1, hb.2.2.2, hb.1.1, hb.1.2, ?_⟩
            refine ⟨_, rfl, ?_⟩
            rw [show decide (n.hi.num * (n.v.den : Int) < n.v.num * (n.hi.den : Int)) = ltF n.hi n.v from rfl]
            cases hl2 : ltF n.hi n.v with
            | true =>
              refine iteT' rfl ?_
              exact q4 hsw hin h40 (by rw [hl1, hl2]; rfl) H1 s1
            | false =>
              refine iteF' rfl ?_
              refine ⟨_, rfl, p, _, dx, _, _, rfl, s1 _ _ h1, OBDocument.cl, OBDocument.nparameters, dc_par _ _ _ _ _, ?_⟩
              refine ⟨.inl ⟨rfl, _, SqL.of (s1 _ _ h2)⟩, ?_⟩
              walk_at "go"
              refine ⟨tn rfl, fun t nt => ?_⟩
              generalize hUt : upd _ _ (HO.lst _) = H2
              have s2 := same_hu hUt nt
              have ey2 := at_hu hUt
              have y2 := SqL.of (K := K) ey2
              clear hUt
              have e2 := s2 _ _ (s1 _ _ h2)
              refine ⟨P, _, _, rfl, rfl, e2, by rw [Ro_len]; exact small1000 (by omega), ?_⟩
              have xP : ∀ b o, b ≠ P → H2 b = some o → (upd H2 P (.lst (Ro ws ++ [.ref t]))) b = some o := fun b o hb e => by
                rw [upd_ne hb]
                exact e
              have htP : t ≠ P := fun e => by rw [e, s1 _ _ h2] at nt; cases nt
              have hPt : PmAt K H2 t n := ⟨v, l, h, ey2, f1.same (s1.trans s2), f2.same (s1.trans s2), f3.same (s1.trans s2)⟩
              have r3 : PsAt K (upd H2 P (.lst (Ro ws ++ [.ref t]))) (ws ++ [(t, n)]) := fun w hw => by
                rcases List.mem_append.mp hw with hw | hw
                · exact ((h5.up (s1.trans s2)).over e2 xP) w hw
                · rw [List.mem_singleton.mp hw]
                  exact hPt.over htP e2 xP
              have hpP : p ≠ P := fun e => by rw [e, h2] at h1; cases h1
              have x3 : Sm2 p P H (upd H2 P (.lst (Ro ws ++ [.ref t]))) := fun b o _ hb e => xP b o hb (s2 _ _ (s1 _ _ e))
              have d3 : (upd H2 P (.lst (Ro ws ++ [.ref t]))) p = some (.ins CDocument dx (dcF lo hi P F G)) := xP _ _ hpP (s2 _ _ (s1 _ _ h1))
              have a3 : (upd H2 P (.lst (Ro ws ++ [.ref t]))) P = some (.lst (Ro (ws ++ [(t, n)]))) := by rw [upd_same]; show _ = some (HO.lst (List.map _ _)); rw [List.map_append]; rfl
              have b3 : (upd H2 P (.lst (Ro ws ++ [.ref t]))) F = some (.lst []) := xP _ _ hPF0.symm (s2 _ _ (s1 _ _ h3))
              have c3 : (upd H2 P (.lst (Ro ws ++ [.ref t]))) G = some (.lst []) := xP _ _ hPG0.symm (s2 _ _ (s1 _ _ h4))
              generalize upd H2 P (.lst (Ro ws ++ [.ref t])) = H3 at r3 x3 d3 a3 b3 c3 ⊢
              have hD3 : DcAt K CDocument H3 p lo hi P (ws ++ [(t, n)]) := ⟨dx, F, G, d3, a3, b3, c3, r3, hPF0, hPG0⟩
              refine ⟨_, rfl, p, dx, _, rfl, d3, dc_no _ _ _ _ _ (by decide +kernel), ?_⟩
              refine ⟨p, lo, hi, P, _, rfl, hD3, by rw [List.length_append]; show _ + 1 ≤ 100; omega, fun H4 N4 s4 nN4 eN4 => ?_⟩
              refine ⟨_, rfl, p, _, dx, _, _, rfl, s4 _ _ d3, OBDocument.cl, OBDocument.nfeatures, dc_fea _ _ _ _ _, ?_⟩
              refine ⟨F, rfl, ⟨_, SqL.of (s4 _ _ b3)⟩, fun D2 hD2 => ?_⟩
              refine lc_val (te := fun _ _ _ => False) (walk_list (K := K) (a := F) (xs := [])) [] rfl (Nat.zero_le _) hD2 (fun H s => s.seq (SqL.of (s4 _ _ b3))) ?_ ?_
              · intro i r x H7 H8 kk hr
                cases hr
              intro H5 s5 e5
              have d5 := (s4.trans s5) _ _ d3
              refine ⟨_, rfl, p, _, dx, _, rfl, d5, OBDocument.cl, OBDocument.nfeatures, (by show 7 < 1000; decide), ?_⟩
              rw [dc_p2]
              have x6 : Sm1 p H5 (upd H5 p (.ins CDocument dx (dcF lo hi P D2 G))) := Sm1.upd
              refine q5 hsw hin h40 (by rw [hl1, hl2]; rfl) _ t (fun b o hb1 hb2 e => x6 _ _ hb1 (s5 _ _ (s4 _ _ (x3 _ _ hb1 hb2 e)))) ⟨dx, D2, G, upd_same, lst_ins ((s4.trans s5) _ _ a3) d5 x6, lst_ins e5 d5 x6, lst_ins ((s4.trans s5) _ _ c3) d5 x6, PsAt.overI (r3.up (s4.trans s5)) d5 x6, fun e => ?_, hPG0⟩
              rw [← e, s4 _ _ a3] at hD2
              cases hD2
theorem first_at {nm : List Nat} : ∀ {ws : List (Addr × Pm)}, nm ∈ ws.map (·.2.nm) → ∃ (i : Nat) (w : Addr × Pm), ws[i]? = some w ∧ w.2.nm = nm ∧ ∀ j < i, ∀ u : Addr × Pm, ws[j]? = some u → u.2.nm ≠ nm
  | [], h => by cases h
  | x :: ws, h => by
    by_cases hx : x.2.nm = nm
    · exact ⟨0, x, rfl, hx, fun j hj => absurd hj (Nat.not_lt_zero _)⟩
    · obtain ⟨i, w, h1, h2, h3⟩ := first_at (ws := ws) ((List.mem_cons.mp h).resolve_left fun e => hx e.symm)
      refine ⟨i + 1, w, h1, h2, fun j hj u hu => ?_⟩
      cases j with
      | zero =>
        obtain rfl : x = u := Option.some.inj hu
        exact hx
      | succ j => exact h3 j (by omega) u hu
def spSetValue (K : PySem.W.Frag) (CDocument : Addr) (CTextFault CTaken CFull CBeyond CUnknown : Addr) : Sp := fun vs H Q E => ∃ (p lo hi P v : Addr) (ws : List (Addr × Pm)) (nm : List Nat) (x : Rat), vs = [.ref p, .str (SX.S nm), .ref v] ∧ DcAt K CDocument H p lo hi P ws ∧ ws.length ≤ 4 ∧ Fx K H v x ∧ bdF x ∧ (∀ w ∈ ws, bdP w.2) ∧ nm.length ≤ 100 ∧
  (nm ∉ ws.map (·.2.nm) → fP CUnknown E H) ∧
  (∀ (i : Nat) (w : Addr × Pm), ws[i]? = some w → w.2.nm = nm → (∀ j < i, ∀ u, ws[j]? = some u → u.2.nm ≠ nm) →
    ((ltF x w.2.lo || ltF w.2.hi x) = true → fP CBeyond E H) ∧
    ((ltF x w.2.lo || ltF w.2.hi x) = false → ∀ (H' : Hp) (t : Addr), Sm2 p P H H' → DcAt K CDocument H' p lo hi P (ws.set i (t, ⟨nm, x, w.2.lo, w.2.hi⟩)) → Q .non H'))
theorem okSetValue {fSetValue : Addr} {fdSetValue : FuncData} (F : Fun K "set_value" "set_value" sSetValue fSetValue fdSetValue) (T : Txt mg) {aLETTERS : Tok} {aWORD_CHARACTERS : Tok} {aNAME_LENGTH : Tok} {aMOST_PARAMETERS : Tok} (CT : Cons K mg aLETTERS aWORD_CHARACTERS aNAME_LENGTH aMOST_PARAMETERS) {CPartError CTextFault CUnknown CTaken CBeyond CFull : Addr} (EX : Exns K mg CPartError CTextFault CUnknown CTaken CBeyond CFull) {fIni : Addr} {fdIni : FuncData} (FL : Flt K mg CPartError CTextFault CUnknown CTaken CBeyond CFull fIni) (GIni : FnOk P w K mg base CX0 1 fIni fdIni ["self", "line", "column"] (spFIni K CTextFault)) (bIni : Binds K fdIni ["self", "line", "column"] []) {CDocument : Addr} (OBDocument : ObDocument K mg CDocument)
    {fDocumentNames : Addr} {fdDocumentNames : FuncData} (GDocumentNames : FnOk P w K mg base CX0 1 fDocumentNames fdDocumentNames ["self"] (spDocumentNames K CDocument)) (gDocumentNames : Meth K CDocument "names" fDocumentNames) (kpDocumentNames : PySem.W.keepIn K (.ref fDocumentNames) = true) (bDocumentNames : Binds K fdDocumentNames ["self"] [])
    {fLess : Addr} {fdLess : FuncData} (GLess : FnOk P w K mg base CX0 1 fLess fdLess ["a", "b"] (spLess K)) (gLess : mg "less" = some (.ref fLess)) (kpLess : PySem.W.keepIn K (.ref fLess) = true) (bLess : Binds K fdLess ["a", "b"] []) :
    FnOk P w K mg base (L2.CX P w) 3 fSetValue fdSetValue ["document", "name", "value"] (spSetValue K CDocument CTextFault CTaken CFull CBeyond CUnknown) := by
  refine F.okX scSetValue (fun vs H Q E h => ?_) (fun cdv A outer s H vs Q E hr h => ?_)
  · obtain ⟨p, lo, hi, P, v, ws, nm, x, rfl, hD, hl, f1, hb, hbs, hnl, q1, q2⟩ := h
    rfl
  · obtain ⟨p, lo, hi, P, v, ws, nm, x, rfl, hD, hl, f1, hb, hbs, hnl, q1, q2⟩ := h
    refine ⟨_, (pss_cons (ps_if (pt_cmpR op_notIn_seq (pv 1) (pe_meth0 (pv 0) OBDocument.cl gDocumentNames GDocumentNames (hr.mono (by decide)) bDocumentNames .nil pass0) (by rfl))
        (pss_one (ps_raise rfl (takes_of rfl rfl rfl rfl) (SkE.pmk_own1 PySem.F.excBase_ValueError EX.xUnknown EX.gUnknown EX.kUnknown (raises_own EX.bUnknown EX.tUnknown) rfl (pe_joined (.cons pe_str (.cons (pe_fmt (pv 1)) .nil))))))
        pss_nil)
      (pss_cons (ps_set (i := 3) scSetValue.nd rfl (Or.inl rfl) (pe_bm PySem.F.plainAttrs_list PySem.F.slot_list_index PySem.F.type_list_index mt_index (pe_meth0 (pv 0) OBDocument.cl gDocumentNames GDocumentNames (hr.mono (by decide)) bDocumentNames .nil pass0) (pa_cons (pv 1) pa_nil)))
      (pss_cons (ps_asg (pe_ix ix_list (pe_fld (pv 0) rfl) (pv 3) (fun _ _ => rfl)) (pg_unl rfl (pgs_cons (pg_name (i := 4) scSetValue.nd rfl (Or.inl rfl)) (pgs_cons (pg_name (i := 4) scSetValue.nd rfl (Or.inl rfl)) (pgs_cons (pg_name (i := 5) scSetValue.nd rfl (Or.inl rfl)) (pgs_cons (pg_name (i := 6) scSetValue.nd rfl (Or.inl rfl)) pgs_nil))))))
      (pss_cons (ps_if (PW.pt (pw_or (pt_val (pe_call GLess (hr.mono (by decide)) (by rfl) gLess kpLess bLess .nil pass0 (pa_cons (pv 2) (pa_cons (pv 5) pa_nil)))) (pw_or1 (pt_val (pe_call GLess (hr.mono (by decide)) (by rfl) gLess kpLess bLess .nil pass0 (pa_cons (pv 6) (pa_cons (pv 2) pa_nil)))))))
        (pss_one (ps_raise rfl (takes_of rfl rfl rfl rfl) (SkE.pmk_own1 PySem.F.excBase_ValueError EX.xBeyond EX.gBeyond EX.kBeyond (raises_own EX.bBeyond EX.tBeyond) rfl pe_str)))
        pss_nil)
      (pss_one (ps_asg (pe_lst (pa_cons (pv 1) (pa_cons (pv 2) (pa_cons (pv 5) (pa_cons (pv 6) pa_nil))))) (pg_sub (pe_fld (pv 0) rfl) (pv 3) set_list))))))), ?_⟩
    have hD0 := hD
    obtain ⟨dx, F, G, h1, h2, h3, h4, h5, hPF0, hPG0⟩ := hD0
    refine ⟨_, rfl, _, rfl, p, dx, _, rfl, h1, dc_no _ _ _ _ _ (by decide +kernel), ?_⟩
    refine ⟨p, lo, hi, P, ws, rfl, hD, by omega, fun H1 N1 s1 nN1 eN1 => ?_⟩
    refine ⟨N1, _, rfl, .inl (SqL.of eN1), rfl, flat_names ws, ?_⟩
    rw [if_pos rfl, show inV (V.str (SX.S nm)) (ws.map fun w => sv w.2.nm) = _ from inV_names nm ws]
    refine ⟨_, rfl, ?_⟩
    by_cases hin : nm ∈ ws.map (·.2.nm)
    · refine iteF' (by rw [decide_eq_true hin]; rfl) ?_
      obtain ⟨i, w, hw, hwn, hfirst⟩ := first_at hin
      obtain ⟨g1, g2⟩ := q2 i w hw hwn hfirst
      have hD1 := hD.up s1
      refine ⟨_, rfl, p, dx, _, rfl, s1 _ _ h1, dc_no _ _ _ _ _ (by decide +kernel), ?_⟩
      refine ⟨p, lo, hi, P, ws, rfl, hD1, by omega, fun H2 N2 s2 nN2 eN2 => ?_⟩
      have hnat : (ws.map fun w => sv w.2.nm)[i]? = some (sv nm) := by rw [List.getElem?_map, hw, ← hwn]; rfl
      walk_at "go"
      refine ⟨.inl ⟨rfl, _, SqL.of eN2⟩, _, rfl, N2, _, _, i, sv nm, rfl, rfl, SqL.of eN2, rfl, flat_names ws, hnat, (eqV_sv nm nm).trans (decide_eq_true rfl), fun m z' hm hz => ?_, ?_⟩
      · rw [List.getElem?_map] at hz
        cases eu : ws[m]? with
        | none =>
          rw [eu] at hz
          cases hz
        | some u =>
          rw [eu] at hz
          obtain rfl := Option.some.inj hz
          rw [show eqV (sv u.2.nm) (V.str (SX.S nm)) = _ from eqV_sv u.2.nm nm]
          exact decide_eq_false (hfirst m hm u eu)
      have s12 := s1.trans s2
      obtain ⟨v0, l0, g0, w1, w2, w3, w4⟩ := (h5 w (List.mem_of_getElem? hw)).up s12
      have hwr : (Ro ws)[i]? = some (.ref w.1) := by
        show (ws.map _)[i]? = _
        rw [List.getElem?_map, hw]
        rfl
      refine ⟨_, rfl, p, _, dx, _, _, rfl, s12 _ _ h1, OBDocument.cl, OBDocument.nparameters, dc_par _ _ _ _ _, ?_⟩
      walk_at "go"
      refine ⟨P, _, _, _, rfl, rfl, SqL.of (s12 _ _ h2), atI_nat hwr, ?_⟩
      refine ⟨w.1, _, rfl, SqL.of w1, rfl, ?_⟩
      walk_at "go"
      have f12 := f1.same s12
      have hbw := hbs w (List.mem_of_getElem? hw)
      refine ⟨v, l0, x.num, (x.den : Int), w.2.lo.num, (w.2.lo.den : Int), rfl, f12, w3, hb.1, hb.2, hbw.2.1.1, hbw.2.1.2, ?_⟩
      refine ⟨_, rfl, ?_⟩
      rw [show decide (x.num * (w.2.lo.den : Int) < w.2.lo.num * (x.den : Int)) = ltF x w.2.lo from rfl]
      cases hl1 : ltF x w.2.lo with
      | true =>
        refine iteT' rfl ?_
        exact g1 (by rw [hl1]; rfl) H2 s12
      | false =>
        refine iteF' rfl ?_
        walk_at "go"
        refine ⟨g0, v, w.2.hi.num, (w.2.hi.den : Int), x.num, (x.den : Int), rfl, w4, f12, hbw.2.2.1, hbw.2.2.2, hb.1, hb.2, ?_⟩
        refine ⟨_, rfl, ?_⟩
        rw [show decide (w.2.hi.num * (x.den : Int) < x.num * (w.2.hi.den : Int)) = ltF w.2.hi x from rfl]
        cases hl2 : ltF w.2.hi x with
        | true =>
          refine iteT' rfl ?_
          exact g1 (by rw [hl1, hl2]; rfl) H2 s12
        | false =>
          refine iteF' rfl ?_
          walk_at "go"
          refine ⟨tn rfl, fun t nt => ?_⟩
          generalize hUt : upd _ _ (HO.lst _) = H3
          have s3 := same_hu hUt nt
          have ey3 := at_hu hUt
          have y3 := SqL.of (K := K) ey3
          clear hUt
          have s13 := s12.trans s3
          refine ⟨_, rfl, p, _, dx, _, _, rfl, s13 _ _ h1, OBDocument.cl, OBDocument.nparameters, dc_par _ _ _ _ _, ?_⟩
          walk_at "go"
          have hil : i < ws.length := (List.getElem?_eq_some_iff.mp hw).1
          refine ⟨P, _, _, i, rfl, rfl, s13 _ _ h2, by (rw [Ro_len]; exact (ixN_in (Int.natCast_nonneg i) (by omega)).trans (by rw [Int.toNat_natCast])), ?_⟩
          have eset : (Ro ws).set i (.ref t) = Ro (ws.set i (t, ⟨nm, x, w.2.lo, w.2.hi⟩)) := by
            show (List.map _ ws).set i _ = List.map _ (ws.set i _)
            rw [List.map_set]
          rw [eset]
          have xP : ∀ b o, b ≠ P → H3 b = some o → (upd H3 P (.lst (Ro (ws.set i (t, ⟨nm, x, w.2.lo, w.2.hi⟩))))) b = some o := fun b o hb e => by
            rw [upd_ne hb]
            exact e
          have e3P := s13 _ _ h2
          have htP : t ≠ P := fun e => by rw [e, s12 _ _ h2] at nt; cases nt
          have hpP : p ≠ P := fun e => by rw [e, h2] at h1; cases h1
          have hPt : PmAt K H3 t ⟨nm, x, w.2.lo, w.2.hi⟩ := ⟨v, l0, g0, ey3, f1.same s13, w3.same s3, w4.same s3⟩
          refine g2 (by rw [hl1, hl2]; rfl) _ t (fun b o _ hb e => xP b o hb (s13 _ _ e)) ⟨dx, F, G, xP _ _ hpP (s13 _ _ h1), upd_same, xP _ _ hPF0.symm (s13 _ _ h3), xP _ _ hPG0.symm (s13 _ _ h4), fun u hu => ?_, hPF0, hPG0⟩
          rcases List.mem_or_eq_of_mem_set hu with hu | hu
          · exact ((h5.up s13).over e3P xP) u hu
          · rw [hu]
            exact hPt.over htP e3P xP
    · refine iteT' (by rw [decide_eq_false hin]; rfl) ?_
      refine ⟨_, rfl, by rw [PySem.sizeLine_eq]; decide +kernel, ?_⟩
      refine ⟨_, rfl, .inl ⟨_, rfl, S_sl (by omega), _, rfl, ?_, ?_⟩⟩
      · rw [str_len, show (Str.empty ++ "there is no parameter " : Str).length = 22 by decide +kernel, SX.S_len, PySem.sizeLine_eq]
        omega
      · exact q1 hin H1 s1
theorem Sm2.pre {p P : Addr} {H H1 H' : Hp} (s : Same H H1) (h : Sm2 p P H1 H') : Sm2 p P H H' := fun b o h1 h2 e => h b o h1 h2 (s _ _ e)
def spPerform (K : PySem.W.Frag) (CDocument : Addr) (CTextFault CTaken CFull CBeyond CUnknown : Addr) : Sp := fun vs H Q E => ∃ (p u lo hi P : Addr) (ws : List (Addr × Pm)), vs = [.ref p, .ref u] ∧ DcAt K CDocument H p lo hi P ws ∧ ws.length ≤ 4 ∧ (∀ w ∈ ws, bdP w.2) ∧
  ((∃ (v l h : Addr) (n : Pm), SqT K H u [.str "declare", sv n.nm, .ref v, .ref l, .ref h] ∧ Fx K H v n.v ∧ Fx K H l n.lo ∧ Fx K H h n.hi ∧ bdP n ∧ n.nm.length ≤ 100 ∧
    (shortW LTl WCl n.nm = false → fE CTextFault E H 1 1) ∧
    (shortW LTl WCl n.nm = true → n.nm ∈ ws.map (·.2.nm) → fP CTaken E H) ∧
    (shortW LTl WCl n.nm = true → n.nm ∉ ws.map (·.2.nm) → ws.length = 4 → fP CFull E H) ∧
    (shortW LTl WCl n.nm = true → n.nm ∉ ws.map (·.2.nm) → ws.length ≠ 4 → (ltF n.v n.lo || ltF n.hi n.v) = true → fP CBeyond E H) ∧
    (shortW LTl WCl n.nm = true → n.nm ∉ ws.map (·.2.nm) → ws.length ≠ 4 → (ltF n.v n.lo || ltF n.hi n.v) = false → ∀ (H' : Hp) (t : Addr), Sm2 p P H H' → DcAt K CDocument H' p lo hi P (ws ++ [(t, n)]) → Q .non H')) ∨
   (∃ (v : Addr) (nm : List Nat) (x : Rat), SqT K H u [.str "set", sv nm, .ref v] ∧ Fx K H v x ∧ bdF x ∧ nm.length ≤ 100 ∧
    (nm ∉ ws.map (·.2.nm) → fP CUnknown E H) ∧
    (∀ (i : Nat) (w : Addr × Pm), ws[i]? = some w → w.2.nm = nm → (∀ j < i, ∀ u, ws[j]? = some u → u.2.nm ≠ nm) →
      ((ltF x w.2.lo || ltF w.2.hi x) = true → fP CBeyond E H) ∧
      ((ltF x w.2.lo || ltF w.2.hi x) = false → ∀ (H' : Hp) (t : Addr), Sm2 p P H H' → DcAt K CDocument H' p lo hi P (ws.set i (t, ⟨nm, x, w.2.lo, w.2.hi⟩)) → Q .non H'))))
theorem okPerform {fPerform : Addr} {fdPerform : FuncData} (F : Fun K "perform" "perform" sPerform fPerform fdPerform) (T : Txt mg) {aLETTERS : Tok} {aWORD_CHARACTERS : Tok} {aNAME_LENGTH : Tok} {aMOST_PARAMETERS : Tok} (CT : Cons K mg aLETTERS aWORD_CHARACTERS aNAME_LENGTH aMOST_PARAMETERS) {CPartError CTextFault CUnknown CTaken CBeyond CFull : Addr} (EX : Exns K mg CPartError CTextFault CUnknown CTaken CBeyond CFull) {fIni : Addr} {fdIni : FuncData} (FL : Flt K mg CPartError CTextFault CUnknown CTaken CBeyond CFull fIni) (GIni : FnOk P w K mg base CX0 1 fIni fdIni ["self", "line", "column"] (spFIni K CTextFault)) (bIni : Binds K fdIni ["self", "line", "column"] []) {CDocument : Addr} (OBDocument : ObDocument K mg CDocument)
    {fDeclare : Addr} {fdDeclare : FuncData} (GDeclare : FnOk P w K mg base (L2.CX P w) 5 fDeclare fdDeclare ["document", "name", "value", "low", "high"] (spDeclare K CDocument CTextFault CTaken CFull CBeyond CUnknown)) (gDeclare : mg "declare" = some (.ref fDeclare)) (kpDeclare : PySem.W.keepIn K (.ref fDeclare) = true) (bDeclare : Binds K fdDeclare ["document", "name", "value", "low", "high"] [])
    {fSetValue : Addr} {fdSetValue : FuncData} (GSetValue : FnOk P w K mg base (L2.CX P w) 3 fSetValue fdSetValue ["document", "name", "value"] (spSetValue K CDocument CTextFault CTaken CFull CBeyond CUnknown)) (gSetValue : mg "set_value" = some (.ref fSetValue)) (kpSetValue : PySem.W.keepIn K (.ref fSetValue) = true) (bSetValue : Binds K fdSetValue ["document", "name", "value"] []) :
    FnOk P w K mg base (L2.CX P w) 6 fPerform fdPerform ["document", "edit"] (spPerform K CDocument CTextFault CTaken CFull CBeyond CUnknown) := by
  refine F.okX scPerform (fun vs H Q E h => ?_) (fun cdv A outer s H vs Q E hr h => ?_)
  · obtain ⟨p, u, lo, hi, P, ws, rfl, hD, hl, hbs, hc⟩ := h
    rfl
  · obtain ⟨p, u, lo, hi, P, ws, rfl, hD, hl, hbs, hc⟩ := h
    refine ⟨_, (pss_cons (ps_asg (pv 1) (pg_starT (n := 2) (i := 1) rfl (pgs_cons (pg_name (i := 2) scPerform.nd rfl (Or.inl rfl)) (pgs_star (pg_name (i := 3) scPerform.nd rfl (Or.inl rfl)) pgs_nil))))
      (pss_cons (ps_if (pt_cmpR op_eq (pv 2) pe_str (nomark _))
        (pss_one (ps_ret pe_dead))
        pss_nil)
      (pss_cons (ps_if (pt_cmpR op_eq (pv 2) pe_str (nomark _))
        (pss_one (ps_ret pe_dead))
        pss_nil)
      (C8.pss_cut (ps_if (pt_cmpR op_eq (pv 2) pe_str (nomark _))
        (pss_one (ps_expr (StX.pe_callS2 (GDeclare.raw bDeclare .nil) hr kpDeclare (by rfl) gDeclare (passes_call (takes_of rfl rfl rfl rfl) (fun _ _ _ _ h => h)) (pa_cons (pv 0) (StX.pa_star (pv 3) pa_nil)))))
        (pss_one (ps_if (pt_cmpR op_eq (pv 2) pe_str (nomark _))
          (pss_one (ps_expr (StX.pe_callS2 (GSetValue.raw bSetValue .nil) (hr.mono (by decide)) kpSetValue (by rfl) gSetValue (passes_call (takes_of rfl rfl rfl rfl) (fun _ _ _ _ h => h)) (pa_cons (pv 0) (StX.pa_star (pv 3) pa_nil)))))
          (pss_one (ps_if (pt_cmpR op_eq (pv 2) pe_str (nomark _))
            (pss_one (ps_expr pe_dead))
            (pss_one (ps_if (pt_cmpR op_eq (pv 2) pe_str (nomark _))
              (pss_one (ps_expr pe_dead))
              (pss_one (ps_if (pt_cmpR op_eq (pv 2) pe_str (nomark _))
                (pss_one (ps_expr pe_dead))
                (pss_one (ps_expr pe_dead)))))))))))
      (pss_one (ps_ret pe_non)))))), ?_⟩
    rcases hc with ⟨v, l, h, n, hu, f1, f2, f3, hb, hnl, q1, q2, q3, q4, q5⟩ | ⟨v, nm, x, hu, f1, hb, hnl, q1, q2⟩
    · refine ⟨_, rfl, u, _, rfl, hu, (by show 2 ≤ 6; decide), (by show 5 ≤ 16384; decide), fun D nD => ?_⟩
      rw [st_mid, st_take]
      have s1 := same_upd (o := .lst [sv n.nm, .ref v, .ref l, .ref h]) nD
      have e1 : (upd H D (.lst [sv n.nm, .ref v, .ref l, .ref h])) D = some (.lst [sv n.nm, .ref v, .ref l, .ref h]) := upd_same
      generalize upd H D (.lst [sv n.nm, .ref v, .ref l, .ref h]) = H1 at s1 e1 ⊢
      walk_at "go"
      refine iteF' (by first | rfl | kernel_rfl | decide +kernel) ?_
      refine ⟨fun _ H' => Q .non H', ?_, fun σ' H' hm => hm⟩
      walk_at "go"
      refine ⟨D, _, rfl, .inr (SqL.of e1), ?_⟩
      refine ⟨p, lo, hi, P, v, l, h, ws, n, rfl, hD.up s1, hl, f1.same s1, f2.same s1, f3.same s1, hb, hnl, fun x d H' s e => q1 x d H' (s1.trans s) e, fun x y => (q2 x y).up s1, fun x y z => (q3 x y z).up s1, fun x y z t => (q4 x y z t).up s1, fun x y z t H' r s => q5 x y z t H' r (.pre s1 s)⟩
    · refine ⟨_, rfl, u, _, rfl, hu, (by show 2 ≤ 4; decide), (by show 3 ≤ 16384; decide), fun D nD => ?_⟩
      rw [st_mid, st_take]
      have s1 := same_upd (o := .lst [sv nm, .ref v]) nD
      have e1 : (upd H D (.lst [sv nm, .ref v])) D = some (.lst [sv nm, .ref v]) := upd_same
      generalize upd H D (.lst [sv nm, .ref v]) = H1 at s1 e1 ⊢
      walk_at "go"
      refine iteF' (by first | rfl | kernel_rfl | decide +kernel) ?_
      refine ⟨fun _ H' => Q .non H', ?_, fun σ' H' hm => hm⟩
      walk_at "go"
      refine ⟨D, _, rfl, .inr (SqL.of e1), ?_⟩
      refine ⟨p, lo, hi, P, v, ws, nm, x, rfl, hD.up s1, hl, f1.same s1, hb, hbs, hnl, fun x => (q1 x).up s1, fun i w h1 h2 h3 => ⟨fun e => ((q2 i w h1 h2 h3).1 e).up s1, fun e H' r s => (q2 i w h1 h2 h3).2 e H' r (.pre s1 s)⟩⟩
def spDocumentInit (K : PySem.W.Frag) (CDocument : Addr) : Sp := fun vs H Q _ => ∃ (p dx lo hi : Addr), vs = [.ref p, .ref lo, .ref hi] ∧ H p = some (.ins CDocument dx []) ∧ ∀ (H' : Hp) (P F G : Addr), Sm1 p H H' → H P = none → H F = none → H G = none → P ≠ F → P ≠ G → F ≠ G → H' p = some (.ins CDocument dx (dcF lo hi P F G)) → H' P = some (.lst []) → H' F = some (.lst []) → H' G = some (.lst []) → Q .non H'
theorem okDocumentInit {fDocumentInit : Addr} {fdDocumentInit : FuncData} (F : Fun K "__init__" "Document.__init__" sDocumentInit fDocumentInit fdDocumentInit) (T : Txt mg) {aLETTERS : Tok} {aWORD_CHARACTERS : Tok} {aNAME_LENGTH : Tok} {aMOST_PARAMETERS : Tok} (CT : Cons K mg aLETTERS aWORD_CHARACTERS aNAME_LENGTH aMOST_PARAMETERS) {CPartError CTextFault CUnknown CTaken CBeyond CFull : Addr} (EX : Exns K mg CPartError CTextFault CUnknown CTaken CBeyond CFull) {fIni : Addr} {fdIni : FuncData} (FL : Flt K mg CPartError CTextFault CUnknown CTaken CBeyond CFull fIni) (GIni : FnOk P w K mg base CX0 1 fIni fdIni ["self", "line", "column"] (spFIni K CTextFault)) (bIni : Binds K fdIni ["self", "line", "column"] []) {CDocument : Addr} (OBDocument : ObDocument K mg CDocument) :
    FnOk P w K mg base CX0 1 fDocumentInit fdDocumentInit ["self", "low", "high"] (spDocumentInit K CDocument) := by
  refine F.ok scDocumentInit (fun vs H Q E h => ?_) (fun cdv A outer s H vs Q E hr h => ?_)
  · obtain ⟨p, dx, lo, hi, rfl, hp, q⟩ := h
    rfl
  · obtain ⟨p, dx, lo, hi, rfl, hp, q⟩ := h
    refine ⟨_, (pss_cons (ps_fld (pv 0) (pv 1) rfl)
      (pss_cons (ps_fld (pv 0) (pv 2) rfl)
      (pss_cons (ps_fld (pv 0) (pe_lst pa_nil) rfl)
      (pss_cons (ps_fld (pv 0) (pe_lst pa_nil) rfl)
      (pss_cons (ps_fld (pv 0) (pe_lst pa_nil) rfl)
      (pss_cons (ps_fld (pv 0) pe_int rfl)
      (pss_one (ps_fld (pv 0) pe_int rfl)))))))), ?_⟩
    refine ⟨_, rfl, _, rfl, p, _, dx, _, rfl, hp, OBDocument.cl, OBDocument.nlow, (by show 0 < 1000; decide), ?_⟩
    have x1 : Sm1 p H (upd H p (.ins CDocument dx (putF "low" (.ref lo) []))) := Sm1.upd
    have e1 : (upd H p (.ins CDocument dx (putF "low" (.ref lo) []))) p = some (.ins CDocument dx (putF "low" (.ref lo) [])) := upd_same
    generalize upd H p (.ins CDocument dx (putF "low" (.ref lo) [])) = H1 at x1 e1 ⊢
    refine ⟨_, rfl, _, rfl, p, _, dx, _, rfl, e1, OBDocument.cl, OBDocument.nhigh, (by show 1 < 1000; decide), ?_⟩
    have x2 : Sm1 p H1 (upd H1 p (.ins CDocument dx (putF "high" (.ref hi) (putF "low" (.ref lo) [])))) := Sm1.upd
    have e2 : (upd H1 p (.ins CDocument dx (putF "high" (.ref hi) (putF "low" (.ref lo) [])))) p = some (.ins CDocument dx (putF "high" (.ref hi) (putF "low" (.ref lo) []))) := upd_same
    generalize upd H1 p (.ins CDocument dx (putF "high" (.ref hi) (putF "low" (.ref lo) []))) = H2 at x2 e2 ⊢
    refine ⟨tn rfl, fun P nP => ?_⟩
    generalize hUP : upd _ _ (HO.lst _) = H3
    have s3 := same_hu hUP nP
    have ey3 := at_hu hUP
    have y3 := SqL.of (K := K) ey3
    clear hUP
    have e3 := s3 _ _ e2
    refine ⟨_, rfl, p, _, dx, _, rfl, e3, OBDocument.cl, OBDocument.nparameters, (by show 2 < 1000; decide), ?_⟩
    generalize hf3 : putF "parameters" (.ref P) (putF "high" (.ref hi) (putF "low" (.ref lo) [])) = f3
    have x4 : Sm1 p H3 (upd H3 p (.ins CDocument dx f3)) := Sm1.upd
    have e4 : (upd H3 p (.ins CDocument dx f3)) p = some (.ins CDocument dx f3) := upd_same
    have g4 := lst_ins ey3 e3 x4
    generalize upd H3 p (.ins CDocument dx f3) = H4 at x4 e4 g4 ⊢
    refine ⟨tn rfl, fun F nF => ?_⟩
    generalize hUF : upd _ _ (HO.lst _) = H5
    have s5 := same_hu hUF nF
    have ey5 := at_hu hUF
    have y5 := SqL.of (K := K) ey5
    clear hUF
    have e5 := s5 _ _ e4
    refine ⟨_, rfl, p, _, dx, _, rfl, e5, OBDocument.cl, OBDocument.nfeatures, (by rw [← hf3]; show 3 < 1000; decide), ?_⟩
    generalize hf5 : putF "features" (.ref F) f3 = f5
    have x6 : Sm1 p H5 (upd H5 p (.ins CDocument dx f5)) := Sm1.upd
    have e6 : (upd H5 p (.ins CDocument dx f5)) p = some (.ins CDocument dx f5) := upd_same
    have g6 := lst_ins ey5 e5 x6
    have g6' := lst_ins (s5 _ _ g4) e5 x6
    generalize upd H5 p (.ins CDocument dx f5) = H6 at x6 e6 g6 g6' ⊢
    refine ⟨tn rfl, fun G nG => ?_⟩
    generalize hUG : upd _ _ (HO.lst _) = H7
    have s7 := same_hu hUG nG
    have ey7 := at_hu hUG
    have y7 := SqL.of (K := K) ey7
    clear hUG
    have e7 := s7 _ _ e6
    refine ⟨_, rfl, p, _, dx, _, rfl, e7, OBDocument.cl, OBDocument.nkept, (by rw [← hf5, ← hf3]; show 4 < 1000; decide), ?_⟩
    generalize hf7 : putF "kept" (.ref G) f5 = f7
    have x8 : Sm1 p H7 (upd H7 p (.ins CDocument dx f7)) := Sm1.upd
    have e8 : (upd H7 p (.ins CDocument dx f7)) p = some (.ins CDocument dx f7) := upd_same
    have g8 := lst_ins ey7 e7 x8
    have g8' := lst_ins (s7 _ _ g6) e7 x8
    have g8'' := lst_ins (s7 _ _ g6') e7 x8
    generalize upd H7 p (.ins CDocument dx f7) = H8 at x8 e8 g8 g8' g8'' ⊢
    refine ⟨_, rfl, p, _, dx, _, rfl, e8, OBDocument.cl, OBDocument.nlast_feature, (by rw [← hf7, ← hf5, ← hf3]; show 5 < 1000; decide), ?_⟩
    generalize hf8 : putF "last_feature" (.int 0) f7 = f8
    have x9 : Sm1 p H8 (upd H8 p (.ins CDocument dx f8)) := Sm1.upd
    have e9 : (upd H8 p (.ins CDocument dx f8)) p = some (.ins CDocument dx f8) := upd_same
    have k9 := lst_ins g8 e8 x9
    have k9' := lst_ins g8' e8 x9
    have k9'' := lst_ins g8'' e8 x9
    generalize upd H8 p (.ins CDocument dx f8) = H9 at x9 e9 k9 k9' k9'' ⊢
    refine ⟨_, rfl, p, _, dx, _, rfl, e9, OBDocument.cl, OBDocument.nlast_name, (by rw [← hf8, ← hf7, ← hf5, ← hf3]; show 6 < 1000; decide), ?_⟩
    have x10 : Sm1 p H9 (upd H9 p (.ins CDocument dx (putF "last_name" (.int 0) f8))) := Sm1.upd
    have nof : ∀ {Ha : Hp} {t : Addr}, Sm1 p H Ha → Ha t = none → t ≠ p → H t = none := fun x h hne => by
      cases z : H _ with
      | none => rfl
      | some o => exact absurd (x _ _ hne z) (by rw [h]; intro w; cases w)
    have m2 := x1.trans x2
    have m4 := m2.trans ((sm1 s3).trans x4)
    have m6 := m4.trans ((sm1 s5).trans x6)
    have m10 := m6.trans ((sm1 s7).trans (x8.trans (x9.trans x10)))
    have hPp : P ≠ p := fun e => by rw [e, e2] at nP; cases nP
    have hFp : F ≠ p := fun e => by rw [e, e4] at nF; cases nF
    have hGp : G ≠ p := fun e => by rw [e, e6] at nG; cases nG
    have hPF : P ≠ F := fun e => by rw [← e, g4] at nF; cases nF
    have hPG : P ≠ G := fun e => by rw [← e, g6'] at nG; cases nG
    have hFG : F ≠ G := fun e => by rw [← e, g6] at nG; cases nG
    exact q _ P F G m10 (nof m2 nP hPp) (nof m4 nF hFp) (nof m6 nG hGp) hPF hPG hFG (by rw [upd_same, ← hf8, ← hf7, ← hf5, ← hf3, dc_make]) (lst_ins k9'' e9 x10) (lst_ins k9' e9 x10) (lst_ins k9 e9 x10)
abbrev rListOf (K : PySem.W.Frag) : List V → Hp → VK → Prop := fun xs H Q => ∃ p ys, xs = [V.ref p] ∧ (SqL K H p ys ∨ SqT K H p ys) ∧ ∀ (l : Addr), H l = none → Q (V.ref l) (upd H l (HO.lst ys))
def spDocumentCopied (K : PySem.W.Frag) (CDocument : Addr) : Sp := fun vs H Q _ => ∃ (p lo hi P : Addr) (ws : List (Addr × Pm)), vs = [.ref p] ∧ DcAt K CDocument H p lo hi P ws ∧ ws.length ≤ 4 ∧ ∀ (H' : Hp) (p' P' : Addr) (us : List (Addr × Pm)), Same H H' → H p' = none → H P' = none → DcAt K CDocument H' p' lo hi P' us → us.map (·.2) = ws.map (·.2) → Q (.ref p') H'
theorem okDocumentCopied {fDocumentCopied : Addr} {fdDocumentCopied : FuncData} (F : Fun K "copied" "Document.copied" sDocumentCopied fDocumentCopied fdDocumentCopied) (T : Txt mg) {aLETTERS : Tok} {aWORD_CHARACTERS : Tok} {aNAME_LENGTH : Tok} {aMOST_PARAMETERS : Tok} (CT : Cons K mg aLETTERS aWORD_CHARACTERS aNAME_LENGTH aMOST_PARAMETERS) {CPartError CTextFault CUnknown CTaken CBeyond CFull : Addr} (EX : Exns K mg CPartError CTextFault CUnknown CTaken CBeyond CFull) {fIni : Addr} {fdIni : FuncData} (FL : Flt K mg CPartError CTextFault CUnknown CTaken CBeyond CFull fIni) (GIni : FnOk P w K mg base CX0 1 fIni fdIni ["self", "line", "column"] (spFIni K CTextFault)) (bIni : Binds K fdIni ["self", "line", "column"] []) {CDocument : Addr} (OBDocument : ObDocument K mg CDocument)
    {fDocumentInit : Addr} {fdDocumentInit : FuncData} (GDocumentInit : FnOk P w K mg base CX0 1 fDocumentInit fdDocumentInit ["self", "low", "high"] (spDocumentInit K CDocument)) (gDocumentInit : Mk K CDocument fDocumentInit) (kpDocumentInit : PySem.W.keepIn K (.ref fDocumentInit) = true) (bDocumentInit : Binds K fdDocumentInit ["self", "low", "high"] []) :
    FnOk P w K mg base CX0 3 fDocumentCopied fdDocumentCopied ["self"] (spDocumentCopied K CDocument) := by
  refine F.ok scDocumentCopied (fun vs H Q E h => ?_) (fun cdv A outer s H vs Q E hr h => ?_)
  · obtain ⟨p, lo, hi, P, ws, rfl, hD, hl, q⟩ := h
    rfl
  · obtain ⟨p, lo, hi, P, ws, rfl, hD, hl, q⟩ := h
    refine ⟨_, (pss_cons (ps_set (i := 1) scDocumentCopied.nd rfl (Or.inl rfl) (pe_make gDocumentInit GDocumentInit hr (by rfl) OBDocument.g bDocumentInit .nil pass0 (pa_cons (pe_fld (pv 0) rfl) (pa_cons (pe_fld (pv 0) rfl) pa_nil))))
      (pss_cons (ps_fld (pv 1) (pe_lc (own := [("row", 2)]) (by rfl) scDocumentCopied.nd (pi_list (pe_fld (pv 0) rfl)) (blkOk_by (own := [("row", 2)]) (N := ["self", "found", "row"]) (sc := defScope sDocumentCopied) (by decide +kernel)) (fun _ _ _ _ _ => (pg_name (i := 2) scDocumentCopied.nd rfl (Or.inl rfl))) (fun _ _ _ _ _ => pts_nil) (fun _ _ _ _ _ => (pe_callTy (show CallR _ (Value.type "list") (rListOf K) from call_list_of) (by rfl) (by exact T.list) (by decide +kernel) (pa_cons (pv 2) pa_nil)))) rfl)
      (pss_cons (ps_fld (pv 1) (pe_lc (own := [("row", 2)]) (by rfl) scDocumentCopied.nd (pi_list (pe_fld (pv 0) rfl)) (blkOk_by (own := [("row", 2)]) (N := ["self", "found", "row"]) (sc := defScope sDocumentCopied) (by decide +kernel)) (fun _ _ _ _ _ => (pg_name (i := 2) scDocumentCopied.nd rfl (Or.inl rfl))) (fun _ _ _ _ _ => pts_nil) (fun _ _ _ _ _ => pe_dead)) rfl)
      (pss_cons (ps_fld (pv 1) (pe_lc (own := [("row", 2)]) (by rfl) scDocumentCopied.nd (pi_list (pe_fld (pv 0) rfl)) (blkOk_by (own := [("row", 2)]) (N := ["self", "found", "row"]) (sc := defScope sDocumentCopied) (by decide +kernel)) (fun _ _ _ _ _ => (pg_name (i := 2) scDocumentCopied.nd rfl (Or.inl rfl))) (fun _ _ _ _ _ => pts_nil) (fun _ _ _ _ _ => pe_dead)) rfl)
      (pss_cons (ps_fld (pv 1) (pe_fld (pv 0) rfl) rfl)
      (pss_cons (ps_fld (pv 1) (pe_fld (pv 0) rfl) rfl)
      (pss_one (ps_ret (pv 1))))))))), ?_⟩
    obtain ⟨dx, F, G, h1, h2, h3, h4, h5, hPF0, hPG0⟩ := hD
    refine ⟨_, rfl, p, _, dx, _, _, rfl, h1, OBDocument.cl, OBDocument.nlow, dc_low _ _ _ _ _, ?_⟩
    refine ⟨_, rfl, p, _, dx, _, _, rfl, h1, OBDocument.cl, OBDocument.nhigh, dc_high _ _ _ _ _, ?_⟩
    intro p' dx' np ndx nex
    have s0 : Same H (upd (upd H dx' (.own p')) p' (.ins CDocument dx' [])) := fun b o e => by
      rw [upd_ne (ne_of_none e np), upd_ne (ne_of_none e ndx)]
      exact e
    have e0 : (upd (upd H dx' (.own p')) p' (.ins CDocument dx' [])) p' = some (.ins CDocument dx' []) := upd_same
    have n0 : ∀ {t : Addr}, (upd (upd H dx' (.own p')) p' (.ins CDocument dx' [])) t = none → H t = none := fun {t} h => by
      cases z : H t with
      | none => rfl
      | some o => exact absurd (s0 _ _ z) (by rw [h]; intro w; cases w)
    generalize upd (upd H dx' (.own p')) p' (.ins CDocument dx' []) = H0 at s0 e0 n0 ⊢
    refine ⟨p', dx', lo, hi, rfl, e0, fun H1 P1 F1 G1 x1 nP nF nG hPF hPG hFG e1 g1 g2 g3 => ⟨rfl, ?_⟩⟩
    have s1 : Same H H1 := fun b o e => x1 b o (ne_of_none e np) (s0 _ _ e)
    refine ⟨_, rfl, p, _, dx, _, _, rfl, s1 _ _ h1, OBDocument.cl, OBDocument.nparameters, dc_par _ _ _ _ _, ?_⟩
    refine ⟨P, rfl, ⟨_, SqL.of (s1 _ _ h2)⟩, fun D hD => ?_⟩
    refine lc_relD (walk_list (K := K) (a := P) (xs := Ro ws)) (ws.map (·.2)) (by rw [List.length_map, Ro_len]) (by rw [Ro_len]; omega) hD (fun H t (x : Pm) => PmAt K H t x ∧ t ≠ D) (fun s h => ⟨h.1.up s, h.2⟩) (fun h hl s => ⟨h.1.over h.2 hl s, h.2⟩) (fun H s => s.seq (SqL.of (s1 _ _ h2))) ?_ ?_
    · rintro i r x H3 H4 kk hr s3 ⟨ys, hDd⟩ ⟨rfl, hv⟩ yk
      obtain ⟨w, rfl, gw⟩ := Ro_get hv
      obtain ⟨v, l, g, e1', e2', e3', e4'⟩ := (h5 w (List.mem_of_getElem? gw)).up (s1.trans s3)
      have er : r = w.2 := by
        rw [List.getElem?_map, gw] at hr
        exact (Option.some.inj hr).symm
      subst er
      refine ⟨rfl, _, rfl, w.1, _, rfl, .inl (SqL.of e1'), fun t nt => ?_⟩
      have st := same_upd (o := .lst [sv w.2.nm, .ref v, .ref l, .ref g]) nt
      exact yk t _ st ⟨⟨v, l, g, upd_same, e2'.same st, e3'.same st, e4'.same st⟩, fun e => by rw [e, hDd] at nt; cases nt⟩
    intro H3 us s3 e3 r3 m3
    have d3 := s3 _ _ e1
    refine ⟨_, rfl, p', _, dx', _, rfl, d3, OBDocument.cl, OBDocument.nparameters, (by show 7 < 1000; decide), ?_⟩
    rw [dc_p1]
    have x4 : Sm1 p' H3 (upd H3 p' (.ins CDocument dx' (dcF lo hi D F1 G1))) := Sm1.upd
    have d4 : (upd H3 p' (.ins CDocument dx' (dcF lo hi D F1 G1))) p' = some (.ins CDocument dx' (dcF lo hi D F1 G1)) := upd_same
    have a4 := lst_ins e3 d3 x4
    have r4 : PsAt K _ us := PsAt.overI (fun w hw => (r3 w hw).1) d3 x4
    have s4 : Same H (upd H3 p' (.ins CDocument dx' (dcF lo hi D F1 G1))) := fun b o e => x4 b o (ne_of_none e np) (s3 _ _ (s1 _ _ e))
    have hDp : D ≠ p' := fun e => by rw [e, e1] at hD; cases hD
    have nD0 : H D = none := by
      cases z : H D with
      | none => rfl
      | some o => exact absurd (s1 _ _ z) (by rw [hD]; intro w; cases w)
    generalize upd H3 p' (.ins CDocument dx' (dcF lo hi D F1 G1)) = H4 at x4 d4 a4 r4 s4 ⊢
    refine ⟨_, rfl, p, _, dx, _, _, rfl, s4 _ _ h1, OBDocument.cl, OBDocument.nfeatures, dc_fea _ _ _ _ _, ?_⟩
    refine ⟨F, rfl, ⟨_, SqL.of (s4 _ _ h3)⟩, fun D2 hD2 => ?_⟩
    refine lc_val (te := fun _ _ _ => False) (walk_list (K := K) (a := F) (xs := [])) [] rfl (Nat.zero_le _) hD2 (fun H s => s.seq (SqL.of (s4 _ _ h3))) ?_ ?_
    · intro i r x H5 H6 kk hr
      cases hr
    intro H5 s5 e5
    have d5 := s5 _ _ d4
    refine ⟨_, rfl, p', _, dx', _, rfl, d5, OBDocument.cl, OBDocument.nfeatures, (by show 7 < 1000; decide), ?_⟩
    rw [dc_p2]
    have x6 : Sm1 p' H5 (upd H5 p' (.ins CDocument dx' (dcF lo hi D D2 G1))) := Sm1.upd
    have d6 : (upd H5 p' (.ins CDocument dx' (dcF lo hi D D2 G1))) p' = some (.ins CDocument dx' (dcF lo hi D D2 G1)) := upd_same
    have a6 := lst_ins (s5 _ _ a4) d5 x6
    have b6 := lst_ins e5 d5 x6
    have r6 : PsAt K _ us := PsAt.overI (r4.up s5) d5 x6
    have s6 : Same H (upd H5 p' (.ins CDocument dx' (dcF lo hi D D2 G1))) := fun b o e => x6 b o (ne_of_none e np) (s5 _ _ (s4 _ _ e))
    generalize upd H5 p' (.ins CDocument dx' (dcF lo hi D D2 G1)) = H6 at x6 d6 a6 b6 r6 s6 ⊢
    refine ⟨_, rfl, p, _, dx, _, _, rfl, s6 _ _ h1, OBDocument.cl, OBDocument.nkept, dc_kep _ _ _ _ _, ?_⟩
    refine ⟨G, rfl, ⟨_, SqL.of (s6 _ _ h4)⟩, fun D3 hD3 => ?_⟩
    refine lc_val (te := fun _ _ _ => False) (walk_list (K := K) (a := G) (xs := [])) [] rfl (Nat.zero_le _) hD3 (fun H s => s.seq (SqL.of (s6 _ _ h4))) ?_ ?_
    · intro i r x H7 H8 kk hr
      cases hr
    intro H7 s7 e7
    have d7 := s7 _ _ d6
    refine ⟨_, rfl, p', _, dx', _, rfl, d7, OBDocument.cl, OBDocument.nkept, (by show 7 < 1000; decide), ?_⟩
    rw [dc_p3]
    have x8 : Sm1 p' H7 (upd H7 p' (.ins CDocument dx' (dcF lo hi D D2 D3))) := Sm1.upd
    have d8 : (upd H7 p' (.ins CDocument dx' (dcF lo hi D D2 D3))) p' = some (.ins CDocument dx' (dcF lo hi D D2 D3)) := upd_same
    have a8 := lst_ins (s7 _ _ a6) d7 x8
    have b8 := lst_ins (s7 _ _ b6) d7 x8
    have c8 := lst_ins e7 d7 x8
    have r8 : PsAt K _ us := PsAt.overI (r6.up s7) d7 x8
    have s8 : Same H (upd H7 p' (.ins CDocument dx' (dcF lo hi D D2 D3))) := fun b o e => x8 b o (ne_of_none e np) (s7 _ _ (s6 _ _ e))
    generalize upd H7 p' (.ins CDocument dx' (dcF lo hi D D2 D3)) = H8 at x8 d8 a8 b8 c8 r8 s8 ⊢
    refine ⟨_, rfl, p, _, dx, _, _, rfl, s8 _ _ h1, OBDocument.cl, OBDocument.nlast_feature, dc_lf _ _ _ _ _, ?_⟩
    refine ⟨_, rfl, p', _, dx', _, rfl, d8, OBDocument.cl, OBDocument.nlast_feature, (by show 7 < 1000; decide), ?_⟩
    rw [dc_p4]
    have x9 : Sm1 p' H8 (upd H8 p' (.ins CDocument dx' (dcF lo hi D D2 D3))) := Sm1.upd
    have d9 : (upd H8 p' (.ins CDocument dx' (dcF lo hi D D2 D3))) p' = some (.ins CDocument dx' (dcF lo hi D D2 D3)) := upd_same
    have s9 : Same H (upd H8 p' (.ins CDocument dx' (dcF lo hi D D2 D3))) := fun b o e => x9 b o (ne_of_none e np) (s8 _ _ e)
    have a9 := lst_ins a8 d8 x9
    have b9 := lst_ins b8 d8 x9
    have c9 := lst_ins c8 d8 x9
    have r9 : PsAt K _ us := PsAt.overI r8 d8 x9
    generalize upd H8 p' (.ins CDocument dx' (dcF lo hi D D2 D3)) = H9 at x9 d9 a9 b9 c9 r9 s9 ⊢
    refine ⟨_, rfl, p, _, dx, _, _, rfl, s9 _ _ h1, OBDocument.cl, OBDocument.nlast_name, dc_ln _ _ _ _ _, ?_⟩
    refine ⟨_, rfl, p', _, dx', _, rfl, d9, OBDocument.cl, OBDocument.nlast_name, (by show 7 < 1000; decide), ?_⟩
    rw [dc_p5]
    have x10 : Sm1 p' H9 (upd H9 p' (.ins CDocument dx' (dcF lo hi D D2 D3))) := Sm1.upd
    have s10 : Same H (upd H9 p' (.ins CDocument dx' (dcF lo hi D D2 D3))) := fun b o e => x10 b o (ne_of_none e np) (s9 _ _ e)
    refine ⟨_, rfl, ?_⟩
    exact q _ p' D us s10 np nD0 ⟨dx', D2, D3, upd_same, lst_ins a9 d9 x10, lst_ins b9 d9 x10, lst_ins c9 d9 x10, PsAt.overI r9 d9 x10, (fun e => by (rw [← e, a4] at hD2; cases hD2)), (fun e => by (rw [← e, a6] at hD3; cases hD3))⟩ m3
/-- an edit of the script: a parameter declared, or set -/
inductive Ed where
  | dec (n : Pm)
  | set (nm : List Nat) (x : Rat)
def EdAt (K : PySem.W.Frag) (H : Hp) (u : Addr) : Ed → Prop
  | .dec n => ∃ v l h : Addr, SqT K H u [.str "declare", sv n.nm, .ref v, .ref l, .ref h] ∧ Fx K H v n.v ∧ Fx K H l n.lo ∧ Fx K H h n.hi
  | .set nm x => ∃ v : Addr, SqT K H u [.str "set", sv nm, .ref v] ∧ Fx K H v x
theorem EdAt.up {K : PySem.W.Frag} {H H' : Hp} {u : Addr} (s : Same H H') : ∀ {e : Ed}, EdAt K H u e → EdAt K H' u e
  | .dec _, ⟨v, l, h, h1, h2, h3, h4⟩ => ⟨v, l, h, same_tup s h1, h2.same s, h3.same s, h4.same s⟩
  | .set _ _, ⟨v, h1, h2⟩ => ⟨v, same_tup s h1, h2.same s⟩
def Ed.nm : Ed → List Nat
  | .dec n => n.nm
  | .set nm _ => nm
def Ed.bd : Ed → Prop
  | .dec n => bdP n
  | .set _ x => bdF x
/-- what an edit is due to: 0 it is done, 1 no name, 2 taken, 3 full, 4 beyond, 5 unknown -/
def dueE (ns : List Pm) : Ed → Nat
  | .dec n => if shortW LTl WCl n.nm = false then 1 else if n.nm ∈ ns.map (·.nm) then 2 else if ns.length = 4 then 3 else if (ltF n.v n.lo || ltF n.hi n.v) = true then 4 else 0
  | .set nm x => match ns.find? (fun w => decide (w.nm = nm)) with
    | none => 5
    | some w => if (ltF x w.lo || ltF w.hi x) = true then 4 else 0
def nextE (ns : List Pm) : Ed → List Pm
  | .dec n => ns ++ [n]
  | .set nm x => ns.map fun w => if w.nm = nm then ⟨nm, x, w.lo, w.hi⟩ else w
theorem mem_at {ns : List Pm} {i : Nat} {w : Pm} (h : ns[i]? = some w) : w.nm ∈ ns.map (·.nm) := List.mem_map.mpr ⟨w, List.mem_of_getElem? h, rfl⟩
theorem find_at {nm : List Nat} : ∀ {ns : List Pm} {i : Nat} {w : Pm}, (ns.map (·.nm)).Nodup → ns[i]? = some w → w.nm = nm → ns.find? (fun w => decide (w.nm = nm)) = some w
  | a :: l, 0, w, _, h, hn => by
    obtain rfl : a = w := Option.some.inj h
    rw [List.find?_cons_of_pos (by rw [hn]; exact decide_eq_true rfl)]
  | a :: l, i + 1, w, nd, h, hn => by
    obtain ⟨n1, n2⟩ := List.nodup_cons.mp nd
    have h' : l[i]? = some w := h
    rw [List.find?_cons_of_neg (fun e => n1 (by show a.nm ∈ _; rw [of_decide_eq_true e, ← hn]; exact mem_at h'))]
    exact find_at n2 h' hn
theorem find_no {nm : List Nat} {ns : List Pm} (h : nm ∉ ns.map (·.nm)) : ns.find? (fun w => decide (w.nm = nm)) = none :=
  List.find?_eq_none.mpr fun w hw e => h (List.mem_map.mpr ⟨w, hw, of_decide_eq_true e⟩)
theorem set_map {nm : List Nat} {x : Rat} : ∀ {ns : List Pm} {i : Nat} {w : Pm}, (ns.map (·.nm)).Nodup → ns[i]? = some w → w.nm = nm → ns.set i ⟨nm, x, w.lo, w.hi⟩ = ns.map fun u => if u.nm = nm then ⟨nm, x, u.lo, u.hi⟩ else u
  | a :: l, 0, w, nd, h, hn => by
    obtain rfl : a = w := Option.some.inj h
    obtain ⟨n1, n2⟩ := List.nodup_cons.mp nd
    rw [List.set_cons_zero, List.map_cons, if_pos hn]
    have : ∀ u ∈ l, (if u.nm = nm then (⟨nm, x, u.lo, u.hi⟩ : Pm) else u) = u := fun u hu => if_neg fun e => n1 (by show a.nm ∈ _; rw [hn, ← e]; exact List.mem_map.mpr ⟨u, hu, rfl⟩)
    rw [List.map_congr_left (g := id) this, List.map_id]
  | a :: l, i + 1, w, nd, h, hn => by
    obtain ⟨n1, n2⟩ := List.nodup_cons.mp nd
    have h' : l[i]? = some w := h
    rw [List.set_cons_succ, List.map_cons, if_neg (fun e : a.nm = nm => n1 (by show a.nm ∈ _; rw [e, ← hn]; exact mem_at h')), set_map n2 h' hn]
theorem nms {ws : List (Addr × Pm)} : ws.map (·.2.nm) = (ws.map (·.2)).map (·.nm) := by
  rw [List.map_map]
  rfl
theorem due2 {ns : List Pm} {n : Pm} (a : shortW LTl WCl n.nm = true) (b : n.nm ∈ ns.map (·.nm)) : dueE ns (.dec n) = 2 := by
  rw [dueE, if_neg (by rw [a]; decide), if_pos b]
theorem due3 {ns : List Pm} {n : Pm} (a : shortW LTl WCl n.nm = true) (b : n.nm ∉ ns.map (·.nm)) (c : ns.length = 4) : dueE ns (.dec n) = 3 := by
  rw [dueE, if_neg (by rw [a]; decide), if_neg b, if_pos c]
theorem due4 {ns : List Pm} {n : Pm} (a : shortW LTl WCl n.nm = true) (b : n.nm ∉ ns.map (·.nm)) (c : ns.length ≠ 4) (d : (ltF n.v n.lo || ltF n.hi n.v) = true) : dueE ns (.dec n) = 4 := by
  rw [dueE, if_neg (by rw [a]; decide), if_neg b, if_neg c, if_pos d]
theorem due0 {ns : List Pm} {n : Pm} (a : shortW LTl WCl n.nm = true) (b : n.nm ∉ ns.map (·.nm)) (c : ns.length ≠ 4) (d : (ltF n.v n.lo || ltF n.hi n.v) = false) : dueE ns (.dec n) = 0 := by
  rw [dueE, if_neg (by rw [a]; decide), if_neg b, if_neg c, if_neg (by rw [d]; decide)]
theorem set5 {ns : List Pm} {nm : List Nat} {x : Rat} (a : nm ∉ ns.map (·.nm)) : dueE ns (.set nm x) = 5 := by
  rw [dueE, find_no a]
theorem set4 {ns : List Pm} {nm : List Nat} {x : Rat} {i : Nat} {w : Pm} (nd : (ns.map (·.nm)).Nodup) (h : ns[i]? = some w) (hn : w.nm = nm) (d : (ltF x w.lo || ltF w.hi x) = true) : dueE ns (.set nm x) = 4 := by
  rw [dueE, find_at nd h hn]
  exact if_pos d
theorem set0 {ns : List Pm} {nm : List Nat} {x : Rat} {i : Nat} {w : Pm} (nd : (ns.map (·.nm)).Nodup) (h : ns[i]? = some w) (hn : w.nm = nm) (d : (ltF x w.lo || ltF w.hi x) = false) : dueE ns (.set nm x) = 0 := by
  rw [dueE, find_at nd h hn]
  exact if_neg (by rw [d]; exact Bool.false_ne_true)
def spApply (K : PySem.W.Frag) (CDocument : Addr) (CTextFault CTaken CFull CBeyond CUnknown : Addr) : Sp := fun vs H Q E => ∃ (p u lo hi P : Addr) (ws : List (Addr × Pm)) (e : Ed), vs = [.ref p, .ref u] ∧ DcAt K CDocument H p lo hi P ws ∧ ws.length ≤ 4 ∧ (∀ w ∈ ws, bdP w.2) ∧ ((ws.map (·.2)).map (·.nm)).Nodup ∧ EdAt K H u e ∧ e.bd ∧ e.nm.length ≤ 100 ∧
  (dueE (ws.map (·.2)) e = 1 → fE CTextFault E H 1 1) ∧ (dueE (ws.map (·.2)) e = 2 → fP CTaken E H) ∧ (dueE (ws.map (·.2)) e = 3 → fP CFull E H) ∧ (dueE (ws.map (·.2)) e = 4 → fP CBeyond E H) ∧ (dueE (ws.map (·.2)) e = 5 → fP CUnknown E H) ∧
  (dueE (ws.map (·.2)) e = 0 → ∀ (H' : Hp) (t p' P' : Addr) (us : List (Addr × Pm)), Same H H' → H' t = some (.tup [.ref p', .non]) → DcAt K CDocument H' p' lo hi P' us → us.map (·.2) = nextE (ws.map (·.2)) e → Q (.ref t) H')
theorem okApply {fApply : Addr} {fdApply : FuncData} (F : Fun K "apply" "apply" sApply fApply fdApply) (T : Txt mg) {aLETTERS : Tok} {aWORD_CHARACTERS : Tok} {aNAME_LENGTH : Tok} {aMOST_PARAMETERS : Tok} (CT : Cons K mg aLETTERS aWORD_CHARACTERS aNAME_LENGTH aMOST_PARAMETERS) {CPartError CTextFault CUnknown CTaken CBeyond CFull : Addr} (EX : Exns K mg CPartError CTextFault CUnknown CTaken CBeyond CFull) {fIni : Addr} {fdIni : FuncData} (FL : Flt K mg CPartError CTextFault CUnknown CTaken CBeyond CFull fIni) (GIni : FnOk P w K mg base CX0 1 fIni fdIni ["self", "line", "column"] (spFIni K CTextFault)) (bIni : Binds K fdIni ["self", "line", "column"] []) {CDocument : Addr} (OBDocument : ObDocument K mg CDocument)
    {fDocumentCopied : Addr} {fdDocumentCopied : FuncData} (GDocumentCopied : FnOk P w K mg base CX0 3 fDocumentCopied fdDocumentCopied ["self"] (spDocumentCopied K CDocument)) (gDocumentCopied : Meth K CDocument "copied" fDocumentCopied) (kpDocumentCopied : PySem.W.keepIn K (.ref fDocumentCopied) = true) (bDocumentCopied : Binds K fdDocumentCopied ["self"] [])
    {fPerform : Addr} {fdPerform : FuncData} (GPerform : FnOk P w K mg base (L2.CX P w) 6 fPerform fdPerform ["document", "edit"] (spPerform K CDocument CTextFault CTaken CFull CBeyond CUnknown)) (gPerform : mg "perform" = some (.ref fPerform)) (kpPerform : PySem.W.keepIn K (.ref fPerform) = true) (bPerform : Binds K fdPerform ["document", "edit"] []) :
    FnOk P w K mg base (L2.CX P w) 7 fApply fdApply ["document", "edit"] (spApply K CDocument CTextFault CTaken CFull CBeyond CUnknown) := by
  refine F.okX scApply (fun vs H Q E h => ?_) (fun cdv A outer s H vs Q E hr h => ?_)
  · obtain ⟨p, u, lo, hi, P, ws, e, rfl, hD, hl, hbs, hnd, he, heb, hel, q1, q2, q3, q4, q5, q6⟩ := h
    rfl
  · obtain ⟨p, u, lo, hi, P, ws, e, rfl, hD, hl, hbs, hnd, he, heb, hel, q1, q2, q3, q4, q5, q6⟩ := h
    refine ⟨_, (pss_cons (ps_set (i := 2) scApply.nd rfl (Or.inl rfl) (pe_meth0 (pv 0) OBDocument.cl gDocumentCopied GDocumentCopied (hr.mono (by decide)) bDocumentCopied .nil pass0))
      (pss_cons (ps_set (i := 3) scApply.nd rfl (Or.inl rfl) (pe_call GPerform hr (by rfl) gPerform kpPerform bPerform .nil (passes_call (takes_of rfl rfl rfl rfl) (fun _ _ _ _ h => h)) (pa_cons (pv 2) (pa_cons (pv 1) pa_nil))))
      (pss_one (ps_ret (pe_tup (pa_cons (pv 2) (pa_cons (pv 3) pa_nil))))))), ?_⟩
    have hD0 := hD
    obtain ⟨dx, F, G, h1, -⟩ := hD0
    refine ⟨_, rfl, p, dx, _, rfl, h1, dc_no _ _ _ _ _ (by decide +kernel), ?_⟩
    refine ⟨p, lo, hi, P, ws, rfl, hD, hl, fun H1 p' P' us s1 np nP hD1 eu => ?_⟩
    have hlu : us.length ≤ 4 := by
      have := congrArg List.length eu
      rw [List.length_map, List.length_map] at this
      omega
    have hbu : ∀ w ∈ us, bdP w.2 := fun w hw => by
      have : w.2 ∈ us.map (·.2) := List.mem_map.mpr ⟨w, hw, rfl⟩
      rw [eu] at this
      obtain ⟨w', hw', e'⟩ := List.mem_map.mp this
      rw [← e']
      exact hbs w' hw'
    rw [← eu] at hnd q1 q2 q3 q4 q5 q6
    have he1 := he.up s1
    have far : ∀ H2 : Hp, Sm2 p' P' H1 H2 → Same H H2 := fun H2 r b o e => r b o (fun z => by rw [z, np] at e; cases e) (fun z => by rw [z, nP] at e; cases e) (s1 _ _ e)
    walk_at "go"
    cases e with
    | dec n =>
      obtain ⟨v, l, h, g1, g2, g3, g4⟩ := he1
      refine ⟨p', u, lo, hi, P', us, rfl, hD1, hlu, hbu, .inl ⟨v, l, h, n, g1, g2, g3, g4, heb, hel, fun a => ?_, fun a b => ?_, fun a b c => ?_, fun a b c d => ?_, fun a b c d H2 t r2 hD2 => ?_⟩⟩
      · exact fun d' H' s' e' => q1 (if_pos a) d' H' (s1.trans s') e'
      · exact (q2 (due2 a (nms ▸ b))).up s1
      · exact (q3 (due3 a (nms ▸ b) (by rw [List.length_map]; exact c))).up s1
      · exact (q4 (due4 a (nms ▸ b) (by rw [List.length_map]; exact c) d)).up s1
      · have q := q6 (due0 a (nms ▸ b) (by rw [List.length_map]; exact c) d)
        have s2 := far _ r2
        walk_at "go"
        refine ⟨by show 2 ≤ sizeLine; decide, fun T nT => ?_⟩
        exact q _ T p' P' _ (s2.trans (same_upd nT)) upd_same (hD2.up (same_upd nT)) (by rw [List.map_append]; rfl)
    | set nm x =>
      obtain ⟨v, g1, g2⟩ := he1
      refine ⟨p', u, lo, hi, P', us, rfl, hD1, hlu, hbu, .inr ⟨v, nm, x, g1, g2, heb, hel, fun a => ?_, fun i w hw hn hf => ⟨fun d => ?_, fun d H2 t r2 hD2 => ?_⟩⟩⟩
      · exact (q5 (set5 (nms ▸ a))).up s1
      · have hw' : (us.map (·.2))[i]? = some w.2 := by rw [List.getElem?_map, hw]; rfl
        exact (q4 (set4 hnd hw' hn d)).up s1
      · have hw' : (us.map (·.2))[i]? = some w.2 := by rw [List.getElem?_map, hw]; rfl
        have q := q6 (set0 hnd hw' hn d)
        have s2 := far _ r2
        walk_at "go"
        refine ⟨by show 2 ≤ sizeLine; decide, fun T nT => ?_⟩
        exact q _ T p' P' _ (s2.trans (same_upd nT)) upd_same (hD2.up (same_upd nT)) (by rw [List.map_set]; exact set_map hnd hw' hn)
def spLLawNumber (K : PySem.W.Frag) : Sp := fun vs H Q _ => ∃ (a : Addr) (ns : List Int) (k : Nat), vs = [.ref a, .int k] ∧ SqL K H a (zs ns) ∧ ∀ c : Int, Q (.int c) H
theorem okLLawNumber {fLLawNumber : Addr} {fdLLawNumber : FuncData} (F : Fun K "_law_number" "_law_number" sLLawNumber fLLawNumber fdLLawNumber) (T : Txt mg) {aLETTERS : Tok} {aWORD_CHARACTERS : Tok} {aNAME_LENGTH : Tok} {aMOST_PARAMETERS : Tok} (CT : Cons K mg aLETTERS aWORD_CHARACTERS aNAME_LENGTH aMOST_PARAMETERS) {CPartError CTextFault CUnknown CTaken CBeyond CFull : Addr} (EX : Exns K mg CPartError CTextFault CUnknown CTaken CBeyond CFull) {fIni : Addr} {fdIni : FuncData} (FL : Flt K mg CPartError CTextFault CUnknown CTaken CBeyond CFull fIni) (GIni : FnOk P w K mg base CX0 1 fIni fdIni ["self", "line", "column"] (spFIni K CTextFault)) (bIni : Binds K fdIni ["self", "line", "column"] []) {CDocument : Addr} (OBDocument : ObDocument K mg CDocument) :
    FnOk P w K mg base CX0 1 fLLawNumber fdLLawNumber ["script", "k"] (spLLawNumber K) := by
  refine F.ok scLLawNumber (fun vs H Q E h => ?_) (fun cdv A outer s H vs Q E hr h => ?_)
  · obtain ⟨a, ns, k, rfl, hS, q⟩ := h
    rfl
  · obtain ⟨a, ns, k, rfl, hS, q⟩ := h
    refine ⟨_, (C8.pss_cut (ps_set (i := 2) scLLawNumber.nd rfl (Or.inl rfl) (pe_ifExp (pt_cmpR op_lt (pv 1) (pe_callB call_len_seq (by rfl) T.len PySem.boot_len (pa_cons (pv 0) pa_nil)) (nomark _)) (pe_ix ix_list (pv 0) (pv 1) (fun _ _ => rfl)) (pe_op op_add (pe_op op_mul pe_int (pv 1)) pe_int)))
      (C8.pss_cut (ps_if (pt_cmpR op_lt (pv 2) pe_int (nomark _))
        (pss_one (ps_set (i := 2) scLLawNumber.nd rfl (Or.inl rfl) (pe_op op_sub (pe_op op_mul (pe_un un_neg pe_int) (pv 2)) pe_int)))
        pss_nil)
      (pss_cons (ps_if (pt_cmpR op_lt (pv 2) (pe_op op_pow pe_int pe_int) (nomark _))
        (pss_cons (ps_set (i := 3) scLLawNumber.nd rfl (Or.inl rfl) (pe_op op_mod (pe_callTy call_int1 (by rfl) T.int (by decide +kernel) (pa_cons (pe_op op_add (pe_op op_add (pe_op op_mul (pv 2) pe_int) (pe_op op_mul (pv 1) pe_int)) pe_int) pa_nil)) pe_int))
        (pss_cons (ps_set (i := 4) scLLawNumber.nd rfl (Or.inl rfl) (pe_op op_mod (pe_callTy call_int1 (by rfl) T.int (by decide +kernel) (pa_cons (pe_op op_add (pe_op op_add (pe_op op_mul (pv 3) pe_int) (pe_op op_mul (pv 2) pe_int)) (pv 1)) pa_nil)) pe_int))
        (pss_one (ps_ret (pe_op op_add (pe_op op_mul (pv 3) pe_int) (pv 4))))))
        pss_nil)
      (pss_one (ps_ret (pv 2)))))), ?_⟩
    refine ⟨fun σ' H' => ∃ c : Int, σ' = [some (.ref a), some (.int k), some (.int c), none, none] ∧ H' = H, ?_, ?_⟩
    · refine ⟨_, rfl, .ref a, rfl, a, _, rfl, .inl hS, _, _, rfl, rfl, _, rfl, ite2 (fun hlt => ?_) (fun _ => ?_)⟩
      · have h1 := of_decide_eq_true hlt
        rw [show zs ns = ns.map V.int from rfl, List.length_map] at h1
        have h2 : k < ns.length := by omega
        have h3 : (zs ns)[k]? = some (.int ns[k]) := by
          rw [show zs ns = ns.map V.int from rfl, List.getElem?_map, List.getElem?_eq_getElem h2]
          rfl
        exact ⟨.ref a, rfl, _, rfl, a, _, _, _, rfl, rfl, hS, atI_nat h3, _, rfl, rfl⟩
      · walk_at "rd"
        exact rfl
    · rintro σ' H' ⟨c, rfl, rfl⟩
      refine ⟨fun σ' H2 => ∃ c : Int, σ' = [some (.ref a), some (.int k), some (.int c), none, none] ∧ H2 = H', ?_, ?_⟩
      · walk_at "rd"
        refine ite2 (fun _ => ?_) (fun _ => ⟨_, rfl, rfl⟩)
        walk_at "rd"
        exact rfl
      · rintro σ' H2 ⟨c, rfl, rfl⟩
        walk_at "rd"
        refine ite2 (fun _ => ?_) (fun _ => ⟨_, rfl, q _⟩)
        walk_at "rd"
        exact q _
def spLLawFraction (K : PySem.W.Frag) : Sp := fun vs H Q _ => ∃ n d : Int, vs = [.int n, .int d] ∧ n.natAbs < 2 ^ 1800 ∧ d.natAbs < 2 ^ 1800 ∧ d ≠ 0 ∧ ∀ (H' : Hp) (t : Addr), Same H H' → H' t = some (.tup (zs (rd2 n d))) → Q (.ref t) H'
theorem okLLawFraction {fLLawFraction : Addr} {fdLLawFraction : FuncData} (F : Fun K "_law_fraction" "_law_fraction" sLLawFraction fLLawFraction fdLLawFraction) (T : Txt mg) {aLETTERS : Tok} {aWORD_CHARACTERS : Tok} {aNAME_LENGTH : Tok} {aMOST_PARAMETERS : Tok} (CT : Cons K mg aLETTERS aWORD_CHARACTERS aNAME_LENGTH aMOST_PARAMETERS) {CPartError CTextFault CUnknown CTaken CBeyond CFull : Addr} (EX : Exns K mg CPartError CTextFault CUnknown CTaken CBeyond CFull) {fIni : Addr} {fdIni : FuncData} (FL : Flt K mg CPartError CTextFault CUnknown CTaken CBeyond CFull fIni) (GIni : FnOk P w K mg base CX0 1 fIni fdIni ["self", "line", "column"] (spFIni K CTextFault)) (bIni : Binds K fdIni ["self", "line", "column"] []) {CDocument : Addr} (OBDocument : ObDocument K mg CDocument) :
    FnOk P w K mg base CX0 1 fLLawFraction fdLLawFraction ["number", "divisor"] (spLLawFraction K) := by
  refine F.ok scLLawFraction (fun vs H Q E h => ?_) (fun cdv A outer s H vs Q E hr h => ?_)
  · obtain ⟨n, d, rfl, bn, bd, hd, k⟩ := h
    rfl
  · obtain ⟨n, d, rfl, bn, bd, hd, k⟩ := h
    refine ⟨_, (C8.pss_cut (ps_set (i := 2) scLLawFraction.nd rfl (Or.inl rfl) (pe_ifExp (pt_cmpR op_ge (pv 0) pe_int (nomark _)) (pv 0) (pe_un un_neg (pv 0))))
      (C8.pss_cut (ps_set (i := 3) scLLawFraction.nd rfl (Or.inl rfl) (pe_ifExp (pt_cmpR op_ge (pv 1) pe_int (nomark _)) (pv 1) (pe_un un_neg (pv 1))))
      (C8.pss_cut (ps_for PassesOwn.never rfl (pi_range1 rfl T.range (pa_cons (pe_op op_add (pe_op op_add (pe_op op_mul pe_int (pe_callB call_len_str (by rfl) T.len PySem.boot_len (pa_cons (pe_callTy call_str_int (by rfl) T.str (by decide +kernel) (pa_cons (pv 2) pa_nil)) pa_nil))) (pe_op op_mul pe_int (pe_callB call_len_str (by rfl) T.len PySem.boot_len (pa_cons (pe_callTy call_str_int (by rfl) T.str (by decide +kernel) (pa_cons (pv 3) pa_nil)) pa_nil)))) pe_int) pa_nil)) (pg_name (i := 4) scLLawFraction.nd rfl (Or.inl rfl))
        (pss_cons (ps_if (pt_cmpR op_eq (pv 3) pe_int (nomark _))
          (pss_one ps_break)
          pss_nil)
        (pss_cons (ps_set (i := 5) scLLawFraction.nd rfl (Or.inl rfl) (pe_op op_modN (pe_callTy call_int1 (by rfl) T.int (by decide +kernel) (pa_cons (pv 2) pa_nil)) (pv 3)))
        (pss_cons (ps_set (i := 2) scLLawFraction.nd rfl (Or.inl rfl) (pv 3))
        (pss_one (ps_set (i := 3) scLLawFraction.nd rfl (Or.inl rfl) (pv 5)))))))
      (C8.pss_cut (ps_if (pt_cmpR op_lt (pv 1) pe_int (nomark _))
        (pss_one (ps_set (i := 2) scLLawFraction.nd rfl (Or.inl rfl) (pe_un un_neg (pv 2))))
        pss_nil)
      (pss_one (ps_ret (pe_tup (pa_cons (pe_op op_fdivX (pv 0) (pv 2)) (pa_cons (pe_op op_fdivX (pv 1) (pv 2)) pa_nil))))))))), ?_⟩
    refine ⟨fun σ' H' => σ' = [some (.int n), some (.int d), some (.int ((n.natAbs : Nat) : Int)), none, none, none] ∧ H' = H, ?_, ?_⟩
    · walk_at "rd"
      refine ite2 (fun g => ?_) (fun g => ?_)
      · have g0 : 0 ≤ n := of_decide_eq_true g
        have e0 : ((n.natAbs : Nat) : Int) = n := by omega
        rw [e0]
        exact ⟨_, rfl, rfl, rfl⟩
      · have g0 : ¬ 0 ≤ n := fun z => g (decide_eq_true z)
        have e0 : ((n.natAbs : Nat) : Int) = -n := by omega
        rw [e0]
        exact ⟨_, rfl, _, rfl, rfl, rfl⟩
    rintro σ' H1 ⟨rfl, rfl⟩
    refine ⟨fun σ' H' => σ' = [some (.int n), some (.int d), some (.int ((n.natAbs : Nat) : Int)), some (.int ((d.natAbs : Nat) : Int)), none, none] ∧ H' = H1, ?_, ?_⟩
    · walk_at "rd"
      refine ite2 (fun g => ?_) (fun g => ?_)
      · have g0 : 0 ≤ d := of_decide_eq_true g
        have e0 : ((d.natAbs : Nat) : Int) = d := by omega
        rw [e0]
        exact ⟨_, rfl, rfl, rfl⟩
      · have g0 : ¬ 0 ≤ d := fun z => g (decide_eq_true z)
        have e0 : ((d.natAbs : Nat) : Int) = -d := by omega
        rw [e0]
        exact ⟨_, rfl, _, rfl, rfl, rfl⟩
    rintro σ' H2 ⟨rfl, rfl⟩
    have l1 : ((n.natAbs : Nat) : Int).natAbs.log2 < 1920 := by
      rw [Int.natAbs_natCast]
      exact Nat.lt_of_lt_of_le (PySem.Flt.log2_lt_of (by decide) bn) (by decide)
    have l2 : ((d.natAbs : Nat) : Int).natAbs.log2 < 1920 := by
      rw [Int.natAbs_natCast]
      exact Nat.lt_of_lt_of_le (PySem.Flt.log2_lt_of (by decide) bd) (by decide)
    have z1 := PySem.int_text_length_le (k := 1920) (by decide) l1
    have z2 := PySem.int_text_length_le (k := 1920) (by decide) l2
    obtain ⟨N, hN⟩ : ∃ N : Nat, N = 4 * (toString ((n.natAbs : Nat) : Int)).length + 4 * (toString ((d.natAbs : Nat) : Int)).length + 60 := ⟨_, rfl⟩
    have eN : (4 : Int) * ((Str.ofString (toString ((n.natAbs : Nat) : Int))).length : Nat) + 4 * ((Str.ofString (toString ((d.natAbs : Nat) : Int))).length : Nat) + 60 = (N : Int) := by
      rw [PySem.ofString_length, PySem.ofString_length, hN]
      omega
    refine ⟨fun σ' H' => ∃ v3 v4 v5 : Option V, σ' = [some (.int n), some (.int d), some (.int ((Nat.gcd n.natAbs d.natAbs : Nat) : Int)), v3, v4, v5] ∧ H' = H2, ?_, ?_⟩
    · refine ⟨_, rfl, _, rfl, l1, _, rfl, PySem.int_text_fits l1, _, _, rfl, rfl, .inl (by constructor <;> decide), ?_⟩
      refine ⟨_, rfl, _, rfl, l2, _, rfl, PySem.int_text_fits l2, _, _, rfl, rfl, .inl (by constructor <;> decide), ?_⟩
      refine ⟨_, _, rfl, rfl, _, _, rfl, rfl, N, congrArg (fun z => [V.int z]) eN, by omega, by omega, ?_⟩
      refine for_range (n := N) (fun i σ' H' => ∃ (c e : Nat) (v4 v5 : Option V), σ' = [some (.int n), some (.int d), some (.int c), some (.int e), v4, v5] ∧ H' = H2 ∧ Eu n.natAbs d.natAbs i c e) ⟨_, _, none, none, rfl, rfl, Eu.start _ _⟩ ?_ ?_
      · rintro i σ' H' hi ⟨c, e, v4, v5, rfl, rfl, eu⟩
        walk_at "rd"
        refine ite2 (fun g => ?_) (fun g => ?_)
        · have he0 : e = 0 := by
            have := eq_of_dec g
            omega
          subst he0
          refine ⟨some (.int ((0 : Nat) : Int)), some (.int (0 + (i : Int))), v5, ?_, rfl⟩
          rw [← eu.end]
          rfl
        · have he0 : e ≠ 0 := fun z => g (decide_eq_true (by rw [z]; rfl))
          walk_at "rd"
          refine ⟨by omega, ?_⟩
          walk_at "rd"
          refine ⟨e, c % e, some (.int (0 + (i : Int))), some (.int ((c % e : Nat) : Int)), ?_, rfl, eu.turn (by omega)⟩
          rw [← fmod_nat c e]
          rfl
      · rintro σ' H' ⟨c, e, v4, v5, rfl, rfl, eu⟩
        have he0 : e = 0 := eu.stop (by omega) (eu_digits hN)
        subst he0
        refine ⟨some (.int ((0 : Nat) : Int)), v4, v5, ?_, rfl⟩
        rw [← eu.end]
    rintro σ' H3 ⟨v3, v4, v5, rfl, rfl⟩
    refine ⟨fun σ' H' => σ' = [some (.int n), some (.int d), some (.int (sg n d)), v3, v4, v5] ∧ H' = H3, ?_, ?_⟩
    · walk_at "rd"
      refine ite2 (fun g2 => ?_) (fun g2 => ?_)
      · refine ⟨_, rfl, _, rfl, ?_, rfl⟩
        unfold sg
        rw [if_pos (of_decide_eq_true g2)]
        rfl
      · refine ⟨?_, rfl⟩
        unfold sg
        rw [if_neg (fun z => g2 (decide_eq_true z))]
    rintro σ' H4 ⟨rfl, rfl⟩
    have hs := sg_ne (n := n) hd
    have hsb : (sg n d).natAbs < 2 ^ 1800 := by
      rw [sg_abs]
      exact Nat.lt_of_le_of_lt (Nat.le_of_dvd (by omega) (Nat.gcd_dvd_right _ _)) bd
    refine ⟨_, rfl, _, rfl, _, _, rfl, rfl, wide_divx hs hsb (by decide) (by decide), _, rfl, _, rfl, _, _, rfl, rfl, wide_divx hs hsb (by decide) (by decide), by show 2 ≤ sizeLine; decide, fun t ht => ?_⟩
    exact k _ t (same_upd ht) upd_same
/-- the small fraction of a draw -/
def sml (d : Int) : Rat := Rat.divInt (d % 13 - 6) (1 + d / 13 % 3)
theorem sml_bd (d : Int) : Bd 10 (sml d) := by
  have h1 := Int.emod_nonneg d (show (13 : Int) ≠ 0 by decide)
  have h2 := Int.emod_lt_of_pos d (show (0 : Int) < 13 by decide)
  have h3 := Int.emod_nonneg (d / 13) (show (3 : Int) ≠ 0 by decide)
  have h4 := Int.emod_lt_of_pos (d / 13) (show (0 : Int) < 3 by decide)
  exact bd_of (by omega) (by have : (2 : Nat) ^ 10 = 1024 := rfl; omega) (by have : (2 : Nat) ^ 10 = 1024 := rfl; omega)
def spLLawSmall (K : PySem.W.Frag) : Sp := fun vs H Q _ => ∃ d : Int, vs = [.int d] ∧ ∀ (H' : Hp) (t : Addr), Same H H' → Fx K H' t (sml d) → Q (.ref t) H'
theorem okLLawSmall {fLLawSmall : Addr} {fdLLawSmall : FuncData} (F : Fun K "_law_small" "_law_small" sLLawSmall fLLawSmall fdLLawSmall) (T : Txt mg) {aLETTERS : Tok} {aWORD_CHARACTERS : Tok} {aNAME_LENGTH : Tok} {aMOST_PARAMETERS : Tok} (CT : Cons K mg aLETTERS aWORD_CHARACTERS aNAME_LENGTH aMOST_PARAMETERS) {CPartError CTextFault CUnknown CTaken CBeyond CFull : Addr} (EX : Exns K mg CPartError CTextFault CUnknown CTaken CBeyond CFull) {fIni : Addr} {fdIni : FuncData} (FL : Flt K mg CPartError CTextFault CUnknown CTaken CBeyond CFull fIni) (GIni : FnOk P w K mg base CX0 1 fIni fdIni ["self", "line", "column"] (spFIni K CTextFault)) (bIni : Binds K fdIni ["self", "line", "column"] []) {CDocument : Addr} (OBDocument : ObDocument K mg CDocument)
    {fLLawFraction : Addr} {fdLLawFraction : FuncData} (GLLawFraction : FnOk P w K mg base CX0 1 fLLawFraction fdLLawFraction ["number", "divisor"] (spLLawFraction K)) (gLLawFraction : mg "_law_fraction" = some (.ref fLLawFraction)) (kpLLawFraction : PySem.W.keepIn K (.ref fLLawFraction) = true) (bLLawFraction : Binds K fdLLawFraction ["number", "divisor"] []) :
    FnOk P w K mg base CX0 2 fLLawSmall fdLLawSmall ["draw"] (spLLawSmall K) := by
  refine F.ok scLLawSmall (fun vs H Q E h => ?_) (fun cdv A outer s H vs Q E hr h => ?_)
  · obtain ⟨d, rfl, k⟩ := h
    rfl
  · obtain ⟨d, rfl, k⟩ := h
    refine ⟨_, (pss_one (ps_ret (pe_call GLLawFraction hr (by rfl) gLLawFraction kpLLawFraction bLLawFraction .nil pass0 (pa_cons (pe_op op_sub (pe_op op_mod (pe_callTy call_int1 (by rfl) T.int (by decide +kernel) (pa_cons (pv 0) pa_nil)) pe_int) pe_int) (pa_cons (pe_op op_add pe_int (pe_op op_mod (pe_callTy call_int1 (by rfl) T.int (by decide +kernel) (pa_cons (pe_op op_fdiv (pv 0) pe_int) pa_nil)) pe_int)) pa_nil))))), ?_⟩
    have h1 := Int.emod_nonneg d (show (13 : Int) ≠ 0 by decide)
    have h2 := Int.emod_lt_of_pos d (show (0 : Int) < 13 by decide)
    have h3 := Int.emod_nonneg (d / 13) (show (3 : Int) ≠ 0 by decide)
    have h4 := Int.emod_lt_of_pos (d / 13) (show (0 : Int) < 3 by decide)
    have c : (1000 : Nat) < 2 ^ 1800 := Nat.lt_of_lt_of_le (by decide) (Nat.pow_le_pow_right (n := 2) (i := 10) (by decide) (by decide))
    walk_at "rd"
    exact ⟨d % 13 - 6, 1 + d / 13 % 3, rfl, by omega, by omega, by omega, fun H' t s1 e1 => k H' t s1 (fx_rd (by omega) e1)⟩
def spLLawLess (K : PySem.W.Frag) : Sp := fun vs H Q _ => ∃ (a b : Addr) (x y : Rat), vs = [.ref a, .ref b] ∧ Fx K H a x ∧ Fx K H b y ∧ bdF x ∧ bdF y ∧ Q (.bl (ltF x y)) H
theorem okLLawLess {fLLawLess : Addr} {fdLLawLess : FuncData} (F : Fun K "_law_less" "_law_less" sLLawLess fLLawLess fdLLawLess) (T : Txt mg) {aLETTERS : Tok} {aWORD_CHARACTERS : Tok} {aNAME_LENGTH : Tok} {aMOST_PARAMETERS : Tok} (CT : Cons K mg aLETTERS aWORD_CHARACTERS aNAME_LENGTH aMOST_PARAMETERS) {CPartError CTextFault CUnknown CTaken CBeyond CFull : Addr} (EX : Exns K mg CPartError CTextFault CUnknown CTaken CBeyond CFull) {fIni : Addr} {fdIni : FuncData} (FL : Flt K mg CPartError CTextFault CUnknown CTaken CBeyond CFull fIni) (GIni : FnOk P w K mg base CX0 1 fIni fdIni ["self", "line", "column"] (spFIni K CTextFault)) (bIni : Binds K fdIni ["self", "line", "column"] []) {CDocument : Addr} (OBDocument : ObDocument K mg CDocument) :
    FnOk P w K mg base CX0 1 fLLawLess fdLLawLess ["a", "b"] (spLLawLess K) := by
  refine F.ok scLLawLess (fun vs H Q E h => ?_) (fun cdv A outer s H vs Q E hr h => ?_)
  · obtain ⟨a, b, x, y, rfl, hA, hB, hx, hy, k⟩ := h
    rfl
  · obtain ⟨a, b, x, y, rfl, hA, hB, hx, hy, k⟩ := h
    refine ⟨_, (pss_one (ps_ret (pe_cmpR op_lt (pe_op op_mulW (pe_ix ix_tup (pv 0) pe_int (fun _ _ => rfl)) (pe_ix ix_tup (pv 1) pe_int (fun _ _ => rfl))) (pe_op op_mulW (pe_ix ix_tup (pv 1) pe_int (fun _ _ => rfl)) (pe_ix ix_tup (pv 0) pe_int (fun _ _ => rfl))) (nomark _)))), ?_⟩
    walk_at "go"
    exact k
def duS : Nat → Str
  | 0 => "good"
  | 1 => "text"
  | 2 => "taken"
  | 3 => "full"
  | 4 => "beyond"
  | _ => "unknown"
abbrev BADS : List V := [.str "", .str "2w", .str "a.b", .str "abcdefghijklmnopq"]
def spLLawDue (K : PySem.W.Frag) : Sp := fun vs H Q _ => ∃ (r u : Addr) (ws : List (Addr × Pm)) (e : Ed), vs = [.ref r, .ref u] ∧ SqL K H r (Ro ws) ∧ PsAt K H ws ∧ ws.length ≤ 4 ∧ (∀ w ∈ ws, bdP w.2) ∧ ((ws.map (·.2)).map (·.nm)).Nodup ∧ EdAt K H u e ∧ e.bd ∧ inV (sv e.nm) BADS = (!shortW LTl WCl e.nm) ∧ ∀ H' : Hp, Same H H' → Q (.str (duS (dueE (ws.map (·.2)) e))) H'
theorem okLLawDue {fLLawDue : Addr} {fdLLawDue : FuncData} (F : Fun K "_law_due" "_law_due" sLLawDue fLLawDue fdLLawDue) (T : Txt mg) {aLETTERS : Tok} {aWORD_CHARACTERS : Tok} {aNAME_LENGTH : Tok} {aMOST_PARAMETERS : Tok} (CT : Cons K mg aLETTERS aWORD_CHARACTERS aNAME_LENGTH aMOST_PARAMETERS) {CPartError CTextFault CUnknown CTaken CBeyond CFull : Addr} (EX : Exns K mg CPartError CTextFault CUnknown CTaken CBeyond CFull) {fIni : Addr} {fdIni : FuncData} (FL : Flt K mg CPartError CTextFault CUnknown CTaken CBeyond CFull fIni) (GIni : FnOk P w K mg base CX0 1 fIni fdIni ["self", "line", "column"] (spFIni K CTextFault)) (bIni : Binds K fdIni ["self", "line", "column"] []) {CDocument : Addr} (OBDocument : ObDocument K mg CDocument)
    {fLLawLess : Addr} {fdLLawLess : FuncData} (GLLawLess : FnOk P w K mg base CX0 1 fLLawLess fdLLawLess ["a", "b"] (spLLawLess K)) (gLLawLess : mg "_law_less" = some (.ref fLLawLess)) (kpLLawLess : PySem.W.keepIn K (.ref fLLawLess) = true) (bLLawLess : Binds K fdLLawLess ["a", "b"] []) :
    FnOk P w K mg base CX0 2 fLLawDue fdLLawDue ["rows", "edit"] (spLLawDue K) := by
  refine F.ok scLLawDue (fun vs H Q E h => ?_) (fun cdv A outer s H vs Q E hr h => ?_)
  · obtain ⟨r, u, ws, e, rfl, hrr, hps, hl, hbs, hnd, he, heb, hbad, q⟩ := h
    rfl
  · obtain ⟨r, u, ws, e, rfl, hrr, hps, hl, hbs, hnd, he, heb, hbad, q⟩ := h
    refine ⟨_, (pss_cons (ps_setLc (i := 2) (own := [("row", 3)]) (by rfl) scLLawDue.nd rfl rfl (sw_true rfl rfl rfl (by decide +kernel)) (pi_list (pv 0)) (blkOk_by (own := [("row", 3)]) (N := ["rows", "edit", "names", "row"]) (sc := defScope sLLawDue) (by decide +kernel)) (fun _ _ _ _ _ => (pg_name (i := 3) scLLawDue.nd rfl (Or.inl rfl))) (fun _ _ _ _ _ => pts_nil) (fun _ _ _ _ _ => (pe_ix (show IxR _ (rIxL K) from ix_list) (pv 3) pe_int (fun _ _ => rfl))))
      (pss_cons (ps_if (pt_cmpR op_eq (pe_ix ix_tup (pv 1) pe_int (fun _ _ => rfl)) pe_str (nomark _))
        (pss_cons (ps_if (pt_cmpR op_in_seq (pe_ix ix_tup (pv 1) pe_int (fun _ _ => rfl)) (pe_tup (pa_cons pe_str (pa_cons pe_str (pa_cons pe_str (pa_cons pe_str pa_nil))))) (by rfl))
          (pss_one (ps_ret pe_str))
          pss_nil)
        (pss_cons (ps_if (pt_cmpR op_in_seq (pe_ix ix_tup (pv 1) pe_int (fun _ _ => rfl)) (pv 2) (by rfl))
          (pss_one (ps_ret pe_str))
          pss_nil)
        (pss_cons (ps_if (pt_cmpR op_ge (pe_callB call_len_seq (by rfl) T.len PySem.boot_len (pa_cons (pv 0) pa_nil)) pe_int (nomark _))
          (pss_one (ps_ret pe_str))
          pss_nil)
        (pss_cons (ps_if (PW.pt (pw_or (pt_val (pe_call GLLawLess hr (by rfl) gLLawLess kpLLawLess bLLawLess .nil pass0 (pa_cons (pe_ix ix_tup (pv 1) pe_int (fun _ _ => rfl)) (pa_cons (pe_ix ix_tup (pv 1) pe_int (fun _ _ => rfl)) pa_nil)))) (pw_or1 (pt_val (pe_call GLLawLess hr (by rfl) gLLawLess kpLLawLess bLLawLess .nil pass0 (pa_cons (pe_ix ix_tup (pv 1) pe_int (fun _ _ => rfl)) (pa_cons (pe_ix ix_tup (pv 1) pe_int (fun _ _ => rfl)) pa_nil)))))))
          (pss_one (ps_ret pe_str))
          pss_nil)
        (pss_one (ps_ret pe_str))))))
        pss_nil)
      (pss_cons (ps_if (pt_cmpR op_notIn_seq (pe_ix ix_tup (pv 1) pe_int (fun _ _ => rfl)) (pv 2) (by rfl))
        (pss_one (ps_ret pe_str))
        pss_nil)
      (pss_cons (ps_set (i := 3) scLLawDue.nd rfl (Or.inl rfl) (pe_ix ix_list (pv 0) (pe_bm PySem.F.plainAttrs_list PySem.F.slot_list_index PySem.F.type_list_index mt_index (pv 2) (pa_cons (pe_ix ix_tup (pv 1) pe_int (fun _ _ => rfl)) pa_nil)) (fun _ _ => rfl)))
      (pss_cons (ps_if (PW.pt (pw_or (pt_val (pe_call GLLawLess hr (by rfl) gLLawLess kpLLawLess bLLawLess .nil pass0 (pa_cons (pe_ix ix_tup (pv 1) pe_int (fun _ _ => rfl)) (pa_cons (pe_ix ix_list (pv 3) pe_int (fun _ _ => rfl)) pa_nil)))) (pw_or1 (pt_val (pe_call GLLawLess hr (by rfl) gLLawLess kpLLawLess bLLawLess .nil pass0 (pa_cons (pe_ix ix_list (pv 3) pe_int (fun _ _ => rfl)) (pa_cons (pe_ix ix_tup (pv 1) pe_int (fun _ _ => rfl)) pa_nil)))))))
        (pss_one (ps_ret pe_str))
        pss_nil)
      (pss_one (ps_ret pe_str))))))), ?_⟩
    walk_at "go"
    refine ⟨⟨_, hrr⟩, fun D hD => ?_⟩
    refine lc_val (walk_list (K := K) (a := r) (xs := Ro ws)) (ws.map fun w => sv w.2.nm) (by rw [List.length_map, Ro_len]) (by rw [Ro_len]; omega) hD (fun H s => s.seq hrr) ?_ ?_
    · rintro i r x H3 H4 kk hr s3 ⟨rfl, hv⟩ yk
      obtain ⟨w, rfl, gw⟩ := Ro_get hv
      obtain ⟨v, l, g, e1, _⟩ := (hps w (List.mem_of_getElem? gw)).up s3
      have er : r = sv w.2.nm := by
        rw [List.getElem?_map, gw] at hr
        exact (Option.some.inj hr).symm
      subst er
      exact ⟨rfl, _, rfl, w.1, _, _, _, rfl, rfl, SqL.of e1, atI_nat (j := 0) rfl, yk _ (Same.refl _)⟩
    · intro H1 s1 e1
      walk_at "go"
      have he1 := he.up s1
      cases e with
      | dec n =>
        obtain ⟨v, l, h, g1, g2, g3, g4⟩ := he1
        walk_at "go"
        refine ⟨by show 4 ≤ sizeLine; decide, fun T nT => ?_⟩
        have s2 := same_upd (o := .tup BADS) nT
        have e2 : (upd H1 T (.tup BADS)) T = some (.tup BADS) := upd_same
        generalize upd H1 T (.tup BADS) = H2 at s2 e2 ⊢
        refine ⟨T, BADS, rfl, .inr (SqT.of e2), rfl, by decide, ?_⟩
        rw [if_neg Bool.false_ne_true, show inV (sv n.nm) BADS = _ from hbad]
        refine ⟨_, rfl, ?_⟩
        show if (!shortW LTl WCl n.nm) = true then _ else _
        cases hsw : shortW LTl WCl n.nm with
        | false =>
          refine iteT' rfl ?_
          have := q H2 (s1.trans s2)
          rw [show dueE (ws.map (·.2)) (.dec n) = 1 from if_pos hsw] at this
          exact this
        | true =>
          refine iteF' rfl ?_
          walk_at "go"
          have g1' := same_tup s2 g1
          refine ⟨D, _, rfl, .inl (SqL.of (s2 _ _ e1)), rfl, flat_names ws, ?_⟩
          rw [if_neg Bool.false_ne_true, show inV (sv n.nm) (ws.map fun w => sv w.2.nm) = _ from inV_names n.nm ws]
          refine ⟨_, rfl, ?_⟩
          by_cases hin : n.nm ∈ ws.map (·.2.nm)
          · refine iteT' (decide_eq_true hin) ?_
            have := q H2 (s1.trans s2)
            rw [due2 hsw (nms ▸ hin)] at this
            exact this
          · refine iteF' (decide_eq_false hin) ?_
            walk_at "go"
            refine ⟨r, _, rfl, .inl (s2.seq (s1.seq hrr)), ?_⟩
            rw [Ro_len]
            walk_at "go"
            by_cases h40 : ws.length = 4
            · refine iteT' (decide_eq_true (by omega)) ?_
              have := q H2 (s1.trans s2)
              rw [due3 hsw (nms ▸ hin) (by rw [List.length_map]; exact h40)] at this
              exact this
            · refine iteF' (decide_eq_false (by omega)) ?_
              walk_at "go"
              refine ⟨v, l, n.v, n.lo, rfl, g2.same s2, g3.same s2, heb.1, heb.2.1, ?_⟩
              refine ⟨_, rfl, ?_⟩
              have c40 : (ws.map (·.2)).length ≠ 4 := by rw [List.length_map]; exact h40
              cases hl1 : ltF n.v n.lo with
              | true =>
                refine iteT' rfl ?_
                have := q H2 (s1.trans s2)
                rw [due4 hsw (nms ▸ hin) c40 (by rw [hl1]; rfl)] at this
                exact this
              | false =>
                refine iteF' rfl ?_
                walk_at "go"
                refine ⟨u, _, _, _, rfl, rfl, g1', atI_nat (j := 4) rfl, ?_⟩
                walk_at "go"
                refine ⟨h, v, n.hi, n.v, rfl, g4.same s2, g2.same s2, heb.2.2, heb.1, ?_⟩
                refine ⟨_, rfl, ?_⟩
                cases hl2 : ltF n.hi n.v with
                | true =>
                  refine iteT' rfl ?_
                  have := q H2 (s1.trans s2)
                  rw [due4 hsw (nms ▸ hin) c40 (by rw [hl1, hl2]; rfl)] at this
                  exact this
                | false =>
                  refine iteF' rfl ?_
                  have := q H2 (s1.trans s2)
                  rw [due0 hsw (nms ▸ hin) c40 (by rw [hl1, hl2]; rfl)] at this
                  exact this
      | set nm x =>
        obtain ⟨v, g1, g2⟩ := he1
        walk_at "go"
        refine ⟨D, _, rfl, .inl (SqL.of e1), rfl, flat_names ws, ?_⟩
        rw [if_pos rfl, show inV (sv nm) (ws.map fun w => sv w.2.nm) = _ from inV_names nm ws]
        refine ⟨_, rfl, ?_⟩
        by_cases hin : nm ∈ ws.map (·.2.nm)
        · refine iteF' (by rw [decide_eq_true hin]; rfl) ?_
          obtain ⟨i, w, hw, hwn, hfirst⟩ := first_at hin
          have hw' : (ws.map (·.2))[i]? = some w.2 := by rw [List.getElem?_map, hw]; rfl
          have hnat : (ws.map fun w => sv w.2.nm)[i]? = some (sv nm) := by rw [List.getElem?_map, hw, ← hwn]; rfl
          walk_at "go"
          refine ⟨.inl ⟨rfl, _, SqL.of e1⟩, ?_⟩
          walk_at "go"
          refine ⟨D, _, _, i, sv nm, rfl, rfl, SqL.of e1, rfl, flat_names ws, hnat, (eqV_sv nm nm).trans (decide_eq_true rfl), fun m z' hm hz => ?_, ?_⟩
          · rw [List.getElem?_map] at hz
            cases eu : ws[m]? with
            | none =>
              rw [eu] at hz
              cases hz
            | some u =>
              rw [eu] at hz
              obtain rfl := Option.some.inj hz
              rw [show eqV (sv u.2.nm) (sv nm) = _ from eqV_sv u.2.nm nm]
              exact decide_eq_false (hfirst m hm u eu)
          have hwr : (Ro ws)[i]? = some (.ref w.1) := by
            show (ws.map _)[i]? = _
            rw [List.getElem?_map, hw]
            rfl
          obtain ⟨v0, l0, g0, w1, w2, w3, w4⟩ := (hps w (List.mem_of_getElem? hw)).up s1
          have hbw := hbs w (List.mem_of_getElem? hw)
          refine ⟨r, _, _, _, rfl, rfl, s1.seq hrr, atI_nat hwr, ?_⟩
          walk_at "go"
          refine ⟨w.1, _, _, _, rfl, rfl, SqL.of w1, atI_nat (j := 2) rfl, ?_⟩
          refine ⟨v, l0, x, w.2.lo, rfl, g2, w3, heb, hbw.2.1, ?_⟩
          refine ⟨_, rfl, ?_⟩
          cases hl1 : ltF x w.2.lo with
          | true =>
            refine iteT' rfl ?_
            have := q H1 s1
            rw [set4 hnd hw' hwn (by rw [hl1]; rfl)] at this
            exact this
          | false =>
            refine iteF' rfl ?_
            walk_at "go"
            refine ⟨w.1, _, _, _, rfl, rfl, SqL.of w1, atI_nat (j := 3) rfl, ?_⟩
            walk_at "go"
            refine ⟨g0, v, w.2.hi, x, rfl, w4, g2, hbw.2.2, heb, ?_⟩
            refine ⟨_, rfl, ?_⟩
            cases hl2 : ltF w.2.hi x with
            | true =>
              refine iteT' rfl ?_
              have := q H1 s1
              rw [set4 hnd hw' hwn (by rw [hl1, hl2]; rfl)] at this
              exact this
            | false =>
              refine iteF' rfl ?_
              have := q H1 s1
              rw [set0 hnd hw' hwn (by rw [hl1, hl2]; rfl)] at this
              exact this
        · refine iteT' (by rw [decide_eq_false hin]; rfl) ?_
          have := q H1 s1
          rw [set5 (nms ▸ hin)] at this
          exact this
def spLLawApply (K : PySem.W.Frag) (CDocument : Addr) : Sp := fun vs H Q _ => ∃ (p u lo hi P : Addr) (ws : List (Addr × Pm)) (e : Ed), vs = [.ref p, .ref u] ∧ DcAt K CDocument H p lo hi P ws ∧ ws.length ≤ 4 ∧ (∀ w ∈ ws, bdP w.2) ∧ ((ws.map (·.2)).map (·.nm)).Nodup ∧ EdAt K H u e ∧ e.bd ∧ e.nm.length ≤ 100 ∧
  (dueE (ws.map (·.2)) e ≠ 0 → ∀ H' : Hp, Same H H' → Q (.str (duS (dueE (ws.map (·.2)) e))) H') ∧
  (dueE (ws.map (·.2)) e = 0 → ∀ (H' : Hp) (t p' P' : Addr) (us : List (Addr × Pm)), Same H H' → H' t = some (.tup [.ref p', .non]) → DcAt K CDocument H' p' lo hi P' us → us.map (·.2) = nextE (ws.map (·.2)) e → Q (.ref t) H')
theorem okLLawApply {fLLawApply : Addr} {fdLLawApply : FuncData} (F : Fun K "_law_apply" "_law_apply" sLLawApply fLLawApply fdLLawApply) (T : Txt mg) {aLETTERS : Tok} {aWORD_CHARACTERS : Tok} {aNAME_LENGTH : Tok} {aMOST_PARAMETERS : Tok} (CT : Cons K mg aLETTERS aWORD_CHARACTERS aNAME_LENGTH aMOST_PARAMETERS) {CPartError CTextFault CUnknown CTaken CBeyond CFull : Addr} (EX : Exns K mg CPartError CTextFault CUnknown CTaken CBeyond CFull) {fIni : Addr} {fdIni : FuncData} (FL : Flt K mg CPartError CTextFault CUnknown CTaken CBeyond CFull fIni) (GIni : FnOk P w K mg base CX0 1 fIni fdIni ["self", "line", "column"] (spFIni K CTextFault)) (bIni : Binds K fdIni ["self", "line", "column"] []) {CDocument : Addr} (OBDocument : ObDocument K mg CDocument)
    {fApply : Addr} {fdApply : FuncData} (GApply : FnOk P w K mg base (L2.CX P w) 7 fApply fdApply ["document", "edit"] (spApply K CDocument CTextFault CTaken CFull CBeyond CUnknown)) (gApply : mg "apply" = some (.ref fApply)) (kpApply : PySem.W.keepIn K (.ref fApply) = true) (bApply : Binds K fdApply ["document", "edit"] []) :
    FnOk P w K mg base CX0 8 fLLawApply fdLLawApply ["document", "edit"] (spLLawApply K CDocument) := by
  refine F.ok scLLawApply (fun vs H Q E h => ?_) (fun cdv A outer s H vs Q E hr h => ?_)
  · obtain ⟨p, u, lo, hi, P, ws, e, rfl, hD, hl, hbs, hnd, he, heb, hel, q1, q2⟩ := h
    rfl
  · obtain ⟨p, u, lo, hi, P, ws, e, rfl, hD, hl, hbs, hnd, he, heb, hel, q1, q2⟩ := h
    refine ⟨_, (pss_one (ps_try_mx rfl rfl (fun W pn xe tk _ => (pss_one (ps_ret (pe_callS GApply hr (by rfl) gApply kpApply bApply (fun σ => passAt tk σ) (pa_cons (pv 0) (pa_cons (pv 1) pa_nil))))))
        (.as_ ⟨rfl, by decide, .inl FL.g⟩ scLLawApply.nd (j := 2) rfl rfl (fun a oe cls d pn hz hf => suite_ofD (C := CTextFault) hz fun dd hz1 => (pss_one (ps_ret (pe_ifExp (PW.pt (pw_and (pt_cmpR op_eq (pe_xf FL.xf FL.nline hz1 hf (pv 2)) pe_int (nomark _)) (pw_and1 (pt_cmpR op_eq (pe_xf FL.xf FL.ncolumn hz1 hf (pv 2)) pe_int (nomark _))))) pe_str pe_str))))
        (.plain ⟨rfl, by decide, .inl EX.gTaken⟩ (ts := fun _ _ _ => _) (fun a oe cls d pn hz hf => (pss_one (ps_ret pe_str)))
        (.plain ⟨rfl, by decide, .inl EX.gFull⟩ (ts := fun _ _ _ => _) (fun a oe cls d pn hz hf => (pss_one (ps_ret pe_str)))
        (.plain ⟨rfl, by decide, .inl EX.gBeyond⟩ (ts := fun _ _ _ => _) (fun a oe cls d pn hz hf => (pss_one (ps_ret pe_str)))
        (.plain ⟨rfl, by decide, .inl EX.gUnknown⟩ (ts := fun _ _ _ => _) (fun a oe cls d pn hz hf => (pss_one (ps_ret pe_str)))
        (.plain ⟨rfl, by decide, .inl EX.gPartError⟩ (ts := fun _ _ _ => _) (fun a oe cls d pn hz hf => (pss_one (ps_ret pe_str)))
        .nil)))))))), ?_⟩
    walk_at "go"
    have wd : dueE (ws.map (·.2)) e ≠ 0 → ∀ (k : Nat), dueE (ws.map (·.2)) e = k → ∀ H', Same H H' → Q (.str (duS k)) H' := fun h0 k hk H' s => by
      rw [← hk]
      exact q1 h0 H' s
    refine ⟨p, u, lo, hi, P, ws, e, rfl, hD, hl, hbs, hnd, he, heb, hel, fun d0 dd H' s ed => ?_, fun d0 H' s => ?_, fun d0 H' s => ?_, fun d0 H' s => ?_, fun d0 H' s => ?_, q2⟩
    · refine ⟨true, EX.mTextFault_TextFault, fun _ x nx => ?_, (fun h => nomatch h)⟩
      refine ⟨dd, ⟨rfl, rfl⟩, ?_⟩
      walk_at "go"
      refine ⟨dd, _, .int 1, rfl, ed, by kernel_rfl, ?_⟩
      walk_at "go"
      refine ⟨dd, _, .int 1, rfl, ed, by kernel_rfl, ?_⟩
      walk_at "go"
      exact wd (by rw [d0]; decide) _ d0 H' s
    · refine ⟨false, EX.mTaken_TextFault, (fun h => nomatch h), fun _ => ?_⟩
      refine ⟨true, EX.mTaken_Taken, fun _ x nx => ?_, (fun h => nomatch h)⟩
      exact wd (by rw [d0]; decide) _ d0 H' s
    · refine ⟨false, EX.mFull_TextFault, (fun h => nomatch h), fun _ => ?_⟩
      refine ⟨false, EX.mFull_Taken, (fun h => nomatch h), fun _ => ?_⟩
      refine ⟨true, EX.mFull_Full, fun _ x nx => ?_, (fun h => nomatch h)⟩
      exact wd (by rw [d0]; decide) _ d0 H' s
    · refine ⟨false, EX.mBeyond_TextFault, (fun h => nomatch h), fun _ => ?_⟩
      refine ⟨false, EX.mBeyond_Taken, (fun h => nomatch h), fun _ => ?_⟩
      refine ⟨false, EX.mBeyond_Full, (fun h => nomatch h), fun _ => ?_⟩
      refine ⟨true, EX.mBeyond_Beyond, fun _ x nx => ?_, (fun h => nomatch h)⟩
      exact wd (by rw [d0]; decide) _ d0 H' s
    · refine ⟨false, EX.mUnknown_TextFault, (fun h => nomatch h), fun _ => ?_⟩
      refine ⟨false, EX.mUnknown_Taken, (fun h => nomatch h), fun _ => ?_⟩
      refine ⟨false, EX.mUnknown_Full, (fun h => nomatch h), fun _ => ?_⟩
      refine ⟨false, EX.mUnknown_Beyond, (fun h => nomatch h), fun _ => ?_⟩
      refine ⟨true, EX.mUnknown_Unknown, fun _ x nx => ?_, (fun h => nomatch h)⟩
      exact wd (by rw [d0]; decide) _ d0 H' s
def spDocumentSetting (K : PySem.W.Frag) (CDocument : Addr) : Sp := fun vs H Q _ => ∃ (p lo hi P : Addr) (ws : List (Addr × Pm)), vs = [.ref p] ∧ DcAt K CDocument H p lo hi P ws ∧ ws.length ≤ 100 ∧ ∀ (H' : Hp) (D : Addr) (us : List (Addr × Rat)), Same H H' → H D = none → H' D = some (.lst (fr us)) → Rx K H' us → us.map (·.2) = ws.map (·.2.v) → Q (.ref D) H'
theorem okDocumentSetting {fDocumentSetting : Addr} {fdDocumentSetting : FuncData} (F : Fun K "setting" "Document.setting" sDocumentSetting fDocumentSetting fdDocumentSetting) (T : Txt mg) {aLETTERS : Tok} {aWORD_CHARACTERS : Tok} {aNAME_LENGTH : Tok} {aMOST_PARAMETERS : Tok} (CT : Cons K mg aLETTERS aWORD_CHARACTERS aNAME_LENGTH aMOST_PARAMETERS) {CPartError CTextFault CUnknown CTaken CBeyond CFull : Addr} (EX : Exns K mg CPartError CTextFault CUnknown CTaken CBeyond CFull) {fIni : Addr} {fdIni : FuncData} (FL : Flt K mg CPartError CTextFault CUnknown CTaken CBeyond CFull fIni) (GIni : FnOk P w K mg base CX0 1 fIni fdIni ["self", "line", "column"] (spFIni K CTextFault)) (bIni : Binds K fdIni ["self", "line", "column"] []) {CDocument : Addr} (OBDocument : ObDocument K mg CDocument) :
    FnOk P w K mg base CX0 1 fDocumentSetting fdDocumentSetting ["self"] (spDocumentSetting K CDocument) := by
  refine F.ok scDocumentSetting (fun vs H Q E h => ?_) (fun cdv A outer s H vs Q E hr h => ?_)
  · obtain ⟨p, lo, hi, P, ws, rfl, hD, hl, q⟩ := h
    rfl
  · obtain ⟨p, lo, hi, P, ws, rfl, hD, hl, q⟩ := h
    refine ⟨_, (pss_one (ps_ret (pe_lc (own := [("row", 1)]) (by rfl) scDocumentSetting.nd (pi_list (pe_fld (pv 0) rfl)) (blkOk_by (own := [("row", 1)]) (N := ["self", "row"]) (sc := defScope sDocumentSetting) (by decide +kernel)) (fun _ _ _ _ _ => (pg_name (i := 1) scDocumentSetting.nd rfl (Or.inl rfl))) (fun _ _ _ _ _ => pts_nil) (fun _ _ _ _ _ => (pe_ix (show IxR _ (rIxL K) from ix_list) (pv 1) pe_int (fun _ _ => rfl)))))), ?_⟩
    obtain ⟨dx, F, G, h1, h2, h3, h4, h5, hPF0, hPG0⟩ := hD
    refine ⟨_, rfl, p, _, dx, _, _, rfl, h1, OBDocument.cl, OBDocument.nparameters, dc_par _ _ _ _ _, ?_⟩
    refine ⟨P, rfl, ⟨_, SqL.of h2⟩, fun D hD => ?_⟩
    refine lc_relD (walk_list (K := K) (a := P) (xs := Ro ws)) (ws.map fun w => w.2.v) (by rw [List.length_map, Ro_len]) (by rw [Ro_len]; omega) hD (fun H t (r : Rat) => Fx K H t r) (fun s h => Fx.same h s) over_tup (fun H s => s.seq (SqL.of h2)) ?_ ?_
    · rintro i r x H3 H4 kk hr s3 _ ⟨rfl, hv⟩ yk
      obtain ⟨w, rfl, gw⟩ := Ro_get hv
      obtain ⟨v, l, g, e1, e2, _⟩ := (h5 w (List.mem_of_getElem? gw)).up s3
      have er : r = w.2.v := by
        rw [List.getElem?_map, gw] at hr
        exact (Option.some.inj hr).symm
      subst er
      exact ⟨rfl, _, rfl, w.1, _, _, _, rfl, rfl, SqL.of e1, atI_nat (j := 1) rfl, yk _ _ (Same.refl _) e2⟩
    intro H3 us s3 e3 r3 m3
    exact q H3 D us s3 hD e3 r3 m3
def menu60 : List (List Nat) := [[119], [104], [119, 95, 49], [81], [116, 104, 105, 99, 107], [97, 98, 99, 100, 101, 102, 103, 104, 105, 106, 107, 108, 109, 110, 111, 112], [], [50, 119], [97, 46, 98], [97, 98, 99, 100, 101, 102, 103, 104, 105, 106, 107, 108, 109, 110, 111, 112, 113], [122, 122]]
theorem menu_eq60 : ([V.str "w", V.str "h", V.str "w_1", V.str "Q", V.str "thick", V.str "abcdefghijklmnop", V.str "", V.str "2w", V.str "a.b", V.str "abcdefghijklmnopq", V.str "zz"] : List V) = menu60.map sv := by
  have h : (["w", "h", "w_1", "Q", "thick", "abcdefghijklmnop", "", "2w", "a.b", "abcdefghijklmnopq", "zz"] : List Str) = menu60.map S := by decide +kernel
  have := congrArg (List.map V.str) h
  rw [List.map_map] at this
  exact this
theorem menu_bad : ∀ nm ∈ menu60, inV (sv nm) BADS = (!shortW LTl WCl nm) ∧ nm.length ≤ 100 ∧ PySem.PyData.strOk (S nm) = true := by decide +kernel
def pdPm (n : Pm) : PyData := .list [.str (S n.nm), pdr n.v, pdr n.lo, pdr n.hi]
theorem dp_pm {K : PySem.W.Frag} {H : Hp} {u : Addr} {n : Pm} (h : PmAt K H u n) : Dp K H (.ref u) (pdPm n) := by
  obtain ⟨v, l, g, h1, h2, h3, h4⟩ := h
  exact .lst (SqL.of h1) (.cons (.str _) (.cons (dpr h2) (.cons (dpr h3) (.cons (dpr h4) .nil))))
theorem dp_pms {K : PySem.W.Frag} {H : Hp} : ∀ {ws : List (Addr × Pm)}, PsAt K H ws → DpAll K H (Ro ws) ((ws.map (·.2)).map pdPm)
  | [], _ => .nil
  | w :: ws, h => .cons (dp_pm (h w List.mem_cons_self)) (dp_pms fun x hx => h x (List.mem_cons_of_mem _ hx))
theorem sh_pms {ns : List Pm} (h : ∀ n ∈ ns, PySem.PyData.strOk (S n.nm) = true) : PyData.canLayAll0 (ns.map pdPm) = true ∧ PyData.depthAll (ns.map pdPm) ≤ 2 := by
  induction ns with
  | nil => decide
  | cons n ns ih =>
    obtain ⟨i1, i2⟩ := ih fun d hd => h d (List.mem_cons_of_mem _ hd)
    have e1 : (pdPm n).canLay0 = true := by
      show (PySem.PyData.strOk (S n.nm) && _) = true
      rw [h n List.mem_cons_self]
      rfl
    rw [List.map_cons, PyData.canLayAll0, PyData.depthAll, i1, e1]
    exact ⟨rfl, Nat.max_le.mpr ⟨by show 2 ≤ 2; decide, i2⟩⟩
theorem sh_pm {ns : List Pm} (h : ∀ n ∈ ns, PySem.PyData.strOk (S n.nm) = true) : SeqAt.shaped (.list (ns.map pdPm)) = true := by
  unfold SeqAt.shaped
  rw [PyData.canLay0, PyData.depth, (sh_pms h).1, decide_eq_true (by have := (sh_pms h).2; omega)]
  rfl
theorem dp_nms {K : PySem.W.Frag} {H : Hp} : ∀ ls : List (List Nat), DpAll K H (ls.map sv) (ls.map fun x => PyData.str (S x))
  | [] => .nil
  | _ :: ls => .cons (.str _) (dp_nms ls)
theorem sh_nms {ls : List (List Nat)} (h : ∀ c ∈ ls, PySem.PyData.strOk (S c) = true) : SeqAt.shaped (.list (ls.map fun x => PyData.str (S x))) = true := by
  have : PyData.canLayAll0 (ls.map fun x => PyData.str (S x)) = true ∧ PyData.depthAll (ls.map fun x => PyData.str (S x)) = 0 := by
    induction ls with
    | nil => exact ⟨rfl, rfl⟩
    | cons c ls ih =>
      obtain ⟨i1, i2⟩ := ih fun d hd => h d (List.mem_cons_of_mem _ hd)
      rw [List.map_cons]
      refine ⟨?_, ?_⟩
      · rw [PyData.canLayAll0, i1]
        show (PySem.PyData.strOk (S c) && true) = true
        rw [h c List.mem_cons_self]
        rfl
      · rw [PyData.depthAll, i2]
        rfl
  unfold SeqAt.shaped
  rw [PyData.canLay0, PyData.depth, this.1, this.2]
  rfl
theorem eqv_sh {d : PyData} (h : SeqAt.shaped d = true) : PyData.eqv d d = true := by
  unfold SeqAt.shaped at h
  exact SeqAt.eqv_refl _ (by
    rw [Bool.and_eq_true] at h
    exact h.1)
/-- what the law holds of its parameters -/
def Ok60 (ns : List Pm) : Prop := ns.length ≤ 4 ∧ (∀ n ∈ ns, bdP n) ∧ (ns.map (·.nm)).Nodup ∧ ∀ n ∈ ns, n.nm ∈ menu60
theorem next_ok {ns : List Pm} (h : Ok60 ns) : ∀ {e : Ed}, e.bd → e.nm ∈ menu60 → dueE ns e = 0 → Ok60 (nextE ns e)
  | .dec n, hb, hm, h0 => by
    obtain ⟨h1, h2, h3, h4⟩ := h
    rw [dueE] at h0
    split at h0
    · cases h0
    split at h0
    · cases h0
    split at h0
    · cases h0
    rename_i _ hin h40
    refine ⟨by show (ns ++ [n]).length ≤ 4; rw [List.length_append, List.length_singleton]; omega, fun w hw => ?_, ?_, fun w hw => ?_⟩
    · rcases List.mem_append.mp hw with hw | hw
      · exact h2 w hw
      · rw [List.mem_singleton.mp hw]
        exact hb
    · show ((ns ++ [n]).map _).Nodup
      rw [List.map_append]
      exact List.nodup_append.mpr ⟨h3, List.nodup_cons.mpr ⟨List.not_mem_nil, List.nodup_nil⟩, fun a ha b hb' e => hin (by obtain rfl := List.mem_singleton.mp hb'; rw [e] at ha; exact ha)⟩
    · rcases List.mem_append.mp hw with hw | hw
      · exact h4 w hw
      · rw [List.mem_singleton.mp hw]
        exact hm
  | .set nm x, hb, hm, h0 => by
    obtain ⟨h1, h2, h3, h4⟩ := h
    have en : (nextE ns (.set nm x)).map (·.nm) = ns.map (·.nm) := by
      show (ns.map _).map _ = _
      rw [List.map_map]
      refine List.map_congr_left fun w _ => ?_
      show (if w.nm = nm then (⟨nm, x, w.lo, w.hi⟩ : Pm) else w).nm = w.nm
      split
      · next h => exact h.symm
      · rfl
    refine ⟨by show (ns.map _).length ≤ 4; rw [List.length_map]; exact h1, fun w hw => ?_, by rw [en]; exact h3, fun w hw => ?_⟩
    · obtain ⟨w', hw', rfl⟩ := List.mem_map.mp hw
      have := h2 w' hw'
      split
      · exact ⟨hb, this.2.1, this.2.2⟩
      · exact this
    · obtain ⟨w', hw', rfl⟩ := List.mem_map.mp hw
      split
      · exact hm
      · exact h4 w' hw'
/-- a corner of the space -/
def CoAt (K : PySem.W.Frag) (H : Hp) (t : Addr) (k : Int) : Prop := ∃ a b c : Addr, SqT K H t [.ref a, .ref b, .ref c] ∧ SqT K H a [.int k, .int 1] ∧ SqT K H b [.int k, .int 1] ∧ SqT K H c [.int k, .int 1]
theorem CoAt.up {K : PySem.W.Frag} {H H' : Hp} {t : Addr} {k : Int} (s : Same H H') : CoAt K H t k → CoAt K H' t k
  | ⟨a, b, c, h1, h2, h3, h4⟩ => ⟨a, b, c, same_tup s h1, same_tup s h2, same_tup s h3, same_tup s h4⟩
def pdCo (k : Int) : PyData := .tuple [pd2 k 1, pd2 k 1, pd2 k 1]
theorem dp_co {K : PySem.W.Frag} {H : Hp} {t : Addr} {k : Int} : CoAt K H t k → Dp K H (.ref t) (pdCo k)
  | ⟨_, _, _, h1, h2, h3, h4⟩ => .tup h1 (.cons (dp2 h2) (.cons (dp2 h3) (.cons (dp2 h4) .nil)))
def Iv60 (K : PySem.W.Frag) (CD : Addr) (H0 : Hp) (s0 ml lo hi : Addr) (σ : L2.St) (H : Hp) : Prop := Same H0 H ∧ ∃ (p P R : Addr) (ws us : List (Addr × Pm)), DcAt K CD H p lo hi P ws ∧ H R = some (.lst (Ro us)) ∧ PsAt K H us ∧ us.map (·.2) = ws.map (·.2) ∧ Ok60 (ws.map (·.2)) ∧
  ∃ v6 v7 v8 v9 v10 v11 v12 v13 v14 v15 v16 v17 : Option V, σ = [some (.ref s0), some (.ref ml), some (.ref lo), some (.ref hi), some (.ref p), some (.ref R), v6, v7, v8, v9, v10, v11, v12, v13, v14, v15, v16, v17, none]
theorem bdF_sml (d : Int) : bdF (sml d) := (sml_bd d).up (by decide)
/-- the rows after the first of the two changes -/
def half60 (ns : List Pm) : Ed → List Pm
  | .dec n => ns ++ [n]
  | .set _ _ => ns
theorem du_ne : ∀ {k : Nat}, k ≠ 0 → decide (V.str (duS k) = V.str "good") = false
  | 0, h => absurd rfl h
  | 1, _ => by decide +kernel
  | 2, _ => by decide +kernel
  | 3, _ => by decide +kernel
  | 4, _ => by decide +kernel
  | k + 5, _ => by (show decide (V.str "unknown" = V.str "good") = false; decide +kernel)
def spLaw (K : PySem.W.Frag) (CDocument : Addr) : Sp := fun vs H Q _ => ∃ (a : Addr) (ns : List Int), vs = [.ref a] ∧ SqL K H a (ns.map V.int) ∧ ns.length ≤ 63 ∧ ∀ H', Q (.bl true) H'
theorem okLaw {fLaw : Addr} {fdLaw : FuncData} (F : Fun K "law" "law" sLaw fLaw fdLaw) (T : Txt mg) {aLETTERS : Tok} {aWORD_CHARACTERS : Tok} {aNAME_LENGTH : Tok} {aMOST_PARAMETERS : Tok} (CT : Cons K mg aLETTERS aWORD_CHARACTERS aNAME_LENGTH aMOST_PARAMETERS) {CPartError CTextFault CUnknown CTaken CBeyond CFull : Addr} (EX : Exns K mg CPartError CTextFault CUnknown CTaken CBeyond CFull) {fIni : Addr} {fdIni : FuncData} (FL : Flt K mg CPartError CTextFault CUnknown CTaken CBeyond CFull fIni) (GIni : FnOk P w K mg base CX0 1 fIni fdIni ["self", "line", "column"] (spFIni K CTextFault)) (bIni : Binds K fdIni ["self", "line", "column"] []) {CDocument : Addr} (OBDocument : ObDocument K mg CDocument)
    {fDocumentInit : Addr} {fdDocumentInit : FuncData} (GDocumentInit : FnOk P w K mg base CX0 1 fDocumentInit fdDocumentInit ["self", "low", "high"] (spDocumentInit K CDocument)) (gDocumentInit : Mk K CDocument fDocumentInit) (kpDocumentInit : PySem.W.keepIn K (.ref fDocumentInit) = true) (bDocumentInit : Binds K fdDocumentInit ["self", "low", "high"] [])
    {fLLawNumber : Addr} {fdLLawNumber : FuncData} (GLLawNumber : FnOk P w K mg base CX0 1 fLLawNumber fdLLawNumber ["script", "k"] (spLLawNumber K)) (gLLawNumber : mg "_law_number" = some (.ref fLLawNumber)) (kpLLawNumber : PySem.W.keepIn K (.ref fLLawNumber) = true) (bLLawNumber : Binds K fdLLawNumber ["script", "k"] [])
    {fLLawSmall : Addr} {fdLLawSmall : FuncData} (GLLawSmall : FnOk P w K mg base CX0 2 fLLawSmall fdLLawSmall ["draw"] (spLLawSmall K)) (gLLawSmall : mg "_law_small" = some (.ref fLLawSmall)) (kpLLawSmall : PySem.W.keepIn K (.ref fLLawSmall) = true) (bLLawSmall : Binds K fdLLawSmall ["draw"] [])
    {fLLawDue : Addr} {fdLLawDue : FuncData} (GLLawDue : FnOk P w K mg base CX0 2 fLLawDue fdLLawDue ["rows", "edit"] (spLLawDue K)) (gLLawDue : mg "_law_due" = some (.ref fLLawDue)) (kpLLawDue : PySem.W.keepIn K (.ref fLLawDue) = true) (bLLawDue : Binds K fdLLawDue ["rows", "edit"] [])
    {fLLawApply : Addr} {fdLLawApply : FuncData} (GLLawApply : FnOk P w K mg base CX0 8 fLLawApply fdLLawApply ["document", "edit"] (spLLawApply K CDocument)) (gLLawApply : mg "_law_apply" = some (.ref fLLawApply)) (kpLLawApply : PySem.W.keepIn K (.ref fLLawApply) = true) (bLLawApply : Binds K fdLLawApply ["document", "edit"] [])
    {fLLawLess : Addr} {fdLLawLess : FuncData} (GLLawLess : FnOk P w K mg base CX0 1 fLLawLess fdLLawLess ["a", "b"] (spLLawLess K)) (gLLawLess : mg "_law_less" = some (.ref fLLawLess)) (kpLLawLess : PySem.W.keepIn K (.ref fLLawLess) = true) (bLLawLess : Binds K fdLLawLess ["a", "b"] [])
    {fDocumentNames : Addr} {fdDocumentNames : FuncData} (GDocumentNames : FnOk P w K mg base CX0 1 fDocumentNames fdDocumentNames ["self"] (spDocumentNames K CDocument)) (gDocumentNames : Meth K CDocument "names" fDocumentNames) (kpDocumentNames : PySem.W.keepIn K (.ref fDocumentNames) = true) (bDocumentNames : Binds K fdDocumentNames ["self"] [])
    {fDocumentSetting : Addr} {fdDocumentSetting : FuncData} (GDocumentSetting : FnOk P w K mg base CX0 1 fDocumentSetting fdDocumentSetting ["self"] (spDocumentSetting K CDocument)) (gDocumentSetting : Meth K CDocument "setting" fDocumentSetting) (kpDocumentSetting : PySem.W.keepIn K (.ref fDocumentSetting) = true) (bDocumentSetting : Binds K fdDocumentSetting ["self"] []) :
    FnOk P w K mg base CX0 9 fLaw fdLaw ["script"] (spLaw K CDocument) := by
  refine F.ok scLaw (fun vs H Q E h => ?_) (fun cdv A outer s H vs Q E hr h => ?_)
  · obtain ⟨s0, ns, rfl, hS0, hlen, q⟩ := h
    rfl
  · obtain ⟨s0, ns, rfl, hS0, hlen, q⟩ := h
    refine ⟨_, (pss_cons (ps_set (i := 1) scLaw.nd rfl (Or.inl rfl) (pe_lst (pa_cons pe_str (pa_cons pe_str (pa_cons pe_str (pa_cons pe_str (pa_cons pe_str (pa_cons pe_str (pa_cons pe_str (pa_cons pe_str (pa_cons pe_str (pa_cons pe_str (pa_cons pe_str pa_nil)))))))))))))
      (pss_cons (ps_set (i := 2) scLaw.nd rfl (Or.inl rfl) (pe_tup (pa_cons (pe_tup (pa_cons pe_int (pa_cons pe_int pa_nil))) (pa_cons (pe_tup (pa_cons pe_int (pa_cons pe_int pa_nil))) (pa_cons (pe_tup (pa_cons pe_int (pa_cons pe_int pa_nil))) pa_nil)))))
      (pss_cons (ps_set (i := 3) scLaw.nd rfl (Or.inl rfl) (pe_tup (pa_cons (pe_tup (pa_cons pe_int (pa_cons pe_int pa_nil))) (pa_cons (pe_tup (pa_cons pe_int (pa_cons pe_int pa_nil))) (pa_cons (pe_tup (pa_cons pe_int (pa_cons pe_int pa_nil))) pa_nil)))))
      (pss_cons (ps_set (i := 4) scLaw.nd rfl (Or.inl rfl) (pe_make gDocumentInit GDocumentInit (hr.mono (by decide)) (by rfl) OBDocument.g bDocumentInit .nil pass0 (pa_cons (pv 2) (pa_cons (pv 3) pa_nil))))
      (pss_cons (ps_set (i := 5) scLaw.nd rfl (Or.inl rfl) (pe_lst pa_nil))
      (C8.pss_cut (ps_for PassesOwn.never rfl (pi_range1 rfl T.range (pa_cons pe_int pa_nil)) (pg_name (i := 6) scLaw.nd rfl (Or.inl rfl))
        (pss_cons (ps_set (i := 7) scLaw.nd rfl (Or.inl rfl) (pe_call GLLawNumber (hr.mono (by decide)) (by rfl) gLLawNumber kpLLawNumber bLLawNumber .nil pass0 (pa_cons (pv 0) (pa_cons (pv 6) pa_nil))))
        (pss_cons (ps_set (i := 8) scLaw.nd rfl (Or.inr rfl) (pe_ix ix_list (pv 1) (pe_op op_mod (pe_callTy call_int1 (by rfl) T.int (by decide +kernel) (pa_cons (pv 7) pa_nil)) pe_int) (fun _ _ => rfl)))
        (pss_cons (ps_set (i := 9) scLaw.nd rfl (Or.inl rfl) (pe_call GLLawSmall (hr.mono (by decide)) (by rfl) gLLawSmall kpLLawSmall bLLawSmall .nil pass0 (pa_cons (pe_op op_fdiv (pv 7) pe_int) pa_nil)))
        (pss_cons (ps_set (i := 10) scLaw.nd rfl (Or.inl rfl) (pe_call GLLawSmall (hr.mono (by decide)) (by rfl) gLLawSmall kpLLawSmall bLLawSmall .nil pass0 (pa_cons (pe_op op_fdiv (pv 7) pe_int) pa_nil)))
        (pss_cons (ps_set (i := 11) scLaw.nd rfl (Or.inl rfl) (pe_call GLLawSmall (hr.mono (by decide)) (by rfl) gLLawSmall kpLLawSmall bLLawSmall .nil pass0 (pa_cons (pe_op op_fdiv (pv 7) pe_int) pa_nil)))
        (C8.pss_cut (ps_if (pt_cmpR op_lt (pe_op op_mod (pe_callTy call_int1 (by rfl) T.int (by decide +kernel) (pa_cons (pe_op op_fdiv (pv 7) pe_int) pa_nil)) pe_int) pe_int (nomark _))
          (C8.pss_cut (ps_set (i := 12) scLaw.nd rfl (Or.inl rfl) (pe_ifExp (pt_val (pe_call GLLawLess (hr.mono (by decide)) (by rfl) gLLawLess kpLLawLess bLLawLess .nil pass0 (pa_cons (pv 10) (pa_cons (pv 11) pa_nil)))) (pv 10) (pv 11)))
          (C8.pss_cut (ps_set (i := 13) scLaw.nd rfl (Or.inl rfl) (pe_ifExp (pt_val (pe_call GLLawLess (hr.mono (by decide)) (by rfl) gLLawLess kpLLawLess bLLawLess .nil pass0 (pa_cons (pv 10) (pa_cons (pv 11) pa_nil)))) (pv 11) (pv 10)))
          (pss_one (ps_set (i := 14) scLaw.nd rfl (Or.inr rfl) (pe_ifExp (pt_cmpR op_eq (pe_op op_mod (pe_callTy call_int1 (by rfl) T.int (by decide +kernel) (pa_cons (pe_op op_fdiv (pv 7) pe_int) pa_nil)) pe_int) pe_int (nomark _)) (pe_tup (pa_cons pe_str (pa_cons (pv 8) (pa_cons (pv 9) (pa_cons (pv 10) (pa_cons (pv 11) pa_nil)))))) (pe_tup (pa_cons pe_str (pa_cons (pv 8) (pa_cons (pv 12) (pa_cons (pv 12) (pa_cons (pv 13) pa_nil)))))))))))
          (pss_one (ps_set (i := 14) scLaw.nd rfl (Or.inr rfl) (pe_tup (pa_cons pe_str (pa_cons (pv 8) (pa_cons (pv 9) pa_nil)))))))
        (pss_cons (ps_setLc (i := 15) (own := [("row", 18)]) (by rfl) scLaw.nd rfl rfl (sw_true rfl rfl rfl (by decide +kernel)) (pi_list (pv 5)) (blkOk_by (own := [("row", 18)]) (N := ["script", "menu", "low", "high", "document", "rows", "k", "draw", "name", "a", "b", "c", "least", "most", "edit", "before", "due", "actual", "row"]) (sc := defScope sLaw) (by decide +kernel)) (fun _ _ _ _ _ => (pg_name (i := 18) scLaw.nd rfl (Or.inl rfl))) (fun _ _ _ _ _ => pts_nil) (fun _ _ _ _ _ => (pe_callTy (show CallR _ (Value.type "list") (rListOf K) from call_list_of) (by rfl) (by exact T.list) (by decide +kernel) (pa_cons (pv 18) pa_nil))))
        (pss_cons (ps_set (i := 16) scLaw.nd rfl (Or.inl rfl) (pe_call GLLawDue (hr.mono (by decide)) (by rfl) gLLawDue kpLLawDue bLLawDue .nil pass0 (pa_cons (pv 5) (pa_cons (pv 14) pa_nil))))
        (pss_cons (ps_set (i := 17) scLaw.nd rfl (Or.inl rfl) (pe_call GLLawApply hr (by rfl) gLLawApply kpLLawApply bLLawApply .nil pass0 (pa_cons (pv 4) (pa_cons (pv 14) pa_nil))))
        (C8.pss_cut (ps_if (PW.pt (pw_and (pt_cmpR op_eq (pv 16) pe_str (nomark _)) (pw_and1 (pt_cmpR op_eq (pe_ix ix_tup (pv 14) pe_int (fun _ _ => rfl)) pe_str (nomark _)))))
          (pss_one (ps_set (i := 5) scLaw.nd rfl (Or.inl rfl) (pe_op op_cat (pv 5) (pe_lst (pa_cons (pe_lst (pa_cons (pe_ix ix_tup (pv 14) pe_int (fun _ _ => rfl)) (pa_cons (pe_ix ix_tup (pv 14) pe_int (fun _ _ => rfl)) (pa_cons (pe_ix ix_tup (pv 14) pe_int (fun _ _ => rfl)) (pa_cons (pe_ix ix_tup (pv 14) pe_int (fun _ _ => rfl)) pa_nil))))) pa_nil)))))
          pss_nil)
        (C8.pss_cut (ps_if (PW.pt (pw_and (pt_cmpR op_eq (pv 16) pe_str (nomark _)) (pw_and1 (pt_cmpR op_eq (pe_ix ix_tup (pv 14) pe_int (fun _ _ => rfl)) pe_str (nomark _)))))
          (pss_one (ps_setLc (i := 5) (own := [("row", 18)]) (by rfl) scLaw.nd rfl rfl (sw_true rfl rfl rfl (by decide +kernel)) (pi_list (pv 5)) (blkOk_by (own := [("row", 18)]) (N := ["script", "menu", "low", "high", "document", "rows", "k", "draw", "name", "a", "b", "c", "least", "most", "edit", "before", "due", "actual", "row"]) (sc := defScope sLaw) (by decide +kernel)) (fun _ _ _ _ _ => (pg_name (i := 18) scLaw.nd rfl (Or.inl rfl))) (fun _ _ _ _ _ => pts_nil) (fun _ _ _ _ _ => (pe_lst (pa_cons (pe_ix (show IxR _ (rIxL K) from ix_list) (pv 18) pe_int (fun _ _ => rfl)) (pa_cons (pe_ifExp (pt_cmpR op_eq (pe_ix (show IxR _ (rIxL K) from ix_list) (pv 18) pe_int (fun _ _ => rfl)) (pv 8) (nomark _)) (pe_ix (show IxR _ (rIxT K) from ix_tup) (pv 14) pe_int (fun _ _ => rfl)) (pe_ix (show IxR _ (rIxL K) from ix_list) (pv 18) pe_int (fun _ _ => rfl))) (pa_cons (pe_ix (show IxR _ (rIxL K) from ix_list) (pv 18) pe_int (fun _ _ => rfl)) (pa_cons (pe_ix (show IxR _ (rIxL K) from ix_list) (pv 18) pe_int (fun _ _ => rfl)) pa_nil))))))))
          pss_nil)
        (pss_cons (ps_if (pt_cmpR (op_neD hr.units) (pe_fld (pv 4) rfl) (pv 15) (nomark _))
          (pss_one (ps_ret pe_bl))
          pss_nil)
        (pss_cons (ps_if (pt_cmpR op_ne (pv 16) pe_str (nomark _))
          (pss_cons (ps_if (pt_cmpR op_ne (pv 17) (pv 16) (nomark _))
            (pss_one (ps_ret pe_bl))
            pss_nil)
          (pss_one ps_continue))
          pss_nil)
        (pss_cons (ps_if (PW.pt (pw_or (pt_not (pt_val (pe_callB call_isi (by rfl) T.isinstance (by decide +kernel) (pa_cons (pv 17) (pa_cons (pe_bltn (v := .ty "tuple") (by rfl) T.tuple (by decide +kernel) rfl) pa_nil))))) (pw_or (pt_cmpR op_ne (pe_callB call_len_seq (by rfl) T.len PySem.boot_len (pa_cons (pv 17) pa_nil)) pe_int (nomark _)) (pw_or1 (pt_cmpR op_notN (pe_ix ix_tup (pv 17) pe_int (fun _ _ => rfl)) pe_non (nomark _))))))
          (pss_one (ps_ret pe_bl))
          pss_nil)
        (pss_cons (ps_set (i := 4) scLaw.nd rfl (Or.inl rfl) (pe_ix ix_tup (pv 17) pe_int (fun _ _ => rfl)))
        (pss_cons (ps_if (PW.pt (pw_or (pt_cmpR (op_neD hr.units) (pe_fld (pv 4) rfl) (pv 5) (nomark _)) (pw_or1 (pt_cmpR (op_neD hr.units) (pe_meth0 (pv 4) OBDocument.cl gDocumentNames GDocumentNames (hr.mono (by decide)) bDocumentNames .nil pass0) (pe_lc (own := [("row", 18)]) (by rfl) scLaw.nd (pi_list (pv 5)) (blkOk_by (own := [("row", 18)]) (N := ["script", "menu", "low", "high", "document", "rows", "k", "draw", "name", "a", "b", "c", "least", "most", "edit", "before", "due", "actual", "row"]) (sc := defScope sLaw) (by decide +kernel)) (fun _ _ _ _ _ => (pg_name (i := 18) scLaw.nd rfl (Or.inl rfl))) (fun _ _ _ _ _ => pts_nil) (fun _ _ _ _ _ => (pe_ix (show IxR _ (rIxL K) from ix_list) (pv 18) pe_int (fun _ _ => rfl)))) (nomark _)))))
          (pss_one (ps_ret pe_bl))
          pss_nil)
        (pss_cons (ps_if (PW.pt (pw_or (pt_cmpR (op_neD hr.units) (pe_meth0 (pv 4) OBDocument.cl gDocumentSetting GDocumentSetting (hr.mono (by decide)) bDocumentSetting .nil pass0) (pe_lc (own := [("row", 18)]) (by rfl) scLaw.nd (pi_list (pv 5)) (blkOk_by (own := [("row", 18)]) (N := ["script", "menu", "low", "high", "document", "rows", "k", "draw", "name", "a", "b", "c", "least", "most", "edit", "before", "due", "actual", "row"]) (sc := defScope sLaw) (by decide +kernel)) (fun _ _ _ _ _ => (pg_name (i := 18) scLaw.nd rfl (Or.inl rfl))) (fun _ _ _ _ _ => pts_nil) (fun _ _ _ _ _ => (pe_ix (show IxR _ (rIxL K) from ix_list) (pv 18) pe_int (fun _ _ => rfl)))) (nomark _)) (pw_or (pt_cmpR (op_neD hr.units) (pe_fld (pv 4) rfl) (pe_lst pa_nil) (nomark _)) (pw_or1 (pt_cmpR (op_neD hr.units) (pe_fld (pv 4) rfl) (pe_lst pa_nil) (nomark _))))))
          (pss_one (ps_ret pe_bl))
          pss_nil)
        (pss_one (ps_if (PW.pt (pw_or (pt_cmpR (op_neD hr.units) (pe_fld (pv 4) rfl) (pv 2) (nomark _)) (pw_or1 (pt_cmpR (op_neD hr.units) (pe_fld (pv 4) rfl) (pv 3) (nomark _)))))
          (pss_one (ps_ret pe_bl))
          pss_nil))))))))))))))))))))
      (pss_one (ps_ret pe_bl)))))))), ?_⟩
    have hS : SqL K H s0 (zs ns) := hS0
    refine ⟨by show 11 ≤ sizeLine; decide, fun ml hml => ?_⟩
    rw [show ([V.str "w", V.str "h", V.str "w_1", V.str "Q", V.str "thick", V.str "abcdefghijklmnop", V.str "", V.str "2w", V.str "a.b", V.str "abcdefghijklmnopq", V.str "zz"] : List V) = menu60.map sv from menu_eq60]
    generalize hUm : upd H ml _ = Hm
    have sm := same_hu hUm hml
    have em : Hm ml = some (.lst (menu60.map sv)) := at_hu hUm
    clear hUm
    refine ⟨tn rfl, fun a1 na1 => ?_⟩
    generalize hUa1 : upd _ _ (HO.tup _) = H1
    have s1 := same_hu hUa1 na1
    have ey1 := at_hu hUa1
    have y1 := SqT.of (K := K) ey1
    clear hUa1
    refine ⟨tn rfl, fun a2 na2 => ?_⟩
    generalize hUa2 : upd _ _ (HO.tup _) = H2
    have s2 := same_hu hUa2 na2
    have ey2 := at_hu hUa2
    have y2 := SqT.of (K := K) ey2
    clear hUa2
    refine ⟨tn rfl, fun a3 na3 => ?_⟩
    generalize hUa3 : upd _ _ (HO.tup _) = H3
    have s3 := same_hu hUa3 na3
    have ey3 := at_hu hUa3
    have y3 := SqT.of (K := K) ey3
    clear hUa3
    refine ⟨tn rfl, fun lo nlo => ?_⟩
    generalize hUlo : upd _ _ (HO.tup _) = H4
    have s4 := same_hu hUlo nlo
    have ey4 := at_hu hUlo
    have y4 := SqT.of (K := K) ey4
    clear hUlo
    walk_at "go"
    refine ⟨tn rfl, fun c1 nc1 => ?_⟩
    generalize hUc1 : upd _ _ (HO.tup _) = H5
    have s5 := same_hu hUc1 nc1
    have ey5 := at_hu hUc1
    have y5 := SqT.of (K := K) ey5
    clear hUc1
    refine ⟨tn rfl, fun c2 nc2 => ?_⟩
    generalize hUc2 : upd _ _ (HO.tup _) = H6
    have s6 := same_hu hUc2 nc2
    have ey6 := at_hu hUc2
    have y6 := SqT.of (K := K) ey6
    clear hUc2
    refine ⟨tn rfl, fun c3 nc3 => ?_⟩
    generalize hUc3 : upd _ _ (HO.tup _) = H7
    have s7 := same_hu hUc3 nc3
    have ey7 := at_hu hUc3
    have y7 := SqT.of (K := K) ey7
    clear hUc3
    refine ⟨tn rfl, fun hi nhi => ?_⟩
    generalize hUhi : upd _ _ (HO.tup _) = H8
    have s8 := same_hu hUhi nhi
    have ey8 := at_hu hUhi
    have y8 := SqT.of (K := K) ey8
    clear hUhi
    walk_at "go"
    have co1 : CoAt K H4 lo 0 := ⟨a1, a2, a3, y4, same_tup (s2.trans (s3.trans s4)) y1, same_tup (s3.trans s4) y2, same_tup s4 y3⟩
    have co2 : CoAt K H8 hi 4 := ⟨c1, c2, c3, y8, same_tup (s6.trans (s7.trans s8)) y5, same_tup (s7.trans s8) y6, same_tup s8 y7⟩
    intro p dx np ndx nex
    have s0' : Same H8 (upd (upd H8 dx (.own p)) p (.ins CDocument dx [])) := fun b o e => by
      rw [upd_ne (ne_of_none e np), upd_ne (ne_of_none e ndx)]
      exact e
    have e0 : (upd (upd H8 dx (.own p)) p (.ins CDocument dx [])) p = some (.ins CDocument dx []) := upd_same
    generalize upd (upd H8 dx (.own p)) p (.ins CDocument dx []) = H9 at s0' e0 ⊢
    refine ⟨p, dx, lo, hi, rfl, e0, fun H10 P1 F1 G1 x1 nP nF nG hPF hPG hFG e1 g1 g2 g3 => ⟨rfl, ?_⟩⟩
    have s10 : Same H8 H10 := fun b o e => x1 b o (ne_of_none e np) (s0' _ _ e)
    walk_at "go"
    refine ⟨tn rfl, fun R nR => ?_⟩
    generalize hUR : upd _ _ (HO.lst _) = H11
    have s11 := same_hu hUR nR
    have ey11 := at_hu hUR
    have y11 := SqL.of (K := K) ey11
    clear hUR
    have s48 := s5.trans (s6.trans (s7.trans s8))
    have sA := s1.trans (s2.trans (s3.trans s4))
    have sB : Same Hm H11 := sA.trans (s48.trans (s10.trans s11))
    have lo11 : CoAt K H11 lo 0 := co1.up (s48.trans (s10.trans s11))
    have hi11 : CoAt K H11 hi 4 := co2.up (s10.trans s11)
    have hS11 : SqL K H11 s0 (zs ns) := (sm.trans sB).seq hS
    have em11 := sB _ _ em
    refine ⟨Iv60 K CDocument H11 s0 ml lo hi, ?_, fun σ' H' _ => q H'⟩
    refine ⟨40, rfl, by decide, by decide, for_range (n := 40) (fun _ => Iv60 K CDocument H11 s0 ml lo hi) ?_ ?_ (fun _ _ h => h)⟩
    · refine ⟨Same.refl _, p, P1, R, [], [], ⟨dx, F1, G1, s11 _ _ e1, s11 _ _ g1, s11 _ _ g2, s11 _ _ g3, (fun w hw => nomatch hw), hPF, hPG⟩, ey11, (fun w hw => nomatch hw), rfl, ⟨by decide, (fun w hw => nomatch hw), List.nodup_nil, (fun w hw => nomatch hw)⟩, none, none, none, none, none, none, none, none, none, none, none, none, rfl⟩
    clear e0 s0' e1 g1 g2 g3 x1 np ndx nex nP nF nG hPF hPG hFG
    rintro i σ' H0 hi' ⟨z0, p, P, R, ws, us, hD, hR, hus, emap, hok, v6, v7, v8, v9, v10, v11, v12, v13, v14, v15, v16, v17, rfl⟩
    have hi0 : (0 : Int) + (i : Int) = (i : Int) := by omega
    refine ⟨_, rfl, _, rfl, s0, ns, i, by rw [hi0]; rfl, z0.seq hS11, fun dr => ?_⟩
    walk_at "go"
    have d0 := Int.emod_nonneg dr (show (11 : Int) ≠ 0 by decide)
    have d1 := Int.emod_lt_of_pos dr (show (0 : Int) < 11 by decide)
    obtain ⟨j, hj⟩ : ∃ j : Nat, dr % 11 = (j : Int) := ⟨(dr % 11).toNat, by omega⟩
    have hjl : j < 11 := by omega
    obtain ⟨nm, hnm⟩ : ∃ nm, menu60[j]? = some nm := ⟨_, List.getElem?_eq_getElem (by exact hjl)⟩
    have hmem := List.mem_of_getElem? hnm
    refine ⟨ml, _, _, _, rfl, rfl, SqL.of (z0 _ _ em11), (by rw [hj]; exact atI_nat (j := j) (by rw [List.getElem?_map, hnm]; rfl)), ?_⟩
    walk_at "go"
    intro H12 ta s12 fa
    walk_at "go"
    intro H13 tb s13 fb
    walk_at "go"
    intro H14 tc s14 fc
    have fa14 := (fa.same s13).same s14
    have fb14 := fb.same s14
    refine ⟨fun σ' H' => Same H14 H' ∧ ∃ (u : Addr) (e : Ed) (v12 v13 : Option V), EdAt K H' u e ∧ e.bd ∧ e.nm = nm ∧ σ' = [some (.ref s0), some (.ref ml), some (.ref lo), some (.ref hi), some (.ref p), some (.ref R), some (.int (0 + (i : Int))), some (.int dr), some (sv nm), some (.ref ta), some (.ref tb), some (.ref tc), v12, v13, some (.ref u), v15, v16, v17, none], ?_, ?_⟩
    · walk_at "go"
      refine ite2 (fun g => ?_) (fun g => ?_)
      · refine ⟨fun σ' H' => H14 = H' ∧ ∃ (tl : Addr) (xl : Rat), Fx K H14 tl xl ∧ bdF xl ∧ σ' = [some (.ref s0), some (.ref ml), some (.ref lo), some (.ref hi), some (.ref p), some (.ref R), some (.int (0 + (i : Int))), some (.int dr), some (sv nm), some (.ref ta), some (.ref tb), some (.ref tc), some (.ref tl), v13, v14, v15, v16, v17, none], ?_, ?_⟩
        · walk_at "go"
          refine ⟨tb, tc, _, _, rfl, fb14, fc, bdF_sml _, bdF_sml _, ?_⟩
          refine ⟨_, rfl, ?_⟩
          refine ite2 (fun _ => ?_) (fun _ => ?_)
          · exact ⟨_, rfl, rfl, tb, _, fb14, bdF_sml _, rfl⟩
          · exact ⟨_, rfl, rfl, tc, _, fc, bdF_sml _, rfl⟩
        rintro σ' H' ⟨rfl, tl, xl, fl, bl, rfl⟩
        refine ⟨fun σ' H' => H14 = H' ∧ ∃ (tm : Addr) (xm : Rat), Fx K H14 tm xm ∧ bdF xm ∧ σ' = [some (.ref s0), some (.ref ml), some (.ref lo), some (.ref hi), some (.ref p), some (.ref R), some (.int (0 + (i : Int))), some (.int dr), some (sv nm), some (.ref ta), some (.ref tb), some (.ref tc), some (.ref tl), some (.ref tm), v14, v15, v16, v17, none], ?_, ?_⟩
        · walk_at "go"
          refine ⟨tb, tc, _, _, rfl, fb14, fc, bdF_sml _, bdF_sml _, ?_⟩
          refine ⟨_, rfl, ?_⟩
          refine ite2 (fun _ => ?_) (fun _ => ?_)
          · exact ⟨_, rfl, rfl, tc, _, fc, bdF_sml _, rfl⟩
          · exact ⟨_, rfl, rfl, tb, _, fb14, bdF_sml _, rfl⟩
        rintro σ' H' ⟨rfl, tm, xm, fm, bm, rfl⟩
        walk_at "go"
        refine ite2 (fun g2 => ?_) (fun g2 => ?_)
        · walk_at "go"
          refine ⟨tn rfl, fun u nu => ?_⟩
          generalize hUu : upd _ _ (HO.tup _) = H15
          have s15 := same_hu hUu nu
          have ehu := at_hu hUu
          have hu := SqT.of (K := K) ehu
          clear hUu
          exact ⟨s15, u, .dec ⟨nm, _, _, _⟩, _, _, ⟨ta, tb, tc, hu, fa14.same s15, fb14.same s15, fc.same s15⟩, ⟨bdF_sml _, bdF_sml _, bdF_sml _⟩, rfl, rfl⟩
        · walk_at "go"
          refine ⟨tn rfl, fun u nu => ?_⟩
          generalize hUu : upd _ _ (HO.tup _) = H15
          have s15 := same_hu hUu nu
          have ehu := at_hu hUu
          have hu := SqT.of (K := K) ehu
          clear hUu
          exact ⟨s15, u, .dec ⟨nm, _, _, _⟩, _, _, ⟨tl, tl, tm, hu, fl.same s15, fl.same s15, fm.same s15⟩, ⟨bl, bl, bm⟩, rfl, rfl⟩
      · walk_at "go"
        refine ⟨tn rfl, fun u nu => ?_⟩
        generalize hUu : upd _ _ (HO.tup _) = H15
        have s15 := same_hu hUu nu
        have ehu := at_hu hUu
        have hu := SqT.of (K := K) ehu
        clear hUu
        exact ⟨s15, u, .set nm _, _, _, ⟨ta, hu, fa14.same s15⟩, bdF_sml _, rfl, rfl⟩
    rintro σ' H15 ⟨s15, u, e, v12', v13', he, heb, henm, rfl⟩
    have z15 : Same H0 H15 := s12.trans (s13.trans (s14.trans s15))
    have hR15 := z15 _ _ hR
    have hus15 := hus.up z15
    have hul : us.length = ws.length := by
      have := congrArg List.length emap
      rwa [List.length_map, List.length_map] at this
    have hwl : ws.length ≤ 4 := by
      have := hok.1
      rwa [List.length_map] at this
    obtain ⟨bad1, bad2, bad3⟩ := menu_bad nm hmem
    walk_at "go"
    refine ⟨⟨_, SqL.of hR15⟩, fun D hDn => ?_⟩
    refine lc_relD (walk_list (K := K) (a := R) (xs := Ro us)) (us.map (·.2)) (by rw [List.length_map, Ro_len]) (by rw [Ro_len]; omega) hDn (fun H t (x : Pm) => PmAt K H t x ∧ t ≠ D) (fun s h => ⟨h.1.up s, h.2⟩) (fun h hl s => ⟨h.1.over h.2 hl s, h.2⟩) (fun H s => s.seq (SqL.of hR15)) ?_ ?_
    · rintro i r x H3 H4 kk hr s3 ⟨ys, hDd⟩ ⟨rfl, hv⟩ yk
      obtain ⟨w, rfl, gw⟩ := Ro_get hv
      obtain ⟨v, l, g, e1', e2', e3', e4'⟩ := (hus15 w (List.mem_of_getElem? gw)).up s3
      have er : r = w.2 := by
        rw [List.getElem?_map, gw] at hr
        exact (Option.some.inj hr).symm
      subst er
      refine ⟨rfl, _, rfl, w.1, _, rfl, .inl (SqL.of e1'), fun t nt => ?_⟩
      have st := same_upd (o := .lst [sv w.2.nm, .ref v, .ref l, .ref g]) nt
      exact yk t _ st ⟨⟨v, l, g, upd_same, e2'.same st, e3'.same st, e4'.same st⟩, fun e => by rw [e, hDd] at nt; cases nt⟩
    intro H16 bs s16 hB hbs hbm
    walk_at "go"
    have hokU : Ok60 (us.map (·.2)) := by rw [emap]; exact hok
    have z16 := z15.trans s16
    refine ⟨R, u, us, e, rfl, SqL.of (z16 _ _ hR), hus.up z16, by omega, (fun w hw => hokU.2.1 _ (List.mem_map.mpr ⟨w, hw, rfl⟩)), hokU.2.2.1, he.up s16, heb, (by rw [henm]; exact bad1), fun H17 s17 => ?_⟩
    rw [emap]
    have hstr : ∀ n ∈ ws.map (·.2), PySem.PyData.strOk (S n.nm) = true := fun n hn => (menu_bad _ (hok.2.2.2 n hn)).2.2
    obtain ⟨dk, hdk⟩ : ∃ dk, dueE (ws.map (·.2)) e = dk := ⟨_, rfl⟩
    rw [hdk]
    walk_at "go"
    have z17 := z16.trans s17
    refine ⟨p, u, lo, hi, P, ws, e, rfl, hD.up z17, hwl, (fun w hw => hok.2.1 _ (List.mem_map.mpr ⟨w, hw, rfl⟩)), hok.2.2.1, he.up (s16.trans s17), heb, (by rw [henm]; exact bad2), fun hne H18 s18 => ?_, fun h0 H18 t p' P' vs' s18 ht hD' hus' => ?_⟩
    · rw [hdk] at hne ⊢
      have z18 := z17.trans s18
      have hne' := du_ne hne
      refine ⟨fun σ' H' => H18 = H' ∧ σ' = [some (.ref s0), some (.ref ml), some (.ref lo), some (.ref hi), some (.ref p), some (.ref R), some (.int (0 + (i : Int))), some (.int dr), some (sv nm), some (.ref ta), some (.ref tb), some (.ref tc), v12', v13', some (.ref u), some (.ref D), some (.str (duS dk)), some (.str (duS dk)), none], ?_, ?_⟩
      · walk_at "go"
        refine iteF' hne' ?_
        walk_at "go"
        rfl
      rintro σ' H' ⟨rfl, rfl⟩
      refine ⟨fun σ' H' => H18 = H' ∧ σ' = [some (.ref s0), some (.ref ml), some (.ref lo), some (.ref hi), some (.ref p), some (.ref R), some (.int (0 + (i : Int))), some (.int dr), some (sv nm), some (.ref ta), some (.ref tb), some (.ref tc), v12', v13', some (.ref u), some (.ref D), some (.str (duS dk)), some (.str (duS dk)), none], ?_, ?_⟩
      · walk_at "go"
        refine iteF' hne' ?_
        walk_at "go"
        rfl
      rintro σ' H' ⟨rfl, rfl⟩
      have hD18 := hD.up z18
      obtain ⟨dx', F', G', q1, q2, q3, q4, q5, q6, q7⟩ := hD18
      walk_at "go"
      refine ⟨p, _, dx', _, _, rfl, q1, OBDocument.cl, OBDocument.nparameters, dc_par _ _ _ _ _, ?_⟩
      walk_at "go"
      refine ⟨_, _, .lst (SqL.of q2) (dp_pms q5), .lst (SqL.of (s18 _ _ (s17 _ _ hB))) (dp_pms fun w hw => (hbs w hw).1.up (s17.trans s18)), sh_pm hstr, (by rw [hbm, emap]; exact sh_pm hstr), ?_⟩
      rw [hbm, emap, eqv_sh (sh_pm hstr)]
      walk_at "go"
      refine iteT' (by rw [hne']; rfl) ?_
      walk_at "go"
      refine iteF' (by rw [decide_eq_true rfl]; rfl) ?_
      exact ⟨z0.trans z18, p, P, R, ws, us, hD.up z18, z18 _ _ hR, hus.up z18, emap, hok, _, _, _, _, _, _, _, _, _, _, _, _, rfl⟩
    · rw [hdk] at h0
      subst h0
      have z18 := z17.trans s18
      have he18 := he.up (s16.trans (s17.trans s18))
      have hR18 := z18 _ _ hR
      have hus18 := hus.up z18
      refine ⟨fun σ' H' => Same H18 H' ∧ ∃ (R' : Addr) (us' : List (Addr × Pm)), H' R' = some (.lst (Ro us')) ∧ PsAt K H' us' ∧ us'.map (·.2) = half60 (ws.map (·.2)) e ∧ σ' = [some (.ref s0), some (.ref ml), some (.ref lo), some (.ref hi), some (.ref p), some (.ref R'), some (.int (0 + (i : Int))), some (.int dr), some (sv nm), some (.ref ta), some (.ref tb), some (.ref tc), v12', v13', some (.ref u), some (.ref D), some (.str (duS 0)), some (.ref t), none], ?_, ?_⟩
      · walk_at "go"
        cases e with
        | dec n =>
          obtain ⟨v, l, h, g1, g2, g3, g4⟩ := he18
          refine ⟨u, _, _, _, rfl, rfl, g1, atI_nat (j := 0) rfl, ?_⟩
          walk_at "go"
          refine ⟨u, _, _, _, rfl, rfl, g1, atI_nat (j := 4) rfl, ?_⟩
          walk_at "go"
          refine ⟨tn rfl, fun x1 nx1 => ?_⟩
          generalize hUx1 : upd _ _ (HO.lst _) = H19
          have s19 := same_hu hUx1 nx1
          have ey19 := at_hu hUx1
          have y19 := SqL.of (K := K) ey19
          clear hUx1
          walk_at "go"
          refine ⟨tn rfl, fun x2 nx2 => ?_⟩
          generalize hUx2 : upd _ _ (HO.lst _) = H20
          have s20 := same_hu hUx2 nx2
          have ey20 := at_hu hUx2
          have y20 := SqL.of (K := K) ey20
          clear hUx2
          have s820 := s19.trans s20
          refine ⟨R, x2, _, _, rfl, rfl, s820 _ _ hR18, ey20, (by rw [PySem.sizeLine_eq, Ro_len]; show _ + 1 ≤ _; omega), fun R' nR' => ?_⟩
          have s21 := same_upd (o := .lst (Ro us ++ [.ref x1])) nR'
          have s821 := s820.trans s21
          refine ⟨s821, R', us ++ [(x1, n)], by rw [show Ro (us ++ [(x1, n)]) = Ro us ++ [.ref x1] from List.map_append]; exact upd_same, fun w hw => ?_, by rw [List.map_append, emap]; rfl, rfl⟩
          rcases List.mem_append.mp hw with hw | hw
          · exact hus18.up s821 w hw
          · rw [List.mem_singleton.mp hw]
            exact ⟨v, l, h, (s20.trans s21) _ _ ey19, g2.same s821, g3.same s821, g4.same s821⟩
        | set xm x =>
          obtain ⟨v, g1, g2⟩ := he18
          refine ⟨u, _, _, _, rfl, rfl, g1, atI_nat (j := 0) rfl, ?_⟩
          walk_at "go"
          refine iteF' (show decide (V.str "set" = V.str "declare") = false by decide +kernel) ?_
          exact ⟨Same.refl _, R, us, hR18, hus18, emap, rfl⟩
      rintro σ' H19 ⟨s19, R', us', hR', hus1, hmap1, rfl⟩
      have he19 := he18.up s19
      refine ⟨fun σ' H' => Same H18 H' ∧ ∃ (R' : Addr) (us' : List (Addr × Pm)), H' R' = some (.lst (Ro us')) ∧ PsAt K H' us' ∧ us'.map (·.2) = nextE (ws.map (·.2)) e ∧ σ' = [some (.ref s0), some (.ref ml), some (.ref lo), some (.ref hi), some (.ref p), some (.ref R'), some (.int (0 + (i : Int))), some (.int dr), some (sv nm), some (.ref ta), some (.ref tb), some (.ref tc), v12', v13', some (.ref u), some (.ref D), some (.str (duS 0)), some (.ref t), none], ?_, ?_⟩
      · walk_at "go"
        cases e with
        | dec n =>
          obtain ⟨v, l, h, g1, g2, g3, g4⟩ := he19
          refine ⟨u, _, _, _, rfl, rfl, g1, atI_nat (j := 0) rfl, ?_⟩
          walk_at "go"
          exact ⟨R', us', hR', hus1, hmap1, rfl⟩
        | set xm x =>
          obtain ⟨v, g1, g2⟩ := he19
          refine ⟨u, _, _, _, rfl, rfl, g1, atI_nat (j := 0) rfl, ?_⟩
          walk_at "go"
          have hmap2 : us'.map (·.2) = ws.map (·.2) := hmap1
          have hul' : us'.length ≤ 4 := by
            have := congrArg List.length hmap2
            rw [List.length_map, List.length_map] at this
            omega
          have hnx : nextE (ws.map (·.2)) (.set xm x) = us'.map fun w => if w.2.nm = xm then (⟨xm, x, w.2.lo, w.2.hi⟩ : Pm) else w.2 := by
            rw [← hmap2]
            show (List.map _ _).map _ = _
            rw [List.map_map]
            rfl
          refine ⟨⟨_, SqL.of hR'⟩, fun D2 hDn2 => ?_⟩
          rw [hnx]
          refine lc_relD (walk_list (K := K) (a := R') (xs := Ro us')) (us'.map fun w => if w.2.nm = xm then (⟨xm, x, w.2.lo, w.2.hi⟩ : Pm) else w.2) (by rw [List.length_map, Ro_len]) (by rw [Ro_len]; omega) hDn2 (fun H t (x : Pm) => PmAt K H t x ∧ t ≠ D2) (fun s h => ⟨h.1.up s, h.2⟩) (fun h hl s => ⟨h.1.over h.2 hl s, h.2⟩) (fun H s => s.seq (SqL.of hR')) ?_ ?_
          · rintro m r x3 H3 H4 kk hr s3 ⟨ys, hDd⟩ ⟨rfl, hv⟩ yk
            obtain ⟨w, rfl, gw⟩ := Ro_get hv
            obtain ⟨v1, l1, h1, e1', e2', e3', e4'⟩ := (hus1 w (List.mem_of_getElem? gw)).up s3
            have g1' := same_tup s3 g1
            rw [List.getElem?_map, gw] at hr
            obtain rfl := Option.some.inj hr
            walk_at "go"
            refine ⟨w.1, _, _, _, rfl, rfl, SqL.of e1', atI_nat (j := 0) rfl, ?_⟩
            walk_at "go"
            refine ⟨w.1, _, _, _, rfl, rfl, SqL.of e1', atI_nat (j := 0) rfl, ?_⟩
            walk_at "go"
            have hxm : xm = nm := henm
            by_cases hn : w.2.nm = xm
            · refine iteT' (decide_eq_true (by rw [hn, hxm])) ?_
              walk_at "go"
              refine ⟨w.1, _, _, _, rfl, rfl, SqL.of e1', atI_nat (j := 2) rfl, ?_⟩
              walk_at "go"
              refine ⟨w.1, _, _, _, rfl, rfl, SqL.of e1', atI_nat (j := 3) rfl, ?_⟩
              refine ⟨by show 4 ≤ sizeLine; decide, fun T nT => ?_⟩
              have st := same_upd (o := .lst [sv w.2.nm, .ref v, .ref l1, .ref h1]) nT
              refine yk T _ st ⟨?_, fun e => by rw [e, hDd] at nT; cases nT⟩
              show PmAt K _ T (if w.2.nm = xm then _ else _)
              rw [if_pos hn]
              exact ⟨v, l1, h1, by rw [← hn]; exact upd_same, (g2.same s3).same st, e3'.same st, e4'.same st⟩
            · refine iteF' (decide_eq_false fun e => hn (by rw [hxm]; exact SX.S_inj (V.str.inj e))) ?_
              walk_at "go"
              refine ⟨w.1, _, _, _, rfl, rfl, SqL.of e1', atI_nat (j := 1) rfl, ?_⟩
              walk_at "go"
              refine ⟨w.1, _, _, _, rfl, rfl, SqL.of e1', atI_nat (j := 2) rfl, ?_⟩
              walk_at "go"
              refine ⟨w.1, _, _, _, rfl, rfl, SqL.of e1', atI_nat (j := 3) rfl, ?_⟩
              refine ⟨by show 4 ≤ sizeLine; decide, fun T nT => ?_⟩
              have st := same_upd (o := .lst [sv w.2.nm, .ref v1, .ref l1, .ref h1]) nT
              refine yk T _ st ⟨?_, fun e => by rw [e, hDd] at nT; cases nT⟩
              show PmAt K _ T (if w.2.nm = xm then _ else _)
              rw [if_neg hn]
              exact ⟨v1, l1, h1, upd_same, e2'.same st, e3'.same st, e4'.same st⟩
          intro H20 cs s20 hC hcs hcm
          exact ⟨s19.trans s20, D2, cs, hC, fun w hw => (hcs w hw).1, hcm, rfl⟩
      clear hmap1 hus1 hR' s19 he19
      rintro σ' H19 ⟨s19, R', us', hR', hus1, hmap1, rfl⟩
      have hD19 := hD.up (z18.trans s19)
      obtain ⟨dx', F', G', q1, q2, q3, q4, q5, q6, q7⟩ := hD19
      walk_at "go"
      refine ⟨p, _, dx', _, _, rfl, q1, OBDocument.cl, OBDocument.nparameters, dc_par _ _ _ _ _, ?_⟩
      walk_at "go"
      have s8' := s18.trans s19
      refine ⟨_, _, .lst (SqL.of q2) (dp_pms q5), .lst (SqL.of (s8' _ _ (s17 _ _ hB))) (dp_pms fun w hw => (hbs w hw).1.up (s17.trans s8')), sh_pm hstr, (by rw [hbm, emap]; exact sh_pm hstr), ?_⟩
      rw [hbm, emap, eqv_sh (sh_pm hstr)]
      walk_at "go"
      have et := s19 _ _ ht
      refine ⟨.ref t, .ty "tuple", .type "tuple", .type "tuple", true, rfl, .ty _, .base (.tup et), kit_ty (by decide +kernel), true, rfl, ?_⟩
      refine iteF' rfl ?_
      walk_at "go"
      refine ⟨t, _, rfl, .inr (SqT.of et), ?_⟩
      walk_at "go"
      refine ⟨t, _, _, _, rfl, rfl, SqT.of et, atI_nat (j := 1) rfl, ?_⟩
      walk_at "go"
      have hok2 : Ok60 (nextE (ws.map (·.2)) e) := next_ok hok heb (by rw [henm]; exact hmem) hdk
      have hstr2 : ∀ n ∈ nextE (ws.map (·.2)) e, PySem.PyData.strOk (S n.nm) = true := fun n hn => (menu_bad _ (hok2.2.2.2 n hn)).2.2
      have hD2 := hD'.up s19
      have hD3 := hD2
      obtain ⟨dx2, F2, G2, r1, r2, r3, r4, r5, r6, r7⟩ := hD3
      have hvl : vs'.length ≤ 4 := by
        have := hok2.1
        rw [← hus', List.length_map] at this
        exact this
      have hul2 : us'.length ≤ 4 := by
        have := hok2.1
        rw [← hmap1, List.length_map] at this
        exact this
      refine ⟨t, _, _, _, rfl, rfl, SqT.of et, atI_nat (j := 0) rfl, ?_⟩
      walk_at "go"
      refine ⟨p', _, dx2, _, _, rfl, r1, OBDocument.cl, OBDocument.nparameters, dc_par _ _ _ _ _, ?_⟩
      walk_at "go"
      refine ⟨_, _, .lst (SqL.of r2) (dp_pms r5), .lst (SqL.of hR') (dp_pms hus1), (by rw [hus']; exact sh_pm hstr2), (by rw [hmap1]; exact sh_pm hstr2), ?_⟩
      rw [hus', hmap1, eqv_sh (sh_pm hstr2)]
      walk_at "go"
      refine ⟨p', dx2, _, rfl, r1, dc_no _ _ _ _ _ (by decide +kernel), ?_⟩
      refine ⟨p', lo, hi, P', vs', rfl, hD2, by omega, fun H20 N s20 nN eN => ?_⟩
      walk_at "go"
      have hR20 := s20 _ _ hR'
      have emn : us'.map (·.2.nm) = vs'.map (·.2.nm) := by rw [nms, nms, hmap1, hus']
      refine ⟨⟨_, SqL.of hR20⟩, fun N2 nN2 => ?_⟩
      refine lc_val (walk_list (K := K) (a := R') (xs := Ro us')) (us'.map fun w => sv w.2.nm) (by rw [List.length_map, Ro_len]) (by rw [Ro_len]; omega) nN2 (fun H s => s.seq (SqL.of hR20)) ?_ ?_
      · rintro m r x H3 H4 kk hr s3 ⟨rfl, hv⟩ yk
        obtain ⟨w, rfl, gw⟩ := Ro_get hv
        obtain ⟨v, l, g, e1, _⟩ := (hus1 w (List.mem_of_getElem? gw)).up (s20.trans s3)
        have er : r = sv w.2.nm := by
          rw [List.getElem?_map, gw] at hr
          exact (Option.some.inj hr).symm
        subst er
        exact ⟨rfl, _, rfl, w.1, _, _, _, rfl, rfl, SqL.of e1, atI_nat (j := 0) rfl, yk _ (Same.refl _)⟩
      intro H21 s21 e21
      have ls1 : (vs'.map fun w => sv w.2.nm) = (vs'.map (·.2.nm)).map sv := by rw [List.map_map]; rfl
      have ls2 : (us'.map fun w => sv w.2.nm) = (vs'.map (·.2.nm)).map sv := by rw [← emn, List.map_map]; rfl
      have hstr3 : ∀ c ∈ vs'.map (·.2.nm), PySem.PyData.strOk (S c) = true := fun c hc => by
        rw [nms, hus'] at hc
        obtain ⟨n, hn, rfl⟩ := List.mem_map.mp hc
        exact hstr2 n hn
      rw [ls1] at eN
      rw [ls2] at e21
      refine ⟨_, _, .lst (SqL.of (s21 _ _ eN)) (dp_nms _), .lst (SqL.of e21) (dp_nms _), sh_nms hstr3, sh_nms hstr3, ?_⟩
      rw [eqv_sh (sh_nms hstr3)]
      walk_at "go"
      have z21 := s20.trans s21
      refine ⟨p', dx2, _, rfl, z21 _ _ r1, dc_no _ _ _ _ _ (by decide +kernel), ?_⟩
      refine ⟨p', lo, hi, P', vs', rfl, hD2.up z21, by omega, fun H22 T ts s22 nT eT rT mT => ?_⟩
      walk_at "go"
      have z22 := z21.trans s22
      have hR22 := z22 _ _ hR'
      refine ⟨⟨_, SqL.of hR22⟩, fun T2 nT2 => ?_⟩
      refine lc_relD (walk_list (K := K) (a := R') (xs := Ro us')) (us'.map fun w => w.2.v) (by rw [List.length_map, Ro_len]) (by rw [Ro_len]; omega) nT2 (fun H t (r : Rat) => Fx K H t r) (fun s h => Fx.same h s) over_tup (fun H s => s.seq (SqL.of hR22)) ?_ ?_
      · rintro m r x H3 H4 kk hr s3 _ ⟨rfl, hv⟩ yk
        obtain ⟨w, rfl, gw⟩ := Ro_get hv
        obtain ⟨v, l, g, e1, e2, _⟩ := (hus1 w (List.mem_of_getElem? gw)).up (z22.trans s3)
        have er : r = w.2.v := by
          rw [List.getElem?_map, gw] at hr
          exact (Option.some.inj hr).symm
        subst er
        exact ⟨rfl, _, rfl, w.1, _, _, _, rfl, rfl, SqL.of e1, atI_nat (j := 1) rfl, yk _ _ (Same.refl _) e2⟩
      intro H23 us3 s23 e23 r23 m23
      have emv : us3.map (·.2) = ts.map (·.2) := by
        rw [m23, mT, show (us'.map fun w => w.2.v) = (us'.map (·.2)).map (·.v) from by rw [List.map_map]; rfl, show (vs'.map fun w => w.2.v) = (vs'.map (·.2)).map (·.v) from by rw [List.map_map]; rfl, hmap1, hus']
      refine ⟨_, _, .lst (SqL.of (s23 _ _ eT)) (dpAll fun w hw => (rT w hw).same s23), .lst (SqL.of e23) (dpAll r23), shrl _, shrl _, ?_⟩
      rw [emv, eqv_sh (shrl _)]
      walk_at "go"
      have z23 := z22.trans s23
      refine ⟨p', _, dx2, _, _, rfl, z23 _ _ r1, OBDocument.cl, OBDocument.nfeatures, dc_fea _ _ _ _ _, ?_⟩
      walk_at "go"
      refine ⟨tn rfl, fun E1 nE1 => ?_⟩
      generalize hUE1 : upd _ _ (HO.lst _) = H24
      have s24 := same_hu hUE1 nE1
      have ey24 := at_hu hUE1
      have y24 := SqL.of (K := K) ey24
      clear hUE1
      refine ⟨.list [], .list [], .lst (SqL.of ((z23.trans s24) _ _ r3)) .nil, .lst (SqL.of ey24) .nil, rfl, rfl, ?_⟩
      walk_at "go"
      have z24 := z23.trans s24
      refine ⟨p', _, dx2, _, _, rfl, z24 _ _ r1, OBDocument.cl, OBDocument.nkept, dc_kep _ _ _ _ _, ?_⟩
      walk_at "go"
      refine ⟨tn rfl, fun E2 nE2 => ?_⟩
      generalize hUE2 : upd _ _ (HO.lst _) = H25
      have s25 := same_hu hUE2 nE2
      have ey25 := at_hu hUE2
      have y25 := SqL.of (K := K) ey25
      clear hUE2
      refine ⟨.list [], .list [], .lst (SqL.of ((z24.trans s25) _ _ r4)) .nil, .lst (SqL.of ey25) .nil, rfl, rfl, ?_⟩
      walk_at "go"
      have z25 := z24.trans s25
      have zz := z0.trans (z18.trans (s19.trans z25))
      refine ⟨p', _, dx2, _, _, rfl, z25 _ _ r1, OBDocument.cl, OBDocument.nlow, dc_low _ _ _ _ _, ?_⟩
      walk_at "go"
      refine ⟨pdCo 0, pdCo 0, dp_co (lo11.up zz), dp_co (lo11.up zz), by decide +kernel, by decide +kernel, ?_⟩
      rw [eqv_sh (show SeqAt.shaped (pdCo 0) = true by decide +kernel)]
      walk_at "go"
      refine ⟨p', _, dx2, _, _, rfl, z25 _ _ r1, OBDocument.cl, OBDocument.nhigh, dc_high _ _ _ _ _, ?_⟩
      walk_at "go"
      refine ⟨pdCo 4, pdCo 4, dp_co (hi11.up zz), dp_co (hi11.up zz), by decide +kernel, by decide +kernel, ?_⟩
      rw [eqv_sh (show SeqAt.shaped (pdCo 4) = true by decide +kernel)]
      walk_at "go"
      exact ⟨p', P', R', vs', us', hD2.up z25, z25 _ _ hR', hus1.up z25, by rw [hmap1, hus'], by rw [hus']; exact hok2, _, _, _, _, _, _, _, _, _, _, _, _, rfl⟩
end
theorem all_mk {l : PySem.W.OpenLaw} {w : World} {K : PySem.W.Frag} {h : Heap} {mg : Str → Option Value} {fa f1 f2 f3 f4 f5 f6 f7 f8 f9 f10 f11 f12 f13 f14 f15 f16 f17 f18 f19 f20  CPartError CTextFault CUnknown CTaken CBeyond CFull fIni CDocument : Addr} (X : K.In h) (G : h.Ns mainGlobals mg) (hfa : mg "law" = some (.ref fa))
    {od1 an1 od2 an2 od3 an3 od4 an4 od5 an5 od6 an6 od7 an7 od8 an8 od9 an9 od10 an10 od11 an11 od12 an12 od13 an13 od14 an14 od15 an15 od16 an16 od17 an17 od18 an18 od19 an19 od20 an20 : Option Addr} {sl1 sl2 sl3 sl4 sl5 sl6 sl7 sl8 sl9 sl10 sl11 sl12 sl13 sl14 sl15 sl16 sl17 sl18 sl19 sl20 : Array (Option Value)} {oc1 kV1 dc1 pm1 cd1 ct1 oc2 kV2 dc2 pm2 cd2 ct2 oc3 kV3 dc3 pm3 cd3 ct3 oc4 kV4 dc4 pm4 cd4 ct4 oc5 kV5 dc5 pm5 cd5 ct5 oc6 kV6 dc6 pm6 cd6 ct6 oc7 kV7 dc7 pm7 cd7 ct7 oc8 kV8 dc8 pm8 cd8 ct8 oc9 kV9 dc9 pm9 cd9 ct9 oc10 kV10 dc10 pm10 cd10 ct10 oc11 kV11 dc11 pm11 cd11 ct11 oc12 kV12 dc12 pm12 cd12 ct12 oc13 kV13 dc13 pm13 cd13 ct13 oc14 kV14 dc14 pm14 cd14 ct14 oc15 kV15 dc15 pm15 cd15 ct15 oc16 kV16 dc16 pm16 cd16 ct16 oc17 kV17 dc17 pm17 cd17 ct17 oc18 kV18 dc18 pm18 cd18 ct18 oc19 kV19 dc19 pm19 cd19 ct19 oc20 kV20 dc20 pm20 cd20 ct20 : Value}
    (oDocumentg : PySem.W.nsIn K mainGlobals "Document" = some (some (.ref CDocument))) (oDocumentpg : PySem.W.plainGet K CDocument Str.empty = true) (oDocumenthd : PySem.W.hasDictIn K CDocument = true) (oDocumentpo : PySem.W.plainOver K CDocument = true) (oDocumentsa : PySem.W.findIn K (.ref CDocument) "__setattr__" = some (some (.builtin "object.__setattr__"))) (oDocumentmk : PySem.W.makesIn K CDocument = true) (oDocumentkc : PySem.W.keepIn K (.ref CDocument) = true) (oDocumentnlow : PySem.W.findIn K (.ref CDocument) "low" = some none) (oDocumentnhigh : PySem.W.findIn K (.ref CDocument) "high" = some none) (oDocumentnparameters : PySem.W.findIn K (.ref CDocument) "parameters" = some none) (oDocumentnfeatures : PySem.W.findIn K (.ref CDocument) "features" = some none) (oDocumentnkept : PySem.W.findIn K (.ref CDocument) "kept" = some none) (oDocumentnlast_feature : PySem.W.findIn K (.ref CDocument) "last_feature" = some none) (oDocumentnlast_name : PySem.W.findIn K (.ref CDocument) "last_name" = some none)
    (a1 : PySem.W.nsIn K mainGlobals "row_end" = some (some (.ref f1))) (l1 : K.lookup f1 = some ⟨oc1, od1, .func (PySem.W.fnOf "row_end" "row_end" (defArgs sRowEnd) (defBody sRowEnd) (defScope sRowEnd) .none kV1 dc1 pm1 an1 cd1 ct1), sl1⟩) (c1 : PySem.W.codeIn K cd1 "row_end" = true) (k1 : PySem.W.keepIn K (.ref f1) = true)
    (a2 : PySem.W.nsIn K mainGlobals "is_row" = some (some (.ref f2))) (l2 : K.lookup f2 = some ⟨oc2, od2, .func (PySem.W.fnOf "is_row" "is_row" (defArgs sIsRow) (defBody sIsRow) (defScope sIsRow) .none kV2 dc2 pm2 an2 cd2 ct2), sl2⟩) (c2 : PySem.W.codeIn K cd2 "is_row" = true) (k2 : PySem.W.keepIn K (.ref f2) = true)
    (a3 : PySem.W.nsIn K mainGlobals "is_short_word" = some (some (.ref f3))) (l3 : K.lookup f3 = some ⟨oc3, od3, .func (PySem.W.fnOf "is_short_word" "is_short_word" (defArgs sIsShortWord) (defBody sIsShortWord) (defScope sIsShortWord) .none kV3 dc3 pm3 an3 cd3 ct3), sl3⟩) (c3 : PySem.W.codeIn K cd3 "is_short_word" = true) (k3 : PySem.W.keepIn K (.ref f3) = true)
    (a4 : PySem.W.nsIn K mainGlobals "less" = some (some (.ref f4))) (l4 : K.lookup f4 = some ⟨oc4, od4, .func (PySem.W.fnOf "less" "less" (defArgs sLess) (defBody sLess) (defScope sLess) .none kV4 dc4 pm4 an4 cd4 ct4), sl4⟩) (c4 : PySem.W.codeIn K cd4 "less" = true) (k4 : PySem.W.keepIn K (.ref f4) = true)
    (a5 : PySem.W.nsIn K mainGlobals "is_parameter_name" = some (some (.ref f5))) (l5 : K.lookup f5 = some ⟨oc5, od5, .func (PySem.W.fnOf "is_parameter_name" "is_parameter_name" (defArgs sIsParameterName) (defBody sIsParameterName) (defScope sIsParameterName) .none kV5 dc5 pm5 an5 cd5 ct5), sl5⟩) (c5 : PySem.W.codeIn K cd5 "is_parameter_name" = true) (k5 : PySem.W.keepIn K (.ref f5) = true)
    (a6 : PySem.W.findIn K (.ref CDocument) "names" = some (some (.ref f6))) (i6 : PySem.W.isFn K (.ref f6) = true) (l6 : K.lookup f6 = some ⟨oc6, od6, .func (PySem.W.fnOf "names" "Document.names" (defArgs sDocumentNames) (defBody sDocumentNames) (defScope sDocumentNames) .none kV6 dc6 pm6 an6 cd6 ct6), sl6⟩) (c6 : PySem.W.codeIn K cd6 "Document.names" = true) (k6 : PySem.W.keepIn K (.ref f6) = true)
    (a7 : PySem.W.nsIn K mainGlobals "declare" = some (some (.ref f7))) (l7 : K.lookup f7 = some ⟨oc7, od7, .func (PySem.W.fnOf "declare" "declare" (defArgs sDeclare) (defBody sDeclare) (defScope sDeclare) .none kV7 dc7 pm7 an7 cd7 ct7), sl7⟩) (c7 : PySem.W.codeIn K cd7 "declare" = true) (k7 : PySem.W.keepIn K (.ref f7) = true)
    (a8 : PySem.W.nsIn K mainGlobals "set_value" = some (some (.ref f8))) (l8 : K.lookup f8 = some ⟨oc8, od8, .func (PySem.W.fnOf "set_value" "set_value" (defArgs sSetValue) (defBody sSetValue) (defScope sSetValue) .none kV8 dc8 pm8 an8 cd8 ct8), sl8⟩) (c8 : PySem.W.codeIn K cd8 "set_value" = true) (k8 : PySem.W.keepIn K (.ref f8) = true)
    (a9 : PySem.W.nsIn K mainGlobals "perform" = some (some (.ref f9))) (l9 : K.lookup f9 = some ⟨oc9, od9, .func (PySem.W.fnOf "perform" "perform" (defArgs sPerform) (defBody sPerform) (defScope sPerform) .none kV9 dc9 pm9 an9 cd9 ct9), sl9⟩) (c9 : PySem.W.codeIn K cd9 "perform" = true) (k9 : PySem.W.keepIn K (.ref f9) = true)
    (a10 : PySem.W.findIn K (.ref CDocument) "__init__" = some (some (.ref f10))) (i10 : PySem.W.isFn K (.ref f10) = true) (l10 : K.lookup f10 = some ⟨oc10, od10, .func (PySem.W.fnOf "__init__" "Document.__init__" (defArgs sDocumentInit) (defBody sDocumentInit) (defScope sDocumentInit) .none kV10 dc10 pm10 an10 cd10 ct10), sl10⟩) (c10 : PySem.W.codeIn K cd10 "Document.__init__" = true) (k10 : PySem.W.keepIn K (.ref f10) = true)
    (a11 : PySem.W.findIn K (.ref CDocument) "copied" = some (some (.ref f11))) (i11 : PySem.W.isFn K (.ref f11) = true) (l11 : K.lookup f11 = some ⟨oc11, od11, .func (PySem.W.fnOf "copied" "Document.copied" (defArgs sDocumentCopied) (defBody sDocumentCopied) (defScope sDocumentCopied) .none kV11 dc11 pm11 an11 cd11 ct11), sl11⟩) (c11 : PySem.W.codeIn K cd11 "Document.copied" = true) (k11 : PySem.W.keepIn K (.ref f11) = true)
    (a12 : PySem.W.nsIn K mainGlobals "apply" = some (some (.ref f12))) (l12 : K.lookup f12 = some ⟨oc12, od12, .func (PySem.W.fnOf "apply" "apply" (defArgs sApply) (defBody sApply) (defScope sApply) .none kV12 dc12 pm12 an12 cd12 ct12), sl12⟩) (c12 : PySem.W.codeIn K cd12 "apply" = true) (k12 : PySem.W.keepIn K (.ref f12) = true)
    (a13 : PySem.W.nsIn K mainGlobals "_law_number" = some (some (.ref f13))) (l13 : K.lookup f13 = some ⟨oc13, od13, .func (PySem.W.fnOf "_law_number" "_law_number" (defArgs sLLawNumber) (defBody sLLawNumber) (defScope sLLawNumber) .none kV13 dc13 pm13 an13 cd13 ct13), sl13⟩) (c13 : PySem.W.codeIn K cd13 "_law_number" = true) (k13 : PySem.W.keepIn K (.ref f13) = true)
    (a14 : PySem.W.nsIn K mainGlobals "_law_fraction" = some (some (.ref f14))) (l14 : K.lookup f14 = some ⟨oc14, od14, .func (PySem.W.fnOf "_law_fraction" "_law_fraction" (defArgs sLLawFraction) (defBody sLLawFraction) (defScope sLLawFraction) .none kV14 dc14 pm14 an14 cd14 ct14), sl14⟩) (c14 : PySem.W.codeIn K cd14 "_law_fraction" = true) (k14 : PySem.W.keepIn K (.ref f14) = true)
    (a15 : PySem.W.nsIn K mainGlobals "_law_small" = some (some (.ref f15))) (l15 : K.lookup f15 = some ⟨oc15, od15, .func (PySem.W.fnOf "_law_small" "_law_small" (defArgs sLLawSmall) (defBody sLLawSmall) (defScope sLLawSmall) .none kV15 dc15 pm15 an15 cd15 ct15), sl15⟩) (c15 : PySem.W.codeIn K cd15 "_law_small" = true) (k15 : PySem.W.keepIn K (.ref f15) = true)
    (a16 : PySem.W.nsIn K mainGlobals "_law_less" = some (some (.ref f16))) (l16 : K.lookup f16 = some ⟨oc16, od16, .func (PySem.W.fnOf "_law_less" "_law_less" (defArgs sLLawLess) (defBody sLLawLess) (defScope sLLawLess) .none kV16 dc16 pm16 an16 cd16 ct16), sl16⟩) (c16 : PySem.W.codeIn K cd16 "_law_less" = true) (k16 : PySem.W.keepIn K (.ref f16) = true)
    (a17 : PySem.W.nsIn K mainGlobals "_law_due" = some (some (.ref f17))) (l17 : K.lookup f17 = some ⟨oc17, od17, .func (PySem.W.fnOf "_law_due" "_law_due" (defArgs sLLawDue) (defBody sLLawDue) (defScope sLLawDue) .none kV17 dc17 pm17 an17 cd17 ct17), sl17⟩) (c17 : PySem.W.codeIn K cd17 "_law_due" = true) (k17 : PySem.W.keepIn K (.ref f17) = true)
    (a18 : PySem.W.nsIn K mainGlobals "_law_apply" = some (some (.ref f18))) (l18 : K.lookup f18 = some ⟨oc18, od18, .func (PySem.W.fnOf "_law_apply" "_law_apply" (defArgs sLLawApply) (defBody sLLawApply) (defScope sLLawApply) .none kV18 dc18 pm18 an18 cd18 ct18), sl18⟩) (c18 : PySem.W.codeIn K cd18 "_law_apply" = true) (k18 : PySem.W.keepIn K (.ref f18) = true)
    (a19 : PySem.W.findIn K (.ref CDocument) "setting" = some (some (.ref f19))) (i19 : PySem.W.isFn K (.ref f19) = true) (l19 : K.lookup f19 = some ⟨oc19, od19, .func (PySem.W.fnOf "setting" "Document.setting" (defArgs sDocumentSetting) (defBody sDocumentSetting) (defScope sDocumentSetting) .none kV19 dc19 pm19 an19 cd19 ct19), sl19⟩) (c19 : PySem.W.codeIn K cd19 "Document.setting" = true) (k19 : PySem.W.keepIn K (.ref f19) = true)
    (a20 : PySem.W.nsIn K mainGlobals "law" = some (some (.ref f20))) (l20 : K.lookup f20 = some ⟨oc20, od20, .func (PySem.W.fnOf "law" "law" (defArgs sLaw) (defBody sLaw) (defScope sLaw) .none kV20 dc20 pm20 an20 cd20 ct20), sl20⟩) (c20 : PySem.W.codeIn K cd20 "law" = true) (k20 : PySem.W.keepIn K (.ref f20) = true)
    (z1 : PySem.W.nsIn K mainGlobals "int" = some none)
    (z2 : PySem.W.nsIn K mainGlobals "isinstance" = some none)
    (z3 : PySem.W.nsIn K mainGlobals "len" = some none)
    (z4 : PySem.W.nsIn K mainGlobals "list" = some none)
    (z5 : PySem.W.nsIn K mainGlobals "range" = some none)
    (z6 : PySem.W.nsIn K mainGlobals "str" = some none)
    (z7 : PySem.W.nsIn K mainGlobals "tuple" = some none)
    (z8 : PySem.W.nsIn K mainGlobals "gcd" = some (some (.builtin "math.gcd")))
    {aLETTERS : Tok} (u0 : PySem.W.nsIn K mainGlobals "LETTERS" = some (some (.str "abcdefghijklmnopqrstuvwxyzABCDEFGHIJKLMNOPQRSTUVWXYZ" aLETTERS)))
    {aWORD_CHARACTERS : Tok} (u1 : PySem.W.nsIn K mainGlobals "WORD_CHARACTERS" = some (some (.str "abcdefghijklmnopqrstuvwxyzABCDEFGHIJKLMNOPQRSTUVWXYZ0123456789_" aWORD_CHARACTERS)))
    {aNAME_LENGTH : Tok} (u2 : PySem.W.nsIn K mainGlobals "NAME_LENGTH" = some (some (.int 16 aNAME_LENGTH)))
    {aMOST_PARAMETERS : Tok} (u3 : PySem.W.nsIn K mainGlobals "MOST_PARAMETERS" = some (some (.int 4 aMOST_PARAMETERS)))
    (y0 : PySem.W.nsIn K mainGlobals "PartError" = some (some (.ref CPartError)))
    (y1 : PySem.W.nsIn K mainGlobals "TextFault" = some (some (.ref CTextFault)))
    (y2 : PySem.W.nsIn K mainGlobals "Unknown" = some (some (.ref CUnknown)))
    (y3 : PySem.W.nsIn K mainGlobals "Taken" = some (some (.ref CTaken)))
    (y4 : PySem.W.nsIn K mainGlobals "Beyond" = some (some (.ref CBeyond)))
    (y5 : PySem.W.nsIn K mainGlobals "Full" = some (some (.ref CFull)))
    (y6 : PySem.W.excIn K CTaken [.type "ValueError", .type "Exception", .type "BaseException", .type "object"] "ValueError.__new__" = true)
    (y7 : PySem.W.keepIn K (.ref CTaken) = true)
    (y8 : PySem.W.subIn K (.ref CTaken) (.type "BaseException") = some true)
    (y9 : PySem.W.typeIn K (.ref CTaken) = some (.type "type"))
    (y10 : PySem.W.excIn K CFull [.type "ValueError", .type "Exception", .type "BaseException", .type "object"] "ValueError.__new__" = true)
    (y11 : PySem.W.keepIn K (.ref CFull) = true)
    (y12 : PySem.W.subIn K (.ref CFull) (.type "BaseException") = some true)
    (y13 : PySem.W.typeIn K (.ref CFull) = some (.type "type"))
    (y14 : PySem.W.excIn K CBeyond [.type "ValueError", .type "Exception", .type "BaseException", .type "object"] "ValueError.__new__" = true)
    (y15 : PySem.W.keepIn K (.ref CBeyond) = true)
    (y16 : PySem.W.subIn K (.ref CBeyond) (.type "BaseException") = some true)
    (y17 : PySem.W.typeIn K (.ref CBeyond) = some (.type "type"))
    (y18 : PySem.W.excIn K CUnknown [.type "ValueError", .type "Exception", .type "BaseException", .type "object"] "ValueError.__new__" = true)
    (y19 : PySem.W.keepIn K (.ref CUnknown) = true)
    (y20 : PySem.W.subIn K (.ref CUnknown) (.type "BaseException") = some true)
    (y21 : PySem.W.typeIn K (.ref CUnknown) = some (.type "type"))
    (y22 : PySem.W.subIn K (.ref CTextFault) (.type "BaseException") = some true)
    (y23 : PySem.W.typeIn K (.ref CTextFault) = some (.type "type"))
    (y24 : PySem.W.isClsIn K CTextFault = true)
    (y25 : PySem.W.isClsIn K CTaken = true)
    (y26 : PySem.W.isClsIn K CFull = true)
    (y27 : PySem.W.isClsIn K CBeyond = true)
    (y28 : PySem.W.isClsIn K CUnknown = true)
    (y29 : PySem.W.subIn K (.ref CPartError) (.type "BaseException") = some true)
    (y30 : PySem.W.typeIn K (.ref CPartError) = some (.type "type"))
    (y31 : PySem.W.isClsIn K CPartError = true)
    (y32 : PySem.W.subIn K (.ref CTaken) (.ref CTextFault) = some false)
    (y33 : PySem.W.subIn K (.ref CTaken) (.ref CTaken) = some true)
    (y34 : PySem.W.subIn K (.ref CTaken) (.ref CFull) = some false)
    (y35 : PySem.W.subIn K (.ref CTaken) (.ref CBeyond) = some false)
    (y36 : PySem.W.subIn K (.ref CTaken) (.ref CUnknown) = some false)
    (y37 : PySem.W.subIn K (.ref CTaken) (.ref CPartError) = some true)
    (y38 : PySem.W.subIn K (.ref CFull) (.ref CTextFault) = some false)
    (y39 : PySem.W.subIn K (.ref CFull) (.ref CTaken) = some false)
    (y40 : PySem.W.subIn K (.ref CFull) (.ref CFull) = some true)
    (y41 : PySem.W.subIn K (.ref CFull) (.ref CBeyond) = some false)
    (y42 : PySem.W.subIn K (.ref CFull) (.ref CUnknown) = some false)
    (y43 : PySem.W.subIn K (.ref CFull) (.ref CPartError) = some true)
    (y44 : PySem.W.subIn K (.ref CBeyond) (.ref CTextFault) = some false)
    (y45 : PySem.W.subIn K (.ref CBeyond) (.ref CTaken) = some false)
    (y46 : PySem.W.subIn K (.ref CBeyond) (.ref CFull) = some false)
    (y47 : PySem.W.subIn K (.ref CBeyond) (.ref CBeyond) = some true)
    (y48 : PySem.W.subIn K (.ref CBeyond) (.ref CUnknown) = some false)
    (y49 : PySem.W.subIn K (.ref CBeyond) (.ref CPartError) = some true)
    (y50 : PySem.W.subIn K (.ref CUnknown) (.ref CTextFault) = some false)
    (y51 : PySem.W.subIn K (.ref CUnknown) (.ref CTaken) = some false)
    (y52 : PySem.W.subIn K (.ref CUnknown) (.ref CFull) = some false)
    (y53 : PySem.W.subIn K (.ref CUnknown) (.ref CBeyond) = some false)
    (y54 : PySem.W.subIn K (.ref CUnknown) (.ref CUnknown) = some true)
    (y55 : PySem.W.subIn K (.ref CUnknown) (.ref CPartError) = some true)
    (y56 : PySem.W.subIn K (.ref CTextFault) (.ref CTextFault) = some true)
    (y57 : PySem.W.subIn K (.ref CTextFault) (.ref CTaken) = some false)
    (y58 : PySem.W.subIn K (.ref CTextFault) (.ref CFull) = some false)
    (y59 : PySem.W.subIn K (.ref CTextFault) (.ref CBeyond) = some false)
    (y60 : PySem.W.subIn K (.ref CTextFault) (.ref CUnknown) = some false)
    (y61 : PySem.W.subIn K (.ref CTextFault) (.ref CPartError) = some true)
    {odI anI : Option Addr} {slI : Array (Option Value)} {ocI kVI dcI pmI cdI ctI : Value} (lI : K.lookup fIni = some ⟨ocI, odI, .func (PySem.W.fnOf "__init__" "TextFault.__init__" (defArgs sIni) (defBody sIni) (defScope sIni) .none kVI dcI pmI anI cdI ctI), slI⟩) (cI : PySem.W.codeIn K cdI "TextFault.__init__" = true) (kI : PySem.W.keepIn K (.ref fIni) = true)
    {nm q : Str} {N : Addr} {bs : List Value} {sn : List Str} {sub : List Value} {ab : Bool} {col : Option Bool} {dd : Option Addr} {m0 m1 m2 m3 m5 : Option Value}
    (xL : K.lookup CTextFault = some (excClassObj nm q CTextFault N bs [.ref CPartError, .type "ValueError", .type "Exception", .type "BaseException", .type "object"] true sn sub ab col dd m0 m1 m2 m3 m5 "ValueError.__new__"))
    (v0 : PySem.W.findIn K (.ref CTextFault) "__setattr__" = some (some (.builtin "object.__setattr__")))
    (v1 : PySem.W.findIn K (.ref CTextFault) "__getattribute__" = some (some (.builtin "BaseException.__getattribute__")))
    (v2 : PySem.W.findIn K (.ref CTextFault) "__getattr__" = some none)
    (v3 : PySem.W.findIn K (.ref CTextFault) "line" = some none)
    (v4 : PySem.W.findIn K (.ref CTextFault) "column" = some none)
    (v5 : PySem.W.findIn K (.ref CTextFault) "__init__" = some (some (.ref fIni)))
    (v6 : PySem.W.typeIn K (.ref fIni) = some (.type "function"))
    (v7 : PySem.W.keepIn K (.ref CTextFault) = true)
    (v8 : PySem.W.subIn K (.ref CTextFault) (.type "BaseException") = some true)
    (v9 : PySem.W.typeIn K (.ref CTextFault) = some (.type "type"))
    (v10 : PySem.W.hasDictIn K CTextFault = true)
    (v11 : PySem.W.isClsIn K CTextFault = true)
    (v12 : PySem.W.subIn K (.ref CTextFault) (.ref CTextFault) = some true)
    (v13 : PySem.W.findIn K (.ref CTextFault) "__class__" = some (some (.builtin "object.__class__")))
    (v14 : PySem.W.specialIn K (.builtin "object.__class__") "__get__" = some (some (.builtin "getset_descriptor.__get__")))
    (v15 : PySem.W.takesIn K (.builtin "object.__class__") = some true)
    (v16 : PySem.W.mroIn K CTextFault (.type "object") = some true)
    (v17 : PySem.W.subIn K (.ref CPartError) (.type "BaseException") = some true)
    (v18 : PySem.W.isClsIn K CPartError = true)
    (v19 : PySem.W.typeIn K (.ref CPartError) = some (.type "type"))
    (v20 : PySem.W.subIn K (.ref CTextFault) (.ref CPartError) = some true)
    : ∃ fd : FuncData, (∀ (s : Shared) (v : Value), BindsTo s fd ⟨[v], []⟩ [("script", v)]) ∧ ∀ base : Heap, K.In base → base.Ns mainGlobals mg → FnOk l.prog w K mg base CX0 9 fa fd ["script"] (spLaw K) := by
  have e := hfa.symm.trans (PySem.W.mg_of X G a20)
  cases e
  have T : Txt mg := ⟨PySem.W.mg_none_of X G z1, PySem.W.mg_none_of X G z2, PySem.W.mg_none_of X G z3, PySem.W.mg_none_of X G z4, PySem.W.mg_none_of X G z5, PySem.W.mg_none_of X G z6, PySem.W.mg_none_of X G z7, PySem.W.mg_of X G z8⟩
  have CT : Cons K mg aLETTERS aWORD_CHARACTERS aNAME_LENGTH aMOST_PARAMETERS := ⟨PySem.W.mg_of X G u0, PySem.W.mg_of X G u1, PySem.W.mg_of X G u2, PySem.W.mg_of X G u3⟩
  have EX : Exns K mg CPartError CTextFault CUnknown CTaken CBeyond CFull := ⟨PySem.W.mg_of X G y0, PySem.W.mg_of X G y1, PySem.W.mg_of X G y2, PySem.W.mg_of X G y3, PySem.W.mg_of X G y4, PySem.W.mg_of X G y5, y6, y7, y8, y9, y10, y11, y12, y13, y14, y15, y16, y17, y18, y19, y20, y21, y22, y23, y24, y25, y26, y27, y28, y29, y30, y31, y32, y33, y34, y35, y36, y37, y38, y39, y40, y41, y42, y43, y44, y45, y46, y47, y48, y49, y50, y51, y52, y53, y54, y55, y56, y57, y58, y59, y60, y61⟩
  have FL : Flt K mg CPartError CTextFault CUnknown CTaken CBeyond CFull fIni := ⟨EX.gTextFault, ⟨nm, q, N, bs, _, sn, sub, ab, col, dd, m0, m1, m2, m3, m5, xL, show PySem.HandSPX.refsVE [.type "ValueError", .type "Exception", .type "BaseException", .type "object"] = true by decide +kernel⟩, v0, v1, v2, v3, v4, v5, v6, v7, v8, v9, v10, v11, v12, v13, v14, v15, v16, v17, v18, v19, v20⟩
  have FI := fun_mk (st := sIni) lI cI kI
  have bI := FI.binds (ps := ["self", "line", "column"]) fun _ _ _ _ _ _ us hl => match us, hl with | [_, _, _], _ => rfl
  have OBDocument : ObDocument K mg CDocument := ⟨PySem.W.mg_of X G oDocumentg, ⟨oDocumentpg, oDocumenthd, oDocumentpo, oDocumentsa⟩, oDocumentnlow, oDocumentnhigh, oDocumentnparameters, oDocumentnfeatures, oDocumentnkept, oDocumentnlast_feature, oDocumentnlast_name⟩
  have F1 := fun_mk (st := sRowEnd) l1 c1 k1
  have F2 := fun_mk (st := sIsRow) l2 c2 k2
  have F3 := fun_mk (st := sIsShortWord) l3 c3 k3
  have F4 := fun_mk (st := sLess) l4 c4 k4
  have F5 := fun_mk (st := sIsParameterName) l5 c5 k5
  have F6 := fun_mk (st := sDocumentNames) l6 c6 k6
  have F7 := fun_mk (st := sDeclare) l7 c7 k7
  have F8 := fun_mk (st := sSetValue) l8 c8 k8
  have F9 := fun_mk (st := sPerform) l9 c9 k9
  have F10 := fun_mk (st := sDocumentInit) l10 c10 k10
  have F11 := fun_mk (st := sDocumentCopied) l11 c11 k11
  have F12 := fun_mk (st := sApply) l12 c12 k12
  have F13 := fun_mk (st := sLLawNumber) l13 c13 k13
  have F14 := fun_mk (st := sLLawFraction) l14 c14 k14
  have F15 := fun_mk (st := sLLawSmall) l15 c15 k15
  have F16 := fun_mk (st := sLLawLess) l16 c16 k16
  have F17 := fun_mk (st := sLLawDue) l17 c17 k17
  have F18 := fun_mk (st := sLLawApply) l18 c18 k18
  have F19 := fun_mk (st := sDocumentSetting) l19 c19 k19
  have F20 := fun_mk (st := sLaw) l20 c20 k20
  have b1 := F1.binds (ps := ["text", "at", "allowed"]) fun _ _ _ _ _ _ us hl => match us, hl with | [_, _, _], _ => rfl
  have b2 := F2.binds (ps := ["text", "allowed"]) fun _ _ _ _ _ _ us hl => match us, hl with | [_, _], _ => rfl
  have b3 := F3.binds (ps := ["text", "first", "others"]) fun _ _ _ _ _ _ us hl => match us, hl with | [_, _, _], _ => rfl
  have b4 := F4.binds (ps := ["a", "b"]) fun _ _ _ _ _ _ us hl => match us, hl with | [_, _], _ => rfl
  have b5 := F5.binds (ps := ["text"]) fun _ _ _ _ _ _ us hl => match us, hl with | [_], _ => rfl
  have b6 := F6.binds (ps := ["self"]) fun _ _ _ _ _ _ us hl => match us, hl with | [_], _ => rfl
  have b7 := F7.binds (ps := ["document", "name", "value", "low", "high"]) fun _ _ _ _ _ _ us hl => match us, hl with | [_, _, _, _, _], _ => rfl
  have b8 := F8.binds (ps := ["document", "name", "value"]) fun _ _ _ _ _ _ us hl => match us, hl with | [_, _, _], _ => rfl
  have b9 := F9.binds (ps := ["document", "edit"]) fun _ _ _ _ _ _ us hl => match us, hl with | [_, _], _ => rfl
  have b10 := F10.binds (ps := ["self", "low", "high"]) fun _ _ _ _ _ _ us hl => match us, hl with | [_, _, _], _ => rfl
  have b11 := F11.binds (ps := ["self"]) fun _ _ _ _ _ _ us hl => match us, hl with | [_], _ => rfl
  have b12 := F12.binds (ps := ["document", "edit"]) fun _ _ _ _ _ _ us hl => match us, hl with | [_, _], _ => rfl
  have b13 := F13.binds (ps := ["script", "k"]) fun _ _ _ _ _ _ us hl => match us, hl with | [_, _], _ => rfl
  have b14 := F14.binds (ps := ["number", "divisor"]) fun _ _ _ _ _ _ us hl => match us, hl with | [_, _], _ => rfl
  have b15 := F15.binds (ps := ["draw"]) fun _ _ _ _ _ _ us hl => match us, hl with | [_], _ => rfl
  have b16 := F16.binds (ps := ["a", "b"]) fun _ _ _ _ _ _ us hl => match us, hl with | [_, _], _ => rfl
  have b17 := F17.binds (ps := ["rows", "edit"]) fun _ _ _ _ _ _ us hl => match us, hl with | [_, _], _ => rfl
  have b18 := F18.binds (ps := ["document", "edit"]) fun _ _ _ _ _ _ us hl => match us, hl with | [_, _], _ => rfl
  have b19 := F19.binds (ps := ["self"]) fun _ _ _ _ _ _ us hl => match us, hl with | [_], _ => rfl
  refine ⟨PySem.W.fnOf "law" "law" (defArgs sLaw) (defBody sLaw) (defScope sLaw) .none kV20 dc20 pm20 an20 cd20 ct20, fun s v => .of_eq rfl, fun base _ _ => ?_⟩
  have G1 : FnOk l.prog w K mg base CX0 1 f1 _ ["text", "at", "allowed"] (spRowEnd K) := okRowEnd F1 T CT EX FL (okIni FI FL.ox FL.nline FL.ncolumn) bI OBDocument 
  have G2 : FnOk l.prog w K mg base CX0 2 f2 _ ["text", "allowed"] (spIsRow K) := okIsRow F2 T CT EX FL (okIni FI FL.ox FL.nline FL.ncolumn) bI OBDocument G1 (PySem.W.mg_of X G a1) k1 b1
  have G3 : FnOk l.prog w K mg base CX0 3 f3 _ ["text", "first", "others"] (spIsShortWord K) := okIsShortWord F3 T CT EX FL (okIni FI FL.ox FL.nline FL.ncolumn) bI OBDocument G2 (PySem.W.mg_of X G a2) k2 b2
  have G4 : FnOk l.prog w K mg base CX0 1 f4 _ ["a", "b"] (spLess K) := okLess F4 T CT EX FL (okIni FI FL.ox FL.nline FL.ncolumn) bI OBDocument 
  have G5 : FnOk l.prog w K mg base CX0 4 f5 _ ["text"] (spIsParameterName K) := okIsParameterName F5 T CT EX FL (okIni FI FL.ox FL.nline FL.ncolumn) bI OBDocument G3 (PySem.W.mg_of X G a3) k3 b3
  have G6 : FnOk l.prog w K mg base CX0 1 f6 _ ["self"] (spDocumentNames K CDocument) := okDocumentNames F6 T CT EX FL (okIni FI FL.ox FL.nline FL.ncolumn) bI OBDocument 
  have G7 : FnOk l.prog w K mg base (L2.CX l.prog w) 5 f7 _ ["document", "name", "value", "low", "high"] (spDeclare K CDocument CTextFault CTaken CFull CBeyond CUnknown) := okDeclare F7 T CT EX FL (okIni FI FL.ox FL.nline FL.ncolumn) bI OBDocument G6 ⟨a6, i6, k6⟩ k6 b6 G5 (PySem.W.mg_of X G a5) k5 b5 G4 (PySem.W.mg_of X G a4) k4 b4
  have G8 : FnOk l.prog w K mg base (L2.CX l.prog w) 3 f8 _ ["document", "name", "value"] (spSetValue K CDocument CTextFault CTaken CFull CBeyond CUnknown) := okSetValue F8 T CT EX FL (okIni FI FL.ox FL.nline FL.ncolumn) bI OBDocument G6 ⟨a6, i6, k6⟩ k6 b6 G4 (PySem.W.mg_of X G a4) k4 b4
  have G9 : FnOk l.prog w K mg base (L2.CX l.prog w) 6 f9 _ ["document", "edit"] (spPerform K CDocument CTextFault CTaken CFull CBeyond CUnknown) := okPerform F9 T CT EX FL (okIni FI FL.ox FL.nline FL.ncolumn) bI OBDocument G7 (PySem.W.mg_of X G a7) k7 b7 G8 (PySem.W.mg_of X G a8) k8 b8
  have G10 : FnOk l.prog w K mg base CX0 1 f10 _ ["self", "low", "high"] (spDocumentInit K CDocument) := okDocumentInit F10 T CT EX FL (okIni FI FL.ox FL.nline FL.ncolumn) bI OBDocument 
  have G11 : FnOk l.prog w K mg base CX0 3 f11 _ ["self"] (spDocumentCopied K CDocument) := okDocumentCopied F11 T CT EX FL (okIni FI FL.ox FL.nline FL.ncolumn) bI OBDocument G10 ⟨oDocumentmk, a10, i10, oDocumentkc⟩ k10 b10
  have G12 : FnOk l.prog w K mg base (L2.CX l.prog w) 7 f12 _ ["document", "edit"] (spApply K CDocument CTextFault CTaken CFull CBeyond CUnknown) := okApply F12 T CT EX FL (okIni FI FL.ox FL.nline FL.ncolumn) bI OBDocument G11 ⟨a11, i11, k11⟩ k11 b11 G9 (PySem.W.mg_of X G a9) k9 b9
  have G13 : FnOk l.prog w K mg base CX0 1 f13 _ ["script", "k"] (spLLawNumber K) := okLLawNumber F13 T CT EX FL (okIni FI FL.ox FL.nline FL.ncolumn) bI OBDocument 
  have G14 : FnOk l.prog w K mg base CX0 1 f14 _ ["number", "divisor"] (spLLawFraction K) := okLLawFraction F14 T CT EX FL (okIni FI FL.ox FL.nline FL.ncolumn) bI OBDocument 
  have G15 : FnOk l.prog w K mg base CX0 2 f15 _ ["draw"] (spLLawSmall K) := okLLawSmall F15 T CT EX FL (okIni FI FL.ox FL.nline FL.ncolumn) bI OBDocument G14 (PySem.W.mg_of X G a14) k14 b14
  have G16 : FnOk l.prog w K mg base CX0 1 f16 _ ["a", "b"] (spLLawLess K) := okLLawLess F16 T CT EX FL (okIni FI FL.ox FL.nline FL.ncolumn) bI OBDocument 
  have G17 : FnOk l.prog w K mg base CX0 2 f17 _ ["rows", "edit"] (spLLawDue K) := okLLawDue F17 T CT EX FL (okIni FI FL.ox FL.nline FL.ncolumn) bI OBDocument G16 (PySem.W.mg_of X G a16) k16 b16
  have G18 : FnOk l.prog w K mg base CX0 8 f18 _ ["document", "edit"] (spLLawApply K CDocument) := okLLawApply F18 T CT EX FL (okIni FI FL.ox FL.nline FL.ncolumn) bI OBDocument G12 (PySem.W.mg_of X G a12) k12 b12
  have G19 : FnOk l.prog w K mg base CX0 1 f19 _ ["self"] (spDocumentSetting K CDocument) := okDocumentSetting F19 T CT EX FL (okIni FI FL.ox FL.nline FL.ncolumn) bI OBDocument 
  exact okLaw F20 T CT EX FL (okIni FI FL.ox FL.nline FL.ncolumn) bI OBDocument G10 ⟨oDocumentmk, a10, i10, oDocumentkc⟩ k10 b10 G13 (PySem.W.mg_of X G a13) k13 b13 G15 (PySem.W.mg_of X G a15) k15 b15 G17 (PySem.W.mg_of X G a17) k17 b17 G18 (PySem.W.mg_of X G a18) k18 b18 G16 (PySem.W.mg_of X G a16) k16 b16 G6 ⟨a6, i6, k6⟩ k6 b6 G19 ⟨a19, i19, k19⟩ k19 b19
end Tp
open PySem PySem.W PyProof.Rows
set_option maxHeartbeats 0 in
theorem PySem.Challenge.cw_truepart_k60_parameters_declared_and_set_holds : PySem.Challenge.rw_truepart_k60_parameters_declared_and_set.Holds := by
  w_on; o_law; k_head; (case hw => w_witness2)
  k_fill
  refine L2.walk_of (l := PySem.Challenge.rw_truepart_k60_parameters_declared_and_set) (n := 63) (k := 9) (x := "script") (CX := fun _ => L2.CX0) (sp := fun w => Tp.spLaw _) rfl (by decide) rfl ⟨rfl, by decide, by decide⟩ (fun w h Y => PySem.W.kIn_of Y) ?F (fun _ _ a ns hl _ hS => ⟨a, ns, rfl, hS, hl, fun _ => rfl⟩) (fun _ _ _ _ _ h => h)
  case F =>
    intro w mg fa h KX G hmg
    refine' Tp.all_mk KX G hmg ?oDocumentg ?oDocumentpg ?oDocumenthd ?oDocumentpo ?oDocumentsa ?oDocumentmk ?oDocumentkc ?oDocumentnlow ?oDocumentnhigh ?oDocumentnparameters ?oDocumentnfeatures ?oDocumentnkept ?oDocumentnlast_feature ?oDocumentnlast_name ?a1 ?l1 ?c1 ?k1 ?a2 ?l2 ?c2 ?k2 ?a3 ?l3 ?c3 ?k3 ?a4 ?l4 ?c4 ?k4 ?a5 ?l5 ?c5 ?k5 ?a6 ?i6 ?l6 ?c6 ?k6 ?a7 ?l7 ?c7 ?k7 ?a8 ?l8 ?c8 ?k8 ?a9 ?l9 ?c9 ?k9 ?a10 ?i10 ?l10 ?c10 ?k10 ?a11 ?i11 ?l11 ?c11 ?k11 ?a12 ?l12 ?c12 ?k12 ?a13 ?l13 ?c13 ?k13 ?a14 ?l14 ?c14 ?k14 ?a15 ?l15 ?c15 ?k15 ?a16 ?l16 ?c16 ?k16 ?a17 ?l17 ?c17 ?k17 ?a18 ?l18 ?c18 ?k18 ?a19 ?i19 ?l19 ?c19 ?k19 ?a20 ?l20 ?c20 ?k20 ?z1 ?z2 ?z3 ?z4 ?z5 ?z6 ?z7 ?z8 ?u0 ?u1 ?u2 ?u3 ?y0 ?y1 ?y2 ?y3 ?y4 ?y5 ?y6 ?y7 ?y8 ?y9 ?y10 ?y11 ?y12 ?y13 ?y14 ?y15 ?y16 ?y17 ?y18 ?y19 ?y20 ?y21 ?y22 ?y23 ?y24 ?y25 ?y26 ?y27 ?y28 ?y29 ?y30 ?y31 ?y32 ?y33 ?y34 ?y35 ?y36 ?y37 ?y38 ?y39 ?y40 ?y41 ?y42 ?y43 ?y44 ?y45 ?y46 ?y47 ?y48 ?y49 ?y50 ?y51 ?y52 ?y53 ?y54 ?y55 ?y56 ?y57 ?y58 ?y59 ?y60 ?y61 ?lI ?cI ?kI ?xL ?v0 ?v1 ?v2 ?v3 ?v4 ?v5 ?v6 ?v7 ?v8 ?v9 ?v10 ?v11 ?v12 ?v13 ?v14 ?v15 ?v16 ?v17 ?v18 ?v19 ?v20
    (case oDocumentg => k_is)
    (case oDocumentpg => k_is)
    (case oDocumenthd => k_is)
    (case oDocumentpo => k_is)
    (case oDocumentsa => k_is)
    (case oDocumentmk => k_is)
    (case oDocumentkc => k_is)
    (case oDocumentnlow => k_is)
    (case oDocumentnhigh => k_is)
    (case oDocumentnparameters => k_is)
    (case oDocumentnfeatures => k_is)
    (case oDocumentnkept => k_is)
    (case oDocumentnlast_feature => k_is)
    (case oDocumentnlast_name => k_is)
    (case a1 => k_is)
    (case l1 => k_is)
    (case c1 => k_is)
    (case k1 => k_is)
    (case a2 => k_is)
    (case l2 => k_is)
    (case c2 => k_is)
    (case k2 => k_is)
    (case a3 => k_is)
    (case l3 => k_is)
    (case c3 => k_is)
    (case k3 => k_is)
    (case a4 => k_is)
    (case l4 => k_is)
    (case c4 => k_is)
    (case k4 => k_is)
    (case a5 => k_is)
    (case l5 => k_is)
    (case c5 => k_is)
    (case k5 => k_is)
    (case a6 => k_is)
    (case i6 => k_is)
    (case l6 => k_is)
    (case c6 => k_is)
    (case k6 => k_is)
    (case a7 => k_is)
    (case l7 => k_is)
    (case c7 => k_is)
    (case k7 => k_is)
    (case a8 => k_is)
    (case l8 => k_is)
    (case c8 => k_is)
    (case k8 => k_is)
    (case a9 => k_is)
    (case l9 => k_is)
    (case c9 => k_is)
    (case k9 => k_is)
    (case a10 => k_is)
    (case i10 => k_is)
    (case l10 => k_is)
    (case c10 => k_is)
    (case k10 => k_is)
    (case a11 => k_is)
    (case i11 => k_is)
    (case l11 => k_is)
    (case c11 => k_is)
    (case k11 => k_is)
    (case a12 => k_is)
    (case l12 => k_is)
    (case c12 => k_is)
    (case k12 => k_is)
    (case a13 => k_is)
    (case l13 => k_is)
    (case c13 => k_is)
    (case k13 => k_is)
    (case a14 => k_is)
    (case l14 => k_is)
    (case c14 => k_is)
    (case k14 => k_is)
    (case a15 => k_is)
    (case l15 => k_is)
    (case c15 => k_is)
    (case k15 => k_is)
    (case a16 => k_is)
    (case l16 => k_is)
    (case c16 => k_is)
    (case k16 => k_is)
    (case a17 => k_is)
    (case l17 => k_is)
    (case c17 => k_is)
    (case k17 => k_is)
    (case a18 => k_is)
    (case l18 => k_is)
    (case c18 => k_is)
    (case k18 => k_is)
    (case a19 => k_is)
    (case i19 => k_is)
    (case l19 => k_is)
    (case c19 => k_is)
    (case k19 => k_is)
    (case a20 => k_is)
    (case l20 => k_is)
    (case c20 => k_is)
    (case k20 => k_is)
    (case z1 => k_is)
    (case z2 => k_is)
    (case z3 => k_is)
    (case z4 => k_is)
    (case z5 => k_is)
    (case z6 => k_is)
    (case z7 => k_is)
    (case z8 => k_is)
    (case u0 => k_is)
    (case u1 => k_is)
    (case u2 => k_is)
    (case u3 => k_is)
    (case y0 => k_is)
    (case y1 => k_is)
    (case y2 => k_is)
    (case y3 => k_is)
    (case y4 => k_is)
    (case y5 => k_is)
    (case y6 => k_exc)
    (case y7 => k_is)
    (case y8 => k_is)
    (case y9 => k_is)
    (case y10 => k_exc)
    (case y11 => k_is)
    (case y12 => k_is)
    (case y13 => k_is)
    (case y14 => k_exc)
    (case y15 => k_is)
    (case y16 => k_is)
    (case y17 => k_is)
    (case y18 => k_exc)
    (case y19 => k_is)
    (case y20 => k_is)
    (case y21 => k_is)
    (case y22 => k_is)
    (case y23 => k_is)
    (case y24 => k_is)
    (case y25 => k_is)
    (case y26 => k_is)
    (case y27 => k_is)
    (case y28 => k_is)
    (case y29 => k_is)
    (case y30 => k_is)
    (case y31 => k_is)
    (case y32 => k_is)
    (case y33 => k_is)
    (case y34 => k_is)
    (case y35 => k_is)
    (case y36 => k_is)
    (case y37 => k_is)
    (case y38 => k_is)
    (case y39 => k_is)
    (case y40 => k_is)
    (case y41 => k_is)
    (case y42 => k_is)
    (case y43 => k_is)
    (case y44 => k_is)
    (case y45 => k_is)
    (case y46 => k_is)
    (case y47 => k_is)
    (case y48 => k_is)
    (case y49 => k_is)
    (case y50 => k_is)
    (case y51 => k_is)
    (case y52 => k_is)
    (case y53 => k_is)
    (case y54 => k_is)
    (case y55 => k_is)
    (case y56 => k_is)
    (case y57 => k_is)
    (case y58 => k_is)
    (case y59 => k_is)
    (case y60 => k_is)
    (case y61 => k_is)
    (case xL => k_is)
    (case v0 => k_is)
    (case v1 => k_is)
    (case v2 => k_is)
    (case v3 => k_is)
    (case v4 => k_is)
    (case v5 => k_is)
    (case lI => k_is)
    (case cI => k_is)
    (case kI => k_is)
    (case v6 => k_is)
    (case v7 => k_is)
    (case v8 => k_is)
    (case v9 => k_is)
    (case v10 => k_is)
    (case v11 => k_is)
    (case v12 => k_is)
    (case v13 => k_is)
    (case v14 => k_is)
    (case v15 => k_is)
    (case v16 => k_is)
    (case v17 => k_is)
    (case v18 => k_is)
    (case v19 => k_is)
    (case v20 => k_is)
#print axioms PySem.Challenge.cw_truepart_k60_parameters_declared_and_set_holds
