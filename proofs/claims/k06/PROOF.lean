import PyProof.Rows.All
import Wide.All
import OpenK.AllK
import Wide.FinOn
import HandS.ForMost
import HandS.Codes
import HandS.Gcd
import HandS.IsInst
import HandS.Wide
import HandS.ForExc
import HandS.ExcIs
import HandS.ExcInit
import HandS.ExcField
import HandS.CallSlots
import HandS.Defaults
import HandS.TupMul
import HandS.Text
import HandS.Walk
import HandS.Rev
import HandS.MapJoin
import HandS.Star
import HandS.Style
import HandS.TupLe
import KE.KUnpackStar
import PyProof.StrOps2
import KE.GoesMore
import KE.KTurns
import PySem.Challenge.RW_truepart_k06_expressions_written_and_rea
set_option Elab.async false
set_option linter.all false
set_option maxHeartbeats 8000000
set_option maxRecDepth 100000
namespace Tp
open PySem L2
def top (i : Nat) : Stmt := PySem.Challenge.pw_truepart_k06_expressions_written_and_rea.main.body.getD i (.Pass ⟨0, 0, 0, 0⟩)
abbrev sRowEnd : Stmt := top 6
abbrev sIsRow : Stmt := top 7
abbrev sIsShortWord : Stmt := top 8
abbrev sCommon : Stmt := top 17
abbrev sFraction : Stmt := top 18
abbrev sPlus : Stmt := top 19
abbrev sTimes : Stmt := top 20
abbrev sNegative : Stmt := top 21
abbrev sSign : Stmt := top 22
abbrev sWithoutSign : Stmt := top 23
abbrev sDecimal : Stmt := top 24
abbrev sTold : Stmt := top 25
abbrev sReadDigits : Stmt := top 26
abbrev sReadRatio : Stmt := top 27
abbrev sConstant : Stmt := top 29
abbrev sParameter : Stmt := top 30
abbrev sAdd : Stmt := top 31
abbrev sScale : Stmt := top 32
abbrev sOpposite : Stmt := top 33
abbrev sIsParameterName : Stmt := top 36
abbrev sIsShort : Stmt := top 37
abbrev sAfterBlanks : Stmt := top 38
abbrev sIsAt : Stmt := top 39
abbrev sReadParameter : Stmt := top 40
abbrev sReadTerm : Stmt := top 41
abbrev sReadExpression : Stmt := top 42
abbrev sTermText : Stmt := top 43
abbrev sExpressionText : Stmt := top 44
abbrev sLLawNumber : Stmt := top 46
abbrev sLLawFraction : Stmt := top 48
abbrev sLLawSmall : Stmt := top 49
abbrev sLLawTold : Stmt := top 50
abbrev sLLawText : Stmt := top 51
abbrev sLLawName : Stmt := top 52
abbrev sLaw : Stmt := top 53
theorem scRowEnd : FnScope ["text", "at", "allowed"] ["text", "at", "allowed"] (defScope sRowEnd) := ⟨rfl, rfl, rfl, by decide +kernel, rfl, by decide +kernel, by decide +kernel⟩
theorem scIsRow : FnScope ["text", "allowed"] ["text", "allowed"] (defScope sIsRow) := ⟨rfl, rfl, rfl, by decide +kernel, rfl, by decide +kernel, by decide +kernel⟩
theorem scIsShortWord : FnScope ["text", "first", "others"] ["text", "first", "others"] (defScope sIsShortWord) := ⟨rfl, rfl, rfl, by decide +kernel, rfl, by decide +kernel, by decide +kernel⟩
theorem scCommon : FnScope ["a", "b"] ["a", "b"] (defScope sCommon) := ⟨rfl, rfl, rfl, by decide +kernel, rfl, by decide +kernel, by decide +kernel⟩
theorem scFraction : FnScope ["number", "divisor", "shared"] ["number", "divisor"] (defScope sFraction) := ⟨rfl, rfl, rfl, by decide +kernel, rfl, by decide +kernel, by decide +kernel⟩
theorem scPlus : FnScope ["a", "b"] ["a", "b"] (defScope sPlus) := ⟨rfl, rfl, rfl, by decide +kernel, rfl, by decide +kernel, by decide +kernel⟩
theorem scTimes : FnScope ["a", "b"] ["a", "b"] (defScope sTimes) := ⟨rfl, rfl, rfl, by decide +kernel, rfl, by decide +kernel, by decide +kernel⟩
theorem scNegative : FnScope ["a"] ["a"] (defScope sNegative) := ⟨rfl, rfl, rfl, by decide +kernel, rfl, by decide +kernel, by decide +kernel⟩
theorem scSign : FnScope ["a"] ["a"] (defScope sSign) := ⟨rfl, rfl, rfl, by decide +kernel, rfl, by decide +kernel, by decide +kernel⟩
theorem scWithoutSign : FnScope ["a"] ["a"] (defScope sWithoutSign) := ⟨rfl, rfl, rfl, by decide +kernel, rfl, by decide +kernel, by decide +kernel⟩
theorem scDecimal : FnScope ["number", "rows", "rest"] ["number"] (defScope sDecimal) := ⟨rfl, rfl, rfl, by decide +kernel, rfl, by decide +kernel, by decide +kernel⟩
theorem scTold : FnScope ["a", "number", "divisor", "text"] ["a"] (defScope sTold) := ⟨rfl, rfl, rfl, by decide +kernel, rfl, by decide +kernel, by decide +kernel⟩
theorem scReadDigits : FnScope ["text", "at", "end"] ["text", "at"] (defScope sReadDigits) := ⟨rfl, rfl, rfl, by decide +kernel, rfl, by decide +kernel, by decide +kernel⟩
theorem scReadRatio : FnScope ["text", "at", "number", "end", "start", "divisor"] ["text", "at"] (defScope sReadRatio) := ⟨rfl, rfl, rfl, by decide +kernel, rfl, by decide +kernel, by decide +kernel⟩
theorem scConstant : FnScope ["base", "many"] ["base", "many"] (defScope sConstant) := ⟨rfl, rfl, rfl, by decide +kernel, rfl, by decide +kernel, by decide +kernel⟩
theorem scParameter : FnScope ["at", "many", "k"] ["at", "many"] (defScope sParameter) := ⟨rfl, rfl, rfl, by decide +kernel, rfl, by decide +kernel, by decide +kernel⟩
theorem scAdd : FnScope ["a", "b", "x", "y"] ["a", "b"] (defScope sAdd) := ⟨rfl, rfl, rfl, by decide +kernel, rfl, by decide +kernel, by decide +kernel⟩
theorem scScale : FnScope ["factor", "a", "x"] ["factor", "a"] (defScope sScale) := ⟨rfl, rfl, rfl, by decide +kernel, rfl, by decide +kernel, by decide +kernel⟩
theorem scOpposite : FnScope ["a", "x"] ["a"] (defScope sOpposite) := ⟨rfl, rfl, rfl, by decide +kernel, rfl, by decide +kernel, by decide +kernel⟩
theorem scIsParameterName : FnScope ["text"] ["text"] (defScope sIsParameterName) := ⟨rfl, rfl, rfl, by decide +kernel, rfl, by decide +kernel, by decide +kernel⟩
theorem scIsShort : FnScope ["found", "base", "slopes", "divisor", "part", "numbers"] ["found"] (defScope sIsShort) := ⟨rfl, rfl, rfl, by decide +kernel, rfl, by decide +kernel, by decide +kernel⟩
theorem scAfterBlanks : FnScope ["text", "at"] ["text", "at"] (defScope sAfterBlanks) := ⟨rfl, rfl, rfl, by decide +kernel, rfl, by decide +kernel, by decide +kernel⟩
theorem scIsAt : FnScope ["text", "at", "signs"] ["text", "at", "signs"] (defScope sIsAt) := ⟨rfl, rfl, rfl, by decide +kernel, rfl, by decide +kernel, by decide +kernel⟩
theorem scReadParameter : FnScope ["names", "text", "at", "end", "word"] ["names", "text", "at"] (defScope sReadParameter) := ⟨rfl, rfl, rfl, by decide +kernel, rfl, by decide +kernel, by decide +kernel⟩
theorem scReadTerm : FnScope ["names", "text", "at", "number", "end", "found"] ["names", "text", "at"] (defScope sReadTerm) := ⟨rfl, rfl, rfl, by decide +kernel, rfl, by decide +kernel, by decide +kernel⟩
theorem scReadExpression : FnScope ["names", "text", "at", "is_below", "found", "term"] ["names", "text"] (defScope sReadExpression) := ⟨rfl, rfl, rfl, by decide +kernel, rfl, by decide +kernel, by decide +kernel⟩
theorem scTermText : FnScope ["name", "slope", "size"] ["name", "slope"] (defScope sTermText) := ⟨rfl, rfl, rfl, by decide +kernel, rfl, by decide +kernel, by decide +kernel⟩
theorem scExpressionText : FnScope ["names", "found", "base", "slopes", "terms", "text", "part", "term", "is_below", "name", "slope"] ["names", "found"] (defScope sExpressionText) := ⟨rfl, rfl, rfl, by decide +kernel, rfl, by decide +kernel, by decide +kernel⟩
theorem scLLawNumber : FnScope ["script", "k", "cell", "first", "second"] ["script", "k"] (defScope sLLawNumber) := ⟨rfl, rfl, rfl, by decide +kernel, rfl, by decide +kernel, by decide +kernel⟩
theorem scLLawFraction : FnScope ["number", "divisor", "a", "b", "k", "rest"] ["number", "divisor"] (defScope sLLawFraction) := ⟨rfl, rfl, rfl, by decide +kernel, rfl, by decide +kernel, by decide +kernel⟩
theorem scLLawSmall : FnScope ["draw"] ["draw"] (defScope sLLawSmall) := ⟨rfl, rfl, rfl, by decide +kernel, rfl, by decide +kernel, by decide +kernel⟩
theorem scLLawTold : FnScope ["found"] ["found"] (defScope sLLawTold) := ⟨rfl, rfl, rfl, by decide +kernel, rfl, by decide +kernel, by decide +kernel⟩
theorem scLLawText : FnScope ["names", "found", "text", "k", "one", "size", "part"] ["names", "found"] (defScope sLLawText) := ⟨rfl, rfl, rfl, by decide +kernel, rfl, by decide +kernel, by decide +kernel⟩
theorem scLLawName : FnScope ["draw", "signs", "text", "k"] ["draw"] (defScope sLLawName) := ⟨rfl, rfl, rfl, by decide +kernel, rfl, by decide +kernel, by decide +kernel⟩
theorem scLaw : FnScope ["script", "k", "draw", "names", "found", "given", "text", "name", "at", "j"] ["script"] (defScope sLaw) := ⟨rfl, rfl, rfl, by decide +kernel, rfl, by decide +kernel, by decide +kernel⟩
structure Txt (mg : Str → Option Value) : Prop where
  abs : mg "abs" = none
  bool : mg "bool" = none
  divmod : mg "divmod" = none
  int : mg "int" = none
  isinstance : mg "isinstance" = none
  len : mg "len" = none
  list : mg "list" = none
  max : mg "max" = none
  range : mg "range" = none
  reversed : mg "reversed" = none
  str : mg "str" = none
  tuple : mg "tuple" = none
  zip : mg "zip" = none
  gcd : mg "gcd" = some (.builtin "math.gcd")
structure Cons (K : PySem.W.Frag) (mg : Str → Option Value) (aDIGITS : Tok) (aLETTERS : Tok) (aWORD_CHARACTERS : Tok) (aNAME_LENGTH : Tok) (aZERO : Addr) (aONE : Addr) (aMOST_DIGITS : Tok) (aSHORT : Tok) : Prop where
  gDIGITS : mg "DIGITS" = some (.str "0123456789" aDIGITS)
  gLETTERS : mg "LETTERS" = some (.str "abcdefghijklmnopqrstuvwxyzABCDEFGHIJKLMNOPQRSTUVWXYZ" aLETTERS)
  gWORD_CHARACTERS : mg "WORD_CHARACTERS" = some (.str "abcdefghijklmnopqrstuvwxyzABCDEFGHIJKLMNOPQRSTUVWXYZ0123456789_" aWORD_CHARACTERS)
  gNAME_LENGTH : mg "NAME_LENGTH" = some (.int 16 aNAME_LENGTH)
  gZERO : mg "ZERO" = some (.ref aZERO)
  tZERO : ∀ H, SqT K H aZERO ([0, 1].map V.int)
  gONE : mg "ONE" = some (.ref aONE)
  tONE : ∀ H, SqT K H aONE ([1, 1].map V.int)
  gMOST_DIGITS : mg "MOST_DIGITS" = some (.int 12 aMOST_DIGITS)
  gSHORT : mg "SHORT" = some (.int 1000000000000 aSHORT)
abbrev sIni : Stmt := (C8.clsBody (top 11)).getD 0 (.Pass ⟨0, 0, 0, 0⟩)
theorem scIni : FnScope ["self", "line", "column"] ["self", "line", "column"] (defScope sIni) := ⟨rfl, rfl, rfl, by decide +kernel, rfl, by decide +kernel, by decide +kernel⟩
section
variable {K : PySem.W.Frag} {C D : Addr} {c : Value} {r : Bool}
theorem exm_two (b : PySem.W.subIn K (.ref D) (.type "BaseException") = some true) (i : PySem.W.isClsIn K D = true) (t : PySem.W.typeIn K (.ref D) = some (.type "type")) (s : PySem.W.subIn K c (.ref D) = some r) : PySem.W.exmOne K c (.ref D) = some r := by
  have e1 : (PySem.W.subIn K (.ref D) (.type "BaseException") == some true) = true := by rw [b]; rfl
  have i' : (PySem.W.clsIn K D).isSome = true := i
  have e2 : ((PySem.W.clsIn K D).isSome && PySem.W.typeIn K (.ref D) == some (.type "type")) = true := by rw [i', t]; rfl
  unfold PySem.W.exmOne PySem.W.kitCls
  rw [if_pos e1]
  show (if _ then _ else _) = _
  rw [if_pos e2]
  exact s
theorem kit_self : PySem.W.kitOne K (.ref C) (.ref C) = some true := by
  unfold PySem.W.kitOne
  exact if_pos (beq_iff_eq.mpr rfl)
theorem kit_not (s0 : PySem.W.subIn K (.ref C) (.ref C) = some true) (i : PySem.W.isClsIn K D = true) (t : PySem.W.typeIn K (.ref D) = some (.type "type")) (s : PySem.W.subIn K (.ref C) (.ref D) = some false) : PySem.W.kitOne K (.ref C) (.ref D) = some false := by
  have i' : (PySem.W.clsIn K D).isSome = true := i
  have e2 : ((PySem.W.clsIn K D).isSome && PySem.W.typeIn K (.ref D) == some (.type "type")) = true := by rw [i', t]; rfl
  unfold PySem.W.kitOne PySem.W.kitCls
  rw [if_neg (fun z => ?_)]
  · show (if _ then _ else _) = _
    rw [if_pos e2]
    exact s
  · have e := Value.ref.inj (beq_iff_eq.mp z)
    subst e
    rw [s0] at s
    cases s
theorem kit_kind {T : String} (h : PySem.W.kitMeta T = true) (s : PySem.W.subIn K (.ref C) (.type T) = some r) : PySem.W.kitOne K (.ref C) (.type T) = some r := by
  unfold PySem.W.kitOne PySem.W.kitCls
  rw [if_neg (fun z => by have e := beq_iff_eq.mp z; cases e)]
  show (if _ then _ else _) = _
  rw [if_pos h]
  exact s
end

structure Exns (K : PySem.W.Frag) (mg : Str → Option Value) (CPartError CTextFault CNought : Addr) : Prop where
  gPartError : mg "PartError" = some (.ref CPartError)
  gTextFault : mg "TextFault" = some (.ref CTextFault)
  gNought : mg "Nought" = some (.ref CNought)
structure Flt (K : PySem.W.Frag) (mg : Str → Option Value) (CPartError CTextFault CNought fIni : Addr) : Prop where
  g : mg "TextFault" = some (.ref CTextFault)
  cls : ∃ nm q N bs bm sn sub ab col dd k0 k1 k2 k3 k5, K.lookup CTextFault = some (excClassObj nm q CTextFault N bs bm true sn sub ab col dd k0 k1 k2 k3 k5 "ValueError.__new__") ∧ PySem.HandSPX.refsVE bm = true
  sa : PySem.W.findIn K (.ref CTextFault) "__setattr__" = some (some (.builtin "object.__setattr__"))
  ga : PySem.W.findIn K (.ref CTextFault) "__getattribute__" = some (some (.builtin "BaseException.__getattribute__"))
  gg : PySem.W.findIn K (.ref CTextFault) "__getattr__" = some none
  nline : PySem.W.findIn K (.ref CTextFault) "line" = some none
  ncolumn : PySem.W.findIn K (.ref CTextFault) "column" = some none
  iC : PySem.W.findIn K (.ref CTextFault) "__init__" = some (some (.ref fIni))
  tI : PySem.W.typeIn K (.ref fIni) = some (.type "function")
  kC : PySem.W.keepIn K (.ref CTextFault) = true
  exC : PySem.W.subIn K (.ref CTextFault) (.type "BaseException") = some true
  tyC : PySem.W.typeIn K (.ref CTextFault) = some (.type "type")
  hdC : PySem.W.hasDictIn K CTextFault = true
  clC : PySem.W.isClsIn K CTextFault = true
  seC : PySem.W.subIn K (.ref CTextFault) (.ref CTextFault) = some true
  i4 : PySem.W.findIn K (.ref CTextFault) "__class__" = some (some (.builtin "object.__class__"))
  i5 : PySem.W.specialIn K (.builtin "object.__class__") "__get__" = some (some (.builtin "getset_descriptor.__get__"))
  i6 : PySem.W.takesIn K (.builtin "object.__class__") = some true
  i7 : PySem.W.mroIn K CTextFault (.type "object") = some true
  cbPartError : PySem.W.subIn K (.ref CPartError) (.type "BaseException") = some true
  ciPartError : PySem.W.isClsIn K CPartError = true
  ctPartError : PySem.W.typeIn K (.ref CPartError) = some (.type "type")
  csPartError : PySem.W.subIn K (.ref CTextFault) (.ref CPartError) = some true
theorem Flt.ox {K : PySem.W.Frag} {mg : Str → Option Value} {CPartError CTextFault CNought fIni : Addr} (h : Flt K mg CPartError CTextFault CNought fIni) : OexC K CTextFault := ⟨h.cls, h.sa, h.exC, h.tyC, h.kC⟩
theorem Flt.xf {K : PySem.W.Frag} {mg : Str → Option Value} {CPartError CTextFault CNought fIni : Addr} (h : Flt K mg CPartError CTextFault CNought fIni) : XfC K CTextFault := ⟨h.ga, h.gg, h.exC, h.hdC⟩
theorem Flt.ec {K : PySem.W.Frag} {mg : Str → Option Value} {CPartError CTextFault CNought fIni : Addr} (h : Flt K mg CPartError CTextFault CNought fIni) : ExcC K CTextFault := ⟨h.ga, h.gg, h.exC, h.hdC, h.i4, h.i5, h.i6, h.i7⟩
theorem Flt.ePartError {K : PySem.W.Frag} {mg : Str → Option Value} {CPartError CTextFault CNought fIni : Addr} (h : Flt K mg CPartError CTextFault CNought fIni) : PySem.W.exmOne K (.ref CTextFault) (.ref CPartError) = some true := exm_two h.cbPartError h.ciPartError h.ctPartError h.csPartError
theorem Flt.eTextFault {K : PySem.W.Frag} {mg : Str → Option Value} {CPartError CTextFault CNought fIni : Addr} (h : Flt K mg CPartError CTextFault CNought fIni) : PySem.W.exmOne K (.ref CTextFault) (.ref CTextFault) = some true := exm_two h.exC h.clC h.tyC h.seC
theorem Flt.kTextFault {K : PySem.W.Frag} {mg : Str → Option Value} {CPartError CTextFault CNought fIni : Addr} (h : Flt K mg CPartError CTextFault CNought fIni) : PySem.W.kitOne K (.ref CTextFault) (.ref CTextFault) = some true := kit_self
local macro_rules | `(tactic| walk_at "rd") => `(tactic| repeat (first | refine ⟨_, rfl, ?_⟩ | refine ⟨rfl, ?_⟩ | refine ⟨_, _, rfl, rfl, ?_⟩ | refine Or.inl ⟨_, rfl, ?_⟩ | refine ⟨(by show (0 : Int) < _; decide), ?_⟩ | refine ⟨⟨by decide, by decide⟩, ?_⟩ | refine ⟨Or.inr ⟨by decide, by decide⟩, ?_⟩ | refine ⟨Or.inl ⟨by decide, by decide⟩, ?_⟩ | refine ⟨⟨by decide, by decide, by decide⟩, ?_⟩))
abbrev zs (l : List Int) : List V := l.map V.int
theorem same_upd {H : Hp} {p : Addr} {o : HO} (h : H p = none) : Same H (upd H p o) := fun b x e => by
  rw [upd_ne (ne_of_none e h)]
  exact e
theorem same_tup {K : PySem.W.Frag} {H H' : Hp} {a : Addr} {xs : List V} (e : Same H H') (h : SqT K H a xs) : SqT K H' a xs := by
  rcases h with (h | ⟨o, h⟩) | h
  · exact .inl (.inl (e _ _ h))
  · exact .inl (.inr ⟨o, e _ _ h⟩)
  · exact .inr h
theorem zs_get {l : List Int} {i : Nat} {v : V} (h : (zs l)[i]? = some v) : ∃ z, v = .int z ∧ l[i]? = some z := by
  rw [show zs l = l.map V.int from rfl, List.getElem?_map] at h
  cases e : l[i]? with
  | none =>
    rw [e] at h
    cases h
  | some z =>
    rw [e] at h
    exact ⟨z, (Option.some.inj h).symm, rfl⟩
theorem zs_snoc {l : List Int} {i : Nat} {z : Int} (f : Int → Int) (h : l[i]? = some z) : zs ((l.map f).take i) ++ [V.int (f z)] = zs ((l.map f).take (i + 1)) := by
  show ((l.map f).take i).map V.int ++ [V.int (f z)] = ((l.map f).take (i + 1)).map V.int
  rw [List.take_add_one, List.getElem?_map, h, List.map_append]
  rfl
theorem zs_len {l : List Int} (n : Nat) (h : l.length ≤ 1000) : (zs (l.take n)).length < sizeLine := by
  show ((l.take n).map V.int).length < sizeLine
  rw [List.length_map, List.length_take]
  exact small1000 (by omega)
theorem ne_of_bang {n m : Int} (h : (!decide (V.int n = V.int m)) = true) : n ≠ m := fun e => by
  rw [e, decide_eq_true rfl] at h
  cases h
theorem eq_of_nobang {n m : Int} (h : ¬ (!decide (V.int n = V.int m)) = true) : n = m := by
  by_cases e : n = m
  · exact e
  · exact absurd (by rw [decide_eq_false (fun z => e (V.int.inj z))]; rfl) h
theorem eq_of_dec {n m : Int} (h : decide (V.int n = V.int m) = true) : n = m := V.int.inj (of_decide_eq_true h)
theorem ne_of_nodec {n m : Int} (h : ¬ decide (V.int n = V.int m) = true) : n ≠ m := fun e => h (decide_eq_true (by rw [e]))

/-! Euclid by turns. -/
/-- one turn of the walk (a, b) -> (b, a % b), of naturals -/
theorem gcd_turn (a b : Nat) : Nat.gcd b (a % b) = Nat.gcd a b := by
  rw [Nat.gcd_comm b, ← Nat.gcd_rec, Nat.gcd_comm]
theorem prod_turn {a b : Nat} (h : b ≤ a) (hb : 0 < b) : 2 * (b * (a % b)) ≤ a * b := by
  have h1 : a % b < b := Nat.mod_lt _ hb
  have h2 : a = b * (a / b) + a % b := (Nat.div_add_mod a b).symm
  have h3 : 1 ≤ a / b := (Nat.one_le_div_iff hb).mpr h
  have h4 : b * 1 ≤ b * (a / b) := Nat.mul_le_mul_left b h3
  have h5 : 2 * (a % b) ≤ a := by omega
  calc 2 * (b * (a % b)) = b * (2 * (a % b)) := by rw [Nat.mul_left_comm]
    _ ≤ b * a := Nat.mul_le_mul_left b h5
    _ = a * b := Nat.mul_comm _ _
/-- what holds behind i turns from (a0, b0) -/
structure Eu (a0 b0 i a b : Nat) : Prop where
  g : Nat.gcd a b = Nat.gcd a0 b0
  p : a * b * 2 ^ i ≤ 2 * (a0 * b0)
  o : i = 0 ∨ b ≤ a
  z : i = 0 → a = a0 ∧ b = b0
theorem Eu.start (a b : Nat) : Eu a b 0 a b := ⟨rfl, by rw [Nat.pow_zero]; omega, .inl rfl, fun _ => ⟨rfl, rfl⟩⟩
theorem Eu.turn {a0 b0 i a b : Nat} (e : Eu a0 b0 i a b) (hb : 0 < b) : Eu a0 b0 (i + 1) b (a % b) := by
  refine ⟨(gcd_turn a b).trans e.g, ?_, .inr (Nat.le_of_lt (Nat.mod_lt _ hb)), fun z => by omega⟩
  rcases e.o with hi | hle
  · obtain ⟨rfl, rfl⟩ := e.z hi
    subst hi
    have h1 : b * (a % b) ≤ b * a := Nat.mul_le_mul_left b (Nat.mod_le a b)
    have h2 : b * a = a * b := Nat.mul_comm _ _
    rw [Nat.zero_add, Nat.pow_one]
    omega
  · have h1 := prod_turn hle hb
    have h2 := e.p
    have h3 : b * (a % b) * 2 ^ (i + 1) = 2 * (b * (a % b)) * 2 ^ i := by
      rw [Nat.pow_succ]
      rw [Nat.mul_comm (2 ^ i) 2, ← Nat.mul_assoc, Nat.mul_comm (b * (a % b)) 2]
    rw [h3]
    exact Nat.le_trans (Nat.mul_le_mul_right _ h1) h2
/-- too many turns: nothing is left -/
theorem Eu.stop {a0 b0 i a b : Nat} (e : Eu a0 b0 i a b) (hi : i ≠ 0) (h : 2 * (a0 * b0) < 2 ^ i) : b = 0 := by
  rcases Nat.eq_zero_or_pos b with h0 | h0
  · exact h0
  · have hle : b ≤ a := by
      rcases e.o with h1 | h1
      · exact absurd h1 hi
      · exact h1
    have h1 : 1 ≤ a * b := Nat.mul_pos (by omega) h0
    have h2 : 1 * 2 ^ i ≤ a * b * 2 ^ i := Nat.mul_le_mul_right _ h1
    have h3 := e.p
    omega
theorem Eu.end {a0 b0 i a : Nat} (e : Eu a0 b0 i a 0) : a = Nat.gcd a0 b0 := by
  rw [← e.g, Nat.gcd_zero_right]
/-- the greatest divisor of a row, as it is reckoned from the left -/
def gl (l : List Int) : Nat := l.foldl (fun g v => Nat.gcd v.natAbs g) 0
theorem gl_snoc (l : List Int) (v : Int) : gl (l ++ [v]) = Nat.gcd v.natAbs (gl l) := by
  unfold gl
  rw [List.foldl_append]
  rfl
theorem gl_lt {l : List Int} {v : Int} (h : gl l < 2 ^ 100) (hv : v.natAbs < 2 ^ 100) : gl (l ++ [v]) < 2 ^ 100 := by
  rw [gl_snoc]
  rcases Nat.eq_zero_or_pos v.natAbs with e | e
  · rw [e, Nat.gcd_zero_left]
    exact h
  · exact Nat.lt_of_le_of_lt (Nat.le_of_dvd e (Nat.gcd_dvd_left _ _)) hv
theorem take_snoc {l : List Int} {i : Nat} {z : Int} (h : l[i]? = some z) : l.take (i + 1) = l.take i ++ [z] := by
  rw [List.take_add_one, h]
  rfl
theorem eu_far {a b n : Nat} (hn : 201 ≤ n) (ha : a < 2 ^ 100) (hb : b < 2 ^ 100) : 2 * (a * b) < 2 ^ n := by
  have h1 : a * b < 2 ^ 100 * 2 ^ 100 := Nat.mul_lt_mul'' ha hb
  rw [← Nat.pow_add] at h1
  have h2 : (2 : Nat) * 2 ^ (100 + 100) = 2 ^ 201 := by decide +kernel
  have h3 : (2 : Nat) ^ 201 ≤ 2 ^ n := Nat.pow_le_pow_right (by decide) hn
  omega
theorem fmod_nat (a b : Nat) : (a : Int).fmod (b : Int) = ((a % b : Nat) : Int) := by
  rw [Int.fmod_eq_emod_of_nonneg _ (Int.natCast_nonneg _)]
  exact (Int.natCast_emod a b).symm

/-- // by any divisor other than 0, below 2 ^ 9000 in size -/
def CDivX (_ j : Int) : Prop := j ≠ 0 ∧ j.natAbs.log2 < 9000
theorem op_fdivX {X : Cx} : OpR X (binaryOp .FloorDiv) (rI CDivX fun i j => .int (i.fdiv j)) :=
  opI fun _ _ _ _ _ _ _ hc q =>
    PyProof.Rows.floordiv_int hc.1 q (.inl (PyProof.noPylong_of_log2 hc.2))
theorem wide_divx {i j : Int} {b : Nat} (h : j ≠ 0) (hb : j.natAbs < 2 ^ b) (h0 : 0 < b) (h9 : b ≤ 9000) : CDivX i j :=
  ⟨h, Nat.lt_of_lt_of_le (PySem.Flt.log2_lt_of h0 hb) h9⟩
/-- n noughts -/
def nou (n : Nat) : Str := ⟨(List.replicate n (Str.ofString "0").cps).foldl (· ++ ·) #[]⟩
theorem nou_len {n : Nat} (h : n ≤ 100) : (nou n).length ≤ sizeLine := by
  have : ∀ n : _root_.Fin 101, (nou n.val).length ≤ 100 := by decide +kernel
  have h1 := this ⟨n, by omega⟩
  rw [PySem.sizeLine_eq]
  exact Nat.le_trans h1 (by decide)
theorem op_nou {X : Cx} : OpR X (binaryOp .Mult) (fun x y H Q => ∃ n : Nat, x = .str "0" ∧ y = .int (n : Int) ∧ 1 ≤ n ∧ n ≤ 100 ∧ Q (.str (nou n)) H) := by
  intro pins s σ H x y v u Q I rx ry h
  obtain ⟨n, rfl, rfl, h1, h2, q⟩ := h
  obtain ⟨t, rfl⟩ := rx
  obtain ⟨t', rfl⟩ := ry
  have e1 : ¬ ((n : Int) < 1) := by omega
  have el : (Str.ofString "0").length = 1 := by decide +kernel
  refine PySem.P.mul_str ?_ ?_ ?_ ?_
  · rw [decide_eq_false (by omega), decide_eq_false (by omega)]
    rfl
  · intro _ _
    rw [el]
    have : (2 ^ 63 - 1 : Int) / n ≥ 1 := by
      have : (1 : Int) * n ≤ 2 ^ 63 - 1 := by omega
      exact (Int.le_ediv_iff_mul_le (by omega)).mpr this
    omega
  · intro _ _
    rw [el]
    unfold PySem.Builtin.Str.tooLong
    rw [PySem.sizeLine_eq]
    exact decide_eq_false (by omega)
  · rw [if_neg e1]
    by_cases hn : n = 1
    · subst hn
      have e2 : nou 1 = Str.ofString "0" := by decide +kernel
      rw [e2] at q
      exact ⟨.str (Str.ofString "0"), H, I, ⟨t, rfl⟩, q⟩
    · have : ((n : Int) == 1 || (Str.ofString "0").length == 0) = false := by
        rw [el]
        simp
        omega
      rw [this, if_neg Bool.false_ne_true]
      exact ⟨nou_len h2, .str (nou n), H, I.tok _, ⟨_, rfl⟩, q⟩
theorem suite_of {X : Cx} {a C : Addr} {oe : Obj} {pn : List (Addr × Obj)} {cls : Value} {d : Option Addr} {sts : List Stmt} {ts : TS} (hz : Zc cls d oe)
    (h : Zc (.ref C) none oe → PSs (X.suite a ((a, oe) :: pn)) sts ts) : PSs (X.suite a ((a, oe) :: pn)) sts (fun D σ H => (cls = .ref C ∧ d = none) ∧ ts D σ H) :=
  ⟨fun pins s σ H D I hq => by
    obtain ⟨⟨rfl, rfl⟩, q⟩ := hq
    exact (h hz).run pins s σ H D I q⟩
theorem ten_text : ∀ n : Nat, 1 ≤ n → n ≤ 20 → PySem.intText? (Str.ofString "1" ++ nou n) = some ((10 : Int) ^ n) ∧ (Str.ofString "1" ++ nou n).length ≤ 640 ∧ (nou n).length ≤ 100 := by
  intro n h1 h2
  have : ∀ n : _root_.Fin 21, 1 ≤ n.val → PySem.intText? (Str.ofString "1" ++ nou n.val) = some ((10 : Int) ^ n.val) ∧ (Str.ofString "1" ++ nou n.val).length ≤ 640 ∧ (nou n.val).length ≤ 100 := by decide +kernel
  exact this ⟨n, by omega⟩ h1

/-- the divisor by which fraction divides both -/
def sg (n d : Int) : Int := if d < 0 then -((Nat.gcd n.natAbs d.natAbs : Nat) : Int) else ((Nat.gcd n.natAbs d.natAbs : Nat) : Int)
theorem sg_abs (n d : Int) : (sg n d).natAbs = Nat.gcd n.natAbs d.natAbs := by
  unfold sg
  split
  · rw [Int.natAbs_neg, Int.natAbs_natCast]
  · rw [Int.natAbs_natCast]
theorem sg_ne {n d : Int} (h : d ≠ 0) : sg n d ≠ 0 := by
  intro e
  have h1 := sg_abs n d
  rw [e] at h1
  have h2 : Nat.gcd n.natAbs d.natAbs = 0 := h1.symm
  have h3 := Nat.gcd_eq_zero_iff.mp h2
  omega
theorem sg_dn (n d : Int) : sg n d ∣ n := by
  have h : ((Nat.gcd n.natAbs d.natAbs : Nat) : Int) ∣ n := Int.dvd_natAbs.mp (Int.natCast_dvd_natCast.mpr (Nat.gcd_dvd_left _ _))
  unfold sg
  split
  · exact Int.neg_dvd.mpr h
  · exact h
theorem sg_dd (n d : Int) : sg n d ∣ d := by
  have h : ((Nat.gcd n.natAbs d.natAbs : Nat) : Int) ∣ d := Int.dvd_natAbs.mp (Int.natCast_dvd_natCast.mpr (Nat.gcd_dvd_right _ _))
  unfold sg
  split
  · exact Int.neg_dvd.mpr h
  · exact h
theorem fdiv_back {d v : Int} (h : d ∣ v) : v.fdiv d * d = v := Int.fdiv_mul_cancel h
theorem part_le {f d v : Int} (e : f * d = v) (hd : d ≠ 0) : f.natAbs ≤ v.natAbs := by
  rw [← e, Int.natAbs_mul]
  exact Nat.le_mul_of_pos_right _ (by omega)
/-- what fraction yields -/
structure Fr (n d p q : Int) : Prop where
  hp : p * sg n d = n
  hq : q * sg n d = d
  q0 : 0 < q
  one : Nat.gcd p.natAbs q.natAbs = 1
theorem fr_of {n d : Int} (h : d ≠ 0) : Fr n d (n.fdiv (sg n d)) (d.fdiv (sg n d)) := by
  have e1 := fdiv_back (sg_dn n d)
  have e2 := fdiv_back (sg_dd n d)
  have hs := sg_ne (n := n) h
  refine ⟨e1, e2, ?_, ?_⟩
  · rcases Int.lt_or_le 0 (d.fdiv (sg n d)) with h1 | h1
    · exact h1
    · exfalso
      have hg : 0 < Nat.gcd n.natAbs d.natAbs := Nat.gcd_pos_of_pos_right _ (by omega)
      rcases Int.lt_or_le d 0 with h2 | h2
      · have h3 : sg n d < 0 := by
          unfold sg
          rw [if_pos h2]
          omega
        have h4 := Int.mul_nonneg_of_nonpos_of_nonpos h1 (Int.le_of_lt h3)
        omega
      · have h3 : 0 < sg n d := by
          unfold sg
          rw [if_neg (by omega)]
          omega
        have h4 := Int.mul_nonpos_of_nonpos_of_nonneg h1 (Int.le_of_lt h3)
        omega
  · have e3 : Nat.gcd n.natAbs d.natAbs = Nat.gcd (n.fdiv (sg n d)).natAbs (d.fdiv (sg n d)).natAbs * (sg n d).natAbs := by
      rw [← Nat.gcd_mul_right, ← Int.natAbs_mul, ← Int.natAbs_mul, e1, e2]
    rw [sg_abs] at e3
    have hg : 0 < Nat.gcd n.natAbs d.natAbs := Nat.gcd_pos_of_pos_right _ (by omega)
    exact (Nat.eq_of_mul_eq_mul_right hg (by rw [Nat.one_mul]; exact e3)).symm
theorem Fr.cross {n d p q : Int} (f : Fr n d p q) : p * d = n * q := by
  have h1 := f.hp
  have h2 := f.hq
  calc p * d = p * (q * sg n d) := by rw [h2]
    _ = (p * sg n d) * q := by rw [Int.mul_comm q, Int.mul_assoc]
    _ = n * q := by rw [h1]
theorem sg_one (n : Int) : sg n 1 = 1 := by
  unfold sg
  rw [if_neg (by decide)]
  show ((Nat.gcd n.natAbs 1 : Nat) : Int) = 1
  rw [Nat.gcd_one_right]
  rfl
theorem rd_one (n : Int) : [n.fdiv (sg n 1), (1 : Int).fdiv (sg n 1)] = [n, 1] := by rw [sg_one, Int.fdiv_one, Int.fdiv_one]

/-- in lowest terms -/
def rd2 (n d : Int) : List Int := [n.fdiv (sg n d), d.fdiv (sg n d)]
theorem low_uniq {p q r s : Int} (h1 : Nat.gcd p.natAbs q.natAbs = 1) (h2 : Nat.gcd r.natAbs s.natAbs = 1) (hq : 0 < q) (hs : 0 < s) (h : p * s = r * q) : p = r ∧ q = s := by
  have hn : p.natAbs * s.natAbs = r.natAbs * q.natAbs := by
    rw [← Int.natAbs_mul, ← Int.natAbs_mul, h]
  have d1 : q.natAbs ∣ s.natAbs := by
    have h3 : q.natAbs ∣ p.natAbs * s.natAbs := ⟨r.natAbs, by rw [hn, Nat.mul_comm]⟩
    exact Nat.Coprime.dvd_of_dvd_mul_left (show Nat.Coprime q.natAbs p.natAbs from (Nat.gcd_comm _ _).trans h1) h3
  have d2 : s.natAbs ∣ q.natAbs := by
    have h3 : s.natAbs ∣ r.natAbs * q.natAbs := ⟨p.natAbs, by rw [← hn, Nat.mul_comm]⟩
    exact Nat.Coprime.dvd_of_dvd_mul_left (show Nat.Coprime s.natAbs r.natAbs from (Nat.gcd_comm _ _).trans h2) h3
  have e : q.natAbs = s.natAbs := Nat.dvd_antisymm d1 d2
  have e2 : q = s := by omega
  subst e2
  exact ⟨Int.eq_of_mul_eq_mul_right (by omega) h, rfl⟩
theorem rd2_eq {n d n' d' : Int} (hd : 0 < d) (hd' : 0 < d') (h : n * d' = n' * d) : rd2 n d = rd2 n' d' := by
  have f := fr_of (n := n) (show d ≠ 0 by omega)
  have f' := fr_of (n := n') (show d' ≠ 0 by omega)
  have c1 := f.cross
  have c2 := f'.cross
  unfold rd2
  generalize n.fdiv (sg n d) = p at f c1
  generalize d.fdiv (sg n d) = q at f c1
  generalize n'.fdiv (sg n' d') = r at f' c2
  generalize d'.fdiv (sg n' d') = s at f' c2
  have e : p * s = r * q := by
    have h1 : (p * s) * (d * d') = (r * q) * (d * d') := by
      calc (p * s) * (d * d') = (p * d) * (s * d') := by
              rw [Int.mul_assoc, Int.mul_assoc, Int.mul_left_comm s d d']
        _ = (n * q) * (s * d') := by rw [c1]
        _ = (n * d') * (q * s) := by
              rw [Int.mul_assoc, Int.mul_assoc, Int.mul_comm s d', Int.mul_left_comm q d' s]
        _ = (n' * d) * (q * s) := by rw [h]
        _ = (n' * s) * (d * q) := by
              rw [Int.mul_assoc, Int.mul_assoc, Int.mul_comm q s, Int.mul_left_comm d s q]
        _ = (r * d') * (d * q) := by rw [c2]
        _ = (r * q) * (d * d') := by
              rw [Int.mul_assoc, Int.mul_assoc, Int.mul_comm d q, Int.mul_left_comm d' q d, Int.mul_comm d' d]
    exact Int.eq_of_mul_eq_mul_right (Int.mul_ne_zero (by omega) (by omega)) h1
  have u := low_uniq f.one f'.one f.q0 f'.q0 e
  rw [u.1, u.2]
theorem sg_zero_one : sg 0 1 = 1 := sg_one 0
theorem rd2_zero : rd2 0 1 = [0, 1] := by
  unfold rd2
  rw [sg_zero_one, Int.fdiv_one, Int.fdiv_one]
/-- the digits of a number are not too few -/
theorem lt_digits (n : Nat) : n < 2 ^ (4 * (toString (n : Int)).length + 4) := by
  have e : toString (n : Int) = Nat.repr n := rfl
  rw [e]
  have h : n < 10 ^ ((Nat.repr n).length + 1) := (Nat.length_repr_le_iff (Nat.succ_pos _)).mp (Nat.le_succ _)
  refine Nat.lt_of_lt_of_le h ?_
  have h2 : (10 : Nat) ^ ((Nat.repr n).length + 1) ≤ 16 ^ ((Nat.repr n).length + 1) := Nat.pow_le_pow_left (by decide) _
  have h3 : (16 : Nat) ^ ((Nat.repr n).length + 1) = 2 ^ (4 * (Nat.repr n).length + 4) := by
    rw [show (16 : Nat) = 2 ^ 4 from rfl, ← Nat.pow_mul]
    rfl
  omega
theorem eu_digits {a b t : Nat} (h : t = 4 * (toString (a : Int)).length + 4 * (toString (b : Int)).length + 60) : 2 * (a * b) < 2 ^ t := by
  subst h
  have h1 := lt_digits a
  have h2 := lt_digits b
  have h3 : a * b < 2 ^ (4 * (toString (a : Int)).length + 4) * 2 ^ (4 * (toString (b : Int)).length + 4) := Nat.mul_lt_mul'' h1 h2
  rw [← Nat.pow_add] at h3
  have h4 : 2 * (a * b) < 2 * 2 ^ (4 * (toString (a : Int)).length + 4 + (4 * (toString (b : Int)).length + 4)) := by omega
  rw [← Nat.pow_succ'] at h4
  exact Nat.lt_of_lt_of_le h4 (Nat.pow_le_pow_right (by decide) (by omega))
theorem args2 {x y : Int} (hx : 0 ≤ x) (hy : 0 ≤ y) : [V.int x, V.int y] ++ [] = [V.int ((x.natAbs : Nat) : Int), V.int ((y.natAbs : Nat) : Int)] := by
  have e1 : ((x.natAbs : Nat) : Int) = x := by omega
  have e2 : ((y.natAbs : Nat) : Int) = y := by omega
  rw [e1, e2]
  rfl
theorem mod_abs (x : Int) {b : Int} (h : 0 < b) : (x % b).natAbs ≤ b.natAbs := by
  have h1 := Int.emod_nonneg x (show b ≠ 0 by omega)
  have h2 := Int.emod_lt_of_pos x h
  omega
theorem mul_lt_abs {a b : Int} {A B : Nat} (ha : a.natAbs ≤ A) (hb : b.natAbs ≤ B) : (a * b).natAbs ≤ A * B := by
  rw [Int.natAbs_mul]
  exact Nat.mul_le_mul ha hb
def pd2 (x y : Int) : PyData := .tuple [.int x, .int y]
theorem dp2 {K : PySem.W.Frag} {H : Hp} {u : Addr} {x y : Int} (h : SqT K H u (zs [x, y])) : Dp K H (.ref u) (pd2 x y) :=
  .tup h (.cons (.int x) (.cons (.int y) .nil))
theorem eqv2 (x y : Int) : PyData.eqv (pd2 x y) (pd2 x y) = true := by
  unfold pd2
  simp [PyData.eqv, PyData.eqvAll]

def dv (x y z : Int) : Int := let g : Int := (Nat.gcd (Nat.gcd x.natAbs y.natAbs) z.natAbs : Nat)
  if HT.lexLt [x, y, z] [0, 0, 0] = true then -g else g
def g3 (x y z : Int) : Nat := Nat.gcd (Nat.gcd x.natAbs y.natAbs) z.natAbs
/-- the first one that is not 0 is below 0 -/
def dn (x y z : Int) : Bool := decide (x < 0) || (decide (x = 0) && (decide (y < 0) || (decide (y = 0) && decide (z < 0))))
theorem lex_dn (x y z : Int) : HT.lexLt [x, y, z] [0, 0, 0] = dn x y z := by
  rw [HT.lexLt_cons, HT.lexLt_cons, HT.lexLt_cons, HT.lexLt_nil_nil]
  unfold dn
  by_cases hx : x = 0
  · subst hx
    by_cases hy : y = 0
    · subst hy
      by_cases hz : z = 0
      · subst hz; decide
      · simp [hz]
    · simp [hy]
  · simp [hx]
theorem dv_eq (x y z : Int) : dv x y z = if dn x y z = true then -(g3 x y z : Int) else (g3 x y z : Int) := by
  unfold dv g3
  rw [lex_dn]
theorem dv_abs (x y z : Int) : (dv x y z).natAbs = g3 x y z := by
  rw [dv_eq]
  split
  · rw [Int.natAbs_neg, Int.natAbs_natCast]
  · rw [Int.natAbs_natCast]
theorem g3_pos {x y z : Int} (h : ¬ (x = 0 ∧ y = 0 ∧ z = 0)) : 0 < g3 x y z := by
  rcases Nat.eq_zero_or_pos (g3 x y z) with e | e
  · exfalso
    have h1 := Nat.gcd_eq_zero_iff.mp e
    have h2 := Nat.gcd_eq_zero_iff.mp h1.1
    omega
  · exact e
theorem dv_ne {x y z : Int} (h : ¬ (x = 0 ∧ y = 0 ∧ z = 0)) : dv x y z ≠ 0 := by
  intro e
  have h1 := dv_abs x y z
  have h2 := g3_pos h
  rw [e] at h1
  have : (0 : Int).natAbs = 0 := rfl
  omega
theorem g3_dx (x y z : Int) : (g3 x y z : Int) ∣ x := by
  refine Int.dvd_natAbs.mp (Int.natCast_dvd_natCast.mpr ?_)
  exact Nat.dvd_trans (Nat.gcd_dvd_left _ _) (Nat.gcd_dvd_left _ _)
theorem g3_dy (x y z : Int) : (g3 x y z : Int) ∣ y := by
  refine Int.dvd_natAbs.mp (Int.natCast_dvd_natCast.mpr ?_)
  exact Nat.dvd_trans (Nat.gcd_dvd_left _ _) (Nat.gcd_dvd_right _ _)
theorem g3_dz (x y z : Int) : (g3 x y z : Int) ∣ z := by
  refine Int.dvd_natAbs.mp (Int.natCast_dvd_natCast.mpr ?_)
  exact Nat.gcd_dvd_right _ _
theorem dv_dvd {x y z v : Int} (h : (g3 x y z : Int) ∣ v) : dv x y z ∣ v := by
  rw [dv_eq]
  split
  · exact Int.neg_dvd.mpr h
  · exact h
theorem dv_dx (x y z : Int) : dv x y z ∣ x := dv_dvd (g3_dx x y z)
theorem dv_dy (x y z : Int) : dv x y z ∣ y := dv_dvd (g3_dy x y z)
theorem dv_dz (x y z : Int) : dv x y z ∣ z := dv_dvd (g3_dz x y z)
theorem g3_le {x y z : Int} {n : Nat} (h : ¬ (x = 0 ∧ y = 0 ∧ z = 0)) (hx : x.natAbs ≤ n) (hy : y.natAbs ≤ n) (hz : z.natAbs ≤ n) : g3 x y z ≤ n := by
  by_cases h1 : x = 0
  · by_cases h2 : y = 0
    · have h3 : z ≠ 0 := fun e => h ⟨h1, h2, e⟩
      exact Nat.le_trans (Nat.le_of_dvd (by omega) (Nat.gcd_dvd_right _ _)) hz
    · exact Nat.le_trans (Nat.le_of_dvd (by omega) (Nat.dvd_trans (Nat.gcd_dvd_left _ _) (Nat.gcd_dvd_right _ _))) hy
  · exact Nat.le_trans (Nat.le_of_dvd (by omega) (Nat.dvd_trans (Nat.gcd_dvd_left _ _) (Nat.gcd_dvd_left _ _))) hx
theorem g3_mul (x y z t : Int) : g3 (x * t) (y * t) (z * t) = g3 x y z * t.natAbs := by
  unfold g3
  rw [Int.natAbs_mul, Int.natAbs_mul, Int.natAbs_mul, Nat.gcd_mul_right, Nat.gcd_mul_right]
/-- the parts have no divisor left -/
theorem g3_one {x y z a b c : Int} (h : ¬ (x = 0 ∧ y = 0 ∧ z = 0)) (ha : a * dv x y z = x) (hb : b * dv x y z = y) (hc : c * dv x y z = z) : g3 a b c = 1 := by
  have h1 : g3 x y z = g3 a b c * (dv x y z).natAbs := by
    have := g3_mul a b c (dv x y z)
    rw [ha, hb, hc] at this
    exact this
  rw [dv_abs] at h1
  have h2 := g3_pos h
  exact (Nat.eq_of_mul_eq_mul_right h2 (by rw [Nat.one_mul]; exact h1)).symm
theorem neg_mul_iff {v t : Int} (ht : 0 < t) : (v * t < 0 ↔ v < 0) ∧ (v * t = 0 ↔ v = 0) := by
  constructor
  · constructor
    · intro h
      rcases Int.lt_or_le v 0 with h1 | h1
      · exact h1
      · have := Int.mul_nonneg h1 (Int.le_of_lt ht)
        omega
    · exact fun h => Int.mul_neg_of_neg_of_pos h ht
  · constructor
    · intro h
      rcases Int.mul_eq_zero.mp h with h1 | h1
      · exact h1
      · omega
    · intro h
      rw [h, Int.zero_mul]
theorem dn_mul {x y z t : Int} (ht : 0 < t) : dn (x * t) (y * t) (z * t) = dn x y z := by
  unfold dn
  have hx := neg_mul_iff (v := x) ht
  have hy := neg_mul_iff (v := y) ht
  have hz := neg_mul_iff (v := z) ht
  simp only [hx, hy, hz]
theorem dn_neg {x y z : Int} (h : ¬ (x = 0 ∧ y = 0 ∧ z = 0)) : dn (-x) (-y) (-z) = !dn x y z := by
  unfold dn
  rcases Int.lt_trichotomy x 0 with hx | hx | hx
  · have h1 : ¬ (-x < 0) := by omega
    have h2 : ¬ (-x = 0) := by omega
    simp [hx, h1, h2]
    omega
  · subst hx
    rcases Int.lt_trichotomy y 0 with hy | hy | hy
    · have h1 : ¬ (-y < 0) := by omega
      have h2 : ¬ (-y = 0) := by omega
      simp [hy, h1, h2]
      omega
    · subst hy
      have hz : z ≠ 0 := fun e => h ⟨rfl, rfl, e⟩
      by_cases h1 : z < 0
      · have h2 : ¬ (-z < 0) := by omega
        simp [h1, h2]
        omega
      · have h2 : -z < 0 := by omega
        simp [h1, h2]
        omega
    · have h1 : -y < 0 := by omega
      have h2 : ¬ y < 0 := by omega
      have h3 : ¬ y = 0 := by omega
      simp [h1, h2, h3]
      omega
  · have h1 : -x < 0 := by omega
    have h2 : ¬ x < 0 := by omega
    have h3 : ¬ x = 0 := by omega
    simp [h1, h2, h3]
    omega
theorem dv_mul {x y z t : Int} (h : ¬ (x = 0 ∧ y = 0 ∧ z = 0)) (ht : t ≠ 0) : dv (x * t) (y * t) (z * t) = dv x y z * t := by
  rw [dv_eq, dv_eq, g3_mul]
  rcases Int.lt_or_gt_of_ne ht with h1 | h1
  · have e1 : ∀ v : Int, v * t = -v * -t := fun v => (Int.neg_mul_neg v t).symm
    have e2 : (t.natAbs : Int) = -t := by omega
    have h2 : ¬ (-x = 0 ∧ -y = 0 ∧ -z = 0) := by omega
    rw [e1 x, e1 y, e1 z, dn_mul (by omega), dn_neg h]
    cases dn x y z with
    | true => simp [e2, Int.neg_mul, Int.mul_neg]
    | false => simp [e2, Int.neg_mul, Int.mul_neg]
  · have e2 : (t.natAbs : Int) = t := by omega
    rw [dn_mul h1]
    cases dn x y z with
    | true => simp [e2, Int.neg_mul, Int.mul_neg]
    | false => simp [e2, Int.neg_mul, Int.mul_neg]
theorem fdiv_same {d v t : Int} (hd : d ≠ 0) (ht : t ≠ 0) (h : d ∣ v) : (v * t).fdiv (d * t) = v.fdiv d := by
  obtain ⟨k, rfl⟩ := h
  rw [Int.mul_assoc, Int.mul_comm k t, ← Int.mul_assoc, Int.mul_fdiv_cancel_left _ hd, Int.mul_fdiv_cancel_left]
  exact Int.mul_ne_zero hd ht

theorem zs_push {l : List Int} {n : Int} : zs l ++ [V.int n] = zs (l ++ [n]) := by
  show l.map V.int ++ [V.int n] = (l ++ [n]).map V.int
  rw [List.map_append]
  rfl
theorem zs_lt {l : List Int} (h : l.length ≤ 1000) : (zs l).length < sizeLine := by
  show (l.map V.int).length < sizeLine
  rw [List.length_map]
  exact small1000 h
theorem row_all {rs : List Int} {b : Int} (h : ∀ r ∈ rs, 0 ≤ r ∧ r < b) (x : Int) (hb : 0 < b) : ∀ r ∈ rs ++ [x % b], 0 ≤ r ∧ r < b := by
  intro r hr
  rcases List.mem_append.mp hr with h1 | h1
  · exact h r h1
  · rw [List.mem_singleton.mp h1]
    exact ⟨Int.emod_nonneg _ (by omega), Int.emod_lt_of_pos _ hb⟩
theorem ixN_in {n : Nat} {i : Int} (h0 : 0 ≤ i) (h : i < (n : Int)) : ixN n i = some i.toNat := by
  unfold ixN
  rw [if_pos h0, if_pos h]
theorem len3 {rs : List Int} (h : rs.length = 3) : ∃ a b c, rs = [a, b, c] := by
  match rs, h with
  | [a, b, c], _ => exact ⟨a, b, c, rfl⟩
theorem gl_three (x y z : Int) : gl [x, y, z] = g3 x y z := by
  show Nat.gcd z.natAbs (Nat.gcd y.natAbs (Nat.gcd x.natAbs 0)) = Nat.gcd (Nat.gcd x.natAbs y.natAbs) z.natAbs
  rw [Nat.gcd_zero_right, Nat.gcd_comm z.natAbs, Nat.gcd_comm y.natAbs]
def fs3 (x y z : Int) : Int := if x ≠ 0 then x else if y ≠ 0 then y else z
theorem fs3_get {x y z : Int} (h : ¬ (x = 0 ∧ y = 0 ∧ z = 0)) : (zs ([x, y, z].filter fun v => decide (v ≠ 0)))[0]? = some (.int (fs3 x y z)) := by
  unfold fs3
  by_cases hx : x = 0
  · by_cases hy : y = 0
    · have hz : z ≠ 0 := fun e => h ⟨hx, hy, e⟩
      simp [hx, hy, hz]
    · simp [hx, hy]
  · simp [hx]
theorem fs3_dn {x y z : Int} (h : ¬ (x = 0 ∧ y = 0 ∧ z = 0)) : decide (fs3 x y z < 0) = dn x y z := by
  unfold fs3 dn
  by_cases hx : x = 0
  · by_cases hy : y = 0
    · simp [hx, hy]
    · simp [hx, hy]
  · simp [hx]
theorem fil_snoc {l : List Int} {i : Nat} {z : Int} (h : l[i]? = some z) (hz : z ≠ 0) : zs ((l.take i).filter fun v => decide (v ≠ 0)) ++ [V.int z] = zs ((l.take (i + 1)).filter fun v => decide (v ≠ 0)) := by
  rw [take_snoc h, List.filter_append, zs_push]
  simp [hz]
theorem fil_same {l : List Int} {i : Nat} {z : Int} (h : l[i]? = some z) (hz : z = 0) : (l.take (i + 1)).filter (fun v => decide (v ≠ 0)) = (l.take i).filter fun v => decide (v ≠ 0) := by
  rw [take_snoc h, List.filter_append]
  simp [hz]
theorem fil_lt {l : List Int} (n : Nat) (h : l.length ≤ 1000) : (zs ((l.take n).filter fun v => decide (v ≠ 0))).length < sizeLine := by
  refine zs_lt ?_
  have h1 := List.length_filter_le (fun v : Int => decide (v ≠ 0)) (l.take n)
  rw [List.length_take] at h1
  omega
theorem zs_at {l : List Int} {i : Nat} {z : Int} (h : l[i]? = some z) : atI (zs l) (i : Int) = some (V.int z) := atI_nat (by
  rw [show zs l = l.map V.int from rfl, List.getElem?_map, h]
  rfl)
theorem parts_at {x y z d : Int} (hx : d ∣ x) (hy : d ∣ y) (hz : d ∣ z) {i : Nat} (hi : i < 3) : ∃ f v : Int, [x.fdiv d, y.fdiv d, z.fdiv d][i]? = some f ∧ [x, y, z][i]? = some v ∧ f * d = v := by
  obtain rfl | rfl | rfl : i = 0 ∨ i = 1 ∨ i = 2 := by omega
  · exact ⟨_, _, rfl, rfl, fdiv_back hx⟩
  · exact ⟨_, _, rfl, rfl, fdiv_back hy⟩
  · exact ⟨_, _, rfl, rfl, fdiv_back hz⟩
def pd3 (x y z : Int) : PyData := .tuple [.int x, .int y, .int z]
theorem dp3 {K : PySem.W.Frag} {H : Hp} {u : Addr} {x y z : Int} (h : SqT K H u (zs [x, y, z])) : Dp K H (.ref u) (pd3 x y z) :=
  .tup h (.cons (.int x) (.cons (.int y) (.cons (.int z) .nil)))
theorem eqv3 (x y z : Int) : PyData.eqv (pd3 x y z) (pd3 x y z) = true := by
  unfold pd3
  simp [PyData.eqv, PyData.eqvAll]

def sgn (i : Int) : Int := if i < 0 then -1 else if 0 < i then 1 else 0
theorem sgn_mul {a b : Int} (hb : 0 < b) : sgn (a * b) = sgn a := by
  have h := neg_mul_iff (v := a) hb
  have h2 : 0 < a * b ↔ 0 < a := by
    constructor
    · intro z
      have h3 : ¬ a < 0 := fun y => by
        have := h.1.mpr y
        omega
      have h4 : ¬ a = 0 := fun y => by
        have := h.2.mpr y
        omega
      omega
    · exact fun z => Int.mul_pos z hb
  unfold sgn
  by_cases h3 : a < 0
  · rw [if_pos h3, if_pos (h.1.mpr h3)]
  · rw [if_neg h3, if_neg (fun z => h3 (h.1.mp z))]
    by_cases h4 : 0 < a
    · rw [if_pos h4, if_pos (h2.mpr h4)]
    · rw [if_neg h4, if_neg (fun z => h4 (h2.mp z))]
theorem sg_pos {n d : Int} (h : 0 < d) : 0 < sg n d := by
  have hg : 0 < Nat.gcd n.natAbs d.natAbs := Nat.gcd_pos_of_pos_right _ (by omega)
  unfold sg
  rw [if_neg (by omega)]
  omega
/-- the sign of a fraction is that of its numerator, before and behind -/
theorem sgn_low {n d : Int} (h : 0 < d) : sgn (n.fdiv (sg n d)) = sgn n := by
  have h1 := fdiv_back (sg_dn n d)
  have h2 := sgn_mul (a := n.fdiv (sg n d)) (sg_pos (n := n) h)
  rw [h1] at h2
  exact h2.symm
theorem rd2_le {n d : Int} (hd : d ≠ 0) : ∃ p q, rd2 n d = [p, q] ∧ p.natAbs ≤ n.natAbs ∧ q.natAbs ≤ d.natAbs ∧ Fr n d p q :=
  have f := fr_of (n := n) hd
  ⟨_, _, rfl, part_le f.hp (sg_ne hd), part_le f.hq (sg_ne hd), f⟩
/-- a sum of two, each brought to lowest terms -/
theorem rd2_plus {a b c d p q r s : Int} (f : Fr a b p q) (g : Fr c d r s) (hb : 0 < b) (hd : 0 < d) : rd2 (p * s + r * q) (q * s) = rd2 (a * d + c * b) (b * d) := by
  have q0 := f.q0
  have s0 := g.q0
  have c1 := f.cross
  have c2 := g.cross
  exact rd2_eq (Int.mul_pos q0 s0) (Int.mul_pos hb hd) (by grind)
/-- what is in lowest terms stays -/
theorem low_of {p q : Int} (h : Nat.gcd p.natAbs q.natAbs = 1) (hq : 0 < q) : rd2 p q = [p, q] := by
  have f := fr_of (n := p) (show q ≠ 0 by omega)
  have c := f.cross
  have u := low_uniq f.one h f.q0 hq (by rw [f.cross])
  unfold rd2
  rw [u.1, u.2]
theorem fr_low {n d p q : Int} (f : Fr n d p q) : rd2 p q = [p, q] := low_of f.one f.q0
theorem eu_far2 {a b n : Nat} (hn : 3601 ≤ n) (ha : a < 2 ^ 1800) (hb : b < 2 ^ 1800) : 2 * (a * b) < 2 ^ n := by
  have h1 : a * b < 2 ^ 1800 * 2 ^ 1800 := Nat.mul_lt_mul'' ha hb
  rw [← Nat.pow_add] at h1
  have h2 : (2 : Nat) ^ 3601 ≤ 2 ^ n := Nat.pow_le_pow_right (by decide) hn
  rw [show (3601 : Nat) = 1 + (1800 + 1800) from rfl, Nat.pow_add] at h2
  generalize (2 : Nat) ^ (1800 + 1800) = B at *
  generalize (2 : Nat) ^ n = C at *
  omega
theorem rd2_eq0 {n d n' d' : Int} (hd : d ≠ 0) (hd' : d' ≠ 0) (h : n * d' = n' * d) : rd2 n d = rd2 n' d' := by
  have f := fr_of (n := n) hd
  have f' := fr_of (n := n') hd'
  have c1 := f.cross
  have c2 := f'.cross
  unfold rd2
  generalize n.fdiv (sg n d) = p at f c1
  generalize d.fdiv (sg n d) = q at f c1
  generalize n'.fdiv (sg n' d') = r at f' c2
  generalize d'.fdiv (sg n' d') = s at f' c2
  have e : p * s = r * q := by
    have h1 : (p * s) * (d * d') = (r * q) * (d * d') := by grind
    exact Int.eq_of_mul_eq_mul_right (Int.mul_ne_zero hd hd') h1
  have u := low_uniq f.one f'.one f.q0 f'.q0 e
  rw [u.1, u.2]

/-- a row of fractions: where each stands, its two numbers -/
structure Rows (K : PySem.W.Frag) (H : Hp) (ws : List (Addr × Int × Int)) : Prop where
  at_ : ∀ w ∈ ws, SqT K H w.1 (zs [w.2.1, w.2.2])
  b1 : ∀ w ∈ ws, w.2.1.natAbs < 2 ^ 40
  b2 : ∀ w ∈ ws, w.2.2.natAbs < 2 ^ 40
  b3 : ∀ w ∈ ws, 0 < w.2.2
  few : ws.length ≤ 9
theorem Rows.nil {K : PySem.W.Frag} {H : Hp} : Rows K H [] :=
  ⟨(fun _ h => nomatch h), (fun _ h => nomatch h), (fun _ h => nomatch h), (fun _ h => nomatch h), by decide⟩
def rf (ws : List (Addr × Int × Int)) : List V := ws.map fun w => V.ref w.1
theorem Rows.same {K : PySem.W.Frag} {H H' : Hp} {ws : List (Addr × Int × Int)} (r : Rows K H ws) (s : Same H H') : Rows K H' ws :=
  ⟨fun w hw => same_tup s (r.at_ w hw), r.b1, r.b2, r.b3, r.few⟩
theorem Rows.take {K : PySem.W.Frag} {H : Hp} {ws : List (Addr × Int × Int)} (r : Rows K H ws) (i : Nat) : Rows K H (ws.take i) :=
  ⟨fun w hw => r.at_ w (List.mem_of_mem_take hw), fun w hw => r.b1 w (List.mem_of_mem_take hw), fun w hw => r.b2 w (List.mem_of_mem_take hw), fun w hw => r.b3 w (List.mem_of_mem_take hw), by
    rw [List.length_take]
    have := r.few
    omega⟩
theorem rf_get {ws : List (Addr × Int × Int)} {i : Nat} {v : V} (h : (rf ws)[i]? = some v) : ∃ w, v = .ref w.1 ∧ ws[i]? = some w := by
  rw [show rf ws = ws.map fun w => V.ref w.1 from rfl, List.getElem?_map] at h
  cases e : ws[i]? with
  | none =>
    rw [e] at h
    cases h
  | some w =>
    rw [e] at h
    exact ⟨w, (Option.some.inj h).symm, rfl⟩
theorem rf_len (ws : List (Addr × Int × Int)) : (rf ws).length = ws.length := List.length_map _
theorem take_sn {α : Type} {l : List α} {i : Nat} {z : α} (h : l[i]? = some z) : l.take (i + 1) = l.take i ++ [z] := by
  rw [List.take_add_one, h]
  rfl
theorem tup_upd {K : PySem.W.Frag} {H : Hp} {a l : Addr} {xs ys : List V} {o : HO} (h : SqT K H a xs) (hl : H l = some (.lst ys)) : SqT K (upd H l o) a xs := by
  rcases h with (h | ⟨ob, h⟩) | h
  · refine .inl (.inl ?_)
    rw [upd_ne (ne_of h hl (by intro z; cases z))]
    exact h
  · refine .inl (.inr ⟨ob, ?_⟩)
    rw [upd_ne (ne_of h hl (by intro z; cases z))]
    exact h
  · exact .inr h
theorem tyx_tup {K : PySem.W.Frag} {H : Hp} {a : Addr} {xs : List V} (h : SqT K H a xs) : TyX K H (.ref a) (.type "tuple") := by
  rcases h with (h | ⟨ob, h⟩) | ⟨o, its, n, h, hc, _⟩
  · exact .base (.tup h)
  · exact .fTuple h
  · exact .kTuple h hc
theorem no_self {x : V} (h : (!decide (x = x)) = true) : False := by
  rw [decide_eq_true rfl] at h
  cases h

section ZipMixed
open PySem PySem.Spec PyProof.Rows
/-- a list or a tuple that stands still -/
def SqB (f : Bool) (K : PySem.W.Frag) (H : Hp) (q : Addr) (vs : List V) : Prop := bif f then SqT K H q vs else SqL K H q vs
def ItB (f : Bool) (h : Heap) (it q : Addr) (i : Nat) : Prop := bif f then h.IsTupleIter it q i else h.IsListIter it q i
def AtB (f : Bool) (h : Heap) (q : Addr) (us : Array Value) : Prop := bif f then h.IsTuple q us else h.IsList q us
def oB (f : Bool) (q : Addr) : Obj := bif f then { cls := .type "tuple_iterator", data := .fields #[.ref q, .int 0 0] } else { cls := .type "list_iterator", data := .fields #[.ref q, .int 0 0] }
theorem ItB.live {f : Bool} {h : Heap} {it q : Addr} {i : Nat} (s : ItB f h it q i) : ∃ o, h.get? it = some o ∧ ∀ v, o.data ≠ .cell v := by
  cases f
  · obtain ⟨o, e, _, d⟩ := s
    exact ⟨o, e, fun v z => by rw [d] at z; cases z⟩
  · obtain ⟨o, e, _, d⟩ := s
    exact ⟨o, e, fun v z => by rw [d] at z; cases z⟩
theorem ItB.keep {f : Bool} {h h' : Heap} {it q : Addr} {i : Nat} (s : ItB f h it q i) (k : ∀ o, h.get? it = some o → h'.get? it = some o) : ItB f h' it q i := by
  cases f
  · exact Heap.IsListIter.at s k
  · exact Heap.IsTupleIter.at s k
theorem SqB.at_ {X : Cx} {pins : List (Addr × Obj)} {σ : L2.St} {H : Hp} {s : Shared} {f : Bool} {q : Addr} {vs : List V} (I : Inv X pins σ H s) (h : SqB f X.K H q vs) :
    ∃ us : List Value, Vals vs us ∧ AtB f s.heap q us.toArray := by
  cases f
  · obtain ⟨us, rv, p, _⟩ := I.list h
    exact ⟨us, rv, p.isList⟩
  · obtain ⟨us, rv, p, _⟩ := I.tuple h
    exact ⟨us, rv, p⟩
theorem SqB.inj {X : Cx} {pins : List (Addr × Obj)} {σ : L2.St} {H : Hp} {s : Shared} {f : Bool} {q : Addr} {vs ws : List V} (I : Inv X pins σ H s) (h : SqB f X.K H q vs) (h2 : SqB f X.K H q ws) : vs = ws := by
  cases f
  · exact I.list_inj h h2
  · exact I.tuple_inj h h2
theorem drawsB {P : Program} {w : World} {A : Around} (hh : A.handled = none) (f : Bool) (it q : Addr) (hne : q ≠ it) (us : Array Value) :
    Draws P w A it [it, q] us.size (fun i v => us[i]? = some v) (fun i h => ItB f h it q i ∧ AtB f h q us) := by
  cases f
  · exact Draws.list hh it q hne us
  · exact Draws.tuple hh it q hne us
theorem beginsB (f : Bool) (q : Addr) (us : Array Value) : Begins (.ref q) (oB f q) fun h => AtB f h q us := by
  cases f
  · exact begins_list q us
  · exact begins_tuple q us
theorem AtB.lt {f : Bool} {h : Heap} {q : Addr} {us : Array Value} (p : AtB f h q us) : q < h.objs.size := by
  cases f
  · obtain ⟨o, e, _⟩ := p
    exact Heap.lt_size e
  · obtain ⟨o, e, _⟩ := p
    exact Heap.lt_size e
theorem oB_it {f : Bool} {h : Heap} {it q : Addr} (e : h.get? it = some (oB f q)) : ItB f h it q 0 := by
  cases f
  · exact ⟨_, e, rfl, rfl⟩
  · exact ⟨_, e, rfl, rfl⟩
theorem sep_of {z TI TO i1 i2 a b : Addr} (D : ZipApart z TI TO i1 i2 a b) : ZipSep2 z TI TO i1 i2 [i1, a] [i2, b] where
  TIz := D.TIz
  TOz := D.TOz
  TITO := D.TITO
  TIi1 := D.TIi1
  mem1 := by simp
  zf1 := by simp [D.i1z.symm, D.l1z.symm]
  Tf1 := by simp [D.TOi1, D.l1TO.symm]
  TIi2 := D.TIi2
  mem2 := by simp
  zf2 := by simp [D.i2z.symm, D.l2z.symm]
  Tf2 := by simp [D.TOi2, D.l2TO.symm]
  sep1_2 := by simp [D.i12, D.l2i1.symm]
  sep2_1 := by simp [D.i12.symm, D.l1i2.symm]
/-- the two as they stand at each turn, what they hold in new pairs -/
def ItzB (f g : Bool) (K : PySem.W.Frag) (a b : Addr) : It :=
  ⟨fun i H => ∃ (xs ys : List V) (x y : V), SqB f K H a xs ∧ SqB g K H b ys ∧ xs[i]? = some x ∧ ys[i]? = some y,
    fun i H v H' => ∃ T x y, v = .ref T ∧ H T = none ∧ H' = upd H T (.tup [x, y]) ∧ (∀ xs, SqB f K H a xs → xs[i]? = some x) ∧ ∀ ys, SqB g K H b ys → ys[i]? = some y,
    fun i H => ∃ xs ys : List V, SqB f K H a xs ∧ SqB g K H b ys ∧ i ≤ xs.length ∧ i ≤ ys.length ∧ (i = xs.length ∨ i = ys.length)⟩
theorem turn_zipB {P : Program} {w : World} {K : PySem.W.Frag} {elts : List Expr} {kk : Nat} {tpos : Pos} {a b z TI TO i1 i2 : Addr} (f g : Bool) (D : ZipApart z TI TO i1 i2 a b) :
    Turn P w K (.Tuple elts kk tpos) (ItzB f g K a b) [z, TI, TO, i1, i2] z (fun i h => IsZip h z TI TO .none ∧ IsPair h TI (.ref i1) (.ref i2) ∧ (∃ x y, IsPair h TO x y) ∧ ItB f h i1 a i ∧ ItB g h i2 b i) where
  mem := by simp
  obj := fun i h st c hc => by
    obtain ⟨hz, hTI, ⟨x, y, hTO⟩, h1, h2⟩ := st
    have e' : c = z ∨ c = TI ∨ c = TO ∨ c = i1 ∨ c = i2 := by simpa using hc
    rcases e' with rfl | rfl | rfl | rfl | rfl
    · exact ⟨_, hz, fun v q => nomatch q⟩
    · exact ⟨_, hTI, fun v q => nomatch q⟩
    · exact ⟨_, hTO, fun v q => nomatch q⟩
    · exact h1.live
    · exact h2.live
  keep := fun i h h' st k => by
    obtain ⟨hz, hTI, ⟨x, y, hTO⟩, h1, h2⟩ := st
    exact ⟨k z (by simp) _ hz, k TI (by simp) _ hTI, ⟨x, y, k TO (by simp) _ hTO⟩, h1.keep fun o q => k i1 (by simp) o q, h2.keep fun o q => k i2 (by simp) o q⟩
  item := by
    intro X hP hw hK hc i pins s σ H E I hf st hg
    subst hP hw hK
    obtain ⟨hz, hTI, ⟨x0, y0, hTO⟩, h1, h2⟩ := st
    obtain ⟨xs, ys, x, y, hqx, hqy, hx, hy⟩ := hg
    obtain ⟨us, rv, p⟩ := hqx.at_ I
    obtain ⟨us2, rv2, p2⟩ := hqy.at_ I
    obtain ⟨u, hu, ru⟩ := rv.get hx
    obtain ⟨u2, hu2, ru2⟩ := rv2.get hy
    have hzl : z < s.heap.objs.size := Heap.lt_size hz
    have lx : i < us.toArray.size := by
      have := (List.getElem?_eq_some_iff.mp hu).1
      simpa using this
    have ly : i < us2.toArray.size := by
      have := (List.getElem?_eq_some_iff.mp hu2).1
      simpa using this
    have hhd : X.A.in1.handled = none := I.ok.hd hc
    refine wpAny_pyNext_zipD2_item (sep_of D) (drawsB hhd f i1 a D.l1i1 us.toArray) (drawsB hhd g i2 b D.l2i2 us2.toArray) hz hTI hTO ⟨h1, p⟩ ⟨h2, p2⟩ lx ly fun v1 v2 h' tk e1 e2 z' TO' st1 st2 hT hsz hk => ?_
    have w1 : v1 = u := by
      have : us[i]? = some v1 := by simpa using e1
      rw [hu] at this
      exact (Option.some.inj this).symm
    have w2 : v2 = u2 := by
      have : us2[i]? = some v2 := by simpa using e2
      rw [hu2] at this
      exact (Option.some.inj this).symm
    subst w1 w2
    refine ⟨_, rfl, wpAny_letOwnedTupleGo_zip (s := { s with heap := h', toks := tk }) z' fun h'' z'' sb => ?_⟩
    have hT2 : h''.get? s.heap.objs.size = some { cls := .type "tuple", data := .seq #[v1, v2] } := (sb.2 _ (Nat.ne_of_gt hzl)).trans hT
    have new : ObjOk X.prog X.w (upd H s.heap.objs.size (.tup [x, y])) h'' s.heap.objs.size (.tup [x, y]) :=
      ⟨by show 2 ≤ sizeLine; decide, [v1, v2], .cons ru (.cons ru2 .nil), ⟨_, hT2, rfl, _, rfl⟩⟩
    have I1 : Inv X pins σ (upd H s.heap.objs.size (.tup [x, y])) { s with heap := h'', toks := tk } :=
      I.turnedNew (t' := tk) (ch := [z, TI, TO, i1, i2]) (fun c o hb q => (sb.2 c (fun q' => hb (by simp [q']))).trans (hk c o (fun q' => hb (by simp [q'])) (fun q' => hb (by simp [q'])) (fun q' => hb (by simp [q'])) (fun q' => hb (by simp [q'])) q)) hf (Nat.le_refl _) new
    refine ⟨.ref s.heap.objs.size, _, I1, rfl, ⟨_, x, y, rfl, I.hok.fresh (Nat.le_refl _), rfl, fun l hl => by rw [hl.inj I hqx]; exact hx, fun l hl => by rw [hl.inj I hqy]; exact hy⟩, ⟨z'', ?_, ⟨v1, v2, ?_⟩, ?_, ?_⟩, fun c hcm => ?_⟩
    · exact (sb.2 _ D.TIz).trans (hk _ _ D.TIz D.TITO D.TIi1 D.TIi2 hTI)
    · exact (sb.2 _ D.TOz).trans TO'
    · exact st1.1.keep fun o q => (sb.2 _ D.i1z).trans q
    · exact st2.1.keep fun o q => (sb.2 _ D.i2z).trans q
    · have hlt : c < s.heap.objs.size := by
        have e' : c = z ∨ c = TI ∨ c = TO ∨ c = i1 ∨ c = i2 := by simpa using hcm
        rcases e' with rfl | rfl | rfl | rfl | rfl
        · exact hzl
        · exact Heap.lt_size hTI
        · exact Heap.lt_size hTO
        · obtain ⟨_, e1, _⟩ := h1.live; exact Heap.lt_size e1
        · obtain ⟨_, e1, _⟩ := h2.live; exact Heap.lt_size e1
      rw [upd_ne (Nat.ne_of_lt hlt)]
      exact (hf c hcm).1
  done := by
    intro X hP hw hK hc i pins s σ H E I hf st hg
    subst hP hw hK
    obtain ⟨hz, hTI, ⟨x0, y0, hTO⟩, h1, h2⟩ := st
    obtain ⟨xs, ys, hqx, hqy, hend1, hend2, hend3⟩ := hg
    obtain ⟨us, rv, p⟩ := hqx.at_ I
    obtain ⟨us2, rv2, p2⟩ := hqy.at_ I
    have l1 := rv.length
    have l2 := rv2.length
    have hhd : X.A.in1.handled = none := I.ok.hd hc
    have z1 : us.toArray.size = us.length := by simp
    have z2 : us2.toArray.size = us2.length := by simp
    exact wpAny_pyNext_zipD2_end (sep_of D) (drawsB hhd f i1 a D.l1i1 us.toArray) (drawsB hhd g i2 b D.l2i2 us2.toArray) hz hTI hTO ⟨h1, p⟩ ⟨h2, p2⟩ (by omega) (by omega) (by omega) fun h' tk hk => ⟨rfl, I.turnedL (t' := tk) (ch := [z, TI, TO, i1, i2]) (fun c o hb q =>
      hk c o (fun q' => hb (by simp [q'])) (fun q' => hb (by simp [q'])) (fun q' => hb (by simp [q'])) (fun q' => hb (by simp [q'])) q) hf⟩
  self := fun A i s Q E st h => wpAny_pyIter_zip st.1 h
def iZipB (K : PySem.W.Frag) (ta : TA) : TI := fun σ H R => ta σ H fun vs H1 => ∃ (f g : Bool) (a b : Addr) (xs ys : List V), vs = [.ref a, .ref b] ∧ SqB f K H1 a xs ∧ SqB g K H1 b ys ∧ R (ItzB f g K a b) H1
theorem pi_zipB {X : Cx} {e e2 : Expr} {ta : TA} {p pos tpos : Pos} {elts : List Expr} {kk : Nat} (hg : Gl X "zip") (hm : X.mg "zip" = none) (ha : PA X [e, e2] ta)
    (hs : starEach [e, e2] X.env = (false, eval e X.env) :: starEach [e2] X.env := by rfl) (hpl : (backTo pos (starEach [e2] X.env)).any (·.1) = false := by rfl) :
    PI X (.Tuple elts kk tpos) (.Call (.Name "zip" p) [e, e2] [] pos) (iZipB X.K ta) := by
  refine ⟨fun pins s σ H R I h => ?_⟩
  refine Call_ (ld_blt I hg hm PyProof.Rows.boot_zip (PyProof.Rows.callWith_type1 (thn (ha.run pos pins s σ H _ I h) fun us s1 ⟨vs, H1, I1, r1, q1⟩ => ?_) hs hpl))
  obtain ⟨f, g, a, b, xs, ys, rfl, hqx, hqy, q⟩ := q1
  obtain ⟨u1, u2, rfl, r, r'⟩ := vals2 r1
  cases r
  cases r'
  obtain ⟨_, rv, p1⟩ := hqx.at_ I1
  obtain ⟨_, rv2, p2⟩ := hqy.at_ I1
  refine zip_begins2 (beginsB f a _) (beginsB g b _) p1 p2 fun h' hz hTI hTO h1 h2 hsz hk => wpAny_pyIter_zip hz ?_
  have I2 : Inv X pins σ H1 { s1 with heap := h' } := I1.kept (t' := s1.toks) hk
  refine ⟨s1.heap.objs.size + 4, [s1.heap.objs.size + 4, s1.heap.objs.size + 2, s1.heap.objs.size + 3, s1.heap.objs.size, s1.heap.objs.size + 1], _, _, H1, rfl, I2, turn_zipB f g (PySem.W.ktu_apart s1.heap.objs.size a b p1.lt p2.lt), ⟨hz, hTI, ⟨_, _, hTO⟩, oB_it h1, oB_it h2⟩, fun c hcm => ?_, q⟩
  have e' : c = s1.heap.objs.size + 4 ∨ c = s1.heap.objs.size + 2 ∨ c = s1.heap.objs.size + 3 ∨ c = s1.heap.objs.size ∨ c = s1.heap.objs.size + 1 := by simpa using hcm
  have hle : s1.heap.objs.size ≤ c := by
    rcases e' with z | z | z | z | z
    · rw [z]; exact Nat.le_add_right _ _
    · rw [z]; exact Nat.le_add_right _ _
    · rw [z]; exact Nat.le_add_right _ _
    · rw [z]; exact Nat.le_refl _
    · rw [z]; exact Nat.le_add_right _ _
  exact I1.fpOk hle (I1.hok.fresh hle)
theorem walk_zipB {f g : Bool} {K : PySem.W.Frag} {a b : Addr} {xs ys : List V} {n : Nat} (hn : n = min xs.length ys.length) : Walk (ItzB f g K a b) n (fun H => SqB f K H a xs ∧ SqB g K H b ys) (YPair (fun i => xs[i]?) (fun i => ys[i]?)) := by
  subst hn
  refine ⟨fun i _ hi q => ?_, fun _ q => ⟨xs, ys, q.1, q.2, by omega, by omega, by omega⟩, fun i H v H' _ q y => ?_⟩
  · have h1 : i < xs.length := by omega
    have h2 : i < ys.length := by omega
    exact ⟨xs, ys, xs[i], ys[i], q.1, q.2, by simp [h1], by simp [h2]⟩
  · obtain ⟨T, u, u2, h1, h2, h3, h4, h5⟩ := y
    exact ⟨T, u, u2, h1, h2, h3, h4 xs q.1, h5 ys q.2⟩
end ZipMixed

theorem rat_rd {n d : Int} (hd : d ≠ 0) : rd2 n d = [(Rat.divInt n d).num, ((Rat.divInt n d).den : Int)] := by
  have h0 : ((Rat.divInt n d).den : Int) ≠ 0 := by
    have := (Rat.divInt n d).den_nz
    omega
  have e : Rat.divInt n d = Rat.divInt (Rat.divInt n d).num ((Rat.divInt n d).den : Int) := (Rat.num_divInt_den _).symm
  have c := (Rat.divInt_eq_divInt_iff hd h0).mp e
  rw [rd2_eq0 hd h0 c]
  exact low_of (Rat.divInt n d).reduced (by have := (Rat.divInt n d).den_nz; omega)
/-- a fraction that stands at an address -/
def Fx (K : PySem.W.Frag) (H : Hp) (a : Addr) (r : Rat) : Prop := SqT K H a (zs [r.num, (r.den : Int)])
theorem Fx.same {K : PySem.W.Frag} {H H' : Hp} {a : Addr} {r : Rat} (h : Fx K H a r) (s : Same H H') : Fx K H' a r := same_tup s h
theorem fx_rd {K : PySem.W.Frag} {H : Hp} {a : Addr} {n d : Int} (hd : d ≠ 0) (h : H a = some (.tup (zs (rd2 n d)))) : Fx K H a (Rat.divInt n d) := by
  unfold Fx
  rw [← rat_rd hd]
  exact SqT.of h
theorem fx_at {K : PySem.W.Frag} {H : Hp} {a : Addr} {r : Rat} (h : H a = some (.tup (zs [r.num, (r.den : Int)]))) : Fx K H a r := SqT.of h
def Bd (n : Nat) (r : Rat) : Prop := r.num.natAbs < 2 ^ n ∧ r.den < 2 ^ n
theorem Bd.up {n m : Nat} {r : Rat} (h : Bd n r) (hm : n ≤ m) : Bd m r :=
  ⟨Nat.lt_of_lt_of_le h.1 (Nat.pow_le_pow_right (by decide) hm), Nat.lt_of_lt_of_le h.2 (Nat.pow_le_pow_right (by decide) hm)⟩
theorem Bd.den {n : Nat} {r : Rat} (h : Bd n r) : ((r.den : Nat) : Int).natAbs < 2 ^ n := h.2
theorem den_pos (r : Rat) : (0 : Int) < (r.den : Int) := by
  have := r.den_nz
  omega
theorem den_ne (r : Rat) : ((r.den : Nat) : Int) ≠ 0 := by
  have := den_pos r
  omega
theorem bd_of {n d : Int} {k : Nat} (hd : d ≠ 0) (h1 : n.natAbs < 2 ^ k) (h2 : d.natAbs < 2 ^ k) : Bd k (Rat.divInt n d) := by
  obtain ⟨p, q, e, l1, l2, _⟩ := rd2_le (n := n) hd
  rw [rat_rd hd] at e
  have e1 : (Rat.divInt n d).num = p := by injection e
  have e2 : ((Rat.divInt n d).den : Int) = q := by
    injection e with _ e
    injection e
  refine ⟨by rw [e1]; omega, ?_⟩
  have : (Rat.divInt n d).den = q.natAbs := by rw [← e2]; rfl
  omega
theorem add_div (r s : Rat) : r + s = Rat.divInt (r.num * s.den + s.num * r.den) (r.den * s.den) := by
  rw [Rat.add_def', Rat.divInt_eq_div, Rat.mkRat_eq_div]
  rfl
theorem sub_div (r s : Rat) : r - s = Rat.divInt (r.num * s.den - s.num * r.den) (r.den * s.den) := by
  rw [Rat.sub_def', Rat.divInt_eq_div, Rat.mkRat_eq_div]
  rfl
theorem mul_div (r s : Rat) : r * s = Rat.divInt (r.num * s.num) (r.den * s.den) := by
  rw [Rat.mul_def', Rat.divInt_eq_div, Rat.mkRat_eq_div]
  rfl
theorem dd_ne (r s : Rat) : ((r.den : Int) * (s.den : Int)) ≠ 0 := Int.mul_ne_zero (den_ne r) (den_ne s)
theorem pow_two_add (a b : Nat) : (2 : Nat) ^ (a + b + 1) = 2 * 2 ^ (a + b) := by
  rw [Nat.pow_succ, Nat.mul_comm]
theorem wl {x y : Int} {a b : Nat} (h : x.natAbs < 2 ^ a) (h2 : y.natAbs < 2 ^ b) : (x * y).natAbs < 2 ^ (a + b) := by
  rw [Int.natAbs_mul, Nat.pow_add]
  exact Nat.mul_lt_mul'' h h2
theorem Bd.mul {a b : Nat} {r s : Rat} (h : Bd a r) (h2 : Bd b s) : Bd (a + b) (r * s) := by
  rw [mul_div]
  exact bd_of (dd_ne r s) (wl h.1 h2.1) (wl h.den h2.den)
theorem Bd.add {a b : Nat} {r s : Rat} (h : Bd a r) (h2 : Bd b s) : Bd (a + b + 1) (r + s) := by
  rw [add_div]
  have e := pow_two_add a b
  have w1 := wl h.1 h2.den
  have w2 := wl h2.1 h.den
  have w3 := wl h.den h2.den
  rw [Nat.add_comm b a] at w2
  have := Int.natAbs_add_le (r.num * (s.den : Int)) (s.num * (r.den : Int))
  exact bd_of (dd_ne r s) (by omega) (by omega)
theorem Bd.sub {a b : Nat} {r s : Rat} (h : Bd a r) (h2 : Bd b s) : Bd (a + b + 1) (r - s) := by
  rw [sub_div]
  have e := pow_two_add a b
  have w1 := wl h.1 h2.den
  have w2 := wl h2.1 h.den
  have w3 := wl h.den h2.den
  rw [Nat.add_comm b a] at w2
  have := Int.natAbs_sub_le (r.num * (s.den : Int)) (s.num * (r.den : Int))
  exact bd_of (dd_ne r s) (by omega) (by omega)
theorem Bd.neg {a : Nat} {r : Rat} (h : Bd a r) : Bd a (-r) := by
  refine ⟨?_, ?_⟩
  · rw [Rat.neg_num, Int.natAbs_neg]
    exact h.1
  · rw [Rat.neg_den]
    exact h.2
theorem bd_zero : Bd 1 0 := ⟨by decide, by decide⟩
theorem bd_one : Bd 1 1 := ⟨by decide, by decide⟩
def pdr (r : Rat) : PyData := pd2 r.num (r.den : Int)
theorem dpr {K : PySem.W.Frag} {H : Hp} {a : Addr} {r : Rat} (h : Fx K H a r) : Dp K H (.ref a) (pdr r) := dp2 h
theorem eqvr (r s : Rat) : PyData.eqv (pdr r) (pdr s) = decide (r = s) := by
  unfold pdr pd2
  simp only [PyData.eqv, PyData.eqvAll, Bool.and_true]
  by_cases h : r = s
  · subst h
    simp
  · rw [decide_eq_false h]
    by_cases h1 : r.num = s.num
    · have h2 : ¬ r.den = s.den := fun z => h (Rat.ext h1 z)
      simp [h1]
      omega
    · simp [h1]
/-- a row of fractions: where each stands, what it is -/
def Rx (K : PySem.W.Frag) (H : Hp) (ws : List (Addr × Rat)) : Prop := ∀ w ∈ ws, Fx K H w.1 w.2
def fr (ws : List (Addr × Rat)) : List V := ws.map fun w => V.ref w.1
theorem Rx.same {K : PySem.W.Frag} {H H' : Hp} {ws : List (Addr × Rat)} (h : Rx K H ws) (s : Same H H') : Rx K H' ws := fun w hw => (h w hw).same s
theorem fr_len (ws : List (Addr × Rat)) : (fr ws).length = ws.length := List.length_map _
theorem fr_get {ws : List (Addr × Rat)} {i : Nat} {v : V} (h : (fr ws)[i]? = some v) : ∃ w, v = .ref w.1 ∧ ws[i]? = some w := by
  rw [show fr ws = ws.map fun w => V.ref w.1 from rfl, List.getElem?_map] at h
  cases e : ws[i]? with
  | none =>
    rw [e] at h
    cases h
  | some w =>
    rw [e] at h
    exact ⟨w, (Option.some.inj h).symm, rfl⟩
theorem fr_at {ws : List (Addr × Rat)} {i : Nat} {r : Rat} (h : (ws.map (·.2))[i]? = some r) : ∃ t, (fr ws)[i]? = some (.ref t) ∧ (t, r) ∈ ws := by
  rw [List.getElem?_map] at h
  cases e : ws[i]? with
  | none =>
    rw [e] at h
    cases h
  | some w =>
    rw [e] at h
    have : w.2 = r := Option.some.inj h
    subst this
    refine ⟨w.1, ?_, List.mem_of_getElem? e⟩
    rw [show fr ws = ws.map fun w => V.ref w.1 from rfl, List.getElem?_map, e]
    rfl
theorem dpAll {K : PySem.W.Frag} {H : Hp} : ∀ {ws : List (Addr × Rat)}, Rx K H ws → DpAll K H (fr ws) ((ws.map (·.2)).map pdr)
  | [], _ => .nil
  | w :: ws, h => .cons (dpr (h w List.mem_cons_self)) (dpAll fun x hx => h x (List.mem_cons_of_mem _ hx))
theorem eqvAllr : ∀ rs ss : List Rat, PyData.eqvAll (rs.map pdr) (ss.map pdr) = decide (rs = ss)
  | [], [] => rfl
  | [], _ :: _ => rfl
  | _ :: _, [] => rfl
  | r :: rs, s :: ss => by
    rw [List.map_cons, List.map_cons, PyData.eqvAll, eqvr, eqvAllr rs ss]
    by_cases h1 : r = s
    · by_cases h2 : rs = ss
      · simp [h1, h2]
      · simp [h1, h2]
    · simp [h1]
theorem shr (rs : List Rat) : PyData.canLayAll0 (rs.map pdr) = true ∧ PyData.depthAll (rs.map pdr) ≤ 1 := by
  induction rs with
  | nil => decide
  | cons r rs ih =>
    rw [List.map_cons, PyData.canLayAll0, PyData.depthAll, ih.1]
    exact ⟨rfl, Nat.max_le.mpr ⟨Nat.le_refl 1, ih.2⟩⟩
theorem shrl (rs : List Rat) : SeqAt.shaped (.list (rs.map pdr)) = true := by
  have h1 := (shr rs).1
  have h2 := (shr rs).2
  unfold SeqAt.shaped
  rw [PyData.canLay0, PyData.depth, h1, decide_eq_true (by omega)]
  rfl
theorem shrt (rs : List Rat) : SeqAt.shaped (.tuple (rs.map pdr)) = true := by
  have h1 := (shr rs).1
  have h2 := (shr rs).2
  unfold SeqAt.shaped
  rw [PyData.canLay0, PyData.depth, h1, decide_eq_true (by omega)]
  rfl
/-- a value along parameters: its base, its slopes -/
def Vx (K : PySem.W.Frag) (H : Hp) (t : Addr) (b : Rat) (ss : List Rat) : Prop := ∃ (p q : Addr) (ws : List (Addr × Rat)), SqT K H t [.ref p, .ref q] ∧ Fx K H p b ∧ SqT K H q (fr ws) ∧ Rx K H ws ∧ ws.map (·.2) = ss
theorem Vx.same {K : PySem.W.Frag} {H H' : Hp} {t : Addr} {b : Rat} {ss : List Rat} (h : Vx K H t b ss) (s : Same H H') : Vx K H' t b ss := by
  obtain ⟨p, q, ws, h1, h2, h3, h4, h5⟩ := h
  exact ⟨p, q, ws, same_tup s h1, h2.same s, same_tup s h3, h4.same s, h5⟩
def pdv (b : Rat) (ss : List Rat) : PyData := .tuple [pdr b, .tuple (ss.map pdr)]
theorem dpv {K : PySem.W.Frag} {H : Hp} {t : Addr} {b : Rat} {ss : List Rat} (h : Vx K H t b ss) : Dp K H (.ref t) (pdv b ss) := by
  obtain ⟨p, q, ws, h1, h2, h3, h4, rfl⟩ := h
  exact .tup h1 (.cons (dpr h2) (.cons (.tup h3 (dpAll h4)) .nil))
theorem eqvv (b c : Rat) (ss us : List Rat) : PyData.eqv (pdv b ss) (pdv c us) = decide (b = c ∧ ss = us) := by
  unfold pdv
  rw [PyData.eqv, PyData.eqvAll, PyData.eqvAll, PyData.eqvAll, eqvr, PyData.eqv, eqvAllr]
  by_cases h1 : b = c
  · by_cases h2 : ss = us
    · simp [h1, h2]
    · simp [h1, h2]
  · simp [h1]
theorem shv (b : Rat) (ss : List Rat) : SeqAt.shaped (pdv b ss) = true := by
  have h1 := (shr ss).1
  have h2 := (shr ss).2
  unfold SeqAt.shaped pdv
  simp only [PyData.canLay0, PyData.canLayAll0, PyData.depth, PyData.depthAll, h1, pdr, pd2]
  simp
  omega
theorem sh1 (r : Rat) : SeqAt.shaped (pdr r) = true := rfl
theorem over_tup {K : PySem.W.Frag} {H H' : Hp} {t D : Addr} {xs ys : List V} (h : SqT K H t xs) (hl : H D = some (.lst ys)) (s : ∀ b o, b ≠ D → H b = some o → H' b = some o) : SqT K H' t xs := by
  rcases h with (h | ⟨ob, h⟩) | h
  · exact .inl (.inl (s _ _ (ne_of h hl (by intro z; cases z)) h))
  · exact .inl (.inr ⟨ob, s _ _ (ne_of h hl (by intro z; cases z)) h⟩)
  · exact .inr h
/-- a comprehension whose elements are fractions: those of L -/
theorem lc_row {K : PySem.W.Frag} {J : It} {n : Nat} {G : Hp → Prop} {Y : Nat → Hp → V → Hp → Prop} (w : Walk J n G Y) (L : List Rat) (hL : L.length = n) (hz : n ≤ 1000)
    {g : TG} {te : TE} {vs : List Nat} {σ : L2.St} {H1 : Hp} {D : Addr} {Qd : Hp → Prop} (hD : H1 D = none) (hG : ∀ H, Same H1 H → G H)
    (hs : ∀ i r x H H' (k : V → Hp → Prop), L[i]? = some r → Same H1 H → Y i H x H' → (∀ t H4, Same H H4 → Fx K H4 t r → k (.ref t) H4) → g x (wipe σ vs) H' fun σ2 H2 => wipe σ2 vs = wipe σ vs ∧ te σ2 H2 k)
    (hd : ∀ H ws, Same H1 H → H D = some (.lst (fr ws)) → Rx K H ws → ws.map (·.2) = L → Qd H) :
    ∃ W : Nat → Nat → Hp → Prop, (∃ m, W 0 m (upd H1 D (.lst []))) ∧ ∀ i m H, W i m H →
      (J.stop i H ∧ Qd H) ∨ (J.go i H ∧ ∃ Nx : Hp → Prop, (∀ H', Nx H' → ∃ m', m' < m ∧ W (i + 1) m' H') ∧ ∀ x H', J.yld i H x H' → g x (wipe σ vs) H' fun σ2 H2 => wipe σ2 vs = wipe σ vs ∧ tYes σ2 H2 fun b H3 =>
        if b = true then te σ2 H3 fun y H4 => ∃ acc, H4 D = some (.lst acc) ∧ acc.length < sizeLine ∧ Nx (upd H4 D (.lst (acc ++ [y]))) else Nx H3) := by
  subst hL
  refine lc_it w (fun i H => Same H1 H ∧ ∃ ws, H D = some (.lst (fr ws)) ∧ Rx K H ws ∧ ws.map (·.2) = L.take i) ⟨same_upd hD, [], upd_same, (fun _ z => nomatch z), rfl⟩ (fun i H _ h => hG H h.1) ?_ ?_
  · rintro i x H H' hi ⟨s1, ws, e1, r1, m1⟩ y
    have hr : L[i]? = some L[i] := List.getElem?_eq_getElem hi
    have q := hs i L[i] x H H' (fun y H4 => ∃ acc, H4 D = some (.lst acc) ∧ acc.length < sizeLine ∧ (fun H => Same H1 H ∧ ∃ ws, H D = some (.lst (fr ws)) ∧ Rx K H ws ∧ ws.map (·.2) = L.take (i + 1)) (upd H4 D (.lst (acc ++ [y])))) hr s1 y (fun t H4 s4 f4 => ?_)
    · refine Eq.mp (congrArg (g x (wipe σ vs) H') ?_) q
      funext σ2 H2
      simp [tYes]
    · have e4 := s4 _ _ e1
      have hlen : ws.length = (L.take i).length := by rw [← m1, List.length_map]
      rw [List.length_take] at hlen
      refine ⟨fr ws, e4, ?_, fun b o e => ?_, ws ++ [(t, L[i])], ?_, fun v hv => ?_, ?_⟩
      · rw [fr_len]
        exact small1000 (by omega)
      · rw [upd_ne (ne_of_none e hD)]
        exact s4 _ _ (s1 _ _ e)
      · rw [upd_same, show fr (ws ++ [(t, L[i])]) = fr ws ++ [.ref t] from List.map_append]
      · rcases List.mem_append.mp hv with h | h
        · exact over_tup ((r1.same s4) v h) e4 fun b o hb e => by rw [upd_ne hb]; exact e
        · rw [List.mem_singleton.mp h]
          exact over_tup f4 e4 fun b o hb e => by rw [upd_ne hb]; exact e
      · rw [List.map_append, m1, List.take_add_one, hr]
        rfl
  · rintro H ⟨s1, ws, e1, r1, m1⟩
    rw [List.take_length] at m1
    exact hd H ws s1 e1 r1 m1
/-- a comprehension whose elements are plain values: those of L -/
theorem lc_val {J : It} {n : Nat} {G : Hp → Prop} {Y : Nat → Hp → V → Hp → Prop} (w : Walk J n G Y) (L : List V) (hL : L.length = n) (hz : n ≤ 1000)
    {g : TG} {te : TE} {vs : List Nat} {σ : L2.St} {H1 : Hp} {D : Addr} {Qd : Hp → Prop} (hD : H1 D = none) (hG : ∀ H, Same H1 H → G H)
    (hs : ∀ i r x H H' (k : V → Hp → Prop), L[i]? = some r → Same H1 H → Y i H x H' → (∀ H4, Same H H4 → k r H4) → g x (wipe σ vs) H' fun σ2 H2 => wipe σ2 vs = wipe σ vs ∧ te σ2 H2 k)
    (hd : ∀ H, Same H1 H → H D = some (.lst L) → Qd H) :
    ∃ W : Nat → Nat → Hp → Prop, (∃ m, W 0 m (upd H1 D (.lst []))) ∧ ∀ i m H, W i m H →
      (J.stop i H ∧ Qd H) ∨ (J.go i H ∧ ∃ Nx : Hp → Prop, (∀ H', Nx H' → ∃ m', m' < m ∧ W (i + 1) m' H') ∧ ∀ x H', J.yld i H x H' → g x (wipe σ vs) H' fun σ2 H2 => wipe σ2 vs = wipe σ vs ∧ tYes σ2 H2 fun b H3 =>
        if b = true then te σ2 H3 fun y H4 => ∃ acc, H4 D = some (.lst acc) ∧ acc.length < sizeLine ∧ Nx (upd H4 D (.lst (acc ++ [y]))) else Nx H3) := by
  subst hL
  refine lc_it w (fun i H => Same H1 H ∧ H D = some (.lst (L.take i))) ⟨same_upd hD, upd_same⟩ (fun i H _ h => hG H h.1) ?_ ?_
  · rintro i x H H' hi ⟨s1, e1⟩ y
    have hr : L[i]? = some L[i] := List.getElem?_eq_getElem hi
    have q := hs i L[i] x H H' (fun y H4 => ∃ acc, H4 D = some (.lst acc) ∧ acc.length < sizeLine ∧ (fun H => Same H1 H ∧ H D = some (.lst (L.take (i + 1)))) (upd H4 D (.lst (acc ++ [y])))) hr s1 y (fun H4 s4 => ?_)
    · refine Eq.mp (congrArg (g x (wipe σ vs) H') ?_) q
      funext σ2 H2
      simp [tYes]
    · have e4 := s4 _ _ e1
      refine ⟨L.take i, e4, ?_, fun b o e => ?_, ?_⟩
      · rw [List.length_take]
        exact small1000 (by omega)
      · rw [upd_ne (ne_of_none e hD)]
        exact s4 _ _ (s1 _ _ e)
      · rw [upd_same, List.take_add_one, hr]
        rfl
  · rintro H ⟨s1, e1⟩
    rw [List.take_length] at e1
    exact hd H s1 e1
def sumR (l : List Rat) : Rat := l.foldl (· + ·) 0
theorem foldl_sum (b : Rat) (l : List Rat) : l.foldl (· + ·) b = b + sumR l := by
  unfold sumR
  induction l generalizing b with
  | nil => exact (Rat.add_zero b).symm
  | cons x l ih =>
    rw [List.foldl_cons, List.foldl_cons, ih, ih (0 + x)]
    grind
theorem sum_bd {n : Nat} {l : List Rat} (h : ∀ r ∈ l, Bd n r) : ∀ i ≤ l.length, Bd (1 + (n + 1) * i) (sumR (l.take i)) := by
  intro i
  induction i with
  | zero =>
    intro _
    exact bd_zero
  | succ i ih =>
    intro hi
    have e : l[i]? = some l[i] := List.getElem?_eq_getElem (by omega)
    have b1 := ih (by omega)
    have b2 := h l[i] (List.getElem_mem _)
    have e2 : sumR (l.take (i + 1)) = sumR (l.take i) + l[i] := by
      unfold sumR
      rw [List.take_add_one, e, List.foldl_append]
      rfl
    rw [e2]
    refine (b1.add b2).up ?_
    rw [Nat.mul_succ]
    omega

section
open PySem PySem.Spec PyProof.Rows
/-- a tuple, once: itself -/
theorem mul_once (l : Addr) (its : Array Value) (n : Nat) (dt : Option Addr) (sl : Array (Option Value)) (u : Tok) :
    Meets (Builtin.«tuple.__mul__» ⟨[.ref l, .int 1 u], []⟩) (fun _ R s => s.heap.get? l = some { cls := .type "tuple", dict := dt, data := .seq its n, slots := sl } ∧ R (.ok (.ret (Value.ref l))) s) :=
  .of_wp fun prog w A R s h => by
    obtain ⟨hp, g, dw, tk, os⟩ := s; obtain ⟨hl, h⟩ := h
    have ix := AutoSeq1.idx_int
    wp_walk using wpAny_loadPart' hl
    exact ⟨_, rfl, h⟩
/-- a tuple, no times: an empty one -/
theorem mul_none (l : Addr) (its : Array Value) (n : Nat) (dt : Option Addr) (sl : Array (Option Value)) (u : Tok) (hi : its.isEmpty = false) :
    Meets (Builtin.«tuple.__mul__» ⟨[.ref l, .int 0 u], []⟩) (fun _ R s => s.heap.get? l = some { cls := .type "tuple", dict := dt, data := .seq its n, slots := sl } ∧
      R (.ok (.ret (Value.ref s.heap.objs.size))) { s with heap := s.heap.push { cls := Value.type "tuple", data := Data.seq #[] }, toks := s.toks }) :=
  .of_wp fun prog w A R s h => by
    obtain ⟨hp, g, dw, tk, os⟩ := s; obtain ⟨hl, h⟩ := h
    have ix := AutoSeq1.idx_int
    have c1 : (its.isEmpty || (0 : Int) == 1) = false := by rw [hi]; rfl
    wp_walk using wpAny_loadPart' hl
    repeat (first
      | (refine wpAny_ite_false (decide_eq_false (by rw [c1]; exact Bool.false_ne_true)) ?_; wp_walk using wpAny_loadPart' hl))
    exact ⟨_, rfl, h⟩
section
variable {X : Cx}
theorem op_mulOnce : OpR X (binaryOp .Mult) (fun x y H Q => ∃ l xs, x = .ref l ∧ y = .int 1 ∧ SqT X.K H l xs ∧ Q (.ref l) H) := by
  intro pins s σ H x y v u Q I rx ry hh
  obtain ⟨l, xs, rfl, rfl, hT, q⟩ := hh
  obtain rfl : v = .ref l := rx
  obtain ⟨tk1, rfl⟩ := ry
  obtain ⟨its, r, ⟨⟨kl, dt, da, sl⟩, ho, hc, n, hd⟩, _⟩ := I.tuple hT
  dsimp only at hc hd; subst hc hd
  exact wpAny_binaryOp_repeat_ref (T := "tuple") (U := "int") (by decide) ⟨_, ho, rfl⟩ (fun s' => typeIs_int s' 1 tk1) noFill_tuple_mul F.fills_int_mul F.slot_int_rmul repeat_tuple F.slot_int_index.lookup
    (call_meets F.slot_int_rmul (typeIs_int s 1 tk1) F.entry_int_rmul (F.args_int_rmul_2 _ _) (int_rmul_tuple 1 tk1 l its.toArray n dt sl)
      ⟨ho, rfl, ⟨_, ho, rfl⟩, call_meets F.slot_tuple_mul ⟨_, ho, rfl⟩ F.entry_tuple_mul (F.args_tuple_mul_2 _ _) (mul_once l its.toArray n dt sl tk1) ⟨ho, ⟨.ref l, H, I, rfl, q⟩⟩⟩)
theorem op_mulNone : OpR X (binaryOp .Mult) (fun x y H Q => ∃ l xs, x = .ref l ∧ y = .int 0 ∧ SqT X.K H l xs ∧ xs ≠ [] ∧ ∀ p, H p = none → Q (.ref p) (upd H p (.tup []))) := by
  intro pins s σ H x y v u Q I rx ry hh
  obtain ⟨l, xs, rfl, rfl, hT, hne, q⟩ := hh
  obtain rfl : v = .ref l := rx
  obtain ⟨tk1, rfl⟩ := ry
  obtain ⟨its, r, ⟨⟨kl, dt, da, sl⟩, ho, hc, n, hd⟩, _⟩ := I.tuple hT
  dsimp only at hc hd; subst hc hd
  have hi : its.toArray.isEmpty = false := by
    cases r with
    | nil => exact absurd rfl hne
    | cons _ _ => rfl
  exact wpAny_binaryOp_repeat_ref (T := "tuple") (U := "int") (by decide) ⟨_, ho, rfl⟩ (fun s' => typeIs_int s' 0 tk1) noFill_tuple_mul F.fills_int_mul F.slot_int_rmul repeat_tuple F.slot_int_index.lookup
    (call_meets F.slot_int_rmul (typeIs_int s 0 tk1) F.entry_int_rmul (F.args_int_rmul_2 _ _) (int_rmul_tuple 0 tk1 l its.toArray n dt sl)
      ⟨ho, rfl, ⟨_, ho, rfl⟩, call_meets F.slot_tuple_mul ⟨_, ho, rfl⟩ F.entry_tuple_mul (F.args_tuple_mul_2 _ _) (mul_none l its.toArray n dt sl tk1 hi) ⟨ho,
        ⟨.ref s.heap.objs.size, _, I.laid (t' := s.toks) (o := .tup []) (fun b ob e => Heap.get?_push_of_some _ e) (Nat.le_refl _) ⟨by show 0 ≤ sizeLine; decide, [], .nil, IsTup.new _ _⟩, rfl, q _ (I.hok.fresh (Nat.le_refl _))⟩⟩⟩)
end
end

section
open PySem PySem.Spec PyProof.Rows
/-- the promise of an error's __init__ that keeps a line and a column -/
def spFIni (K : PySem.W.Frag) (C : Addr) : Sp := fun vs H Q _ => ∃ (a : Addr) (l c : Int), vs = [.ref a, .int l, .int c] ∧ H a = some (exo a C none) ∧
  ∀ (d : Addr) (H' : Hp), H d = none → d ≠ a → H' a = some (exo a C (some d)) → H' d = some (exd d [("column", .int c), ("line", .int l)]) → (∀ b o, b ≠ a → b ≠ d → H b = some o → H' b = some o) → Q .non H'
theorem fault_mk {K : PySem.W.Frag} {H1 : Hp} {C : Addr} {l c : Int} {W : Value → Option Addr → Hp → Prop}
    (hW : ∀ (d : Addr) (H' : Hp), Same H1 H' → H1 d = none → H' d = some (.xd [("column", .int c), ("line", .int l)]) → W (.ref C) (some d) H') :
    [V.int l, V.int c].length ≤ 1000 ∧ ∀ a, H1 a = none → spFIni K C (.ref a :: ([V.int l, V.int c] ++ [])) (upd H1 a (exo a C none))
      (fun v H2 => v = .non ∧ ∃ (d : Addr) (fs : List (Str × V)), H2 a = some (exo a C (some d)) ∧ H2 d = some (exd d fs) ∧ H1 d = none ∧ W (.ref C) (some d) (upd (del H2 a) d (.xd fs))) (fun _ _ _ => False) := by
  refine ⟨by show 2 ≤ 1000; decide, fun a ha => ⟨a, l, c, rfl, upd_same, fun d H' hd hda e1 e2 hk => ⟨rfl, d, _, e1, e2, ?_, ?_⟩⟩⟩
  · rw [upd_ne hda] at hd
    exact hd
  · rw [upd_ne hda] at hd
    refine hW d _ (fun b o e => ?_) hd upd_same
    have nb : b ≠ d := ne_of_none e hd
    have na : b ≠ a := ne_of_none e ha
    rw [upd_ne nb, del_ne na]
    exact hk b o na nb (by rw [upd_ne na]; exact e)
theorem suite_ofD {X : Cx} {a C : Addr} {oe : Obj} {pn : List (Addr × Obj)} {cls : Value} {d : Option Addr} {sts : List Stmt} {ts : Addr → TS} (hz : Zc cls d oe)
    (h : ∀ dd, Zc (.ref C) (some dd) oe → PSs (X.suite a ((a, oe) :: pn)) sts (ts dd)) : PSs (X.suite a ((a, oe) :: pn)) sts (fun D σ H => ∃ dd, (cls = .ref C ∧ d = some dd) ∧ ts dd D σ H) :=
  ⟨fun pins s σ H D I hq => by
    obtain ⟨dd, ⟨rfl, rfl⟩, q⟩ := hq
    exact (h dd hz).run pins s σ H D I q⟩
end

/-- what a def owes that refuses a text: the error with its two fields -/
def fE (C : Addr) (E : XK) (H : Hp) (l c : Int) : Prop := ∀ (d : Addr) (H' : Hp), Same H H' → H' d = some (.xd [("column", .int c), ("line", .int l)]) → E (.ref C) (some d) H'
theorem fE.same {C : Addr} {E : XK} {H H' : Hp} {l c : Int} (h : fE C E H l c) (s : Same H H') : fE C E H' l c := fun d H2 s2 e => h d H2 (s.trans s2) e
theorem pss_no {X : Cx} {b : List Stmt} : PSs X b (fun _ _ _ => False) := ⟨fun _ _ _ _ _ _ h => h.elim⟩

section
open PySem PySem.Spec PySem.Calls PyProof.Rows PySem.W
section
variable {prog : Program} {w : World} {A : Around} {E : Value → Shared → Prop} {s : Shared} {K : Frag} {xe Ck : Addr} {ox : Obj}
/-- the class of an error that has a dict, asked by isinstance -/
theorem tp_class {Q : Option Value → Shared → Prop} {dt : Obj} (C : L2.ExcC K Ck) (X : K.In s.heap) (I : InstAt s.heap xe ox Ck (some dt)) (h : Q (some (.ref Ck)) { s with toks := s.toks + 1 }) :
    wpAny (model prog w) A (getAttr? (.ref xe) "__class__") Q E s := by
  have hcl : (clsIn K Ck).isSome = true := by
    obtain ⟨cd, e, _⟩ := any_some C.hd
    rw [e]; rfl
  have hfo : findObj K Ck (some dt) "__class__" = some (.bind (.builtin "getset_descriptor.__get__") (.builtin "object.__class__")) := findObj_data hcl C.ha C.hn C.ht
  obtain ⟨hp, gs, dw, tk, os⟩ := s
  have lT := I.type (M := model prog w); have lG := looks_findIn (M := model prog w) X C.hg
  have lA := looks_findIn (M := model prog w) X C.hk; have lF := looks_find (M := model prog w) X I hfo
  have lS : Looks (model prog w) hp (isInstance (.ref xe) (.type "BaseException")) true := lT.andThen (looks_subIn X C.hs)
  have n0 : (false && onTheHeap (Value.builtin "BaseException.__getattribute__")) = false := rfl
  have n1 : (onTheHeap (Value.ref Ck) && Value.builtin "BaseException.__getattribute__" == Value.builtin "object.__getattribute__") = false := by
    rw [show (Value.builtin "BaseException.__getattribute__" == Value.builtin "object.__getattribute__") = false by decide +kernel]; rfl
  unfold getAttr? getAttrBy? getAttrBy; refine wpAny_bind (wpAny_mkText (wpAny_bind (wpAny_attempt (wpAny_holding (wpAny_bind (lT.at (wpAny_bind (lG.at ?_))))))))
  show wpAny _ _ (if (onTheHeap (Value.ref Ck) && Value.builtin "BaseException.__getattribute__" == Value.builtin "object.__getattribute__") = true then _ else _) _ _ _
  rw [n1, if_neg Bool.false_ne_true]
  unfold getAttrByItsOwn hookBefore; refine wpAny_bind ?_
  rw [if_pos (show onTheHeap (Value.ref Ck) = true from rfl)]
  refine lA.at (wpAny_bind (wpAny_attempt (wpAny_holding ?_)))
  unfold callGetattribute
  rw [n0, if_neg Bool.false_ne_true]
  unfold boundAndCalled
  rw [PySem.F.excAttr_ValueError.ga.bind (.ref xe)]
  refine wpAny_bind (wpAny_pure ?_)
  show wpAny _ _ (call (.builtin "BaseException.__getattribute__") [.ref xe, .str "__class__" tk]) _ _ _
  refine wpAny_call (codeAny_call_builtin PySem.F.excAttr_ValueError.ga.plain PySem.F.entry_bexc_ga ?_)
  refine @check_slot (model prog w) _ _ ⟨hp, gs, dw, tk + 1, os⟩ "BaseException.__getattribute__" "BaseException" "__getattribute__" (.ref xe) [.str "__class__" tk] [] _ (by decide +kernel) (by decide +kernel) lS (PySem.F.args_bexc_ga (.ref xe) (.str "__class__" tk)) ?_
  unfold Builtin.«object.__getattribute__»
  refine wpAny_bind (wpAny_of_eq (a := ((Value.ref xe : Value), [Value.str "__class__" tk])) (by first | rfl | (simp only [slotArgs]; rfl)) ?_)
  refine wpAny_bind (wpAny_pure (wpAny_bind (lT.at (wpAny_bind (lF.at ?_)))))
  show wpAny _ _ (holding [Value.builtin "object.__class__"] (call (.builtin "getset_descriptor.__get__") [.builtin "object.__class__", .ref xe, .ref Ck]) >>= ret) _ _ _
  refine wpAny_bind (wpAny_holding (wpAny_call (class_get (s := ⟨hp, gs, dw, tk + 1, os⟩) (ox := ox) (od := some dt) X I C.hm ?_)))
  refine wpAny_pure ?_
  show wpAny _ _ (handedOut (.ref Ck)) _ _ _
  rw [handedOut_of (v := .ref Ck) rfl]
  first
    | exact wpAny_pure (wpAny_pure h)
    | exact wpAny_pure h
    | exact wpAny_pure (wpAny_bind (wpAny_pure (wpAny_pure h)))
theorem xd_kit {dt : Obj} (C : L2.ExcC K Ck) : KitX K (.ref xe) (.ref Ck) (fun h => InstAt h xe ox Ck (some dt)) where
  ty := fun _ _ _ I => I.type
  ca := fun X I k => tp_class C X I k
  it := fun _ _ X _ => by
    obtain ⟨cdx, hcx, _⟩ := any_some C.hd
    unfold clsIn at hcx; split at hcx
    case h_2 => cases hcx
    case h_1 hlk =>
      intro A1 Q1 E1 s1 k q
      unfold isType loadHead; exact wpAny_bind (wpAny_loadPart (k _ _ (X _ _ hlk)) (wpAny_pure q))
  ne := fun h tp dd its n sl X htp => by
    obtain ⟨cdx, hcx, _⟩ := any_some C.hd
    rw [beq_eq_false_iff_ne]
    intro e
    obtain rfl : Ck = tp := Value.ref.inj e
    unfold clsIn at hcx; split at hcx
    case h_2 => cases hcx
    case h_1 hlk => cases (X _ _ hlk).symm.trans htp
end
end
section
open PySem PySem.Spec PyProof.Rows
/-- isinstance(e, c), e an error with its dict at dd -/
def rIsD (K : PySem.W.Frag) (C a dd : Addr) : List V → Hp → VK → Prop := fun xs H Q => ∃ (c : V) (cv : Value) (b : Bool) (fs : List (Str × V)), xs = [.ref a, c] ∧ (∀ u, RelV c u → u = cv) ∧ PySem.W.kitOne K (.ref C) cv = some b ∧ H dd = some (.xd fs) ∧ Q (.bl b) H
theorem call_isD {X : Cx} {a C dd : Addr} {oe : Obj} {pn : List (Addr × Obj)} (T : ExcC X.K C) (hz : Zc (.ref C) (some dd) oe) (hf : ∃ vs, oe.data = .fields vs) : CallR (X.suite a ((a, oe) :: pn)) (.builtin "isinstance") (rIsD X.K C a dd) := by
  intro pins s σ H xs us Q I r h
  obtain ⟨c, cv, b, fs, rfl, hcv, e, hdd, q⟩ := h
  match us, r with
  | [_, _], .cons rx (.cons rt .nil) =>
    cases rx
    obtain rfl := hcv _ rt
    have hg := (I.pin (a, oe) (List.mem_append_left _ List.mem_cons_self)).1
    obtain ⟨mA, hns, _⟩ : ObjOk X.prog X.w H s.heap dd (.xd fs) := I.hok dd _ hdd
    obtain ⟨od, ho, _⟩ := lookIn_ns hns
    obtain ⟨vs, hv⟩ := hf
    have J : PySem.W.InstAt s.heap a oe C (some od) := ⟨hg, hz.1, by unfold PySem.W.notCls; rw [hv], by rw [hz.2]; exact ho⟩
    exact PySem.W.kia_one (xd_kit T) I.kIn J e (fun z => nomatch z) fun tk => ⟨.bl b, H, I.kept (t' := tk) (fun _ _ y => y), rfl, q⟩
end

section
open SX
/-- how many signs from i on are among b -/
def dg (b a : List Nat) (i : Nat) : Nat := ((a.drop i).takeWhile fun c => decide (c ∈ b)).length
theorem tw_in {p : Nat → Bool} : ∀ {l : List Nat} {j : Nat}, j < (l.takeWhile p).length → ∃ c, l[j]? = some c ∧ p c = true
  | [], _, h => absurd h (Nat.not_lt_zero _)
  | c :: l, j, h => by
    rw [List.takeWhile_cons] at h
    by_cases hc : p c = true
    · rw [if_pos hc] at h
      cases j with
      | zero => exact ⟨c, rfl, hc⟩
      | succ j =>
        obtain ⟨d, h1, h2⟩ := tw_in (l := l) (j := j) (Nat.lt_of_succ_lt_succ h)
        exact ⟨d, h1, h2⟩
    · rw [if_neg hc] at h
      exact absurd h (Nat.not_lt_zero _)
theorem tw_out {p : Nat → Bool} : ∀ {l : List Nat} {c : Nat}, l[(l.takeWhile p).length]? = some c → p c = false
  | [], _, h => by cases h
  | d :: l, c, h => by
    rw [List.takeWhile_cons] at h
    by_cases hd : p d = true
    · rw [if_pos hd, List.length_cons, List.getElem?_cons_succ] at h
      exact tw_out h
    · rw [if_neg hd] at h
      obtain rfl : d = c := Option.some.inj h
      exact Bool.eq_false_iff.mpr hd
theorem tw_len {p : Nat → Bool} (l : List Nat) : (l.takeWhile p).length ≤ l.length := by
  induction l with
  | nil => exact Nat.le_refl _
  | cons c l ih =>
    rw [List.takeWhile_cons]
    split
    · rw [List.length_cons, List.length_cons]
      omega
    · exact Nat.zero_le _
theorem dg_le {b a : List Nat} {i : Nat} (h : i ≤ a.length) : i + dg b a i ≤ a.length := by
  have h1 := tw_len (p := fun c => decide (c ∈ b)) (a.drop i)
  rw [List.length_drop] at h1
  unfold dg
  omega
theorem dg_in {b a : List Nat} {i j : Nat} (h : j < dg b a i) : ∃ c, a[i + j]? = some c ∧ c ∈ b := by
  obtain ⟨c, h1, h2⟩ := tw_in h
  rw [List.getElem?_drop] at h1
  exact ⟨c, h1, of_decide_eq_true h2⟩
theorem dg_out {b a : List Nat} {i c : Nat} (h : a[i + dg b a i]? = some c) : c ∉ b := by
  have h1 : (a.drop i)[((a.drop i).takeWhile fun c => decide (c ∈ b)).length]? = some c := by
    rw [List.getElem?_drop]
    exact h
  exact of_decide_eq_false (tw_out h1)
theorem cut_S {a : List Nat} {i n : Nat} (h : i + n ≤ a.length) : cutS (S a) (some ((i : Nat) : Int)) (some ((i + n : Nat) : Int)) = S ((a.drop i).take n) := by
  unfold cutS
  rw [HT.sIx_nat, HT.sIx_nat, S_len, show min i a.length = i by omega, show min (i + n) a.length = i + n by omega, show i + n - i = n by omega]
theorem cut_to {a : List Nat} {n : Nat} : cutS (S a) none (some ((n : Nat) : Int)) = S (a.take n) := by
  unfold cutS
  rw [HT.sIx_nat, HT.sIx_none, S_len, List.drop_zero, Nat.sub_zero]
  refine congrArg S ?_
  rcases Nat.le_total n a.length with h | h
  · rw [show min n a.length = n by omega]
  · rw [show min n a.length = a.length by omega, List.take_of_length_le (Nat.le_refl _), List.take_of_length_le h]
theorem cut_from {a : List Nat} {n : Nat} : cutS (S a) (some ((n : Nat) : Int)) none = S (a.drop n) := by
  unfold cutS
  rw [HT.sIx_nat, HT.sIx_none, S_len]
  refine congrArg S ?_
  show (a.drop (min n a.length)).take (a.length - min n a.length) = a.drop n
  rcases Nat.le_total n a.length with h | h
  · rw [show min n a.length = n by omega, List.take_of_length_le (by rw [List.length_drop]; omega)]
  · rw [show min n a.length = a.length by omega, List.drop_of_length_le h, List.drop_of_length_le (Nat.le_refl _), List.take_nil]
def D10 : List Nat := [48, 49, 50, 51, 52, 53, 54, 55, 56, 57]
theorem D10_S : ("0123456789" : Str) = S D10 := by decide +kernel
theorem mem_D10 {c : Nat} (h : c ∈ D10) : 48 ≤ c ∧ c ≤ 57 := by
  simp only [D10, List.mem_cons, List.not_mem_nil, or_false] at h
  omega
theorem D10_mem {c : Nat} (h : 48 ≤ c ∧ c ≤ 57) : c ∈ D10 := by
  simp only [D10, List.mem_cons, List.not_mem_nil, or_false]
  omega
/-- the number that n digits from i on tell -/
def dv10 (a : List Nat) (i n : Nat) : Nat := NumText.digitsVal ((a.drop i).take n)
theorem fold_lt : ∀ (l : List Nat) (x k : Nat), (∀ c ∈ l, 48 ≤ c ∧ c ≤ 57) → x < 10 ^ k → l.foldl (fun acc c => acc * 10 + (c - 48)) x < 10 ^ (k + l.length)
  | [], _, _, _, h => h
  | c :: l, x, k, hc, h => by
    rw [List.foldl_cons, List.length_cons, show k + (l.length + 1) = (k + 1) + l.length by omega]
    refine fold_lt l _ _ (fun d hd => hc d (List.mem_cons_of_mem _ hd)) ?_
    have := hc c List.mem_cons_self
    rw [Nat.pow_succ]
    omega
theorem slice_dig {a : List Nat} {i n : Nat} (h : n ≤ dg D10 a i) : ∀ c ∈ (a.drop i).take n, 48 ≤ c ∧ c ≤ 57 := by
  intro c hc
  obtain ⟨j, hj⟩ := List.mem_iff_getElem?.mp hc
  rw [List.getElem?_take] at hj
  by_cases hjn : j < n
  · rw [if_pos hjn, List.getElem?_drop] at hj
    obtain ⟨d, h1, h2⟩ := dg_in (b := D10) (a := a) (i := i) (j := j) (by omega)
    rw [hj] at h1
    rw [Option.some.inj h1]
    exact mem_D10 h2
  · rw [if_neg hjn] at hj
    cases hj
theorem dv_lt {a : List Nat} {i n : Nat} (h : n ≤ dg D10 a i) : dv10 a i n < 10 ^ n := by
  have := fold_lt ((a.drop i).take n) 0 0 (slice_dig h) (by decide)
  refine Nat.lt_of_lt_of_le this (Nat.pow_le_pow_right (by decide) ?_)
  rw [List.length_take]
  omega
theorem dv_int {a : List Nat} {i n : Nat} (h : n ≤ dg D10 a i) (h0 : 0 < n) (h12 : n ≤ 600) (hi : i + n ≤ a.length) : PySem.intText? (S ((a.drop i).take n)) = some ((dv10 a i n : Nat) : Int) := by
  have hl : ((a.drop i).take n).length = n := by
    rw [List.length_take, List.length_drop]
    omega
  refine PySem.intText_digits (x := S ((a.drop i).take n)) (slice_dig h) (fun e => ?_) ?_
  · have := congrArg List.length e
    rw [hl] at this
    simp at this
    omega
  · rw [S_len, hl]
    omega
end
section
open SX
theorem op_addS {X : Cx} : OpR X (binaryOp .Add) (fun x y H Q => ∃ a b : List Nat, x = .str (S a) ∧ y = .str (S b) ∧ a.length + b.length ≤ 100000 ∧ Q (.str (S (a ++ b))) H) := by
  intro pins s σ H x y v u Q I rx ry h
  obtain ⟨a, b, rfl, rfl, hz, q⟩ := h
  refine op_add_str pins s σ H _ _ v u Q I rx ry ⟨S a, S b, rfl, rfl, ?_, ?_⟩
  · rw [S_len, S_len, PySem.sizeLine_eq]
    omega
  · rw [S_cat]
    exact q
theorem lit_minus : ("-" : Str) = S [45] := by decide +kernel
theorem lit_slash : ("/" : Str) = S [47] := by decide +kernel
theorem lit_nil : ("" : Str) = S [] := by decide +kernel
theorem S_ne {a b : List Nat} (h : ¬ decide (V.str (S a) = V.str (S b)) = true) : a ≠ b := fun e => h (decide_eq_true (by rw [e]))
theorem S_eq {a b : List Nat} (h : decide (V.str (S a) = V.str (S b)) = true) : a = b := S_inj (V.str.inj (of_decide_eq_true h))
end

section
open SX
theorem tw_app {p : Nat → Bool} : ∀ {l r : List Nat}, (∀ c ∈ l, p c = true) → (∀ c, r.head? = some c → p c = false) → (l ++ r).takeWhile p = l
  | [], r, _, h => by
    cases r with
    | nil => rfl
    | cons c r =>
      rw [List.nil_append, List.takeWhile_cons, if_neg (by rw [h c rfl]; exact Bool.false_ne_true)]
  | c :: l, r, h1, h2 => by
    rw [List.cons_append, List.takeWhile_cons, if_pos (h1 c List.mem_cons_self), tw_app (fun d hd => h1 d (List.mem_cons_of_mem _ hd)) h2]
theorem numL_D10 (n : Nat) : ∀ c ∈ TL.numL n, decide (c ∈ D10) = true := fun c hc => decide_eq_true (D10_mem (TL.numL_digits n c hc))
/-- the digits of a number, behind what stands in front, up to what is no digit -/
theorem dg_num {p r : List Nat} {n : Nat} (hr : ∀ c, r.head? = some c → c ∉ D10) : dg D10 (p ++ (TL.numL n ++ r)) p.length = (TL.numL n).length := by
  unfold dg
  rw [List.drop_left, tw_app (numL_D10 n) fun c hc => decide_eq_false (hr c hc)]
theorem dv_num {p r : List Nat} {n : Nat} : dv10 (p ++ (TL.numL n ++ r)) p.length (TL.numL n).length = n := by
  unfold dv10
  rw [List.drop_left, List.take_left, TL.numL_val]
theorem num_head {n : Nat} {r : List Nat} : (TL.numL n ++ r)[0]? ≠ some 45 := by
  intro h
  cases e : TL.numL n with
  | nil => exact TL.numL_ne n e
  | cons c l =>
    rw [e] at h
    have hc := TL.numL_digits n c (by rw [e]; exact List.mem_cons_self)
    have : c = 45 := Option.some.inj h
    omega
theorem str_int (i : Int) : Str.ofString (toString i) = S ((if i < 0 then [45] else []) ++ TL.numL i.natAbs) := by
  cases i with
  | ofNat n =>
    rw [if_neg (show ¬ Int.ofNat n < 0 from Int.not_lt.mpr (Int.natCast_nonneg n))]
    exact num_S n
  | negSucc n =>
    rw [if_pos (Int.negSucc_lt_zero n)]
    have e : toString (Int.negSucc n) = "-" ++ toString (((n + 1 : Nat)) : Int) := rfl
    rw [e]
    refine TL.ext_tl ?_
    have h2 := congrArg (fun x : Str => x.cps.toList) (num_S (n + 1))
    show (Str.ofString ("-" ++ toString (((n + 1 : Nat)) : Int))).cps.toList = [45] ++ TL.numL (n + 1)
    rw [← (show _ = TL.numL (n + 1) from h2)]
    rw [PySem.Str.ofString_eq_toList, PySem.Str.ofString_eq_toList]
    show (("-" ++ toString (((n + 1 : Nat)) : Int)).toList.map Char.toNat) = [45] ++ ((toString (((n + 1 : Nat)) : Int)).toList.map Char.toNat)
    rw [String.toList_append, List.map_append]
    rfl
end

section
open PySem PySem.Spec PyProof.Rows PySem.Builtin PySem.Builtin.Str
section
variable {prog : Program} {w : World} {A : Around} {E : Value → Shared → Prop} {s : Shared}
/-- what a text joins of a list gone through from its end -/
theorem join_rev {g : Str} {tg : Tok} {ri la : Addr} {us : Array Value} {ys : List Str} {Q : Value → Shared → Prop} (hcalm : A.handled = none) (hri : s.heap.IsRevIter ri la ((us.size : Int) - 1)) (hla : s.heap.IsList la us) (hne : la ≠ ri) (hfew : us.size ≤ sizeLine)
    (hys : ∀ acc : Array Value, ItemsOf (fun i v => us[us.size - 1 - i]? = some v) acc us.size → StrsAre acc.toList ys) (hfit : (ys.map (·.length)).sum + ys.length * g.length ≤ 16777216)
    (hq : ∀ h' k t', (∀ b o, b ≠ ri → s.heap.get? b = some o → h'.get? b = some o) → Q (.str (Txt.join g ys) t') { s with heap := h', toks := k }) :
    wpAny (model prog w) A (call (.builtin "str.join") [.str g tg, .ref ri]) Q E s := by
  have chk := F.slot_str_join.check (M := model prog w)
  refine wpAny_call (codeAny_call_builtin F.slot_str_join.plain F.entry_str_join
    (chk _ _ _ _ _ _ _ (typeIs_str _ _ _) (F.args_str_join_2 _ _) ?_))
  rw [join_tree_other]
  refine wpAny_bind (wpAny_typeOf hri.typeIs ?_)
  show wpAny _ A.in1 ((pyIter (.ref ri)).tryCatch _ >>= fun u => collect u >>= fun row => joinTail g row) _ _ s
  refine wpAny_bind (wpAny_tryCatch (wpAny_pyIter_revIter hri ?_))
  have hc1 : A.in1.handled = none := hcalm
  refine wpAny_bind (RT.collect_rev hc1 hri hla hne hfew fun h' k acc hk hacc => ?_)
  obtain ⟨row, er, et⟩ := strsAre_values (hys acc hacc)
  subst et
  rw [er]
  have fit2 := joinOk_of hfit
  unfold JoinOk at fit2
  rw [Bool.not_eq_true'] at fit2
  have gv : Gives (joinTail g (strValues row)) (joinMade g row) := by
    have g1 := gives_joinTail g row fit2
    cases row with
    | nil => exact g1
    | cons p r =>
      cases r with
      | nil => exact g1
      | cons q r' => exact g1
  exact gv prog w A (wants Q E) _ (post_join row ⟨joinFit_length fit2, fun t' k2 => hq h' k2 t' hk⟩)
end
section
variable {X : Cx}
theorem strs_of : ∀ {us : List Value} {ys : List Str}, Vals (ys.map V.str) us → StrsAre us ys
  | [], [], _ => .nil
  | _ :: _, _ :: _, .cons r t => by
    obtain ⟨k, rfl⟩ := r
    exact .cons _ k (strs_of t)
/-- g.join(reversed(x)), x a list of texts -/
def tJoinRev (K : PySem.W.Frag) (to te : TE) : TE := fun σ H Q => to σ H fun x H1 => (∃ g, x = .str g) ∧ te σ H1 fun v H2 => ∃ (g : Str) (la : Addr) (ys : List Str),
  x = .str g ∧ v = .ref la ∧ SqL K H2 la (ys.map V.str) ∧ (ys.map (·.length)).sum + ys.length * g.length ≤ 16777216 ∧ Q (.str (Txt.join g ys.reverse)) H2
theorem pe_joinRev {o e : Expr} {to te : TE} {apos pos p2 pos2 : Pos} (hc : X.calm = true) (ho : PE X o to) (hg2 : Gl X "reversed") (hm2 : X.mg "reversed" = none) (he : PE X e te)
    (hs1 : starEach [.Call (.Name "reversed" p2) [e] [] pos2] X.env = [(false, eval (.Call (.Name "reversed" p2) [e] [] pos2) X.env)] := by rfl)
    (hs : starEach [e] X.env = (false, eval e X.env) :: starEach [] X.env := by rfl)
    (hbase : attributeBase o "join" X.env (eval o X.env) = eval o X.env := by rfl) (hline : (apos.endLine == pos.line) = true := by rfl) :
    PE X (.Call (.Attribute o "join" apos) [.Call (.Name "reversed" p2) [e] [] pos2] [] pos) (tJoinRev X.K to te) := by
  refine ⟨fun pins s σ H Q I h => ?_⟩
  refine PySem.Call_method1 hbase hs1 hline (thn (ho.run pins s σ H _ I h) fun v0 s1 ⟨x, H1, I1, r1, q1⟩ => ?_)
  obtain ⟨⟨g, rfl⟩, q1⟩ := q1
  obtain ⟨t, rfl⟩ := _root_.id r1
  refine ⟨"str", _, F.plainAttrs_str, F.slot_str_join, F.type_str_join, typeIs_str _ _ _, (fun _ e => nomatch e),
    Calls.callWith_builtin rfl (Calls.evalArgs_plain (Calls.spliced_cons ?_))⟩
  refine Call_ (ld_blt I1 hg2 hm2 PyProof.Rows.boot_reversed
    (PyProof.Rows.callWith_type1 (args_cons (thn (he.run pins s1 σ H1 _ I1 q1) fun u s2 ⟨v, H2, I2, r2, q2⟩ => args_nil ?_) hs) hs rfl))
  obtain ⟨g', la, ys, eg, ev, hq, hfit, q3⟩ := q2
  cases eg
  subst ev
  obtain rfl : u = Value.ref la := r2
  obtain ⟨us, rv, pl, hz⟩ := I2.list hq
  refine call_reversed_list pl.isList (Calls.spliced_nil ?_)
  have kp : ∀ b ob, s2.heap.get? b = some ob → (s2.heap.push (revObj la ((us.toArray.size : Int) - 1))).get? b = some ob := fun b ob z => Heap.get?_push_of_some _ z
  have I3 : Inv X pins σ H2 { s2 with heap := s2.heap.push (revObj la ((us.toArray.size : Int) - 1)) } := I2.kept (t' := s2.toks) kp
  obtain ⟨f0, f1, f2, f3, f4, f5⟩ := I2.fpOk (H' := H2) (b := s2.heap.objs.size) (Nat.le_refl _) (I2.hok.fresh (Nat.le_refl _))
  have hl := pl.isList
  obtain ⟨ol, hol, _⟩ := id hl
  have hne : la ≠ s2.heap.objs.size := Nat.ne_of_lt (Heap.lt_size hol)
  have hfew : us.toArray.size ≤ sizeLine := by
    rw [List.size_toArray, ← rv.length]
    exact hz
  refine join_rev (ys := ys.reverse) (s := { s2 with heap := s2.heap.push (revObj la ((us.toArray.size : Int) - 1)) }) (I2.ok.hd hc) ⟨_, Heap.get?_push_size _ rfl, rfl, rfl⟩ (hl.push _) hne hfew (fun acc hacc => ?_) ?_ (fun h' k t' hk => ?_)
  · have r4 := RT.vals_rev rv hacc
    rw [← List.map_reverse] at r4
    exact strs_of r4
  · rw [List.map_reverse, List.sum_reverse, List.length_reverse]
    exact hfit
  · exact ⟨.str _, H2, I3.turned (t' := k) (fun b ob hb z => hk b ob hb z) f0 f1 f3 f4 f5, ⟨t', rfl⟩, q3⟩
end
end

def Bz (n : Nat) (x : Int) : Prop := x.natAbs < 2 ^ n
theorem Bz.up {n m : Nat} {x : Int} (h : Bz n x) (hm : n ≤ m) : Bz m x := Nat.lt_of_lt_of_le h (Nat.pow_le_pow_right (by decide) hm)
theorem Bz.mul {n m : Nat} {x y : Int} (h : Bz n x) (h2 : Bz m y) : Bz (n + m) (x * y) := wide_lt h h2
theorem Bz.neg {n : Nat} {x : Int} (h : Bz n x) : Bz n (-x) := by
  unfold Bz
  rw [Int.natAbs_neg]
  exact h
theorem Bz.add {n m : Nat} {x y : Int} (h : Bz n x) (h2 : Bz m y) : Bz (max n m + 1) (x + y) := by
  have a1 := h.up (Nat.le_max_left n m)
  have a2 := h2.up (Nat.le_max_right n m)
  unfold Bz at *
  rw [Nat.pow_succ]
  have := Int.natAbs_add_le x y
  omega
theorem Bz.sub {n m : Nat} {x y : Int} (h : Bz n x) (h2 : Bz m y) : Bz (max n m + 1) (x - y) := h.add h2.neg
theorem Bz.wide {n m : Nat} {x y : Int} (h : Bz n x) (h2 : Bz m y) (hn : n + m ≤ 900000) : CMulW x y :=
  wide_mul (h.up (Nat.le_succ n)) (h2.up (Nat.le_succ m)) (Nat.succ_pos _) (Nat.succ_pos _) (by omega)
theorem Bd.nz {n : Nat} {r : Rat} (h : Bd n r) : Bz n r.num := h.1
theorem Bd.dz {n : Nat} {r : Rat} (h : Bd n r) : Bz n (r.den : Int) := h.2
theorem bz_of {n : Nat} {x : Int} (h : x.natAbs < 2 ^ n) : Bz n x := h
theorem bz_lt {n : Nat} {x : Int} {b : Nat} (hb : b ≤ 2 ^ n) (h : x.natAbs < b) : Bz n x := Nat.lt_of_lt_of_le h hb
theorem bd_div {n d : Int} {k : Nat} (hd : d ≠ 0) (h1 : Bz k n) (h2 : Bz k d) : Bd k (Rat.divInt n d) := bd_of hd h1 h2
theorem tn {n : Nat} (h : Nat.ble n 1000 = true) : n ≤ sizeLine := Nat.le_trans (Nat.le_of_ble_eq_true h) (by decide)
theorem same_hu {H H' : Hp} {p : Addr} {o : HO} (h : upd H p o = H') (n : H p = none) : Same H H' := h ▸ same_upd n
theorem at_hu {H H' : Hp} {p : Addr} {o : HO} (h : upd H p o = H') : H' p = some o := h ▸ upd_same
theorem same_tr {H H1 H2 : Hp} (h2 : Same H1 H2) (h1 : Same H H1) : Same H H2 := h1.trans h2
theorem fx_up {K : PySem.W.Frag} {H H' : Hp} {a : Addr} {r : Rat} (s : Same H H') (h : Fx K H a r) : Fx K H' a r := h.same s
theorem vx_up {K : PySem.W.Frag} {H H' : Hp} {a : Addr} {r : Rat} {ss : List Rat} (s : Same H H') (h : Vx K H a r ss) : Vx K H' a r ss := h.same s
theorem seq_up {K : PySem.W.Frag} {H H' : Hp} {a : Addr} {xs : List V} (s : Same H H') (h : SqL K H a xs) : SqL K H' a xs := s.seq h
local macro_rules | `(tactic| walk_at "ss") => `(tactic| first | exact Same.refl _ | assumption | exact same_tr (by assumption) (by walk_at "ss"))
local macro_rules | `(tactic| walk_at "bz") => `(tactic| first | assumption | exact Bd.nz (by assumption) | exact Bd.dz (by assumption) | exact Bz.mul (by walk_at "bz") (by walk_at "bz") | exact Bz.add (by walk_at "bz") (by walk_at "bz") | exact Bz.sub (by walk_at "bz") (by walk_at "bz") | exact Bz.neg (by walk_at "bz") | exact bz_of (n := 1) (by decide) | exact bz_of (n := 4) (by decide)| exact bz_of (n := 8) (by decide)| exact bz_of (n := 20) (by decide))
local macro_rules | `(tactic| walk_at "sm0") => `(tactic| assumption)
local macro_rules | `(tactic| walk_at "sm1") => `(tactic| first | assumption | exact same_tup (by assumption) (by walk_at "sm0"))
local macro_rules | `(tactic| walk_at "sm2") => `(tactic| first | assumption | exact same_tup (by assumption) (by walk_at "sm1"))
local macro_rules | `(tactic| walk_at "sm3") => `(tactic| first | assumption | exact same_tup (by assumption) (by walk_at "sm2"))
local macro_rules | `(tactic| walk_at "sm4") => `(tactic| first | assumption | exact same_tup (by assumption) (by walk_at "sm3"))
local macro_rules | `(tactic| walk_at "sm5") => `(tactic| first | assumption | exact same_tup (by assumption) (by walk_at "sm4"))
local macro_rules | `(tactic| walk_at "sm6") => `(tactic| first | assumption | exact same_tup (by assumption) (by walk_at "sm5"))
local macro_rules | `(tactic| walk_at "sm7") => `(tactic| first | assumption | exact same_tup (by assumption) (by walk_at "sm6"))
local macro_rules | `(tactic| walk_at "sm") => `(tactic| walk_at "sm7")
local macro_rules | `(tactic| walk_at "sf0") => `(tactic| assumption)
local macro_rules | `(tactic| walk_at "sf1") => `(tactic| first | assumption | exact fx_up (by assumption) (by walk_at "sf0") | exact vx_up (by assumption) (by walk_at "sf0") | exact seq_up (by assumption) (by walk_at "sf0"))
local macro_rules | `(tactic| walk_at "sf2") => `(tactic| first | assumption | exact fx_up (by assumption) (by walk_at "sf1") | exact vx_up (by assumption) (by walk_at "sf1") | exact seq_up (by assumption) (by walk_at "sf1"))
local macro_rules | `(tactic| walk_at "sf3") => `(tactic| first | assumption | exact fx_up (by assumption) (by walk_at "sf2") | exact vx_up (by assumption) (by walk_at "sf2") | exact seq_up (by assumption) (by walk_at "sf2"))
local macro_rules | `(tactic| walk_at "sf4") => `(tactic| first | assumption | exact fx_up (by assumption) (by walk_at "sf3") | exact vx_up (by assumption) (by walk_at "sf3") | exact seq_up (by assumption) (by walk_at "sf3"))
local macro_rules | `(tactic| walk_at "sf5") => `(tactic| first | assumption | exact fx_up (by assumption) (by walk_at "sf4") | exact vx_up (by assumption) (by walk_at "sf4") | exact seq_up (by assumption) (by walk_at "sf4"))
local macro_rules | `(tactic| walk_at "sf6") => `(tactic| first | assumption | exact fx_up (by assumption) (by walk_at "sf5") | exact vx_up (by assumption) (by walk_at "sf5") | exact seq_up (by assumption) (by walk_at "sf5"))
local macro_rules | `(tactic| walk_at "sf7") => `(tactic| first | assumption | exact fx_up (by assumption) (by walk_at "sf6") | exact vx_up (by assumption) (by walk_at "sf6") | exact seq_up (by assumption) (by walk_at "sf6"))
local macro_rules | `(tactic| walk_at "sf") => `(tactic| walk_at "sf7")
local macro_rules | `(tactic| walk_at "go") => `(tactic| repeat (first | refine ⟨_, rfl, ?_⟩ | refine ⟨rfl, ?_⟩ | refine ⟨_, _, rfl, rfl, ?_⟩ | refine ⟨Bz.wide (by walk_at "bz") (by walk_at "bz") (by decide), ?_⟩ | refine ⟨_, _, _, _, rfl, rfl, (by walk_at "sm"), atI_nat (j := 0) (by rfl), ?_⟩ | refine ⟨_, _, _, _, rfl, rfl, (by walk_at "sm"), atI_nat (j := 1) (by rfl), ?_⟩ | refine ⟨_, _, _, _, rfl, rfl, (by walk_at "sm"), atI_nat (j := 2) (by rfl), ?_⟩ | refine ⟨_, _, _, _, rfl, rfl, (by walk_at "sm"), atI_nat (j := 3) (by rfl), ?_⟩ | refine ⟨_, _, rfl, (by walk_at "sm"), (by rfl), ?_⟩ | refine ⟨⟨by decide, by decide⟩, ?_⟩ | refine ⟨(by show (0 : Int) < _; decide), ?_⟩ | refine ⟨Or.inr ⟨by decide, by decide⟩, ?_⟩ | refine ⟨Or.inl ⟨by decide, by decide⟩, ?_⟩ | refine Or.inl ⟨_, rfl, ?_⟩ | refine And.intro (by assumption) ?_ | refine ⟨_, _, rfl, ?_⟩))
/-- a comprehension whose elements are things of a kind R that stands while nothing but the new list changes -/
theorem lc_obj {J : It} {n : Nat} {G : Hp → Prop} {Y : Nat → Hp → V → Hp → Prop} (w : Walk J n G Y) (R : Nat → Hp → V → Prop)
    (stab : ∀ {i H H' v D acc}, R i H v → H D = some (.lst acc) → (∀ b o, b ≠ D → H b = some o → H' b = some o) → R i H' v) (hz : n ≤ 1000)
    {g : TG} {te : TE} {vs : List Nat} {σ : L2.St} {H1 : Hp} {D : Addr} {Qd : Hp → Prop} (hD : H1 D = none) (hG : ∀ H, Same H1 H → G H)
    (hs : ∀ i x H H' (k : V → Hp → Prop), i < n → Same H1 H → Y i H x H' → (∀ v H4, Same H H4 → R i H4 v → k v H4) → g x (wipe σ vs) H' fun σ2 H2 => wipe σ2 vs = wipe σ vs ∧ te σ2 H2 k)
    (hd : ∀ H us, Same H1 H → H D = some (.lst us) → us.length = n → (∀ i v, us[i]? = some v → R i H v) → Qd H) :
    ∃ W : Nat → Nat → Hp → Prop, (∃ m, W 0 m (upd H1 D (.lst []))) ∧ ∀ i m H, W i m H →
      (J.stop i H ∧ Qd H) ∨ (J.go i H ∧ ∃ Nx : Hp → Prop, (∀ H', Nx H' → ∃ m', m' < m ∧ W (i + 1) m' H') ∧ ∀ x H', J.yld i H x H' → g x (wipe σ vs) H' fun σ2 H2 => wipe σ2 vs = wipe σ vs ∧ tYes σ2 H2 fun b H3 =>
        if b = true then te σ2 H3 fun y H4 => ∃ acc, H4 D = some (.lst acc) ∧ acc.length < sizeLine ∧ Nx (upd H4 D (.lst (acc ++ [y]))) else Nx H3) := by
  refine lc_it w (fun i H => Same H1 H ∧ ∃ us, H D = some (.lst us) ∧ us.length = i ∧ ∀ j v, us[j]? = some v → R j H v) ⟨same_upd hD, [], upd_same, rfl, (fun j v h => by simp at h)⟩ (fun i H _ h => hG H h.1) ?_ ?_
  · rintro i x H H' hi ⟨s1, us, e1, l1, r1⟩ y
    have q := hs i x H H' (fun y H4 => ∃ acc, H4 D = some (.lst acc) ∧ acc.length < sizeLine ∧ (fun H => Same H1 H ∧ ∃ us, H D = some (.lst us) ∧ us.length = i + 1 ∧ ∀ j v, us[j]? = some v → R j H v) (upd H4 D (.lst (acc ++ [y])))) hi s1 y (fun v H4 s4 f4 => ?_)
    · refine Eq.mp (congrArg (g x (wipe σ vs) H') ?_) q
      funext σ2 H2
      simp [tYes]
    · have e4 := s4 _ _ e1
      refine ⟨us, e4, small1000 (by omega), fun b o e => ?_, us ++ [v], upd_same, by rw [List.length_append, l1]; rfl, fun j u hu => ?_⟩
      · rw [upd_ne (ne_of_none e hD)]
        exact s4 _ _ (s1 _ _ e)
      · by_cases hj : j < i
        · rw [List.getElem?_append_left (by omega)] at hu
          have hf := stab (r1 j u hu) e1 (fun b o _ e => s4 b o e)
          exact stab hf e4 fun b o hb e => by rw [upd_ne hb]; exact e
        · have hj2 : j < (us ++ [v]).length := (List.getElem?_eq_some_iff.mp hu).1
          rw [List.length_append, l1] at hj2
          have hj3 : j = i := by
            simp at hj2
            omega
          subst hj3
          rw [List.getElem?_append_right (by omega), l1, Nat.sub_self] at hu
          obtain rfl : v = u := Option.some.inj hu
          exact stab f4 e4 fun b o hb e => by rw [upd_ne hb]; exact e
  · rintro H ⟨s1, us, e1, l1, r1⟩
    exact hd H us s1 e1 l1 r1
theorem over_fx {K : PySem.W.Frag} {H H' : Hp} {t D : Addr} {r : Rat} {ys : List V} (h : Fx K H t r) (hl : H D = some (.lst ys)) (s : ∀ b o, b ≠ D → H b = some o → H' b = some o) : Fx K H' t r := over_tup h hl s
theorem over_vx {K : PySem.W.Frag} {H H' : Hp} {t D : Addr} {b : Rat} {ss : List Rat} {ys : List V} (h : Vx K H t b ss) (hl : H D = some (.lst ys)) (s : ∀ b o, b ≠ D → H b = some o → H' b = some o) : Vx K H' t b ss := by
  obtain ⟨p, q, ws, h1, h2, h3, h4, h5⟩ := h
  exact ⟨p, q, ws, over_tup h1 hl s, over_tup h2 hl s, over_tup h3 hl s, fun w hw => over_tup (h4 w hw) hl s, h5⟩

section
open PySem PySem.Spec PySem.Calls PyProof.Rows PySem.W
/-- a list taken apart, one of the targets with a star -/
theorem tp_parts {prog : Program} {w : World} {A : Around} {E : Value → Shared → Prop} {s : Shared} {a : Addr} {its : Array Value} {n i : Nat} {Q : List Value → Shared → Prop} (hl : s.heap.IsList a its) (hh : A.handled = none) (hi : i < n) (hn : n ≤ its.size + 1) (hz : its.size ≤ 16384)
    (h : ∀ (h' : Heap) tk, (∀ b o, s.heap.get? b = some o → h'.get? b = some o) → Q (its.toList.take i ++ [.ref h'.objs.size] ++ (its.toList.drop i).drop (its.size + 1 - n)) { s with heap := h'.push { cls := .type "list", data := .seq ((its.toList.drop i).take (its.size + 1 - n)).toArray }, toks := tk }) :
    wpAny (model prog w) A (unpackItems (.ref a) n (some i)) Q E s := by
  have far : a ≠ s.heap.objs.size := by
    obtain ⟨o, ho, _⟩ := hl
    exact Nat.ne_of_lt (Heap.lt_size ho)
  unfold unpackItems
  refine wpAny_bind ?_
  unfold notIterableAtAll
  refine wpAny_bind (wpAny_specialOf hl.typeIs slot_list_iter.lookup ?_)
  refine wpAny_pure ?_
  simp only [Bool.false_eq_true, if_false]
  refine wpAny_bind (wpAny_holding (wpAny_pyIter_list hl ?_))
  refine wpAny_bind (wpAny_holding (kun_draw far i 0 _ _ ⟨_, Heap.get?_push_size _ rfl, rfl, rfl⟩ (hl.push _) (by omega) fun h1 it1 sb => ?_))
  have l1 : h1.IsList a its := (hl.push _).extBut sb.extBut far
  rw [Nat.zero_add] at it1
  obtain ⟨oi, hoi, _⟩ := id it1
  obtain ⟨ol, hol, _⟩ := id l1
  rw [List.drop_zero]
  have f1 : (its.toList.take i).length = i := by
    rw [List.length_take, Array.length_toList]
    omega
  rw [if_neg (by rw [f1]; exact Nat.lt_irrefl _)]
  refine wpAny_bind (wpAny_holding (kun_collect (s := { s with heap := h1 }) (T := "list_iterator") (.inr (.inr (.inl rfl))) (Walks.list (A := A.in1) hh s.heap.objs.size a far its) (fun j u st => st.1.typeIs) (k := i) (by omega) ⟨it1, l1⟩ (Heap.lt_size hoi) (Heap.lt_size hol) (fun h2 tk hk => ?_) (by rw [sizeLine_eq]; exact Nat.le_trans hz (by decide))))
  have f2 : (its.toList.drop i).length = its.size - i := by
    rw [List.length_drop, Array.length_toList]
  have f3 : (its.toList.drop i).length - (n - 1 - i) = its.size + 1 - n := by
    rw [f2]
    omega
  show wpAny _ _ (if (its.toList.drop i).length < n - 1 - i then _ else _) _ _ _
  rw [if_neg (by rw [f2]; omega)]
  show wpAny _ _ (newList ((its.toList.drop i).take ((its.toList.drop i).length - (n - 1 - i))) >>= fun d => pure (its.toList.take i ++ [d] ++ (its.toList.drop i).drop ((its.toList.drop i).length - (n - 1 - i)))) _ _ _
  rw [f3]
  have old : ∀ b o, s.heap.get? b = some o → h2.get? b = some o := fun b o e => by
    have nb : b ≠ s.heap.objs.size := Nat.ne_of_lt (Heap.lt_size e)
    exact hk b o nb (sb.extBut b o nb (Heap.get?_push_of_some _ e))
  refine wpAny_bind (PySem.wpAny_newList (wpAny_pure (h h2 tk old)) ?_)
  rw [List.length_take, f2, sizeLine_eq]
  omega
end
section
open PySem PySem.Spec PyProof.Rows
variable {X : Cx} {pos : Pos}
theorem vals_take {vs : List V} {us : List Value} (r : Vals vs us) (n : Nat) : Vals (vs.take n) (us.take n) := by
  induction r generalizing n with
  | nil =>
    rw [List.take_nil, List.take_nil]
    exact .nil
  | cons h t ih =>
    cases n with
    | zero => exact .nil
    | succ n => exact .cons h (ih n)
theorem vals_drop {vs : List V} {us : List Value} (r : Vals vs us) (n : Nat) : Vals (vs.drop n) (us.drop n) := by
  induction r generalizing n with
  | nil =>
    rw [List.drop_nil, List.drop_nil]
    exact .nil
  | cons h t ih =>
    cases n with
    | zero => exact .cons h t
    | succ n => exact ih n
theorem vals_app {vs ws : List V} {us ys : List Value} (r : Vals vs us) (q : Vals ws ys) : Vals (vs ++ ws) (us ++ ys) := by
  induction r with
  | nil => exact q
  | cons h t ih => exact .cons h ih
theorem pgs_star {e : Expr} {p : Pos} {es : List Expr} {t : TG} {u : TGs} (h1 : PG X e t) (h2 : PGs X es u)
    (hs : (assignEach (.Starred e p :: es) X.env).map (·.2) = assign e X.env :: (assignEach es X.env).map (·.2) := by rfl) : PGs X (.Starred e p :: es) (gCons t u) := by
  refine ⟨fun pins s σ H vs us Q I r h => ?_⟩
  obtain ⟨v, vr, e1, h⟩ := h
  subst e1
  cases r with
  | cons r rr =>
    rw [hs]
    refine assignInOrder_cons (thn (h1.run pins s σ H _ _ _ I r h) fun _ s1 ⟨σ1, H1, I1, q1⟩ => ?_)
    exact h2.run pins s1 σ1 H1 _ _ Q I1 rr q1
/-- (a, *b, ..) = a list, the star at place i of n -/
def gStar (K : PySem.W.Frag) (n i : Nat) (t : TGs) : TG := fun v σ H Q => ∃ a xs, v = .ref a ∧ SqL K H a xs ∧ n ≤ xs.length + 1 ∧ xs.length ≤ 16384 ∧
  ∀ D, H D = none → t (xs.take i ++ [.ref D] ++ (xs.drop i).drop (xs.length + 1 - n)) σ (upd H D (.lst ((xs.drop i).take (xs.length + 1 - n)))) Q
theorem pg_star {es : List Expr} {k : Nat} {t : TGs} {n i : Nat} (hc : X.calm = true) (h : PGs X es t)
    (hn : (assignEach es X.env).length = n := by rfl) (hst : (assignEach es X.env).findIdx? (·.1) = some i := by rfl) (hi : i < n := by decide) : PG X (.Tuple es k pos) (gStar X.K n i t) := by
  refine ⟨fun pins s σ H v u Q I r hw => ?_⟩
  obtain ⟨a, xs, e1, hq, hl, hm, hw⟩ := hw
  subst e1
  cases r
  obtain ⟨its, rv, pl, hz⟩ := I.list hq
  have hlen := rv.length
  have hl' : s.heap.IsList a its.toArray := pl.isList
  rw [PyProof.Rows.assign_Tuple]
  refine wpAny_bind (wpAny_standAt ?_)
  unfold unpack
  rw [hn, hst]
  refine wpAny_bind (wpAny_holding (tp_parts hl' (I.ok.hd hc) hi (by rw [List.size_toArray]; omega) (by rw [List.size_toArray]; omega) fun h' tk hx => ?_))
  have I1 : Inv X pins σ H { s with heap := h', toks := tk } := I.kept (t' := tk) hx
  have ez : its.toArray.size = xs.length := by rw [List.size_toArray, hlen]
  rw [ez, show its.toArray.toList = its from rfl]
  have I2 := I1.laid (a := h'.objs.size) (o := .lst ((xs.drop i).take (xs.length + 1 - n))) (h' := h'.push { cls := .type "list", data := .seq ((its.drop i).take (xs.length + 1 - n)).toArray }) (t' := tk) (fun b o e => Heap.get?_push_of_some _ e) (Nat.le_refl _)
    ⟨by
      rw [List.length_take, List.length_drop, PySem.sizeLine_eq]
      omega, _, 0, vals_take (vals_drop rv i) _, Heap.get?_push_size _ rfl⟩
  refine h.run pins _ σ _ _ _ Q I2 ?_ (hw _ (I1.hok.fresh (Nat.le_refl _)))
  exact vals_app (vals_app (vals_take rv i) (.cons rfl .nil)) (vals_drop (vals_drop rv i) _)
end

section
open SX
/-- small letters; letters and digits -/
def SLl : List Nat := [97, 98, 99, 100, 101, 102, 103, 104, 105, 106, 107, 108, 109, 110, 111, 112, 113, 114, 115, 116, 117, 118, 119, 120, 121, 122]
def CLl : List Nat := [65, 66, 67, 68, 69, 70, 71, 72, 73, 74, 75, 76, 77, 78, 79, 80, 81, 82, 83, 84, 85, 86, 87, 88, 89, 90]
def LDl : List Nat := SLl ++ CLl ++ D10
theorem SL_S : ("abcdefghijklmnopqrstuvwxyz" : Str) = S SLl := by decide +kernel
theorem LD_S : ("abcdefghijklmnopqrstuvwxyzABCDEFGHIJKLMNOPQRSTUVWXYZ0123456789" : Str) = S LDl := by decide +kernel
theorem dot_S : ("." : Str) = S [46] := by decide +kernel
theorem zero_S : ("0" : Str) = S [48] := by decide +kernel
theorem tw_all {p : Nat → Bool} : ∀ l : List Nat, ((l.takeWhile p).length = l.length ↔ l.all p = true)
  | [] => by simp
  | c :: l => by
    rw [List.takeWhile_cons, List.all_cons]
    have ih := tw_all (p := p) l
    by_cases hc : p c = true
    · rw [if_pos hc, hc, Bool.true_and, List.length_cons, List.length_cons]
      constructor
      · intro h
        exact ih.mp (by omega)
      · intro h
        rw [ih.mpr h]
    · rw [if_neg hc]
      simp [hc]
def allIn (b a : List Nat) : Bool := a.all fun c => decide (c ∈ b)
theorem dg_all {b a : List Nat} : dg b a 0 = a.length ↔ allIn b a = true := by
  unfold dg allIn
  rw [List.drop_zero]
  exact tw_all a
def isRow (b a : List Nat) : Bool := decide (0 < a.length) && allIn b a
def shortW (f b a : List Nat) : Bool := isRow b a && (decide (a.length ≤ 16) && (match a.head? with | some c => decide (c ∈ f) | none => false))
def plainN (m : Nat) (a : List Nat) : Bool := isRow D10 a && (decide (a.length ≤ m) && (decide (a = [48]) || (match a.head? with | some c => decide (c ≠ 48) | none => false)))
theorem isRow_ne {b a : List Nat} (h : isRow b a = true) : ∃ c r, a = c :: r := by
  unfold isRow at h
  cases a with
  | nil => simp at h
  | cons c r => exact ⟨c, r, rfl⟩
/-- the parts between points -/
def sp (a : List Nat) : List (List Nat) := TL.spl [46] 0 [] a
theorem spl_ne (b : List Nat) : ∀ (l acc : List Nat), TL.spl [46] 0 acc l ≠ []
  | [], acc => by
    rw [TL.spl_nil]
    exact List.cons_ne_nil _ _
  | c :: r, acc => by
    cases h : TL.pre [46] (c :: r) with
    | true =>
      rw [TL.spl_hit h]
      exact List.cons_ne_nil _ _
    | false =>
      rw [TL.spl_miss h]
      exact spl_ne b r _
theorem sp_ne (a : List Nat) : sp a ≠ [] := spl_ne [] a []
theorem split_sp (a : List Nat) : Txt.split (S a) (S [46]) = (sp a).map S := split_S (by decide) (by decide)
theorem join_spl : ∀ (l acc : List Nat), TL.joinL [46] (TL.spl [46] 0 acc l) = acc ++ l
  | [], acc => by
    rw [TL.spl_nil, List.append_nil]
    rfl
  | c :: r, acc => by
    cases h : TL.pre [46] (c :: r) with
    | true =>
      have hc : c = 46 := by
        have h' : ([c] == [46]) = true := h
        injection eq_of_beq h'
      rw [TL.spl_hit h]
      show TL.joinL [46] (acc :: TL.spl [46] 0 [] r) = _
      have ih := join_spl r []
      have hne := spl_ne [] r []
      cases e : TL.spl [46] 0 [] r with
      | nil => exact absurd e hne
      | cons p q =>
        rw [e] at ih
        show acc ++ ([46] ++ TL.joinL [46] (p :: q)) = _
        rw [ih, hc]
        rfl
    | false =>
      rw [TL.spl_miss h, join_spl r]
      simp
theorem join_sp (a : List Nat) : TL.joinL [46] (sp a) = a := join_spl a []
theorem join_len : ∀ l : List (List Nat), (∀ p ∈ l, p.length ≤ (TL.joinL [46] l).length) ∧ l.length ≤ (TL.joinL [46] l).length + 1
  | [] => ⟨(fun _ h => nomatch h), Nat.zero_le _⟩
  | [p] => by
    refine ⟨fun q h => ?_, ?_⟩
    · rw [List.mem_singleton.mp h]
      exact Nat.le_refl _
    · show 1 ≤ _
      omega
  | p :: q :: r => by
    obtain ⟨h1, h2⟩ := join_len (q :: r)
    have e : TL.joinL [46] (p :: q :: r) = p ++ ([46] ++ TL.joinL [46] (q :: r)) := rfl
    rw [e, List.length_append, List.length_append]
    refine ⟨fun x hx => ?_, ?_⟩
    · rcases List.mem_cons.mp hx with rfl | hx
      · omega
      · have := h1 x hx
        omega
    · rw [List.length_cons]
      show (q :: r).length + 1 ≤ p.length + (1 + _) + 1
      omega
theorem sp_len (a : List Nat) : (∀ p ∈ sp a, p.length ≤ a.length) ∧ (sp a).length ≤ a.length + 1 := by
  have h := join_len (sp a)
  rw [join_sp] at h
  exact h
theorem snoc_of {α : Type} {l : List α} (h : l ≠ []) : ∃ i x, l = i ++ [x] := ⟨l.dropLast, l.getLast h, (List.dropLast_concat_getLast h).symm⟩
/-- what an origin tells: its number, its occurrences, its name -/
def rdo (a : List Nat) : Option (Nat × List Nat × List Nat) :=
  match (sp a).getLast?, (sp a).dropLast with
  | some nm, n :: ks => if (shortW SLl LDl nm && decide (ks.length ≤ 12) && (n :: ks).all (plainN 6) && decide ([48] ∉ ks)) = true then some (NumText.digitsVal n, ks.map NumText.digitsVal, nm) else none
  | _, _ => none
theorem numL_head {n : Nat} (h : 1 ≤ n) : (TL.numL n).head? ≠ some 48 := by
  induction n using Nat.strongRecOn with
  | _ n ih =>
    rcases Nat.lt_or_ge n 10 with g | g
    · rw [TL.numL_lt g]
      intro e
      have : 48 + n = 48 := Option.some.inj e
      omega
    · rw [TL.numL_step g]
      have h2 := ih (n / 10) (by omega) (by omega)
      cases e : TL.numL (n / 10) with
      | nil => exact absurd e (TL.numL_ne _)
      | cons c r =>
        rw [e] at h2
        exact h2
theorem numL_plain {n : Nat} (h : n < 10 ^ 6) : plainN 6 (TL.numL n) = true := by
  unfold plainN isRow allIn
  have l1 := TL.numL_len (k := 6) (by decide) h
  have hne := TL.numL_ne n
  have hall : (TL.numL n).all (fun c => decide (c ∈ D10)) = true := List.all_eq_true.mpr fun c hc => decide_eq_true (D10_mem (TL.numL_digits n c hc))
  have pos : 0 < (TL.numL n).length := List.length_pos_iff.mpr hne
  rw [hall]
  rcases Nat.eq_zero_or_pos n with rfl | hp
  · decide
  · have hh := numL_head hp
    cases e : TL.numL n with
    | nil => exact absurd e hne
    | cons c r =>
      rw [e] at hh l1 pos
      have hc : c ≠ 48 := fun z => hh (by rw [z]; rfl)
      simp [hc] at *
      omega
end
section
open SX
def sv (l : List Nat) : V := .str (S l)
def okO (init : List (List Nat)) (nm : List Nat) : Option (Nat × List Nat × List Nat) :=
  match init with
  | [] => none
  | n :: ks => if (shortW SLl LDl nm && decide (ks.length ≤ 12) && (n :: ks).all (plainN 6) && decide ([48] ∉ ks)) = true then some (NumText.digitsVal n, ks.map NumText.digitsVal, nm) else none
theorem rdo_eq {a : List Nat} {i : List (List Nat)} {x : List Nat} (h : sp a = i ++ [x]) : rdo a = okO i x := by
  unfold rdo okO
  rw [h]
  simp
  cases i <;> rfl
theorem star_mid {ys : List V} {y : V} : (((ys ++ [y]).drop 0).take ((ys ++ [y]).length + 1 - 2)) = ys := by
  rw [List.drop_zero, List.length_append, show ys.length + [y].length + 1 - 2 = ys.length from by show ys.length + 1 + 1 - 2 = _; omega, List.take_left]
theorem star_all {ys : List V} {y d : V} : ((ys ++ [y]).take 0 ++ [d] ++ ((ys ++ [y]).drop 0).drop ((ys ++ [y]).length + 1 - 2)) = [d, y] := by
  rw [List.drop_zero, List.length_append, show ys.length + [y].length + 1 - 2 = ys.length from by show ys.length + 1 + 1 - 2 = _; omega, List.drop_left]
  rfl
/-- an origin, as it is told -/
def Ot (K : PySem.W.Frag) (H : Hp) (t : Addr) (n : Nat) (ks : List Nat) (nm : List Nat) : Prop := ∃ q : Addr, SqT K H t [.int (n : Int), .ref q, .str (S nm)] ∧ SqT K H q (ks.map fun k => V.int (k : Nat))
theorem plainN_int {m : Nat} {a : List Nat} (hm : m ≤ 600) (h : plainN m a = true) : PySem.intText? (S a) = some ((NumText.digitsVal a : Nat) : Int) ∧ (S a).length ≤ 640 := by
  unfold plainN isRow allIn at h
  simp only [Bool.and_eq_true, decide_eq_true_eq] at h
  obtain ⟨⟨h0, h1⟩, h2, _⟩ := h
  refine ⟨PySem.intText_digits (x := S a) (fun c hc => mem_D10 (of_decide_eq_true (List.all_eq_true.mp h1 c hc))) (fun e => ?_) ?_, ?_⟩
  · have e' : a = [] := e
    rw [e'] at h0
    exact absurd h0 (by decide)
  · rw [S_len]
    omega
  · rw [S_len]
    omega
end
section
open SX
theorem cut_tail {x : V} {xs : List V} : cutV (x :: xs) (some 1) none = xs := by
  unfold cutV
  have e : HT.sIx (x :: xs).length 0 (some 1) = 1 := by
    rw [show (some 1 : Option Int) = some ((1 : Nat) : Int) from rfl, HT.sIx_nat, List.length_cons]
    omega
  rw [e, HT.sIx_none]
  rw [List.drop_succ_cons, List.drop_zero, List.length_cons, Nat.add_sub_cancel, List.take_length]
theorem inV_zero (ks : List (List Nat)) : inV (.str (S [48])) (ks.map sv) = decide ([48] ∈ ks) := by
  unfold inV
  induction ks with
  | nil => rfl
  | cons k ks ih =>
    rw [List.map_cons, List.any_cons, ih]
    have e : eqV (sv k) (.str (S [48])) = decide (k = [48]) := by
      show (S k == S [48]) = _
      rw [S_beq_eq]
    rw [e]
    by_cases h : k = [48]
    · subst h
      simp
    · have h2 : ¬ [48] = k := fun z => h z.symm
      simp [h, h2]
theorem flat_sv (ks : List (List Nat)) : (ks.map sv).all flatV = true := by
  induction ks with
  | nil => rfl
  | cons k ks ih =>
    rw [List.map_cons, List.all_cons, ih]
    rfl
theorem all_id {α : Type} (f : α → Bool) (l : List α) : (l.map f).all id = l.all f := by
  rw [List.all_map]
  rfl
theorem okO_ok {n nm : List Nat} {ks : List (List Nat)} (h1 : shortW SLl LDl nm = true) (h2 : ks.length ≤ 12) (h3 : (n :: ks).all (plainN 6) = true) (h4 : [48] ∉ ks) : okO (n :: ks) nm = some (NumText.digitsVal n, ks.map NumText.digitsVal, nm) := by
  unfold okO
  simp only [h1, h3, decide_eq_true h2, decide_eq_true h4, Bool.and_self, if_true]
theorem okO_bad3 {n nm : List Nat} {ks : List (List Nat)} (h3 : (n :: ks).all (plainN 6) = false) : okO (n :: ks) nm = none := by
  unfold okO
  simp only [h3, Bool.and_false, Bool.false_and]
  rfl
theorem okO_bad4 {n nm : List Nat} {ks : List (List Nat)} (h4 : [48] ∈ ks) : okO (n :: ks) nm = none := by
  unfold okO
  simp only [decide_eq_false (show ¬ ([48] ∉ ks) from fun h => h h4), Bool.and_false]
  rfl
theorem st_take {x : V} {xs : List V} {d : V} : ((x :: xs).take 1 ++ [d] ++ ((x :: xs).drop 1).drop ((x :: xs).length + 1 - 2)) = [x, d] := by
  rw [List.drop_succ_cons, List.drop_zero, List.length_cons, show xs.length + 1 + 1 - 2 = xs.length by omega, List.drop_length]
  rfl
theorem st_mid {x : V} {xs : List V} : (((x :: xs).drop 1).take ((x :: xs).length + 1 - 2)) = xs := by
  rw [List.drop_succ_cons, List.drop_zero, List.length_cons, show xs.length + 1 + 1 - 2 = xs.length by omega, List.take_length]
end
section
open SX
/-- the text of an origin -/
def otl (n : Nat) (ks : List Nat) (nm : List Nat) : List Nat := TL.joinL [46] ((n :: ks).map TL.numL ++ [nm])
theorem joinL_len {m : Nat} : ∀ l : List (List Nat), (∀ p ∈ l, p.length ≤ m) → (TL.joinL [46] l).length ≤ l.length * (m + 1)
  | [], _ => Nat.zero_le _
  | [p], h => by
    have := h p List.mem_cons_self
    show p.length ≤ 1 * (m + 1)
    omega
  | p :: q :: r, h => by
    have h1 := h p List.mem_cons_self
    have h2 := joinL_len (q :: r) (fun x hx => h x (List.mem_cons_of_mem _ hx))
    have e : TL.joinL [46] (p :: q :: r) = p ++ ([46] ++ TL.joinL [46] (q :: r)) := rfl
    rw [e, List.length_append, List.length_append, List.length_cons (as := q :: r), Nat.add_mul]
    show p.length + (1 + _) ≤ _
    omega
theorem sum_lens {m : Nat} : ∀ l : List (List Nat), (∀ p ∈ l, p.length ≤ m) → ((l.map S).map (·.length)).sum ≤ l.length * m
  | [], _ => Nat.zero_le _
  | p :: r, h => by
    have h1 := h p List.mem_cons_self
    have h2 := sum_lens r (fun x hx => h x (List.mem_cons_of_mem _ hx))
    rw [List.map_cons, List.map_cons, List.sum_cons, S_len, List.length_cons, Nat.add_mul]
    omega
end
section
open SX
theorem cut_mid {x y : V} {xs : List V} : cutV (x :: (xs ++ [y])) (some 1) (some (-1)) = xs := by
  have e1 : HT.sIx (x :: (xs ++ [y])).length 0 (some 1) = 1 := by
    rw [show (some 1 : Option Int) = some ((1 : Nat) : Int) from rfl, HT.sIx_nat, List.length_cons]
    omega
  have e2 : HT.sIx (x :: (xs ++ [y])).length (x :: (xs ++ [y])).length (some (-1)) = xs.length + 1 := by
    show (if (-1 : Int) < 0 then ((-1 : Int) + ((x :: (xs ++ [y])).length : Int)).toNat else min (-1 : Int).toNat (x :: (xs ++ [y])).length) = _
    rw [if_pos (by decide), List.length_cons, List.length_append]
    show ((-1 : Int) + ((xs.length + 1 + 1 : Nat) : Int)).toNat = _
    omega
  unfold cutV
  rw [e1, e2, List.drop_succ_cons, List.drop_zero, Nat.add_sub_cancel, List.take_left]
end
section
open SX
theorem ld_46 {a : List Nat} (h : allIn LDl a = true) : 46 ∉ a := fun hm => by
  have := of_decide_eq_true (List.all_eq_true.mp h 46 hm)
  exact absurd this (by decide)
theorem shortW_in {f b a : List Nat} (h : shortW f b a = true) : allIn b a = true ∧ a.length ≤ 16 := by
  unfold shortW isRow at h
  simp only [Bool.and_eq_true, decide_eq_true_eq] at h
  exact ⟨h.1.2, h.2.1⟩
theorem shortW_take {c : Nat} {r : List Nat} (hc : c ∈ SLl) (h : allIn LDl (c :: r) = true) : shortW SLl LDl ((c :: r).take 16) = true := by
  have e : (c :: r).take 16 = c :: r.take 15 := rfl
  have h2 : allIn LDl (c :: r.take 15) = true := by
    rw [← e]
    unfold allIn at *
    rw [List.all_eq_true] at *
    exact fun x hx => h x (List.mem_of_mem_take hx)
  have h3 : (r.take 15).length ≤ 15 := by
    rw [List.length_take]
    omega
  rw [e]
  unfold shortW isRow
  rw [h2]
  simp [hc]
  omega
theorem sp_otl {n : Nat} {ks nm : List Nat} (h : 46 ∉ nm) : sp (otl n ks nm) = (n :: ks).map TL.numL ++ [nm] := by
  refine SX.spl_join (by simp) fun p hp => ?_
  rcases List.mem_append.mp hp with h1 | h1
  · obtain ⟨z, _, rfl⟩ := List.mem_map.mp h1
    exact TL.numL_free (.inl (by decide))
  · rw [List.mem_singleton.mp h1]
    exact h
theorem rdo_otl {n : Nat} {ks nm : List Nat} (hn : n < 10 ^ 6) (hks : ∀ k ∈ ks, 1 ≤ k ∧ k < 10 ^ 6) (hl : ks.length ≤ 12) (hnm : shortW SLl LDl nm = true) : rdo (otl n ks nm) = some (n, ks, nm) := by
  rw [rdo_eq (sp_otl (ld_46 (shortW_in hnm).1)), List.map_cons, okO_ok hnm (by rw [List.length_map]; exact hl) ?_ ?_]
  · rw [TL.numL_val, List.map_map]
    refine congrArg (fun z => some (n, z, nm)) ?_
    clear hks hl
    induction ks with
    | nil => rfl
    | cons k ks ih =>
      rw [List.map_cons, ih]
      show TL.numL k |> NumText.digitsVal |> fun z => z :: ks = k :: ks
      rw [TL.numL_val]
  · rw [List.all_cons, numL_plain hn, Bool.true_and, List.all_map, List.all_eq_true]
    exact fun k hk => numL_plain (hks k hk).2
  · intro hm
    obtain ⟨k, hk, e⟩ := List.mem_map.mp hm
    exact numL_head (hks k hk).1 (by rw [e]; rfl)
def pdo (n : Nat) (ks nm : List Nat) : PyData := .tuple [.int (n : Int), .tuple (ks.map fun k => .int (k : Nat)), .str (S nm)]
theorem dp_ot {K : PySem.W.Frag} {H : Hp} {t : Addr} {n : Nat} {ks nm : List Nat} (h : Ot K H t n ks nm) : Dp K H (.ref t) (pdo n ks nm) := by
  obtain ⟨q, h1, h2⟩ := h
  refine .tup h1 (.cons (.int _) (.cons (.tup h2 ?_) (.cons (.str _) .nil)))
  clear h1 h2
  induction ks with
  | nil => exact .nil
  | cons k ks ih => exact .cons (.int _) ih
theorem sh_pdo {n : Nat} {ks nm : List Nat} (h : allIn LDl nm = true) : SeqAt.shaped (pdo n ks nm) = true := by
  have h1 : PyData.canLayAll0 (ks.map fun k => PyData.int (k : Nat)) = true ∧ PyData.depthAll (ks.map fun k => PyData.int (k : Nat)) ≤ 1 := by
    clear h
    induction ks with
    | nil => decide
    | cons r rs ih =>
      rw [List.map_cons, PyData.canLayAll0, PyData.depthAll, ih.1]
      exact ⟨rfl, Nat.max_le.mpr ⟨by show 0 ≤ 1; decide, ih.2⟩⟩
  have h3 : (PyData.str (S nm)).canLay0 = true := by
    show PySem.PyData.strOk (S nm) = true
    unfold PySem.PyData.strOk
    rw [← Array.all_toList]
    show nm.all _ = true
    rw [List.all_eq_true]
    intro c hc
    have hm := of_decide_eq_true (List.all_eq_true.mp h c hc)
    have : ∀ c ∈ LDl, decide (c < 0x110000) = true := by decide
    exact this c hm
  obtain ⟨h1, h2⟩ := h1
  unfold SeqAt.shaped pdo
  simp only [PyData.canLay0, PyData.canLayAll0, PyData.depth, PyData.depthAll, h1] at h3 ⊢
  simp only [h3]
  simp
  omega
theorem eqv_pdo {n : Nat} {ks nm : List Nat} (h : allIn LDl nm = true) : PyData.eqv (pdo n ks nm) (pdo n ks nm) = true := by
  have h2 := sh_pdo (n := n) (ks := ks) h
  unfold SeqAt.shaped at h2
  exact SeqAt.eqv_refl _ (by
    rw [Bool.and_eq_true] at h2
    exact h2.1)
theorem rdo_in {a : List Nat} {n : Nat} {ks nm : List Nat} (h : rdo a = some (n, ks, nm)) : allIn LDl nm = true := by
  obtain ⟨i, x, e⟩ := snoc_of (sp_ne a)
  rw [rdo_eq e] at h
  unfold okO at h
  cases i with
  | nil => cases h
  | cons m l =>
    dsimp only at h
    split at h
    · rename_i g
      simp only [Bool.and_eq_true] at g
      injection h with h
      injection h with _ h
      injection h with _ h
      rw [← h]
      exact (shortW_in g.1.1.1).1
    · cases h
theorem otl_len {n : Nat} {ks nm : List Nat} (hn : n < 10 ^ 6) (hks : ∀ k ∈ ks, k < 10 ^ 6) (hl : ks.length ≤ 12) (hnm : nm.length ≤ 16) : (otl n ks nm).length ≤ 238 := by
  have h := joinL_len (m := 16) ((n :: ks).map TL.numL ++ [nm]) (fun p hp => by
    rcases List.mem_append.mp hp with h | h
    · obtain ⟨z, hz, rfl⟩ := List.mem_map.mp h
      have h2 : z < 10 ^ 6 := by
        rcases List.mem_cons.mp hz with rfl | h3
        · exact hn
        · exact hks z h3
      have := TL.numL_len (k := 6) (by decide) h2
      omega
    · rw [List.mem_singleton.mp h]
      exact hnm)
  unfold otl
  rw [List.length_append, List.length_map, List.length_cons, show [nm].length = 1 from rfl] at h
  have h2 : (ks.length + 1 + 1) * (16 + 1) ≤ 14 * 17 := Nat.mul_le_mul (by omega) (by decide)
  omega
theorem rdo_nil : rdo [] = none := by decide
end

theorem iteF' {b : Bool} {p q : Prop} (h : b = false) (hq : q) : if b = true then p else q := by
  rw [h, if_neg Bool.false_ne_true]
  exact hq
theorem iteT' {b : Bool} {p q : Prop} (h : b = true) (hp : p) : if b = true then p else q := by
  rw [h, if_pos rfl]
  exact hp

section
open SX (S)
/-- what a ratio from i on tells: the column of its fault, or its worth and its end -/
def ratio (a : List Nat) (i : Nat) : Nat ⊕ (Rat × Nat) :=
  if dg D10 a i = 0 ∨ 12 < dg D10 a i then .inl (i + 1)
  else if a[i + dg D10 a i]? = some 47 then
    if dg D10 a (i + dg D10 a i + 1) = 0 ∨ 12 < dg D10 a (i + dg D10 a i + 1) then .inl (i + dg D10 a i + 2)
    else if dv10 a (i + dg D10 a i + 1) (dg D10 a (i + dg D10 a i + 1)) = 0 then .inl (i + dg D10 a i + 2)
    else .inr (Rat.divInt (dv10 a i (dg D10 a i) : Nat) (dv10 a (i + dg D10 a i + 1) (dg D10 a (i + dg D10 a i + 1)) : Nat), i + dg D10 a i + 1 + dg D10 a (i + dg D10 a i + 1))
  else .inr (Rat.divInt (dv10 a i (dg D10 a i) : Nat) 1, i + dg D10 a i)
theorem dv_12 {a : List Nat} {i : Nat} (h : dg D10 a i ≤ 12) : dv10 a i (dg D10 a i) < 10 ^ 12 := Nat.lt_of_lt_of_le (dv_lt (Nat.le_refl _)) (Nat.pow_le_pow_right (by decide) h)
theorem ten2000 : (10 : Nat) ^ 12 < 2 ^ 2000 := Nat.lt_of_lt_of_le (show (10 : Nat) ^ 12 < 2 ^ 40 by decide) (Nat.pow_le_pow_right (by decide) (by decide))
theorem lit_ne {c : Nat} (h : (!decide (V.str ⟨#[c]⟩ = V.str (Str.ofString "/"))) = true) : c ≠ 47 := fun e => by
  subst e
  have : (V.str ⟨#[47]⟩) = V.str (Str.ofString "/") := congrArg V.str lit_slash.symm
  rw [decide_eq_true this] at h
  cases h
theorem lit_eq {c : Nat} (h : ¬ (!decide (V.str ⟨#[c]⟩ = V.str (Str.ofString "/"))) = true) : c = 47 := by
  by_cases e : V.str ⟨#[c]⟩ = V.str (Str.ofString "/")
  · have e2 : S [c] = S [47] := (V.str.inj e).trans lit_slash
    have := SX.S_inj e2
    injection this
  · exfalso
    rw [decide_eq_false e] at h
    exact h rfl

def WCl : List Nat := [97, 98, 99, 100, 101, 102, 103, 104, 105, 106, 107, 108, 109, 110, 111, 112, 113, 114, 115, 116, 117, 118, 119, 120, 121, 122, 65, 66, 67, 68, 69, 70, 71, 72, 73, 74, 75, 76, 77, 78, 79, 80, 81, 82, 83, 84, 85, 86, 87, 88, 89, 90, 48, 49, 50, 51, 52, 53, 54, 55, 56, 57, 95]
theorem WCl_S : ("abcdefghijklmnopqrstuvwxyzABCDEFGHIJKLMNOPQRSTUVWXYZ0123456789_" : Str) = S WCl := by decide +kernel
theorem lit_blank : (" " : Str) = S [32] := by decide +kernel
theorem lit_star : ("*" : Str) = S [42] := by decide +kernel
theorem lit_pm : ("+-" : Str) = S [43, 45] := by decide +kernel
/-- whether a sign of b stands at i -/
def isAt (a : List Nat) (i : Nat) (b : List Nat) : Bool := match a[i]? with
  | some c => decide (c ∈ b)
  | none => false
/-- behind the blanks -/
def skb (a : List Nat) (i : Nat) : Nat := i + dg [32] a i
def word (a : List Nat) (i : Nat) : List Nat := (a.drop i).take (dg WCl a i)
/-- the slopes of the parameter with an index -/
def unit (j n : Nat) : List Rat := (List.range n).map fun i => if i = j then 1 else 0
def ix (w : List Nat) : List (List Nat) → Nat
  | [] => 0
  | n :: l => if n = w then 0 else ix w l + 1
theorem ix_at {w : List Nat} : ∀ {l : List (List Nat)}, w ∈ l → ix w l < l.length ∧ l[ix w l]? = some w ∧ ∀ m x, m < ix w l → l[m]? = some x → x ≠ w
  | [], h => by cases h
  | n :: l, h => by
    unfold ix
    by_cases e : n = w
    · rw [if_pos e]
      subst e
      exact ⟨Nat.succ_pos _, rfl, fun m x hm => absurd hm (Nat.not_lt_zero m)⟩
    · rw [if_neg e]
      have h2 : w ∈ l := by
        rcases List.mem_cons.mp h with h | h
        · exact absurd h.symm e
        · exact h
      obtain ⟨h3, h4, h5⟩ := ix_at h2
      refine ⟨Nat.succ_lt_succ h3, h4, fun m x hm hx => ?_⟩
      cases m with
      | zero =>
        obtain rfl := Option.some.inj hx
        exact e
      | succ m => exact h5 m x (by omega) hx
def rpar (nms : List (List Nat)) (a : List Nat) (i : Nat) : Nat ⊕ (Nat × Nat) :=
  if word a i ∈ nms then .inr (ix (word a i) nms, i + dg WCl a i) else .inl (i + 1)
def rterm (nms : List (List Nat)) (a : List Nat) (i : Nat) : Nat ⊕ ((Rat × List Rat) × Nat) :=
  if isAt a i D10 then
    match ratio a i with
    | .inl c => .inl c
    | .inr (r, e) =>
      if isAt a (skb a e) [42] then
        match rpar nms a (skb a (skb a e + 1)) with
        | .inl c => .inl c
        | .inr (k, e2) => .inr ((r * 0, (unit k nms.length).map fun y => r * y), skb a e2)
      else .inr ((r, List.replicate nms.length 0), skb a e)
  else
    match rpar nms a i with
    | .inl c => .inl c
    | .inr (k, e2) => .inr ((0, unit k nms.length), skb a e2)
theorem S_sl {a : List Nat} (h : a.length ≤ 3000) : (S a).length ≤ sizeLine := by
  rw [SX.S_len, PySem.sizeLine_eq]
  omega
theorem lenS (a : List Nat) : (((S a).length : Nat) : Int) = (a.length : Int) := by rw [SX.S_len]
theorem eqV_sv (x y : List Nat) : eqV (sv x) (sv y) = decide (x = y) := by
  show (S x == S y) = decide (x = y)
  by_cases h : x = y
  · subst h
    simp
  · rw [decide_eq_false h]
    exact beq_eq_false_iff_ne.mpr fun z => h (SX.S_inj z)
theorem inV_sv (w : List Nat) (ks : List (List Nat)) : inV (sv w) (ks.map sv) = decide (w ∈ ks) := by
  unfold inV
  induction ks with
  | nil => rfl
  | cons k ks ih =>
    rw [List.map_cons, List.any_cons, ih, eqV_sv]
    by_cases h : k = w
    · subst h
      simp
    · have h2 : ¬ w = k := fun z => h z.symm
      by_cases h3 : w ∈ ks
      · simp [h3]
      · simp [h, h2, h3]
theorem sv_flat (nms : List (List Nat)) : (nms.map sv).all flatV = true := by
  rw [List.all_map, List.all_eq_true]
  exact fun _ _ => rfl
theorem skb_le {a : List Nat} {i : Nat} (h : i ≤ a.length) : skb a i ≤ a.length := dg_le h
theorem isAt_lt {a b : List Nat} {i : Nat} (h : isAt a i b = true) : i < a.length := by
  unfold isAt at h
  rcases Nat.lt_or_ge i a.length with g | g
  · exact g
  · rw [List.getElem?_eq_none g] at h
    cases h
theorem rpar_le {nms : List (List Nat)} {a : List Nat} {i k e : Nat} (hi : i ≤ a.length) (h : rpar nms a i = .inr (k, e)) : k < nms.length ∧ e ≤ a.length ∧ e = i + dg WCl a i := by
  unfold rpar at h
  split at h
  · rename_i g
    injection h with h
    injection h with h1 h2
    subst h1 h2
    exact ⟨(ix_at g).1, dg_le hi, rfl⟩
  · cases h
theorem ratio_le {a : List Nat} {i e : Nat} {r : Rat} (hi : i ≤ a.length) (h : ratio a i = .inr (r, e)) : e ≤ a.length ∧ Bd 40 r ∧ i < e := by
  unfold ratio at h
  have h1 := dg_le (b := D10) hi
  split at h
  · cases h
  rename_i n1
  split at h
  · rename_i c47
    have hlt : i + dg D10 a i < a.length := (List.getElem?_eq_some_iff.mp c47).1
    have h2 := dg_le (b := D10) (a := a) (i := i + dg D10 a i + 1) (by omega)
    split at h
    · cases h
    rename_i n2
    split at h
    · cases h
    rename_i n3
    injection h with h
    injection h with e1 e2
    subst e1 e2
    have v1 := dv_12 (a := a) (i := i) (by omega)
    have v2 := dv_12 (a := a) (i := i + dg D10 a i + 1) (by omega)
    have b40 : (10 : Nat) ^ 12 ≤ 2 ^ 40 := by decide
    exact ⟨by omega, bd_of (by omega) (by rw [Int.natAbs_natCast]; omega) (by rw [Int.natAbs_natCast]; omega), by omega⟩
  · injection h with h
    injection h with e1 e2
    subst e1 e2
    have v1 := dv_12 (a := a) (i := i) (by omega)
    have b40 : (10 : Nat) ^ 12 ≤ 2 ^ 40 := by decide
    exact ⟨h1, bd_of (by decide) (by rw [Int.natAbs_natCast]; omega) (by decide), by omega⟩
theorem rterm_eq (nms : List (List Nat)) (a : List Nat) (i : Nat) : rterm nms a i = if isAt a i D10 = true then
    match ratio a i with
    | .inl c => .inl c
    | .inr (r, e) =>
      if isAt a (skb a e) [42] then
        match rpar nms a (skb a (skb a e + 1)) with
        | .inl c => .inl c
        | .inr (k, e2) => .inr ((r * 0, (unit k nms.length).map fun y => r * y), skb a e2)
      else .inr ((r, List.replicate nms.length 0), skb a e)
  else
    match rpar nms a i with
    | .inl c => .inl c
    | .inr (k, e2) => .inr ((0, unit k nms.length), skb a e2) := rfl
theorem unit_bd {k n : Nat} : ∀ r ∈ unit k n, Bd 60 r := by
  intro r hr
  unfold unit at hr
  obtain ⟨i, _, rfl⟩ := List.mem_map.mp hr
  split
  · exact bd_one.up (by decide)
  · exact bd_zero.up (by decide)
def lcml (l : List Rat) : Nat := l.foldl (fun d r => Nat.lcm d r.den) 1
def shortV (l : List Rat) : Bool := decide (lcml l < 1000000000000) && l.all fun r => decide (r.num.natAbs * (lcml l / r.den) < 1000000000000)
theorem lcml_snoc (l : List Rat) (r : Rat) : lcml (l ++ [r]) = Nat.lcm (lcml l) r.den := by
  unfold lcml
  rw [List.foldl_append]
  rfl
theorem lcm_step {d m : Nat} : ((d : Int) / ((Nat.gcd d m : Nat) : Int)) * (m : Int) = ((Nat.lcm d m : Nat) : Int) := by
  rw [← Int.natCast_ediv, ← Int.natCast_mul]
  congr 1
  rw [Nat.lcm, Nat.div_mul_right_comm (Nat.gcd_dvd_left d m)]
theorem lcm_stepF {d m : Nat} : ((d : Int).fdiv ((Nat.gcd d m : Nat) : Int)) * (m : Int) = ((Nat.lcm d m : Nat) : Int) := by
  rw [Int.fdiv_eq_ediv_of_nonneg _ (Int.natCast_nonneg _), lcm_step]
theorem fdiv_le {d g : Nat} : ((d : Int).fdiv (g : Int)).natAbs ≤ d := by
  rw [Int.fdiv_eq_ediv_of_nonneg _ (Int.natCast_nonneg _), ← Int.natCast_ediv, Int.natAbs_natCast]
  exact Nat.div_le_self _ _
theorem lcml_take {l : List Rat} {i : Nat} {r : Rat} (h : l[i]? = some r) : lcml (l.take (i + 1)) = Nat.lcm (lcml (l.take i)) r.den := by
  rw [List.take_add_one, h]
  exact lcml_snoc _ _
theorem lcml_bd {l : List Rat} {n : Nat} (h : ∀ r ∈ l, Bd n r) : ∀ i, lcml (l.take i) < 2 ^ (n * i + 1) ∧ 0 < lcml (l.take i) := by
  intro i
  induction i with
  | zero => exact ⟨by show 1 < 2 ^ (0 + 1); decide, Nat.one_pos⟩
  | succ i ih =>
    cases e : l[i]? with
    | none =>
      have h2 : l.take (i + 1) = l.take i := by
        rw [List.take_add_one, e]
        simp
      rw [h2]
      exact ⟨Nat.lt_of_lt_of_le ih.1 (Nat.pow_le_pow_right (by decide) (by rw [Nat.mul_succ]; omega)), ih.2⟩
    | some r =>
      rw [lcml_take e]
      have hb := (h r (List.mem_of_getElem? e)).2
      have hp : 0 < r.den := Nat.pos_of_ne_zero r.den_nz
      refine ⟨?_, Nat.lcm_pos ih.2 hp⟩
      refine Nat.lt_of_le_of_lt (Nat.le_of_dvd (Nat.mul_pos ih.2 hp) (Nat.lcm_dvd (Nat.dvd_mul_right _ _) (Nat.dvd_mul_left _ _))) ?_
      rw [show n * (i + 1) + 1 = (n * i + 1) + n by rw [Nat.mul_succ]; omega, Nat.pow_add]
      exact Nat.mul_lt_mul'' ih.1 hb
theorem lt_case (d : Nat) : (decide (d < 1000000000000) = true ∧ decide ((d : Int) < 1000000000000) = true) ∨ (decide (d < 1000000000000) = false ∧ decide ((d : Int) < 1000000000000) = false) := by
  cases h : decide (d < 1000000000000) with
  | true => exact .inl ⟨rfl, decide_eq_true (by have := of_decide_eq_true h; omega)⟩
  | false => exact .inr ⟨rfl, decide_eq_false (by have := of_decide_eq_false h; omega)⟩
theorem lt_same (d : Nat) : decide (d < 1000000000000) = decide ((d : Int) < 1000000000000) := decide_eq_decide.mpr (by omega)
theorem lt_elim {P : Prop} (d : Nat) (h1 : decide (d < 1000000000000) = true → decide ((d : Int) < 1000000000000) = true → P) (h2 : decide (d < 1000000000000) = false → decide ((d : Int) < 1000000000000) = false → P) : P := by
  rcases lt_case d with h | h
  · exact h1 h.1 h.2
  · exact h2 h.1 h.2
theorem ge12 (z : Int) : decide ((10 : Int) ^ (12 : Int).toNat ≤ z) = !decide (z < 1000000000000) := by
  rw [show (10 : Int) ^ (12 : Int).toNat = 1000000000000 from by decide +kernel]
  cases h : decide (z < 1000000000000) with
  | true => exact decide_eq_false (by have := of_decide_eq_true h; omega)
  | false => exact decide_eq_true (by have := of_decide_eq_false h; omega)
theorem sz_abs (D : Nat) (r : Rat) : (r.num * (D : Int).fdiv (r.den : Int)).natAbs = r.num.natAbs * (D / r.den) := by
  rw [Int.natAbs_mul, Int.fdiv_eq_ediv_of_nonneg _ (Int.natCast_nonneg _), ← Int.natCast_ediv, Int.natAbs_natCast]
def okN (D : Nat) (r : Rat) : Bool := decide (r.num.natAbs * (D / r.den) < 1000000000000)
theorem okN_eq (D : Nat) (r : Rat) : okN D r = (decide (r.num * (D : Int).fdiv (r.den : Int) < 1000000000000) && decide (-(r.num * (D : Int).fdiv (r.den : Int)) < 1000000000000)) := by
  unfold okN
  rw [← sz_abs, ← Bool.decide_and]
  exact decide_eq_decide.mpr (by omega)
theorem all_snoc {l : List Rat} {i : Nat} {r : Rat} {p : Rat → Bool} (h : l[i]? = some r) : (l.take (i + 1)).all p = ((l.take i).all p && p r) := by
  rw [List.take_add_one, h, List.all_append]
  simp
theorem all_no {l : List Rat} {r : Rat} {p : Rat → Bool} (h : r ∈ l) (hp : p r = false) : l.all p = false := by
  rw [Bool.eq_false_iff]
  intro z
  rw [List.all_eq_true.mp z r h] at hp
  cases hp
/-- a number above the common divisor -/
def ovr (D : Nat) (r : Rat) : Int := (if r.num < 0 then -r.num else r.num) * (D : Int).fdiv (r.den : Int)
theorem ovr_eq (D : Nat) (r : Rat) : ovr D r = ((r.num.natAbs * (D / r.den) : Nat) : Int) := by
  unfold ovr
  rw [Int.fdiv_eq_ediv_of_nonneg _ (Int.natCast_nonneg _), ← Int.natCast_ediv, Int.natCast_mul]
  congr 1
  split <;> omega
theorem short_max {l : List Rat} {m : Int} (h1 : m ∈ l.map (ovr (lcml l))) (h2 : ∀ y ∈ l.map (ovr (lcml l)), y ≤ m) : decide (m < 1000000000000) = l.all fun r => decide (r.num.natAbs * (lcml l / r.den) < 1000000000000) := by
  rw [Bool.eq_iff_iff, decide_eq_true_iff, List.all_eq_true]
  constructor
  · intro h r hr
    have h3 := h2 _ (List.mem_map_of_mem hr)
    rw [ovr_eq] at h3
    exact decide_eq_true (by omega)
  · intro h
    obtain ⟨r, hr, rfl⟩ := List.mem_map.mp h1
    have h3 := of_decide_eq_true (h r hr)
    rw [ovr_eq]
    omega
def rloop (nms : List (List Nat)) (a : List Nat) : Nat → Rat → List Rat → Nat → Nat ⊕ (Rat × List Rat)
  | 0, x, xs, _ => .inr (x, xs)
  | f + 1, x, xs, i =>
    if a.length ≤ i then .inr (x, xs)
    else if isAt a i [43, 45] then
      match rterm nms a (skb a (i + 1)) with
      | .inl c => .inl c
      | .inr ((y, ys), e) =>
        if isAt a i [45] then rloop nms a f (x + -y) (List.zipWith (fun r s => r + s) xs (ys.map fun y => -y)) e
        else rloop nms a f (x + y) (List.zipWith (fun r s => r + s) xs ys) e
    else .inl (i + 1)
def rexpr (nms : List (List Nat)) (a : List Nat) : Nat ⊕ (Rat × List Rat) :=
  if isAt a (skb a 0) [45] then
    match rterm nms a (skb a (skb a 0 + 1)) with
    | .inl c => .inl c
    | .inr ((x, xs), e) => rloop nms a (a.length + 1) (-x) (xs.map fun y => -y) e
  else
    match rterm nms a (skb a 0) with
    | .inl c => .inl c
    | .inr ((x, xs), e) => rloop nms a (a.length + 1) x xs e
def rfull (nms : List (List Nat)) (a : List Nat) : Nat ⊕ (Rat × List Rat) :=
  match rexpr nms a with
  | .inl c => .inl c
  | .inr (x, xs) => if shortV (x :: xs) then .inr (x, xs) else .inl 1
theorem skb_ge {a : List Nat} {i : Nat} : i ≤ skb a i := Nat.le_add_right _ _
theorem rterm_ok {nms : List (List Nat)} {a : List Nat} {i e : Nat} {x : Rat} {xs : List Rat} (hi : i ≤ a.length) (h : rterm nms a i = .inr ((x, xs), e)) : i ≤ e ∧ e ≤ a.length ∧ Bd 42 x ∧ (∀ r ∈ xs, Bd 42 r) ∧ xs.length = nms.length := by
  have ul : ∀ k n, (unit k n).length = n := fun k n => by
    unfold unit
    rw [List.length_map, List.length_range]
  have ub : ∀ k n, ∀ r ∈ unit k n, Bd 1 r := by
    intro k n r hr
    unfold unit at hr
    obtain ⟨i, _, rfl⟩ := List.mem_map.mp hr
    split
    · exact bd_one
    · exact bd_zero
  rw [rterm_eq] at h
  by_cases g : isAt a i D10 = true
  · rw [if_pos g] at h
    cases hr : ratio a i with
    | inl c =>
      rw [hr] at h
      cases h
    | inr p =>
      obtain ⟨r, e1⟩ := p
      obtain ⟨el, br, ei⟩ := ratio_le hi hr
      rw [hr] at h
      dsimp only at h
      have s1 := skb_le el
      have s2 := skb_ge (a := a) (i := e1)
      by_cases g2 : isAt a (skb a e1) [42] = true
      · rw [if_pos g2] at h
        have lt := isAt_lt g2
        have sl2 := skb_le (a := a) (i := skb a e1 + 1) (by omega)
        have sg2 := skb_ge (a := a) (i := skb a e1 + 1)
        cases hp : rpar nms a (skb a (skb a e1 + 1)) with
        | inl c =>
          rw [hp] at h
          cases h
        | inr p =>
          obtain ⟨k, e2⟩ := p
          obtain ⟨k1, k2, k3⟩ := rpar_le sl2 hp
          rw [hp] at h
          dsimp only at h
          injection h with h
          injection h with h he
          injection h with hx hxs
          subst hx hxs he
          have s3 := skb_le k2
          have s4 := skb_ge (a := a) (i := e2)
          refine ⟨by omega, s3, (br.mul bd_zero).up (by decide), fun y hy => ?_, by rw [List.length_map, ul]⟩
          obtain ⟨z, hz, rfl⟩ := List.mem_map.mp hy
          exact (br.mul (ub _ _ z hz)).up (by decide)
      · rw [if_neg g2] at h
        injection h with h
        injection h with h he
        injection h with hx hxs
        subst hx hxs he
        refine ⟨by omega, s1, br.up (by decide), fun y hy => ?_, by rw [List.length_replicate]⟩
        rw [List.eq_of_mem_replicate hy]
        exact bd_zero.up (by decide)
  · rw [if_neg g] at h
    cases hp : rpar nms a i with
    | inl c =>
      rw [hp] at h
      cases h
    | inr p =>
      obtain ⟨k, e2⟩ := p
      obtain ⟨k1, k2, k3⟩ := rpar_le hi hp
      rw [hp] at h
      dsimp only at h
      injection h with h
      injection h with h he
      injection h with hx hxs
      subst hx hxs he
      have s3 := skb_le k2
      have s4 := skb_ge (a := a) (i := e2)
      exact ⟨by omega, s3, bd_zero.up (by decide), fun y hy => (ub _ _ y hy).up (by decide), ul _ _⟩
/-- how many signs stand from i on -/
def sgc (a : List Nat) (i : Nat) : Nat := ((a.drop i).filter fun c => decide (c ∈ [43, 45])).length
theorem sgc_step {a : List Nat} {i : Nat} (h : isAt a i [43, 45] = true) : sgc a i = sgc a (i + 1) + 1 := by
  have lt := isAt_lt h
  unfold isAt at h
  rw [List.getElem?_eq_getElem lt] at h
  unfold sgc
  have h2 : decide (a[i] ∈ [43, 45]) = true := h
  rw [List.drop_eq_getElem_cons lt, List.filter_cons_of_pos (p := fun c => decide (c ∈ [43, 45])) h2]
  rfl
theorem sgc_mono {a : List Nat} {i j : Nat} (h : i ≤ j) : sgc a j ≤ sgc a i := by
  obtain ⟨k, rfl⟩ : ∃ k, j = i + k := ⟨j - i, by omega⟩
  unfold sgc
  rw [← List.drop_drop]
  exact List.Sublist.length_le ((List.drop_sublist k (a.drop i)).filter _)
theorem zip_bd {n m : Nat} {xs ys : List Rat} (h1 : ∀ r ∈ xs, Bd n r) (h2 : ∀ r ∈ ys, Bd m r) : ∀ r ∈ List.zipWith (fun r s => r + s) xs ys, Bd (n + m + 1) r := by
  intro r hr
  obtain ⟨i, hi⟩ := List.mem_iff_getElem?.mp hr
  rw [List.getElem?_zipWith] at hi
  cases e1 : xs[i]? with
  | none =>
    rw [e1] at hi
    cases hi
  | some c =>
    cases e2 : ys[i]? with
    | none =>
      rw [e1, e2] at hi
      cases hi
    | some d =>
      rw [e1, e2] at hi
      obtain hi : c + d = r := Option.some.inj hi
      rw [← hi]
      exact (h1 _ (List.mem_of_getElem? e1)).add (h2 _ (List.mem_of_getElem? e2))
theorem neg_bd {n : Nat} {xs : List Rat} (h : ∀ r ∈ xs, Bd n r) : ∀ r ∈ xs.map (fun y => -y), Bd n r := by
  intro r hr
  obtain ⟨y, hy, rfl⟩ := List.mem_map.mp hr
  exact (h y hy).neg
theorem rloop_eq (nms : List (List Nat)) (a : List Nat) (f : Nat) (x : Rat) (xs : List Rat) (i : Nat) : rloop nms a (f + 1) x xs i = if a.length ≤ i then .inr (x, xs)
    else if isAt a i [43, 45] = true then
      match rterm nms a (skb a (i + 1)) with
      | .inl c => .inl c
      | .inr ((y, ys), e) =>
        if isAt a i [45] = true then rloop nms a f (x + -y) (List.zipWith (fun r s => r + s) xs (ys.map fun y => -y)) e
        else rloop nms a f (x + y) (List.zipWith (fun r s => r + s) xs ys) e
    else .inl (i + 1) := rfl
end

section
open SX (S)
theorem tw_lenE {p : Nat → Bool} : ∀ {x r : List Nat}, (∀ c ∈ x, p c = true) → (∀ c, r.head? = some c → p c = false) → ((x ++ r).takeWhile p).length = x.length
  | [], [], _, _ => rfl
  | [], d :: r, _, h => by
    have := h d rfl
    simp [List.takeWhile_cons, this]
  | d :: x, r, h, h2 => by
    have h3 := h d List.mem_cons_self
    rw [List.cons_append, List.takeWhile_cons, if_pos h3, List.length_cons, List.length_cons, tw_lenE (fun c hc => h c (List.mem_cons_of_mem _ hc)) h2]
theorem dg_appE {b pre x r : List Nat} (hx : ∀ c ∈ x, c ∈ b) (hr : ∀ c, r.head? = some c → c ∉ b) : dg b (pre ++ (x ++ r)) pre.length = x.length := by
  unfold dg
  rw [List.drop_left]
  exact tw_lenE (fun c hc => decide_eq_true (hx c hc)) (fun c hc => decide_eq_false (hr c hc))
theorem isAt_app {p r : List Nat} {c : Nat} {b : List Nat} : isAt (p ++ c :: r) p.length b = decide (c ∈ b) := by
  unfold isAt
  rw [List.getElem?_append_right (Nat.le_refl _), Nat.sub_self]
  rfl
theorem isAt_end {p : List Nat} {b : List Nat} : isAt p p.length b = false := by
  unfold isAt
  rw [List.getElem?_eq_none (Nat.le_refl _)]
def blk (B : List Nat) : Prop := ∀ c ∈ B, c = 32
/-- what stands behind a term and its blanks: nothing, or a sign -/
def sEnd (r : List Nat) : Prop := ∀ c, r.head? = some c → c ∈ [43, 45]
theorem sEnd_32 {r : List Nat} (h : sEnd r) : ∀ c, r.head? = some c → c ≠ 32 := fun c hc e => by
  have := h c hc
  rw [e] at this
  exact absurd this (by decide)
theorem skb_app {p B r : List Nat} (hB : blk B) (hr : ∀ c, r.head? = some c → c ≠ 32) : skb (p ++ (B ++ r)) p.length = p.length + B.length := by
  unfold skb
  rw [dg_appE (b := [32]) (fun c hc => by rw [hB c hc]; decide) fun c hc hm => hr c hc (List.mem_singleton.mp hm)]
theorem isAt_sEnd {p r : List Nat} (h : sEnd r) : isAt (p ++ r) p.length [42] = false := by
  cases r with
  | nil =>
    rw [List.append_nil]
    exact isAt_end
  | cons c r =>
    rw [isAt_app]
    have := h c rfl
    have h2 : ∀ c ∈ [43, 45], decide (c ∈ [42]) = false := by decide
    exact h2 c this
theorem head_app {B r : List Nat} {P : Nat → Prop} (h1 : ∀ c ∈ B, P c) (h2 : ∀ c, r.head? = some c → P c) : ∀ c, (B ++ r).head? = some c → P c := by
  intro c hc
  cases B with
  | nil => exact h2 c hc
  | cons d B =>
    obtain rfl : d = c := Option.some.inj hc
    exact h1 d List.mem_cons_self
theorem numL_pos (n : Nat) : 0 < (TL.numL n).length := List.length_pos_iff.mpr (TL.numL_ne n)
theorem ratio_num {p r : List Nat} {n : Nat} (hn : n < 10 ^ 12) (hr : ∀ c, r.head? = some c → c ∉ D10 ∧ c ≠ 47) : ratio (p ++ (TL.numL n ++ r)) p.length = .inr (Rat.divInt (n : Int) 1, p.length + (TL.numL n).length) := by
  have h1 := dg_num (p := p) (n := n) (r := r) fun c hc => (hr c hc).1
  have h2 := dv_num (p := p) (n := n) (r := r)
  have h3 := TL.numL_len (k := 12) (by decide) hn
  have h4 := numL_pos n
  have h5 : (p ++ (TL.numL n ++ r))[p.length + (TL.numL n).length]? ≠ some 47 := by
    rw [← List.append_assoc, List.getElem?_append_right (by rw [List.length_append]; exact Nat.le_refl _), List.length_append, Nat.sub_self]
    intro z
    cases r with
    | nil => cases z
    | cons c r =>
      obtain rfl : c = 47 := Option.some.inj z
      exact (hr 47 rfl).2 rfl
  unfold ratio
  rw [h1, h2, if_neg (by omega), if_neg h5]
theorem ratio_frac {p r : List Nat} {n m : Nat} (hn : n < 10 ^ 12) (hm : m < 10 ^ 12) (h0 : 0 < m) (hr : ∀ c, r.head? = some c → c ∉ D10) :
    ratio (p ++ (TL.numL n ++ (47 :: (TL.numL m ++ r)))) p.length = .inr (Rat.divInt (n : Int) (m : Int), p.length + (TL.numL n).length + 1 + (TL.numL m).length) := by
  have h1 := dg_num (p := p) (n := n) (r := 47 :: (TL.numL m ++ r)) fun c hc => by
    obtain rfl : 47 = c := Option.some.inj hc
    decide
  have h2 := dv_num (p := p) (n := n) (r := 47 :: (TL.numL m ++ r))
  have h3 := TL.numL_len (k := 12) (by decide) hn
  have h4 := numL_pos n
  have e : p ++ (TL.numL n ++ (47 :: (TL.numL m ++ r))) = (p ++ (TL.numL n ++ [47])) ++ (TL.numL m ++ r) := by simp
  have el : (p ++ (TL.numL n ++ [47])).length = p.length + (TL.numL n).length + 1 := by
    simp
    omega
  have k1 := dg_num (p := p ++ (TL.numL n ++ [47])) (n := m) (r := r) hr
  have k2 := dv_num (p := p ++ (TL.numL n ++ [47])) (n := m) (r := r)
  rw [← e, el] at k1 k2
  have k3 := TL.numL_len (k := 12) (by decide) hm
  have k4 := numL_pos m
  have h5 : (p ++ (TL.numL n ++ (47 :: (TL.numL m ++ r))))[p.length + (TL.numL n).length]? = some 47 := by
    rw [← List.append_assoc, List.getElem?_append_right (by rw [List.length_append]; exact Nat.le_refl _), List.length_append, Nat.sub_self]
    rfl
  unfold ratio
  rw [h1, h2, if_neg (by omega), if_pos h5, k1, k2, if_neg (by omega), if_neg (by omega)]
theorem rpar_name {nms : List (List Nat)} {p w r : List Nat} (hw : w ∈ nms) (hc : ∀ c ∈ w, c ∈ WCl) (hr : ∀ c, r.head? = some c → c ∉ WCl) : rpar nms (p ++ (w ++ r)) p.length = .inr (ix w nms, p.length + w.length) := by
  have h1 := dg_appE (pre := p) hc hr
  have h2 : word (p ++ (w ++ r)) p.length = w := by
    unfold word
    rw [h1, List.drop_left, List.take_left]
  unfold rpar
  rw [h2, h1, if_pos hw]
/-- what a term tells, whatever stands around it -/
def TermOk (nms : List (List Nat)) (w : List Nat) (x : Rat) (xs : List Rat) : Prop := (∃ c t, w = c :: t ∧ c ≠ 32 ∧ c ≠ 45) ∧ ∀ p B r, blk B → sEnd r → rterm nms (p ++ (w ++ (B ++ r))) p.length = .inr ((x, xs), p.length + w.length + B.length)
/-- a number that is written -/
def NumOk (w : List Nat) (x : Rat) : Prop := (∃ c t, w = c :: t ∧ c ∈ D10) ∧ ∀ p r, (∀ c, r.head? = some c → c ∉ D10 ∧ c ≠ 47) → ratio (p ++ (w ++ r)) p.length = .inr (x, p.length + w.length)
theorem numL_hd (n : Nat) : ∃ c t, TL.numL n = c :: t ∧ c ∈ D10 := by
  cases e : TL.numL n with
  | nil => exact absurd e (TL.numL_ne n)
  | cons c t => exact ⟨c, t, rfl, of_decide_eq_true (numL_D10 n c (by rw [e]; exact List.mem_cons_self))⟩
theorem num_ok {n : Nat} (h : n < 10 ^ 12) : NumOk (TL.numL n) (Rat.divInt (n : Int) 1) := ⟨numL_hd n, fun _ _ hr => ratio_num h hr⟩
theorem frac_ok {n m : Nat} (h : n < 10 ^ 12) (h2 : m < 10 ^ 12) (h0 : 0 < m) : NumOk (TL.numL n ++ 47 :: TL.numL m) (Rat.divInt (n : Int) (m : Int)) := by
  obtain ⟨c, t, e, hc⟩ := numL_hd n
  refine ⟨⟨c, t ++ 47 :: TL.numL m, by rw [e]; rfl, hc⟩, fun p r hr => ?_⟩
  have h3 := ratio_frac (p := p) (r := r) h h2 h0 fun c hc => (hr c hc).1
  rw [show p ++ ((TL.numL n ++ 47 :: TL.numL m) ++ r) = p ++ (TL.numL n ++ (47 :: (TL.numL m ++ r))) by simp, h3]
  congr 2
  rw [List.length_append, List.length_cons]
  omega
theorem isAt_head {p w r : List Nat} {b : List Nat} {c : Nat} {t : List Nat} (e : w = c :: t) : isAt (p ++ (w ++ r)) p.length b = decide (c ∈ b) := by
  subst e
  exact isAt_app
theorem d10_ne {c : Nat} (h : c ∈ D10) : c ≠ 32 ∧ c ≠ 45 := by
  have : ∀ c ∈ D10, c ≠ 32 ∧ c ≠ 45 := by decide
  exact this c h
theorem term_num {nms : List (List Nat)} {w : List Nat} {x : Rat} (h : NumOk w x) : TermOk nms w x (List.replicate nms.length 0) := by
  obtain ⟨⟨c, t, e, hc⟩, hr⟩ := h
  refine ⟨⟨c, t, e, d10_ne hc⟩, fun p B r hB hs => ?_⟩
  have hh : ∀ c, (B ++ r).head? = some c → c ∉ D10 ∧ c ≠ 47 := head_app (P := fun c => c ∉ D10 ∧ c ≠ 47) (fun c hc => by rw [hB c hc]; decide) (fun c hc => by
    have : ∀ c ∈ [43, 45], c ∉ D10 ∧ c ≠ 47 := by decide
    exact this c (hs c hc))
  have h1 := hr p (B ++ r) hh
  have e1 : skb (p ++ (w ++ (B ++ r))) (p.length + w.length) = p.length + w.length + B.length := by
    have := skb_app (p := p ++ w) hB (sEnd_32 hs)
    rw [List.length_append, List.append_assoc] at this
    exact this
  have e2 : isAt (p ++ (w ++ (B ++ r))) (p.length + w.length + B.length) [42] = false := by
    have := isAt_sEnd (p := p ++ (w ++ B)) hs
    rw [List.length_append, List.length_append, List.append_assoc, List.append_assoc] at this
    rw [Nat.add_assoc]
    exact this
  rw [rterm_eq, isAt_head e, decide_eq_true hc, if_pos rfl, h1]
  dsimp only
  rw [e1, e2]
  rfl
theorem term_name {nms : List (List Nat)} {w : List Nat} (hw : w ∈ nms) (hc : ∀ c ∈ w, c ∈ WCl) (h0 : ∃ c t, w = c :: t ∧ c ∉ D10) : TermOk nms w 0 (unit (ix w nms) nms.length) := by
  obtain ⟨c, t, e, hd⟩ := h0
  have hcw : c ∈ WCl := hc c (by rw [e]; exact List.mem_cons_self)
  refine ⟨⟨c, t, e, by
    have : ∀ c ∈ WCl, c ≠ 32 ∧ c ≠ 45 := by decide
    exact this c hcw⟩, fun p B r hB hs => ?_⟩
  have hh : ∀ c, (B ++ r).head? = some c → c ∉ WCl := head_app (P := fun c => c ∉ WCl) (fun c hc => by rw [hB c hc]; decide) (fun c hc => by
    have : ∀ c ∈ [43, 45], c ∉ WCl := by decide
    exact this c (hs c hc))
  have h1 := rpar_name (p := p) hw hc hh
  have e1 : skb (p ++ (w ++ (B ++ r))) (p.length + w.length) = p.length + w.length + B.length := by
    have := skb_app (p := p ++ w) hB (sEnd_32 hs)
    rw [List.length_append, List.append_assoc] at this
    exact this
  rw [rterm_eq, isAt_head e, decide_eq_false hd, if_neg Bool.false_ne_true, h1]
  dsimp only
  rw [e1]
theorem term_prod {nms : List (List Nat)} {w n b : List Nat} {x : Rat} (h : NumOk w x) (hb : blk b) (hn : n ∈ nms) (hc : ∀ c ∈ n, c ∈ WCl) (h0 : ∃ c t, n = c :: t ∧ c ∉ D10) : TermOk nms (w ++ (b ++ (42 :: (b ++ n)))) (x * 0) ((unit (ix n nms) nms.length).map fun y => x * y) := by
  obtain ⟨⟨c, t, e, hd⟩, hr⟩ := h
  obtain ⟨c2, t2, en, hd2⟩ := h0
  have hc2 : c2 ∈ WCl := hc c2 (by rw [en]; exact List.mem_cons_self)
  refine ⟨⟨c, t ++ (b ++ (42 :: (b ++ n))), by rw [e]; rfl, d10_ne hd⟩, fun p B r hB hs => ?_⟩
  have hh : ∀ c, (B ++ r).head? = some c → c ∉ WCl := head_app (P := fun c => c ∉ WCl) (fun c hc => by rw [hB c hc]; decide) (fun c hc => by
    have : ∀ c ∈ [43, 45], c ∉ WCl := by decide
    exact this c (hs c hc))
  have ea : p ++ ((w ++ (b ++ (42 :: (b ++ n)))) ++ (B ++ r)) = p ++ (w ++ (b ++ (42 :: (b ++ (n ++ (B ++ r)))))) := by simp
  have h1 := hr p (b ++ (42 :: (b ++ (n ++ (B ++ r))))) (head_app (P := fun c => c ∉ D10 ∧ c ≠ 47) (fun c hc => by rw [hb c hc]; decide) (fun c hc => by
    obtain rfl : 42 = c := Option.some.inj hc
    decide))
  have e1 : skb (p ++ (w ++ (b ++ (42 :: (b ++ (n ++ (B ++ r))))))) (p.length + w.length) = p.length + w.length + b.length := by
    have := skb_app (p := p ++ w) (r := 42 :: (b ++ (n ++ (B ++ r)))) hb (fun c hc => by
      obtain rfl : 42 = c := Option.some.inj hc
      decide)
    rw [List.length_append, List.append_assoc] at this
    exact this
  have e2 : isAt (p ++ (w ++ (b ++ (42 :: (b ++ (n ++ (B ++ r))))))) (p.length + w.length + b.length) [42] = true := by
    have := isAt_app (p := p ++ (w ++ b)) (c := 42) (r := b ++ (n ++ (B ++ r))) (b := [42])
    rw [List.length_append, List.length_append, List.append_assoc, List.append_assoc] at this
    rw [Nat.add_assoc, this]
    decide
  have e3 : skb (p ++ (w ++ (b ++ (42 :: (b ++ (n ++ (B ++ r))))))) (p.length + w.length + b.length + 1) = p.length + w.length + b.length + 1 + b.length := by
    have := skb_app (p := p ++ (w ++ (b ++ [42]))) (r := n ++ (B ++ r)) hb (fun c hc => by
      rw [en] at hc
      obtain rfl : c2 = c := Option.some.inj hc
      have : ∀ c ∈ WCl, c ≠ 32 := by decide
      exact this _ hc2)
    have el : (p ++ (w ++ (b ++ [42]))).length = p.length + w.length + b.length + 1 := by
      simp only [List.length_append, List.length_cons, List.length_nil]
      omega
    rw [show p ++ (w ++ (b ++ [42])) ++ (b ++ (n ++ (B ++ r))) = p ++ (w ++ (b ++ (42 :: (b ++ (n ++ (B ++ r)))))) by simp, el] at this
    exact this
  have e4 : rpar nms (p ++ (w ++ (b ++ (42 :: (b ++ (n ++ (B ++ r))))))) (p.length + w.length + b.length + 1 + b.length) = .inr (ix n nms, p.length + w.length + b.length + 1 + b.length + n.length) := by
    have := rpar_name (p := p ++ (w ++ (b ++ (42 :: b)))) (r := B ++ r) hn hc hh
    have el : (p ++ (w ++ (b ++ (42 :: b)))).length = p.length + w.length + b.length + 1 + b.length := by
      simp only [List.length_append, List.length_cons]
      omega
    rw [show p ++ (w ++ (b ++ (42 :: b))) ++ (n ++ (B ++ r)) = p ++ (w ++ (b ++ (42 :: (b ++ (n ++ (B ++ r)))))) by simp, el] at this
    exact this
  have e5 : skb (p ++ (w ++ (b ++ (42 :: (b ++ (n ++ (B ++ r))))))) (p.length + w.length + b.length + 1 + b.length + n.length) = p.length + w.length + b.length + 1 + b.length + n.length + B.length := by
    have := skb_app (p := p ++ (w ++ (b ++ (42 :: (b ++ n))))) hB (sEnd_32 hs)
    have el : (p ++ (w ++ (b ++ (42 :: (b ++ n))))).length = p.length + w.length + b.length + 1 + b.length + n.length := by
      simp only [List.length_append, List.length_cons]
      omega
    rw [show p ++ (w ++ (b ++ (42 :: (b ++ n)))) ++ (B ++ r) = p ++ (w ++ (b ++ (42 :: (b ++ (n ++ (B ++ r)))))) by simp, el] at this
    exact this
  rw [ea, rterm_eq, isAt_head e, decide_eq_true hd, if_pos rfl, h1]
  dsimp only
  rw [e1, e2, if_pos rfl, e3, e4]
  dsimp only
  rw [e5]
  congr 2
  simp only [List.length_append, List.length_cons]
  omega
end

section
open SX (S)
/-- a term with its sign, the blanks behind the sign, and the blanks behind the term -/
structure EI where
  neg : Bool
  bs : List Nat
  w : List Nat
  x : Rat
  xs : List Rat
  B : List Nat
def sgE (b : Bool) (x : Rat) : Rat := if b = true then -x else x
def EI.txt (i : EI) : List Nat := (if i.neg = true then 45 else 43) :: (i.bs ++ (i.w ++ i.B))
def flatE : List EI → List Nat
  | [] => []
  | i :: l => (if i.neg = true then 45 else 43) :: (i.bs ++ (i.w ++ (i.B ++ flatE l)))
theorem flatE_cons (i : EI) (l : List EI) : flatE (i :: l) = i.txt ++ flatE l := by
  show _ :: _ = _
  unfold EI.txt
  simp
def EOk (nms : List (List Nat)) (i : EI) : Prop := blk i.bs ∧ blk i.B ∧ TermOk nms i.w i.x i.xs
def sumE (x : Rat) (xs : List Rat) : List EI → Rat × List Rat
  | [] => (x, xs)
  | i :: l => sumE (x + sgE i.neg i.x) (List.zipWith (fun r s => r + s) xs (i.xs.map (sgE i.neg))) l
theorem flatE_end : ∀ l, sEnd (flatE l)
  | [], c, h => by cases h
  | i :: l, c, h => by
    have e : (if i.neg = true then 45 else 43) = c := Option.some.inj h
    rw [← e]
    split <;> decide
theorem flatE_len : ∀ l, l.length ≤ (flatE l).length
  | [] => Nat.le_refl _
  | i :: l => by
    have := flatE_len l
    show _ ≤ (_ :: _).length
    simp only [List.length_cons, List.length_append]
    omega
theorem w_ne {nms : List (List Nat)} {w r : List Nat} {x : Rat} {xs : List Rat} (h : TermOk nms w x xs) : ∀ c, (w ++ r).head? = some c → c ≠ 32 ∧ c ≠ 45 := by
  obtain ⟨⟨c, t, e, h1, h2⟩, _⟩ := h
  subst e
  intro d hd
  obtain rfl : c = d := Option.some.inj hd
  exact ⟨h1, h2⟩
theorem rloop_flat {nms : List (List Nat)} : ∀ (l : List EI), (∀ i ∈ l, EOk nms i) → ∀ (f : Nat) (p : List Nat) (x : Rat) (xs : List Rat), l.length < f → rloop nms (p ++ flatE l) f x xs p.length = .inr (sumE x xs l)
  | [], _, f, p, x, xs, hf => by
    obtain ⟨f, rfl⟩ : ∃ f', f = f' + 1 := ⟨f - 1, by omega⟩
    rw [rloop_eq, if_pos (by show (p ++ []).length ≤ _; rw [List.append_nil]; exact Nat.le_refl _)]
    rfl
  | i :: l, hi, f, p, x, xs, hf => by
    obtain ⟨f, rfl⟩ : ∃ f', f = f' + 1 := ⟨f - 1, by omega⟩
    obtain ⟨h1, h2, h3⟩ := hi i List.mem_cons_self
    have hl : l.length < f := by
      rw [List.length_cons] at hf
      omega
    have ih := rloop_flat l (fun j hj => hi j (List.mem_cons_of_mem _ hj)) f
    have hw := w_ne (r := i.B ++ flatE l) h3
    obtain ⟨c, hc⟩ : ∃ c, (if i.neg = true then 45 else 43) = c := ⟨_, rfl⟩
    have hc2 : c ∈ [43, 45] := by
      rw [← hc]
      split <;> decide
    have ea : p ++ flatE (i :: l) = p ++ c :: (i.bs ++ (i.w ++ (i.B ++ flatE l))) := by
      rw [← hc]
      rfl
    have e0 : isAt (p ++ flatE (i :: l)) p.length [43, 45] = true := by
      rw [ea, isAt_app]
      exact decide_eq_true hc2
    have e1 : isAt (p ++ flatE (i :: l)) p.length [45] = i.neg := by
      rw [ea, isAt_app, ← hc]
      cases i.neg <;> decide
    have l1 : (p ++ [c]).length = p.length + 1 := by
      rw [List.length_append]
      rfl
    have e2 : skb (p ++ flatE (i :: l)) (p.length + 1) = (p ++ (c :: i.bs)).length := by
      have := skb_app (p := p ++ [c]) (r := i.w ++ (i.B ++ flatE l)) h1 fun d hd => (hw d hd).1
      rw [l1, show p ++ [c] ++ (i.bs ++ (i.w ++ (i.B ++ flatE l))) = p ++ c :: (i.bs ++ (i.w ++ (i.B ++ flatE l))) by simp, ← ea] at this
      rw [this]
      simp only [List.length_append, List.length_cons]
      omega
    have e3 := h3.2 (p ++ (c :: i.bs)) i.B (flatE l) h2 (flatE_end l)
    rw [show p ++ (c :: i.bs) ++ (i.w ++ (i.B ++ flatE l)) = p ++ c :: (i.bs ++ (i.w ++ (i.B ++ flatE l))) by simp, ← ea] at e3
    have l2 : (p ++ (c :: i.bs)).length + i.w.length + i.B.length = (p ++ (c :: (i.bs ++ (i.w ++ i.B)))).length := by
      simp only [List.length_append, List.length_cons]
      omega
    have e4 : p ++ flatE (i :: l) = (p ++ (c :: (i.bs ++ (i.w ++ i.B)))) ++ flatE l := by
      rw [ea]
      simp
    have hlen : ¬ (p ++ flatE (i :: l)).length ≤ p.length := by
      rw [ea]
      simp only [List.length_append, List.length_cons]
      omega
    rw [rloop_eq, if_neg hlen, if_pos e0, e2, e3, e1]
    dsimp only
    rw [l2, e4]
    unfold sumE sgE
    cases i.neg with
    | true =>
      rw [if_pos rfl]
      exact ih _ _ _ hl
    | false =>
      rw [if_neg Bool.false_ne_true, ih _ _ _ hl]
      simp
/-- the text of a first term behind leading blanks -/
def headE (L : List Nat) (i : EI) : List Nat := L ++ ((if i.neg = true then 45 :: i.bs else []) ++ (i.w ++ i.B))
theorem rexpr_flat {nms : List (List Nat)} {L : List Nat} {i : EI} {l : List EI} (hL : blk L) (h : EOk nms i) (hl : ∀ i ∈ l, EOk nms i) :
    rexpr nms (headE L i ++ flatE l) = .inr (sumE (sgE i.neg i.x) (i.xs.map (sgE i.neg)) l) := by
  obtain ⟨h1, h2, h3⟩ := h
  have hw := w_ne (r := i.B ++ flatE l) h3
  have hf : l.length < (headE L i ++ flatE l).length + 1 := by
    have := flatE_len l
    rw [List.length_append]
    omega
  unfold headE at hf ⊢
  cases hn : i.neg with
  | true =>
    rw [hn] at hf
    rw [if_pos rfl] at hf ⊢
    have ea : (L ++ (45 :: i.bs ++ (i.w ++ i.B))) ++ flatE l = L ++ (45 :: (i.bs ++ (i.w ++ (i.B ++ flatE l)))) := by simp
    have e0 : skb ((L ++ (45 :: i.bs ++ (i.w ++ i.B))) ++ flatE l) 0 = L.length := by
      have := skb_app (p := []) (r := 45 :: (i.bs ++ (i.w ++ (i.B ++ flatE l)))) hL fun d hd => by
        obtain rfl : 45 = d := Option.some.inj hd
        decide
      rw [ea]
      simpa using this
    have e1 : isAt ((L ++ (45 :: i.bs ++ (i.w ++ i.B))) ++ flatE l) L.length [45] = true := by
      rw [ea, isAt_app]
      decide
    have l1 : (L ++ [45]).length = L.length + 1 := by
      rw [List.length_append]
      rfl
    have e2 : skb ((L ++ (45 :: i.bs ++ (i.w ++ i.B))) ++ flatE l) (L.length + 1) = (L ++ (45 :: i.bs)).length := by
      have := skb_app (p := L ++ [45]) (r := i.w ++ (i.B ++ flatE l)) h1 fun d hd => (hw d hd).1
      rw [l1, show L ++ [45] ++ (i.bs ++ (i.w ++ (i.B ++ flatE l))) = L ++ (45 :: (i.bs ++ (i.w ++ (i.B ++ flatE l)))) by simp, ← ea] at this
      rw [this]
      simp only [List.length_append, List.length_cons]
      omega
    have e3 := h3.2 (L ++ (45 :: i.bs)) i.B (flatE l) h2 (flatE_end l)
    rw [show L ++ (45 :: i.bs) ++ (i.w ++ (i.B ++ flatE l)) = L ++ (45 :: (i.bs ++ (i.w ++ (i.B ++ flatE l)))) by simp, ← ea] at e3
    have l2 : (L ++ (45 :: i.bs)).length + i.w.length + i.B.length = (L ++ (45 :: i.bs ++ (i.w ++ i.B))).length := by
      simp only [List.length_append, List.length_cons]
      omega
    unfold rexpr
    rw [e0, if_pos e1, e2, e3]
    dsimp only
    rw [l2, rloop_flat l hl _ _ _ _ hf]
    unfold sgE
    simp
  | false =>
    rw [hn] at hf
    rw [if_neg Bool.false_ne_true, List.nil_append] at hf ⊢
    have ea : (L ++ (i.w ++ i.B)) ++ flatE l = L ++ (i.w ++ (i.B ++ flatE l)) := by simp
    have e0 : skb ((L ++ (i.w ++ i.B)) ++ flatE l) 0 = L.length := by
      have := skb_app (p := []) (r := i.w ++ (i.B ++ flatE l)) hL fun d hd => (hw d hd).1
      rw [ea]
      simpa using this
    have e1 : ¬ isAt ((L ++ (i.w ++ i.B)) ++ flatE l) L.length [45] = true := by
      rw [ea]
      obtain ⟨⟨c, t, e, h4, h5⟩, _⟩ := h3
      rw [isAt_head e]
      intro z
      exact h5 (List.mem_singleton.mp (of_decide_eq_true z))
    have e3 := h3.2 L i.B (flatE l) h2 (flatE_end l)
    rw [← ea] at e3
    have l2 : L.length + i.w.length + i.B.length = (L ++ (i.w ++ i.B)).length := by
      simp only [List.length_append]
      omega
    unfold rexpr
    rw [e0, if_neg e1, e3]
    dsimp only
    rw [l2, rloop_flat l hl _ _ _ _ hf]
    unfold sgE
    simp
/-- a text that an expression's further terms may follow -/
def GE (nms : List (List Nat)) (a : List Nat) (x : Rat) (xs : List Rat) : Prop := ∀ l : List EI, (∀ i ∈ l, EOk nms i) → rexpr nms (a ++ flatE l) = .inr (sumE x xs l)
theorem GE.first {nms : List (List Nat)} {L : List Nat} {i : EI} (hL : blk L) (h : EOk nms i) : GE nms (headE L i) (sgE i.neg i.x) (i.xs.map (sgE i.neg)) := fun _ hl => rexpr_flat hL h hl
theorem GE.next {nms : List (List Nat)} {a : List Nat} {x : Rat} {xs : List Rat} {i : EI} (g : GE nms a x xs) (h : EOk nms i) : GE nms (a ++ i.txt) (x + sgE i.neg i.x) (List.zipWith (fun r s => r + s) xs (i.xs.map (sgE i.neg))) := by
  intro l hl
  have := g (i :: l) fun j hj => by
    rcases List.mem_cons.mp hj with e | e
    · rw [e]
      exact h
    · exact hl j e
  rw [flatE_cons, ← List.append_assoc] at this
  exact this
theorem GE.full {nms : List (List Nat)} {a : List Nat} {x : Rat} {xs : List Rat} (g : GE nms a x xs) : rfull nms a = if shortV (x :: xs) = true then .inr (x, xs) else .inl 1 := by
  have := g [] fun _ h => by cases h
  rw [show a ++ flatE [] = a from List.append_nil a] at this
  unfold rfull
  rw [this]
  rfl
/-- the number of signs in a text -/
def sgs (a : List Nat) : Nat := (a.filter fun c => decide (c ∈ [43, 45])).length
theorem sgs_app (a b : List Nat) : sgs (a ++ b) = sgs a + sgs b := by
  unfold sgs
  rw [List.filter_append, List.length_append]
theorem div1E (n : Int) : Rat.divInt n 1 = (n : Rat) := (Rat.divInt_ofNat n 1).trans (Rat.mkRat_one n)
theorem fx_litE {K : PySem.W.Frag} {H : Hp} {a : Addr} {r : Rat} {p q : Int} (h : H a = some (.tup [.int p, .int q])) (h1 : r.num = p) (h2 : (r.den : Int) = q) : Fx K H a r := by
  subst h1 h2
  exact SqT.of h
theorem sqt_setq {K : PySem.W.Frag} {H : Hp} {q a : Addr} {ws ws' xs : List V} (hq : H q = some (.lst ws)) (h : SqT K H a xs) : SqT K (upd H q (.lst ws')) a xs := by
  rcases h with (h | ⟨o, h⟩) | h
  · exact .inl (.inl (by rw [upd_ne (fun e => by rw [e, hq] at h; cases h)]; exact h))
  · exact .inl (.inr ⟨o, by rw [upd_ne (fun e => by rw [e, hq] at h; cases h)]; exact h⟩)
  · exact .inr h
theorem sgE_bd {n : Nat} {b : Bool} {f : Rat} (h : Bd n f) : Bd n (sgE b f) := by
  cases b with
  | true => exact h.neg
  | false => exact h
/-- every object but one stays -/
def SameX (q : Addr) (H H' : Hp) : Prop := ∀ a o, a ≠ q → H a = some o → H' a = some o
theorem SameX.seq {K : PySem.W.Frag} {q a : Addr} {H H' : Hp} {xs : List V} (h : SameX q H H') (n : a ≠ q) (e : H a = some (.lst xs)) : H' a = some (.lst xs) := h a _ n e
def NmOk (n : List Nat) : Prop := (∀ c ∈ n, c ∈ WCl) ∧ (∃ c t, n = c :: t ∧ c ∉ D10) ∧ n.length ≤ 8
def NmsOk (nms : List (List Nat)) : Prop := nms.length ≤ 4 ∧ nms.Nodup ∧ ∀ n ∈ nms, NmOk n
def WrOk (w : List Nat) : Prop := w.length ≤ 30 ∧ sgs w = 0
theorem sgs_none : ∀ {a : List Nat}, (∀ c ∈ a, c ∉ [43, 45]) → sgs a = 0
  | [], _ => rfl
  | c :: a, h => by
    have := sgs_none fun d hd => h d (List.mem_cons_of_mem _ hd)
    unfold sgs at this ⊢
    rw [List.filter_cons, if_neg (by simpa using h c List.mem_cons_self)]
    exact this
theorem sgs_num (n : Nat) : sgs (TL.numL n) = 0 := sgs_none fun c hc => by
  have h := of_decide_eq_true (numL_D10 n c hc)
  have : ∀ c ∈ D10, c ∉ [43, 45] := by decide
  exact this c h
theorem sgs_nm {n : List Nat} (h : NmOk n) : sgs n = 0 := sgs_none fun c hc => by
  have : ∀ c ∈ WCl, c ∉ [43, 45] := by decide
  exact this c (h.1 c hc)
def four : List (List Nat) := [[119], [104, 101, 105, 103, 104, 116, 95, 50], [87], [115, 48]]
theorem four_ok (n : Nat) : NmsOk (four.take n) := by
  have h4 : ∀ m ∈ four, (∀ c ∈ m, c ∈ WCl) ∧ m ≠ [] ∧ m.head? ≠ none ∧ (∀ c, m.head? = some c → c ∉ D10) ∧ m.length ≤ 8 := by decide
  refine ⟨?_, (by decide : four.Nodup).sublist (List.take_sublist n four), fun m hm => ?_⟩
  · rw [List.length_take]
    show min n 4 ≤ 4
    omega
  · obtain ⟨h1, h2, h3, h5, h6⟩ := h4 m (List.mem_of_mem_take hm)
    refine ⟨h1, ?_, h6⟩
    cases m with
    | nil => exact absurd rfl h2
    | cons c t => exact ⟨c, t, rfl, h5 c rfl⟩
theorem same_ofX {q : Addr} {H0 H1 H2 : Hp} (h : H0 q = none) (s : Same H0 H1) (x : SameX q H1 H2) : Same H0 H2 := fun a o e => x a o (fun z => by rw [z, h] at e; cases e) (s a o e)
theorem zip_nought : ∀ {n : Nat} {l : List Rat}, l.length = n → List.zipWith (fun r s => r + s) (List.replicate n (0 : Rat)) l = l
  | 0, [], _ => rfl
  | n + 1, x :: l, h => by
    rw [List.replicate_succ, List.zipWith_cons_cons, zip_nought (by rw [List.length_cons] at h; omega), Rat.zero_add]
def pdsl (l : List (List Nat)) : PyData := .list (l.map fun x => PyData.str (S x))
theorem dps_all {K : PySem.W.Frag} {H : Hp} : ∀ l : List (List Nat), DpAll K H (l.map sv) (l.map fun x => PyData.str (S x))
  | [] => .nil
  | _ :: l => .cons (.str _) (dps_all l)
theorem shs {l : List (List Nat)} (h : ∀ n ∈ l, ∀ c ∈ n, c ∈ WCl) : PyData.canLayAll0 (l.map fun x => PyData.str (S x)) = true ∧ PyData.depthAll (l.map fun x => PyData.str (S x)) = 0 := by
  induction l with
  | nil => decide
  | cons r rs ih =>
    have ih := ih fun n hn => h n (List.mem_cons_of_mem _ hn)
    have h3 : (PyData.str (S r)).canLay0 = true := by
      show PySem.PyData.strOk (S r) = true
      unfold PySem.PyData.strOk
      rw [← Array.all_toList]
      show r.all _ = true
      rw [List.all_eq_true]
      intro c hc
      have : ∀ c ∈ WCl, decide (c < 0x110000) = true := by decide
      exact this c (h r List.mem_cons_self c hc)
    rw [List.map_cons, PyData.canLayAll0, PyData.depthAll, ih.1, ih.2, h3]
    exact ⟨rfl, rfl⟩
theorem shs_l {l : List (List Nat)} (h : ∀ n ∈ l, ∀ c ∈ n, c ∈ WCl) : SeqAt.shaped (pdsl l) = true := by
  unfold SeqAt.shaped pdsl
  rw [PyData.canLay0, PyData.depth, (shs h).1, (shs h).2]
  rfl
theorem eqvs_self {l : List (List Nat)} (h : ∀ n ∈ l, ∀ c ∈ n, c ∈ WCl) : PyData.eqv (pdsl l) (pdsl l) = true := by
  have h2 := shs_l h
  unfold SeqAt.shaped at h2
  exact SeqAt.eqv_refl _ (by
    rw [Bool.and_eq_true] at h2
    exact h2.1)
/-- a single worth among noughts -/
def oneL (n k : Nat) (f : Rat) : List Rat := (List.range n).map fun i => if i = k then f else 0
theorem oneL_len (n k : Nat) (f : Rat) : (oneL n k f).length = n := by
  unfold oneL
  rw [List.length_map, List.length_range]
theorem sgE_0 (b : Bool) : sgE b 0 = 0 := by cases b <;> decide +kernel
theorem set_one {v : List Rat} {n k : Nat} {y f : Rat} {b : Bool} (hn : v.length = n) (hk : v[k]? = some y) : List.zipWith (fun r s => r + s) v ((oneL n k f).map (sgE b)) = v.set k (y + sgE b f) := by
  apply List.ext_getElem?
  intro i
  rw [List.getElem?_zipWith, List.getElem?_map, List.getElem?_set]
  unfold oneL
  rw [List.getElem?_map]
  rcases Nat.lt_or_ge i n with h | h
  · rw [List.getElem?_range h, List.getElem?_eq_getElem (by omega : i < v.length)]
    by_cases e : k = i
    · subst e
      rw [List.getElem?_eq_getElem (by omega : k < v.length)] at hk
      have hk := Option.some.inj hk
      rw [if_pos rfl]
      simp [hk, hn, h]
    · rw [if_neg e]
      have e2 : ¬ i = k := fun z => e z.symm
      simp [e2, sgE_0, Rat.add_zero]
  · rw [List.getElem?_eq_none (show v.length ≤ i by omega), List.getElem?_eq_none (l := List.range n) (by rw [List.length_range]; exact h)]
    have : k ≠ i := by
      intro z
      subst z
      rw [List.getElem?_eq_none (by omega)] at hk
      cases hk
    rw [if_neg this]
theorem oneL_zero (n : Nat) (f : Rat) : oneL (n + 1) 0 f = f :: List.replicate n 0 := by
  unfold oneL
  rw [List.range_succ_eq_map, List.map_cons, if_pos rfl, List.map_map]
  congr 1
  rw [List.eq_replicate_iff]
  refine ⟨by rw [List.length_map, List.length_range], fun r hr => ?_⟩
  obtain ⟨i, _, rfl⟩ := List.mem_map.mp hr
  show (if i + 1 = 0 then f else 0) = 0
  rw [if_neg (Nat.succ_ne_zero i)]
theorem oneL_succ (n k : Nat) (f : Rat) : oneL (n + 1) (k + 1) f = 0 :: (unit k n).map fun y => f * y := by
  unfold oneL unit
  rw [List.range_succ_eq_map, List.map_cons, if_neg (by omega), List.map_map, List.map_map]
  congr 1
  apply List.map_congr_left
  intro i _
  show (if i + 1 = k + 1 then f else 0) = f * (if i = k then 1 else 0)
  by_cases e : i = k
  · rw [if_pos e, if_pos (by omega), Rat.mul_one]
  · rw [if_neg e, if_neg (by omega), Rat.mul_zero]
theorem ix_nd {w : List Nat} : ∀ {l : List (List Nat)} {k : Nat}, l.Nodup → l[k]? = some w → ix w l = k
  | [], k, _, h => by cases h
  | n :: l, 0, _, h => by
    obtain rfl := Option.some.inj h
    unfold ix
    rw [if_pos rfl]
  | n :: l, k + 1, hd, h => by
    have h2 : l[k]? = some w := h
    have hm : w ∈ l := List.mem_of_getElem? h2
    have hd2 := List.nodup_cons.mp hd
    have e : ¬ n = w := fun z => hd2.1 (z ▸ hm)
    unfold ix
    rw [if_neg e, ix_nd hd2.2 h2]
end

section
open SX (S)
/-- the text of a fraction -/
def tdl (r : Rat) : List Nat := (if r.num < 0 then [45] else []) ++ (TL.numL r.num.natAbs ++ if r.den = 1 then [] else 47 :: TL.numL r.den)
/-- a fraction without its sign -/
def ab (s : Rat) : Rat := if s.num < 0 then -s else s
theorem ab_num (s : Rat) : (ab s).num = (s.num.natAbs : Int) := by
  unfold ab
  split
  · rw [Rat.neg_num]
    omega
  · omega
theorem ab_den (s : Rat) : (ab s).den = s.den := by
  unfold ab
  split
  · exact Rat.neg_den s
  · rfl
theorem sgE_ab (s : Rat) : sgE (decide (s.num < 0)) (ab s) = s := by
  unfold sgE ab
  by_cases h : s.num < 0
  · rw [decide_eq_true h, if_pos rfl, if_pos h, Rat.neg_neg]
  · rw [decide_eq_false h, if_neg Bool.false_ne_true, if_neg h]
theorem sgE_mul (b : Bool) (x y : Rat) : sgE b (x * y) = sgE b x * y := by
  cases b with
  | true => exact (Rat.neg_mul x y).symm
  | false => rfl
theorem sgE_zero (b : Bool) : sgE b 0 = 0 := by
  cases b with
  | true => exact Rat.neg_zero
  | false => rfl
/-- the text of a term, without its sign -/
def tx (o : Option (List Nat)) (s : Rat) : List Nat := match o with
  | some n => if ab s = 1 then n else tdl (ab s) ++ 42 :: n
  | none => tdl (ab s)
/-- a term behind a text -/
def jn (t : List Nat) (s : Rat) (w : List Nat) : List Nat := if t = [] then (if s.num < 0 then [45] else []) ++ w else t ++ ((if s.num < 0 then [32, 45, 32] else [32, 43, 32]) ++ w)
def Sm (r : Rat) : Prop := r.num.natAbs ≤ 1000 ∧ r.den ≤ 12
theorem Sm.bd {r : Rat} (h : Sm r) : Bd 42 r := by
  have b : (1000 : Nat) < 2 ^ 42 := by decide
  exact ⟨Nat.lt_of_le_of_lt h.1 b, Nat.lt_of_le_of_lt h.2 (by decide)⟩
theorem tdl_ok {r : Rat} (h0 : 0 ≤ r.num) (h1 : r.num.natAbs < 10 ^ 12) (h2 : r.den < 10 ^ 12) : NumOk (tdl r) r := by
  have e : tdl r = TL.numL r.num.natAbs ++ if r.den = 1 then [] else 47 :: TL.numL r.den := by
    unfold tdl
    rw [if_neg (by omega)]
    rfl
  have e2 : (r.num.natAbs : Int) = r.num := by omega
  rw [e]
  by_cases hd : r.den = 1
  · rw [if_pos hd, List.append_nil]
    have := num_ok (n := r.num.natAbs) h1
    rw [e2] at this
    have e3 : Rat.divInt r.num 1 = r := by
      have := Rat.num_divInt_den r
      rw [hd] at this
      exact this
    rw [e3] at this
    exact this
  · rw [if_neg hd]
    have := frac_ok (n := r.num.natAbs) (m := r.den) h1 h2 (Nat.pos_of_ne_zero r.den_nz)
    rw [e2, Rat.num_divInt_den] at this
    exact this
theorem tdl_ab {s : Rat} (h : Sm s) : NumOk (tdl (ab s)) (ab s) := by
  have b : (1000 : Nat) < 10 ^ 12 := by decide
  have b2 : (12 : Nat) < 10 ^ 12 := by decide
  refine tdl_ok (by rw [ab_num]; omega) ?_ ?_
  · rw [ab_num, Int.natAbs_natCast]
    exact Nat.lt_of_le_of_lt h.1 b
  · rw [ab_den]
    exact Nat.lt_of_le_of_lt h.2 b2
theorem tx_name {nms : List (List Nat)} {n : List Nat} {s : Rat} (hs : Sm s) (hn : n ∈ nms) (hN : NmOk n) : ∃ z zs, TermOk nms (tx (some n) s) z zs ∧ sgE (decide (s.num < 0)) z = 0 ∧ zs.map (sgE (decide (s.num < 0))) = (unit (ix n nms) nms.length).map fun y => s * y := by
  unfold tx
  dsimp only
  by_cases h1 : ab s = 1
  · rw [if_pos h1]
    refine ⟨0, _, term_name hn hN.1 hN.2.1, sgE_zero _, List.map_congr_left fun y _ => ?_⟩
    have := sgE_mul (decide (s.num < 0)) (ab s) y
    rw [sgE_ab, h1, Rat.one_mul] at this
    exact this
  · rw [if_neg h1]
    refine ⟨_, _, term_prod (tdl_ab hs) (b := []) (fun c hc => nomatch hc) hn hN.1 hN.2.1, by rw [Rat.mul_zero]; exact sgE_zero _, ?_⟩
    rw [List.map_map]
    refine List.map_congr_left fun y _ => ?_
    show sgE (decide (s.num < 0)) (ab s * y) = s * y
    rw [sgE_mul, sgE_ab]
theorem tx_base {nms : List (List Nat)} {s : Rat} (hs : Sm s) : TermOk nms (tx none s) (ab s) (List.replicate nms.length 0) := term_num (tdl_ab hs)
/-- a text behind which blanks and more terms may stand -/
def GB (nms : List (List Nat)) (t : List Nat) (x : Rat) (xs : List Rat) : Prop := ∀ B, blk B → GE nms (t ++ B) x xs
theorem GB.one {nms : List (List Nat)} {w : List Nat} {s z : Rat} {zs : List Rat} (h : TermOk nms w z zs) : GB nms (jn [] s w) (sgE (decide (s.num < 0)) z) (zs.map (sgE (decide (s.num < 0)))) := by
  intro B hB
  have := GE.first (nms := nms) (L := []) (i := ⟨decide (s.num < 0), [], w, z, zs, B⟩) (fun c hc => nomatch hc) ⟨(fun c hc => nomatch hc), hB, h⟩
  have e : headE [] ⟨decide (s.num < 0), [], w, z, zs, B⟩ = jn [] s w ++ B := by
    unfold headE jn
    by_cases hn : s.num < 0
    · simp [hn]
    · simp [hn]
  rw [e] at this
  exact this
theorem GB.more {nms : List (List Nat)} {t w : List Nat} {s x z : Rat} {xs zs : List Rat} (g : GB nms t x xs) (ht : t ≠ []) (h : TermOk nms w z zs) : GB nms (jn t s w) (x + sgE (decide (s.num < 0)) z) (List.zipWith (fun r s => r + s) xs (zs.map (sgE (decide (s.num < 0))))) := by
  intro B hB
  have b32 : blk [32] := fun c hc => List.mem_singleton.mp hc
  have := (g [32] b32).next (i := ⟨decide (s.num < 0), [32], w, z, zs, B⟩) ⟨b32, hB, h⟩
  have e : t ++ [32] ++ EI.txt ⟨decide (s.num < 0), [32], w, z, zs, B⟩ = jn t s w ++ B := by
    unfold EI.txt jn
    rw [if_neg ht]
    by_cases hn : s.num < 0
    · simp [hn]
    · simp [hn]
  rw [e] at this
  exact this
/-- the first k slopes, 0 for the others -/
def pr (xs : List Rat) (k : Nat) : List Rat := (List.range xs.length).map fun i => if i < k then xs.getD i 0 else 0
theorem pr_len (xs : List Rat) (k : Nat) : (pr xs k).length = xs.length := by
  unfold pr
  rw [List.length_map, List.length_range]
theorem pr_all (xs : List Rat) : pr xs xs.length = xs := by
  refine List.ext_getElem? fun i => ?_
  unfold pr
  rw [List.getElem?_map]
  rcases Nat.lt_or_ge i xs.length with h | h
  · rw [List.getElem?_range h]
    show some (if i < xs.length then xs.getD i 0 else 0) = _
    rw [if_pos h, List.getD_eq_getElem?_getD, List.getElem?_eq_getElem h]
    rfl
  · rw [List.getElem?_eq_none (by rw [List.length_range]; exact h), List.getElem?_eq_none h]
    rfl
theorem pr_zero (xs : List Rat) : pr xs 0 = List.replicate xs.length 0 := by
  refine List.eq_replicate_iff.mpr ⟨pr_len _ _, fun b hb => ?_⟩
  obtain ⟨i, _, rfl⟩ := List.mem_map.mp hb
  rfl
theorem pr_skip {xs : List Rat} {k : Nat} (h : xs[k]? = some 0) : pr xs (k + 1) = pr xs k := by
  refine List.map_congr_left fun i _ => ?_
  by_cases h1 : i < k
  · rw [if_pos h1, if_pos (by omega)]
  · rw [if_neg h1]
    by_cases h2 : i = k
    · subst h2
      rw [if_pos (by omega), List.getD_eq_getElem?_getD, h]
      rfl
    · rw [if_neg (by omega)]
theorem pr_step {xs : List Rat} {k : Nat} {s : Rat} (h : xs[k]? = some s) : List.zipWith (fun r s => r + s) (pr xs k) ((unit k xs.length).map fun y => s * y) = pr xs (k + 1) := by
  refine List.ext_getElem? fun i => ?_
  unfold pr unit
  rw [List.getElem?_zipWith, List.getElem?_map, List.getElem?_map, List.getElem?_map, List.getElem?_map]
  rcases Nat.lt_or_ge i xs.length with hi | hi
  · rw [List.getElem?_range hi]
    show some ((if i < k then xs.getD i 0 else 0) + s * (if i = k then 1 else 0)) = some (if i < k + 1 then xs.getD i 0 else 0)
    by_cases h1 : i < k
    · rw [if_pos h1, if_neg (show ¬ i = k by omega), if_pos (show i < k + 1 by omega), Rat.mul_zero, Rat.add_zero]
    · by_cases h2 : i = k
      · subst h2
        rw [if_neg h1, if_pos rfl, if_pos (show i < i + 1 by omega), Rat.mul_one, Rat.zero_add, List.getD_eq_getElem?_getD, h]
        rfl
      · rw [if_neg h1, if_neg h2, if_neg (show ¬ i < k + 1 by omega), Rat.mul_zero, Rat.add_zero]
  · rw [List.getElem?_eq_none (by rw [List.length_range]; exact hi)]
    rfl
theorem ix_nodup : ∀ {nms : List (List Nat)} {k : Nat} {n : List Nat}, nms.Nodup → nms[k]? = some n → ix n nms = k
  | m :: nms, 0, n, _, h => by
    obtain rfl : m = n := Option.some.inj h
    unfold ix
    rw [if_pos rfl]
  | m :: nms, k + 1, n, hd, h => by
    have h2 : nms[k]? = some n := h
    have hne : m ≠ n := fun e => by
      subst e
      exact (List.nodup_cons.mp hd).1 (List.mem_of_getElem? h2)
    unfold ix
    rw [if_neg hne, ix_nodup (List.nodup_cons.mp hd).2 h2]
/-- the texts of the slopes, one behind the other -/
def etx1 (l : List (List Nat × Rat)) (t : List Nat) : List Nat := l.foldl (fun t p => if p.2 = 0 then t else jn t p.2 (tx (some p.1) p.2)) t
def etx (nms : List (List Nat)) (x : Rat) (xs : List Rat) : List Nat :=
  if x = 0 ∧ etx1 (nms.zip xs) [] ≠ [] then etx1 (nms.zip xs) [] else jn (etx1 (nms.zip xs) []) x (tx none x)
theorem TermOk.ne {nms : List (List Nat)} {w : List Nat} {x : Rat} {xs : List Rat} (h : TermOk nms w x xs) : w ≠ [] := by
  obtain ⟨⟨c, t, e, _⟩, _⟩ := h
  rw [e]
  exact fun z => nomatch z
theorem jn_ne {t w : List Nat} {s : Rat} (h : w ≠ []) : jn t s w ≠ [] := by
  unfold jn
  split
  · exact fun z => h (List.append_eq_nil_iff.mp z).2
  · exact fun z => h (List.append_eq_nil_iff.mp (List.append_eq_nil_iff.mp z).2).2
theorem zip_at {nms : List (List Nat)} {xs : List Rat} {k : Nat} (hl : xs.length = nms.length) (hk : k < nms.length) : ∃ n s, nms[k]? = some n ∧ xs[k]? = some s ∧ (nms.zip xs)[k]? = some (n, s) := by
  refine ⟨nms[k], xs[k], List.getElem?_eq_getElem hk, List.getElem?_eq_getElem (by omega), ?_⟩
  rw [List.getElem?_zip_eq_some]
  exact ⟨List.getElem?_eq_getElem hk, List.getElem?_eq_getElem (by omega)⟩
theorem etx1_snoc {l : List (List Nat × Rat)} {k : Nat} {n : List Nat} {s : Rat} (h : l[k]? = some (n, s)) : etx1 (l.take (k + 1)) [] = if s = 0 then etx1 (l.take k) [] else jn (etx1 (l.take k) []) s (tx (some n) s) := by
  unfold etx1
  rw [List.take_add_one, h, List.foldl_append]
  rfl
theorem etx1_ok {nms : List (List Nat)} {xs : List Rat} (hN : NmsOk nms) (hl : xs.length = nms.length) (hS : ∀ s ∈ xs, Sm s) : ∀ k ≤ nms.length,
    (etx1 ((nms.zip xs).take k) [] = [] ∧ pr xs k = pr xs 0) ∨ (etx1 ((nms.zip xs).take k) [] ≠ [] ∧ GB nms (etx1 ((nms.zip xs).take k) []) 0 (pr xs k)) := by
  intro k
  induction k with
  | zero => exact fun _ => .inl ⟨rfl, rfl⟩
  | succ k ih =>
    intro hk
    obtain ⟨n, s, h1, h2, h3⟩ := zip_at hl (show k < nms.length by omega)
    have hs := hS s (List.mem_of_getElem? h2)
    have hn := List.mem_of_getElem? h1
    rw [etx1_snoc h3]
    by_cases h0 : s = 0
    · rw [if_pos h0, pr_skip (by rw [h2, h0])]
      exact ih (by omega)
    · rw [if_neg h0]
      obtain ⟨z, zs, t1, t2, t3⟩ := tx_name hs hn (hN.2.2 n hn)
      rw [ix_nodup hN.2.1 h1] at t3
      right
      refine ⟨jn_ne t1.ne, ?_⟩
      rcases ih (by omega) with ⟨e1, e2⟩ | ⟨e1, e2⟩
      · have g := GB.one (s := s) t1
        rw [t2, t3] at g
        rw [e1]
        have e4 := pr_step h2
        rw [e2, pr_zero, ← hl, zip_nought (by rw [List.length_map]; unfold unit; rw [List.length_map, List.length_range])] at *
        rw [← e4]
        exact g
      · have g := e2.more (s := s) e1 t1
        rw [t2, t3, Rat.zero_add, ← hl, pr_step h2] at g
        exact g
theorem short_sm {l : List Rat} (h : ∀ r ∈ l, Sm r) : shortV l = true := by
  have hd : ∀ d ≤ 12, 0 < d → d ∣ 27720 := by
    intro d h1 h2
    have : ∀ m ≤ 12, 0 < m → 27720 / m * m = 27720 := by decide
    exact ⟨27720 / d, by rw [Nat.mul_comm]; exact (this d h1 h2).symm⟩
  have lc : ∀ (l : List Rat) (d : Nat), d ∣ 27720 → (∀ r ∈ l, Sm r) → l.foldl (fun d r => Nat.lcm d r.den) d ∣ 27720 := by
    intro l
    induction l with
    | nil => exact fun d h1 _ => h1
    | cons r l ih => exact fun d h1 h2 => ih _ (Nat.lcm_dvd h1 (hd _ (h2 r List.mem_cons_self).2 (Nat.pos_of_ne_zero r.den_nz))) fun s hs => h2 s (List.mem_cons_of_mem _ hs)
  have hD : lcml l ∣ 27720 := lc l 1 (Nat.one_dvd _) h
  have hl : lcml l ≤ 27720 := Nat.le_of_dvd (by decide) hD
  unfold shortV
  rw [Bool.and_eq_true]
  refine ⟨decide_eq_true (by omega), ?_⟩
  rw [List.all_eq_true]
  intro r hr
  have hn := (h r hr).1
  have hq : lcml l / r.den ≤ 27720 := Nat.le_trans (Nat.div_le_self _ _) hl
  have := Nat.mul_le_mul hn hq
  exact decide_eq_true (by omega)
theorem zip_noughtR : ∀ xs : List Rat, List.zipWith (fun r s => r + s) xs (List.replicate xs.length (0 : Rat)) = xs
  | [] => rfl
  | y :: ys => by rw [List.length_cons, List.replicate_succ, List.zipWith_cons_cons, Rat.add_zero, zip_noughtR ys]
theorem etx_full {nms : List (List Nat)} {x : Rat} {xs : List Rat} (hN : NmsOk nms) (hl : xs.length = nms.length) (hx : Sm x) (hS : ∀ s ∈ xs, Sm s) : rfull nms (etx nms x xs) = .inr (x, xs) := by
  have key : GB nms (etx nms x xs) x xs := by
    have h := etx1_ok hN hl hS nms.length (Nat.le_refl _)
    have hz : (nms.zip xs).take nms.length = nms.zip xs := List.take_of_length_le (by rw [List.length_zip]; omega)
    have hb := tx_base (nms := nms) hx
    have hp : pr xs nms.length = xs := by
      rw [← hl]
      exact pr_all xs
    have hr : (List.replicate nms.length (0 : Rat)).map (sgE (decide (x.num < 0))) = List.replicate nms.length 0 := by
      rw [List.map_replicate, sgE_zero]
    rw [hz, hp] at h
    unfold etx
    rcases h with ⟨e1, e2⟩ | ⟨e1, e2⟩
    · rw [e1, if_neg (fun z => z.2 rfl)]
      have g := GB.one (s := x) hb
      rw [sgE_ab, hr, ← hl, ← pr_zero, ← e2] at g
      exact g
    · by_cases h0 : x = 0
      · rw [if_pos ⟨h0, e1⟩, h0]
        exact e2
      · rw [if_neg (fun z => h0 z.1)]
        have g := e2.more (s := x) e1 hb
        rw [sgE_ab, Rat.zero_add, hr] at g
        have ez : List.zipWith (fun r s => r + s) xs (List.replicate nms.length (0 : Rat)) = xs := by
          rw [← hl]
          exact zip_noughtR xs
        rw [ez] at g
        exact g
  have g := (key [] (fun c hc => nomatch hc)).full
  rw [List.append_nil, if_pos (short_sm fun r hr => by
    rcases List.mem_cons.mp hr with rfl | hr
    · exact hx
    · exact hS r hr)] at g
  exact g
theorem tdl_len {s : Rat} (h : Sm s) : (tdl (ab s)).length ≤ 7 ∧ sgs (tdl (ab s)) = 0 := by
  have hd := TL.numL_len (n := s.den) (k := 2) (by decide) (Nat.lt_of_le_of_lt h.2 (by decide))
  have hn := TL.numL_len (n := s.num.natAbs) (k := 4) (by decide) (Nat.lt_of_le_of_lt h.1 (by decide))
  have e : tdl (ab s) = TL.numL s.num.natAbs ++ if s.den = 1 then [] else 47 :: TL.numL s.den := by
    unfold tdl
    rw [ab_num, ab_den, Int.natAbs_natCast, if_neg (by omega)]
    rfl
  rw [e, List.length_append, sgs_app, sgs_num]
  split
  · exact ⟨by show _ + 0 ≤ 7; omega, rfl⟩
  · refine ⟨by rw [List.length_cons]; omega, ?_⟩
    rw [show (47 :: TL.numL s.den) = [47] ++ TL.numL s.den from rfl, sgs_app, sgs_num]
    decide
theorem tx_len {o : Option (List Nat)} {s : Rat} (h : Sm s) (hN : ∀ n, o = some n → NmOk n) : (tx o s).length ≤ 16 ∧ sgs (tx o s) = 0 := by
  obtain ⟨l1, l2⟩ := tdl_len h
  cases o with
  | none => exact ⟨Nat.le_trans l1 (by decide), l2⟩
  | some n =>
    have hn := hN n rfl
    have hg := sgs_nm hn
    have h8 := hn.2.2
    unfold tx
    dsimp only
    split
    · exact ⟨by omega, hg⟩
    · rw [List.length_append, List.length_cons, sgs_app, l2, show (42 :: n) = [42] ++ n from rfl, sgs_app, hg]
      exact ⟨by omega, by decide⟩
theorem jn_len {t w : List Nat} {s : Rat} (h : w.length ≤ 16 ∧ sgs w = 0) : (jn t s w).length ≤ t.length + 19 ∧ sgs (jn t s w) ≤ sgs t + 1 := by
  unfold jn
  by_cases ht : t = []
  · rw [if_pos ht, List.length_append, sgs_app, h.2]
    have := h.1
    split
    · exact ⟨by show 1 + _ ≤ _; omega, by show 1 + 0 ≤ _; omega⟩
    · exact ⟨by show 0 + _ ≤ _; omega, Nat.zero_le _⟩
  · rw [if_neg ht, List.length_append, List.length_append, sgs_app, sgs_app, h.2]
    have := h.1
    split
    · exact ⟨by show _ + (3 + _) ≤ _; omega, by show _ + (1 + 0) ≤ _; omega⟩
    · exact ⟨by show _ + (3 + _) ≤ _; omega, by show _ + (1 + 0) ≤ _; omega⟩
theorem etx1_len {nms : List (List Nat)} {xs : List Rat} (hN : NmsOk nms) (hl : xs.length = nms.length) (hS : ∀ s ∈ xs, Sm s) : ∀ k ≤ nms.length, (etx1 ((nms.zip xs).take k) []).length ≤ 19 * k ∧ sgs (etx1 ((nms.zip xs).take k) []) ≤ k := by
  intro k
  induction k with
  | zero => exact fun _ => ⟨Nat.le_refl _, Nat.le_refl _⟩
  | succ k ih =>
    intro hk
    obtain ⟨n, s, h1, h2, h3⟩ := zip_at hl (show k < nms.length by omega)
    have hs := hS s (List.mem_of_getElem? h2)
    have hn := List.mem_of_getElem? h1
    obtain ⟨i1, i2⟩ := ih (by omega)
    rw [etx1_snoc h3]
    split
    · exact ⟨by omega, by omega⟩
    · have j := jn_len (t := etx1 ((nms.zip xs).take k) []) (s := s) (tx_len (o := some n) hs fun m hm => by obtain rfl := Option.some.inj hm; exact hN.2.2 _ hn)
      exact ⟨by omega, by omega⟩
theorem etx_len {nms : List (List Nat)} {x : Rat} {xs : List Rat} (hN : NmsOk nms) (hl : xs.length = nms.length) (hx : Sm x) (hS : ∀ s ∈ xs, Sm s) : (etx nms x xs).length ≤ 100 ∧ sgs (etx nms x xs) ≤ 5 := by
  obtain ⟨i1, i2⟩ := etx1_len hN hl hS nms.length (Nat.le_refl _)
  have h4 := hN.1
  rw [List.take_of_length_le (by rw [List.length_zip]; omega)] at i1 i2
  unfold etx
  split
  · exact ⟨by omega, by omega⟩
  · have j := jn_len (t := etx1 (nms.zip xs) []) (s := x) (tx_len (o := none) hx fun m hm => nomatch hm)
    exact ⟨by omega, by omega⟩
/-- what the program joins: the terms of the slopes other than 0, and the base's -/
def wts (l : List (List Nat × Rat)) : List (Rat × List Nat) := (l.filter fun p => decide (p.2 ≠ 0)).map fun p => (p.2, tx (some p.1) p.2)
def jall (l : List (Rat × List Nat)) (t : List Nat) : List Nat := l.foldl (fun t p => jn t p.1 p.2) t
theorem jall_wts : ∀ (l : List (List Nat × Rat)) (t : List Nat), jall (wts l) t = etx1 l t
  | [], _ => rfl
  | p :: l, t => by
    unfold wts etx1
    by_cases h : p.2 = 0
    · rw [List.filter_cons_of_neg (by simp [h]), List.foldl_cons, if_pos h]
      exact jall_wts l t
    · rw [List.filter_cons_of_pos (by simp [h]), List.foldl_cons, if_neg h]
      exact jall_wts l _
theorem jall_ne : ∀ {l : List (Rat × List Nat)} {t : List Nat}, (∀ p ∈ l, p.2 ≠ []) → t ≠ [] → jall l t ≠ []
  | [], _, _, h => h
  | p :: l, t, h1, h => show jall l (jn t p.1 p.2) ≠ [] from jall_ne (fun q hq => h1 q (List.mem_cons_of_mem _ hq)) (jn_ne (h1 p List.mem_cons_self))
theorem jall_nil {l : List (Rat × List Nat)} (h : ∀ p ∈ l, p.2 ≠ []) : jall l [] = [] ↔ l = [] := by
  cases l with
  | nil => exact ⟨fun _ => rfl, fun _ => rfl⟩
  | cons p l => exact ⟨fun z => absurd (show jall l (jn [] p.1 p.2) = [] from z) (jall_ne (fun q hq => h q (List.mem_cons_of_mem _ hq)) (jn_ne (h p List.mem_cons_self))), fun z => nomatch z⟩
theorem jall_all {nms : List (List Nat)} {x : Rat} {xs : List Rat} (hne : ∀ p ∈ wts (nms.zip xs), p.2 ≠ []) : jall (wts (nms.zip xs) ++ if x ≠ 0 ∨ wts (nms.zip xs) = [] then [(x, tx none x)] else []) [] = etx nms x xs := by
  have h := jall_nil hne
  rw [jall_wts] at h
  unfold etx
  unfold jall
  rw [List.foldl_append]
  have e : (wts (nms.zip xs)).foldl (fun t p => jn t p.1 p.2) [] = etx1 (nms.zip xs) [] := jall_wts _ _
  rw [e]
  by_cases h1 : x = 0 ∧ etx1 (nms.zip xs) [] ≠ []
  · rw [if_pos h1, if_neg (fun z => by
      rcases z with z | z
      · exact z h1.1
      · exact h1.2 (h.mpr z))]
    rfl
  · rw [if_neg h1, if_pos]
    · rfl
    · by_cases hx : x = 0
      · exact .inr (h.mp (Classical.byContradiction fun z => h1 ⟨hx, z⟩))
      · exact .inl hx
theorem wts_ne {nms : List (List Nat)} {xs : List Rat} (hN : NmsOk nms) (hS : ∀ s ∈ xs, Sm s) : ∀ p ∈ wts (nms.zip xs), p.2 ≠ [] ∧ Sm p.1 ∧ p.2.length ≤ 16 := by
  intro p hp
  obtain ⟨q, hq, rfl⟩ := List.mem_map.mp hp
  have h1 := List.of_mem_zip (List.mem_filter.mp hq).1
  have hs := hS _ h1.2
  obtain ⟨z, zs, t1, _⟩ := tx_name hs h1.1 (hN.2.2 _ h1.1)
  exact ⟨t1.ne, hs, (tx_len hs fun m hm => by obtain rfl := Option.some.inj hm; exact hN.2.2 _ h1.1).1⟩
end

/-- a comprehension with a condition, whose elements are things of a kind: those of L that are some -/
theorem lc_sel {α : Type} (Rel : Hp → Addr → α → Prop) (up : ∀ {H H' t x}, Same H H' → Rel H t x → Rel H' t x) (over : ∀ {H H' t D x ys}, Rel H t x → H D = some (.lst ys) → (∀ b o, b ≠ D → H b = some o → H' b = some o) → Rel H' t x)
    {J : It} {n : Nat} {G : Hp → Prop} {Y : Nat → Hp → V → Hp → Prop} (w : Walk J n G Y) (L : List (Option α)) (hL : L.length = n) (hz : n ≤ 1000)
    {g : TG} {tt : TT} {te : TE} {vs : List Nat} {σ : L2.St} {H1 : Hp} {D : Addr} {Qd : Hp → Prop} (hD : H1 D = none) (hG : ∀ H, Same H1 H → G H)
    (hs : ∀ i c x H H' (kk : V → Hp → Prop) (kn : Hp → Prop), L[i]? = some c → Same H1 H → Y i H x H' → (∀ r, c = some r → ∀ t H4, Same H H4 → Rel H4 t r → kk (.ref t) H4) → (c = none → ∀ H4, Same H H4 → kn H4) → g x (wipe σ vs) H' fun σ2 H2 => wipe σ2 vs = wipe σ vs ∧ tt σ2 H2 fun b H3 => if b = true then te σ2 H3 kk else kn H3)
    (hd : ∀ H (ws : List (Addr × α)), Same H1 H → H D = some (.lst (ws.map fun w => .ref w.1)) → (∀ w ∈ ws, Rel H w.1 w.2) → ws.map (·.2) = L.filterMap id → Qd H) :
    ∃ W : Nat → Nat → Hp → Prop, (∃ m, W 0 m (upd H1 D (.lst []))) ∧ ∀ i m H, W i m H →
      (J.stop i H ∧ Qd H) ∨ (J.go i H ∧ ∃ Nx : Hp → Prop, (∀ H', Nx H' → ∃ m', m' < m ∧ W (i + 1) m' H') ∧ ∀ x H', J.yld i H x H' → g x (wipe σ vs) H' fun σ2 H2 => wipe σ2 vs = wipe σ vs ∧ tt σ2 H2 fun b H3 =>
        if b = true then te σ2 H3 fun y H4 => ∃ acc, H4 D = some (.lst acc) ∧ acc.length < sizeLine ∧ Nx (upd H4 D (.lst (acc ++ [y]))) else Nx H3) := by
  subst hL
  refine lc_it w (fun i H => Same H1 H ∧ ∃ ws : List (Addr × α), H D = some (.lst (ws.map fun w => .ref w.1)) ∧ (∀ w ∈ ws, Rel H w.1 w.2) ∧ ws.map (·.2) = (L.take i).filterMap id ∧ ws.length ≤ i) ⟨same_upd hD, [], upd_same, (fun _ z => nomatch z), rfl, Nat.le_refl _⟩ (fun i H _ h => hG H h.1) ?_ ?_
  · rintro i x H H' hi ⟨s1, ws, e1, r1, m1, l1⟩ y
    have hr : L[i]? = some L[i] := List.getElem?_eq_getElem hi
    have tk : (L.take (i + 1)).filterMap id = (L.take i).filterMap id ++ [L[i]].filterMap id := by
      rw [List.take_add_one, hr, List.filterMap_append]
      rfl
    refine hs i L[i] x H H' _ _ hr s1 y (fun r hc t H4 s4 f4 => ?_) (fun hc H4 s4 => ?_)
    · have e4 := s4 _ _ e1
      refine ⟨_, e4, ?_, fun b o e => ?_, ws ++ [(t, r)], ?_, fun v hv => ?_, ?_, ?_⟩
      · rw [List.length_map]
        exact small1000 (by omega)
      · rw [upd_ne (ne_of_none e hD)]
        exact s4 _ _ (s1 _ _ e)
      · rw [upd_same, List.map_append]
        rfl
      · rcases List.mem_append.mp hv with h | h
        · exact over (up s4 (r1 v h)) e4 fun b o hb e => by rw [upd_ne hb]; exact e
        · rw [List.mem_singleton.mp h]
          exact over f4 e4 fun b o hb e => by rw [upd_ne hb]; exact e
      · rw [List.map_append, m1, tk, hc]
        rfl
      · rw [List.length_append]
        exact Nat.succ_le_succ l1
    · refine ⟨s1.trans s4, ws, s4 _ _ e1, fun w hw => up s4 (r1 w hw), ?_, Nat.le_succ_of_le l1⟩
      rw [tk, m1, hc]
      exact (List.append_nil _).symm
  · rintro H ⟨s1, ws, e1, r1, m1, _⟩
    rw [List.take_length] at m1
    exact hd H ws s1 e1 r1 m1
section
open SX (S)
/-- a term: its slope, its text -/
def Tm (K : PySem.W.Frag) (H : Hp) (t : Addr) (p : Rat × List Nat) : Prop := ∃ u, SqT K H t [.ref u, .str (S p.2)] ∧ Fx K H u p.1
theorem Tm.up {K : PySem.W.Frag} {H H' : Hp} {t : Addr} {p : Rat × List Nat} (s : Same H H') (h : Tm K H t p) : Tm K H' t p := by
  obtain ⟨u, h1, h2⟩ := h
  exact ⟨u, same_tup s h1, h2.same s⟩
theorem Tm.over {K : PySem.W.Frag} {H H' : Hp} {t D : Addr} {p : Rat × List Nat} {ys : List V} (h : Tm K H t p) (hl : H D = some (.lst ys)) (s : ∀ b o, b ≠ D → H b = some o → H' b = some o) : Tm K H' t p := by
  obtain ⟨u, h1, h2⟩ := h
  exact ⟨u, over_tup h1 hl s, over_tup h2 hl s⟩
def wsel (l : List (List Nat × Rat)) : List (Option (Rat × List Nat)) := l.map fun p => if p.2 = 0 then none else some (p.2, tx (some p.1) p.2)
theorem wsel_wts : ∀ l, (wsel l).filterMap id = wts l
  | [] => rfl
  | p :: l => by
    have ih := wsel_wts l
    unfold wsel wts at *
    by_cases h : p.2 = 0
    · rw [List.map_cons, if_pos h, List.filter_cons_of_neg (by simp [h])]
      exact ih
    · rw [List.map_cons, if_neg h, List.filter_cons_of_pos (by simp [h]), List.map_cons, ← ih]
      rfl
end


section
variable {P : Program} {w : World} {K : PySem.W.Frag} {mg : Str → Option Value} {base : Heap}
theorem okIni {C fIni : Addr} {fdIni : FuncData} (F : Fun K "__init__" "TextFault.__init__" sIni fIni fdIni) (ox : OexC K C) (nl : PySem.W.findIn K (.ref C) "line" = some none) (nc : PySem.W.findIn K (.ref C) "column" = some none) :
    FnOk P w K mg base CX0 1 fIni fdIni ["self", "line", "column"] (spFIni K C) := by
  refine F.ok scIni (fun vs H Q E h => ?_) (fun cdv A outer s H vs Q E hr h => ?_)
  · obtain ⟨a, l, c, rfl, ha, k⟩ := h
    rfl
  · obtain ⟨a, l, c, rfl, ha, k⟩ := h
    refine ⟨_, (pss_cons (ps_ost (pv 0) (pv 1)) (pss_one (ps_ost (pv 0) (pv 2)))), ?_⟩
    refine ⟨_, rfl, _, rfl, a, C, rfl, ox, nl, .inl ⟨ha, fun dx hd hda => ?_⟩⟩
    have e1 : (upd (upd H dx (exd dx [("line", .int l)])) a (exo a C (some dx))) a = some (exo a C (some dx)) := upd_same
    have e2 : (upd (upd H dx (exd dx [("line", .int l)])) a (exo a C (some dx))) dx = some (exd dx [("line", .int l)]) := by
      rw [upd_ne hda, upd_same]
    refine ⟨_, rfl, _, rfl, a, C, rfl, ox, nc, .inr ⟨dx, _, e1, e2, by show 1 ≤ 900; decide, ?_⟩⟩
    refine k dx _ hd hda (by rw [upd_ne hda.symm]; exact e1) upd_same (fun b o b1 b2 e => ?_)
    rw [upd_ne b2, upd_ne b1, upd_ne b2]
    exact e
open SX (S)
def spRowEnd (K : PySem.W.Frag) : Sp := fun vs H Q _ => ∃ (a b : List Nat) (i : Nat), vs = [.str (S a), .int i, .str (S b)] ∧ a.length ≤ 3000 ∧ i ≤ a.length ∧ Q (.int ((i + dg b a i : Nat) : Int)) H
theorem okRowEnd {fRowEnd : Addr} {fdRowEnd : FuncData} (F : Fun K "row_end" "row_end" sRowEnd fRowEnd fdRowEnd) (T : Txt mg) {aDIGITS : Tok} {aLETTERS : Tok} {aWORD_CHARACTERS : Tok} {aNAME_LENGTH : Tok} {aZERO : Addr} {aONE : Addr} {aMOST_DIGITS : Tok} {aSHORT : Tok} (CT : Cons K mg aDIGITS aLETTERS aWORD_CHARACTERS aNAME_LENGTH aZERO aONE aMOST_DIGITS aSHORT) {CPartError CTextFault CNought : Addr} (EX : Exns K mg CPartError CTextFault CNought) {fIni : Addr} {fdIni : FuncData} (FL : Flt K mg CPartError CTextFault CNought fIni) (GIni : FnOk P w K mg base CX0 1 fIni fdIni ["self", "line", "column"] (spFIni K CTextFault)) (bIni : Binds K fdIni ["self", "line", "column"] []) :
    FnOk P w K mg base CX0 1 fRowEnd fdRowEnd ["text", "at", "allowed"] (spRowEnd K) := by
  refine F.ok scRowEnd (fun vs H Q E h => ?_) (fun cdv A outer s H vs Q E hr h => ?_)
  · obtain ⟨a, b, i, rfl, hlen, hi, k⟩ := h
    rfl
  · obtain ⟨a, b, i, rfl, hlen, hi, k⟩ := h
    refine ⟨_, (C8.pss_cut (ps_while PassesOwn.never (PW.pt (pw_and (pt_cmpR op_lt (pv 1) (pe_callB call_len_str (by rfl) T.len PySem.boot_len (pa_cons (pv 0) pa_nil)) (nomark _)) (pw_and1 (pt_cmpR op_in_sign (pe_ix ix_str (pv 0) (pv 1) (fun _ _ => rfl)) (pv 2) (by rfl)))))
        (pss_one (ps_aug (i := 1) scRowEnd.nd rfl (.inl rfl) pe_int ip_add)))
      (pss_one (ps_ret (pv 1)))), ?_⟩
    have hz : (S a).length ≤ sizeLine := by
      rw [SX.S_len, PySem.sizeLine_eq]
      omega
    refine ⟨fun σ' H' => σ' = [some (.str (S a)), some (.int ((i + dg b a i : Nat) : Int)), some (.str (S b))] ∧ H' = H, ?_, ?_⟩
    · refine ⟨fun m σ' H' => ∃ j, m = dg b a i - j ∧ j ≤ dg b a i ∧ σ' = [some (.str (S a)), some (.int ((i + j : Nat) : Int)), some (.str (S b))] ∧ H' = H, ⟨_, 0, rfl, Nat.zero_le _, rfl, rfl⟩, ?_⟩
      rintro m σ' H' ⟨j, rfl, hj, rfl, rfl⟩
      refine ⟨_, rfl, _, rfl, S a, rfl, hz, _, _, rfl, rfl, _, rfl, ?_⟩
      refine ite2 (fun g => ?_) (fun g => ?_)
      · have hlt : i + j < a.length := by
          have g1 := of_decide_eq_true g
          rw [SX.S_len] at g1
          omega
        obtain ⟨c, hc⟩ : ∃ c, a[i + j]? = some c := ⟨a[i + j], List.getElem?_eq_getElem hlt⟩
        refine ⟨_, rfl, _, rfl, S a, _, c, rfl, rfl, hz, atI_nat hc, _, rfl, c, S b, rfl, rfl, _, rfl, ite2 (fun g => ?_) (fun g => ?_)⟩
        · have hb : c ∈ b := of_decide_eq_true g
          have hj2 : j < dg b a i := by
            rcases Nat.lt_or_ge j (dg b a i) with h | h
            · exact h
            · exfalso
              have e : j = dg b a i := by omega
              subst e
              exact dg_out hc hb
          refine ⟨fun σ' H2 => σ' = [some (.str (S a)), some (.int ((i + (j + 1) : Nat) : Int)), some (.str (S b))] ∧ H2 = H', ?_, ?_⟩
          · rintro σ' H2 ⟨rfl, rfl⟩
            exact ⟨_, by omega, j + 1, rfl, hj2, rfl, rfl⟩
          · walk_at "rd"
            rfl
        · have hb : c ∉ b := of_decide_eq_false (by simpa using g)
          have e : j = dg b a i := by
            rcases Nat.lt_or_ge j (dg b a i) with h | h
            · exfalso
              obtain ⟨d, h1, h2⟩ := dg_in h
              rw [hc] at h1
              rw [← Option.some.inj h1] at h2
              exact hb h2
            · omega
          subst e
          exact ⟨rfl, rfl⟩
      · have hge : a.length ≤ i + j := by
          have g1 : ¬ ((i + j : Nat) : Int) < ((S a).length : Int) := fun z => g (decide_eq_true z)
          rw [SX.S_len] at g1
          omega
        have h1 := dg_le (b := b) hi
        have e : j = dg b a i := by omega
        subst e
        exact ⟨rfl, rfl⟩
    · rintro σ' H' ⟨rfl, rfl⟩
      exact ⟨_, rfl, k⟩
theorem lenS0 : True := trivial
def spIsRow (K : PySem.W.Frag) : Sp := fun vs H Q _ => ∃ a b : List Nat, vs = [.str (S a), .str (S b)] ∧ a.length ≤ 3000 ∧ Q (.bl (isRow b a)) H
theorem okIsRow {fIsRow : Addr} {fdIsRow : FuncData} (F : Fun K "is_row" "is_row" sIsRow fIsRow fdIsRow) (T : Txt mg) {aDIGITS : Tok} {aLETTERS : Tok} {aWORD_CHARACTERS : Tok} {aNAME_LENGTH : Tok} {aZERO : Addr} {aONE : Addr} {aMOST_DIGITS : Tok} {aSHORT : Tok} (CT : Cons K mg aDIGITS aLETTERS aWORD_CHARACTERS aNAME_LENGTH aZERO aONE aMOST_DIGITS aSHORT) {CPartError CTextFault CNought : Addr} (EX : Exns K mg CPartError CTextFault CNought) {fIni : Addr} {fdIni : FuncData} (FL : Flt K mg CPartError CTextFault CNought fIni) (GIni : FnOk P w K mg base CX0 1 fIni fdIni ["self", "line", "column"] (spFIni K CTextFault)) (bIni : Binds K fdIni ["self", "line", "column"] [])
    {fRowEnd : Addr} {fdRowEnd : FuncData} (GRowEnd : FnOk P w K mg base CX0 1 fRowEnd fdRowEnd ["text", "at", "allowed"] (spRowEnd K)) (gRowEnd : mg "row_end" = some (.ref fRowEnd)) (kpRowEnd : PySem.W.keepIn K (.ref fRowEnd) = true) (bRowEnd : Binds K fdRowEnd ["text", "at", "allowed"] []) :
    FnOk P w K mg base CX0 2 fIsRow fdIsRow ["text", "allowed"] (spIsRow K) := by
  refine F.ok scIsRow (fun vs H Q E h => ?_) (fun cdv A outer s H vs Q E hr h => ?_)
  · obtain ⟨a, b, rfl, hl, k⟩ := h
    rfl
  · obtain ⟨a, b, rfl, hl, k⟩ := h
    refine ⟨_, (pss_one (ps_ret (pe_and (pe_cmpR op_gt (pe_callB call_len_str (by rfl) T.len PySem.boot_len (pa_cons (pv 0) pa_nil)) pe_int (nomark _)) (pe_one (pe_cmpR op_eq (pe_call GRowEnd hr (by rfl) gRowEnd kpRowEnd bRowEnd .nil pass0 (pa_cons (pv 0) (pa_cons pe_int (pa_cons (pv 1) pa_nil)))) (pe_callB call_len_str (by rfl) T.len PySem.boot_len (pa_cons (pv 0) pa_nil)) (nomark _)))))), ?_⟩
    have hz := S_sl hl
    unfold isRow at k
    walk_at "go"
    rw [lenS]
    by_cases h0 : 0 < a.length
    · rw [decide_eq_true h0, Bool.true_and] at k
      refine iteT' (decide_eq_true (by omega)) ?_
      walk_at "go"
      refine ⟨a, b, 0, rfl, hl, Nat.zero_le _, ?_⟩
      walk_at "go"
      rw [lenS, show decide (V.int ((0 + dg b a 0 : Nat) : Int) = V.int (a.length : Int)) = allIn b a from by
        rw [Nat.zero_add]
        by_cases h : allIn b a = true
        · rw [h, dg_all.mpr h]
          exact decide_eq_true rfl
        · rw [Bool.not_eq_true] at h
          rw [h]
          refine decide_eq_false fun z => ?_
          have z2 := V.int.inj z
          have := dg_all.mp (show dg b a 0 = a.length by omega)
          rw [h] at this
          cases this]
      exact k
    · rw [decide_eq_false h0, Bool.false_and] at k
      refine iteF' (decide_eq_false (by omega)) ?_
      exact k
def spIsShortWord (K : PySem.W.Frag) : Sp := fun vs H Q _ => ∃ a f b : List Nat, vs = [.str (S a), .str (S f), .str (S b)] ∧ a.length ≤ 3000 ∧ Q (.bl (shortW f b a)) H
theorem okIsShortWord {fIsShortWord : Addr} {fdIsShortWord : FuncData} (F : Fun K "is_short_word" "is_short_word" sIsShortWord fIsShortWord fdIsShortWord) (T : Txt mg) {aDIGITS : Tok} {aLETTERS : Tok} {aWORD_CHARACTERS : Tok} {aNAME_LENGTH : Tok} {aZERO : Addr} {aONE : Addr} {aMOST_DIGITS : Tok} {aSHORT : Tok} (CT : Cons K mg aDIGITS aLETTERS aWORD_CHARACTERS aNAME_LENGTH aZERO aONE aMOST_DIGITS aSHORT) {CPartError CTextFault CNought : Addr} (EX : Exns K mg CPartError CTextFault CNought) {fIni : Addr} {fdIni : FuncData} (FL : Flt K mg CPartError CTextFault CNought fIni) (GIni : FnOk P w K mg base CX0 1 fIni fdIni ["self", "line", "column"] (spFIni K CTextFault)) (bIni : Binds K fdIni ["self", "line", "column"] [])
    {fIsRow : Addr} {fdIsRow : FuncData} (GIsRow : FnOk P w K mg base CX0 2 fIsRow fdIsRow ["text", "allowed"] (spIsRow K)) (gIsRow : mg "is_row" = some (.ref fIsRow)) (kpIsRow : PySem.W.keepIn K (.ref fIsRow) = true) (bIsRow : Binds K fdIsRow ["text", "allowed"] []) :
    FnOk P w K mg base CX0 3 fIsShortWord fdIsShortWord ["text", "first", "others"] (spIsShortWord K) := by
  refine F.ok scIsShortWord (fun vs H Q E h => ?_) (fun cdv A outer s H vs Q E hr h => ?_)
  · obtain ⟨a, f, b, rfl, hl, k⟩ := h
    rfl
  · obtain ⟨a, f, b, rfl, hl, k⟩ := h
    refine ⟨_, (pss_one (ps_ret (pe_and (pe_call GIsRow hr (by rfl) gIsRow kpIsRow bIsRow .nil pass0 (pa_cons (pv 0) (pa_cons (pv 2) pa_nil))) (pe_and (pe_cmpR op_le (pe_callB call_len_str (by rfl) T.len PySem.boot_len (pa_cons (pv 0) pa_nil)) (pe_glob (v := .int 16) (by rfl) CT.gNAME_LENGTH ⟨_, rfl⟩) (nomark _)) (pe_one (pe_cmpR op_in_sign (pe_ix ix_str (pv 0) pe_int (fun _ _ => rfl)) (pv 1) (by rfl))))))), ?_⟩
    have hz := S_sl hl
    unfold shortW at k
    walk_at "go"
    cases hr1 : isRow b a with
    | false =>
      rw [hr1, Bool.false_and] at k
      exact k
    | true =>
      rw [hr1, Bool.true_and] at k
      walk_at "go"
      rw [lenS]
      by_cases h16 : a.length ≤ 16
      · rw [decide_eq_true h16, Bool.true_and] at k
        refine iteT' (decide_eq_true (by omega)) ?_
        obtain ⟨c, r, rfl⟩ := isRow_ne hr1
        walk_at "go"
        refine ⟨S (c :: r), 0, c, rfl, rfl, hz, atI_nat (j := 0) rfl, ?_⟩
        walk_at "go"
        exact k
      · rw [decide_eq_false h16, Bool.false_and] at k
        exact iteF' (decide_eq_false (by omega)) k
def spCommon (K : PySem.W.Frag) : Sp := fun vs H Q _ => ∃ a b : Int, vs = [.int a, .int b] ∧ Q (.int ((Nat.gcd a.natAbs b.natAbs : Nat) : Int)) H
theorem okCommon {fCommon : Addr} {fdCommon : FuncData} (F : Fun K "common" "common" sCommon fCommon fdCommon) (T : Txt mg) {aDIGITS : Tok} {aLETTERS : Tok} {aWORD_CHARACTERS : Tok} {aNAME_LENGTH : Tok} {aZERO : Addr} {aONE : Addr} {aMOST_DIGITS : Tok} {aSHORT : Tok} (CT : Cons K mg aDIGITS aLETTERS aWORD_CHARACTERS aNAME_LENGTH aZERO aONE aMOST_DIGITS aSHORT) {CPartError CTextFault CNought : Addr} (EX : Exns K mg CPartError CTextFault CNought) {fIni : Addr} {fdIni : FuncData} (FL : Flt K mg CPartError CTextFault CNought fIni) (GIni : FnOk P w K mg base CX0 1 fIni fdIni ["self", "line", "column"] (spFIni K CTextFault)) (bIni : Binds K fdIni ["self", "line", "column"] []) :
    FnOk P w K mg base CX0 1 fCommon fdCommon ["a", "b"] (spCommon K) := by
  refine F.ok scCommon (fun vs H Q E h => ?_) (fun cdv A outer s H vs Q E hr h => ?_)
  · obtain ⟨a, b, rfl, q⟩ := h
    rfl
  · obtain ⟨a, b, rfl, q⟩ := h
    refine ⟨_, (pss_one (ps_ret (pe_callBfun cr_gcd (by rfl) T.gcd (pa_cons (pv 0) (pa_cons (pv 1) pa_nil))))), ?_⟩
    exact ⟨_, rfl, _, rfl, a, b, rfl, q⟩
def spFraction (K : PySem.W.Frag) : Sp := fun vs H Q _ => ∃ n d : Int, vs = [.int n, .int d] ∧ d.natAbs < 2 ^ 2000 ∧ d ≠ 0 ∧ ∀ (H' : Hp) (t : Addr), Same H H' → Fx K H' t (Rat.divInt n d) → Q (.ref t) H'
theorem okFraction {fFraction : Addr} {fdFraction : FuncData} (F : FunD K "fraction" "fraction" (defArgs sFraction) (defBody sFraction) (defScope sFraction) [.int 1] [] fFraction fdFraction) (T : Txt mg) {aDIGITS : Tok} {aLETTERS : Tok} {aWORD_CHARACTERS : Tok} {aNAME_LENGTH : Tok} {aZERO : Addr} {aONE : Addr} {aMOST_DIGITS : Tok} {aSHORT : Tok} (CT : Cons K mg aDIGITS aLETTERS aWORD_CHARACTERS aNAME_LENGTH aZERO aONE aMOST_DIGITS aSHORT) {CPartError CTextFault CNought : Addr} (EX : Exns K mg CPartError CTextFault CNought) {fIni : Addr} {fdIni : FuncData} (FL : Flt K mg CPartError CTextFault CNought fIni) (GIni : FnOk P w K mg base CX0 1 fIni fdIni ["self", "line", "column"] (spFIni K CTextFault)) (bIni : Binds K fdIni ["self", "line", "column"] []) :
    FnOk P w K mg base CX0 1 fFraction fdFraction ["number", "divisor"] (spFraction K) := by
  refine F.ok scFraction (fun vs H Q E h => ?_) (fun cdv A outer s H vs Q E hr h => ?_)
  · obtain ⟨n, d, rfl, hb, hd, q⟩ := h
    rfl
  · obtain ⟨n, d, rfl, hb, hd, q⟩ := h
    refine ⟨_, (pss_cons (ps_if (pt_cmpR op_eq (pv 1) pe_int (nomark _))
        (pss_one (ps_ret (pe_tup (pa_cons (pv 0) (pa_cons pe_int pa_nil)))))
        pss_nil)
      (pss_cons (ps_if (pt_cmpR op_eq (pv 1) pe_int (nomark _))
        pss_no
        pss_nil)
      (pss_cons (ps_set (i := 2) scFraction.nd rfl (Or.inl rfl) (pe_callBfun cr_gcd (by rfl) T.gcd (pa_cons (pv 0) (pa_cons (pv 1) pa_nil))))
      (C8.pss_cut (ps_if (pt_cmpR op_lt (pv 1) pe_int (nomark _))
        (pss_one (ps_set (i := 2) scFraction.nd rfl (Or.inl rfl) (pe_un un_neg (pv 2))))
        pss_nil)
      (pss_one (ps_ret (pe_tup (pa_cons (pe_op op_fdivX (pv 0) (pv 2)) (pa_cons (pe_op op_fdivX (pv 1) (pv 2)) pa_nil))))))))), ?_⟩
    walk_at "rd"
    refine ite2 (fun g1 => ?_) (fun g1 => ?_)
    · obtain rfl : d = 1 := eq_of_dec g1
      refine ⟨_, rfl, by show 2 ≤ sizeLine; decide, fun t ht => ?_⟩
      exact q _ t (same_upd ht) (fx_rd (by decide) (by unfold rd2; rw [rd_one]; exact upd_same))
    walk_at "rd"
    refine ite2 (fun g => absurd (eq_of_dec g) hd) (fun g => ?_)
    · refine ⟨_, rfl, _, rfl, n, d, rfl, ?_⟩
      refine ⟨fun σ' H' => σ' = [some (.int n), some (.int d), some (.int (sg n d))] ∧ H' = H, ?_, ?_⟩
      · walk_at "rd"
        refine ite2 (fun g2 => ?_) (fun g2 => ?_)
        · refine ⟨_, rfl, _, rfl, ?_, rfl⟩
          unfold sg
          rw [if_pos (of_decide_eq_true g2)]
          rfl
        · refine ⟨?_, rfl⟩
          unfold sg
          rw [if_neg (fun z => g2 (decide_eq_true z))]
          rfl
      · rintro σ' H' ⟨rfl, rfl⟩
        have hs := sg_ne (n := n) hd
        have hsb : (sg n d).natAbs < 2 ^ 2000 := by
          rw [sg_abs]
          exact Nat.lt_of_le_of_lt (Nat.le_of_dvd (by omega) (Nat.gcd_dvd_right _ _)) hb
        refine ⟨_, rfl, _, rfl, _, _, rfl, rfl, wide_divx hs hsb (by decide) (by decide), _, rfl, _, rfl, _, _, rfl, rfl, wide_divx hs hsb (by decide) (by decide), by show 2 ≤ sizeLine; decide, fun t ht => ?_⟩
        exact q _ t (same_upd ht) (fx_rd hd upd_same)
def spR2 (K : PySem.W.Frag) (op : Rat → Rat → Rat) : Sp := fun vs H Q _ => ∃ (a b : Addr) (r s : Rat), vs = [.ref a, .ref b] ∧ Fx K H a r ∧ Fx K H b s ∧ Bd 800 r ∧ Bd 800 s ∧
  ∀ (H' : Hp) (t : Addr), Same H H' → Fx K H' t (op r s) → Q (.ref t) H'
def spPlus (K : PySem.W.Frag) : Sp := spR2 K (fun r s => r + s)
theorem okPlus {fPlus : Addr} {fdPlus : FuncData} (F : Fun K "plus" "plus" sPlus fPlus fdPlus) (T : Txt mg) {aDIGITS : Tok} {aLETTERS : Tok} {aWORD_CHARACTERS : Tok} {aNAME_LENGTH : Tok} {aZERO : Addr} {aONE : Addr} {aMOST_DIGITS : Tok} {aSHORT : Tok} (CT : Cons K mg aDIGITS aLETTERS aWORD_CHARACTERS aNAME_LENGTH aZERO aONE aMOST_DIGITS aSHORT) {CPartError CTextFault CNought : Addr} (EX : Exns K mg CPartError CTextFault CNought) {fIni : Addr} {fdIni : FuncData} (FL : Flt K mg CPartError CTextFault CNought fIni) (GIni : FnOk P w K mg base CX0 1 fIni fdIni ["self", "line", "column"] (spFIni K CTextFault)) (bIni : Binds K fdIni ["self", "line", "column"] [])
    {fFraction : Addr} {fdFraction : FuncData} (GFraction : FnOk P w K mg base CX0 1 fFraction fdFraction ["number", "divisor"] (spFraction K)) (gFraction : mg "fraction" = some (.ref fFraction)) (kpFraction : PySem.W.keepIn K (.ref fFraction) = true) (bFraction : Binds K fdFraction ["number", "divisor"] []) {dsFraction : List Value} (vdFraction : Vals [.int 1] dsFraction) (bdFraction : Binds K fdFraction ["number", "divisor"] dsFraction) :
    FnOk P w K mg base CX0 2 fPlus fdPlus ["a", "b"] (spPlus K) := by
  refine F.ok scPlus (fun vs H Q E h => ?_) (fun cdv A outer s H vs Q E hr h => ?_)
  · obtain ⟨a, b, r, s, rfl, hA, hB, hr1, hs1, k⟩ := h
    rfl
  · obtain ⟨a, b, r, s, rfl, hA, hB, hr1, hs1, k⟩ := h
    refine ⟨_, (pss_one (ps_ret (pe_call GFraction hr (by rfl) gFraction kpFraction bFraction .nil pass0 (pa_cons (pe_op op_add (pe_op op_mulW (pe_ix ix_tup (pv 0) pe_int (fun _ _ => rfl)) (pe_ix ix_tup (pv 1) pe_int (fun _ _ => rfl))) (pe_op op_mulW (pe_ix ix_tup (pv 1) pe_int (fun _ _ => rfl)) (pe_ix ix_tup (pv 0) pe_int (fun _ _ => rfl)))) (pa_cons (pe_op op_mulW (pe_ix ix_tup (pv 0) pe_int (fun _ _ => rfl)) (pe_ix ix_tup (pv 1) pe_int (fun _ _ => rfl))) pa_nil))))), ?_⟩
    walk_at "go"
    exact ⟨Bz.up (by walk_at "bz") (by decide), dd_ne r s, fun H' t s1 f1 => k H' t s1 (by show Fx K H' t (r + s); rw [add_div]; exact f1)⟩
def spTimes (K : PySem.W.Frag) : Sp := spR2 K (fun r s => r * s)
theorem okTimes {fTimes : Addr} {fdTimes : FuncData} (F : Fun K "times" "times" sTimes fTimes fdTimes) (T : Txt mg) {aDIGITS : Tok} {aLETTERS : Tok} {aWORD_CHARACTERS : Tok} {aNAME_LENGTH : Tok} {aZERO : Addr} {aONE : Addr} {aMOST_DIGITS : Tok} {aSHORT : Tok} (CT : Cons K mg aDIGITS aLETTERS aWORD_CHARACTERS aNAME_LENGTH aZERO aONE aMOST_DIGITS aSHORT) {CPartError CTextFault CNought : Addr} (EX : Exns K mg CPartError CTextFault CNought) {fIni : Addr} {fdIni : FuncData} (FL : Flt K mg CPartError CTextFault CNought fIni) (GIni : FnOk P w K mg base CX0 1 fIni fdIni ["self", "line", "column"] (spFIni K CTextFault)) (bIni : Binds K fdIni ["self", "line", "column"] [])
    {fFraction : Addr} {fdFraction : FuncData} (GFraction : FnOk P w K mg base CX0 1 fFraction fdFraction ["number", "divisor"] (spFraction K)) (gFraction : mg "fraction" = some (.ref fFraction)) (kpFraction : PySem.W.keepIn K (.ref fFraction) = true) (bFraction : Binds K fdFraction ["number", "divisor"] []) {dsFraction : List Value} (vdFraction : Vals [.int 1] dsFraction) (bdFraction : Binds K fdFraction ["number", "divisor"] dsFraction) :
    FnOk P w K mg base CX0 2 fTimes fdTimes ["a", "b"] (spTimes K) := by
  refine F.ok scTimes (fun vs H Q E h => ?_) (fun cdv A outer s H vs Q E hr h => ?_)
  · obtain ⟨a, b, r, s, rfl, hA, hB, hr1, hs1, k⟩ := h
    rfl
  · obtain ⟨a, b, r, s, rfl, hA, hB, hr1, hs1, k⟩ := h
    refine ⟨_, (pss_one (ps_ret (pe_call GFraction hr (by rfl) gFraction kpFraction bFraction .nil pass0 (pa_cons (pe_op op_mulW (pe_ix ix_tup (pv 0) pe_int (fun _ _ => rfl)) (pe_ix ix_tup (pv 1) pe_int (fun _ _ => rfl))) (pa_cons (pe_op op_mulW (pe_ix ix_tup (pv 0) pe_int (fun _ _ => rfl)) (pe_ix ix_tup (pv 1) pe_int (fun _ _ => rfl))) pa_nil))))), ?_⟩
    walk_at "go"
    exact ⟨Bz.up (by walk_at "bz") (by decide), dd_ne r s, fun H' t s1 f1 => k H' t s1 (by show Fx K H' t (r * s); rw [mul_div]; exact f1)⟩
def spNegative (K : PySem.W.Frag) : Sp := fun vs H Q _ => ∃ (a : Addr) (r : Rat), vs = [.ref a] ∧ Fx K H a r ∧ ∀ (H' : Hp) (t : Addr), Same H H' → Fx K H' t (-r) → Q (.ref t) H'
theorem okNegative {fNegative : Addr} {fdNegative : FuncData} (F : Fun K "negative" "negative" sNegative fNegative fdNegative) (T : Txt mg) {aDIGITS : Tok} {aLETTERS : Tok} {aWORD_CHARACTERS : Tok} {aNAME_LENGTH : Tok} {aZERO : Addr} {aONE : Addr} {aMOST_DIGITS : Tok} {aSHORT : Tok} (CT : Cons K mg aDIGITS aLETTERS aWORD_CHARACTERS aNAME_LENGTH aZERO aONE aMOST_DIGITS aSHORT) {CPartError CTextFault CNought : Addr} (EX : Exns K mg CPartError CTextFault CNought) {fIni : Addr} {fdIni : FuncData} (FL : Flt K mg CPartError CTextFault CNought fIni) (GIni : FnOk P w K mg base CX0 1 fIni fdIni ["self", "line", "column"] (spFIni K CTextFault)) (bIni : Binds K fdIni ["self", "line", "column"] []) :
    FnOk P w K mg base CX0 1 fNegative fdNegative ["a"] (spNegative K) := by
  refine F.ok scNegative (fun vs H Q E h => ?_) (fun cdv A outer s H vs Q E hr h => ?_)
  · obtain ⟨a, r, rfl, hA, k⟩ := h
    rfl
  · obtain ⟨a, r, rfl, hA, k⟩ := h
    refine ⟨_, (pss_one (ps_ret (pe_tup (pa_cons (pe_un un_neg (pe_ix ix_tup (pv 0) pe_int (fun _ _ => rfl))) (pa_cons (pe_ix ix_tup (pv 0) pe_int (fun _ _ => rfl)) pa_nil))))), ?_⟩
    refine ⟨.ref a, rfl, a, _, 0, _, rfl, rfl, hA, atI_nat (j := 0) rfl, _, rfl, .ref a, rfl, a, _, 1, _, rfl, rfl, hA, atI_nat (j := 1) rfl, by show 2 ≤ sizeLine; decide, fun t ht => k _ t (same_upd ht) ?_⟩
    unfold Fx
    rw [Rat.neg_num, Rat.neg_den]
    exact SqT.of upd_same
def spSign (K : PySem.W.Frag) : Sp := fun vs H Q _ => ∃ (a : Addr) (r : Rat), vs = [.ref a] ∧ Fx K H a r ∧ Q (.int (if r.num < 0 then -1 else if r.num = 0 then 0 else 1)) H
theorem okSign {fSign : Addr} {fdSign : FuncData} (F : Fun K "sign" "sign" sSign fSign fdSign) (T : Txt mg) {aDIGITS : Tok} {aLETTERS : Tok} {aWORD_CHARACTERS : Tok} {aNAME_LENGTH : Tok} {aZERO : Addr} {aONE : Addr} {aMOST_DIGITS : Tok} {aSHORT : Tok} (CT : Cons K mg aDIGITS aLETTERS aWORD_CHARACTERS aNAME_LENGTH aZERO aONE aMOST_DIGITS aSHORT) {CPartError CTextFault CNought : Addr} (EX : Exns K mg CPartError CTextFault CNought) {fIni : Addr} {fdIni : FuncData} (FL : Flt K mg CPartError CTextFault CNought fIni) (GIni : FnOk P w K mg base CX0 1 fIni fdIni ["self", "line", "column"] (spFIni K CTextFault)) (bIni : Binds K fdIni ["self", "line", "column"] []) :
    FnOk P w K mg base CX0 1 fSign fdSign ["a"] (spSign K) := by
  refine F.ok scSign (fun vs H Q E h => ?_) (fun cdv A outer s H vs Q E hr h => ?_)
  · obtain ⟨a, r, rfl, hA, k⟩ := h
    rfl
  · obtain ⟨a, r, rfl, hA, k⟩ := h
    refine ⟨_, (pss_cons (ps_if (pt_cmpR op_lt (pe_ix ix_tup (pv 0) pe_int (fun _ _ => rfl)) pe_int (nomark _))
        (pss_one (ps_ret (pe_un un_neg pe_int)))
        pss_nil)
      (pss_cons (ps_if (pt_cmpR op_gt (pe_ix ix_tup (pv 0) pe_int (fun _ _ => rfl)) pe_int (nomark _))
        (pss_one (ps_ret pe_int))
        pss_nil)
      (pss_one (ps_ret pe_int)))), ?_⟩
    walk_at "go"
    refine ite2 (fun g => ?_) (fun g => ?_)
    · rw [if_pos (of_decide_eq_true g)] at k
      walk_at "go"
      exact k
    have g1 : ¬ r.num < 0 := fun z => g (decide_eq_true z)
    rw [if_neg g1] at k
    walk_at "go"
    refine ite2 (fun g2 => ?_) (fun g2 => ?_)
    · have g3 : 0 < r.num := of_decide_eq_true g2
      rw [if_neg (by omega)] at k
      walk_at "go"
      exact k
    · have g3 : ¬ 0 < r.num := fun z => g2 (decide_eq_true z)
      rw [if_pos (by omega)] at k
      walk_at "go"
      exact k
def spWithoutSign (K : PySem.W.Frag) : Sp := fun vs H Q _ => ∃ (a : Addr) (r : Rat), vs = [.ref a] ∧ Fx K H a r ∧ ∀ (H' : Hp) (t : Addr), Same H H' → Fx K H' t (ab r) → Q (.ref t) H'
theorem okWithoutSign {fWithoutSign : Addr} {fdWithoutSign : FuncData} (F : Fun K "without_sign" "without_sign" sWithoutSign fWithoutSign fdWithoutSign) (T : Txt mg) {aDIGITS : Tok} {aLETTERS : Tok} {aWORD_CHARACTERS : Tok} {aNAME_LENGTH : Tok} {aZERO : Addr} {aONE : Addr} {aMOST_DIGITS : Tok} {aSHORT : Tok} (CT : Cons K mg aDIGITS aLETTERS aWORD_CHARACTERS aNAME_LENGTH aZERO aONE aMOST_DIGITS aSHORT) {CPartError CTextFault CNought : Addr} (EX : Exns K mg CPartError CTextFault CNought) {fIni : Addr} {fdIni : FuncData} (FL : Flt K mg CPartError CTextFault CNought fIni) (GIni : FnOk P w K mg base CX0 1 fIni fdIni ["self", "line", "column"] (spFIni K CTextFault)) (bIni : Binds K fdIni ["self", "line", "column"] []) :
    FnOk P w K mg base CX0 1 fWithoutSign fdWithoutSign ["a"] (spWithoutSign K) := by
  refine F.ok scWithoutSign (fun vs H Q E h => ?_) (fun cdv A outer s H vs Q E hr h => ?_)
  · obtain ⟨a, r, rfl, hA, k⟩ := h
    rfl
  · obtain ⟨a, r, rfl, hA, k⟩ := h
    refine ⟨_, (pss_one (ps_ret (pe_tup (pa_cons (pe_callB call_abs (by rfl) T.abs (by decide +kernel) (pa_cons (pe_ix ix_tup (pv 0) pe_int (fun _ _ => rfl)) pa_nil)) (pa_cons (pe_ix ix_tup (pv 0) pe_int (fun _ _ => rfl)) pa_nil))))), ?_⟩
    walk_at "go"
    refine ⟨by show 2 ≤ sizeLine; decide, fun t nt => k _ t (same_upd nt) ?_⟩
    have e : (if r.num < 0 then -r.num else r.num) = (ab r).num := by
      rw [ab_num]
      split <;> omega
    have e2 : (r.den : Int) = ((ab r).den : Int) := by rw [ab_den]
    rw [e, e2]
    exact SqT.of upd_same
theorem numL_log {n : Nat} (h : n < 10 ^ 20) : (n : Int).natAbs.log2 < 1920 := by
  rw [Int.natAbs_natCast]
  exact Nat.lt_of_lt_of_le (PySem.Flt.log2_lt_of (k := 70) (by decide) (Nat.lt_of_lt_of_le h (by decide))) (by decide)
theorem numL20 {n : Nat} (h : n < 10 ^ 20) : (TL.numL n).length ≤ 20 := TL.numL_len (by decide) h
theorem str_num (n : Nat) : V.str (Str.ofString (toString ((n : Nat) : Int))) = V.str (S (TL.numL n)) := congrArg V.str (SX.num_S n)
def spDecimal (K : PySem.W.Frag) : Sp := fun vs H Q _ => ∃ n : Nat, vs = [.int n] ∧ n < 10 ^ 20 ∧ ∀ H' : Hp, Same H H' → Q (.str (S (TL.numL n))) H'
theorem okDecimal {fDecimal : Addr} {fdDecimal : FuncData} (F : Fun K "decimal" "decimal" sDecimal fDecimal fdDecimal) (T : Txt mg) {aDIGITS : Tok} {aLETTERS : Tok} {aWORD_CHARACTERS : Tok} {aNAME_LENGTH : Tok} {aZERO : Addr} {aONE : Addr} {aMOST_DIGITS : Tok} {aSHORT : Tok} (CT : Cons K mg aDIGITS aLETTERS aWORD_CHARACTERS aNAME_LENGTH aZERO aONE aMOST_DIGITS aSHORT) {CPartError CTextFault CNought : Addr} (EX : Exns K mg CPartError CTextFault CNought) {fIni : Addr} {fdIni : FuncData} (FL : Flt K mg CPartError CTextFault CNought fIni) (GIni : FnOk P w K mg base CX0 1 fIni fdIni ["self", "line", "column"] (spFIni K CTextFault)) (bIni : Binds K fdIni ["self", "line", "column"] []) :
    FnOk P w K mg base CX0 1 fDecimal fdDecimal ["number"] (spDecimal K) := by
  refine F.ok scDecimal (fun vs H Q E h => ?_) (fun cdv A outer s H vs Q E hr h => ?_)
  · obtain ⟨n, rfl, hn, k⟩ := h
    rfl
  · obtain ⟨n, rfl, hn, k⟩ := h
    refine ⟨_, (pss_cons (ps_set (i := 1) scDecimal.nd rfl (Or.inl rfl) (pe_lst pa_nil))
      (C8.pss_cut (ps_while PassesOwn.never (pt_cmpR op_ge (pv 0) (pe_op op_pow pe_int pe_int) (nomark _))
        pss_no)
      (pss_cons (ps_expr (pe_bm PySem.F.plainAttrs_list PySem.F.slot_list_append PySem.F.type_list_append mt_append (pv 1) (pa_cons (pe_callTy call_str_int (by rfl) T.str (by decide +kernel) (pa_cons (pv 0) pa_nil)) pa_nil)))
      (pss_one (ps_ret (pe_joinRev (by rfl) pe_str (by rfl) T.reversed (pv 1))))))), ?_⟩
    refine ⟨by show 0 ≤ sizeLine; decide, fun l hl => ?_⟩
    have s1 : Same H (upd H l (.lst [])) := same_upd hl
    refine ⟨fun σ' H' => σ' = [some (.int (n : Int)), some (.ref l), none] ∧ H' = upd H l (.lst []), ?_, ?_⟩
    · refine ⟨fun m σ' H' => σ' = [some (.int (n : Int)), some (.ref l), none] ∧ H' = upd H l (.lst []), ⟨0, rfl, rfl⟩, ?_⟩
      rintro m σ' H' ⟨rfl, rfl⟩
      walk_at "rd"
      refine ite2 (fun g => ?_) (fun _ => ⟨rfl, rfl⟩)
      exfalso
      have g1 := of_decide_eq_true g
      have e : (10 : Int) ^ Int.toNat 64 = ((10 ^ 64 : Nat) : Int) := by decide
      rw [e] at g1
      have h2 : (10 : Nat) ^ 20 < 10 ^ 64 := by decide
      generalize (10 : Nat) ^ 64 = B at g1 h2
      generalize (10 : Nat) ^ 20 = A at hn h2
      omega
    rintro σ' H' ⟨rfl, rfl⟩
    refine ⟨.ref l, rfl, .inl ⟨rfl, _, SqL.of upd_same⟩, _, rfl, _, rfl, numL_log hn, l, _, _, rfl, rfl, upd_same, by show 0 < sizeLine; decide, ?_⟩
    rw [str_num]
    refine ⟨⟨_, rfl⟩, .ref l, rfl, _, l, [S (TL.numL n)], rfl, rfl, SqL.of upd_same, ?_, ?_⟩
    · have := numL20 hn
      show (S (TL.numL n)).length + 0 + 1 * 0 ≤ 16777216
      rw [SX.S_len]
      omega
    · have e : Txt.join ("" : Str) [S (TL.numL n)].reverse = S (TL.numL n) := by
        have := SX.join_S [] [TL.numL n]
        exact this
      rw [e]
      refine k _ (fun b o z => ?_)
      rw [upd_ne (ne_of_none z hl), upd_ne (ne_of_none z hl)]
      exact z
def spTold (K : PySem.W.Frag) : Sp := fun vs H Q _ => ∃ (a : Addr) (r : Rat), vs = [.ref a] ∧ Fx K H a r ∧ r.num.natAbs < 10 ^ 20 ∧ r.den < 10 ^ 20 ∧ ∀ H' : Hp, Same H H' → Q (.str (S (tdl r))) H'
theorem okTold {fTold : Addr} {fdTold : FuncData} (F : Fun K "told" "told" sTold fTold fdTold) (T : Txt mg) {aDIGITS : Tok} {aLETTERS : Tok} {aWORD_CHARACTERS : Tok} {aNAME_LENGTH : Tok} {aZERO : Addr} {aONE : Addr} {aMOST_DIGITS : Tok} {aSHORT : Tok} (CT : Cons K mg aDIGITS aLETTERS aWORD_CHARACTERS aNAME_LENGTH aZERO aONE aMOST_DIGITS aSHORT) {CPartError CTextFault CNought : Addr} (EX : Exns K mg CPartError CTextFault CNought) {fIni : Addr} {fdIni : FuncData} (FL : Flt K mg CPartError CTextFault CNought fIni) (GIni : FnOk P w K mg base CX0 1 fIni fdIni ["self", "line", "column"] (spFIni K CTextFault)) (bIni : Binds K fdIni ["self", "line", "column"] [])
    {fDecimal : Addr} {fdDecimal : FuncData} (GDecimal : FnOk P w K mg base CX0 1 fDecimal fdDecimal ["number"] (spDecimal K)) (gDecimal : mg "decimal" = some (.ref fDecimal)) (kpDecimal : PySem.W.keepIn K (.ref fDecimal) = true) (bDecimal : Binds K fdDecimal ["number"] []) :
    FnOk P w K mg base CX0 2 fTold fdTold ["a"] (spTold K) := by
  refine F.ok scTold (fun vs H Q E h => ?_) (fun cdv A outer s H vs Q E hr h => ?_)
  · obtain ⟨a, r, rfl, hA, hn, hd, k⟩ := h
    rfl
  · obtain ⟨a, r, rfl, hA, hn, hd, k⟩ := h
    refine ⟨_, (pss_cons (ps_asg (pv 0) (pg_tup rfl (pgs_cons (pg_name (i := 1) scTold.nd rfl (Or.inl rfl)) (pgs_cons (pg_name (i := 2) scTold.nd rfl (Or.inl rfl)) pgs_nil))))
      (pss_cons (ps_set (i := 3) scTold.nd rfl (Or.inl rfl) (pe_call GDecimal hr (by rfl) gDecimal kpDecimal bDecimal .nil pass0 (pa_cons (pe_callB call_abs (by rfl) T.abs (by decide +kernel) (pa_cons (pv 1) pa_nil)) pa_nil)))
      (C8.pss_cut (ps_if (pt_cmpR op_lt (pv 1) pe_int (nomark _))
        (pss_one (ps_set (i := 3) scTold.nd rfl (Or.inl rfl) (pe_op op_addS pe_str (pv 3))))
        pss_nil)
      (C8.pss_cut (ps_if (pt_cmpR op_ne (pv 2) pe_int (nomark _))
        (pss_one (ps_set (i := 3) scTold.nd rfl (Or.inl rfl) (pe_op op_addS (pe_op op_addS (pv 3) pe_str) (pe_call GDecimal hr (by rfl) gDecimal kpDecimal bDecimal .nil pass0 (pa_cons (pv 2) pa_nil)))))
        pss_nil)
      (pss_one (ps_ret (pv 3))))))), ?_⟩
    have ez : (if r.num < 0 then -r.num else r.num) = ((r.num.natAbs : Nat) : Int) := by
      split <;> omega
    have l1 := numL20 hn
    have l2 := numL20 hd
    refine ⟨_, rfl, a, _, rfl, hA, rfl, _, _, rfl, _, _, rfl, rfl, ?_⟩
    refine ⟨_, rfl, _, rfl, r.num.natAbs, congrArg (fun z => [V.int z]) ez, hn, fun H1 s1 => ?_⟩
    refine ⟨fun σ' H' => σ' = [some (.ref a), some (.int r.num), some (.int (r.den : Int)), some (.str (S ((if r.num < 0 then [45] else []) ++ TL.numL r.num.natAbs)))] ∧ H' = H1, ?_, ?_⟩
    · refine ⟨_, rfl, _, _, rfl, rfl, _, rfl, ite2 (fun g => ?_) (fun g => ?_)⟩
      · refine ⟨_, rfl, [45], _, congrArg V.str lit_minus, rfl, by show 1 + _ ≤ _; omega, ?_, rfl⟩
        rw [if_pos (of_decide_eq_true g)]
        rfl
      · rw [if_neg (fun z => g (decide_eq_true z))]
        exact ⟨rfl, rfl⟩
    rintro σ' H2 ⟨rfl, rfl⟩
    refine ⟨fun σ' H' => σ' = [some (.ref a), some (.int r.num), some (.int (r.den : Int)), some (.str (S (tdl r)))] ∧ Same H2 H', ?_, ?_⟩
    · refine ⟨_, rfl, rfl, _, rfl, ite2 (fun g => ?_) (fun g => ?_)⟩
      · have hd1 : ¬ r.den = 1 := fun z => ne_of_bang g (by rw [z]; rfl)
        have l3 : ((if r.num < 0 then [45] else []) ++ TL.numL r.num.natAbs).length ≤ 30 := by
          rw [List.length_append]
          split
          · show 1 + _ ≤ _
            omega
          · show 0 + _ ≤ _
            omega
        refine ⟨_, rfl, _, [47], rfl, congrArg V.str lit_slash, by show _ + 1 ≤ _; omega, ?_⟩
        refine ⟨_, rfl, r.den, rfl, hd, fun H3 s3 => ?_⟩
        refine ⟨_, _, rfl, rfl, by rw [List.length_append]; show _ + 1 + _ ≤ _; omega, ?_, s3⟩
        unfold tdl
        rw [if_neg hd1]
        simp only [List.append_assoc, List.cons_append, List.nil_append]
        rfl
      · have hd1 : r.den = 1 := by
          have := eq_of_nobang g
          omega
        refine ⟨?_, Same.refl _⟩
        have e : tdl r = (if r.num < 0 then [45] else []) ++ TL.numL r.num.natAbs := by
          unfold tdl
          rw [if_pos hd1, List.append_nil]
        rw [e]
    rintro σ' H3 ⟨rfl, s3⟩
    exact ⟨_, rfl, k _ (s1.trans s3)⟩
def spReadDigits (K : PySem.W.Frag) (CTextFault : Addr) : Sp := fun vs H Q E => ∃ (a : List Nat) (i : Nat), vs = [.str (S a), .int i] ∧ a.length ≤ 600 ∧ i ≤ a.length ∧ (dg D10 a i = 0 ∨ 12 < dg D10 a i → fE CTextFault E H 1 ((i : Int) + 1)) ∧
  (0 < dg D10 a i → dg D10 a i ≤ 12 → ∀ (H' : Hp) (t : Addr), Same H H' → H' t = some (.tup [.int (dv10 a i (dg D10 a i) : Nat), .int ((i + dg D10 a i : Nat) : Int)]) → Q (.ref t) H')
theorem okReadDigits {fReadDigits : Addr} {fdReadDigits : FuncData} (F : Fun K "read_digits" "read_digits" sReadDigits fReadDigits fdReadDigits) (T : Txt mg) {aDIGITS : Tok} {aLETTERS : Tok} {aWORD_CHARACTERS : Tok} {aNAME_LENGTH : Tok} {aZERO : Addr} {aONE : Addr} {aMOST_DIGITS : Tok} {aSHORT : Tok} (CT : Cons K mg aDIGITS aLETTERS aWORD_CHARACTERS aNAME_LENGTH aZERO aONE aMOST_DIGITS aSHORT) {CPartError CTextFault CNought : Addr} (EX : Exns K mg CPartError CTextFault CNought) {fIni : Addr} {fdIni : FuncData} (FL : Flt K mg CPartError CTextFault CNought fIni) (GIni : FnOk P w K mg base CX0 1 fIni fdIni ["self", "line", "column"] (spFIni K CTextFault)) (bIni : Binds K fdIni ["self", "line", "column"] [])
    {fRowEnd : Addr} {fdRowEnd : FuncData} (GRowEnd : FnOk P w K mg base CX0 1 fRowEnd fdRowEnd ["text", "at", "allowed"] (spRowEnd K)) (gRowEnd : mg "row_end" = some (.ref fRowEnd)) (kpRowEnd : PySem.W.keepIn K (.ref fRowEnd) = true) (bRowEnd : Binds K fdRowEnd ["text", "at", "allowed"] []) :
    FnOk P w K mg base (L2.CX P w) 3 fReadDigits fdReadDigits ["text", "at"] (spReadDigits K CTextFault) := by
  refine F.okX scReadDigits (fun vs H Q E h => ?_) (fun cdv A outer s H vs Q E hr h => ?_)
  · obtain ⟨a, i, rfl, hlen, hi, he, k⟩ := h
    rfl
  · obtain ⟨a, i, rfl, hlen, hi, he, k⟩ := h
    refine ⟨_, (pss_cons (ps_set (i := 2) scReadDigits.nd rfl (Or.inl rfl) (pe_call GRowEnd (hr.mono (by decide)) (by rfl) gRowEnd kpRowEnd bRowEnd .nil pass0 (pa_cons (pv 0) (pa_cons (pv 1) (pa_cons (pe_glob (v := .str "0123456789") (by rfl) CT.gDIGITS ⟨_, rfl⟩) pa_nil)))))
      (pss_cons (ps_if (PW.pt (pw_or (pt_cmpR op_eq (pv 2) (pv 1) (nomark _)) (pw_or1 (pt_cmpR op_gt (pe_op op_sub (pv 2) (pv 1)) (pe_glob (v := .int 12) (by rfl) CT.gMOST_DIGITS ⟨_, rfl⟩) (nomark _)))))
        (pss_one (ps_raise rfl (takes_of rfl rfl rfl rfl) (pmk_oex FL.ox FL.iC FL.tI GIni (hr.mono (by decide)) bIni .nil pass0 (by rfl) FL.g (pa_cons pe_int (pa_cons (pe_op op_add (pv 1) pe_int) pa_nil)))))
        pss_nil)
      (pss_one (ps_ret (pe_tup (pa_cons (pe_callTy call_int_str (by rfl) T.int (by decide +kernel) (pa_cons (pe_slice sl_str (pv 0) (po_some (pv 1)) (po_some (pv 2))) pa_nil)) (pa_cons (pv 2) pa_nil))))))), ?_⟩
    have hz : (S a).length ≤ sizeLine := by
      rw [SX.S_len, PySem.sizeLine_eq]
      omega
    have hle := dg_le (b := D10) hi
    refine ⟨_, rfl, _, rfl, a, D10, i, congrArg (fun z => [V.str (S a), V.int (i : Int), V.str z]) D10_S, by omega, hi, ?_⟩
    refine ⟨_, rfl, _, rfl, rfl, _, rfl, ite2 (fun g => ?_) (fun g => ?_)⟩
    · have g1 := eq_of_dec g
      exact ⟨_, rfl, _, _, rfl, rfl, fault_mk fun d H' s1 _ e1 => he (.inl (by omega)) d H' s1 e1⟩
    · have g1 := ne_of_nodec g
      refine ⟨_, rfl, _, rfl, _, _, rfl, rfl, _, _, rfl, rfl, _, rfl, ite2 (fun g2 => ?_) (fun g2 => ?_)⟩
      · have g3 := of_decide_eq_true g2
        exact ⟨_, rfl, _, _, rfl, rfl, fault_mk fun d H' s1 _ e1 => he (.inr (by omega)) d H' s1 e1⟩
      · have g3 : ¬ (12 : Int) < ((i + dg D10 a i : Nat) : Int) - (i : Int) := fun z => g2 (decide_eq_true z)
        have p0 : 0 < dg D10 a i := by omega
        have p12 : dg D10 a i ≤ 12 := by omega
        refine ⟨_, rfl, _, rfl, _, rfl, _, rfl, _, rfl, S a, rfl, hz, _, _, rfl, ?_, ?_, _, rfl, by show 2 ≤ sizeLine; decide, fun t nt => k p0 p12 _ t (same_upd nt) upd_same⟩
        · rw [cut_S hle]
          exact dv_int (Nat.le_refl _) p0 (by omega) hle
        · rw [cut_S hle, SX.S_len, List.length_take]
          omega
def spReadRatio (K : PySem.W.Frag) (CTextFault : Addr) : Sp := fun vs H Q E => ∃ (a : List Nat) (i : Nat), vs = [.str (S a), .int i] ∧ a.length ≤ 600 ∧ i ≤ a.length ∧ (∀ c : Nat, ratio a i = .inl c → fE CTextFault E H 1 (c : Int)) ∧
  (∀ (r : Rat) (e : Nat), ratio a i = .inr (r, e) → ∀ (H' : Hp) (t q : Addr), Same H H' → Fx K H' q r → H' t = some (.tup [.ref q, .int (e : Int)]) → Q (.ref t) H')
theorem okReadRatio {fReadRatio : Addr} {fdReadRatio : FuncData} (F : Fun K "read_ratio" "read_ratio" sReadRatio fReadRatio fdReadRatio) (T : Txt mg) {aDIGITS : Tok} {aLETTERS : Tok} {aWORD_CHARACTERS : Tok} {aNAME_LENGTH : Tok} {aZERO : Addr} {aONE : Addr} {aMOST_DIGITS : Tok} {aSHORT : Tok} (CT : Cons K mg aDIGITS aLETTERS aWORD_CHARACTERS aNAME_LENGTH aZERO aONE aMOST_DIGITS aSHORT) {CPartError CTextFault CNought : Addr} (EX : Exns K mg CPartError CTextFault CNought) {fIni : Addr} {fdIni : FuncData} (FL : Flt K mg CPartError CTextFault CNought fIni) (GIni : FnOk P w K mg base CX0 1 fIni fdIni ["self", "line", "column"] (spFIni K CTextFault)) (bIni : Binds K fdIni ["self", "line", "column"] [])
    {fReadDigits : Addr} {fdReadDigits : FuncData} (GReadDigits : FnOk P w K mg base (L2.CX P w) 3 fReadDigits fdReadDigits ["text", "at"] (spReadDigits K CTextFault)) (gReadDigits : mg "read_digits" = some (.ref fReadDigits)) (kpReadDigits : PySem.W.keepIn K (.ref fReadDigits) = true) (bReadDigits : Binds K fdReadDigits ["text", "at"] [])
    {fFraction : Addr} {fdFraction : FuncData} (GFraction : FnOk P w K mg base CX0 1 fFraction fdFraction ["number", "divisor"] (spFraction K)) (gFraction : mg "fraction" = some (.ref fFraction)) (kpFraction : PySem.W.keepIn K (.ref fFraction) = true) (bFraction : Binds K fdFraction ["number", "divisor"] []) {dsFraction : List Value} (vdFraction : Vals [.int 1] dsFraction) (bdFraction : Binds K fdFraction ["number", "divisor"] dsFraction) :
    FnOk P w K mg base (L2.CX P w) 4 fReadRatio fdReadRatio ["text", "at"] (spReadRatio K CTextFault) := by
  refine F.okX scReadRatio (fun vs H Q E h => ?_) (fun cdv A outer s H vs Q E hr h => ?_)
  · obtain ⟨a, i, rfl, hlen, hi, he, k⟩ := h
    rfl
  · obtain ⟨a, i, rfl, hlen, hi, he, k⟩ := h
    refine ⟨_, (pss_cons (ps_asg (pe_call GReadDigits hr (by rfl) gReadDigits kpReadDigits bReadDigits .nil (passes_call (takes_of rfl rfl rfl rfl) (fun _ _ _ _ h => h)) (pa_cons (pv 0) (pa_cons (pv 1) pa_nil))) (pg_tup rfl (pgs_cons (pg_name (i := 2) scReadRatio.nd rfl (Or.inl rfl)) (pgs_cons (pg_name (i := 3) scReadRatio.nd rfl (Or.inl rfl)) pgs_nil))))
      (pss_cons (ps_if (PW.pt (pw_or (pt_cmpR op_eq (pv 3) (pe_callB call_len_str (by rfl) T.len PySem.boot_len (pa_cons (pv 0) pa_nil)) (nomark _)) (pw_or1 (pt_cmpR op_ne (pe_ix ix_str (pv 0) (pv 3) (fun _ _ => rfl)) pe_str (nomark _)))))
        (pss_one (ps_ret (pe_tup (pa_cons (pe_call GFraction (hr.mono (by decide)) (by rfl) gFraction kpFraction bdFraction vdFraction pass0 (pa_cons (pv 2) pa_nil)) (pa_cons (pv 3) pa_nil)))))
        pss_nil)
      (pss_cons (ps_set (i := 4) scReadRatio.nd rfl (Or.inl rfl) (pe_op op_add (pv 3) pe_int))
      (pss_cons (ps_asg (pe_call GReadDigits hr (by rfl) gReadDigits kpReadDigits bReadDigits .nil (passes_call (takes_of rfl rfl rfl rfl) (fun _ _ _ _ h => h)) (pa_cons (pv 0) (pa_cons (pv 4) pa_nil))) (pg_tup rfl (pgs_cons (pg_name (i := 5) scReadRatio.nd rfl (Or.inl rfl)) (pgs_cons (pg_name (i := 3) scReadRatio.nd rfl (Or.inl rfl)) pgs_nil))))
      (pss_cons (ps_if (pt_cmpR op_eq (pv 5) pe_int (nomark _))
        (pss_one (ps_raise rfl (takes_of rfl rfl rfl rfl) (pmk_oex FL.ox FL.iC FL.tI GIni (hr.mono (by decide)) bIni .nil pass0 (by rfl) FL.g (pa_cons pe_int (pa_cons (pe_op op_add (pv 4) pe_int) pa_nil)))))
        pss_nil)
      (pss_one (ps_ret (pe_tup (pa_cons (pe_call GFraction (hr.mono (by decide)) (by rfl) gFraction kpFraction bFraction .nil pass0 (pa_cons (pv 2) (pa_cons (pv 5) pa_nil))) (pa_cons (pv 3) pa_nil)))))))))), ?_⟩
    have hz : (S a).length ≤ sizeLine := by
      rw [SX.S_len, PySem.sizeLine_eq]
      omega
    have hle := dg_le (b := D10) hi
    refine ⟨_, rfl, _, rfl, a, i, rfl, hlen, hi, fun h => he _ (by unfold ratio; rw [if_pos h]), fun p0 p12 H1 t1 s1 e1 => ?_⟩
    have n1 : ¬ (dg D10 a i = 0 ∨ 12 < dg D10 a i) := by omega
    have v1 := dv_12 p12
    refine ⟨t1, _, rfl, SqT.of e1, rfl, _, _, rfl, _, _, rfl, rfl, ?_⟩
    have plain : a[i + dg D10 a i]? ≠ some 47 → ∀ (H2 : Hp) (q : Addr), Same H1 H2 → Fx K H2 q (Rat.divInt (dv10 a i (dg D10 a i) : Nat) 1) → ∀ t, H2 t = none → Q (.ref t) (upd H2 t (.tup [.ref q, .int ((i + dg D10 a i : Nat) : Int)])) := fun h47 H2 q s2 f2 t nt => by
      have s3 := same_upd (o := .tup [.ref q, .int ((i + dg D10 a i : Nat) : Int)]) nt
      exact k _ _ (by unfold ratio; rw [if_neg n1, if_neg h47]) _ t q (s1.trans (s2.trans s3)) (f2.same s3) upd_same
    have fr1 : ∀ k : Prop, k → k := fun _ h => h
    refine ⟨_, rfl, _, rfl, S a, rfl, hz, rfl, _, rfl, ite2 (fun g => ?_) (fun g => ?_)⟩
    · have g1 := eq_of_dec g
      rw [SX.S_len] at g1
      have h47 : a[i + dg D10 a i]? ≠ some 47 := by
        rw [List.getElem?_eq_none (by omega)]
        exact fun z => nomatch z
      refine ⟨_, rfl, ((dv10 a i (dg D10 a i) : Nat) : Int), 1, rfl, by show 1 < 2 ^ 2000; exact Nat.one_lt_two_pow (by decide), by decide, fun H2 q s2 f2 => ?_⟩
      exact ⟨_, rfl, by show 2 ≤ sizeLine; decide, fun t nt => plain h47 H2 q s2 f2 t nt⟩
    · have g1 := ne_of_nodec g
      rw [SX.S_len] at g1
      have hlt : i + dg D10 a i < a.length := by omega
      obtain ⟨c, hc⟩ : ∃ c, a[i + dg D10 a i]? = some c := ⟨_, List.getElem?_eq_getElem hlt⟩
      refine ⟨_, rfl, _, rfl, S a, _, c, rfl, rfl, hz, atI_nat hc, rfl, _, rfl, ite2 (fun g => ?_) (fun g => ?_)⟩
      · have hc47 := lit_ne g
        have h47 : a[i + dg D10 a i]? ≠ some 47 := by
          rw [hc]
          exact fun z => hc47 (Option.some.inj z)
        refine ⟨_, rfl, ((dv10 a i (dg D10 a i) : Nat) : Int), 1, rfl, by show 1 < 2 ^ 2000; exact Nat.one_lt_two_pow (by decide), by decide, fun H2 q s2 f2 => ?_⟩
        exact ⟨_, rfl, by show 2 ≤ sizeLine; decide, fun t nt => plain h47 H2 q s2 f2 t nt⟩
      · have hc47 := lit_eq g
        subst hc47
        have hle2 := dg_le (b := D10) (a := a) (i := i + dg D10 a i + 1) (by omega)
        refine ⟨_, rfl, _, _, rfl, rfl, ?_⟩
        refine ⟨_, rfl, _, rfl, a, i + dg D10 a i + 1, rfl, hlen, by omega, fun h => (he (i + dg D10 a i + 2) (by unfold ratio; rw [if_neg n1, if_pos hc, if_pos h])).same s1, fun q0 q12 H2 t2 s2 e2 => ?_⟩
        have n2 : ¬ (dg D10 a (i + dg D10 a i + 1) = 0 ∨ 12 < dg D10 a (i + dg D10 a i + 1)) := by omega
        have v2 := dv_12 q12
        refine ⟨t2, _, rfl, SqT.of e2, rfl, _, _, rfl, _, _, rfl, rfl, ?_⟩
        refine ⟨_, rfl, rfl, _, rfl, ite2 (fun g => ?_) (fun g => ?_)⟩
        · have g1 := eq_of_dec g
          have g2 : dv10 a (i + dg D10 a i + 1) (dg D10 a (i + dg D10 a i + 1)) = 0 := by omega
          have hf := ((he (i + dg D10 a i + 2) (by unfold ratio; rw [if_neg n1, if_pos hc, if_neg n2, if_pos g2])).same s1).same s2
          exact ⟨_, rfl, _, _, rfl, rfl, fault_mk fun d H' s3 _ e3 => hf d H' s3 e3⟩
        · have g1 := ne_of_nodec g
          have g2 : ¬ dv10 a (i + dg D10 a i + 1) (dg D10 a (i + dg D10 a i + 1)) = 0 := by omega
          refine ⟨_, rfl, _, rfl, ((dv10 a i (dg D10 a i) : Nat) : Int), ((dv10 a (i + dg D10 a i + 1) (dg D10 a (i + dg D10 a i + 1)) : Nat) : Int), rfl, by rw [Int.natAbs_natCast]; exact Nat.lt_trans v2 ten2000, by omega, fun H3 q s3 f3 => ?_⟩
          refine ⟨_, rfl, by show 2 ≤ sizeLine; decide, fun t nt => ?_⟩
          have s4 := same_upd (o := .tup [.ref q, .int ((i + dg D10 a i + 1 + dg D10 a (i + dg D10 a i + 1) : Nat) : Int)]) nt
          exact k _ _ (by unfold ratio; rw [if_neg n1, if_pos hc, if_neg n2, if_neg g2]) _ t q (s1.trans (s2.trans (s3.trans s4))) (f3.same s4) upd_same
def spConstant (K : PySem.W.Frag) : Sp := fun vs H Q _ => ∃ (b : Addr) (r : Rat) (n : Nat), vs = [.ref b, .int n] ∧ Fx K H b r ∧ n ≤ 9 ∧ ∀ (H' : Hp) (t : Addr), Same H H' → Vx K H' t r (List.replicate n 0) → Q (.ref t) H'
theorem okConstant {fConstant : Addr} {fdConstant : FuncData} (F : Fun K "constant" "constant" sConstant fConstant fdConstant) (T : Txt mg) {aDIGITS : Tok} {aLETTERS : Tok} {aWORD_CHARACTERS : Tok} {aNAME_LENGTH : Tok} {aZERO : Addr} {aONE : Addr} {aMOST_DIGITS : Tok} {aSHORT : Tok} (CT : Cons K mg aDIGITS aLETTERS aWORD_CHARACTERS aNAME_LENGTH aZERO aONE aMOST_DIGITS aSHORT) {CPartError CTextFault CNought : Addr} (EX : Exns K mg CPartError CTextFault CNought) {fIni : Addr} {fdIni : FuncData} (FL : Flt K mg CPartError CTextFault CNought fIni) (GIni : FnOk P w K mg base CX0 1 fIni fdIni ["self", "line", "column"] (spFIni K CTextFault)) (bIni : Binds K fdIni ["self", "line", "column"] []) :
    FnOk P w K mg base CX0 1 fConstant fdConstant ["base", "many"] (spConstant K) := by
  refine F.ok scConstant (fun vs H Q E h => ?_) (fun cdv A outer s H vs Q E hr h => ?_)
  · obtain ⟨b, r, n, rfl, hB, hn, k⟩ := h
    rfl
  · obtain ⟨b, r, n, rfl, hB, hn, k⟩ := h
    refine ⟨_, (pss_one (ps_ret (pe_tup (pa_cons (pv 0) (pa_cons (pe_op (op_mulNone.or (op_mulOnce.or op_repT)) (pe_tup (pa_cons (pe_glob (v := .ref aZERO) (by rfl) CT.gZERO rfl) pa_nil)) (pv 1)) pa_nil))))), ?_⟩
    refine ⟨_, rfl, by show 1 ≤ sizeLine; decide, fun t1 n1 => ?_⟩
    have s1 := same_upd (o := .tup [.ref aZERO]) n1
    have h1 : SqT K (upd H t1 (.tup [.ref aZERO])) t1 [.ref aZERO] := SqT.of upd_same
    have hz : ∀ H' : Hp, Fx K H' aZERO 0 := fun H' => CT.tZERO H'
    have rx : ∀ (H' : Hp) (m : Nat), Rx K H' (List.replicate m (aZERO, (0 : Rat))) := fun H' m w hw => by
      rw [List.eq_of_mem_replicate hw]
      exact hz H'
    have em : ∀ m : Nat, (List.replicate m (aZERO, (0 : Rat))).map (·.2) = List.replicate m 0 := fun m => by rw [List.map_replicate]
    have ef : ∀ m : Nat, fr (List.replicate m (aZERO, (0 : Rat))) = List.replicate m (.ref aZERO) := fun m => by
      unfold fr
      rw [List.map_replicate]
    generalize upd H t1 (.tup [.ref aZERO]) = H1 at s1 h1
    refine ⟨_, rfl, ?_⟩
    have fin : ∀ (H2 : Hp) (p : Addr), Same H1 H2 → SqT K H2 p (List.replicate n (.ref aZERO)) → ∀ t4, H2 t4 = none → Q (.ref t4) (upd H2 t4 (.tup [.ref b, .ref p])) := fun H2 p s2 hp t4 n4 => by
      have s4 := same_upd (o := .tup [.ref b, .ref p]) n4
      refine k _ t4 (s1.trans (s2.trans s4)) ⟨b, p, List.replicate n (aZERO, (0 : Rat)), SqT.of upd_same, hB.same (s1.trans (s2.trans s4)), ?_, rx _ _, em n⟩
      rw [ef]
      exact same_tup s4 hp
    obtain rfl | rfl | h2 : n = 0 ∨ n = 1 ∨ 2 ≤ n := by omega
    · exact .inl ⟨t1, _, rfl, rfl, h1, (fun z => nomatch z), fun p np => ⟨by show 2 ≤ sizeLine; decide, fin _ p (same_upd np) (SqT.of upd_same)⟩⟩
    · exact .inr (.inl ⟨t1, _, rfl, rfl, h1, by show 2 ≤ sizeLine; decide, fin _ t1 (Same.refl _) h1⟩)
    · refine .inr (.inr ⟨t1, n, _, rfl, rfl, h1, (fun z => nomatch z), by omega, by omega, by show 1 ≤ 1000; decide, fun p np => ⟨by show 2 ≤ sizeLine; decide, fin _ p (same_upd np) ?_⟩⟩)
      have e : (List.replicate (n : Int).toNat [V.ref aZERO]).flatten = List.replicate n (.ref aZERO) := by
        rw [Int.toNat_natCast]
        clear h2 fin hn k
        induction n with
        | zero => rfl
        | succ n ih => rw [List.replicate_succ, List.flatten_cons, ih, List.replicate_succ]; rfl
      rw [← e]
      exact SqT.of upd_same
def spParameter (K : PySem.W.Frag) : Sp := fun vs H Q _ => ∃ j n : Nat, vs = [.int j, .int n] ∧ n ≤ 9 ∧ ∀ (H' : Hp) (t : Addr), Same H H' → Vx K H' t 0 ((List.range n).map fun i => if i = j then 1 else 0) → Q (.ref t) H'
theorem okParameter {fParameter : Addr} {fdParameter : FuncData} (F : Fun K "parameter" "parameter" sParameter fParameter fdParameter) (T : Txt mg) {aDIGITS : Tok} {aLETTERS : Tok} {aWORD_CHARACTERS : Tok} {aNAME_LENGTH : Tok} {aZERO : Addr} {aONE : Addr} {aMOST_DIGITS : Tok} {aSHORT : Tok} (CT : Cons K mg aDIGITS aLETTERS aWORD_CHARACTERS aNAME_LENGTH aZERO aONE aMOST_DIGITS aSHORT) {CPartError CTextFault CNought : Addr} (EX : Exns K mg CPartError CTextFault CNought) {fIni : Addr} {fdIni : FuncData} (FL : Flt K mg CPartError CTextFault CNought fIni) (GIni : FnOk P w K mg base CX0 1 fIni fdIni ["self", "line", "column"] (spFIni K CTextFault)) (bIni : Binds K fdIni ["self", "line", "column"] []) :
    FnOk P w K mg base CX0 1 fParameter fdParameter ["at", "many"] (spParameter K) := by
  refine F.ok scParameter (fun vs H Q E h => ?_) (fun cdv A outer s H vs Q E hr h => ?_)
  · obtain ⟨j, n, rfl, hn, k⟩ := h
    rfl
  · obtain ⟨j, n, rfl, hn, k⟩ := h
    refine ⟨_, (pss_one (ps_ret (pe_tup (pa_cons (pe_glob (v := .ref aZERO) (by rfl) CT.gZERO rfl) (pa_cons (pe_callTy call_tuple_of (by rfl) T.tuple (by decide +kernel) (pa_cons (pe_lc (own := [("k", 2)]) (by rfl) scParameter.nd (pi_range1 rfl T.range (pa_cons (pv 1) pa_nil)) (blkOk_by (own := [("k", 2)]) (N := ["at", "many", "k"]) (sc := defScope sParameter) (by decide +kernel)) (fun _ _ _ _ _ => (pg_name (i := 2) scParameter.nd rfl (Or.inl rfl))) (fun _ _ _ _ _ => pts_nil) (fun _ _ _ _ _ => (pe_ifExp (pt_cmpR op_eq (pv 2) (pv 0) (nomark _)) (pe_glob (v := .ref aONE) (by rfl) CT.gONE rfl) (pe_glob (v := .ref aZERO) (by rfl) CT.gZERO rfl)))) pa_nil)) pa_nil))))), ?_⟩
    refine ⟨_, rfl, n, rfl, by omega, by omega, fun D hD => ?_⟩
    refine lc_row (K := K) walk_range ((List.range n).map fun i => if i = j then (1 : Rat) else 0) (by simp) (by omega) hD (fun _ _ => trivial) ?_ ?_
    · rintro i c v H2 H3 kk hr s2 ⟨rfl, rfl⟩ kk2
      rw [List.getElem?_map] at hr
      have hi : i < n := by
        rcases Nat.lt_or_ge i n with h | h
        · exact h
        · rw [List.getElem?_eq_none (by rw [List.length_range]; exact h)] at hr
          cases hr
      rw [List.getElem?_range hi] at hr
      obtain rfl : (if i = j then (1 : Rat) else 0) = c := Option.some.inj hr
      refine ⟨rfl, _, rfl, _, rfl, rfl, _, rfl, ite2 (fun g => ?_) (fun g => ?_)⟩
      · have e := eq_of_dec g
        exact kk2 aONE _ (Same.refl _) (by rw [if_pos (by omega)]; exact CT.tONE _)
      · have e := ne_of_nodec g
        exact kk2 aZERO _ (Same.refl _) (by rw [if_neg (by omega)]; exact CT.tZERO _)
    · intro H2 ws s2 e2 r2 m2
      refine ⟨D, _, rfl, .inl ⟨SqL.of e2, fun t3 n3 => ?_⟩⟩
      have s3 := same_upd (o := .tup (fr ws)) n3
      refine ⟨by show 2 ≤ sizeLine; decide, fun t4 n4 => ?_⟩
      have s4 := same_upd (o := .tup [.ref aZERO, .ref t3]) n4
      exact k _ t4 (s2.trans (s3.trans s4)) ⟨aZERO, t3, ws, SqT.of upd_same, CT.tZERO _, SqT.of (s4 _ _ upd_same), r2.same (s3.trans s4), m2⟩
def spV2 (K : PySem.W.Frag) (op : Rat → Rat → Rat) : Sp := fun vs H Q _ => ∃ (a b : Addr) (x y : Rat) (xs ys : List Rat), vs = [.ref a, .ref b] ∧ Vx K H a x xs ∧ Vx K H b y ys ∧ xs.length = ys.length ∧ xs.length ≤ 20 ∧ Bd 800 x ∧ Bd 800 y ∧ (∀ r ∈ xs, Bd 800 r) ∧ (∀ r ∈ ys, Bd 800 r) ∧
  ∀ (H' : Hp) (t : Addr), Same H H' → Vx K H' t (op x y) (List.zipWith op xs ys) → Q (.ref t) H'
def spAdd (K : PySem.W.Frag) : Sp := spV2 K (fun r s => r + s)
theorem okAdd {fAdd : Addr} {fdAdd : FuncData} (F : Fun K "add" "add" sAdd fAdd fdAdd) (T : Txt mg) {aDIGITS : Tok} {aLETTERS : Tok} {aWORD_CHARACTERS : Tok} {aNAME_LENGTH : Tok} {aZERO : Addr} {aONE : Addr} {aMOST_DIGITS : Tok} {aSHORT : Tok} (CT : Cons K mg aDIGITS aLETTERS aWORD_CHARACTERS aNAME_LENGTH aZERO aONE aMOST_DIGITS aSHORT) {CPartError CTextFault CNought : Addr} (EX : Exns K mg CPartError CTextFault CNought) {fIni : Addr} {fdIni : FuncData} (FL : Flt K mg CPartError CTextFault CNought fIni) (GIni : FnOk P w K mg base CX0 1 fIni fdIni ["self", "line", "column"] (spFIni K CTextFault)) (bIni : Binds K fdIni ["self", "line", "column"] [])
    {fPlus : Addr} {fdPlus : FuncData} (GPlus : FnOk P w K mg base CX0 2 fPlus fdPlus ["a", "b"] (spPlus K)) (gPlus : mg "plus" = some (.ref fPlus)) (kpPlus : PySem.W.keepIn K (.ref fPlus) = true) (bPlus : Binds K fdPlus ["a", "b"] []) :
    FnOk P w K mg base CX0 3 fAdd fdAdd ["a", "b"] (spAdd K) := by
  refine F.ok scAdd (fun vs H Q E h => ?_) (fun cdv A outer s H vs Q E hr h => ?_)
  · obtain ⟨a, b, x, y, xs, ys, rfl, ⟨p, q, us, hA, hp, hq, hus, rfl⟩, ⟨p2, q2, vs, hB, hp2, hq2, hvs, rfl⟩, hlen, h20, bx, bY, bxs, bys, k⟩ := h
    rfl
  · obtain ⟨a, b, x, y, xs, ys, rfl, ⟨p, q, us, hA, hp, hq, hus, rfl⟩, ⟨p2, q2, vs, hB, hp2, hq2, hvs, rfl⟩, hlen, h20, bx, bY, bxs, bys, k⟩ := h
    refine ⟨_, (pss_one (ps_ret (pe_tup (pa_cons (pe_call GPlus hr (by rfl) gPlus kpPlus bPlus .nil pass0 (pa_cons (pe_ix ix_tup (pv 0) pe_int (fun _ _ => rfl)) (pa_cons (pe_ix ix_tup (pv 1) pe_int (fun _ _ => rfl)) pa_nil))) (pa_cons (pe_callTy call_tuple_of (by rfl) T.tuple (by decide +kernel) (pa_cons (pe_lc (own := [("x", 2), ("y", 3)]) (by rfl) scAdd.nd (pi_zipB (by rfl) T.zip (pa_cons (pe_ix ix_tup (pv 0) pe_int (fun _ _ => rfl)) (pa_cons (pe_ix ix_tup (pv 1) pe_int (fun _ _ => rfl)) pa_nil))) (blkOk_by (own := [("x", 2), ("y", 3)]) (N := ["a", "b", "x", "y"]) (sc := defScope sAdd) (by decide +kernel)) (fun _ _ _ _ _ => (show PG _ _ (gTup K 2 _) from (pg_tup rfl (pgs_cons (pg_name (i := 2) scAdd.nd rfl (Or.inl rfl)) (pgs_cons (pg_name (i := 3) scAdd.nd rfl (Or.inl rfl)) pgs_nil))))) (fun _ _ _ _ _ => pts_nil) (fun _ _ _ _ _ => (pe_call GPlus hr (by rfl) gPlus kpPlus bPlus .nil pass0 (pa_cons (pv 2) (pa_cons (pv 3) pa_nil))))) pa_nil)) pa_nil))))), ?_⟩
    refine ⟨.ref a, rfl, a, _, 0, _, rfl, rfl, hA, atI_nat (j := 0) rfl, .ref b, rfl, b, _, 0, _, rfl, rfl, hB, atI_nat (j := 0) rfl, p, p2, x, y, rfl, hp, hp2, bx.up (by decide), bY.up (by decide), fun H1 t1 s1 f1 => ?_⟩
    refine ⟨.ref a, rfl, a, _, 1, _, rfl, rfl, same_tup s1 hA, atI_nat (j := 1) rfl, .ref b, rfl, b, _, 1, _, rfl, rfl, same_tup s1 hB, atI_nat (j := 1) rfl, true, true, q, q2, fr us, fr vs, rfl, same_tup s1 hq, same_tup s1 hq2, fun D hD => ?_⟩
    rw [List.length_map, List.length_map] at hlen
    rw [List.length_map] at h20
    refine lc_row (K := K) (walk_zipB (f := true) (g := true) (xs := fr us) (ys := fr vs) rfl) (List.zipWith (· + ·) (us.map (·.2)) (vs.map (·.2))) (by simp [fr_len]) (by simp [fr_len]; omega) hD (fun H2 s2 => ⟨same_tup (s1.trans s2) hq, same_tup (s1.trans s2) hq2⟩) ?_ ?_
    · rintro i r v H2 H3 kk hr s2 ⟨T, u, u2, rfl, hT, rfl, g1, g2⟩ kk2
      obtain ⟨w, rfl, hw⟩ := fr_get g1
      obtain ⟨w2, rfl, hw2⟩ := fr_get g2
      rw [List.getElem?_zipWith, List.getElem?_map, List.getElem?_map, hw, hw2] at hr
      obtain rfl : w.2 + w2.2 = r := Option.some.inj hr
      have m1 : w ∈ us := List.mem_of_getElem? hw
      have m2 : w2 ∈ vs := List.mem_of_getElem? hw2
      have sT := same_upd (o := .tup [.ref w.1, .ref w2.1]) hT
      refine ⟨_, _, rfl, SqT.of upd_same, rfl, _, _, rfl, _, _, rfl, rfl, rfl, ?_⟩
      exact ⟨_, rfl, _, rfl, w.1, w2.1, w.2, w2.2, rfl, (hus w m1).same (s1.trans (s2.trans sT)), (hvs w2 m2).same (s1.trans (s2.trans sT)), (bxs _ (List.mem_map_of_mem m1)).up (by decide), (bys _ (List.mem_map_of_mem m2)).up (by decide), fun H4 t4 s4 f4 => kk2 t4 H4 (sT.trans s4) f4⟩
    · intro H2 ws s2 e2 r2 m2
      refine ⟨D, _, rfl, .inl ⟨SqL.of e2, fun t3 n3 => ?_⟩⟩
      have s3 := same_upd (o := .tup (fr ws)) n3
      refine ⟨by show 2 ≤ sizeLine; decide, fun t4 n4 => ?_⟩
      have s4 := same_upd (o := .tup [.ref t1, .ref t3]) n4
      exact k _ t4 (s1.trans (s2.trans (s3.trans s4))) ⟨t1, t3, ws, SqT.of upd_same, f1.same (s2.trans (s3.trans s4)), SqT.of (s4 _ _ upd_same), r2.same (s3.trans s4), m2⟩
def spScale (K : PySem.W.Frag) : Sp := fun vs H Q _ => ∃ (f a : Addr) (r x : Rat) (xs : List Rat), vs = [.ref f, .ref a] ∧ Fx K H f r ∧ Vx K H a x xs ∧ xs.length ≤ 20 ∧ Bd 60 r ∧ Bd 60 x ∧ (∀ r ∈ xs, Bd 60 r) ∧ ∀ (H' : Hp) (t : Addr), Same H H' → Vx K H' t (r * x) (xs.map fun y => r * y) → Q (.ref t) H'
theorem okScale {fScale : Addr} {fdScale : FuncData} (F : Fun K "scale" "scale" sScale fScale fdScale) (T : Txt mg) {aDIGITS : Tok} {aLETTERS : Tok} {aWORD_CHARACTERS : Tok} {aNAME_LENGTH : Tok} {aZERO : Addr} {aONE : Addr} {aMOST_DIGITS : Tok} {aSHORT : Tok} (CT : Cons K mg aDIGITS aLETTERS aWORD_CHARACTERS aNAME_LENGTH aZERO aONE aMOST_DIGITS aSHORT) {CPartError CTextFault CNought : Addr} (EX : Exns K mg CPartError CTextFault CNought) {fIni : Addr} {fdIni : FuncData} (FL : Flt K mg CPartError CTextFault CNought fIni) (GIni : FnOk P w K mg base CX0 1 fIni fdIni ["self", "line", "column"] (spFIni K CTextFault)) (bIni : Binds K fdIni ["self", "line", "column"] [])
    {fTimes : Addr} {fdTimes : FuncData} (GTimes : FnOk P w K mg base CX0 2 fTimes fdTimes ["a", "b"] (spTimes K)) (gTimes : mg "times" = some (.ref fTimes)) (kpTimes : PySem.W.keepIn K (.ref fTimes) = true) (bTimes : Binds K fdTimes ["a", "b"] []) :
    FnOk P w K mg base CX0 3 fScale fdScale ["factor", "a"] (spScale K) := by
  refine F.ok scScale (fun vs H Q E h => ?_) (fun cdv A outer s H vs Q E hr h => ?_)
  · obtain ⟨f, a, r, x, xs, rfl, hF, ⟨p, q, us, hA, hp, hq, hus, rfl⟩, h20, br, bx, bxs, k⟩ := h
    rfl
  · obtain ⟨f, a, r, x, xs, rfl, hF, ⟨p, q, us, hA, hp, hq, hus, rfl⟩, h20, br, bx, bxs, k⟩ := h
    refine ⟨_, (pss_one (ps_ret (pe_tup (pa_cons (pe_call GTimes hr (by rfl) gTimes kpTimes bTimes .nil pass0 (pa_cons (pv 0) (pa_cons (pe_ix ix_tup (pv 1) pe_int (fun _ _ => rfl)) pa_nil))) (pa_cons (pe_callTy call_tuple_of (by rfl) T.tuple (by decide +kernel) (pa_cons (pe_lc (own := [("x", 2)]) (by rfl) scScale.nd (pi_tup (pe_ix ix_tup (pv 1) pe_int (fun _ _ => rfl))) (blkOk_by (own := [("x", 2)]) (N := ["factor", "a", "x"]) (sc := defScope sScale) (by decide +kernel)) (fun _ _ _ _ _ => (pg_name (i := 2) scScale.nd rfl (Or.inl rfl))) (fun _ _ _ _ _ => pts_nil) (fun _ _ _ _ _ => (pe_call GTimes hr (by rfl) gTimes kpTimes bTimes .nil pass0 (pa_cons (pv 0) (pa_cons (pv 2) pa_nil))))) pa_nil)) pa_nil))))), ?_⟩
    refine ⟨_, rfl, .ref a, rfl, a, _, 0, _, rfl, rfl, hA, atI_nat (j := 0) rfl, f, p, r, x, rfl, hF, hp, br.up (by decide), bx.up (by decide), fun H1 t1 s1 f1 => ?_⟩
    refine ⟨.ref a, rfl, a, _, 1, _, rfl, rfl, same_tup s1 hA, atI_nat (j := 1) rfl, q, rfl, ⟨_, same_tup s1 hq⟩, fun D hD => ?_⟩
    rw [List.length_map] at h20
    refine lc_row (K := K) (walk_tup (xs := fr us)) ((us.map (·.2)).map fun y => r * y) (by simp [fr_len]) (by rw [fr_len]; omega) hD (fun H2 s2 => same_tup (s1.trans s2) hq) ?_ ?_
    · rintro i c v H2 H3 kk hr s2 ⟨rfl, g1⟩ kk2
      obtain ⟨w, rfl, hw⟩ := fr_get g1
      rw [List.getElem?_map, List.getElem?_map, hw] at hr
      obtain rfl : r * w.2 = c := Option.some.inj hr
      have m1 : w ∈ us := List.mem_of_getElem? hw
      exact ⟨rfl, _, rfl, _, rfl, f, w.1, r, w.2, rfl, hF.same (s1.trans s2), (hus w m1).same (s1.trans s2), br.up (by decide), (bxs _ (List.mem_map_of_mem m1)).up (by decide), fun H4 t4 s4 f4 => kk2 t4 H4 s4 f4⟩
    · intro H2 ws s2 e2 r2 m2
      refine ⟨D, _, rfl, .inl ⟨SqL.of e2, fun t3 n3 => ?_⟩⟩
      have s3 := same_upd (o := .tup (fr ws)) n3
      refine ⟨by show 2 ≤ sizeLine; decide, fun t4 n4 => ?_⟩
      have s4 := same_upd (o := .tup [.ref t1, .ref t3]) n4
      exact k _ t4 (s1.trans (s2.trans (s3.trans s4))) ⟨t1, t3, ws, SqT.of upd_same, f1.same (s2.trans (s3.trans s4)), SqT.of (s4 _ _ upd_same), r2.same (s3.trans s4), m2⟩
def spOpposite (K : PySem.W.Frag) : Sp := fun vs H Q _ => ∃ (a : Addr) (x : Rat) (xs : List Rat), vs = [.ref a] ∧ Vx K H a x xs ∧ xs.length ≤ 20 ∧ ∀ (H' : Hp) (t : Addr), Same H H' → Vx K H' t (-x) (xs.map fun y => -y) → Q (.ref t) H'
theorem okOpposite {fOpposite : Addr} {fdOpposite : FuncData} (F : Fun K "opposite" "opposite" sOpposite fOpposite fdOpposite) (T : Txt mg) {aDIGITS : Tok} {aLETTERS : Tok} {aWORD_CHARACTERS : Tok} {aNAME_LENGTH : Tok} {aZERO : Addr} {aONE : Addr} {aMOST_DIGITS : Tok} {aSHORT : Tok} (CT : Cons K mg aDIGITS aLETTERS aWORD_CHARACTERS aNAME_LENGTH aZERO aONE aMOST_DIGITS aSHORT) {CPartError CTextFault CNought : Addr} (EX : Exns K mg CPartError CTextFault CNought) {fIni : Addr} {fdIni : FuncData} (FL : Flt K mg CPartError CTextFault CNought fIni) (GIni : FnOk P w K mg base CX0 1 fIni fdIni ["self", "line", "column"] (spFIni K CTextFault)) (bIni : Binds K fdIni ["self", "line", "column"] [])
    {fNegative : Addr} {fdNegative : FuncData} (GNegative : FnOk P w K mg base CX0 1 fNegative fdNegative ["a"] (spNegative K)) (gNegative : mg "negative" = some (.ref fNegative)) (kpNegative : PySem.W.keepIn K (.ref fNegative) = true) (bNegative : Binds K fdNegative ["a"] []) :
    FnOk P w K mg base CX0 2 fOpposite fdOpposite ["a"] (spOpposite K) := by
  refine F.ok scOpposite (fun vs H Q E h => ?_) (fun cdv A outer s H vs Q E hr h => ?_)
  · obtain ⟨a, x, xs, rfl, ⟨p, q, us, hA, hp, hq, hus, rfl⟩, h20, k⟩ := h
    rfl
  · obtain ⟨a, x, xs, rfl, ⟨p, q, us, hA, hp, hq, hus, rfl⟩, h20, k⟩ := h
    refine ⟨_, (pss_one (ps_ret (pe_tup (pa_cons (pe_call GNegative hr (by rfl) gNegative kpNegative bNegative .nil pass0 (pa_cons (pe_ix ix_tup (pv 0) pe_int (fun _ _ => rfl)) pa_nil)) (pa_cons (pe_callTy call_tuple_of (by rfl) T.tuple (by decide +kernel) (pa_cons (pe_lc (own := [("x", 1)]) (by rfl) scOpposite.nd (pi_tup (pe_ix ix_tup (pv 0) pe_int (fun _ _ => rfl))) (blkOk_by (own := [("x", 1)]) (N := ["a", "x"]) (sc := defScope sOpposite) (by decide +kernel)) (fun _ _ _ _ _ => (pg_name (i := 1) scOpposite.nd rfl (Or.inl rfl))) (fun _ _ _ _ _ => pts_nil) (fun _ _ _ _ _ => (pe_call GNegative hr (by rfl) gNegative kpNegative bNegative .nil pass0 (pa_cons (pv 1) pa_nil)))) pa_nil)) pa_nil))))), ?_⟩
    refine ⟨.ref a, rfl, a, _, 0, _, rfl, rfl, hA, atI_nat (j := 0) rfl, p, x, rfl, hp, fun H1 t1 s1 f1 => ?_⟩
    refine ⟨.ref a, rfl, a, _, 1, _, rfl, rfl, same_tup s1 hA, atI_nat (j := 1) rfl, q, rfl, ⟨_, same_tup s1 hq⟩, fun D hD => ?_⟩
    rw [List.length_map] at h20
    refine lc_row (K := K) (walk_tup (xs := fr us)) ((us.map (·.2)).map fun y => -y) (by simp [fr_len]) (by rw [fr_len]; omega) hD (fun H2 s2 => same_tup (s1.trans s2) hq) ?_ ?_
    · rintro i c v H2 H3 kk hr s2 ⟨rfl, g1⟩ kk2
      obtain ⟨w, rfl, hw⟩ := fr_get g1
      rw [List.getElem?_map, List.getElem?_map, hw] at hr
      obtain rfl : -w.2 = c := Option.some.inj hr
      have m1 : w ∈ us := List.mem_of_getElem? hw
      exact ⟨rfl, _, rfl, w.1, w.2, rfl, (hus w m1).same (s1.trans s2), fun H4 t4 s4 f4 => kk2 t4 H4 s4 f4⟩
    · intro H2 ws s2 e2 r2 m2
      refine ⟨D, _, rfl, .inl ⟨SqL.of e2, fun t3 n3 => ?_⟩⟩
      have s3 := same_upd (o := .tup (fr ws)) n3
      refine ⟨by show 2 ≤ sizeLine; decide, fun t4 n4 => ?_⟩
      have s4 := same_upd (o := .tup [.ref t1, .ref t3]) n4
      exact k _ t4 (s1.trans (s2.trans (s3.trans s4))) ⟨t1, t3, ws, SqT.of upd_same, f1.same (s2.trans (s3.trans s4)), SqT.of (s4 _ _ upd_same), r2.same (s3.trans s4), m2⟩
def LTl : List Nat := [97, 98, 99, 100, 101, 102, 103, 104, 105, 106, 107, 108, 109, 110, 111, 112, 113, 114, 115, 116, 117, 118, 119, 120, 121, 122, 65, 66, 67, 68, 69, 70, 71, 72, 73, 74, 75, 76, 77, 78, 79, 80, 81, 82, 83, 84, 85, 86, 87, 88, 89, 90]
theorem LTl_S : ("abcdefghijklmnopqrstuvwxyzABCDEFGHIJKLMNOPQRSTUVWXYZ" : Str) = S LTl := by decide +kernel
def spIsParameterName (K : PySem.W.Frag) : Sp := fun vs H Q _ => ∃ a : List Nat, vs = [.str (S a)] ∧ a.length ≤ 3000 ∧ Q (.bl (shortW LTl WCl a)) H
theorem okIsParameterName {fIsParameterName : Addr} {fdIsParameterName : FuncData} (F : Fun K "is_parameter_name" "is_parameter_name" sIsParameterName fIsParameterName fdIsParameterName) (T : Txt mg) {aDIGITS : Tok} {aLETTERS : Tok} {aWORD_CHARACTERS : Tok} {aNAME_LENGTH : Tok} {aZERO : Addr} {aONE : Addr} {aMOST_DIGITS : Tok} {aSHORT : Tok} (CT : Cons K mg aDIGITS aLETTERS aWORD_CHARACTERS aNAME_LENGTH aZERO aONE aMOST_DIGITS aSHORT) {CPartError CTextFault CNought : Addr} (EX : Exns K mg CPartError CTextFault CNought) {fIni : Addr} {fdIni : FuncData} (FL : Flt K mg CPartError CTextFault CNought fIni) (GIni : FnOk P w K mg base CX0 1 fIni fdIni ["self", "line", "column"] (spFIni K CTextFault)) (bIni : Binds K fdIni ["self", "line", "column"] [])
    {fIsShortWord : Addr} {fdIsShortWord : FuncData} (GIsShortWord : FnOk P w K mg base CX0 3 fIsShortWord fdIsShortWord ["text", "first", "others"] (spIsShortWord K)) (gIsShortWord : mg "is_short_word" = some (.ref fIsShortWord)) (kpIsShortWord : PySem.W.keepIn K (.ref fIsShortWord) = true) (bIsShortWord : Binds K fdIsShortWord ["text", "first", "others"] []) :
    FnOk P w K mg base CX0 4 fIsParameterName fdIsParameterName ["text"] (spIsParameterName K) := by
  refine F.ok scIsParameterName (fun vs H Q E h => ?_) (fun cdv A outer s H vs Q E hr h => ?_)
  · obtain ⟨a, rfl, hl, k⟩ := h
    rfl
  · obtain ⟨a, rfl, hl, k⟩ := h
    refine ⟨_, (pss_one (ps_ret (pe_call GIsShortWord hr (by rfl) gIsShortWord kpIsShortWord bIsShortWord .nil pass0 (pa_cons (pv 0) (pa_cons (pe_glob (v := .str "abcdefghijklmnopqrstuvwxyzABCDEFGHIJKLMNOPQRSTUVWXYZ") (by rfl) CT.gLETTERS ⟨_, rfl⟩) (pa_cons (pe_glob (v := .str "abcdefghijklmnopqrstuvwxyzABCDEFGHIJKLMNOPQRSTUVWXYZ0123456789_") (by rfl) CT.gWORD_CHARACTERS ⟨_, rfl⟩) pa_nil)))))), ?_⟩
    refine ⟨_, rfl, a, LTl, WCl, ?_, hl, k⟩
    rw [← LTl_S, ← WCl_S]
    rfl
def spIsShort (K : PySem.W.Frag) : Sp := fun vs H Q _ => ∃ (t : Addr) (x : Rat) (xs : List Rat), vs = [.ref t] ∧ Vx K H t x xs ∧ xs.length ≤ 9 ∧ Bd 800 x ∧ (∀ r ∈ xs, Bd 800 r) ∧ ∀ H', Same H H' → Q (.bl (shortV (x :: xs))) H'
theorem okIsShort {fIsShort : Addr} {fdIsShort : FuncData} (F : Fun K "is_short" "is_short" sIsShort fIsShort fdIsShort) (T : Txt mg) {aDIGITS : Tok} {aLETTERS : Tok} {aWORD_CHARACTERS : Tok} {aNAME_LENGTH : Tok} {aZERO : Addr} {aONE : Addr} {aMOST_DIGITS : Tok} {aSHORT : Tok} (CT : Cons K mg aDIGITS aLETTERS aWORD_CHARACTERS aNAME_LENGTH aZERO aONE aMOST_DIGITS aSHORT) {CPartError CTextFault CNought : Addr} (EX : Exns K mg CPartError CTextFault CNought) {fIni : Addr} {fdIni : FuncData} (FL : Flt K mg CPartError CTextFault CNought fIni) (GIni : FnOk P w K mg base CX0 1 fIni fdIni ["self", "line", "column"] (spFIni K CTextFault)) (bIni : Binds K fdIni ["self", "line", "column"] [])
    {fCommon : Addr} {fdCommon : FuncData} (GCommon : FnOk P w K mg base CX0 1 fCommon fdCommon ["a", "b"] (spCommon K)) (gCommon : mg "common" = some (.ref fCommon)) (kpCommon : PySem.W.keepIn K (.ref fCommon) = true) (bCommon : Binds K fdCommon ["a", "b"] []) :
    FnOk P w K mg base CX0 2 fIsShort fdIsShort ["found"] (spIsShort K) := by
  refine F.ok scIsShort (fun vs H Q E h => ?_) (fun cdv A outer s H vs Q E hr h => ?_)
  · obtain ⟨t, x, xs, rfl, ⟨p, q, ws, hT, hp, hq, hws, rfl⟩, h9, bx, bxs, k⟩ := h
    rfl
  · obtain ⟨t, x, xs, rfl, ⟨p, q, ws, hT, hp, hq, hws, rfl⟩, h9, bx, bxs, k⟩ := h
    refine ⟨_, (pss_cons (ps_asg (pv 0) (pg_tup rfl (pgs_cons (pg_name (i := 1) scIsShort.nd rfl (Or.inl rfl)) (pgs_cons (pg_name (i := 2) scIsShort.nd rfl (Or.inl rfl)) pgs_nil))))
      (pss_cons (ps_set (i := 3) scIsShort.nd rfl (Or.inr rfl) pe_int)
      (C8.pss_cut (ps_for PassesOwn.never rfl (pi_tup (pe_tup (pa_cons (pv 1) (StX.pa_star (pv 2) pa_nil)))) (pg_name (i := 4) scIsShort.nd rfl (Or.inl rfl))
        (pss_one (ps_set (i := 3) scIsShort.nd rfl (Or.inr rfl) (pe_op op_mulW (pe_op op_fdivX (pv 3) (pe_call GCommon hr (by rfl) gCommon kpCommon bCommon .nil pass0 (pa_cons (pv 3) (pa_cons (pe_ix ix_tup (pv 4) pe_int (fun _ _ => rfl)) pa_nil)))) (pe_ix ix_tup (pv 4) pe_int (fun _ _ => rfl))))))
      (pss_cons (ps_setLc (i := 5) (own := [("part", 4)]) (by rfl) scIsShort.nd rfl rfl (sw_true rfl rfl rfl (by decide +kernel)) (pi_tup (pe_tup (pa_cons (pv 1) (StX.pa_star (pv 2) pa_nil)))) (blkOk_by (own := [("part", 4)]) (N := ["found", "base", "slopes", "divisor", "part", "numbers"]) (sc := defScope sIsShort) (by decide +kernel)) (fun _ _ _ _ _ => (pg_name (i := 4) scIsShort.nd rfl (Or.inl rfl))) (fun _ _ _ _ _ => pts_nil) (fun _ _ _ _ _ => (pe_op op_mulW (pe_callB call_abs (by rfl) T.abs (by decide +kernel) (pa_cons (pe_ix (show IxR _ (rIxT K) from ix_tup) (pv 4) pe_int (fun _ _ => rfl)) pa_nil)) (pe_op op_fdivX (pv 3) (pe_ix (show IxR _ (rIxT K) from ix_tup) (pv 4) pe_int (fun _ _ => rfl))))))
      (pss_one (ps_ret (pe_and (pe_cmpR op_lt (pv 3) (pe_glob (v := .int 1000000000000) (by rfl) CT.gSHORT ⟨_, rfl⟩) (nomark _)) (pe_one (pe_cmpR op_lt (pe_callB (cr_max rfl) (by rfl) T.max (by decide +kernel) (pa_cons (pv 5) pa_nil)) (pe_glob (v := .int 1000000000000) (by rfl) CT.gSHORT ⟨_, rfl⟩) (nomark _)))))))))), ?_⟩
    obtain ⟨al, hal⟩ : ∃ al : List (Addr × Rat), al = (p, x) :: ws := ⟨_, rfl⟩
    have rA : Rx K H al := fun w hw => by
      rw [hal] at hw
      rcases List.mem_cons.mp hw with rfl | h
      · exact hp
      · exact hws w h
    have bA : ∀ r ∈ al.map (·.2), Bd 800 r := fun r hr => by
      rw [hal] at hr
      rcases List.mem_cons.mp hr with rfl | h
      · exact bx
      · exact bxs r h
    have nA : al.length ≤ 10 := by
      rw [hal]
      rw [List.length_map] at h9
      exact Nat.succ_le_succ h9
    have n0 : 0 < al.length := by
      rw [hal]
      exact Nat.succ_pos _
    have kA : x :: ws.map (·.2) = al.map (·.2) := by rw [hal]; rfl
    have fA : V.ref p :: fr ws = fr al := by rw [hal]; rfl
    rw [kA] at k
    clear kA hal bx bxs hws hp h9
    have ld := fun i => lcml_bd bA i
    refine ⟨_, rfl, t, _, rfl, hT, rfl, _, _, rfl, _, _, rfl, rfl, ?_⟩
    refine ⟨fun σ' H' => ∃ v4 : Option V, σ' = [some (.ref t), some (.ref p), some (.ref q), some (.int (lcml (al.map (·.2)) : Nat)), v4, none] ∧ Same H H', ?_, ?_⟩
    · refine ⟨_, rfl, _, rfl, q, _, rfl, .inl hq, ?_⟩
      have hz0 : (fr ws).length ≤ 10 := by
        have := congrArg List.length fA
        rw [List.length_cons, fr_len, fr_len] at this
        rw [fr_len]
        omega
      refine ⟨Nat.le_of_lt (small1000 (by show ((fr ws) ++ []).length + 1 ≤ 1000; rw [List.append_nil]; omega)), fun t1 n1 => ?_⟩
      generalize hU : upd H t1 _ = H2
      have s2 := same_hu hU n1
      have e2 : H2 t1 = some (.tup (V.ref p :: (fr ws ++ []))) := at_hu hU
      rw [List.append_nil, fA] at e2
      have h2 : SqT K H2 t1 (fr al) := SqT.of e2
      clear hU
      refine ⟨t1, rfl, ⟨_, h2⟩, for_tup (K := K) (a := t1) (xs := fr al) (fun i σ' H' => ∃ v4 : Option V, σ' = [some (.ref t), some (.ref p), some (.ref q), some (.int (lcml ((al.map (·.2)).take i) : Nat)), v4, none] ∧ Same H2 H') ⟨none, rfl, Same.refl _⟩ ?_ ?_ ?_⟩
      · rintro i σ' H' _ ⟨v4, rfl, s3⟩
        exact same_tup s3 h2
      · rintro i v σ' H' hi ⟨v4, rfl, s3⟩
        obtain ⟨w, rfl, hw⟩ := fr_get hi
        have hil : i < al.length := (List.getElem?_eq_some_iff.mp hw).1
        have hm : w ∈ al := List.mem_of_getElem? hw
        have fw : Fx K H' w.1 w.2 := (rA w hm).same (s2.trans s3)
        have bw := bA w.2 (List.mem_map_of_mem hm)
        have hr : (al.map (·.2))[i]? = some w.2 := by
          rw [List.getElem?_map, hw]
          rfl
        obtain ⟨l1, l2⟩ := ld i
        have hd0 : 0 < w.2.den := Nat.pos_of_ne_zero w.2.den_nz
        have hg0 : 0 < Nat.gcd (lcml ((al.map (·.2)).take i)) w.2.den := Nat.gcd_pos_of_pos_left _ l2
        have hg1 : Nat.gcd (lcml ((al.map (·.2)).take i)) w.2.den ≤ w.2.den := Nat.le_of_dvd hd0 (Nat.gcd_dvd_right _ _)
        have l3 : lcml ((al.map (·.2)).take i) < 2 ^ 8001 := Nat.lt_of_lt_of_le l1 (Nat.pow_le_pow_right (by decide) (by omega))
        have step := lcm_stepF (d := lcml ((al.map (·.2)).take i)) (m := w.2.den)
        rw [← lcml_take hr] at step
        have m1 : ((lcml ((al.map (·.2)).take i) : Nat) : Int).natAbs < 2 ^ 8001 := l3
        have m2 : (((lcml ((al.map (·.2)).take i) : Nat) : Int).fdiv ((Nat.gcd (lcml ((al.map (·.2)).take i)) w.2.den : Nat) : Int)).natAbs < 2 ^ 8001 := Nat.lt_of_le_of_lt fdiv_le l3
        refine ⟨_, rfl, _, rfl, _, rfl, w.1, _, 1, _, rfl, rfl, fw, atI_nat (j := 1) rfl, _, _, rfl, ?_⟩
        refine ⟨_, _, rfl, rfl, wide_divx (b := 800) (by show ((Nat.gcd (lcml ((al.map (·.2)).take i)) w.2.den : Nat) : Int) ≠ 0; omega) (Nat.lt_of_le_of_lt hg1 bw.2) (by decide) (by decide), ?_⟩
        refine ⟨_, rfl, w.1, _, 1, _, rfl, rfl, fw, atI_nat (j := 1) rfl, _, _, rfl, rfl, wide_mul m2 bw.den (by decide) (by decide) (by decide), ?_⟩
        refine ⟨some (.ref w.1), ?_, s3⟩
        rw [← step]
        rfl
      · rintro σ' H' ⟨v4, rfl, s3⟩
        rw [fr_len, ← List.length_map (f := fun w : Addr × Rat => w.2), List.take_length]
        exact ⟨v4, rfl, s2.trans s3⟩
    rintro σ' H1 ⟨v4, rfl, s1⟩
    have hz0 : (fr ws).length ≤ 10 := by
      have := congrArg List.length fA
      rw [List.length_cons, fr_len, fr_len] at this
      rw [fr_len]
      omega
    have hq1 := same_tup s1 hq
    obtain ⟨l1, l2⟩ := ld al.length
    have ek : (al.map (·.2)).take al.length = al.map (·.2) := by
      rw [← List.length_map (f := fun w : Addr × Rat => w.2), List.take_length]
    rw [ek] at l1 l2
    have l3 : lcml (al.map (·.2)) < 2 ^ 8001 := Nat.lt_of_lt_of_le l1 (Nat.pow_le_pow_right (by decide) (by omega))
    refine ⟨_, rfl, _, rfl, q, _, rfl, .inl hq1, ?_⟩
    refine ⟨Nat.le_of_lt (small1000 (by show ((fr ws) ++ []).length + 1 ≤ 1000; rw [List.append_nil]; omega)), fun t1 n1 => ?_⟩
    generalize hU : upd H1 t1 _ = H2
    have s2 := same_hu hU n1
    have e2 : H2 t1 = some (.tup (V.ref p :: (fr ws ++ []))) := at_hu hU
    rw [List.append_nil, fA] at e2
    have h2 : SqT K H2 t1 (fr al) := SqT.of e2
    clear hU
    refine ⟨t1, rfl, ⟨_, h2⟩, fun D nD => ?_⟩
    refine lc_val (walk_tup (K := K) (a := t1) (xs := fr al)) (((al.map (·.2)).map (ovr (lcml (al.map (·.2))))).map V.int) (by simp [fr_len]) (by rw [fr_len]; omega) nD (fun H3 s3 => same_tup s3 h2) ?_ ?_
    · rintro i c v H3 H4 kk hc s3 ⟨rfl, hg⟩ yk
      obtain ⟨w, rfl, hw⟩ := fr_get hg
      rw [List.getElem?_map, List.getElem?_map, List.getElem?_map, hw] at hc
      obtain rfl := Option.some.inj hc
      have hm : w ∈ al := List.mem_of_getElem? hw
      have fw : Fx K H4 w.1 w.2 := (rA w hm).same (s1.trans (s2.trans s3))
      have bw := bA w.2 (List.mem_map_of_mem hm)
      have b1 : (if w.2.num < 0 then -w.2.num else w.2.num).natAbs < 2 ^ 800 := by
        have := bw.1
        split
        · rw [Int.natAbs_neg]
          exact this
        · exact this
      have b2 : (((lcml (al.map (·.2)) : Nat) : Int).fdiv ((w.2.den : Nat) : Int)).natAbs < 2 ^ 8001 := Nat.lt_of_le_of_lt fdiv_le l3
      refine ⟨rfl, _, rfl, w.1, _, 0, _, rfl, rfl, fw, atI_nat (j := 0) rfl, _, rfl, _, rfl, _, rfl, w.1, _, 1, _, rfl, rfl, fw, atI_nat (j := 1) rfl, _, _, rfl, rfl, wide_divx (b := 800) (den_ne _) bw.den (by decide) (by decide), _, _, rfl, rfl, wide_mul b1 b2 (by decide) (by decide) (by decide), yk _ (Same.refl _)⟩
    intro H3 s3 e3
    have s13 := s1.trans (s2.trans s3)
    have hk := k H3 s13
    unfold shortV at hk
    refine ⟨_, rfl, _, _, rfl, rfl, _, rfl, ?_⟩
    rw [lt_same] at hk
    clear l1 l2 l3 ld
    generalize decide ((lcml (al.map (·.2)) : Int) < 1000000000000) = b at hk ⊢
    cases b with
    | true =>
      refine iteT' rfl ?_
      rw [Bool.true_and] at hk
      refine ⟨_, rfl, D, _, rfl, SqL.of e3, by rw [List.length_map, List.length_map]; exact n0, fun m hm hle => ?_⟩
      refine ⟨_, _, rfl, rfl, ?_⟩
      exact Eq.mp (congrArg (fun b => Q (.bl b) H3) (short_max hm hle).symm) hk
    | false =>
      refine iteF' rfl ?_
      exact hk
def spAfterBlanks (K : PySem.W.Frag) : Sp := fun vs H Q _ => ∃ (a : List Nat) (i : Nat), vs = [.str (S a), .int i] ∧ a.length ≤ 600 ∧ i ≤ a.length ∧ Q (.int (skb a i : Nat)) H
theorem okAfterBlanks {fAfterBlanks : Addr} {fdAfterBlanks : FuncData} (F : Fun K "after_blanks" "after_blanks" sAfterBlanks fAfterBlanks fdAfterBlanks) (T : Txt mg) {aDIGITS : Tok} {aLETTERS : Tok} {aWORD_CHARACTERS : Tok} {aNAME_LENGTH : Tok} {aZERO : Addr} {aONE : Addr} {aMOST_DIGITS : Tok} {aSHORT : Tok} (CT : Cons K mg aDIGITS aLETTERS aWORD_CHARACTERS aNAME_LENGTH aZERO aONE aMOST_DIGITS aSHORT) {CPartError CTextFault CNought : Addr} (EX : Exns K mg CPartError CTextFault CNought) {fIni : Addr} {fdIni : FuncData} (FL : Flt K mg CPartError CTextFault CNought fIni) (GIni : FnOk P w K mg base CX0 1 fIni fdIni ["self", "line", "column"] (spFIni K CTextFault)) (bIni : Binds K fdIni ["self", "line", "column"] [])
    {fRowEnd : Addr} {fdRowEnd : FuncData} (GRowEnd : FnOk P w K mg base CX0 1 fRowEnd fdRowEnd ["text", "at", "allowed"] (spRowEnd K)) (gRowEnd : mg "row_end" = some (.ref fRowEnd)) (kpRowEnd : PySem.W.keepIn K (.ref fRowEnd) = true) (bRowEnd : Binds K fdRowEnd ["text", "at", "allowed"] []) :
    FnOk P w K mg base CX0 2 fAfterBlanks fdAfterBlanks ["text", "at"] (spAfterBlanks K) := by
  refine F.ok scAfterBlanks (fun vs H Q E h => ?_) (fun cdv A outer s H vs Q E hr h => ?_)
  · obtain ⟨a, i, rfl, hl, hi, k⟩ := h
    rfl
  · obtain ⟨a, i, rfl, hl, hi, k⟩ := h
    refine ⟨_, (pss_one (ps_ret (pe_call GRowEnd hr (by rfl) gRowEnd kpRowEnd bRowEnd .nil pass0 (pa_cons (pv 0) (pa_cons (pv 1) (pa_cons pe_str pa_nil)))))), ?_⟩
    rw [show (Str.ofString " ") = S [32] from lit_blank]
    exact ⟨_, rfl, _, rfl, a, [32], i, rfl, by omega, hi, k⟩
def spIsAt (K : PySem.W.Frag) : Sp := fun vs H Q _ => ∃ (a : List Nat) (i : Nat) (b : List Nat), vs = [.str (S a), .int i, .str (S b)] ∧ a.length ≤ 600 ∧ i ≤ a.length ∧ Q (.bl (isAt a i b)) H
theorem okIsAt {fIsAt : Addr} {fdIsAt : FuncData} (F : Fun K "is_at" "is_at" sIsAt fIsAt fdIsAt) (T : Txt mg) {aDIGITS : Tok} {aLETTERS : Tok} {aWORD_CHARACTERS : Tok} {aNAME_LENGTH : Tok} {aZERO : Addr} {aONE : Addr} {aMOST_DIGITS : Tok} {aSHORT : Tok} (CT : Cons K mg aDIGITS aLETTERS aWORD_CHARACTERS aNAME_LENGTH aZERO aONE aMOST_DIGITS aSHORT) {CPartError CTextFault CNought : Addr} (EX : Exns K mg CPartError CTextFault CNought) {fIni : Addr} {fdIni : FuncData} (FL : Flt K mg CPartError CTextFault CNought fIni) (GIni : FnOk P w K mg base CX0 1 fIni fdIni ["self", "line", "column"] (spFIni K CTextFault)) (bIni : Binds K fdIni ["self", "line", "column"] []) :
    FnOk P w K mg base CX0 1 fIsAt fdIsAt ["text", "at", "signs"] (spIsAt K) := by
  refine F.ok scIsAt (fun vs H Q E h => ?_) (fun cdv A outer s H vs Q E hr h => ?_)
  · obtain ⟨a, i, b, rfl, hl, hi, k⟩ := h
    rfl
  · obtain ⟨a, i, b, rfl, hl, hi, k⟩ := h
    refine ⟨_, (pss_one (ps_ret (pe_and (pe_cmpR op_lt (pv 1) (pe_callB call_len_str (by rfl) T.len PySem.boot_len (pa_cons (pv 0) pa_nil)) (nomark _)) (pe_one (pe_cmpR op_in_sign (pe_ix ix_str (pv 0) (pv 1) (fun _ _ => rfl)) (pv 2) (by rfl)))))), ?_⟩
    have hz := S_sl (a := a) (by omega)
    unfold isAt at k
    walk_at "go"
    rw [lenS]
    rcases Nat.lt_or_ge i a.length with h | h
    · refine iteT' (decide_eq_true (by omega)) ?_
      have hc : a[i]? = some a[i] := List.getElem?_eq_getElem h
      rw [hc] at k
      exact ⟨_, rfl, _, rfl, S a, _, a[i], rfl, rfl, hz, atI_nat hc, _, rfl, a[i], S b, rfl, rfl, k⟩
    · refine iteF' (decide_eq_false (by omega)) ?_
      rw [List.getElem?_eq_none h] at k
      exact k
def spReadParameter (K : PySem.W.Frag) (CTextFault : Addr) : Sp := fun vs H Q E => ∃ (l : Addr) (nms : List (List Nat)) (a : List Nat) (i : Nat), vs = [.ref l, .str (S a), .int i] ∧ SqL K H l (nms.map sv) ∧ nms.length ≤ 9 ∧ a.length ≤ 600 ∧ i ≤ a.length ∧ (∀ c : Nat, rpar nms a i = .inl c → fE CTextFault E H 1 (c : Int)) ∧
  (∀ (k e : Nat), rpar nms a i = .inr (k, e) → ∀ (H' : Hp) (t q : Addr), Same H H' → Vx K H' q 0 (unit k nms.length) → H' t = some (.tup [.ref q, .int (e : Int)]) → Q (.ref t) H')
theorem okReadParameter {fReadParameter : Addr} {fdReadParameter : FuncData} (F : Fun K "read_parameter" "read_parameter" sReadParameter fReadParameter fdReadParameter) (T : Txt mg) {aDIGITS : Tok} {aLETTERS : Tok} {aWORD_CHARACTERS : Tok} {aNAME_LENGTH : Tok} {aZERO : Addr} {aONE : Addr} {aMOST_DIGITS : Tok} {aSHORT : Tok} (CT : Cons K mg aDIGITS aLETTERS aWORD_CHARACTERS aNAME_LENGTH aZERO aONE aMOST_DIGITS aSHORT) {CPartError CTextFault CNought : Addr} (EX : Exns K mg CPartError CTextFault CNought) {fIni : Addr} {fdIni : FuncData} (FL : Flt K mg CPartError CTextFault CNought fIni) (GIni : FnOk P w K mg base CX0 1 fIni fdIni ["self", "line", "column"] (spFIni K CTextFault)) (bIni : Binds K fdIni ["self", "line", "column"] [])
    {fRowEnd : Addr} {fdRowEnd : FuncData} (GRowEnd : FnOk P w K mg base CX0 1 fRowEnd fdRowEnd ["text", "at", "allowed"] (spRowEnd K)) (gRowEnd : mg "row_end" = some (.ref fRowEnd)) (kpRowEnd : PySem.W.keepIn K (.ref fRowEnd) = true) (bRowEnd : Binds K fdRowEnd ["text", "at", "allowed"] [])
    {fParameter : Addr} {fdParameter : FuncData} (GParameter : FnOk P w K mg base CX0 1 fParameter fdParameter ["at", "many"] (spParameter K)) (gParameter : mg "parameter" = some (.ref fParameter)) (kpParameter : PySem.W.keepIn K (.ref fParameter) = true) (bParameter : Binds K fdParameter ["at", "many"] []) :
    FnOk P w K mg base (L2.CX P w) 3 fReadParameter fdReadParameter ["names", "text", "at"] (spReadParameter K CTextFault) := by
  refine F.okX scReadParameter (fun vs H Q E h => ?_) (fun cdv A outer s H vs Q E hr h => ?_)
  · obtain ⟨l, nms, a, i, rfl, hN, hn, hl, hi, he, k⟩ := h
    rfl
  · obtain ⟨l, nms, a, i, rfl, hN, hn, hl, hi, he, k⟩ := h
    refine ⟨_, (pss_cons (ps_set (i := 3) scReadParameter.nd rfl (Or.inl rfl) (pe_call GRowEnd (hr.mono (by decide)) (by rfl) gRowEnd kpRowEnd bRowEnd .nil pass0 (pa_cons (pv 1) (pa_cons (pv 2) (pa_cons (pe_glob (v := .str "abcdefghijklmnopqrstuvwxyzABCDEFGHIJKLMNOPQRSTUVWXYZ0123456789_") (by rfl) CT.gWORD_CHARACTERS ⟨_, rfl⟩) pa_nil)))))
      (pss_cons (ps_set (i := 4) scReadParameter.nd rfl (Or.inl rfl) (pe_slice sl_str (pv 1) (po_some (pv 2)) (po_some (pv 3))))
      (pss_cons (ps_if (pt_cmpR op_notIn_seq (pv 4) (pv 0) (by rfl))
        (pss_one (ps_raise rfl (takes_of rfl rfl rfl rfl) (pmk_oex FL.ox FL.iC FL.tI GIni (hr.mono (by decide)) bIni .nil pass0 (by rfl) FL.g (pa_cons pe_int (pa_cons (pe_op op_add (pv 2) pe_int) pa_nil)))))
        pss_nil)
      (pss_one (ps_ret (pe_tup (pa_cons (pe_call GParameter (hr.mono (by decide)) (by rfl) gParameter kpParameter bParameter .nil pass0 (pa_cons (pe_bm PySem.F.plainAttrs_list PySem.F.slot_list_index PySem.F.type_list_index mt_index (pv 0) (pa_cons (pv 4) pa_nil)) (pa_cons (pe_callB call_len_seq (by rfl) T.len PySem.boot_len (pa_cons (pv 0) pa_nil)) pa_nil))) (pa_cons (pv 3) pa_nil)))))))), ?_⟩
    have hz := S_sl (a := a) (by omega)
    have hle := dg_le (b := WCl) hi
    refine ⟨_, rfl, _, rfl, a, WCl, i, congrArg (fun z => [V.str (S a), V.int (i : Int), V.str z]) WCl_S, by omega, hi, ?_⟩
    walk_at "go"
    rw [cut_S hle]
    have hw : ((a.drop i).take (dg WCl a i)) = word a i := rfl
    rw [hw]
    refine ⟨l, nms.map sv, rfl, .inl hN, rfl, sv_flat nms, ?_⟩
    rw [if_pos rfl, show inV (.str (S (word a i))) (nms.map sv) = decide (word a i ∈ nms) from inV_sv _ _]
    refine ⟨_, rfl, ite2 (fun g => ?_) (fun g => ?_)⟩
    · have g1 : ¬ word a i ∈ nms := by simpa using g
      exact ⟨_, rfl, _, _, rfl, rfl, fault_mk fun d H' s1 _ e1 => he (i + 1) (by unfold rpar; rw [if_neg g1]) d H' s1 e1⟩
    · have g1 : word a i ∈ nms := by simpa using g
      obtain ⟨x1, x2, x3⟩ := ix_at g1
      have x4 : (nms.map sv)[ix (word a i) nms]? = some (sv (word a i)) := by
        rw [List.getElem?_map, x2]
        rfl
      refine ⟨_, rfl, .inl ⟨rfl, _, hN⟩, _, rfl, l, nms.map sv, sv (word a i), ix (word a i) nms, sv (word a i), rfl, rfl, hN, rfl, sv_flat nms, x4, by rw [eqV_sv]; exact decide_eq_true rfl, fun m z hm hz2 => ?_, ?_⟩
      · rw [List.getElem?_map] at hz2
        cases e : nms[m]? with
        | none =>
          rw [e] at hz2
          cases hz2
        | some x =>
          rw [e] at hz2
          obtain rfl := Option.some.inj hz2
          rw [eqV_sv]
          exact decide_eq_false (x3 m x hm e)
      refine ⟨_, rfl, l, _, rfl, .inl hN, ?_⟩
      refine ⟨ix (word a i) nms, nms.length, by rw [List.length_map]; rfl, hn, fun H1 q s1 hq => ?_⟩
      refine ⟨_, rfl, by show 2 ≤ sizeLine; decide, fun t nt => ?_⟩
      have s2 := same_upd (o := .tup [.ref q, .int ((i + dg WCl a i : Nat) : Int)]) nt
      exact k _ _ (by unfold rpar; rw [if_pos g1]) _ t q (s1.trans s2) (hq.same s2) upd_same
def spReadTerm (K : PySem.W.Frag) (CTextFault : Addr) : Sp := fun vs H Q E => ∃ (l : Addr) (nms : List (List Nat)) (a : List Nat) (i : Nat), vs = [.ref l, .str (S a), .int i] ∧ SqL K H l (nms.map sv) ∧ nms.length ≤ 9 ∧ a.length ≤ 600 ∧ i ≤ a.length ∧ (∀ c : Nat, rterm nms a i = .inl c → fE CTextFault E H 1 (c : Int)) ∧
  (∀ (x : Rat) (xs : List Rat) (e : Nat), rterm nms a i = .inr ((x, xs), e) → ∀ (H' : Hp) (t q : Addr), Same H H' → Vx K H' q x xs → H' t = some (.tup [.ref q, .int (e : Int)]) → Q (.ref t) H')
theorem okReadTerm {fReadTerm : Addr} {fdReadTerm : FuncData} (F : Fun K "read_term" "read_term" sReadTerm fReadTerm fdReadTerm) (T : Txt mg) {aDIGITS : Tok} {aLETTERS : Tok} {aWORD_CHARACTERS : Tok} {aNAME_LENGTH : Tok} {aZERO : Addr} {aONE : Addr} {aMOST_DIGITS : Tok} {aSHORT : Tok} (CT : Cons K mg aDIGITS aLETTERS aWORD_CHARACTERS aNAME_LENGTH aZERO aONE aMOST_DIGITS aSHORT) {CPartError CTextFault CNought : Addr} (EX : Exns K mg CPartError CTextFault CNought) {fIni : Addr} {fdIni : FuncData} (FL : Flt K mg CPartError CTextFault CNought fIni) (GIni : FnOk P w K mg base CX0 1 fIni fdIni ["self", "line", "column"] (spFIni K CTextFault)) (bIni : Binds K fdIni ["self", "line", "column"] [])
    {fIsAt : Addr} {fdIsAt : FuncData} (GIsAt : FnOk P w K mg base CX0 1 fIsAt fdIsAt ["text", "at", "signs"] (spIsAt K)) (gIsAt : mg "is_at" = some (.ref fIsAt)) (kpIsAt : PySem.W.keepIn K (.ref fIsAt) = true) (bIsAt : Binds K fdIsAt ["text", "at", "signs"] [])
    {fReadRatio : Addr} {fdReadRatio : FuncData} (GReadRatio : FnOk P w K mg base (L2.CX P w) 4 fReadRatio fdReadRatio ["text", "at"] (spReadRatio K CTextFault)) (gReadRatio : mg "read_ratio" = some (.ref fReadRatio)) (kpReadRatio : PySem.W.keepIn K (.ref fReadRatio) = true) (bReadRatio : Binds K fdReadRatio ["text", "at"] [])
    {fAfterBlanks : Addr} {fdAfterBlanks : FuncData} (GAfterBlanks : FnOk P w K mg base CX0 2 fAfterBlanks fdAfterBlanks ["text", "at"] (spAfterBlanks K)) (gAfterBlanks : mg "after_blanks" = some (.ref fAfterBlanks)) (kpAfterBlanks : PySem.W.keepIn K (.ref fAfterBlanks) = true) (bAfterBlanks : Binds K fdAfterBlanks ["text", "at"] [])
    {fReadParameter : Addr} {fdReadParameter : FuncData} (GReadParameter : FnOk P w K mg base (L2.CX P w) 3 fReadParameter fdReadParameter ["names", "text", "at"] (spReadParameter K CTextFault)) (gReadParameter : mg "read_parameter" = some (.ref fReadParameter)) (kpReadParameter : PySem.W.keepIn K (.ref fReadParameter) = true) (bReadParameter : Binds K fdReadParameter ["names", "text", "at"] [])
    {fScale : Addr} {fdScale : FuncData} (GScale : FnOk P w K mg base CX0 3 fScale fdScale ["factor", "a"] (spScale K)) (gScale : mg "scale" = some (.ref fScale)) (kpScale : PySem.W.keepIn K (.ref fScale) = true) (bScale : Binds K fdScale ["factor", "a"] [])
    {fConstant : Addr} {fdConstant : FuncData} (GConstant : FnOk P w K mg base CX0 1 fConstant fdConstant ["base", "many"] (spConstant K)) (gConstant : mg "constant" = some (.ref fConstant)) (kpConstant : PySem.W.keepIn K (.ref fConstant) = true) (bConstant : Binds K fdConstant ["base", "many"] []) :
    FnOk P w K mg base (L2.CX P w) 5 fReadTerm fdReadTerm ["names", "text", "at"] (spReadTerm K CTextFault) := by
  refine F.okX scReadTerm (fun vs H Q E h => ?_) (fun cdv A outer s H vs Q E hr h => ?_)
  · obtain ⟨l, nms, a, i, rfl, hN, hn, hl, hi, he, k⟩ := h
    rfl
  · obtain ⟨l, nms, a, i, rfl, hN, hn, hl, hi, he, k⟩ := h
    refine ⟨_, (C8.pss_cut (ps_if (pt_val (pe_call GIsAt (hr.mono (by decide)) (by rfl) gIsAt kpIsAt bIsAt .nil pass0 (pa_cons (pv 1) (pa_cons (pv 2) (pa_cons (pe_glob (v := .str "0123456789") (by rfl) CT.gDIGITS ⟨_, rfl⟩) pa_nil)))))
        (pss_cons (ps_asg (pe_call GReadRatio hr (by rfl) gReadRatio kpReadRatio bReadRatio .nil (passes_call (takes_of rfl rfl rfl rfl) (fun _ _ _ _ h => h)) (pa_cons (pv 1) (pa_cons (pv 2) pa_nil))) (pg_tup rfl (pgs_cons (pg_name (i := 3) scReadTerm.nd rfl (Or.inl rfl)) (pgs_cons (pg_name (i := 4) scReadTerm.nd rfl (Or.inl rfl)) pgs_nil))))
        (pss_cons (ps_set (i := 4) scReadTerm.nd rfl (Or.inl rfl) (pe_call GAfterBlanks (hr.mono (by decide)) (by rfl) gAfterBlanks kpAfterBlanks bAfterBlanks .nil pass0 (pa_cons (pv 1) (pa_cons (pv 4) pa_nil))))
        (pss_cons (ps_if (pt_not (pt_val (pe_call GIsAt (hr.mono (by decide)) (by rfl) gIsAt kpIsAt bIsAt .nil pass0 (pa_cons (pv 1) (pa_cons (pv 4) (pa_cons pe_str pa_nil))))))
          (pss_one (ps_ret (pe_tup (pa_cons (pe_call GConstant (hr.mono (by decide)) (by rfl) gConstant kpConstant bConstant .nil pass0 (pa_cons (pv 3) (pa_cons (pe_callB call_len_seq (by rfl) T.len PySem.boot_len (pa_cons (pv 0) pa_nil)) pa_nil))) (pa_cons (pv 4) pa_nil)))))
          pss_nil)
        (pss_cons (ps_asg (pe_call GReadParameter (hr.mono (by decide)) (by rfl) gReadParameter kpReadParameter bReadParameter .nil (passes_call (takes_of rfl rfl rfl rfl) (fun _ _ _ _ h => h)) (pa_cons (pv 0) (pa_cons (pv 1) (pa_cons (pe_call GAfterBlanks (hr.mono (by decide)) (by rfl) gAfterBlanks kpAfterBlanks bAfterBlanks .nil pass0 (pa_cons (pv 1) (pa_cons (pe_op op_add (pv 4) pe_int) pa_nil))) pa_nil)))) (pg_tup rfl (pgs_cons (pg_name (i := 5) scReadTerm.nd rfl (Or.inl rfl)) (pgs_cons (pg_name (i := 4) scReadTerm.nd rfl (Or.inl rfl)) pgs_nil))))
        (pss_one (ps_set (i := 5) scReadTerm.nd rfl (Or.inl rfl) (pe_call GScale (hr.mono (by decide)) (by rfl) gScale kpScale bScale .nil pass0 (pa_cons (pv 3) (pa_cons (pv 5) pa_nil)))))))))
        (pss_one (ps_asg (pe_call GReadParameter (hr.mono (by decide)) (by rfl) gReadParameter kpReadParameter bReadParameter .nil (passes_call (takes_of rfl rfl rfl rfl) (fun _ _ _ _ h => h)) (pa_cons (pv 0) (pa_cons (pv 1) (pa_cons (pv 2) pa_nil)))) (pg_tup rfl (pgs_cons (pg_name (i := 5) scReadTerm.nd rfl (Or.inl rfl)) (pgs_cons (pg_name (i := 4) scReadTerm.nd rfl (Or.inl rfl)) pgs_nil))))))
      (pss_one (ps_ret (pe_tup (pa_cons (pv 5) (pa_cons (pe_call GAfterBlanks (hr.mono (by decide)) (by rfl) gAfterBlanks kpAfterBlanks bAfterBlanks .nil pass0 (pa_cons (pv 1) (pa_cons (pv 4) pa_nil))) pa_nil)))))), ?_⟩
    have hu := rterm_eq nms a i
    refine ⟨fun σ' H' => ∃ (q : Addr) (x : Rat) (xs : List Rat) (e : Nat) (v3 : Option V), σ' = [some (.ref l), some (.str (S a)), some (.int (i : Int)), v3, some (.int (e : Int)), some (.ref q)] ∧ Same H H' ∧ Vx K H' q x xs ∧ rterm nms a i = .inr ((x, xs), skb a e) ∧ e ≤ a.length, ?_, ?_⟩
    · refine ⟨_, rfl, _, rfl, a, i, D10, congrArg (fun z => [V.str (S a), V.int (i : Int), V.str z]) D10_S, hl, hi, _, rfl, ite2 (fun g => ?_) (fun g => ?_)⟩
      · rw [if_pos g] at hu
        refine ⟨_, rfl, _, rfl, a, i, rfl, hl, hi, fun c hc => he c (by rw [hu, hc]), fun r e hr H1 t1 q1 s1 f1 e1 => ?_⟩
        obtain ⟨el, br, ei⟩ := ratio_le hi hr
        rw [hr] at hu
        refine ⟨t1, _, rfl, SqT.of e1, rfl, _, _, rfl, _, _, rfl, rfl, ?_⟩
        refine ⟨_, rfl, _, rfl, a, e, rfl, hl, el, ?_⟩
        have sl := skb_le el
        have hu2 : rterm nms a i = if isAt a (skb a e) [42] then
          match rpar nms a (skb a (skb a e + 1)) with
          | .inl c => .inl c
          | .inr (k, e2) => .inr ((r * 0, (unit k nms.length).map fun y => r * y), skb a e2)
          else .inr ((r, List.replicate nms.length 0), skb a e) := hu
        refine ⟨_, rfl, _, rfl, a, skb a e, [42], congrArg (fun z => [V.str (S a), V.int (skb a e : Nat), V.str z]) lit_star, hl, sl, _, rfl, ite2 (fun g2 => ?_) (fun g2 => ?_)⟩
        · have g3 : ¬ isAt a (skb a e) [42] = true := by simpa using g2
          rw [if_neg g3] at hu2
          refine ⟨_, rfl, _, rfl, l, _, rfl, .inl (s1.seq hN), q1, r, nms.length, by rw [List.length_map]; rfl, f1, hn, fun H2 q2 s2 v2 => ?_⟩
          refine ⟨_, rfl, by show 2 ≤ sizeLine; decide, fun t nt => ?_⟩
          have s3 := same_upd (o := .tup [.ref q2, .int (skb a e : Nat)]) nt
          exact k _ _ _ hu2 _ t q2 (s1.trans (s2.trans s3)) (v2.same s3) upd_same
        · have g3 : isAt a (skb a e) [42] = true := by simpa using g2
          rw [if_pos g3] at hu2
          have lt := isAt_lt g3
          have sl2 := skb_le (a := a) (i := skb a e + 1) (by omega)
          refine ⟨_, rfl, _, rfl, _, rfl, _, rfl, _, _, rfl, rfl, a, skb a e + 1, rfl, hl, by omega, ?_⟩
          refine ⟨l, nms, a, skb a (skb a e + 1), rfl, s1.seq hN, hn, hl, sl2, fun c hc => (he c (by rw [hu2, hc])).same s1, fun kk e2 hk H2 t2 q2 s2 v2 e3 => ?_⟩
          rw [hk] at hu2
          obtain ⟨k1, k2, k3⟩ := rpar_le sl2 hk
          refine ⟨t2, _, rfl, SqT.of e3, rfl, _, _, rfl, _, _, rfl, rfl, ?_⟩
          refine ⟨_, rfl, _, rfl, q1, q2, r, 0, unit kk nms.length, rfl, f1.same s2, v2, by unfold unit; rw [List.length_map, List.length_range]; omega, br.up (by decide), bd_zero.up (by decide), unit_bd, fun H3 q3 s3 v3 => ?_⟩
          exact ⟨q3, _, _, e2, _, rfl, s1.trans (s2.trans s3), v3, hu2, k2⟩
      · rw [if_neg g] at hu
        refine ⟨_, rfl, _, rfl, _, rfl, l, nms, a, i, rfl, hN, hn, hl, hi, fun c hc => he c (by rw [hu, hc]), fun kk e2 hk H2 t2 q2 s2 v2 e3 => ?_⟩
        rw [hk] at hu
        obtain ⟨k1, k2, k3⟩ := rpar_le hi hk
        refine ⟨t2, _, rfl, SqT.of e3, rfl, _, _, rfl, _, _, rfl, rfl, ?_⟩
        exact ⟨q2, _, _, e2, _, rfl, s2, v2, hu, k2⟩
    rintro σ' H1 ⟨q, x, xs, e, v3, rfl, s1, v1, hu2, el⟩
    refine ⟨_, rfl, _, rfl, _, rfl, a, e, rfl, hl, el, ?_⟩
    refine ⟨by show 2 ≤ sizeLine; decide, fun t nt => ?_⟩
    have s2 := same_upd (o := .tup [.ref q, .int (skb a e : Nat)]) nt
    exact k _ _ _ hu2 _ t q (s1.trans s2) (v1.same s2) upd_same
def spReadExpression (K : PySem.W.Frag) (CTextFault : Addr) : Sp := fun vs H Q E => ∃ (l : Addr) (nms : List (List Nat)) (a : List Nat), vs = [.ref l, .str (S a)] ∧ SqL K H l (nms.map sv) ∧ nms.length ≤ 9 ∧ a.length ≤ 600 ∧ (a.filter fun c => decide (c ∈ [43, 45])).length ≤ 16 ∧ (∀ c : Nat, rfull nms a = .inl c → fE CTextFault E H 1 (c : Int)) ∧
  (∀ (x : Rat) (xs : List Rat), rfull nms a = .inr (x, xs) → ∀ (H' : Hp) (q : Addr), Same H H' → Vx K H' q x xs → Q (.ref q) H')
theorem okReadExpression {fReadExpression : Addr} {fdReadExpression : FuncData} (F : Fun K "read_expression" "read_expression" sReadExpression fReadExpression fdReadExpression) (T : Txt mg) {aDIGITS : Tok} {aLETTERS : Tok} {aWORD_CHARACTERS : Tok} {aNAME_LENGTH : Tok} {aZERO : Addr} {aONE : Addr} {aMOST_DIGITS : Tok} {aSHORT : Tok} (CT : Cons K mg aDIGITS aLETTERS aWORD_CHARACTERS aNAME_LENGTH aZERO aONE aMOST_DIGITS aSHORT) {CPartError CTextFault CNought : Addr} (EX : Exns K mg CPartError CTextFault CNought) {fIni : Addr} {fdIni : FuncData} (FL : Flt K mg CPartError CTextFault CNought fIni) (GIni : FnOk P w K mg base CX0 1 fIni fdIni ["self", "line", "column"] (spFIni K CTextFault)) (bIni : Binds K fdIni ["self", "line", "column"] [])
    {fAfterBlanks : Addr} {fdAfterBlanks : FuncData} (GAfterBlanks : FnOk P w K mg base CX0 2 fAfterBlanks fdAfterBlanks ["text", "at"] (spAfterBlanks K)) (gAfterBlanks : mg "after_blanks" = some (.ref fAfterBlanks)) (kpAfterBlanks : PySem.W.keepIn K (.ref fAfterBlanks) = true) (bAfterBlanks : Binds K fdAfterBlanks ["text", "at"] [])
    {fIsAt : Addr} {fdIsAt : FuncData} (GIsAt : FnOk P w K mg base CX0 1 fIsAt fdIsAt ["text", "at", "signs"] (spIsAt K)) (gIsAt : mg "is_at" = some (.ref fIsAt)) (kpIsAt : PySem.W.keepIn K (.ref fIsAt) = true) (bIsAt : Binds K fdIsAt ["text", "at", "signs"] [])
    {fReadTerm : Addr} {fdReadTerm : FuncData} (GReadTerm : FnOk P w K mg base (L2.CX P w) 5 fReadTerm fdReadTerm ["names", "text", "at"] (spReadTerm K CTextFault)) (gReadTerm : mg "read_term" = some (.ref fReadTerm)) (kpReadTerm : PySem.W.keepIn K (.ref fReadTerm) = true) (bReadTerm : Binds K fdReadTerm ["names", "text", "at"] [])
    {fOpposite : Addr} {fdOpposite : FuncData} (GOpposite : FnOk P w K mg base CX0 2 fOpposite fdOpposite ["a"] (spOpposite K)) (gOpposite : mg "opposite" = some (.ref fOpposite)) (kpOpposite : PySem.W.keepIn K (.ref fOpposite) = true) (bOpposite : Binds K fdOpposite ["a"] [])
    {fAdd : Addr} {fdAdd : FuncData} (GAdd : FnOk P w K mg base CX0 3 fAdd fdAdd ["a", "b"] (spAdd K)) (gAdd : mg "add" = some (.ref fAdd)) (kpAdd : PySem.W.keepIn K (.ref fAdd) = true) (bAdd : Binds K fdAdd ["a", "b"] [])
    {fIsShort : Addr} {fdIsShort : FuncData} (GIsShort : FnOk P w K mg base CX0 2 fIsShort fdIsShort ["found"] (spIsShort K)) (gIsShort : mg "is_short" = some (.ref fIsShort)) (kpIsShort : PySem.W.keepIn K (.ref fIsShort) = true) (bIsShort : Binds K fdIsShort ["found"] []) :
    FnOk P w K mg base (L2.CX P w) 6 fReadExpression fdReadExpression ["names", "text"] (spReadExpression K CTextFault) := by
  refine F.okX scReadExpression (fun vs H Q E h => ?_) (fun cdv A outer s H vs Q E hr h => ?_)
  · obtain ⟨l, nms, a, rfl, hN, hn, hl, hs, he, k⟩ := h
    rfl
  · obtain ⟨l, nms, a, rfl, hN, hn, hl, hs, he, k⟩ := h
    refine ⟨_, (pss_cons (ps_set (i := 2) scReadExpression.nd rfl (Or.inl rfl) (pe_call GAfterBlanks (hr.mono (by decide)) (by rfl) gAfterBlanks kpAfterBlanks bAfterBlanks .nil pass0 (pa_cons (pv 1) (pa_cons pe_int pa_nil))))
      (pss_cons (ps_set (i := 3) scReadExpression.nd rfl (Or.inl rfl) (pe_call GIsAt (hr.mono (by decide)) (by rfl) gIsAt kpIsAt bIsAt .nil pass0 (pa_cons (pv 1) (pa_cons (pv 2) (pa_cons pe_str pa_nil)))))
      (C8.pss_cut (ps_if (pt_val (pv 3))
        (pss_one (ps_set (i := 2) scReadExpression.nd rfl (Or.inl rfl) (pe_call GAfterBlanks (hr.mono (by decide)) (by rfl) gAfterBlanks kpAfterBlanks bAfterBlanks .nil pass0 (pa_cons (pv 1) (pa_cons (pe_op op_add (pv 2) pe_int) pa_nil)))))
        pss_nil)
      (pss_cons (ps_asg (pe_call GReadTerm hr (by rfl) gReadTerm kpReadTerm bReadTerm .nil (passes_call (takes_of rfl rfl rfl rfl) (fun _ _ _ _ h => h)) (pa_cons (pv 0) (pa_cons (pv 1) (pa_cons (pv 2) pa_nil)))) (pg_tup rfl (pgs_cons (pg_name (i := 4) scReadExpression.nd rfl (Or.inl rfl)) (pgs_cons (pg_name (i := 2) scReadExpression.nd rfl (Or.inl rfl)) pgs_nil))))
      (C8.pss_cut (ps_if (pt_val (pv 3))
        (pss_one (ps_set (i := 4) scReadExpression.nd rfl (Or.inl rfl) (pe_call GOpposite (hr.mono (by decide)) (by rfl) gOpposite kpOpposite bOpposite .nil pass0 (pa_cons (pv 4) pa_nil))))
        pss_nil)
      (C8.pss_cut (ps_while (passes_of rfl) (pt_cmpR op_lt (pv 2) (pe_callB call_len_str (by rfl) T.len PySem.boot_len (pa_cons (pv 1) pa_nil)) (nomark _))
        (pss_cons (ps_if (pt_not (pt_val (pe_call GIsAt (hr.mono (by decide)) (by rfl) gIsAt kpIsAt bIsAt .nil pass0 (pa_cons (pv 1) (pa_cons (pv 2) (pa_cons pe_str pa_nil))))))
          (pss_one (ps_raise rfl (takes_of rfl rfl rfl rfl) (pmk_oex FL.ox FL.iC FL.tI GIni (hr.mono (by decide)) bIni .nil pass0 (by rfl) FL.g (pa_cons pe_int (pa_cons (pe_op op_add (pv 2) pe_int) pa_nil)))))
          pss_nil)
        (pss_cons (ps_set (i := 3) scReadExpression.nd rfl (Or.inl rfl) (pe_call GIsAt (hr.mono (by decide)) (by rfl) gIsAt kpIsAt bIsAt .nil pass0 (pa_cons (pv 1) (pa_cons (pv 2) (pa_cons pe_str pa_nil)))))
        (pss_cons (ps_asg (pe_call GReadTerm hr (by rfl) gReadTerm kpReadTerm bReadTerm .nil (passes_call (takes_of rfl rfl rfl rfl) (fun _ _ _ _ h => h)) (pa_cons (pv 0) (pa_cons (pv 1) (pa_cons (pe_call GAfterBlanks (hr.mono (by decide)) (by rfl) gAfterBlanks kpAfterBlanks bAfterBlanks .nil pass0 (pa_cons (pv 1) (pa_cons (pe_op op_add (pv 2) pe_int) pa_nil))) pa_nil)))) (pg_tup rfl (pgs_cons (pg_name (i := 5) scReadExpression.nd rfl (Or.inl rfl)) (pgs_cons (pg_name (i := 2) scReadExpression.nd rfl (Or.inl rfl)) pgs_nil))))
        (pss_one (ps_set (i := 4) scReadExpression.nd rfl (Or.inl rfl) (pe_call GAdd (hr.mono (by decide)) (by rfl) gAdd kpAdd bAdd .nil pass0 (pa_cons (pv 4) (pa_cons (pe_ifExp (pt_val (pv 3)) (pe_call GOpposite (hr.mono (by decide)) (by rfl) gOpposite kpOpposite bOpposite .nil pass0 (pa_cons (pv 5) pa_nil)) (pv 5)) pa_nil)))))))))
      (pss_cons (ps_if (pt_not (pt_val (pe_call GIsShort (hr.mono (by decide)) (by rfl) gIsShort kpIsShort bIsShort .nil pass0 (pa_cons (pv 4) pa_nil))))
        (pss_one (ps_raise rfl (takes_of rfl rfl rfl rfl) (pmk_oex FL.ox FL.iC FL.tI GIni (hr.mono (by decide)) bIni .nil pass0 (by rfl) FL.g (pa_cons pe_int (pa_cons pe_int pa_nil)))))
        pss_nil)
      (pss_one (ps_ret (pv 4)))))))))), ?_⟩
    have s0 := skb_le (a := a) (i := 0) (Nat.zero_le _)
    have hz := S_sl (a := a) (by omega)
    rw [show (Str.ofString "-") = S [45] from lit_minus, show (Str.ofString "+-") = S [43, 45] from lit_pm]
    refine ⟨_, rfl, a, 0, rfl, hl, Nat.zero_le _, ?_⟩
    refine ⟨_, rfl, _, rfl, a, skb a 0, [45], rfl, hl, s0, ?_⟩
    -- where the first term stands
    obtain ⟨j, hj⟩ : ∃ j, (if isAt a (skb a 0) [45] = true then skb a (skb a 0 + 1) else skb a 0) = j := ⟨_, rfl⟩
    have hjl : j ≤ a.length := by
      rw [← hj]
      by_cases g : isAt a (skb a 0) [45] = true
      · rw [if_pos g]
        have := isAt_lt g
        exact skb_le (by omega)
      · rw [if_neg g]
        exact s0
    refine ⟨fun σ' H' => σ' = [some (.ref l), some (.str (S a)), some (.int (j : Nat)), some (.bl (isAt a (skb a 0) [45])), none, none] ∧ H' = H, ?_, ?_⟩
    · refine ⟨_, rfl, _, rfl, ite2 (fun g => ?_) (fun g => ?_)⟩
      · have := isAt_lt g
        rw [if_pos g] at hj
        refine ⟨_, rfl, _, rfl, _, _, rfl, rfl, a, skb a 0 + 1, rfl, hl, by omega, ?_⟩
        rw [hj]
        exact ⟨rfl, rfl⟩
      · rw [if_neg g] at hj
        rw [← hj]
        exact ⟨rfl, rfl⟩
    rintro σ' H1 ⟨rfl, rfl⟩
    have hrx : rexpr nms a = match rterm nms a j with
      | .inl c => .inl c
      | .inr ((x, xs), e) => rloop nms a (a.length + 1) (if isAt a (skb a 0) [45] = true then -x else x) (if isAt a (skb a 0) [45] = true then xs.map fun y => -y else xs) e := by
      unfold rexpr
      rw [← hj]
      by_cases g : isAt a (skb a 0) [45] = true
      · rw [if_pos g, if_pos g]
        cases rterm nms a (skb a (skb a 0 + 1)) with
        | inl c => rfl
        | inr p =>
          obtain ⟨⟨x, xs⟩, e⟩ := p
          dsimp only
          rw [if_pos g, if_pos g]
      · rw [if_neg g, if_neg g]
        cases rterm nms a (skb a 0) with
        | inl c => rfl
        | inr p =>
          obtain ⟨⟨x, xs⟩, e⟩ := p
          dsimp only
          rw [if_neg g, if_neg g]
    have hbad : ∀ c, rexpr nms a = .inl c → fE CTextFault E H1 1 (c : Int) := fun c hc => he c (by unfold rfull; rw [hc])
    refine ⟨_, rfl, _, rfl, _, rfl, l, nms, a, j, rfl, hN, hn, hl, hjl, fun c hc => hbad c (by rw [hrx, hc]), fun x xs e hx H2 t2 q2 s2 v2 e2 => ?_⟩
    obtain ⟨je, el, bx, bxs, nx⟩ := rterm_ok hjl hx
    rw [hx] at hrx
    dsimp only at hrx
    refine ⟨t2, _, rfl, SqT.of e2, rfl, _, _, rfl, _, _, rfl, rfl, ?_⟩
    generalize isAt a (skb a 0) [45] = b at hrx
    refine ⟨fun σ' H' => ∃ (q : Addr) (x : Rat) (xs : List Rat), σ' = [some (.ref l), some (.str (S a)), some (.int (e : Nat)), some (.bl b), some (.ref q), none] ∧ Same H1 H' ∧ Vx K H' q x xs ∧ xs.length = nms.length ∧ Bd 42 x ∧ (∀ r ∈ xs, Bd 42 r) ∧ rexpr nms a = rloop nms a (a.length + 1) x xs e, ?_, ?_⟩
    · refine ⟨_, rfl, _, rfl, ite2 (fun g => ?_) (fun g => ?_)⟩
      · rw [if_pos g, if_pos g] at hrx
        refine ⟨_, rfl, q2, x, xs, rfl, v2, by omega, fun H3 q3 s3 v3 => ?_⟩
        exact ⟨q3, _, _, rfl, s2.trans s3, v3, by rw [List.length_map]; exact nx, bx.neg, neg_bd bxs, hrx⟩
      · rw [if_neg g, if_neg g] at hrx
        exact ⟨q2, _, _, rfl, s2, v2, nx, bx, bxs, hrx⟩
    clear hrx v2 bx bxs nx s2 e2
    rintro σ' H3 ⟨q, x0, xs0, rfl, s3, v3, nx, bx, bxs, hrx⟩
    refine ⟨fun σ' H' => ∃ (q : Addr) (x : Rat) (xs : List Rat) (v2 v3 v5 : Option V), σ' = [some (.ref l), some (.str (S a)), v2, v3, some (.ref q), v5] ∧ Same H1 H' ∧ Vx K H' q x xs ∧ xs.length = nms.length ∧ Bd 800 x ∧ (∀ r ∈ xs, Bd 800 r) ∧ rexpr nms a = .inr (x, xs), ?_, ?_⟩
    · refine ⟨fun m σ' H' => ∃ (q : Addr) (x : Rat) (xs : List Rat) (i c : Nat) (v3 v5 : Option V), σ' = [some (.ref l), some (.str (S a)), some (.int (i : Nat)), v3, some (.ref q), v5] ∧ Same H1 H' ∧ Vx K H' q x xs ∧ xs.length = nms.length ∧ Bd (43 * (c + 1)) x ∧ (∀ r ∈ xs, Bd (43 * (c + 1)) r) ∧ i ≤ a.length ∧ a.length - i ≤ m ∧ c + sgc a i ≤ 16 ∧ rexpr nms a = rloop nms a (m + 1) x xs i, ⟨a.length, q, x0, xs0, e, 0, _, _, rfl, s3, v3, nx, bx.up (by decide), fun r hr => (bxs r hr).up (by decide), el, by omega, ?_, hrx⟩, ?_⟩
      · have := sgc_mono (a := a) (Nat.zero_le e)
        have h0 : sgc a 0 ≤ 16 := hs
        omega
      rintro m σ' H' ⟨q, x, xs, i, c, v3, v5, rfl, sH, vx, nx, bx, bxs, hi, hm, hc, hrx⟩
      refine ⟨_, rfl, _, rfl, S a, rfl, hz, _, _, rfl, rfl, _, rfl, ?_⟩
      refine ite2 (fun g => ?_) (fun g => ?_)
      · have g1 : i < a.length := by
          have := of_decide_eq_true g
          rw [lenS] at this
          omega
        obtain ⟨m, rfl⟩ : ∃ m', m = m' + 1 := ⟨m - 1, by omega⟩
        rw [rloop_eq, if_neg (by omega)] at hrx
        refine ⟨_, fun σ' H' h => ⟨m, Nat.lt_succ_self m, h⟩, ?_⟩
        refine ⟨_, rfl, _, rfl, a, i, [43, 45], rfl, hl, hi, _, rfl, ite2 (fun g2 => ?_) (fun g2 => ?_)⟩
        · have g3 : ¬ isAt a i [43, 45] = true := by simpa using g2
          rw [if_neg g3] at hrx
          have hf := (hbad (i + 1) hrx).same sH
          exact ⟨_, rfl, _, _, rfl, rfl, fault_mk fun d H' s1 _ e1 => hf d H' s1 e1⟩
        have g3 : isAt a i [43, 45] = true := by simpa using g2
        rw [if_pos g3] at hrx
        have hcs := sgc_step g3
        have sl := skb_le (a := a) (i := i + 1) (by omega)
        have sg := skb_ge (a := a) (i := i + 1)
        refine ⟨_, rfl, _, rfl, a, i, [45], rfl, hl, hi, ?_⟩
        refine ⟨_, rfl, _, rfl, _, rfl, _, rfl, _, _, rfl, rfl, a, i + 1, rfl, hl, by omega, ?_⟩
        refine ⟨l, nms, a, skb a (i + 1), rfl, sH.seq hN, hn, hl, sl, fun c hc => (hbad c (by rw [hrx, hc])).same sH, fun y ys e hy H5 t5 q5 s5 w5 e5 => ?_⟩
        obtain ⟨je, el, bY, bys, ny⟩ := rterm_ok sl hy
        rw [hy] at hrx
        dsimp only at hrx
        have hmo := sgc_mono (a := a) (i := i + 1) (j := e) (by omega)
        refine ⟨t5, _, rfl, SqT.of e5, rfl, _, _, rfl, _, _, rfl, rfl, ?_⟩
        refine ⟨_, rfl, _, rfl, _, rfl, ite2 (fun g4 => ?_) (fun g4 => ?_)⟩
        · rw [if_pos g4] at hrx
          refine ⟨_, rfl, q5, y, ys, rfl, w5, by omega, fun H6 q6 s6 w6 => ?_⟩
          refine ⟨q, q6, x, -y, xs, ys.map (fun y => -y), rfl, vx.same (s5.trans s6), w6, by rw [List.length_map]; omega, by omega, bx.up (by omega), bY.neg.up (by decide), fun r hr => (bxs r hr).up (by omega), fun r hr => (neg_bd bys r hr).up (by decide), fun H7 q7 s7 w7 => ?_⟩
          refine ⟨q7, _, _, e, c + 1, _, _, rfl, sH.trans (s5.trans (s6.trans s7)), w7, by rw [List.length_zipWith, List.length_map]; omega, (bx.add bY.neg).up (by omega), fun r hr => (zip_bd bxs (neg_bd bys) r hr).up (by omega), el, by omega, by omega, hrx⟩
        · rw [if_neg g4] at hrx
          refine ⟨_, rfl, q, q5, x, y, xs, ys, rfl, vx.same s5, w5, by omega, by omega, bx.up (by omega), bY.up (by decide), fun r hr => (bxs r hr).up (by omega), fun r hr => (bys r hr).up (by decide), fun H7 q7 s7 w7 => ?_⟩
          refine ⟨q7, _, _, e, c + 1, _, _, rfl, sH.trans (s5.trans s7), w7, by rw [List.length_zipWith]; omega, (bx.add bY).up (by omega), fun r hr => (zip_bd bxs bys r hr).up (by omega), el, by omega, by omega, hrx⟩
      · have g1 : a.length ≤ i := by
          have h := g
          rw [lenS] at h
          have := of_decide_eq_false (Bool.eq_false_iff.mpr h)
          omega
        rw [rloop_eq, if_pos g1] at hrx
        exact ⟨q, x, xs, _, _, _, rfl, sH, vx, nx, bx.up (by omega), fun r hr => (bxs r hr).up (by omega), hrx⟩
    rintro σ' H4 ⟨q, x, xs, v2, v3, v5, rfl, s4, v4, nx, bx, bxs, hrx⟩
    refine ⟨_, rfl, q, x, xs, rfl, v4, by omega, bx, bxs, fun H5 s5 => ?_⟩
    refine ⟨_, rfl, ite2 (fun g => ?_) (fun g => ?_)⟩
    · have g1 : ¬ shortV (x :: xs) = true := by simpa using g
      have hf := ((he 1 (by unfold rfull; rw [hrx]; dsimp only; rw [if_neg g1])).same s4).same s5
      exact fault_mk fun d H' s1 _ e1 => hf d H' s1 e1
    · have g1 : shortV (x :: xs) = true := by simpa using g
      exact ⟨_, rfl, k x xs (by unfold rfull; rw [hrx]; dsimp only; rw [if_pos g1]) H5 q (s4.trans s5) (v4.same s5)⟩
def spTermText (K : PySem.W.Frag) : Sp := fun vs H Q _ => ∃ (n : List Nat) (a : Addr) (r : Rat), vs = [.str (S n), .ref a] ∧ Fx K H a r ∧ Sm r ∧ n.length ≤ 20 ∧ ∀ (H' : Hp), Same H H' → Q (.str (S (tx (some n) r))) H'
theorem okTermText {fTermText : Addr} {fdTermText : FuncData} (F : Fun K "term_text" "term_text" sTermText fTermText fdTermText) (T : Txt mg) {aDIGITS : Tok} {aLETTERS : Tok} {aWORD_CHARACTERS : Tok} {aNAME_LENGTH : Tok} {aZERO : Addr} {aONE : Addr} {aMOST_DIGITS : Tok} {aSHORT : Tok} (CT : Cons K mg aDIGITS aLETTERS aWORD_CHARACTERS aNAME_LENGTH aZERO aONE aMOST_DIGITS aSHORT) {CPartError CTextFault CNought : Addr} (EX : Exns K mg CPartError CTextFault CNought) {fIni : Addr} {fdIni : FuncData} (FL : Flt K mg CPartError CTextFault CNought fIni) (GIni : FnOk P w K mg base CX0 1 fIni fdIni ["self", "line", "column"] (spFIni K CTextFault)) (bIni : Binds K fdIni ["self", "line", "column"] [])
    {fWithoutSign : Addr} {fdWithoutSign : FuncData} (GWithoutSign : FnOk P w K mg base CX0 1 fWithoutSign fdWithoutSign ["a"] (spWithoutSign K)) (gWithoutSign : mg "without_sign" = some (.ref fWithoutSign)) (kpWithoutSign : PySem.W.keepIn K (.ref fWithoutSign) = true) (bWithoutSign : Binds K fdWithoutSign ["a"] [])
    {fTold : Addr} {fdTold : FuncData} (GTold : FnOk P w K mg base CX0 2 fTold fdTold ["a"] (spTold K)) (gTold : mg "told" = some (.ref fTold)) (kpTold : PySem.W.keepIn K (.ref fTold) = true) (bTold : Binds K fdTold ["a"] []) :
    FnOk P w K mg base CX0 3 fTermText fdTermText ["name", "slope"] (spTermText K) := by
  refine F.ok scTermText (fun vs H Q E h => ?_) (fun cdv A outer s H vs Q E hr h => ?_)
  · obtain ⟨n, a, r, rfl, hA, hs, hn, k⟩ := h
    rfl
  · obtain ⟨n, a, r, rfl, hA, hs, hn, k⟩ := h
    refine ⟨_, (pss_cons (ps_set (i := 2) scTermText.nd rfl (Or.inl rfl) (pe_call GWithoutSign (hr.mono (by decide)) (by rfl) gWithoutSign kpWithoutSign bWithoutSign .nil pass0 (pa_cons (pv 1) pa_nil)))
      (pss_cons (ps_if (pt_cmpR (op_eqD hr.units) (pv 2) (pe_glob (v := .ref aONE) (by rfl) CT.gONE rfl) (nomark _))
        (pss_one (ps_ret (pv 0)))
        pss_nil)
      (pss_one (ps_ret (pe_op op_addS (pe_op op_addS (pe_call GTold hr (by rfl) gTold kpTold bTold .nil pass0 (pa_cons (pv 2) pa_nil)) pe_str) (pv 0)))))), ?_⟩
    refine ⟨_, rfl, a, r, rfl, hA, fun H1 t1 s1 f1 => ?_⟩
    have F1 : Fx K H1 aONE 1 := CT.tONE H1
    refine ⟨_, rfl, _, _, dpr f1, dpr F1, sh1 _, sh1 _, ?_⟩
    rw [eqvr]
    unfold tx at k
    dsimp only at k
    refine ⟨_, rfl, ite2 (fun g => ?_) (fun g => ?_)⟩
    · rw [if_pos (of_decide_eq_true g)] at k
      exact ⟨_, rfl, k H1 s1⟩
    · rw [show (Str.ofString "*") = S [42] from lit_star]
      have b20 : (1000 : Nat) < 10 ^ 20 := by decide
      refine ⟨_, rfl, t1, ab r, rfl, f1, ?_, ?_, fun H2 s2 => ?_⟩
      · rw [ab_num, Int.natAbs_natCast]
        exact Nat.lt_of_le_of_lt hs.1 b20
      · rw [ab_den]
        exact Nat.lt_of_le_of_lt hs.2 (by decide)
      have tl := (tdl_len hs).1
      refine ⟨tdl (ab r), [42], rfl, rfl, by show _ + 1 ≤ _; omega, ?_⟩
      refine ⟨_, rfl, tdl (ab r) ++ [42], n, rfl, rfl, by rw [List.length_append]; show _ + 1 + _ ≤ _; omega, ?_⟩
      have := k H2 (s1.trans s2)
      rw [if_neg (fun z => g (decide_eq_true z))] at this
      rw [List.append_assoc]
      exact this
def spExpressionText (K : PySem.W.Frag) : Sp := fun vs H Q _ => ∃ (l t : Addr) (nms : List (List Nat)) (x : Rat) (xs : List Rat), vs = [.ref l, .ref t] ∧ SqL K H l (nms.map sv) ∧ NmsOk nms ∧ Vx K H t x xs ∧ xs.length = nms.length ∧ Sm x ∧ (∀ s ∈ xs, Sm s) ∧ ∀ (H' : Hp), Same H H' → Q (.str (S (etx nms x xs))) H'
theorem okExpressionText {fExpressionText : Addr} {fdExpressionText : FuncData} (F : Fun K "expression_text" "expression_text" sExpressionText fExpressionText fdExpressionText) (T : Txt mg) {aDIGITS : Tok} {aLETTERS : Tok} {aWORD_CHARACTERS : Tok} {aNAME_LENGTH : Tok} {aZERO : Addr} {aONE : Addr} {aMOST_DIGITS : Tok} {aSHORT : Tok} (CT : Cons K mg aDIGITS aLETTERS aWORD_CHARACTERS aNAME_LENGTH aZERO aONE aMOST_DIGITS aSHORT) {CPartError CTextFault CNought : Addr} (EX : Exns K mg CPartError CTextFault CNought) {fIni : Addr} {fdIni : FuncData} (FL : Flt K mg CPartError CTextFault CNought fIni) (GIni : FnOk P w K mg base CX0 1 fIni fdIni ["self", "line", "column"] (spFIni K CTextFault)) (bIni : Binds K fdIni ["self", "line", "column"] [])
    {fTermText : Addr} {fdTermText : FuncData} (GTermText : FnOk P w K mg base CX0 3 fTermText fdTermText ["name", "slope"] (spTermText K)) (gTermText : mg "term_text" = some (.ref fTermText)) (kpTermText : PySem.W.keepIn K (.ref fTermText) = true) (bTermText : Binds K fdTermText ["name", "slope"] [])
    {fSign : Addr} {fdSign : FuncData} (GSign : FnOk P w K mg base CX0 1 fSign fdSign ["a"] (spSign K)) (gSign : mg "sign" = some (.ref fSign)) (kpSign : PySem.W.keepIn K (.ref fSign) = true) (bSign : Binds K fdSign ["a"] [])
    {fTold : Addr} {fdTold : FuncData} (GTold : FnOk P w K mg base CX0 2 fTold fdTold ["a"] (spTold K)) (gTold : mg "told" = some (.ref fTold)) (kpTold : PySem.W.keepIn K (.ref fTold) = true) (bTold : Binds K fdTold ["a"] [])
    {fWithoutSign : Addr} {fdWithoutSign : FuncData} (GWithoutSign : FnOk P w K mg base CX0 1 fWithoutSign fdWithoutSign ["a"] (spWithoutSign K)) (gWithoutSign : mg "without_sign" = some (.ref fWithoutSign)) (kpWithoutSign : PySem.W.keepIn K (.ref fWithoutSign) = true) (bWithoutSign : Binds K fdWithoutSign ["a"] []) :
    FnOk P w K mg base CX0 4 fExpressionText fdExpressionText ["names", "found"] (spExpressionText K) := by
  refine F.ok scExpressionText (fun vs H Q E h => ?_) (fun cdv A outer s H vs Q E hr h => ?_)
  · obtain ⟨l, t, nms, x, xs, rfl, hN, hO, ⟨p, q, ws, hT, hp, hq, hws, rfl⟩, hlen, hx, hS, k⟩ := h
    rfl
  · obtain ⟨l, t, nms, x, xs, rfl, hN, hO, ⟨p, q, ws, hT, hp, hq, hws, rfl⟩, hlen, hx, hS, k⟩ := h
    refine ⟨_, (pss_cons (ps_asg (pv 1) (pg_tup rfl (pgs_cons (pg_name (i := 2) scExpressionText.nd rfl (Or.inl rfl)) (pgs_cons (pg_name (i := 3) scExpressionText.nd rfl (Or.inl rfl)) pgs_nil))))
      (pss_cons (ps_setLc (i := 4) (own := [("name", 9), ("slope", 10)]) (by rfl) scExpressionText.nd rfl rfl (sw_true rfl rfl rfl (by decide +kernel)) (pi_zipB (by rfl) T.zip (pa_cons (pv 0) (pa_cons (pv 3) pa_nil))) (blkOk_by (own := [("name", 9), ("slope", 10)]) (N := ["names", "found", "base", "slopes", "terms", "text", "part", "term", "is_below", "name", "slope"]) (sc := defScope sExpressionText) (by decide +kernel)) (fun _ _ _ _ _ => (show PG _ _ (gTup K 2 _) from (pg_tup rfl (pgs_cons (pg_name (i := 9) scExpressionText.nd rfl (Or.inl rfl)) (pgs_cons (pg_name (i := 10) scExpressionText.nd rfl (Or.inl rfl)) pgs_nil))))) (fun _ _ _ _ _ => pts_one (pt_cmpR (show OpR _ _ (rNeD K) from op_neD hr.units) (pv 10) (pe_glob (v := .ref aZERO) (by rfl) CT.gZERO rfl) (nomark _))) (fun _ _ _ _ _ => (pe_tup (pa_cons (pv 10) (pa_cons (pe_call GTermText hr (by rfl) gTermText kpTermText bTermText .nil pass0 (pa_cons (pv 9) (pa_cons (pv 10) pa_nil))) pa_nil)))))
      (C8.pss_cut (ps_if (PW.pt (pw_or (pt_cmpR (show OpR _ _ (rNeD K) from op_neD hr.units) (pv 2) (pe_glob (v := .ref aZERO) (by rfl) CT.gZERO rfl) (nomark _)) (pw_or1 (pt_not (pt_truth (pv 4) (by intro _; rfl))))))
        (pss_one (ps_expr (pe_bm PySem.F.plainAttrs_list PySem.F.slot_list_append PySem.F.type_list_append mt_append (pv 4) (pa_cons (pe_tup (pa_cons (pv 2) (pa_cons (pe_call GTold (hr.mono (by decide)) (by rfl) gTold kpTold bTold .nil pass0 (pa_cons (pe_call GWithoutSign (hr.mono (by decide)) (by rfl) gWithoutSign kpWithoutSign bWithoutSign .nil pass0 (pa_cons (pv 2) pa_nil)) pa_nil)) pa_nil))) pa_nil))))
        pss_nil)
      (pss_cons (ps_set (i := 5) scExpressionText.nd rfl (Or.inl rfl) pe_str)
      (C8.pss_cut (ps_for PassesOwn.never rfl (pi_list (pv 4)) (pg_tup rfl (pgs_cons (pg_name (i := 6) scExpressionText.nd rfl (Or.inl rfl)) (pgs_cons (pg_name (i := 7) scExpressionText.nd rfl (Or.inl rfl)) pgs_nil)))
        (pss_cons (ps_set (i := 8) scExpressionText.nd rfl (Or.inl rfl) (pe_cmpR op_lt (pe_call GSign (hr.mono (by decide)) (by rfl) gSign kpSign bSign .nil pass0 (pa_cons (pv 6) pa_nil)) pe_int (nomark _)))
        (pss_one (ps_if (pt_truth (pv 5) (by intro _; rfl))
          (pss_one (ps_set (i := 5) scExpressionText.nd rfl (Or.inl rfl) (pe_op op_addS (pe_op op_addS (pv 5) (pe_ifExp (pt_val (pv 8)) pe_str pe_str)) (pv 7))))
          (pss_one (ps_set (i := 5) scExpressionText.nd rfl (Or.inl rfl) (pe_op op_addS (pe_ifExp (pt_val (pv 8)) pe_str pe_str) (pv 7))))))))
      (pss_one (ps_ret (pv 5)))))))), ?_⟩
    have hl2 : ws.length = nms.length := by rw [← List.length_map (f := fun w : Addr × Rat => w.2)]; exact hlen
    have h4 := hO.1
    walk_at "go"
    refine ⟨false, true, l, q, nms.map sv, fr ws, rfl, hN, hq, fun D hD => ?_⟩
    refine lc_sel (Tm K) (fun s h => h.up s) (fun h hl s => h.over hl s) (walk_zipB (f := false) (g := true) (xs := nms.map sv) (ys := fr ws) rfl) (wsel (nms.zip (ws.map (·.2)))) (by unfold wsel; simp [fr_len]) (by rw [List.length_map, fr_len]; omega) hD (fun H2 s2 => ⟨s2.seq hN, same_tup s2 hq⟩) ?_ ?_
    · rintro i c v H2 H3 kk kn hc s2 ⟨T, u, u2, rfl, hT, rfl, g1, g2⟩ hk hkn
      obtain ⟨w, rfl, hw⟩ := fr_get g2
      obtain ⟨n, rfl, hn⟩ : ∃ n, u = sv n ∧ nms[i]? = some n := by
        have g3 : (nms.map sv)[i]? = some u := g1
        rw [List.getElem?_map] at g3
        cases e : nms[i]? with
        | none =>
          rw [e] at g3
          cases g3
        | some n =>
          rw [e] at g3
          exact ⟨n, (Option.some.inj g3).symm, rfl⟩
      have hz : (nms.zip (ws.map (·.2)))[i]? = some (n, w.2) := by
        rw [List.getElem?_zip_eq_some]
        exact ⟨hn, by rw [List.getElem?_map, hw]; rfl⟩
      have hc2 : (if w.2 = 0 then none else some (w.2, tx (some n) w.2)) = c := by
        unfold wsel at hc
        rw [List.getElem?_map, hz] at hc
        exact Option.some.inj hc
      have mw : w ∈ ws := List.mem_of_getElem? hw
      have mn : n ∈ nms := List.mem_of_getElem? hn
      have sT := same_upd (o := .tup [sv n, .ref w.1]) hT
      have eT : (upd H2 T (.tup [sv n, .ref w.1])) T = some (.tup [sv n, .ref w.1]) := upd_same
      generalize upd H2 T (.tup [sv n, .ref w.1]) = H4 at sT eT ⊢
      have fw : Fx K H4 w.1 w.2 := (hws w mw).same (s2.trans sT)
      have F0 : Fx K H4 aZERO 0 := CT.tZERO H4
      refine ⟨_, _, rfl, SqT.of eT, rfl, _, _, rfl, _, _, rfl, rfl, rfl, ?_⟩
      refine ⟨_, rfl, _, _, dpr fw, dpr F0, sh1 _, sh1 _, ?_⟩
      rw [eqvr]
      refine ⟨_, rfl, ?_⟩
      by_cases h0 : w.2 = 0
      · rw [if_pos h0] at hc2
        rw [decide_eq_true h0]
        refine iteF' rfl ?_
        exact hkn hc2.symm H4 sT
      · rw [if_neg h0] at hc2
        rw [decide_eq_false h0]
        refine iteT' rfl ?_
        refine ⟨_, rfl, _, rfl, _, rfl, n, w.1, w.2, rfl, fw, hS _ (List.mem_map_of_mem mw), by have := (hO.2.2 n mn).2.2; omega, fun H5 s5 => ?_⟩
        refine ⟨by show 2 ≤ sizeLine; decide, fun t2 n2 => ?_⟩
        have s6 := same_upd (o := .tup [.ref w.1, .str (S (tx (some n) w.2))]) n2
        exact hk _ hc2.symm t2 _ (sT.trans (s5.trans s6)) ⟨w.1, SqT.of upd_same, fw.same (s5.trans s6)⟩
    intro H2 wl s2 e2 r2 m2
    rw [wsel_wts] at m2
    have hne := wts_ne hO hS
    refine ⟨fun σ' H' => ∃ wl : List (Addr × (Rat × List Nat)), σ' = [some (.ref l), some (.ref t), some (.ref p), some (.ref q), some (.ref D), none, none, none, none, none, none] ∧ Same H H' ∧ H' D = some (.lst (wl.map fun w => .ref w.1)) ∧ (∀ w ∈ wl, Tm K H' w.1 w.2) ∧ wl.map (·.2) = wts (nms.zip (ws.map (·.2))) ++ if x ≠ 0 ∨ wts (nms.zip (ws.map (·.2))) = [] then [(x, tx none x)] else [], ?_, ?_⟩
    · refine ⟨_, rfl, _, _, dpr (hp.same s2), dpr (show Fx K H2 aZERO 0 from CT.tZERO H2), sh1 _, sh1 _, ?_⟩
      rw [eqvr]
      refine ⟨_, rfl, ?_⟩
      have b20 : (1000 : Nat) < 10 ^ 20 := by decide
      have tb1 : (ab x).num.natAbs < 10 ^ 20 := by
        rw [ab_num, Int.natAbs_natCast]
        exact Nat.lt_of_le_of_lt hx.1 b20
      have tb2 : (ab x).den < 10 ^ 20 := by
        rw [ab_den]
        exact Nat.lt_of_le_of_lt hx.2 (by decide)
      have lwl : wl.length ≤ 4 := by
        have := congrArg List.length m2
        rw [List.length_map] at this
        rw [this]
        unfold wts
        rw [List.length_map]
        refine Nat.le_trans (List.length_filter_le _ _) ?_
        rw [List.length_zip]
        omega
      have app : (x ≠ 0 ∨ wts (nms.zip (ws.map (·.2))) = []) → ∀ H7 t7, Same H2 H7 → H7 t7 = some (.tup [.ref p, .str (S (tdl (ab x)))]) → H7 D = some (.lst (wl.map fun w => .ref w.1)) → ∃ wl' : List (Addr × (Rat × List Nat)), [some (V.ref l), some (.ref t), some (.ref p), some (.ref q), some (.ref D), none, none, none, none, none, none] = [some (V.ref l), some (.ref t), some (.ref p), some (.ref q), some (.ref D), none, none, none, none, none, none] ∧ Same H (upd H7 D (.lst ((wl.map fun w => .ref w.1) ++ [.ref t7]))) ∧ (upd H7 D (.lst ((wl.map fun w => .ref w.1) ++ [.ref t7]))) D = some (.lst (wl'.map fun w => .ref w.1)) ∧ (∀ w ∈ wl', Tm K (upd H7 D (.lst ((wl.map fun w => .ref w.1) ++ [.ref t7]))) w.1 w.2) ∧ wl'.map (·.2) = wts (nms.zip (ws.map (·.2))) ++ if x ≠ 0 ∨ wts (nms.zip (ws.map (·.2))) = [] then [(x, tx none x)] else [] := by
        intro hc H7 t7 s27 e7 eD
        refine ⟨wl ++ [(t7, (x, tx none x))], rfl, fun b o e => ?_, ?_, fun w hw => ?_, ?_⟩
        · rw [upd_ne (ne_of_none e hD)]
          exact s27 _ _ (s2 _ _ e)
        · rw [upd_same, List.map_append]
          rfl
        · rcases List.mem_append.mp hw with h | h
          · exact Tm.over ((r2 w h).up s27) eD fun b o hb e => by rw [upd_ne hb]; exact e
          · rw [List.mem_singleton.mp h]
            exact Tm.over (H := H7) ⟨p, SqT.of e7, hp.same (s2.trans s27)⟩ eD fun b o hb e => by rw [upd_ne hb]; exact e
        · rw [List.map_append, m2, if_pos hc]
          rfl
      by_cases h0 : x = 0
      · rw [decide_eq_true h0]
        refine iteF' rfl ?_
        refine ⟨_, rfl, _, .inl ⟨_, SqL.of e2, rfl⟩, ?_⟩
        by_cases hw : wts (nms.zip (ws.map (·.2))) = []
        · replace app := app (.inr hw)
          have hwl : wl = [] := List.map_eq_nil_iff.mp (m2.trans hw)
          refine iteT' (by rw [hwl]; rfl) ?_
          refine ⟨.ref D, rfl, .inl ⟨rfl, _, SqL.of e2⟩, _, rfl, _, rfl, p, x, rfl, hp.same s2, fun H5 t5 s5 f5 => ?_⟩
          refine ⟨t5, ab x, rfl, f5, tb1, tb2, fun H6 s6 => ?_⟩
          refine ⟨by show 2 ≤ sizeLine; decide, fun t7 n7 => ?_⟩
          have s7 := same_upd (o := .tup [.ref p, .str (S (tdl (ab x)))]) n7
          have e7 : (upd H6 t7 (.tup [.ref p, .str (S (tdl (ab x)))])) t7 = some (.tup [.ref p, .str (S (tdl (ab x)))]) := upd_same
          generalize upd H6 t7 (.tup [.ref p, .str (S (tdl (ab x)))]) = H7 at s7 e7 ⊢
          have s57 := s5.trans (s6.trans s7)
          have eD := s57 _ _ e2
          refine ⟨D, _, _, rfl, rfl, eD, by rw [List.length_map]; exact small1000 (by omega), ?_⟩
          exact app H7 t7 s57 e7 eD
        · have hwl : wl ≠ [] := fun z => hw (by rw [← m2, z]; rfl)
          refine iteF' (by
            cases wl with
            | nil => exact absurd rfl hwl
            | cons _ _ => rfl) ?_
          refine ⟨wl, rfl, s2, e2, r2, ?_⟩
          rw [if_neg (fun z => by
            rcases z with z | z
            · exact z h0
            · exact hw z), List.append_nil]
          exact m2
      replace app := app (.inl h0)
      rw [decide_eq_false h0]
      refine iteT' rfl ?_
      refine ⟨.ref D, rfl, .inl ⟨rfl, _, SqL.of e2⟩, _, rfl, _, rfl, p, x, rfl, hp.same s2, fun H5 t5 s5 f5 => ?_⟩
      refine ⟨t5, ab x, rfl, f5, tb1, tb2, fun H6 s6 => ?_⟩
      refine ⟨by show 2 ≤ sizeLine; decide, fun t7 n7 => ?_⟩
      have s7 := same_upd (o := .tup [.ref p, .str (S (tdl (ab x)))]) n7
      have e7 : (upd H6 t7 (.tup [.ref p, .str (S (tdl (ab x)))])) t7 = some (.tup [.ref p, .str (S (tdl (ab x)))]) := upd_same
      generalize upd H6 t7 (.tup [.ref p, .str (S (tdl (ab x)))]) = H7 at s7 e7 ⊢
      have s57 := s5.trans (s6.trans s7)
      have eD := s57 _ _ e2
      refine ⟨D, _, _, rfl, rfl, eD, by rw [List.length_map]; exact small1000 (by omega), ?_⟩
      exact app H7 t7 s57 e7 eD
    rintro σ' H3 ⟨wl, rfl, s3, e3, r3, m3⟩
    rw [show (Str.ofString "") = S [] from lit_nil, show (Str.ofString " - ") = S [32, 45, 32] by decide +kernel, show (Str.ofString " + ") = S [32, 43, 32] by decide +kernel, show (Str.ofString "-") = S [45] from lit_minus]
    have hT : ∀ w ∈ wl, w.2.2.length ≤ 16 := fun w hw => by
      have hm : w.2 ∈ wl.map (·.2) := List.mem_map_of_mem hw
      rw [m3] at hm
      rcases List.mem_append.mp hm with h | h
      · exact (hne _ h).2.2
      · split at h
        · rw [List.mem_singleton.mp h]
          exact (tx_len (o := none) hx fun m hm => nomatch hm).1
        · cases h
    have lw5 : wl.length ≤ 5 := by
      have := congrArg List.length m3
      rw [List.length_map, List.length_append] at this
      rw [this]
      have l1 : (wts (nms.zip (ws.map (·.2)))).length ≤ 4 := by
        unfold wts
        rw [List.length_map]
        refine Nat.le_trans (List.length_filter_le _ _) ?_
        rw [List.length_zip]
        omega
      split
      · exact Nat.add_le_add l1 (Nat.le_refl 1)
      · exact Nat.le_trans (Nat.add_le_add l1 (Nat.zero_le 1)) (by decide)
    refine ⟨fun σ' H' => ∃ v6 v7 v8, σ' = [some (.ref l), some (.ref t), some (.ref p), some (.ref q), some (.ref D), some (.str (S (etx nms x (ws.map (·.2))))), v6, v7, v8, none, none] ∧ Same H H', ?_, ?_⟩
    · refine ⟨_, rfl, D, rfl, ⟨_, SqL.of e3⟩, for_list (K := K) (a := D) (xs := wl.map fun w => .ref w.1) (fun i σ' H' => ∃ v6 v7 v8, σ' = [some (.ref l), some (.ref t), some (.ref p), some (.ref q), some (.ref D), some (.str (S (jall ((wl.map (·.2)).take i) []))), v6, v7, v8, none, none] ∧ Same H3 H' ∧ (jall ((wl.map (·.2)).take i) []).length ≤ 19 * i) ⟨_, _, _, rfl, Same.refl _, Nat.zero_le _⟩ ?_ ?_ ?_⟩
      · rintro i σ' H' _ ⟨v6, v7, v8, rfl, s4, _⟩
        exact s4.seq (SqL.of e3)
      · rintro i v σ' H' hi ⟨v6, v7, v8, rfl, s4, hjl⟩
        obtain ⟨w, rfl, hw⟩ : ∃ w, v = .ref w.1 ∧ wl[i]? = some w := by
          rw [List.getElem?_map] at hi
          cases e : wl[i]? with
          | none =>
            rw [e] at hi
            cases hi
          | some w =>
            rw [e] at hi
            exact ⟨w, (Option.some.inj hi).symm, rfl⟩
        have mw : w ∈ wl := List.mem_of_getElem? hw
        obtain ⟨u, u1, u2⟩ := (r3 w mw).up s4
        have hil : i < wl.length := (List.getElem?_eq_some_iff.mp hw).1
        have jt : jall ((wl.map (·.2)).take (i + 1)) [] = jn (jall ((wl.map (·.2)).take i) []) w.2.1 w.2.2 := by
          unfold jall
          rw [List.take_add_one, List.getElem?_map, hw, List.foldl_append]
          rfl
        have h16 := hT w mw
        rw [jt]
        generalize jall ((wl.map (·.2)).take i) [] = a at hjl ⊢
        refine ⟨w.1, _, rfl, u1, rfl, _, _, rfl, _, _, rfl, rfl, ?_⟩
        refine ⟨_, rfl, u, w.2.1, rfl, u2, ?_⟩
        have es : decide ((if w.2.1.num < 0 then (-1 : Int) else if w.2.1.num = 0 then 0 else 1) < 0) = decide (w.2.1.num < 0) := by
          rw [decide_eq_decide]
          split
          · exact ⟨fun _ => by assumption, fun _ => by decide⟩
          · split
            · exact ⟨fun z => absurd z (by decide), fun z => absurd z (by assumption)⟩
            · exact ⟨fun z => absurd z (by decide), fun z => absurd z (by assumption)⟩
        refine ⟨_, _, rfl, rfl, ?_⟩
        dsimp only
        rw [es]
        have hjn : (jn a w.2.1 w.2.2).length ≤ 19 * (i + 1) := by
          have := (jn_len (t := a) (s := w.2.1) (w := List.replicate w.2.2.length 97) ⟨by rw [List.length_replicate]; exact h16, sgs_none fun c hc => by rw [List.eq_of_mem_replicate hc]; decide⟩).1
          have e2 : (jn a w.2.1 (List.replicate w.2.2.length 97)).length = (jn a w.2.1 w.2.2).length := by
            unfold jn
            by_cases ha : a = []
            · rw [if_pos ha, if_pos ha, List.length_append, List.length_append, List.length_replicate]
            · rw [if_neg ha, if_neg ha, List.length_append, List.length_append, List.length_append, List.length_append, List.length_replicate]
          omega
        have hza : (S a).length ≤ sizeLine := S_sl (by omega)
        refine ⟨_, rfl, _, ⟨hza, rfl⟩, ?_⟩
        unfold jn at hjn ⊢
        by_cases ha : a = []
        · rw [if_pos ha] at hjn ⊢
          refine iteF' (by rw [ha]; rfl) ?_
          by_cases hn : w.2.1.num < 0
          · rw [if_pos hn] at hjn ⊢
            refine ⟨_, rfl, _, rfl, iteT' (decide_eq_true hn) ?_⟩
            refine ⟨_, rfl, [45], w.2.2, rfl, rfl, by have := h16; show 1 + _ ≤ _; omega, ?_⟩
            exact ⟨_, _, _, rfl, s4, hjn⟩
          · rw [if_neg hn] at hjn ⊢
            refine ⟨_, rfl, _, rfl, iteF' (decide_eq_false hn) ?_⟩
            refine ⟨_, rfl, [], w.2.2, rfl, rfl, by have := h16; show 0 + _ ≤ _; omega, ?_⟩
            exact ⟨_, _, _, rfl, s4, hjn⟩
        · rw [if_neg ha] at hjn ⊢
          refine iteT' (by
            rw [SX.S_len, bne_iff_ne]
            intro z
            exact ha (List.length_eq_zero_iff.mp (by omega))) ?_
          by_cases hn : w.2.1.num < 0
          · rw [if_pos hn] at hjn ⊢
            refine ⟨_, rfl, _, rfl, _, rfl, iteT' (decide_eq_true hn) ?_⟩
            refine ⟨a, [32, 45, 32], rfl, rfl, by show _ + 3 ≤ _; omega, ?_⟩
            refine ⟨_, rfl, a ++ [32, 45, 32], w.2.2, rfl, rfl, by rw [List.length_append]; show _ + 3 + _ ≤ _; omega, ?_⟩
            rw [List.append_assoc]
            exact ⟨_, _, _, rfl, s4, hjn⟩
          · rw [if_neg hn] at hjn ⊢
            refine ⟨_, rfl, _, rfl, _, rfl, iteF' (decide_eq_false hn) ?_⟩
            refine ⟨a, [32, 43, 32], rfl, rfl, by show _ + 3 ≤ _; omega, ?_⟩
            refine ⟨_, rfl, a ++ [32, 43, 32], w.2.2, rfl, rfl, by rw [List.length_append]; show _ + 3 + _ ≤ _; omega, ?_⟩
            rw [List.append_assoc]
            exact ⟨_, _, _, rfl, s4, hjn⟩
      · rintro σ' H' ⟨v6, v7, v8, rfl, s4, hjl⟩
        refine ⟨v6, v7, v8, ?_, s3.trans s4⟩
        rw [List.length_map, ← List.length_map (f := fun w : Addr × Rat × List Nat => w.2), List.take_length, m3, jall_all fun p hp => (hne p hp).1]
    rintro σ' H4 ⟨v6, v7, v8, rfl, s4⟩
    exact ⟨_, rfl, k H4 s4⟩
def spLLawNumber (K : PySem.W.Frag) : Sp := fun vs H Q _ => ∃ (a : Addr) (ns : List Int) (k : Nat), vs = [.ref a, .int k] ∧ SqL K H a (zs ns) ∧ ∀ c : Int, Q (.int c) H
theorem okLLawNumber {fLLawNumber : Addr} {fdLLawNumber : FuncData} (F : Fun K "_law_number" "_law_number" sLLawNumber fLLawNumber fdLLawNumber) (T : Txt mg) {aDIGITS : Tok} {aLETTERS : Tok} {aWORD_CHARACTERS : Tok} {aNAME_LENGTH : Tok} {aZERO : Addr} {aONE : Addr} {aMOST_DIGITS : Tok} {aSHORT : Tok} (CT : Cons K mg aDIGITS aLETTERS aWORD_CHARACTERS aNAME_LENGTH aZERO aONE aMOST_DIGITS aSHORT) {CPartError CTextFault CNought : Addr} (EX : Exns K mg CPartError CTextFault CNought) {fIni : Addr} {fdIni : FuncData} (FL : Flt K mg CPartError CTextFault CNought fIni) (GIni : FnOk P w K mg base CX0 1 fIni fdIni ["self", "line", "column"] (spFIni K CTextFault)) (bIni : Binds K fdIni ["self", "line", "column"] []) :
    FnOk P w K mg base CX0 1 fLLawNumber fdLLawNumber ["script", "k"] (spLLawNumber K) := by
  refine F.ok scLLawNumber (fun vs H Q E h => ?_) (fun cdv A outer s H vs Q E hr h => ?_)
  · obtain ⟨a, ns, k, rfl, hS, q⟩ := h
    rfl
  · obtain ⟨a, ns, k, rfl, hS, q⟩ := h
    refine ⟨_, (C8.pss_cut (ps_set (i := 2) scLLawNumber.nd rfl (Or.inl rfl) (pe_ifExp (pt_cmpR op_lt (pv 1) (pe_callB call_len_seq (by rfl) T.len PySem.boot_len (pa_cons (pv 0) pa_nil)) (nomark _)) (pe_ix ix_list (pv 0) (pv 1) (fun _ _ => rfl)) (pe_op op_add (pe_op op_mul pe_int (pv 1)) pe_int)))
      (C8.pss_cut (ps_if (pt_cmpR op_lt (pv 2) pe_int (nomark _))
        (pss_one (ps_set (i := 2) scLLawNumber.nd rfl (Or.inl rfl) (pe_op op_sub (pe_op op_mul (pe_un un_neg pe_int) (pv 2)) pe_int)))
        pss_nil)
      (pss_cons (ps_if (pt_cmpR op_lt (pv 2) (pe_op op_pow pe_int pe_int) (nomark _))
        (pss_cons (ps_set (i := 3) scLLawNumber.nd rfl (Or.inl rfl) (pe_op op_mod (pe_callTy call_int1 (by rfl) T.int (by decide +kernel) (pa_cons (pe_op op_add (pe_op op_add (pe_op op_mul (pv 2) pe_int) (pe_op op_mul (pv 1) pe_int)) pe_int) pa_nil)) pe_int))
        (pss_cons (ps_set (i := 4) scLLawNumber.nd rfl (Or.inl rfl) (pe_op op_mod (pe_callTy call_int1 (by rfl) T.int (by decide +kernel) (pa_cons (pe_op op_add (pe_op op_add (pe_op op_mul (pv 3) pe_int) (pe_op op_mul (pv 2) pe_int)) (pv 1)) pa_nil)) pe_int))
        (pss_one (ps_ret (pe_op op_add (pe_op op_mul (pv 3) pe_int) (pv 4))))))
        pss_nil)
      (pss_one (ps_ret (pv 2)))))), ?_⟩
    refine ⟨fun σ' H' => ∃ c : Int, σ' = [some (.ref a), some (.int k), some (.int c), none, none] ∧ H' = H, ?_, ?_⟩
    · refine ⟨_, rfl, .ref a, rfl, a, _, rfl, .inl hS, _, _, rfl, rfl, _, rfl, ite2 (fun hlt => ?_) (fun _ => ?_)⟩
      · have h1 := of_decide_eq_true hlt
        rw [show zs ns = ns.map V.int from rfl, List.length_map] at h1
        have h2 : k < ns.length := by omega
        have h3 : (zs ns)[k]? = some (.int ns[k]) := by
          rw [show zs ns = ns.map V.int from rfl, List.getElem?_map, List.getElem?_eq_getElem h2]
          rfl
        exact ⟨.ref a, rfl, _, rfl, a, _, _, _, rfl, rfl, hS, atI_nat h3, _, rfl, rfl⟩
      · walk_at "rd"
        exact rfl
    · rintro σ' H' ⟨c, rfl, rfl⟩
      refine ⟨fun σ' H2 => ∃ c : Int, σ' = [some (.ref a), some (.int k), some (.int c), none, none] ∧ H2 = H', ?_, ?_⟩
      · walk_at "rd"
        refine ite2 (fun _ => ?_) (fun _ => ⟨_, rfl, rfl⟩)
        walk_at "rd"
        exact rfl
      · rintro σ' H2 ⟨c, rfl, rfl⟩
        walk_at "rd"
        refine ite2 (fun _ => ?_) (fun _ => ⟨_, rfl, q _⟩)
        walk_at "rd"
        exact q _
def spLLawFraction (K : PySem.W.Frag) : Sp := fun vs H Q _ => ∃ n d : Int, vs = [.int n, .int d] ∧ n.natAbs < 2 ^ 1800 ∧ d.natAbs < 2 ^ 1800 ∧ d ≠ 0 ∧ ∀ (H' : Hp) (t : Addr), Same H H' → H' t = some (.tup (zs (rd2 n d))) → Q (.ref t) H'
theorem okLLawFraction {fLLawFraction : Addr} {fdLLawFraction : FuncData} (F : Fun K "_law_fraction" "_law_fraction" sLLawFraction fLLawFraction fdLLawFraction) (T : Txt mg) {aDIGITS : Tok} {aLETTERS : Tok} {aWORD_CHARACTERS : Tok} {aNAME_LENGTH : Tok} {aZERO : Addr} {aONE : Addr} {aMOST_DIGITS : Tok} {aSHORT : Tok} (CT : Cons K mg aDIGITS aLETTERS aWORD_CHARACTERS aNAME_LENGTH aZERO aONE aMOST_DIGITS aSHORT) {CPartError CTextFault CNought : Addr} (EX : Exns K mg CPartError CTextFault CNought) {fIni : Addr} {fdIni : FuncData} (FL : Flt K mg CPartError CTextFault CNought fIni) (GIni : FnOk P w K mg base CX0 1 fIni fdIni ["self", "line", "column"] (spFIni K CTextFault)) (bIni : Binds K fdIni ["self", "line", "column"] []) :
    FnOk P w K mg base CX0 1 fLLawFraction fdLLawFraction ["number", "divisor"] (spLLawFraction K) := by
  refine F.ok scLLawFraction (fun vs H Q E h => ?_) (fun cdv A outer s H vs Q E hr h => ?_)
  · obtain ⟨n, d, rfl, bn, bd, hd, k⟩ := h
    rfl
  · obtain ⟨n, d, rfl, bn, bd, hd, k⟩ := h
    refine ⟨_, (C8.pss_cut (ps_set (i := 2) scLLawFraction.nd rfl (Or.inl rfl) (pe_ifExp (pt_cmpR op_ge (pv 0) pe_int (nomark _)) (pv 0) (pe_un un_neg (pv 0))))
      (C8.pss_cut (ps_set (i := 3) scLLawFraction.nd rfl (Or.inl rfl) (pe_ifExp (pt_cmpR op_ge (pv 1) pe_int (nomark _)) (pv 1) (pe_un un_neg (pv 1))))
      (C8.pss_cut (ps_for PassesOwn.never rfl (pi_range1 rfl T.range (pa_cons (pe_op op_add (pe_op op_add (pe_op op_mul pe_int (pe_callB call_len_str (by rfl) T.len PySem.boot_len (pa_cons (pe_callTy call_str_int (by rfl) T.str (by decide +kernel) (pa_cons (pv 2) pa_nil)) pa_nil))) (pe_op op_mul pe_int (pe_callB call_len_str (by rfl) T.len PySem.boot_len (pa_cons (pe_callTy call_str_int (by rfl) T.str (by decide +kernel) (pa_cons (pv 3) pa_nil)) pa_nil)))) pe_int) pa_nil)) (pg_name (i := 4) scLLawFraction.nd rfl (Or.inl rfl))
        (pss_cons (ps_if (pt_cmpR op_eq (pv 3) pe_int (nomark _))
          (pss_one ps_break)
          pss_nil)
        (pss_cons (ps_set (i := 5) scLLawFraction.nd rfl (Or.inl rfl) (pe_op op_modN (pe_callTy call_int1 (by rfl) T.int (by decide +kernel) (pa_cons (pv 2) pa_nil)) (pv 3)))
        (pss_cons (ps_set (i := 2) scLLawFraction.nd rfl (Or.inl rfl) (pv 3))
        (pss_one (ps_set (i := 3) scLLawFraction.nd rfl (Or.inl rfl) (pv 5)))))))
      (C8.pss_cut (ps_if (pt_cmpR op_lt (pv 1) pe_int (nomark _))
        (pss_one (ps_set (i := 2) scLLawFraction.nd rfl (Or.inl rfl) (pe_un un_neg (pv 2))))
        pss_nil)
      (pss_one (ps_ret (pe_tup (pa_cons (pe_op op_fdivX (pv 0) (pv 2)) (pa_cons (pe_op op_fdivX (pv 1) (pv 2)) pa_nil))))))))), ?_⟩
    refine ⟨fun σ' H' => σ' = [some (.int n), some (.int d), some (.int ((n.natAbs : Nat) : Int)), none, none, none] ∧ H' = H, ?_, ?_⟩
    · walk_at "rd"
      refine ite2 (fun g => ?_) (fun g => ?_)
      · have g0 : 0 ≤ n := of_decide_eq_true g
        have e0 : ((n.natAbs : Nat) : Int) = n := by omega
        rw [e0]
        exact ⟨_, rfl, rfl, rfl⟩
      · have g0 : ¬ 0 ≤ n := fun z => g (decide_eq_true z)
        have e0 : ((n.natAbs : Nat) : Int) = -n := by omega
        rw [e0]
        exact ⟨_, rfl, _, rfl, rfl, rfl⟩
    rintro σ' H1 ⟨rfl, rfl⟩
    refine ⟨fun σ' H' => σ' = [some (.int n), some (.int d), some (.int ((n.natAbs : Nat) : Int)), some (.int ((d.natAbs : Nat) : Int)), none, none] ∧ H' = H1, ?_, ?_⟩
    · walk_at "rd"
      refine ite2 (fun g => ?_) (fun g => ?_)
      · have g0 : 0 ≤ d := of_decide_eq_true g
        have e0 : ((d.natAbs : Nat) : Int) = d := by omega
        rw [e0]
        exact ⟨_, rfl, rfl, rfl⟩
      · have g0 : ¬ 0 ≤ d := fun z => g (decide_eq_true z)
        have e0 : ((d.natAbs : Nat) : Int) = -d := by omega
        rw [e0]
        exact ⟨_, rfl, _, rfl, rfl, rfl⟩
    rintro σ' H2 ⟨rfl, rfl⟩
    have l1 : ((n.natAbs : Nat) : Int).natAbs.log2 < 1920 := by
      rw [Int.natAbs_natCast]
      exact Nat.lt_of_lt_of_le (PySem.Flt.log2_lt_of (by decide) bn) (by decide)
    have l2 : ((d.natAbs : Nat) : Int).natAbs.log2 < 1920 := by
      rw [Int.natAbs_natCast]
      exact Nat.lt_of_lt_of_le (PySem.Flt.log2_lt_of (by decide) bd) (by decide)
    have z1 := PySem.int_text_length_le (k := 1920) (by decide) l1
    have z2 := PySem.int_text_length_le (k := 1920) (by decide) l2
    obtain ⟨N, hN⟩ : ∃ N : Nat, N = 4 * (toString ((n.natAbs : Nat) : Int)).length + 4 * (toString ((d.natAbs : Nat) : Int)).length + 60 := ⟨_, rfl⟩
    have eN : (4 : Int) * ((Str.ofString (toString ((n.natAbs : Nat) : Int))).length : Nat) + 4 * ((Str.ofString (toString ((d.natAbs : Nat) : Int))).length : Nat) + 60 = (N : Int) := by
      rw [PySem.ofString_length, PySem.ofString_length, hN]
      omega
    refine ⟨fun σ' H' => ∃ v3 v4 v5 : Option V, σ' = [some (.int n), some (.int d), some (.int ((Nat.gcd n.natAbs d.natAbs : Nat) : Int)), v3, v4, v5] ∧ H' = H2, ?_, ?_⟩
    · refine ⟨_, rfl, _, rfl, l1, _, rfl, PySem.int_text_fits l1, _, _, rfl, rfl, .inl (by constructor <;> decide), ?_⟩
      refine ⟨_, rfl, _, rfl, l2, _, rfl, PySem.int_text_fits l2, _, _, rfl, rfl, .inl (by constructor <;> decide), ?_⟩
      refine ⟨_, _, rfl, rfl, _, _, rfl, rfl, N, congrArg (fun z => [V.int z]) eN, by omega, by omega, ?_⟩
      refine for_range (n := N) (fun i σ' H' => ∃ (c e : Nat) (v4 v5 : Option V), σ' = [some (.int n), some (.int d), some (.int c), some (.int e), v4, v5] ∧ H' = H2 ∧ Eu n.natAbs d.natAbs i c e) ⟨_, _, none, none, rfl, rfl, Eu.start _ _⟩ ?_ ?_
      · rintro i σ' H' hi ⟨c, e, v4, v5, rfl, rfl, eu⟩
        walk_at "rd"
        refine ite2 (fun g => ?_) (fun g => ?_)
        · have he0 : e = 0 := by
            have := eq_of_dec g
            omega
          subst he0
          refine ⟨some (.int ((0 : Nat) : Int)), some (.int (0 + (i : Int))), v5, ?_, rfl⟩
          rw [← eu.end]
          rfl
        · have he0 : e ≠ 0 := fun z => g (decide_eq_true (by rw [z]; rfl))
          walk_at "rd"
          refine ⟨by omega, ?_⟩
          walk_at "rd"
          refine ⟨e, c % e, some (.int (0 + (i : Int))), some (.int ((c % e : Nat) : Int)), ?_, rfl, eu.turn (by omega)⟩
          rw [← fmod_nat c e]
          rfl
      · rintro σ' H' ⟨c, e, v4, v5, rfl, rfl, eu⟩
        have he0 : e = 0 := eu.stop (by omega) (eu_digits hN)
        subst he0
        refine ⟨some (.int ((0 : Nat) : Int)), v4, v5, ?_, rfl⟩
        rw [← eu.end]
    rintro σ' H3 ⟨v3, v4, v5, rfl, rfl⟩
    refine ⟨fun σ' H' => σ' = [some (.int n), some (.int d), some (.int (sg n d)), v3, v4, v5] ∧ H' = H3, ?_, ?_⟩
    · walk_at "rd"
      refine ite2 (fun g2 => ?_) (fun g2 => ?_)
      · refine ⟨_, rfl, _, rfl, ?_, rfl⟩
        unfold sg
        rw [if_pos (of_decide_eq_true g2)]
        rfl
      · refine ⟨?_, rfl⟩
        unfold sg
        rw [if_neg (fun z => g2 (decide_eq_true z))]
    rintro σ' H4 ⟨rfl, rfl⟩
    have hs := sg_ne (n := n) hd
    have hsb : (sg n d).natAbs < 2 ^ 1800 := by
      rw [sg_abs]
      exact Nat.lt_of_le_of_lt (Nat.le_of_dvd (by omega) (Nat.gcd_dvd_right _ _)) bd
    refine ⟨_, rfl, _, rfl, _, _, rfl, rfl, wide_divx hs hsb (by decide) (by decide), _, rfl, _, rfl, _, _, rfl, rfl, wide_divx hs hsb (by decide) (by decide), by show 2 ≤ sizeLine; decide, fun t ht => ?_⟩
    exact k _ t (same_upd ht) upd_same
theorem sm_of {n d : Int} (hd : d ≠ 0) (h1 : n.natAbs ≤ 1000) (h2 : d.natAbs ≤ 12) : Sm (Rat.divInt n d) := by
  obtain ⟨p, q, e, l1, l2, _⟩ := rd2_le (n := n) hd
  rw [rat_rd hd] at e
  have e1 : (Rat.divInt n d).num = p := by injection e
  have e2 : ((Rat.divInt n d).den : Int) = q := by
    injection e with _ e
    injection e
  refine ⟨by rw [e1]; omega, ?_⟩
  have : (Rat.divInt n d).den = q.natAbs := by rw [← e2]; rfl
  omega
def sml (d : Int) : Rat := if d % 4 = 0 then 0 else if d % 4 = 1 then ((1 - 2 * (d / 4 % 2) : Int) : Rat) else Rat.divInt (d / 4 % 2001 - 1000) (1 + d / 8011 % 12)
theorem sml_ok (d : Int) : Sm (sml d) := by
  have n3 : ∀ a b : Int, 0 < b → 0 ≤ a % b ∧ a % b < b := fun a b h => ⟨Int.emod_nonneg a (by omega), Int.emod_lt_of_pos a h⟩
  unfold sml
  split
  · exact ⟨by decide, by decide⟩
  · split
    · have := n3 (d / 4) 2 (by decide)
      exact ⟨by show (1 - 2 * (d / 4 % 2) : Int).natAbs ≤ 1000; omega, by show 1 ≤ 12; decide⟩
    · have h1 := n3 (d / 4) 2001 (by decide)
      have h2 := n3 (d / 8011) 12 (by decide)
      exact sm_of (by omega) (by omega) (by omega)
def spLLawSmall (K : PySem.W.Frag) : Sp := fun vs H Q _ => ∃ d : Int, vs = [.int d] ∧ ∀ (H' : Hp) (t : Addr), Same H H' → Fx K H' t (sml d) → Q (.ref t) H'
theorem okLLawSmall {fLLawSmall : Addr} {fdLLawSmall : FuncData} (F : Fun K "_law_small" "_law_small" sLLawSmall fLLawSmall fdLLawSmall) (T : Txt mg) {aDIGITS : Tok} {aLETTERS : Tok} {aWORD_CHARACTERS : Tok} {aNAME_LENGTH : Tok} {aZERO : Addr} {aONE : Addr} {aMOST_DIGITS : Tok} {aSHORT : Tok} (CT : Cons K mg aDIGITS aLETTERS aWORD_CHARACTERS aNAME_LENGTH aZERO aONE aMOST_DIGITS aSHORT) {CPartError CTextFault CNought : Addr} (EX : Exns K mg CPartError CTextFault CNought) {fIni : Addr} {fdIni : FuncData} (FL : Flt K mg CPartError CTextFault CNought fIni) (GIni : FnOk P w K mg base CX0 1 fIni fdIni ["self", "line", "column"] (spFIni K CTextFault)) (bIni : Binds K fdIni ["self", "line", "column"] [])
    {fLLawFraction : Addr} {fdLLawFraction : FuncData} (GLLawFraction : FnOk P w K mg base CX0 1 fLLawFraction fdLLawFraction ["number", "divisor"] (spLLawFraction K)) (gLLawFraction : mg "_law_fraction" = some (.ref fLLawFraction)) (kpLLawFraction : PySem.W.keepIn K (.ref fLLawFraction) = true) (bLLawFraction : Binds K fdLLawFraction ["number", "divisor"] []) :
    FnOk P w K mg base CX0 2 fLLawSmall fdLLawSmall ["draw"] (spLLawSmall K) := by
  refine F.ok scLLawSmall (fun vs H Q E h => ?_) (fun cdv A outer s H vs Q E hr h => ?_)
  · obtain ⟨d, rfl, k⟩ := h
    rfl
  · obtain ⟨d, rfl, k⟩ := h
    refine ⟨_, (pss_cons (ps_if (pt_cmpR op_eq (pe_op op_mod (pe_callTy call_int1 (by rfl) T.int (by decide +kernel) (pa_cons (pv 0) pa_nil)) pe_int) pe_int (nomark _))
        (pss_one (ps_ret (pe_tup (pa_cons pe_int (pa_cons pe_int pa_nil)))))
        pss_nil)
      (pss_cons (ps_if (pt_cmpR op_eq (pe_op op_mod (pe_callTy call_int1 (by rfl) T.int (by decide +kernel) (pa_cons (pv 0) pa_nil)) pe_int) pe_int (nomark _))
        (pss_one (ps_ret (pe_tup (pa_cons (pe_op op_sub pe_int (pe_op op_mul pe_int (pe_op op_mod (pe_callTy call_int1 (by rfl) T.int (by decide +kernel) (pa_cons (pe_op op_fdiv (pv 0) pe_int) pa_nil)) pe_int))) (pa_cons pe_int pa_nil)))))
        pss_nil)
      (pss_one (ps_ret (pe_call GLLawFraction hr (by rfl) gLLawFraction kpLLawFraction bLLawFraction .nil pass0 (pa_cons (pe_op op_sub (pe_op op_mod (pe_callTy call_int1 (by rfl) T.int (by decide +kernel) (pa_cons (pe_op op_fdiv (pv 0) pe_int) pa_nil)) pe_int) pe_int) (pa_cons (pe_op op_add pe_int (pe_op op_mod (pe_callTy call_int1 (by rfl) T.int (by decide +kernel) (pa_cons (pe_op op_fdiv (pv 0) pe_int) pa_nil)) pe_int)) pa_nil))))))), ?_⟩
    have n3 : ∀ a b : Int, 0 < b → 0 ≤ a % b ∧ a % b < b := fun a b h => ⟨Int.emod_nonneg a (by omega), Int.emod_lt_of_pos a h⟩
    unfold sml at k
    walk_at "go"
    refine ite2 (fun g => ?_) (fun g => ?_)
    · rw [if_pos (eq_of_dec g)] at k
      refine ⟨by show 2 ≤ sizeLine; decide, fun t nt => ?_⟩
      exact k _ t (same_upd nt) (fx_litE upd_same rfl rfl)
    rw [if_neg (ne_of_nodec g)] at k
    walk_at "go"
    refine ite2 (fun g2 => ?_) (fun g2 => ?_)
    · rw [if_pos (eq_of_dec g2)] at k
      walk_at "go"
      refine ⟨by show 2 ≤ sizeLine; decide, fun t nt => ?_⟩
      exact k _ t (same_upd nt) (fx_litE upd_same rfl rfl)
    rw [if_neg (ne_of_nodec g2)] at k
    walk_at "go"
    have h1 := n3 (d / 4) 2001 (by decide)
    have h2 := n3 (d / 8011) 12 (by decide)
    have c3 : (10 : Nat) ^ 4 < 2 ^ 1800 := Nat.lt_of_lt_of_le (show (10 : Nat) ^ 4 < 2 ^ 40 by decide) (Nat.pow_le_pow_right (by decide) (by decide))
    refine ⟨Nat.lt_of_le_of_lt (by omega) c3, Nat.lt_of_le_of_lt (by omega) c3, by omega, fun H' t s e => k H' t s (fx_rd (by omega) e)⟩
def spLLawTold (K : PySem.W.Frag) : Sp := fun vs H Q _ => ∃ (t : Addr) (r : Rat), vs = [.ref t] ∧ Fx K H t r ∧ Sm r ∧ Q (.str (S (tdl r))) H
theorem okLLawTold {fLLawTold : Addr} {fdLLawTold : FuncData} (F : Fun K "_law_told" "_law_told" sLLawTold fLLawTold fdLLawTold) (T : Txt mg) {aDIGITS : Tok} {aLETTERS : Tok} {aWORD_CHARACTERS : Tok} {aNAME_LENGTH : Tok} {aZERO : Addr} {aONE : Addr} {aMOST_DIGITS : Tok} {aSHORT : Tok} (CT : Cons K mg aDIGITS aLETTERS aWORD_CHARACTERS aNAME_LENGTH aZERO aONE aMOST_DIGITS aSHORT) {CPartError CTextFault CNought : Addr} (EX : Exns K mg CPartError CTextFault CNought) {fIni : Addr} {fdIni : FuncData} (FL : Flt K mg CPartError CTextFault CNought fIni) (GIni : FnOk P w K mg base CX0 1 fIni fdIni ["self", "line", "column"] (spFIni K CTextFault)) (bIni : Binds K fdIni ["self", "line", "column"] []) :
    FnOk P w K mg base CX0 1 fLLawTold fdLLawTold ["found"] (spLLawTold K) := by
  refine F.ok scLLawTold (fun vs H Q E h => ?_) (fun cdv A outer s H vs Q E hr h => ?_)
  · obtain ⟨t, r, rfl, hA, hs, k⟩ := h
    rfl
  · obtain ⟨t, r, rfl, hA, hs, k⟩ := h
    refine ⟨_, (pss_one (ps_ret (pe_ifExp (pt_cmpR op_eq (pe_ix ix_tup (pv 0) pe_int (fun _ _ => rfl)) pe_int (nomark _)) (pe_callTy call_str_int (by rfl) T.str (by decide +kernel) (pa_cons (pe_ix ix_tup (pv 0) pe_int (fun _ _ => rfl)) pa_nil)) (pe_op op_addS (pe_op op_addS (pe_callTy call_str_int (by rfl) T.str (by decide +kernel) (pa_cons (pe_ix ix_tup (pv 0) pe_int (fun _ _ => rfl)) pa_nil)) pe_str) (pe_callTy call_str_int (by rfl) T.str (by decide +kernel) (pa_cons (pe_ix ix_tup (pv 0) pe_int (fun _ _ => rfl)) pa_nil)))))), ?_⟩
    have b20 : (1000 : Nat) < 10 ^ 20 := by decide
    have lg : ∀ z : Int, z.natAbs ≤ 1000 → z.natAbs.log2 < 1920 := fun z h => Nat.lt_of_lt_of_le (PySem.Flt.log2_lt_of (k := 70) (by decide) (Nat.lt_of_le_of_lt h (by decide))) (by decide)
    rw [show (Str.ofString "/") = S [47] from lit_slash]
    have l4 := TL.numL_len (n := r.num.natAbs) (k := 4) (by decide) (Nat.lt_of_le_of_lt hs.1 (by decide))
    have l2 := TL.numL_len (n := r.den) (k := 2) (by decide) (Nat.lt_of_le_of_lt hs.2 (by decide))
    have sl : ((if r.num < 0 then [45] else ([] : List Nat)) ++ TL.numL r.num.natAbs).length ≤ 6 := by
      rw [List.length_append]
      split
      · show 1 + _ ≤ 6
        omega
      · show 0 + _ ≤ 6
        omega
    have sd : Str.ofString (toString ((r.den : Nat) : Int)) = S (TL.numL r.den) := by
      rw [str_int, if_neg (by omega)]
      rfl
    unfold tdl at k
    walk_at "go"
    refine ite2 (fun g => ?_) (fun g => ?_)
    · have g1 : r.den = 1 := by have := eq_of_dec g; omega
      rw [if_pos g1, List.append_nil] at k
      walk_at "go"
      refine ⟨lg _ hs.1, ?_⟩
      rw [str_int]
      exact k
    · have g1 : ¬ r.den = 1 := by have := ne_of_nodec g; omega
      rw [if_neg g1] at k
      refine ⟨_, rfl, t, _, 0, _, rfl, rfl, hA, atI_nat (j := 0) rfl, _, rfl, lg _ hs.1, ?_⟩
      rw [str_int]
      refine ⟨_, [47], rfl, rfl, by show _ + 1 ≤ _; omega, ?_⟩
      refine ⟨_, rfl, t, _, 1, _, rfl, rfl, hA, atI_nat (j := 1) rfl, _, rfl, lg _ (by rw [Int.natAbs_natCast]; have := hs.2; omega), ?_⟩
      rw [sd]
      refine ⟨_, _, rfl, rfl, by rw [List.length_append]; show _ + 1 + _ ≤ _; omega, ?_⟩
      rw [List.append_assoc, List.append_assoc]
      exact k
def spLLawText (K : PySem.W.Frag) : Sp := fun vs H Q _ => ∃ (l t : Addr) (nms : List (List Nat)) (x : Rat) (xs : List Rat), vs = [.ref l, .ref t] ∧ SqL K H l (nms.map sv) ∧ NmsOk nms ∧ Vx K H t x xs ∧ xs.length = nms.length ∧ Sm x ∧ (∀ s ∈ xs, Sm s) ∧ ∀ (H' : Hp), Same H H' → Q (.str (S (etx nms x xs))) H'
theorem okLLawText {fLLawText : Addr} {fdLLawText : FuncData} (F : Fun K "_law_text" "_law_text" sLLawText fLLawText fdLLawText) (T : Txt mg) {aDIGITS : Tok} {aLETTERS : Tok} {aWORD_CHARACTERS : Tok} {aNAME_LENGTH : Tok} {aZERO : Addr} {aONE : Addr} {aMOST_DIGITS : Tok} {aSHORT : Tok} (CT : Cons K mg aDIGITS aLETTERS aWORD_CHARACTERS aNAME_LENGTH aZERO aONE aMOST_DIGITS aSHORT) {CPartError CTextFault CNought : Addr} (EX : Exns K mg CPartError CTextFault CNought) {fIni : Addr} {fdIni : FuncData} (FL : Flt K mg CPartError CTextFault CNought fIni) (GIni : FnOk P w K mg base CX0 1 fIni fdIni ["self", "line", "column"] (spFIni K CTextFault)) (bIni : Binds K fdIni ["self", "line", "column"] [])
    {fLLawTold : Addr} {fdLLawTold : FuncData} (GLLawTold : FnOk P w K mg base CX0 1 fLLawTold fdLLawTold ["found"] (spLLawTold K)) (gLLawTold : mg "_law_told" = some (.ref fLLawTold)) (kpLLawTold : PySem.W.keepIn K (.ref fLLawTold) = true) (bLLawTold : Binds K fdLLawTold ["found"] []) :
    FnOk P w K mg base CX0 2 fLLawText fdLLawText ["names", "found"] (spLLawText K) := by
  refine F.ok scLLawText (fun vs H Q E h => ?_) (fun cdv A outer s H vs Q E hr h => ?_)
  · obtain ⟨l, t, nms, x, xs, rfl, hN, hO, ⟨p, q, ws, hT, hp, hq, hws, rfl⟩, hlen, hx, hS, k⟩ := h
    rfl
  · obtain ⟨l, t, nms, x, xs, rfl, hN, hO, ⟨p, q, ws, hT, hp, hq, hws, rfl⟩, hlen, hx, hS, k⟩ := h
    refine ⟨_, (pss_cons (ps_set (i := 2) scLLawText.nd rfl (Or.inl rfl) pe_str)
      (C8.pss_cut (ps_for PassesOwn.never rfl (pi_range1 rfl T.range (pa_cons (pe_op op_add (pe_callB call_len_seq (by rfl) T.len PySem.boot_len (pa_cons (pv 0) pa_nil)) pe_int) pa_nil)) (pg_name (i := 3) scLLawText.nd rfl (Or.inl rfl))
        (C8.pss_cut (ps_set (i := 4) scLLawText.nd rfl (Or.inl rfl) (pe_ifExp (pt_cmpR op_lt (pv 3) (pe_callB call_len_seq (by rfl) T.len PySem.boot_len (pa_cons (pv 0) pa_nil)) (nomark _)) (pe_ix ix_tup (pe_ix ix_tup (pv 1) pe_int (fun _ _ => rfl)) (pv 3) (fun _ _ => rfl)) (pe_ix ix_tup (pv 1) pe_int (fun _ _ => rfl))))
        (C8.pss_cut (ps_if (PW.pt (pw_and (pt_cmpR op_eq (pe_ix ix_tup (pv 4) pe_int (fun _ _ => rfl)) pe_int (nomark _)) (pw_and1 (PW.pt (pw_or (pt_cmpR op_lt (pv 3) (pe_callB call_len_seq (by rfl) T.len PySem.boot_len (pa_cons (pv 0) pa_nil)) (nomark _)) (pw_or1 (pt_cmpR op_ne (pv 2) pe_str (nomark _))))))))
          (pss_one ps_continue)
          pss_nil)
        (C8.pss_cut (ps_set (i := 5) scLLawText.nd rfl (Or.inl rfl) (pe_tup (pa_cons (pe_ifExp (pt_cmpR op_ge (pe_ix ix_tup (pv 4) pe_int (fun _ _ => rfl)) pe_int (nomark _)) (pe_ix ix_tup (pv 4) pe_int (fun _ _ => rfl)) (pe_un un_neg (pe_ix ix_tup (pv 4) pe_int (fun _ _ => rfl)))) (pa_cons (pe_ix ix_tup (pv 4) pe_int (fun _ _ => rfl)) pa_nil))))
        (pss_cons (ps_set (i := 6) scLLawText.nd rfl (Or.inl rfl) (pe_call GLLawTold hr (by rfl) gLLawTold kpLLawTold bLLawTold .nil pass0 (pa_cons (pv 5) pa_nil)))
        (C8.pss_cut (ps_if (pt_cmpR op_lt (pv 3) (pe_callB call_len_seq (by rfl) T.len PySem.boot_len (pa_cons (pv 0) pa_nil)) (nomark _))
          (pss_one (ps_set (i := 6) scLLawText.nd rfl (Or.inl rfl) (pe_ifExp (pt_cmpR (op_eqD hr.units) (pv 5) (pe_tup (pa_cons pe_int (pa_cons pe_int pa_nil))) (nomark _)) (pe_ix ix_list (pv 0) (pv 3) (fun _ _ => rfl)) (pe_op op_addS (pe_op op_addS (pv 6) pe_str) (pe_ix ix_list (pv 0) (pv 3) (fun _ _ => rfl))))))
          pss_nil)
        (pss_one (ps_if (pt_cmpR op_ne (pv 2) pe_str (nomark _))
          (pss_one (ps_set (i := 2) scLLawText.nd rfl (Or.inl rfl) (pe_op op_addS (pe_op op_addS (pv 2) (pe_ifExp (pt_cmpR op_lt (pe_ix ix_tup (pv 4) pe_int (fun _ _ => rfl)) pe_int (nomark _)) pe_str pe_str)) (pv 6))))
          (pss_one (ps_set (i := 2) scLLawText.nd rfl (Or.inl rfl) (pe_op op_addS (pe_ifExp (pt_cmpR op_lt (pe_ix ix_tup (pv 4) pe_int (fun _ _ => rfl)) pe_int (nomark _)) pe_str pe_str) (pv 6))))))))))))
      (pss_one (ps_ret (pv 2))))), ?_⟩
    have hl2 : ws.length = nms.length := by rw [← List.length_map (f := fun w : Addr × Rat => w.2)]; exact hlen
    have h4 := hO.1
    have hln : (nms.map sv).length = nms.length := List.length_map _
    have hfull : (nms.zip (ws.map (·.2))).take nms.length = nms.zip (ws.map (·.2)) := List.take_of_length_le (by rw [List.length_zip]; omega)
    rw [show (Str.ofString "") = S [] from lit_nil, show (Str.ofString " - ") = S [32, 45, 32] by decide +kernel, show (Str.ofString " + ") = S [32, 43, 32] by decide +kernel, show (Str.ofString "-") = S [45] from lit_minus, show (Str.ofString "*") = S [42] from lit_star]
    obtain ⟨PT, hPT⟩ : ∃ PT : Nat → List Nat, PT = fun i => if i ≤ nms.length then etx1 ((nms.zip (ws.map (·.2))).take i) [] else etx nms x (ws.map (·.2)) := ⟨_, rfl⟩
    have p1 : ∀ i ≤ nms.length, PT i = etx1 ((nms.zip (ws.map (·.2))).take i) [] := fun i hi => by
      rw [hPT]
      exact if_pos hi
    have p2 : PT (nms.length + 1) = etx nms x (ws.map (·.2)) := by
      rw [hPT]
      exact if_neg (by omega)
    refine ⟨fun σ' H' => Same H H' ∧ ∃ v3 v4 v5 v6 : Option V, σ' = [some (.ref l), some (.ref t), some (.str (S (etx nms x (ws.map (·.2))))), v3, v4, v5, v6], ?_, ?_⟩
    · walk_at "go"
      refine ⟨l, _, rfl, .inl hN, ?_⟩
      rw [hln]
      walk_at "go"
      refine ⟨by omega, by omega, ?_⟩
      rw [show ((nms.length : Int) + 1).toNat = nms.length + 1 by omega]
      refine for_range (n := nms.length + 1) (fun i σ' H' => Same H H' ∧ (∃ v3 v4 v5 v6 : Option V, σ' = [some (.ref l), some (.ref t), some (.str (S (PT i))), v3, v4, v5, v6]) ∧ (PT i).length ≤ 19 * i) ⟨Same.refl _, ⟨_, _, _, _, by rw [hPT]; rfl⟩, by rw [hPT]; exact Nat.zero_le _⟩ ?_ ?_
      · rintro i σ' H1 hi ⟨s1, ⟨v3, v4, v5, v6, rfl⟩, hpl⟩
        obtain ⟨o, r, ho, hr, hr2⟩ : ∃ (o : Option (List Nat)) (r : Rat), (if i < nms.length then ∃ n, o = some n ∧ nms[i]? = some n else o = none) ∧ (if i < nms.length then (ws.map (·.2))[i]? = some r else r = x) ∧ PT (i + 1) = if r = 0 ∧ (i < nms.length ∨ PT i ≠ []) then PT i else jn (PT i) r (tx o r) := by
          by_cases h : i < nms.length
          · obtain ⟨n, s, h1, h2, h3⟩ := zip_at (xs := ws.map (·.2)) hlen h
            refine ⟨some n, s, by rw [if_pos h]; exact ⟨n, rfl, h1⟩, by rw [if_pos h]; exact h2, ?_⟩
            rw [p1 (i + 1) (by omega), etx1_snoc h3, ← p1 i (by omega)]
            by_cases h0 : s = 0
            · rw [if_pos h0, if_pos ⟨h0, .inl h⟩]
            · rw [if_neg h0, if_neg (fun z => h0 z.1)]
          · have e : i = nms.length := by omega
            refine ⟨none, x, by rw [if_neg h], by rw [if_neg h], ?_⟩
            have p3 := p1 nms.length (Nat.le_refl _)
            rw [hfull] at p3
            rw [e, p2]
            unfold etx
            rw [← p3]
            by_cases h0 : x = 0 ∧ PT nms.length ≠ []
            · rw [if_pos h0, if_pos ⟨h0.1, .inr h0.2⟩]
            · rw [if_neg h0, if_neg (fun z => h0 ⟨z.1, z.2.resolve_left (by omega)⟩)]
        have hpt : ∀ a, a = PT i → ((PT (i + 1)).length ≤ 19 * (i + 1) → ∃ v3 v4 v5 v6 : Option V, True) := fun _ _ _ => ⟨none, none, none, none, trivial⟩
        have hsr : Sm r := by
          by_cases h : i < nms.length
          · rw [if_pos h] at hr
            exact hS r (List.mem_of_getElem? hr)
          · rw [if_neg h] at hr
            rw [hr]
            exact hx
        have hso : (tx o r).length ≤ 16 ∧ sgs (tx o r) = 0 := tx_len hsr fun n hn => by
          by_cases h : i < nms.length
          · rw [if_pos h] at ho
            obtain ⟨m, h1, h2⟩ := ho
            rw [h1] at hn
            obtain rfl := Option.some.inj hn
            exact hO.2.2 _ (List.mem_of_getElem? h2)
          · rw [if_neg h] at ho
            rw [ho] at hn
            cases hn
        clear hpt
        have hpl2 : (PT (i + 1)).length ≤ 19 * (i + 1) := by
          rw [hr2]
          split
          · omega
          · have := (jn_len (t := PT i) (s := r) hso).1
            omega
        generalize PT (i + 1) = a2 at hr2 hpl2 ⊢
        generalize PT i = a at hpl hr2 ⊢
        have hza := S_sl (a := a) (by omega)
        have hin : decide (0 + (i : Int) < (nms.length : Int)) = decide (i < nms.length) := decide_eq_decide.mpr (by omega)
        refine ⟨fun σ' H' => ∃ u, σ' = [some (.ref l), some (.ref t), some (.str (S a)), some (.int (0 + (i : Int))), some (.ref u), v5, v6] ∧ H' = H1 ∧ Fx K H1 u r, ?_, ?_⟩
        · refine ⟨_, rfl, _, rfl, l, _, rfl, .inl (s1.seq hN), ?_⟩
          rw [hln]
          refine ⟨_, _, rfl, rfl, ?_⟩
          dsimp only
          rw [hin]
          refine ⟨_, rfl, ?_⟩
          by_cases h : i < nms.length
          · rw [if_pos h] at hr
            obtain ⟨wt, hwt, hwm⟩ := fr_at hr
            refine iteT' (decide_eq_true h) ?_
            refine ⟨_, rfl, t, _, 1, _, rfl, rfl, same_tup s1 hT, atI_nat (j := 1) rfl, _, rfl, q, _, _, V.ref wt, rfl, rfl, same_tup s1 hq, by rw [show (0 : Int) + (i : Int) = (i : Int) by omega]; exact atI_nat hwt, ?_⟩
            · exact ⟨wt, rfl, rfl, (hws _ hwm).same s1⟩
          · rw [if_neg h] at hr
            refine iteF' (decide_eq_false h) ?_
            refine ⟨_, rfl, t, _, 0, _, rfl, rfl, same_tup s1 hT, atI_nat (j := 0) rfl, ?_⟩
            exact ⟨p, rfl, rfl, by rw [hr]; exact hp.same s1⟩
        rintro σ' H2 ⟨u, rfl, rfl, fu⟩
        refine ⟨fun σ' H' => σ' = [some (.ref l), some (.ref t), some (.str (S a)), some (.int (0 + (i : Int))), some (.ref u), v5, v6] ∧ H' = H2 ∧ a2 = jn a r (tx o r), ?_, ?_⟩
        · refine ⟨_, rfl, u, _, 0, _, rfl, rfl, fu, atI_nat (j := 0) rfl, rfl, _, rfl, ?_⟩
          by_cases h0 : r = 0
          · refine iteT' (decide_eq_true (by rw [h0]; rfl)) ?_
            refine ⟨_, rfl, _, rfl, l, _, rfl, .inl (s1.seq hN), ?_⟩
            rw [hln]
            refine ⟨_, _, rfl, rfl, ?_⟩
            dsimp only
            rw [hin]
            refine ⟨_, rfl, ?_⟩
            by_cases h : i < nms.length
            · refine iteT' (decide_eq_true h) ?_
              rw [if_pos ⟨h0, .inl h⟩] at hr2
              exact ⟨s1, ⟨_, _, _, _, by rw [hr2]⟩, hpl2⟩
            · refine iteF' (decide_eq_false h) ?_
              refine ⟨_, rfl, rfl, _, rfl, ?_⟩
              by_cases ha : a = []
              · refine iteF' (by rw [ha, decide_eq_true rfl]; rfl) ?_
                rw [if_neg (fun z => z.2.elim h fun y => y ha)] at hr2
                exact ⟨rfl, rfl, hr2⟩
              · refine iteT' (by rw [decide_eq_false (fun z => ha (SX.S_inj (V.str.inj z)))]; rfl) ?_
                rw [if_pos ⟨h0, .inr ha⟩] at hr2
                exact ⟨s1, ⟨_, _, _, _, by rw [hr2]⟩, hpl2⟩
          · refine iteF' (decide_eq_false fun z => h0 (Rat.num_eq_zero.mp (V.int.inj z))) ?_
            rw [if_neg (fun z => h0 z.1)] at hr2
            exact ⟨rfl, rfl, hr2⟩
        rintro σ' H3 ⟨rfl, rfl, ha2⟩
        clear hr2
        refine ⟨fun σ' H' => ∃ z, σ' = [some (.ref l), some (.ref t), some (.str (S a)), some (.int (0 + (i : Int))), some (.ref u), some (.ref z), v6] ∧ Same H3 H' ∧ Fx K H' z (ab r), ?_, ?_⟩
        · refine ⟨_, rfl, u, _, 0, _, rfl, rfl, fu, atI_nat (j := 0) rfl, ?_⟩
          refine ⟨_, _, rfl, rfl, _, rfl, ?_⟩
          have hab : ∀ (zz : Int) (H4 : Hp) (tt : Addr), zz = (ab r).num → H4 tt = some (.tup [.int zz, .int (r.den : Int)]) → Fx K H4 tt (ab r) := fun zz H4 tt e h => by
            subst e
            rw [← ab_den] at h
            exact SqT.of h
          by_cases hn : 0 ≤ r.num
          · refine iteT' (decide_eq_true hn) ?_
            refine ⟨_, rfl, u, _, 0, _, rfl, rfl, fu, atI_nat (j := 0) rfl, ?_⟩
            refine ⟨_, rfl, u, _, 1, _, rfl, rfl, fu, atI_nat (j := 1) rfl, ?_⟩
            refine ⟨by show 2 ≤ sizeLine; decide, fun z nz => ?_⟩
            exact ⟨z, rfl, same_upd nz, hab _ _ z (by rw [ab_num]; omega) upd_same⟩
          · refine iteF' (decide_eq_false hn) ?_
            refine ⟨_, rfl, u, _, 0, _, rfl, rfl, fu, atI_nat (j := 0) rfl, ?_⟩
            refine ⟨_, rfl, ?_⟩
            refine ⟨_, rfl, u, _, 1, _, rfl, rfl, fu, atI_nat (j := 1) rfl, ?_⟩
            refine ⟨by show 2 ≤ sizeLine; decide, fun z nz => ?_⟩
            exact ⟨z, rfl, same_upd nz, hab _ _ z (by rw [ab_num]; omega) upd_same⟩
        rintro σ' H4 ⟨z, rfl, s4, fz⟩
        have hsa : Sm (ab r) := ⟨by rw [ab_num, Int.natAbs_natCast]; exact hsr.1, by rw [ab_den]; exact hsr.2⟩
        refine ⟨_, rfl, z, ab r, rfl, fz, hsa, ?_⟩
        refine ⟨fun σ' H' => σ' = [some (.ref l), some (.ref t), some (.str (S a)), some (.int (0 + (i : Int))), some (.ref u), some (.ref z), some (.str (S (tx o r)))] ∧ Same H4 H', ?_, ?_⟩
        · refine ⟨_, rfl, _, rfl, l, _, rfl, .inl (s4.seq (s1.seq hN)), ?_⟩
          rw [hln]
          refine ⟨_, _, rfl, rfl, ?_⟩
          dsimp only
          rw [hin]
          refine ⟨_, rfl, ?_⟩
          by_cases h : i < nms.length
          · rw [if_pos h] at ho
            obtain ⟨m, rfl, hm⟩ := ho
            refine iteT' (decide_eq_true h) ?_
            refine ⟨_, rfl, by show 2 ≤ sizeLine; decide, fun t2 n2 => ?_⟩
            have s6 := same_upd (o := .tup [.int 1, .int 1]) n2
            have F1 : Fx K (upd H4 t2 (.tup [.int 1, .int 1])) t2 1 := fx_litE upd_same rfl rfl
            generalize upd H4 t2 (.tup [.int 1, .int 1]) = H5 at s6 F1 ⊢
            refine ⟨_, _, dpr (fz.same s6), dpr F1, sh1 _, sh1 _, ?_⟩
            rw [eqvr]
            refine ⟨_, rfl, ?_⟩
            have hi0 : (0 : Int) + (i : Int) = (i : Int) := by omega
            have hat : atI (nms.map sv) (0 + (i : Int)) = some (sv m) := by
              rw [hi0]
              exact atI_nat (by rw [List.getElem?_map, hm]; rfl)
            have hm8 := (hO.2.2 m (List.mem_of_getElem? hm)).2.2
            have tdl7 := (tdl_len hsr).1
            unfold tx
            dsimp only
            by_cases h1 : ab r = 1
            · rw [if_pos h1]
              refine iteT' (decide_eq_true h1) ?_
              exact ⟨_, rfl, _, rfl, l, _, _, sv m, rfl, rfl, s6.seq (s4.seq (s1.seq hN)), hat, rfl, s6⟩
            · rw [if_neg h1]
              refine iteF' (decide_eq_false h1) ?_
              refine ⟨_, rfl, tdl (ab r), [42], rfl, rfl, by show _ + 1 ≤ _; omega, ?_⟩
              refine ⟨_, rfl, _, rfl, l, _, _, sv m, rfl, rfl, s6.seq (s4.seq (s1.seq hN)), hat, ?_⟩
              refine ⟨_, m, rfl, rfl, by rw [List.length_append]; show _ + 1 + _ ≤ _; omega, ?_⟩
              rw [List.append_assoc]
              exact ⟨rfl, s6⟩
          · rw [if_neg h] at ho
            subst ho
            refine iteF' (decide_eq_false h) ?_
            exact ⟨rfl, Same.refl _⟩
        rintro σ' H5 ⟨rfl, s5⟩
        have sF := s1.trans (s4.trans s5)
        have fu5 := fu.same (s4.trans s5)
        refine ⟨_, rfl, rfl, _, rfl, ?_⟩
        unfold jn at ha2
        by_cases ha : a = []
        · rw [if_pos ha] at ha2
          refine iteF' (by rw [ha, decide_eq_true rfl]; rfl) ?_
          refine ⟨_, rfl, u, _, 0, _, rfl, rfl, fu5, atI_nat (j := 0) rfl, ?_⟩
          by_cases hn : r.num < 0
          · rw [if_pos hn] at ha2
            refine ⟨_, _, rfl, rfl, _, rfl, iteT' (decide_eq_true hn) ?_⟩
            refine ⟨_, rfl, [45], tx o r, rfl, rfl, by have := hso.1; show 1 + _ ≤ _; omega, ?_⟩
            exact ⟨sF, ⟨_, _, _, _, by rw [ha2]; rfl⟩, hpl2⟩
          · rw [if_neg hn] at ha2
            refine ⟨_, _, rfl, rfl, _, rfl, iteF' (decide_eq_false hn) ?_⟩
            refine ⟨_, rfl, [], tx o r, rfl, rfl, by have := hso.1; show 0 + _ ≤ _; omega, ?_⟩
            exact ⟨sF, ⟨_, _, _, _, by rw [ha2]; rfl⟩, hpl2⟩
        · rw [if_neg ha] at ha2
          refine iteT' (by rw [decide_eq_false (fun z => ha (SX.S_inj (V.str.inj z)))]; rfl) ?_
          refine ⟨_, rfl, _, rfl, u, _, 0, _, rfl, rfl, fu5, atI_nat (j := 0) rfl, ?_⟩
          by_cases hn : r.num < 0
          · rw [if_pos hn] at ha2
            refine ⟨_, _, rfl, rfl, _, rfl, iteT' (decide_eq_true hn) ?_⟩
            refine ⟨a, [32, 45, 32], rfl, rfl, by show _ + 3 ≤ _; omega, ?_⟩
            refine ⟨_, rfl, a ++ [32, 45, 32], tx o r, rfl, rfl, by have := hso.1; rw [List.length_append]; show _ + 3 + _ ≤ _; omega, ?_⟩
            rw [List.append_assoc]
            exact ⟨sF, ⟨_, _, _, _, by rw [ha2]; rfl⟩, hpl2⟩
          · rw [if_neg hn] at ha2
            refine ⟨_, _, rfl, rfl, _, rfl, iteF' (decide_eq_false hn) ?_⟩
            refine ⟨a, [32, 43, 32], rfl, rfl, by show _ + 3 ≤ _; omega, ?_⟩
            refine ⟨_, rfl, a ++ [32, 43, 32], tx o r, rfl, rfl, by have := hso.1; rw [List.length_append]; show _ + 3 + _ ≤ _; omega, ?_⟩
            rw [List.append_assoc]
            exact ⟨sF, ⟨_, _, _, _, by rw [ha2]; rfl⟩, hpl2⟩
      · rintro σ' H1 ⟨s1, ⟨v3, v4, v5, v6, rfl⟩, _⟩
        refine ⟨s1, v3, v4, v5, v6, ?_⟩
        rw [hPT]
        dsimp only
        rw [if_neg (by omega)]
    rintro σ' H1 ⟨s1, v3, v4, v5, v6, rfl⟩
    exact ⟨_, rfl, k H1 s1⟩
def FL6 : List Nat := [97, 98, 99, 88, 89, 90]
def SG7 : List Nat := [97, 90, 95, 48, 57, 120, 113]
theorem atI_memN {l : List Nat} {i : Int} (h0 : 0 ≤ i) (h : i < (l.length : Int)) : ∃ c, atI (S l).cps.toList i = some c ∧ c ∈ l := by
  obtain ⟨j, rfl⟩ : ∃ j : Nat, i = (j : Int) := ⟨i.toNat, by omega⟩
  have hj : j < l.length := by omega
  exact ⟨l[j], atI_nat (List.getElem?_eq_getElem hj), List.getElem_mem hj⟩
def spLLawName (K : PySem.W.Frag) : Sp := fun vs H Q _ => ∃ d : Int, vs = [.int d] ∧ ∀ (c : Nat) (r : List Nat), c ∈ FL6 → (∀ x ∈ r, x ∈ SG7) → r.length ≤ 17 → Q (.str (S (c :: r))) H
theorem okLLawName {fLLawName : Addr} {fdLLawName : FuncData} (F : Fun K "_law_name" "_law_name" sLLawName fLLawName fdLLawName) (T : Txt mg) {aDIGITS : Tok} {aLETTERS : Tok} {aWORD_CHARACTERS : Tok} {aNAME_LENGTH : Tok} {aZERO : Addr} {aONE : Addr} {aMOST_DIGITS : Tok} {aSHORT : Tok} (CT : Cons K mg aDIGITS aLETTERS aWORD_CHARACTERS aNAME_LENGTH aZERO aONE aMOST_DIGITS aSHORT) {CPartError CTextFault CNought : Addr} (EX : Exns K mg CPartError CTextFault CNought) {fIni : Addr} {fdIni : FuncData} (FL : Flt K mg CPartError CTextFault CNought fIni) (GIni : FnOk P w K mg base CX0 1 fIni fdIni ["self", "line", "column"] (spFIni K CTextFault)) (bIni : Binds K fdIni ["self", "line", "column"] []) :
    FnOk P w K mg base CX0 1 fLLawName fdLLawName ["draw"] (spLLawName K) := by
  refine F.ok scLLawName (fun vs H Q E h => ?_) (fun cdv A outer s H vs Q E hr h => ?_)
  · obtain ⟨d, rfl, k⟩ := h
    rfl
  · obtain ⟨d, rfl, k⟩ := h
    refine ⟨_, (pss_cons (ps_set (i := 1) scLLawName.nd rfl (Or.inl rfl) pe_str)
      (pss_cons (ps_set (i := 2) scLLawName.nd rfl (Or.inl rfl) (pe_ix ix_str pe_str (pe_op op_mod (pe_callTy call_int1 (by rfl) T.int (by decide +kernel) (pa_cons (pv 0) pa_nil)) pe_int) (fun _ _ => rfl)))
      (C8.pss_cut (ps_for PassesOwn.never rfl (pi_range1 rfl T.range (pa_cons (pe_op op_mod (pe_callTy call_int1 (by rfl) T.int (by decide +kernel) (pa_cons (pe_op op_fdiv (pv 0) pe_int) pa_nil)) pe_int) pa_nil)) (pg_name (i := 3) scLLawName.nd rfl (Or.inl rfl))
        (pss_one (ps_set (i := 2) scLLawName.nd rfl (Or.inl rfl) (pe_op op_addS (pv 2) (pe_ix ix_str (pv 1) (pe_op op_mod (pe_callTy call_int1 (by rfl) T.int (by decide +kernel) (pa_cons (pe_op op_fdiv (pv 0) (pe_op op_add pe_int (pv 3))) pa_nil)) pe_int) (fun _ _ => rfl))))))
      (pss_one (ps_ret (pv 2)))))), ?_⟩
    have n3 : ∀ a b : Int, 0 < b → 0 ≤ a % b ∧ a % b < b := fun a b h => ⟨Int.emod_nonneg a (by omega), Int.emod_lt_of_pos a h⟩
    rw [show (Str.ofString "aZ_09xq") = S SG7 by decide +kernel, show (Str.ofString "abcXYZ") = S FL6 by decide +kernel]
    have hz6 : (S FL6).length ≤ sizeLine := S_sl (by decide)
    have hz7 : (S SG7).length ≤ sizeLine := S_sl (by decide)
    have h6 := n3 d 6 (by decide)
    obtain ⟨c, hc, mc⟩ := atI_memN (l := FL6) h6.1 (by show _ < (6 : Int); omega)
    have h18 := n3 (d / 6) 18 (by decide)
    obtain ⟨n, hn⟩ : ∃ n : Nat, d / 6 % 18 = (n : Int) := ⟨(d / 6 % 18).toNat, by omega⟩
    walk_at "rd"
    refine ⟨S FL6, _, c, rfl, rfl, hz6, hc, ?_⟩
    refine ⟨fun σ' H' => ∃ (r : List Nat) (v3 : Option V), σ' = [some (.int d), some (.str (S SG7)), some (.str (S (c :: r))), v3] ∧ H' = H ∧ (∀ x ∈ r, x ∈ SG7) ∧ r.length ≤ 17, ?_, ?_⟩
    · walk_at "rd"
      refine ⟨by omega, by omega, ?_⟩
      rw [hn, Int.toNat_natCast]
      refine for_range (n := n) (fun j σ' H' => ∃ (r : List Nat) (v3 : Option V), σ' = [some (.int d), some (.str (S SG7)), some (.str (S (c :: r))), v3] ∧ H' = H ∧ (∀ x ∈ r, x ∈ SG7) ∧ r.length ≤ j) ⟨[], _, rfl, rfl, (fun x hx => nomatch hx), Nat.le_refl _⟩ ?_ ?_
      · rintro j σ' H' hj ⟨r, v3, rfl, rfl, hr, hl⟩
        have h7 := n3 (d / (7 + (0 + (j : Int)))) 7 (by decide)
        obtain ⟨e, he, me⟩ := atI_memN (l := SG7) h7.1 (by show _ < (7 : Int); omega)
        refine ⟨_, rfl, _, rfl, ?_⟩
        walk_at "rd"
        refine ⟨⟨by omega, by omega⟩, ?_⟩
        walk_at "rd"
        refine ⟨S SG7, _, e, rfl, rfl, hz7, he, ?_⟩
        refine ⟨c :: r, [e], rfl, rfl, by show r.length + 1 + 1 ≤ _; omega, ?_⟩
        exact ⟨r ++ [e], _, rfl, rfl, fun x hx => by
          rcases List.mem_append.mp hx with h | h
          · exact hr x h
          · rw [List.mem_singleton.mp h]
            exact me, by rw [List.length_append]; show _ + 1 ≤ _; omega⟩
      · rintro σ' H' ⟨r, v3, rfl, rfl, hr, hl⟩
        exact ⟨r, v3, rfl, rfl, hr, by omega⟩
    rintro σ' H' ⟨r, v3, rfl, rfl, hr, hl⟩
    exact ⟨_, rfl, k c r mc hr hl⟩
def fourB : List (List Nat) := [[119], [104, 95, 49], [81], [116, 104, 105, 99, 107]]
theorem fourB_ok (n : Nat) : NmsOk (fourB.take n) := by
  have h4 : ∀ m ∈ fourB, (∀ c ∈ m, c ∈ WCl) ∧ m ≠ [] ∧ m.head? ≠ none ∧ (∀ c, m.head? = some c → c ∉ D10) ∧ m.length ≤ 8 := by decide
  refine ⟨?_, (by decide : fourB.Nodup).sublist (List.take_sublist n fourB), fun m hm => ?_⟩
  · rw [List.length_take]
    show min n 4 ≤ 4
    omega
  · obtain ⟨h1, h2, h3, h5, h6⟩ := h4 m (List.mem_of_mem_take hm)
    refine ⟨h1, ?_, h6⟩
    cases m with
    | nil => exact absurd rfl h2
    | cons c t => exact ⟨c, t, rfl, h5 c rfl⟩
theorem fourB_eq : [V.str "w", V.str "h_1", V.str "Q", V.str "thick"] = fourB.map sv := by
  have h : (["w", "h_1", "Q", "thick"] : List Str) = fourB.map S := by decide +kernel
  have := congrArg (List.map V.str) h
  rw [List.map_map] at this
  exact this
def spLaw (K : PySem.W.Frag) : Sp := fun vs H Q _ => ∃ (a : Addr) (ns : List Int), vs = [.ref a] ∧ SqL K H a (ns.map V.int) ∧ ns.length ≤ 63 ∧ ∀ H', Q (.bl true) H'
theorem okLaw {fLaw : Addr} {fdLaw : FuncData} (F : Fun K "law" "law" sLaw fLaw fdLaw) (T : Txt mg) {aDIGITS : Tok} {aLETTERS : Tok} {aWORD_CHARACTERS : Tok} {aNAME_LENGTH : Tok} {aZERO : Addr} {aONE : Addr} {aMOST_DIGITS : Tok} {aSHORT : Tok} (CT : Cons K mg aDIGITS aLETTERS aWORD_CHARACTERS aNAME_LENGTH aZERO aONE aMOST_DIGITS aSHORT) {CPartError CTextFault CNought : Addr} (EX : Exns K mg CPartError CTextFault CNought) {fIni : Addr} {fdIni : FuncData} (FL : Flt K mg CPartError CTextFault CNought fIni) (GIni : FnOk P w K mg base CX0 1 fIni fdIni ["self", "line", "column"] (spFIni K CTextFault)) (bIni : Binds K fdIni ["self", "line", "column"] [])
    {fLLawNumber : Addr} {fdLLawNumber : FuncData} (GLLawNumber : FnOk P w K mg base CX0 1 fLLawNumber fdLLawNumber ["script", "k"] (spLLawNumber K)) (gLLawNumber : mg "_law_number" = some (.ref fLLawNumber)) (kpLLawNumber : PySem.W.keepIn K (.ref fLLawNumber) = true) (bLLawNumber : Binds K fdLLawNumber ["script", "k"] [])
    {fExpressionText : Addr} {fdExpressionText : FuncData} (GExpressionText : FnOk P w K mg base CX0 4 fExpressionText fdExpressionText ["names", "found"] (spExpressionText K)) (gExpressionText : mg "expression_text" = some (.ref fExpressionText)) (kpExpressionText : PySem.W.keepIn K (.ref fExpressionText) = true) (bExpressionText : Binds K fdExpressionText ["names", "found"] [])
    {fLLawName : Addr} {fdLLawName : FuncData} (GLLawName : FnOk P w K mg base CX0 1 fLLawName fdLLawName ["draw"] (spLLawName K)) (gLLawName : mg "_law_name" = some (.ref fLLawName)) (kpLLawName : PySem.W.keepIn K (.ref fLLawName) = true) (bLLawName : Binds K fdLLawName ["draw"] [])
    {fLLawSmall : Addr} {fdLLawSmall : FuncData} (GLLawSmall : FnOk P w K mg base CX0 2 fLLawSmall fdLLawSmall ["draw"] (spLLawSmall K)) (gLLawSmall : mg "_law_small" = some (.ref fLLawSmall)) (kpLLawSmall : PySem.W.keepIn K (.ref fLLawSmall) = true) (bLLawSmall : Binds K fdLLawSmall ["draw"] [])
    {fReadExpression : Addr} {fdReadExpression : FuncData} (GReadExpression : FnOk P w K mg base (L2.CX P w) 6 fReadExpression fdReadExpression ["names", "text"] (spReadExpression K CTextFault)) (gReadExpression : mg "read_expression" = some (.ref fReadExpression)) (kpReadExpression : PySem.W.keepIn K (.ref fReadExpression) = true) (bReadExpression : Binds K fdReadExpression ["names", "text"] [])
    {fLLawText : Addr} {fdLLawText : FuncData} (GLLawText : FnOk P w K mg base CX0 2 fLLawText fdLLawText ["names", "found"] (spLLawText K)) (gLLawText : mg "_law_text" = some (.ref fLLawText)) (kpLLawText : PySem.W.keepIn K (.ref fLLawText) = true) (bLLawText : Binds K fdLLawText ["names", "found"] [])
    {fIsParameterName : Addr} {fdIsParameterName : FuncData} (GIsParameterName : FnOk P w K mg base CX0 4 fIsParameterName fdIsParameterName ["text"] (spIsParameterName K)) (gIsParameterName : mg "is_parameter_name" = some (.ref fIsParameterName)) (kpIsParameterName : PySem.W.keepIn K (.ref fIsParameterName) = true) (bIsParameterName : Binds K fdIsParameterName ["text"] []) :
    FnOk P w K mg base CX0 7 fLaw fdLaw ["script"] (spLaw K) := by
  refine F.ok scLaw (fun vs H Q E h => ?_) (fun cdv A outer s H vs Q E hr h => ?_)
  · obtain ⟨sc, ns, rfl, hS0, hnl, fin⟩ := h
    rfl
  · obtain ⟨sc, ns, rfl, hS0, hnl, fin⟩ := h
    refine ⟨_, (C8.pss_cut (ps_for PassesOwn.never rfl (pi_range1 rfl T.range (pa_cons pe_int pa_nil)) (pg_name (i := 1) scLaw.nd rfl (Or.inl rfl))
        (pss_cons (ps_set (i := 2) scLaw.nd rfl (Or.inr rfl) (pe_call GLLawNumber (hr.mono (by decide)) (by rfl) gLLawNumber kpLLawNumber bLLawNumber .nil pass0 (pa_cons (pv 0) (pa_cons (pv 1) pa_nil))))
        (pss_cons (ps_set (i := 3) scLaw.nd rfl (Or.inl rfl) (pe_slice sl_list (pe_lst (pa_cons pe_str (pa_cons pe_str (pa_cons pe_str (pa_cons pe_str pa_nil))))) po_none (po_some (pe_op op_mod (pe_callTy call_int1 (by rfl) T.int (by decide +kernel) (pa_cons (pv 2) pa_nil)) pe_int))))
        (pss_cons (ps_set (i := 4) scLaw.nd rfl (Or.inl rfl) (pe_tup (pa_cons (pe_call GLLawSmall (hr.mono (by decide)) (by rfl) gLLawSmall kpLLawSmall bLLawSmall .nil pass0 (pa_cons (pe_op op_fdiv (pv 2) pe_int) pa_nil)) (pa_cons (pe_callTy call_tuple_of (by rfl) T.tuple (by decide +kernel) (pa_cons (pe_lc (own := [("j", 9)]) (by rfl) scLaw.nd (pi_range1 rfl T.range (pa_cons (pe_callB call_len_seq (by rfl) T.len PySem.boot_len (pa_cons (pv 3) pa_nil)) pa_nil)) (blkOk_by (own := [("j", 9)]) (N := ["script", "k", "draw", "names", "found", "given", "text", "name", "at", "j"]) (sc := defScope sLaw) (by decide +kernel)) (fun _ _ _ _ _ => (pg_name (i := 9) scLaw.nd rfl (Or.inl rfl))) (fun _ _ _ _ _ => pts_nil) (fun _ _ _ _ _ => (pe_call GLLawSmall (hr.mono (by decide)) (by rfl) gLLawSmall kpLLawSmall bLLawSmall .nil pass0 (pa_cons (pe_op op_fdiv (pv 2) (pe_op op_add pe_int (pe_op op_mul pe_int (pv 9)))) pa_nil)))) pa_nil)) pa_nil))))
        (pss_cons (ps_set (i := 5) scLaw.nd rfl (Or.inl rfl) (pe_callTy call_list_of (by rfl) T.list (by decide +kernel) (pa_cons (pv 3) pa_nil)))
        (pss_cons (ps_set (i := 6) scLaw.nd rfl (Or.inl rfl) (pe_call GExpressionText (hr.mono (by decide)) (by rfl) gExpressionText kpExpressionText bExpressionText .nil pass0 (pa_cons (pv 5) (pa_cons (pv 4) pa_nil))))
        (pss_cons (ps_if (PW.pt (pw_or (pt_not (pt_val (pe_callB call_isi (by rfl) T.isinstance (by decide +kernel) (pa_cons (pv 6) (pa_cons (pe_bltn (v := .ty "str") (by rfl) T.str (by decide +kernel) rfl) pa_nil))))) (pw_or (pt_cmpR op_ne (pv 6) (pe_call GLLawText (hr.mono (by decide)) (by rfl) gLLawText kpLLawText bLLawText .nil pass0 (pa_cons (pv 3) (pa_cons (pv 4) pa_nil))) (nomark _)) (pw_or1 (pt_cmpR (op_neD hr.units) (pv 5) (pv 3) (nomark _))))))
          (pss_one (ps_ret pe_bl))
          pss_nil)
        (pss_cons (ps_if (pt_cmpR (op_neD hr.units) (pe_call GReadExpression hr (by rfl) gReadExpression kpReadExpression bReadExpression .nil passL (pa_cons (pv 5) (pa_cons (pv 6) pa_nil))) (pv 4) (nomark _))
          (pss_one (ps_ret pe_bl))
          pss_nil)
        (pss_cons (ps_set (i := 7) scLaw.nd rfl (Or.inl rfl) (pe_call GLLawName (hr.mono (by decide)) (by rfl) gLLawName kpLLawName bLLawName .nil pass0 (pa_cons (pe_op op_fdiv (pv 2) pe_int) pa_nil)))
        (pss_cons (ps_if (PW.pt (pw_or (pt_not (pt_val (pe_callB call_isi (by rfl) T.isinstance (by decide +kernel) (pa_cons (pe_call GIsParameterName (hr.mono (by decide)) (by rfl) gIsParameterName kpIsParameterName bIsParameterName .nil pass0 (pa_cons (pv 7) pa_nil)) (pa_cons (pe_bltn (v := .ty "bool") (by rfl) T.bool (by decide +kernel) rfl) pa_nil))))) (pw_or1 (pt_cmpR op_ne (pe_call GIsParameterName (hr.mono (by decide)) (by rfl) gIsParameterName kpIsParameterName bIsParameterName .nil pass0 (pa_cons (pv 7) pa_nil)) (pe_cmpR op_le (pe_callB call_len_str (by rfl) T.len PySem.boot_len (pa_cons (pv 7) pa_nil)) pe_int (nomark _)) (nomark _)))))
          (pss_one (ps_ret pe_bl))
          pss_nil)
        (pss_cons (ps_set (i := 8) scLaw.nd rfl (Or.inl rfl) (pe_op op_modN (pe_callTy call_int1 (by rfl) T.int (by decide +kernel) (pa_cons (pe_op op_fdiv (pv 2) pe_int) pa_nil)) (pe_callB call_len_str (by rfl) T.len PySem.boot_len (pa_cons (pv 7) pa_nil))))
        (pss_cons (ps_if (PW.pt (pw_or (pt_cmpR op_notBl (pe_call GIsParameterName (hr.mono (by decide)) (by rfl) gIsParameterName kpIsParameterName bIsParameterName .nil pass0 (pa_cons (pe_op op_addS (pe_op op_addS (pe_slice sl_str (pv 7) po_none (po_some (pv 8))) pe_str) (pe_slice sl_str (pv 7) (po_some (pe_op op_add (pv 8) pe_int)) po_none)) pa_nil)) pe_bl (nomark _)) (pw_or1 (pt_cmpR op_notBl (pe_call GIsParameterName (hr.mono (by decide)) (by rfl) gIsParameterName kpIsParameterName bIsParameterName .nil pass0 (pa_cons pe_str pa_nil)) pe_bl (nomark _)))))
          (pss_one (ps_ret pe_bl))
          pss_nil)
        (pss_one (ps_if (PW.pt (pw_or (pt_cmpR op_notBl (pe_call GIsParameterName (hr.mono (by decide)) (by rfl) gIsParameterName kpIsParameterName bIsParameterName .nil pass0 (pa_cons (pe_op op_addS pe_str (pe_slice sl_str (pv 7) po_none (po_some pe_int))) pa_nil)) pe_bl (nomark _)) (pw_or1 (pt_cmpR op_notBl (pe_call GIsParameterName (hr.mono (by decide)) (by rfl) gIsParameterName kpIsParameterName bIsParameterName .nil pass0 (pa_cons (pe_op op_addS pe_str (pe_slice sl_str (pv 7) po_none (po_some pe_int))) pa_nil)) pe_bl (nomark _)))))
          (pss_one (ps_ret pe_bl))
          pss_nil))))))))))))))
      (pss_one (ps_ret pe_bl))), ?_⟩
    have hS : SqL K H sc (zs ns) := hS0
    refine ⟨fun σ' H' => True, ?_, fun σ' H' _ => fin H'⟩
    refine ⟨30, rfl, by decide, by decide, for_range (n := 30) (fun i σ' H' => Same H H' ∧ ∃ v1 v2 v3 v4 v5 v6 v7 v8 v9 : Option V, σ' = [some (.ref sc), v1, v2, v3, v4, v5, v6, v7, v8, v9]) ?_ ?_ ?_⟩
    · exact ⟨Same.refl _, none, none, none, none, none, none, none, none, none, rfl⟩
    rotate_left
    · exact fun _ _ _ => trivial
    rintro i σ' H0 hi ⟨s0, v1, v2, v3, v4, v5, v6, v7, v8, v9, rfl⟩
    have hi0 : (0 : Int) + (i : Int) = (i : Int) := by omega
    refine ⟨_, rfl, _, rfl, sc, ns, i, by rw [hi0]; rfl, s0.seq hS, fun dr => ?_⟩
    have n3 : ∀ a b : Int, 0 < b → 0 ≤ a % b ∧ a % b < b := fun a b h => ⟨Int.emod_nonneg a (by omega), Int.emod_lt_of_pos a h⟩
    obtain ⟨n, hn⟩ : ∃ n : Nat, dr % 5 = (n : Int) := ⟨(dr % 5).toNat, by have := n3 dr 5 (by decide); omega⟩
    have hn4 : n ≤ 4 := by have := n3 dr 5 (by decide); omega
    refine ⟨by show 4 ≤ sizeLine; decide, fun ev nev => ?_⟩
    rw [fourB_eq]
    have sev := same_upd (o := .lst (fourB.map sv)) nev
    have eev : (upd H0 ev (.lst (fourB.map sv))) ev = some (.lst (fourB.map sv)) := upd_same
    generalize upd H0 ev (.lst (fourB.map sv)) = He at sev eev ⊢
    have hcut : cutV (fourB.map sv) none (some (dr % 5)) = (fourB.take n).map sv := by
      rw [hn]
      match n, hn4 with
      | 0, _ => rfl
      | 1, _ => rfl
      | 2, _ => rfl
      | 3, _ => rfl
      | 4, _ => rfl
    walk_at "rd"
    refine ⟨ev, fourB.map sv, rfl, SqL.of eev, fun pn npn => ?_⟩
    rw [hcut]
    have hN := fourB_ok n
    generalize fourB.take n = nms at hN ⊢
    have sN := same_upd (o := .lst (nms.map sv)) npn
    have eN : (upd He pn (.lst (nms.map sv))) pn = some (.lst (nms.map sv)) := upd_same
    generalize upd He pn (.lst (nms.map sv)) = H1 at sN eN ⊢
    have hln : (nms.map sv).length = nms.length := List.length_map _
    have hN4 := hN.1
    walk_at "rd"
    intro H2 p s2 fp
    have hx := sml_ok (dr / 5)
    generalize sml (dr / 5) = x at fp hx
    refine ⟨_, rfl, pn, _, rfl, .inl (SqL.of (s2 _ _ eN)), nms.length, by rw [hln], by omega, by omega, fun D hD => ?_⟩
    refine lc_row (K := K) walk_range ((List.range nms.length).map fun (j : Nat) => sml (dr / (40 + 13 * ((0 : Int) + (j : Int))))) (by simp) (by omega) hD (fun _ _ => trivial) ?_ ?_
    · rintro j c v H4 H5 kk hr' s4 ⟨rfl, rfl⟩ kk2
      have hj : j < nms.length := by
        have := (List.getElem?_eq_some_iff.mp hr').1
        rw [List.length_map, List.length_range] at this
        exact this
      rw [List.getElem?_map, List.getElem?_range hj] at hr'
      obtain rfl : sml (dr / (40 + 13 * ((0 : Int) + (j : Int)))) = c := Option.some.inj hr'
      refine ⟨rfl, ?_⟩
      exact ⟨_, rfl, _, rfl, _, _, rfl, rfl, by constructor <;> omega, _, _, rfl, rfl, _, _, rfl, rfl, ⟨by omega, by omega⟩, _, rfl, fun H6 t6 s6 f6 => kk2 t6 H6 s6 f6⟩
    intro H3 ws s3 e3 r3 m3
    have hS5 : ∀ s ∈ ws.map (·.2), Sm s := fun s hs => by
      rw [m3] at hs
      obtain ⟨j, _, rfl⟩ := List.mem_map.mp hs
      exact sml_ok _
    have hlen : (ws.map (·.2)).length = nms.length := by rw [m3, List.length_map, List.length_range]
    clear m3
    refine ⟨D, _, rfl, .inl ⟨SqL.of e3, fun t4 n4 => ?_⟩⟩
    have s4 := same_upd (o := .tup (fr ws)) n4
    have e4 : (upd H3 t4 (.tup (fr ws))) t4 = some (.tup (fr ws)) := upd_same
    generalize upd H3 t4 (.tup (fr ws)) = H4 at s4 e4 ⊢
    refine ⟨by show 2 ≤ sizeLine; decide, fun t5 n5 => ?_⟩
    have s5 := same_upd (o := .tup [.ref p, .ref t4]) n5
    have e5 : (upd H4 t5 (.tup [.ref p, .ref t4])) t5 = some (.tup [.ref p, .ref t4]) := upd_same
    generalize upd H4 t5 (.tup [.ref p, .ref t4]) = H5 at s5 e5 ⊢
    have s25 := s3.trans (s4.trans s5)
    have V5 : Vx K H5 t5 x (ws.map (·.2)) := ⟨p, t4, ws, SqT.of e5, fp.same s25, SqT.of (s5 _ _ e4), r3.same (s4.trans s5), rfl⟩
    have eN5 := s25 _ _ (s2 _ _ eN)
    have hxs := etx_full hN hlen hx hS5
    obtain ⟨tl1, tl2⟩ := etx_len hN hlen hx hS5
    generalize ws.map (·.2) = xs at V5 hS5 hlen hxs tl1 tl2
    clear r3 e3
    refine ⟨_, rfl, pn, nms.map sv, rfl, .inl (SqL.of eN5), fun gv ngv => ?_⟩
    have s6 := same_upd (o := .lst (nms.map sv)) ngv
    have e6 : (upd H5 gv (.lst (nms.map sv))) gv = some (.lst (nms.map sv)) := upd_same
    generalize upd H5 gv (.lst (nms.map sv)) = H6 at s6 e6 ⊢
    have V6 := V5.same s6
    have eN6 := s6 _ _ eN5
    refine ⟨_, rfl, _, rfl, gv, t5, nms, x, xs, rfl, SqL.of e6, hN, V6, hlen, hx, hS5, fun H7 s7 => ?_⟩
    have hcl : ∀ n ∈ nms, ∀ c ∈ n, c ∈ WCl := fun n hn => (hN.2.2 n hn).1
    have eqvv_self' : ∀ (b : Rat) (ss : List Rat), PyData.eqv (pdv b ss) (pdv b ss) = true := fun b ss => by rw [eqvv]; simp
    refine ⟨_, rfl, .str _, .ty "str", .type "str", .type "str", true, rfl, (.ty _), .base (.str _), kit_ty (by decide +kernel), true, rfl, iteF ?_⟩
    refine ⟨_, rfl, _, rfl, _, rfl, pn, t5, nms, x, xs, rfl, SqL.of (s7 _ _ eN6), hN, V6.same s7, hlen, hx, hS5, fun H8 s8 => ?_⟩
    refine ⟨rfl, _, rfl, ite2 (fun g => (no_self g).elim) (fun _ => ?_)⟩
    have s78 := s7.trans s8
    refine ⟨_, rfl, _, rfl, pdsl nms, pdsl nms, .lst (SqL.of (s78 _ _ e6)) (dps_all nms), .lst (SqL.of (s78 _ _ eN6)) (dps_all nms), shs_l hcl, shs_l hcl, ?_⟩
    rw [eqvs_self hcl]
    refine ⟨_, rfl, iteF' rfl ?_⟩
    refine ⟨_, rfl, _, rfl, gv, nms, etx nms x xs, rfl, SqL.of (s78 _ _ e6), by omega, by omega, by show sgs (etx nms x xs) ≤ 16; omega, (fun c hc => by rw [hxs] at hc; cases hc), fun y ys hy H9 q9 s9 v9 => ?_⟩
    rw [hxs] at hy
    obtain ⟨rfl, rfl⟩ := Prod.mk.inj (Sum.inr.inj hy)
    refine ⟨_, rfl, _, _, dpv v9, dpv (V6.same (s78.trans s9)), shv _ _, shv _ _, ?_⟩
    rw [eqvv_self']
    refine ⟨_, rfl, iteF' rfl ?_⟩
    walk_at "rd"
    intro c r hc hr hl
    have hza : (c :: r).length ≤ 3000 := by show r.length + 1 ≤ 3000; omega
    have hlen1 : (c :: r).length = r.length + 1 := rfl
    have hsw : shortW LTl WCl (c :: r) = decide ((c :: r).length ≤ 16) := by
      have c1 : ∀ c ∈ FL6, c ∈ LTl ∧ c ∈ WCl := by decide
      have c2 : ∀ x ∈ SG7, x ∈ WCl := by decide
      have a1 : isRow WCl (c :: r) = true := by
        unfold isRow allIn
        rw [Bool.and_eq_true]
        refine ⟨rfl, List.all_eq_true.mpr fun x hx => ?_⟩
        rcases List.mem_cons.mp hx with rfl | hx
        · exact decide_eq_true (c1 _ hc).2
        · exact decide_eq_true (c2 _ (hr x hx))
      unfold shortW
      rw [a1]
      show (true && (decide ((c :: r).length ≤ 16) && decide (c ∈ LTl))) = _
      rw [decide_eq_true (c1 c hc).1, Bool.and_true, Bool.true_and]
    have sw0 : ∀ a : List Nat, (∀ d, a.head? = some d → d ∉ LTl) → shortW LTl WCl a = false := fun a h => by
      unfold shortW
      cases a with
      | nil => rfl
      | cons d t =>
        show (_ && (_ && decide (d ∈ LTl))) = false
        rw [decide_eq_false (h d rfl), Bool.and_false, Bool.and_false]
    have sw1 : ∀ a : List Nat, 46 ∈ a → shortW LTl WCl a = false := fun a h => by
      have a1 : isRow WCl a = false := by
        unfold isRow allIn
        rw [Bool.and_eq_false_iff]
        right
        rw [Bool.eq_false_iff]
        intro z
        exact absurd (of_decide_eq_true (List.all_eq_true.mp z 46 h)) (by decide)
      unfold shortW
      rw [a1, Bool.false_and]
    have hzs := S_sl hza
    rw [show (Str.ofString ".") = S [46] by decide +kernel, show (Str.ofString "_") = S [95] by decide +kernel, show (Str.ofString "3") = S [51] by decide +kernel, show (Str.ofString "") = S [] from lit_nil]
    refine ⟨_, rfl, c :: r, rfl, hza, ?_⟩
    refine ⟨.bl _, .ty "bool", .type "bool", .type "bool", true, rfl, (.ty _), .base (.bl _), kit_ty (by decide +kernel), true, rfl, iteF ?_⟩
    refine ⟨_, rfl, c :: r, rfl, hza, ?_⟩
    rw [hsw]
    refine ⟨_, rfl, S (c :: r), rfl, hzs, _, _, rfl, rfl, rfl, _, rfl, ?_⟩
    refine iteF' (by
      show (!decide (V.bl (decide ((c :: r).length ≤ 16)) = V.bl (decide (((S (c :: r)).length : Int) ≤ 16)))) = false
      rw [show decide (((S (c :: r)).length : Int) ≤ 16) = decide ((c :: r).length ≤ 16) from decide_eq_decide.mpr (by rw [SX.S_len]; omega), decide_eq_true rfl]
      rfl) ?_
    have hk2 : ∀ n : Nat, cutS (S (c :: r)) none (some ((n : Nat) : Int)) = S ((c :: r).take n) := fun n => cut_to
    refine ⟨_, rfl, ?_⟩
    refine ⟨_, _, rfl, rfl, ⟨by decide, by decide⟩, ?_⟩
    refine .inl ⟨_, rfl, ?_⟩
    refine ⟨_, rfl, S (c :: r), rfl, hzs, _, _, rfl, rfl, by show ((S (c :: r)).length : Int) ≠ 0; rw [SX.S_len]; omega, ?_⟩
    obtain ⟨m, hm⟩ : ∃ m : Nat, (dr / 50).fmod ((S (c :: r)).length : Int) = (m : Int) := ⟨((dr / 50).fmod ((S (c :: r)).length : Int)).toNat, by
      have h1 := Int.fmod_nonneg_of_pos (dr / 50) (b := ((S (c :: r)).length : Int)) (by rw [SX.S_len]; omega)
      omega⟩
    dsimp only
    rw [hm]
    have lt1 : ((c :: r).take m).length ≤ 18 := by rw [List.length_take]; omega
    have lt4 : ((c :: r).take 4).length ≤ 18 := by rw [List.length_take]; omega
    have ld1 : ((c :: r).drop (m + 1)).length ≤ 18 := by rw [List.length_drop]; omega
    refine ⟨_, rfl, _, rfl, _, rfl, S (c :: r), rfl, hzs, ?_⟩
    rw [cut_to]
    refine ⟨_, [46], rfl, rfl, by show _ + 1 ≤ _; omega, ?_⟩
    refine ⟨_, rfl, _, rfl, _, _, rfl, rfl, _, rfl, S (c :: r), rfl, hzs, ?_⟩
    rw [show ((m : Int) + 1) = ((m + 1 : Nat) : Int) by omega, cut_from]
    refine ⟨_, _, rfl, rfl, by rw [List.length_append]; show _ + 1 + _ ≤ _; omega, ?_⟩
    refine ⟨_, rfl, by rw [List.length_append, List.length_append]; show _ + 1 + _ ≤ _; omega, ?_⟩
    rw [sw1 _ (List.mem_append_left _ (List.mem_append_right _ List.mem_cons_self))]
    refine ⟨false, false, rfl, rfl, _, rfl, iteF' rfl ?_⟩
    refine ⟨[], rfl, Nat.zero_le _, ?_⟩
    rw [sw0 [] (fun d h => nomatch h)]
    refine ⟨false, false, rfl, rfl, _, rfl, iteF' rfl ?_⟩
    refine ⟨_, rfl, 4, rfl, S (c :: r), rfl, hzs, ?_⟩
    rw [show cutS (S (c :: r)) none (some 4) = S ((c :: r).take 4) from hk2 4]
    refine ⟨[95], _, rfl, rfl, by show 1 + _ ≤ _; omega, ?_⟩
    refine ⟨_, rfl, by rw [List.length_append]; show 1 + _ ≤ _; omega, ?_⟩
    rw [sw0 ([95] ++ (c :: r).take 4) (fun d h => by obtain rfl : 95 = d := Option.some.inj h; decide)]
    refine ⟨false, false, rfl, rfl, _, rfl, iteF' rfl ?_⟩
    refine ⟨_, rfl, 4, rfl, S (c :: r), rfl, hzs, ?_⟩
    rw [show cutS (S (c :: r)) none (some 4) = S ((c :: r).take 4) from hk2 4]
    refine ⟨[51], _, rfl, rfl, by show 1 + _ ≤ _; omega, ?_⟩
    refine ⟨_, rfl, by rw [List.length_append]; show 1 + _ ≤ _; omega, ?_⟩
    rw [sw0 ([51] ++ (c :: r).take 4) (fun d h => by obtain rfl : 51 = d := Option.some.inj h; decide)]
    refine ⟨false, false, rfl, rfl, _, rfl, iteF' rfl ?_⟩
    exact ⟨s0.trans (sev.trans (sN.trans (s2.trans (s25.trans (s6.trans (s78.trans s9)))))), _, _, _, _, _, _, _, _, _, rfl⟩
end
theorem all_mk {l : PySem.W.OpenLaw} {w : World} {K : PySem.W.Frag} {h : Heap} {mg : Str → Option Value} {fa f1 f2 f3 f4 f5 f6 f7 f8 f9 f10 f11 f12 f13 f14 f15 f16 f17 f18 f19 f20 f21 f22 f23 f24 f25 f26 f27 f28 f29 f30 f31 f32 f33 f34 f35 aZERO aONE CPartError CTextFault CNought fIni T5 : Addr} (X : K.In h) (G : h.Ns mainGlobals mg) (hfa : mg "law" = some (.ref fa))
    {od1 an1 od2 an2 od3 an3 od4 an4 od5 an5 od6 an6 od7 an7 od8 an8 od9 an9 od10 an10 od11 an11 od12 an12 od13 an13 od14 an14 od15 an15 od16 an16 od17 an17 od18 an18 od19 an19 od20 an20 od21 an21 od22 an22 od23 an23 od24 an24 od25 an25 od26 an26 od27 an27 od28 an28 od29 an29 od30 an30 od31 an31 od32 an32 od33 an33 od34 an34 od35 an35 : Option Addr} {sl1 sl2 sl3 sl4 sl5 sl6 sl7 sl8 sl9 sl10 sl11 sl12 sl13 sl14 sl15 sl16 sl17 sl18 sl19 sl20 sl21 sl22 sl23 sl24 sl25 sl26 sl27 sl28 sl29 sl30 sl31 sl32 sl33 sl34 sl35 : Array (Option Value)} {oc1 kV1 dc1 pm1 cd1 ct1 oc2 kV2 dc2 pm2 cd2 ct2 oc3 kV3 dc3 pm3 cd3 ct3 oc4 kV4 dc4 pm4 cd4 ct4 oc5 kV5 dc5 pm5 cd5 ct5 oc6 kV6 dc6 pm6 cd6 ct6 oc7 kV7 dc7 pm7 cd7 ct7 oc8 kV8 dc8 pm8 cd8 ct8 oc9 kV9 dc9 pm9 cd9 ct9 oc10 kV10 dc10 pm10 cd10 ct10 oc11 kV11 dc11 pm11 cd11 ct11 oc12 kV12 dc12 pm12 cd12 ct12 oc13 kV13 dc13 pm13 cd13 ct13 oc14 kV14 dc14 pm14 cd14 ct14 oc15 kV15 dc15 pm15 cd15 ct15 oc16 kV16 dc16 pm16 cd16 ct16 oc17 kV17 dc17 pm17 cd17 ct17 oc18 kV18 dc18 pm18 cd18 ct18 oc19 kV19 dc19 pm19 cd19 ct19 oc20 kV20 dc20 pm20 cd20 ct20 oc21 kV21 dc21 pm21 cd21 ct21 oc22 kV22 dc22 pm22 cd22 ct22 oc23 kV23 dc23 pm23 cd23 ct23 oc24 kV24 dc24 pm24 cd24 ct24 oc25 kV25 dc25 pm25 cd25 ct25 oc26 kV26 dc26 pm26 cd26 ct26 oc27 kV27 dc27 pm27 cd27 ct27 oc28 kV28 dc28 pm28 cd28 ct28 oc29 kV29 dc29 pm29 cd29 ct29 oc30 kV30 dc30 pm30 cd30 ct30 oc31 kV31 dc31 pm31 cd31 ct31 oc32 kV32 dc32 pm32 cd32 ct32 oc33 kV33 dc33 pm33 cd33 ct33 oc34 kV34 dc34 pm34 cd34 ct34 oc35 kV35 dc35 pm35 cd35 ct35 : Value}
    (a1 : PySem.W.nsIn K mainGlobals "row_end" = some (some (.ref f1))) (l1 : K.lookup f1 = some ⟨oc1, od1, .func (PySem.W.fnOf "row_end" "row_end" (defArgs sRowEnd) (defBody sRowEnd) (defScope sRowEnd) .none kV1 dc1 pm1 an1 cd1 ct1), sl1⟩) (c1 : PySem.W.codeIn K cd1 "row_end" = true) (k1 : PySem.W.keepIn K (.ref f1) = true)
    (a2 : PySem.W.nsIn K mainGlobals "is_row" = some (some (.ref f2))) (l2 : K.lookup f2 = some ⟨oc2, od2, .func (PySem.W.fnOf "is_row" "is_row" (defArgs sIsRow) (defBody sIsRow) (defScope sIsRow) .none kV2 dc2 pm2 an2 cd2 ct2), sl2⟩) (c2 : PySem.W.codeIn K cd2 "is_row" = true) (k2 : PySem.W.keepIn K (.ref f2) = true)
    (a3 : PySem.W.nsIn K mainGlobals "is_short_word" = some (some (.ref f3))) (l3 : K.lookup f3 = some ⟨oc3, od3, .func (PySem.W.fnOf "is_short_word" "is_short_word" (defArgs sIsShortWord) (defBody sIsShortWord) (defScope sIsShortWord) .none kV3 dc3 pm3 an3 cd3 ct3), sl3⟩) (c3 : PySem.W.codeIn K cd3 "is_short_word" = true) (k3 : PySem.W.keepIn K (.ref f3) = true)
    (a4 : PySem.W.nsIn K mainGlobals "common" = some (some (.ref f4))) (l4 : K.lookup f4 = some ⟨oc4, od4, .func (PySem.W.fnOf "common" "common" (defArgs sCommon) (defBody sCommon) (defScope sCommon) .none kV4 dc4 pm4 an4 cd4 ct4), sl4⟩) (c4 : PySem.W.codeIn K cd4 "common" = true) (k4 : PySem.W.keepIn K (.ref f4) = true)
    (a5 : PySem.W.nsIn K mainGlobals "fraction" = some (some (.ref f5))) (l5 : K.lookup f5 = some ⟨oc5, od5, .func (PySem.W.fnOf "fraction" "fraction" (defArgs sFraction) (defBody sFraction) (defScope sFraction) (.ref T5) kV5 dc5 pm5 an5 cd5 ct5), sl5⟩) {ocT5 : Value} {odT5 : Option Addr} {slT5 : Array (Option Value)} {nT5 : Nat} {tT5 : Tok} (lT5 : K.lookup T5 = some ⟨ocT5, odT5, .seq #[.int 1 tT5] nT5, slT5⟩) (c5 : PySem.W.codeIn K cd5 "fraction" = true) (k5 : PySem.W.keepIn K (.ref f5) = true)
    (a6 : PySem.W.nsIn K mainGlobals "plus" = some (some (.ref f6))) (l6 : K.lookup f6 = some ⟨oc6, od6, .func (PySem.W.fnOf "plus" "plus" (defArgs sPlus) (defBody sPlus) (defScope sPlus) .none kV6 dc6 pm6 an6 cd6 ct6), sl6⟩) (c6 : PySem.W.codeIn K cd6 "plus" = true) (k6 : PySem.W.keepIn K (.ref f6) = true)
    (a7 : PySem.W.nsIn K mainGlobals "times" = some (some (.ref f7))) (l7 : K.lookup f7 = some ⟨oc7, od7, .func (PySem.W.fnOf "times" "times" (defArgs sTimes) (defBody sTimes) (defScope sTimes) .none kV7 dc7 pm7 an7 cd7 ct7), sl7⟩) (c7 : PySem.W.codeIn K cd7 "times" = true) (k7 : PySem.W.keepIn K (.ref f7) = true)
    (a8 : PySem.W.nsIn K mainGlobals "negative" = some (some (.ref f8))) (l8 : K.lookup f8 = some ⟨oc8, od8, .func (PySem.W.fnOf "negative" "negative" (defArgs sNegative) (defBody sNegative) (defScope sNegative) .none kV8 dc8 pm8 an8 cd8 ct8), sl8⟩) (c8 : PySem.W.codeIn K cd8 "negative" = true) (k8 : PySem.W.keepIn K (.ref f8) = true)
    (a9 : PySem.W.nsIn K mainGlobals "sign" = some (some (.ref f9))) (l9 : K.lookup f9 = some ⟨oc9, od9, .func (PySem.W.fnOf "sign" "sign" (defArgs sSign) (defBody sSign) (defScope sSign) .none kV9 dc9 pm9 an9 cd9 ct9), sl9⟩) (c9 : PySem.W.codeIn K cd9 "sign" = true) (k9 : PySem.W.keepIn K (.ref f9) = true)
    (a10 : PySem.W.nsIn K mainGlobals "without_sign" = some (some (.ref f10))) (l10 : K.lookup f10 = some ⟨oc10, od10, .func (PySem.W.fnOf "without_sign" "without_sign" (defArgs sWithoutSign) (defBody sWithoutSign) (defScope sWithoutSign) .none kV10 dc10 pm10 an10 cd10 ct10), sl10⟩) (c10 : PySem.W.codeIn K cd10 "without_sign" = true) (k10 : PySem.W.keepIn K (.ref f10) = true)
    (a11 : PySem.W.nsIn K mainGlobals "decimal" = some (some (.ref f11))) (l11 : K.lookup f11 = some ⟨oc11, od11, .func (PySem.W.fnOf "decimal" "decimal" (defArgs sDecimal) (defBody sDecimal) (defScope sDecimal) .none kV11 dc11 pm11 an11 cd11 ct11), sl11⟩) (c11 : PySem.W.codeIn K cd11 "decimal" = true) (k11 : PySem.W.keepIn K (.ref f11) = true)
    (a12 : PySem.W.nsIn K mainGlobals "told" = some (some (.ref f12))) (l12 : K.lookup f12 = some ⟨oc12, od12, .func (PySem.W.fnOf "told" "told" (defArgs sTold) (defBody sTold) (defScope sTold) .none kV12 dc12 pm12 an12 cd12 ct12), sl12⟩) (c12 : PySem.W.codeIn K cd12 "told" = true) (k12 : PySem.W.keepIn K (.ref f12) = true)
    (a13 : PySem.W.nsIn K mainGlobals "read_digits" = some (some (.ref f13))) (l13 : K.lookup f13 = some ⟨oc13, od13, .func (PySem.W.fnOf "read_digits" "read_digits" (defArgs sReadDigits) (defBody sReadDigits) (defScope sReadDigits) .none kV13 dc13 pm13 an13 cd13 ct13), sl13⟩) (c13 : PySem.W.codeIn K cd13 "read_digits" = true) (k13 : PySem.W.keepIn K (.ref f13) = true)
    (a14 : PySem.W.nsIn K mainGlobals "read_ratio" = some (some (.ref f14))) (l14 : K.lookup f14 = some ⟨oc14, od14, .func (PySem.W.fnOf "read_ratio" "read_ratio" (defArgs sReadRatio) (defBody sReadRatio) (defScope sReadRatio) .none kV14 dc14 pm14 an14 cd14 ct14), sl14⟩) (c14 : PySem.W.codeIn K cd14 "read_ratio" = true) (k14 : PySem.W.keepIn K (.ref f14) = true)
    (a15 : PySem.W.nsIn K mainGlobals "constant" = some (some (.ref f15))) (l15 : K.lookup f15 = some ⟨oc15, od15, .func (PySem.W.fnOf "constant" "constant" (defArgs sConstant) (defBody sConstant) (defScope sConstant) .none kV15 dc15 pm15 an15 cd15 ct15), sl15⟩) (c15 : PySem.W.codeIn K cd15 "constant" = true) (k15 : PySem.W.keepIn K (.ref f15) = true)
    (a16 : PySem.W.nsIn K mainGlobals "parameter" = some (some (.ref f16))) (l16 : K.lookup f16 = some ⟨oc16, od16, .func (PySem.W.fnOf "parameter" "parameter" (defArgs sParameter) (defBody sParameter) (defScope sParameter) .none kV16 dc16 pm16 an16 cd16 ct16), sl16⟩) (c16 : PySem.W.codeIn K cd16 "parameter" = true) (k16 : PySem.W.keepIn K (.ref f16) = true)
    (a17 : PySem.W.nsIn K mainGlobals "add" = some (some (.ref f17))) (l17 : K.lookup f17 = some ⟨oc17, od17, .func (PySem.W.fnOf "add" "add" (defArgs sAdd) (defBody sAdd) (defScope sAdd) .none kV17 dc17 pm17 an17 cd17 ct17), sl17⟩) (c17 : PySem.W.codeIn K cd17 "add" = true) (k17 : PySem.W.keepIn K (.ref f17) = true)
    (a18 : PySem.W.nsIn K mainGlobals "scale" = some (some (.ref f18))) (l18 : K.lookup f18 = some ⟨oc18, od18, .func (PySem.W.fnOf "scale" "scale" (defArgs sScale) (defBody sScale) (defScope sScale) .none kV18 dc18 pm18 an18 cd18 ct18), sl18⟩) (c18 : PySem.W.codeIn K cd18 "scale" = true) (k18 : PySem.W.keepIn K (.ref f18) = true)
    (a19 : PySem.W.nsIn K mainGlobals "opposite" = some (some (.ref f19))) (l19 : K.lookup f19 = some ⟨oc19, od19, .func (PySem.W.fnOf "opposite" "opposite" (defArgs sOpposite) (defBody sOpposite) (defScope sOpposite) .none kV19 dc19 pm19 an19 cd19 ct19), sl19⟩) (c19 : PySem.W.codeIn K cd19 "opposite" = true) (k19 : PySem.W.keepIn K (.ref f19) = true)
    (a20 : PySem.W.nsIn K mainGlobals "is_parameter_name" = some (some (.ref f20))) (l20 : K.lookup f20 = some ⟨oc20, od20, .func (PySem.W.fnOf "is_parameter_name" "is_parameter_name" (defArgs sIsParameterName) (defBody sIsParameterName) (defScope sIsParameterName) .none kV20 dc20 pm20 an20 cd20 ct20), sl20⟩) (c20 : PySem.W.codeIn K cd20 "is_parameter_name" = true) (k20 : PySem.W.keepIn K (.ref f20) = true)
    (a21 : PySem.W.nsIn K mainGlobals "is_short" = some (some (.ref f21))) (l21 : K.lookup f21 = some ⟨oc21, od21, .func (PySem.W.fnOf "is_short" "is_short" (defArgs sIsShort) (defBody sIsShort) (defScope sIsShort) .none kV21 dc21 pm21 an21 cd21 ct21), sl21⟩) (c21 : PySem.W.codeIn K cd21 "is_short" = true) (k21 : PySem.W.keepIn K (.ref f21) = true)
    (a22 : PySem.W.nsIn K mainGlobals "after_blanks" = some (some (.ref f22))) (l22 : K.lookup f22 = some ⟨oc22, od22, .func (PySem.W.fnOf "after_blanks" "after_blanks" (defArgs sAfterBlanks) (defBody sAfterBlanks) (defScope sAfterBlanks) .none kV22 dc22 pm22 an22 cd22 ct22), sl22⟩) (c22 : PySem.W.codeIn K cd22 "after_blanks" = true) (k22 : PySem.W.keepIn K (.ref f22) = true)
    (a23 : PySem.W.nsIn K mainGlobals "is_at" = some (some (.ref f23))) (l23 : K.lookup f23 = some ⟨oc23, od23, .func (PySem.W.fnOf "is_at" "is_at" (defArgs sIsAt) (defBody sIsAt) (defScope sIsAt) .none kV23 dc23 pm23 an23 cd23 ct23), sl23⟩) (c23 : PySem.W.codeIn K cd23 "is_at" = true) (k23 : PySem.W.keepIn K (.ref f23) = true)
    (a24 : PySem.W.nsIn K mainGlobals "read_parameter" = some (some (.ref f24))) (l24 : K.lookup f24 = some ⟨oc24, od24, .func (PySem.W.fnOf "read_parameter" "read_parameter" (defArgs sReadParameter) (defBody sReadParameter) (defScope sReadParameter) .none kV24 dc24 pm24 an24 cd24 ct24), sl24⟩) (c24 : PySem.W.codeIn K cd24 "read_parameter" = true) (k24 : PySem.W.keepIn K (.ref f24) = true)
    (a25 : PySem.W.nsIn K mainGlobals "read_term" = some (some (.ref f25))) (l25 : K.lookup f25 = some ⟨oc25, od25, .func (PySem.W.fnOf "read_term" "read_term" (defArgs sReadTerm) (defBody sReadTerm) (defScope sReadTerm) .none kV25 dc25 pm25 an25 cd25 ct25), sl25⟩) (c25 : PySem.W.codeIn K cd25 "read_term" = true) (k25 : PySem.W.keepIn K (.ref f25) = true)
    (a26 : PySem.W.nsIn K mainGlobals "read_expression" = some (some (.ref f26))) (l26 : K.lookup f26 = some ⟨oc26, od26, .func (PySem.W.fnOf "read_expression" "read_expression" (defArgs sReadExpression) (defBody sReadExpression) (defScope sReadExpression) .none kV26 dc26 pm26 an26 cd26 ct26), sl26⟩) (c26 : PySem.W.codeIn K cd26 "read_expression" = true) (k26 : PySem.W.keepIn K (.ref f26) = true)
    (a27 : PySem.W.nsIn K mainGlobals "term_text" = some (some (.ref f27))) (l27 : K.lookup f27 = some ⟨oc27, od27, .func (PySem.W.fnOf "term_text" "term_text" (defArgs sTermText) (defBody sTermText) (defScope sTermText) .none kV27 dc27 pm27 an27 cd27 ct27), sl27⟩) (c27 : PySem.W.codeIn K cd27 "term_text" = true) (k27 : PySem.W.keepIn K (.ref f27) = true)
    (a28 : PySem.W.nsIn K mainGlobals "expression_text" = some (some (.ref f28))) (l28 : K.lookup f28 = some ⟨oc28, od28, .func (PySem.W.fnOf "expression_text" "expression_text" (defArgs sExpressionText) (defBody sExpressionText) (defScope sExpressionText) .none kV28 dc28 pm28 an28 cd28 ct28), sl28⟩) (c28 : PySem.W.codeIn K cd28 "expression_text" = true) (k28 : PySem.W.keepIn K (.ref f28) = true)
    (a29 : PySem.W.nsIn K mainGlobals "_law_number" = some (some (.ref f29))) (l29 : K.lookup f29 = some ⟨oc29, od29, .func (PySem.W.fnOf "_law_number" "_law_number" (defArgs sLLawNumber) (defBody sLLawNumber) (defScope sLLawNumber) .none kV29 dc29 pm29 an29 cd29 ct29), sl29⟩) (c29 : PySem.W.codeIn K cd29 "_law_number" = true) (k29 : PySem.W.keepIn K (.ref f29) = true)
    (a30 : PySem.W.nsIn K mainGlobals "_law_fraction" = some (some (.ref f30))) (l30 : K.lookup f30 = some ⟨oc30, od30, .func (PySem.W.fnOf "_law_fraction" "_law_fraction" (defArgs sLLawFraction) (defBody sLLawFraction) (defScope sLLawFraction) .none kV30 dc30 pm30 an30 cd30 ct30), sl30⟩) (c30 : PySem.W.codeIn K cd30 "_law_fraction" = true) (k30 : PySem.W.keepIn K (.ref f30) = true)
    (a31 : PySem.W.nsIn K mainGlobals "_law_small" = some (some (.ref f31))) (l31 : K.lookup f31 = some ⟨oc31, od31, .func (PySem.W.fnOf "_law_small" "_law_small" (defArgs sLLawSmall) (defBody sLLawSmall) (defScope sLLawSmall) .none kV31 dc31 pm31 an31 cd31 ct31), sl31⟩) (c31 : PySem.W.codeIn K cd31 "_law_small" = true) (k31 : PySem.W.keepIn K (.ref f31) = true)
    (a32 : PySem.W.nsIn K mainGlobals "_law_told" = some (some (.ref f32))) (l32 : K.lookup f32 = some ⟨oc32, od32, .func (PySem.W.fnOf "_law_told" "_law_told" (defArgs sLLawTold) (defBody sLLawTold) (defScope sLLawTold) .none kV32 dc32 pm32 an32 cd32 ct32), sl32⟩) (c32 : PySem.W.codeIn K cd32 "_law_told" = true) (k32 : PySem.W.keepIn K (.ref f32) = true)
    (a33 : PySem.W.nsIn K mainGlobals "_law_text" = some (some (.ref f33))) (l33 : K.lookup f33 = some ⟨oc33, od33, .func (PySem.W.fnOf "_law_text" "_law_text" (defArgs sLLawText) (defBody sLLawText) (defScope sLLawText) .none kV33 dc33 pm33 an33 cd33 ct33), sl33⟩) (c33 : PySem.W.codeIn K cd33 "_law_text" = true) (k33 : PySem.W.keepIn K (.ref f33) = true)
    (a34 : PySem.W.nsIn K mainGlobals "_law_name" = some (some (.ref f34))) (l34 : K.lookup f34 = some ⟨oc34, od34, .func (PySem.W.fnOf "_law_name" "_law_name" (defArgs sLLawName) (defBody sLLawName) (defScope sLLawName) .none kV34 dc34 pm34 an34 cd34 ct34), sl34⟩) (c34 : PySem.W.codeIn K cd34 "_law_name" = true) (k34 : PySem.W.keepIn K (.ref f34) = true)
    (a35 : PySem.W.nsIn K mainGlobals "law" = some (some (.ref f35))) (l35 : K.lookup f35 = some ⟨oc35, od35, .func (PySem.W.fnOf "law" "law" (defArgs sLaw) (defBody sLaw) (defScope sLaw) .none kV35 dc35 pm35 an35 cd35 ct35), sl35⟩) (c35 : PySem.W.codeIn K cd35 "law" = true) (k35 : PySem.W.keepIn K (.ref f35) = true)
    (z1 : PySem.W.nsIn K mainGlobals "abs" = some none)
    (z2 : PySem.W.nsIn K mainGlobals "bool" = some none)
    (z3 : PySem.W.nsIn K mainGlobals "divmod" = some none)
    (z4 : PySem.W.nsIn K mainGlobals "int" = some none)
    (z5 : PySem.W.nsIn K mainGlobals "isinstance" = some none)
    (z6 : PySem.W.nsIn K mainGlobals "len" = some none)
    (z7 : PySem.W.nsIn K mainGlobals "list" = some none)
    (z8 : PySem.W.nsIn K mainGlobals "max" = some none)
    (z9 : PySem.W.nsIn K mainGlobals "range" = some none)
    (z10 : PySem.W.nsIn K mainGlobals "reversed" = some none)
    (z11 : PySem.W.nsIn K mainGlobals "str" = some none)
    (z12 : PySem.W.nsIn K mainGlobals "tuple" = some none)
    (z13 : PySem.W.nsIn K mainGlobals "zip" = some none)
    (z14 : PySem.W.nsIn K mainGlobals "gcd" = some (some (.builtin "math.gcd")))
    {aDIGITS : Tok} (u0 : PySem.W.nsIn K mainGlobals "DIGITS" = some (some (.str "0123456789" aDIGITS)))
    {aLETTERS : Tok} (u1 : PySem.W.nsIn K mainGlobals "LETTERS" = some (some (.str "abcdefghijklmnopqrstuvwxyzABCDEFGHIJKLMNOPQRSTUVWXYZ" aLETTERS)))
    {aWORD_CHARACTERS : Tok} (u2 : PySem.W.nsIn K mainGlobals "WORD_CHARACTERS" = some (some (.str "abcdefghijklmnopqrstuvwxyzABCDEFGHIJKLMNOPQRSTUVWXYZ0123456789_" aWORD_CHARACTERS)))
    {aNAME_LENGTH : Tok} (u3 : PySem.W.nsIn K mainGlobals "NAME_LENGTH" = some (some (.int 16 aNAME_LENGTH)))
    (u4 : PySem.W.nsIn K mainGlobals "ZERO" = some (some (.ref aZERO))) {dw4 : Option Addr} {nw4 : Nat} {sw4 : Array (Option Value)} {tk4_0 tk4_1 : Tok} (w4 : K.lookup aZERO = some ⟨.type "tuple", dw4, .seq #[.int 0 tk4_0, .int 1 tk4_1] nw4, sw4⟩)
    (u5 : PySem.W.nsIn K mainGlobals "ONE" = some (some (.ref aONE))) {dw5 : Option Addr} {nw5 : Nat} {sw5 : Array (Option Value)} {tk5_0 tk5_1 : Tok} (w5 : K.lookup aONE = some ⟨.type "tuple", dw5, .seq #[.int 1 tk5_0, .int 1 tk5_1] nw5, sw5⟩)
    {aMOST_DIGITS : Tok} (u6 : PySem.W.nsIn K mainGlobals "MOST_DIGITS" = some (some (.int 12 aMOST_DIGITS)))
    {aSHORT : Tok} (u7 : PySem.W.nsIn K mainGlobals "SHORT" = some (some (.int 1000000000000 aSHORT)))
    (y0 : PySem.W.nsIn K mainGlobals "PartError" = some (some (.ref CPartError)))
    (y1 : PySem.W.nsIn K mainGlobals "TextFault" = some (some (.ref CTextFault)))
    (y2 : PySem.W.nsIn K mainGlobals "Nought" = some (some (.ref CNought)))
    {odI anI : Option Addr} {slI : Array (Option Value)} {ocI kVI dcI pmI cdI ctI : Value} (lI : K.lookup fIni = some ⟨ocI, odI, .func (PySem.W.fnOf "__init__" "TextFault.__init__" (defArgs sIni) (defBody sIni) (defScope sIni) .none kVI dcI pmI anI cdI ctI), slI⟩) (cI : PySem.W.codeIn K cdI "TextFault.__init__" = true) (kI : PySem.W.keepIn K (.ref fIni) = true)
    {nm q : Str} {N : Addr} {bs : List Value} {sn : List Str} {sub : List Value} {ab : Bool} {col : Option Bool} {dd : Option Addr} {m0 m1 m2 m3 m5 : Option Value}
    (xL : K.lookup CTextFault = some (excClassObj nm q CTextFault N bs [.ref CPartError, .type "ValueError", .type "Exception", .type "BaseException", .type "object"] true sn sub ab col dd m0 m1 m2 m3 m5 "ValueError.__new__"))
    (v0 : PySem.W.findIn K (.ref CTextFault) "__setattr__" = some (some (.builtin "object.__setattr__")))
    (v1 : PySem.W.findIn K (.ref CTextFault) "__getattribute__" = some (some (.builtin "BaseException.__getattribute__")))
    (v2 : PySem.W.findIn K (.ref CTextFault) "__getattr__" = some none)
    (v3 : PySem.W.findIn K (.ref CTextFault) "line" = some none)
    (v4 : PySem.W.findIn K (.ref CTextFault) "column" = some none)
    (v5 : PySem.W.findIn K (.ref CTextFault) "__init__" = some (some (.ref fIni)))
    (v6 : PySem.W.typeIn K (.ref fIni) = some (.type "function"))
    (v7 : PySem.W.keepIn K (.ref CTextFault) = true)
    (v8 : PySem.W.subIn K (.ref CTextFault) (.type "BaseException") = some true)
    (v9 : PySem.W.typeIn K (.ref CTextFault) = some (.type "type"))
    (v10 : PySem.W.hasDictIn K CTextFault = true)
    (v11 : PySem.W.isClsIn K CTextFault = true)
    (v12 : PySem.W.subIn K (.ref CTextFault) (.ref CTextFault) = some true)
    (v13 : PySem.W.findIn K (.ref CTextFault) "__class__" = some (some (.builtin "object.__class__")))
    (v14 : PySem.W.specialIn K (.builtin "object.__class__") "__get__" = some (some (.builtin "getset_descriptor.__get__")))
    (v15 : PySem.W.takesIn K (.builtin "object.__class__") = some true)
    (v16 : PySem.W.mroIn K CTextFault (.type "object") = some true)
    (v17 : PySem.W.subIn K (.ref CPartError) (.type "BaseException") = some true)
    (v18 : PySem.W.isClsIn K CPartError = true)
    (v19 : PySem.W.typeIn K (.ref CPartError) = some (.type "type"))
    (v20 : PySem.W.subIn K (.ref CTextFault) (.ref CPartError) = some true)
    : ∃ fd : FuncData, (∀ (s : Shared) (v : Value), BindsTo s fd ⟨[v], []⟩ [("script", v)]) ∧ ∀ base : Heap, K.In base → base.Ns mainGlobals mg → FnOk l.prog w K mg base CX0 7 fa fd ["script"] (spLaw K) := by
  have e := hfa.symm.trans (PySem.W.mg_of X G a35)
  cases e
  have T : Txt mg := ⟨PySem.W.mg_none_of X G z1, PySem.W.mg_none_of X G z2, PySem.W.mg_none_of X G z3, PySem.W.mg_none_of X G z4, PySem.W.mg_none_of X G z5, PySem.W.mg_none_of X G z6, PySem.W.mg_none_of X G z7, PySem.W.mg_none_of X G z8, PySem.W.mg_none_of X G z9, PySem.W.mg_none_of X G z10, PySem.W.mg_none_of X G z11, PySem.W.mg_none_of X G z12, PySem.W.mg_none_of X G z13, PySem.W.mg_of X G z14⟩
  have CT : Cons K mg aDIGITS aLETTERS aWORD_CHARACTERS aNAME_LENGTH aZERO aONE aMOST_DIGITS aSHORT := ⟨PySem.W.mg_of X G u0, PySem.W.mg_of X G u1, PySem.W.mg_of X G u2, PySem.W.mg_of X G u3, PySem.W.mg_of X G u4, fun H => .inr ⟨_, _, _, w4, rfl, rfl, by show 2 ≤ sizeLine; decide, (.cons ⟨_, rfl⟩ (.cons ⟨_, rfl⟩ .nil))⟩, PySem.W.mg_of X G u5, fun H => .inr ⟨_, _, _, w5, rfl, rfl, by show 2 ≤ sizeLine; decide, (.cons ⟨_, rfl⟩ (.cons ⟨_, rfl⟩ .nil))⟩, PySem.W.mg_of X G u6, PySem.W.mg_of X G u7⟩
  have EX : Exns K mg CPartError CTextFault CNought := ⟨PySem.W.mg_of X G y0, PySem.W.mg_of X G y1, PySem.W.mg_of X G y2⟩
  have FL : Flt K mg CPartError CTextFault CNought fIni := ⟨EX.gTextFault, ⟨nm, q, N, bs, _, sn, sub, ab, col, dd, m0, m1, m2, m3, m5, xL, show PySem.HandSPX.refsVE [.type "ValueError", .type "Exception", .type "BaseException", .type "object"] = true by decide +kernel⟩, v0, v1, v2, v3, v4, v5, v6, v7, v8, v9, v10, v11, v12, v13, v14, v15, v16, v17, v18, v19, v20⟩
  have FI := fun_mk (st := sIni) lI cI kI
  have bI := FI.binds (ps := ["self", "line", "column"]) fun _ _ _ _ _ _ us hl => match us, hl with | [_, _, _], _ => rfl
  have F1 := fun_mk (st := sRowEnd) l1 c1 k1
  have F2 := fun_mk (st := sIsRow) l2 c2 k2
  have F3 := fun_mk (st := sIsShortWord) l3 c3 k3
  have F4 := fun_mk (st := sCommon) l4 c4 k4
  have F5 : FunD K "fraction" "fraction" (defArgs sFraction) (defBody sFraction) (defScope sFraction) [.int 1] [] f5 _ := ⟨⟨oc5, od5, .ref T5, kV5, dc5, pm5, an5, cd5, ct5, sl5, rfl, l5, c5, .inr ⟨by decide, T5, _, [.int 1 tT5], nT5, rfl, lT5, rfl, .cons ⟨_, rfl⟩ .nil⟩, .inl rfl⟩, k5⟩
  have F6 := fun_mk (st := sPlus) l6 c6 k6
  have F7 := fun_mk (st := sTimes) l7 c7 k7
  have F8 := fun_mk (st := sNegative) l8 c8 k8
  have F9 := fun_mk (st := sSign) l9 c9 k9
  have F10 := fun_mk (st := sWithoutSign) l10 c10 k10
  have F11 := fun_mk (st := sDecimal) l11 c11 k11
  have F12 := fun_mk (st := sTold) l12 c12 k12
  have F13 := fun_mk (st := sReadDigits) l13 c13 k13
  have F14 := fun_mk (st := sReadRatio) l14 c14 k14
  have F15 := fun_mk (st := sConstant) l15 c15 k15
  have F16 := fun_mk (st := sParameter) l16 c16 k16
  have F17 := fun_mk (st := sAdd) l17 c17 k17
  have F18 := fun_mk (st := sScale) l18 c18 k18
  have F19 := fun_mk (st := sOpposite) l19 c19 k19
  have F20 := fun_mk (st := sIsParameterName) l20 c20 k20
  have F21 := fun_mk (st := sIsShort) l21 c21 k21
  have F22 := fun_mk (st := sAfterBlanks) l22 c22 k22
  have F23 := fun_mk (st := sIsAt) l23 c23 k23
  have F24 := fun_mk (st := sReadParameter) l24 c24 k24
  have F25 := fun_mk (st := sReadTerm) l25 c25 k25
  have F26 := fun_mk (st := sReadExpression) l26 c26 k26
  have F27 := fun_mk (st := sTermText) l27 c27 k27
  have F28 := fun_mk (st := sExpressionText) l28 c28 k28
  have F29 := fun_mk (st := sLLawNumber) l29 c29 k29
  have F30 := fun_mk (st := sLLawFraction) l30 c30 k30
  have F31 := fun_mk (st := sLLawSmall) l31 c31 k31
  have F32 := fun_mk (st := sLLawTold) l32 c32 k32
  have F33 := fun_mk (st := sLLawText) l33 c33 k33
  have F34 := fun_mk (st := sLLawName) l34 c34 k34
  have F35 := fun_mk (st := sLaw) l35 c35 k35
  have b1 := F1.binds (ps := ["text", "at", "allowed"]) fun _ _ _ _ _ _ us hl => match us, hl with | [_, _, _], _ => rfl
  have b2 := F2.binds (ps := ["text", "allowed"]) fun _ _ _ _ _ _ us hl => match us, hl with | [_, _], _ => rfl
  have b3 := F3.binds (ps := ["text", "first", "others"]) fun _ _ _ _ _ _ us hl => match us, hl with | [_, _, _], _ => rfl
  have b4 := F4.binds (ps := ["a", "b"]) fun _ _ _ _ _ _ us hl => match us, hl with | [_, _], _ => rfl
  obtain ⟨e5, ve5, b5⟩ := F5.binds1 (ps := ["number", "divisor"]) 2 1 (by decide) rfl (fun T kV doc pm an cdv ct us its hu hi => match us, its, hu, hi with | [_, _], [_], _, _ => ⟨_, rfl, by kernel_rfl⟩)
  cases ve5
  obtain ⟨d5, vd5, bd5⟩ := F5.binds1 (ps := ["number", "divisor"]) 1 0 (by decide) rfl (fun T kV doc pm an cdv ct us its hu hi => match us, its, hu, hi with | [_], [_], _, _ => ⟨_, rfl, by kernel_rfl⟩)
  have b6 := F6.binds (ps := ["a", "b"]) fun _ _ _ _ _ _ us hl => match us, hl with | [_, _], _ => rfl
  have b7 := F7.binds (ps := ["a", "b"]) fun _ _ _ _ _ _ us hl => match us, hl with | [_, _], _ => rfl
  have b8 := F8.binds (ps := ["a"]) fun _ _ _ _ _ _ us hl => match us, hl with | [_], _ => rfl
  have b9 := F9.binds (ps := ["a"]) fun _ _ _ _ _ _ us hl => match us, hl with | [_], _ => rfl
  have b10 := F10.binds (ps := ["a"]) fun _ _ _ _ _ _ us hl => match us, hl with | [_], _ => rfl
  have b11 := F11.binds (ps := ["number"]) fun _ _ _ _ _ _ us hl => match us, hl with | [_], _ => rfl
  have b12 := F12.binds (ps := ["a"]) fun _ _ _ _ _ _ us hl => match us, hl with | [_], _ => rfl
  have b13 := F13.binds (ps := ["text", "at"]) fun _ _ _ _ _ _ us hl => match us, hl with | [_, _], _ => rfl
  have b14 := F14.binds (ps := ["text", "at"]) fun _ _ _ _ _ _ us hl => match us, hl with | [_, _], _ => rfl
  have b15 := F15.binds (ps := ["base", "many"]) fun _ _ _ _ _ _ us hl => match us, hl with | [_, _], _ => rfl
  have b16 := F16.binds (ps := ["at", "many"]) fun _ _ _ _ _ _ us hl => match us, hl with | [_, _], _ => rfl
  have b17 := F17.binds (ps := ["a", "b"]) fun _ _ _ _ _ _ us hl => match us, hl with | [_, _], _ => rfl
  have b18 := F18.binds (ps := ["factor", "a"]) fun _ _ _ _ _ _ us hl => match us, hl with | [_, _], _ => rfl
  have b19 := F19.binds (ps := ["a"]) fun _ _ _ _ _ _ us hl => match us, hl with | [_], _ => rfl
  have b20 := F20.binds (ps := ["text"]) fun _ _ _ _ _ _ us hl => match us, hl with | [_], _ => rfl
  have b21 := F21.binds (ps := ["found"]) fun _ _ _ _ _ _ us hl => match us, hl with | [_], _ => rfl
  have b22 := F22.binds (ps := ["text", "at"]) fun _ _ _ _ _ _ us hl => match us, hl with | [_, _], _ => rfl
  have b23 := F23.binds (ps := ["text", "at", "signs"]) fun _ _ _ _ _ _ us hl => match us, hl with | [_, _, _], _ => rfl
  have b24 := F24.binds (ps := ["names", "text", "at"]) fun _ _ _ _ _ _ us hl => match us, hl with | [_, _, _], _ => rfl
  have b25 := F25.binds (ps := ["names", "text", "at"]) fun _ _ _ _ _ _ us hl => match us, hl with | [_, _, _], _ => rfl
  have b26 := F26.binds (ps := ["names", "text"]) fun _ _ _ _ _ _ us hl => match us, hl with | [_, _], _ => rfl
  have b27 := F27.binds (ps := ["name", "slope"]) fun _ _ _ _ _ _ us hl => match us, hl with | [_, _], _ => rfl
  have b28 := F28.binds (ps := ["names", "found"]) fun _ _ _ _ _ _ us hl => match us, hl with | [_, _], _ => rfl
  have b29 := F29.binds (ps := ["script", "k"]) fun _ _ _ _ _ _ us hl => match us, hl with | [_, _], _ => rfl
  have b30 := F30.binds (ps := ["number", "divisor"]) fun _ _ _ _ _ _ us hl => match us, hl with | [_, _], _ => rfl
  have b31 := F31.binds (ps := ["draw"]) fun _ _ _ _ _ _ us hl => match us, hl with | [_], _ => rfl
  have b32 := F32.binds (ps := ["found"]) fun _ _ _ _ _ _ us hl => match us, hl with | [_], _ => rfl
  have b33 := F33.binds (ps := ["names", "found"]) fun _ _ _ _ _ _ us hl => match us, hl with | [_, _], _ => rfl
  have b34 := F34.binds (ps := ["draw"]) fun _ _ _ _ _ _ us hl => match us, hl with | [_], _ => rfl
  refine ⟨PySem.W.fnOf "law" "law" (defArgs sLaw) (defBody sLaw) (defScope sLaw) .none kV35 dc35 pm35 an35 cd35 ct35, fun s v => .of_eq rfl, fun base _ _ => ?_⟩
  have G1 : FnOk l.prog w K mg base CX0 1 f1 _ ["text", "at", "allowed"] (spRowEnd K) := okRowEnd F1 T CT EX FL (okIni FI FL.ox FL.nline FL.ncolumn) bI 
  have G2 : FnOk l.prog w K mg base CX0 2 f2 _ ["text", "allowed"] (spIsRow K) := okIsRow F2 T CT EX FL (okIni FI FL.ox FL.nline FL.ncolumn) bI G1 (PySem.W.mg_of X G a1) k1 b1
  have G3 : FnOk l.prog w K mg base CX0 3 f3 _ ["text", "first", "others"] (spIsShortWord K) := okIsShortWord F3 T CT EX FL (okIni FI FL.ox FL.nline FL.ncolumn) bI G2 (PySem.W.mg_of X G a2) k2 b2
  have G4 : FnOk l.prog w K mg base CX0 1 f4 _ ["a", "b"] (spCommon K) := okCommon F4 T CT EX FL (okIni FI FL.ox FL.nline FL.ncolumn) bI 
  have G5 : FnOk l.prog w K mg base CX0 1 f5 _ ["number", "divisor"] (spFraction K) := okFraction F5 T CT EX FL (okIni FI FL.ox FL.nline FL.ncolumn) bI 
  have G6 : FnOk l.prog w K mg base CX0 2 f6 _ ["a", "b"] (spPlus K) := okPlus F6 T CT EX FL (okIni FI FL.ox FL.nline FL.ncolumn) bI G5 (PySem.W.mg_of X G a5) k5 b5 vd5 bd5
  have G7 : FnOk l.prog w K mg base CX0 2 f7 _ ["a", "b"] (spTimes K) := okTimes F7 T CT EX FL (okIni FI FL.ox FL.nline FL.ncolumn) bI G5 (PySem.W.mg_of X G a5) k5 b5 vd5 bd5
  have G8 : FnOk l.prog w K mg base CX0 1 f8 _ ["a"] (spNegative K) := okNegative F8 T CT EX FL (okIni FI FL.ox FL.nline FL.ncolumn) bI 
  have G9 : FnOk l.prog w K mg base CX0 1 f9 _ ["a"] (spSign K) := okSign F9 T CT EX FL (okIni FI FL.ox FL.nline FL.ncolumn) bI 
  have G10 : FnOk l.prog w K mg base CX0 1 f10 _ ["a"] (spWithoutSign K) := okWithoutSign F10 T CT EX FL (okIni FI FL.ox FL.nline FL.ncolumn) bI 
  have G11 : FnOk l.prog w K mg base CX0 1 f11 _ ["number"] (spDecimal K) := okDecimal F11 T CT EX FL (okIni FI FL.ox FL.nline FL.ncolumn) bI 
  have G12 : FnOk l.prog w K mg base CX0 2 f12 _ ["a"] (spTold K) := okTold F12 T CT EX FL (okIni FI FL.ox FL.nline FL.ncolumn) bI G11 (PySem.W.mg_of X G a11) k11 b11
  have G13 : FnOk l.prog w K mg base (L2.CX l.prog w) 3 f13 _ ["text", "at"] (spReadDigits K CTextFault) := okReadDigits F13 T CT EX FL (okIni FI FL.ox FL.nline FL.ncolumn) bI G1 (PySem.W.mg_of X G a1) k1 b1
  have G14 : FnOk l.prog w K mg base (L2.CX l.prog w) 4 f14 _ ["text", "at"] (spReadRatio K CTextFault) := okReadRatio F14 T CT EX FL (okIni FI FL.ox FL.nline FL.ncolumn) bI G13 (PySem.W.mg_of X G a13) k13 b13 G5 (PySem.W.mg_of X G a5) k5 b5 vd5 bd5
  have G15 : FnOk l.prog w K mg base CX0 1 f15 _ ["base", "many"] (spConstant K) := okConstant F15 T CT EX FL (okIni FI FL.ox FL.nline FL.ncolumn) bI 
  have G16 : FnOk l.prog w K mg base CX0 1 f16 _ ["at", "many"] (spParameter K) := okParameter F16 T CT EX FL (okIni FI FL.ox FL.nline FL.ncolumn) bI 
  have G17 : FnOk l.prog w K mg base CX0 3 f17 _ ["a", "b"] (spAdd K) := okAdd F17 T CT EX FL (okIni FI FL.ox FL.nline FL.ncolumn) bI G6 (PySem.W.mg_of X G a6) k6 b6
  have G18 : FnOk l.prog w K mg base CX0 3 f18 _ ["factor", "a"] (spScale K) := okScale F18 T CT EX FL (okIni FI FL.ox FL.nline FL.ncolumn) bI G7 (PySem.W.mg_of X G a7) k7 b7
  have G19 : FnOk l.prog w K mg base CX0 2 f19 _ ["a"] (spOpposite K) := okOpposite F19 T CT EX FL (okIni FI FL.ox FL.nline FL.ncolumn) bI G8 (PySem.W.mg_of X G a8) k8 b8
  have G20 : FnOk l.prog w K mg base CX0 4 f20 _ ["text"] (spIsParameterName K) := okIsParameterName F20 T CT EX FL (okIni FI FL.ox FL.nline FL.ncolumn) bI G3 (PySem.W.mg_of X G a3) k3 b3
  have G21 : FnOk l.prog w K mg base CX0 2 f21 _ ["found"] (spIsShort K) := okIsShort F21 T CT EX FL (okIni FI FL.ox FL.nline FL.ncolumn) bI G4 (PySem.W.mg_of X G a4) k4 b4
  have G22 : FnOk l.prog w K mg base CX0 2 f22 _ ["text", "at"] (spAfterBlanks K) := okAfterBlanks F22 T CT EX FL (okIni FI FL.ox FL.nline FL.ncolumn) bI G1 (PySem.W.mg_of X G a1) k1 b1
  have G23 : FnOk l.prog w K mg base CX0 1 f23 _ ["text", "at", "signs"] (spIsAt K) := okIsAt F23 T CT EX FL (okIni FI FL.ox FL.nline FL.ncolumn) bI 
  have G24 : FnOk l.prog w K mg base (L2.CX l.prog w) 3 f24 _ ["names", "text", "at"] (spReadParameter K CTextFault) := okReadParameter F24 T CT EX FL (okIni FI FL.ox FL.nline FL.ncolumn) bI G1 (PySem.W.mg_of X G a1) k1 b1 G16 (PySem.W.mg_of X G a16) k16 b16
  have G25 : FnOk l.prog w K mg base (L2.CX l.prog w) 5 f25 _ ["names", "text", "at"] (spReadTerm K CTextFault) := okReadTerm F25 T CT EX FL (okIni FI FL.ox FL.nline FL.ncolumn) bI G23 (PySem.W.mg_of X G a23) k23 b23 G14 (PySem.W.mg_of X G a14) k14 b14 G22 (PySem.W.mg_of X G a22) k22 b22 G24 (PySem.W.mg_of X G a24) k24 b24 G18 (PySem.W.mg_of X G a18) k18 b18 G15 (PySem.W.mg_of X G a15) k15 b15
  have G26 : FnOk l.prog w K mg base (L2.CX l.prog w) 6 f26 _ ["names", "text"] (spReadExpression K CTextFault) := okReadExpression F26 T CT EX FL (okIni FI FL.ox FL.nline FL.ncolumn) bI G22 (PySem.W.mg_of X G a22) k22 b22 G23 (PySem.W.mg_of X G a23) k23 b23 G25 (PySem.W.mg_of X G a25) k25 b25 G19 (PySem.W.mg_of X G a19) k19 b19 G17 (PySem.W.mg_of X G a17) k17 b17 G21 (PySem.W.mg_of X G a21) k21 b21
  have G27 : FnOk l.prog w K mg base CX0 3 f27 _ ["name", "slope"] (spTermText K) := okTermText F27 T CT EX FL (okIni FI FL.ox FL.nline FL.ncolumn) bI G10 (PySem.W.mg_of X G a10) k10 b10 G12 (PySem.W.mg_of X G a12) k12 b12
  have G28 : FnOk l.prog w K mg base CX0 4 f28 _ ["names", "found"] (spExpressionText K) := okExpressionText F28 T CT EX FL (okIni FI FL.ox FL.nline FL.ncolumn) bI G27 (PySem.W.mg_of X G a27) k27 b27 G9 (PySem.W.mg_of X G a9) k9 b9 G12 (PySem.W.mg_of X G a12) k12 b12 G10 (PySem.W.mg_of X G a10) k10 b10
  have G29 : FnOk l.prog w K mg base CX0 1 f29 _ ["script", "k"] (spLLawNumber K) := okLLawNumber F29 T CT EX FL (okIni FI FL.ox FL.nline FL.ncolumn) bI 
  have G30 : FnOk l.prog w K mg base CX0 1 f30 _ ["number", "divisor"] (spLLawFraction K) := okLLawFraction F30 T CT EX FL (okIni FI FL.ox FL.nline FL.ncolumn) bI 
  have G31 : FnOk l.prog w K mg base CX0 2 f31 _ ["draw"] (spLLawSmall K) := okLLawSmall F31 T CT EX FL (okIni FI FL.ox FL.nline FL.ncolumn) bI G30 (PySem.W.mg_of X G a30) k30 b30
  have G32 : FnOk l.prog w K mg base CX0 1 f32 _ ["found"] (spLLawTold K) := okLLawTold F32 T CT EX FL (okIni FI FL.ox FL.nline FL.ncolumn) bI 
  have G33 : FnOk l.prog w K mg base CX0 2 f33 _ ["names", "found"] (spLLawText K) := okLLawText F33 T CT EX FL (okIni FI FL.ox FL.nline FL.ncolumn) bI G32 (PySem.W.mg_of X G a32) k32 b32
  have G34 : FnOk l.prog w K mg base CX0 1 f34 _ ["draw"] (spLLawName K) := okLLawName F34 T CT EX FL (okIni FI FL.ox FL.nline FL.ncolumn) bI 
  exact okLaw F35 T CT EX FL (okIni FI FL.ox FL.nline FL.ncolumn) bI G29 (PySem.W.mg_of X G a29) k29 b29 G28 (PySem.W.mg_of X G a28) k28 b28 G34 (PySem.W.mg_of X G a34) k34 b34 G31 (PySem.W.mg_of X G a31) k31 b31 G26 (PySem.W.mg_of X G a26) k26 b26 G33 (PySem.W.mg_of X G a33) k33 b33 G20 (PySem.W.mg_of X G a20) k20 b20
end Tp
open PySem PySem.W PyProof.Rows
set_option maxHeartbeats 0 in
theorem PySem.Challenge.cw_truepart_k06_expressions_written_and_rea_holds : PySem.Challenge.rw_truepart_k06_expressions_written_and_rea.Holds := by
  w_on; o_law; k_head; (case hw => w_witness2)
  k_fill
  refine L2.walk_of (l := PySem.Challenge.rw_truepart_k06_expressions_written_and_rea) (n := 63) (k := 7) (x := "script") (CX := fun _ => L2.CX0) (sp := fun w => Tp.spLaw _) rfl (by decide) rfl ⟨rfl, by decide, by decide⟩ (fun w h Y => PySem.W.kIn_of Y) ?F (fun _ _ a ns hl _ hS => ⟨a, ns, rfl, hS, hl, fun _ => rfl⟩) (fun _ _ _ _ _ h => h)
  case F =>
    intro w mg fa h KX G hmg
    refine' Tp.all_mk KX G hmg ?a1 ?l1 ?c1 ?k1 ?a2 ?l2 ?c2 ?k2 ?a3 ?l3 ?c3 ?k3 ?a4 ?l4 ?c4 ?k4 ?a5 ?l5 ?lT5 ?c5 ?k5 ?a6 ?l6 ?c6 ?k6 ?a7 ?l7 ?c7 ?k7 ?a8 ?l8 ?c8 ?k8 ?a9 ?l9 ?c9 ?k9 ?a10 ?l10 ?c10 ?k10 ?a11 ?l11 ?c11 ?k11 ?a12 ?l12 ?c12 ?k12 ?a13 ?l13 ?c13 ?k13 ?a14 ?l14 ?c14 ?k14 ?a15 ?l15 ?c15 ?k15 ?a16 ?l16 ?c16 ?k16 ?a17 ?l17 ?c17 ?k17 ?a18 ?l18 ?c18 ?k18 ?a19 ?l19 ?c19 ?k19 ?a20 ?l20 ?c20 ?k20 ?a21 ?l21 ?c21 ?k21 ?a22 ?l22 ?c22 ?k22 ?a23 ?l23 ?c23 ?k23 ?a24 ?l24 ?c24 ?k24 ?a25 ?l25 ?c25 ?k25 ?a26 ?l26 ?c26 ?k26 ?a27 ?l27 ?c27 ?k27 ?a28 ?l28 ?c28 ?k28 ?a29 ?l29 ?c29 ?k29 ?a30 ?l30 ?c30 ?k30 ?a31 ?l31 ?c31 ?k31 ?a32 ?l32 ?c32 ?k32 ?a33 ?l33 ?c33 ?k33 ?a34 ?l34 ?c34 ?k34 ?a35 ?l35 ?c35 ?k35 ?z1 ?z2 ?z3 ?z4 ?z5 ?z6 ?z7 ?z8 ?z9 ?z10 ?z11 ?z12 ?z13 ?z14 ?u0 ?u1 ?u2 ?u3 ?u4 ?w4 ?u5 ?w5 ?u6 ?u7 ?y0 ?y1 ?y2 ?lI ?cI ?kI ?xL ?v0 ?v1 ?v2 ?v3 ?v4 ?v5 ?v6 ?v7 ?v8 ?v9 ?v10 ?v11 ?v12 ?v13 ?v14 ?v15 ?v16 ?v17 ?v18 ?v19 ?v20
    (case a1 => k_is)
    (case l1 => k_is)
    (case c1 => k_is)
    (case k1 => k_is)
    (case a2 => k_is)
    (case l2 => k_is)
    (case c2 => k_is)
    (case k2 => k_is)
    (case a3 => k_is)
    (case l3 => k_is)
    (case c3 => k_is)
    (case k3 => k_is)
    (case a4 => k_is)
    (case l4 => k_is)
    (case c4 => k_is)
    (case k4 => k_is)
    (case a5 => k_is)
    (case l5 => k_is)
    (case lT5 => k_is)
    (case c5 => k_is)
    (case k5 => k_is)
    (case a6 => k_is)
    (case l6 => k_is)
    (case c6 => k_is)
    (case k6 => k_is)
    (case a7 => k_is)
    (case l7 => k_is)
    (case c7 => k_is)
    (case k7 => k_is)
    (case a8 => k_is)
    (case l8 => k_is)
    (case c8 => k_is)
    (case k8 => k_is)
    (case a9 => k_is)
    (case l9 => k_is)
    (case c9 => k_is)
    (case k9 => k_is)
    (case a10 => k_is)
    (case l10 => k_is)
    (case c10 => k_is)
    (case k10 => k_is)
    (case a11 => k_is)
    (case l11 => k_is)
    (case c11 => k_is)
    (case k11 => k_is)
    (case a12 => k_is)
    (case l12 => k_is)
    (case c12 => k_is)
    (case k12 => k_is)
    (case a13 => k_is)
    (case l13 => k_is)
    (case c13 => k_is)
    (case k13 => k_is)
    (case a14 => k_is)
    (case l14 => k_is)
    (case c14 => k_is)
    (case k14 => k_is)
    (case a15 => k_is)
    (case l15 => k_is)
    (case c15 => k_is)
    (case k15 => k_is)
    (case a16 => k_is)
    (case l16 => k_is)
    (case c16 => k_is)
    (case k16 => k_is)
    (case a17 => k_is)
    (case l17 => k_is)
    (case c17 => k_is)
    (case k17 => k_is)
    (case a18 => k_is)
    (case l18 => k_is)
    (case c18 => k_is)
    (case k18 => k_is)
    (case a19 => k_is)
    (case l19 => k_is)
    (case c19 => k_is)
    (case k19 => k_is)
    (case a20 => k_is)
    (case l20 => k_is)
    (case c20 => k_is)
    (case k20 => k_is)
    (case a21 => k_is)
    (case l21 => k_is)
    (case c21 => k_is)
    (case k21 => k_is)
    (case a22 => k_is)
    (case l22 => k_is)
    (case c22 => k_is)
    (case k22 => k_is)
    (case a23 => k_is)
    (case l23 => k_is)
    (case c23 => k_is)
    (case k23 => k_is)
    (case a24 => k_is)
    (case l24 => k_is)
    (case c24 => k_is)
    (case k24 => k_is)
    (case a25 => k_is)
    (case l25 => k_is)
    (case c25 => k_is)
    (case k25 => k_is)
    (case a26 => k_is)
    (case l26 => k_is)
    (case c26 => k_is)
    (case k26 => k_is)
    (case a27 => k_is)
    (case l27 => k_is)
    (case c27 => k_is)
    (case k27 => k_is)
    (case a28 => k_is)
    (case l28 => k_is)
    (case c28 => k_is)
    (case k28 => k_is)
    (case a29 => k_is)
    (case l29 => k_is)
    (case c29 => k_is)
    (case k29 => k_is)
    (case a30 => k_is)
    (case l30 => k_is)
    (case c30 => k_is)
    (case k30 => k_is)
    (case a31 => k_is)
    (case l31 => k_is)
    (case c31 => k_is)
    (case k31 => k_is)
    (case a32 => k_is)
    (case l32 => k_is)
    (case c32 => k_is)
    (case k32 => k_is)
    (case a33 => k_is)
    (case l33 => k_is)
    (case c33 => k_is)
    (case k33 => k_is)
    (case a34 => k_is)
    (case l34 => k_is)
    (case c34 => k_is)
    (case k34 => k_is)
    (case a35 => k_is)
    (case l35 => k_is)
    (case c35 => k_is)
    (case k35 => k_is)
    (case z1 => k_is)
    (case z2 => k_is)
    (case z3 => k_is)
    (case z4 => k_is)
    (case z5 => k_is)
    (case z6 => k_is)
    (case z7 => k_is)
    (case z8 => k_is)
    (case z9 => k_is)
    (case z10 => k_is)
    (case z11 => k_is)
    (case z12 => k_is)
    (case z13 => k_is)
    (case z14 => k_is)
    (case u0 => k_is)
    (case u1 => k_is)
    (case u2 => k_is)
    (case u3 => k_is)
    (case u4 => k_is)
    (case w4 => k_is)
    (case u5 => k_is)
    (case w5 => k_is)
    (case u6 => k_is)
    (case u7 => k_is)
    (case y0 => k_is)
    (case y1 => k_is)
    (case y2 => k_is)
    (case xL => k_is)
    (case v0 => k_is)
    (case v1 => k_is)
    (case v2 => k_is)
    (case v3 => k_is)
    (case v4 => k_is)
    (case v5 => k_is)
    (case lI => k_is)
    (case cI => k_is)
    (case kI => k_is)
    (case v6 => k_is)
    (case v7 => k_is)
    (case v8 => k_is)
    (case v9 => k_is)
    (case v10 => k_is)
    (case v11 => k_is)
    (case v12 => k_is)
    (case v13 => k_is)
    (case v14 => k_is)
    (case v15 => k_is)
    (case v16 => k_is)
    (case v17 => k_is)
    (case v18 => k_is)
    (case v19 => k_is)
    (case v20 => k_is)
#print axioms PySem.Challenge.cw_truepart_k06_expressions_written_and_rea_holds
