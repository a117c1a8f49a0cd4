import PyProof.Rows.All
import Wide.All
import OpenK.AllK
import Wide.FinOn
import HandS.ForMost
import HandS.Codes
import HandS.Gcd
import HandS.IsInst
import HandS.Wide
import HandS.ForExc
import HandS.ExcIs
import HandS.CallSlots
import HandS.Defaults
import HandS.TupMul
import HandS.Star
import HandS.Walk
import HandS.Style
import HandS.More
import HandS.DictComp
import HandS.RevRange
import PyProof.StrOps2
import KE.KUnpackStar
import KE.GoesMore
import KE.KTurns
import KE.KeyNested
import HandS.NoneIn
import HandS.Dict
import KE.GoesEnum
import PySem.Challenge.RW_truepart_k32_sketches_in_space
set_option Elab.async false
set_option linter.all false
set_option maxHeartbeats 8000000
set_option maxRecDepth 100000
namespace Tp
open PySem L2
def top (i : Nat) : Stmt := PySem.Challenge.pw_truepart_k32_sketches_in_space.main.body.getD i (.Pass ⟨0, 0, 0, 0⟩)
abbrev sCommon : Stmt := top 7
abbrev sFraction : Stmt := top 8
abbrev sPlus : Stmt := top 9
abbrev sMinus : Stmt := top 10
abbrev sTimes : Stmt := top 11
abbrev sOver : Stmt := top 12
abbrev sNegative : Stmt := top 13
abbrev sAdd : Stmt := top 15
abbrev sSubtract : Stmt := top 16
abbrev sScale : Stmt := top 17
abbrev sJoinedParts : Stmt := top 19
abbrev sInner : Stmt := top 21
abbrev sOuter : Stmt := top 22
abbrev sCleared : Stmt := top 24
abbrev sMarked : Stmt := top 25
abbrev sLeadOf : Stmt := top 26
abbrev sSettleRows : Stmt := top 27
abbrev sWorthTold : Stmt := top 28
abbrev sPartsOf : Stmt := top 30
abbrev sRowOf : Stmt := top 31
abbrev sThroughRow : Stmt := top 32
abbrev sRatio : Stmt := top 33
abbrev sApartRow : Stmt := top 34
abbrev sCornerShares : Stmt := top 35
abbrev sAtRow : Stmt := top 36
abbrev sBetweenRow : Stmt := top 37
abbrev sDimensionRow : Stmt := top 38
abbrev sSolveSketch : Stmt := top 39
abbrev sDot : Stmt := top 41
abbrev sCross : Stmt := top 42
abbrev sVolume : Stmt := top 43
abbrev sPrimitive : Stmt := top 44
abbrev sSpread : Stmt := top 46
abbrev sSideOf : Stmt := top 47
abbrev sLineSide : Stmt := top 48
abbrev sEndSide : Stmt := top 49
abbrev sAreaTest : Stmt := top 50
abbrev sOppositeSide : Stmt := top 51
abbrev sToolBetween : Stmt := top 52
abbrev sSketchTool : Stmt := top 53
abbrev sLLawNumber : Stmt := top 55
abbrev sLLawFraction : Stmt := top 57
abbrev sLLawSum : Stmt := top 58
abbrev sLLawTimes : Stmt := top 59
abbrev sLLawDot : Stmt := top 60
abbrev sLLawAt : Stmt := top 61
abbrev sLLawSide : Stmt := top 62
abbrev sLLawTest : Stmt := top 63
abbrev sLLawIn : Stmt := top 64
abbrev sLLawShared : Stmt := top 66
abbrev sLLawCanonical : Stmt := top 65
abbrev sLLawVolume : Stmt := top 67
abbrev sLLawFrame : Stmt := top 68
abbrev sLLawValue : Stmt := top 69
abbrev sLLawLow : Stmt := top 70
abbrev sLLawArea : Stmt := top 71
abbrev sLLawAreaHolds : Stmt := top 72
abbrev sLLawPoint : Stmt := top 73
abbrev sLLawGood : Stmt := top 74
abbrev sLaw : Stmt := top 75
theorem scCommon : FnScope ["a", "b"] ["a", "b"] (defScope sCommon) := ⟨rfl, rfl, rfl, by decide +kernel, rfl, by decide +kernel, by decide +kernel⟩
theorem scFraction : FnScope ["number", "divisor", "shared"] ["number", "divisor"] (defScope sFraction) := ⟨rfl, rfl, rfl, by decide +kernel, rfl, by decide +kernel, by decide +kernel⟩
theorem scPlus : FnScope ["a", "b"] ["a", "b"] (defScope sPlus) := ⟨rfl, rfl, rfl, by decide +kernel, rfl, by decide +kernel, by decide +kernel⟩
theorem scMinus : FnScope ["a", "b"] ["a", "b"] (defScope sMinus) := ⟨rfl, rfl, rfl, by decide +kernel, rfl, by decide +kernel, by decide +kernel⟩
theorem scTimes : FnScope ["a", "b"] ["a", "b"] (defScope sTimes) := ⟨rfl, rfl, rfl, by decide +kernel, rfl, by decide +kernel, by decide +kernel⟩
theorem scOver : FnScope ["a", "b"] ["a", "b"] (defScope sOver) := ⟨rfl, rfl, rfl, by decide +kernel, rfl, by decide +kernel, by decide +kernel⟩
theorem scNegative : FnScope ["a"] ["a"] (defScope sNegative) := ⟨rfl, rfl, rfl, by decide +kernel, rfl, by decide +kernel, by decide +kernel⟩
theorem scAdd : FnScope ["a", "b", "x", "y"] ["a", "b"] (defScope sAdd) := ⟨rfl, rfl, rfl, by decide +kernel, rfl, by decide +kernel, by decide +kernel⟩
theorem scSubtract : FnScope ["a", "b", "x", "y"] ["a", "b"] (defScope sSubtract) := ⟨rfl, rfl, rfl, by decide +kernel, rfl, by decide +kernel, by decide +kernel⟩
theorem scScale : FnScope ["factor", "a", "x"] ["factor", "a"] (defScope sScale) := ⟨rfl, rfl, rfl, by decide +kernel, rfl, by decide +kernel, by decide +kernel⟩
theorem scJoinedParts : FnScope ["area", "kind", "parts"] ["area"] (defScope sJoinedParts) := ⟨rfl, rfl, rfl, by decide +kernel, rfl, by decide +kernel, by decide +kernel⟩
theorem scInner : FnScope ["a", "b"] ["a", "b"] (defScope sInner) := ⟨rfl, rfl, rfl, by decide +kernel, rfl, by decide +kernel, by decide +kernel⟩
theorem scOuter : FnScope ["a", "b"] ["a", "b"] (defScope sOuter) := ⟨rfl, rfl, rfl, by decide +kernel, rfl, by decide +kernel, by decide +kernel⟩
theorem scCleared : FnScope ["row", "at", "base", "factor", "part", "other"] ["row", "at", "base"] (defScope sCleared) := ⟨rfl, rfl, rfl, by decide +kernel, rfl, by decide +kernel, by decide +kernel⟩
theorem scMarked : FnScope ["row", "at", "many", "k"] ["row", "at", "many"] (defScope sMarked) := ⟨rfl, rfl, rfl, by decide +kernel, rfl, by decide +kernel, by decide +kernel⟩
theorem scLeadOf : FnScope ["row", "many", "at"] ["row", "many"] (defScope sLeadOf) := ⟨rfl, rfl, rfl, by decide +kernel, rfl, by decide +kernel, by decide +kernel⟩
theorem scSettleRows : FnScope ["rows", "many", "kept", "place", "given", "row", "lead", "base", "at", "first", "marks", "part", "k", "mark"] ["rows", "many"] (defScope sSettleRows) := ⟨rfl, rfl, rfl, by decide +kernel, rfl, by decide +kernel, by decide +kernel⟩
theorem scWorthTold : FnScope ["kept", "at", "many", "lead", "row", "k", "part"] ["kept", "at", "many"] (defScope sWorthTold) := ⟨rfl, rfl, rfl, by decide +kernel, rfl, by decide +kernel, by decide +kernel⟩
theorem scPartsOf : FnScope ["found"] ["found"] (defScope sPartsOf) := ⟨rfl, rfl, rfl, by decide +kernel, rfl, by decide +kernel, by decide +kernel⟩
theorem scRowOf : FnScope ["many", "shares", "found", "at"] ["many", "shares", "found"] (defScope sRowOf) := ⟨rfl, rfl, rfl, by decide +kernel, rfl, by decide +kernel, by decide +kernel⟩
theorem scThroughRow : FnScope ["lines", "at", "a", "b", "x", "y"] ["lines", "at"] (defScope sThroughRow) := ⟨rfl, rfl, rfl, by decide +kernel, rfl, by decide +kernel, by decide +kernel⟩
theorem scRatio : FnScope ["pair", "other", "at"] ["pair", "other"] (defScope sRatio) := ⟨rfl, rfl, rfl, by decide +kernel, rfl, by decide +kernel, by decide +kernel⟩
theorem scApartRow : FnScope ["lines", "dimension", "_", "first", "second", "p", "q", "found", "a", "b", "shares"] ["lines", "dimension"] (defScope sApartRow) := ⟨rfl, rfl, rfl, by decide +kernel, rfl, by decide +kernel, by decide +kernel⟩
theorem scCornerShares : FnScope ["lines", "first", "second", "axis", "a", "b", "c", "d", "size"] ["lines", "first", "second", "axis"] (defScope sCornerShares) := ⟨rfl, rfl, rfl, by decide +kernel, rfl, by decide +kernel, by decide +kernel⟩
theorem scAtRow : FnScope ["lines", "dimension", "_", "first", "second", "axis", "found"] ["lines", "dimension"] (defScope sAtRow) := ⟨rfl, rfl, rfl, by decide +kernel, rfl, by decide +kernel, by decide +kernel⟩
theorem scBetweenRow : FnScope ["lines", "dimension", "_", "first", "second", "third", "fourth", "axis", "found", "start", "shares", "at"] ["lines", "dimension"] (defScope sBetweenRow) := ⟨rfl, rfl, rfl, by decide +kernel, rfl, by decide +kernel, by decide +kernel⟩
theorem scDimensionRow : FnScope ["lines", "dimension", "kind"] ["lines", "dimension"] (defScope sDimensionRow) := ⟨rfl, rfl, rfl, by decide +kernel, rfl, by decide +kernel, by decide +kernel⟩
theorem scSolveSketch : FnScope ["lines", "dimensions", "many", "through", "state", "found", "told", "free", "at", "dimension", "place", "parts"] ["lines", "dimensions"] (defScope sSolveSketch) := ⟨rfl, rfl, rfl, by decide +kernel, rfl, by decide +kernel, by decide +kernel⟩
theorem scDot : FnScope ["a", "b"] ["a", "b"] (defScope sDot) := ⟨rfl, rfl, rfl, by decide +kernel, rfl, by decide +kernel, by decide +kernel⟩
theorem scCross : FnScope ["a", "b"] ["a", "b"] (defScope sCross) := ⟨rfl, rfl, rfl, by decide +kernel, rfl, by decide +kernel, by decide +kernel⟩
theorem scVolume : FnScope ["a", "b", "c"] ["a", "b", "c"] (defScope sVolume) := ⟨rfl, rfl, rfl, by decide +kernel, rfl, by decide +kernel, by decide +kernel⟩
theorem scPrimitive : FnScope ["a", "divisor", "part"] ["a"] (defScope sPrimitive) := ⟨rfl, rfl, rfl, by decide +kernel, rfl, by decide +kernel, by decide +kernel⟩
theorem scSpread : FnScope ["normal", "point", "x", "y", "z", "part", "found"] ["normal", "point"] (defScope sSpread) := ⟨rfl, rfl, rfl, by decide +kernel, rfl, by decide +kernel, by decide +kernel⟩
theorem scSideOf : FnScope ["origin", "direction", "offset", "above", "normal", "divisor"] ["origin", "direction", "offset", "above"] (defScope sSideOf) := ⟨rfl, rfl, rfl, by decide +kernel, rfl, by decide +kernel, by decide +kernel⟩
theorem scLineSide : FnScope ["number", "feature", "base", "at", "offset", "name", "a", "b", "u", "v", "w", "size", "direction", "whole", "x", "y"] ["number", "feature", "base", "at", "offset"] (defScope sLineSide) := ⟨rfl, rfl, rfl, by decide +kernel, rfl, by decide +kernel, by decide +kernel⟩
theorem scEndSide : FnScope ["origin", "feature", "base", "end", "is_named", "u", "v", "w", "normal", "offset", "size", "direction", "whole"] ["origin", "feature", "base", "end", "is_named"] (defScope sEndSide) := ⟨rfl, rfl, rfl, by decide +kernel, rfl, by decide +kernel, by decide +kernel⟩
theorem scAreaTest : FnScope ["area", "places", "kind", "found", "part", "test"] ["area", "places"] (defScope sAreaTest) := ⟨rfl, rfl, rfl, by decide +kernel, rfl, by decide +kernel, by decide +kernel⟩
theorem scOppositeSide : FnScope ["side", "origin", "normal", "offset", "above"] ["side"] (defScope sOppositeSide) := ⟨rfl, rfl, rfl, by decide +kernel, rfl, by decide +kernel, by decide +kernel⟩
theorem scToolBetween : FnScope ["number", "feature", "offsets", "base", "ends", "lines", "sides", "low", "high", "area", "many", "test", "at", "offset", "line"] ["number", "feature", "offsets", "base", "ends"] (defScope sToolBetween) := ⟨rfl, rfl, rfl, by decide +kernel, rfl, by decide +kernel, by decide +kernel⟩
theorem scSketchTool : FnScope ["number", "feature", "base", "ends", "state", "found"] ["number", "feature", "base", "ends"] (defScope sSketchTool) := ⟨rfl, rfl, rfl, by decide +kernel, rfl, by decide +kernel, by decide +kernel⟩
theorem scLLawNumber : FnScope ["script", "k", "cell", "first", "second"] ["script", "k"] (defScope sLLawNumber) := ⟨rfl, rfl, rfl, by decide +kernel, rfl, by decide +kernel, by decide +kernel⟩
theorem scLLawFraction : FnScope ["number", "divisor", "a", "b", "k", "rest"] ["number", "divisor"] (defScope sLLawFraction) := ⟨rfl, rfl, rfl, by decide +kernel, rfl, by decide +kernel, by decide +kernel⟩
theorem scLLawSum : FnScope ["a", "b"] ["a", "b"] (defScope sLLawSum) := ⟨rfl, rfl, rfl, by decide +kernel, rfl, by decide +kernel, by decide +kernel⟩
theorem scLLawTimes : FnScope ["a", "b"] ["a", "b"] (defScope sLLawTimes) := ⟨rfl, rfl, rfl, by decide +kernel, rfl, by decide +kernel, by decide +kernel⟩
theorem scLLawDot : FnScope ["normal", "point", "total", "k"] ["normal", "point"] (defScope sLLawDot) := ⟨rfl, rfl, rfl, by decide +kernel, rfl, by decide +kernel, by decide +kernel⟩
theorem scLLawAt : FnScope ["found", "w"] ["found", "w"] (defScope sLLawAt) := ⟨rfl, rfl, rfl, by decide +kernel, rfl, by decide +kernel, by decide +kernel⟩
theorem scLLawSide : FnScope ["one", "point", "w", "away"] ["one", "point", "w"] (defScope sLLawSide) := ⟨rfl, rfl, rfl, by decide +kernel, rfl, by decide +kernel, by decide +kernel⟩
theorem scLLawTest : FnScope ["test", "told"] ["test", "told"] (defScope sLLawTest) := ⟨rfl, rfl, rfl, by decide +kernel, rfl, by decide +kernel, by decide +kernel⟩
theorem scLLawIn : FnScope ["tool", "point", "w", "told", "one"] ["tool", "point", "w"] (defScope sLLawIn) := ⟨rfl, rfl, rfl, by decide +kernel, rfl, by decide +kernel, by decide +kernel⟩
theorem scLLawShared : FnScope ["a", "b", "k", "rest"] ["a", "b"] (defScope sLLawShared) := ⟨rfl, rfl, rfl, by decide +kernel, rfl, by decide +kernel, by decide +kernel⟩
theorem scLLawCanonical : FnScope ["tool", "one", "normal", "first", "size", "part"] ["tool"] (defScope sLLawCanonical) := ⟨rfl, rfl, rfl, by decide +kernel, rfl, by decide +kernel, by decide +kernel⟩
theorem scLLawVolume : FnScope ["u", "v", "w"] ["u", "v", "w"] (defScope sLLawVolume) := ⟨rfl, rfl, rfl, by decide +kernel, rfl, by decide +kernel, by decide +kernel⟩
theorem scLLawFrame : FnScope ["draw", "u", "v", "w"] ["draw"] (defScope sLLawFrame) := ⟨rfl, rfl, rfl, by decide +kernel, rfl, by decide +kernel, by decide +kernel⟩
theorem scLLawValue : FnScope ["draw"] ["draw"] (defScope sLLawValue) := ⟨rfl, rfl, rfl, by decide +kernel, rfl, by decide +kernel, by decide +kernel⟩
theorem scLLawLow : FnScope ["found"] ["found"] (defScope sLLawLow) := ⟨rfl, rfl, rfl, by decide +kernel, rfl, by decide +kernel, by decide +kernel⟩
theorem scLLawArea : FnScope ["many", "draw", "area", "k", "one"] ["many", "draw"] (defScope sLLawArea) := ⟨rfl, rfl, rfl, by decide +kernel, rfl, by decide +kernel, by decide +kernel⟩
theorem scLLawAreaHolds : FnScope ["area", "left"] ["area", "left"] (defScope sLLawAreaHolds) := ⟨rfl, rfl, rfl, by decide +kernel, rfl, by decide +kernel, by decide +kernel⟩
theorem scLLawPoint : FnScope ["frame", "base", "spot", "w", "point", "k", "total", "j"] ["frame", "base", "spot", "w"] (defScope sLLawPoint) := ⟨rfl, rfl, rfl, by decide +kernel, rfl, by decide +kernel, by decide +kernel⟩
theorem scLLawGood : FnScope ["tool", "frame", "base", "lines", "area", "ends", "draw", "w", "spot", "left", "name", "way", "point", "here", "there", "low", "high", "beyond", "due", "j"] ["tool", "frame", "base", "lines", "area", "ends", "draw"] (defScope sLLawGood) := ⟨rfl, rfl, rfl, by decide +kernel, rfl, by decide +kernel, by decide +kernel⟩
theorem scLaw : FnScope ["script", "ways", "k", "draw", "frame", "many", "base", "lines", "j", "point", "area", "ends", "feature", "state", "tool", "names", "line", "one"] ["script"] (defScope sLaw) := ⟨rfl, rfl, rfl, by decide +kernel, rfl, by decide +kernel, by decide +kernel⟩
structure Txt (mg : Str → Option Value) : Prop where
  all : mg "all" = none
  any : mg "any" = none
  bool : mg "bool" = none
  enumerate : mg "enumerate" = none
  int : mg "int" = none
  isinstance : mg "isinstance" = none
  len : mg "len" = none
  list : mg "list" = none
  range : mg "range" = none
  str : mg "str" = none
  tuple : mg "tuple" = none
  zip : mg "zip" = none
  gcd : mg "gcd" = some (.builtin "math.gcd")
structure Cons (K : PySem.W.Frag) (mg : Str → Option Value) (aZERO : Addr) (aONE : Addr) : Prop where
  gZERO : mg "ZERO" = some (.ref aZERO)
  tZERO : ∀ H, SqT K H aZERO ([0, 1].map V.int)
  gONE : mg "ONE" = some (.ref aONE)
  tONE : ∀ H, SqT K H aONE ([1, 1].map V.int)
section
variable {K : PySem.W.Frag} {C D : Addr} {c : Value} {r : Bool}
theorem exm_two (b : PySem.W.subIn K (.ref D) (.type "BaseException") = some true) (i : PySem.W.isClsIn K D = true) (t : PySem.W.typeIn K (.ref D) = some (.type "type")) (s : PySem.W.subIn K c (.ref D) = some r) : PySem.W.exmOne K c (.ref D) = some r := by
  have e1 : (PySem.W.subIn K (.ref D) (.type "BaseException") == some true) = true := by rw [b]; rfl
  have i' : (PySem.W.clsIn K D).isSome = true := i
  have e2 : ((PySem.W.clsIn K D).isSome && PySem.W.typeIn K (.ref D) == some (.type "type")) = true := by rw [i', t]; rfl
  unfold PySem.W.exmOne PySem.W.kitCls
  rw [if_pos e1]
  show (if _ then _ else _) = _
  rw [if_pos e2]
  exact s
theorem kit_self : PySem.W.kitOne K (.ref C) (.ref C) = some true := by
  unfold PySem.W.kitOne
  exact if_pos (beq_iff_eq.mpr rfl)
theorem kit_not (s0 : PySem.W.subIn K (.ref C) (.ref C) = some true) (i : PySem.W.isClsIn K D = true) (t : PySem.W.typeIn K (.ref D) = some (.type "type")) (s : PySem.W.subIn K (.ref C) (.ref D) = some false) : PySem.W.kitOne K (.ref C) (.ref D) = some false := by
  have i' : (PySem.W.clsIn K D).isSome = true := i
  have e2 : ((PySem.W.clsIn K D).isSome && PySem.W.typeIn K (.ref D) == some (.type "type")) = true := by rw [i', t]; rfl
  unfold PySem.W.kitOne PySem.W.kitCls
  rw [if_neg (fun z => ?_)]
  · show (if _ then _ else _) = _
    rw [if_pos e2]
    exact s
  · have e := Value.ref.inj (beq_iff_eq.mp z)
    subst e
    rw [s0] at s
    cases s
theorem kit_kind {T : String} (h : PySem.W.kitMeta T = true) (s : PySem.W.subIn K (.ref C) (.type T) = some r) : PySem.W.kitOne K (.ref C) (.type T) = some r := by
  unfold PySem.W.kitOne PySem.W.kitCls
  rw [if_neg (fun z => by have e := beq_iff_eq.mp z; cases e)]
  show (if _ then _ else _) = _
  rw [if_pos h]
  exact s
end

structure Exns (K : PySem.W.Frag) (mg : Str → Option Value) (CPartError CNought : Addr) : Prop where
  gPartError : mg "PartError" = some (.ref CPartError)
  gNought : mg "Nought" = some (.ref CNought)
  xNought : PySem.W.excIn K CNought [.type "ValueError", .type "Exception", .type "BaseException", .type "object"] "ValueError.__new__" = true
  kNought : PySem.W.keepIn K (.ref CNought) = true
  bNought : PySem.W.subIn K (.ref CNought) (.type "BaseException") = some true
  tNought : PySem.W.typeIn K (.ref CNought) = some (.type "type")
  cb : PySem.W.subIn K (.ref CPartError) (.type "BaseException") = some true
  ci : PySem.W.isClsIn K CPartError = true
  ct : PySem.W.typeIn K (.ref CPartError) = some (.type "type")
  cs : PySem.W.subIn K (.ref CNought) (.ref CPartError) = some true
  ss : PySem.W.subIn K (.ref CNought) (.ref CNought) = some true
  i1 : PySem.W.findIn K (.ref CNought) "__getattribute__" = some (some (.builtin "BaseException.__getattribute__"))
  i2 : PySem.W.findIn K (.ref CNought) "__getattr__" = some none
  i3 : PySem.W.hasDictIn K CNought = true
  i4 : PySem.W.findIn K (.ref CNought) "__class__" = some (some (.builtin "object.__class__"))
  i5 : PySem.W.specialIn K (.builtin "object.__class__") "__get__" = some (some (.builtin "getset_descriptor.__get__"))
  i6 : PySem.W.takesIn K (.builtin "object.__class__") = some true
  i7 : PySem.W.mroIn K CNought (.type "object") = some true
theorem Exns.iNought {K : PySem.W.Frag} {mg : Str → Option Value} {CPartError CNought : Addr} (EX : Exns K mg CPartError CNought) : ExcC K CNought := ⟨EX.i1, EX.i2, EX.bNought, EX.i3, EX.i4, EX.i5, EX.i6, EX.i7⟩
theorem Exns.eNought {K : PySem.W.Frag} {mg : Str → Option Value} {CPartError CNought : Addr} (EX : Exns K mg CPartError CNought) : PySem.W.exmOne K (.ref CNought) (.ref CPartError) = some true := exm_two EX.cb EX.ci EX.ct EX.cs
theorem Exns.nNought {K : PySem.W.Frag} {mg : Str → Option Value} {CPartError CNought : Addr} (EX : Exns K mg CPartError CNought) : PySem.W.kitOne K (.ref CNought) (.ref CNought) = some true := kit_self
local macro_rules | `(tactic| walk_at "rd") => `(tactic| repeat (first | refine ⟨_, rfl, ?_⟩ | refine ⟨rfl, ?_⟩ | refine ⟨_, _, rfl, rfl, ?_⟩ | refine Or.inl ⟨_, rfl, ?_⟩ | refine ⟨(by show (0 : Int) < _; decide), ?_⟩ | refine ⟨⟨by decide, by decide⟩, ?_⟩ | refine ⟨Or.inr ⟨by decide, by decide⟩, ?_⟩ | refine ⟨Or.inl ⟨by decide, by decide⟩, ?_⟩ | refine ⟨⟨by decide, by decide, by decide⟩, ?_⟩))
abbrev zs (l : List Int) : List V := l.map V.int
theorem same_upd {H : Hp} {p : Addr} {o : HO} (h : H p = none) : Same H (upd H p o) := fun b x e => by
  rw [upd_ne (ne_of_none e h)]
  exact e
theorem same_tup {K : PySem.W.Frag} {H H' : Hp} {a : Addr} {xs : List V} (e : Same H H') (h : SqT K H a xs) : SqT K H' a xs := by
  rcases h with (h | ⟨o, h⟩) | h
  · exact .inl (.inl (e _ _ h))
  · exact .inl (.inr ⟨o, e _ _ h⟩)
  · exact .inr h
theorem zs_get {l : List Int} {i : Nat} {v : V} (h : (zs l)[i]? = some v) : ∃ z, v = .int z ∧ l[i]? = some z := by
  rw [show zs l = l.map V.int from rfl, List.getElem?_map] at h
  cases e : l[i]? with
  | none =>
    rw [e] at h
    cases h
  | some z =>
    rw [e] at h
    exact ⟨z, (Option.some.inj h).symm, rfl⟩
theorem zs_snoc {l : List Int} {i : Nat} {z : Int} (f : Int → Int) (h : l[i]? = some z) : zs ((l.map f).take i) ++ [V.int (f z)] = zs ((l.map f).take (i + 1)) := by
  show ((l.map f).take i).map V.int ++ [V.int (f z)] = ((l.map f).take (i + 1)).map V.int
  rw [List.take_add_one, List.getElem?_map, h, List.map_append]
  rfl
theorem zs_len {l : List Int} (n : Nat) (h : l.length ≤ 1000) : (zs (l.take n)).length < sizeLine := by
  show ((l.take n).map V.int).length < sizeLine
  rw [List.length_map, List.length_take]
  exact small1000 (by omega)
theorem ne_of_bang {n m : Int} (h : (!decide (V.int n = V.int m)) = true) : n ≠ m := fun e => by
  rw [e, decide_eq_true rfl] at h
  cases h
theorem eq_of_nobang {n m : Int} (h : ¬ (!decide (V.int n = V.int m)) = true) : n = m := by
  by_cases e : n = m
  · exact e
  · exact absurd (by rw [decide_eq_false (fun z => e (V.int.inj z))]; rfl) h
theorem eq_of_dec {n m : Int} (h : decide (V.int n = V.int m) = true) : n = m := V.int.inj (of_decide_eq_true h)
theorem ne_of_nodec {n m : Int} (h : ¬ decide (V.int n = V.int m) = true) : n ≠ m := fun e => h (decide_eq_true (by rw [e]))

/-! Euclid by turns. -/
/-- one turn of the walk (a, b) -> (b, a % b), of naturals -/
theorem gcd_turn (a b : Nat) : Nat.gcd b (a % b) = Nat.gcd a b := by
  rw [Nat.gcd_comm b, ← Nat.gcd_rec, Nat.gcd_comm]
theorem prod_turn {a b : Nat} (h : b ≤ a) (hb : 0 < b) : 2 * (b * (a % b)) ≤ a * b := by
  have h1 : a % b < b := Nat.mod_lt _ hb
  have h2 : a = b * (a / b) + a % b := (Nat.div_add_mod a b).symm
  have h3 : 1 ≤ a / b := (Nat.one_le_div_iff hb).mpr h
  have h4 : b * 1 ≤ b * (a / b) := Nat.mul_le_mul_left b h3
  have h5 : 2 * (a % b) ≤ a := by omega
  calc 2 * (b * (a % b)) = b * (2 * (a % b)) := by rw [Nat.mul_left_comm]
    _ ≤ b * a := Nat.mul_le_mul_left b h5
    _ = a * b := Nat.mul_comm _ _
/-- what holds behind i turns from (a0, b0) -/
structure Eu (a0 b0 i a b : Nat) : Prop where
  g : Nat.gcd a b = Nat.gcd a0 b0
  p : a * b * 2 ^ i ≤ 2 * (a0 * b0)
  o : i = 0 ∨ b ≤ a
  z : i = 0 → a = a0 ∧ b = b0
theorem Eu.start (a b : Nat) : Eu a b 0 a b := ⟨rfl, by rw [Nat.pow_zero]; omega, .inl rfl, fun _ => ⟨rfl, rfl⟩⟩
theorem Eu.turn {a0 b0 i a b : Nat} (e : Eu a0 b0 i a b) (hb : 0 < b) : Eu a0 b0 (i + 1) b (a % b) := by
  refine ⟨(gcd_turn a b).trans e.g, ?_, .inr (Nat.le_of_lt (Nat.mod_lt _ hb)), fun z => by omega⟩
  rcases e.o with hi | hle
  · obtain ⟨rfl, rfl⟩ := e.z hi
    subst hi
    have h1 : b * (a % b) ≤ b * a := Nat.mul_le_mul_left b (Nat.mod_le a b)
    have h2 : b * a = a * b := Nat.mul_comm _ _
    rw [Nat.zero_add, Nat.pow_one]
    omega
  · have h1 := prod_turn hle hb
    have h2 := e.p
    have h3 : b * (a % b) * 2 ^ (i + 1) = 2 * (b * (a % b)) * 2 ^ i := by
      rw [Nat.pow_succ]
      rw [Nat.mul_comm (2 ^ i) 2, ← Nat.mul_assoc, Nat.mul_comm (b * (a % b)) 2]
    rw [h3]
    exact Nat.le_trans (Nat.mul_le_mul_right _ h1) h2
/-- too many turns: nothing is left -/
theorem Eu.stop {a0 b0 i a b : Nat} (e : Eu a0 b0 i a b) (hi : i ≠ 0) (h : 2 * (a0 * b0) < 2 ^ i) : b = 0 := by
  rcases Nat.eq_zero_or_pos b with h0 | h0
  · exact h0
  · have hle : b ≤ a := by
      rcases e.o with h1 | h1
      · exact absurd h1 hi
      · exact h1
    have h1 : 1 ≤ a * b := Nat.mul_pos (by omega) h0
    have h2 : 1 * 2 ^ i ≤ a * b * 2 ^ i := Nat.mul_le_mul_right _ h1
    have h3 := e.p
    omega
theorem Eu.end {a0 b0 i a : Nat} (e : Eu a0 b0 i a 0) : a = Nat.gcd a0 b0 := by
  rw [← e.g, Nat.gcd_zero_right]
/-- the greatest divisor of a row, as it is reckoned from the left -/
def gl (l : List Int) : Nat := l.foldl (fun g v => Nat.gcd v.natAbs g) 0
theorem gl_snoc (l : List Int) (v : Int) : gl (l ++ [v]) = Nat.gcd v.natAbs (gl l) := by
  unfold gl
  rw [List.foldl_append]
  rfl
theorem gl_lt {l : List Int} {v : Int} (h : gl l < 2 ^ 100) (hv : v.natAbs < 2 ^ 100) : gl (l ++ [v]) < 2 ^ 100 := by
  rw [gl_snoc]
  rcases Nat.eq_zero_or_pos v.natAbs with e | e
  · rw [e, Nat.gcd_zero_left]
    exact h
  · exact Nat.lt_of_le_of_lt (Nat.le_of_dvd e (Nat.gcd_dvd_left _ _)) hv
theorem take_snoc {l : List Int} {i : Nat} {z : Int} (h : l[i]? = some z) : l.take (i + 1) = l.take i ++ [z] := by
  rw [List.take_add_one, h]
  rfl
theorem eu_far {a b n : Nat} (hn : 201 ≤ n) (ha : a < 2 ^ 100) (hb : b < 2 ^ 100) : 2 * (a * b) < 2 ^ n := by
  have h1 : a * b < 2 ^ 100 * 2 ^ 100 := Nat.mul_lt_mul'' ha hb
  rw [← Nat.pow_add] at h1
  have h2 : (2 : Nat) * 2 ^ (100 + 100) = 2 ^ 201 := by decide +kernel
  have h3 : (2 : Nat) ^ 201 ≤ 2 ^ n := Nat.pow_le_pow_right (by decide) hn
  omega
theorem fmod_nat (a b : Nat) : (a : Int).fmod (b : Int) = ((a % b : Nat) : Int) := by
  rw [Int.fmod_eq_emod_of_nonneg _ (Int.natCast_nonneg _)]
  exact (Int.natCast_emod a b).symm

/-- // by any divisor other than 0, below 2 ^ 9000 in size -/
def CDivX (_ j : Int) : Prop := j ≠ 0 ∧ j.natAbs.log2 < 9000
theorem op_fdivX {X : Cx} : OpR X (binaryOp .FloorDiv) (rI CDivX fun i j => .int (i.fdiv j)) :=
  opI fun _ _ _ _ _ _ _ hc q =>
    PyProof.Rows.floordiv_int hc.1 q (.inl (PyProof.noPylong_of_log2 hc.2))
theorem wide_divx {i j : Int} {b : Nat} (h : j ≠ 0) (hb : j.natAbs < 2 ^ b) (h0 : 0 < b) (h9 : b ≤ 9000) : CDivX i j :=
  ⟨h, Nat.lt_of_lt_of_le (PySem.Flt.log2_lt_of h0 hb) h9⟩
/-- n noughts -/
def nou (n : Nat) : Str := ⟨(List.replicate n (Str.ofString "0").cps).foldl (· ++ ·) #[]⟩
theorem nou_len {n : Nat} (h : n ≤ 100) : (nou n).length ≤ sizeLine := by
  have : ∀ n : _root_.Fin 101, (nou n.val).length ≤ 100 := by decide +kernel
  have h1 := this ⟨n, by omega⟩
  rw [PySem.sizeLine_eq]
  exact Nat.le_trans h1 (by decide)
theorem op_nou {X : Cx} : OpR X (binaryOp .Mult) (fun x y H Q => ∃ n : Nat, x = .str "0" ∧ y = .int (n : Int) ∧ 1 ≤ n ∧ n ≤ 100 ∧ Q (.str (nou n)) H) := by
  intro pins s σ H x y v u Q I rx ry h
  obtain ⟨n, rfl, rfl, h1, h2, q⟩ := h
  obtain ⟨t, rfl⟩ := rx
  obtain ⟨t', rfl⟩ := ry
  have e1 : ¬ ((n : Int) < 1) := by omega
  have el : (Str.ofString "0").length = 1 := by decide +kernel
  refine PySem.P.mul_str ?_ ?_ ?_ ?_
  · rw [decide_eq_false (by omega), decide_eq_false (by omega)]
    rfl
  · intro _ _
    rw [el]
    have : (2 ^ 63 - 1 : Int) / n ≥ 1 := by
      have : (1 : Int) * n ≤ 2 ^ 63 - 1 := by omega
      exact (Int.le_ediv_iff_mul_le (by omega)).mpr this
    omega
  · intro _ _
    rw [el]
    unfold PySem.Builtin.Str.tooLong
    rw [PySem.sizeLine_eq]
    exact decide_eq_false (by omega)
  · rw [if_neg e1]
    by_cases hn : n = 1
    · subst hn
      have e2 : nou 1 = Str.ofString "0" := by decide +kernel
      rw [e2] at q
      exact ⟨.str (Str.ofString "0"), H, I, ⟨t, rfl⟩, q⟩
    · have : ((n : Int) == 1 || (Str.ofString "0").length == 0) = false := by
        rw [el]
        simp
        omega
      rw [this, if_neg Bool.false_ne_true]
      exact ⟨nou_len h2, .str (nou n), H, I.tok _, ⟨_, rfl⟩, q⟩
theorem suite_of {X : Cx} {a C : Addr} {oe : Obj} {pn : List (Addr × Obj)} {cls : Value} {d : Option Addr} {sts : List Stmt} {ts : TS} (hz : Zc cls d oe)
    (h : Zc (.ref C) none oe → PSs (X.suite a ((a, oe) :: pn)) sts ts) : PSs (X.suite a ((a, oe) :: pn)) sts (fun D σ H => (cls = .ref C ∧ d = none) ∧ ts D σ H) :=
  ⟨fun pins s σ H D I hq => by
    obtain ⟨⟨rfl, rfl⟩, q⟩ := hq
    exact (h hz).run pins s σ H D I q⟩
theorem ten_text : ∀ n : Nat, 1 ≤ n → n ≤ 20 → PySem.intText? (Str.ofString "1" ++ nou n) = some ((10 : Int) ^ n) ∧ (Str.ofString "1" ++ nou n).length ≤ 640 ∧ (nou n).length ≤ 100 := by
  intro n h1 h2
  have : ∀ n : _root_.Fin 21, 1 ≤ n.val → PySem.intText? (Str.ofString "1" ++ nou n.val) = some ((10 : Int) ^ n.val) ∧ (Str.ofString "1" ++ nou n.val).length ≤ 640 ∧ (nou n.val).length ≤ 100 := by decide +kernel
  exact this ⟨n, by omega⟩ h1

/-- the divisor by which fraction divides both -/
def sg (n d : Int) : Int := if d < 0 then -((Nat.gcd n.natAbs d.natAbs : Nat) : Int) else ((Nat.gcd n.natAbs d.natAbs : Nat) : Int)
theorem sg_abs (n d : Int) : (sg n d).natAbs = Nat.gcd n.natAbs d.natAbs := by
  unfold sg
  split
  · rw [Int.natAbs_neg, Int.natAbs_natCast]
  · rw [Int.natAbs_natCast]
theorem sg_ne {n d : Int} (h : d ≠ 0) : sg n d ≠ 0 := by
  intro e
  have h1 := sg_abs n d
  rw [e] at h1
  have h2 : Nat.gcd n.natAbs d.natAbs = 0 := h1.symm
  have h3 := Nat.gcd_eq_zero_iff.mp h2
  omega
theorem sg_dn (n d : Int) : sg n d ∣ n := by
  have h : ((Nat.gcd n.natAbs d.natAbs : Nat) : Int) ∣ n := Int.dvd_natAbs.mp (Int.natCast_dvd_natCast.mpr (Nat.gcd_dvd_left _ _))
  unfold sg
  split
  · exact Int.neg_dvd.mpr h
  · exact h
theorem sg_dd (n d : Int) : sg n d ∣ d := by
  have h : ((Nat.gcd n.natAbs d.natAbs : Nat) : Int) ∣ d := Int.dvd_natAbs.mp (Int.natCast_dvd_natCast.mpr (Nat.gcd_dvd_right _ _))
  unfold sg
  split
  · exact Int.neg_dvd.mpr h
  · exact h
theorem fdiv_back {d v : Int} (h : d ∣ v) : v.fdiv d * d = v := Int.fdiv_mul_cancel h
theorem part_le {f d v : Int} (e : f * d = v) (hd : d ≠ 0) : f.natAbs ≤ v.natAbs := by
  rw [← e, Int.natAbs_mul]
  exact Nat.le_mul_of_pos_right _ (by omega)
/-- what fraction yields -/
structure Fr (n d p q : Int) : Prop where
  hp : p * sg n d = n
  hq : q * sg n d = d
  q0 : 0 < q
  one : Nat.gcd p.natAbs q.natAbs = 1
theorem fr_of {n d : Int} (h : d ≠ 0) : Fr n d (n.fdiv (sg n d)) (d.fdiv (sg n d)) := by
  have e1 := fdiv_back (sg_dn n d)
  have e2 := fdiv_back (sg_dd n d)
  have hs := sg_ne (n := n) h
  refine ⟨e1, e2, ?_, ?_⟩
  · rcases Int.lt_or_le 0 (d.fdiv (sg n d)) with h1 | h1
    · exact h1
    · exfalso
      have hg : 0 < Nat.gcd n.natAbs d.natAbs := Nat.gcd_pos_of_pos_right _ (by omega)
      rcases Int.lt_or_le d 0 with h2 | h2
      · have h3 : sg n d < 0 := by
          unfold sg
          rw [if_pos h2]
          omega
        have h4 := Int.mul_nonneg_of_nonpos_of_nonpos h1 (Int.le_of_lt h3)
        omega
      · have h3 : 0 < sg n d := by
          unfold sg
          rw [if_neg (by omega)]
          omega
        have h4 := Int.mul_nonpos_of_nonpos_of_nonneg h1 (Int.le_of_lt h3)
        omega
  · have e3 : Nat.gcd n.natAbs d.natAbs = Nat.gcd (n.fdiv (sg n d)).natAbs (d.fdiv (sg n d)).natAbs * (sg n d).natAbs := by
      rw [← Nat.gcd_mul_right, ← Int.natAbs_mul, ← Int.natAbs_mul, e1, e2]
    rw [sg_abs] at e3
    have hg : 0 < Nat.gcd n.natAbs d.natAbs := Nat.gcd_pos_of_pos_right _ (by omega)
    exact (Nat.eq_of_mul_eq_mul_right hg (by rw [Nat.one_mul]; exact e3)).symm
theorem Fr.cross {n d p q : Int} (f : Fr n d p q) : p * d = n * q := by
  have h1 := f.hp
  have h2 := f.hq
  calc p * d = p * (q * sg n d) := by rw [h2]
    _ = (p * sg n d) * q := by rw [Int.mul_comm q, Int.mul_assoc]
    _ = n * q := by rw [h1]
theorem sg_one (n : Int) : sg n 1 = 1 := by
  unfold sg
  rw [if_neg (by decide)]
  show ((Nat.gcd n.natAbs 1 : Nat) : Int) = 1
  rw [Nat.gcd_one_right]
  rfl
theorem rd_one (n : Int) : [n.fdiv (sg n 1), (1 : Int).fdiv (sg n 1)] = [n, 1] := by rw [sg_one, Int.fdiv_one, Int.fdiv_one]

/-- in lowest terms -/
def rd2 (n d : Int) : List Int := [n.fdiv (sg n d), d.fdiv (sg n d)]
theorem low_uniq {p q r s : Int} (h1 : Nat.gcd p.natAbs q.natAbs = 1) (h2 : Nat.gcd r.natAbs s.natAbs = 1) (hq : 0 < q) (hs : 0 < s) (h : p * s = r * q) : p = r ∧ q = s := by
  have hn : p.natAbs * s.natAbs = r.natAbs * q.natAbs := by
    rw [← Int.natAbs_mul, ← Int.natAbs_mul, h]
  have d1 : q.natAbs ∣ s.natAbs := by
    have h3 : q.natAbs ∣ p.natAbs * s.natAbs := ⟨r.natAbs, by rw [hn, Nat.mul_comm]⟩
    exact Nat.Coprime.dvd_of_dvd_mul_left (show Nat.Coprime q.natAbs p.natAbs from (Nat.gcd_comm _ _).trans h1) h3
  have d2 : s.natAbs ∣ q.natAbs := by
    have h3 : s.natAbs ∣ r.natAbs * q.natAbs := ⟨p.natAbs, by rw [← hn, Nat.mul_comm]⟩
    exact Nat.Coprime.dvd_of_dvd_mul_left (show Nat.Coprime s.natAbs r.natAbs from (Nat.gcd_comm _ _).trans h2) h3
  have e : q.natAbs = s.natAbs := Nat.dvd_antisymm d1 d2
  have e2 : q = s := by omega
  subst e2
  exact ⟨Int.eq_of_mul_eq_mul_right (by omega) h, rfl⟩
theorem rd2_eq {n d n' d' : Int} (hd : 0 < d) (hd' : 0 < d') (h : n * d' = n' * d) : rd2 n d = rd2 n' d' := by
  have f := fr_of (n := n) (show d ≠ 0 by omega)
  have f' := fr_of (n := n') (show d' ≠ 0 by omega)
  have c1 := f.cross
  have c2 := f'.cross
  unfold rd2
  generalize n.fdiv (sg n d) = p at f c1
  generalize d.fdiv (sg n d) = q at f c1
  generalize n'.fdiv (sg n' d') = r at f' c2
  generalize d'.fdiv (sg n' d') = s at f' c2
  have e : p * s = r * q := by
    have h1 : (p * s) * (d * d') = (r * q) * (d * d') := by
      calc (p * s) * (d * d') = (p * d) * (s * d') := by
              rw [Int.mul_assoc, Int.mul_assoc, Int.mul_left_comm s d d']
        _ = (n * q) * (s * d') := by rw [c1]
        _ = (n * d') * (q * s) := by
              rw [Int.mul_assoc, Int.mul_assoc, Int.mul_comm s d', Int.mul_left_comm q d' s]
        _ = (n' * d) * (q * s) := by rw [h]
        _ = (n' * s) * (d * q) := by
              rw [Int.mul_assoc, Int.mul_assoc, Int.mul_comm q s, Int.mul_left_comm d s q]
        _ = (r * d') * (d * q) := by rw [c2]
        _ = (r * q) * (d * d') := by
              rw [Int.mul_assoc, Int.mul_assoc, Int.mul_comm d q, Int.mul_left_comm d' q d, Int.mul_comm d' d]
    exact Int.eq_of_mul_eq_mul_right (Int.mul_ne_zero (by omega) (by omega)) h1
  have u := low_uniq f.one f'.one f.q0 f'.q0 e
  rw [u.1, u.2]
theorem sg_zero_one : sg 0 1 = 1 := sg_one 0
theorem rd2_zero : rd2 0 1 = [0, 1] := by
  unfold rd2
  rw [sg_zero_one, Int.fdiv_one, Int.fdiv_one]
/-- the digits of a number are not too few -/
theorem lt_digits (n : Nat) : n < 2 ^ (4 * (toString (n : Int)).length + 4) := by
  have e : toString (n : Int) = Nat.repr n := rfl
  rw [e]
  have h : n < 10 ^ ((Nat.repr n).length + 1) := (Nat.length_repr_le_iff (Nat.succ_pos _)).mp (Nat.le_succ _)
  refine Nat.lt_of_lt_of_le h ?_
  have h2 : (10 : Nat) ^ ((Nat.repr n).length + 1) ≤ 16 ^ ((Nat.repr n).length + 1) := Nat.pow_le_pow_left (by decide) _
  have h3 : (16 : Nat) ^ ((Nat.repr n).length + 1) = 2 ^ (4 * (Nat.repr n).length + 4) := by
    rw [show (16 : Nat) = 2 ^ 4 from rfl, ← Nat.pow_mul]
    rfl
  omega
theorem eu_digits {a b t : Nat} (h : t = 4 * (toString (a : Int)).length + 4 * (toString (b : Int)).length + 60) : 2 * (a * b) < 2 ^ t := by
  subst h
  have h1 := lt_digits a
  have h2 := lt_digits b
  have h3 : a * b < 2 ^ (4 * (toString (a : Int)).length + 4) * 2 ^ (4 * (toString (b : Int)).length + 4) := Nat.mul_lt_mul'' h1 h2
  rw [← Nat.pow_add] at h3
  have h4 : 2 * (a * b) < 2 * 2 ^ (4 * (toString (a : Int)).length + 4 + (4 * (toString (b : Int)).length + 4)) := by omega
  rw [← Nat.pow_succ'] at h4
  exact Nat.lt_of_lt_of_le h4 (Nat.pow_le_pow_right (by decide) (by omega))
theorem args2 {x y : Int} (hx : 0 ≤ x) (hy : 0 ≤ y) : [V.int x, V.int y] ++ [] = [V.int ((x.natAbs : Nat) : Int), V.int ((y.natAbs : Nat) : Int)] := by
  have e1 : ((x.natAbs : Nat) : Int) = x := by omega
  have e2 : ((y.natAbs : Nat) : Int) = y := by omega
  rw [e1, e2]
  rfl
theorem mod_abs (x : Int) {b : Int} (h : 0 < b) : (x % b).natAbs ≤ b.natAbs := by
  have h1 := Int.emod_nonneg x (show b ≠ 0 by omega)
  have h2 := Int.emod_lt_of_pos x h
  omega
theorem mul_lt_abs {a b : Int} {A B : Nat} (ha : a.natAbs ≤ A) (hb : b.natAbs ≤ B) : (a * b).natAbs ≤ A * B := by
  rw [Int.natAbs_mul]
  exact Nat.mul_le_mul ha hb
def pd2 (x y : Int) : PyData := .tuple [.int x, .int y]
theorem dp2 {K : PySem.W.Frag} {H : Hp} {u : Addr} {x y : Int} (h : SqT K H u (zs [x, y])) : Dp K H (.ref u) (pd2 x y) :=
  .tup h (.cons (.int x) (.cons (.int y) .nil))
theorem eqv2 (x y : Int) : PyData.eqv (pd2 x y) (pd2 x y) = true := by
  unfold pd2
  simp [PyData.eqv, PyData.eqvAll]

def dv (x y z : Int) : Int := let g : Int := (Nat.gcd (Nat.gcd x.natAbs y.natAbs) z.natAbs : Nat)
  if HT.lexLt [x, y, z] [0, 0, 0] = true then -g else g
def g3 (x y z : Int) : Nat := Nat.gcd (Nat.gcd x.natAbs y.natAbs) z.natAbs
/-- the first one that is not 0 is below 0 -/
def dn (x y z : Int) : Bool := decide (x < 0) || (decide (x = 0) && (decide (y < 0) || (decide (y = 0) && decide (z < 0))))
theorem lex_dn (x y z : Int) : HT.lexLt [x, y, z] [0, 0, 0] = dn x y z := by
  rw [HT.lexLt_cons, HT.lexLt_cons, HT.lexLt_cons, HT.lexLt_nil_nil]
  unfold dn
  by_cases hx : x = 0
  · subst hx
    by_cases hy : y = 0
    · subst hy
      by_cases hz : z = 0
      · subst hz; decide
      · simp [hz]
    · simp [hy]
  · simp [hx]
theorem dv_eq (x y z : Int) : dv x y z = if dn x y z = true then -(g3 x y z : Int) else (g3 x y z : Int) := by
  unfold dv g3
  rw [lex_dn]
theorem dv_abs (x y z : Int) : (dv x y z).natAbs = g3 x y z := by
  rw [dv_eq]
  split
  · rw [Int.natAbs_neg, Int.natAbs_natCast]
  · rw [Int.natAbs_natCast]
theorem g3_pos {x y z : Int} (h : ¬ (x = 0 ∧ y = 0 ∧ z = 0)) : 0 < g3 x y z := by
  rcases Nat.eq_zero_or_pos (g3 x y z) with e | e
  · exfalso
    have h1 := Nat.gcd_eq_zero_iff.mp e
    have h2 := Nat.gcd_eq_zero_iff.mp h1.1
    omega
  · exact e
theorem dv_ne {x y z : Int} (h : ¬ (x = 0 ∧ y = 0 ∧ z = 0)) : dv x y z ≠ 0 := by
  intro e
  have h1 := dv_abs x y z
  have h2 := g3_pos h
  rw [e] at h1
  have : (0 : Int).natAbs = 0 := rfl
  omega
theorem g3_dx (x y z : Int) : (g3 x y z : Int) ∣ x := by
  refine Int.dvd_natAbs.mp (Int.natCast_dvd_natCast.mpr ?_)
  exact Nat.dvd_trans (Nat.gcd_dvd_left _ _) (Nat.gcd_dvd_left _ _)
theorem g3_dy (x y z : Int) : (g3 x y z : Int) ∣ y := by
  refine Int.dvd_natAbs.mp (Int.natCast_dvd_natCast.mpr ?_)
  exact Nat.dvd_trans (Nat.gcd_dvd_left _ _) (Nat.gcd_dvd_right _ _)
theorem g3_dz (x y z : Int) : (g3 x y z : Int) ∣ z := by
  refine Int.dvd_natAbs.mp (Int.natCast_dvd_natCast.mpr ?_)
  exact Nat.gcd_dvd_right _ _
theorem dv_dvd {x y z v : Int} (h : (g3 x y z : Int) ∣ v) : dv x y z ∣ v := by
  rw [dv_eq]
  split
  · exact Int.neg_dvd.mpr h
  · exact h
theorem dv_dx (x y z : Int) : dv x y z ∣ x := dv_dvd (g3_dx x y z)
theorem dv_dy (x y z : Int) : dv x y z ∣ y := dv_dvd (g3_dy x y z)
theorem dv_dz (x y z : Int) : dv x y z ∣ z := dv_dvd (g3_dz x y z)
theorem g3_le {x y z : Int} {n : Nat} (h : ¬ (x = 0 ∧ y = 0 ∧ z = 0)) (hx : x.natAbs ≤ n) (hy : y.natAbs ≤ n) (hz : z.natAbs ≤ n) : g3 x y z ≤ n := by
  by_cases h1 : x = 0
  · by_cases h2 : y = 0
    · have h3 : z ≠ 0 := fun e => h ⟨h1, h2, e⟩
      exact Nat.le_trans (Nat.le_of_dvd (by omega) (Nat.gcd_dvd_right _ _)) hz
    · exact Nat.le_trans (Nat.le_of_dvd (by omega) (Nat.dvd_trans (Nat.gcd_dvd_left _ _) (Nat.gcd_dvd_right _ _))) hy
  · exact Nat.le_trans (Nat.le_of_dvd (by omega) (Nat.dvd_trans (Nat.gcd_dvd_left _ _) (Nat.gcd_dvd_left _ _))) hx
theorem g3_mul (x y z t : Int) : g3 (x * t) (y * t) (z * t) = g3 x y z * t.natAbs := by
  unfold g3
  rw [Int.natAbs_mul, Int.natAbs_mul, Int.natAbs_mul, Nat.gcd_mul_right, Nat.gcd_mul_right]
/-- the parts have no divisor left -/
theorem g3_one {x y z a b c : Int} (h : ¬ (x = 0 ∧ y = 0 ∧ z = 0)) (ha : a * dv x y z = x) (hb : b * dv x y z = y) (hc : c * dv x y z = z) : g3 a b c = 1 := by
  have h1 : g3 x y z = g3 a b c * (dv x y z).natAbs := by
    have := g3_mul a b c (dv x y z)
    rw [ha, hb, hc] at this
    exact this
  rw [dv_abs] at h1
  have h2 := g3_pos h
  exact (Nat.eq_of_mul_eq_mul_right h2 (by rw [Nat.one_mul]; exact h1)).symm
theorem neg_mul_iff {v t : Int} (ht : 0 < t) : (v * t < 0 ↔ v < 0) ∧ (v * t = 0 ↔ v = 0) := by
  constructor
  · constructor
    · intro h
      rcases Int.lt_or_le v 0 with h1 | h1
      · exact h1
      · have := Int.mul_nonneg h1 (Int.le_of_lt ht)
        omega
    · exact fun h => Int.mul_neg_of_neg_of_pos h ht
  · constructor
    · intro h
      rcases Int.mul_eq_zero.mp h with h1 | h1
      · exact h1
      · omega
    · intro h
      rw [h, Int.zero_mul]
theorem dn_mul {x y z t : Int} (ht : 0 < t) : dn (x * t) (y * t) (z * t) = dn x y z := by
  unfold dn
  have hx := neg_mul_iff (v := x) ht
  have hy := neg_mul_iff (v := y) ht
  have hz := neg_mul_iff (v := z) ht
  simp only [hx, hy, hz]
theorem dn_neg {x y z : Int} (h : ¬ (x = 0 ∧ y = 0 ∧ z = 0)) : dn (-x) (-y) (-z) = !dn x y z := by
  unfold dn
  rcases Int.lt_trichotomy x 0 with hx | hx | hx
  · have h1 : ¬ (-x < 0) := by omega
    have h2 : ¬ (-x = 0) := by omega
    simp [hx, h1, h2]
    omega
  · subst hx
    rcases Int.lt_trichotomy y 0 with hy | hy | hy
    · have h1 : ¬ (-y < 0) := by omega
      have h2 : ¬ (-y = 0) := by omega
      simp [hy, h1, h2]
      omega
    · subst hy
      have hz : z ≠ 0 := fun e => h ⟨rfl, rfl, e⟩
      by_cases h1 : z < 0
      · have h2 : ¬ (-z < 0) := by omega
        simp [h1, h2]
        omega
      · have h2 : -z < 0 := by omega
        simp [h1, h2]
        omega
    · have h1 : -y < 0 := by omega
      have h2 : ¬ y < 0 := by omega
      have h3 : ¬ y = 0 := by omega
      simp [h1, h2, h3]
      omega
  · have h1 : -x < 0 := by omega
    have h2 : ¬ x < 0 := by omega
    have h3 : ¬ x = 0 := by omega
    simp [h1, h2, h3]
    omega
theorem dv_mul {x y z t : Int} (h : ¬ (x = 0 ∧ y = 0 ∧ z = 0)) (ht : t ≠ 0) : dv (x * t) (y * t) (z * t) = dv x y z * t := by
  rw [dv_eq, dv_eq, g3_mul]
  rcases Int.lt_or_gt_of_ne ht with h1 | h1
  · have e1 : ∀ v : Int, v * t = -v * -t := fun v => (Int.neg_mul_neg v t).symm
    have e2 : (t.natAbs : Int) = -t := by omega
    have h2 : ¬ (-x = 0 ∧ -y = 0 ∧ -z = 0) := by omega
    rw [e1 x, e1 y, e1 z, dn_mul (by omega), dn_neg h]
    cases dn x y z with
    | true => simp [e2, Int.neg_mul, Int.mul_neg]
    | false => simp [e2, Int.neg_mul, Int.mul_neg]
  · have e2 : (t.natAbs : Int) = t := by omega
    rw [dn_mul h1]
    cases dn x y z with
    | true => simp [e2, Int.neg_mul, Int.mul_neg]
    | false => simp [e2, Int.neg_mul, Int.mul_neg]
theorem fdiv_same {d v t : Int} (hd : d ≠ 0) (ht : t ≠ 0) (h : d ∣ v) : (v * t).fdiv (d * t) = v.fdiv d := by
  obtain ⟨k, rfl⟩ := h
  rw [Int.mul_assoc, Int.mul_comm k t, ← Int.mul_assoc, Int.mul_fdiv_cancel_left _ hd, Int.mul_fdiv_cancel_left]
  exact Int.mul_ne_zero hd ht

theorem zs_push {l : List Int} {n : Int} : zs l ++ [V.int n] = zs (l ++ [n]) := by
  show l.map V.int ++ [V.int n] = (l ++ [n]).map V.int
  rw [List.map_append]
  rfl
theorem zs_lt {l : List Int} (h : l.length ≤ 1000) : (zs l).length < sizeLine := by
  show (l.map V.int).length < sizeLine
  rw [List.length_map]
  exact small1000 h
theorem row_all {rs : List Int} {b : Int} (h : ∀ r ∈ rs, 0 ≤ r ∧ r < b) (x : Int) (hb : 0 < b) : ∀ r ∈ rs ++ [x % b], 0 ≤ r ∧ r < b := by
  intro r hr
  rcases List.mem_append.mp hr with h1 | h1
  · exact h r h1
  · rw [List.mem_singleton.mp h1]
    exact ⟨Int.emod_nonneg _ (by omega), Int.emod_lt_of_pos _ hb⟩
theorem ixN_in {n : Nat} {i : Int} (h0 : 0 ≤ i) (h : i < (n : Int)) : ixN n i = some i.toNat := by
  unfold ixN
  rw [if_pos h0, if_pos h]
theorem len3 {rs : List Int} (h : rs.length = 3) : ∃ a b c, rs = [a, b, c] := by
  match rs, h with
  | [a, b, c], _ => exact ⟨a, b, c, rfl⟩
theorem gl_three (x y z : Int) : gl [x, y, z] = g3 x y z := by
  show Nat.gcd z.natAbs (Nat.gcd y.natAbs (Nat.gcd x.natAbs 0)) = Nat.gcd (Nat.gcd x.natAbs y.natAbs) z.natAbs
  rw [Nat.gcd_zero_right, Nat.gcd_comm z.natAbs, Nat.gcd_comm y.natAbs]
def fs3 (x y z : Int) : Int := if x ≠ 0 then x else if y ≠ 0 then y else z
theorem fs3_get {x y z : Int} (h : ¬ (x = 0 ∧ y = 0 ∧ z = 0)) : (zs ([x, y, z].filter fun v => decide (v ≠ 0)))[0]? = some (.int (fs3 x y z)) := by
  unfold fs3
  by_cases hx : x = 0
  · by_cases hy : y = 0
    · have hz : z ≠ 0 := fun e => h ⟨hx, hy, e⟩
      simp [hx, hy, hz]
    · simp [hx, hy]
  · simp [hx]
theorem fs3_dn {x y z : Int} (h : ¬ (x = 0 ∧ y = 0 ∧ z = 0)) : decide (fs3 x y z < 0) = dn x y z := by
  unfold fs3 dn
  by_cases hx : x = 0
  · by_cases hy : y = 0
    · simp [hx, hy]
    · simp [hx, hy]
  · simp [hx]
theorem fil_snoc {l : List Int} {i : Nat} {z : Int} (h : l[i]? = some z) (hz : z ≠ 0) : zs ((l.take i).filter fun v => decide (v ≠ 0)) ++ [V.int z] = zs ((l.take (i + 1)).filter fun v => decide (v ≠ 0)) := by
  rw [take_snoc h, List.filter_append, zs_push]
  simp [hz]
theorem fil_same {l : List Int} {i : Nat} {z : Int} (h : l[i]? = some z) (hz : z = 0) : (l.take (i + 1)).filter (fun v => decide (v ≠ 0)) = (l.take i).filter fun v => decide (v ≠ 0) := by
  rw [take_snoc h, List.filter_append]
  simp [hz]
theorem fil_lt {l : List Int} (n : Nat) (h : l.length ≤ 1000) : (zs ((l.take n).filter fun v => decide (v ≠ 0))).length < sizeLine := by
  refine zs_lt ?_
  have h1 := List.length_filter_le (fun v : Int => decide (v ≠ 0)) (l.take n)
  rw [List.length_take] at h1
  omega
theorem zs_at {l : List Int} {i : Nat} {z : Int} (h : l[i]? = some z) : atI (zs l) (i : Int) = some (V.int z) := atI_nat (by
  rw [show zs l = l.map V.int from rfl, List.getElem?_map, h]
  rfl)
theorem parts_at {x y z d : Int} (hx : d ∣ x) (hy : d ∣ y) (hz : d ∣ z) {i : Nat} (hi : i < 3) : ∃ f v : Int, [x.fdiv d, y.fdiv d, z.fdiv d][i]? = some f ∧ [x, y, z][i]? = some v ∧ f * d = v := by
  obtain rfl | rfl | rfl : i = 0 ∨ i = 1 ∨ i = 2 := by omega
  · exact ⟨_, _, rfl, rfl, fdiv_back hx⟩
  · exact ⟨_, _, rfl, rfl, fdiv_back hy⟩
  · exact ⟨_, _, rfl, rfl, fdiv_back hz⟩
def pd3 (x y z : Int) : PyData := .tuple [.int x, .int y, .int z]
theorem dp3 {K : PySem.W.Frag} {H : Hp} {u : Addr} {x y z : Int} (h : SqT K H u (zs [x, y, z])) : Dp K H (.ref u) (pd3 x y z) :=
  .tup h (.cons (.int x) (.cons (.int y) (.cons (.int z) .nil)))
theorem eqv3 (x y z : Int) : PyData.eqv (pd3 x y z) (pd3 x y z) = true := by
  unfold pd3
  simp [PyData.eqv, PyData.eqvAll]

def sgn (i : Int) : Int := if i < 0 then -1 else if 0 < i then 1 else 0
theorem sgn_mul {a b : Int} (hb : 0 < b) : sgn (a * b) = sgn a := by
  have h := neg_mul_iff (v := a) hb
  have h2 : 0 < a * b ↔ 0 < a := by
    constructor
    · intro z
      have h3 : ¬ a < 0 := fun y => by
        have := h.1.mpr y
        omega
      have h4 : ¬ a = 0 := fun y => by
        have := h.2.mpr y
        omega
      omega
    · exact fun z => Int.mul_pos z hb
  unfold sgn
  by_cases h3 : a < 0
  · rw [if_pos h3, if_pos (h.1.mpr h3)]
  · rw [if_neg h3, if_neg (fun z => h3 (h.1.mp z))]
    by_cases h4 : 0 < a
    · rw [if_pos h4, if_pos (h2.mpr h4)]
    · rw [if_neg h4, if_neg (fun z => h4 (h2.mp z))]
theorem sg_pos {n d : Int} (h : 0 < d) : 0 < sg n d := by
  have hg : 0 < Nat.gcd n.natAbs d.natAbs := Nat.gcd_pos_of_pos_right _ (by omega)
  unfold sg
  rw [if_neg (by omega)]
  omega
/-- the sign of a fraction is that of its numerator, before and behind -/
theorem sgn_low {n d : Int} (h : 0 < d) : sgn (n.fdiv (sg n d)) = sgn n := by
  have h1 := fdiv_back (sg_dn n d)
  have h2 := sgn_mul (a := n.fdiv (sg n d)) (sg_pos (n := n) h)
  rw [h1] at h2
  exact h2.symm
theorem rd2_le {n d : Int} (hd : d ≠ 0) : ∃ p q, rd2 n d = [p, q] ∧ p.natAbs ≤ n.natAbs ∧ q.natAbs ≤ d.natAbs ∧ Fr n d p q :=
  have f := fr_of (n := n) hd
  ⟨_, _, rfl, part_le f.hp (sg_ne hd), part_le f.hq (sg_ne hd), f⟩
/-- a sum of two, each brought to lowest terms -/
theorem rd2_plus {a b c d p q r s : Int} (f : Fr a b p q) (g : Fr c d r s) (hb : 0 < b) (hd : 0 < d) : rd2 (p * s + r * q) (q * s) = rd2 (a * d + c * b) (b * d) := by
  have q0 := f.q0
  have s0 := g.q0
  have c1 := f.cross
  have c2 := g.cross
  exact rd2_eq (Int.mul_pos q0 s0) (Int.mul_pos hb hd) (by grind)
/-- what is in lowest terms stays -/
theorem low_of {p q : Int} (h : Nat.gcd p.natAbs q.natAbs = 1) (hq : 0 < q) : rd2 p q = [p, q] := by
  have f := fr_of (n := p) (show q ≠ 0 by omega)
  have c := f.cross
  have u := low_uniq f.one h f.q0 hq (by rw [f.cross])
  unfold rd2
  rw [u.1, u.2]
theorem fr_low {n d p q : Int} (f : Fr n d p q) : rd2 p q = [p, q] := low_of f.one f.q0
theorem eu_far2 {a b n : Nat} (hn : 3601 ≤ n) (ha : a < 2 ^ 1800) (hb : b < 2 ^ 1800) : 2 * (a * b) < 2 ^ n := by
  have h1 : a * b < 2 ^ 1800 * 2 ^ 1800 := Nat.mul_lt_mul'' ha hb
  rw [← Nat.pow_add] at h1
  have h2 : (2 : Nat) ^ 3601 ≤ 2 ^ n := Nat.pow_le_pow_right (by decide) hn
  rw [show (3601 : Nat) = 1 + (1800 + 1800) from rfl, Nat.pow_add] at h2
  generalize (2 : Nat) ^ (1800 + 1800) = B at *
  generalize (2 : Nat) ^ n = C at *
  omega
theorem rd2_eq0 {n d n' d' : Int} (hd : d ≠ 0) (hd' : d' ≠ 0) (h : n * d' = n' * d) : rd2 n d = rd2 n' d' := by
  have f := fr_of (n := n) hd
  have f' := fr_of (n := n') hd'
  have c1 := f.cross
  have c2 := f'.cross
  unfold rd2
  generalize n.fdiv (sg n d) = p at f c1
  generalize d.fdiv (sg n d) = q at f c1
  generalize n'.fdiv (sg n' d') = r at f' c2
  generalize d'.fdiv (sg n' d') = s at f' c2
  have e : p * s = r * q := by
    have h1 : (p * s) * (d * d') = (r * q) * (d * d') := by grind
    exact Int.eq_of_mul_eq_mul_right (Int.mul_ne_zero hd hd') h1
  have u := low_uniq f.one f'.one f.q0 f'.q0 e
  rw [u.1, u.2]

/-- a row of fractions: where each stands, its two numbers -/
structure Rows (K : PySem.W.Frag) (H : Hp) (ws : List (Addr × Int × Int)) : Prop where
  at_ : ∀ w ∈ ws, SqT K H w.1 (zs [w.2.1, w.2.2])
  b1 : ∀ w ∈ ws, w.2.1.natAbs < 2 ^ 40
  b2 : ∀ w ∈ ws, w.2.2.natAbs < 2 ^ 40
  b3 : ∀ w ∈ ws, 0 < w.2.2
  few : ws.length ≤ 9
theorem Rows.nil {K : PySem.W.Frag} {H : Hp} : Rows K H [] :=
  ⟨(fun _ h => nomatch h), (fun _ h => nomatch h), (fun _ h => nomatch h), (fun _ h => nomatch h), by decide⟩
def rf (ws : List (Addr × Int × Int)) : List V := ws.map fun w => V.ref w.1
theorem Rows.same {K : PySem.W.Frag} {H H' : Hp} {ws : List (Addr × Int × Int)} (r : Rows K H ws) (s : Same H H') : Rows K H' ws :=
  ⟨fun w hw => same_tup s (r.at_ w hw), r.b1, r.b2, r.b3, r.few⟩
theorem Rows.take {K : PySem.W.Frag} {H : Hp} {ws : List (Addr × Int × Int)} (r : Rows K H ws) (i : Nat) : Rows K H (ws.take i) :=
  ⟨fun w hw => r.at_ w (List.mem_of_mem_take hw), fun w hw => r.b1 w (List.mem_of_mem_take hw), fun w hw => r.b2 w (List.mem_of_mem_take hw), fun w hw => r.b3 w (List.mem_of_mem_take hw), by
    rw [List.length_take]
    have := r.few
    omega⟩
theorem rf_get {ws : List (Addr × Int × Int)} {i : Nat} {v : V} (h : (rf ws)[i]? = some v) : ∃ w, v = .ref w.1 ∧ ws[i]? = some w := by
  rw [show rf ws = ws.map fun w => V.ref w.1 from rfl, List.getElem?_map] at h
  cases e : ws[i]? with
  | none =>
    rw [e] at h
    cases h
  | some w =>
    rw [e] at h
    exact ⟨w, (Option.some.inj h).symm, rfl⟩
theorem rf_len (ws : List (Addr × Int × Int)) : (rf ws).length = ws.length := List.length_map _
theorem take_sn {α : Type} {l : List α} {i : Nat} {z : α} (h : l[i]? = some z) : l.take (i + 1) = l.take i ++ [z] := by
  rw [List.take_add_one, h]
  rfl
theorem tup_upd {K : PySem.W.Frag} {H : Hp} {a l : Addr} {xs ys : List V} {o : HO} (h : SqT K H a xs) (hl : H l = some (.lst ys)) : SqT K (upd H l o) a xs := by
  rcases h with (h | ⟨ob, h⟩) | h
  · refine .inl (.inl ?_)
    rw [upd_ne (ne_of h hl (by intro z; cases z))]
    exact h
  · refine .inl (.inr ⟨ob, ?_⟩)
    rw [upd_ne (ne_of h hl (by intro z; cases z))]
    exact h
  · exact .inr h
theorem tyx_tup {K : PySem.W.Frag} {H : Hp} {a : Addr} {xs : List V} (h : SqT K H a xs) : TyX K H (.ref a) (.type "tuple") := by
  rcases h with (h | ⟨ob, h⟩) | ⟨o, its, n, h, hc, _⟩
  · exact .base (.tup h)
  · exact .fTuple h
  · exact .kTuple h hc
theorem no_self {x : V} (h : (!decide (x = x)) = true) : False := by
  rw [decide_eq_true rfl] at h
  cases h

section ZipMixed
open PySem PySem.Spec PyProof.Rows
/-- a list or a tuple that stands still -/
def SqB (f : Bool) (K : PySem.W.Frag) (H : Hp) (q : Addr) (vs : List V) : Prop := bif f then SqT K H q vs else SqL K H q vs
def ItB (f : Bool) (h : Heap) (it q : Addr) (i : Nat) : Prop := bif f then h.IsTupleIter it q i else h.IsListIter it q i
def AtB (f : Bool) (h : Heap) (q : Addr) (us : Array Value) : Prop := bif f then h.IsTuple q us else h.IsList q us
def oB (f : Bool) (q : Addr) : Obj := bif f then { cls := .type "tuple_iterator", data := .fields #[.ref q, .int 0 0] } else { cls := .type "list_iterator", data := .fields #[.ref q, .int 0 0] }
theorem ItB.live {f : Bool} {h : Heap} {it q : Addr} {i : Nat} (s : ItB f h it q i) : ∃ o, h.get? it = some o ∧ ∀ v, o.data ≠ .cell v := by
  cases f
  · obtain ⟨o, e, _, d⟩ := s
    exact ⟨o, e, fun v z => by rw [d] at z; cases z⟩
  · obtain ⟨o, e, _, d⟩ := s
    exact ⟨o, e, fun v z => by rw [d] at z; cases z⟩
theorem ItB.keep {f : Bool} {h h' : Heap} {it q : Addr} {i : Nat} (s : ItB f h it q i) (k : ∀ o, h.get? it = some o → h'.get? it = some o) : ItB f h' it q i := by
  cases f
  · exact Heap.IsListIter.at s k
  · exact Heap.IsTupleIter.at s k
theorem SqB.at_ {X : Cx} {pins : List (Addr × Obj)} {σ : L2.St} {H : Hp} {s : Shared} {f : Bool} {q : Addr} {vs : List V} (I : Inv X pins σ H s) (h : SqB f X.K H q vs) :
    ∃ us : List Value, Vals vs us ∧ AtB f s.heap q us.toArray := by
  cases f
  · obtain ⟨us, rv, p, _⟩ := I.list h
    exact ⟨us, rv, p.isList⟩
  · obtain ⟨us, rv, p, _⟩ := I.tuple h
    exact ⟨us, rv, p⟩
theorem SqB.inj {X : Cx} {pins : List (Addr × Obj)} {σ : L2.St} {H : Hp} {s : Shared} {f : Bool} {q : Addr} {vs ws : List V} (I : Inv X pins σ H s) (h : SqB f X.K H q vs) (h2 : SqB f X.K H q ws) : vs = ws := by
  cases f
  · exact I.list_inj h h2
  · exact I.tuple_inj h h2
theorem drawsB {P : Program} {w : World} {A : Around} (hh : A.handled = none) (f : Bool) (it q : Addr) (hne : q ≠ it) (us : Array Value) :
    Draws P w A it [it, q] us.size (fun i v => us[i]? = some v) (fun i h => ItB f h it q i ∧ AtB f h q us) := by
  cases f
  · exact Draws.list hh it q hne us
  · exact Draws.tuple hh it q hne us
theorem beginsB (f : Bool) (q : Addr) (us : Array Value) : Begins (.ref q) (oB f q) fun h => AtB f h q us := by
  cases f
  · exact begins_list q us
  · exact begins_tuple q us
theorem AtB.lt {f : Bool} {h : Heap} {q : Addr} {us : Array Value} (p : AtB f h q us) : q < h.objs.size := by
  cases f
  · obtain ⟨o, e, _⟩ := p
    exact Heap.lt_size e
  · obtain ⟨o, e, _⟩ := p
    exact Heap.lt_size e
theorem oB_it {f : Bool} {h : Heap} {it q : Addr} (e : h.get? it = some (oB f q)) : ItB f h it q 0 := by
  cases f
  · exact ⟨_, e, rfl, rfl⟩
  · exact ⟨_, e, rfl, rfl⟩
theorem sep_of {z TI TO i1 i2 a b : Addr} (D : ZipApart z TI TO i1 i2 a b) : ZipSep2 z TI TO i1 i2 [i1, a] [i2, b] where
  TIz := D.TIz
  TOz := D.TOz
  TITO := D.TITO
  TIi1 := D.TIi1
  mem1 := by simp
  zf1 := by simp [D.i1z.symm, D.l1z.symm]
  Tf1 := by simp [D.TOi1, D.l1TO.symm]
  TIi2 := D.TIi2
  mem2 := by simp
  zf2 := by simp [D.i2z.symm, D.l2z.symm]
  Tf2 := by simp [D.TOi2, D.l2TO.symm]
  sep1_2 := by simp [D.i12, D.l2i1.symm]
  sep2_1 := by simp [D.i12.symm, D.l1i2.symm]
/-- the two as they stand at each turn, what they hold in new pairs -/
def ItzB (f g : Bool) (K : PySem.W.Frag) (a b : Addr) : It :=
  ⟨fun i H => ∃ (xs ys : List V) (x y : V), SqB f K H a xs ∧ SqB g K H b ys ∧ xs[i]? = some x ∧ ys[i]? = some y,
    fun i H v H' => ∃ T x y, v = .ref T ∧ H T = none ∧ H' = upd H T (.tup [x, y]) ∧ (∀ xs, SqB f K H a xs → xs[i]? = some x) ∧ ∀ ys, SqB g K H b ys → ys[i]? = some y,
    fun i H => ∃ xs ys : List V, SqB f K H a xs ∧ SqB g K H b ys ∧ i ≤ xs.length ∧ i ≤ ys.length ∧ (i = xs.length ∨ i = ys.length)⟩
theorem turn_zipB {P : Program} {w : World} {K : PySem.W.Frag} {elts : List Expr} {kk : Nat} {tpos : Pos} {a b z TI TO i1 i2 : Addr} (f g : Bool) (D : ZipApart z TI TO i1 i2 a b) :
    Turn P w K (.Tuple elts kk tpos) (ItzB f g K a b) [z, TI, TO, i1, i2] z (fun i h => IsZip h z TI TO .none ∧ IsPair h TI (.ref i1) (.ref i2) ∧ (∃ x y, IsPair h TO x y) ∧ ItB f h i1 a i ∧ ItB g h i2 b i) where
  mem := by simp
  obj := fun i h st c hc => by
    obtain ⟨hz, hTI, ⟨x, y, hTO⟩, h1, h2⟩ := st
    have e' : c = z ∨ c = TI ∨ c = TO ∨ c = i1 ∨ c = i2 := by simpa using hc
    rcases e' with rfl | rfl | rfl | rfl | rfl
    · exact ⟨_, hz, fun v q => nomatch q⟩
    · exact ⟨_, hTI, fun v q => nomatch q⟩
    · exact ⟨_, hTO, fun v q => nomatch q⟩
    · exact h1.live
    · exact h2.live
  keep := fun i h h' st k => by
    obtain ⟨hz, hTI, ⟨x, y, hTO⟩, h1, h2⟩ := st
    exact ⟨k z (by simp) _ hz, k TI (by simp) _ hTI, ⟨x, y, k TO (by simp) _ hTO⟩, h1.keep fun o q => k i1 (by simp) o q, h2.keep fun o q => k i2 (by simp) o q⟩
  item := by
    intro X hP hw hK hc i pins s σ H E I hf st hg
    subst hP hw hK
    obtain ⟨hz, hTI, ⟨x0, y0, hTO⟩, h1, h2⟩ := st
    obtain ⟨xs, ys, x, y, hqx, hqy, hx, hy⟩ := hg
    obtain ⟨us, rv, p⟩ := hqx.at_ I
    obtain ⟨us2, rv2, p2⟩ := hqy.at_ I
    obtain ⟨u, hu, ru⟩ := rv.get hx
    obtain ⟨u2, hu2, ru2⟩ := rv2.get hy
    have hzl : z < s.heap.objs.size := Heap.lt_size hz
    have lx : i < us.toArray.size := by
      have := (List.getElem?_eq_some_iff.mp hu).1
      simpa using this
    have ly : i < us2.toArray.size := by
      have := (List.getElem?_eq_some_iff.mp hu2).1
      simpa using this
    have hhd : X.A.in1.handled = none := I.ok.hd hc
    refine wpAny_pyNext_zipD2_item (sep_of D) (drawsB hhd f i1 a D.l1i1 us.toArray) (drawsB hhd g i2 b D.l2i2 us2.toArray) hz hTI hTO ⟨h1, p⟩ ⟨h2, p2⟩ lx ly fun v1 v2 h' tk e1 e2 z' TO' st1 st2 hT hsz hk => ?_
    have w1 : v1 = u := by
      have : us[i]? = some v1 := by simpa using e1
      rw [hu] at this
      exact (Option.some.inj this).symm
    have w2 : v2 = u2 := by
      have : us2[i]? = some v2 := by simpa using e2
      rw [hu2] at this
      exact (Option.some.inj this).symm
    subst w1 w2
    refine ⟨_, rfl, wpAny_letOwnedTupleGo_zip (s := { s with heap := h', toks := tk }) z' fun h'' z'' sb => ?_⟩
    have hT2 : h''.get? s.heap.objs.size = some { cls := .type "tuple", data := .seq #[v1, v2] } := (sb.2 _ (Nat.ne_of_gt hzl)).trans hT
    have new : ObjOk X.prog X.w (upd H s.heap.objs.size (.tup [x, y])) h'' s.heap.objs.size (.tup [x, y]) :=
      ⟨by show 2 ≤ sizeLine; decide, [v1, v2], .cons ru (.cons ru2 .nil), ⟨_, hT2, rfl, _, rfl⟩⟩
    have I1 : Inv X pins σ (upd H s.heap.objs.size (.tup [x, y])) { s with heap := h'', toks := tk } :=
      I.turnedNew (t' := tk) (ch := [z, TI, TO, i1, i2]) (fun c o hb q => (sb.2 c (fun q' => hb (by simp [q']))).trans (hk c o (fun q' => hb (by simp [q'])) (fun q' => hb (by simp [q'])) (fun q' => hb (by simp [q'])) (fun q' => hb (by simp [q'])) q)) hf (Nat.le_refl _) new
    refine ⟨.ref s.heap.objs.size, _, I1, rfl, ⟨_, x, y, rfl, I.hok.fresh (Nat.le_refl _), rfl, fun l hl => by rw [hl.inj I hqx]; exact hx, fun l hl => by rw [hl.inj I hqy]; exact hy⟩, ⟨z'', ?_, ⟨v1, v2, ?_⟩, ?_, ?_⟩, fun c hcm => ?_⟩
    · exact (sb.2 _ D.TIz).trans (hk _ _ D.TIz D.TITO D.TIi1 D.TIi2 hTI)
    · exact (sb.2 _ D.TOz).trans TO'
    · exact st1.1.keep fun o q => (sb.2 _ D.i1z).trans q
    · exact st2.1.keep fun o q => (sb.2 _ D.i2z).trans q
    · have hlt : c < s.heap.objs.size := by
        have e' : c = z ∨ c = TI ∨ c = TO ∨ c = i1 ∨ c = i2 := by simpa using hcm
        rcases e' with rfl | rfl | rfl | rfl | rfl
        · exact hzl
        · exact Heap.lt_size hTI
        · exact Heap.lt_size hTO
        · obtain ⟨_, e1, _⟩ := h1.live; exact Heap.lt_size e1
        · obtain ⟨_, e1, _⟩ := h2.live; exact Heap.lt_size e1
      rw [upd_ne (Nat.ne_of_lt hlt)]
      exact (hf c hcm).1
  done := by
    intro X hP hw hK hc i pins s σ H E I hf st hg
    subst hP hw hK
    obtain ⟨hz, hTI, ⟨x0, y0, hTO⟩, h1, h2⟩ := st
    obtain ⟨xs, ys, hqx, hqy, hend1, hend2, hend3⟩ := hg
    obtain ⟨us, rv, p⟩ := hqx.at_ I
    obtain ⟨us2, rv2, p2⟩ := hqy.at_ I
    have l1 := rv.length
    have l2 := rv2.length
    have hhd : X.A.in1.handled = none := I.ok.hd hc
    have z1 : us.toArray.size = us.length := by simp
    have z2 : us2.toArray.size = us2.length := by simp
    exact wpAny_pyNext_zipD2_end (sep_of D) (drawsB hhd f i1 a D.l1i1 us.toArray) (drawsB hhd g i2 b D.l2i2 us2.toArray) hz hTI hTO ⟨h1, p⟩ ⟨h2, p2⟩ (by omega) (by omega) (by omega) fun h' tk hk => ⟨rfl, I.turnedL (t' := tk) (ch := [z, TI, TO, i1, i2]) (fun c o hb q =>
      hk c o (fun q' => hb (by simp [q'])) (fun q' => hb (by simp [q'])) (fun q' => hb (by simp [q'])) (fun q' => hb (by simp [q'])) q) hf⟩
  self := fun A i s Q E st h => wpAny_pyIter_zip st.1 h
def iZipB (K : PySem.W.Frag) (ta : TA) : TI := fun σ H R => ta σ H fun vs H1 => ∃ (f g : Bool) (a b : Addr) (xs ys : List V), vs = [.ref a, .ref b] ∧ SqB f K H1 a xs ∧ SqB g K H1 b ys ∧ R (ItzB f g K a b) H1
theorem pi_zipB {X : Cx} {e e2 : Expr} {ta : TA} {p pos tpos : Pos} {elts : List Expr} {kk : Nat} (hg : Gl X "zip") (hm : X.mg "zip" = none) (ha : PA X [e, e2] ta)
    (hs : starEach [e, e2] X.env = (false, eval e X.env) :: starEach [e2] X.env := by rfl) (hpl : (backTo pos (starEach [e2] X.env)).any (·.1) = false := by rfl) :
    PI X (.Tuple elts kk tpos) (.Call (.Name "zip" p) [e, e2] [] pos) (iZipB X.K ta) := by
  refine ⟨fun pins s σ H R I h => ?_⟩
  refine Call_ (ld_blt I hg hm PyProof.Rows.boot_zip (PyProof.Rows.callWith_type1 (thn (ha.run pos pins s σ H _ I h) fun us s1 ⟨vs, H1, I1, r1, q1⟩ => ?_) hs hpl))
  obtain ⟨f, g, a, b, xs, ys, rfl, hqx, hqy, q⟩ := q1
  obtain ⟨u1, u2, rfl, r, r'⟩ := vals2 r1
  cases r
  cases r'
  obtain ⟨_, rv, p1⟩ := hqx.at_ I1
  obtain ⟨_, rv2, p2⟩ := hqy.at_ I1
  refine zip_begins2 (beginsB f a _) (beginsB g b _) p1 p2 fun h' hz hTI hTO h1 h2 hsz hk => wpAny_pyIter_zip hz ?_
  have I2 : Inv X pins σ H1 { s1 with heap := h' } := I1.kept (t' := s1.toks) hk
  refine ⟨s1.heap.objs.size + 4, [s1.heap.objs.size + 4, s1.heap.objs.size + 2, s1.heap.objs.size + 3, s1.heap.objs.size, s1.heap.objs.size + 1], _, _, H1, rfl, I2, turn_zipB f g (PySem.W.ktu_apart s1.heap.objs.size a b p1.lt p2.lt), ⟨hz, hTI, ⟨_, _, hTO⟩, oB_it h1, oB_it h2⟩, fun c hcm => ?_, q⟩
  have e' : c = s1.heap.objs.size + 4 ∨ c = s1.heap.objs.size + 2 ∨ c = s1.heap.objs.size + 3 ∨ c = s1.heap.objs.size ∨ c = s1.heap.objs.size + 1 := by simpa using hcm
  have hle : s1.heap.objs.size ≤ c := by
    rcases e' with z | z | z | z | z
    · rw [z]; exact Nat.le_add_right _ _
    · rw [z]; exact Nat.le_add_right _ _
    · rw [z]; exact Nat.le_add_right _ _
    · rw [z]; exact Nat.le_refl _
    · rw [z]; exact Nat.le_add_right _ _
  exact I1.fpOk hle (I1.hok.fresh hle)
theorem walk_zipB {f g : Bool} {K : PySem.W.Frag} {a b : Addr} {xs ys : List V} {n : Nat} (hn : n = min xs.length ys.length) : Walk (ItzB f g K a b) n (fun H => SqB f K H a xs ∧ SqB g K H b ys) (YPair (fun i => xs[i]?) (fun i => ys[i]?)) := by
  subst hn
  refine ⟨fun i _ hi q => ?_, fun _ q => ⟨xs, ys, q.1, q.2, by omega, by omega, by omega⟩, fun i H v H' _ q y => ?_⟩
  · have h1 : i < xs.length := by omega
    have h2 : i < ys.length := by omega
    exact ⟨xs, ys, xs[i], ys[i], q.1, q.2, by simp [h1], by simp [h2]⟩
  · obtain ⟨T, u, u2, h1, h2, h3, h4, h5⟩ := y
    exact ⟨T, u, u2, h1, h2, h3, h4 xs q.1, h5 ys q.2⟩
end ZipMixed

theorem rat_rd {n d : Int} (hd : d ≠ 0) : rd2 n d = [(Rat.divInt n d).num, ((Rat.divInt n d).den : Int)] := by
  have h0 : ((Rat.divInt n d).den : Int) ≠ 0 := by
    have := (Rat.divInt n d).den_nz
    omega
  have e : Rat.divInt n d = Rat.divInt (Rat.divInt n d).num ((Rat.divInt n d).den : Int) := (Rat.num_divInt_den _).symm
  have c := (Rat.divInt_eq_divInt_iff hd h0).mp e
  rw [rd2_eq0 hd h0 c]
  exact low_of (Rat.divInt n d).reduced (by have := (Rat.divInt n d).den_nz; omega)
/-- a fraction that stands at an address -/
def Fx (K : PySem.W.Frag) (H : Hp) (a : Addr) (r : Rat) : Prop := SqT K H a (zs [r.num, (r.den : Int)])
theorem Fx.same {K : PySem.W.Frag} {H H' : Hp} {a : Addr} {r : Rat} (h : Fx K H a r) (s : Same H H') : Fx K H' a r := same_tup s h
theorem fx_rd {K : PySem.W.Frag} {H : Hp} {a : Addr} {n d : Int} (hd : d ≠ 0) (h : H a = some (.tup (zs (rd2 n d)))) : Fx K H a (Rat.divInt n d) := by
  unfold Fx
  rw [← rat_rd hd]
  exact SqT.of h
theorem fx_at {K : PySem.W.Frag} {H : Hp} {a : Addr} {r : Rat} (h : H a = some (.tup (zs [r.num, (r.den : Int)]))) : Fx K H a r := SqT.of h
def Bd (n : Nat) (r : Rat) : Prop := r.num.natAbs < 2 ^ n ∧ r.den < 2 ^ n
theorem Bd.up {n m : Nat} {r : Rat} (h : Bd n r) (hm : n ≤ m) : Bd m r :=
  ⟨Nat.lt_of_lt_of_le h.1 (Nat.pow_le_pow_right (by decide) hm), Nat.lt_of_lt_of_le h.2 (Nat.pow_le_pow_right (by decide) hm)⟩
theorem Bd.den {n : Nat} {r : Rat} (h : Bd n r) : ((r.den : Nat) : Int).natAbs < 2 ^ n := h.2
theorem den_pos (r : Rat) : (0 : Int) < (r.den : Int) := by
  have := r.den_nz
  omega
theorem den_ne (r : Rat) : ((r.den : Nat) : Int) ≠ 0 := by
  have := den_pos r
  omega
theorem bd_of {n d : Int} {k : Nat} (hd : d ≠ 0) (h1 : n.natAbs < 2 ^ k) (h2 : d.natAbs < 2 ^ k) : Bd k (Rat.divInt n d) := by
  obtain ⟨p, q, e, l1, l2, _⟩ := rd2_le (n := n) hd
  rw [rat_rd hd] at e
  have e1 : (Rat.divInt n d).num = p := by injection e
  have e2 : ((Rat.divInt n d).den : Int) = q := by
    injection e with _ e
    injection e
  refine ⟨by rw [e1]; omega, ?_⟩
  have : (Rat.divInt n d).den = q.natAbs := by rw [← e2]; rfl
  omega
theorem add_div (r s : Rat) : r + s = Rat.divInt (r.num * s.den + s.num * r.den) (r.den * s.den) := by
  rw [Rat.add_def', Rat.divInt_eq_div, Rat.mkRat_eq_div]
  rfl
theorem sub_div (r s : Rat) : r - s = Rat.divInt (r.num * s.den - s.num * r.den) (r.den * s.den) := by
  rw [Rat.sub_def', Rat.divInt_eq_div, Rat.mkRat_eq_div]
  rfl
theorem mul_div (r s : Rat) : r * s = Rat.divInt (r.num * s.num) (r.den * s.den) := by
  rw [Rat.mul_def', Rat.divInt_eq_div, Rat.mkRat_eq_div]
  rfl
theorem dd_ne (r s : Rat) : ((r.den : Int) * (s.den : Int)) ≠ 0 := Int.mul_ne_zero (den_ne r) (den_ne s)
theorem pow_two_add (a b : Nat) : (2 : Nat) ^ (a + b + 1) = 2 * 2 ^ (a + b) := by
  rw [Nat.pow_succ, Nat.mul_comm]
theorem wl {x y : Int} {a b : Nat} (h : x.natAbs < 2 ^ a) (h2 : y.natAbs < 2 ^ b) : (x * y).natAbs < 2 ^ (a + b) := by
  rw [Int.natAbs_mul, Nat.pow_add]
  exact Nat.mul_lt_mul'' h h2
theorem Bd.mul {a b : Nat} {r s : Rat} (h : Bd a r) (h2 : Bd b s) : Bd (a + b) (r * s) := by
  rw [mul_div]
  exact bd_of (dd_ne r s) (wl h.1 h2.1) (wl h.den h2.den)
theorem Bd.add {a b : Nat} {r s : Rat} (h : Bd a r) (h2 : Bd b s) : Bd (a + b + 1) (r + s) := by
  rw [add_div]
  have e := pow_two_add a b
  have w1 := wl h.1 h2.den
  have w2 := wl h2.1 h.den
  have w3 := wl h.den h2.den
  rw [Nat.add_comm b a] at w2
  have := Int.natAbs_add_le (r.num * (s.den : Int)) (s.num * (r.den : Int))
  exact bd_of (dd_ne r s) (by omega) (by omega)
theorem Bd.sub {a b : Nat} {r s : Rat} (h : Bd a r) (h2 : Bd b s) : Bd (a + b + 1) (r - s) := by
  rw [sub_div]
  have e := pow_two_add a b
  have w1 := wl h.1 h2.den
  have w2 := wl h2.1 h.den
  have w3 := wl h.den h2.den
  rw [Nat.add_comm b a] at w2
  have := Int.natAbs_sub_le (r.num * (s.den : Int)) (s.num * (r.den : Int))
  exact bd_of (dd_ne r s) (by omega) (by omega)
theorem Bd.neg {a : Nat} {r : Rat} (h : Bd a r) : Bd a (-r) := by
  refine ⟨?_, ?_⟩
  · rw [Rat.neg_num, Int.natAbs_neg]
    exact h.1
  · rw [Rat.neg_den]
    exact h.2
theorem bd_zero : Bd 1 0 := ⟨by decide, by decide⟩
theorem bd_one : Bd 1 1 := ⟨by decide, by decide⟩
def pdr (r : Rat) : PyData := pd2 r.num (r.den : Int)
theorem dpr {K : PySem.W.Frag} {H : Hp} {a : Addr} {r : Rat} (h : Fx K H a r) : Dp K H (.ref a) (pdr r) := dp2 h
theorem eqvr (r s : Rat) : PyData.eqv (pdr r) (pdr s) = decide (r = s) := by
  unfold pdr pd2
  simp only [PyData.eqv, PyData.eqvAll, Bool.and_true]
  by_cases h : r = s
  · subst h
    simp
  · rw [decide_eq_false h]
    by_cases h1 : r.num = s.num
    · have h2 : ¬ r.den = s.den := fun z => h (Rat.ext h1 z)
      simp [h1]
      omega
    · simp [h1]
/-- a row of fractions: where each stands, what it is -/
def Rx (K : PySem.W.Frag) (H : Hp) (ws : List (Addr × Rat)) : Prop := ∀ w ∈ ws, Fx K H w.1 w.2
def fr (ws : List (Addr × Rat)) : List V := ws.map fun w => V.ref w.1
theorem Rx.same {K : PySem.W.Frag} {H H' : Hp} {ws : List (Addr × Rat)} (h : Rx K H ws) (s : Same H H') : Rx K H' ws := fun w hw => (h w hw).same s
theorem fr_len (ws : List (Addr × Rat)) : (fr ws).length = ws.length := List.length_map _
theorem fr_get {ws : List (Addr × Rat)} {i : Nat} {v : V} (h : (fr ws)[i]? = some v) : ∃ w, v = .ref w.1 ∧ ws[i]? = some w := by
  rw [show fr ws = ws.map fun w => V.ref w.1 from rfl, List.getElem?_map] at h
  cases e : ws[i]? with
  | none =>
    rw [e] at h
    cases h
  | some w =>
    rw [e] at h
    exact ⟨w, (Option.some.inj h).symm, rfl⟩
theorem fr_at {ws : List (Addr × Rat)} {i : Nat} {r : Rat} (h : (ws.map (·.2))[i]? = some r) : ∃ t, (fr ws)[i]? = some (.ref t) ∧ (t, r) ∈ ws := by
  rw [List.getElem?_map] at h
  cases e : ws[i]? with
  | none =>
    rw [e] at h
    cases h
  | some w =>
    rw [e] at h
    have : w.2 = r := Option.some.inj h
    subst this
    refine ⟨w.1, ?_, List.mem_of_getElem? e⟩
    rw [show fr ws = ws.map fun w => V.ref w.1 from rfl, List.getElem?_map, e]
    rfl
theorem dpAll {K : PySem.W.Frag} {H : Hp} : ∀ {ws : List (Addr × Rat)}, Rx K H ws → DpAll K H (fr ws) ((ws.map (·.2)).map pdr)
  | [], _ => .nil
  | w :: ws, h => .cons (dpr (h w List.mem_cons_self)) (dpAll fun x hx => h x (List.mem_cons_of_mem _ hx))
theorem eqvAllr : ∀ rs ss : List Rat, PyData.eqvAll (rs.map pdr) (ss.map pdr) = decide (rs = ss)
  | [], [] => rfl
  | [], _ :: _ => rfl
  | _ :: _, [] => rfl
  | r :: rs, s :: ss => by
    rw [List.map_cons, List.map_cons, PyData.eqvAll, eqvr, eqvAllr rs ss]
    by_cases h1 : r = s
    · by_cases h2 : rs = ss
      · simp [h1, h2]
      · simp [h1, h2]
    · simp [h1]
theorem shr (rs : List Rat) : PyData.canLayAll0 (rs.map pdr) = true ∧ PyData.depthAll (rs.map pdr) ≤ 1 := by
  induction rs with
  | nil => decide
  | cons r rs ih =>
    rw [List.map_cons, PyData.canLayAll0, PyData.depthAll, ih.1]
    exact ⟨rfl, Nat.max_le.mpr ⟨Nat.le_refl 1, ih.2⟩⟩
theorem shrl (rs : List Rat) : SeqAt.shaped (.list (rs.map pdr)) = true := by
  have h1 := (shr rs).1
  have h2 := (shr rs).2
  unfold SeqAt.shaped
  rw [PyData.canLay0, PyData.depth, h1, decide_eq_true (by omega)]
  rfl
theorem shrt (rs : List Rat) : SeqAt.shaped (.tuple (rs.map pdr)) = true := by
  have h1 := (shr rs).1
  have h2 := (shr rs).2
  unfold SeqAt.shaped
  rw [PyData.canLay0, PyData.depth, h1, decide_eq_true (by omega)]
  rfl
/-- a value along parameters: its base, its slopes -/
def Vx (K : PySem.W.Frag) (H : Hp) (t : Addr) (b : Rat) (ss : List Rat) : Prop := ∃ (p q : Addr) (ws : List (Addr × Rat)), SqT K H t [.ref p, .ref q] ∧ Fx K H p b ∧ SqT K H q (fr ws) ∧ Rx K H ws ∧ ws.map (·.2) = ss
theorem Vx.same {K : PySem.W.Frag} {H H' : Hp} {t : Addr} {b : Rat} {ss : List Rat} (h : Vx K H t b ss) (s : Same H H') : Vx K H' t b ss := by
  obtain ⟨p, q, ws, h1, h2, h3, h4, h5⟩ := h
  exact ⟨p, q, ws, same_tup s h1, h2.same s, same_tup s h3, h4.same s, h5⟩
def pdv (b : Rat) (ss : List Rat) : PyData := .tuple [pdr b, .tuple (ss.map pdr)]
theorem dpv {K : PySem.W.Frag} {H : Hp} {t : Addr} {b : Rat} {ss : List Rat} (h : Vx K H t b ss) : Dp K H (.ref t) (pdv b ss) := by
  obtain ⟨p, q, ws, h1, h2, h3, h4, rfl⟩ := h
  exact .tup h1 (.cons (dpr h2) (.cons (.tup h3 (dpAll h4)) .nil))
theorem eqvv (b c : Rat) (ss us : List Rat) : PyData.eqv (pdv b ss) (pdv c us) = decide (b = c ∧ ss = us) := by
  unfold pdv
  rw [PyData.eqv, PyData.eqvAll, PyData.eqvAll, PyData.eqvAll, eqvr, PyData.eqv, eqvAllr]
  by_cases h1 : b = c
  · by_cases h2 : ss = us
    · simp [h1, h2]
    · simp [h1, h2]
  · simp [h1]
theorem shv (b : Rat) (ss : List Rat) : SeqAt.shaped (pdv b ss) = true := by
  have h1 := (shr ss).1
  have h2 := (shr ss).2
  unfold SeqAt.shaped pdv
  simp only [PyData.canLay0, PyData.canLayAll0, PyData.depth, PyData.depthAll, h1, pdr, pd2]
  simp
  omega
theorem sh1 (r : Rat) : SeqAt.shaped (pdr r) = true := rfl
theorem over_tup {K : PySem.W.Frag} {H H' : Hp} {t D : Addr} {xs ys : List V} (h : SqT K H t xs) (hl : H D = some (.lst ys)) (s : ∀ b o, b ≠ D → H b = some o → H' b = some o) : SqT K H' t xs := by
  rcases h with (h | ⟨ob, h⟩) | h
  · exact .inl (.inl (s _ _ (ne_of h hl (by intro z; cases z)) h))
  · exact .inl (.inr ⟨ob, s _ _ (ne_of h hl (by intro z; cases z)) h⟩)
  · exact .inr h
/-- a comprehension whose elements are fractions: those of L -/
theorem lc_row {K : PySem.W.Frag} {J : It} {n : Nat} {G : Hp → Prop} {Y : Nat → Hp → V → Hp → Prop} (w : Walk J n G Y) (L : List Rat) (hL : L.length = n) (hz : n ≤ 1000)
    {g : TG} {te : TE} {vs : List Nat} {σ : L2.St} {H1 : Hp} {D : Addr} {Qd : Hp → Prop} (hD : H1 D = none) (hG : ∀ H, Same H1 H → G H)
    (hs : ∀ i r x H H' (k : V → Hp → Prop), L[i]? = some r → Same H1 H → Y i H x H' → (∀ t H4, Same H H4 → Fx K H4 t r → k (.ref t) H4) → g x (wipe σ vs) H' fun σ2 H2 => wipe σ2 vs = wipe σ vs ∧ te σ2 H2 k)
    (hd : ∀ H ws, Same H1 H → H D = some (.lst (fr ws)) → Rx K H ws → ws.map (·.2) = L → Qd H) :
    ∃ W : Nat → Nat → Hp → Prop, (∃ m, W 0 m (upd H1 D (.lst []))) ∧ ∀ i m H, W i m H →
      (J.stop i H ∧ Qd H) ∨ (J.go i H ∧ ∃ Nx : Hp → Prop, (∀ H', Nx H' → ∃ m', m' < m ∧ W (i + 1) m' H') ∧ ∀ x H', J.yld i H x H' → g x (wipe σ vs) H' fun σ2 H2 => wipe σ2 vs = wipe σ vs ∧ tYes σ2 H2 fun b H3 =>
        if b = true then te σ2 H3 fun y H4 => ∃ acc, H4 D = some (.lst acc) ∧ acc.length < sizeLine ∧ Nx (upd H4 D (.lst (acc ++ [y]))) else Nx H3) := by
  subst hL
  refine lc_it w (fun i H => Same H1 H ∧ ∃ ws, H D = some (.lst (fr ws)) ∧ Rx K H ws ∧ ws.map (·.2) = L.take i) ⟨same_upd hD, [], upd_same, (fun _ z => nomatch z), rfl⟩ (fun i H _ h => hG H h.1) ?_ ?_
  · rintro i x H H' hi ⟨s1, ws, e1, r1, m1⟩ y
    have hr : L[i]? = some L[i] := List.getElem?_eq_getElem hi
    have q := hs i L[i] x H H' (fun y H4 => ∃ acc, H4 D = some (.lst acc) ∧ acc.length < sizeLine ∧ (fun H => Same H1 H ∧ ∃ ws, H D = some (.lst (fr ws)) ∧ Rx K H ws ∧ ws.map (·.2) = L.take (i + 1)) (upd H4 D (.lst (acc ++ [y])))) hr s1 y (fun t H4 s4 f4 => ?_)
    · refine Eq.mp (congrArg (g x (wipe σ vs) H') ?_) q
      funext σ2 H2
      simp [tYes]
    · have e4 := s4 _ _ e1
      have hlen : ws.length = (L.take i).length := by rw [← m1, List.length_map]
      rw [List.length_take] at hlen
      refine ⟨fr ws, e4, ?_, fun b o e => ?_, ws ++ [(t, L[i])], ?_, fun v hv => ?_, ?_⟩
      · rw [fr_len]
        exact small1000 (by omega)
      · rw [upd_ne (ne_of_none e hD)]
        exact s4 _ _ (s1 _ _ e)
      · rw [upd_same, show fr (ws ++ [(t, L[i])]) = fr ws ++ [.ref t] from List.map_append]
      · rcases List.mem_append.mp hv with h | h
        · exact over_tup ((r1.same s4) v h) e4 fun b o hb e => by rw [upd_ne hb]; exact e
        · rw [List.mem_singleton.mp h]
          exact over_tup f4 e4 fun b o hb e => by rw [upd_ne hb]; exact e
      · rw [List.map_append, m1, List.take_add_one, hr]
        rfl
  · rintro H ⟨s1, ws, e1, r1, m1⟩
    rw [List.take_length] at m1
    exact hd H ws s1 e1 r1 m1
/-- a comprehension whose elements are plain values: those of L -/
theorem lc_val {J : It} {n : Nat} {G : Hp → Prop} {Y : Nat → Hp → V → Hp → Prop} (w : Walk J n G Y) (L : List V) (hL : L.length = n) (hz : n ≤ 1000)
    {g : TG} {te : TE} {vs : List Nat} {σ : L2.St} {H1 : Hp} {D : Addr} {Qd : Hp → Prop} (hD : H1 D = none) (hG : ∀ H, Same H1 H → G H)
    (hs : ∀ i r x H H' (k : V → Hp → Prop), L[i]? = some r → Same H1 H → Y i H x H' → (∀ H4, Same H H4 → k r H4) → g x (wipe σ vs) H' fun σ2 H2 => wipe σ2 vs = wipe σ vs ∧ te σ2 H2 k)
    (hd : ∀ H, Same H1 H → H D = some (.lst L) → Qd H) :
    ∃ W : Nat → Nat → Hp → Prop, (∃ m, W 0 m (upd H1 D (.lst []))) ∧ ∀ i m H, W i m H →
      (J.stop i H ∧ Qd H) ∨ (J.go i H ∧ ∃ Nx : Hp → Prop, (∀ H', Nx H' → ∃ m', m' < m ∧ W (i + 1) m' H') ∧ ∀ x H', J.yld i H x H' → g x (wipe σ vs) H' fun σ2 H2 => wipe σ2 vs = wipe σ vs ∧ tYes σ2 H2 fun b H3 =>
        if b = true then te σ2 H3 fun y H4 => ∃ acc, H4 D = some (.lst acc) ∧ acc.length < sizeLine ∧ Nx (upd H4 D (.lst (acc ++ [y]))) else Nx H3) := by
  subst hL
  refine lc_it w (fun i H => Same H1 H ∧ H D = some (.lst (L.take i))) ⟨same_upd hD, upd_same⟩ (fun i H _ h => hG H h.1) ?_ ?_
  · rintro i x H H' hi ⟨s1, e1⟩ y
    have hr : L[i]? = some L[i] := List.getElem?_eq_getElem hi
    have q := hs i L[i] x H H' (fun y H4 => ∃ acc, H4 D = some (.lst acc) ∧ acc.length < sizeLine ∧ (fun H => Same H1 H ∧ H D = some (.lst (L.take (i + 1)))) (upd H4 D (.lst (acc ++ [y])))) hr s1 y (fun H4 s4 => ?_)
    · refine Eq.mp (congrArg (g x (wipe σ vs) H') ?_) q
      funext σ2 H2
      simp [tYes]
    · have e4 := s4 _ _ e1
      refine ⟨L.take i, e4, ?_, fun b o e => ?_, ?_⟩
      · rw [List.length_take]
        exact small1000 (by omega)
      · rw [upd_ne (ne_of_none e hD)]
        exact s4 _ _ (s1 _ _ e)
      · rw [upd_same, List.take_add_one, hr]
        rfl
  · rintro H ⟨s1, e1⟩
    rw [List.take_length] at e1
    exact hd H s1 e1
def sumR (l : List Rat) : Rat := l.foldl (· + ·) 0
theorem foldl_sum (b : Rat) (l : List Rat) : l.foldl (· + ·) b = b + sumR l := by
  unfold sumR
  induction l generalizing b with
  | nil => exact (Rat.add_zero b).symm
  | cons x l ih =>
    rw [List.foldl_cons, List.foldl_cons, ih, ih (0 + x)]
    grind
theorem sum_bd {n : Nat} {l : List Rat} (h : ∀ r ∈ l, Bd n r) : ∀ i ≤ l.length, Bd (1 + (n + 1) * i) (sumR (l.take i)) := by
  intro i
  induction i with
  | zero =>
    intro _
    exact bd_zero
  | succ i ih =>
    intro hi
    have e : l[i]? = some l[i] := List.getElem?_eq_getElem (by omega)
    have b1 := ih (by omega)
    have b2 := h l[i] (List.getElem_mem _)
    have e2 : sumR (l.take (i + 1)) = sumR (l.take i) + l[i] := by
      unfold sumR
      rw [List.take_add_one, e, List.foldl_append]
      rfl
    rw [e2]
    refine (b1.add b2).up ?_
    rw [Nat.mul_succ]
    omega

section
open PySem PySem.Spec PyProof.Rows
/-- a tuple, once: itself -/
theorem mul_once (l : Addr) (its : Array Value) (n : Nat) (dt : Option Addr) (sl : Array (Option Value)) (u : Tok) :
    Meets (Builtin.«tuple.__mul__» ⟨[.ref l, .int 1 u], []⟩) (fun _ R s => s.heap.get? l = some { cls := .type "tuple", dict := dt, data := .seq its n, slots := sl } ∧ R (.ok (.ret (Value.ref l))) s) :=
  .of_wp fun prog w A R s h => by
    obtain ⟨hp, g, dw, tk, os⟩ := s; obtain ⟨hl, h⟩ := h
    have ix := AutoSeq1.idx_int
    wp_walk using wpAny_loadPart' hl
    exact ⟨_, rfl, h⟩
/-- a tuple, no times: an empty one -/
theorem mul_none (l : Addr) (its : Array Value) (n : Nat) (dt : Option Addr) (sl : Array (Option Value)) (u : Tok) (hi : its.isEmpty = false) :
    Meets (Builtin.«tuple.__mul__» ⟨[.ref l, .int 0 u], []⟩) (fun _ R s => s.heap.get? l = some { cls := .type "tuple", dict := dt, data := .seq its n, slots := sl } ∧
      R (.ok (.ret (Value.ref s.heap.objs.size))) { s with heap := s.heap.push { cls := Value.type "tuple", data := Data.seq #[] }, toks := s.toks }) :=
  .of_wp fun prog w A R s h => by
    obtain ⟨hp, g, dw, tk, os⟩ := s; obtain ⟨hl, h⟩ := h
    have ix := AutoSeq1.idx_int
    have c1 : (its.isEmpty || (0 : Int) == 1) = false := by rw [hi]; rfl
    wp_walk using wpAny_loadPart' hl
    repeat (first
      | (refine wpAny_ite_false (decide_eq_false (by rw [c1]; exact Bool.false_ne_true)) ?_; wp_walk using wpAny_loadPart' hl))
    exact ⟨_, rfl, h⟩
section
variable {X : Cx}
theorem op_mulOnce : OpR X (binaryOp .Mult) (fun x y H Q => ∃ l xs, x = .ref l ∧ y = .int 1 ∧ SqT X.K H l xs ∧ Q (.ref l) H) := by
  intro pins s σ H x y v u Q I rx ry hh
  obtain ⟨l, xs, rfl, rfl, hT, q⟩ := hh
  obtain rfl : v = .ref l := rx
  obtain ⟨tk1, rfl⟩ := ry
  obtain ⟨its, r, ⟨⟨kl, dt, da, sl⟩, ho, hc, n, hd⟩, _⟩ := I.tuple hT
  dsimp only at hc hd; subst hc hd
  exact wpAny_binaryOp_repeat_ref (T := "tuple") (U := "int") (by decide) ⟨_, ho, rfl⟩ (fun s' => typeIs_int s' 1 tk1) noFill_tuple_mul F.fills_int_mul F.slot_int_rmul repeat_tuple F.slot_int_index.lookup
    (call_meets F.slot_int_rmul (typeIs_int s 1 tk1) F.entry_int_rmul (F.args_int_rmul_2 _ _) (int_rmul_tuple 1 tk1 l its.toArray n dt sl)
      ⟨ho, rfl, ⟨_, ho, rfl⟩, call_meets F.slot_tuple_mul ⟨_, ho, rfl⟩ F.entry_tuple_mul (F.args_tuple_mul_2 _ _) (mul_once l its.toArray n dt sl tk1) ⟨ho, ⟨.ref l, H, I, rfl, q⟩⟩⟩)
theorem op_mulNone : OpR X (binaryOp .Mult) (fun x y H Q => ∃ l xs, x = .ref l ∧ y = .int 0 ∧ SqT X.K H l xs ∧ xs ≠ [] ∧ ∀ p, H p = none → Q (.ref p) (upd H p (.tup []))) := by
  intro pins s σ H x y v u Q I rx ry hh
  obtain ⟨l, xs, rfl, rfl, hT, hne, q⟩ := hh
  obtain rfl : v = .ref l := rx
  obtain ⟨tk1, rfl⟩ := ry
  obtain ⟨its, r, ⟨⟨kl, dt, da, sl⟩, ho, hc, n, hd⟩, _⟩ := I.tuple hT
  dsimp only at hc hd; subst hc hd
  have hi : its.toArray.isEmpty = false := by
    cases r with
    | nil => exact absurd rfl hne
    | cons _ _ => rfl
  exact wpAny_binaryOp_repeat_ref (T := "tuple") (U := "int") (by decide) ⟨_, ho, rfl⟩ (fun s' => typeIs_int s' 0 tk1) noFill_tuple_mul F.fills_int_mul F.slot_int_rmul repeat_tuple F.slot_int_index.lookup
    (call_meets F.slot_int_rmul (typeIs_int s 0 tk1) F.entry_int_rmul (F.args_int_rmul_2 _ _) (int_rmul_tuple 0 tk1 l its.toArray n dt sl)
      ⟨ho, rfl, ⟨_, ho, rfl⟩, call_meets F.slot_tuple_mul ⟨_, ho, rfl⟩ F.entry_tuple_mul (F.args_tuple_mul_2 _ _) (mul_none l its.toArray n dt sl tk1 hi) ⟨ho,
        ⟨.ref s.heap.objs.size, _, I.laid (t' := s.toks) (o := .tup []) (fun b ob e => Heap.get?_push_of_some _ e) (Nat.le_refl _) ⟨by show 0 ≤ sizeLine; decide, [], .nil, IsTup.new _ _⟩, rfl, q _ (I.hok.fresh (Nat.le_refl _))⟩⟩⟩)
end
end

def Bz (n : Nat) (x : Int) : Prop := x.natAbs < 2 ^ n
theorem Bz.up {n m : Nat} {x : Int} (h : Bz n x) (hm : n ≤ m) : Bz m x := Nat.lt_of_lt_of_le h (Nat.pow_le_pow_right (by decide) hm)
theorem Bz.mul {n m : Nat} {x y : Int} (h : Bz n x) (h2 : Bz m y) : Bz (n + m) (x * y) := wide_lt h h2
theorem Bz.neg {n : Nat} {x : Int} (h : Bz n x) : Bz n (-x) := by
  unfold Bz
  rw [Int.natAbs_neg]
  exact h
theorem Bz.add {n m : Nat} {x y : Int} (h : Bz n x) (h2 : Bz m y) : Bz (max n m + 1) (x + y) := by
  have a1 := h.up (Nat.le_max_left n m)
  have a2 := h2.up (Nat.le_max_right n m)
  unfold Bz at *
  rw [Nat.pow_succ]
  have := Int.natAbs_add_le x y
  omega
theorem Bz.sub {n m : Nat} {x y : Int} (h : Bz n x) (h2 : Bz m y) : Bz (max n m + 1) (x - y) := h.add h2.neg
theorem Bz.wide {n m : Nat} {x y : Int} (h : Bz n x) (h2 : Bz m y) (hn : n + m ≤ 900000) : CMulW x y :=
  wide_mul (h.up (Nat.le_succ n)) (h2.up (Nat.le_succ m)) (Nat.succ_pos _) (Nat.succ_pos _) (by omega)
theorem Bd.nz {n : Nat} {r : Rat} (h : Bd n r) : Bz n r.num := h.1
theorem Bd.dz {n : Nat} {r : Rat} (h : Bd n r) : Bz n (r.den : Int) := h.2
theorem bz_of {n : Nat} {x : Int} (h : x.natAbs < 2 ^ n) : Bz n x := h
theorem bz_lt {n : Nat} {x : Int} {b : Nat} (hb : b ≤ 2 ^ n) (h : x.natAbs < b) : Bz n x := Nat.lt_of_lt_of_le h hb
theorem bd_div {n d : Int} {k : Nat} (hd : d ≠ 0) (h1 : Bz k n) (h2 : Bz k d) : Bd k (Rat.divInt n d) := bd_of hd h1 h2
theorem tn {n : Nat} (h : Nat.ble n 1000 = true) : n ≤ sizeLine := Nat.le_trans (Nat.le_of_ble_eq_true h) (by decide)
theorem same_hu {H H' : Hp} {p : Addr} {o : HO} (h : upd H p o = H') (n : H p = none) : Same H H' := h ▸ same_upd n
theorem at_hu {H H' : Hp} {p : Addr} {o : HO} (h : upd H p o = H') : H' p = some o := h ▸ upd_same
theorem same_tr {H H1 H2 : Hp} (h2 : Same H1 H2) (h1 : Same H H1) : Same H H2 := h1.trans h2
theorem fx_up {K : PySem.W.Frag} {H H' : Hp} {a : Addr} {r : Rat} (s : Same H H') (h : Fx K H a r) : Fx K H' a r := h.same s
theorem vx_up {K : PySem.W.Frag} {H H' : Hp} {a : Addr} {r : Rat} {ss : List Rat} (s : Same H H') (h : Vx K H a r ss) : Vx K H' a r ss := h.same s
theorem seq_up {K : PySem.W.Frag} {H H' : Hp} {a : Addr} {xs : List V} (s : Same H H') (h : SqL K H a xs) : SqL K H' a xs := s.seq h
local macro_rules | `(tactic| walk_at "ss") => `(tactic| first | exact Same.refl _ | assumption | exact same_tr (by assumption) (by walk_at "ss"))
local macro_rules | `(tactic| walk_at "bz") => `(tactic| first | assumption | exact Bd.nz (by assumption) | exact Bd.dz (by assumption) | exact Bz.mul (by walk_at "bz") (by walk_at "bz") | exact Bz.add (by walk_at "bz") (by walk_at "bz") | exact Bz.sub (by walk_at "bz") (by walk_at "bz") | exact Bz.neg (by walk_at "bz") | exact bz_of (n := 1) (by decide) | exact bz_of (n := 4) (by decide)| exact bz_of (n := 8) (by decide)| exact bz_of (n := 20) (by decide))
local macro_rules | `(tactic| walk_at "sm0") => `(tactic| assumption)
local macro_rules | `(tactic| walk_at "sm1") => `(tactic| first | assumption | exact same_tup (by assumption) (by walk_at "sm0"))
local macro_rules | `(tactic| walk_at "sm2") => `(tactic| first | assumption | exact same_tup (by assumption) (by walk_at "sm1"))
local macro_rules | `(tactic| walk_at "sm3") => `(tactic| first | assumption | exact same_tup (by assumption) (by walk_at "sm2"))
local macro_rules | `(tactic| walk_at "sm4") => `(tactic| first | assumption | exact same_tup (by assumption) (by walk_at "sm3"))
local macro_rules | `(tactic| walk_at "sm5") => `(tactic| first | assumption | exact same_tup (by assumption) (by walk_at "sm4"))
local macro_rules | `(tactic| walk_at "sm6") => `(tactic| first | assumption | exact same_tup (by assumption) (by walk_at "sm5"))
local macro_rules | `(tactic| walk_at "sm7") => `(tactic| first | assumption | exact same_tup (by assumption) (by walk_at "sm6"))
local macro_rules | `(tactic| walk_at "sm") => `(tactic| walk_at "sm7")
local macro_rules | `(tactic| walk_at "sf0") => `(tactic| assumption)
local macro_rules | `(tactic| walk_at "sf1") => `(tactic| first | assumption | exact fx_up (by assumption) (by walk_at "sf0") | exact vx_up (by assumption) (by walk_at "sf0") | exact seq_up (by assumption) (by walk_at "sf0"))
local macro_rules | `(tactic| walk_at "sf2") => `(tactic| first | assumption | exact fx_up (by assumption) (by walk_at "sf1") | exact vx_up (by assumption) (by walk_at "sf1") | exact seq_up (by assumption) (by walk_at "sf1"))
local macro_rules | `(tactic| walk_at "sf3") => `(tactic| first | assumption | exact fx_up (by assumption) (by walk_at "sf2") | exact vx_up (by assumption) (by walk_at "sf2") | exact seq_up (by assumption) (by walk_at "sf2"))
local macro_rules | `(tactic| walk_at "sf4") => `(tactic| first | assumption | exact fx_up (by assumption) (by walk_at "sf3") | exact vx_up (by assumption) (by walk_at "sf3") | exact seq_up (by assumption) (by walk_at "sf3"))
local macro_rules | `(tactic| walk_at "sf5") => `(tactic| first | assumption | exact fx_up (by assumption) (by walk_at "sf4") | exact vx_up (by assumption) (by walk_at "sf4") | exact seq_up (by assumption) (by walk_at "sf4"))
local macro_rules | `(tactic| walk_at "sf6") => `(tactic| first | assumption | exact fx_up (by assumption) (by walk_at "sf5") | exact vx_up (by assumption) (by walk_at "sf5") | exact seq_up (by assumption) (by walk_at "sf5"))
local macro_rules | `(tactic| walk_at "sf7") => `(tactic| first | assumption | exact fx_up (by assumption) (by walk_at "sf6") | exact vx_up (by assumption) (by walk_at "sf6") | exact seq_up (by assumption) (by walk_at "sf6"))
local macro_rules | `(tactic| walk_at "sf") => `(tactic| walk_at "sf7")
local macro_rules | `(tactic| walk_at "go") => `(tactic| repeat (first | refine ⟨_, rfl, ?_⟩ | refine ⟨rfl, ?_⟩ | refine ⟨_, _, rfl, rfl, ?_⟩ | refine ⟨Bz.wide (by walk_at "bz") (by walk_at "bz") (by decide), ?_⟩ | refine ⟨_, _, _, _, rfl, rfl, (by walk_at "sm"), atI_nat (j := 0) (by rfl), ?_⟩ | refine ⟨_, _, _, _, rfl, rfl, (by walk_at "sm"), atI_nat (j := 1) (by rfl), ?_⟩ | refine ⟨_, _, _, _, rfl, rfl, (by walk_at "sm"), atI_nat (j := 2) (by rfl), ?_⟩ | refine ⟨_, _, _, _, rfl, rfl, (by walk_at "sm"), atI_nat (j := 3) (by rfl), ?_⟩ | refine ⟨_, _, rfl, (by walk_at "sm"), (by rfl), ?_⟩ | refine ⟨⟨by decide, by decide⟩, ?_⟩ | refine ⟨(by show (0 : Int) < _; decide), ?_⟩ | refine ⟨Or.inr ⟨by decide, by decide⟩, ?_⟩ | refine ⟨Or.inl ⟨by decide, by decide⟩, ?_⟩ | refine Or.inl ⟨_, rfl, ?_⟩ | refine And.intro (by assumption) ?_ | refine ⟨_, _, rfl, ?_⟩))
/-- a comprehension whose elements are things of a kind R that stands while nothing but the new list changes -/
theorem lc_obj {J : It} {n : Nat} {G : Hp → Prop} {Y : Nat → Hp → V → Hp → Prop} (w : Walk J n G Y) (R : Nat → Hp → V → Prop)
    (stab : ∀ {i H H' v D acc}, R i H v → H D = some (.lst acc) → (∀ b o, b ≠ D → H b = some o → H' b = some o) → R i H' v) (hz : n ≤ 1000)
    {g : TG} {te : TE} {vs : List Nat} {σ : L2.St} {H1 : Hp} {D : Addr} {Qd : Hp → Prop} (hD : H1 D = none) (hG : ∀ H, Same H1 H → G H)
    (hs : ∀ i x H H' (k : V → Hp → Prop), i < n → Same H1 H → Y i H x H' → (∀ v H4, Same H H4 → R i H4 v → k v H4) → g x (wipe σ vs) H' fun σ2 H2 => wipe σ2 vs = wipe σ vs ∧ te σ2 H2 k)
    (hd : ∀ H us, Same H1 H → H D = some (.lst us) → us.length = n → (∀ i v, us[i]? = some v → R i H v) → Qd H) :
    ∃ W : Nat → Nat → Hp → Prop, (∃ m, W 0 m (upd H1 D (.lst []))) ∧ ∀ i m H, W i m H →
      (J.stop i H ∧ Qd H) ∨ (J.go i H ∧ ∃ Nx : Hp → Prop, (∀ H', Nx H' → ∃ m', m' < m ∧ W (i + 1) m' H') ∧ ∀ x H', J.yld i H x H' → g x (wipe σ vs) H' fun σ2 H2 => wipe σ2 vs = wipe σ vs ∧ tYes σ2 H2 fun b H3 =>
        if b = true then te σ2 H3 fun y H4 => ∃ acc, H4 D = some (.lst acc) ∧ acc.length < sizeLine ∧ Nx (upd H4 D (.lst (acc ++ [y]))) else Nx H3) := by
  refine lc_it w (fun i H => Same H1 H ∧ ∃ us, H D = some (.lst us) ∧ us.length = i ∧ ∀ j v, us[j]? = some v → R j H v) ⟨same_upd hD, [], upd_same, rfl, (fun j v h => by simp at h)⟩ (fun i H _ h => hG H h.1) ?_ ?_
  · rintro i x H H' hi ⟨s1, us, e1, l1, r1⟩ y
    have q := hs i x H H' (fun y H4 => ∃ acc, H4 D = some (.lst acc) ∧ acc.length < sizeLine ∧ (fun H => Same H1 H ∧ ∃ us, H D = some (.lst us) ∧ us.length = i + 1 ∧ ∀ j v, us[j]? = some v → R j H v) (upd H4 D (.lst (acc ++ [y])))) hi s1 y (fun v H4 s4 f4 => ?_)
    · refine Eq.mp (congrArg (g x (wipe σ vs) H') ?_) q
      funext σ2 H2
      simp [tYes]
    · have e4 := s4 _ _ e1
      refine ⟨us, e4, small1000 (by omega), fun b o e => ?_, us ++ [v], upd_same, by rw [List.length_append, l1]; rfl, fun j u hu => ?_⟩
      · rw [upd_ne (ne_of_none e hD)]
        exact s4 _ _ (s1 _ _ e)
      · by_cases hj : j < i
        · rw [List.getElem?_append_left (by omega)] at hu
          have hf := stab (r1 j u hu) e1 (fun b o _ e => s4 b o e)
          exact stab hf e4 fun b o hb e => by rw [upd_ne hb]; exact e
        · have hj2 : j < (us ++ [v]).length := (List.getElem?_eq_some_iff.mp hu).1
          rw [List.length_append, l1] at hj2
          have hj3 : j = i := by
            simp at hj2
            omega
          subst hj3
          rw [List.getElem?_append_right (by omega), l1, Nat.sub_self] at hu
          obtain rfl : v = u := Option.some.inj hu
          exact stab f4 e4 fun b o hb e => by rw [upd_ne hb]; exact e
  · rintro H ⟨s1, us, e1, l1, r1⟩
    exact hd H us s1 e1 l1 r1
theorem over_fx {K : PySem.W.Frag} {H H' : Hp} {t D : Addr} {r : Rat} {ys : List V} (h : Fx K H t r) (hl : H D = some (.lst ys)) (s : ∀ b o, b ≠ D → H b = some o → H' b = some o) : Fx K H' t r := over_tup h hl s
theorem over_vx {K : PySem.W.Frag} {H H' : Hp} {t D : Addr} {b : Rat} {ss : List Rat} {ys : List V} (h : Vx K H t b ss) (hl : H D = some (.lst ys)) (s : ∀ b o, b ≠ D → H b = some o → H' b = some o) : Vx K H' t b ss := by
  obtain ⟨p, q, ws, h1, h2, h3, h4, h5⟩ := h
  exact ⟨p, q, ws, over_tup h1 hl s, over_tup h2 hl s, over_tup h3 hl s, fun w hw => over_tup (h4 w hw) hl s, h5⟩

theorem zw_get {xs us : List Rat} {i : Nat} (h : i < xs.length) (h2 : i < us.length) : (List.zipWith (fun r s => r * s) xs us)[i]? = some (xs[i] * us[i]) := by
  rw [List.getElem?_zipWith, List.getElem?_eq_getElem h, List.getElem?_eq_getElem h2]
theorem zw_bd {n : Nat} {xs us : List Rat} (h1 : ∀ r ∈ xs, Bd n r) (h2 : ∀ r ∈ us, Bd n r) : ∀ r ∈ List.zipWith (fun r s => r * s) xs us, Bd (n + n) r := by
  induction xs generalizing us with
  | nil =>
    intro r hr
    cases us <;> cases hr
  | cons x xs ih =>
    cases us with
    | nil =>
      intro r hr
      cases hr
    | cons u us =>
      intro r hr
      rw [List.zipWith_cons_cons] at hr
      rcases List.mem_cons.mp hr with rfl | h
      · exact (h1 x List.mem_cons_self).mul (h2 u List.mem_cons_self)
      · exact ih (fun r hr => h1 r (List.mem_cons_of_mem _ hr)) (fun r hr => h2 r (List.mem_cons_of_mem _ hr)) r h
theorem take_sum {l : List Rat} {i : Nat} {r : Rat} (h : l[i]? = some r) : sumR (l.take (i + 1)) = sumR (l.take i) + r := by
  unfold sumR
  rw [List.take_add_one, h, List.foldl_append]
  rfl
theorem eqvv_self (b : Rat) (ss : List Rat) : PyData.eqv (pdv b ss) (pdv b ss) = true := by
  rw [eqvv]
  exact decide_eq_true ⟨rfl, rfl⟩
theorem eqvr_self (b : Rat) : PyData.eqv (pdr b) (pdr b) = true := by
  rw [eqvr]
  exact decide_eq_true rfl
theorem eqvl_self (ss : List Rat) : PyData.eqv (.list (ss.map pdr)) (.list (ss.map pdr)) = true := by
  rw [PyData.eqv, eqvAllr]
  exact decide_eq_true rfl
theorem zw_some {op : Rat → Rat → Rat} {xs ys : List Rat} {i : Nat} {c : Rat} (h : (List.zipWith op xs ys)[i]? = some c) : ∃ x y, xs[i]? = some x ∧ ys[i]? = some y ∧ op x y = c := by
  rw [List.getElem?_zipWith] at h
  cases e1 : xs[i]? with
  | none =>
    rw [e1] at h
    cases h
  | some x =>
    cases e2 : ys[i]? with
    | none =>
      rw [e1, e2] at h
      cases h
    | some y =>
      rw [e1, e2] at h
      exact ⟨x, y, rfl, rfl, Option.some.inj h⟩
theorem sum_cons (x : Rat) (l : List Rat) : sumR (x :: l) = x + sumR l := by
  show (x :: l).foldl (· + ·) 0 = _
  rw [List.foldl_cons, foldl_sum, Rat.zero_add]
theorem zw_add (us : List Rat) : ∀ {xs ys : List Rat}, xs.length = us.length → ys.length = us.length → sumR (List.zipWith (fun r s => r * s) (List.zipWith (fun r s => r + s) xs ys) us) = sumR (List.zipWith (fun r s => r * s) xs us) + sumR (List.zipWith (fun r s => r * s) ys us) := by
  induction us with
  | nil =>
    intro xs ys h1 h2
    rw [List.zipWith_nil_right, List.zipWith_nil_right, List.zipWith_nil_right]
    exact (Rat.add_zero 0).symm
  | cons u us ih =>
    intro xs ys h1 h2
    cases xs with
    | nil => cases h1
    | cons x xs =>
      cases ys with
      | nil => cases h2
      | cons y ys =>
        rw [List.zipWith_cons_cons, List.zipWith_cons_cons, List.zipWith_cons_cons, List.zipWith_cons_cons, sum_cons, sum_cons, sum_cons, ih (by simpa using h1) (by simpa using h2)]
        grind
theorem zw_sub (xs ys : List Rat) : List.zipWith (fun r s => r + s) xs (ys.map fun y => -1 * y) = List.zipWith (fun r s => r - s) xs ys := by
  rw [List.zipWith_map_right]
  congr 1
  funext r s
  grind
theorem neg_map (ys : List Rat) : (ys.map fun y => -1 * y) = ys.map fun y => -y := by
  congr 1
  funext y
  grind
theorem ind_sum : ∀ (us : List Rat) (m : Nat) (f : Nat → Rat), (∀ i, i ≠ m → f i = 0) → f m = 1 → ∀ u, us[m]? = some u → sumR (List.zipWith (fun r s => r * s) ((List.range us.length).map f) us) = u := by
  have hz : ∀ (us : List Rat) (f : Nat → Rat), (∀ i, f i = 0) → sumR (List.zipWith (fun r s => r * s) ((List.range us.length).map f) us) = 0 := by
    intro us
    induction us with
    | nil => intro f _; rfl
    | cons u us ih =>
      intro f hf
      rw [List.length_cons, List.range_succ_eq_map, List.map_cons, List.zipWith_cons_cons, sum_cons, List.map_map, hf 0]
      rw [show (f ∘ Nat.succ) = fun i => f (i + 1) from rfl, ih (fun i => f (i + 1)) (fun i => hf (i + 1))]
      grind
  intro us
  induction us with
  | nil =>
    intro m f _ _ u h
    cases h
  | cons v us ih =>
    intro m f hf hm u h
    rw [List.length_cons, List.range_succ_eq_map, List.map_cons, List.zipWith_cons_cons, sum_cons, List.map_map, show (f ∘ Nat.succ) = fun i => f (i + 1) from rfl]
    cases m with
    | zero =>
      obtain rfl : v = u := Option.some.inj h
      rw [hm, hz us (fun i => f (i + 1)) (fun i => hf (i + 1) (by omega))]
      grind
    | succ m =>
      rw [ih m (fun i => f (i + 1)) (fun i hi => hf (i + 1) (by omega)) hm u h, hf 0 (by omega)]
      grind
theorem all_rep {xs : List Rat} {n : Nat} (h : xs.length = n) (x : Rat) : (decide (x = 0) && xs.all fun y => decide (y = 0)) = decide (x = 0 ∧ xs = List.replicate n 0) := by
  have e : (xs.all fun y => decide (y = 0)) = decide (xs = List.replicate n 0) := by
    rw [Bool.eq_iff_iff, List.all_eq_true, decide_eq_true_iff, List.eq_replicate_iff]
    constructor
    · exact fun g => ⟨h, fun b hb => of_decide_eq_true (g b hb)⟩
    · exact fun g b hb => decide_eq_true (g.2 b hb)
  rw [e]
  by_cases h1 : x = 0
  · by_cases h2 : xs = List.replicate n 0
    · simp [h1, h2]
    · simp [h1, h2]
  · simp [h1]
theorem at_bd {x : Rat} {xs us : List Rat} (bx : Bd 30 x) (h1 : ∀ r ∈ xs, Bd 30 r) (h2 : ∀ r ∈ us, Bd 30 r) (hl : xs.length ≤ 9) : Bd 800 (x + sumR (List.zipWith (fun r s => r * s) xs us)) := by
  have b := sum_bd (zw_bd h1 h2) _ (Nat.le_refl _)
  rw [List.take_length] at b
  exact (bx.add b).up (by rw [List.length_zipWith]; omega)
theorem fx_lit {K : PySem.W.Frag} {H : Hp} {a : Addr} {r : Rat} {p q : Int} (h : H a = some (.tup [.int p, .int q])) (h1 : r.num = p) (h2 : (r.den : Int) = q) : Fx K H a r := by
  subst h1 h2
  exact SqT.of h
theorem eqvbb (a b : Bool) : PyData.eqv (.bool a) (.bool b) = (a == b) := by simp [PyData.eqv]

theorem iteF' {b : Bool} {p q : Prop} (h : b = false) (hq : q) : if b = true then p else q := by
  rw [h, if_neg Bool.false_ne_true]
  exact hq
theorem iteT' {b : Bool} {p q : Prop} (h : b = true) (hp : p) : if b = true then p else q := by
  rw [h, if_pos rfl]
  exact hp

section
open PySem PySem.Spec PySem.Calls PyProof.Rows PySem.W
/-- a list taken apart, one of the targets with a star -/
theorem tp_parts {prog : Program} {w : World} {A : Around} {E : Value → Shared → Prop} {s : Shared} {a : Addr} {its : Array Value} {n i : Nat} {Q : List Value → Shared → Prop} (hl : s.heap.IsList a its) (hh : A.handled = none) (hi : i < n) (hn : n ≤ its.size + 1) (hz : its.size ≤ 16384)
    (h : ∀ (h' : Heap) tk, (∀ b o, s.heap.get? b = some o → h'.get? b = some o) → Q (its.toList.take i ++ [.ref h'.objs.size] ++ (its.toList.drop i).drop (its.size + 1 - n)) { s with heap := h'.push { cls := .type "list", data := .seq ((its.toList.drop i).take (its.size + 1 - n)).toArray }, toks := tk }) :
    wpAny (model prog w) A (unpackItems (.ref a) n (some i)) Q E s := by
  have far : a ≠ s.heap.objs.size := by
    obtain ⟨o, ho, _⟩ := hl
    exact Nat.ne_of_lt (Heap.lt_size ho)
  unfold unpackItems
  refine wpAny_bind ?_
  unfold notIterableAtAll
  refine wpAny_bind (wpAny_specialOf hl.typeIs slot_list_iter.lookup ?_)
  refine wpAny_pure ?_
  simp only [Bool.false_eq_true, if_false]
  refine wpAny_bind (wpAny_holding (wpAny_pyIter_list hl ?_))
  refine wpAny_bind (wpAny_holding (kun_draw far i 0 _ _ ⟨_, Heap.get?_push_size _ rfl, rfl, rfl⟩ (hl.push _) (by omega) fun h1 it1 sb => ?_))
  have l1 : h1.IsList a its := (hl.push _).extBut sb.extBut far
  rw [Nat.zero_add] at it1
  obtain ⟨oi, hoi, _⟩ := id it1
  obtain ⟨ol, hol, _⟩ := id l1
  rw [List.drop_zero]
  have f1 : (its.toList.take i).length = i := by
    rw [List.length_take, Array.length_toList]
    omega
  rw [if_neg (by rw [f1]; exact Nat.lt_irrefl _)]
  refine wpAny_bind (wpAny_holding (kun_collect (s := { s with heap := h1 }) (T := "list_iterator") (.inr (.inr (.inl rfl))) (Walks.list (A := A.in1) hh s.heap.objs.size a far its) (fun j u st => st.1.typeIs) (k := i) (by omega) ⟨it1, l1⟩ (Heap.lt_size hoi) (Heap.lt_size hol) (fun h2 tk hk => ?_) (by rw [sizeLine_eq]; exact Nat.le_trans hz (by decide))))
  have f2 : (its.toList.drop i).length = its.size - i := by
    rw [List.length_drop, Array.length_toList]
  have f3 : (its.toList.drop i).length - (n - 1 - i) = its.size + 1 - n := by
    rw [f2]
    omega
  show wpAny _ _ (if (its.toList.drop i).length < n - 1 - i then _ else _) _ _ _
  rw [if_neg (by rw [f2]; omega)]
  show wpAny _ _ (newList ((its.toList.drop i).take ((its.toList.drop i).length - (n - 1 - i))) >>= fun d => pure (its.toList.take i ++ [d] ++ (its.toList.drop i).drop ((its.toList.drop i).length - (n - 1 - i)))) _ _ _
  rw [f3]
  have old : ∀ b o, s.heap.get? b = some o → h2.get? b = some o := fun b o e => by
    have nb : b ≠ s.heap.objs.size := Nat.ne_of_lt (Heap.lt_size e)
    exact hk b o nb (sb.extBut b o nb (Heap.get?_push_of_some _ e))
  refine wpAny_bind (PySem.wpAny_newList (wpAny_pure (h h2 tk old)) ?_)
  rw [List.length_take, f2, sizeLine_eq]
  omega
end
section
open PySem PySem.Spec PyProof.Rows
variable {X : Cx} {pos : Pos}
theorem vals_take {vs : List V} {us : List Value} (r : Vals vs us) (n : Nat) : Vals (vs.take n) (us.take n) := by
  induction r generalizing n with
  | nil =>
    rw [List.take_nil, List.take_nil]
    exact .nil
  | cons h t ih =>
    cases n with
    | zero => exact .nil
    | succ n => exact .cons h (ih n)
theorem vals_drop {vs : List V} {us : List Value} (r : Vals vs us) (n : Nat) : Vals (vs.drop n) (us.drop n) := by
  induction r generalizing n with
  | nil =>
    rw [List.drop_nil, List.drop_nil]
    exact .nil
  | cons h t ih =>
    cases n with
    | zero => exact .cons h t
    | succ n => exact ih n
theorem vals_app {vs ws : List V} {us ys : List Value} (r : Vals vs us) (q : Vals ws ys) : Vals (vs ++ ws) (us ++ ys) := by
  induction r with
  | nil => exact q
  | cons h t ih => exact .cons h ih
theorem pgs_star {e : Expr} {p : Pos} {es : List Expr} {t : TG} {u : TGs} (h1 : PG X e t) (h2 : PGs X es u)
    (hs : (assignEach (.Starred e p :: es) X.env).map (·.2) = assign e X.env :: (assignEach es X.env).map (·.2) := by rfl) : PGs X (.Starred e p :: es) (gCons t u) := by
  refine ⟨fun pins s σ H vs us Q I r h => ?_⟩
  obtain ⟨v, vr, e1, h⟩ := h
  subst e1
  cases r with
  | cons r rr =>
    rw [hs]
    refine assignInOrder_cons (thn (h1.run pins s σ H _ _ _ I r h) fun _ s1 ⟨σ1, H1, I1, q1⟩ => ?_)
    exact h2.run pins s1 σ1 H1 _ _ Q I1 rr q1
/-- (a, *b, ..) = a list, the star at place i of n -/
def gStar (K : PySem.W.Frag) (n i : Nat) (t : TGs) : TG := fun v σ H Q => ∃ a xs, v = .ref a ∧ SqL K H a xs ∧ n ≤ xs.length + 1 ∧ xs.length ≤ 16384 ∧
  ∀ D, H D = none → t (xs.take i ++ [.ref D] ++ (xs.drop i).drop (xs.length + 1 - n)) σ (upd H D (.lst ((xs.drop i).take (xs.length + 1 - n)))) Q
theorem pg_star {es : List Expr} {k : Nat} {t : TGs} {n i : Nat} (hc : X.calm = true) (h : PGs X es t)
    (hn : (assignEach es X.env).length = n := by rfl) (hst : (assignEach es X.env).findIdx? (·.1) = some i := by rfl) (hi : i < n := by decide) : PG X (.Tuple es k pos) (gStar X.K n i t) := by
  refine ⟨fun pins s σ H v u Q I r hw => ?_⟩
  obtain ⟨a, xs, e1, hq, hl, hm, hw⟩ := hw
  subst e1
  cases r
  obtain ⟨its, rv, pl, hz⟩ := I.list hq
  have hlen := rv.length
  have hl' : s.heap.IsList a its.toArray := pl.isList
  rw [PyProof.Rows.assign_Tuple]
  refine wpAny_bind (wpAny_standAt ?_)
  unfold unpack
  rw [hn, hst]
  refine wpAny_bind (wpAny_holding (tp_parts hl' (I.ok.hd hc) hi (by rw [List.size_toArray]; omega) (by rw [List.size_toArray]; omega) fun h' tk hx => ?_))
  have I1 : Inv X pins σ H { s with heap := h', toks := tk } := I.kept (t' := tk) hx
  have ez : its.toArray.size = xs.length := by rw [List.size_toArray, hlen]
  rw [ez, show its.toArray.toList = its from rfl]
  have I2 := I1.laid (a := h'.objs.size) (o := .lst ((xs.drop i).take (xs.length + 1 - n))) (h' := h'.push { cls := .type "list", data := .seq ((its.drop i).take (xs.length + 1 - n)).toArray }) (t' := tk) (fun b o e => Heap.get?_push_of_some _ e) (Nat.le_refl _)
    ⟨by
      rw [List.length_take, List.length_drop, PySem.sizeLine_eq]
      omega, _, 0, vals_take (vals_drop rv i) _, Heap.get?_push_size _ rfl⟩
  refine h.run pins _ σ _ _ _ Q I2 ?_ (hw _ (I1.hok.fresh (Nat.le_refl _)))
  exact vals_app (vals_app (vals_take rv i) (.cons rfl .nil)) (vals_drop (vals_drop rv i) _)
end

def Px (K : PySem.W.Frag) (H : Hp) (t : Addr) (r1 r2 r3 : Rat) : Prop := ∃ p q r : Addr, SqT K H t [.ref p, .ref q, .ref r] ∧ Fx K H p r1 ∧ Fx K H q r2 ∧ Fx K H r r3
theorem Px.same {K : PySem.W.Frag} {H H' : Hp} {t : Addr} {r1 r2 r3 : Rat} (h : Px K H t r1 r2 r3) (e : Same H H') : Px K H' t r1 r2 r3 := by
  obtain ⟨p, q, r, h1, h2, h3, h4⟩ := h
  exact ⟨p, q, r, same_tup e h1, h2.same e, h3.same e, h4.same e⟩
/-- the i-th of three -/
def th {α : Type} (a b c : α) : Nat → α
  | 0 => a
  | 1 => b
  | _ => c
theorem th_get {α : Type} {a b c : α} {i : Nat} {u : α} (h : [a, b, c][i]? = some u) : i < 3 ∧ u = th a b c i := by
  have hi : i < 3 := (List.getElem?_eq_some_iff.mp h).1
  refine ⟨hi, ?_⟩
  obtain rfl | rfl | rfl : i = 0 ∨ i = 1 ∨ i = 2 := by omega
  all_goals exact (Option.some.inj h).symm
theorem th_all {α : Type} {P : α → Prop} {a b c : α} (h1 : P a) (h2 : P b) (h3 : P c) (i : Nat) : P (th a b c i) := by
  unfold th
  split
  · exact h1
  · exact h2
  · exact h3
theorem div_one (n : Int) : Rat.divInt n 1 = (n : Rat) := by
  exact (Rat.divInt_ofNat n 1).trans (Rat.mkRat_one n)
theorem bd_int {n : Int} {k : Nat} (h : Bz k n) (hk : 0 < k) : Bd k (n : Rat) :=
  ⟨h, by
    show 1 < 2 ^ k
    exact Nat.one_lt_two_pow (by omega)⟩
theorem one3 {xs : List V} (h : xs.length = 3) : ∃ a b c, xs = [a, b, c] := by
  match xs, h with
  | [a, b, c], _ => exact ⟨a, b, c, rfl⟩
theorem one1 {xs : List V} (h : xs.length = 1) : ∃ a, xs = [a] := by
  match xs, h with
  | [a], _ => exact ⟨a, rfl⟩
/-- a point: its three fractions -/
structure Pt (K : PySem.W.Frag) (H : Hp) (t : Addr) (p1 q1 p2 q2 p3 q3 : Int) : Prop where
  ex : ∃ a b c : Addr, SqT K H t [.ref a, .ref b, .ref c] ∧ SqT K H a (zs [p1, q1]) ∧ SqT K H b (zs [p2, q2]) ∧ SqT K H c (zs [p3, q3])
  b1 : p1.natAbs < 2 ^ 100 ∧ p2.natAbs < 2 ^ 100 ∧ p3.natAbs < 2 ^ 100
  b2 : q1.natAbs < 2 ^ 100 ∧ q2.natAbs < 2 ^ 100 ∧ q3.natAbs < 2 ^ 100
  b3 : 0 < q1 ∧ 0 < q2 ∧ 0 < q3
theorem Pt.same {K : PySem.W.Frag} {H H' : Hp} {t : Addr} {p1 q1 p2 q2 p3 q3 : Int} (p : Pt K H t p1 q1 p2 q2 p3 q3) (s : Same H H') : Pt K H' t p1 q1 p2 q2 p3 q3 := by
  obtain ⟨a, b, c, h, h1, h2, h3⟩ := p.ex
  exact ⟨⟨a, b, c, same_tup s h, same_tup s h1, same_tup s h2, same_tup s h3⟩, p.b1, p.b2, p.b3⟩
/-- the product of a direction and a point, over one divisor -/
def rn (x y z p1 q1 p2 q2 p3 q3 : Int) : Int := x * p1 * q2 * q3 + y * p2 * q1 * q3 + z * p3 * q1 * q2
/-- a plane: its normal, its offset -/
structure Wl (K : PySem.W.Frag) (H : Hp) (w : Addr) (x y z p q : Int) : Prop where
  ex : ∃ u o : Addr, SqT K H w [.ref u, .ref o] ∧ SqT K H u (zs [x, y, z]) ∧ SqT K H o (zs [p, q])
theorem Wl.same {K : PySem.W.Frag} {H H' : Hp} {w : Addr} {x y z p q : Int} (h : Wl K H w x y z p q) (s : Same H H') : Wl K H' w x y z p q := by
  obtain ⟨u, o, h1, h2, h3⟩ := h.ex
  exact ⟨u, o, same_tup s h1, same_tup s h2, same_tup s h3⟩
/-- the side of a point: by its product brought to lowest terms -/
def sd (x y z p q p1 q1 p2 q2 p3 q3 : Int) : Int := sgn (rn x y z p1 q1 p2 q2 p3 q3 * q - p * (q1 * q2 * q3))
theorem sd_low {A B a b p q : Int} (f : Fr A B a b) (hB : 0 < B) (hq : 0 < q) : sgn ((a * q - p * b).fdiv (sg (a * q - p * b) (b * q))) = sgn (A * q - p * B) := by
  have b0 := f.q0
  rw [sgn_low (Int.mul_pos b0 hq)]
  have h1 : 0 < sg A B := sg_pos hB
  have e1 := f.hp
  have e2 := f.hq
  rw [← sgn_mul (a := a * q - p * b) h1]
  congr 1
  grind
theorem sd_low2 {A B a b p q : Int} (f : Fr A B a b) (hB : 0 < B) : sgn (a * q - p * b) = sgn (A * q - p * B) := by
  have h1 : 0 < sg A B := sg_pos hB
  have e1 := f.hp
  have e2 := f.hq
  rw [← sgn_mul (a := a * q - p * b) h1]
  congr 1
  grind
theorem rn_lt {x y z p1 q1 p2 q2 p3 q3 : Int} (bx : x.natAbs < 2 ^ 100) (bY : y.natAbs < 2 ^ 100) (bz : z.natAbs < 2 ^ 100) (h1 : p1.natAbs < 2 ^ 100 ∧ p2.natAbs < 2 ^ 100 ∧ p3.natAbs < 2 ^ 100) (h2 : q1.natAbs < 2 ^ 100 ∧ q2.natAbs < 2 ^ 100 ∧ q3.natAbs < 2 ^ 100) :
    (rn x y z p1 q1 p2 q2 p3 q3).natAbs < 2 ^ 402 ∧ (q1 * q2 * q3).natAbs < 2 ^ 402 := by
  obtain ⟨bp1, bp2, bp3⟩ := h1
  obtain ⟨bq1, bq2, bq3⟩ := h2
  have e1 := wide_lt (wide_lt (wide_lt bx bp1) bq2) bq3
  have e2 := wide_lt (wide_lt (wide_lt bY bp2) bq1) bq3
  have e3 := wide_lt (wide_lt (wide_lt bz bp3) bq1) bq2
  have d := wide_lt (wide_lt bq1 bq2) bq3
  have p : (2 : Nat) ^ 402 = 4 * 2 ^ (100 + 100 + 100 + 100) := by
    rw [show (402 : Nat) = 2 + (100 + 100 + 100 + 100) from rfl, Nat.pow_add]
  have pp2 : (2 : Nat) ^ (100 + 100 + 100) ≤ 2 ^ (100 + 100 + 100 + 100) := Nat.pow_le_pow_right (by decide) (by decide)
  have a1 := Int.natAbs_add_le (x * p1 * q2 * q3) (y * p2 * q1 * q3)
  have a2 := Int.natAbs_add_le (x * p1 * q2 * q3 + y * p2 * q1 * q3) (z * p3 * q1 * q2)
  unfold rn
  generalize (2 : Nat) ^ (100 + 100 + 100 + 100) = B at *
  omega
def dacc (x y z : Int) (r1 r2 r3 : Rat) : Nat → Rat
  | 0 => 0
  | i + 1 => dacc x y z r1 r2 r3 i + ((th x y z i : Int) : Rat) * th r1 r2 r3 i
def dot3 (x y z : Int) (r1 r2 r3 : Rat) : Rat := (x : Rat) * r1 + (y : Rat) * r2 + (z : Rat) * r3
theorem dacc_end (x y z : Int) (r1 r2 r3 : Rat) : dacc x y z r1 r2 r3 3 = dot3 x y z r1 r2 r3 := by
  simp only [dacc, th, dot3]
  rw [Rat.zero_add]
theorem dacc_bd {x y z : Int} {r1 r2 r3 : Rat} (x1 : Bz 20 x) (x2 : Bz 20 y) (x3 : Bz 20 z) (h1 : Bd 100 r1) (h2 : Bd 100 r2) (h3 : Bd 100 r3) : ∀ i, Bd (1 + 121 * i) (dacc x y z r1 r2 r3 i) := by
  intro i
  induction i with
  | zero => exact bd_zero
  | succ i ih =>
    have m := (bd_int (th_all (P := Bz 20) x1 x2 x3 i) (by decide)).mul (th_all (P := Bd 100) h1 h2 h3 i)
    exact (ih.add m).up (by omega)
theorem fx_int {K : PySem.W.Frag} {H : Hp} {t : Addr} {n : Int} (h : SqT K H t (zs [n, 1])) : Fx K H t (n : Rat) := h
/-- three fractions, as a tuple or a list -/
def P3 (K : PySem.W.Frag) (H : Hp) (t : Addr) (r1 r2 r3 : Rat) : Prop := ∃ p q r : Addr, (SqT K H t [.ref p, .ref q, .ref r] ∨ SqL K H t [.ref p, .ref q, .ref r]) ∧ Fx K H p r1 ∧ Fx K H q r2 ∧ Fx K H r r3
theorem P3.same {K : PySem.W.Frag} {H H' : Hp} {t : Addr} {r1 r2 r3 : Rat} (h : P3 K H t r1 r2 r3) (e : Same H H') : P3 K H' t r1 r2 r3 := by
  obtain ⟨p, q, r, h1, h2, h3, h4⟩ := h
  exact ⟨p, q, r, h1.imp (same_tup e) (fun h => e.seq h), h2.same e, h3.same e, h4.same e⟩
theorem bd_sum3 {x y z : Int} {r1 r2 r3 : Rat} {n m : Nat} (hn : 0 < n) (x1 : Bz n x) (x2 : Bz n y) (x3 : Bz n z) (h1 : Bd m r1) (h2 : Bd m r2) (h3 : Bd m r3) : Bd (3 * (n + m) + 2) (dot3 x y z r1 r2 r3) :=
  ((((bd_int x1 hn).mul h1).add ((bd_int x2 hn).mul h2)).add ((bd_int x3 hn).mul h3)).up (by omega)

theorem dot_div (x y z : Int) (r1 r2 r3 : Rat) : dot3 x y z r1 r2 r3 = Rat.divInt (rn x y z r1.num (r1.den : Int) r2.num (r2.den : Int) r3.num (r3.den : Int)) ((r1.den : Int) * (r2.den : Int) * (r3.den : Int)) := by
  have q : ∀ r : Rat, (r.num : Rat) / ((r.den : Int) : Rat) = r := fun r => by rw [← Rat.divInt_eq_div, Rat.num_divInt_den]
  have n : ∀ r : Rat, ((r.den : Int) : Rat) ≠ 0 := fun r z => den_ne r (Rat.intCast_inj.mp z)
  have h1 := q r1
  have h2 := q r2
  have h3 := q r3
  have d1 := n r1
  have d2 := n r2
  have d3 := n r3
  unfold dot3 rn
  rw [Rat.divInt_eq_div]
  simp only [Rat.intCast_add, Rat.intCast_mul]
  generalize (r1.num : Rat) = a1 at *
  generalize (r2.num : Rat) = a2 at *
  generalize (r3.num : Rat) = a3 at *
  generalize ((r1.den : Int) : Rat) = c1 at *
  generalize ((r2.den : Int) : Rat) = c2 at *
  generalize ((r3.den : Int) : Rat) = c3 at *
  subst h1 h2 h3
  grind
/-- the numbers of a plane -/
structure WI where
  x : Int
  y : Int
  z : Int
  r : Rat
def sdw (w : WI) (r1 r2 r3 : Rat) : Int := sd w.x w.y w.z w.r.num (w.r.den : Int) r1.num (r1.den : Int) r2.num (r2.den : Int) r3.num (r3.den : Int)
theorem sdw_dot (w : WI) (r1 r2 r3 : Rat) : sdw w r1 r2 r3 = sgn ((dot3 w.x w.y w.z r1 r2 r3).num * (w.r.den : Int) - w.r.num * ((dot3 w.x w.y w.z r1 r2 r3).den : Int)) := by
  have hd : (0 : Int) < (r1.den : Int) * (r2.den : Int) * (r3.den : Int) := Int.mul_pos (Int.mul_pos (den_pos r1) (den_pos r2)) (den_pos r3)
  obtain ⟨a, b, e, _, _, fr⟩ := rd2_le (n := rn w.x w.y w.z r1.num (r1.den : Int) r2.num (r2.den : Int) r3.num (r3.den : Int)) (d := (r1.den : Int) * (r2.den : Int) * (r3.den : Int)) (by omega)
  have e2 := rat_rd (n := rn w.x w.y w.z r1.num (r1.den : Int) r2.num (r2.den : Int) r3.num (r3.den : Int)) (d := (r1.den : Int) * (r2.den : Int) * (r3.den : Int)) (by omega)
  rw [← dot_div, e] at e2
  injection e2 with e3 e4
  injection e4 with e4
  rw [← e3, ← e4]
  unfold sdw sd
  exact (sd_low2 fr hd).symm
def WOk (K : PySem.W.Frag) (H : Hp) (t : Addr) (w : WI) : Prop := Wl K H t w.x w.y w.z w.r.num (w.r.den : Int)
def WBd (w : WI) : Prop := Bz 20 w.x ∧ Bz 20 w.y ∧ Bz 20 w.z ∧ Bd 20 w.r
def wr (ws : List (Addr × WI)) : List V := ws.map fun w => V.ref w.1
def WsX (K : PySem.W.Frag) (H : Hp) (ws : List (Addr × WI)) : Prop := ∀ w ∈ ws, WOk K H w.1 w.2
theorem WsX.same {K : PySem.W.Frag} {H H' : Hp} {ws : List (Addr × WI)} (h : WsX K H ws) (s : Same H H') : WsX K H' ws := fun w hw => Wl.same (h w hw) s
theorem wr_len (ws : List (Addr × WI)) : (wr ws).length = ws.length := List.length_map _
theorem wr_get {ws : List (Addr × WI)} {i : Nat} {v : V} (h : (wr ws)[i]? = some v) : ∃ w, v = .ref w.1 ∧ ws[i]? = some w := by
  rw [show wr ws = ws.map fun w => V.ref w.1 from rfl, List.getElem?_map] at h
  cases e : ws[i]? with
  | none =>
    rw [e] at h
    cases h
  | some w =>
    rw [e] at h
    exact ⟨w, (Option.some.inj h).symm, rfl⟩
theorem wr_at {ws : List (Addr × WI)} {i : Nat} {w : Addr × WI} (h : ws[i]? = some w) : (wr ws)[i]? = some (.ref w.1) := by
  rw [show wr ws = ws.map fun w => V.ref w.1 from rfl, List.getElem?_map, h]
  rfl
theorem Px.pt {K : PySem.W.Frag} {H : Hp} {t : Addr} {r1 r2 r3 : Rat} (h : Px K H t r1 r2 r3) (b1 : Bd 100 r1) (b2 : Bd 100 r2) (b3 : Bd 100 r3) : Pt K H t r1.num (r1.den : Int) r2.num (r2.den : Int) r3.num (r3.den : Int) :=
  ⟨h, ⟨b1.1, b2.1, b3.1⟩, ⟨b1.2, b2.2, b3.2⟩, ⟨den_pos r1, den_pos r2, den_pos r3⟩⟩
def tnI (s x : Int) : Int := if s < 0 then -x else x
def tnR (s : Int) (r : Rat) : Rat := if s < 0 then -r else r
def tnW (s : Int) (w : WI) : WI := ⟨tnI s w.x, tnI s w.y, tnI s w.z, tnR s w.r⟩
/-- whether two lists have at some place what is asked -/
def any2 (p : Rat → Int → Bool) (ms : List Rat) (sg : List Int) : Bool := (List.zipWith p ms sg).any id
def pN (m : Rat) (s : Int) : Bool := decide (s ≠ 0) && decide (sgn m.num < 0)
def pP (m : Rat) (s : Int) : Bool := decide (s ≠ 0) && decide (0 < sgn m.num)
/-- the sum of the parts, each times its multiplier -/
def tot (f : WI → Rat) (ws : List WI) (sg : List Int) (ms : List Rat) : Rat := sumR (List.zipWith (fun m q => m * q) ms (List.zipWith (fun w s => f (tnW s w)) ws sg))
def RP (ws : List WI) (sg : List Int) (ms : List Rat) : Bool :=
  decide (ms.length = ws.length) && (!any2 pN ms sg && (decide (tot (fun w => (w.x : Rat)) ws sg ms = 0) && (decide (tot (fun w => (w.y : Rat)) ws sg ms = 0) && (decide (tot (fun w => (w.z : Rat)) ws sg ms = 0) && (if any2 pP ms sg then decide (0 ≤ sgn (tot (fun w => w.r) ws sg ms).num) else decide (sgn (tot (fun w => w.r) ws sg ms).num ≠ 0))))))
def pdi (l : List Int) : PyData := .tuple (l.map PyData.int)
def pdil (l : List Int) : PyData := .list (l.map PyData.int)
theorem dpi_all {K : PySem.W.Frag} {H : Hp} : ∀ l : List Int, DpAll K H (zs l) (l.map PyData.int)
  | [] => .nil
  | x :: l => .cons (.int x) (dpi_all l)
theorem eqvi : ∀ l m : List Int, PyData.eqvAll (l.map PyData.int) (m.map PyData.int) = decide (l = m)
  | [], [] => rfl
  | [], _ :: _ => rfl
  | _ :: _, [] => rfl
  | x :: l, y :: m => by
    rw [List.map_cons, List.map_cons, PyData.eqvAll, eqvi l m, PyData.eqv]
    by_cases h1 : x = y
    · by_cases h2 : l = m
      · simp [h1, h2]
      · simp [h1, h2]
    · simp [h1]
theorem shi (l : List Int) : PyData.canLayAll0 (l.map PyData.int) = true ∧ PyData.depthAll (l.map PyData.int) = 0 := by
  induction l with
  | nil => decide
  | cons r rs ih =>
    rw [List.map_cons, PyData.canLayAll0, PyData.depthAll, ih.1, ih.2]
    exact ⟨rfl, rfl⟩
theorem shi_t (l : List Int) : SeqAt.shaped (pdi l) = true := by
  unfold SeqAt.shaped pdi
  rw [PyData.canLay0, PyData.depth, (shi l).1, (shi l).2]
  rfl
theorem shi_l (l : List Int) : SeqAt.shaped (pdil l) = true := by
  unfold SeqAt.shaped pdil
  rw [PyData.canLay0, PyData.depth, (shi l).1, (shi l).2]
  rfl

/-- a comprehension, perhaps with a condition, whose elements are Booleans -/
theorem lc_any {J : It} {n : Nat} {G : Hp → Prop} {Y : Nat → Hp → V → Hp → Prop} (w : Walk J n G Y) (L : List (Bool × Bool)) (hL : L.length = n) (hz : n ≤ 1000)
    {g : TG} {tt : TT} {te : TE} {vs : List Nat} {σ : L2.St} {H1 : Hp} {D : Addr} {Qd : Hp → Prop} (hD : H1 D = none) (hG : ∀ H, Same H1 H → G H)
    (hs : ∀ i c x H H' (kk : V → Hp → Prop) (kn : Hp → Prop), L[i]? = some c → Same H1 H → Y i H x H' → (c.1 = true → ∀ H4, Same H H4 → kk (.bl c.2) H4) → (c.1 = false → ∀ H4, Same H H4 → kn H4) → g x (wipe σ vs) H' fun σ2 H2 => wipe σ2 vs = wipe σ vs ∧ tt σ2 H2 fun b H3 => if b = true then te σ2 H3 kk else kn H3)
    (hd : ∀ H (bs : List Bool), Same H1 H → H D = some (.lst (bs.map V.bl)) → bs.any id = (L.map fun c => c.1 && c.2).any id → Qd H) :
    ∃ W : Nat → Nat → Hp → Prop, (∃ m, W 0 m (upd H1 D (.lst []))) ∧ ∀ i m H, W i m H →
      (J.stop i H ∧ Qd H) ∨ (J.go i H ∧ ∃ Nx : Hp → Prop, (∀ H', Nx H' → ∃ m', m' < m ∧ W (i + 1) m' H') ∧ ∀ x H', J.yld i H x H' → g x (wipe σ vs) H' fun σ2 H2 => wipe σ2 vs = wipe σ vs ∧ tt σ2 H2 fun b H3 =>
        if b = true then te σ2 H3 fun y H4 => ∃ acc, H4 D = some (.lst acc) ∧ acc.length < sizeLine ∧ Nx (upd H4 D (.lst (acc ++ [y]))) else Nx H3) := by
  subst hL
  refine lc_it w (fun i H => Same H1 H ∧ ∃ bs : List Bool, H D = some (.lst (bs.map V.bl)) ∧ bs.any id = ((L.map fun c => c.1 && c.2).take i).any id ∧ bs.length ≤ i) ⟨same_upd hD, [], upd_same, rfl, Nat.zero_le _⟩ (fun i H _ h => hG H h.1) ?_ ?_
  · rintro i x H H' hi ⟨s1, bs, e1, a1, l1⟩ y
    have hr : L[i]? = some L[i] := List.getElem?_eq_getElem hi
    have tk : ((L.map fun c => c.1 && c.2).take (i + 1)).any id = (((L.map fun c => c.1 && c.2).take i).any id || (L[i].1 && L[i].2)) := by
      rw [List.take_add_one, List.getElem?_map, hr, List.any_append]
      simp
    refine hs i L[i] x H H' _ _ hr s1 y (fun hc H4 s4 => ?_) (fun hc H4 s4 => ?_)
    · refine ⟨bs.map V.bl, s4 _ _ e1, ?_, fun b o e => ?_, bs ++ [L[i].2], ?_, ?_, ?_⟩
      · rw [List.length_map]
        exact small1000 (by omega)
      · rw [upd_ne (ne_of_none e hD)]
        exact s4 _ _ (s1 _ _ e)
      · rw [upd_same, List.map_append]
        rfl
      · rw [tk, List.any_append, a1, hc]
        simp
      · rw [List.length_append]
        exact Nat.succ_le_succ l1
    · refine ⟨s1.trans s4, bs, s4 _ _ e1, ?_, Nat.le_succ_of_le l1⟩
      rw [tk, a1, hc]
      simp
  · rintro H ⟨s1, bs, e1, a1, _⟩
    rw [List.take_of_length_le (by rw [List.length_map]; exact Nat.le_refl _)] at a1
    exact hd H bs s1 e1 a1

/-- a comprehension whose elements are things of a kind: those of L -/
theorem lc_rel {α : Type} (Rel : Hp → Addr → α → Prop) (up : ∀ {H H' t x}, Same H H' → Rel H t x → Rel H' t x) (over : ∀ {H H' t D x ys}, Rel H t x → H D = some (.lst ys) → (∀ b o, b ≠ D → H b = some o → H' b = some o) → Rel H' t x)
    {J : It} {n : Nat} {G : Hp → Prop} {Y : Nat → Hp → V → Hp → Prop} (w : Walk J n G Y) (L : List α) (hL : L.length = n) (hz : n ≤ 1000)
    {g : TG} {te : TE} {vs : List Nat} {σ : L2.St} {H1 : Hp} {D : Addr} {Qd : Hp → Prop} (hD : H1 D = none) (hG : ∀ H, Same H1 H → G H)
    (hs : ∀ i r x H H' (k : V → Hp → Prop), L[i]? = some r → Same H1 H → Y i H x H' → (∀ t H4, Same H H4 → Rel H4 t r → k (.ref t) H4) → g x (wipe σ vs) H' fun σ2 H2 => wipe σ2 vs = wipe σ vs ∧ te σ2 H2 k)
    (hd : ∀ H (ws : List (Addr × α)), Same H1 H → H D = some (.lst (ws.map fun w => .ref w.1)) → (∀ w ∈ ws, Rel H w.1 w.2) → ws.map (·.2) = L → Qd H) :
    ∃ W : Nat → Nat → Hp → Prop, (∃ m, W 0 m (upd H1 D (.lst []))) ∧ ∀ i m H, W i m H →
      (J.stop i H ∧ Qd H) ∨ (J.go i H ∧ ∃ Nx : Hp → Prop, (∀ H', Nx H' → ∃ m', m' < m ∧ W (i + 1) m' H') ∧ ∀ x H', J.yld i H x H' → g x (wipe σ vs) H' fun σ2 H2 => wipe σ2 vs = wipe σ vs ∧ tYes σ2 H2 fun b H3 =>
        if b = true then te σ2 H3 fun y H4 => ∃ acc, H4 D = some (.lst acc) ∧ acc.length < sizeLine ∧ Nx (upd H4 D (.lst (acc ++ [y]))) else Nx H3) := by
  subst hL
  refine lc_it w (fun i H => Same H1 H ∧ ∃ ws : List (Addr × α), H D = some (.lst (ws.map fun w => .ref w.1)) ∧ (∀ w ∈ ws, Rel H w.1 w.2) ∧ ws.map (·.2) = L.take i) ⟨same_upd hD, [], upd_same, (fun _ z => nomatch z), rfl⟩ (fun i H _ h => hG H h.1) ?_ ?_
  · rintro i x H H' hi ⟨s1, ws, e1, r1, m1⟩ y
    have hr : L[i]? = some L[i] := List.getElem?_eq_getElem hi
    have q := hs i L[i] x H H' (fun y H4 => ∃ acc, H4 D = some (.lst acc) ∧ acc.length < sizeLine ∧ (fun H => Same H1 H ∧ ∃ ws : List (Addr × α), H D = some (.lst (ws.map fun w => .ref w.1)) ∧ (∀ w ∈ ws, Rel H w.1 w.2) ∧ ws.map (·.2) = L.take (i + 1)) (upd H4 D (.lst (acc ++ [y])))) hr s1 y (fun t H4 s4 f4 => ?_)
    · refine Eq.mp (congrArg (g x (wipe σ vs) H') ?_) q
      funext σ2 H2
      simp [tYes]
    · have e4 := s4 _ _ e1
      have hlen : ws.length = (L.take i).length := by rw [← m1, List.length_map]
      rw [List.length_take] at hlen
      refine ⟨_, e4, ?_, fun b o e => ?_, ws ++ [(t, L[i])], ?_, fun v hv => ?_, ?_⟩
      · rw [List.length_map]
        exact small1000 (by omega)
      · rw [upd_ne (ne_of_none e hD)]
        exact s4 _ _ (s1 _ _ e)
      · rw [upd_same, List.map_append]
        rfl
      · rcases List.mem_append.mp hv with h | h
        · exact over (up s4 (r1 v h)) e4 fun b o hb e => by rw [upd_ne hb]; exact e
        · rw [List.mem_singleton.mp h]
          exact over f4 e4 fun b o hb e => by rw [upd_ne hb]; exact e
      · rw [List.map_append, m1, List.take_add_one, hr]
        rfl
  · rintro H ⟨s1, ws, e1, r1, m1⟩
    rw [List.take_length] at m1
    exact hd H ws s1 e1 r1 m1
theorem WOk.up {K : PySem.W.Frag} {H H' : Hp} {t : Addr} {w : WI} (s : Same H H') (h : WOk K H t w) : WOk K H' t w := Wl.same h s
theorem WOk.over {K : PySem.W.Frag} {H H' : Hp} {t D : Addr} {w : WI} {ys : List V} (h : WOk K H t w) (hl : H D = some (.lst ys)) (s : ∀ b o, b ≠ D → H b = some o → H' b = some o) : WOk K H' t w := by
  obtain ⟨u, o, h1, h2, h3⟩ := h
  exact ⟨u, o, over_tup h1 hl s, over_tup h2 hl s, over_tup h3 hl s⟩
theorem zw3 {ms : List (Addr × Rat)} {sg : List Int} {i : Nat} {β : Type} {F : Rat → Int → β} {c : β} (h : (List.zipWith F (ms.map (·.2)) sg)[i]? = some c) : ∃ (m : Addr × Rat) (s : Int), ms[i]? = some m ∧ sg[i]? = some s ∧ F m.2 s = c := by
  rw [List.getElem?_zipWith, List.getElem?_map] at h
  cases e1 : ms[i]? with
  | none =>
    rw [e1] at h
    cases h
  | some m =>
    cases e2 : sg[i]? with
    | none =>
      rw [e1, e2] at h
      cases h
    | some s =>
      rw [e1, e2] at h
      exact ⟨m, s, rfl, rfl, Option.some.inj h⟩
theorem zwG {α β γ : Type} {F : α → β → γ} {l : List α} {m : List β} {i : Nat} {c : γ} (h : (List.zipWith F l m)[i]? = some c) : ∃ a b, l[i]? = some a ∧ m[i]? = some b ∧ F a b = c := by
  rw [List.getElem?_zipWith] at h
  cases e1 : l[i]? with
  | none =>
    rw [e1] at h
    cases h
  | some a =>
    cases e2 : m[i]? with
    | none =>
      rw [e1, e2] at h
      cases h
    | some b =>
      rw [e1, e2] at h
      exact ⟨a, b, rfl, rfl, Option.some.inj h⟩
theorem any2_eq (f v : Rat → Int → Bool) (ms : List Rat) (sg : List Int) : ((List.zipWith (fun m s => (f m s, v m s)) ms sg).map fun c => c.1 && c.2) = List.zipWith (fun m s => f m s && v m s) ms sg := by
  rw [List.map_zipWith]
theorem atG {α : Type} {ws : List (Addr × α)} {i : Nat} {w : Addr × α} (h : ws[i]? = some w) : (ws.map fun w => V.ref w.1)[i]? = some (.ref w.1) := by
  rw [List.getElem?_map, h]
  rfl
theorem getG {α : Type} {ws : List (Addr × α)} {i : Nat} {v : V} (h : (ws.map fun w => V.ref w.1)[i]? = some v) : ∃ w, v = .ref w.1 ∧ ws[i]? = some w := by
  rw [List.getElem?_map] at h
  cases e : ws[i]? with
  | none =>
    rw [e] at h
    cases h
  | some w =>
    rw [e] at h
    exact ⟨w, (Option.some.inj h).symm, rfl⟩
/-- the part of a normal -/
def axf (i : Nat) (w : WI) : Rat := ((th w.x w.y w.z i : Int) : Rat)
theorem tn_bd {s : Int} {w : WI} (h : WBd w) : WBd (tnW s w) := by
  obtain ⟨h1, h2, h3, h4⟩ := h
  unfold tnW tnI tnR
  by_cases g : s < 0
  · rw [if_pos g, if_pos g, if_pos g, if_pos g]
    exact ⟨h1.neg, h2.neg, h3.neg, h4.neg⟩
  · rw [if_neg g, if_neg g, if_neg g, if_neg g]
    exact ⟨h1, h2, h3, h4⟩

theorem eqv_pdi (l m : List Int) : PyData.eqv (pdi l) (pdi m) = decide (l = m) := by
  unfold pdi
  rw [PyData.eqv, eqvi]
theorem eqv_pdil (l m : List Int) : PyData.eqv (pdil l) (pdil m) = decide (l = m) := by
  unfold pdil
  rw [PyData.eqv, eqvi]
theorem len4 {rs : List Int} (h : rs.length = 4) : ∃ a b c d, rs = [a, b, c, d] := by
  match rs, h with
  | [a, b, c, d], _ => exact ⟨a, b, c, d, rfl⟩
theorem wr_of {K : PySem.W.Frag} {H : Hp} : ∀ {us : List V}, (∀ (i : Nat) (v : V), us[i]? = some v → ∃ (t : Addr) (w : WI), v = .ref t ∧ WOk K H t w ∧ WBd w) → ∃ ws : List (Addr × WI), us = wr ws ∧ WsX K H ws ∧ ∀ w ∈ ws, WBd w.2
  | [], _ => ⟨[], rfl, (fun _ h => nomatch h), fun _ h => nomatch h⟩
  | u :: us, h => by
    obtain ⟨t, w, rfl, h1, h2⟩ := h 0 u rfl
    obtain ⟨ws, rfl, h3, h4⟩ := wr_of (us := us) fun i v hv => h (i + 1) v hv
    refine ⟨(t, w) :: ws, rfl, fun x hx => ?_, fun x hx => ?_⟩
    · rcases List.mem_cons.mp hx with rfl | hx
      · exact h1
      · exact h3 x hx
    · rcases List.mem_cons.mp hx with rfl | hx
      · exact h2
      · exact h4 x hx

theorem via {P C : Prop} (h : P → C) (p : P) : C := h p
def f4 : Nat → WI → Rat
  | 0, w => (w.x : Rat)
  | 1, w => (w.y : Rat)
  | 2, w => (w.z : Rat)
  | _, w => w.r
def Lc (c : Nat) (ws : List WI) (sg : List Int) (ms : List Rat) : List Rat := List.zipWith (fun m q => m * q) ms (List.zipWith (fun w s => f4 c (tnW s w)) ws sg)
def pt (c : Nat) (ws : List WI) (sg : List Int) (ms : List Rat) (i : Nat) : Rat := sumR ((Lc c ws sg ms).take i)
theorem tn_mul (s : Int) (m : Rat) (c : Nat) (w : WI) : tnR s m * f4 c w = m * f4 c (tnW s w) := by
  have hI : ∀ z : Int, ((tnI s z : Int) : Rat) = tnR s (z : Rat) := fun z => by
    unfold tnI tnR
    by_cases g : s < 0
    · rw [if_pos g, if_pos g, Rat.intCast_neg]
    · rw [if_neg g, if_neg g]
  have h : f4 c (tnW s w) = tnR s (f4 c w) := by
    unfold f4 tnW
    split
    · exact hI _
    · exact hI _
    · exact hI _
    · rfl
  rw [h]
  unfold tnR
  by_cases g : s < 0
  · rw [if_pos g, if_pos g]
    grind
  · rw [if_neg g, if_neg g]
theorem Lc_at {c i : Nat} {ws : List WI} {sg : List Int} {ms : List Rat} {w : WI} {s : Int} {m : Rat} (h1 : ws[i]? = some w) (h2 : sg[i]? = some s) (h3 : ms[i]? = some m) : (Lc c ws sg ms)[i]? = some (tnR s m * f4 c w) := by
  unfold Lc
  rw [List.getElem?_zipWith, List.getElem?_zipWith, h1, h2, h3, tn_mul]
theorem f4_bd {c : Nat} {w : WI} (h : WBd w) : Bd 20 (f4 c w) := by
  obtain ⟨h1, h2, h3, h4⟩ := h
  unfold f4
  split
  · exact bd_int h1 (by decide)
  · exact bd_int h2 (by decide)
  · exact bd_int h3 (by decide)
  · exact h4
theorem Lc_bd {c : Nat} {ws : List WI} {sg : List Int} {ms : List Rat} (h1 : ∀ w ∈ ws, WBd w) (h2 : ∀ m ∈ ms, Bd 10 m) : ∀ r ∈ Lc c ws sg ms, Bd 30 r := by
  intro r hr
  obtain ⟨i, hi⟩ := List.mem_iff_getElem?.mp hr
  obtain ⟨m, q, a1, a2, rfl⟩ := zwG hi
  obtain ⟨w, s, a3, a4, rfl⟩ := zwG a2
  exact (h2 m (List.mem_of_getElem? a1)).mul (f4_bd (tn_bd (h1 w (List.mem_of_getElem? a3))))
theorem tnR_bd {s : Int} {m : Rat} {n : Nat} (h : Bd n m) : Bd n (tnR s m) := by
  unfold tnR
  split
  · exact h.neg
  · exact h
theorem any_take {L : List Bool} {i : Nat} {b : Bool} (h : L[i]? = some b) : (L.take (i + 1)).any id = ((L.take i).any id || b) := by
  rw [List.take_add_one, h, List.any_append]
  simp
theorem pt_all {c : Nat} {ws : List WI} {sg : List Int} {ms : List Rat} {n : Nat} (h : (Lc c ws sg ms).length ≤ n) : pt c ws sg ms n = tot (f4 c) ws sg ms := by
  unfold pt
  rw [List.take_of_length_le h]
  rfl
theorem fx_neg {K : PySem.W.Frag} {H : Hp} {t : Addr} {r : Rat} (h : SqT K H t (zs [-r.num, (r.den : Int)])) : Fx K H t (-r) := by
  unfold Fx
  rw [Rat.neg_num, Rat.neg_den]
  exact h
theorem sgn_lt (z : Int) : decide (sgn z < 0) = decide (z < 0) := decide_eq_decide.mpr (by
  unfold sgn
  split
  · omega
  · split <;> omega)
theorem sgn_gt (z : Int) : decide (0 < sgn z) = decide (0 < z) := decide_eq_decide.mpr (by
  unfold sgn
  split
  · omega
  · split <;> omega)
theorem sgn_ge (z : Int) : decide (0 ≤ sgn z) = decide (0 ≤ z) := decide_eq_decide.mpr (by
  unfold sgn
  split
  · omega
  · split <;> omega)
theorem sgn_nz (z : Int) : decide (sgn z ≠ 0) = decide (z ≠ 0) := decide_eq_decide.mpr (by
  unfold sgn
  split
  · omega
  · split <;> omega)

theorem rp_pair (f : Rat) : RP [⟨1, 0, -2, 3⟩, ⟨1, 0, -2, f⟩] [1, -1] [1, 1] = decide (f.num ≤ 3 * (f.den : Int)) := by
  have t0 : tot (fun w => (w.x : Rat)) [⟨1, 0, -2, 3⟩, ⟨1, 0, -2, f⟩] [1, -1] [1, 1] = 0 := by
    show ((0 : Rat) + 1 * ((1 : Int) : Rat)) + 1 * ((-1 : Int) : Rat) = 0
    decide +kernel
  have t1 : tot (fun w => (w.y : Rat)) [⟨1, 0, -2, 3⟩, ⟨1, 0, -2, f⟩] [1, -1] [1, 1] = 0 := by
    show ((0 : Rat) + 1 * ((0 : Int) : Rat)) + 1 * ((0 : Int) : Rat) = 0
    decide +kernel
  have t2 : tot (fun w => (w.z : Rat)) [⟨1, 0, -2, 3⟩, ⟨1, 0, -2, f⟩] [1, -1] [1, 1] = 0 := by
    show ((0 : Rat) + 1 * ((-2 : Int) : Rat)) + 1 * ((2 : Int) : Rat) = 0
    decide +kernel
  have t3 : tot (fun w => w.r) [⟨1, 0, -2, 3⟩, ⟨1, 0, -2, f⟩] [1, -1] [1, 1] = 3 - f := by
    show ((0 : Rat) + 1 * 3) + 1 * (-f) = 3 - f
    grind
  have a1 : any2 pN [1, 1] [1, -1] = false := by decide
  have a2 : any2 pP [1, 1] [1, -1] = true := by decide
  unfold RP
  rw [t0, t1, t2, t3, a1, a2, sgn_ge]
  show decide (0 ≤ (3 - f).num) = decide (f.num ≤ 3 * (f.den : Int))
  refine decide_eq_decide.mpr ?_
  rw [Rat.num_nonneg]
  constructor
  · intro h
    have h2 : f ≤ 3 := by grind
    rw [Rat.le_iff] at h2
    have h3 : f.num * ((1 : Nat) : Int) ≤ 3 * (f.den : Int) := h2
    omega
  · intro h
    have h2 : f ≤ 3 := by
      rw [Rat.le_iff]
      show f.num * ((1 : Nat) : Int) ≤ 3 * (f.den : Int)
      omega
    grind

section
/-- rows of numbers as functions -/
abbrev VF := Nat → Rat
/-- what rows span -/
inductive Spn (G : VF → Prop) : VF → Prop
  | zero : Spn G (fun _ => 0)
  | step {v g : VF} (c : Rat) : Spn G v → G g → Spn G (fun k => v k + c * g k)
theorem Spn.cong {G : VF → Prop} {v w : VF} (h : Spn G v) (e : ∀ k, v k = w k) : Spn G w := by
  have : v = w := funext e
  rw [← this]
  exact h
theorem Spn.gen {G : VF → Prop} {g : VF} (h : G g) : Spn G g := (Spn.step 1 Spn.zero h).cong fun k => by grind
theorem Spn.scale {G : VF → Prop} {v : VF} (a : Rat) (h : Spn G v) : Spn G fun k => a * v k := by
  induction h with
  | zero => exact Spn.zero.cong fun k => by grind
  | step c _ hg ih => exact (Spn.step (a * c) ih hg).cong fun k => by grind
theorem Spn.addv {G : VF → Prop} {v w : VF} (hv : Spn G v) (hw : Spn G w) : Spn G fun k => v k + w k := by
  induction hw with
  | zero => exact hv.cong fun k => by grind
  | step c _ hg ih => exact (Spn.step c ih hg).cong fun k => by grind
theorem Spn.mono {G G' : VF → Prop} (h : ∀ g, G g → Spn G' g) {v : VF} (hv : Spn G v) : Spn G' v := by
  induction hv with
  | zero => exact Spn.zero
  | step c _ hg ih => exact ih.addv ((h _ hg).scale c)
theorem Spn.map {G : VF → Prop} {T : VF → VF} (h0 : ∀ k, T (fun _ => 0) k = 0) (hT : ∀ (v g : VF) (c : Rat) k, T (fun k => v k + c * g k) k = T v k + c * T g k) {v : VF} (hv : Spn G v) : Spn (fun h => ∃ g, G g ∧ T g = h) (T v) := by
  induction hv with
  | zero => exact Spn.zero.cong fun k => (h0 k).symm
  | step c _ hg ih => exact (Spn.step c ih ⟨_, hg, rfl⟩).cong fun k => (hT _ _ _ k).symm
theorem Spn.vanish {G : VF → Prop} {v : VF} (hv : Spn G v) {k : Nat} (h : ∀ g, G g → g k = 0) : v k = 0 := by
  induction hv with
  | zero => rfl
  | step c _ hg ih =>
    show _ + c * _ = 0
    rw [ih, h _ hg]
    grind
/-- the first place that is not 0 -/
def Ld (v : VF) (c : Nat) : Prop := v c ≠ 0 ∧ ∀ k < c, v k = 0
theorem Ld.uniq {v : VF} {c d : Nat} (h : Ld v c) (h2 : Ld v d) : c = d := by
  rcases Nat.lt_trichotomy c d with g | g | g
  · exact absurd (h2.2 c g) h.1
  · exact g
  · exact absurd (h.2 d g) h2.1
def Ec (E : List (Nat × VF)) : Prop := E.Pairwise (fun p q => p.1 < q.1) ∧ ∀ p ∈ E, Ld p.2 p.1
abbrev inR (E : List (Nat × VF)) : VF → Prop := fun g => ∃ p ∈ E, p.2 = g
theorem spn_cons {p : Nat × VF} {E : List (Nat × VF)} {v : VF} (h : Spn (inR (p :: E)) v) : ∃ (a : Rat) (w : VF), Spn (inR E) w ∧ ∀ k, v k = a * p.2 k + w k := by
  induction h with
  | zero => exact ⟨0, _, Spn.zero, fun k => by grind⟩
  | step c _ hg ih =>
    obtain ⟨a, w, h1, h2⟩ := ih
    obtain ⟨q, hq, rfl⟩ := hg
    rcases List.mem_cons.mp hq with rfl | hq
    · exact ⟨a + c, w, h1, fun k => by dsimp only; rw [h2 k]; grind⟩
    · exact ⟨a, _, Spn.step c h1 ⟨q, hq, rfl⟩, fun k => by dsimp only; rw [h2 k]; grind⟩
theorem Ec.lead : ∀ {E : List (Nat × VF)}, Ec E → ∀ {v : VF}, Spn (inR E) v → (∀ k, v k = 0) ∨ ∃ p ∈ E, Ld v p.1
  | [], _, v, hv => .inl fun k => hv.vanish fun g hg => by
    obtain ⟨p, hp, _⟩ := hg
    cases hp
  | p :: E, h, v, hv => by
    obtain ⟨a, w, h1, h2⟩ := spn_cons hv
    have hp := List.pairwise_cons.mp h.1
    have hl := h.2 p List.mem_cons_self
    have hw : ∀ k ≤ p.1, w k = 0 := fun k hk => h1.vanish fun g hg => by
      obtain ⟨q, hq, rfl⟩ := hg
      have := hp.1 q hq
      exact (h.2 q (List.mem_cons_of_mem _ hq)).2 k (by omega)
    by_cases ha : a = 0
    · have e : Spn (inR E) v := h1.cong fun k => by rw [h2 k, ha]; grind
      rcases Ec.lead ⟨hp.2, fun q hq => h.2 q (List.mem_cons_of_mem _ hq)⟩ e with g | ⟨q, hq, hg⟩
      · exact .inl g
      · exact .inr ⟨q, List.mem_cons_of_mem _ hq, hg⟩
    · refine .inr ⟨p, List.mem_cons_self, ?_, fun k hk => ?_⟩
      · rw [h2, hw _ (Nat.le_refl _), Rat.add_zero]
        intro z
        rcases Rat.mul_eq_zero.mp z with z | z
        · exact ha z
        · exact hl.1 z
      · rw [h2, hw k (by omega), hl.2 k hk]
        grind
theorem nodup_le : ∀ {A B : List Nat}, A.Nodup → (∀ a ∈ A, a ∈ B) → A.length ≤ B.length
  | [], _, _, _ => Nat.zero_le _
  | a :: A, B, hA, h => by
    have h1 := List.nodup_cons.mp hA
    have hB := h a List.mem_cons_self
    have := nodup_le (A := A) (B := B.erase a) h1.2 fun x hx => by
      have hne : x ≠ a := fun e => by
        rw [e] at hx
        exact h1.1 hx
      exact (List.mem_erase_of_ne hne).mpr (h x (List.mem_cons_of_mem _ hx))
    rw [List.length_erase_of_mem hB] at this
    have hpos : 0 < B.length := List.length_pos_of_mem hB
    rw [List.length_cons]
    omega
theorem nodup_eq {A B : List Nat} (hA : A.Nodup) (h : ∀ a ∈ A, a ∈ B) (hl : A.length = B.length) : ∀ b ∈ B, b ∈ A := by
  intro b hb
  refine Classical.byContradiction fun hn => ?_
  have := nodup_le (A := A) (B := B.erase b) hA fun x hx => by
    have hne : x ≠ b := fun e => by
      rw [e] at hx
      exact hn hx
    exact (List.mem_erase_of_ne hne).mpr (h x hx)
  rw [List.length_erase_of_mem hb] at this
  have hpos : 0 < B.length := List.length_pos_of_mem hb
  omega
/-- the rank of what is spanned: the number of its leads -/
def RankIs (S : VF → Prop) (r : Nat) : Prop := ∃ E : List (Nat × VF), Ec E ∧ (∀ p ∈ E, S p.2) ∧ (∀ v c, S v → Ld v c → ∃ p ∈ E, p.1 = c) ∧ E.length = r
theorem Ec.nodup {E : List (Nat × VF)} (h : Ec E) : (E.map (·.1)).Nodup := by
  rw [List.nodup_iff_pairwise_ne, List.pairwise_map]
  exact h.1.imp fun h => Nat.ne_of_lt h
theorem rank_sub {S T : VF → Prop} {r s : Nat} (hS : RankIs S r) (hT : RankIs T s) (h : ∀ v, S v → T v) : ∃ A B : List Nat, A.Nodup ∧ B.Nodup ∧ A.length = r ∧ B.length = s ∧ (∀ a ∈ A, a ∈ B) ∧ (∀ v c, S v → Ld v c → c ∈ A) ∧ (∀ v c, T v → Ld v c → c ∈ B) ∧ (∀ a ∈ A, ∃ v, S v ∧ Ld v a) ∧ ∀ b ∈ B, ∃ v, T v ∧ Ld v b := by
  obtain ⟨E, e1, e2, e3, e4⟩ := hS
  obtain ⟨F, f1, f2, f3, f4⟩ := hT
  refine ⟨E.map (·.1), F.map (·.1), e1.nodup, f1.nodup, by rw [List.length_map, e4], by rw [List.length_map, f4], ?_, ?_, ?_, ?_, ?_⟩
  · intro a ha
    obtain ⟨p, hp, rfl⟩ := List.mem_map.mp ha
    obtain ⟨q, hq, e⟩ := f3 _ _ (h _ (e2 p hp)) (e1.2 p hp)
    exact List.mem_map.mpr ⟨q, hq, e⟩
  · intro v c hv hc
    obtain ⟨q, hq, e⟩ := e3 v c hv hc
    exact List.mem_map.mpr ⟨q, hq, e⟩
  · intro v c hv hc
    obtain ⟨q, hq, e⟩ := f3 v c hv hc
    exact List.mem_map.mpr ⟨q, hq, e⟩
  · intro a ha
    obtain ⟨p, hp, rfl⟩ := List.mem_map.mp ha
    exact ⟨_, e2 p hp, e1.2 p hp⟩
  · intro a ha
    obtain ⟨p, hp, rfl⟩ := List.mem_map.mp ha
    exact ⟨_, f2 p hp, f1.2 p hp⟩
theorem rank_le {S T : VF → Prop} {r s : Nat} (hS : RankIs S r) (hT : RankIs T s) (h : ∀ v, S v → T v) : r ≤ s := by
  obtain ⟨A, B, a1, _, rfl, rfl, h5, _⟩ := rank_sub hS hT h
  exact nodup_le a1 h5
theorem rank_eq {S T : VF → Prop} {r s : Nat} (hS : RankIs S r) (hT : RankIs T s) (h : ∀ v, S v → T v) (h2 : ∀ v, T v → S v) : r = s := Nat.le_antisymm (rank_le hS hT h) (rank_le hT hS h2)
/-- of the same rank, one in the other: the same -/
theorem rank_in {S T : VF → Prop} {r n : Nat} (cS : ∀ v w a, S v → S w → S fun k => v k + a * w k) (zS : S fun _ => 0) (cT : ∀ v w a, T v → T w → T fun k => v k + a * w k) (fT : ∀ v, T v → ∀ k ≥ n, v k = 0)
    (hS : RankIs S r) (hT : RankIs T r) (h : ∀ v, S v → T v) : ∀ v, T v → S v := by
  obtain ⟨A, B, a1, b1, la, lb, h5, h6, h7, h8, h9⟩ := rank_sub hS hT h
  have hBA := nodup_eq a1 h5 (by omega)
  have key : ∀ m v, T v → (∀ k < n - m, v k = 0) → S v := by
    intro m
    induction m with
    | zero =>
      intro v hv hz
      have : v = fun _ => 0 := funext fun k => by
        rcases Nat.lt_or_ge k n with g | g
        · exact hz k (by omega)
        · exact fT v hv k g
      rw [this]
      exact zS
    | succ m ih =>
      intro v hv hz
      by_cases hc : v (n - (m + 1)) = 0
      · refine ih v hv fun k hk => ?_
        rcases Nat.lt_or_ge k (n - (m + 1)) with g | g
        · exact hz k g
        · have : k = n - (m + 1) := by omega
          rw [this]
          exact hc
      · have hl : Ld v (n - (m + 1)) := ⟨hc, hz⟩
        obtain ⟨w, hw, hlw⟩ := h8 _ (hBA _ (h7 v _ hv hl))
        have h10 := ih (fun k => v k + -(v (n - (m + 1)) / w (n - (m + 1))) * w k) (cT _ _ _ hv (h w hw)) fun k hk => by
          rcases Nat.lt_or_ge k (n - (m + 1)) with g | g
          · rw [hz k g, hlw.2 k g]
            grind
          · have e : k = n - (m + 1) := by omega
            subst e
            have := hlw.1
            grind
        have h11 := cS _ _ (v (n - (m + 1)) / w (n - (m + 1))) h10 hw
        have : v = fun k => (v k + -(v (n - (m + 1)) / w (n - (m + 1))) * w k) + v (n - (m + 1)) / w (n - (m + 1)) * w k := funext fun k => by grind
        rw [this]
        exact h11
  intro v hv
  exact key n v hv fun k hk => by omega
theorem Spn.closed {G : VF → Prop} (v w : VF) (a : Rat) (hv : Spn G v) (hw : Spn G w) : Spn G fun k => v k + a * w k := hv.addv (hw.scale a)
/-- a row's first M numbers, as a function -/
def cf (M : Nat) (r : List Rat) : VF := fun k => if k < M then r.getD k 0 else 0
abbrev inL (M : Nat) (R : List (List Rat)) : VF → Prop := fun g => ∃ r ∈ R, cf M r = g
theorem cf_out {M : Nat} {R : List (List Rat)} {v : VF} (h : Spn (inL M R) v) : ∀ k ≥ M, v k = 0 := fun k hk => h.vanish fun g hg => by
  obtain ⟨r, _, rfl⟩ := hg
  exact if_neg (by omega)
/-- another row is in what rows span if and only if the rank stays -/
theorem rank_more {M : Nat} {R : List (List Rat)} {u : List Rat} {r s : Nat} (h1 : RankIs (Spn (inL M R)) r) (h2 : RankIs (Spn (inL M (R ++ [u]))) s) : s = r ↔ Spn (inL M R) (cf M u) := by
  have sub : ∀ v, Spn (inL M R) v → Spn (inL M (R ++ [u])) v := fun v hv => hv.mono fun g hg => by
    obtain ⟨x, hx, e⟩ := hg
    exact Spn.gen ⟨x, List.mem_append_left _ hx, e⟩
  constructor
  · intro e
    subst e
    exact rank_in (fun v w a => Spn.closed v w a) Spn.zero (fun v w a => Spn.closed v w a) (fun v hv => cf_out hv) h1 h2 sub _ (Spn.gen ⟨u, List.mem_append_right _ List.mem_cons_self, rfl⟩)
  · intro hu
    refine rank_eq h2 h1 (fun v hv => hv.mono fun g hg => ?_) sub
    obtain ⟨x, hx, rfl⟩ := hg
    rcases List.mem_append.mp hx with hx | hx
    · exact Spn.gen ⟨x, hx, rfl⟩
    · rw [List.mem_singleton.mp hx]
      exact hu
end

section
/-- one row cleared by another, at a place -/
def clr (l : Nat) (base row : List Rat) : List Rat := if row.getD l 0 = 0 then row else List.zipWith (fun x y => x - row.getD l 0 * y) row base
theorem clr_len {l : Nat} {base row : List Rat} (h : row.length = base.length) : (clr l base row).length = row.length := by
  unfold clr
  split
  · rfl
  · rw [List.length_zipWith]
    omega
theorem getD_zip {f : Rat → Rat → Rat} (h0 : f 0 0 = 0) : ∀ {a b : List Rat} (k : Nat), a.length = b.length → (List.zipWith f a b).getD k 0 = f (a.getD k 0) (b.getD k 0)
  | [], [], k, _ => by simp [h0]
  | x :: a, y :: b, 0, _ => rfl
  | x :: a, y :: b, k + 1, h => by
    rw [List.length_cons, List.length_cons] at h
    exact getD_zip h0 (a := a) (b := b) k (by omega)
theorem clr_at {l : Nat} {base row : List Rat} (h : row.length = base.length) (k : Nat) : (clr l base row).getD k 0 = row.getD k 0 - row.getD l 0 * base.getD k 0 := by
  unfold clr
  by_cases h0 : row.getD l 0 = 0
  · rw [if_pos h0, h0]
    grind
  · rw [if_neg h0, getD_zip (f := fun x y => x - row.getD l 0 * y) (by grind) k h]
theorem cf_clr {M l : Nat} {base row : List Rat} (h : row.length = base.length) (k : Nat) : cf M (clr l base row) k = cf M row k + -row.getD l 0 * cf M base k := by
  unfold cf
  by_cases hk : k < M
  · rw [if_pos hk, if_pos hk, if_pos hk, clr_at h]
    grind
  · rw [if_neg hk, if_neg hk, if_neg hk]
    grind
/-- a row cleared by all kept ones, one behind the other -/
def red (kept : List (Nat × List Rat)) (row : List Rat) : List Rat := kept.foldl (fun row p => clr p.1 p.2 row) row
/-- what is kept: leads that differ, below m; 1 at a row's own lead, 0 at the others' -/
structure KI (m W : Nat) (kept : List (Nat × List Rat)) : Prop where
  lt : ∀ p ∈ kept, p.1 < m
  len : ∀ p ∈ kept, p.2.length = W
  one : ∀ p ∈ kept, p.2.getD p.1 0 = 1
  apart : kept.Pairwise fun p q => p.1 ≠ q.1
  nought : ∀ p ∈ kept, ∀ q ∈ kept, p.1 ≠ q.1 → p.2.getD q.1 0 = 0
theorem KI.nodup {m W : Nat} {kept : List (Nat × List Rat)} (h : KI m W kept) : (kept.map (·.1)).Nodup := by
  rw [List.nodup_iff_pairwise_ne, List.pairwise_map]
  exact h.apart
theorem KI.few {m W : Nat} {kept : List (Nat × List Rat)} (h : KI m W kept) : kept.length ≤ m := by
  have := nodup_le (A := kept.map (·.1)) (B := List.range m) h.nodup fun a ha => by
    obtain ⟨p, hp, rfl⟩ := List.mem_map.mp ha
    exact List.mem_range.mpr (h.lt p hp)
  rw [List.length_map, List.length_range] at this
  exact this
theorem KI.same {m W : Nat} {kept : List (Nat × List Rat)} (h : KI m W kept) {p q : Nat × List Rat} (hp : p ∈ kept) (hq : q ∈ kept) (e : p.1 = q.1) : p = q := by
  have : ∀ {l : List (Nat × List Rat)}, l.Pairwise (fun p q => p.1 ≠ q.1) → p ∈ l → q ∈ l → p = q := by
    intro l
    induction l with
    | nil => exact fun _ h => nomatch h
    | cons x l ih =>
      intro hl h1 h2
      have hx := List.pairwise_cons.mp hl
      rcases List.mem_cons.mp h1 with e1 | m1
      · rcases List.mem_cons.mp h2 with e2 | m2
        · rw [e1, e2]
        · rw [e1] at e
          exact absurd e (hx.1 _ m2)
      · rcases List.mem_cons.mp h2 with e2 | m2
        · rw [e2] at e
          exact absurd e.symm (hx.1 _ m1)
        · exact ih hx.2 m1 m2
  exact this h.apart hp hq
theorem red_len {W : Nat} : ∀ {kept : List (Nat × List Rat)} {row : List Rat}, (∀ p ∈ kept, p.2.length = W) → row.length = W → (red kept row).length = W
  | [], _, _, h => h
  | p :: kept, row, h, hr => by
    have hp := h p List.mem_cons_self
    exact red_len (kept := kept) (fun q hq => h q (List.mem_cons_of_mem _ hq)) (by rw [clr_len (by omega)]; exact hr)
theorem red_spn {M W : Nat} : ∀ {kept : List (Nat × List Rat)} {row : List Rat}, (∀ p ∈ kept, p.2.length = W) → row.length = W → ∃ v, Spn (inL M (kept.map (·.2))) v ∧ ∀ k, cf M (red kept row) k = cf M row k + v k
  | [], row, _, _ => ⟨_, Spn.zero, fun k => by show cf M row k = _; grind⟩
  | p :: kept, row, h, hr => by
    have hp := h p List.mem_cons_self
    obtain ⟨v, h1, h2⟩ := red_spn (M := M) (kept := kept) (row := clr p.1 p.2 row) (fun q hq => h q (List.mem_cons_of_mem _ hq)) (by rw [clr_len (by omega)]; exact hr)
    refine ⟨fun k => v k + -row.getD p.1 0 * cf M p.2 k, Spn.step _ (h1.mono fun g hg => ?_) ⟨p.2, List.mem_map_of_mem List.mem_cons_self, rfl⟩, fun k => ?_⟩
    · obtain ⟨r, hr2, e⟩ := hg
      rw [List.map_cons]
      exact Spn.gen ⟨r, List.mem_cons_of_mem _ hr2, e⟩
    · show cf M (red kept (clr p.1 p.2 row)) k = _
      rw [h2 k, cf_clr (by omega)]
      grind
/-- a row cleared by all kept ones is 0 at their leads -/
theorem red_nought {m W : Nat} {kept : List (Nat × List Rat)} (h : KI m W kept) {row : List Rat} (hr : row.length = W) : ∀ p ∈ kept, (red kept row).getD p.1 0 = 0 := by
  have key : ∀ (todo done : List (Nat × List Rat)) (row : List Rat), (∀ p ∈ todo, p ∈ kept) → (∀ p ∈ done, p ∈ kept) → row.length = W → (∀ p ∈ done, row.getD p.1 0 = 0) → ∀ p, p ∈ todo ∨ p ∈ done → (red todo row).getD p.1 0 = 0 := by
    intro todo
    induction todo with
    | nil =>
      intro done row _ _ _ hz p hp
      rcases hp with hp | hp
      · cases hp
      · exact hz p hp
    | cons q todo ih =>
      intro done row ht hd hl hz p hp
      have hq := ht q List.mem_cons_self
      have hlq := h.len q hq
      have e : row.length = q.2.length := by omega
      refine ih (q :: done) (clr q.1 q.2 row) (fun x hx => ht x (List.mem_cons_of_mem _ hx)) (fun x hx => ?_) (by rw [clr_len e]; exact hl) (fun x hx => ?_) p ?_
      · rcases List.mem_cons.mp hx with rfl | hx
        · exact hq
        · exact hd x hx
      · rw [clr_at e]
        by_cases hxq : x.1 = q.1
        · rw [hxq, h.one q hq]
          grind
        · rcases List.mem_cons.mp hx with rfl | hx
          · exact absurd rfl hxq
          · rw [hz x hx, h.nought q hq x (hd x hx) (fun z => hxq z.symm)]
            grind
      · rcases hp with hp | hp
        · rcases List.mem_cons.mp hp with rfl | hp
          · exact .inr List.mem_cons_self
          · exact .inl hp
        · exact .inr (List.mem_cons_of_mem _ hp)
  exact fun p hp => key kept [] row (fun _ h => h) (fun _ h => nomatch h) hr (fun _ h => nomatch h) p (.inl hp)
/-- what is kept behind one more row, which has a lead -/
def kplus (kept : List (Nat × List Rat)) (a : Nat) (row : List Rat) : List (Nat × List Rat) := kept.map (fun p => (p.1, clr a row p.2)) ++ [(a, row)]
theorem KI.plus {m W : Nat} {kept : List (Nat × List Rat)} (h : KI m W kept) {a : Nat} {row : List Rat} (ha : a < m) (hl : row.length = W) (h1 : row.getD a 0 = 1) (h0 : ∀ p ∈ kept, row.getD p.1 0 = 0) : KI m W (kplus kept a row) := by
  have hne : ∀ p ∈ kept, p.1 ≠ a := fun p hp e => by
    have := h0 p hp
    rw [e, h1] at this
    exact absurd this (by decide)
  have el : ∀ p ∈ kept, p.2.length = row.length := fun p hp => by rw [h.len p hp, hl]
  have mem : ∀ x ∈ kplus kept a row, (∃ p ∈ kept, x = (p.1, clr a row p.2)) ∨ x = (a, row) := fun x hx => by
    rcases List.mem_append.mp hx with hx | hx
    · obtain ⟨p, hp, rfl⟩ := List.mem_map.mp hx
      exact .inl ⟨p, hp, rfl⟩
    · exact .inr (List.mem_singleton.mp hx)
  refine ⟨fun x hx => ?_, fun x hx => ?_, fun x hx => ?_, ?_, fun x hx y hy hxy => ?_⟩
  · rcases mem x hx with ⟨p, hp, rfl⟩ | rfl
    · exact h.lt p hp
    · exact ha
  · rcases mem x hx with ⟨p, hp, rfl⟩ | rfl
    · show (clr a row p.2).length = W
      rw [clr_len (el p hp)]
      exact h.len p hp
    · exact hl
  · rcases mem x hx with ⟨p, hp, rfl⟩ | rfl
    · show (clr a row p.2).getD p.1 0 = 1
      rw [clr_at (el p hp), h.one p hp, h0 p hp]
      grind
    · exact h1
  · unfold kplus
    rw [List.pairwise_append]
    refine ⟨?_, List.pairwise_singleton _ _, fun x hx y hy => ?_⟩
    · rw [List.pairwise_map]
      exact h.apart
    · obtain ⟨p, hp, rfl⟩ := List.mem_map.mp hx
      rw [List.mem_singleton.mp hy]
      exact hne p hp
  · rcases mem x hx with ⟨p, hp, rfl⟩ | rfl
    · rcases mem y hy with ⟨q, hq, rfl⟩ | rfl
      · show (clr a row p.2).getD q.1 0 = 0
        rw [clr_at (el p hp), h.nought p hp q hq hxy, h0 q hq]
        grind
      · show (clr a row p.2).getD a 0 = 0
        rw [clr_at (el p hp), h1]
        grind
    · rcases mem y hy with ⟨q, hq, rfl⟩ | rfl
      · exact h0 q hq
      · exact absurd rfl hxy
theorem kplus_spn {M W m : Nat} {kept : List (Nat × List Rat)} (h : KI m W kept) {a : Nat} {row : List Rat} (hl : row.length = W) : (∀ p ∈ kept, Spn (inL M ((kplus kept a row).map (·.2))) (cf M p.2)) ∧ Spn (inL M ((kplus kept a row).map (·.2))) (cf M row) ∧
    ∀ p ∈ kplus kept a row, Spn (inL M (kept.map (·.2) ++ [row])) (cf M p.2) := by
  have el : ∀ p ∈ kept, p.2.length = row.length := fun p hp => by rw [h.len p hp, hl]
  have r1 : Spn (inL M ((kplus kept a row).map (·.2))) (cf M row) := Spn.gen ⟨row, List.mem_map.mpr ⟨(a, row), List.mem_append_right _ List.mem_cons_self, rfl⟩, rfl⟩
  refine ⟨fun p hp => ?_, r1, fun x hx => ?_⟩
  · have g1 : Spn (inL M ((kplus kept a row).map (·.2))) (cf M (clr a row p.2)) := Spn.gen ⟨_, List.mem_map.mpr ⟨(p.1, clr a row p.2), List.mem_append_left _ (List.mem_map.mpr ⟨p, hp, rfl⟩), rfl⟩, rfl⟩
    exact (Spn.closed _ _ (p.2.getD a 0) g1 r1).cong fun k => by
      rw [cf_clr (el p hp)]
      grind
  · rcases List.mem_append.mp hx with hx | hx
    · obtain ⟨p, hp, rfl⟩ := List.mem_map.mp hx
      have g1 : Spn (inL M (kept.map (·.2) ++ [row])) (cf M p.2) := Spn.gen ⟨_, List.mem_append_left _ (List.mem_map_of_mem hp), rfl⟩
      have g2 : Spn (inL M (kept.map (·.2) ++ [row])) (cf M row) := Spn.gen ⟨_, List.mem_append_right _ List.mem_cons_self, rfl⟩
      exact (Spn.closed _ _ (-p.2.getD a 0) g1 g2).cong fun k => by rw [cf_clr (el p hp)]
    · rw [List.mem_singleton.mp hx]
      exact Spn.gen ⟨_, List.mem_append_right _ List.mem_cons_self, rfl⟩
/-- the sum of what kept rows give of a function, each as often as it says at the row's lead -/
def ksum (v : VF) : List (Nat × VF) → VF
  | [] => fun _ => 0
  | p :: l => fun k => v p.1 * p.2 k + ksum v l k
theorem ksum_add (v g : VF) (c : Rat) : ∀ (l : List (Nat × VF)) (k : Nat), ksum (fun j => v j + c * g j) l k = ksum v l k + c * ksum g l k
  | [], k => by show (0 : Rat) = 0 + c * 0; grind
  | p :: l, k => by
    show (v p.1 + c * g p.1) * p.2 k + ksum _ l k = (v p.1 * p.2 k + ksum v l k) + c * (g p.1 * p.2 k + ksum g l k)
    rw [ksum_add v g c l k]
    grind
theorem ksum_none {v : VF} : ∀ {l : List (Nat × VF)}, (∀ p ∈ l, v p.1 = 0) → ∀ k, ksum v l k = 0
  | [], _, _ => rfl
  | p :: l, h, k => by
    show v p.1 * p.2 k + ksum v l k = 0
    rw [h p List.mem_cons_self, ksum_none (fun q hq => h q (List.mem_cons_of_mem _ hq))]
    grind
theorem ksum_one {v : VF} {q : Nat × VF} : ∀ {l : List (Nat × VF)}, q ∈ l → l.Pairwise (fun p q => p.1 ≠ q.1) → v q.1 = 1 → (∀ p ∈ l, p.1 ≠ q.1 → v p.1 = 0) → ∀ k, ksum v l k = q.2 k
  | p :: l, hq, hp, h1, h0, k => by
    have hp2 := List.pairwise_cons.mp hp
    show v p.1 * p.2 k + ksum v l k = q.2 k
    rcases List.mem_cons.mp hq with rfl | hq
    · rw [h1, ksum_none (fun r hr => h0 r (List.mem_cons_of_mem _ hr) (hp2.1 r hr).symm)]
      grind
    · rw [h0 p List.mem_cons_self (hp2.1 q hq), ksum_one hq hp2.2 h1 (fun r hr => h0 r (List.mem_cons_of_mem _ hr))]
      grind
/-- what kept rows span is told by its numbers at the leads -/
theorem KI.told {m W M : Nat} {kept : List (Nat × List Rat)} (h : KI m W kept) (hM : m ≤ M) {v : VF} (hv : Spn (inL M (kept.map (·.2))) v) : ∀ k, v k = ksum v (kept.map fun p => (p.1, cf M p.2)) k := by
  have hp : (kept.map fun p => (p.1, cf M p.2)).Pairwise (fun p q => p.1 ≠ q.1) := by
    rw [List.pairwise_map]
    exact h.apart
  induction hv with
  | zero => exact fun k => (ksum_none (fun _ _ => rfl) k).symm
  | step c _ hg ih =>
    obtain ⟨r, hr, rfl⟩ := hg
    obtain ⟨p, hp1, rfl⟩ := List.mem_map.mp hr
    intro k
    have hlt := h.lt p hp1
    have e := ksum_one (v := cf M p.2) (q := (p.1, cf M p.2)) (List.mem_map.mpr ⟨p, hp1, rfl⟩) hp (by
      show cf M p.2 p.1 = 1
      unfold cf
      rw [if_pos (by omega), h.one p hp1]) (fun x hx hne => by
      obtain ⟨y, hy, rfl⟩ := List.mem_map.mp hx
      show cf M p.2 y.1 = 0
      unfold cf
      have := h.lt y hy
      rw [if_pos (by omega), h.nought p hp1 y hy (fun z => hne z.symm)]) k
    rw [ksum_add, ← ih k, e]
/-- a unit row is in what kept rows span if and only if it is one of them -/
theorem KI.unit {m W : Nat} {kept : List (Nat × List Rat)} (h : KI m W kept) {j : Nat} (hj : j < m) {u : VF} (hu : ∀ k, u k = if k = j then 1 else 0) :
    Spn (inL m (kept.map (·.2))) u ↔ ∃ p ∈ kept, p.1 = j ∧ ∀ k < m, k ≠ j → p.2.getD k 0 = 0 := by
  have hp : (kept.map fun p => (p.1, cf m p.2)).Pairwise (fun p q => p.1 ≠ q.1) := by
    rw [List.pairwise_map]
    exact h.apart
  constructor
  · intro hs
    have ht := h.told (Nat.le_refl m) hs
    by_cases hex : ∃ p ∈ kept, p.1 = j
    · obtain ⟨p, hp1, rfl⟩ := hex
      refine ⟨p, hp1, rfl, fun k hk hne => ?_⟩
      have e := ksum_one (v := u) (q := (p.1, cf m p.2)) (List.mem_map.mpr ⟨p, hp1, rfl⟩) hp (by rw [hu, if_pos rfl]) (fun x hx hne => by rw [hu, if_neg hne]) k
      rw [← ht k, hu, if_neg hne] at e
      have e2 : cf m p.2 k = 0 := e.symm
      unfold cf at e2
      rw [if_pos hk] at e2
      exact e2
    · exfalso
      have e := ksum_none (v := u) (l := kept.map fun p => (p.1, cf m p.2)) (fun x hx => by
        obtain ⟨y, hy, rfl⟩ := List.mem_map.mp hx
        rw [hu]
        exact if_neg fun z => hex ⟨y, hy, z⟩) j
      rw [← ht j, hu, if_pos rfl] at e
      exact absurd e (by decide)
  · rintro ⟨p, hp1, rfl, hz⟩
    have : Spn (inL m (kept.map (·.2))) (cf m p.2) := Spn.gen ⟨p.2, List.mem_map_of_mem hp1, rfl⟩
    refine this.cong fun k => ?_
    rw [hu]
    unfold cf
    by_cases hk : k < m
    · rw [if_pos hk]
      by_cases e : k = p.1
      · rw [if_pos e, e]
        exact h.one p hp1
      · rw [if_neg e]
        exact hz k hk e
    · rw [if_neg hk, if_neg (by omega)]
/-- a sum of the first n -/
def sN (f : Nat → Rat) : Nat → Rat
  | 0 => 0
  | n + 1 => sN f n + f n
theorem sN_add (f g : Nat → Rat) (c : Rat) : ∀ n, sN (fun k => f k + c * g k) n = sN f n + c * sN g n
  | 0 => by show (0 : Rat) = 0 + c * 0; grind
  | n + 1 => by
    show sN _ n + _ = (sN f n + f n) + c * (sN g n + g n)
    rw [sN_add f g c n]
    grind
theorem sN_cong {f g : Nat → Rat} : ∀ {n : Nat}, (∀ k < n, f k = g k) → sN f n = sN g n
  | 0, _ => rfl
  | n + 1, h => by
    show sN f n + f n = sN g n + g n
    rw [sN_cong fun k hk => h k (by omega), h n (by omega)]
theorem sN_none {f : Nat → Rat} : ∀ {n : Nat}, (∀ k < n, f k = 0) → sN f n = 0
  | 0, _ => rfl
  | n + 1, h => by
    show sN f n + f n = 0
    rw [sN_none fun k hk => h k (by omega), h n (by omega)]
    grind
theorem sN_one {f : Nat → Rat} {j : Nat} : ∀ {n : Nat}, j < n → (∀ k < n, k ≠ j → f k = 0) → sN f n = f j
  | n + 1, hj, h => by
    show sN f n + f n = f j
    by_cases e : j = n
    · subst e
      rw [sN_none fun k hk => h k (by omega) (by omega)]
      grind
    · rw [sN_one (n := n) (by omega) fun k hk => h k (by omega), h n (by omega) (by omega)]
      grind
/-- equations that hold at a point: so does what they span -/
theorem spn_holds {m : Nat} {pt : Nat → Rat} {G : VF → Prop} (h : ∀ g, G g → sN (fun k => g k * pt k) m = g m) {v : VF} (hv : Spn G v) : sN (fun k => v k * pt k) m = v m := by
  induction hv with
  | zero => exact sN_none fun k _ => by grind
  | step c _ hg ih =>
    rename_i v g _
    have e : (fun k => (v k + c * g k) * pt k) = fun k => (fun k => v k * pt k) k + c * (fun k => g k * pt k) k := funext fun k => by grind
    show sN (fun k => (v k + c * g k) * pt k) m = v m + c * g m
    rw [e, sN_add, ih, h _ hg]
end

section
/-- numbers over one divisor, all of n bits -/
def CB (n : Nat) (r : List Rat) : Prop := ∃ D : Nat, 0 < D ∧ D < 2 ^ n ∧ ∀ x ∈ r, ∃ N : Int, x * (D : Rat) = (N : Rat) ∧ N.natAbs < 2 ^ n
theorem CB.up {n m : Nat} {r : List Rat} (h : CB n r) (hm : n ≤ m) : CB m r := by
  obtain ⟨D, h0, h1, h2⟩ := h
  have hp : (2 : Nat) ^ n ≤ 2 ^ m := Nat.pow_le_pow_right (by decide) hm
  exact ⟨D, h0, Nat.lt_of_lt_of_le h1 hp, fun x hx => by
    obtain ⟨N, e, b⟩ := h2 x hx
    exact ⟨N, e, Nat.lt_of_lt_of_le b hp⟩⟩
theorem natCast_ne {D : Nat} (h : 0 < D) : (D : Rat) ≠ 0 := fun z => by
  have : (D : Rat) = ((0 : Nat) : Rat) := z
  have := Rat.natCast_inj.mp this
  omega
theorem CB.bd {n : Nat} {r : List Rat} (h : CB n r) {x : Rat} (hx : x ∈ r) : Bd n x := by
  obtain ⟨D, h0, h1, h2⟩ := h
  obtain ⟨N, e, b⟩ := h2 x hx
  have e1 : x = Rat.divInt N (D : Int) := by
    rw [Rat.divInt_eq_div]
    show x = (N : Rat) / (D : Rat)
    rw [← e]
    have := natCast_ne h0
    grind
  rw [e1]
  exact bd_of (by omega) b (by rw [Int.natAbs_natCast]; exact h1)
theorem getD_or {r : List Rat} {l : Nat} : r.getD l 0 = 0 ∨ r.getD l 0 ∈ r := by
  rw [List.getD_eq_getElem?_getD]
  cases h : r[l]? with
  | none => exact .inl rfl
  | some x => exact .inr (List.mem_of_getElem? h)
theorem CB.at {n : Nat} {r : List Rat} {D : Nat} (h : ∀ x ∈ r, ∃ N : Int, x * (D : Rat) = (N : Rat) ∧ N.natAbs < 2 ^ n) (l : Nat) : ∃ N : Int, r.getD l 0 * (D : Rat) = (N : Rat) ∧ N.natAbs < 2 ^ n := by
  rcases getD_or (r := r) (l := l) with e | e
  · exact ⟨0, by rw [e, Rat.zero_mul]; rfl, by show 0 < 2 ^ n; exact Nat.two_pow_pos n⟩
  · exact h _ e
theorem zip_mem {f : Rat → Rat → Rat} {a b : List Rat} {z : Rat} (h : z ∈ List.zipWith f a b) : ∃ x ∈ a, ∃ y ∈ b, f x y = z := by
  obtain ⟨i, hi⟩ := List.mem_iff_getElem?.mp h
  rw [List.getElem?_zipWith] at hi
  cases e1 : a[i]? with
  | none =>
    rw [e1] at hi
    cases hi
  | some c =>
    cases e2 : b[i]? with
    | none =>
      rw [e1, e2] at hi
      cases hi
    | some d =>
      rw [e1, e2] at hi
      exact ⟨c, List.mem_of_getElem? e1, d, List.mem_of_getElem? e2, Option.some.inj hi⟩
theorem two_wl {x y : Int} {a b : Nat} (h : x.natAbs < 2 ^ a) (h2 : y.natAbs < 2 ^ b) (z w : Int) (h3 : z.natAbs < 2 ^ a) (h4 : w.natAbs < 2 ^ b) : (x * y - z * w).natAbs < 2 ^ (a + b + 1) := by
  have w1 := wl h h2
  have w2 := wl h3 h4
  have := Int.natAbs_sub_le (x * y) (z * w)
  rw [Nat.pow_succ]
  omega
theorem CB.clr {n m l : Nat} {base row : List Rat} (h : CB n row) (h2 : CB m base) : CB (n + m + 1) (Tp.clr l base row) := by
  unfold Tp.clr
  split
  · exact h.up (by omega)
  obtain ⟨D, d0, d1, d2⟩ := h
  obtain ⟨E, e0, e1, e2⟩ := h2
  obtain ⟨F, f1, f2⟩ := CB.at d2 l
  refine ⟨D * E, Nat.mul_pos d0 e0, ?_, fun z hz => ?_⟩
  · have := Nat.mul_lt_mul'' d1 e1
    rw [← Nat.pow_add] at this
    exact Nat.lt_of_lt_of_le this (Nat.pow_le_pow_right (by decide) (by omega))
  · obtain ⟨x, hx, y, hy, rfl⟩ := zip_mem hz
    obtain ⟨N, n1, n2⟩ := d2 x hx
    obtain ⟨M, m1, m2⟩ := e2 y hy
    refine ⟨N * (E : Int) - F * M, ?_, two_wl n2 (by rw [Int.natAbs_natCast]; exact e1) _ _ f2 m2⟩
    rw [Rat.natCast_mul, Rat.intCast_sub, Rat.intCast_mul, Rat.intCast_mul, ← n1, ← f1, ← m1]
    show (x - row.getD l 0 * y) * ((D : Rat) * (E : Rat)) = x * D * (E : Rat) - row.getD l 0 * D * (y * E)
    grind
theorem CB.over {n : Nat} {r : List Rat} (h : CB n r) {f : Rat} (hf : f ∈ r) (f0 : f ≠ 0) : CB n (r.map fun x => x / f) := by
  obtain ⟨D, d0, d1, d2⟩ := h
  obtain ⟨F, f1, f2⟩ := d2 f hf
  have hD := natCast_ne d0
  have hF : F ≠ 0 := fun z => by
    subst z
    have z2 : f * (D : Rat) = 0 := f1
    rcases Rat.mul_eq_zero.mp z2 with g | g
    · exact f0 g
    · exact hD g
  refine ⟨F.natAbs, by omega, f2, fun z hz => ?_⟩
  obtain ⟨x, hx, rfl⟩ := List.mem_map.mp hz
  obtain ⟨N, n1, n2⟩ := d2 x hx
  rcases Int.natAbs_eq F with e | e
  · refine ⟨N, ?_, n2⟩
    have e3 : ((F.natAbs : Nat) : Rat) = f * D := by
      rw [f1, show ((F.natAbs : Nat) : Rat) = (((F.natAbs : Nat) : Int) : Rat) from rfl, ← e]
    rw [e3, ← n1]
    grind
  · refine ⟨-N, ?_, by rw [Int.natAbs_neg]; exact n2⟩
    have e3 : ((F.natAbs : Nat) : Rat) = -(f * D) := by
      rw [f1, ← Rat.intCast_neg, show ((F.natAbs : Nat) : Rat) = (((F.natAbs : Nat) : Int) : Rat) from rfl]
      congr 1
      omega
    rw [e3, Rat.intCast_neg, ← n1]
    grind
theorem CB.append {n : Nat} {r s : List Rat} (h : CB n r) (hs : ∀ x ∈ s, x = 0 ∨ x = 1) : CB n (r ++ s) := by
  obtain ⟨D, d0, d1, d2⟩ := h
  refine ⟨D, d0, d1, fun x hx => ?_⟩
  rcases List.mem_append.mp hx with h | h
  · exact d2 x h
  · rcases hs x h with rfl | rfl
    · exact ⟨0, by rw [Rat.zero_mul]; rfl, by show 0 < 2 ^ n; exact Nat.two_pow_pos n⟩
    · exact ⟨(D : Int), by rw [Rat.one_mul]; rfl, by rw [Int.natAbs_natCast]; exact d1⟩
/-- kept rows over one divisor, all of m bits -/
def JB (m : Nat) (kept : List (Nat × List Rat)) : Prop := ∃ D : Nat, 0 < D ∧ D < 2 ^ m ∧ ∀ p ∈ kept, ∀ x ∈ p.2, ∃ N : Int, x * (D : Rat) = (N : Rat) ∧ N.natAbs < 2 ^ m
/-- the bits of so many kept rows -/
def jb : Nat → Nat
  | 0 => 1
  | s + 1 => 2 * jb s + 13
theorem jb_up {s : Nat} : jb s ≤ jb (s + 1) := by
  show _ ≤ 2 * jb s + 13
  omega
theorem jb_le {s : Nat} (h : s ≤ 6) : jb s ≤ 900 := by
  have : ∀ s ≤ 6, jb s ≤ 900 := by decide
  exact this s h
/-- small given rows: times 12 whole, of 11 bits; whole and at most 2 ahead of place m -/
def Gs (m : Nat) (g : List Rat) : Prop := (∀ x ∈ g, ∃ N : Int, x * 12 = (N : Rat) ∧ N.natAbs < 2 ^ 11) ∧ ∀ k < m, ∃ F : Int, g.getD k 0 = (F : Rat) ∧ F.natAbs ≤ 2
theorem clr_up {D B l : Nat} {base row : List Rat} {m : Nat} (hb : ∀ y ∈ base, ∃ N : Int, y * (D : Rat) = (N : Rat) ∧ N.natAbs < 2 ^ m) (hr : ∀ x ∈ row, ∃ N : Int, x * ((12 * D : Nat) : Rat) = (N : Rat) ∧ N.natAbs < 2 ^ m * B) {F : Int} (hF : row.getD l 0 = (F : Rat)) (hF2 : F.natAbs ≤ 2) :
    ∀ x ∈ clr l base row, ∃ N : Int, x * ((12 * D : Nat) : Rat) = (N : Rat) ∧ N.natAbs < 2 ^ m * (B + 24) := by
  have hp : 0 < 2 ^ m := Nat.two_pow_pos m
  unfold clr
  intro z hz
  split at hz
  · obtain ⟨N, n1, n2⟩ := hr z hz
    exact ⟨N, n1, by rw [Nat.mul_add]; omega⟩
  · obtain ⟨x, hx, y, hy, rfl⟩ := zip_mem hz
    obtain ⟨N, n1, n2⟩ := hr x hx
    obtain ⟨M, m1, m2⟩ := hb y hy
    refine ⟨N - 12 * F * M, ?_, ?_⟩
    · rw [Rat.intCast_sub, Rat.intCast_mul, Rat.intCast_mul, ← n1, ← m1, ← hF, Rat.natCast_mul, show ((12 : Int) : Rat) = 12 from rfl, show ((12 : Nat) : Rat) = 12 from rfl]
      grind
    · have h1 : (12 * F * M).natAbs ≤ 24 * M.natAbs := by
        rw [Int.natAbs_mul, Int.natAbs_mul]
        exact Nat.mul_le_mul_right _ (by show 12 * F.natAbs ≤ 24; omega)
      have h2 := Int.natAbs_sub_le N (12 * F * M)
      rw [Nat.mul_add]
      omega
theorem red_jb {D m W mm : Nat} {kept : List (Nat × List Rat)} (hk : KI mm W kept) (hD : ∀ p ∈ kept, ∀ x ∈ p.2, ∃ N : Int, x * (D : Rat) = (N : Rat) ∧ N.natAbs < 2 ^ m) :
    ∀ (todo : List (Nat × List Rat)) (row : List Rat) (B : Nat), (∀ p ∈ todo, p ∈ kept) → todo.Pairwise (fun p q => p.1 ≠ q.1) → row.length = W → (∀ x ∈ row, ∃ N : Int, x * ((12 * D : Nat) : Rat) = (N : Rat) ∧ N.natAbs < 2 ^ m * B) → (∀ p ∈ todo, ∃ F : Int, row.getD p.1 0 = (F : Rat) ∧ F.natAbs ≤ 2) →
      ∀ x ∈ red todo row, ∃ N : Int, x * ((12 * D : Nat) : Rat) = (N : Rat) ∧ N.natAbs < 2 ^ m * (B + 24 * todo.length)
  | [], row, B, _, _, _, hr, _ => hr
  | p :: todo, row, B, ht, hpw, hl, hr, hF => by
    have hp := ht p List.mem_cons_self
    have hpw2 := List.pairwise_cons.mp hpw
    have el : row.length = p.2.length := by rw [hl, hk.len p hp]
    obtain ⟨F, f1, f2⟩ := hF p List.mem_cons_self
    have h1 := clr_up (hD p hp) hr f1 f2
    have := red_jb hk hD todo (clr p.1 p.2 row) (B + 24) (fun q hq => ht q (List.mem_cons_of_mem _ hq)) hpw2.2 (by rw [clr_len el]; exact hl) h1 (fun q hq => by
      obtain ⟨F2, g1, g2⟩ := hF q (List.mem_cons_of_mem _ hq)
      refine ⟨F2, ?_, g2⟩
      rw [clr_at el, hk.nought p hp q (ht q (List.mem_cons_of_mem _ hq)) (hpw2.1 q hq), g1]
      grind)
    intro x hx
    obtain ⟨N, n1, n2⟩ := this x hx
    refine ⟨N, n1, ?_⟩
    rw [List.length_cons, show B + 24 * (todo.length + 1) = B + 24 + 24 * todo.length by omega]
    exact n2
/-- one row cleared by another, as the check does it -/
def elm (n c : Nat) (row x : List Rat) : List Rat := (List.range n).map fun k => x.getD k 0 + -(x.getD c 0 / row.getD c 0) * row.getD k 0
theorem elm_len {n c : Nat} {row x : List Rat} : (elm n c row x).length = n := by
  unfold elm
  rw [List.length_map, List.length_range]
theorem elm_at {n c : Nat} {row x : List Rat} {k : Nat} (h : k < n) : (elm n c row x).getD k 0 = x.getD k 0 + -(x.getD c 0 / row.getD c 0) * row.getD k 0 := by
  unfold elm
  rw [List.getD_eq_getElem?_getD, List.getElem?_map, List.getElem?_range h]
  rfl
theorem cf_elm {n c : Nat} {row x : List Rat} (k : Nat) : cf n (elm n c row x) k = cf n x k + -(x.getD c 0 / row.getD c 0) * cf n row k := by
  unfold cf
  by_cases h : k < n
  · rw [if_pos h, if_pos h, if_pos h, elm_at h]
  · rw [if_neg h, if_neg h, if_neg h]
    grind
theorem CB.elm {b n c : Nat} {row x : List Rat} (h : CB b x) (h2 : CB b row) (h0 : row.getD c 0 ≠ 0) : CB (2 * b + 1) (Tp.elm n c row x) := by
  obtain ⟨D, d0, d1, d2⟩ := h
  obtain ⟨E, e0, e1, e2⟩ := h2
  obtain ⟨N0, n1, n2⟩ := CB.at d2 c
  obtain ⟨M0, m1, m2⟩ := CB.at e2 c
  have hE := natCast_ne e0
  have hM : M0 ≠ 0 := fun z => by
    subst z
    have z2 : row.getD c 0 * (E : Rat) = 0 := m1
    rcases Rat.mul_eq_zero.mp z2 with g | g
    · exact h0 g
    · exact hE g
  have hp : D * M0.natAbs < 2 ^ (2 * b + 1) := by
    have := Nat.mul_lt_mul'' d1 m2
    rw [← Nat.pow_add] at this
    exact Nat.lt_of_lt_of_le this (Nat.pow_le_pow_right (by decide) (by omega))
  refine ⟨D * M0.natAbs, Nat.mul_pos d0 (by omega), hp, fun z hz => ?_⟩
  obtain ⟨k, _, rfl⟩ := List.mem_map.mp hz
  obtain ⟨N, n3, n4⟩ := CB.at d2 k
  obtain ⟨M, m3, m4⟩ := CB.at e2 k
  have hb : ∀ s : Int, s.natAbs = 1 → (s * (N * M0 - N0 * M)).natAbs < 2 ^ (2 * b + 1) := fun s hs => by
    rw [Int.natAbs_mul, hs, Nat.one_mul]
    have := two_wl n4 m2 _ _ n2 m4
    rw [show b + b + 1 = 2 * b + 1 by omega] at this
    exact this
  rcases Int.natAbs_eq M0 with e | e
  · refine ⟨1 * (N * M0 - N0 * M), ?_, hb 1 rfl⟩
    have e3 : ((M0.natAbs : Nat) : Rat) = row.getD c 0 * E := by
      rw [m1, show ((M0.natAbs : Nat) : Rat) = (((M0.natAbs : Nat) : Int) : Rat) from rfl, ← e]
    rw [Rat.natCast_mul, e3, Int.one_mul, Rat.intCast_sub, Rat.intCast_mul, Rat.intCast_mul, ← n1, ← m1, ← n3, ← m3]
    grind
  · refine ⟨-1 * (N * M0 - N0 * M), ?_, hb (-1) rfl⟩
    have e3 : ((M0.natAbs : Nat) : Rat) = -(row.getD c 0 * E) := by
      rw [m1, ← Rat.intCast_neg, show ((M0.natAbs : Nat) : Rat) = (((M0.natAbs : Nat) : Int) : Rat) from rfl]
      congr 1
      omega
    rw [Rat.natCast_mul, e3, Rat.intCast_mul, Rat.intCast_sub, Rat.intCast_mul, Rat.intCast_mul, ← n1, ← m1, ← n3, ← m3, show ((-1 : Int) : Rat) = -1 from rfl]
    grind
/-- the check's elimination, ahead of column c, with f rows done -/
structure RI (n : Nat) (rows0 rows : List (List Rat)) (c f : Nat) : Prop where
  len : ∀ r ∈ rows, r.length = n
  cnt : rows.length = rows0.length
  spn : ∀ v, Spn (inL n rows0) v ↔ Spn (inL n rows) v
  few : f ≤ rows.length
  ech : ∃ E : List (Nat × VF), Ec E ∧ E.map (·.2) = (rows.take f).map (cf n) ∧ ∀ p ∈ E, p.1 < c
  low : ∀ r ∈ rows.drop f, ∀ k < c, r.getD k 0 = 0
theorem RI.start {n : Nat} {rows : List (List Rat)} (h : ∀ r ∈ rows, r.length = n) : RI n rows rows 0 0 :=
  ⟨h, rfl, fun _ => Iff.rfl, Nat.zero_le _, ⟨[], ⟨List.Pairwise.nil, fun _ h => nomatch h⟩, rfl, fun _ h => nomatch h⟩, fun _ _ _ h => absurd h (Nat.not_lt_zero _)⟩
theorem RI.skip {n c f : Nat} {rows0 rows : List (List Rat)} (h : RI n rows0 rows c f) (hz : ∀ r ∈ rows.drop f, r.getD c 0 = 0) : RI n rows0 rows (c + 1) f := by
  obtain ⟨E, e1, e2, e3⟩ := h.ech
  refine ⟨h.len, h.cnt, h.spn, h.few, ⟨E, e1, e2, fun p hp => by have := e3 p hp; omega⟩, fun r hr k hk => ?_⟩
  rcases Nat.lt_or_ge k c with g | g
  · exact h.low r hr k g
  · have : k = c := by omega
    rw [this]
    exact hz r hr
theorem RI.next {n c f : Nat} {rows0 A B C : List (List Rat)} {row : List Rat} (h : RI n rows0 (A ++ (B ++ row :: C)) c f) (hA : A.length = f) (hc : c < n) (h0 : row.getD c 0 ≠ 0) : RI n rows0 (A ++ row :: (B ++ C).map (elm n c row)) (c + 1) (f + 1) := by
  obtain ⟨E, e1, e2, e3⟩ := h.ech
  subst hA
  have hd : (A ++ (B ++ row :: C)).drop A.length = B ++ row :: C := List.drop_left
  have hlow := h.low
  rw [hd] at hlow
  rw [List.take_left] at e2
  have hrow : row ∈ B ++ row :: C := List.mem_append_right _ List.mem_cons_self
  have hBC : ∀ x ∈ B ++ C, x ∈ B ++ row :: C := fun x hx => by
    rcases List.mem_append.mp hx with g | g
    · exact List.mem_append_left _ g
    · exact List.mem_append_right _ (List.mem_cons_of_mem _ g)
  have hin : ∀ x ∈ A ++ (B ++ row :: C), x ∈ A ∨ x = row ∨ x ∈ B ++ C := fun x hx => by
    rcases List.mem_append.mp hx with g | g
    · exact .inl g
    · rcases List.mem_append.mp g with g | g
      · exact .inr (.inr (List.mem_append_left _ g))
      · rcases List.mem_cons.mp g with g | g
        · exact .inr (.inl g)
        · exact .inr (.inr (List.mem_append_right _ g))
  have ld : Ld (cf n row) c := by
    refine ⟨?_, fun k hk => ?_⟩
    · unfold cf
      rw [if_pos hc]
      exact h0
    · unfold cf
      rw [if_pos (by omega)]
      exact hlow row hrow k hk
  refine ⟨fun r hr => ?_, ?_, fun v => (h.spn v).trans ⟨fun hv => hv.mono fun g hg => ?_, fun hv => hv.mono fun g hg => ?_⟩, ?_, ⟨E ++ [(c, cf n row)], ⟨?_, ?_⟩, ?_, ?_⟩, ?_⟩
  · rcases List.mem_append.mp hr with g | g
    · exact h.len r (List.mem_append_left _ g)
    · rcases List.mem_cons.mp g with g | g
      · rw [g]
        exact h.len row (List.mem_append_right _ hrow)
      · obtain ⟨x, _, rfl⟩ := List.mem_map.mp g
        exact elm_len
  · rw [← h.cnt]
    simp only [List.length_append, List.length_cons, List.length_map]
    omega
  · obtain ⟨x, hx, rfl⟩ := hg
    have r1 : Spn (inL n (A ++ row :: (B ++ C).map (elm n c row))) (cf n row) := Spn.gen ⟨row, List.mem_append_right _ List.mem_cons_self, rfl⟩
    rcases hin x hx with g | g | g
    · exact Spn.gen ⟨x, List.mem_append_left _ g, rfl⟩
    · rw [g]
      exact r1
    · have r2 : Spn (inL n (A ++ row :: (B ++ C).map (elm n c row))) (cf n (elm n c row x)) := Spn.gen ⟨_, List.mem_append_right _ (List.mem_cons_of_mem _ (List.mem_map_of_mem g)), rfl⟩
      exact (Spn.closed _ _ (x.getD c 0 / row.getD c 0) r2 r1).cong fun k => by
        rw [cf_elm]
        grind
  · obtain ⟨x, hx, rfl⟩ := hg
    have r1 : Spn (inL n (A ++ (B ++ row :: C))) (cf n row) := Spn.gen ⟨row, List.mem_append_right _ hrow, rfl⟩
    rcases List.mem_append.mp hx with g | g
    · exact Spn.gen ⟨x, List.mem_append_left _ g, rfl⟩
    · rcases List.mem_cons.mp g with g | g
      · rw [g]
        exact r1
      · obtain ⟨y, hy, rfl⟩ := List.mem_map.mp g
        have r2 : Spn (inL n (A ++ (B ++ row :: C))) (cf n y) := Spn.gen ⟨y, List.mem_append_right _ (hBC y hy), rfl⟩
        exact (Spn.closed _ _ (-(y.getD c 0 / row.getD c 0)) r2 r1).cong fun k => by rw [cf_elm]
  · simp only [List.length_append, List.length_cons]
    omega
  · rw [List.pairwise_append]
    refine ⟨e1.1, List.pairwise_singleton _ _, fun p hp q hq => ?_⟩
    rw [List.mem_singleton.mp hq]
    exact e3 p hp
  · intro p hp
    rcases List.mem_append.mp hp with g | g
    · exact e1.2 p g
    · rw [List.mem_singleton.mp g]
      exact ld
  · rw [List.map_append, e2, show A ++ row :: (B ++ C).map (elm n c row) = (A ++ [row]) ++ (B ++ C).map (elm n c row) by simp, List.take_left' (by simp), List.map_append]
    rfl
  · intro p hp
    rcases List.mem_append.mp hp with g | g
    · have := e3 p g
      omega
    · rw [List.mem_singleton.mp g]
      exact Nat.lt_succ_self c
  · rw [show A ++ row :: (B ++ C).map (elm n c row) = (A ++ [row]) ++ (B ++ C).map (elm n c row) by simp, List.drop_left' (by simp)]
    intro r hr k hk
    obtain ⟨x, hx, rfl⟩ := List.mem_map.mp hr
    rw [elm_at (by omega)]
    rcases Nat.lt_or_ge k c with g | g
    · rw [hlow x (hBC x hx) k g, hlow row hrow k g]
      grind
    · have : k = c := by omega
      subst this
      grind
theorem RI.done {n f : Nat} {rows0 rows : List (List Rat)} (h : RI n rows0 rows n f) : RankIs (Spn (inL n rows0)) f := by
  obtain ⟨E, e1, e2, e3⟩ := h.ech
  have hlen : E.length = f := by
    have := congrArg List.length e2
    rw [List.length_map, List.length_map, List.length_take] at this
    have := h.few
    omega
  have hE : ∀ p ∈ E, ∃ r ∈ rows.take f, cf n r = p.2 := fun p hp => by
    have : p.2 ∈ (rows.take f).map (cf n) := by
      rw [← e2]
      exact List.mem_map_of_mem hp
    obtain ⟨r, hr, e⟩ := List.mem_map.mp this
    exact ⟨r, hr, e⟩
  refine ⟨E, e1, fun p hp => ?_, fun v c hv hc => ?_, hlen⟩
  · obtain ⟨r, hr, e⟩ := hE p hp
    rw [h.spn, ← e]
    exact Spn.gen ⟨r, List.mem_of_mem_take hr, rfl⟩
  · have hv2 : Spn (inR E) v := ((h.spn v).mp hv).mono fun g hg => by
      obtain ⟨r, hr, rfl⟩ := hg
      rw [← List.take_append_drop f rows] at hr
      rcases List.mem_append.mp hr with g | g
      · have : cf n r ∈ E.map (·.2) := by
          rw [e2]
          exact List.mem_map_of_mem g
        obtain ⟨p, hp, e⟩ := List.mem_map.mp this
        exact Spn.gen ⟨p, hp, e⟩
      · refine Spn.zero.cong fun k => ?_
        unfold cf
        split
        · rename_i hk
          exact (h.low r g k hk).symm
        · rfl
    rcases e1.lead hv2 with z | ⟨p, hp, hl⟩
    · exact absurd (z c) hc.1
    · exact ⟨p, hp, hl.uniq hc⟩
/-- a row with a mark behind it -/
def mrk (g : List Rat) (i n : Nat) : List Rat := g ++ (List.range n).map fun k => if k = i then (1 : Rat) else 0
theorem cf_mrk {M : Nat} {g : List Rat} (h : g.length = M) (i n : Nat) : cf M (mrk g i n) = cf M g := funext fun k => by
  unfold cf mrk
  by_cases hk : k < M
  · rw [if_pos hk, if_pos hk, List.getD_eq_getElem?_getD, List.getD_eq_getElem?_getD, List.getElem?_append_left (by omega)]
  · rw [if_neg hk, if_neg hk]
theorem mrk_gs {m : Nat} {g : List Rat} (h : Gs m g) (hl : m ≤ g.length) (i n : Nat) : Gs m (mrk g i n) := by
  refine ⟨fun x hx => ?_, fun k hk => ?_⟩
  · rcases List.mem_append.mp hx with hx | hx
    · exact h.1 x hx
    · obtain ⟨k, _, rfl⟩ := List.mem_map.mp hx
      split
      · exact ⟨12, by rw [Rat.one_mul]; rfl, by decide⟩
      · exact ⟨0, by rw [Rat.zero_mul]; rfl, by decide⟩
  · unfold mrk
    rw [List.getD_eq_getElem?_getD, List.getElem?_append_left (by omega), ← List.getD_eq_getElem?_getD]
    exact h.2 k hk
/-- what is kept behind some equations, without a conflict -/
structure SI (m W : Nat) (done : List (List Rat)) (kept : List (Nat × List Rat)) : Prop where
  ki : KI m W kept
  jb : JB (jb kept.length) kept
  s1 : ∀ p ∈ kept, Spn (inL (m + 1) done) (cf (m + 1) p.2)
  s2 : ∀ g ∈ done, Spn (inL (m + 1) (kept.map (·.2))) (cf (m + 1) g)
theorem SI.start {m W : Nat} : SI m W [] [] := ⟨⟨(fun _ h => nomatch h), (fun _ h => nomatch h), (fun _ h => nomatch h), List.Pairwise.nil, (fun _ h => nomatch h)⟩, ⟨1, Nat.one_pos, by decide, fun _ h => nomatch h⟩, (fun _ h => nomatch h), (fun _ h => nomatch h)⟩
theorem SI.row {m W i n : Nat} {done : List (List Rat)} {kept : List (Nat × List Rat)} (h : SI m W done kept) {g : List Rat} (hg : g.length = m + 1) (hW : m + 1 + n = W) :
    (red kept (mrk g i n)).length = W ∧ (∃ v, Spn (inL (m + 1) (kept.map (·.2))) v ∧ ∀ k, cf (m + 1) (red kept (mrk g i n)) k = cf (m + 1) g k + v k) ∧ ∀ p ∈ kept, (red kept (mrk g i n)).getD p.1 0 = 0 := by
  have hl : (mrk g i n).length = W := by
    unfold mrk
    rw [List.length_append, List.length_map, List.length_range]
    omega
  refine ⟨red_len h.ki.len hl, ?_, red_nought h.ki hl⟩
  obtain ⟨v, v1, v2⟩ := red_spn (M := m + 1) h.ki.len hl
  refine ⟨v, v1, fun k => ?_⟩
  rw [v2 k, cf_mrk hg]
theorem SI.some {m W i n : Nat} {done : List (List Rat)} {kept : List (Nat × List Rat)} (h : SI m W done kept) {g : List Rat} (hg : g.length = m + 1) (hW : m + 1 + n = W) (hb : Gs m g) (hk : kept.length ≤ 6) : ∃ D : Nat, 0 < D ∧ D < 2 ^ (Tp.jb kept.length) ∧ (∀ p ∈ kept, ∀ x ∈ p.2, ∃ N : Int, x * (D : Rat) = (N : Rat) ∧ N.natAbs < 2 ^ (Tp.jb kept.length)) ∧
    ∀ j ≤ kept.length, ∀ x ∈ red (kept.take j) (mrk g i n), ∃ N : Int, x * ((12 * D : Nat) : Rat) = (N : Rat) ∧ N.natAbs < 2 ^ (Tp.jb kept.length + 12) := by
  obtain ⟨D, d0, d1, d2⟩ := h.jb
  have hl : (mrk g i n).length = W := by
    unfold mrk
    rw [List.length_append, List.length_map, List.length_range]
    omega
  have hs := mrk_gs hb (by omega) i n
  refine ⟨D, d0, d1, d2, fun j hj x hx => ?_⟩
  obtain ⟨N, n1, n2⟩ := red_jb h.ki d2 (kept.take j) (mrk g i n) (2 ^ 11) (fun p hp => List.mem_of_mem_take hp) (h.ki.apart.sublist (List.take_sublist _ _)) hl (fun x hx => by
    obtain ⟨N, n1, n2⟩ := hs.1 x hx
    refine ⟨N * (D : Int), ?_, ?_⟩
    · rw [Rat.natCast_mul, Rat.intCast_mul, ← n1, show ((12 : Nat) : Rat) = 12 from rfl]
      show x * (12 * (D : Rat)) = x * 12 * (D : Rat)
      grind
    · rw [Int.natAbs_mul, Int.natAbs_natCast, Nat.mul_comm]
      exact Nat.mul_lt_mul'' d1 n2) (fun p hp => hs.2 p.1 (h.ki.lt p (List.mem_of_mem_take hp))) x hx
  refine ⟨N, n1, Nat.lt_of_lt_of_le n2 ?_⟩
  rw [Nat.pow_add]
  refine Nat.mul_le_mul_left _ ?_
  rw [List.length_take]
  have : (2 : Nat) ^ 12 = 4096 := rfl
  have : (2 : Nat) ^ 11 = 2048 := rfl
  omega
theorem bd_over {D n : Nat} {x : Rat} {N : Int} (h0 : 0 < D) (h1 : D < 2 ^ n) (e : x * (D : Rat) = (N : Rat)) (b : N.natAbs < 2 ^ n) : Bd n x := by
  have e1 : x = Rat.divInt N (D : Int) := by
    rw [Rat.divInt_eq_div]
    show x = (N : Rat) / (D : Rat)
    rw [← e]
    have := natCast_ne h0
    grind
  rw [e1]
  exact bd_of (by omega) b (by rw [Int.natAbs_natCast]; exact h1)
theorem SI.bits {m W i n : Nat} {done : List (List Rat)} {kept : List (Nat × List Rat)} (h : SI m W done kept) {g : List Rat} (hg : g.length = m + 1) (hW : m + 1 + n = W) (hb : Gs m g) (hk : kept.length ≤ 6) : (∀ p ∈ kept, ∀ x ∈ p.2, Bd 1000 x) ∧ ∀ j ≤ kept.length, ∀ x ∈ red (kept.take j) (mrk g i n), Bd 1000 x := by
  obtain ⟨D, d0, d1, d2, d3⟩ := h.some (i := i) hg hW hb hk
  have hj := jb_le hk
  refine ⟨fun p hp x hx => ?_, fun j hj2 x hx => ?_⟩
  · obtain ⟨N, n1, n2⟩ := d2 p hp x hx
    exact (bd_over d0 d1 n1 n2).up (by omega)
  · obtain ⟨N, n1, n2⟩ := d3 j hj2 x hx
    refine (bd_over (n := Tp.jb kept.length + 12) (by omega) ?_ n1 n2).up (by omega)
    rw [Nat.pow_add]
    have : (2 : Nat) ^ 12 = 4096 := rfl
    omega
theorem SI.holds {m W i n : Nat} {done : List (List Rat)} {kept : List (Nat × List Rat)} (h : SI m W done kept) {g : List Rat} (hg : g.length = m + 1) (hW : m + 1 + n = W) {pt : Nat → Rat} (hp : ∀ r ∈ done ++ [g], sN (fun k => cf (m + 1) r k * pt k) m = cf (m + 1) r m)
    (hz : ∀ k < m, (red kept (mrk g i n)).getD k 0 = 0) : (red kept (mrk g i n)).getD m 0 = 0 := by
  obtain ⟨_, ⟨v, v1, v2⟩, _⟩ := h.row (i := i) hg hW
  have hs : Spn (inL (m + 1) (done ++ [g])) (cf (m + 1) (red kept (mrk g i n))) := by
    have a1 : Spn (inL (m + 1) (done ++ [g])) (cf (m + 1) g) := Spn.gen ⟨g, List.mem_append_right _ List.mem_cons_self, rfl⟩
    have a2 : Spn (inL (m + 1) (done ++ [g])) v := v1.mono fun x hx => by
      obtain ⟨r, hr, rfl⟩ := hx
      obtain ⟨p, hp, rfl⟩ := List.mem_map.mp hr
      exact (h.s1 p hp).mono fun y hy => by
        obtain ⟨r, hr, rfl⟩ := hy
        exact Spn.gen ⟨r, List.mem_append_left _ hr, rfl⟩
    exact (a1.addv a2).cong fun k => (v2 k).symm
  have e := spn_holds (m := m) (pt := pt) (fun x hx => by
    obtain ⟨r, hr, rfl⟩ := hx
    exact hp r hr) hs
  rw [sN_none (fun k hk => by
    have : cf (m + 1) (red kept (mrk g i n)) k = 0 := by
      unfold cf
      rw [if_pos (by omega)]
      exact hz k hk
    rw [this]
    grind)] at e
  have e2 : cf (m + 1) (red kept (mrk g i n)) m = (red kept (mrk g i n)).getD m 0 := by
    unfold cf
    exact if_pos (by omega)
  rw [← e2]
  exact e.symm
theorem SI.drop {m W i n : Nat} {done : List (List Rat)} {kept : List (Nat × List Rat)} (h : SI m W done kept) {g : List Rat} (hg : g.length = m + 1) (hW : m + 1 + n = W) (hz : ∀ k < m + 1, (red kept (mrk g i n)).getD k 0 = 0) : SI m W (done ++ [g]) kept := by
  obtain ⟨_, ⟨v, v1, v2⟩, _⟩ := h.row (i := i) hg hW
  refine ⟨h.ki, h.jb, fun p hp => (h.s1 p hp).mono fun y hy => ?_, fun x hx => ?_⟩
  · obtain ⟨r, hr, rfl⟩ := hy
    exact Spn.gen ⟨r, List.mem_append_left _ hr, rfl⟩
  · rcases List.mem_append.mp hx with hx | hx
    · exact h.s2 x hx
    · rw [List.mem_singleton.mp hx]
      refine (v1.scale (-1)).cong fun k => ?_
      have e := v2 k
      have e0 : cf (m + 1) (red kept (mrk g i n)) k = 0 := by
        unfold cf
        split
        · exact hz k (by assumption)
        · rfl
      rw [e0] at e
      grind
theorem jb_next {D m : Nat} {kept : List (Nat × List Rat)} {r1 : List Rat} {f : Rat} (d0 : 0 < D) (d1 : D < 2 ^ m) (d2 : ∀ p ∈ kept, ∀ x ∈ p.2, ∃ N : Int, x * (D : Rat) = (N : Rat) ∧ N.natAbs < 2 ^ m) (d4 : ∀ x ∈ r1, ∃ N : Int, x * ((12 * D : Nat) : Rat) = (N : Rat) ∧ N.natAbs < 2 ^ (m + 12)) (hf : f ∈ r1) (f0 : f ≠ 0) : ∀ a, JB (2 * m + 13) (kplus kept a (r1.map fun x => x / f)) := by
  intro a
  obtain ⟨F, f1, f2⟩ := d4 f hf
  have hD := natCast_ne (D := 12 * D) (by omega)
  have hF : F ≠ 0 := fun z => by
    subst z
    have z2 : f * ((12 * D : Nat) : Rat) = 0 := f1
    rcases Rat.mul_eq_zero.mp z2 with g | g
    · exact f0 g
    · exact hD g
  obtain ⟨s, s1, s2⟩ : ∃ s : Int, s.natAbs = 1 ∧ ((F.natAbs : Nat) : Int) = s * F := by
    rcases Int.natAbs_eq F with e | e
    · exact ⟨1, rfl, by omega⟩
    · exact ⟨-1, rfl, by omega⟩
  have eF : ((F.natAbs : Nat) : Rat) = (s : Rat) * (f * ((12 * D : Nat) : Rat)) := by
    rw [f1, ← Rat.intCast_mul, ← s2]
    rfl
  have row2 : ∀ x ∈ r1.map (fun x => x / f), ∃ N : Int, x * ((F.natAbs : Nat) : Rat) = (N : Rat) ∧ N.natAbs < 2 ^ (m + 12) := fun z hz => by
    obtain ⟨x, hx, rfl⟩ := List.mem_map.mp hz
    obtain ⟨N, n1, n2⟩ := d4 x hx
    refine ⟨s * N, ?_, by rw [Int.natAbs_mul, s1, Nat.one_mul]; exact n2⟩
    rw [eF, Rat.intCast_mul, ← n1]
    grind
  generalize r1.map (fun x => x / f) = r2 at row2
  have hDF : D * F.natAbs < 2 ^ (2 * m + 13) := by
    have := Nat.mul_lt_mul'' d1 f2
    rw [← Nat.pow_add] at this
    exact Nat.lt_of_lt_of_le this (Nat.pow_le_pow_right (by decide) (by omega))
  refine ⟨D * F.natAbs, Nat.mul_pos d0 (by omega), hDF, fun q hq x hx => ?_⟩
  rcases List.mem_append.mp hq with hq | hq
  · obtain ⟨p, hp, rfl⟩ := List.mem_map.mp hq
    have hx : x ∈ clr a r2 p.2 := hx
    unfold clr at hx
    split at hx
    · obtain ⟨N, n1, n2⟩ := d2 p hp x hx
      refine ⟨N * (F.natAbs : Nat), ?_, ?_⟩
      · rw [Rat.natCast_mul, Rat.intCast_mul, ← n1]
        show x * ((D : Rat) * (F.natAbs : Rat)) = x * (D : Rat) * (F.natAbs : Rat)
        grind
      · rw [Int.natAbs_mul, Int.natAbs_natCast]
        have := Nat.mul_lt_mul'' n2 f2
        rw [← Nat.pow_add] at this
        exact Nat.lt_of_lt_of_le this (Nat.pow_le_pow_right (by decide) (by omega))
    · obtain ⟨y, hy, z, hz, rfl⟩ := zip_mem hx
      obtain ⟨N, n1, n2⟩ := d2 p hp y hy
      obtain ⟨A, a1, a2⟩ := CB.at (d2 p hp) a
      obtain ⟨M, m1, m2⟩ := row2 z hz
      refine ⟨N * (F.natAbs : Nat) - A * M, ?_, ?_⟩
      · rw [Rat.natCast_mul, Rat.intCast_sub, Rat.intCast_mul, Rat.intCast_mul, ← n1, ← a1, ← m1]
        show (y - p.2.getD a 0 * z) * ((D : Rat) * (F.natAbs : Rat)) = y * (D : Rat) * (F.natAbs : Rat) - p.2.getD a 0 * (D : Rat) * (z * (F.natAbs : Rat))
        grind
      · have := two_wl (a := m) (b := m + 12) n2 (y := ((F.natAbs : Nat) : Int)) (by rw [Int.natAbs_natCast]; exact f2) A M a2 m2
        rw [show m + (m + 12) + 1 = 2 * m + 13 by omega] at this
        exact this
  · rw [List.mem_singleton.mp hq] at hx
    obtain ⟨M, m1, m2⟩ := row2 x hx
    refine ⟨(D : Int) * M, ?_, ?_⟩
    · rw [Rat.natCast_mul, Rat.intCast_mul, ← m1]
      show x * ((D : Rat) * (F.natAbs : Rat)) = (D : Rat) * (x * (F.natAbs : Rat))
      grind
    · rw [Int.natAbs_mul, Int.natAbs_natCast]
      have := Nat.mul_lt_mul'' d1 m2
      rw [← Nat.pow_add] at this
      exact Nat.lt_of_lt_of_le this (Nat.pow_le_pow_right (by decide) (by omega))
theorem SI.plus {m W i n a : Nat} {done : List (List Rat)} {kept : List (Nat × List Rat)} (h : SI m W done kept) {g : List Rat} (hg : g.length = m + 1) (hW : m + 1 + n = W) (hb : Gs m g) (hk6 : kept.length ≤ 6) (ha : a < m) (h0 : (red kept (mrk g i n)).getD a 0 ≠ 0) :
    SI m W (done ++ [g]) (kplus kept a ((red kept (mrk g i n)).map fun x => x / (red kept (mrk g i n)).getD a 0)) := by
  obtain ⟨l1, ⟨v, v1, v2⟩, n1⟩ := h.row (i := i) hg hW
  obtain ⟨D, d0, d1, d2, d3⟩ := h.some (i := i) hg hW hb hk6
  have d4 := d3 kept.length (Nat.le_refl _)
  rw [List.take_length] at d4
  clear d3
  generalize red kept (mrk g i n) = r1 at *
  have hr2 : ∀ k, (r1.map fun x => x / r1.getD a 0).getD k 0 = r1.getD k 0 / r1.getD a 0 := fun k => by
    rw [List.getD_eq_getElem?_getD, List.getElem?_map, List.getD_eq_getElem?_getD (l := r1) (i := k)]
    cases r1[k]? with
    | none => show (0 : Rat) = 0 / _; grind
    | some x => rfl
  have mem : r1.getD a 0 ∈ r1 := by
    rcases getD_or (r := r1) (l := a) with e | e
    · exact absurd e h0
    · exact e
  have jn := jb_next d0 d1 d2 d4 mem h0
  have l2 : (r1.map fun x => x / r1.getD a 0).length = W := by rw [List.length_map]; exact l1
  have e1 : (r1.map fun x => x / r1.getD a 0).getD a 0 = 1 := by
    rw [hr2]
    grind
  have e0 : ∀ p ∈ kept, (r1.map fun x => x / r1.getD a 0).getD p.1 0 = 0 := fun p hp => by
    rw [hr2, n1 p hp]
    grind
  have cfr : ∀ k, cf (m + 1) (r1.map fun x => x / r1.getD a 0) k = (1 / r1.getD a 0) * cf (m + 1) r1 k := fun k => by
    unfold cf
    split
    · rw [hr2]
      grind
    · grind
  generalize (r1.map fun x => x / r1.getD a 0) = r2 at *
  obtain ⟨k1, k2, k3⟩ := kplus_spn (M := m + 1) h.ki (a := a) l2
  have kl : (kplus kept a r2).length = kept.length + 1 := by
    unfold kplus
    rw [List.length_append, List.length_map]
    rfl
  refine ⟨h.ki.plus ha l2 e1 e0, by rw [kl]; exact jn a, fun x hx => ?_, fun x hx => ?_⟩
  · refine (k3 x hx).mono fun y hy => ?_
    obtain ⟨r, hr, rfl⟩ := hy
    have dn : ∀ w, Spn (inL (m + 1) done) w → Spn (inL (m + 1) (done ++ [g])) w := fun w hw => hw.mono fun y hy => by
      obtain ⟨r, hr, rfl⟩ := hy
      exact Spn.gen ⟨r, List.mem_append_left _ hr, rfl⟩
    rcases List.mem_append.mp hr with hr | hr
    · obtain ⟨p, hp, rfl⟩ := List.mem_map.mp hr
      exact dn _ (h.s1 p hp)
    · rw [List.mem_singleton.mp hr]
      have a1 : Spn (inL (m + 1) (done ++ [g])) (cf (m + 1) g) := Spn.gen ⟨g, List.mem_append_right _ List.mem_cons_self, rfl⟩
      have a2 : Spn (inL (m + 1) (done ++ [g])) v := v1.mono fun x hx => by
        obtain ⟨r, hr, rfl⟩ := hx
        obtain ⟨p, hp, rfl⟩ := List.mem_map.mp hr
        exact dn _ (h.s1 p hp)
      exact ((a1.addv a2).scale (1 / r1.getD a 0)).cong fun k => by rw [cfr k, v2 k]
  · have up : ∀ w, Spn (inL (m + 1) (kept.map (·.2))) w → Spn (inL (m + 1) ((kplus kept a r2).map (·.2))) w := fun w hw => hw.mono fun y hy => by
      obtain ⟨r, hr, rfl⟩ := hy
      obtain ⟨p, hp, rfl⟩ := List.mem_map.mp hr
      exact k1 p hp
    rcases List.mem_append.mp hx with hx | hx
    · exact up _ (h.s2 x hx)
    · rw [List.mem_singleton.mp hx]
      refine (Spn.closed _ _ (-1) (k2.scale (r1.getD a 0)) (up _ v1)).cong fun k => ?_
      rw [cfr k, v2 k]
      grind
/-- the same rows, fewer columns -/
theorem spn_fewer {M N : Nat} (h : N ≤ M) {R : List (List Rat)} {v : VF} (hv : Spn (inL M R) v) : Spn (inL N R) fun k => if k < N then v k else 0 := by
  have h0 : ∀ k, (fun (w : VF) k => if k < N then w k else 0) (fun _ => 0) k = 0 := fun k => by
    show (if k < N then (0 : Rat) else 0) = 0
    split <;> rfl
  have := Spn.map (T := fun (w : VF) k => if k < N then w k else 0) h0 (fun w g c k => by
    show (if k < N then w k + c * g k else 0) = (if k < N then w k else 0) + c * (if k < N then g k else 0)
    split
    · rfl
    · grind) hv
  refine this.mono fun x hx => ?_
  obtain ⟨y, ⟨r, hr, rfl⟩, rfl⟩ := hx
  refine Spn.gen ⟨r, hr, funext fun k => ?_⟩
  show cf N r k = if k < N then cf M r k else 0
  unfold cf
  by_cases hk : k < N
  · rw [if_pos hk, if_pos hk, if_pos (by omega)]
  · rw [if_neg hk, if_neg hk]
theorem cf_fewer {M N : Nat} (h : N ≤ M) (r : List Rat) (k : Nat) : (if k < N then cf M r k else 0) = cf N r k := by
  unfold cf
  by_cases hk : k < N
  · rw [if_pos hk, if_pos hk, if_pos (by omega)]
  · rw [if_neg hk, if_neg hk]
theorem SI.same {m W : Nat} {done : List (List Rat)} {kept : List (Nat × List Rat)} (h : SI m W done kept) (v : VF) : Spn (inL m done) v ↔ Spn (inL m (kept.map (·.2))) v := by
  constructor
  · refine fun hv => hv.mono fun x hx => ?_
    obtain ⟨r, hr, rfl⟩ := hx
    exact (spn_fewer (Nat.le_succ m) (h.s2 r hr)).cong fun k => cf_fewer (Nat.le_succ m) r k
  · refine fun hv => hv.mono fun x hx => ?_
    obtain ⟨r, hr, rfl⟩ := hx
    obtain ⟨p, hp, rfl⟩ := List.mem_map.mp hr
    exact (spn_fewer (Nat.le_succ m) (h.s1 p hp)).cong fun k => cf_fewer (Nat.le_succ m) p.2 k
/-- what a kept unit row says: the point's part -/
theorem SI.worth {m W : Nat} {done : List (List Rat)} {kept : List (Nat × List Rat)} (h : SI m W done kept) {pt : Nat → Rat} (hp : ∀ r ∈ done, sN (fun k => cf (m + 1) r k * pt k) m = cf (m + 1) r m) {p : Nat × List Rat} (hk : p ∈ kept) (hz : ∀ k < m, k ≠ p.1 → p.2.getD k 0 = 0) : p.2.getD m 0 = pt p.1 := by
  have e := spn_holds (m := m) (pt := pt) (fun x hx => by
    obtain ⟨r, hr, rfl⟩ := hx
    exact hp r hr) (h.s1 p hk)
  have hlt := h.ki.lt p hk
  have c1 : ∀ k < m + 1, cf (m + 1) p.2 k = p.2.getD k 0 := fun k hk => if_pos hk
  rw [sN_one hlt (fun k hk hne => by
    rw [c1 k (by omega), hz k hk hne]
    grind), c1 _ (by omega), c1 _ (by omega), h.ki.one p hk] at e
  rw [← e]
  grind
end
theorem bd_quo {a b : Nat} {r s : Rat} (h : Bd a r) (h2 : Bd b s) (h0 : s ≠ 0) : Bd (a + b) (r / s) := by
  have h1 : (r.num : Rat) / ((r.den : Int) : Rat) = r := by rw [← Rat.divInt_eq_div, Rat.num_divInt_den]
  have h3 : (s.num : Rat) / ((s.den : Int) : Rat) = s := by rw [← Rat.divInt_eq_div, Rat.num_divInt_den]
  have d1 : ((r.den : Int) : Rat) ≠ 0 := fun z => den_ne r (Rat.intCast_inj.mp z)
  have d2 : ((s.den : Int) : Rat) ≠ 0 := fun z => den_ne s (Rat.intCast_inj.mp z)
  have e : r / s = Rat.divInt (r.num * s.den) (r.den * s.num) := by
    rw [Rat.divInt_eq_div, Rat.intCast_mul, Rat.intCast_mul]
    generalize (r.num : Rat) = a at *
    generalize (s.num : Rat) = b at *
    generalize ((r.den : Int) : Rat) = c at *
    generalize ((s.den : Int) : Rat) = d at *
    subst h1 h3
    by_cases hb : b = 0
    · subst hb
      grind
    · grind
  rw [e]
  have hn : s.num ≠ 0 := fun z => h0 (by rw [← Rat.num_divInt_den s, z]; simp)
  exact bd_of (Int.mul_ne_zero (den_ne r) hn) (wl h.1 h2.den) (wl h.den h2.1)

section
/-- a row of fractions in a list -/
def RowAt (K : PySem.W.Frag) (H : Hp) (u : Addr) (r : List Rat) : Prop := ∃ ws, H u = some (.lst (fr ws)) ∧ Rx K H ws ∧ ws.map (·.2) = r
theorem RowAt.up {K : PySem.W.Frag} {H H' : Hp} {u : Addr} {r : List Rat} (s : Same H H') (h : RowAt K H u r) : RowAt K H' u r := by
  obtain ⟨ws, h1, h2, h3⟩ := h
  exact ⟨ws, s _ _ h1, h2.same s, h3⟩
theorem over_list {K : PySem.W.Frag} {H H' : Hp} {t D : Addr} {xs : List V} (h : SqL K H t xs) (hne : t ≠ D) (s : ∀ b o, b ≠ D → H b = some o → H' b = some o) : SqL K H' t xs := by
  rcases h with (h | ⟨ob, h⟩) | h
  · exact .inl (.inl (s _ _ hne h))
  · exact .inl (.inr ⟨ob, s _ _ hne h⟩)
  · exact .inr h
theorem RowAt.over {K : PySem.W.Frag} {H H' : Hp} {u D : Addr} {r : List Rat} {ys : List V} (h : RowAt K H u r) (hne : u ≠ D) (hl : H D = some (.lst ys)) (s : ∀ b o, b ≠ D → H b = some o → H' b = some o) : RowAt K H' u r := by
  obtain ⟨ws, h1, h2, h3⟩ := h
  exact ⟨ws, s _ _ hne h1, fun w hw => over_tup (h2 w hw) hl s, h3⟩
theorem RowAt.get {K : PySem.W.Frag} {H : Hp} {r : List Rat} {ws : List (Addr × Rat)} (h2 : Rx K H ws) (h3 : ws.map (·.2) = r) {k : Nat} (hk : k < r.length) : ∃ a, (fr ws)[k]? = some (.ref a) ∧ Fx K H a (r.getD k 0) ∧ r.getD k 0 ∈ r := by
  subst h3
  have e : (ws.map (·.2))[k]? = some ((ws.map (·.2)).getD k 0) := by
    rw [List.getD_eq_getElem?_getD, List.getElem?_eq_getElem hk]
    rfl
  obtain ⟨a, a1, a2⟩ := fr_at e
  exact ⟨a, a1, h2 _ a2, List.mem_of_getElem? e⟩
/-- a pair of a number and a row -/
def PairAt (K : PySem.W.Frag) (D : Addr) (H : Hp) (t : Addr) (p : Nat × List Rat) : Prop := ∃ v, v ≠ D ∧ SqT K H t [.int (p.1 : Int), .ref v] ∧ RowAt K H v p.2
theorem PairAt.up {K : PySem.W.Frag} {D : Addr} {H H' : Hp} {t : Addr} {p : Nat × List Rat} (s : Same H H') (h : PairAt K D H t p) : PairAt K D H' t p := by
  obtain ⟨v, h0, h1, h2⟩ := h
  exact ⟨v, h0, same_tup s h1, h2.up s⟩
theorem PairAt.over {K : PySem.W.Frag} {D : Addr} {H H' : Hp} {t : Addr} {p : Nat × List Rat} {ys : List V} (h : PairAt K D H t p) (hl : H D = some (.lst ys)) (s : ∀ b o, b ≠ D → H b = some o → H' b = some o) : PairAt K D H' t p := by
  obtain ⟨v, h0, h1, h2⟩ := h
  exact ⟨v, h0, over_tup h1 hl s, h2.over h0 hl s⟩
/-- rows and pairs in lists: where each stands, what it is -/
def Ro {α : Type} (ws : List (Addr × α)) : List V := ws.map fun w => V.ref w.1
theorem Ro_len {α : Type} (ws : List (Addr × α)) : (Ro ws).length = ws.length := List.length_map _
theorem Ro_get {α : Type} {ws : List (Addr × α)} {i : Nat} {v : V} (h : (Ro ws)[i]? = some v) : ∃ w, v = .ref w.1 ∧ ws[i]? = some w := by
  rw [show Ro ws = ws.map fun w => V.ref w.1 from rfl, List.getElem?_map] at h
  cases e : ws[i]? with
  | none =>
    rw [e] at h
    cases h
  | some w =>
    rw [e] at h
    exact ⟨w, (Option.some.inj h).symm, rfl⟩
theorem Ro_at {α : Type} {ws : List (Addr × α)} {i : Nat} {w : Addr × α} (h : ws[i]? = some w) : (Ro ws)[i]? = some (.ref w.1) := by
  rw [show Ro ws = ws.map fun w => V.ref w.1 from rfl, List.getElem?_map, h]
  rfl
/-- a comprehension whose elements are things of a kind that may be lists: those of L -/
theorem lc_relD {α : Type} {J : It} {n : Nat} {G : Hp → Prop} {Y : Nat → Hp → V → Hp → Prop} (w : Walk J n G Y) (L : List α) (hL : L.length = n) (hz : n ≤ 1000)
    {g : TG} {te : TE} {vs : List Nat} {σ : L2.St} {H1 : Hp} {D : Addr} {Qd : Hp → Prop} (hD : H1 D = none) (Rel : Hp → Addr → α → Prop) (up : ∀ {H H' t x}, Same H H' → Rel H t x → Rel H' t x) (over : ∀ {H H' t x ys}, Rel H t x → H D = some (.lst ys) → (∀ b o, b ≠ D → H b = some o → H' b = some o) → Rel H' t x) (hG : ∀ H, Same H1 H → G H)
    (hs : ∀ i r x H H' (k : V → Hp → Prop), L[i]? = some r → Same H1 H → (∃ ys, H D = some (.lst ys)) → Y i H x H' → (∀ t H4, Same H H4 → Rel H4 t r → k (.ref t) H4) → g x (wipe σ vs) H' fun σ2 H2 => wipe σ2 vs = wipe σ vs ∧ te σ2 H2 k)
    (hd : ∀ H (ws : List (Addr × α)), Same H1 H → H D = some (.lst (Ro ws)) → (∀ w ∈ ws, Rel H w.1 w.2) → ws.map (·.2) = L → Qd H) :
    ∃ W : Nat → Nat → Hp → Prop, (∃ m, W 0 m (upd H1 D (.lst []))) ∧ ∀ i m H, W i m H →
      (J.stop i H ∧ Qd H) ∨ (J.go i H ∧ ∃ Nx : Hp → Prop, (∀ H', Nx H' → ∃ m', m' < m ∧ W (i + 1) m' H') ∧ ∀ x H', J.yld i H x H' → g x (wipe σ vs) H' fun σ2 H2 => wipe σ2 vs = wipe σ vs ∧ tYes σ2 H2 fun b H3 =>
        if b = true then te σ2 H3 fun y H4 => ∃ acc, H4 D = some (.lst acc) ∧ acc.length < sizeLine ∧ Nx (upd H4 D (.lst (acc ++ [y]))) else Nx H3) := by
  subst hL
  refine lc_it w (fun i H => Same H1 H ∧ ∃ ws : List (Addr × α), H D = some (.lst (Ro ws)) ∧ (∀ w ∈ ws, Rel H w.1 w.2) ∧ ws.map (·.2) = L.take i) ⟨same_upd hD, [], upd_same, (fun _ z => nomatch z), rfl⟩ (fun i H _ h => hG H h.1) ?_ ?_
  · rintro i x H H' hi ⟨s1, ws, e1, r1, m1⟩ y
    have hr : L[i]? = some L[i] := List.getElem?_eq_getElem hi
    have q := hs i L[i] x H H' (fun y H4 => ∃ acc, H4 D = some (.lst acc) ∧ acc.length < sizeLine ∧ (fun H => Same H1 H ∧ ∃ ws : List (Addr × α), H D = some (.lst (Ro ws)) ∧ (∀ w ∈ ws, Rel H w.1 w.2) ∧ ws.map (·.2) = L.take (i + 1)) (upd H4 D (.lst (acc ++ [y])))) hr s1 ⟨_, e1⟩ y (fun t H4 s4 f4 => ?_)
    · refine Eq.mp (congrArg (g x (wipe σ vs) H') ?_) q
      funext σ2 H2
      simp [tYes]
    · have e4 := s4 _ _ e1
      have hlen : ws.length = (L.take i).length := by rw [← m1, List.length_map]
      rw [List.length_take] at hlen
      refine ⟨_, e4, ?_, fun b o e => ?_, ws ++ [(t, L[i])], ?_, fun v hv => ?_, ?_⟩
      · rw [Ro_len]
        exact small1000 (by omega)
      · rw [upd_ne (ne_of_none e hD)]
        exact s4 _ _ (s1 _ _ e)
      · rw [upd_same]
        unfold Ro
        rw [List.map_append]
        rfl
      · rcases List.mem_append.mp hv with h | h
        · exact over (up s4 (r1 v h)) e4 fun b o hb e => by rw [upd_ne hb]; exact e
        · rw [List.mem_singleton.mp h]
          exact over f4 e4 fun b o hb e => by rw [upd_ne hb]; exact e
      · rw [List.map_append, m1, List.take_add_one, hr]
        rfl
  · rintro H ⟨s1, ws, e1, r1, m1⟩
    rw [List.take_length] at m1
    exact hd H ws s1 e1 r1 m1
end
abbrev rLenS (K : PySem.W.Frag) : List V → Hp → VK → Prop := fun xs H Q => ∃ p ys, xs = [V.ref p] ∧ (SqL K H p ys ∨ SqT K H p ys) ∧ Q (V.int (ys.length : Nat)) H
section
def PairA (K : PySem.W.Frag) (H : Hp) (t : Addr) (p : Nat × List Rat) : Prop := ∃ v, SqT K H t [.int (p.1 : Int), .ref v] ∧ RowAt K H v p.2
theorem PairA.up {K : PySem.W.Frag} {H H' : Hp} {t : Addr} {p : Nat × List Rat} (s : Same H H') (h : PairA K H t p) : PairA K H' t p := by
  obtain ⟨v, h1, h2⟩ := h
  exact ⟨v, same_tup s h1, h2.up s⟩
theorem PairAt.any {K : PySem.W.Frag} {D : Addr} {H : Hp} {t : Addr} {p : Nat × List Rat} (h : PairAt K D H t p) : PairA K H t p := by
  obtain ⟨v, _, h1, h2⟩ := h
  exact ⟨v, h1, h2⟩
def KeptAt (K : PySem.W.Frag) (H : Hp) (u : Addr) (kept : List (Nat × List Rat)) : Prop := ∃ ks : List (Addr × (Nat × List Rat)), SqL K H u (Ro ks) ∧ (∀ w ∈ ks, PairA K H w.1 w.2) ∧ ks.map (·.2) = kept
theorem KeptAt.up {K : PySem.W.Frag} {H H' : Hp} {u : Addr} {kept : List (Nat × List Rat)} (s : Same H H') (h : KeptAt K H u kept) : KeptAt K H' u kept := by
  obtain ⟨ks, h1, h2, h3⟩ := h
  exact ⟨ks, s.seq h1, fun w hw => (h2 w hw).up s, h3⟩
theorem red_snoc {kept : List (Nat × List Rat)} {j : Nat} {p : Nat × List Rat} {row : List Rat} (h : kept[j]? = some p) : red (kept.take (j + 1)) row = clr p.1 p.2 (red (kept.take j) row) := by
  unfold red
  rw [List.take_add_one, h, List.foldl_append]
  rfl
theorem map_at {α : Type} {ws : List (Addr × α)} {L : List α} (h : ws.map (·.2) = L) {i : Nat} {w : Addr × α} (hw : ws[i]? = some w) : L[i]? = some w.2 := by
  rw [← h, List.getElem?_map, hw]
  rfl
end
section
theorem RowAt.ne {K : PySem.W.Frag} {H : Hp} {u D : Addr} {r : List Rat} (h : RowAt K H u r) (hD : H D = none) : u ≠ D := fun e => by
  obtain ⟨ws, h1, _⟩ := h
  rw [e, hD] at h1
  cases h1
theorem cutV_part {xs : List V} {i n : Nat} (h : i + n ≤ xs.length) : cutV xs (some ((i : Nat) : Int)) (some ((i + n : Nat) : Int)) = (xs.drop i).take n := by
  unfold cutV
  rw [HT.sIx_nat, HT.sIx_nat, show min i xs.length = i by omega, show min (i + n) xs.length = i + n by omega, show i + n - i = n by omega]
theorem cutV_to {xs : List V} {n : Nat} (h : n ≤ xs.length) : cutV xs none (some ((n : Nat) : Int)) = xs.take n := by
  unfold cutV
  rw [HT.sIx_nat, HT.sIx_none, show min n xs.length = n by omega]
  show (xs.drop 0).take (n - 0) = xs.take n
  rw [List.drop_zero, Nat.sub_zero]
theorem cutV_from {xs : List V} {n : Nat} (h : n ≤ xs.length) : cutV xs (some ((n : Nat) : Int)) none = xs.drop n := by
  unfold cutV
  rw [HT.sIx_nat, HT.sIx_none, show min n xs.length = n by omega]
  show (xs.drop n).take (xs.length - n) = xs.drop n
  exact List.take_of_length_le (by rw [List.length_drop]; exact Nat.le_refl _)
theorem fr_take (ws : List (Addr × Rat)) (n : Nat) : fr (ws.take n) = (fr ws).take n := List.map_take
theorem fr_drop (ws : List (Addr × Rat)) (n : Nat) : fr (ws.drop n) = (fr ws).drop n := List.map_drop
theorem JB.bd {m : Nat} {kept : List (Nat × List Rat)} (h : JB m kept) {p : Nat × List Rat} (hp : p ∈ kept) : ∀ x ∈ p.2, Bd m x := fun x hx => by
  obtain ⟨D, d0, d1, d2⟩ := h
  obtain ⟨N, n1, n2⟩ := d2 p hp x hx
  exact bd_over d0 d1 n1 n2
end
/-- a comprehension, perhaps with a condition, whose elements are Booleans, all of them told -/
theorem lc_bl {J : It} {n : Nat} {G : Hp → Prop} {Y : Nat → Hp → V → Hp → Prop} (w : Walk J n G Y) (L : List (Option Bool)) (hL : L.length = n) (hz : n ≤ 1000)
    {g : TG} {tt : TT} {te : TE} {vs : List Nat} {σ : L2.St} {H1 : Hp} {D : Addr} {Qd : Hp → Prop} (hD : H1 D = none) (hG : ∀ H, Same H1 H → G H)
    (hs : ∀ i c x H H' (kk : V → Hp → Prop) (kn : Hp → Prop), L[i]? = some c → Same H1 H → Y i H x H' → (∀ b, c = some b → ∀ H4, Same H H4 → kk (.bl b) H4) → (c = none → ∀ H4, Same H H4 → kn H4) → g x (wipe σ vs) H' fun σ2 H2 => wipe σ2 vs = wipe σ vs ∧ tt σ2 H2 fun b H3 => if b = true then te σ2 H3 kk else kn H3)
    (hd : ∀ H, Same H1 H → H D = some (.lst ((L.filterMap id).map V.bl)) → Qd H) :
    ∃ W : Nat → Nat → Hp → Prop, (∃ m, W 0 m (upd H1 D (.lst []))) ∧ ∀ i m H, W i m H →
      (J.stop i H ∧ Qd H) ∨ (J.go i H ∧ ∃ Nx : Hp → Prop, (∀ H', Nx H' → ∃ m', m' < m ∧ W (i + 1) m' H') ∧ ∀ x H', J.yld i H x H' → g x (wipe σ vs) H' fun σ2 H2 => wipe σ2 vs = wipe σ vs ∧ tt σ2 H2 fun b H3 =>
        if b = true then te σ2 H3 fun y H4 => ∃ acc, H4 D = some (.lst acc) ∧ acc.length < sizeLine ∧ Nx (upd H4 D (.lst (acc ++ [y]))) else Nx H3) := by
  subst hL
  refine lc_it w (fun i H => Same H1 H ∧ H D = some (.lst (((L.take i).filterMap id).map V.bl)) ∧ ((L.take i).filterMap id).length ≤ i) ⟨same_upd hD, upd_same, Nat.le_refl _⟩ (fun i H _ h => hG H h.1) ?_ ?_
  · rintro i x H H' hi ⟨s1, e1, l1⟩ y
    have hr : L[i]? = some L[i] := List.getElem?_eq_getElem hi
    have tk : (L.take (i + 1)).filterMap id = (L.take i).filterMap id ++ [L[i]].filterMap id := by
      rw [List.take_add_one, hr, List.filterMap_append]
      rfl
    refine hs i L[i] x H H' _ _ hr s1 y (fun b hc H4 s4 => ?_) (fun hc H4 s4 => ?_)
    · refine ⟨_, s4 _ _ e1, ?_, fun b o e => ?_, ?_, ?_⟩
      · rw [List.length_map]
        exact small1000 (by omega)
      · rw [upd_ne (ne_of_none e hD)]
        exact s4 _ _ (s1 _ _ e)
      · rw [upd_same, tk, hc, List.map_append]
        rfl
      · rw [tk, hc, List.length_append]
        exact Nat.succ_le_succ l1
    · rw [tk, hc]
      refine ⟨s1.trans s4, ?_, ?_⟩
      · rw [show [(none : Option Bool)].filterMap id = [] from rfl, List.append_nil]
        exact s4 _ _ e1
      · rw [show [(none : Option Bool)].filterMap id = [] from rfl, List.append_nil]
        omega
  · rintro H ⟨s1, e1, _⟩
    rw [List.take_length] at e1
    exact hd H s1 e1
/-- an equation: its coefficients, its bound -/
def EqAt (K : PySem.W.Frag) (H : Hp) (t : Addr) (e : List Rat × Rat) : Prop := ∃ u v, SqT K H t [.ref u, .ref v] ∧ RowAt K H u e.1 ∧ Fx K H v e.2
theorem EqAt.up {K : PySem.W.Frag} {H H' : Hp} {t : Addr} {e : List Rat × Rat} (s : Same H H') (h : EqAt K H t e) : EqAt K H' t e := by
  obtain ⟨u, v, h1, h2, h3⟩ := h
  exact ⟨u, v, same_tup s h1, h2.up s, h3.same s⟩
abbrev rListOf (K : PySem.W.Frag) : List V → Hp → VK → Prop := fun xs H Q => ∃ p ys, xs = [V.ref p] ∧ (SqL K H p ys ∨ SqT K H p ys) ∧ ∀ (l : Addr), H l = none → Q (V.ref l) (upd H l (HO.lst ys))

section
/-- a comprehension, perhaps with a condition, whose elements are plain values, all of them told -/
theorem lc_vv {J : It} {n : Nat} {G : Hp → Prop} {Y : Nat → Hp → V → Hp → Prop} (w : Walk J n G Y) (L : List (Option V)) (hL : L.length = n) (hz : n ≤ 1000)
    {g : TG} {tt : TT} {te : TE} {vs : List Nat} {σ : L2.St} {H1 : Hp} {D : Addr} {Qd : Hp → Prop} (hD : H1 D = none) (hG : ∀ H, Same H1 H → G H)
    (hs : ∀ i c x H H' (kk : V → Hp → Prop) (kn : Hp → Prop), L[i]? = some c → Same H1 H → Y i H x H' → (∀ b, c = some b → ∀ H4, Same H H4 → kk b H4) → (c = none → ∀ H4, Same H H4 → kn H4) → g x (wipe σ vs) H' fun σ2 H2 => wipe σ2 vs = wipe σ vs ∧ tt σ2 H2 fun b H3 => if b = true then te σ2 H3 kk else kn H3)
    (hd : ∀ H, Same H1 H → H D = some (.lst (L.filterMap id)) → Qd H) :
    ∃ W : Nat → Nat → Hp → Prop, (∃ m, W 0 m (upd H1 D (.lst []))) ∧ ∀ i m H, W i m H →
      (J.stop i H ∧ Qd H) ∨ (J.go i H ∧ ∃ Nx : Hp → Prop, (∀ H', Nx H' → ∃ m', m' < m ∧ W (i + 1) m' H') ∧ ∀ x H', J.yld i H x H' → g x (wipe σ vs) H' fun σ2 H2 => wipe σ2 vs = wipe σ vs ∧ tt σ2 H2 fun b H3 =>
        if b = true then te σ2 H3 fun y H4 => ∃ acc, H4 D = some (.lst acc) ∧ acc.length < sizeLine ∧ Nx (upd H4 D (.lst (acc ++ [y]))) else Nx H3) := by
  subst hL
  refine lc_it w (fun i H => Same H1 H ∧ H D = some (.lst ((L.take i).filterMap id)) ∧ ((L.take i).filterMap id).length ≤ i) ⟨same_upd hD, upd_same, Nat.le_refl _⟩ (fun i H _ h => hG H h.1) ?_ ?_
  · rintro i x H H' hi ⟨s1, e1, l1⟩ y
    have hr : L[i]? = some L[i] := List.getElem?_eq_getElem hi
    have tk : (L.take (i + 1)).filterMap id = (L.take i).filterMap id ++ [L[i]].filterMap id := by
      rw [List.take_add_one, hr, List.filterMap_append]
      rfl
    refine hs i L[i] x H H' _ _ hr s1 y (fun b hc H4 s4 => ?_) (fun hc H4 s4 => ?_)
    · refine ⟨_, s4 _ _ e1, small1000 (by omega), fun b o e => ?_, ?_, ?_⟩
      · rw [upd_ne (ne_of_none e hD)]
        exact s4 _ _ (s1 _ _ e)
      · rw [upd_same, tk, hc]
        rfl
      · rw [tk, hc, List.length_append]
        exact Nat.succ_le_succ l1
    · rw [tk, hc]
      refine ⟨s1.trans s4, ?_, ?_⟩
      · rw [show [(none : Option V)].filterMap id = [] from rfl, List.append_nil]
        exact s4 _ _ e1
      · rw [show [(none : Option V)].filterMap id = [] from rfl, List.append_nil]
        omega
  · rintro H ⟨s1, e1, _⟩
    rw [List.take_length] at e1
    exact hd H s1 e1
def pdrr (R : List (List Rat)) : PyData := .list (R.map fun r => .list (r.map pdr))
theorem dp_row {K : PySem.W.Frag} {H : Hp} {u : Addr} {r : List Rat} (h : RowAt K H u r) : Dp K H (.ref u) (.list (r.map pdr)) := by
  obtain ⟨ws, h1, h2, rfl⟩ := h
  exact .lst (SqL.of h1) (dpAll h2)
theorem dp_rows {K : PySem.W.Frag} {H : Hp} : ∀ {ws : List (Addr × List Rat)}, (∀ w ∈ ws, RowAt K H w.1 w.2) → DpAll K H (Ro ws) ((ws.map (·.2)).map fun r => .list (r.map pdr))
  | [], _ => .nil
  | w :: ws, h => .cons (dp_row (h w List.mem_cons_self)) (dp_rows fun x hx => h x (List.mem_cons_of_mem _ hx))
theorem shrr (R : List (List Rat)) : PyData.canLayAll0 (R.map fun r => PyData.list (r.map pdr)) = true ∧ PyData.depthAll (R.map fun r => PyData.list (r.map pdr)) ≤ 2 := by
  induction R with
  | nil => decide
  | cons r R ih =>
    have h1 := (shr r).1
    have h2 := (shr r).2
    rw [List.map_cons, PyData.canLayAll0, PyData.depthAll, ih.1, PyData.canLay0, PyData.depth, h1]
    exact ⟨rfl, Nat.max_le.mpr ⟨by omega, ih.2⟩⟩
theorem shrrl (R : List (List Rat)) : SeqAt.shaped (pdrr R) = true := by
  have h1 := (shrr R).1
  have h2 := (shrr R).2
  unfold SeqAt.shaped pdrr
  rw [PyData.canLay0, PyData.depth, h1, decide_eq_true (by omega)]
  rfl
theorem eq_none (R : List (List Rat)) : PyData.eqv (pdrr R) (pdrr []) = decide (R = []) := by
  cases R with
  | nil => rfl
  | cons r R => rfl
def pdis (l : List Int) : PyData := .list (l.map PyData.int)
theorem dp_is {K : PySem.W.Frag} {H : Hp} : ∀ l : List Int, DpAll K H (l.map V.int) (l.map PyData.int)
  | [] => .nil
  | x :: l => .cons (.int x) (dp_is l)
theorem shis (l : List Int) : PyData.canLayAll0 (l.map PyData.int) = true ∧ PyData.depthAll (l.map PyData.int) ≤ 1 := by
  induction l with
  | nil => decide
  | cons r R ih =>
    rw [List.map_cons, PyData.canLayAll0, PyData.depthAll, ih.1]
    exact ⟨rfl, Nat.max_le.mpr ⟨Nat.zero_le 1, ih.2⟩⟩
theorem shisl (l : List Int) : SeqAt.shaped (pdis l) = true := by
  have h1 := (shis l).1
  have h2 := (shis l).2
  unfold SeqAt.shaped pdis
  rw [PyData.canLay0, PyData.depth, h1, decide_eq_true (by omega)]
  rfl
theorem eq_nois (l : List Int) : PyData.eqv (pdis l) (pdis []) = decide (l = []) := by
  cases l with
  | nil => rfl
  | cons r R => rfl
def lb : Nat → Nat
  | 0 => 3
  | c + 1 => 2 * lb c + 1
theorem lb_le {c : Nat} (h : c ≤ 6) : lb c ≤ 300 := by
  have : ∀ c ≤ 6, lb c ≤ 300 := by decide
  exact this c h
theorem split_at {α : Type} {l : List α} {f k : Nat} {x : α} (h : l[k]? = some x) (hf : f ≤ k) : ∃ A B C, l = A ++ (B ++ x :: C) ∧ A.length = f ∧ f + B.length = k := by
  have hk := (List.getElem?_eq_some_iff.mp h).1
  have hx : l[k] = x := (List.getElem?_eq_some_iff.mp h).2
  refine ⟨l.take f, (l.drop f).take (k - f), l.drop (k + 1), ?_, by rw [List.length_take]; omega, by rw [List.length_take, List.length_drop]; omega⟩
  have e1 : l.drop f = (l.drop f).take (k - f) ++ (l.drop f).drop (k - f) := (List.take_append_drop _ _).symm
  rw [List.drop_drop, show f + (k - f) = k by omega, List.drop_eq_getElem_cons hk, hx] at e1
  rw [← e1, List.take_append_drop]
theorem erase_mid {α : Type} {A B C : List α} {x : α} {k : Nat} (h : A.length + B.length = k) : (A ++ (B ++ x :: C)).eraseIdx k = A ++ (B ++ C) := by
  rw [← List.append_assoc, List.eraseIdx_append_of_length_le (by rw [List.length_append]; omega), List.length_append, h, Nat.sub_self, ← List.append_assoc]
  rfl
theorem set_mid {α : Type} {A B : List α} {x y : α} {k : Nat} (h : A.length = k) : (A ++ x :: B).set k y = A ++ y :: B := by
  subst h
  rw [List.set_append_right _ _ (Nat.le_refl _), Nat.sub_self]
  rfl
theorem get_mid {α : Type} {A B : List α} {x : α} {k : Nat} (h : A.length = k) : (A ++ x :: B)[k]? = some x := by
  subst h
  rw [List.getElem?_append_right (Nat.le_refl _), Nat.sub_self]
  rfl
end
/-- every object but one stays -/
def SameX (q : Addr) (H H' : Hp) : Prop := ∀ a o, a ≠ q → H a = some o → H' a = some o
theorem same_ofX {q : Addr} {H0 H1 H2 : Hp} (h : H0 q = none) (s : Same H0 H1) (x : SameX q H1 H2) : Same H0 H2 := fun a o e => x a o (fun z => by rw [z, h] at e; cases e) (s a o e)
theorem SameX.tr {q : Addr} {H H1 H2 : Hp} (h : SameX q H H1) (s : Same H1 H2) : SameX q H H2 := fun a o n e => s a o (h a o n e)
theorem SameX.set {q : Addr} {H H1 : Hp} {o : HO} (h : SameX q H H1) : SameX q H (upd H1 q o) := fun a o2 n e => by
  rw [upd_ne n]
  exact h a o2 n e
theorem rowD_set {K : PySem.W.Frag} {H : Hp} {t D : Addr} {r : List Rat} {xs ys : List V} (h : t ≠ D ∧ RowAt K H t r) (hl : H D = some (.lst xs)) : t ≠ D ∧ RowAt K (upd H D (.lst ys)) t r :=
  ⟨h.1, h.2.over h.1 hl fun b o hb e => by rw [upd_ne hb]; exact e⟩
theorem fx_lit0 {K : PySem.W.Frag} {H : Hp} {a : Addr} (h : H a = some (.tup [.int 0, .int 1])) : Fx K H a 0 := SqT.of h
def wat (ws : List (Addr × List Rat)) (k : Nat) : List Rat := match ws[k]? with
  | some w => w.2
  | none => []
theorem wat_eq {ws : List (Addr × List Rat)} {k : Nat} {w : Addr × List Rat} (h : ws[k]? = some w) : wat ws k = w.2 := by
  unfold wat
  rw [h]
theorem fm_ints (P : Nat → Prop) [DecidablePred P] (f : Nat) : ∀ l : List Nat, (l.map fun i => if P i then none else some (V.int ((f + i : Nat) : Int))).filterMap id = ((l.filter fun i => !decide (P i)).map fun i => ((f + i : Nat) : Int)).map V.int
  | [] => rfl
  | i :: l => by
    have ih := fm_ints P f l
    by_cases h : P i
    · rw [List.map_cons, if_pos h, List.filter_cons_of_neg (by simp [h])]
      exact ih
    · rw [List.map_cons, if_neg h, List.filter_cons_of_pos (by simp [h]), List.map_cons, List.map_cons, ← ih]
      rfl
theorem seqIndex_nat {k n : Nat} (h : k < n) : PySem.seqIndex? (k : Int) n = some k := by
  have e : (if (k : Int) < 0 then (k : Int) + (n : Int) else (k : Int)) = (k : Int) := if_neg (by omega)
  show (if (decide (0 ≤ (if (k : Int) < 0 then (k : Int) + (n : Int) else (k : Int))) && decide ((if (k : Int) < 0 then (k : Int) + (n : Int) else (k : Int)) < (n : Int))) = true then some (if (k : Int) < 0 then (k : Int) + (n : Int) else (k : Int)).toNat else none) = some k
  rw [e, decide_eq_true (show (0 : Int) ≤ (k : Int) by omega), decide_eq_true (show (k : Int) < (n : Int) by omega)]
  rfl
theorem ixN_nat {k n : Nat} (h : k < n) : ixN n (k : Int) = some k := by
  unfold ixN
  rw [if_pos (by omega), if_pos (by omega)]
  rfl
theorem lb_le4 {c : Nat} (h : c ≤ 4) : lb c ≤ 63 := by
  have : ∀ c ≤ 4, lb c ≤ 63 := by decide
  exact this c h
section
def pde (e : List Rat × Rat) : PyData := .tuple [.list (e.1.map pdr), pdr e.2]
def pdes (l : List (List Rat × Rat)) : PyData := .list (l.map pde)
theorem dp_es {K : PySem.W.Frag} {H : Hp} : ∀ {es : List (Addr × (List Rat × Rat))}, (∀ w ∈ es, EqAt K H w.1 w.2) → DpAll K H (Ro es) ((es.map (·.2)).map pde)
  | [], _ => .nil
  | w :: es, h => by
    obtain ⟨u, v, h1, h2, h3⟩ := h w List.mem_cons_self
    exact .cons (.tup h1 (.cons (dp_row h2) (.cons (dpr h3) .nil))) (dp_es fun x hx => h x (List.mem_cons_of_mem _ hx))
theorem shes (l : List (List Rat × Rat)) : PyData.canLayAll0 (l.map pde) = true ∧ PyData.depthAll (l.map pde) ≤ 3 := by
  induction l with
  | nil => decide
  | cons e l ih =>
    have h1 := (shr e.1).1
    have h2 := (shr e.1).2
    rw [List.map_cons, PyData.canLayAll0, PyData.depthAll, ih.1]
    refine ⟨?_, Nat.max_le.mpr ⟨?_, ih.2⟩⟩
    · unfold pde
      simp only [PyData.canLay0, PyData.canLayAll0, h1, pdr, pd2]
      rfl
    · unfold pde
      simp only [PyData.depth, PyData.depthAll, pdr, pd2]
      simp
      omega
theorem shesl (l : List (List Rat × Rat)) : SeqAt.shaped (pdes l) = true := by
  have h1 := (shes l).1
  have h2 := (shes l).2
  unfold SeqAt.shaped pdes
  rw [PyData.canLay0, PyData.depth, h1, decide_eq_true (by omega)]
  rfl
theorem eq_noes (l : List (List Rat × Rat)) : PyData.eqv (pdes l) (pdes []) = decide (l = []) := by
  cases l with
  | nil => rfl
  | cons r R => rfl
/-- an equation in a tuple whose list is not D -/
def EqD (K : PySem.W.Frag) (D : Addr) (H : Hp) (t : Addr) (e : List Rat × Rat) : Prop := ∃ u v, u ≠ D ∧ SqT K H t [.ref u, .ref v] ∧ RowAt K H u e.1 ∧ Fx K H v e.2
theorem EqD.up {K : PySem.W.Frag} {D : Addr} {H H' : Hp} {t : Addr} {e : List Rat × Rat} (s : Same H H') (h : EqD K D H t e) : EqD K D H' t e := by
  obtain ⟨u, v, h0, h1, h2, h3⟩ := h
  exact ⟨u, v, h0, same_tup s h1, h2.up s, h3.same s⟩
theorem EqD.over {K : PySem.W.Frag} {D : Addr} {H H' : Hp} {t : Addr} {e : List Rat × Rat} {ys : List V} (h : EqD K D H t e) (hl : H D = some (.lst ys)) (s : ∀ b o, b ≠ D → H b = some o → H' b = some o) : EqD K D H' t e := by
  obtain ⟨u, v, h0, h1, h2, h3⟩ := h
  exact ⟨u, v, h0, over_tup h1 hl s, h2.over h0 hl s, over_tup h3 hl s⟩
theorem EqD.any {K : PySem.W.Frag} {D : Addr} {H : Hp} {t : Addr} {e : List Rat × Rat} (h : EqD K D H t e) : EqAt K H t e := by
  obtain ⟨u, v, h0, h1, h2, h3⟩ := h
  exact ⟨u, v, h1, h2, h3⟩
/-- a drawn equation: small whole coefficients, its bound that of a point -/
def EqOk (m : Nat) (pts : List Rat) (e : List Rat × Rat) : Prop := e.1.length = m ∧ (∀ x ∈ e.1, ∃ F : Int, x = (F : Rat) ∧ F.natAbs ≤ 2) ∧ e.2 = sN (fun k => e.1.getD k 0 * pts.getD k 0) m
/-- a drawn point -/
def PtOk (m : Nat) (pts : List Rat) : Prop := pts.length = m ∧ ∀ x ∈ pts, (∃ N : Int, x * 12 = (N : Rat) ∧ N.natAbs ≤ 108) ∧ Bd 10 x
theorem sum12 {m : Nat} {cs pts : List Rat} (h1 : ∀ x ∈ cs, ∃ F : Int, x = (F : Rat) ∧ F.natAbs ≤ 2) (h2 : ∀ x ∈ pts, ∃ N : Int, x * 12 = (N : Rat) ∧ N.natAbs ≤ 108) : ∀ n, ∃ N : Int, sN (fun k => cs.getD k 0 * pts.getD k 0) n * 12 = (N : Rat) ∧ N.natAbs ≤ 216 * n := by
  intro n
  induction n with
  | zero => exact ⟨0, by show (0 : Rat) * 12 = _; rw [Rat.zero_mul]; rfl, Nat.zero_le _⟩
  | succ n ih =>
    obtain ⟨N, n1, n2⟩ := ih
    obtain ⟨F, f1, f2⟩ : ∃ F : Int, cs.getD n 0 = (F : Rat) ∧ F.natAbs ≤ 2 := by
      rcases getD_or (r := cs) (l := n) with e | e
      · exact ⟨0, by rw [e]; rfl, by decide⟩
      · exact h1 _ e
    obtain ⟨M, m1, m2⟩ : ∃ N : Int, pts.getD n 0 * 12 = (N : Rat) ∧ N.natAbs ≤ 108 := by
      rcases getD_or (r := pts) (l := n) with e | e
      · exact ⟨0, by rw [e, Rat.zero_mul]; rfl, by decide⟩
      · exact h2 _ e
    refine ⟨N + F * M, ?_, ?_⟩
    · show (sN (fun k => cs.getD k 0 * pts.getD k 0) n + cs.getD n 0 * pts.getD n 0) * 12 = _
      rw [Rat.intCast_add, Rat.intCast_mul, ← n1, ← f1, ← m1]
      grind
    · have a1 := Int.natAbs_add_le N (F * M)
      rw [Int.natAbs_mul] at a1
      have a2 := Nat.mul_le_mul f2 m2
      omega
theorem EqOk.gs {m : Nat} {pts : List Rat} {e : List Rat × Rat} (h : EqOk m pts e) (hp : PtOk m pts) (hm : m ≤ 5) : Gs m (e.1 ++ [e.2]) := by
  obtain ⟨h1, h2, h3⟩ := h
  refine ⟨fun x hx => ?_, fun k hk => ?_⟩
  · rcases List.mem_append.mp hx with g | g
    · obtain ⟨F, f1, f2⟩ := h2 x g
      refine ⟨F * 12, by rw [f1, Rat.intCast_mul]; rfl, ?_⟩
      rw [Int.natAbs_mul]
      show F.natAbs * 12 < 2048
      omega
    · rw [List.mem_singleton.mp g, h3]
      obtain ⟨N, n1, n2⟩ := sum12 (m := m) h2 (fun x hx => (hp.2 x hx).1) m
      exact ⟨N, n1, by show _ < 2048; omega⟩
  · rw [List.getD_eq_getElem?_getD, List.getElem?_append_left (by omega), ← List.getD_eq_getElem?_getD]
    rcases getD_or (r := e.1) (l := k) with g | g
    · exact ⟨0, by rw [g]; rfl, by decide⟩
    · exact h2 _ g
theorem cf_coef {m : Nat} {cs : List Rat} (h : cs.length = m) (b : Rat) (k : Nat) (hk : k < m) : cf (m + 1) (cs ++ [b]) k = cs.getD k 0 := by
  unfold cf
  rw [if_pos (by omega), List.getD_eq_getElem?_getD, List.getElem?_append_left (by omega), ← List.getD_eq_getElem?_getD]
theorem cf_short {m : Nat} {cs : List Rat} (h : cs.length = m) (b : Rat) : cf m (cs ++ [b]) = cf m cs := funext fun k => by
  unfold cf
  by_cases hk : k < m
  · rw [if_pos hk, if_pos hk, List.getD_eq_getElem?_getD, List.getElem?_append_left (by omega), ← List.getD_eq_getElem?_getD]
  · rw [if_neg hk, if_neg hk]
theorem EqOk.holds {m : Nat} {pts : List Rat} {e : List Rat × Rat} (h : EqOk m pts e) : sN (fun k => cf (m + 1) (e.1 ++ [e.2]) k * pts.getD k 0) m = e.2 := by
  rw [sN_cong (g := fun k => e.1.getD k 0 * pts.getD k 0) fun k hk => by rw [cf_coef h.1 e.2 k hk]]
  exact h.2.2.symm
theorem EqOk.cb {m : Nat} {pts : List Rat} {e : List Rat × Rat} (h : EqOk m pts e) : CB 3 e.1 := ⟨1, by decide, by decide, fun x hx => by
  obtain ⟨F, f1, f2⟩ := h.2.1 x hx
  exact ⟨F, by rw [f1]; exact Rat.mul_one _, by show _ < 8; omega⟩⟩
end
theorem fx_intE {K : PySem.W.Frag} {H : Hp} {a : Addr} {z : Int} (h : H a = some (.tup [.int z, .int 1])) : Fx K H a ((z : Int) : Rat) := SqT.of h
theorem zs_atD {rs : List Int} {k : Nat} (h : k < rs.length) : atI (zs rs) ((k : Nat) : Int) = some (.int (rs.getD k 0)) := atI_nat (by
  rw [show zs rs = rs.map V.int from rfl, List.getElem?_map, List.getElem?_eq_getElem h, List.getD_eq_getElem?_getD, List.getElem?_eq_getElem h]
  rfl)

/-- the number of a draw -/
def nmd12 (d : Int) : Rat := Rat.divInt (d % 19 - 9) (1 + d / 19 % 4)
theorem nmd12_ok (d : Int) : (∃ N : Int, nmd12 d * 12 = (N : Rat) ∧ N.natAbs ≤ 108) ∧ Bd 10 (nmd12 d) := by
  have h1 := Int.emod_nonneg d (show (19 : Int) ≠ 0 by decide)
  have h2 := Int.emod_lt_of_pos d (show (0 : Int) < 19 by decide)
  have h3 := Int.emod_nonneg (d / 19) (show (4 : Int) ≠ 0 by decide)
  have h4 := Int.emod_lt_of_pos (d / 19) (show (0 : Int) < 4 by decide)
  unfold nmd12
  have hn : (d % 19 - 9).natAbs ≤ 9 := by omega
  generalize d % 19 - 9 = n at hn ⊢
  clear h1 h2
  have key : ∀ q k : Int, q ≠ 0 → q * k = 12 → Rat.divInt n q * 12 = ((n * k : Int) : Rat) := fun q k hq e => by
    have hq' : (q : Rat) ≠ 0 := fun z => hq (by have := Rat.intCast_inj.mp (z.trans (Rat.intCast_zero).symm); exact this)
    rw [Rat.divInt_eq_div, Rat.intCast_mul, show (12 : Rat) = ((q * k : Int) : Rat) by rw [e]; rfl, Rat.intCast_mul]
    grind
  have big : (2 : Nat) ^ 10 = 1024 := rfl
  refine ⟨?_, bd_of (by omega) (by omega) (by omega)⟩
  obtain h | h | h | h : d / 19 % 4 = 0 ∨ d / 19 % 4 = 1 ∨ d / 19 % 4 = 2 ∨ d / 19 % 4 = 3 := by omega
  · rw [h]
    exact ⟨_, key 1 12 (by decide) (by decide), by rw [Int.natAbs_mul]; show n.natAbs * 12 ≤ 108; omega⟩
  · rw [h]
    exact ⟨_, key 2 6 (by decide) (by decide), by rw [Int.natAbs_mul]; show n.natAbs * 6 ≤ 108; omega⟩
  · rw [h]
    exact ⟨_, key 3 4 (by decide) (by decide), by rw [Int.natAbs_mul]; show n.natAbs * 4 ≤ 108; omega⟩
  · rw [h]
    exact ⟨_, key 4 3 (by decide) (by decide), by rw [Int.natAbs_mul]; show n.natAbs * 3 ≤ 108; omega⟩
theorem EqOk.last {m : Nat} {pts : List Rat} {e : List Rat × Rat} (h : EqOk m pts e) : cf (m + 1) (e.1 ++ [e.2]) m = e.2 := by
  unfold cf
  rw [if_pos (by omega), List.getD_eq_getElem?_getD, List.getElem?_append_right (by rw [h.1]; omega), h.1, Nat.sub_self]
  rfl
def unitL (m j : Nat) : List Rat := (List.range m).map fun i => if i = j then 1 else 0
theorem unitL_len (m j : Nat) : (unitL m j).length = m := by
  unfold unitL
  rw [List.length_map, List.length_range]
theorem unitL_cf {m j : Nat} (hj : j < m) (k : Nat) : cf m (unitL m j) k = if k = j then 1 else 0 := by
  unfold cf unitL
  by_cases hk : k < m
  · rw [if_pos hk, List.getD_eq_getElem?_getD, List.getElem?_map, List.getElem?_range hk]
    rfl
  · rw [if_neg hk, if_neg (by omega)]
theorem unitL_cb (m j : Nat) : CB 3 (unitL m j) := ⟨1, by decide, by decide, fun x hx => by
  obtain ⟨i, _, rfl⟩ := List.mem_map.mp hx
  split
  · exact ⟨1, Rat.mul_one _, by decide⟩
  · exact ⟨0, Rat.mul_one _, by decide⟩⟩
theorem eqs_rank {m : Nat} {pts : List Rat} {W : Nat} {L : List (List Rat × Rat)} {kept : List (Nat × List Rat)} (ho : ∀ e ∈ L, EqOk m pts e) (h : SI m W (L.map fun e => e.1 ++ [e.2]) kept) {f f2 j : Nat} (hj : j < m)
    (h1 : RankIs (Spn (inL m (L.map (·.1)))) f) (h2 : RankIs (Spn (inL m (L.map (·.1) ++ [unitL m j]))) f2) : f2 = f ↔ ∃ p ∈ kept, p.1 = j ∧ ∀ k < m, k ≠ j → p.2.getD k 0 = 0 := by
  rw [rank_more h1 h2, ← KI.unit h.ki hj (unitL_cf hj), ← h.same]
  have e : inL m (L.map (·.1)) = inL m (L.map fun e => e.1 ++ [e.2]) := funext fun g => propext ⟨fun ⟨r, hr, hg⟩ => by
    obtain ⟨w, hw, rfl⟩ := List.mem_map.mp hr
    exact ⟨_, List.mem_map_of_mem hw, by rw [cf_short (ho w hw).1]; exact hg⟩, fun ⟨r, hr, hg⟩ => by
    obtain ⟨w, hw, rfl⟩ := List.mem_map.mp hr
    exact ⟨_, List.mem_map_of_mem hw, by rw [← hg]; exact (cf_short (ho w hw).1 _).symm⟩⟩
  rw [e]
theorem eqs_worth {m : Nat} {pts : List Rat} {W : Nat} {L : List (List Rat × Rat)} {kept : List (Nat × List Rat)} (ho : ∀ e ∈ L, EqOk m pts e) (h : SI m W (L.map fun e => e.1 ++ [e.2]) kept) {p : Nat × List Rat} (hk : p ∈ kept) (hz : ∀ k < m, k ≠ p.1 → p.2.getD k 0 = 0) : p.2.getD m 0 = pts.getD p.1 0 :=
  h.worth (pt := fun k => pts.getD k 0) (fun r hr => by
    obtain ⟨e, he, rfl⟩ := List.mem_map.mp hr
    rw [(ho e he).last]
    exact (ho e he).holds) hk hz
theorem getD_take {l : List Rat} {k n : Nat} (h : k < n) : (l.take n).getD k 0 = l.getD k 0 := by
  rw [List.getD_eq_getElem?_getD, List.getD_eq_getElem?_getD, List.getElem?_take, if_pos h]

section
inductive Kd where
  | eq | ls | mo
  deriving DecidableEq
structure Rr where
  c : List Rat
  b : Rat
  k : Kd
  sh : Nat → Rat
def dt : List Rat → List Rat → Rat
  | x :: c, y :: v => x * y + dt c v
  | _, _ => 0
def okK (k : Kd) (b l : Rat) : Prop := match k with
  | .eq => l = b
  | .ls => b ≤ l
  | .mo => b < l
def Rr.ok (r : Rr) (v : List Rat) : Prop := okK r.k r.b (dt r.c v)
def at0 (l : List Rat) (i : Nat) : Rat := l.getD i 0
def mix (a : Rat) (f : Rr) (b : Rat) (s : Rr) (k : Kd) : Rr :=
  ⟨List.zipWith (fun x y => a * x + b * y) f.c s.c, a * f.b + b * s.b, k, fun n => a * f.sh n + b * s.sh n⟩
def wov (e : Rr) (i : Nat) (r : Rr) : Rr := mix 1 r (-(at0 r.c i / at0 e.c i)) e r.k
def sumd (i : Nat) (m f : Rr) : Rr := mix (1 / at0 m.c i) m (-(1 / at0 f.c i)) f (if m.k = .mo ∨ f.k = .mo then .mo else .ls)
def pS (i : Nat) (s : Int) (r : Rr) : Bool := decide (sgn (at0 r.c i).num = s)
def wSign (rows : List Rr) (i : Nat) (s : Int) : List Rr := rows.filter (pS i s)
def eqF (rows : List Rr) (i : Nat) : Option Rr := rows.find? fun r => decide (r.k = .eq) && decide (at0 r.c i ≠ 0)
def pairs (i : Nat) (ms fs : List Rr) : List Rr := ms.flatMap fun m => fs.map fun f => sumd i m f
def elimR (rows : List Rr) (i : Nat) : List Rr := match eqF rows i with
  | some e => rows.map (wov e i)
  | none => wSign rows i 0 ++ pairs i (wSign rows i 1) (wSign rows i (-1))
def absR (x : Rat) : Rat := if x < 0 then -x else x
def sizes (c : List Rat) : List Rat := (c.filter fun x => decide (x ≠ 0)).map absR
def szR (c : List Rat) : Rat := (sizes c).headD 1
def uns (r : Rr) : List Rat × Rat := (r.c.map fun x => x / szR r.c, r.b / szR r.c)
abbrev Stg := List Rat → Option (Rat × Bool)
def weak (a b : Rat × Bool) : Bool := if a.1 = b.1 then b.2 && !a.2 else decide (a.1 < b.1)
def putS (m : Stg) (l : List Rat) (s : Rat × Bool) : Stg := fun x => if x = l then some s else m x
def keepIt (m : Stg) (l : List Rat) (s : Rat × Bool) : Bool := match m l with
  | none => true
  | some t => weak t s
def need : Stg → List Rr → List Rr
  | _, [] => []
  | m, r :: rs => if r.k = .eq then r :: need m rs else
    if keepIt m (uns r).1 ((uns r).2, decide (r.k = .mo)) then r :: need (putS m (uns r).1 ((uns r).2, decide (r.k = .mo))) rs else need m rs
def limR (r : Rr) (v : List Rat) : Rat := (r.b - dt (r.c.take v.length) v) / at0 r.c v.length
def grt (l : List Rat) : Option Rat := l.foldl (fun f x => match f with
  | none => some x
  | some y => if y < x then some x else some y) none
def nextV (rows : List Rr) (v : List Rat) : Rat := match eqF rows v.length with
  | some e => limR e v
  | none => match grt ((wSign rows v.length 1).map fun r => limR r v), grt ((wSign rows v.length (-1)).map fun r => -(limR r v)) with
    | none, none => 0
    | some l, none => l + 1
    | none, some h => -h - 1
    | some l, some h => (l + -h) / 2
def n0 : Stg := fun _ => none
def stg : Nat → List Rr → List (List Rr) × List Rr
  | 0, k => ([], k)
  | n + 1, k => ((stg n (need n0 (elimR k n))).1 ++ [k], (stg n (need n0 (elimR k n))).2)
def vals (ss : List (List Rr)) : List Rat := ss.foldl (fun v s => v ++ [nextV s v]) []
def unit (i : Nat) : Nat → Rat := fun n => if n = i then 1 else 0
structure Ro3 where
  c : List Rat
  b : Rat
  k : Kd
def Ro3.r (x : Ro3) (i : Nat) : Rr := ⟨x.c, x.b, x.k, unit i⟩
def bse (rows : List Ro3) : List Rr := rows.mapIdx fun i x => x.r i
def start (rows : List Ro3) : List Rr := need n0 (bse rows)
def zeros (n : Nat) : List Rat := List.replicate n 0
def bad (n : Nat) (r : Rr) : Bool := !(match r.k with
  | .eq => decide (dt r.c (zeros n) = r.b)
  | .ls => decide (r.b ≤ dt r.c (zeros n))
  | .mo => decide (r.b < dt r.c (zeros n)))
theorem bad_ok {n : Nat} {r : Rr} : bad n r = true ↔ ¬ r.ok (zeros n) := by
  unfold bad Rr.ok okK
  cases r.k <;> simp
/-- what solve answers: multipliers, or values -/
def solF (rows : List Ro3) (n : Nat) : List Rat ⊕ List Rat := match (stg n (start rows)).2.find? (bad n) with
  | some r => .inl ((List.range rows.length).map r.sh)
  | none => .inr (vals (stg n (start rows)).1)
/-! sums of products -/
theorem dt_nil (v : List Rat) : dt [] v = 0 := by cases v <;> rfl
theorem dt_nil2 (c : List Rat) : dt c [] = 0 := by cases c <;> rfl
theorem dt_zip (a b : Rat) : ∀ (c d v : List Rat), c.length = d.length → dt (List.zipWith (fun x y => a * x + b * y) c d) v = a * dt c v + b * dt d v
  | [], [], v, _ => by rw [List.zipWith_nil_left, dt_nil]; grind
  | [], _ :: _, _, h => by cases h
  | _ :: _, [], _, h => by cases h
  | x :: c, y :: d, [], _ => by rw [dt_nil2, dt_nil2, dt_nil2]; grind
  | x :: c, y :: d, z :: v, h => by
    rw [List.zipWith_cons_cons, dt, dt, dt, dt_zip a b c d v (by simpa using h)]
    grind
theorem dt_snoc : ∀ (c v : List Rat) (t : Rat), dt c (v ++ [t]) = dt c v + at0 c v.length * t
  | [], v, t => by
    rw [dt_nil, dt_nil]
    unfold at0
    rw [List.getD_nil, Rat.zero_mul, Rat.add_zero]
  | x :: c, [], t => by
    show x * t + dt c [] = dt (x :: c) [] + at0 (x :: c) 0 * t
    rw [dt_nil2, dt_nil2]
    unfold at0
    simp
    grind
  | x :: c, y :: v, t => by
    show x * y + dt c (v ++ [t]) = x * y + dt c v + at0 (x :: c) (v.length + 1) * t
    rw [dt_snoc c v t]
    unfold at0
    rw [List.getD_cons_succ]
    grind
theorem dt_take : ∀ (c v : List Rat), dt (c.take v.length) v = dt c v
  | [], v => by rw [List.take_nil]
  | x :: c, [] => by rw [dt_nil2, dt_nil2]
  | x :: c, y :: v => by
    rw [List.length_cons, List.take_succ_cons, dt, dt, dt_take c v]
theorem dt_div (s : Rat) : ∀ (c v : List Rat), dt (c.map fun x => x / s) v = dt c v / s
  | [], v => by rw [List.map_nil, dt_nil]; grind
  | x :: c, [] => by rw [dt_nil2, dt_nil2]; grind
  | x :: c, y :: v => by
    rw [List.map_cons, dt, dt, dt_div s c v, Rat.div_def, Rat.div_def, Rat.div_def]
    grind
theorem dt_zero : ∀ (c v : List Rat), (∀ x ∈ c, x = 0) → dt c v = 0
  | [], v, _ => dt_nil v
  | x :: c, [], _ => dt_nil2 _
  | x :: c, y :: v, h => by
    rw [dt, dt_zero c v (fun z hz => h z (List.mem_cons_of_mem _ hz)), h x List.mem_cons_self]
    grind
theorem at0_zip (a b : Rat) {c d : List Rat} (h : c.length = d.length) (i : Nat) : at0 (List.zipWith (fun x y => a * x + b * y) c d) i = a * at0 c i + b * at0 d i := by
  unfold at0
  rw [List.getD_eq_getElem?_getD, List.getD_eq_getElem?_getD, List.getD_eq_getElem?_getD, List.getElem?_zipWith]
  by_cases hi : i < c.length
  · rw [List.getElem?_eq_getElem hi, List.getElem?_eq_getElem (by omega)]
    rfl
  · rw [List.getElem?_eq_none (by omega), List.getElem?_eq_none (by omega)]
    show (0 : Rat) = a * 0 + b * 0
    rw [Rat.mul_zero, Rat.mul_zero, Rat.add_zero]
theorem okK_mix {a b : Rat} {j k : Kd} {x y l m : Rat} (ha : 0 < a) (hb : 0 < b) (hj : j ≠ .eq) (hk : k ≠ .eq) (h1 : okK j x l) (h2 : okK k y m) : okK (if j = .mo ∨ k = .mo then .mo else .ls) (a * x + b * y) (a * l + b * m) := by
  have w : ∀ {c p q : Rat}, 0 < c → p ≤ q → c * p ≤ c * q := fun hc h => Rat.mul_le_mul_of_nonneg_left h (Rat.le_of_lt hc)
  have s : ∀ {c p q : Rat}, 0 < c → p < q → c * p < c * q := fun hc h => Rat.mul_lt_mul_of_pos_left h hc
  cases j with
  | eq => exact absurd rfl hj
  | ls => cases k with
    | eq => exact absurd rfl hk
    | ls =>
      have := w ha h1
      have := w hb h2
      show a * x + b * y ≤ a * l + b * m
      grind
    | mo =>
      have := w ha h1
      have := s hb h2
      show a * x + b * y < a * l + b * m
      grind
  | mo => cases k with
    | eq => exact absurd rfl hk
    | ls =>
      have := s ha h1
      have := w hb h2
      show a * x + b * y < a * l + b * m
      grind
    | mo =>
      have := s ha h1
      have := s hb h2
      show a * x + b * y < a * l + b * m
      grind
theorem okK_eq {k : Kd} {f x y l m : Rat} (h2 : m = y) : okK k (1 * x + f * y) (1 * l + f * m) ↔ okK k x l := by
  subst h2
  cases k
  · show 1 * l + f * m = 1 * x + f * m ↔ l = x
    constructor <;> intro h <;> grind
  · show 1 * x + f * m ≤ 1 * l + f * m ↔ x ≤ l
    constructor <;> intro h <;> grind
  · show 1 * x + f * m < 1 * l + f * m ↔ x < l
    constructor <;> intro h <;> grind

/-! what elimination keeps -/
structure RW (n : Nat) (r : Rr) : Prop where
  len : r.c.length = n
theorem mix_ok {a b : Rat} {f s : Rr} {k : Kd} (h : f.c.length = s.c.length) (v : List Rat) : (mix a f b s k).ok v ↔ okK k (a * f.b + b * s.b) (a * dt f.c v + b * dt s.c v) := by
  unfold Rr.ok mix
  rw [dt_zip a b f.c s.c v h]
theorem wov_ok {e r : Rr} {i : Nat} (h : r.c.length = e.c.length) {v : List Rat} (he : dt e.c v = e.b) : (wov e i r).ok v ↔ r.ok v := by
  unfold wov
  rw [mix_ok h]
  exact okK_eq he
theorem sumd_ok {i : Nat} {m f : Rr} (h : m.c.length = f.c.length) (h1 : 0 < at0 m.c i) (h2 : at0 f.c i < 0) (hm : m.k ≠ .eq) (hf : f.k ≠ .eq) {v : List Rat} (o1 : m.ok v) (o2 : f.ok v) : (sumd i m f).ok v := by
  unfold sumd
  rw [mix_ok h]
  refine okK_mix ?_ ?_ hm hf o1 o2
  · rw [Rat.div_def, Rat.one_mul]
    exact Rat.inv_pos.mpr h1
  · rw [Rat.div_def, Rat.one_mul]
    have : (at0 f.c i)⁻¹ < 0 := by
      have h3 : 0 < -(at0 f.c i) := by grind
      have h4 := Rat.inv_pos.mpr h3
      have h5 : (-(at0 f.c i))⁻¹ = -(at0 f.c i)⁻¹ := by grind
      grind
    grind
theorem eqF_some {rows : List Rr} {i : Nat} {e : Rr} (h : eqF rows i = some e) : e ∈ rows ∧ e.k = .eq ∧ at0 e.c i ≠ 0 := by
  have h1 := List.mem_of_find?_eq_some h
  have h2 := List.find?_some h
  rw [Bool.and_eq_true] at h2
  exact ⟨h1, of_decide_eq_true h2.1, of_decide_eq_true h2.2⟩
theorem eqF_none {rows : List Rr} {i : Nat} (h : eqF rows i = none) : ∀ r ∈ rows, at0 r.c i ≠ 0 → r.k ≠ .eq := by
  intro r hr h0 hk
  have := List.find?_eq_none.mp h r hr
  simp [hk, h0] at this
theorem num_lt0 {x : Rat} : x.num < 0 ↔ x < 0 := by
  rw [← Rat.not_le, ← Rat.num_nonneg]
  omega
theorem num_gt0 {x : Rat} : 0 < x.num ↔ 0 < x := by
  have h1 := Rat.num_nonneg (q := x)
  have h2 := Rat.num_eq_zero (q := x)
  constructor
  · intro h
    have h3 := h1.mp (by omega)
    have h4 : x ≠ 0 := fun z => by
      have := h2.mpr z
      omega
    grind
  · intro h
    have h3 := h1.mpr (Rat.le_of_lt h)
    have h4 : x.num ≠ 0 := fun z => by
      have := h2.mp z
      grind
    omega
theorem sgn_cases (x : Rat) : (x < 0 ∧ sgn x.num = -1) ∨ (x = 0 ∧ sgn x.num = 0) ∨ (0 < x ∧ sgn x.num = 1) := by
  unfold sgn
  by_cases h : x.num < 0
  · exact .inl ⟨num_lt0.mp h, by rw [if_pos h]⟩
  · by_cases h2 : 0 < x.num
    · exact .inr (.inr ⟨num_gt0.mp h2, by rw [if_neg h, if_pos h2]⟩)
    · refine .inr (.inl ⟨Rat.num_eq_zero.mp (by omega), by rw [if_neg h, if_neg h2]⟩)
theorem pS_pos {i : Nat} {r : Rr} : pS i 1 r = true ↔ 0 < at0 r.c i := by
  unfold pS
  rw [decide_eq_true_iff]
  rcases sgn_cases (at0 r.c i) with ⟨h, e⟩ | ⟨h, e⟩ | ⟨h, e⟩ <;> rw [e] <;> constructor <;> intro g <;> first | (exfalso; grind) | rfl | exact h | (exfalso; omega)
theorem pS_neg {i : Nat} {r : Rr} : pS i (-1) r = true ↔ at0 r.c i < 0 := by
  unfold pS
  rw [decide_eq_true_iff]
  rcases sgn_cases (at0 r.c i) with ⟨h, e⟩ | ⟨h, e⟩ | ⟨h, e⟩ <;> rw [e] <;> constructor <;> intro g <;> first | (exfalso; grind) | rfl | exact h | (exfalso; omega)
theorem pS_zero {i : Nat} {r : Rr} : pS i 0 r = true ↔ at0 r.c i = 0 := by
  unfold pS
  rw [decide_eq_true_iff]
  rcases sgn_cases (at0 r.c i) with ⟨h, e⟩ | ⟨h, e⟩ | ⟨h, e⟩ <;> rw [e] <;> constructor <;> intro g <;> first | (exfalso; grind) | rfl | exact h | (exfalso; omega)
/-- a fact of rows that elimination keeps, by its two steps -/
theorem elim_all {P : Rr → Prop} {rows : List Rr} {i : Nat} (h : ∀ r ∈ rows, P r) (hw : ∀ e ∈ rows, e.k = .eq → at0 e.c i ≠ 0 → ∀ r ∈ rows, P (wov e i r)) (hs : ∀ m ∈ rows, ∀ f ∈ rows, 0 < at0 m.c i → at0 f.c i < 0 → m.k ≠ .eq → f.k ≠ .eq → P (sumd i m f)) : ∀ r ∈ elimR rows i, P r := by
  intro r hr
  unfold elimR at hr
  cases e : eqF rows i with
  | some q =>
    rw [e] at hr
    obtain ⟨x, hx, rfl⟩ := List.mem_map.mp hr
    obtain ⟨a, b, c⟩ := eqF_some e
    exact hw q a b c x hx
  | none =>
    rw [e] at hr
    have hn := eqF_none e
    rcases List.mem_append.mp hr with hz | hp
    · exact h r (List.mem_filter.mp hz).1
    · obtain ⟨m, hm, hp⟩ := List.mem_flatMap.mp hp
      obtain ⟨f, hf, rfl⟩ := List.mem_map.mp hp
      obtain ⟨m1, m2⟩ := List.mem_filter.mp hm
      obtain ⟨f1, f2⟩ := List.mem_filter.mp hf
      have m3 := pS_pos.mp m2
      have f3 := pS_neg.mp f2
      exact hs m m1 f f1 m3 f3 (hn m m1 (by grind)) (hn f f1 (by grind))
theorem need_sub : ∀ (m : Stg) (rows : List Rr), ∀ r ∈ need m rows, r ∈ rows
  | _, [], r, h => h
  | m, x :: rows, r, h => by
    unfold need at h
    split at h
    · rcases List.mem_cons.mp h with rfl | h
      · exact List.mem_cons_self
      · exact List.mem_cons_of_mem _ (need_sub _ _ _ h)
    · split at h
      · rcases List.mem_cons.mp h with rfl | h
        · exact List.mem_cons_self
        · exact List.mem_cons_of_mem _ (need_sub _ _ _ h)
      · exact List.mem_cons_of_mem _ (need_sub _ _ _ h)
theorem need_len : ∀ (m : Stg) (rows : List Rr), (need m rows).length ≤ rows.length
  | _, [] => Nat.le_refl _
  | m, x :: rows => by
    unfold need
    have h1 := fun m => need_len m rows
    split
    · exact Nat.succ_le_succ (h1 _)
    · split
      · exact Nat.succ_le_succ (h1 _)
      · exact Nat.le_succ_of_le (h1 _)
/-! what is left out says no more -/
theorem absR_pos {x : Rat} (h : x ≠ 0) : 0 < absR x := by
  unfold absR
  split <;> grind
theorem szR_pos (c : List Rat) : 0 < szR c := by
  unfold szR
  cases e : sizes c with
  | nil => exact (by decide : (0 : Rat) < 1)
  | cons x l =>
    have h : x ∈ sizes c := by rw [e]; exact List.mem_cons_self
    obtain ⟨y, hy, rfl⟩ := List.mem_map.mp h
    exact absR_pos (of_decide_eq_true (List.mem_filter.mp hy).2)
def sat (l : List Rat) (s : Rat × Bool) (v : List Rat) : Prop := if s.2 then s.1 < dt l v else s.1 ≤ dt l v
theorem div_le {a b s : Rat} (h : 0 < s) : a / s ≤ b / s ↔ a ≤ b := by
  rw [Rat.div_def, Rat.div_def]
  have hi := Rat.inv_pos.mpr h
  constructor
  · intro g
    exact Rat.le_of_mul_le_mul_right g hi
  · intro g
    exact Rat.mul_le_mul_of_nonneg_right g (Rat.le_of_lt hi)
theorem div_lt {a b s : Rat} (h : 0 < s) : a / s < b / s ↔ a < b := by
  rw [← Rat.not_le, ← Rat.not_le, div_le h]
theorem uns_ok {r : Rr} (hk : r.k ≠ .eq) (v : List Rat) : r.ok v ↔ sat (uns r).1 ((uns r).2, decide (r.k = .mo)) v := by
  unfold sat uns Rr.ok
  rw [dt_div]
  have h := szR_pos r.c
  cases e : r.k with
  | eq => exact absurd e hk
  | ls => exact (div_le h).symm
  | mo => exact (div_lt h).symm
theorem weak_not {a b : Rat × Bool} {l v : List Rat} (h : weak a b = false) (s : sat l a v) : sat l b v := by
  obtain ⟨x, p⟩ := a
  obtain ⟨y, q⟩ := b
  unfold weak at h
  unfold sat at *
  dsimp only at *
  by_cases e : x = y
  · subst e
    rw [if_pos rfl] at h
    cases p <;> cases q
    · exact s
    · cases h
    · rw [if_pos rfl] at s
      rw [if_neg Bool.false_ne_true]
      exact Rat.le_of_lt s
    · exact s
  · rw [if_neg e] at h
    have h2 : ¬ x < y := of_decide_eq_false h
    cases p <;> cases q <;> simp at s ⊢ <;> grind
theorem need_ok (v : List Rat) : ∀ (m : Stg) (rows : List Rr), (∀ l s, m l = some s → sat l s v) → (∀ r ∈ need m rows, r.ok v) → ∀ r ∈ rows, r.ok v
  | _, [], _, _, r, h => nomatch h
  | m, x :: rows, hm, hn, r, hr => by
    unfold need at hn
    by_cases hk : x.k = .eq
    · rw [if_pos hk] at hn
      rcases List.mem_cons.mp hr with rfl | hr
      · exact hn _ List.mem_cons_self
      · exact need_ok v m rows hm (fun z hz => hn z (List.mem_cons_of_mem _ hz)) r hr
    · rw [if_neg hk] at hn
      by_cases g : keepIt m (uns x).1 ((uns x).2, decide (x.k = .mo)) = true
      · rw [if_pos g] at hn
        have hx := hn x List.mem_cons_self
        rcases List.mem_cons.mp hr with rfl | hr
        · exact hx
        · refine need_ok v _ rows (fun l s h => ?_) (fun z hz => hn z (List.mem_cons_of_mem _ hz)) r hr
          unfold putS at h
          by_cases e : l = (uns x).1
          · rw [if_pos e] at h
            rw [← Option.some.inj h, e]
            exact (uns_ok hk v).mp hx
          · rw [if_neg e] at h
            exact hm l s h
      · rw [if_neg g] at hn
        rcases List.mem_cons.mp hr with rfl | hr
        · rw [uns_ok hk]
          unfold keepIt at g
          cases e : m (uns r).1 with
          | none => rw [e] at g; exact absurd rfl g
          | some t =>
            rw [e] at g
            exact weak_not (Bool.eq_false_iff.mpr g) (hm _ _ e)
        · exact need_ok v m rows hm hn r hr
theorem need_ok0 {v : List Rat} {rows : List Rr} (h : ∀ r ∈ need n0 rows, r.ok v) : ∀ r ∈ rows, r.ok v :=
  need_ok v n0 rows (fun _ _ z => nomatch z) h
end

section
/-! the values that are found -/
structure WF (n i : Nat) (r : Rr) : Prop where
  len : r.c.length = n
  zer : ∀ j, i ≤ j → at0 r.c j = 0
theorem wov_at {e r : Rr} (h : r.c.length = e.c.length) (i j : Nat) : at0 (wov e i r).c j = 1 * at0 r.c j + -(at0 r.c i / at0 e.c i) * at0 e.c j := at0_zip _ _ h j
theorem sumd_at {m f : Rr} (h : m.c.length = f.c.length) (i j : Nat) : at0 (sumd i m f).c j = 1 / at0 m.c i * at0 m.c j + -(1 / at0 f.c i) * at0 f.c j := at0_zip _ _ h j
theorem mix_len {a b : Rat} {f s : Rr} {k : Kd} {n : Nat} (h1 : f.c.length = n) (h2 : s.c.length = n) : (mix a f b s k).c.length = n := by
  show (List.zipWith _ _ _).length = n
  rw [List.length_zipWith, h1, h2, Nat.min_self]
theorem elim_wf {n i : Nat} {rows : List Rr} (h : ∀ r ∈ rows, WF n (i + 1) r) : ∀ r ∈ need n0 (elimR rows i), WF n i r := by
  refine fun r hr => ?_
  replace hr := need_sub _ _ r hr
  unfold elimR at hr
  cases e : eqF rows i with
  | some q =>
    rw [e] at hr
    obtain ⟨x, hx, rfl⟩ := List.mem_map.mp hr
    obtain ⟨a, b, c⟩ := eqF_some e
    have hx := h x hx
    have hq := h q a
    refine ⟨mix_len hx.len hq.len, fun j hj => ?_⟩
    rw [wov_at (hx.len.trans hq.len.symm)]
    rcases Nat.lt_or_ge i j with g | g
    · rw [hx.zer j g, hq.zer j g]
      grind
    · obtain rfl : i = j := by omega
      rw [Rat.div_def]
      grind
  | none =>
    rw [e] at hr
    rcases List.mem_append.mp hr with hz | hp
    · obtain ⟨h1, h2⟩ := List.mem_filter.mp hz
      have hx := h r h1
      refine ⟨hx.len, fun j hj => ?_⟩
      rcases Nat.lt_or_ge i j with g | g
      · exact hx.zer j g
      · obtain rfl : i = j := by omega
        exact pS_zero.mp h2
    · obtain ⟨m, hm, hp⟩ := List.mem_flatMap.mp hp
      obtain ⟨f, hf, rfl⟩ := List.mem_map.mp hp
      obtain ⟨m1, m2⟩ := List.mem_filter.mp hm
      obtain ⟨f1, f2⟩ := List.mem_filter.mp hf
      have m3 := pS_pos.mp m2
      have f3 := pS_neg.mp f2
      have hx := h m m1
      have hq := h f f1
      refine ⟨mix_len hx.len hq.len, fun j hj => ?_⟩
      rw [sumd_at (hx.len.trans hq.len.symm)]
      rcases Nat.lt_or_ge i j with g | g
      · rw [hx.zer j g, hq.zer j g]
        grind
      · obtain rfl : i = j := by omega
        rw [Rat.div_def, Rat.div_def]
        grind
theorem grt_aux : ∀ (l : List Rat) (o : Option Rat), ∃ r, (l.foldl (fun f x => match f with
  | none => some x
  | some y => if y < x then some x else some y) o) = r ∧ (∀ y, o = some y → ∃ z, r = some z ∧ y ≤ z) ∧ (∀ x ∈ l, ∃ z, r = some z ∧ x ≤ z) ∧ (∀ z, r = some z → o = some z ∨ z ∈ l)
  | [], o => ⟨o, rfl, fun y h => ⟨y, h, Rat.le_refl⟩, (fun _ h => nomatch h), fun z h => .inl h⟩
  | x :: l, o => by
    obtain ⟨r, e, h1, h2, h3⟩ := grt_aux l (match o with
      | none => some x
      | some y => if y < x then some x else some y)
    refine ⟨r, e, fun y hy => ?_, fun z hz => ?_, fun z hz => ?_⟩
    · subst hy
      dsimp only at h1
      by_cases g : y < x
      · rw [if_pos g] at h1
        obtain ⟨z, a, b⟩ := h1 x rfl
        exact ⟨z, a, by grind⟩
      · rw [if_neg g] at h1
        exact h1 y rfl
    · rcases List.mem_cons.mp hz with rfl | hz
      · cases o with
        | none => exact h1 z rfl
        | some y =>
          dsimp only at h1
          by_cases g : y < z
          · rw [if_pos g] at h1
            exact h1 z rfl
          · rw [if_neg g] at h1
            obtain ⟨w, a, b⟩ := h1 y rfl
            exact ⟨w, a, by grind⟩
      · exact h2 z hz
    · rcases h3 z hz with g | g
      · cases o with
        | none => exact .inr (by rw [← Option.some.inj g]; exact List.mem_cons_self)
        | some y =>
          dsimp only at g
          by_cases q : y < x
          · rw [if_pos q] at g
            exact .inr (by rw [← Option.some.inj g]; exact List.mem_cons_self)
          · rw [if_neg q] at g
            exact .inl g
      · exact .inr (List.mem_cons_of_mem _ g)
theorem grt_none {l : List Rat} (h : grt l = none) : l = [] := by
  obtain ⟨r, e, _, h2, _⟩ := grt_aux l none
  cases l with
  | nil => rfl
  | cons x l =>
    obtain ⟨z, a, _⟩ := h2 x List.mem_cons_self
    unfold grt at h
    rw [e, a] at h
    cases h
theorem grt_some {l : List Rat} {z : Rat} (h : grt l = some z) : z ∈ l ∧ ∀ x ∈ l, x ≤ z := by
  obtain ⟨r, e, _, h2, h3⟩ := grt_aux l none
  unfold grt at h
  rw [e] at h
  refine ⟨?_, fun x hx => ?_⟩
  · rcases h3 z h with g | g
    · cases g
    · exact g
  · obtain ⟨w, a, b⟩ := h2 x hx
    rw [h] at a
    rw [Option.some.inj a]
    exact b
theorem lim_eq (r : Rr) (v : List Rat) : limR r v = (r.b - dt r.c v) / at0 r.c v.length := by
  unfold limR
  rw [dt_take]
theorem pos_ok {r : Rr} {v : List Rat} (hk : r.k ≠ .eq) (h : 0 < at0 r.c v.length) (t : Rat) : r.ok (v ++ [t]) ↔ (if r.k = .mo then limR r v < t else limR r v ≤ t) := by
  rw [lim_eq]
  unfold Rr.ok
  rw [dt_snoc]
  have e : t = at0 r.c v.length * t / at0 r.c v.length := by
    rw [Rat.div_def]
    grind
  cases hr : r.k with
  | eq => exact absurd hr hk
  | ls =>
    rw [if_neg (by decide)]
    conv => rhs; rw [e]
    rw [div_le h]
    show r.b ≤ _ ↔ _
    constructor <;> intro g <;> grind
  | mo =>
    rw [if_pos rfl]
    conv => rhs; rw [e]
    rw [div_lt h]
    show r.b < _ ↔ _
    constructor <;> intro g <;> grind
theorem neg_ok {r : Rr} {v : List Rat} (hk : r.k ≠ .eq) (h : at0 r.c v.length < 0) (t : Rat) : r.ok (v ++ [t]) ↔ (if r.k = .mo then t < limR r v else t ≤ limR r v) := by
  rw [lim_eq]
  unfold Rr.ok
  rw [dt_snoc]
  generalize at0 r.c v.length = a at *
  have h2 : 0 < -a := by grind
  have e : t = (-a * t) / -a := by
    rw [Rat.div_def]
    grind
  have e2 : (r.b - dt r.c v) / a = (dt r.c v - r.b) / -a := by
    rw [Rat.div_def, Rat.div_def]
    grind
  rw [e2]
  cases hr : r.k with
  | eq => exact absurd hr hk
  | ls =>
    rw [if_neg (by decide)]
    conv => rhs; rw [e]
    rw [div_le h2]
    show r.b ≤ _ ↔ _
    constructor <;> intro g <;> grind
  | mo =>
    rw [if_pos rfl]
    conv => rhs; rw [e]
    rw [div_lt h2]
    show r.b < _ ↔ _
    constructor <;> intro g <;> grind
theorem zero_ok {r : Rr} {v : List Rat} (h : at0 r.c v.length = 0) (t : Rat) : r.ok (v ++ [t]) ↔ r.ok v := by
  unfold Rr.ok
  rw [dt_snoc, h, Rat.zero_mul, Rat.add_zero]
theorem pair_ok {m f : Rr} {v : List Rat} (hl : m.c.length = f.c.length) (hm : 0 < at0 m.c v.length) (hf : at0 f.c v.length < 0) (h : (sumd v.length m f).ok v) : limR m v ≤ limR f v ∧ (m.k = .mo ∨ f.k = .mo → limR m v < limR f v) := by
  unfold sumd at h
  rw [mix_ok hl] at h
  rw [lim_eq, lim_eq]
  generalize at0 m.c v.length = a at *
  generalize at0 f.c v.length = c at *
  have e1 : (m.b - dt m.c v) / a = 1 / a * m.b - 1 / a * dt m.c v := by
    rw [Rat.div_def, Rat.div_def]
    grind
  have e2 : (f.b - dt f.c v) / c = 1 / c * f.b - 1 / c * dt f.c v := by
    rw [Rat.div_def, Rat.div_def]
    grind
  rw [e1, e2]
  by_cases g : m.k = .mo ∨ f.k = .mo
  · rw [if_pos g] at h
    have h2 : 1 / a * m.b + -(1 / c) * f.b < 1 / a * dt m.c v + -(1 / c) * dt f.c v := h
    exact ⟨by grind, fun _ => by grind⟩
  · rw [if_neg g] at h
    have h2 : 1 / a * m.b + -(1 / c) * f.b ≤ 1 / a * dt m.c v + -(1 / c) * dt f.c v := h
    exact ⟨by grind, fun z => absurd z g⟩
theorem next_ok {n : Nat} {rows : List Rr} {v : List Rat} (hw : ∀ r ∈ rows, r.c.length = n) (h : ∀ r ∈ elimR rows v.length, r.ok v) : ∀ r ∈ rows, r.ok (v ++ [nextV rows v]) := by
  intro r hr
  unfold elimR at h
  unfold nextV
  cases e : eqF rows v.length with
  | some q =>
    rw [e] at h
    obtain ⟨a, b, c⟩ := eqF_some e
    show r.ok (v ++ [limR q v])
    have hq : dt q.c (v ++ [limR q v]) = q.b := by
      rw [dt_snoc, lim_eq, Rat.div_def]
      grind
    rw [← wov_ok (i := v.length) ((hw r hr).trans (hw q a).symm) hq]
    rw [zero_ok]
    · exact h _ (List.mem_map_of_mem hr)
    · rw [wov_at ((hw r hr).trans (hw q a).symm), Rat.div_def]
      grind
  | none =>
    rw [e] at h
    have hn := eqF_none e
    have hz : ∀ r ∈ rows, at0 r.c v.length = 0 → ∀ t, r.ok (v ++ [t]) := fun r hr h0 t => by
      rw [zero_ok h0]
      exact h r (List.mem_append_left _ (List.mem_filter.mpr ⟨hr, pS_zero.mpr h0⟩))
    have hp : ∀ m ∈ rows, ∀ f ∈ rows, 0 < at0 m.c v.length → at0 f.c v.length < 0 → limR m v ≤ limR f v ∧ (m.k = .mo ∨ f.k = .mo → limR m v < limR f v) := fun m hm f hf m0 f0 =>
      pair_ok ((hw m hm).trans (hw f hf).symm) m0 f0 (h _ (List.mem_append_right _ (List.mem_flatMap.mpr ⟨m, List.mem_filter.mpr ⟨hm, pS_pos.mpr m0⟩, List.mem_map_of_mem (List.mem_filter.mpr ⟨hf, pS_neg.mpr f0⟩)⟩)))
    have hP : ∀ t, (∀ m ∈ rows, 0 < at0 m.c v.length → if m.k = .mo then limR m v < t else limR m v ≤ t) → (∀ f ∈ rows, at0 f.c v.length < 0 → if f.k = .mo then t < limR f v else t ≤ limR f v) → r.ok (v ++ [t]) := fun t h1 h2 => by
      rcases sgn_cases (at0 r.c v.length) with ⟨g, _⟩ | ⟨g, _⟩ | ⟨g, _⟩
      · exact (neg_ok (hn r hr (by grind)) g t).mpr (h2 r hr g)
      · exact hz r hr g t
      · exact (pos_ok (hn r hr (by grind)) g t).mpr (h1 r hr g)
    have inP : ∀ m ∈ rows, 0 < at0 m.c v.length → limR m v ∈ (wSign rows v.length 1).map fun r => limR r v := fun m hm m0 => List.mem_map_of_mem (f := fun r => limR r v) (List.mem_filter.mpr ⟨hm, pS_pos.mpr m0⟩)
    have inN : ∀ m ∈ rows, at0 m.c v.length < 0 → -(limR m v) ∈ (wSign rows v.length (-1)).map fun r => -(limR r v) := fun m hm m0 => List.mem_map_of_mem (f := fun r => -(limR r v)) (List.mem_filter.mpr ⟨hm, pS_neg.mpr m0⟩)
    dsimp only
    refine hP _ ?_ ?_
    · intro m hm m0
      have hmP := inP m hm m0
      cases e1 : grt ((wSign rows v.length 1).map fun r => limR r v) with
      | none =>
        rw [grt_none e1] at hmP
        cases hmP
      | some l =>
        obtain ⟨l1, l2⟩ := grt_some e1
        have hl := l2 _ hmP
        cases e2 : grt ((wSign rows v.length (-1)).map fun r => -(limR r v)) with
        | none =>
          dsimp only
          split <;> grind
        | some u =>
          dsimp only
          obtain ⟨u1, u2⟩ := grt_some e2
          obtain ⟨x, hx, ex⟩ := List.mem_map.mp l1
          obtain ⟨y, hy, ey⟩ := List.mem_map.mp u1
          obtain ⟨x1, x2⟩ := List.mem_filter.mp hx
          obtain ⟨y1, y2⟩ := List.mem_filter.mp hy
          have p1 := hp x x1 y y1 (pS_pos.mp x2) (pS_neg.mp y2)
          have p2 := hp m hm y y1 m0 (pS_neg.mp y2)
          by_cases k1 : m.k = .mo
          · rw [if_pos k1]
            have := p2.2 (.inl k1)
            grind
          · rw [if_neg k1]
            grind
    · intro m hm m0
      have hmN := inN m hm m0
      cases e2 : grt ((wSign rows v.length (-1)).map fun r => -(limR r v)) with
      | none =>
        rw [grt_none e2] at hmN
        cases hmN
      | some u =>
        obtain ⟨u1, u2⟩ := grt_some e2
        have hu := u2 _ hmN
        cases e1 : grt ((wSign rows v.length 1).map fun r => limR r v) with
        | none =>
          dsimp only
          split <;> grind
        | some l =>
          dsimp only
          obtain ⟨l1, l2⟩ := grt_some e1
          obtain ⟨x, hx, ex⟩ := List.mem_map.mp l1
          obtain ⟨y, hy, ey⟩ := List.mem_map.mp u1
          obtain ⟨x1, x2⟩ := List.mem_filter.mp hx
          obtain ⟨y1, y2⟩ := List.mem_filter.mp hy
          have p1 := hp x x1 y y1 (pS_pos.mp x2) (pS_neg.mp y2)
          have p2 := hp x x1 m hm (pS_pos.mp x2) m0
          by_cases k1 : m.k = .mo
          · rw [if_pos k1]
            have := p2.2 (.inr k1)
            grind
          · rw [if_neg k1]
            grind
theorem vals_snoc (ss : List (List Rr)) (k : List Rr) : vals (ss ++ [k]) = vals ss ++ [nextV k (vals ss)] := by
  unfold vals
  rw [List.foldl_append]
  rfl
theorem stg_pt {n : Nat} : ∀ (i : Nat) (rows : List Rr), (∀ r ∈ rows, WF n i r) → (∀ r ∈ (stg i rows).2, r.ok []) → (vals (stg i rows).1).length = i ∧ ∀ r ∈ rows, r.ok (vals (stg i rows).1)
  | 0, rows, _, h => ⟨rfl, h⟩
  | i + 1, rows, hw, h => by
    obtain ⟨h1, h2⟩ := stg_pt i (need n0 (elimR rows i)) (elim_wf hw) h
    unfold stg
    dsimp only
    rw [vals_snoc]
    refine ⟨by rw [List.length_append, h1]; rfl, ?_⟩
    refine next_ok (fun r hr => (hw r hr).len) ?_
    rw [h1]
    exact need_ok0 h2
theorem dt_zeros (c : List Rat) (n : Nat) : dt c (zeros n) = 0 := by
  induction n generalizing c with
  | zero => exact dt_nil2 c
  | succ n ih =>
    cases c with
    | nil => exact dt_nil _
    | cons x c =>
      show x * 0 + dt c (zeros n) = 0
      rw [ih, Rat.mul_zero, Rat.add_zero]
theorem ok_zeros (r : Rr) (n : Nat) : r.ok (zeros n) ↔ r.ok [] := by
  unfold Rr.ok
  rw [dt_zeros, dt_nil2]
theorem at0_out {l : List Rat} {j : Nat} (h : l.length ≤ j) : at0 l j = 0 := by
  unfold at0
  rw [List.getD_eq_getElem?_getD, List.getElem?_eq_none h]
  rfl
theorem base_mem {rows : List Ro3} {r : Rr} (h : r ∈ bse rows) : ∃ (i : Nat) (x : Ro3), rows[i]? = some x ∧ r = x.r i := by
  unfold bse at h
  obtain ⟨i, hi⟩ := List.mem_iff_getElem?.mp h
  rw [List.getElem?_mapIdx] at hi
  cases e : rows[i]? with
  | none => rw [e] at hi; cases hi
  | some x => rw [e] at hi; exact ⟨i, x, e, (Option.some.inj hi).symm⟩
theorem base_wf {rows : List Ro3} {n : Nat} (h : ∀ x ∈ rows, x.c.length = n) : ∀ r ∈ start rows, WF n n r := by
  intro r hr
  obtain ⟨i, x, hi, rfl⟩ := base_mem (need_sub _ _ r hr)
  have hl := h x (List.mem_of_getElem? hi)
  exact ⟨hl, fun j hj => at0_out (by show x.c.length ≤ j; omega)⟩
def Ro3.ok (x : Ro3) (v : List Rat) : Prop := okK x.k x.b (dt x.c v)
/-- the values that are found: all rows hold -/
theorem solF_pt {rows : List Ro3} {n : Nat} {v : List Rat} (hl : ∀ x ∈ rows, x.c.length = n) (h : solF rows n = .inr v) : v.length = n ∧ ∀ x ∈ rows, x.ok v := by
  unfold solF at h
  cases e : (stg n (start rows)).2.find? (bad n) with
  | some r => rw [e] at h; cases h
  | none =>
    rw [e] at h
    have h0 := List.find?_eq_none.mp e
    obtain ⟨h1, h2⟩ := stg_pt n (start rows) (base_wf hl) fun r hr => by
      have := h0 r hr
      rw [bad_ok] at this
      rw [← ok_zeros r n]
      exact Classical.not_not.mp this
    obtain rfl : vals (stg n (start rows)).1 = v := Sum.inr.inj h
    refine ⟨h1, fun x hx => ?_⟩
    obtain ⟨i, hi⟩ := List.mem_iff_getElem?.mp hx
    exact need_ok0 h2 (x.r i) (by
      unfold bse
      exact List.mem_of_getElem? (i := i) (by rw [List.getElem?_mapIdx, hi]; rfl))
/-- where there is a point at which all rows hold, values are found -/
theorem stg_ok {n : Nat} {v : List Rat} : ∀ (i : Nat) (rows : List Rr), (∀ r ∈ rows, WF n i r) → (∀ r ∈ rows, r.ok v) → ∀ r ∈ (stg i rows).2, r.ok v ∧ WF n 0 r
  | 0, rows, hw, h => fun r hr => ⟨h r hr, hw r hr⟩
  | i + 1, rows, hw, h => by
    refine stg_ok i (need n0 (elimR rows i)) (elim_wf hw) fun r hr => ?_
    refine elim_all (P := fun r => r.ok v) h (fun e he ek e0 r hr => ?_) (fun m hm f hf m0 f0 mk fk => ?_) r (need_sub _ _ r hr)
    · have := h e he
      unfold Rr.ok at this
      rw [ek] at this
      exact (wov_ok ((hw r hr).len.trans (hw e he).len.symm) this).mpr (h r hr)
    · exact sumd_ok ((hw m hm).len.trans (hw f hf).len.symm) m0 f0 mk fk (h m hm) (h f hf)
theorem at0_all {c : List Rat} (h : ∀ j, at0 c j = 0) : ∀ x ∈ c, x = 0 := by
  intro x hx
  obtain ⟨i, hi⟩ := List.mem_iff_getElem?.mp hx
  have := h i
  unfold at0 at this
  rw [List.getD_eq_getElem?_getD, hi] at this
  exact this
theorem solF_there {rows : List Ro3} {n : Nat} {x : List Rat} (hl : ∀ r ∈ rows, r.c.length = n) (h : ∀ r ∈ rows, r.ok x) : ∃ v, solF rows n = .inr v := by
  unfold solF
  cases e : (stg n (start rows)).2.find? (bad n) with
  | none => exact ⟨_, rfl⟩
  | some r =>
    exfalso
    have h1 := List.mem_of_find?_eq_some e
    have h2 := bad_ok.mp (List.find?_some e)
    obtain ⟨h3, h4⟩ := stg_ok (v := x) n (start rows) (base_wf hl) (fun r hr => by
      obtain ⟨i, y, hi, rfl⟩ := base_mem (need_sub _ _ r hr)
      exact h y (List.mem_of_getElem? hi)) r h1
    rw [ok_zeros] at h2
    refine h2 ?_
    unfold Rr.ok at *
    rw [dt_zero _ _ (at0_all fun j => h4.zer j (Nat.zero_le _))] at h3
    rw [dt_nil2]
    exact h3
end

section
/-! the multipliers that are found -/
def sm (f : Nat → Rat) : Nat → Rat
  | 0 => 0
  | n + 1 => sm f n + f n
theorem sm_lin (a b : Rat) (f g : Nat → Rat) : ∀ n, sm (fun i => a * f i + b * g i) n = a * sm f n + b * sm g n
  | 0 => by
    show (0 : Rat) = a * 0 + b * 0
    rw [Rat.mul_zero, Rat.mul_zero, Rat.add_zero]
  | n + 1 => by
    show sm (fun i => a * f i + b * g i) n + (a * f n + b * g n) = a * (sm f n + f n) + b * (sm g n + g n)
    rw [sm_lin a b f g n]
    grind
theorem sm_congr {f g : Nat → Rat} : ∀ {n : Nat}, (∀ i, i < n → f i = g i) → sm f n = sm g n
  | 0, _ => rfl
  | n + 1, h => by
    show sm f n + f n = sm g n + g n
    rw [sm_congr fun i hi => h i (Nat.lt_succ_of_lt hi), h n (Nat.lt_succ_self n)]
theorem sm_zero : ∀ (n : Nat) {f : Nat → Rat}, (∀ i, i < n → f i = 0) → sm f n = 0
  | 0, _, _ => rfl
  | n + 1, f, h => by
    show sm f n + f n = 0
    rw [sm_zero n fun i hi => h i (Nat.lt_succ_of_lt hi), h n (Nat.lt_succ_self n), Rat.add_zero]
theorem sm_unit {i : Nat} {g : Nat → Rat} : ∀ {n : Nat}, i < n → sm (fun j => unit i j * g j) n = g i
  | 0, h => absurd h (Nat.not_lt_zero _)
  | n + 1, h => by
    show sm (fun j => unit i j * g j) n + unit i n * g n = g i
    rcases Nat.lt_or_ge i n with k | k
    · rw [sm_unit k]
      unfold unit
      rw [if_neg (by omega), Rat.zero_mul, Rat.add_zero]
    · obtain rfl : i = n := by omega
      rw [sm_zero]
      · unfold unit
        rw [if_pos rfl, Rat.one_mul, Rat.zero_add]
      · intro j hj
        unfold unit
        rw [if_neg (by omega), Rat.zero_mul]
/-- a row that comes from others by its shares -/
structure Der (m : Nat) (C : Nat → Nat → Rat) (B : Nat → Rat) (K : Nat → Kd) (n : Nat) (r : Rr) : Prop where
  len : r.c.length = n
  co : ∀ j, at0 r.c j = sm (fun i => r.sh i * C i j) m
  bo : r.b = sm (fun i => r.sh i * B i) m
  eq0 : r.k = .eq → ∀ i, K i ≠ .eq → r.sh i = 0
  pos : r.k ≠ .eq → ∀ i, K i ≠ .eq → 0 ≤ r.sh i
  str : r.k = .mo → ∃ i, i < m ∧ K i = .mo ∧ 0 < r.sh i
section
variable {m : Nat} {C : Nat → Nat → Rat} {B : Nat → Rat} {K : Nat → Kd} {n : Nat}
theorem lin_sum {a b : Rat} {f s : Nat → Rat} {g : Nat → Rat} (m : Nat) : sm (fun i => (a * f i + b * s i) * g i) m = a * sm (fun i => f i * g i) m + b * sm (fun i => s i * g i) m := by
  rw [← sm_lin]
  exact sm_congr fun i _ => by grind
theorem der_co {a b : Rat} {f s : Rr} (k : Kd) (h1 : Der m C B K n f) (h2 : Der m C B K n s) (j : Nat) : at0 (mix a f b s k).c j = sm (fun i => (mix a f b s k).sh i * C i j) m := by
  show at0 (List.zipWith _ f.c s.c) j = sm (fun i => (a * f.sh i + b * s.sh i) * C i j) m
  rw [at0_zip _ _ (h1.len.trans h2.len.symm), lin_sum, h1.co, h2.co]
theorem der_bo {a b : Rat} {f s : Rr} (k : Kd) (h1 : Der m C B K n f) (h2 : Der m C B K n s) : (mix a f b s k).b = sm (fun i => (mix a f b s k).sh i * B i) m := by
  show a * f.b + b * s.b = sm (fun i => (a * f.sh i + b * s.sh i) * B i) m
  rw [lin_sum, h1.bo, h2.bo]
theorem der_wov {e r : Rr} {i : Nat} (h1 : Der m C B K n r) (h2 : Der m C B K n e) (ek : e.k = .eq) : Der m C B K n (wov e i r) := by
  have hs : ∀ i', K i' ≠ .eq → (wov e i r).sh i' = r.sh i' := fun i' h => by
    show 1 * r.sh i' + _ * e.sh i' = r.sh i'
    rw [h2.eq0 ek i' h]
    grind
  refine ⟨mix_len h1.len h2.len, der_co _ h1 h2, der_bo _ h1 h2, fun hk i' h => ?_, fun hk i' h => ?_, fun hk => ?_⟩
  · rw [hs i' h]
    exact h1.eq0 hk i' h
  · rw [hs i' h]
    exact h1.pos hk i' h
  · obtain ⟨i', a, b, c⟩ := h1.str hk
    refine ⟨i', a, b, ?_⟩
    rw [hs i' (by rw [b]; decide)]
    exact c
theorem der_sumd {p f : Rr} {i : Nat} (h1 : Der m C B K n p) (h2 : Der m C B K n f) (p0 : 0 < at0 p.c i) (f0 : at0 f.c i < 0) (pk : p.k ≠ .eq) (fk : f.k ≠ .eq) : Der m C B K n (sumd i p f) := by
  have a0 : 0 < 1 / at0 p.c i := by
    rw [Rat.div_def, Rat.one_mul]
    exact Rat.inv_pos.mpr p0
  have b0 : 0 < -(1 / at0 f.c i) := by
    rw [Rat.div_def, Rat.one_mul]
    have h3 : 0 < -(at0 f.c i) := by grind
    have h4 := Rat.inv_pos.mpr h3
    have h5 : (-(at0 f.c i))⁻¹ = -(at0 f.c i)⁻¹ := by grind
    grind
  have hn : (sumd i p f).k ≠ .eq := by
    show (if p.k = .mo ∨ f.k = .mo then Kd.mo else Kd.ls) ≠ .eq
    split <;> decide
  have hp : ∀ i', K i' ≠ .eq → 0 ≤ 1 / at0 p.c i * p.sh i' ∧ 0 ≤ -(1 / at0 f.c i) * f.sh i' := fun i' h =>
    ⟨Rat.mul_nonneg (Rat.le_of_lt a0) (h1.pos pk i' h), Rat.mul_nonneg (Rat.le_of_lt b0) (h2.pos fk i' h)⟩
  refine ⟨mix_len h1.len h2.len, der_co _ h1 h2, der_bo _ h1 h2, fun hk => absurd hk hn, fun _ i' h => ?_, fun hk => ?_⟩
  · show 0 ≤ 1 / at0 p.c i * p.sh i' + -(1 / at0 f.c i) * f.sh i'
    have := hp i' h
    grind
  · have g : p.k = .mo ∨ f.k = .mo := by
      rcases Classical.em (p.k = .mo ∨ f.k = .mo) with g | g
      · exact g
      · have hk2 : (if p.k = .mo ∨ f.k = .mo then Kd.mo else Kd.ls) = .mo := hk
        rw [if_neg g] at hk2
        cases hk2
    rcases g with g | g
    · obtain ⟨i', a, b, c⟩ := h1.str g
      refine ⟨i', a, b, ?_⟩
      show 0 < 1 / at0 p.c i * p.sh i' + -(1 / at0 f.c i) * f.sh i'
      have := hp i' (by rw [b]; decide)
      have := Rat.mul_pos a0 c
      grind
    · obtain ⟨i', a, b, c⟩ := h2.str g
      refine ⟨i', a, b, ?_⟩
      show 0 < 1 / at0 p.c i * p.sh i' + -(1 / at0 f.c i) * f.sh i'
      have := hp i' (by rw [b]; decide)
      have := Rat.mul_pos b0 c
      grind
theorem stg_der : ∀ (i : Nat) (rows : List Rr), (∀ r ∈ rows, Der m C B K n r) → ∀ r ∈ (stg i rows).2, Der m C B K n r
  | 0, rows, h => h
  | i + 1, rows, h => stg_der i (need n0 (elimR rows i)) fun r hr =>
    elim_all (P := Der m C B K n) h (fun e he ek _ r hr => der_wov (h r hr) (h e he) ek) (fun p hp f hf p0 f0 pk fk => der_sumd (h p hp) (h f hf) p0 f0 pk fk) r (need_sub _ _ r hr)
end
theorem stg_wf {n : Nat} : ∀ (i : Nat) (rows : List Rr), (∀ r ∈ rows, WF n i r) → ∀ r ∈ (stg i rows).2, WF n 0 r
  | 0, _, h => h
  | i + 1, rows, h => stg_wf i (need n0 (elimR rows i)) (elim_wf h)
def cO (rows : List Ro3) (i j : Nat) : Rat := match rows[i]? with
  | some x => at0 x.c j
  | none => 0
def bO (rows : List Ro3) (i : Nat) : Rat := match rows[i]? with
  | some x => x.b
  | none => 0
def kO (rows : List Ro3) (i : Nat) : Kd := match rows[i]? with
  | some x => x.k
  | none => .eq
/-- what the multipliers show -/
structure Wit (rows : List Ro3) (n : Nat) (u : Nat → Rat) : Prop where
  pos : ∀ i, i < rows.length → kO rows i ≠ .eq → 0 ≤ u i
  co : ∀ j, sm (fun i => u i * cO rows i j) rows.length = 0
  plain : (∀ i, i < rows.length → kO rows i ≠ .eq → ¬ 0 < u i) → sm (fun i => u i * bO rows i) rows.length ≠ 0
  more : (∃ i, i < rows.length ∧ kO rows i ≠ .eq ∧ 0 < u i) → 0 < sm (fun i => u i * bO rows i) rows.length ∨ (sm (fun i => u i * bO rows i) rows.length = 0 ∧ ∃ i, i < rows.length ∧ kO rows i = .mo ∧ 0 < u i)
theorem start_der {rows : List Ro3} {n : Nat} (hl : ∀ x ∈ rows, x.c.length = n) : ∀ r ∈ start rows, Der rows.length (cO rows) (bO rows) (kO rows) n r := by
  intro r hr
  obtain ⟨i, x, hi, rfl⟩ := base_mem (need_sub _ _ r hr)
  have hi2 : i < rows.length := (List.getElem?_eq_some_iff.mp hi).1
  refine ⟨hl x (List.mem_of_getElem? hi), fun j => ?_, ?_, fun hk i' h => ?_, fun hk i' h => ?_, fun hk => ⟨i, hi2, ?_, ?_⟩⟩
  · show at0 x.c j = sm (fun i' => unit i i' * cO rows i' j) rows.length
    rw [sm_unit (g := fun i' => cO rows i' j) hi2]
    unfold cO
    rw [hi]
  · show x.b = sm (fun i' => unit i i' * bO rows i') rows.length
    rw [sm_unit hi2]
    unfold bO
    rw [hi]
  · show unit i i' = 0
    unfold unit
    by_cases g : i' = i
    · subst g
      unfold kO at h
      rw [hi] at h
      exact absurd hk h
    · rw [if_neg g]
  · show 0 ≤ unit i i'
    unfold unit
    split <;> decide
  · unfold kO
    rw [hi]
    exact hk
  · show 0 < unit i i
    unfold unit
    rw [if_pos rfl]
    decide
theorem solF_wit {rows : List Ro3} {n : Nat} {us : List Rat} (hl : ∀ x ∈ rows, x.c.length = n) (h : solF rows n = .inl us) : ∃ r : Rr, r ∈ (stg n (start rows)).2 ∧ us = (List.range rows.length).map r.sh ∧ Wit rows n r.sh := by
  unfold solF at h
  cases e : (stg n (start rows)).2.find? (bad n) with
  | none => rw [e] at h; cases h
  | some r =>
    rw [e] at h
    have h1 := List.mem_of_find?_eq_some e
    have h2 := bad_ok.mp (List.find?_some e)
    have h3 := stg_der n (start rows) (start_der hl) r h1
    have h4 := stg_wf n (start rows) (base_wf hl) r h1
    refine ⟨r, h1, (Sum.inl.inj h).symm, ?_⟩
    rw [ok_zeros] at h2
    unfold Rr.ok at h2
    rw [dt_nil2] at h2
    have hb := h3.bo
    refine ⟨fun i hi hk => ?_, fun j => (h3.co j).symm.trans (h4.zer j (Nat.zero_le _)), fun hp => ?_, fun ⟨i, hi, hk, h0⟩ => ?_⟩
    · cases ek : r.k with
      | eq =>
        rw [h3.eq0 ek i hk]
        exact Rat.le_refl
      | ls => exact h3.pos (by rw [ek]; decide) i hk
      | mo => exact h3.pos (by rw [ek]; decide) i hk
    · rw [← hb]
      cases ek : r.k with
      | eq =>
        rw [ek] at h2
        exact fun z => h2 z.symm
      | ls =>
        rw [ek] at h2
        have h5 : ¬ r.b ≤ 0 := h2
        grind
      | mo =>
        obtain ⟨i, hi, hk, h0⟩ := h3.str ek
        exact absurd h0 (hp i hi (by rw [hk]; decide))
    · rw [← hb]
      cases ek : r.k with
      | eq =>
        rw [h3.eq0 ek i hk] at h0
        exact absurd h0 (by decide)
      | ls =>
        rw [ek] at h2
        have h5 : ¬ r.b ≤ 0 := h2
        exact .inl (by grind)
      | mo =>
        rw [ek] at h2
        have h5 : ¬ r.b < 0 := h2
        by_cases h6 : r.b = 0
        · exact .inr ⟨h6, h3.str ek⟩
        · exact .inl (by grind)
end

section
open PySem.Spec PyProof.Rows
def nkr (r : Rat) : NestedKey := .tup [.num r.num, .num (r.den : Int)]
def nkl (l : List Rat) : NestedKey := .tup (l.map nkr)
theorem nkr_inj {r s : Rat} (h : nkr r = nkr s) : r = s := by
  unfold nkr at h
  injection h with h
  injection h with h1 h2
  injection h2 with h2 _
  injection h1 with h1
  injection h2 with h2
  exact Rat.ext h1 (by omega)
theorem nkm_inj : ∀ {l m : List Rat}, l.map nkr = m.map nkr → l = m
  | [], [], _ => rfl
  | [], _ :: _, h => by cases h
  | _ :: _, [], h => by cases h
  | x :: l, y :: m, h => by
    rw [List.map_cons, List.map_cons] at h
    injection h with h1 h2
    rw [nkr_inj h1, nkm_inj h2]
theorem nkl_inj {l m : List Rat} (h : nkl l = nkl m) : l = m := by
  unfold nkl at h
  injection h with h
  exact nkm_inj h
/-- a tuple of fractions -/
def FT (K : PySem.W.Frag) (H : Hp) (b : Addr) (l : List Rat) : Prop := ∃ ws, SqT K H b (fr ws) ∧ Rx K H ws ∧ ws.map (·.2) = l
theorem FT.up {K : PySem.W.Frag} {H H' : Hp} {b : Addr} {l : List Rat} (s : Same H H') (h : FT K H b l) : FT K H' b l := by
  obtain ⟨ws, h1, h2, h3⟩ := h
  exact ⟨ws, same_tup s h1, h2.same s, h3⟩
section
variable {X : Cx} {pins : List (Addr × Obj)} {σ : L2.St} {H : Hp} {s : Shared}
theorem fx_nested (I : Inv X pins σ H s) {a : Addr} {r : Rat} (h : Fx X.K H a r) : NestedIs s.heap (nkr r) (.ref a) := by
  obtain ⟨its, rv, ⟨o, e, hc, n, hd⟩, _⟩ := I.tuple h
  cases rv with
  | cons r1 rv =>
    cases rv with
    | cons r2 rv =>
      cases rv
      obtain ⟨t1, rfl⟩ := r1
      obtain ⟨t2, rfl⟩ := r2
      exact .tup e hc hd (.cons (.int _ _) (.cons (.int _ _) .nil))
theorem rx_nested (I : Inv X pins σ H s) : ∀ {ws : List (Addr × Rat)} {us : List Value}, Rx X.K H ws → Vals (fr ws) us → NestedAll s.heap ((ws.map (·.2)).map nkr) us
  | [], _, _, h => by
    cases h
    exact .nil
  | w :: ws, _, hr, h => by
    cases h with
    | cons h1 h2 =>
      cases (show _ = Value.ref w.1 from h1)
      exact .cons (fx_nested I (hr w List.mem_cons_self)) (rx_nested I (fun x hx => hr x (List.mem_cons_of_mem _ hx)) h2)
theorem nkr_depth (r : Rat) : (nkr r).depth = 1 := by
  unfold nkr
  simp [NestedKey.depth, NestedKey.depthAll]
theorem nkm_depth (l : List Rat) : NestedKey.depthAll (l.map nkr) ≤ 1 := by
  induction l with
  | nil => simp [NestedKey.depthAll]
  | cons x l ih =>
    rw [List.map_cons, NestedKey.depthAll, nkr_depth]
    omega
theorem FT.key (I : Inv X pins σ H s) {b : Addr} {l : List Rat} (h : FT X.K H b l) : (nestedKind X.prog X.w).is s.heap (nkl l) b := by
  obtain ⟨ws, h1, h2, rfl⟩ := h
  obtain ⟨its, rv, ⟨o, e, hc, n, hd⟩, _⟩ := I.tuple h1
  refine ⟨.tup e hc hd (by simpa using rx_nested I h2 rv), ?_⟩
  unfold nkl
  rw [NestedKey.depth]
  have := nkm_depth (ws.map (·.2))
  omega
end
/-- a dict whose keys are tuples of fractions: the key, where its tuple stands, the value -/
abbrev NL := List (List Rat × Addr × V)
def NDat (P : Program) (w : World) (a : Addr) (L : NL) (h : Heap) : Prop := L.length ≤ sizeLine ∧ (a == sysModules) = false ∧ ∃ xs : List (NestedKey × Addr × Value), Paired (fun (p : List Rat × Addr × V) (q : NestedKey × Addr × Value) => q.1 = nkl p.1 ∧ q.2.1 = p.2.1 ∧ RelV p.2.2 q.2.2) L xs ∧
  ∃ o es ep, h.get? a = some o ∧ o.ExactDict ∧ o.data = .dict es ep ∧ es.toList = xs.map (entryOfKey (nestedKind P w)) ∧ (xs.map (·.1)).Nodup
def ND (P : Program) (w : World) (a : Addr) (L : NL) : HO := .ext (NDat P w a L)
def lkL (L : NL) (l : List Rat) : Option V := (L.find? fun p => decide (p.1 = l)).map (·.2.2)
def putL (L : NL) (l : List Rat) (b : Addr) (v : V) : NL := if (lkL L l).isSome then L.map (fun p => if p.1 = l then (p.1, p.2.1, v) else p) else L ++ [(l, b, v)]
theorem NDat.ok {P : Program} {w : World} {H : Hp} {h : Heap} {a : Addr} {L : NL} (R : NDat P w a L h) : ObjOk P w H h a (ND P w a L) := by
  have R2 := R
  obtain ⟨_, _, xs, _, o, es, ep, e, _⟩ := R2
  refine ⟨R, ⟨o, e⟩, fun h1 h2 p k => ?_⟩
  obtain ⟨z, y, xs, r, o, es, ep, e, q⟩ := p
  exact ⟨z, y, xs, r, o, es, ep, k o e, q⟩
section
variable {X : Cx} {pins : List (Addr × Obj)} {σ : L2.St} {H : Hp} {s : Shared} {a : Addr} {L : NL}
theorem nd_keys (I : Inv X pins σ H s) {xs : List (NestedKey × Addr × Value)} (r : Paired (fun (p : List Rat × Addr × V) (q : NestedKey × Addr × Value) => q.1 = nkl p.1 ∧ q.2.1 = p.2.1 ∧ RelV p.2.2 q.2.2) L xs) (hk : ∀ p ∈ L, FT X.K H p.2.1 p.1) : ∀ x ∈ xs, (nestedKind X.prog X.w).is s.heap x.1 x.2.1 := by
  induction r with
  | nil => exact fun x hx => nomatch hx
  | @cons p q ps qs hq t ih =>
    intro x hx
    rcases List.mem_cons.mp hx with e | hx
    · subst e
      rw [hq.1, hq.2.1]
      exact FT.key I (hk p List.mem_cons_self)
    · exact ih (fun p hp => hk p (List.mem_cons_of_mem _ hp)) x hx
theorem nd_rd (I : Inv X pins σ H s) (e : H a = some (ND X.prog X.w a L)) (hk : ∀ p ∈ L, FT X.K H p.2.1 p.1) : L.length ≤ sizeLine ∧ (a == sysModules) = false ∧ ∃ xs : List (NestedKey × Addr × Value), Paired (fun (p : List Rat × Addr × V) (q : NestedKey × Addr × Value) => q.1 = nkl p.1 ∧ q.2.1 = p.2.1 ∧ RelV p.2.2 q.2.2) L xs ∧ s.heap.DictOfH (nestedKind X.prog X.w) a xs := by
  obtain ⟨⟨z, y, xs, r, o, es, ep, h1, h2, h3, h4, h5⟩, _⟩ := (show ObjOk X.prog X.w H s.heap a (ND X.prog X.w a L) from I.hok a _ e)
  exact ⟨z, y, xs, r, o, es, ep, h1, h2, h3, h4, nd_keys I r hk, h5⟩
theorem nd_val {xs : List (NestedKey × Addr × Value)} (r : Paired (fun (p : List Rat × Addr × V) (q : NestedKey × Addr × Value) => q.1 = nkl p.1 ∧ q.2.1 = p.2.1 ∧ RelV p.2.2 q.2.2) L xs) (l : List Rat) : RelO (lkL L l) ((atKey xs (nkl l)).map (·.2)) := by
  induction r with
  | nil => exact True.intro
  | @cons p q ps qs h t ih =>
    obtain ⟨h1, _, h2⟩ := h
    by_cases e : p.1 = l
    · have a1 : lkL (p :: ps) l = some p.2.2 := by simp [lkL, List.find?_cons, e]
      have a2 : atKey (q :: qs) (nkl l) = some q.2 := by simp [atKey, List.find?_cons, h1, e]
      rw [a1, a2]
      exact h2
    · have e' : ¬ q.1 = nkl l := fun z => e (nkl_inj (h1.symm.trans z))
      have a1 : lkL (p :: ps) l = lkL ps l := by simp [lkL, List.find?_cons, e]
      have a2 : atKey (q :: qs) (nkl l) = atKey qs (nkl l) := by simp [atKey, List.find?_cons, e']
      rw [a1, a2]
      exact ih
theorem nd_repl {xs : List (NestedKey × Addr × Value)} (r : Paired (fun (p : List Rat × Addr × V) (q : NestedKey × Addr × Value) => q.1 = nkl p.1 ∧ q.2.1 = p.2.1 ∧ RelV p.2.2 q.2.2) L xs) (l : List Rat) {v : V} {u : Value} (rv : RelV v u) :
    Paired (fun (p : List Rat × Addr × V) (q : NestedKey × Addr × Value) => q.1 = nkl p.1 ∧ q.2.1 = p.2.1 ∧ RelV p.2.2 q.2.2) (L.map fun p => if p.1 = l then (p.1, p.2.1, v) else p) (xs.map (putAt (nkl l) u)) := by
  induction r with
  | nil => exact .nil
  | @cons p q ps qs h t ih =>
    rw [List.map_cons, List.map_cons]
    refine .cons ?_ ih
    obtain ⟨h1, h2, h3⟩ := h
    unfold putAt
    by_cases e : p.1 = l
    · rw [if_pos e, if_pos (by rw [h1, e])]
      exact ⟨h1, h2, rv⟩
    · rw [if_neg e, if_neg (fun z => e (nkl_inj (h1.symm.trans z)))]
      exact ⟨h1, h2, h3⟩
theorem nd_put {xs : List (NestedKey × Addr × Value)} (r : Paired (fun (p : List Rat × Addr × V) (q : NestedKey × Addr × Value) => q.1 = nkl p.1 ∧ q.2.1 = p.2.1 ∧ RelV p.2.2 q.2.2) L xs) (l : List Rat) (b : Addr) {v : V} {u : Value} (rv : RelV v u) :
    Paired (fun (p : List Rat × Addr × V) (q : NestedKey × Addr × Value) => q.1 = nkl p.1 ∧ q.2.1 = p.2.1 ∧ RelV p.2.2 q.2.2) (putL L l b v) (storedH xs (nkl l) b u) := by
  have e : (lkL L l).isSome = (atKey xs (nkl l)).isSome := by
    rw [(nd_val r l).isSome_eq, Option.isSome_map]
  unfold putL storedH
  rw [e]
  by_cases q : (atKey xs (nkl l)).isSome = true
  · rw [if_pos q, if_pos q]
    exact nd_repl r l rv
  · rw [if_neg q, if_neg q]
    exact Paired.snoc r ⟨rfl, rfl, rv⟩
theorem putL_len (L : NL) (l : List Rat) (b : Addr) (v : V) : (putL L l b v).length ≤ L.length + 1 := by
  unfold putL
  split
  · rw [List.length_map]
    omega
  · rw [List.length_append]
    exact Nat.le_refl _
end
/-- l not in d -/
def rNotInN (X : Cx) : R2 := fun x y H Q => ∃ (b a : Addr) (l : List Rat) (L : NL), x = .ref b ∧ y = .ref a ∧ H a = some (ND X.prog X.w a L) ∧ (∀ p ∈ L, FT X.K H p.2.1 p.1) ∧ FT X.K H b l ∧ Q (.bl (!(lkL L l).isSome)) H
def rIxN (X : Cx) : R2 := fun x y H Q => ∃ (a b : Addr) (l : List Rat) (L : NL) (v : V), x = .ref a ∧ y = .ref b ∧ H a = some (ND X.prog X.w a L) ∧ (∀ p ∈ L, FT X.K H p.2.1 p.1) ∧ FT X.K H b l ∧ lkL L l = some v ∧ Q v H
def rSetN (X : Cx) : V → V → V → Hp → (Hp → Prop) → Prop := fun o i v H Q => ∃ (a b : Addr) (l : List Rat) (L : NL), o = .ref a ∧ i = .ref b ∧ H a = some (ND X.prog X.w a L) ∧ (∀ p ∈ L, FT X.K H p.2.1 p.1) ∧ FT X.K H b l ∧ L.length < sizeLine ∧ Q (upd H a (ND X.prog X.w a (putL L l b v)))
theorem room_n {A : Around} (hu : A.units + 64 < cLine) {P : Program} {w : World} : (nestedKind P w).room A.in1 := by
  show A.units + 1 + 8 < cLine
  omega
theorem op_notIn_nd {X : Cx} (hu : X.A.units + 64 < cLine) : OpR X (compareOp .NotIn) (rNotInN X) := by
  intro pins s σ H x y v u Q I rx ry h
  obtain ⟨b, a, l, L, rfl, rfl, e, hk, hf, q⟩ := h
  cases rx
  cases ry
  obtain ⟨z, hd, xs, r, dd⟩ := nd_rd I e hk
  refine wpAny_notIn_heap (room_n hu) (FT.key I hf) hd dd ?_
  have := (nd_val r l).isSome_eq
  rw [Option.isSome_map] at this
  rw [← this]
  exact ⟨.bl _, H, I.tok _, rfl, q⟩
theorem set_nd {X : Cx} (hu : X.A.units + 64 < cLine) : PSet X (rSetN X) := by
  intro pins s σ H o i v ov iv u Q I ro ri rv h
  obtain ⟨a, b, l, L, rfl, rfl, e, hk, hf, hl, q⟩ := h
  cases ro
  cases ri
  obtain ⟨z, hd, xs, r, dd⟩ := nd_rd I e hk
  have hz : xs.length ≤ sizeLine := by rw [← Paired.length r]; exact z
  refine wpAny_setItem_heap (hsz := hz) (room_n hu) (FT.key I hf) dd fun h' dd' hs => ⟨_, ?_, q⟩
  obtain ⟨ob, es, ep, hq, h2, h3, h4, _, h5⟩ := dd'
  refine d_write I (by rw [e]; exact True.intro) hs ⟨ob, hq⟩ (NDat.ok ⟨?_, hd, _, nd_put r l b rv, ob, es, ep, hq, h2, h3, h4, h5⟩)
  have := putL_len L l b v
  omega
/-- d[l] -/
def tNGet (X : Cx) (td ty : TE) : TE := fun σ H Q => td σ H fun x H1 => ty σ H1 fun y H2 => rIxN X x y H2 Q
theorem pe_nget {X : Cx} {o i : Expr} {pos : Pos} {td ty : TE} (hu : X.A.units + 64 < cLine) (ho : PE X o td) (hi : PE X i ty) (hs : NoSl i) : PE X (.Subscript o i pos) (tNGet X td ty) := by
  refine ⟨fun pins s σ H Q I h => ?_⟩
  refine subD_of PySem.F.slot_dict_getitem.lookup hs (thn (ho.run pins s σ H _ I h) fun u s1 ⟨x, H1, I1, rx, q1⟩ => thn (hi.run pins s1 σ H1 _ I1 q1) fun iv s2 ⟨y, H2, I2, ry, a, b, l, L, v, ex, ey, e, hk, hf, hl, q2⟩ => ?_)
  subst ex ey
  obtain rfl : u = Value.ref a := rx
  obtain rfl : iv = Value.ref b := ry
  obtain ⟨z, hd, xs, r, dd⟩ := nd_rd I2 e hk
  obtain ⟨w', hw, rw'⟩ := RelO.some_of (v := v) (o := (atKey xs (nkl l)).map (·.2)) (by rw [← hl]; exact nd_val r l)
  obtain ⟨p, hp, hp2⟩ := Option.map_eq_some_iff.mp hw
  refine ⟨dd.typeIs, wpAny_getItem_heap (room_n hu) (FT.key I2 hf) dd hp ?_⟩
  rw [hp2]
  exact ⟨v, H2, I2.tok _, rw', q2⟩
/-- {}, to be a dict of such keys -/
def tNNew (X : Cx) : TE := fun _ H Q => ∀ p, H p = none → Q (.ref p) (upd H p (ND X.prog X.w p []))
theorem nd_empty {P : Program} {w : World} {H : Hp} (h : Heap) (hb : sysModules < h.objs.size) : ObjOk P w H (h.push { cls := .type "dict", data := .dict #[] }) h.objs.size (ND P w h.objs.size []) :=
  NDat.ok ⟨Nat.zero_le _, beq_eq_false_iff_ne.mpr (Ne.symm (Nat.ne_of_lt hb)), [], .nil, _, #[], 0, Heap.get?_push_size _ rfl, ⟨rfl, rfl, rfl⟩, rfl, rfl, List.nodup_nil⟩
theorem pe_nnew {X : Cx} {pos : Pos} : PE X (.Dict [] [] pos) (tNNew X) := ⟨fun pins s σ H Q I h =>
  wpAny_Dict_empty ⟨.ref s.heap.objs.size, _, I.laid (a := s.heap.objs.size) (o := ND X.prog X.w s.heap.objs.size []) (t' := s.toks) (fun _ _ q => Heap.get?_push_of_some _ q) (Nat.le_refl _) (nd_empty s.heap I.big), rfl, h _ (I.hok.fresh (Nat.le_refl _))⟩⟩
end

/-- a comprehension with a condition, whose elements are things of a kind: those of L that are some -/
theorem lc_sel {α : Type} (Rel : Hp → Addr → α → Prop) (up : ∀ {H H' t x}, Same H H' → Rel H t x → Rel H' t x) (over : ∀ {H H' t D x ys}, Rel H t x → H D = some (.lst ys) → (∀ b o, b ≠ D → H b = some o → H' b = some o) → Rel H' t x)
    {J : It} {n : Nat} {G : Hp → Prop} {Y : Nat → Hp → V → Hp → Prop} (w : Walk J n G Y) (L : List (Option α)) (hL : L.length = n) (hz : n ≤ 1000)
    {g : TG} {tt : TT} {te : TE} {vs : List Nat} {σ : L2.St} {H1 : Hp} {D : Addr} {Qd : Hp → Prop} (hD : H1 D = none) (hG : ∀ H, Same H1 H → G H)
    (hs : ∀ i c x H H' (kk : V → Hp → Prop) (kn : Hp → Prop), L[i]? = some c → Same H1 H → Y i H x H' → (∀ r, c = some r → ∀ t H4, Same H H4 → Rel H4 t r → kk (.ref t) H4) → (c = none → ∀ H4, Same H H4 → kn H4) → g x (wipe σ vs) H' fun σ2 H2 => wipe σ2 vs = wipe σ vs ∧ tt σ2 H2 fun b H3 => if b = true then te σ2 H3 kk else kn H3)
    (hd : ∀ H (ws : List (Addr × α)), Same H1 H → H D = some (.lst (ws.map fun w => .ref w.1)) → (∀ w ∈ ws, Rel H w.1 w.2) → ws.map (·.2) = L.filterMap id → Qd H) :
    ∃ W : Nat → Nat → Hp → Prop, (∃ m, W 0 m (upd H1 D (.lst []))) ∧ ∀ i m H, W i m H →
      (J.stop i H ∧ Qd H) ∨ (J.go i H ∧ ∃ Nx : Hp → Prop, (∀ H', Nx H' → ∃ m', m' < m ∧ W (i + 1) m' H') ∧ ∀ x H', J.yld i H x H' → g x (wipe σ vs) H' fun σ2 H2 => wipe σ2 vs = wipe σ vs ∧ tt σ2 H2 fun b H3 =>
        if b = true then te σ2 H3 fun y H4 => ∃ acc, H4 D = some (.lst acc) ∧ acc.length < sizeLine ∧ Nx (upd H4 D (.lst (acc ++ [y]))) else Nx H3) := by
  subst hL
  refine lc_it w (fun i H => Same H1 H ∧ ∃ ws : List (Addr × α), H D = some (.lst (ws.map fun w => .ref w.1)) ∧ (∀ w ∈ ws, Rel H w.1 w.2) ∧ ws.map (·.2) = (L.take i).filterMap id ∧ ws.length ≤ i) ⟨same_upd hD, [], upd_same, (fun _ z => nomatch z), rfl, Nat.le_refl _⟩ (fun i H _ h => hG H h.1) ?_ ?_
  · rintro i x H H' hi ⟨s1, ws, e1, r1, m1, l1⟩ y
    have hr : L[i]? = some L[i] := List.getElem?_eq_getElem hi
    have tk : (L.take (i + 1)).filterMap id = (L.take i).filterMap id ++ [L[i]].filterMap id := by
      rw [List.take_add_one, hr, List.filterMap_append]
      rfl
    refine hs i L[i] x H H' _ _ hr s1 y (fun r hc t H4 s4 f4 => ?_) (fun hc H4 s4 => ?_)
    · have e4 := s4 _ _ e1
      refine ⟨_, e4, ?_, fun b o e => ?_, ws ++ [(t, r)], ?_, fun v hv => ?_, ?_, ?_⟩
      · rw [List.length_map]
        exact small1000 (by omega)
      · rw [upd_ne (ne_of_none e hD)]
        exact s4 _ _ (s1 _ _ e)
      · rw [upd_same, List.map_append]
        rfl
      · rcases List.mem_append.mp hv with h | h
        · exact over (up s4 (r1 v h)) e4 fun b o hb e => by rw [upd_ne hb]; exact e
        · rw [List.mem_singleton.mp h]
          exact over f4 e4 fun b o hb e => by rw [upd_ne hb]; exact e
      · rw [List.map_append, m1, tk, hc]
        rfl
      · rw [List.length_append]
        exact Nat.succ_le_succ l1
    · refine ⟨s1.trans s4, ws, s4 _ _ e1, fun w hw => up s4 (r1 w hw), ?_, Nat.le_succ_of_le l1⟩
      rw [tk, m1, hc]
      exact (List.append_nil _).symm
  · rintro H ⟨s1, ws, e1, r1, m1, _⟩
    rw [List.take_length] at m1
    exact hd H ws s1 e1 r1 m1

section
open PySem.Spec PyProof.Rows
/-- name = {..} on one line, the name a local -/
theorem ps_setDc {X : Cx} {i : Nat} {yn : Str} {pn : Pos} {kx vx tgt itr : Expr} {cnd : List Expr} {sco : Scope} {own : List (Str × Nat)} {po spo : Pos} {wi : TI} {g : TG} {tt : TT} {tk tv : TE} (hc : X.calm = true) (hN : X.N.Nodup) (hy : X.N[i]? = some yn) (hyl : X.env.scope.names.lookup yn = some .local)
    (hsw : swapsWith (.DictComp kx vx [⟨tgt, itr, cnd, 0⟩] sco po) (some (.Name yn pn)) spo.line X.env = pure true) (hi : PI X tgt itr wi) (ok : BlkOk X.N X.env.scope sco own)
    (hg : ∀ (t : Shared) (H : Hp) (C : Addr) (cl : List (Str × Addr)) (fp : List Addr), PG (X.blk t H sco (compEnvC sco cl C X.env) fp) tgt g) (ht : ∀ (t : Shared) (H : Hp) (C : Addr) (cl : List (Str × Addr)) (fp : List Addr), PTs (X.blk t H sco (compEnvC sco cl C X.env) fp) cnd tt)
    (hk : ∀ (t : Shared) (H : Hp) (C : Addr) (cl : List (Str × Addr)) (fp : List Addr), PE (X.blk t H sco (compEnvC sco cl C X.env) fp) kx tk)
    (he : ∀ (t : Shared) (H : Hp) (C : Addr) (cl : List (Str × Addr)) (fp : List Addr), PE (X.blk t H sco (compEnvC sco cl C X.env) fp) vx tv) (hs : ∀ x, foldedSetIterable itr X.env x = pure x := by intro _; rfl) :
    PS X (.Assign [.Name yn pn] (.DictComp kx vx [⟨tgt, itr, cnd, 0⟩] sco po) spo) (tAsg (tDc wi g tt tk tv (own.map (·.2))) (gName i)) := by
  refine ⟨fun pins s σ H D I hq0 => ?_⟩
  rw [exec_Assign_Name_used _ _ _ _ hsw]
  refine wpAny_bind (wpAny_standAt (wpAny_bind ?_))
  show wpAny _ X.A (do let _ ← comprehension (.DictComp kx vx [⟨tgt, itr, cnd, 0⟩] sco po) sco X.env (firstIterPos [⟨tgt, itr, cnd, 0⟩] po) newDict false (eval itr X.env) (some (assign (.Name yn pn) X.env))) _ _ s
  have hq1 : tDc wi g tt tk tv (own.map (·.2)) σ H (fun x H1 => gName i x σ H1 D.nx) := hq0
  refine wpAny_bind (thn (dc_core (Qf := fun _ s' => SP X pins D .next s') hc hN I hi ok hg ht hk he hs hq1 fun L C t' m H' I' q hn f => ?_) fun _ t' hq => wpAny_pure (wpAny_pure hq))
  show wpAny _ _ (assign (.Name yn pn) X.env (.ref L)) _ _ _
  refine wpAny_assign_Name (store_ok2 (v := V.ref L) I' hN hy (.inl hyl) rfl (fun t2 I2 ⟨a, sb, ha⟩ => ?_) (.inr hyl))
  obtain ⟨q0, q1, q2, q3, q4, q5⟩ := f
  refine ⟨m, hn.sameBut sb (ha.elim (fun z => by rw [z]; exact q1) fun z e => q4 yn a z e.symm), fun h3 sb3 => ?_⟩
  exact ⟨_, H', I2.turned (t' := t2.toks) (fun b o hb e => (sb3.2 b hb).trans e) q0 q1 q3 q4 q5, q⟩
theorem sw_trueD {kx vx : Expr} {cs : List Comprehension} {sco : Scope} {po pn : Pos} {yn : Str} {ln : Nat} {en : Env} (hk : en.scope.kind = .function) (hy : en.scope.names.lookup yn = some .local) (hl : (pn.line == po.line) = true)
    (ha : (sco.names.any fun (n, k) => n == yn && (k == .local || k == .cell)) = false) : swapsWith (.DictComp kx vx cs sco po) (some (.Name yn pn)) ln en = pure true := by
  have ky : en.kindOf yn = some .local := hy
  have hb : en.blockKind = .function := by unfold Env.blockKind; rw [hk]; rfl
  unfold swapsWith
  simp only [hb, ky, ha, Expr.pos, hl]
  rfl
end

section
def kS : Kd → Str
  | .eq => "equal"
  | .ls => "least"
  | .mo => "more"
theorem kS_eq (k : Kd) : decide (V.str (kS k) = V.str "equal") = decide (k = .eq) := by cases k <;> decide +kernel
theorem kS_mo (k : Kd) : decide (V.str (kS k) = V.str "more") = decide (k = .mo) := by cases k <;> decide +kernel
theorem kS_ls (k : Kd) : decide (V.str (kS k) = V.str "least") = decide (k = .ls) := by cases k <;> decide +kernel
def okB (k : Kd) (b l : Rat) : Bool := match k with
  | .eq => decide (l = b)
  | .ls => decide (b ≤ l)
  | .mo => decide (b < l)
theorem okB_ok {k : Kd} {b l : Rat} : okB k b l = true ↔ okK k b l := by
  unfold okB okK
  cases k <;> simp
/-- a row of fractions in a list that is read -/
def RowL (K : PySem.W.Frag) (H : Hp) (u : Addr) (r : List Rat) : Prop := ∃ ws, SqL K H u (fr ws) ∧ Rx K H ws ∧ ws.map (·.2) = r
theorem RowL.up {K : PySem.W.Frag} {H H' : Hp} {u : Addr} {r : List Rat} (s : Same H H') (h : RowL K H u r) : RowL K H' u r := by
  obtain ⟨ws, h1, h2, h3⟩ := h
  exact ⟨ws, s.seq h1, h2.same s, h3⟩
theorem RowAt.l {K : PySem.W.Frag} {H : Hp} {u : Addr} {r : List Rat} (h : RowAt K H u r) : RowL K H u r := by
  obtain ⟨ws, h1, h2, h3⟩ := h
  exact ⟨ws, SqL.of h1, h2, h3⟩
theorem rowL_at {K : PySem.W.Frag} {H : Hp} {r : List Rat} {ws : List (Addr × Rat)} (h2 : Rx K H ws) (h3 : ws.map (·.2) = r) {k : Nat} (hk : k < r.length) : ∃ a, (fr ws)[k]? = some (.ref a) ∧ Fx K H a (at0 r k) ∧ at0 r k ∈ r := RowAt.get h2 h3 hk
/-- the shares of a row: a dict by places -/
def sk (ks : List (Nat × Addr)) : List (Key × V) := ks.map fun p => (Sum.inl (p.1 : Int), V.ref p.2)
def ShAt (K : PySem.W.Frag) (H : Hp) (d : Addr) (f : Nat → Rat) (N : Nat) : Prop := ∃ ks : List (Nat × Addr), H d = some (.dK (sk ks)) ∧ (∀ p ∈ ks, Fx K H p.2 (f p.1)) ∧ (∀ i, i ∉ ks.map (·.1) → f i = 0) ∧ (ks.map (·.1)).Nodup ∧ ks.length ≤ N
def RXl (K : PySem.W.Frag) (N : Nat) (H : Hp) (t : Addr) (r : Rr) (l : Addr) : Prop := ∃ o d, SqT K H t [.ref l, .ref o, .str (kS r.k), .ref d] ∧ RowAt K H l r.c ∧ Fx K H o r.b ∧ ShAt K H d r.sh N
def RX (K : PySem.W.Frag) (N : Nat) (H : Hp) (t : Addr) (r : Rr) : Prop := ∃ l, RXl K N H t r l
/-- a row whose list is new -/
def RXn (K : PySem.W.Frag) (N : Nat) (H0 H : Hp) (t : Addr) (r : Rr) : Prop := ∃ l, H0 l = none ∧ RXl K N H t r l
/-- a row whose list is another one than that at D -/
def RXD (K : PySem.W.Frag) (N : Nat) (D : Addr) (H : Hp) (t : Addr) (r : Rr) : Prop := ∃ l, l ≠ D ∧ RXl K N H t r l
theorem ShAt.up {K : PySem.W.Frag} {H H' : Hp} {d : Addr} {f : Nat → Rat} {N : Nat} (s : Same H H') (h : ShAt K H d f N) : ShAt K H' d f N := by
  obtain ⟨ks, h1, h2, h3⟩ := h
  exact ⟨ks, s _ _ h1, fun p hp => (h2 p hp).same s, h3⟩
theorem ShAt.mono {K : PySem.W.Frag} {H : Hp} {d : Addr} {f : Nat → Rat} {N M : Nat} (h : ShAt K H d f N) (hm : N ≤ M) : ShAt K H d f M := by
  obtain ⟨ks, h1, h2, h3, h4, h5⟩ := h
  exact ⟨ks, h1, h2, h3, h4, by omega⟩
theorem ShAt.over {K : PySem.W.Frag} {H H' : Hp} {d D : Addr} {f : Nat → Rat} {N : Nat} {ys : List V} (h : ShAt K H d f N) (hl : H D = some (.lst ys)) (s : ∀ b o, b ≠ D → H b = some o → H' b = some o) : ShAt K H' d f N := by
  obtain ⟨ks, h1, h2, h3⟩ := h
  refine ⟨ks, s _ _ (fun e => ?_) h1, fun p hp => over_tup (h2 p hp) hl s, h3⟩
  rw [e, hl] at h1
  cases h1
theorem RXl.up {K : PySem.W.Frag} {N : Nat} {H H' : Hp} {t l : Addr} {r : Rr} (s : Same H H') (h : RXl K N H t r l) : RXl K N H' t r l := by
  obtain ⟨o, d, h1, h2, h3, h4⟩ := h
  exact ⟨o, d, same_tup s h1, h2.up s, h3.same s, h4.up s⟩
theorem RXl.mono {K : PySem.W.Frag} {N M : Nat} {H : Hp} {t l : Addr} {r : Rr} (h : RXl K N H t r l) (hm : N ≤ M) : RXl K M H t r l := by
  obtain ⟨o, d, h1, h2, h3, h4⟩ := h
  exact ⟨o, d, h1, h2, h3, h4.mono hm⟩
theorem RXl.over {K : PySem.W.Frag} {N : Nat} {H H' : Hp} {t l D : Addr} {r : Rr} {ys : List V} (h : RXl K N H t r l) (hne : l ≠ D) (hl : H D = some (.lst ys)) (s : ∀ b o, b ≠ D → H b = some o → H' b = some o) : RXl K N H' t r l := by
  obtain ⟨o, d, h1, h2, h3, h4⟩ := h
  exact ⟨o, d, over_tup h1 hl s, h2.over hne hl s, over_tup h3 hl s, h4.over hl s⟩
theorem RX.up {K : PySem.W.Frag} {N : Nat} {H H' : Hp} {t : Addr} {r : Rr} (s : Same H H') (h : RX K N H t r) : RX K N H' t r := by
  obtain ⟨l, h⟩ := h
  exact ⟨l, h.up s⟩
theorem RXD.up {K : PySem.W.Frag} {N : Nat} {D : Addr} {H H' : Hp} {t : Addr} {r : Rr} (s : Same H H') (h : RXD K N D H t r) : RXD K N D H' t r := by
  obtain ⟨l, h0, h⟩ := h
  exact ⟨l, h0, h.up s⟩
theorem RXD.over {K : PySem.W.Frag} {N : Nat} {D : Addr} {H H' : Hp} {t : Addr} {r : Rr} {ys : List V} (h : RXD K N D H t r) (hl : H D = some (.lst ys)) (s : ∀ b o, b ≠ D → H b = some o → H' b = some o) : RXD K N D H' t r := by
  obtain ⟨l, h0, h⟩ := h
  exact ⟨l, h0, h.over h0 hl s⟩
theorem RXl.ne {K : PySem.W.Frag} {N : Nat} {H : Hp} {t l D : Addr} {r : Rr} (h : RXl K N H t r l) (hD : H D = none) : l ≠ D := by
  obtain ⟨o, d, h1, h2, h3, h4⟩ := h
  exact h2.ne hD
theorem RX.D {K : PySem.W.Frag} {N : Nat} {H : Hp} {t D : Addr} {r : Rr} (h : RX K N H t r) (hD : H D = none) : RXD K N D H t r := by
  obtain ⟨l, h⟩ := h
  exact ⟨l, h.ne hD, h⟩
theorem RXn.D {K : PySem.W.Frag} {N : Nat} {H0 H : Hp} {t D : Addr} {r : Rr} {o : HO} (h : RXn K N H0 H t r) (hD : H0 D = some o) : RXD K N D H t r := by
  obtain ⟨l, h0, h⟩ := h
  refine ⟨l, fun e => ?_, h⟩
  rw [e, hD] at h0
  cases h0
theorem RXn.x {K : PySem.W.Frag} {N : Nat} {H0 H : Hp} {t : Addr} {r : Rr} (h : RXn K N H0 H t r) : RX K N H t r := by
  obtain ⟨l, h0, h⟩ := h
  exact ⟨l, h⟩
theorem RXD.x {K : PySem.W.Frag} {N : Nat} {D : Addr} {H : Hp} {t : Addr} {r : Rr} (h : RXD K N D H t r) : RX K N H t r := by
  obtain ⟨l, h0, h⟩ := h
  exact ⟨l, h⟩
/-- a list of rows -/
def RL (K : PySem.W.Frag) (N : Nat) (H : Hp) (u : Addr) (rs : List Rr) : Prop := ∃ ws : List (Addr × Rr), SqL K H u (Ro ws) ∧ (∀ w ∈ ws, RX K N H w.1 w.2) ∧ ws.map (·.2) = rs
theorem RL.up {K : PySem.W.Frag} {N : Nat} {H H' : Hp} {u : Addr} {rs : List Rr} (s : Same H H') (h : RL K N H u rs) : RL K N H' u rs := by
  obtain ⟨ws, h1, h2, h3⟩ := h
  exact ⟨ws, s.seq h1, fun w hw => (h2 w hw).up s, h3⟩
/-- a row whose list is none of those of B -/
def RXQ (K : PySem.W.Frag) (N : Nat) (B : Addr → Prop) (H : Hp) (t : Addr) (r : Rr) : Prop := ∃ l, ¬ B l ∧ RXl K N H t r l
theorem RXQ.up {K : PySem.W.Frag} {N : Nat} {B : Addr → Prop} {H H' : Hp} {t : Addr} {r : Rr} (s : Same H H') (h : RXQ K N B H t r) : RXQ K N B H' t r := by
  obtain ⟨l, h0, h⟩ := h
  exact ⟨l, h0, h.up s⟩
theorem RXQ.over {K : PySem.W.Frag} {N : Nat} {B : Addr → Prop} {D : Addr} {H H' : Hp} {t : Addr} {r : Rr} {ys : List V} (h : RXQ K N B H t r) (hB : B D) (hl : H D = some (.lst ys)) (s : ∀ b o, b ≠ D → H b = some o → H' b = some o) : RXQ K N B H' t r := by
  obtain ⟨l, h0, h⟩ := h
  exact ⟨l, h0, h.over (fun e => h0 (by rw [e]; exact hB)) hl s⟩
theorem RXQ.x {K : PySem.W.Frag} {N : Nat} {B : Addr → Prop} {H : Hp} {t : Addr} {r : Rr} (h : RXQ K N B H t r) : RX K N H t r := by
  obtain ⟨l, h0, h⟩ := h
  exact ⟨l, h⟩
theorem RXQ.mono {K : PySem.W.Frag} {N M : Nat} {B : Addr → Prop} {H : Hp} {t : Addr} {r : Rr} (h : RXQ K N B H t r) (hm : N ≤ M) : RXQ K M B H t r := by
  obtain ⟨l, h0, h⟩ := h
  exact ⟨l, h0, h.mono hm⟩
theorem RXQ.more {K : PySem.W.Frag} {N : Nat} {B : Addr → Prop} {D : Addr} {H : Hp} {t : Addr} {r : Rr} (h : RXQ K N B H t r) (hD : H D = none) : RXQ K N (fun l => l = D ∨ B l) H t r := by
  obtain ⟨l, h0, h⟩ := h
  exact ⟨l, fun e => e.elim (h.ne hD) h0, h⟩
theorem RXQ.less {K : PySem.W.Frag} {N : Nat} {B : Addr → Prop} {D : Addr} {H : Hp} {t : Addr} {r : Rr} (h : RXQ K N (fun l => l = D ∨ B l) H t r) : RXQ K N B H t r := by
  obtain ⟨l, h0, h⟩ := h
  exact ⟨l, fun e => h0 (.inr e), h⟩
theorem RX.Q {K : PySem.W.Frag} {N : Nat} {H : Hp} {t D : Addr} {r : Rr} (h : RX K N H t r) (hD : H D = none) : RXQ K N (fun l => l = D) H t r := by
  obtain ⟨l, h⟩ := h
  exact ⟨l, h.ne hD, h⟩
theorem RXn.Q {K : PySem.W.Frag} {N : Nat} {B : Addr → Prop} {H0 H : Hp} {t : Addr} {r : Rr} (h : RXn K N H0 H t r) (hB : ∀ a, B a → ∃ o, H0 a = some o) : RXQ K N B H t r := by
  obtain ⟨l, h0, h⟩ := h
  refine ⟨l, fun e => ?_, h⟩
  obtain ⟨o, e2⟩ := hB l e
  rw [h0] at e2
  cases e2
/-- a list of rows that may still grow -/
def RG (K : PySem.W.Frag) (N : Nat) (B : Addr → Prop) (H : Hp) (u : Addr) (rs : List Rr) : Prop := ∃ ws : List (Addr × Rr), H u = some (.lst (Ro ws)) ∧ (∀ w ∈ ws, RXQ K N (fun l => l = u ∨ B l) H w.1 w.2) ∧ ws.map (·.2) = rs
theorem RG.up {K : PySem.W.Frag} {N : Nat} {B : Addr → Prop} {H H' : Hp} {u : Addr} {rs : List Rr} (s : Same H H') (h : RG K N B H u rs) : RG K N B H' u rs := by
  obtain ⟨ws, h1, h2, h3⟩ := h
  exact ⟨ws, s _ _ h1, fun w hw => (h2 w hw).up s, h3⟩
theorem RG.push {K : PySem.W.Frag} {N : Nat} {B : Addr → Prop} {H : Hp} {u t : Addr} {rs : List Rr} {r : Rr} {ws : List (Addr × Rr)} (h1 : H u = some (.lst (Ro ws))) (h2 : ∀ w ∈ ws, RXQ K N (fun l => l = u ∨ B l) H w.1 w.2) (h3 : ws.map (·.2) = rs) (h : RXQ K N (fun l => l = u ∨ B l) H t r) : RG K N B (upd H u (.lst (Ro ws ++ [.ref t]))) u (rs ++ [r]) := by
  refine ⟨ws ++ [(t, r)], ?_, fun w hw => ?_, by rw [List.map_append, h3]; rfl⟩
  · rw [upd_same]
    unfold Ro
    rw [List.map_append]
    rfl
  · rcases List.mem_append.mp hw with g | g
    · exact (h2 w g).over (.inl rfl) h1 fun b o hb e => by rw [upd_ne hb]; exact e
    · rw [List.mem_singleton.mp g]
      exact h.over (.inl rfl) h1 fun b o hb e => by rw [upd_ne hb]; exact e
/-- bits of a row -/
structure RB (p q s : Nat) (r : Rr) : Prop where
  c : ∀ x ∈ r.c, Bd p x
  b : Bd q r.b
  sh : ∀ i, Bd s (r.sh i)
theorem RB.up {p q s p' q' s' : Nat} {r : Rr} (h : RB p q s r) (h1 : p ≤ p') (h2 : q ≤ q') (h3 : s ≤ s') : RB p' q' s' r :=
  ⟨fun x hx => (h.c x hx).up h1, h.b.up h2, fun i => (h.sh i).up h3⟩
/-- a dict comprehension over a walk -/
theorem dc_it {J : It} {n : Nat} {G : Hp → Prop} {Y : Nat → Hp → V → Hp → Prop} (w : Walk J n G Y) {g : TG} {tt : TT} {tk tv : TE} {vs : List Nat} {σ : L2.St} {H1 : Hp} {D : Addr} {Qd : Hp → Prop} (Pv : Nat → Hp → Prop) (h0 : Pv 0 (upd H1 D (.dK []))) (hG : ∀ i H, i ≤ n → Pv i H → G H)
    (hs : ∀ i x H H', i < n → Pv i H → Y i H x H' → g x (wipe σ vs) H' fun σ2 H2 => wipe σ2 vs = wipe σ vs ∧ tt σ2 H2 fun b H3 =>
      if b = true then tk σ2 H3 fun y H4 => tv σ2 H4 fun z H5 => ∃ kvs k, y = kV k ∧ H5 D = some (.dK kvs) ∧ kvs.length < sizeLine ∧ Pv (i + 1) (upd H5 D (.dK (putK kvs k z))) else Pv (i + 1) H3) (hd : ∀ H, Pv n H → Qd H) :
    ∃ W : Nat → Nat → Hp → Prop, (∃ m, W 0 m (upd H1 D (.dK []))) ∧ ∀ i m H, W i m H →
      (J.stop i H ∧ Qd H) ∨ (J.go i H ∧ ∃ Nx : Hp → Prop, (∀ H', Nx H' → ∃ m', m' < m ∧ W (i + 1) m' H') ∧ ∀ x H', J.yld i H x H' → g x (wipe σ vs) H' fun σ2 H2 => wipe σ2 vs = wipe σ vs ∧ tt σ2 H2 fun b H3 =>
        if b = true then tk σ2 H3 fun y H4 => tv σ2 H4 fun z H5 => ∃ kvs k, y = kV k ∧ H5 D = some (.dK kvs) ∧ kvs.length < sizeLine ∧ Nx (upd H5 D (.dK (putK kvs k z))) else Nx H3) := by
  refine ⟨fun i m H => m = n - i ∧ i ≤ n ∧ Pv i H, ⟨n, by simp, Nat.zero_le _, h0⟩, ?_⟩
  rintro i m H ⟨rfl, hi, p⟩
  have q := hG i H hi p
  by_cases hlt : i < n
  · refine .inr ⟨w.goes i H hlt q, Pv (i + 1), fun H' p' => ⟨n - (i + 1), by omega, rfl, hlt, p'⟩, fun x H' y => hs i x H H' hlt p (w.yields i H x H' hlt q y)⟩
  · have e : i = n := by omega
    subst e
    exact .inl ⟨w.stops H q, hd H p⟩
theorem sk_val (ks : List (Nat × Addr)) (i : Nat) : valV (sk ks) (Sum.inl (i : Int)) = (ks.find? fun p => decide (p.1 = i)).map fun p => V.ref p.2 := by
  unfold sk
  induction ks with
  | nil => rfl
  | cons p ks ih =>
    rw [List.map_cons]
    by_cases e : p.1 = i
    · rw [valV_pos (by rw [e]), List.find?_cons_of_pos (by simp [e])]
      rfl
    · rw [valV_neg (fun z => e (by injection z with z; omega)), ih, List.find?_cons_of_neg (by simp [e])]
theorem sk_mem {ks : List (Nat × Addr)} {p : Nat × Addr} (hn : (ks.map (·.1)).Nodup) (hp : p ∈ ks) : valV (sk ks) (Sum.inl (p.1 : Int)) = some (.ref p.2) := by
  rw [sk_val]
  induction ks with
  | nil => cases hp
  | cons q ks ih =>
    rw [List.map_cons, List.nodup_cons] at hn
    rcases List.mem_cons.mp hp with rfl | hp
    · rw [List.find?_cons_of_pos (by simp)]
      rfl
    · rw [List.find?_cons_of_neg (by
        simp only [decide_eq_true_eq]
        exact fun z => hn.1 (by rw [z]; exact List.mem_map_of_mem hp))]
      exact ih hn.2 hp
theorem sk_none {ks : List (Nat × Addr)} {i : Nat} (h : i ∉ ks.map (·.1)) : valV (sk ks) (Sum.inl (i : Int)) = none := by
  rw [sk_val, List.find?_eq_none.mpr]
  · rfl
  · intro p hp
    simp only [decide_eq_true_eq]
    exact fun z => h (by rw [← z]; exact List.mem_map_of_mem hp)
theorem sk_snoc (ks : List (Nat × Addr)) (p : Nat × Addr) : sk (ks ++ [p]) = sk ks ++ [(Sum.inl (p.1 : Int), V.ref p.2)] := List.map_append
theorem sk_len (ks : List (Nat × Addr)) : (sk ks).length = ks.length := List.length_map _
/-- the value at a place, 0 where there is none -/
theorem ShAt.get {K : PySem.W.Frag} {H : Hp} {f : Nat → Rat} {ks : List (Nat × Addr)} (h2 : ∀ p ∈ ks, Fx K H p.2 (f p.1)) (h3 : ∀ i, i ∉ ks.map (·.1) → f i = 0) (hn : (ks.map (·.1)).Nodup) {z : Addr} (hz : Fx K H z 0) (i : Nat) : ∃ a, ((valV (sk ks) (Sum.inl (i : Int))).getD (.ref z)) = .ref a ∧ Fx K H a (f i) := by
  by_cases e : i ∈ ks.map (·.1)
  · obtain ⟨p, hp, rfl⟩ := List.mem_map.mp e
    rw [sk_mem hn hp]
    exact ⟨p.2, rfl, h2 p hp⟩
  · rw [sk_none e, h3 i e]
    exact ⟨z, rfl, hz⟩
theorem dt_sum : ∀ (c v : List Rat), sumR (List.zipWith (fun a b => a * b) c v) = dt c v
  | [], v => by rw [List.zipWith_nil_left, dt_nil]; rfl
  | x :: c, [] => by rw [List.zipWith_nil_right, dt_nil2]; rfl
  | x :: c, y :: v => by
    rw [List.zipWith_cons_cons, sum_cons, dt, dt_sum c v]
def VB (bs : List Nat) (l : List Rat) : Prop := bs.length = l.length ∧ ∀ i, i < l.length → Bd (bs.getD i 0) (at0 l i)
def bsum (bs : List Nat) : Nat := (bs.map fun b => b + 1).sum
theorem bsum_cons (b : Nat) (bs : List Nat) : bsum (b :: bs) = b + 1 + bsum bs := rfl
theorem bsum_snoc (bs : List Nat) (b : Nat) : bsum (bs ++ [b]) = bsum bs + (b + 1) := by
  unfold bsum
  rw [List.map_append, List.sum_append]
  rfl
theorem bsum_take {bs : List Nat} {i : Nat} (h : i < bs.length) : bsum (bs.take (i + 1)) = bsum (bs.take i) + (bs.getD i 0 + 1) := by
  rw [List.take_add_one, List.getElem?_eq_getElem h, List.getD_eq_getElem?_getD, List.getElem?_eq_getElem h]
  exact bsum_snoc _ _
theorem bsum_le (bs : List Nat) (i : Nat) : bsum (bs.take i) ≤ bsum bs := by
  have e : bsum bs = bsum (bs.take i) + bsum (bs.drop i) := by
    unfold bsum
    rw [← List.sum_append, ← List.map_append, List.take_append_drop]
  omega
theorem psum_bd {bs : List Nat} {l : List Rat} (h : VB bs l) : ∀ i, i ≤ l.length → Bd (1 + bsum (bs.take i)) (sumR (l.take i)) := by
  intro i
  induction i with
  | zero =>
    intro _
    exact bd_zero
  | succ i ih =>
    intro hi
    have e : l[i]? = some l[i] := List.getElem?_eq_getElem (by omega)
    have b1 := ih (by omega)
    have b2 := h.2 i (by omega)
    have e2 : at0 l i = l[i] := by
      unfold at0
      rw [List.getD_eq_getElem?_getD, e]
      rfl
    rw [take_sum e, bsum_take (by rw [h.1]; omega)]
    rw [e2] at b2
    exact (b1.add b2).up (by omega)
theorem mid_div (r s : Rat) : Rat.divInt (r.num * (s.den : Int) + s.num * (r.den : Int)) (2 * (r.den : Int) * (s.den : Int)) = (r + s) / 2 := by
  have q : ∀ r : Rat, (r.num : Rat) / ((r.den : Int) : Rat) = r := fun r => by rw [← Rat.divInt_eq_div, Rat.num_divInt_den]
  have n : ∀ r : Rat, ((r.den : Int) : Rat) ≠ 0 := fun r z => den_ne r (Rat.intCast_inj.mp z)
  have h1 := q r
  have h2 := q s
  have d1 := n r
  have d2 := n s
  rw [Rat.divInt_eq_div]
  simp only [Rat.intCast_add, Rat.intCast_mul]
  generalize (r.num : Rat) = a1 at *
  generalize (s.num : Rat) = a2 at *
  generalize ((r.den : Int) : Rat) = c1 at *
  generalize ((s.den : Int) : Rat) = c2 at *
  subst h1 h2
  have : ((2 : Int) : Rat) = 2 := rfl
  rw [this]
  grind
theorem mid_ne (r s : Rat) : 2 * (r.den : Int) * (s.den : Int) ≠ 0 := Int.mul_ne_zero (Int.mul_ne_zero (by decide) (den_ne r)) (den_ne s)
theorem less_iff (r s : Rat) : decide (r.num * (s.den : Int) < s.num * (r.den : Int)) = decide (r < s) := decide_eq_decide.mpr (by rw [← Rat.not_le, Rat.le_iff]; omega)
theorem tup_updK {K : PySem.W.Frag} {H : Hp} {a d : Addr} {xs : List V} {o : HO} {kvs : List (Key × V)} (h : SqT K H a xs) (hl : H d = some (.dK kvs)) : SqT K (upd H d o) a xs := by
  rcases h with (h | ⟨ob, h⟩) | h
  · refine .inl (.inl ?_)
    rw [upd_ne (ne_of h hl (by intro z; cases z))]
    exact h
  · refine .inl (.inr ⟨ob, ?_⟩)
    rw [upd_ne (ne_of h hl (by intro z; cases z))]
    exact h
  · exact .inr h
theorem lst_updK {H : Hp} {a d : Addr} {xs : List V} {o : HO} {kvs : List (Key × V)} (h : H a = some (.lst xs)) (hl : H d = some (.dK kvs)) : upd H d o a = some (.lst xs) := by
  rw [upd_ne (ne_of h hl (by intro z; cases z))]
  exact h
theorem row_updK {K : PySem.W.Frag} {H : Hp} {u d : Addr} {r : List Rat} {o : HO} {kvs : List (Key × V)} (h : RowAt K H u r) (hl : H d = some (.dK kvs)) : RowAt K (upd H d o) u r := by
  obtain ⟨ws, h1, h2, h3⟩ := h
  exact ⟨ws, lst_updK h1 hl, fun w hw => tup_updK (h2 w hw) hl, h3⟩
theorem same_lock {H H' : Hp} {d : Addr} {u fz : HO} (h : H d = some u) (s : Same (upd H d fz) H') : Same H (upd H' d u) := fun b o e => by
  by_cases hb : b = d
  · subst hb
    rw [upd_same, ← h]
    exact e
  · rw [upd_ne hb]
    exact s b o (by rw [upd_ne hb]; exact e)
theorem sameX_lock {H H' : Hp} {d D : Addr} {u fz : HO} (h : H d = some u) (s : SameX D (upd H d fz) H') : SameX D H (upd H' d u) := fun b o n e => by
  by_cases hb : b = d
  · subst hb
    rw [upd_same, ← h]
    exact e
  · rw [upd_ne hb]
    exact s b o n (by rw [upd_ne hb]; exact e)
theorem tupX {K : PySem.W.Frag} {H H' : Hp} {a D : Addr} {xs : List V} {kvs : List (Key × V)} (h : SqT K H a xs) (hl : H D = some (.dK kvs)) (s : SameX D H H') : SqT K H' a xs := by
  rcases h with (h | ⟨ob, h⟩) | h
  · exact .inl (.inl (s _ _ (ne_of h hl (by intro z; cases z)) h))
  · exact .inl (.inr ⟨ob, s _ _ (ne_of h hl (by intro z; cases z)) h⟩)
  · exact .inr h
theorem rowX {K : PySem.W.Frag} {H H' : Hp} {u D : Addr} {r : List Rat} {kvs : List (Key × V)} (h : RowAt K H u r) (hl : H D = some (.dK kvs)) (s : SameX D H H') : RowAt K H' u r := by
  obtain ⟨ws, h1, h2, h3⟩ := h
  exact ⟨ws, s _ _ (ne_of h1 hl (by intro z; cases z)) h1, fun w hw => tupX (h2 w hw) hl s, h3⟩
theorem sk_get {ks : List (Nat × Addr)} {i : Nat} {k : Key} {v : V} (h : (sk ks)[i]? = some (k, v)) : ∃ p, ks[i]? = some p ∧ k = Sum.inl (p.1 : Int) ∧ v = .ref p.2 := by
  unfold sk at h
  rw [List.getElem?_map] at h
  cases e : ks[i]? with
  | none => rw [e] at h; cases h
  | some p =>
    rw [e] at h
    injection Option.some.inj h with h1 h2
    exact ⟨p, rfl, h1.symm, h2.symm⟩
theorem nodup_at {l : List Nat} {i : Nat} {x : Nat} (hn : l.Nodup) (h : l[i]? = some x) : x ∉ l.take i := by
  intro hm
  obtain ⟨j, hj⟩ := List.mem_iff_getElem?.mp hm
  rw [List.getElem?_take] at hj
  by_cases hji : j < i
  · rw [if_pos hji] at hj
    have := (List.getElem?_inj (List.getElem?_eq_some_iff.mp hj).1 hn).mp (hj.trans h.symm)
    omega
  · rw [if_neg hji] at hj
    cases hj
theorem dget_frz {H : Hp} {d : Addr} {od : Obj} {ks : List (Nat × Addr)} {p : Nat × Addr} (h : H d = some (.frz od (.dK (sk ks)))) (hn : (ks.map (·.1)).Nodup) (hp : p ∈ ks) : DGet H d (.int (p.1 : Int)) (some (.ref p.2)) :=
  .inl ⟨sk ks, Sum.inl (p.1 : Int), .inr ⟨od, h⟩, rfl, (sk_mem hn hp).symm⟩
theorem over_tupK {K : PySem.W.Frag} {H H' : Hp} {t D : Addr} {xs : List V} {kvs : List (Key × V)} (h : SqT K H t xs) (hl : H D = some (.dK kvs)) (s : ∀ b o, b ≠ D → H b = some o → H' b = some o) : SqT K H' t xs := by
  rcases h with (h | ⟨ob, h⟩) | h
  · exact .inl (.inl (s _ _ (ne_of h hl (by intro z; cases z)) h))
  · exact .inl (.inr ⟨ob, s _ _ (ne_of h hl (by intro z; cases z)) h⟩)
  · exact .inr h
theorem tup_updZ {K : PySem.W.Frag} {H : Hp} {a d : Addr} {xs : List V} {o : HO} {od : Obj} {kvs : List (Key × V)} (h : SqT K H a xs) (hl : H d = some (.frz od (.dK kvs))) : SqT K (upd H d o) a xs := by
  rcases h with (h | ⟨ob, h⟩) | h
  · refine .inl (.inl ?_)
    rw [upd_ne (ne_of h hl (by intro z; cases z))]
    exact h
  · refine .inl (.inr ⟨ob, ?_⟩)
    rw [upd_ne (ne_of h hl (by intro z; cases z))]
    exact h
  · exact .inr h
theorem tupXn {K : PySem.W.Frag} {H H' : Hp} {a D : Addr} {xs : List V} (h : SqT K H a xs) (hD : H D = none) (s : ∀ b o, b ≠ D → H b = some o → H' b = some o) : SqT K H' a xs := by
  rcases h with (h | ⟨ob, h⟩) | h
  · exact .inl (.inl (s _ _ (ne_of_none h hD) h))
  · exact .inl (.inr ⟨ob, s _ _ (ne_of_none h hD) h⟩)
  · exact .inr h
/-- the dict of shares behind a store -/
def pk (ks : List (Nat × Addr)) (i : Nat) (t : Addr) : List (Nat × Addr) := if i ∈ ks.map (·.1) then ks.map (fun q => if q.1 = i then (q.1, t) else q) else ks ++ [(i, t)]
theorem sk_put (ks : List (Nat × Addr)) (i : Nat) (t : Addr) : putK (sk ks) (Sum.inl (i : Int)) (.ref t) = sk (pk ks i t) := by
  by_cases h : i ∈ ks.map (·.1)
  · unfold putK pk
    have e : ((sk ks).any fun kv => decide (kv.1 = Sum.inl (i : Int))) = true := by
      obtain ⟨p, hp, rfl⟩ := List.mem_map.mp h
      rw [List.any_eq_true]
      exact ⟨(Sum.inl (p.1 : Int), V.ref p.2), List.mem_map_of_mem (f := fun p : Nat × Addr => ((Sum.inl (p.1 : Int) : Key), V.ref p.2)) hp, decide_eq_true rfl⟩
    rw [if_pos e, if_pos h]
    unfold sk
    rw [List.map_map, List.map_map]
    refine List.map_congr_left fun q _ => ?_
    show (if (Sum.inl (q.1 : Int) : Key) = Sum.inl (i : Int) then _ else _) = _
    by_cases g : q.1 = i
    · show _ = ((Sum.inl ((if q.1 = i then (q.1, t) else q).1 : Int) : Key), V.ref (if q.1 = i then (q.1, t) else q).2)
      rw [if_pos (by rw [g]), if_pos g]
    · show _ = ((Sum.inl ((if q.1 = i then (q.1, t) else q).1 : Int) : Key), V.ref (if q.1 = i then (q.1, t) else q).2)
      rw [if_neg (fun z => g (by injection z with z; omega)), if_neg g]
  · rw [putK_new _ (sk_none h)]
    unfold pk
    rw [if_neg h, sk_snoc]
theorem pk_keys (ks : List (Nat × Addr)) (i : Nat) (t : Addr) : (pk ks i t).map (·.1) = if i ∈ ks.map (·.1) then ks.map (·.1) else ks.map (·.1) ++ [i] := by
  unfold pk
  by_cases h : i ∈ ks.map (·.1)
  · rw [if_pos h, if_pos h, List.map_map]
    refine List.map_congr_left fun q _ => ?_
    show (if q.1 = i then (q.1, t) else q).1 = q.1
    split <;> rfl
  · rw [if_neg h, if_neg h, List.map_append]
    rfl
theorem pk_nodup {ks : List (Nat × Addr)} {i : Nat} {t : Addr} (h : (ks.map (·.1)).Nodup) : ((pk ks i t).map (·.1)).Nodup := by
  rw [pk_keys]
  split
  · exact h
  · rename_i g
    rw [List.nodup_append]
    refine ⟨h, by simp, fun a ha b hb => ?_⟩
    rw [List.mem_singleton.mp hb]
    exact fun z => g (by rw [← z]; exact ha)
theorem pk_len (ks : List (Nat × Addr)) (i : Nat) (t : Addr) : (pk ks i t).length ≤ ks.length + 1 := by
  unfold pk
  split
  · rw [List.length_map]
    omega
  · rw [List.length_append]
    exact Nat.le_refl _
theorem pk_mem {ks : List (Nat × Addr)} {i : Nat} {t : Addr} {q : Nat × Addr} (h : q ∈ pk ks i t) : (q = (i, t)) ∨ (q ∈ ks ∧ q.1 ≠ i) := by
  unfold pk at h
  split at h
  · obtain ⟨p, hp, rfl⟩ := List.mem_map.mp h
    by_cases g : p.1 = i
    · rw [if_pos g, g]
      exact .inl rfl
    · rw [if_neg g]
      exact .inr ⟨hp, g⟩
  · rename_i g
    rcases List.mem_append.mp h with h | h
    · exact .inr ⟨h, fun z => g (by rw [← z]; exact List.mem_map_of_mem h)⟩
    · exact .inl (List.mem_singleton.mp h)
theorem pk_has {ks : List (Nat × Addr)} {i j : Nat} {t : Addr} : j ∈ (pk ks i t).map (·.1) ↔ j ∈ ks.map (·.1) ∨ j = i := by
  rw [pk_keys]
  split
  · rename_i g
    constructor
    · exact .inl
    · rintro (h | h)
      · exact h
      · rw [h]
        exact g
  · rw [List.mem_append, List.mem_singleton]
theorem none_of {H H' : Hp} {p : Addr} (s : Same H H') (h : H' p = none) : H p = none := by
  cases e : H p with
  | none => rfl
  | some o =>
    rw [s p o e] at h
    cases h
theorem zip_get2 {op : Rat → Rat → Rat} {xs ys : List (Addr × Rat)} {i : Nat} {c : Rat} (h : (List.zipWith op (xs.map (·.2)) (ys.map (·.2)))[i]? = some c) : ∃ x y, xs[i]? = some x ∧ ys[i]? = some y ∧ op x.2 y.2 = c := by
  rw [List.getElem?_zipWith, List.getElem?_map, List.getElem?_map] at h
  cases e1 : xs[i]? with
  | none => rw [e1] at h; cases h
  | some x =>
    cases e2 : ys[i]? with
    | none => rw [e1, e2] at h; cases h
    | some y =>
      rw [e1, e2] at h
      exact ⟨x, y, rfl, rfl, Option.some.inj h⟩
end

section
theorem Spn.pred {G : VF → Prop} {Z : VF → Prop} (z0 : Z fun _ => 0) (zc : ∀ v w a, Z v → Z w → Z fun k => v k + a * w k) (hg : ∀ g, G g → Z g) {v : VF} (hv : Spn G v) : Z v := by
  induction hv with
  | zero => exact z0
  | step c _ hg2 ih => exact zc _ _ c ih (hg _ hg2)
theorem spn_sN {S : VF → Prop} {μ : Nat → Rat} {g : Nat → VF} : ∀ {n : Nat}, (∀ k < n, μ k ≠ 0 → Spn S (g k)) → Spn S fun c => sN (fun k => μ k * g k c) n
  | 0, _ => Spn.zero
  | n + 1, h => by
    have ih := spn_sN (n := n) fun k hk => h k (by omega)
    by_cases h0 : μ n = 0
    · exact ih.cong fun c => by
        show _ = sN _ n + μ n * g n c
        rw [h0]
        grind
    · exact Spn.closed _ _ (μ n) ih (h n (by omega) h0)
theorem sN_split {f : Nat → Rat} {j n : Nat} (h : j < n) : sN f n = sN (fun k => if k = j then 0 else f k) n + f j := by
  have e := sN_add (fun k => if k = j then 0 else f k) (fun k => if k = j then f k else 0) 1 n
  rw [sN_one (f := fun k => if k = j then f k else 0) h fun k _ hne => if_neg hne] at e
  rw [sN_cong (f := f) (g := fun k => (if k = j then 0 else f k) + 1 * (if k = j then f k else 0)) fun k _ => by
    by_cases hk : k = j
    · rw [if_pos hk, if_pos hk]
      grind
    · rw [if_neg hk, if_neg hk]
      grind, e]
  show _ + 1 * (if j = j then f j else 0) = _
  rw [if_pos rfl]
  grind
/-- from a dependence one of its rows comes from the others -/
theorem dep_out {S : VF → Prop} {μ : Nat → Rat} {g : Nat → VF} {n j : Nat} (hj : j < n) (h0 : μ j ≠ 0) (hs : ∀ k < n, k ≠ j → μ k ≠ 0 → Spn S (g k)) (hz : ∀ c, sN (fun k => μ k * g k c) n = 0) : Spn S (g j) := by
  have a := spn_sN (S := S) (μ := fun k => if k = j then 0 else μ k) (g := g) (n := n) fun k hk h => by
    by_cases hkj : k = j
    · exact absurd (if_pos hkj) h
    · exact hs k hk hkj fun z => h (by show (if k = j then 0 else μ k) = 0; rw [if_neg hkj]; exact z)
  refine (a.scale (-1 / μ j)).cong fun c => ?_
  have e := hz c
  rw [sN_split hj] at e
  rw [sN_cong (f := fun k => (if k = j then 0 else μ k) * g k c) (g := fun k => if k = j then 0 else μ k * g k c) fun k _ => by
    by_cases hk : k = j
    · rw [if_pos hk, if_pos hk]
      grind
    · rw [if_neg hk, if_neg hk]]
  grind
/-- how many leads -/
theorem RankIs.list {S : VF → Prop} {r : Nat} (h : RankIs S r) : ∃ A : List Nat, A.Nodup ∧ A.length = r ∧ (∀ v c, S v → Ld v c → c ∈ A) ∧ ∀ a ∈ A, ∃ v, S v ∧ Ld v a := by
  obtain ⟨A, B, a1, _, a2, _, _, a3, _, a4, _⟩ := rank_sub h h fun _ hv => hv
  exact ⟨A, a1, a2, a3, a4⟩
theorem spn_lift {m : Nat} {R : List (List Rat)} {v : VF} (h : Spn (inL m R) v) : ∃ w, Spn (inL (m + 1) R) w ∧ ∀ k < m, w k = v k := by
  induction h with
  | zero => exact ⟨_, Spn.zero, fun _ _ => rfl⟩
  | step c _ hg ih =>
    obtain ⟨w, w1, w2⟩ := ih
    obtain ⟨r, hr, rfl⟩ := hg
    refine ⟨_, Spn.step c w1 ⟨r, hr, rfl⟩, fun k hk => ?_⟩
    show w k + c * cf (m + 1) r k = _ + c * cf m r k
    rw [w2 k hk]
    unfold cf
    rw [if_pos hk, if_pos (by omega)]
/-- with the bounds there is at most one lead more: that of a row that says something of nothing -/
theorem aug_cmp {m : Nat} {R : List (List Rat)} {a b : Nat} (h1 : RankIs (Spn (inL (m + 1) R)) a) (h2 : RankIs (Spn (inL m R)) b) : (b < a ↔ ∃ v, Spn (inL (m + 1) R) v ∧ Ld v m) ∧ b ≤ a ∧ a ≤ b + 1 := by
  obtain ⟨A, a1, rfl, a3, a4⟩ := h1.list
  obtain ⟨B, b1, rfl, b3, b4⟩ := h2.list
  have low : ∀ {v : VF} {c : Nat}, Ld v c → (∀ k ≥ m, v k = 0) → c < m := fun {v c} h g => by
    rcases Nat.lt_or_ge c m with l | l
    · exact l
    · exact absurd (g c l) h.1
  have ba : ∀ c ∈ B, c ∈ A ∧ c < m := fun c hc => by
    obtain ⟨v, v1, v2⟩ := b4 c hc
    have lc := low v2 (cf_out v1)
    obtain ⟨w, w1, w2⟩ := spn_lift v1
    exact ⟨a3 w c w1 ⟨by rw [w2 c lc]; exact v2.1, fun k hk => by rw [w2 k (by omega)]; exact v2.2 k hk⟩, lc⟩
  have ab : ∀ c ∈ A, c = m ∨ c ∈ B := fun c hc => by
    obtain ⟨v, v1, v2⟩ := a4 c hc
    rcases Nat.lt_trichotomy c m with l | l | l
    · refine .inr (b3 _ c (spn_fewer (Nat.le_succ m) v1) ⟨?_, fun k hk => ?_⟩)
      · show (if c < m then v c else 0) ≠ 0
        rw [if_pos l]
        exact v2.1
      · show (if k < m then v k else 0) = 0
        rw [v2.2 k hk]
        split <;> rfl
    · exact .inl l
    · exact absurd (cf_out v1 c (by omega)) v2.1
  have hab : A.length ≤ B.length + 1 := nodup_le (B := m :: B) a1 fun c hc => by
    rcases ab c hc with h | h
    · rw [h]; exact List.mem_cons_self
    · exact List.mem_cons_of_mem _ h
  refine ⟨⟨fun h => ?_, fun ⟨v, v1, v2⟩ => ?_⟩, nodup_le b1 fun c hc => (ba c hc).1, hab⟩
  · by_cases hm : m ∈ A
    · exact a4 m hm
    · have := nodup_le a1 fun c hc => (ab c hc).resolve_left fun z => hm (by rw [← z]; exact hc)
      omega
  · have hmA := a3 v m v1 v2
    have := nodup_le (A := m :: B) (List.nodup_cons.mpr ⟨fun z => Nat.lt_irrefl _ (ba m z).2, b1⟩) (B := A) fun c hc => by
      rcases List.mem_cons.mp hc with h | h
      · rw [h]; exact hmA
      · exact (ba c h).1
    exact this
/-- a row more, at most one lead more -/
theorem rank_succ {M : Nat} {R : List (List Rat)} {u : List Rat} {r s : Nat} (h1 : RankIs (Spn (inL M R)) r) (h2 : RankIs (Spn (inL M (R ++ [u]))) s) : s ≤ r + 1 := by
  obtain ⟨A, a1, rfl, a3, a4⟩ := h1.list
  obtain ⟨B, b1, rfl, b3, b4⟩ := h2.list
  have parts : ∀ v, Spn (inL M (R ++ [u])) v → ∃ (x : Rat) (w : VF), Spn (inL M R) w ∧ ∀ k, v k = x * cf M u k + w k := fun v hv => by
    refine Spn.pred (Z := fun v => ∃ (x : Rat) (w : VF), Spn (inL M R) w ∧ ∀ k, v k = x * cf M u k + w k) ⟨0, _, Spn.zero, fun k => by grind⟩ ?_ ?_ hv
    · rintro v w a ⟨x, v', v1, v2⟩ ⟨y, w', w1, w2⟩
      exact ⟨x + a * y, _, Spn.closed _ _ a v1 w1, fun k => by show v k + a * w k = _; rw [v2, w2]; grind⟩
    · rintro g ⟨t, ht, rfl⟩
      rcases List.mem_append.mp ht with h | h
      · exact ⟨0, _, Spn.gen ⟨t, h, rfl⟩, fun k => by grind⟩
      · rw [List.mem_singleton.mp h]
        exact ⟨1, _, Spn.zero, fun k => by grind⟩
  have one : ∀ c d, c ∈ B → d ∈ B → c ∉ A → d ∉ A → ¬ c < d := fun c d hc hd hcA hdA l => by
    obtain ⟨v, v1, v2⟩ := b4 c hc
    obtain ⟨w, w1, w2⟩ := b4 d hd
    obtain ⟨x, v', v3, v4⟩ := parts v v1
    obtain ⟨y, w', w3, w4⟩ := parts w w1
    have y0 : y ≠ 0 := fun z => hdA (a3 w' d w3 ⟨by have := w4 d; rw [z] at this; rw [show w' d = w d by grind]; exact w2.1, fun k hk => by have := w4 k; rw [z, w2.2 k hk] at this; grind⟩)
    refine hcA (a3 _ c (Spn.closed _ _ (-(x / y)) v3 w3) ⟨?_, fun k hk => ?_⟩)
    · have e1 := v4 c
      have e2 := w4 c
      rw [w2.2 c l] at e2
      have := v2.1
      show v' c + -(x / y) * w' c ≠ 0
      have : v' c + -(x / y) * w' c = v c := by grind
      rw [this]
      exact v2.1
    · have e1 := v4 k
      have e2 := w4 k
      rw [w2.2 k (by omega)] at e2
      rw [v2.2 k hk] at e1
      show v' k + -(x / y) * w' k = 0
      grind
  by_cases hall : ∀ b ∈ B, b ∈ A
  · have := nodup_le b1 hall
    omega
  · obtain ⟨d, hd⟩ := Classical.not_forall.mp hall
    obtain ⟨hdB, hdA⟩ := Classical.not_imp.mp hd
    exact nodup_le (B := d :: A) b1 fun c hc => by
      by_cases hcA : c ∈ A
      · exact List.mem_cons_of_mem _ hcA
      · rcases Nat.lt_trichotomy c d with l | l | l
        · exact absurd l (one c d hc hdB hcA hdA)
        · rw [l]; exact List.mem_cons_self
        · exact absurd l (one d c hdB hc hdA hcA)
theorem rank_ex {n : Nat} {R : List (List Rat)} (h : ∀ r ∈ R, r.length = n) : ∃ f, RankIs (Spn (inL n R)) f := by
  have step : ∀ c ≤ n, ∃ rows f, RI n R rows c f := by
    intro c
    induction c with
    | zero => exact fun _ => ⟨R, 0, RI.start h⟩
    | succ c ih =>
      intro hc
      obtain ⟨rows, f, hr⟩ := ih (by omega)
      by_cases hz : ∀ r ∈ rows.drop f, r.getD c 0 = 0
      · exact ⟨rows, f, hr.skip hz⟩
      · obtain ⟨r, hr2⟩ := Classical.not_forall.mp hz
        obtain ⟨hm, h0⟩ := Classical.not_imp.mp hr2
        obtain ⟨B, C, e⟩ := List.append_of_mem hm
        have e2 : rows = rows.take f ++ (B ++ r :: C) := by rw [← e, List.take_append_drop]
        have lA : (rows.take f).length = f := by rw [List.length_take]; have := hr.few; omega
        rw [e2] at hr
        exact ⟨_, _, hr.next lA (by omega) h0⟩
  obtain ⟨rows, f, hr⟩ := step n (Nat.le_refl n)
  exact ⟨f, hr.done⟩
end

section
theorem rank_nil {M r : Nat} (h : RankIs (Spn (inL M [])) r) : r = 0 := by
  obtain ⟨A, _, rfl, _, a4⟩ := h.list
  cases A with
  | nil => rfl
  | cons a A =>
    obtain ⟨v, v1, v2⟩ := a4 a List.mem_cons_self
    exact absurd (v1.vanish fun g hg => by
      obtain ⟨r, hr, _⟩ := hg
      cases hr) v2.1
/-- rows each of which does not come from those in front of it -/
theorem indep_rank {M : Nat} {R : Nat → List Rat} {T : List Nat} (hl : ∀ k ∈ T, (R k).length = M) (hp : T.Pairwise (· < ·)) (hn : ∀ k ∈ T, ¬ Spn (fun g => ∃ j < k, cf M (R j) = g) (cf M (R k))) {r : Nat} (h : RankIs (Spn (inL M (T.map R))) r) : r = T.length := by
  have key : ∀ j ≤ T.length, ∀ r, RankIs (Spn (inL M ((T.take j).map R))) r → r = j := by
    intro j
    induction j with
    | zero =>
      intro _ r h
      rw [List.take_zero] at h
      exact rank_nil h
    | succ j ih =>
      intro hj r h
      have e : T.take (j + 1) = T.take j ++ [T[j]] := by rw [List.take_add_one, List.getElem?_eq_getElem (by omega)]; rfl
      rw [e, List.map_append] at h
      obtain ⟨f, hf⟩ := rank_ex (n := M) (R := (T.take j).map R) fun x hx => by
        obtain ⟨k, hk, rfl⟩ := List.mem_map.mp hx
        exact hl k (List.mem_of_mem_take hk)
      have ef := ih (by omega) f hf
      have h1 := rank_succ hf h
      have h2 : f ≤ r := rank_le hf h fun v hv => hv.mono fun g hg => by
        obtain ⟨x, hx, e⟩ := hg
        exact Spn.gen ⟨x, List.mem_append_left _ hx, e⟩
      have h3 : r ≠ f := fun z => hn T[j] (List.getElem_mem (by omega)) (((rank_more hf h).mp z).mono fun g hg => by
        obtain ⟨x, hx, e2⟩ := hg
        obtain ⟨k, hk, rfl⟩ := List.mem_map.mp hx
        obtain ⟨q, hq, hk⟩ := List.mem_iff_getElem.mp hk
        rw [List.length_take] at hq
        rw [List.getElem_take] at hk
        refine Spn.gen ⟨k, ?_, e2⟩
        rw [← hk]
        exact List.pairwise_iff_getElem.mp hp q j (by omega) (by omega) (by omega))
      omega
  exact key T.length (Nat.le_refl _) r (by rw [List.take_length]; exact h)
/-- a row that does not come from those in front of it, by its coefficients -/
def PP (m : Nat) (G : List (List Rat)) (k : Nat) : Prop := ¬ Spn (inL m (G.take k)) (cf m (G.getD k []))
/-- a conflict: how much of each row makes a row that says something of nothing -/
structure Cft (m : Nat) (G : List (List Rat)) (i : Nat) (μ : Nat → Rat) : Prop where
  lt : i < G.length
  own : μ i ≠ 0
  su : ∀ k < G.length, μ k ≠ 0 → k = i ∨ (k < i ∧ PP m G k)
  co : ∀ c < m, sN (fun k => μ k * cf (m + 1) (G.getD k []) c) G.length = 0
  bo : sN (fun k => μ k * cf (m + 1) (G.getD k []) m) G.length ≠ 0
  calm : ∀ v, Spn (inL (m + 1) (G.take i)) v → ¬ Ld v m
def toldL (n : Nat) (μ : Nat → Rat) : List Nat := (List.range n).filter fun k => !decide (μ k = 0)
theorem told_mem {n : Nat} {μ : Nat → Rat} {k : Nat} : k ∈ toldL n μ ↔ k < n ∧ μ k ≠ 0 := by
  unfold toldL
  rw [List.mem_filter, List.mem_range]
  simp
theorem told_asc (n : Nat) (μ : Nat → Rat) : (toldL n μ).Pairwise (· < ·) := List.pairwise_lt_range.filter _
theorem Cft.last {m i : Nat} {G : List (List Rat)} {μ : Nat → Rat} (h : Cft m G i μ) : toldL G.length μ = toldL i μ ++ [i] := by
  unfold toldL
  have e : G.length = i + (1 + (G.length - i - 1)) := by have := h.lt; omega
  rw [e, List.range_add, List.filter_append, List.range_add, List.map_append, List.filter_append]
  have e1 : (List.map (fun x => i + x) (List.range 1)).filter (fun k => !decide (μ k = 0)) = [i] := by
    show List.filter _ [i + 0] = [i]
    rw [List.filter_cons_of_pos (by have := h.own; simp [this])]
    rfl
  have e2 : (List.map (fun x => i + x) (List.map (fun x => 1 + x) (List.range (G.length - i - 1)))).filter (fun k => !decide (μ k = 0)) = [] := by
    rw [List.filter_eq_nil_iff]
    intro k hk
    obtain ⟨a, ha, rfl⟩ := List.mem_map.mp hk
    obtain ⟨b, hb, rfl⟩ := List.mem_map.mp ha
    have hb2 := List.mem_range.mp hb
    have : μ (i + (1 + b)) = 0 := Classical.byContradiction fun z => by
      rcases h.su _ (by omega) z with g | ⟨g, _⟩ <;> omega
    simp [this]
  rw [e1, e2, List.append_nil]
theorem inL_take {M : Nat} {G : List (List Rat)} {k : Nat} (hk : k ≤ G.length) {v : VF} (h : Spn (fun g => ∃ j < k, cf M (G.getD j []) = g) v) : Spn (inL M (G.take k)) v := h.mono fun g hg => by
  obtain ⟨j, hj, e⟩ := hg
  refine Spn.gen ⟨G.getD j [], ?_, e⟩
  rw [List.getD_eq_getElem?_getD, List.getElem?_eq_getElem (by omega)]
  exact List.mem_iff_getElem.mpr ⟨j, by rw [List.length_take]; omega, by rw [List.getElem_take]; rfl⟩
end
section
/-- equations as rows with their bounds -/
abbrev auE (e : List Rat × Rat) : List Rat := e.1 ++ [e.2]
abbrev eqAt (L : List (List Rat × Rat)) (k : Nat) : List Rat × Rat := L.getD k ([], 0)
theorem au_at {L : List (List Rat × Rat)} {k : Nat} (h : k < L.length) : (L.map auE).getD k [] = auE (eqAt L k) := by
  rw [List.getD_eq_getElem?_getD, List.getElem?_map, List.getElem?_eq_getElem h]
  show L[k].1 ++ [L[k].2] = _
  unfold eqAt
  rw [List.getD_eq_getElem?_getD, List.getElem?_eq_getElem h]
  rfl
theorem eq_len {L : List (List Rat × Rat)} {m k : Nat} (hL : ∀ e ∈ L, e.1.length = m) (h : k < L.length) : (eqAt L k).1.length = m := by
  unfold eqAt
  rw [List.getD_eq_getElem?_getD, List.getElem?_eq_getElem h]
  exact hL _ (List.getElem_mem h)
theorem cf_au {m : Nat} {e : List Rat × Rat} (h : e.1.length = m) : cf m (auE e) = cf m e.1 := cf_short h e.2
/-- the coefficients alone span what they do with bounds behind them -/
theorem inL_co {m : Nat} {D : List (List Rat × Rat)} (h : ∀ e ∈ D, e.1.length = m) : inL m (D.map (·.1)) = inL m (D.map auE) := funext fun g => propext ⟨fun ⟨r, hr, hg⟩ => by
    obtain ⟨w, hw, rfl⟩ := List.mem_map.mp hr
    exact ⟨_, List.mem_map_of_mem hw, by rw [cf_au (h w hw)]; exact hg⟩, fun ⟨r, hr, hg⟩ => by
    obtain ⟨w, hw, rfl⟩ := List.mem_map.mp hr
    exact ⟨_, List.mem_map_of_mem hw, by rw [← hg]; exact (cf_au (h w hw)).symm⟩⟩
variable {m i : Nat} {L : List (List Rat × Rat)} {μ : Nat → Rat}
theorem Cft.pp (hL : ∀ e ∈ L, e.1.length = m) (h : Cft m (L.map auE) i μ) {k : Nat} (hk : k ∈ toldL i μ) : k < i ∧ k < L.length ∧ μ k ≠ 0 ∧ ¬ Spn (fun g => ∃ j < k, cf m (eqAt L j).1 = g) (cf m (eqAt L k).1) := by
  obtain ⟨k1, k2⟩ := told_mem.mp hk
  have hi := h.lt
  rw [List.length_map] at hi
  have hp := (h.su k (by rw [List.length_map]; omega) k2).resolve_left (by omega)
  refine ⟨k1, by omega, k2, fun hs => hp.2 ?_⟩
  rw [au_at (by omega), cf_au (eq_len hL (by omega))]
  refine inL_take (by rw [List.length_map]; omega) (hs.mono fun g hg => ?_)
  obtain ⟨j, hj, rfl⟩ := hg
  exact Spn.gen ⟨j, hj, by rw [au_at (by omega), cf_au (eq_len hL (by omega))]⟩
theorem Cft.zero (hL : ∀ e ∈ L, e.1.length = m) (h : Cft m (L.map auE) i μ) : ∀ c, sN (fun k => μ k * cf m (eqAt L k).1 c) L.length = 0 := fun c => by
  rcases Nat.lt_or_ge c m with l | l
  · have := h.co c l
    rw [List.length_map] at this
    rw [← this]
    refine sN_cong fun k hk => ?_
    rw [au_at hk, cf_coef (eq_len hL hk) _ c l]
    unfold cf
    rw [if_pos l]
  · exact sN_none fun k _ => by
      unfold cf
      rw [if_neg (by omega)]
      grind
/-- a told row comes from the other told ones -/
theorem Cft.from (hL : ∀ e ∈ L, e.1.length = m) (h : Cft m (L.map auE) i μ) {j : Nat} (hj : j < L.length) (h0 : μ j ≠ 0) {S : VF → Prop} (hs : ∀ k < L.length, k ≠ j → μ k ≠ 0 → Spn S (cf m (eqAt L k).1)) : Spn S (cf m (eqAt L j).1) := dep_out hj h0 hs (h.zero hL)
theorem Cft.rank0 (hL : ∀ e ∈ L, e.1.length = m) (h : Cft m (L.map auE) i μ) {r : Nat} (hr : RankIs (Spn (inL m ((toldL i μ).map fun k => (eqAt L k).1))) r) : r = (toldL i μ).length :=
  indep_rank (R := fun k => (eqAt L k).1) (fun k hk => eq_len hL (h.pp hL hk).2.1) (told_asc i μ) (fun k hk => (h.pp hL hk).2.2.2) hr
theorem told_len (h : Cft m (L.map auE) i μ) : toldL L.length μ = toldL i μ ++ [i] := by
  have := h.last
  rw [List.length_map] at this
  exact this
theorem Cft.rank_out (hL : ∀ e ∈ L, e.1.length = m) (h : Cft m (L.map auE) i μ) {T : List Nat} {j : Nat} (hj : j ∈ toldL L.length μ) (hT : ∀ k ∈ toldL L.length μ, k ≠ j → k ∈ T) (hT2 : ∀ k ∈ T, k ∈ toldL L.length μ) {r : Nat} (hr : RankIs (Spn (inL m (T.map fun k => (eqAt L k).1))) r) : r + 1 = (toldL L.length μ).length := by
  obtain ⟨f, hf⟩ := rank_ex (n := m) (R := (toldL i μ).map fun k => (eqAt L k).1) fun x hx => by
    obtain ⟨k, hk, rfl⟩ := List.mem_map.mp hx
    exact eq_len hL (h.pp hL hk).2.1
  have e := h.rank0 hL hf
  rw [told_len h, List.length_append]
  show r + 1 = _ + 1
  rw [← e]
  have hi := h.lt
  rw [List.length_map] at hi
  obtain ⟨j1, j2⟩ := told_mem.mp hj
  refine congrArg (· + 1) (rank_eq hr hf (fun v hv => hv.mono fun g hg => ?_) fun v hv => hv.mono fun g hg => ?_)
  · obtain ⟨x, hx, rfl⟩ := hg
    obtain ⟨k, hk, rfl⟩ := List.mem_map.mp hx
    have hk2 := hT2 k hk
    rw [told_len h] at hk2
    rcases List.mem_append.mp hk2 with g | g
    · exact Spn.gen ⟨_, List.mem_map_of_mem g, rfl⟩
    · rw [List.mem_singleton.mp g]
      refine h.from hL hi h.own fun q hq hne hq0 => Spn.gen ⟨_, List.mem_map_of_mem (told_mem.mpr ⟨?_, hq0⟩), rfl⟩
      rcases h.su q (by rw [List.length_map]; exact hq) hq0 with g | g
      · exact absurd g hne
      · exact g.1
  · obtain ⟨x, hx, rfl⟩ := hg
    obtain ⟨k, hk, rfl⟩ := List.mem_map.mp hx
    have hk1 := h.pp hL hk
    by_cases hkj : k = j
    · rw [hkj]
      exact h.from hL j1 j2 fun q hq hne hq0 => Spn.gen ⟨_, List.mem_map_of_mem (hT q (told_mem.mpr ⟨hq, hq0⟩) hne), rfl⟩
    · exact Spn.gen ⟨_, List.mem_map_of_mem (hT k (told_mem.mpr ⟨hk1.2.1, hk1.2.2.1⟩) hkj), rfl⟩
theorem Cft.rank_co (hL : ∀ e ∈ L, e.1.length = m) (h : Cft m (L.map auE) i μ) {r : Nat} (hr : RankIs (Spn (inL m ((toldL L.length μ).map fun k => (eqAt L k).1))) r) : r + 1 = (toldL L.length μ).length :=
  h.rank_out hL (j := i) (by rw [told_len h]; exact List.mem_append_right _ List.mem_cons_self) (fun k hk _ => hk) (fun k hk => hk) hr
theorem Cft.odd (h : Cft m (L.map auE) i μ) {D : List (List Rat)} (hD : ∀ k ∈ toldL L.length μ, auE (eqAt L k) ∈ D) : ∃ v, Spn (inL (m + 1) D) v ∧ Ld v m := by
  refine ⟨_, spn_sN (S := inL (m + 1) D) (μ := μ) (g := fun k => cf (m + 1) ((L.map auE).getD k [])) (n := (L.map auE).length) fun k hk h0 => ?_, h.bo, fun c hc => h.co c hc⟩
  rw [List.length_map] at hk
  show Spn _ (cf (m + 1) ((L.map auE).getD k []))
  rw [au_at hk]
  exact Spn.gen ⟨_, hD k (told_mem.mpr ⟨hk, h0⟩), rfl⟩
theorem Cft.rank_au (hL : ∀ e ∈ L, e.1.length = m) (h : Cft m (L.map auE) i μ) {r : Nat} (hr : RankIs (Spn (inL (m + 1) ((toldL L.length μ).map fun k => auE (eqAt L k)))) r) : r = (toldL L.length μ).length := by
  obtain ⟨f, hf⟩ := rank_ex (n := m) (R := (toldL L.length μ).map fun k => (eqAt L k).1) fun x hx => by
    obtain ⟨k, hk, rfl⟩ := List.mem_map.mp hx
    exact eq_len hL (told_mem.mp hk).1
  have e := h.rank_co hL hf
  have ec := inL_co (m := m) (D := (toldL L.length μ).map (eqAt L)) fun x hx => by
    obtain ⟨k, hk, rfl⟩ := List.mem_map.mp hx
    exact eq_len hL (told_mem.mp hk).1
  rw [List.map_map, List.map_map] at ec
  have hf2 : RankIs (Spn (inL m ((toldL L.length μ).map fun k => auE (eqAt L k)))) f := by
    have e2 : inL m ((toldL L.length μ).map fun k => auE (eqAt L k)) = inL m ((toldL L.length μ).map fun k => (eqAt L k).1) := ec.symm
    rw [e2]
    exact hf
  obtain ⟨c1, c2, c3⟩ := aug_cmp hr hf2
  have := c1.mpr (h.odd fun k hk => List.mem_map_of_mem hk)
  omega
/-- a told row but the last says something that those in front of it do not -/
theorem Cft.new (hL : ∀ e ∈ L, e.1.length = m) (h : Cft m (L.map auE) i μ) {k : Nat} (hk : k ∈ toldL i μ) {r s : Nat} (h1 : RankIs (Spn (inL (m + 1) ((L.take k).map auE))) r) (h2 : RankIs (Spn (inL (m + 1) ((L.take k).map auE ++ [auE (eqAt L k)]))) s) : s ≠ r := fun z => by
  obtain ⟨k1, k2, k3, k4⟩ := h.pp hL hk
  have hs := spn_fewer (Nat.le_succ m) ((rank_more h1 h2).mp z)
  refine k4 ((hs.cong fun c => ?_).mono fun g hg => ?_)
  · exact (cf_fewer (Nat.le_succ m) _ c).trans (by rw [cf_au (eq_len hL k2)])
  · obtain ⟨x, hx, rfl⟩ := hg
    obtain ⟨e, he, rfl⟩ := List.mem_map.mp hx
    obtain ⟨q, hq, e2⟩ := List.mem_iff_getElem.mp he
    rw [List.length_take] at hq
    rw [List.getElem_take] at e2
    refine Spn.gen ⟨q, by omega, ?_⟩
    have e3 : eqAt L q = e := by
      unfold eqAt
      rw [List.getD_eq_getElem?_getD, List.getElem?_eq_getElem (by omega), ← e2]
      rfl
    rw [cf_au (hL e (List.mem_of_mem_take he)), e3]
/-- no row of nothing among them: no rank more with the bounds -/
theorem calm_rank (hL : ∀ e ∈ L, e.1.length = m) {n k : Nat} (hk : k ≤ n) (hc : ∀ v, Spn (inL (m + 1) ((L.map auE).take n)) v → ¬ Ld v m) {a b : Nat} (h1 : RankIs (Spn (inL (m + 1) ((L.take k).map auE))) a) (h2 : RankIs (Spn (inL m ((L.take k).map (·.1)))) b) : ¬ b < a := fun g => by
  rw [inL_co fun e he => hL e (List.mem_of_mem_take he)] at h2
  obtain ⟨v, v1, v2⟩ := (aug_cmp h1 h2).1.mp g
  refine hc v (v1.mono fun g hg => ?_) v2
  obtain ⟨x, hx, rfl⟩ := hg
  rw [← List.map_take]
  obtain ⟨e, he, rfl⟩ := List.mem_map.mp hx
  refine Spn.gen ⟨_, List.mem_map_of_mem ?_, rfl⟩
  have : L.take k = (L.take n).take k := by rw [List.take_take, Nat.min_eq_left hk]
  rw [this] at he
  exact List.mem_of_mem_take he
theorem Cft.first (hL : ∀ e ∈ L, e.1.length = m) (h : Cft m (L.map auE) i μ) {a b : Nat} (h1 : RankIs (Spn (inL (m + 1) ((L.take (i + 1)).map auE))) a) (h2 : RankIs (Spn (inL m ((L.take (i + 1)).map (·.1)))) b) : b < a := by
  rw [inL_co fun e he => hL e (List.mem_of_mem_take he)] at h2
  refine (aug_cmp h1 h2).1.mpr (h.odd fun k hk => List.mem_map_of_mem ?_)
  have hk2 := hk
  rw [told_len h] at hk2
  have hki : k < i + 1 := by
    rcases List.mem_append.mp hk2 with g | g
    · have := (told_mem.mp g).1
      omega
    · rw [List.mem_singleton.mp g]
      omega
  have hkL := (told_mem.mp hk).1
  refine List.mem_iff_getElem.mpr ⟨k, by rw [List.length_take]; omega, ?_⟩
  rw [List.getElem_take]
  unfold eqAt
  rw [List.getD_eq_getElem?_getD, List.getElem?_eq_getElem hkL]
  rfl
end

section
/-- a row whose marks tell of what it is made -/
def MO (M n : Nat) (g : Nat → VF) (v : VF) : Prop := ∀ c < M, v c = sN (fun k => v (M + k) * g k c) n
theorem MO.zero {M n : Nat} {g : Nat → VF} : MO M n g fun _ => 0 := fun c _ => by
  rw [sN_none fun k _ => by grind]
theorem MO.lin {M n : Nat} {g : Nat → VF} (v w : VF) (a : Rat) (hv : MO M n g v) (hw : MO M n g w) : MO M n g fun k => v k + a * w k := fun c hc => by
  show v c + a * w c = sN (fun k => (v (M + k) + a * w (M + k)) * g k c) n
  rw [sN_cong (g := fun k => v (M + k) * g k c + a * (w (M + k) * g k c)) fun k _ => by grind, sN_add, ← hv c hc, ← hw c hc]
theorem MO.scale {M n : Nat} {g : Nat → VF} {v : VF} (a : Rat) (hv : MO M n g v) : MO M n g fun k => a * v k := by
  have := MO.lin (fun _ => 0) v a MO.zero hv
  intro c hc
  have e := this c hc
  have e2 : a * v c = 0 + a * v c := by grind
  show a * v c = _
  rw [e2]
  refine e.trans (sN_cong fun k _ => ?_)
  grind
abbrev gv (m : Nat) (G : List (List Rat)) (k : Nat) : VF := cf (m + 1) (G.getD k [])
structure MI (m n : Nat) (G : List (List Rat)) (i : Nat) (kept : List (Nat × List Rat)) : Prop where
  mo : ∀ p ∈ kept, MO (m + 1) n (gv m G) (cf (m + 1 + n) p.2)
  su : ∀ p ∈ kept, ∀ k < n, cf (m + 1 + n) p.2 (m + 1 + k) ≠ 0 → k < i ∧ PP m G k
theorem MI.start {m n : Nat} {G : List (List Rat)} : MI m n G 0 [] := ⟨(fun _ h => nomatch h), fun _ h => nomatch h⟩
theorem MI.up {m n i : Nat} {G : List (List Rat)} {kept : List (Nat × List Rat)} (h : MI m n G i kept) : MI m n G (i + 1) kept :=
  ⟨h.mo, fun p hp k hk h0 => ⟨by have := (h.su p hp k hk h0).1; omega, (h.su p hp k hk h0).2⟩⟩
theorem mrk_at {g : List Rat} {m i n : Nat} (hg : g.length = m + 1) : (∀ c < m + 1, cf (m + 1 + n) (mrk g i n) c = cf (m + 1) g c) ∧ ∀ k < n, cf (m + 1 + n) (mrk g i n) (m + 1 + k) = if k = i then 1 else 0 := by
  refine ⟨fun c hc => ?_, fun k hk => ?_⟩
  · have e := congrFun (cf_mrk hg i n) c
    unfold cf at e ⊢
    rw [if_pos hc, if_pos hc] at e
    rw [if_pos (by omega), if_pos hc]
    exact e
  · unfold cf mrk
    rw [if_pos (by omega), List.getD_eq_getElem?_getD, List.getElem?_append_right (by omega), hg, show m + 1 + k - (m + 1) = k by omega, List.getElem?_map, List.getElem?_range hk]
    rfl
theorem MI.row {m n i W : Nat} {G : List (List Rat)} {kept : List (Nat × List Rat)} (h : MI m n G i kept) (hS : SI m W (G.take i) kept) (hW : m + 1 + n = W) {g : List Rat} (hg : g.length = m + 1) (hgi : G[i]? = some g) (hin : i < n) :
    MO (m + 1) n (gv m G) (cf (m + 1 + n) (red kept (mrk g i n))) ∧ cf (m + 1 + n) (red kept (mrk g i n)) (m + 1 + i) = 1 ∧ ∀ k < n, cf (m + 1 + n) (red kept (mrk g i n)) (m + 1 + k) ≠ 0 → k = i ∨ (k < i ∧ PP m G k) := by
  have hl : (mrk g i n).length = W := by
    unfold mrk
    rw [List.length_append, List.length_map, List.length_range]
    omega
  obtain ⟨v, v1, v2⟩ := red_spn (M := m + 1 + n) hS.ki.len hl
  obtain ⟨a1, a2⟩ := mrk_at (n := n) (i := i) hg
  have hv : MO (m + 1) n (gv m G) v ∧ v (m + 1 + i) = 0 ∧ ∀ k < n, v (m + 1 + k) ≠ 0 → k < i ∧ PP m G k := by
    refine Spn.pred (Z := fun v => MO (m + 1) n (gv m G) v ∧ v (m + 1 + i) = 0 ∧ ∀ k < n, v (m + 1 + k) ≠ 0 → k < i ∧ PP m G k) ⟨MO.zero, rfl, fun _ _ z => absurd rfl z⟩ ?_ ?_ v1
    · rintro v w a ⟨x1, x2, x3⟩ ⟨y1, y2, y3⟩
      refine ⟨MO.lin v w a x1 y1, by show _ + a * _ = (0 : Rat); rw [x2, y2]; grind, fun k hk hz => ?_⟩
      by_cases h0 : v (m + 1 + k) = 0
      · refine y3 k hk fun h1 => hz ?_
        show _ + a * _ = (0 : Rat)
        rw [h0, h1]
        grind
      · exact x3 k hk h0
    · rintro x ⟨r, hr, rfl⟩
      obtain ⟨p, hp, rfl⟩ := List.mem_map.mp hr
      exact ⟨h.mo p hp, Classical.byContradiction fun z => Nat.lt_irrefl _ (h.su p hp i hin z).1, h.su p hp⟩
  have hm : MO (m + 1) n (gv m G) (cf (m + 1 + n) (mrk g i n)) := fun c hc => by
    rw [a1 c hc, sN_one hin fun k hk hne => by rw [a2 k hk, if_neg hne]; grind, a2 i hin, if_pos rfl]
    unfold gv
    rw [List.getD_eq_getElem?_getD, hgi]
    show _ = 1 * cf (m + 1) g c
    grind
  refine ⟨?_, ?_, fun k hk h0 => ?_⟩
  · have := MO.lin _ v 1 hm hv.1
    intro c hc
    have e := this c hc
    rw [v2 c, sN_cong (g := fun k => (cf (m + 1 + n) (mrk g i n) (m + 1 + k) + 1 * v (m + 1 + k)) * gv m G k c) fun k _ => by rw [v2]; grind, ← e]
    grind
  · rw [v2, hv.2.1, a2 i hin, if_pos rfl]
    grind
  · rw [v2, a2 k hk] at h0
    by_cases hki : k = i
    · exact .inl hki
    · rw [if_neg hki] at h0
      exact .inr (hv.2.2 k hk fun z => h0 (by rw [z]; grind))
/-- a row that is kept does not come from those in front of it -/
theorem SI.fresh {m n i W a : Nat} {G : List (List Rat)} {kept : List (Nat × List Rat)} (hS : SI m W (G.take i) kept) (hW : m + 1 + n = W) {g : List Rat} (hg : g.length = m + 1) (hgi : G[i]? = Option.some g) (ha : a < m) (h0 : (red kept (mrk g i n)).getD a 0 ≠ 0) : PP m G i := fun hs => by
  rw [List.getD_eq_getElem?_getD, hgi] at hs
  have hs : Spn (inL m (G.take i)) (cf m g) := hs
  rw [hS.same] at hs
  obtain ⟨l1, ⟨v, v1, v2⟩, n1⟩ := hS.row (i := i) hg hW
  have v3 := spn_fewer (Nat.le_succ m) v1
  have hr : Spn (inL m (kept.map (·.2))) (cf m (red kept (mrk g i n))) := (hs.addv v3).cong fun k => by
    show cf m g k + (if k < m then v k else 0) = _
    rw [← cf_fewer (Nat.le_succ m) (red kept (mrk g i n)) k, ← cf_fewer (Nat.le_succ m) g k, v2 k]
    split
    · rfl
    · grind
  have e := hS.ki.told (Nat.le_refl m) hr a
  rw [ksum_none (fun p hp => by
    obtain ⟨q, hq, rfl⟩ := List.mem_map.mp hp
    show cf m (red kept (mrk g i n)) q.1 = 0
    unfold cf
    rw [if_pos (hS.ki.lt q hq)]
    exact n1 q hq)] at e
  have e2 : cf m (red kept (mrk g i n)) a = (red kept (mrk g i n)).getD a 0 := if_pos ha
  exact h0 (e2.symm.trans e)
theorem MI.plus {m n i W a : Nat} {G : List (List Rat)} {kept : List (Nat × List Rat)} (h : MI m n G i kept) (hS : SI m W (G.take i) kept) (hW : m + 1 + n = W) {g : List Rat} (hg : g.length = m + 1) (hgi : G[i]? = some g) (hin : i < n) (ha : a < m) (h0 : (red kept (mrk g i n)).getD a 0 ≠ 0) :
    MI m n G (i + 1) (kplus kept a ((red kept (mrk g i n)).map fun x => x / (red kept (mrk g i n)).getD a 0)) := by
  obtain ⟨r1, _, r3⟩ := h.row hS hW hg hgi hin
  have hpp := hS.fresh (n := n) hW hg hgi ha h0
  obtain ⟨l1, _, _⟩ := hS.row (i := i) hg hW
  generalize red kept (mrk g i n) = rr at *
  have cfr : ∀ k, cf (m + 1 + n) (rr.map fun x => x / rr.getD a 0) k = (1 / rr.getD a 0) * cf (m + 1 + n) rr k := fun k => by
    unfold cf
    split
    · rw [List.getD_eq_getElem?_getD, List.getElem?_map, List.getD_eq_getElem?_getD (l := rr) (i := k)]
      cases rr[k]? with
      | none => show (0 : Rat) = _ * 0; grind
      | some x => show x / _ = _ * x; grind
    · grind
  have l2 : (rr.map fun x => x / rr.getD a 0).length = W := by rw [List.length_map]; exact l1
  have m2 : MO (m + 1) n (gv m G) (cf (m + 1 + n) (rr.map fun x => x / rr.getD a 0)) := by
    rw [show cf (m + 1 + n) (rr.map fun x => x / rr.getD a 0) = fun k => (1 / rr.getD a 0) * cf (m + 1 + n) rr k from funext cfr]
    exact r1.scale _
  have s2 : ∀ k < n, cf (m + 1 + n) (rr.map fun x => x / rr.getD a 0) (m + 1 + k) ≠ 0 → k < i + 1 ∧ PP m G k := fun k hk hz => by
    rw [cfr] at hz
    rcases r3 k hk (fun z => hz (by rw [z]; grind)) with e | ⟨e1, e2⟩
    · rw [e]; exact ⟨by omega, hpp⟩
    · exact ⟨by omega, e2⟩
  generalize (rr.map fun x => x / rr.getD a 0) = r2 at *
  refine ⟨fun q hq => ?_, fun q hq k hk hz => ?_⟩
  · rcases List.mem_append.mp hq with hq | hq
    · obtain ⟨p, hp, rfl⟩ := List.mem_map.mp hq
      show MO (m + 1) n (gv m G) (cf (m + 1 + n) (clr a r2 p.2))
      rw [show cf (m + 1 + n) (clr a r2 p.2) = fun k => cf (m + 1 + n) p.2 k + -p.2.getD a 0 * cf (m + 1 + n) r2 k from funext fun k => cf_clr (by rw [hS.ki.len p hp, l2]) k]
      exact MO.lin _ _ _ (h.mo p hp) m2
    · rw [List.mem_singleton.mp hq]
      exact m2
  · rcases List.mem_append.mp hq with hq | hq
    · obtain ⟨p, hp, rfl⟩ := List.mem_map.mp hq
      have hz : cf (m + 1 + n) (clr a r2 p.2) (m + 1 + k) ≠ 0 := hz
      rw [cf_clr (by rw [hS.ki.len p hp, l2])] at hz
      by_cases h1 : cf (m + 1 + n) p.2 (m + 1 + k) = 0
      · exact s2 k hk fun z => hz (by rw [h1, z]; grind)
      · have := h.su p hp k hk h1
        exact ⟨by omega, this.2⟩
    · rw [List.mem_singleton.mp hq] at hz
      exact s2 k hk hz
theorem SI.calm {m W : Nat} {done : List (List Rat)} {kept : List (Nat × List Rat)} (h : SI m W done kept) (v : VF) (hv : Spn (inL (m + 1) done) v) : ¬ Ld v m := fun hl => by
  have hv2 : Spn (inL (m + 1) (kept.map (·.2))) v := hv.mono fun g hg => by
    obtain ⟨r, hr, rfl⟩ := hg
    exact h.s2 r hr
  refine hl.1 ?_
  rw [h.ki.told (Nat.le_succ m) hv2 m]
  exact ksum_none (fun p hp => by
    obtain ⟨q, hq, rfl⟩ := List.mem_map.mp hp
    exact hl.2 q.1 (h.ki.lt q hq)) m
theorem MI.conflict {m n i W : Nat} {G : List (List Rat)} {kept : List (Nat × List Rat)} (h : MI m n G i kept) (hS : SI m W (G.take i) kept) (hW : m + 1 + n = W) (hn : n = G.length) {g : List Rat} (hg : g.length = m + 1) (hgi : G[i]? = some g) (hz : ∀ k < m, (red kept (mrk g i n)).getD k 0 = 0) (hb : (red kept (mrk g i n)).getD m 0 ≠ 0) :
    Cft m G i fun k => (red kept (mrk g i n)).getD (m + 1 + k) 0 := by
  have hi : i < G.length := (List.getElem?_eq_some_iff.mp hgi).1
  obtain ⟨r1, r2, r3⟩ := h.row hS hW hg hgi (by omega)
  generalize red kept (mrk g i n) = rr at *
  have cfe : ∀ k < m + 1 + n, cf (m + 1 + n) rr k = rr.getD k 0 := fun k hk => if_pos hk
  subst hn
  have sm : ∀ c < m + 1, rr.getD c 0 = sN (fun k => rr.getD (m + 1 + k) 0 * cf (m + 1) (G.getD k []) c) G.length := fun c hc => by
    rw [← cfe c (by omega), r1 c hc]
    exact sN_cong fun k hk => by rw [cfe _ (by omega)]
  refine ⟨hi, ?_, fun k hk h0 => r3 k hk (by rw [cfe _ (by omega)]; exact h0), fun c hc => ?_, ?_, hS.calm⟩
  · show rr.getD (m + 1 + i) 0 ≠ 0
    rw [← cfe _ (by omega), r2]
    decide
  · rw [← sm c (by omega)]
    exact hz c hc
  · rw [← sm m (by omega)]
    exact hb
end
def lbb : Nat → Nat
  | 0 => 11
  | c + 1 => 2 * lbb c + 1
theorem lbb_le4 {c : Nat} (h : c ≤ 4) : lbb c ≤ 191 := by
  have : ∀ c ≤ 4, lbb c ≤ 191 := by decide
  exact this c h
theorem cutV_but {A : List V} {x : V} : cutV (A ++ [x]) none (some (-1)) = A := by
  unfold cutV
  rw [HT.sIx_none]
  have e : HT.sIx (A ++ [x]).length (A ++ [x]).length (some (-1)) = A.length := by
    show (if (-1 : Int) < 0 then ((-1 : Int) + ((A ++ [x]).length : Int)).toNat else min (-1 : Int).toNat (A ++ [x]).length) = A.length
    rw [if_pos (by decide), List.length_append]
    show ((-1 : Int) + ((A.length + 1 : Nat) : Int)).toNat = A.length
    omega
  rw [e, Nat.sub_zero, List.drop_zero, List.take_left']
  rfl
section
/-- an equation, its bound perhaps moved -/
def EqMv (m : Nat) (e : List Rat × Rat) : Prop := e.1.length = m ∧ (∀ x ∈ e.1, ∃ F : Int, x = (F : Rat) ∧ F.natAbs ≤ 2) ∧ ∃ N : Int, e.2 * 12 = (N : Rat) ∧ N.natAbs ≤ 1100
theorem EqOk.mv {m : Nat} {pts : List Rat} {e : List Rat × Rat} (h : EqOk m pts e) (hp : PtOk m pts) (hm : m ≤ 4) : EqMv m e ∧ ∃ N : Int, e.2 * 12 = (N : Rat) ∧ N.natAbs ≤ 864 := by
  obtain ⟨N, n1, n2⟩ := sum12 (m := m) h.2.1 (fun x hx => (hp.2 x hx).1) m
  rw [← h.2.2] at n1
  exact ⟨⟨h.1, h.2.1, N, n1, by omega⟩, N, n1, by omega⟩
theorem EqMv.gs {m : Nat} {e : List Rat × Rat} (h : EqMv m e) : Gs m (auE e) := by
  obtain ⟨h1, h2, N, n1, n2⟩ := h
  refine ⟨fun x hx => ?_, fun k hk => ?_⟩
  · rcases List.mem_append.mp hx with g | g
    · obtain ⟨F, f1, f2⟩ := h2 x g
      refine ⟨F * 12, by rw [f1, Rat.intCast_mul]; rfl, ?_⟩
      rw [Int.natAbs_mul]
      show F.natAbs * 12 < 2048
      omega
    · rw [List.mem_singleton.mp g]
      exact ⟨N, n1, by show _ < 2048; omega⟩
  · have : (auE e).getD k 0 = e.1.getD k 0 := by
      rw [List.getD_eq_getElem?_getD, List.getElem?_append_left (by omega), ← List.getD_eq_getElem?_getD]
    rw [this]
    exact h2 _ (by
      rw [List.getD_eq_getElem?_getD, List.getElem?_eq_getElem (by omega)]
      exact List.getElem_mem _)
theorem EqMv.cb {m : Nat} {e : List Rat × Rat} (h : EqMv m e) : CB 11 (auE e) := by
  obtain ⟨h1, h2, N, n1, n2⟩ := h
  refine ⟨12, by decide, by decide, fun x hx => ?_⟩
  rcases List.mem_append.mp hx with g | g
  · obtain ⟨F, f1, f2⟩ := h2 x g
    refine ⟨F * 12, by rw [f1, Rat.intCast_mul]; rfl, ?_⟩
    rw [Int.natAbs_mul]
    show F.natAbs * 12 < 2048
    omega
  · rw [List.mem_singleton.mp g]
    exact ⟨N, n1, by show _ < 2048; omega⟩
theorem mv_bd {x : Rat} {N : Int} (h : x * 12 = (N : Rat)) (hN : N.natAbs ≤ 1100) : Bd 12 x := bd_over (D := 12) (by decide) (by decide) h (by show _ < 4096; omega)
theorem half12 (z : Int) : Rat.divInt z 2 * 12 = ((6 * z : Int) : Rat) := by
  rw [Rat.divInt_eq_div, Rat.intCast_mul]
  show (z : Rat) / 2 * 12 = 6 * (z : Rat)
  grind
theorem calm_sub {m n k : Nat} {L : List (List Rat × Rat)} (hk : k ≤ n) (hc : ∀ v, Spn (inL (m + 1) ((L.map auE).take n)) v → ¬ Ld v m) : ¬ ∃ v, Spn (inL (m + 1) ((L.take k).map auE)) v ∧ Ld v m := fun ⟨v, v1, v2⟩ => by
  refine hc v (v1.mono fun g hg => ?_) v2
  obtain ⟨x, hx, rfl⟩ := hg
  rw [← List.map_take]
  obtain ⟨e, he, rfl⟩ := List.mem_map.mp hx
  refine Spn.gen ⟨_, List.mem_map_of_mem ?_, rfl⟩
  have : L.take k = (L.take n).take k := by rw [List.take_take, Nat.min_eq_left hk]
  rw [this] at he
  exact List.mem_of_mem_take he
theorem Cft.nu {m i : Nat} {L : List (List Rat × Rat)} {μ : Nat → Rat} (h : Cft m (L.map auE) i μ) : ∃ v, Spn (inL (m + 1) ((L.take (i + 1)).map auE)) v ∧ Ld v m := by
  refine h.odd fun k hk => List.mem_map_of_mem ?_
  have hk2 := hk
  rw [told_len h] at hk2
  have hki : k < i + 1 := by
    rcases List.mem_append.mp hk2 with g | g
    · have := (told_mem.mp g).1
      omega
    · rw [List.mem_singleton.mp g]
      omega
  have hkL := (told_mem.mp hk).1
  refine List.mem_iff_getElem.mpr ⟨k, by rw [List.length_take]; omega, ?_⟩
  rw [List.getElem_take]
  unfold eqAt
  rw [List.getD_eq_getElem?_getD, List.getElem?_eq_getElem hkL]
  rfl
end

section
/-- small given rows: times 12 whole, of 11 bits; at most 6 ahead of place m -/
def Gt (m : Nat) (g : List Rat) : Prop := (∀ x ∈ g, ∃ N : Int, x * 12 = (N : Rat) ∧ N.natAbs < 2 ^ 11) ∧ ∀ k < m, ∃ F : Int, g.getD k 0 * 12 = (F : Rat) ∧ F.natAbs ≤ 72
theorem clt_up {D B l : Nat} {base row : List Rat} {m : Nat} (hb : ∀ y ∈ base, ∃ N : Int, y * (D : Rat) = (N : Rat) ∧ N.natAbs < 2 ^ m) (hr : ∀ x ∈ row, ∃ N : Int, x * ((12 * D : Nat) : Rat) = (N : Rat) ∧ N.natAbs < 2 ^ m * B) {F : Int} (hF : row.getD l 0 * 12 = (F : Rat)) (hF2 : F.natAbs ≤ 72) :
    ∀ x ∈ clr l base row, ∃ N : Int, x * ((12 * D : Nat) : Rat) = (N : Rat) ∧ N.natAbs < 2 ^ m * (B + 72) := by
  have hp : 0 < 2 ^ m := Nat.two_pow_pos m
  unfold clr
  intro z hz
  split at hz
  · obtain ⟨N, n1, n2⟩ := hr z hz
    exact ⟨N, n1, by rw [Nat.mul_add]; omega⟩
  · obtain ⟨x, hx, y, hy, rfl⟩ := zip_mem hz
    obtain ⟨N, n1, n2⟩ := hr x hx
    obtain ⟨M, m1, m2⟩ := hb y hy
    refine ⟨N - F * M, ?_, ?_⟩
    · rw [Rat.intCast_sub, Rat.intCast_mul, ← n1, ← m1, ← hF, Rat.natCast_mul, show ((12 : Nat) : Rat) = 12 from rfl]
      grind
    · have h1 : (F * M).natAbs ≤ 72 * M.natAbs := by
        rw [Int.natAbs_mul]
        exact Nat.mul_le_mul_right _ hF2
      have h2 := Int.natAbs_sub_le N (F * M)
      rw [Nat.mul_add]
      omega
theorem ret_jb {D m W mm : Nat} {kept : List (Nat × List Rat)} (hk : KI mm W kept) (hD : ∀ p ∈ kept, ∀ x ∈ p.2, ∃ N : Int, x * (D : Rat) = (N : Rat) ∧ N.natAbs < 2 ^ m) :
    ∀ (todo : List (Nat × List Rat)) (row : List Rat) (B : Nat), (∀ p ∈ todo, p ∈ kept) → todo.Pairwise (fun p q => p.1 ≠ q.1) → row.length = W → (∀ x ∈ row, ∃ N : Int, x * ((12 * D : Nat) : Rat) = (N : Rat) ∧ N.natAbs < 2 ^ m * B) → (∀ p ∈ todo, ∃ F : Int, row.getD p.1 0 * 12 = (F : Rat) ∧ F.natAbs ≤ 72) →
      ∀ x ∈ red todo row, ∃ N : Int, x * ((12 * D : Nat) : Rat) = (N : Rat) ∧ N.natAbs < 2 ^ m * (B + 72 * todo.length)
  | [], row, B, _, _, _, hr, _ => hr
  | p :: todo, row, B, ht, hpw, hl, hr, hF => by
    have hp := ht p List.mem_cons_self
    have hpw2 := List.pairwise_cons.mp hpw
    have el : row.length = p.2.length := by rw [hl, hk.len p hp]
    obtain ⟨F, f1, f2⟩ := hF p List.mem_cons_self
    have h1 := clt_up (hD p hp) hr f1 f2
    have := ret_jb hk hD todo (clr p.1 p.2 row) (B + 72) (fun q hq => ht q (List.mem_cons_of_mem _ hq)) hpw2.2 (by rw [clr_len el]; exact hl) h1 (fun q hq => by
      obtain ⟨F2, g1, g2⟩ := hF q (List.mem_cons_of_mem _ hq)
      refine ⟨F2, ?_, g2⟩
      rw [clr_at el, hk.nought p hp q (ht q (List.mem_cons_of_mem _ hq)) (hpw2.1 q hq), ← g1]
      grind)
    intro x hx
    obtain ⟨N, n1, n2⟩ := this x hx
    refine ⟨N, n1, ?_⟩
    rw [List.length_cons, show B + 72 * (todo.length + 1) = B + 72 + 72 * todo.length by omega]
    exact n2
theorem mrk_gt {m : Nat} {g : List Rat} (h : Gt m g) (hl : m ≤ g.length) (i n : Nat) : Gt m (mrk g i n) := by
  refine ⟨fun x hx => ?_, fun k hk => ?_⟩
  · rcases List.mem_append.mp hx with hx | hx
    · exact h.1 x hx
    · obtain ⟨k, _, rfl⟩ := List.mem_map.mp hx
      split
      · exact ⟨12, by rw [Rat.one_mul]; rfl, by decide⟩
      · exact ⟨0, by rw [Rat.zero_mul]; rfl, by decide⟩
  · unfold mrk
    rw [List.getD_eq_getElem?_getD, List.getElem?_append_left (by omega), ← List.getD_eq_getElem?_getD]
    exact h.2 k hk
/-- what is kept behind some rows of M numbers, the first m of them coefficients -/
structure SG (m M W : Nat) (done : List (List Rat)) (kept : List (Nat × List Rat)) : Prop where
  le : m ≤ M
  ki : KI m W kept
  jb : JB (jb kept.length) kept
  s1 : ∀ p ∈ kept, Spn (inL M done) (cf M p.2)
  s2 : ∀ g ∈ done, Spn (inL M (kept.map (·.2))) (cf M g)
/-- rows that agree: none of nothing says something -/
def Cs (m M : Nat) (D : List (List Rat)) : Prop := ∀ v, Spn (inL M D) v → (∀ k < m, v k = 0) → ∀ k, v k = 0
theorem Cs.sub {m M : Nat} {D D' : List (List Rat)} (h : Cs m M D) (hs : ∀ r ∈ D', r ∈ D) : Cs m M D' := fun v hv => h v (hv.mono fun _ ⟨r, hr, e⟩ => Spn.gen ⟨r, hs r hr, e⟩)
/-- rows that hold at a point agree -/
theorem cs_point {m M : Nat} {pt : Nat → Nat → Rat} {D : List (List Rat)} (h : ∀ r ∈ D, ∀ c, m ≤ c → c < M → sN (fun k => cf M r k * pt c k) m = cf M r c) : Cs m M D := fun v hv hz k => by
  rcases Nat.lt_or_ge k m with g | g
  · exact hz k g
  rcases Nat.lt_or_ge k M with g2 | g2
  · have : sN (fun j => v j * pt k j) m = v k := by
      refine Spn.pred (Z := fun v => sN (fun j => v j * pt k j) m = v k) (sN_none fun _ _ => by grind) ?_ ?_ hv
      · intro v w a h1 h2
        have e : (fun j => (v j + a * w j) * pt k j) = fun j => (fun j => v j * pt k j) j + a * (fun j => w j * pt k j) j := funext fun j => by grind
        show sN (fun j => (v j + a * w j) * pt k j) m = v k + a * w k
        rw [e, sN_add, h1, h2]
      · rintro g ⟨r, hr, rfl⟩
        exact h r hr k g g2
    rw [← this]
    exact sN_none fun j hj => by rw [hz j hj]; grind
  · exact cf_out hv k g2
theorem SG.start {m M W : Nat} (hM : m ≤ M) : SG m M W [] [] := ⟨hM, ⟨(fun _ h => nomatch h), (fun _ h => nomatch h), (fun _ h => nomatch h), List.Pairwise.nil, (fun _ h => nomatch h)⟩, ⟨1, Nat.one_pos, by decide, fun _ h => nomatch h⟩, (fun _ h => nomatch h), (fun _ h => nomatch h)⟩
theorem SG.row {m M W i n : Nat} {done : List (List Rat)} {kept : List (Nat × List Rat)} (h : SG m M W done kept) {g : List Rat} (hg : g.length = M) (hW : M + n = W) :
    (red kept (mrk g i n)).length = W ∧ (∃ v, Spn (inL M (kept.map (·.2))) v ∧ ∀ k, cf M (red kept (mrk g i n)) k = cf M g k + v k) ∧ ∀ p ∈ kept, (red kept (mrk g i n)).getD p.1 0 = 0 := by
  have hl : (mrk g i n).length = W := by
    unfold mrk
    rw [List.length_append, List.length_map, List.length_range]
    omega
  refine ⟨red_len h.ki.len hl, ?_, red_nought h.ki hl⟩
  obtain ⟨v, v1, v2⟩ := red_spn (M := M) h.ki.len hl
  refine ⟨v, v1, fun k => ?_⟩
  rw [v2 k, cf_mrk hg]
theorem SG.some {m M W i n : Nat} {done : List (List Rat)} {kept : List (Nat × List Rat)} (h : SG m M W done kept) {g : List Rat} (hg : g.length = M) (hW : M + n = W) (hb : Gt m g) (hk : kept.length ≤ 6) : ∃ D : Nat, 0 < D ∧ D < 2 ^ (Tp.jb kept.length) ∧ (∀ p ∈ kept, ∀ x ∈ p.2, ∃ N : Int, x * (D : Rat) = (N : Rat) ∧ N.natAbs < 2 ^ (Tp.jb kept.length)) ∧
    ∀ j ≤ kept.length, ∀ x ∈ red (kept.take j) (mrk g i n), ∃ N : Int, x * ((12 * D : Nat) : Rat) = (N : Rat) ∧ N.natAbs < 2 ^ (Tp.jb kept.length + 12) := by
  obtain ⟨D, d0, d1, d2⟩ := h.jb
  have hl : (mrk g i n).length = W := by
    unfold mrk
    rw [List.length_append, List.length_map, List.length_range]
    omega
  have hs := mrk_gt hb (by have := h.le; omega) i n
  refine ⟨D, d0, d1, d2, fun j hj x hx => ?_⟩
  obtain ⟨N, n1, n2⟩ := ret_jb h.ki d2 (kept.take j) (mrk g i n) (2 ^ 11) (fun p hp => List.mem_of_mem_take hp) (h.ki.apart.sublist (List.take_sublist _ _)) hl (fun x hx => by
    obtain ⟨N, n1, n2⟩ := hs.1 x hx
    refine ⟨N * (D : Int), ?_, ?_⟩
    · rw [Rat.natCast_mul, Rat.intCast_mul, ← n1, show ((12 : Nat) : Rat) = 12 from rfl]
      show x * (12 * (D : Rat)) = x * 12 * (D : Rat)
      grind
    · rw [Int.natAbs_mul, Int.natAbs_natCast, Nat.mul_comm]
      exact Nat.mul_lt_mul'' d1 n2) (fun p hp => hs.2 p.1 (h.ki.lt p (List.mem_of_mem_take hp))) x hx
  refine ⟨N, n1, Nat.lt_of_lt_of_le n2 ?_⟩
  rw [Nat.pow_add]
  refine Nat.mul_le_mul_left _ ?_
  rw [List.length_take]
  have : (2 : Nat) ^ 12 = 4096 := rfl
  have : (2 : Nat) ^ 11 = 2048 := rfl
  omega
theorem SG.bits {m M W i n : Nat} {done : List (List Rat)} {kept : List (Nat × List Rat)} (h : SG m M W done kept) {g : List Rat} (hg : g.length = M) (hW : M + n = W) (hb : Gt m g) (hk : kept.length ≤ 6) : (∀ p ∈ kept, ∀ x ∈ p.2, Bd 1000 x) ∧ ∀ j ≤ kept.length, ∀ x ∈ red (kept.take j) (mrk g i n), Bd 1000 x := by
  obtain ⟨D, d0, d1, d2, d3⟩ := h.some (i := i) hg hW hb hk
  have hj := jb_le hk
  refine ⟨fun p hp x hx => ?_, fun j hj2 x hx => ?_⟩
  · obtain ⟨N, n1, n2⟩ := d2 p hp x hx
    exact (bd_over d0 d1 n1 n2).up (by omega)
  · obtain ⟨N, n1, n2⟩ := d3 j hj2 x hx
    refine (bd_over (n := Tp.jb kept.length + 12) (by omega) ?_ n1 n2).up (by omega)
    rw [Nat.pow_add]
    have : (2 : Nat) ^ 12 = 4096 := rfl
    omega
theorem SG.drop {m M W i n : Nat} {done : List (List Rat)} {kept : List (Nat × List Rat)} (h : SG m M W done kept) {g : List Rat} (hg : g.length = M) (hW : M + n = W) (hz : ∀ k < M, (red kept (mrk g i n)).getD k 0 = 0) : SG m M W (done ++ [g]) kept := by
  obtain ⟨_, ⟨v, v1, v2⟩, _⟩ := h.row (i := i) hg hW
  refine ⟨h.le, h.ki, h.jb, fun p hp => (h.s1 p hp).mono fun y hy => ?_, fun x hx => ?_⟩
  · obtain ⟨r, hr, rfl⟩ := hy
    exact Spn.gen ⟨r, List.mem_append_left _ hr, rfl⟩
  · rcases List.mem_append.mp hx with hx | hx
    · exact h.s2 x hx
    · rw [List.mem_singleton.mp hx]
      refine (v1.scale (-1)).cong fun k => ?_
      have e := v2 k
      have e0 : cf M (red kept (mrk g i n)) k = 0 := by
        unfold cf
        split
        · exact hz k (by assumption)
        · rfl
      rw [e0] at e
      grind
theorem SG.plus {m M W i n a : Nat} {done : List (List Rat)} {kept : List (Nat × List Rat)} (h : SG m M W done kept) {g : List Rat} (hg : g.length = M) (hW : M + n = W) (hb : Gt m g) (hk6 : kept.length ≤ 6) (ha : a < m) (h0 : (red kept (mrk g i n)).getD a 0 ≠ 0) :
    SG m M W (done ++ [g]) (kplus kept a ((red kept (mrk g i n)).map fun x => x / (red kept (mrk g i n)).getD a 0)) := by
  obtain ⟨l1, ⟨v, v1, v2⟩, n1⟩ := h.row (i := i) hg hW
  obtain ⟨D, d0, d1, d2, d3⟩ := h.some (i := i) hg hW hb hk6
  have d4 := d3 kept.length (Nat.le_refl _)
  rw [List.take_length] at d4
  clear d3
  generalize red kept (mrk g i n) = r1 at *
  have hr2 : ∀ k, (r1.map fun x => x / r1.getD a 0).getD k 0 = r1.getD k 0 / r1.getD a 0 := fun k => by
    rw [List.getD_eq_getElem?_getD, List.getElem?_map, List.getD_eq_getElem?_getD (l := r1) (i := k)]
    cases r1[k]? with
    | none => show (0 : Rat) = 0 / _; grind
    | some x => rfl
  have mem : r1.getD a 0 ∈ r1 := by
    rcases getD_or (r := r1) (l := a) with e | e
    · exact absurd e h0
    · exact e
  have jn := jb_next d0 d1 d2 d4 mem h0
  have l2 : (r1.map fun x => x / r1.getD a 0).length = W := by rw [List.length_map]; exact l1
  have e1 : (r1.map fun x => x / r1.getD a 0).getD a 0 = 1 := by
    rw [hr2]
    grind
  have e0 : ∀ p ∈ kept, (r1.map fun x => x / r1.getD a 0).getD p.1 0 = 0 := fun p hp => by
    rw [hr2, n1 p hp]
    grind
  have cfr : ∀ k, cf M (r1.map fun x => x / r1.getD a 0) k = (1 / r1.getD a 0) * cf M r1 k := fun k => by
    unfold cf
    split
    · rw [hr2]
      grind
    · grind
  generalize (r1.map fun x => x / r1.getD a 0) = r2 at *
  obtain ⟨k1, k2, k3⟩ := kplus_spn (M := M) h.ki (a := a) l2
  have kl : (kplus kept a r2).length = kept.length + 1 := by
    unfold kplus
    rw [List.length_append, List.length_map]
    rfl
  refine ⟨h.le, h.ki.plus ha l2 e1 e0, by rw [kl]; exact jn a, fun x hx => ?_, fun x hx => ?_⟩
  · refine (k3 x hx).mono fun y hy => ?_
    obtain ⟨r, hr, rfl⟩ := hy
    have dn : ∀ w, Spn (inL M done) w → Spn (inL M (done ++ [g])) w := fun w hw => hw.mono fun y hy => by
      obtain ⟨r, hr, rfl⟩ := hy
      exact Spn.gen ⟨r, List.mem_append_left _ hr, rfl⟩
    rcases List.mem_append.mp hr with hr | hr
    · obtain ⟨p, hp, rfl⟩ := List.mem_map.mp hr
      exact dn _ (h.s1 p hp)
    · rw [List.mem_singleton.mp hr]
      have a1 : Spn (inL M (done ++ [g])) (cf M g) := Spn.gen ⟨g, List.mem_append_right _ List.mem_cons_self, rfl⟩
      have a2 : Spn (inL M (done ++ [g])) v := v1.mono fun x hx => by
        obtain ⟨r, hr, rfl⟩ := hx
        obtain ⟨p, hp, rfl⟩ := List.mem_map.mp hr
        exact dn _ (h.s1 p hp)
      exact ((a1.addv a2).scale (1 / r1.getD a 0)).cong fun k => by rw [cfr k, v2 k]
  · have up : ∀ w, Spn (inL M (kept.map (·.2))) w → Spn (inL M ((kplus kept a r2).map (·.2))) w := fun w hw => hw.mono fun y hy => by
      obtain ⟨r, hr, rfl⟩ := hy
      obtain ⟨p, hp, rfl⟩ := List.mem_map.mp hr
      exact k1 p hp
    rcases List.mem_append.mp hx with hx | hx
    · exact up _ (h.s2 x hx)
    · rw [List.mem_singleton.mp hx]
      refine (Spn.closed _ _ (-1) (k2.scale (r1.getD a 0)) (up _ v1)).cong fun k => ?_
      rw [cfr k, v2 k]
      grind
theorem SG.same {m M W : Nat} {done : List (List Rat)} {kept : List (Nat × List Rat)} (h : SG m M W done kept) (v : VF) : Spn (inL m done) v ↔ Spn (inL m (kept.map (·.2))) v := by
  constructor
  · refine fun hv => hv.mono fun x hx => ?_
    obtain ⟨r, hr, rfl⟩ := hx
    exact (spn_fewer (h.le) (h.s2 r hr)).cong fun k => cf_fewer (h.le) r k
  · refine fun hv => hv.mono fun x hx => ?_
    obtain ⟨r, hr, rfl⟩ := hx
    obtain ⟨p, hp, rfl⟩ := List.mem_map.mp hr
    exact (spn_fewer (h.le) (h.s1 p hp)).cong fun k => cf_fewer (h.le) p.2 k
theorem SG.cs {m M W : Nat} {done : List (List Rat)} {kept : List (Nat × List Rat)} (h : SG m M W done kept) : Cs m M done := fun v hv hz k => by
  have hv2 : Spn (inL M (kept.map (·.2))) v := hv.mono fun g hg => by
    obtain ⟨r, hr, rfl⟩ := hg
    exact h.s2 r hr
  rw [h.ki.told h.le hv2 k]
  exact ksum_none (fun p hp => by
    obtain ⟨q, hq, rfl⟩ := List.mem_map.mp hp
    exact hz q.1 (h.ki.lt q hq)) k
/-- what a kept unit row says: the point's part -/
theorem SG.worth {m M W : Nat} {done : List (List Rat)} {kept : List (Nat × List Rat)} (h : SG m M W done kept) {c : Nat} (hc : m ≤ c) (hcM : c < M) {pt : Nat → Rat} (hp : ∀ r ∈ done, sN (fun k => cf M r k * pt k) m = cf M r c) {p : Nat × List Rat} (hk : p ∈ kept) (hz : ∀ k < m, k ≠ p.1 → p.2.getD k 0 = 0) : p.2.getD c 0 = pt p.1 := by
  have e : sN (fun j => cf M p.2 j * pt j) m = cf M p.2 c := by
    refine Spn.pred (Z := fun v => sN (fun j => v j * pt j) m = v c) (sN_none fun _ _ => by grind) ?_ ?_ (h.s1 p hk)
    · intro v w a h1 h2
      have e : (fun j => (v j + a * w j) * pt j) = fun j => (fun j => v j * pt j) j + a * (fun j => w j * pt j) j := funext fun j => by grind
      show sN (fun j => (v j + a * w j) * pt j) m = v c + a * w c
      rw [e, sN_add, h1, h2]
    · rintro g ⟨r, hr, rfl⟩
      exact hp r hr
  have hlt := h.ki.lt p hk
  have c1 : ∀ k < M, cf M p.2 k = p.2.getD k 0 := fun k hk => if_pos hk
  have hle := h.le
  rw [sN_one hlt (fun k hk hne => by
    rw [c1 k (by omega), hz k hk hne]
    grind), c1 _ (by omega), c1 _ (by omega), h.ki.one p hk] at e
  rw [← e]
  grind
abbrev gw (M : Nat) (G : List (List Rat)) (k : Nat) : VF := cf M (G.getD k [])
structure MG (m M n : Nat) (G : List (List Rat)) (i : Nat) (kept : List (Nat × List Rat)) : Prop where
  mo : ∀ p ∈ kept, MO M n (gw M G) (cf (M + n) p.2)
  su : ∀ p ∈ kept, ∀ k < n, cf (M + n) p.2 (M + k) ≠ 0 → k < i ∧ PP m G k
theorem MG.start {m M n : Nat} {G : List (List Rat)} : MG m M n G 0 [] := ⟨(fun _ h => nomatch h), fun _ h => nomatch h⟩
theorem MG.up {m M n i : Nat} {G : List (List Rat)} {kept : List (Nat × List Rat)} (h : MG m M n G i kept) : MG m M n G (i + 1) kept :=
  ⟨h.mo, fun p hp k hk h0 => ⟨by have := (h.su p hp k hk h0).1; omega, (h.su p hp k hk h0).2⟩⟩
theorem mrk_atM {g : List Rat} {M i n : Nat} (hg : g.length = M) : (∀ c < M, cf (M + n) (mrk g i n) c = cf M g c) ∧ ∀ k < n, cf (M + n) (mrk g i n) (M + k) = if k = i then 1 else 0 := by
  refine ⟨fun c hc => ?_, fun k hk => ?_⟩
  · have e := congrFun (cf_mrk hg i n) c
    unfold cf at e ⊢
    rw [if_pos hc, if_pos hc] at e
    rw [if_pos (by omega), if_pos hc]
    exact e
  · unfold cf mrk
    rw [if_pos (by omega), List.getD_eq_getElem?_getD, List.getElem?_append_right (by omega), hg, show M + k - M = k by omega, List.getElem?_map, List.getElem?_range hk]
    rfl
theorem MG.row {m M n i W : Nat} {G : List (List Rat)} {kept : List (Nat × List Rat)} (h : MG m M n G i kept) (hS : SG m M W (G.take i) kept) (hW : M + n = W) {g : List Rat} (hg : g.length = M) (hgi : G[i]? = some g) (hin : i < n) :
    MO M n (gw M G) (cf (M + n) (red kept (mrk g i n))) ∧ cf (M + n) (red kept (mrk g i n)) (M + i) = 1 ∧ ∀ k < n, cf (M + n) (red kept (mrk g i n)) (M + k) ≠ 0 → k = i ∨ (k < i ∧ PP m G k) := by
  have hl : (mrk g i n).length = W := by
    unfold mrk
    rw [List.length_append, List.length_map, List.length_range]
    omega
  obtain ⟨v, v1, v2⟩ := red_spn (M := M + n) hS.ki.len hl
  obtain ⟨a1, a2⟩ := mrk_atM (n := n) (i := i) hg
  have hv : MO M n (gw M G) v ∧ v (M + i) = 0 ∧ ∀ k < n, v (M + k) ≠ 0 → k < i ∧ PP m G k := by
    refine Spn.pred (Z := fun v => MO M n (gw M G) v ∧ v (M + i) = 0 ∧ ∀ k < n, v (M + k) ≠ 0 → k < i ∧ PP m G k) ⟨MO.zero, rfl, fun _ _ z => absurd rfl z⟩ ?_ ?_ v1
    · rintro v w a ⟨x1, x2, x3⟩ ⟨y1, y2, y3⟩
      refine ⟨MO.lin v w a x1 y1, by show _ + a * _ = (0 : Rat); rw [x2, y2]; grind, fun k hk hz => ?_⟩
      by_cases h0 : v (M + k) = 0
      · refine y3 k hk fun h1 => hz ?_
        show _ + a * _ = (0 : Rat)
        rw [h0, h1]
        grind
      · exact x3 k hk h0
    · rintro x ⟨r, hr, rfl⟩
      obtain ⟨p, hp, rfl⟩ := List.mem_map.mp hr
      exact ⟨h.mo p hp, Classical.byContradiction fun z => Nat.lt_irrefl _ (h.su p hp i hin z).1, h.su p hp⟩
  have hm : MO M n (gw M G) (cf (M + n) (mrk g i n)) := fun c hc => by
    rw [a1 c hc, sN_one hin fun k hk hne => by rw [a2 k hk, if_neg hne]; grind, a2 i hin, if_pos rfl]
    unfold gw
    rw [List.getD_eq_getElem?_getD, hgi]
    show _ = 1 * cf M g c
    grind
  refine ⟨?_, ?_, fun k hk h0 => ?_⟩
  · have := MO.lin _ v 1 hm hv.1
    intro c hc
    have e := this c hc
    rw [v2 c, sN_cong (g := fun k => (cf (M + n) (mrk g i n) (M + k) + 1 * v (M + k)) * gw M G k c) fun k _ => by rw [v2]; grind, ← e]
    grind
  · rw [v2, hv.2.1, a2 i hin, if_pos rfl]
    grind
  · rw [v2, a2 k hk] at h0
    by_cases hki : k = i
    · exact .inl hki
    · rw [if_neg hki] at h0
      exact .inr (hv.2.2 k hk fun z => h0 (by rw [z]; grind))
theorem SG.fresh {m M n i W a : Nat} {G : List (List Rat)} {kept : List (Nat × List Rat)} (hS : SG m M W (G.take i) kept) (hW : M + n = W) {g : List Rat} (hg : g.length = M) (hgi : G[i]? = Option.some g) (ha : a < m) (h0 : (red kept (mrk g i n)).getD a 0 ≠ 0) : PP m G i := fun hs => by
  rw [List.getD_eq_getElem?_getD, hgi] at hs
  have hs : Spn (inL m (G.take i)) (cf m g) := hs
  rw [hS.same] at hs
  obtain ⟨l1, ⟨v, v1, v2⟩, n1⟩ := hS.row (i := i) hg hW
  have v3 := spn_fewer (hS.le) v1
  have hr : Spn (inL m (kept.map (·.2))) (cf m (red kept (mrk g i n))) := (hs.addv v3).cong fun k => by
    show cf m g k + (if k < m then v k else 0) = _
    rw [← cf_fewer (hS.le) (red kept (mrk g i n)) k, ← cf_fewer (hS.le) g k, v2 k]
    split
    · rfl
    · grind
  have e := hS.ki.told (Nat.le_refl m) hr a
  rw [ksum_none (fun p hp => by
    obtain ⟨q, hq, rfl⟩ := List.mem_map.mp hp
    show cf m (red kept (mrk g i n)) q.1 = 0
    unfold cf
    rw [if_pos (hS.ki.lt q hq)]
    exact n1 q hq)] at e
  have e2 : cf m (red kept (mrk g i n)) a = (red kept (mrk g i n)).getD a 0 := if_pos ha
  exact h0 (e2.symm.trans e)
theorem MG.plus {m M n i W a : Nat} {G : List (List Rat)} {kept : List (Nat × List Rat)} (h : MG m M n G i kept) (hS : SG m M W (G.take i) kept) (hW : M + n = W) {g : List Rat} (hg : g.length = M) (hgi : G[i]? = some g) (hin : i < n) (ha : a < m) (h0 : (red kept (mrk g i n)).getD a 0 ≠ 0) :
    MG m M n G (i + 1) (kplus kept a ((red kept (mrk g i n)).map fun x => x / (red kept (mrk g i n)).getD a 0)) := by
  obtain ⟨r1, _, r3⟩ := h.row hS hW hg hgi hin
  have hpp := hS.fresh (n := n) hW hg hgi ha h0
  obtain ⟨l1, _, _⟩ := hS.row (i := i) hg hW
  generalize red kept (mrk g i n) = rr at *
  have cfr : ∀ k, cf (M + n) (rr.map fun x => x / rr.getD a 0) k = (1 / rr.getD a 0) * cf (M + n) rr k := fun k => by
    unfold cf
    split
    · rw [List.getD_eq_getElem?_getD, List.getElem?_map, List.getD_eq_getElem?_getD (l := rr) (i := k)]
      cases rr[k]? with
      | none => show (0 : Rat) = _ * 0; grind
      | some x => show x / _ = _ * x; grind
    · grind
  have l2 : (rr.map fun x => x / rr.getD a 0).length = W := by rw [List.length_map]; exact l1
  have m2 : MO M n (gw M G) (cf (M + n) (rr.map fun x => x / rr.getD a 0)) := by
    rw [show cf (M + n) (rr.map fun x => x / rr.getD a 0) = fun k => (1 / rr.getD a 0) * cf (M + n) rr k from funext cfr]
    exact r1.scale _
  have s2 : ∀ k < n, cf (M + n) (rr.map fun x => x / rr.getD a 0) (M + k) ≠ 0 → k < i + 1 ∧ PP m G k := fun k hk hz => by
    rw [cfr] at hz
    rcases r3 k hk (fun z => hz (by rw [z]; grind)) with e | ⟨e1, e2⟩
    · rw [e]; exact ⟨by omega, hpp⟩
    · exact ⟨by omega, e2⟩
  generalize (rr.map fun x => x / rr.getD a 0) = r2 at *
  refine ⟨fun q hq => ?_, fun q hq k hk hz => ?_⟩
  · rcases List.mem_append.mp hq with hq | hq
    · obtain ⟨p, hp, rfl⟩ := List.mem_map.mp hq
      show MO M n (gw M G) (cf (M + n) (clr a r2 p.2))
      rw [show cf (M + n) (clr a r2 p.2) = fun k => cf (M + n) p.2 k + -p.2.getD a 0 * cf (M + n) r2 k from funext fun k => cf_clr (by rw [hS.ki.len p hp, l2]) k]
      exact MO.lin _ _ _ (h.mo p hp) m2
    · rw [List.mem_singleton.mp hq]
      exact m2
  · rcases List.mem_append.mp hq with hq | hq
    · obtain ⟨p, hp, rfl⟩ := List.mem_map.mp hq
      have hz : cf (M + n) (clr a r2 p.2) (M + k) ≠ 0 := hz
      rw [cf_clr (by rw [hS.ki.len p hp, l2])] at hz
      by_cases h1 : cf (M + n) p.2 (M + k) = 0
      · exact s2 k hk fun z => hz (by rw [h1, z]; grind)
      · have := h.su p hp k hk h1
        exact ⟨by omega, this.2⟩
    · rw [List.mem_singleton.mp hq] at hz
      exact s2 k hk hz
/-- a conflict: how much of each row makes a row that says something of nothing -/
structure Cg (m M : Nat) (G : List (List Rat)) (i : Nat) (μ : Nat → Rat) : Prop where
  lt : i < G.length
  own : μ i ≠ 0
  su : ∀ k < G.length, μ k ≠ 0 → k = i ∨ (k < i ∧ PP m G k)
  co : ∀ c < m, sN (fun k => μ k * cf M (G.getD k []) c) G.length = 0
  bo : ∃ c, sN (fun k => μ k * cf M (G.getD k []) c) G.length ≠ 0
  calm : Cs m M (G.take i)
theorem MG.conflict {m M n i W : Nat} {G : List (List Rat)} {kept : List (Nat × List Rat)} (h : MG m M n G i kept) (hS : SG m M W (G.take i) kept) (hW : M + n = W) (hn : n = G.length) {g : List Rat} (hg : g.length = M) (hgi : G[i]? = some g) (hz : ∀ k < m, (red kept (mrk g i n)).getD k 0 = 0) (hb : ∃ c, c < M ∧ (red kept (mrk g i n)).getD c 0 ≠ 0) :
    Cg m M G i fun k => (red kept (mrk g i n)).getD (M + k) 0 := by
  have hi : i < G.length := (List.getElem?_eq_some_iff.mp hgi).1
  obtain ⟨r1, r2, r3⟩ := h.row hS hW hg hgi (by omega)
  have hle := hS.le
  generalize red kept (mrk g i n) = rr at *
  have cfe : ∀ k < M + n, cf (M + n) rr k = rr.getD k 0 := fun k hk => if_pos hk
  subst hn
  have sm : ∀ c < M, rr.getD c 0 = sN (fun k => rr.getD (M + k) 0 * cf M (G.getD k []) c) G.length := fun c hc => by
    rw [← cfe c (by omega), r1 c hc]
    exact sN_cong fun k hk => by rw [cfe _ (by omega)]
  refine ⟨hi, ?_, fun k hk h0 => r3 k hk (by rw [cfe _ (by omega)]; exact h0), fun c hc => ?_, ?_, hS.cs⟩
  · show rr.getD (M + i) 0 ≠ 0
    rw [← cfe _ (by omega), r2]
    decide
  · rw [← sm c (by omega)]
    exact hz c hc
  · obtain ⟨c, c1, c2⟩ := hb
    exact ⟨c, by rw [← sm c c1]; exact c2⟩
/-- told rows do not agree -/
theorem Cg.not {m M : Nat} {G : List (List Rat)} {i : Nat} {μ : Nat → Rat} (h : Cg m M G i μ) {D : List (List Rat)} (hD : ∀ k ∈ toldL G.length μ, G.getD k [] ∈ D) : ¬ Cs m M D := fun hc => by
  obtain ⟨c, hb⟩ := h.bo
  refine hb (hc (fun c => sN (fun k => μ k * cf M (G.getD k []) c) G.length) (spn_sN (S := inL M D) (μ := μ) (g := fun k => cf M (G.getD k [])) fun k hk h0 => Spn.gen ⟨_, hD k (told_mem.mpr ⟨hk, h0⟩), rfl⟩) (fun k hk => h.co k hk) c)
end

section
/-- an elimination step: row j times s, the others cleared at column c by row j -/
def gjr (M c j : Nat) (s : Rat) (R : List (List Rat)) (q : Nat) : List Rat := (List.range M).map fun k => if q = j then s * (R.getD j []).getD k 0 else (R.getD q []).getD k 0 - (R.getD q []).getD c 0 / (R.getD j []).getD c 0 * (R.getD j []).getD k 0
def gjs (M c j : Nat) (s : Rat) (R : List (List Rat)) : List (List Rat) := (List.range R.length).map (gjr M c j s R)
theorem gjr_len {M c j q : Nat} {s : Rat} {R : List (List Rat)} : (gjr M c j s R q).length = M := by
  unfold gjr
  rw [List.length_map, List.length_range]
theorem gjr_at {M c j q k : Nat} {s : Rat} {R : List (List Rat)} (hk : k < M) : (gjr M c j s R q).getD k 0 = if q = j then s * (R.getD j []).getD k 0 else (R.getD q []).getD k 0 - (R.getD q []).getD c 0 / (R.getD j []).getD c 0 * (R.getD j []).getD k 0 := by
  unfold gjr
  rw [List.getD_eq_getElem?_getD, List.getElem?_map, List.getElem?_range hk]
  rfl
theorem gjs_at {M c j q : Nat} {s : Rat} {R : List (List Rat)} (hq : q < R.length) : (gjs M c j s R).getD q [] = gjr M c j s R q := by
  unfold gjs
  rw [List.getD_eq_getElem?_getD, List.getElem?_map, List.getElem?_range hq]
  rfl
theorem gjs_len {M c j : Nat} {s : Rat} {R : List (List Rat)} : (gjs M c j s R).length = R.length := by
  unfold gjs
  rw [List.length_map, List.length_range]
theorem mem_getD {R : List (List Rat)} {q : Nat} (h : q < R.length) : R.getD q [] ∈ R := by
  rw [List.getD_eq_getElem?_getD, List.getElem?_eq_getElem h]
  exact List.getElem_mem h
theorem getD_mem {R : List (List Rat)} {r : List Rat} (h : r ∈ R) : ∃ q < R.length, R.getD q [] = r := by
  obtain ⟨q, hq, e⟩ := List.mem_iff_getElem.mp h
  exact ⟨q, hq, by rw [List.getD_eq_getElem?_getD, List.getElem?_eq_getElem hq]; exact e⟩
/-- rows ahead of column c, with what has been used: pairs of a column and a row -/
structure GJ (M : Nat) (R0 R : List (List Rat)) (c : Nat) (P : List (Nat × Nat)) : Prop where
  len : ∀ r ∈ R, r.length = M
  cnt : R.length = R0.length
  spn : ∀ v, Spn (inL M R0) v ↔ Spn (inL M R) v
  lt : ∀ p ∈ P, p.1 < c ∧ p.2 < R.length
  asc : P.Pairwise fun p q => p.1 < q.1 ∧ p.2 ≠ q.2
  piv : ∀ p ∈ P, (R.getD p.2 []).getD p.1 0 ≠ 0
  oth : ∀ p ∈ P, ∀ j < R.length, j ≠ p.2 → (R.getD j []).getD p.1 0 = 0
  low : ∀ j < R.length, (∀ p ∈ P, p.2 ≠ j) → ∀ k < c, (R.getD j []).getD k 0 = 0
theorem GJ.start {M : Nat} {R : List (List Rat)} (h : ∀ r ∈ R, r.length = M) : GJ M R R 0 [] :=
  ⟨h, rfl, fun _ => Iff.rfl, (fun _ h => nomatch h), List.Pairwise.nil, (fun _ h => nomatch h), (fun _ h => nomatch h), fun _ _ _ k hk => absurd hk (Nat.not_lt_zero k)⟩
theorem GJ.skip {M c : Nat} {R0 R : List (List Rat)} {P : List (Nat × Nat)} (h : GJ M R0 R c P) (hz : ∀ j < R.length, (∀ p ∈ P, p.2 ≠ j) → (R.getD j []).getD c 0 = 0) : GJ M R0 R (c + 1) P := by
  refine ⟨h.len, h.cnt, h.spn, fun p hp => ⟨by have := (h.lt p hp).1; omega, (h.lt p hp).2⟩, h.asc, h.piv, h.oth, fun j hj hn k hk => ?_⟩
  rcases Nat.lt_or_ge k c with g | g
  · exact h.low j hj hn k g
  · rw [show k = c by omega]
    exact hz j hj hn
theorem GJ.next {M c j : Nat} {s : Rat} {R0 R : List (List Rat)} {P : List (Nat × Nat)} (h : GJ M R0 R c P) (hc : c < M) (hj : j < R.length) (hn : ∀ p ∈ P, p.2 ≠ j) (h0 : (R.getD j []).getD c 0 ≠ 0) (hs : s ≠ 0) : GJ M R0 (gjs M c j s R) (c + 1) (P ++ [(c, j)]) := by
  have hlow := h.low j hj hn
  have lenj := h.len _ (mem_getD hj)
  have cfF : ∀ q < R.length, ∀ k, cf M (gjr M c j s R q) k = if q = j then s * cf M (R.getD j []) k else cf M (R.getD q []) k + -((R.getD q []).getD c 0 / (R.getD j []).getD c 0) * cf M (R.getD j []) k := fun q hq k => by
    unfold cf
    by_cases hk : k < M
    · rw [if_pos hk, if_pos hk, if_pos hk, gjr_at hk]
      split
      · rfl
      · grind
    · rw [if_neg hk, if_neg hk, if_neg hk]
      split <;> grind
  have at_ : ∀ q < R.length, ∀ k, k < M → ((gjs M c j s R).getD q []).getD k 0 = if q = j then s * (R.getD j []).getD k 0 else (R.getD q []).getD k 0 - (R.getD q []).getD c 0 / (R.getD j []).getD c 0 * (R.getD j []).getD k 0 := fun q hq k hk => by rw [gjs_at hq, gjr_at hk]
  refine ⟨fun r hr => ?_, by rw [gjs_len]; exact h.cnt, fun v => (h.spn v).trans ⟨fun hv => hv.mono fun g hg => ?_, fun hv => hv.mono fun g hg => ?_⟩, fun p hp => ?_, ?_, fun p hp => ?_, fun p hp q hq hne => ?_, fun q hq hnq k hk => ?_⟩
  · obtain ⟨q, _, rfl⟩ := List.mem_map.mp hr
    exact gjr_len
  · obtain ⟨r, hr, rfl⟩ := hg
    obtain ⟨q, hq, rfl⟩ := getD_mem hr
    have gen : ∀ q < R.length, Spn (inL M (gjs M c j s R)) (cf M (gjr M c j s R q)) := fun q hq => Spn.gen ⟨_, by
      rw [← gjs_at hq]
      exact mem_getD (by rw [gjs_len]; exact hq), rfl⟩
    have r1 : Spn (inL M (gjs M c j s R)) (cf M (R.getD j [])) := ((gen j hj).scale (1 / s)).cong fun k => by
      rw [cfF j hj, if_pos rfl]
      grind
    by_cases hqj : q = j
    · rw [hqj]
      exact r1
    · exact (Spn.closed _ _ ((R.getD q []).getD c 0 / (R.getD j []).getD c 0) (gen q hq) r1).cong fun k => by
        rw [cfF q hq, if_neg hqj]
        grind
  · obtain ⟨r, hr, rfl⟩ := hg
    obtain ⟨q, hq, rfl⟩ := List.mem_map.mp hr
    have hq := List.mem_range.mp hq
    have gen : ∀ q < R.length, Spn (inL M R) (cf M (R.getD q [])) := fun q hq => Spn.gen ⟨_, mem_getD hq, rfl⟩
    by_cases hqj : q = j
    · exact ((gen j hj).scale s).cong fun k => by rw [cfF q hq, if_pos hqj]
    · exact (Spn.closed _ _ (-((R.getD q []).getD c 0 / (R.getD j []).getD c 0)) (gen q hq) (gen j hj)).cong fun k => by rw [cfF q hq, if_neg hqj]
  · rw [gjs_len]
    rcases List.mem_append.mp hp with g | g
    · exact ⟨by have := (h.lt p g).1; omega, (h.lt p g).2⟩
    · rw [List.mem_singleton.mp g]
      exact ⟨Nat.lt_succ_self c, hj⟩
  · rw [List.pairwise_append]
    refine ⟨h.asc, List.pairwise_singleton _ _, fun p hp q hq => ?_⟩
    rw [List.mem_singleton.mp hq]
    exact ⟨(h.lt p hp).1, hn p hp⟩
  · rcases List.mem_append.mp hp with g | g
    · have l := h.lt p g
      rw [at_ _ l.2 _ (by omega), if_neg (hn p g), h.oth p g j hj (fun z => hn p g z.symm)]
      have := h.piv p g
      grind
    · rw [List.mem_singleton.mp g, at_ _ hj _ hc, if_pos rfl]
      exact fun z => (Rat.mul_eq_zero.mp z).elim hs h0
  · rw [gjs_len] at hq
    rcases List.mem_append.mp hp with g | g
    · have l := h.lt p g
      have hjp := h.oth p g j hj (fun z => hn p g z.symm)
      rw [at_ _ hq _ (by omega), hjp]
      split
      · grind
      · rw [h.oth p g q hq hne]
        grind
    · rw [List.mem_singleton.mp g] at hne ⊢
      rw [at_ _ hq _ hc, if_neg hne]
      grind
  · rw [gjs_len] at hq
    have hqj : q ≠ j := fun z => hnq (c, j) (List.mem_append_right _ List.mem_cons_self) z.symm
    have hnq2 : ∀ p ∈ P, p.2 ≠ q := fun p hp => hnq p (List.mem_append_left _ hp)
    rw [at_ _ hq _ (by omega), if_neg hqj]
    rcases Nat.lt_or_ge k c with g | g
    · rw [h.low q hq hnq2 k g, hlow k g]
      grind
    · rw [show k = c by omega]
      grind
/-- what has been used, its rows over their numbers at their columns -/
def gjk (R : List (List Rat)) (P : List (Nat × Nat)) : List (Nat × List Rat) := P.map fun p => (p.1, (R.getD p.2 []).map fun x => x / (R.getD p.2 []).getD p.1 0)
theorem div_at {r : List Rat} {f : Rat} (k : Nat) : (r.map fun x => x / f).getD k 0 = r.getD k 0 / f := by
  rw [List.getD_eq_getElem?_getD, List.getElem?_map, List.getD_eq_getElem?_getD (l := r) (i := k)]
  cases r[k]? with
  | none => show (0 : Rat) = 0 / _; grind
  | some x => rfl
theorem GJ.ki {M m : Nat} {R0 R : List (List Rat)} {P : List (Nat × Nat)} (h : GJ M R0 R m P) : KI m M (gjk R P) := by
  have mem : ∀ x ∈ gjk R P, ∃ p ∈ P, x = (p.1, (R.getD p.2 []).map fun x => x / (R.getD p.2 []).getD p.1 0) := fun x hx => by
    obtain ⟨p, hp, e⟩ := List.mem_map.mp hx
    exact ⟨p, hp, e.symm⟩
  refine ⟨fun x hx => ?_, fun x hx => ?_, fun x hx => ?_, ?_, fun x hx y hy hne => ?_⟩
  · obtain ⟨p, hp, rfl⟩ := mem x hx
    exact (h.lt p hp).1
  · obtain ⟨p, hp, rfl⟩ := mem x hx
    show (List.map _ _).length = M
    rw [List.length_map]
    exact h.len _ (mem_getD (h.lt p hp).2)
  · obtain ⟨p, hp, rfl⟩ := mem x hx
    show ((R.getD p.2 []).map fun x => x / (R.getD p.2 []).getD p.1 0).getD p.1 0 = 1
    rw [div_at]
    have := h.piv p hp
    grind
  · unfold gjk
    rw [List.pairwise_map]
    exact h.asc.imp fun h => Nat.ne_of_lt h.1
  · obtain ⟨p, hp, rfl⟩ := mem x hx
    obtain ⟨q, hq, rfl⟩ := mem y hy
    show ((R.getD p.2 []).map fun x => x / (R.getD p.2 []).getD p.1 0).getD q.1 0 = 0
    have hpq : p.2 ≠ q.2 := fun z => by
      have : ∀ {l : List (Nat × Nat)}, l.Pairwise (fun p q => p.1 < q.1 ∧ p.2 ≠ q.2) → p ∈ l → q ∈ l → p.1 = q.1 := by
        intro l hl h1 h2
        induction l with
        | nil => cases h1
        | cons a l ih =>
          have hl2 := List.pairwise_cons.mp hl
          rcases List.mem_cons.mp h1 with e1 | m1
          · rcases List.mem_cons.mp h2 with e2 | m2
            · rw [e1, e2]
            · rw [← e1] at hl2
              exact absurd z (hl2.1 _ m2).2
          · rcases List.mem_cons.mp h2 with e2 | m2
            · rw [← e2] at hl2
              exact absurd z.symm (hl2.1 _ m1).2
            · exact ih hl2.2 m1 m2
      exact hne (this h.asc hp hq)
    rw [div_at, h.oth q hq p.2 (h.lt p hp).2 hpq]
    grind
theorem gjk_spn {M m : Nat} {R0 R : List (List Rat)} {P : List (Nat × Nat)} (h : GJ M R0 R m P) : (∀ v, Spn (inL M ((gjk R P).map (·.2))) v → Spn (inL M R) v) ∧ ∀ p ∈ P, Spn (inL M ((gjk R P).map (·.2))) (cf M (R.getD p.2 [])) := by
  have cfd : ∀ (r : List Rat) (f : Rat) k, cf M (r.map fun x => x / f) k = 1 / f * cf M r k := fun r f k => by
    unfold cf
    split
    · rw [div_at]; grind
    · grind
  refine ⟨fun v hv => hv.mono fun g hg => ?_, fun p hp => ?_⟩
  · obtain ⟨r, hr, rfl⟩ := hg
    obtain ⟨x, hx, rfl⟩ := List.mem_map.mp hr
    obtain ⟨p, hp, rfl⟩ := List.mem_map.mp hx
    refine ((Spn.gen ⟨_, mem_getD (h.lt p hp).2, rfl⟩ : Spn (inL M R) (cf M (R.getD p.2 []))).scale (1 / (R.getD p.2 []).getD p.1 0)).cong fun k => ?_
    exact (cfd _ _ k).symm
  · have g : Spn (inL M ((gjk R P).map (·.2))) (cf M ((R.getD p.2 []).map fun x => x / (R.getD p.2 []).getD p.1 0)) := Spn.gen ⟨_, List.mem_map.mpr ⟨(p.1, _), List.mem_map.mpr ⟨p, hp, rfl⟩, rfl⟩, rfl⟩
    refine (g.scale ((R.getD p.2 []).getD p.1 0)).cong fun k => ?_
    rw [cfd]
    have := h.piv p hp
    grind
/-- all columns done: the same span -/
theorem GJ.all {m : Nat} {R0 R : List (List Rat)} {P : List (Nat × Nat)} (h : GJ m R0 R m P) (v : VF) : Spn (inL m R0) v ↔ Spn (inL m ((gjk R P).map (·.2))) v := by
  obtain ⟨g1, g2⟩ := gjk_spn h
  refine (h.spn v).trans ⟨fun hv => hv.mono fun g hg => ?_, g1 v⟩
  obtain ⟨r, hr, rfl⟩ := hg
  obtain ⟨q, hq, rfl⟩ := getD_mem hr
  by_cases hu : ∃ p ∈ P, p.2 = q
  · obtain ⟨p, hp, rfl⟩ := hu
    exact g2 p hp
  · refine Spn.zero.cong fun k => ?_
    unfold cf
    split
    · rename_i hk
      exact (h.low q hq (fun p hp z => hu ⟨p, hp, z⟩) k hk).symm
    · rfl
/-- a unit row is in the span if and only if a used row is it -/
theorem GJ.unit {m : Nat} {R0 R : List (List Rat)} {P : List (Nat × Nat)} (h : GJ m R0 R m P) {j : Nat} (hj : j < m) {u : VF} (hu : ∀ k, u k = if k = j then 1 else 0) : Spn (inL m R0) u ↔ ∃ p ∈ P, p.1 = j ∧ ∀ k < m, k ≠ j → (R.getD p.2 []).getD k 0 = 0 := by
  rw [h.all, h.ki.unit hj hu]
  constructor
  · rintro ⟨x, hx, e, hz⟩
    obtain ⟨p, hp, rfl⟩ := List.mem_map.mp hx
    refine ⟨p, hp, e, fun k hk hne => ?_⟩
    have := hz k hk hne
    rw [div_at] at this
    have := h.piv p hp
    grind
  · rintro ⟨p, hp, e, hz⟩
    refine ⟨_, List.mem_map.mpr ⟨p, hp, rfl⟩, e, fun k hk hne => ?_⟩
    rw [div_at, hz k hk hne]
    grind
/-- rows agree if and only if those that are not used are 0 -/
theorem GJ.agree {m M : Nat} (hM : m ≤ M) {R0 R : List (List Rat)} {P : List (Nat × Nat)} (h : GJ M R0 R m P) : Cs m M R0 ↔ ∀ j < R.length, (∀ p ∈ P, p.2 ≠ j) → ∀ k < M, (R.getD j []).getD k 0 = 0 := by
  constructor
  · intro hc j hj hn k hk
    have := hc (cf M (R.getD j [])) ((h.spn _).mpr (Spn.gen ⟨_, mem_getD hj, rfl⟩)) (fun k hk => by
      unfold cf
      rw [if_pos (by omega)]
      exact h.low j hj hn k hk) k
    unfold cf at this
    rw [if_pos hk] at this
    exact this
  · intro hz v hv hv0 k
    obtain ⟨g1, g2⟩ := gjk_spn h
    have hs : Spn (inL M ((gjk R P).map (·.2))) v := ((h.spn v).mp hv).mono fun g hg => by
      obtain ⟨r, hr, rfl⟩ := hg
      obtain ⟨q, hq, rfl⟩ := getD_mem hr
      by_cases hu : ∃ p ∈ P, p.2 = q
      · obtain ⟨p, hp, rfl⟩ := hu
        exact g2 p hp
      · refine Spn.zero.cong fun k => ?_
        unfold cf
        split
        · rename_i hk
          exact (hz q hq (fun p hp z => hu ⟨p, hp, z⟩) k hk).symm
        · rfl
    rw [h.ki.told hM hs k]
    exact ksum_none (fun p hp => by
      obtain ⟨q, hq, rfl⟩ := List.mem_map.mp hp
      exact hv0 q.1 (h.ki.lt q hq)) k
theorem CB.gjr {b M c j q : Nat} {s : Rat} {R : List (List Rat)} (h : ∀ r ∈ R, CB b r) (hl : ∀ r ∈ R, r.length = M) (hj : j < R.length) (hq : q < R.length) (h0 : (R.getD j []).getD c 0 ≠ 0) (hs : s = 1 ∨ (s = 1 / (R.getD j []).getD c 0 ∧ c < M)) : CB (2 * b + 1) (Tp.gjr M c j s R q) := by
  have same : ∀ {r : List Rat}, r.length = M → (List.range M).map (fun k => r.getD k 0) = r := fun {r} hr => by
    subst hr
    refine List.ext_getElem (by simp) fun k h1 h2 => ?_
    rw [List.getElem_map, List.getElem_range, List.getD_eq_getElem?_getD, List.getElem?_eq_getElem h2]
    rfl
  by_cases hqj : q = j
  · subst hqj
    have hr := h _ (mem_getD hq)
    have hlr := hl _ (mem_getD hq)
    rcases hs with rfl | ⟨rfl, hc⟩
    · have e : Tp.gjr M c q 1 R q = R.getD q [] := by
        unfold Tp.gjr
        rw [← same hlr]
        refine List.map_congr_left fun k hk => ?_
        rw [if_pos rfl, same hlr]
        grind
      rw [e]
      exact hr.up (by omega)
    · have e : Tp.gjr M c q (1 / (R.getD q []).getD c 0) R q = (R.getD q []).map fun x => x / (R.getD q []).getD c 0 := by
        unfold Tp.gjr
        refine List.ext_getElem (by rw [List.length_map, List.length_range, List.length_map, hlr]) fun k h1 h2 => ?_
        rw [List.getElem_map, List.getElem_range, if_pos rfl, List.getElem_map, List.getD_eq_getElem?_getD (l := R.getD q []) (i := k), List.getElem?_eq_getElem (by simpa using h2)]
        show 1 / _ * _ = _ / _
        grind
      rw [e]
      refine (CB.over hr ?_ h0).up (by omega)
      rcases getD_or (r := R.getD q []) (l := c) with e | e
      · exact absurd e h0
      · exact e
  · have e : Tp.gjr M c j s R q = Tp.elm M c (R.getD j []) (R.getD q []) := by
      unfold Tp.gjr Tp.elm
      refine List.map_congr_left fun k hk => ?_
      rw [if_neg hqj]
      grind
    rw [e]
    exact (h _ (mem_getD hq)).elm (h _ (mem_getD hj)) h0
end

section
abbrev rTupOf (K : PySem.W.Frag) : List V → Hp → (V → Hp → Prop) → Prop := fun xs H Q => ∃ p ys, xs = [.ref p] ∧ ((SqL K H p ys ∧ ∀ l, H l = none → Q (.ref l) (upd H l (.tup ys))) ∨ (SqT K H p ys ∧ Q (.ref p) H))
/-- a comprehension whose elements are things of a kind R that stands while nothing but the new list changes -/
theorem lc_objD {J : It} {n : Nat} {G : Hp → Prop} {Y : Nat → Hp → V → Hp → Prop} (w : Walk J n G Y) (R : Nat → Hp → V → Prop) (hz : n ≤ 1000)
    {g : TG} {te : TE} {vs : List Nat} {σ : L2.St} {H1 : Hp} {D : Addr} {Qd : Hp → Prop} (hD : H1 D = none) (stab : ∀ {i H H' v acc}, R i H v → H D = some (.lst acc) → (∀ b o, b ≠ D → H b = some o → H' b = some o) → R i H' v) (hG : ∀ H, Same H1 H → G H)
    (hs : ∀ i x H H' (k : V → Hp → Prop), i < n → Same H1 H → (∃ ys, H D = some (.lst ys)) → Y i H x H' → (∀ v H4, Same H H4 → R i H4 v → k v H4) → g x (wipe σ vs) H' fun σ2 H2 => wipe σ2 vs = wipe σ vs ∧ te σ2 H2 k)
    (hd : ∀ H us, Same H1 H → H D = some (.lst us) → us.length = n → (∀ i v, us[i]? = some v → R i H v) → Qd H) :
    ∃ W : Nat → Nat → Hp → Prop, (∃ m, W 0 m (upd H1 D (.lst []))) ∧ ∀ i m H, W i m H →
      (J.stop i H ∧ Qd H) ∨ (J.go i H ∧ ∃ Nx : Hp → Prop, (∀ H', Nx H' → ∃ m', m' < m ∧ W (i + 1) m' H') ∧ ∀ x H', J.yld i H x H' → g x (wipe σ vs) H' fun σ2 H2 => wipe σ2 vs = wipe σ vs ∧ tYes σ2 H2 fun b H3 =>
        if b = true then te σ2 H3 fun y H4 => ∃ acc, H4 D = some (.lst acc) ∧ acc.length < sizeLine ∧ Nx (upd H4 D (.lst (acc ++ [y]))) else Nx H3) := by
  refine lc_it w (fun i H => Same H1 H ∧ ∃ us, H D = some (.lst us) ∧ us.length = i ∧ ∀ j v, us[j]? = some v → R j H v) ⟨same_upd hD, [], upd_same, rfl, (fun j v h => by simp at h)⟩ (fun i H _ h => hG H h.1) ?_ ?_
  · rintro i x H H' hi ⟨s1, us, e1, l1, r1⟩ y
    have q := hs i x H H' (fun y H4 => ∃ acc, H4 D = some (.lst acc) ∧ acc.length < sizeLine ∧ (fun H => Same H1 H ∧ ∃ us, H D = some (.lst us) ∧ us.length = i + 1 ∧ ∀ j v, us[j]? = some v → R j H v) (upd H4 D (.lst (acc ++ [y])))) hi s1 ⟨_, e1⟩ y (fun v H4 s4 f4 => ?_)
    · refine Eq.mp (congrArg (g x (wipe σ vs) H') ?_) q
      funext σ2 H2
      simp [tYes]
    · have e4 := s4 _ _ e1
      refine ⟨us, e4, small1000 (by omega), fun b o e => ?_, us ++ [v], upd_same, by rw [List.length_append, l1]; rfl, fun j u hu => ?_⟩
      · rw [upd_ne (ne_of_none e hD)]
        exact s4 _ _ (s1 _ _ e)
      · by_cases hj : j < i
        · rw [List.getElem?_append_left (by omega)] at hu
          have hf := stab (r1 j u hu) e1 (fun b o _ e => s4 b o e)
          exact stab hf e4 fun b o hb e => by rw [upd_ne hb]; exact e
        · have hj2 : j < (us ++ [v]).length := (List.getElem?_eq_some_iff.mp hu).1
          rw [List.length_append, l1] at hj2
          have hj3 : j = i := by
            simp at hj2
            omega
          subst hj3
          rw [List.getElem?_append_right (by omega), l1, Nat.sub_self] at hu
          obtain rfl : v = u := Option.some.inj hu
          exact stab f4 e4 fun b o hb e => by rw [upd_ne hb]; exact e
  · rintro H ⟨s1, us, e1, l1, r1⟩
    exact hd H us s1 e1 l1 r1
/-- a comprehension with a condition, whose elements are things of a kind: those of L that are some -/
theorem lc_selD {α : Type} (Rel : Hp → Addr → α → Prop) (up : ∀ {H H' t x}, Same H H' → Rel H t x → Rel H' t x)
    {J : It} {n : Nat} {G : Hp → Prop} {Y : Nat → Hp → V → Hp → Prop} (w : Walk J n G Y) (L : List (Option α)) (hL : L.length = n) (hz : n ≤ 1000)
    {g : TG} {tt : TT} {te : TE} {vs : List Nat} {σ : L2.St} {H1 : Hp} {D : Addr} {Qd : Hp → Prop} (hD : H1 D = none) (over : ∀ {H H' t x ys}, Rel H t x → H D = some (.lst ys) → (∀ b o, b ≠ D → H b = some o → H' b = some o) → Rel H' t x) (hG : ∀ H, Same H1 H → G H)
    (hs : ∀ i c x H H' (kk : V → Hp → Prop) (kn : Hp → Prop), L[i]? = some c → Same H1 H → (∃ ys, H D = some (.lst ys)) → Y i H x H' → (∀ r, c = some r → ∀ t H4, Same H H4 → Rel H4 t r → kk (.ref t) H4) → (c = none → ∀ H4, Same H H4 → kn H4) → g x (wipe σ vs) H' fun σ2 H2 => wipe σ2 vs = wipe σ vs ∧ tt σ2 H2 fun b H3 => if b = true then te σ2 H3 kk else kn H3)
    (hd : ∀ H (ws : List (Addr × α)), Same H1 H → H D = some (.lst (ws.map fun w => .ref w.1)) → (∀ w ∈ ws, Rel H w.1 w.2) → ws.map (·.2) = L.filterMap id → Qd H) :
    ∃ W : Nat → Nat → Hp → Prop, (∃ m, W 0 m (upd H1 D (.lst []))) ∧ ∀ i m H, W i m H →
      (J.stop i H ∧ Qd H) ∨ (J.go i H ∧ ∃ Nx : Hp → Prop, (∀ H', Nx H' → ∃ m', m' < m ∧ W (i + 1) m' H') ∧ ∀ x H', J.yld i H x H' → g x (wipe σ vs) H' fun σ2 H2 => wipe σ2 vs = wipe σ vs ∧ tt σ2 H2 fun b H3 =>
        if b = true then te σ2 H3 fun y H4 => ∃ acc, H4 D = some (.lst acc) ∧ acc.length < sizeLine ∧ Nx (upd H4 D (.lst (acc ++ [y]))) else Nx H3) := by
  subst hL
  refine lc_it w (fun i H => Same H1 H ∧ ∃ ws : List (Addr × α), H D = some (.lst (ws.map fun w => .ref w.1)) ∧ (∀ w ∈ ws, Rel H w.1 w.2) ∧ ws.map (·.2) = (L.take i).filterMap id ∧ ws.length ≤ i) ⟨same_upd hD, [], upd_same, (fun _ z => nomatch z), rfl, Nat.le_refl _⟩ (fun i H _ h => hG H h.1) ?_ ?_
  · rintro i x H H' hi ⟨s1, ws, e1, r1, m1, l1⟩ y
    have hr : L[i]? = some L[i] := List.getElem?_eq_getElem hi
    have tk : (L.take (i + 1)).filterMap id = (L.take i).filterMap id ++ [L[i]].filterMap id := by
      rw [List.take_add_one, hr, List.filterMap_append]
      rfl
    refine hs i L[i] x H H' _ _ hr s1 ⟨_, e1⟩ y (fun r hc t H4 s4 f4 => ?_) (fun hc H4 s4 => ?_)
    · have e4 := s4 _ _ e1
      refine ⟨_, e4, ?_, fun b o e => ?_, ws ++ [(t, r)], ?_, fun v hv => ?_, ?_, ?_⟩
      · rw [List.length_map]
        exact small1000 (by omega)
      · rw [upd_ne (ne_of_none e hD)]
        exact s4 _ _ (s1 _ _ e)
      · rw [upd_same, List.map_append]
        rfl
      · rcases List.mem_append.mp hv with h | h
        · exact over (up s4 (r1 v h)) e4 fun b o hb e => by rw [upd_ne hb]; exact e
        · rw [List.mem_singleton.mp h]
          exact over f4 e4 fun b o hb e => by rw [upd_ne hb]; exact e
      · rw [List.map_append, m1, tk, hc]
        rfl
      · rw [List.length_append]
        exact Nat.succ_le_succ l1
    · refine ⟨s1.trans s4, ws, s4 _ _ e1, fun w hw => up s4 (r1 w hw), ?_, Nat.le_succ_of_le l1⟩
      rw [tk, m1, hc]
      exact (List.append_nil _).symm
  · rintro H ⟨s1, ws, e1, r1, m1, _⟩
    rw [List.take_length] at m1
    exact hd H ws s1 e1 r1 m1
end

section
/-- an elimination step under way: rows ahead of i and row j done -/
def midR (m c j : Nat) (s : Rat) (R : List (List Rat)) (i : Nat) : List (List Rat) := (List.range R.length).map fun q => if q < i ∨ q = j then gjr m c j s R q else R.getD q []
variable {m c j : Nat} {s : Rat} {R : List (List Rat)}
theorem midR_len {i : Nat} : (midR m c j s R i).length = R.length := by
  unfold midR
  rw [List.length_map, List.length_range]
theorem midR_get {i q : Nat} (hq : q < R.length) : (midR m c j s R i)[q]? = some (if q < i ∨ q = j then gjr m c j s R q else R.getD q []) := by
  unfold midR
  rw [List.getElem?_map, List.getElem?_range hq]
  rfl
theorem midR_ext {A : List (List Rat)} {i : Nat} (hl : A.length = R.length) (h : ∀ q < R.length, A[q]? = some (if q < i ∨ q = j then gjr m c j s R q else R.getD q [])) : A = midR m c j s R i := by
  refine List.ext_getElem? fun q => ?_
  rcases Nat.lt_or_ge q R.length with g | g
  · rw [h q g, midR_get g]
  · rw [List.getElem?_eq_none (by omega), List.getElem?_eq_none (by rw [midR_len]; exact g)]
theorem getD_get {q : Nat} (h : q < R.length) : R[q]? = some (R.getD q []) := by
  rw [List.getD_eq_getElem?_getD, List.getElem?_eq_getElem h]
  rfl
theorem midR_zero (hj : j < R.length) : R.set j (gjr m c j s R j) = midR m c j s R 0 := by
  refine midR_ext (List.length_set ..) fun q hq => ?_
  rw [List.getElem?_set]
  by_cases e : j = q
  · subst e
    rw [if_pos rfl, if_pos hj, if_pos (.inr rfl)]
  · rw [if_neg e, if_neg (fun z => z.elim (Nat.not_lt_zero q) fun z => e z.symm), getD_get hq]
theorem midR_end : midR m c j s R R.length = gjs m c j s R := by
  unfold midR gjs
  refine List.map_congr_left fun q hq => ?_
  rw [if_pos (.inl (List.mem_range.mp hq))]
theorem midR_set {i : Nat} (hi : i < R.length) : (midR m c j s R i).set i (gjr m c j s R i) = midR m c j s R (i + 1) := by
  refine midR_ext (by rw [List.length_set, midR_len]) fun q hq => ?_
  rw [List.getElem?_set, midR_len]
  by_cases e : i = q
  · subst e
    rw [if_pos rfl, if_pos hi, if_pos (.inl (Nat.lt_succ_self i))]
  · rw [if_neg e, midR_get hq]
    by_cases g : q < i ∨ q = j
    · rw [if_pos g, if_pos (g.imp (fun h => by omega) id)]
    · rw [if_neg g, if_neg (fun z => g (z.imp (fun h => by omega) id))]
theorem midR_skip {i : Nat} (h : gjr m c j s R i = R.getD i [] ∨ i = j) : midR m c j s R (i + 1) = midR m c j s R i := by
  unfold midR
  refine List.map_congr_left fun q _ => ?_
  by_cases e : q = i
  · subst e
    rcases h with h | h
    · rw [if_pos (.inl (Nat.lt_succ_self q)), h]
      split <;> rfl
    · rw [if_pos (.inr h), if_pos (.inr h)]
  · by_cases g : q < i ∨ q = j
    · rw [if_pos g, if_pos (g.imp (fun h => by omega) id)]
    · rw [if_neg g, if_neg (fun z => g (z.imp (fun h => by omega) id))]
theorem list_of_getD {r : List Rat} (h : r.length = m) : (List.range m).map (fun k => r.getD k 0) = r := by
  subst h
  refine List.ext_getElem (by simp) fun k h1 h2 => ?_
  rw [List.getElem_map, List.getElem_range, List.getD_eq_getElem?_getD, List.getElem?_eq_getElem h2]
  rfl
theorem gjr_none {i : Nat} (hij : i ≠ j) (h0 : (R.getD i []).getD c 0 = 0) (hl : (R.getD i []).length = m) : gjr m c j s R i = R.getD i [] := by
  unfold gjr
  rw [← list_of_getD hl]
  refine List.map_congr_left fun k _ => ?_
  rw [if_neg hij, list_of_getD hl, h0]
  grind
theorem gjr_self (hl : (R.getD j []).length = m) : gjr m c j s R j = (R.getD j []).map fun x => s * x := by
  unfold gjr
  rw [← list_of_getD hl, List.map_map, list_of_getD hl]
  refine List.map_congr_left fun k _ => ?_
  rw [if_pos rfl]
  rfl
theorem inv_nat (j : Nat) (L : List Nat) : inV (.int (j : Int)) (L.map fun k => V.int (k : Nat)) = decide (j ∈ L) := by
  unfold inV
  induction L with
  | nil => rfl
  | cons k L ih =>
    rw [List.map_cons, List.any_cons, ih]
    have e : eqV (V.int (k : Nat)) (.int (j : Int)) = decide (j = k) := by
      show (decide ((k : Int) = (j : Int))) = _
      by_cases h : j = k
      · rw [h]; simp
      · rw [decide_eq_false h, decide_eq_false (fun z => h (by omega))]
    rw [e]
    by_cases h1 : j = k
    · simp [h1]
    · by_cases h2 : j ∈ L
      · simp [h2]
      · simp [h1, h2]
theorem flat_nat (L : List Nat) : (L.map fun k => V.int (k : Nat)).all flatV = true := by
  induction L with
  | nil => rfl
  | cons k L ih =>
    rw [List.map_cons, List.all_cons, ih]
    rfl
theorem recip_div {x : Rat} (h : x ≠ 0) : Rat.divInt (x.den : Int) x.num = 1 / x := by
  have e : (x.num : Rat) / ((x.den : Int) : Rat) = x := by rw [← Rat.divInt_eq_div, Rat.num_divInt_den]
  have hd : ((x.den : Int) : Rat) ≠ 0 := fun z => den_ne x (Rat.intCast_inj.mp z)
  have hn : (x.num : Rat) ≠ 0 := fun z => h (by rw [← e, z]; grind)
  rw [Rat.divInt_eq_div]
  generalize (x.num : Rat) = a at *
  generalize ((x.den : Int) : Rat) = b at *
  subst e
  grind
/-- whether just one number of a row is not 0 -/
def onlyB (r : List Rat) : Bool := decide ((r.filter fun x => !decide (x = 0)).length = 1)
theorem filt_range {r : List Rat} : (r.filter fun x => !decide (x = 0)).length = ((List.range r.length).filter fun k => !decide (r.getD k 0 = 0)).length := by
  have e : r = (List.range r.length).map fun k => r.getD k 0 := (list_of_getD rfl).symm
  have h : (r.filter fun x => !decide (x = 0)) = ((List.range r.length).filter fun k => !decide (r.getD k 0 = 0)).map fun k => r.getD k 0 := by
    refine (congrArg (List.filter fun x => !decide (x = 0)) e).trans ?_
    rw [List.filter_map]
    rfl
  rw [h, List.length_map]
theorem only_iff {r : List Rat} {i : Nat} (hi : i < r.length) (h0 : r.getD i 0 ≠ 0) : onlyB r = true ↔ ∀ k < r.length, k ≠ i → r.getD k 0 = 0 := by
  have nd : ((List.range r.length).filter fun k => !decide (r.getD k 0 = 0)).Nodup := List.nodup_range.filter _
  have mem : ∀ k, k ∈ ((List.range r.length).filter fun k => !decide (r.getD k 0 = 0)) ↔ k < r.length ∧ r.getD k 0 ≠ 0 := fun k => by
    rw [List.mem_filter, List.mem_range]
    simp
  unfold onlyB
  rw [decide_eq_true_eq, filt_range]
  constructor
  · intro h k hk hne
    refine Classical.byContradiction fun hz => ?_
    have := nodup_le (A := [i, k]) (List.nodup_cons.mpr ⟨fun z => hne (List.mem_singleton.mp z).symm, List.nodup_cons.mpr ⟨List.not_mem_nil, List.nodup_nil⟩⟩) (B := (List.range r.length).filter fun k => !decide (r.getD k 0 = 0)) fun a ha => by
      rcases List.mem_cons.mp ha with e | e
      · rw [e]; exact (mem i).mpr ⟨hi, h0⟩
      · rw [List.mem_singleton.mp e]; exact (mem k).mpr ⟨hk, hz⟩
    rw [h] at this
    exact absurd this (by show ¬ 2 ≤ 1; omega)
  · intro h
    have a := nodup_le nd (B := [i]) fun a ha => by
      obtain ⟨a1, a2⟩ := (mem a).mp ha
      by_cases e : a = i
      · rw [e]; exact List.mem_singleton.mpr rfl
      · exact absurd (h a a1 e) a2
    have b := nodup_le (A := [i]) (List.nodup_cons.mpr ⟨List.not_mem_nil, List.nodup_nil⟩) (B := (List.range r.length).filter fun k => !decide (r.getD k 0 = 0)) fun a ha => by
      rw [List.mem_singleton.mp ha]; exact (mem i).mpr ⟨hi, h0⟩
    exact Nat.le_antisymm a b
theorem ones_len (r : List Rat) : ((r.map fun x => if x = 0 then none else some (V.int 1)).filterMap id).length = (r.filter fun x => !decide (x = 0)).length := by
  induction r with
  | nil => rfl
  | cons x r ih =>
    by_cases h : x = 0
    · rw [List.map_cons, if_pos h, List.filter_cons_of_neg (by simp [h])]
      exact ih
    · rw [List.map_cons, if_neg h, List.filter_cons_of_pos (by simp [h]), List.length_cons, ← ih]
      rfl
theorem fm_pairs {c : Nat × Nat → Bool} : ∀ P : List (Nat × Nat), (P.map fun p => if c p = true then some (V.int (p.1 : Nat)) else none).filterMap id = ((P.filter c).map (·.1)).map fun k => V.int (k : Nat)
  | [] => rfl
  | p :: P => by
    have ih := fm_pairs (c := c) P
    rw [List.map_cons]
    cases h : c p with
    | true => rw [if_pos rfl, List.filter_cons_of_pos h, List.map_cons, List.map_cons, ← ih]; rfl
    | false => rw [if_neg Bool.false_ne_true, List.filter_cons_of_neg (by rw [h]; decide), ← ih]; rfl
end

section
/-- a list on the heap whose items are things of a kind -/
def OL {α : Type} (Rel : Hp → Addr → α → Prop) (D : Addr) (H : Hp) (xs : List α) : Prop := ∃ ws : List (Addr × α), H D = some (.lst (Ro ws)) ∧ (∀ w ∈ ws, Rel H w.1 w.2) ∧ ws.map (·.2) = xs
/-- a kind that stands while the list at E changes -/
def StabAt {α : Type} (Rel : Hp → Addr → α → Prop) (E : Addr) : Prop := ∀ (H H' : Hp) (t : Addr) (x : α) (ys : List V), H E = some (.lst ys) → (∀ b o, b ≠ E → H b = some o → H' b = some o) → Rel H t x → Rel H' t x
variable {α : Type} {Rel : Hp → Addr → α → Prop} {D E : Addr} {H H' : Hp} {xs : List α}
theorem OL.up (up : ∀ t x, Rel H t x → Rel H' t x) (s : Same H H') (h : OL Rel D H xs) : OL Rel D H' xs := by
  obtain ⟨ws, h1, h2, h3⟩ := h
  exact ⟨ws, s _ _ h1, fun w hw => up _ _ (h2 w hw), h3⟩
theorem OL.other (st : StabAt Rel E) (hne : D ≠ E) {ys zs : List V} (hE : H E = some (.lst ys)) (h : OL Rel D H xs) : OL Rel D (upd H E (.lst zs)) xs := by
  obtain ⟨ws, h1, h2, h3⟩ := h
  exact ⟨ws, by rw [upd_ne hne]; exact h1, fun w hw => st _ _ _ _ _ hE (fun b o hb e => by rw [upd_ne hb]; exact e) (h2 w hw), h3⟩
theorem OL.push (st : StabAt Rel D) {t : Addr} {x : α} (h : OL Rel D H xs) (ht : Rel H t x) : ∃ ws : List (Addr × α), H D = some (.lst (Ro ws)) ∧ ws.length = xs.length ∧ OL Rel D (upd H D (.lst (Ro ws ++ [.ref t]))) (xs ++ [x]) := by
  obtain ⟨ws, h1, h2, h3⟩ := h
  have up : ∀ w : Addr × α, Rel H w.1 w.2 → Rel (upd H D (.lst (Ro ws ++ [.ref t]))) w.1 w.2 := fun w hw => st _ _ _ _ _ h1 (fun b o hb e => by rw [upd_ne hb]; exact e) hw
  refine ⟨ws, h1, by rw [← h3, List.length_map], ws ++ [(t, x)], ?_, fun w hw => ?_, by rw [List.map_append, h3]; rfl⟩
  · rw [upd_same]
    unfold Ro
    rw [List.map_append]
    rfl
  · rcases List.mem_append.mp hw with g | g
    · exact up w (h2 w g)
    · rw [List.mem_singleton.mp g]
      exact up (t, x) ht
theorem OL.nil (h : H D = some (.lst [])) : OL Rel D H [] := ⟨[], h, (fun _ h => nomatch h), rfl⟩
/-- rows that are none of some lists -/
def RowB (K : PySem.W.Frag) (Bad : List Addr) (H : Hp) (t : Addr) (r : List Rat) : Prop := t ∉ Bad ∧ RowAt K H t r
theorem rowB_stab {K : PySem.W.Frag} {Bad : List Addr} {E : Addr} (h : E ∈ Bad) : StabAt (RowB K Bad) E := fun H H' t x ys hE s hr => ⟨hr.1, hr.2.over (fun e => hr.1 (by rw [e]; exact h)) hE s⟩
theorem rowB_up {K : PySem.W.Frag} {Bad : List Addr} {H H' : Hp} (s : Same H H') (t : Addr) (r : List Rat) (h : RowB K Bad H t r) : RowB K Bad H' t r := ⟨h.1, h.2.up s⟩
end

theorem pss_no {X : Cx} {b : List Stmt} : PSs X b (fun _ _ _ => False) := ⟨fun _ _ _ _ _ _ h => h.elim⟩

/-- an area: a side of a line, or what is made of areas -/
inductive Ar where
  | leaf (r : Bool) (n : Str)
  | no (a : Ar)
  | two (e : Bool) (a b : Ar)
def Ar.deep : Ar → Nat
  | .leaf _ _ => 1
  | .no a => a.deep + 1
  | .two _ a b => max a.deep b.deep + 1
def twS (e : Bool) : Str := if e = true then "either" else "both"
def lrS (r : Bool) : Str := if r = true then "right" else "left"
def ArAt (K : PySem.W.Frag) (H : Hp) : Addr → Ar → Prop
  | t, .leaf r n => SqT K H t [.str (lrS r), .str n]
  | t, .no a => ∃ u, SqT K H t [.str "not", .ref u] ∧ ArAt K H u a
  | t, .two e a b => ∃ u v, SqT K H t [.str (twS e), .ref u, .ref v] ∧ ArAt K H u a ∧ ArAt K H v b
theorem ArAt.up {K : PySem.W.Frag} {H H' : Hp} (s : Same H H') : ∀ {t : Addr} {a : Ar}, ArAt K H t a → ArAt K H' t a
  | t, .leaf r n, h => same_tup s h
  | t, .no a, ⟨u, h1, h2⟩ => ⟨u, same_tup s h1, ArAt.up s h2⟩
  | t, .two e a b, ⟨u, v, h1, h2, h3⟩ => ⟨u, v, same_tup s h1, ArAt.up s h2, ArAt.up s h3⟩
theorem ArAt.over {K : PySem.W.Frag} {H H' : Hp} {D : Addr} {ys : List V} (hl : H D = some (.lst ys)) (s : ∀ b o, b ≠ D → H b = some o → H' b = some o) : ∀ {t : Addr} {a : Ar}, ArAt K H t a → ArAt K H' t a
  | t, .leaf r n, h => over_tup h hl s
  | t, .no a, ⟨u, h1, h2⟩ => ⟨u, over_tup h1 hl s, ArAt.over hl s h2⟩
  | t, .two e a b, ⟨u, v, h1, h2, h3⟩ => ⟨u, v, over_tup h1 hl s, ArAt.over hl s h2, ArAt.over hl s h3⟩
/-- the first word of an area -/
def Ar.kind : Ar → Str
  | .leaf r _ => lrS r
  | .no _ => "not"
  | .two e _ _ => twS e
theorem ArAt.tup {K : PySem.W.Frag} {H : Hp} : ∀ {t : Addr} {a : Ar}, ArAt K H t a → ∃ xs : List V, SqT K H t (V.str a.kind :: xs)
  | t, .leaf r n, h => ⟨_, h⟩
  | t, .no a, ⟨u, h1, _⟩ => ⟨_, h1⟩
  | t, .two e a b, ⟨u, v, h1, _, _⟩ => ⟨_, h1⟩
/-- the parts that hang together by the same sign, the last first -/
def jpR (e : Bool) : Ar → List Ar
  | .two e' a b => if e' = e then b :: jpR e a else [.two e' a b]
  | a => [a]
def jpN (e : Bool) : Ar → Nat
  | .two e' a _ => if e' = e then jpN e a + 1 else 0
  | _ => 0
/-- a test: a side by its number, or what is made of tests -/
inductive Ts where
  | side (i : Int)
  | no (a : Ts)
  | two (e : Bool) (a b : Ts)
def Ts.deep : Ts → Nat
  | .side _ => 1
  | .no a => a.deep + 1
  | .two _ a b => max a.deep b.deep + 1
def TsAt (K : PySem.W.Frag) (H : Hp) : Addr → Ts → Prop
  | t, .side i => SqT K H t [.str "side", .int i]
  | t, .no a => ∃ u, SqT K H t [.str "not", .ref u] ∧ TsAt K H u a
  | t, .two e a b => ∃ u v, SqT K H t [.str (twS e), .ref u, .ref v] ∧ TsAt K H u a ∧ TsAt K H v b
theorem TsAt.up {K : PySem.W.Frag} {H H' : Hp} (s : Same H H') : ∀ {t : Addr} {a : Ts}, TsAt K H t a → TsAt K H' t a
  | t, .side i, h => same_tup s h
  | t, .no a, ⟨u, h1, h2⟩ => ⟨u, same_tup s h1, TsAt.up s h2⟩
  | t, .two e a b, ⟨u, v, h1, h2, h3⟩ => ⟨u, v, same_tup s h1, TsAt.up s h2, TsAt.up s h3⟩
/-- the test of an area, by the numbers of the lines -/
def tsOf (pl : Str → Int) : Ar → Ts
  | .leaf r n => if r = true then .no (.side (pl n)) else .side (pl n)
  | .no a => .no (tsOf pl a)
  | .two e a b => .two e (tsOf pl a) (tsOf pl b)
/-- whether it holds, by what is told of the sides -/
def Ts.holds (f : Int → Bool) : Ts → Bool
  | .side i => f i
  | .no a => !(a.holds f)
  | .two e a b => if e = true then (a.holds f || b.holds f) else (a.holds f && b.holds f)
def Ar.holds (f : Str → Bool) : Ar → Bool
  | .leaf r n => if r = true then !(f n) else f n
  | .no a => !(a.holds f)
  | .two e a b => if e = true then (a.holds f || b.holds f) else (a.holds f && b.holds f)
def Ar.all (P : Str → Prop) : Ar → Prop
  | .leaf _ n => P n
  | .no a => a.all P
  | .two _ a b => a.all P ∧ b.all P
def Ts.all (P : Int → Prop) : Ts → Prop
  | .side i => P i
  | .no a => a.all P
  | .two _ a b => a.all P ∧ b.all P
theorem tsOf_all {pl : Str → Int} {P : Int → Prop} {R : Str → Prop} (h : ∀ n, R n → P (pl n)) : ∀ a : Ar, a.all R → (tsOf pl a).all P
  | .leaf true n, ha => h n ha
  | .leaf false n, ha => h n ha
  | .no a, ha => tsOf_all h a ha
  | .two _ a b, ha => ⟨tsOf_all h a ha.1, tsOf_all h b ha.2⟩
theorem holds_tsOf {pl : Str → Int} {f : Int → Bool} {g : Str → Bool} {R : Str → Prop} (h : ∀ n, R n → f (pl n) = g n) : ∀ a : Ar, a.all R → (tsOf pl a).holds f = a.holds g
  | .leaf true n, ha => congrArg _ (h n ha)
  | .leaf false n, ha => h n ha
  | .no a, ha => congrArg (fun b => !b) (holds_tsOf h a ha)
  | .two true a b, ha => by
    show ((tsOf pl a).holds f || (tsOf pl b).holds f) = (a.holds g || b.holds g)
    rw [holds_tsOf h a ha.1, holds_tsOf h b ha.2]
  | .two false a b, ha => by
    show ((tsOf pl a).holds f && (tsOf pl b).holds f) = (a.holds g && b.holds g)
    rw [holds_tsOf h a ha.1, holds_tsOf h b ha.2]
theorem tsOf_deep {pl : Str → Int} : ∀ a : Ar, (tsOf pl a).deep ≤ a.deep + 1
  | .leaf true n => Nat.le_refl 2
  | .leaf false n => Nat.le_succ 1
  | .no a => Nat.succ_le_succ (tsOf_deep a)
  | .two _ a b => by
    show max _ _ + 1 ≤ max _ _ + 1 + 1
    have := tsOf_deep (pl := pl) a
    have := tsOf_deep (pl := pl) b
    omega
/-- tests of the parts, taken together again from the first on -/
def tsFold (e : Bool) (pl : Str → Int) : List Ar → Option Ts
  | [] => none
  | a :: l => some (match tsFold e pl l with
    | none => tsOf pl a
    | some t => .two e t (tsOf pl a))
theorem tsFold_jp (e : Bool) (pl : Str → Int) : ∀ a : Ar, tsFold e pl (jpR e a) = some (tsOf pl a)
  | .leaf _ _ => rfl
  | .no _ => rfl
  | .two e' a b => by
    by_cases h : e' = e
    · subst h
      have ih := tsFold_jp e' pl a
      unfold jpR
      rw [if_pos rfl]
      unfold tsFold
      rw [ih]
      rfl
    · unfold jpR
      rw [if_neg h]
      rfl
theorem jpR_deep {e : Bool} : ∀ {a b : Ar}, b ∈ jpR e a → b.deep ≤ a.deep
  | .leaf _ _, b, h => by rw [List.mem_singleton.mp h]; exact Nat.le_refl _
  | .no _, b, h => by rw [List.mem_singleton.mp h]; exact Nat.le_refl _
  | .two e' a c, b, h => by
    unfold jpR at h
    split at h
    · rcases List.mem_cons.mp h with h | h
      · rw [h]; show c.deep ≤ max _ _ + 1; omega
      · have := jpR_deep h
        show _ ≤ max _ _ + 1; omega
    · rw [List.mem_singleton.mp h]; exact Nat.le_refl _
theorem jpR_deep2 {e : Bool} {a c b : Ar} (h : b ∈ jpR e (.two e a c)) : b.deep < (Ar.two e a c).deep := by
  unfold jpR at h
  rw [if_pos rfl] at h
  show _ < max _ _ + 1
  rcases List.mem_cons.mp h with h | h
  · rw [h]; omega
  · have := jpR_deep h
    omega
theorem jpR_all {e : Bool} {P : Str → Prop} : ∀ {a b : Ar}, a.all P → b ∈ jpR e a → b.all P
  | .leaf _ _, b, ha, h => by rw [List.mem_singleton.mp h]; exact ha
  | .no _, b, ha, h => by rw [List.mem_singleton.mp h]; exact ha
  | .two e' a c, b, ha, h => by
    unfold jpR at h
    split at h
    · rcases List.mem_cons.mp h with h | h
      · rw [h]; exact ha.2
      · exact jpR_all ha.1 h
    · rw [List.mem_singleton.mp h]; exact ha
theorem jpR_len {e : Bool} : ∀ {a : Ar}, (jpR e a).length = jpN e a + 1
  | .leaf _ _ => rfl
  | .no _ => rfl
  | .two e' a c => by
    unfold jpR jpN
    split
    · rw [List.length_cons, jpR_len]
    · rfl
theorem jpN_deep {e : Bool} : ∀ {a : Ar}, jpN e a < a.deep
  | .leaf _ _ => Nat.zero_lt_succ _
  | .no _ => Nat.zero_lt_succ _
  | .two e' a c => by
    unfold jpN
    have := jpN_deep (e := e) (a := a)
    show _ < max _ _ + 1
    split <;> omega
/-- what stands in one list of the parts: addresses and areas -/
def ArsAt (K : PySem.W.Frag) (H : Hp) (u : Addr) (as : List Ar) : Prop := ∃ ws : List (Addr × Ar), H u = some (.lst (Ro ws)) ∧ (∀ w ∈ ws, ArAt K H w.1 w.2) ∧ ws.map (·.2) = as
theorem ArsAt.up {K : PySem.W.Frag} {H H' : Hp} {u : Addr} {as : List Ar} (s : Same H H') (h : ArsAt K H u as) : ArsAt K H' u as := by
  obtain ⟨ws, h1, h2, h3⟩ := h
  exact ⟨ws, s _ _ h1, fun w hw => (h2 w hw).up s, h3⟩
theorem kd_leaf : ∀ r e : Bool, decide (V.str (lrS r) = V.str (twS e)) = false := by
  intro r e
  cases r <;> cases e <;> decide
theorem kd_no : ∀ e : Bool, decide (V.str "not" = V.str (twS e)) = false := by
  intro e
  cases e <;> decide
theorem kd_two : ∀ e' e : Bool, decide (V.str (twS e') = V.str (twS e)) = decide (e' = e) := by
  intro e' e
  cases e' <;> cases e <;> decide
/-- a step of the walk down the parts -/
theorem kd_cases {K : PySem.W.Frag} {H : Hp} {t : Addr} {e : Bool} : ∀ {a : Ar}, ArAt K H t a →
    (∃ (k : Str) (xs : List V), SqT K H t (V.str k :: xs) ∧ decide (V.str k = V.str (twS e)) = false ∧ jpR e a = [a]) ∨
    ∃ u v b c, a = .two e b c ∧ SqT K H t [.str (twS e), .ref u, .ref v] ∧ ArAt K H u b ∧ ArAt K H v c
  | .leaf r n, h => .inl ⟨_, _, h, kd_leaf r e, rfl⟩
  | .no a, ⟨u, h1, _⟩ => .inl ⟨_, _, h1, kd_no e, rfl⟩
  | .two e' a b, ⟨u, v, h1, h2, h3⟩ => by
    by_cases he : e' = e
    · subst he
      exact .inr ⟨u, v, a, b, rfl, h1, h2, h3⟩
    · exact .inl ⟨_, _, h1, by rw [kd_two, decide_eq_false he], by unfold jpR; rw [if_neg he]⟩
theorem tw_left : ∀ e : Bool, decide (V.str (twS e) = V.str "left") = false := by
  intro e
  cases e <;> decide
theorem tw_right : ∀ e : Bool, decide (V.str (twS e) = V.str "right") = false := by
  intro e
  cases e <;> decide
theorem tw_not : ∀ e : Bool, decide (V.str (twS e) = V.str "not") = false := by
  intro e
  cases e <;> decide
theorem tw_both : ∀ e : Bool, decide (V.str (twS e) = V.str "both") = !e := by
  intro e
  cases e <;> decide
theorem tw_either : ∀ e : Bool, decide (V.str (twS e) = V.str "either") = e := by
  intro e
  cases e <;> decide
theorem lr_left : ∀ e : Bool, decide (V.str (lrS e) = V.str "left") = !e := by
  intro e
  cases e <;> decide
def tsV (H : Hp) (K : PySem.W.Frag) : Option Ts → V → Prop
  | none, v => v = .non
  | some t, v => ∃ u, v = .ref u ∧ TsAt K H u t
theorem tsFold_snoc {e : Bool} {pl : Str → Int} {as : List Ar} {i : Nat} {a : Ar} (h : as[i]? = some a) : tsFold e pl (as.take (i + 1)).reverse = some (match tsFold e pl (as.take i).reverse with
    | none => tsOf pl a
    | some t => .two e t (tsOf pl a)) := by
  have hi := (List.getElem?_eq_some_iff.mp h).1
  have e1 : as.take (i + 1) = as.take i ++ [a] := by
    rw [List.take_succ, h]
    rfl
  rw [e1, List.reverse_append]
  rfl
local macro_rules | `(tactic| walk_at "st") => `(tactic| simp only [L2.start, List.length_cons, List.length_nil, List.map_cons, List.map_nil, Nat.add_sub_cancel, Nat.reduceAdd, Nat.reduceSub, List.replicate, List.cons_append, List.nil_append, List.set_cons_succ, List.set_cons_zero])
section
open PySem.Spec PyProof.Rows
def rInTD (K : PySem.W.Frag) : R2 := fun a b H Q => ∃ d ds, Dp K H a d ∧ Dp K H b (.tuple ds) ∧ SeqAt.shaped d = true ∧ SeqAt.shaped (.tuple ds) = true ∧ Q (.bl (ds.any fun z => PyData.eqv z d)) H
theorem op_inTD {X : Cx} (hu : X.A.units + 65 < cLine) : OpR X (compareOp .In) (rInTD X.K) := fun pn t τ G a b va vb q I ra rb h => by
  obtain ⟨d, ds, h1, h2, s1, s2, k⟩ := h
  obtain ⟨as1, e1⟩ := Dp.reads I d a va h1 ra
  obtain ⟨as2, e2⟩ := Dp.reads I (.tuple ds) b vb h2 rb
  exact SeqAt.in_tuple_reads e2 e1 (SeqAt.canLay_of_shaped s2) (SeqAt.canLay_of_shaped s1) (room_in_shaped s1 hu) ⟨.bl _, G, I, rfl, k⟩
theorem u65_of {A : Around} {k : Nat} (r : Room k A) : A.units + 65 < cLine := by
  have := r.un
  omega
end


section
variable {P : Program} {w : World} {K : PySem.W.Frag} {mg : Str → Option Value} {base : Heap}
def spCommon (K : PySem.W.Frag) : Sp := fun vs H Q _ => ∃ a b : Int, vs = [.int a, .int b] ∧ Q (.int ((Nat.gcd a.natAbs b.natAbs : Nat) : Int)) H
theorem okCommon {fCommon : Addr} {fdCommon : FuncData} (F : Fun K "common" "common" sCommon fCommon fdCommon) (T : Txt mg) {aZERO : Addr} {aONE : Addr} (CT : Cons K mg aZERO aONE) {CPartError CNought : Addr} (EX : Exns K mg CPartError CNought) :
    FnOk P w K mg base CX0 1 fCommon fdCommon ["a", "b"] (spCommon K) := by
  refine F.ok scCommon (fun vs H Q E h => ?_) (fun cdv A outer s H vs Q E hr h => ?_)
  · obtain ⟨a, b, rfl, q⟩ := h
    rfl
  · obtain ⟨a, b, rfl, q⟩ := h
    refine ⟨_, (pss_one (ps_ret (pe_callBfun cr_gcd (by rfl) T.gcd (pa_cons (pv 0) (pa_cons (pv 1) pa_nil))))), ?_⟩
    exact ⟨_, rfl, _, rfl, a, b, rfl, q⟩
def spFraction (K : PySem.W.Frag) (CNought : Addr) : Sp := fun vs H Q E => ∃ n d : Int, vs = [.int n, .int d] ∧ Bz 8500 d ∧ (d = 0 → E (.ref CNought) none H) ∧ (d ≠ 0 → ∀ (H' : Hp) (t : Addr), Same H H' → Fx K H' t (Rat.divInt n d) → Q (.ref t) H')
theorem okFraction {fFraction : Addr} {fdFraction : FuncData} (F : FunD K "fraction" "fraction" (defArgs sFraction) (defBody sFraction) (defScope sFraction) [.int 1] [] fFraction fdFraction) (T : Txt mg) {aZERO : Addr} {aONE : Addr} (CT : Cons K mg aZERO aONE) {CPartError CNought : Addr} (EX : Exns K mg CPartError CNought) :
    FnOk P w K mg base (L2.CX P w) 1 fFraction fdFraction ["number", "divisor"] (spFraction K CNought) := by
  refine F.ok scFraction (fun vs H Q E h => ?_) (fun cdv A outer s H vs Q E hr h => ?_)
  · obtain ⟨n, d, rfl, hb, he, q⟩ := h
    rfl
  · obtain ⟨n, d, rfl, hb, he, q⟩ := h
    refine ⟨_, (pss_cons (ps_if (pt_cmpR op_eq (pv 1) pe_int (nomark _))
        (pss_one (ps_ret (pe_tup (pa_cons (pv 0) (pa_cons pe_int pa_nil)))))
        pss_nil)
      (pss_cons (ps_if (pt_cmpR op_eq (pv 1) pe_int (nomark _))
        (pss_one (ps_raise rfl (takes_of rfl rfl rfl rfl) (pmk_own PySem.F.excBase_ValueError EX.xNought EX.gNought EX.kNought (raises_own EX.bNought EX.tNought) rfl)))
        pss_nil)
      (pss_cons (ps_set (i := 2) scFraction.nd rfl (Or.inl rfl) (pe_callBfun cr_gcd (by rfl) T.gcd (pa_cons (pv 0) (pa_cons (pv 1) pa_nil))))
      (C8.pss_cut (ps_if (pt_cmpR op_lt (pv 1) pe_int (nomark _))
        (pss_one (ps_set (i := 2) scFraction.nd rfl (Or.inl rfl) (pe_un un_neg (pv 2))))
        pss_nil)
      (pss_one (ps_ret (pe_tup (pa_cons (pe_op op_fdivX (pv 0) (pv 2)) (pa_cons (pe_op op_fdivX (pv 1) (pv 2)) pa_nil))))))))), ?_⟩
    walk_at "rd"
    refine ite2 (fun g1 => ?_) (fun g1 => ?_)
    · obtain rfl : d = 1 := eq_of_dec g1
      refine ⟨_, rfl, by show 2 ≤ sizeLine; decide, fun t ht => ?_⟩
      exact q (by decide) _ t (same_upd ht) (fx_rd (by decide) (by unfold rd2; rw [rd_one]; exact upd_same))
    walk_at "rd"
    refine ite2 (fun g => ?_) (fun g => ?_)
    · exact he (eq_of_dec g)
    · have hd := ne_of_nodec g
      refine ⟨_, rfl, _, rfl, n, d, rfl, ?_⟩
      refine ⟨fun σ' H' => σ' = [some (.int n), some (.int d), some (.int (sg n d))] ∧ H' = H, ?_, ?_⟩
      · walk_at "rd"
        refine ite2 (fun g2 => ?_) (fun g2 => ?_)
        · refine ⟨_, rfl, _, rfl, ?_, rfl⟩
          unfold sg
          rw [if_pos (of_decide_eq_true g2)]
          rfl
        · refine ⟨?_, rfl⟩
          unfold sg
          rw [if_neg (fun z => g2 (decide_eq_true z))]
          rfl
      · rintro σ' H' ⟨rfl, rfl⟩
        have hs := sg_ne (n := n) hd
        have hsb : (sg n d).natAbs < 2 ^ 8500 := by
          rw [sg_abs]
          exact Nat.lt_of_le_of_lt (Nat.le_of_dvd (by omega) (Nat.gcd_dvd_right _ _)) hb
        refine ⟨_, rfl, _, rfl, _, _, rfl, rfl, wide_divx hs hsb (by decide) (by decide), _, rfl, _, rfl, _, _, rfl, rfl, wide_divx hs hsb (by decide) (by decide), by show 2 ≤ sizeLine; decide, fun t ht => ?_⟩
        exact q hd _ t (same_upd ht) (fx_rd hd upd_same)
def spR2 (K : PySem.W.Frag) (op : Rat → Rat → Rat) : Sp := fun vs H Q _ => ∃ (a b : Addr) (r s : Rat), vs = [.ref a, .ref b] ∧ Fx K H a r ∧ Fx K H b s ∧ Bd 800 r ∧ Bd 800 s ∧
  ∀ (H' : Hp) (t : Addr), Same H H' → Fx K H' t (op r s) → Q (.ref t) H'
def spPlus (K : PySem.W.Frag) : Sp := spR2 K (fun r s => r + s)
theorem okPlus {fPlus : Addr} {fdPlus : FuncData} (F : Fun K "plus" "plus" sPlus fPlus fdPlus) (T : Txt mg) {aZERO : Addr} {aONE : Addr} (CT : Cons K mg aZERO aONE) {CPartError CNought : Addr} (EX : Exns K mg CPartError CNought)
    {fFraction : Addr} {fdFraction : FuncData} (GFraction : FnOk P w K mg base (L2.CX P w) 1 fFraction fdFraction ["number", "divisor"] (spFraction K CNought)) (gFraction : mg "fraction" = some (.ref fFraction)) (kpFraction : PySem.W.keepIn K (.ref fFraction) = true) (bFraction : Binds K fdFraction ["number", "divisor"] []) {dsFraction : List Value} (vdFraction : Vals [.int 1] dsFraction) (bdFraction : Binds K fdFraction ["number", "divisor"] dsFraction) :
    FnOk P w K mg base CX0 2 fPlus fdPlus ["a", "b"] (spPlus K) := by
  refine F.ok scPlus (fun vs H Q E h => ?_) (fun cdv A outer s H vs Q E hr h => ?_)
  · obtain ⟨a, b, r, s, rfl, hA, hB, hr1, hs1, k⟩ := h
    rfl
  · obtain ⟨a, b, r, s, rfl, hA, hB, hr1, hs1, k⟩ := h
    refine ⟨_, (pss_one (ps_ret (pe_call GFraction hr (by rfl) gFraction kpFraction bFraction .nil passL (pa_cons (pe_op op_add (pe_op op_mulW (pe_ix ix_tup (pv 0) pe_int (fun _ _ => rfl)) (pe_ix ix_tup (pv 1) pe_int (fun _ _ => rfl))) (pe_op op_mulW (pe_ix ix_tup (pv 1) pe_int (fun _ _ => rfl)) (pe_ix ix_tup (pv 0) pe_int (fun _ _ => rfl)))) (pa_cons (pe_op op_mulW (pe_ix ix_tup (pv 0) pe_int (fun _ _ => rfl)) (pe_ix ix_tup (pv 1) pe_int (fun _ _ => rfl))) pa_nil))))), ?_⟩
    walk_at "go"
    exact ⟨Bz.up (by walk_at "bz") (by decide), fun h => absurd h (dd_ne r s), fun _ H' t s1 e1 => k H' t s1 (by show Fx K H' t (r + s); rw [add_div]; exact e1)⟩
def spW2 (K : PySem.W.Frag) (op : Rat → Rat → Rat) : Sp := fun vs H Q _ => ∃ (a b : Addr) (r s : Rat), vs = [.ref a, .ref b] ∧ Fx K H a r ∧ Fx K H b s ∧ Bd 4000 r ∧ Bd 4000 s ∧
  ∀ (H' : Hp) (t : Addr), Same H H' → Fx K H' t (op r s) → Q (.ref t) H'
def spMinus (K : PySem.W.Frag) : Sp := spW2 K (fun r s => r - s)
theorem okMinus {fMinus : Addr} {fdMinus : FuncData} (F : Fun K "minus" "minus" sMinus fMinus fdMinus) (T : Txt mg) {aZERO : Addr} {aONE : Addr} (CT : Cons K mg aZERO aONE) {CPartError CNought : Addr} (EX : Exns K mg CPartError CNought)
    {fFraction : Addr} {fdFraction : FuncData} (GFraction : FnOk P w K mg base (L2.CX P w) 1 fFraction fdFraction ["number", "divisor"] (spFraction K CNought)) (gFraction : mg "fraction" = some (.ref fFraction)) (kpFraction : PySem.W.keepIn K (.ref fFraction) = true) (bFraction : Binds K fdFraction ["number", "divisor"] []) {dsFraction : List Value} (vdFraction : Vals [.int 1] dsFraction) (bdFraction : Binds K fdFraction ["number", "divisor"] dsFraction) :
    FnOk P w K mg base CX0 2 fMinus fdMinus ["a", "b"] (spMinus K) := by
  refine F.ok scMinus (fun vs H Q E h => ?_) (fun cdv A outer s H vs Q E hr h => ?_)
  · obtain ⟨a, b, r, s, rfl, hA, hB, hr1, hs1, k⟩ := h
    rfl
  · obtain ⟨a, b, r, s, rfl, hA, hB, hr1, hs1, k⟩ := h
    refine ⟨_, (pss_one (ps_ret (pe_call GFraction hr (by rfl) gFraction kpFraction bFraction .nil passL (pa_cons (pe_op op_sub (pe_op op_mulW (pe_ix ix_tup (pv 0) pe_int (fun _ _ => rfl)) (pe_ix ix_tup (pv 1) pe_int (fun _ _ => rfl))) (pe_op op_mulW (pe_ix ix_tup (pv 1) pe_int (fun _ _ => rfl)) (pe_ix ix_tup (pv 0) pe_int (fun _ _ => rfl)))) (pa_cons (pe_op op_mulW (pe_ix ix_tup (pv 0) pe_int (fun _ _ => rfl)) (pe_ix ix_tup (pv 1) pe_int (fun _ _ => rfl))) pa_nil))))), ?_⟩
    walk_at "go"
    exact ⟨Bz.up (by walk_at "bz") (by decide), fun h => absurd h (dd_ne r s), fun _ H' t s1 e1 => k H' t s1 (by show Fx K H' t (r - s); rw [sub_div]; exact e1)⟩
def spTimes (K : PySem.W.Frag) : Sp := spW2 K (fun r s => r * s)
theorem okTimes {fTimes : Addr} {fdTimes : FuncData} (F : Fun K "times" "times" sTimes fTimes fdTimes) (T : Txt mg) {aZERO : Addr} {aONE : Addr} (CT : Cons K mg aZERO aONE) {CPartError CNought : Addr} (EX : Exns K mg CPartError CNought)
    {fFraction : Addr} {fdFraction : FuncData} (GFraction : FnOk P w K mg base (L2.CX P w) 1 fFraction fdFraction ["number", "divisor"] (spFraction K CNought)) (gFraction : mg "fraction" = some (.ref fFraction)) (kpFraction : PySem.W.keepIn K (.ref fFraction) = true) (bFraction : Binds K fdFraction ["number", "divisor"] []) {dsFraction : List Value} (vdFraction : Vals [.int 1] dsFraction) (bdFraction : Binds K fdFraction ["number", "divisor"] dsFraction) :
    FnOk P w K mg base CX0 2 fTimes fdTimes ["a", "b"] (spTimes K) := by
  refine F.ok scTimes (fun vs H Q E h => ?_) (fun cdv A outer s H vs Q E hr h => ?_)
  · obtain ⟨a, b, r, s, rfl, hA, hB, hr1, hs1, k⟩ := h
    rfl
  · obtain ⟨a, b, r, s, rfl, hA, hB, hr1, hs1, k⟩ := h
    refine ⟨_, (pss_one (ps_ret (pe_call GFraction hr (by rfl) gFraction kpFraction bFraction .nil passL (pa_cons (pe_op op_mulW (pe_ix ix_tup (pv 0) pe_int (fun _ _ => rfl)) (pe_ix ix_tup (pv 1) pe_int (fun _ _ => rfl))) (pa_cons (pe_op op_mulW (pe_ix ix_tup (pv 0) pe_int (fun _ _ => rfl)) (pe_ix ix_tup (pv 1) pe_int (fun _ _ => rfl))) pa_nil))))), ?_⟩
    walk_at "go"
    exact ⟨Bz.up (by walk_at "bz") (by decide), fun h => absurd h (dd_ne r s), fun _ H' t s1 e1 => k H' t s1 (by show Fx K H' t (r * s); rw [mul_div]; exact e1)⟩
theorem ov_div {r s : Rat} : r / s = Rat.divInt (r.num * s.den) (r.den * s.num) := by
  have h1 : (r.num : Rat) / ((r.den : Int) : Rat) = r := by rw [← Rat.divInt_eq_div, Rat.num_divInt_den]
  have h2 : (s.num : Rat) / ((s.den : Int) : Rat) = s := by rw [← Rat.divInt_eq_div, Rat.num_divInt_den]
  have d1 : ((r.den : Int) : Rat) ≠ 0 := fun z => den_ne r (Rat.intCast_inj.mp z)
  have d2 : ((s.den : Int) : Rat) ≠ 0 := fun z => den_ne s (Rat.intCast_inj.mp z)
  rw [Rat.divInt_eq_div, Rat.intCast_mul, Rat.intCast_mul]
  generalize (r.num : Rat) = a at *
  generalize (s.num : Rat) = b at *
  generalize ((r.den : Int) : Rat) = c at *
  generalize ((s.den : Int) : Rat) = d at *
  subst h1 h2
  by_cases hb : b = 0
  · subst hb
    grind
  · grind
theorem od_ne {r s : Rat} (h : s ≠ 0) : (r.den : Int) * s.num ≠ 0 := Int.mul_ne_zero (den_ne r) (fun z => h (by rw [← Rat.num_divInt_den s, z]; simp))
def spOver (K : PySem.W.Frag) : Sp := fun vs H Q E => ∃ (a b : Addr) (r s : Rat), vs = [.ref a, .ref b] ∧ Fx K H a r ∧ Fx K H b s ∧ Bd 4000 r ∧ Bd 4000 s ∧ s ≠ 0 ∧
  ∀ (H' : Hp) (t : Addr), Same H H' → Fx K H' t (r / s) → Q (.ref t) H'
theorem okOver {fOver : Addr} {fdOver : FuncData} (F : Fun K "over" "over" sOver fOver fdOver) (T : Txt mg) {aZERO : Addr} {aONE : Addr} (CT : Cons K mg aZERO aONE) {CPartError CNought : Addr} (EX : Exns K mg CPartError CNought)
    {fFraction : Addr} {fdFraction : FuncData} (GFraction : FnOk P w K mg base (L2.CX P w) 1 fFraction fdFraction ["number", "divisor"] (spFraction K CNought)) (gFraction : mg "fraction" = some (.ref fFraction)) (kpFraction : PySem.W.keepIn K (.ref fFraction) = true) (bFraction : Binds K fdFraction ["number", "divisor"] []) {dsFraction : List Value} (vdFraction : Vals [.int 1] dsFraction) (bdFraction : Binds K fdFraction ["number", "divisor"] dsFraction) :
    FnOk P w K mg base CX0 2 fOver fdOver ["a", "b"] (spOver K) := by
  refine F.ok scOver (fun vs H Q E h => ?_) (fun cdv A outer s H vs Q E hr h => ?_)
  · obtain ⟨a, b, r, s, rfl, hA, hB, hr1, hs1, h0, k⟩ := h
    rfl
  · obtain ⟨a, b, r, s, rfl, hA, hB, hr1, hs1, h0, k⟩ := h
    refine ⟨_, (pss_one (ps_ret (pe_call GFraction hr (by rfl) gFraction kpFraction bFraction .nil passL (pa_cons (pe_op op_mulW (pe_ix ix_tup (pv 0) pe_int (fun _ _ => rfl)) (pe_ix ix_tup (pv 1) pe_int (fun _ _ => rfl))) (pa_cons (pe_op op_mulW (pe_ix ix_tup (pv 0) pe_int (fun _ _ => rfl)) (pe_ix ix_tup (pv 1) pe_int (fun _ _ => rfl))) pa_nil))))), ?_⟩
    walk_at "go"
    exact ⟨Bz.up (by walk_at "bz") (by decide), fun h => absurd h (od_ne h0), fun _ H' t s1 e1 => k H' t s1 (by rw [ov_div]; exact e1)⟩
def spNegative (K : PySem.W.Frag) : Sp := fun vs H Q _ => ∃ (a : Addr) (r : Rat), vs = [.ref a] ∧ Fx K H a r ∧ ∀ (H' : Hp) (t : Addr), Same H H' → Fx K H' t (-r) → Q (.ref t) H'
theorem okNegative {fNegative : Addr} {fdNegative : FuncData} (F : Fun K "negative" "negative" sNegative fNegative fdNegative) (T : Txt mg) {aZERO : Addr} {aONE : Addr} (CT : Cons K mg aZERO aONE) {CPartError CNought : Addr} (EX : Exns K mg CPartError CNought) :
    FnOk P w K mg base CX0 1 fNegative fdNegative ["a"] (spNegative K) := by
  refine F.ok scNegative (fun vs H Q E h => ?_) (fun cdv A outer s H vs Q E hr h => ?_)
  · obtain ⟨a, r, rfl, hA, k⟩ := h
    rfl
  · obtain ⟨a, r, rfl, hA, k⟩ := h
    refine ⟨_, (pss_one (ps_ret (pe_tup (pa_cons (pe_un un_neg (pe_ix ix_tup (pv 0) pe_int (fun _ _ => rfl))) (pa_cons (pe_ix ix_tup (pv 0) pe_int (fun _ _ => rfl)) pa_nil))))), ?_⟩
    refine ⟨.ref a, rfl, a, _, 0, _, rfl, rfl, hA, atI_nat (j := 0) rfl, _, rfl, .ref a, rfl, a, _, 1, _, rfl, rfl, hA, atI_nat (j := 1) rfl, by show 2 ≤ sizeLine; decide, fun t ht => k _ t (same_upd ht) ?_⟩
    unfold Fx
    rw [Rat.neg_num, Rat.neg_den]
    exact SqT.of upd_same
def spV2 (K : PySem.W.Frag) (op : Rat → Rat → Rat) : Sp := fun vs H Q _ => ∃ (a b : Addr) (x y : Rat) (xs ys : List Rat), vs = [.ref a, .ref b] ∧ Vx K H a x xs ∧ Vx K H b y ys ∧ xs.length = ys.length ∧ xs.length ≤ 20 ∧ Bd 60 x ∧ Bd 60 y ∧ (∀ r ∈ xs, Bd 60 r) ∧ (∀ r ∈ ys, Bd 60 r) ∧
  ∀ (H' : Hp) (t : Addr), Same H H' → Vx K H' t (op x y) (List.zipWith op xs ys) → Q (.ref t) H'
def spAdd (K : PySem.W.Frag) : Sp := spV2 K (fun r s => r + s)
theorem okAdd {fAdd : Addr} {fdAdd : FuncData} (F : Fun K "add" "add" sAdd fAdd fdAdd) (T : Txt mg) {aZERO : Addr} {aONE : Addr} (CT : Cons K mg aZERO aONE) {CPartError CNought : Addr} (EX : Exns K mg CPartError CNought)
    {fPlus : Addr} {fdPlus : FuncData} (GPlus : FnOk P w K mg base CX0 2 fPlus fdPlus ["a", "b"] (spPlus K)) (gPlus : mg "plus" = some (.ref fPlus)) (kpPlus : PySem.W.keepIn K (.ref fPlus) = true) (bPlus : Binds K fdPlus ["a", "b"] []) :
    FnOk P w K mg base CX0 3 fAdd fdAdd ["a", "b"] (spAdd K) := by
  refine F.ok scAdd (fun vs H Q E h => ?_) (fun cdv A outer s H vs Q E hr h => ?_)
  · obtain ⟨a, b, x, y, xs, ys, rfl, ⟨p, q, us, hA, hp, hq, hus, rfl⟩, ⟨p2, q2, vs, hB, hp2, hq2, hvs, rfl⟩, hlen, h20, bx, bY, bxs, bys, k⟩ := h
    rfl
  · obtain ⟨a, b, x, y, xs, ys, rfl, ⟨p, q, us, hA, hp, hq, hus, rfl⟩, ⟨p2, q2, vs, hB, hp2, hq2, hvs, rfl⟩, hlen, h20, bx, bY, bxs, bys, k⟩ := h
    refine ⟨_, (pss_one (ps_ret (pe_tup (pa_cons (pe_call GPlus hr (by rfl) gPlus kpPlus bPlus .nil pass0 (pa_cons (pe_ix ix_tup (pv 0) pe_int (fun _ _ => rfl)) (pa_cons (pe_ix ix_tup (pv 1) pe_int (fun _ _ => rfl)) pa_nil))) (pa_cons (pe_callTy call_tuple_of (by rfl) T.tuple (by decide +kernel) (pa_cons (pe_lc (own := [("x", 2), ("y", 3)]) (by rfl) scAdd.nd (pi_zipB (by rfl) T.zip (pa_cons (pe_ix ix_tup (pv 0) pe_int (fun _ _ => rfl)) (pa_cons (pe_ix ix_tup (pv 1) pe_int (fun _ _ => rfl)) pa_nil))) (blkOk_by (own := [("x", 2), ("y", 3)]) (N := ["a", "b", "x", "y"]) (sc := defScope sAdd) (by decide +kernel)) (fun _ _ _ _ _ => (show PG _ _ (gTup K 2 _) from (pg_tup rfl (pgs_cons (pg_name (i := 2) scAdd.nd rfl (Or.inl rfl)) (pgs_cons (pg_name (i := 3) scAdd.nd rfl (Or.inl rfl)) pgs_nil))))) (fun _ _ _ _ _ => pts_nil) (fun _ _ _ _ _ => (pe_call GPlus hr (by rfl) gPlus kpPlus bPlus .nil pass0 (pa_cons (pv 2) (pa_cons (pv 3) pa_nil))))) pa_nil)) pa_nil))))), ?_⟩
    refine ⟨.ref a, rfl, a, _, 0, _, rfl, rfl, hA, atI_nat (j := 0) rfl, .ref b, rfl, b, _, 0, _, rfl, rfl, hB, atI_nat (j := 0) rfl, p, p2, x, y, rfl, hp, hp2, bx.up (by decide), bY.up (by decide), fun H1 t1 s1 f1 => ?_⟩
    refine ⟨.ref a, rfl, a, _, 1, _, rfl, rfl, same_tup s1 hA, atI_nat (j := 1) rfl, .ref b, rfl, b, _, 1, _, rfl, rfl, same_tup s1 hB, atI_nat (j := 1) rfl, true, true, q, q2, fr us, fr vs, rfl, same_tup s1 hq, same_tup s1 hq2, fun D hD => ?_⟩
    rw [List.length_map, List.length_map] at hlen
    rw [List.length_map] at h20
    refine lc_row (K := K) (walk_zipB (f := true) (g := true) (xs := fr us) (ys := fr vs) rfl) (List.zipWith (· + ·) (us.map (·.2)) (vs.map (·.2))) (by simp [fr_len]) (by simp [fr_len]; omega) hD (fun H2 s2 => ⟨same_tup (s1.trans s2) hq, same_tup (s1.trans s2) hq2⟩) ?_ ?_
    · rintro i r v H2 H3 kk hr s2 ⟨T, u, u2, rfl, hT, rfl, g1, g2⟩ kk2
      obtain ⟨w, rfl, hw⟩ := fr_get g1
      obtain ⟨w2, rfl, hw2⟩ := fr_get g2
      rw [List.getElem?_zipWith, List.getElem?_map, List.getElem?_map, hw, hw2] at hr
      obtain rfl : w.2 + w2.2 = r := Option.some.inj hr
      have m1 : w ∈ us := List.mem_of_getElem? hw
      have m2 : w2 ∈ vs := List.mem_of_getElem? hw2
      have sT := same_upd (o := .tup [.ref w.1, .ref w2.1]) hT
      refine ⟨_, _, rfl, SqT.of upd_same, rfl, _, _, rfl, _, _, rfl, rfl, rfl, ?_⟩
      exact ⟨_, rfl, _, rfl, w.1, w2.1, w.2, w2.2, rfl, (hus w m1).same (s1.trans (s2.trans sT)), (hvs w2 m2).same (s1.trans (s2.trans sT)), (bxs _ (List.mem_map_of_mem m1)).up (by decide), (bys _ (List.mem_map_of_mem m2)).up (by decide), fun H4 t4 s4 f4 => kk2 t4 H4 (sT.trans s4) f4⟩
    · intro H2 ws s2 e2 r2 m2
      refine ⟨D, _, rfl, .inl ⟨SqL.of e2, fun t3 n3 => ?_⟩⟩
      have s3 := same_upd (o := .tup (fr ws)) n3
      refine ⟨by show 2 ≤ sizeLine; decide, fun t4 n4 => ?_⟩
      have s4 := same_upd (o := .tup [.ref t1, .ref t3]) n4
      exact k _ t4 (s1.trans (s2.trans (s3.trans s4))) ⟨t1, t3, ws, SqT.of upd_same, f1.same (s2.trans (s3.trans s4)), SqT.of (s4 _ _ upd_same), r2.same (s3.trans s4), m2⟩
def spSubtract (K : PySem.W.Frag) : Sp := spV2 K (fun r s => r - s)
theorem okSubtract {fSubtract : Addr} {fdSubtract : FuncData} (F : Fun K "subtract" "subtract" sSubtract fSubtract fdSubtract) (T : Txt mg) {aZERO : Addr} {aONE : Addr} (CT : Cons K mg aZERO aONE) {CPartError CNought : Addr} (EX : Exns K mg CPartError CNought)
    {fMinus : Addr} {fdMinus : FuncData} (GMinus : FnOk P w K mg base CX0 2 fMinus fdMinus ["a", "b"] (spMinus K)) (gMinus : mg "minus" = some (.ref fMinus)) (kpMinus : PySem.W.keepIn K (.ref fMinus) = true) (bMinus : Binds K fdMinus ["a", "b"] []) :
    FnOk P w K mg base CX0 3 fSubtract fdSubtract ["a", "b"] (spSubtract K) := by
  refine F.ok scSubtract (fun vs H Q E h => ?_) (fun cdv A outer s H vs Q E hr h => ?_)
  · obtain ⟨a, b, x, y, xs, ys, rfl, ⟨p, q, us, hA, hp, hq, hus, rfl⟩, ⟨p2, q2, vs, hB, hp2, hq2, hvs, rfl⟩, hlen, h20, bx, bY, bxs, bys, k⟩ := h
    rfl
  · obtain ⟨a, b, x, y, xs, ys, rfl, ⟨p, q, us, hA, hp, hq, hus, rfl⟩, ⟨p2, q2, vs, hB, hp2, hq2, hvs, rfl⟩, hlen, h20, bx, bY, bxs, bys, k⟩ := h
    refine ⟨_, (pss_one (ps_ret (pe_tup (pa_cons (pe_call GMinus hr (by rfl) gMinus kpMinus bMinus .nil pass0 (pa_cons (pe_ix ix_tup (pv 0) pe_int (fun _ _ => rfl)) (pa_cons (pe_ix ix_tup (pv 1) pe_int (fun _ _ => rfl)) pa_nil))) (pa_cons (pe_callTy call_tuple_of (by rfl) T.tuple (by decide +kernel) (pa_cons (pe_lc (own := [("x", 2), ("y", 3)]) (by rfl) scSubtract.nd (pi_zipB (by rfl) T.zip (pa_cons (pe_ix ix_tup (pv 0) pe_int (fun _ _ => rfl)) (pa_cons (pe_ix ix_tup (pv 1) pe_int (fun _ _ => rfl)) pa_nil))) (blkOk_by (own := [("x", 2), ("y", 3)]) (N := ["a", "b", "x", "y"]) (sc := defScope sSubtract) (by decide +kernel)) (fun _ _ _ _ _ => (show PG _ _ (gTup K 2 _) from (pg_tup rfl (pgs_cons (pg_name (i := 2) scSubtract.nd rfl (Or.inl rfl)) (pgs_cons (pg_name (i := 3) scSubtract.nd rfl (Or.inl rfl)) pgs_nil))))) (fun _ _ _ _ _ => pts_nil) (fun _ _ _ _ _ => (pe_call GMinus hr (by rfl) gMinus kpMinus bMinus .nil pass0 (pa_cons (pv 2) (pa_cons (pv 3) pa_nil))))) pa_nil)) pa_nil))))), ?_⟩
    refine ⟨.ref a, rfl, a, _, 0, _, rfl, rfl, hA, atI_nat (j := 0) rfl, .ref b, rfl, b, _, 0, _, rfl, rfl, hB, atI_nat (j := 0) rfl, p, p2, x, y, rfl, hp, hp2, bx.up (by decide), bY.up (by decide), fun H1 t1 s1 f1 => ?_⟩
    refine ⟨.ref a, rfl, a, _, 1, _, rfl, rfl, same_tup s1 hA, atI_nat (j := 1) rfl, .ref b, rfl, b, _, 1, _, rfl, rfl, same_tup s1 hB, atI_nat (j := 1) rfl, true, true, q, q2, fr us, fr vs, rfl, same_tup s1 hq, same_tup s1 hq2, fun D hD => ?_⟩
    rw [List.length_map, List.length_map] at hlen
    rw [List.length_map] at h20
    refine lc_row (K := K) (walk_zipB (f := true) (g := true) (xs := fr us) (ys := fr vs) rfl) (List.zipWith (fun r s => r - s) (us.map (·.2)) (vs.map (·.2))) (by simp [fr_len]) (by simp [fr_len]; omega) hD (fun H2 s2 => ⟨same_tup (s1.trans s2) hq, same_tup (s1.trans s2) hq2⟩) ?_ ?_
    · rintro i r v H2 H3 kk hr s2 ⟨T, u, u2, rfl, hT, rfl, g1, g2⟩ kk2
      obtain ⟨w, rfl, hw⟩ := fr_get g1
      obtain ⟨w2, rfl, hw2⟩ := fr_get g2
      rw [List.getElem?_zipWith, List.getElem?_map, List.getElem?_map, hw, hw2] at hr
      obtain rfl : w.2 - w2.2 = r := Option.some.inj hr
      have m1 : w ∈ us := List.mem_of_getElem? hw
      have m2 : w2 ∈ vs := List.mem_of_getElem? hw2
      have sT := same_upd (o := .tup [.ref w.1, .ref w2.1]) hT
      refine ⟨_, _, rfl, SqT.of upd_same, rfl, _, _, rfl, _, _, rfl, rfl, rfl, ?_⟩
      exact ⟨_, rfl, _, rfl, w.1, w2.1, w.2, w2.2, rfl, (hus w m1).same (s1.trans (s2.trans sT)), (hvs w2 m2).same (s1.trans (s2.trans sT)), (bxs _ (List.mem_map_of_mem m1)).up (by decide), (bys _ (List.mem_map_of_mem m2)).up (by decide), fun H4 t4 s4 f4 => kk2 t4 H4 (sT.trans s4) f4⟩
    · intro H2 ws s2 e2 r2 m2
      refine ⟨D, _, rfl, .inl ⟨SqL.of e2, fun t3 n3 => ?_⟩⟩
      have s3 := same_upd (o := .tup (fr ws)) n3
      refine ⟨by show 2 ≤ sizeLine; decide, fun t4 n4 => ?_⟩
      have s4 := same_upd (o := .tup [.ref t1, .ref t3]) n4
      exact k _ t4 (s1.trans (s2.trans (s3.trans s4))) ⟨t1, t3, ws, SqT.of upd_same, f1.same (s2.trans (s3.trans s4)), SqT.of (s4 _ _ upd_same), r2.same (s3.trans s4), m2⟩
def spScale (K : PySem.W.Frag) : Sp := fun vs H Q _ => ∃ (f a : Addr) (r x : Rat) (xs : List Rat), vs = [.ref f, .ref a] ∧ Fx K H f r ∧ Vx K H a x xs ∧ xs.length ≤ 20 ∧ Bd 60 r ∧ Bd 60 x ∧ (∀ r ∈ xs, Bd 60 r) ∧ ∀ (H' : Hp) (t : Addr), Same H H' → Vx K H' t (r * x) (xs.map fun y => r * y) → Q (.ref t) H'
theorem okScale {fScale : Addr} {fdScale : FuncData} (F : Fun K "scale" "scale" sScale fScale fdScale) (T : Txt mg) {aZERO : Addr} {aONE : Addr} (CT : Cons K mg aZERO aONE) {CPartError CNought : Addr} (EX : Exns K mg CPartError CNought)
    {fTimes : Addr} {fdTimes : FuncData} (GTimes : FnOk P w K mg base CX0 2 fTimes fdTimes ["a", "b"] (spTimes K)) (gTimes : mg "times" = some (.ref fTimes)) (kpTimes : PySem.W.keepIn K (.ref fTimes) = true) (bTimes : Binds K fdTimes ["a", "b"] []) :
    FnOk P w K mg base CX0 3 fScale fdScale ["factor", "a"] (spScale K) := by
  refine F.ok scScale (fun vs H Q E h => ?_) (fun cdv A outer s H vs Q E hr h => ?_)
  · obtain ⟨f, a, r, x, xs, rfl, hF, ⟨p, q, us, hA, hp, hq, hus, rfl⟩, h20, br, bx, bxs, k⟩ := h
    rfl
  · obtain ⟨f, a, r, x, xs, rfl, hF, ⟨p, q, us, hA, hp, hq, hus, rfl⟩, h20, br, bx, bxs, k⟩ := h
    refine ⟨_, (pss_one (ps_ret (pe_tup (pa_cons (pe_call GTimes hr (by rfl) gTimes kpTimes bTimes .nil pass0 (pa_cons (pv 0) (pa_cons (pe_ix ix_tup (pv 1) pe_int (fun _ _ => rfl)) pa_nil))) (pa_cons (pe_callTy call_tuple_of (by rfl) T.tuple (by decide +kernel) (pa_cons (pe_lc (own := [("x", 2)]) (by rfl) scScale.nd (pi_tup (pe_ix ix_tup (pv 1) pe_int (fun _ _ => rfl))) (blkOk_by (own := [("x", 2)]) (N := ["factor", "a", "x"]) (sc := defScope sScale) (by decide +kernel)) (fun _ _ _ _ _ => (pg_name (i := 2) scScale.nd rfl (Or.inl rfl))) (fun _ _ _ _ _ => pts_nil) (fun _ _ _ _ _ => (pe_call GTimes hr (by rfl) gTimes kpTimes bTimes .nil pass0 (pa_cons (pv 0) (pa_cons (pv 2) pa_nil))))) pa_nil)) pa_nil))))), ?_⟩
    refine ⟨_, rfl, .ref a, rfl, a, _, 0, _, rfl, rfl, hA, atI_nat (j := 0) rfl, f, p, r, x, rfl, hF, hp, br.up (by decide), bx.up (by decide), fun H1 t1 s1 f1 => ?_⟩
    refine ⟨.ref a, rfl, a, _, 1, _, rfl, rfl, same_tup s1 hA, atI_nat (j := 1) rfl, q, rfl, ⟨_, same_tup s1 hq⟩, fun D hD => ?_⟩
    rw [List.length_map] at h20
    refine lc_row (K := K) (walk_tup (xs := fr us)) ((us.map (·.2)).map fun y => r * y) (by simp [fr_len]) (by rw [fr_len]; omega) hD (fun H2 s2 => same_tup (s1.trans s2) hq) ?_ ?_
    · rintro i c v H2 H3 kk hr s2 ⟨rfl, g1⟩ kk2
      obtain ⟨w, rfl, hw⟩ := fr_get g1
      rw [List.getElem?_map, List.getElem?_map, hw] at hr
      obtain rfl : r * w.2 = c := Option.some.inj hr
      have m1 : w ∈ us := List.mem_of_getElem? hw
      exact ⟨rfl, _, rfl, _, rfl, f, w.1, r, w.2, rfl, hF.same (s1.trans s2), (hus w m1).same (s1.trans s2), br.up (by decide), (bxs _ (List.mem_map_of_mem m1)).up (by decide), fun H4 t4 s4 f4 => kk2 t4 H4 s4 f4⟩
    · intro H2 ws s2 e2 r2 m2
      refine ⟨D, _, rfl, .inl ⟨SqL.of e2, fun t3 n3 => ?_⟩⟩
      have s3 := same_upd (o := .tup (fr ws)) n3
      refine ⟨by show 2 ≤ sizeLine; decide, fun t4 n4 => ?_⟩
      have s4 := same_upd (o := .tup [.ref t1, .ref t3]) n4
      exact k _ t4 (s1.trans (s2.trans (s3.trans s4))) ⟨t1, t3, ws, SqT.of upd_same, f1.same (s2.trans (s3.trans s4)), SqT.of (s4 _ _ upd_same), r2.same (s3.trans s4), m2⟩
def spJoinedParts (K : PySem.W.Frag) : Sp := fun vs H Q _ => ∃ (t : Addr) (e : Bool) (b c : Ar), vs = [.ref t] ∧ ArAt K H t (.two e b c) ∧ (Ar.two e b c).deep ≤ 200 ∧ ∀ (H' : Hp) (u : Addr), Same H H' → ArsAt K H' u (jpR e (.two e b c)).reverse → Q (.ref u) H'
theorem okJoinedParts {fJoinedParts : Addr} {fdJoinedParts : FuncData} (F : Fun K "joined_parts" "joined_parts" sJoinedParts fJoinedParts fdJoinedParts) (T : Txt mg) {aZERO : Addr} {aONE : Addr} (CT : Cons K mg aZERO aONE) {CPartError CNought : Addr} (EX : Exns K mg CPartError CNought) :
    FnOk P w K mg base CX0 1 fJoinedParts fdJoinedParts ["area"] (spJoinedParts K) := by
  refine F.ok scJoinedParts (fun vs H Q E h => ?_) (fun cdv A outer s H vs Q E hr h => ?_)
  · obtain ⟨t, e, b, c, rfl, hA, hd, q⟩ := h
    rfl
  · obtain ⟨t, e, b, c, rfl, hA, hd, q⟩ := h
    refine ⟨_, (pss_cons (ps_set (i := 1) scJoinedParts.nd rfl (Or.inl rfl) (pe_ix ix_tup (pv 0) pe_int (fun _ _ => rfl)))
      (pss_cons (ps_set (i := 2) scJoinedParts.nd rfl (Or.inl rfl) (pe_lst pa_nil))
      (C8.pss_cut (ps_while PassesOwn.never (pt_cmpR op_eq (pe_ix ix_tup (pv 0) pe_int (fun _ _ => rfl)) (pv 1) (nomark _))
        (pss_cons (ps_expr (pe_bm PySem.F.plainAttrs_list PySem.F.slot_list_append PySem.F.type_list_append mt_append (pv 2) (pa_cons (pe_ix ix_tup (pv 0) pe_int (fun _ _ => rfl)) pa_nil)))
        (pss_one (ps_set (i := 0) scJoinedParts.nd rfl (Or.inl rfl) (pe_ix ix_tup (pv 0) pe_int (fun _ _ => rfl))))))
      (pss_cons (ps_expr (pe_bm PySem.F.plainAttrs_list PySem.F.slot_list_append PySem.F.type_list_append mt_append (pv 2) (pa_cons (pv 0) pa_nil)))
      (pss_cons (ps_expr (pe_bm0 PySem.F.plainAttrs_list PySem.F.slot_list_reverse PySem.F.type_list_reverse mt_reverse (pv 2)))
      (pss_one (ps_ret (pv 2)))))))), ?_⟩
    have hA0 := hA
    obtain ⟨u0, v0, g1, _, _⟩ := hA0
    walk_at "go"
    refine ⟨by show 0 ≤ sizeLine; decide, fun D hD => ?_⟩
    have s1 := same_upd (o := .lst []) hD
    have e1 : (upd H D (.lst [])) D = some (.lst []) := upd_same
    generalize upd H D (.lst []) = H1 at s1 e1 ⊢
    refine ⟨fun σ' H' => ∃ (t' : Addr) (a' : Ar) (ws : List (Addr × Ar)), σ' = [some (.ref t'), some (.str (twS e)), some (.ref D)] ∧ Same H H' ∧ H' D = some (.lst (Ro ws)) ∧ (∀ w ∈ ws, ArAt K H w.1 w.2) ∧ ArAt K H t' a' ∧ jpR e (.two e b c) = ws.map (·.2) ++ [a'], ?_, ?_⟩
    · refine ⟨fun m σ' H' => ∃ (t' : Addr) (a' : Ar) (ws : List (Addr × Ar)), σ' = [some (.ref t'), some (.str (twS e)), some (.ref D)] ∧ Same H H' ∧ H' D = some (.lst (Ro ws)) ∧ (∀ w ∈ ws, ArAt K H w.1 w.2) ∧ ArAt K H t' a' ∧ jpR e (.two e b c) = ws.map (·.2) ++ jpR e a' ∧ m = jpN e a', ⟨_, t, _, [], rfl, s1, e1, (fun w hw => by cases hw), hA, rfl, rfl⟩, ?_⟩
      rintro m σ' H' ⟨t', a', ws, rfl, s2, e2, w2, hA', hj, rfl⟩
      rcases kd_cases (e := e) hA' with ⟨k, xs, h1, h2, h3⟩ | ⟨u, v, b', c', rfl, h1, h2, h3⟩
      · have h1' := same_tup s2 h1
        walk_at "go"
        rw [h2]
        refine iteF' rfl ?_
        exact ⟨t', a', ws, rfl, s2, e2, w2, hA', by rw [hj, h3]⟩
      · have h1' := same_tup s2 h1
        have ll : ws.length ≤ 200 := by
          have := congrArg List.length hj
          rw [jpR_len, List.length_append, List.length_map] at this
          have h7 := jpN_deep (e := e) (a := .two e b c)
          omega
        have ej : jpR e (.two e b' c') = c' :: jpR e b' := by
          show (if e = e then c' :: jpR e b' else _) = _
          rw [if_pos rfl]
        have en : jpN e (.two e b' c') = jpN e b' + 1 := by
          show (if e = e then jpN e b' + 1 else _) = _
          rw [if_pos rfl]
        walk_at "go"
        rw [kd_two, decide_eq_true rfl]
        refine iteT' rfl ?_
        refine ⟨fun σ' H' => ∃ (t' : Addr) (a' : Ar) (ws : List (Addr × Ar)), σ' = [some (.ref t'), some (.str (twS e)), some (.ref D)] ∧ Same H H' ∧ H' D = some (.lst (Ro ws)) ∧ (∀ w ∈ ws, ArAt K H w.1 w.2) ∧ ArAt K H t' a' ∧ jpR e (.two e b c) = ws.map (·.2) ++ jpR e a' ∧ jpN e a' < jpN e (.two e b' c'), ?_, ?_⟩
        · rintro σ2 H2 ⟨t2, a2, ws2, r1, r2, r3, r4, r5, r6, r7⟩
          exact ⟨_, r7, t2, a2, ws2, r1, r2, r3, r4, r5, r6, rfl⟩
        · walk_at "go"
          refine ⟨.inl ⟨rfl, _, SqL.of e2⟩, ?_⟩
          walk_at "go"
          refine ⟨D, _, _, rfl, rfl, e2, ?_, ?_⟩
          · rw [Ro_len]
            exact small1000 (by omega)
          have s3 : Same H (upd H' D (.lst (Ro ws ++ [.ref v]))) := fun b o e => by
            rw [upd_ne (ne_of_none e hD)]
            exact s2 b o e
          have h1'' := same_tup s3 h1
          walk_at "go"
          refine ⟨u, b', ws ++ [(v, c')], rfl, s3, by rw [upd_same]; show _ = some (HO.lst (List.map _ (ws ++ [(v, c')]))); rw [List.map_append]; rfl, fun w hw => ?_, h2, ?_, by omega⟩
          · rcases List.mem_append.mp hw with h | h
            · exact w2 w h
            · rw [List.mem_singleton.mp h]
              exact h3
          · rw [hj, ej, List.map_append, List.append_assoc]
            rfl
    · rintro σ' H' ⟨t', a', ws, rfl, s2, e2, w2, hA', hj⟩
      have ll : ws.length ≤ 200 := by
        have := congrArg List.length hj
        rw [jpR_len, List.length_append, List.length_map] at this
        have h7 := jpN_deep (e := e) (a := .two e b c)
        omega
      walk_at "go"
      refine ⟨.inl ⟨rfl, _, SqL.of e2⟩, ?_⟩
      walk_at "go"
      refine ⟨D, _, _, rfl, rfl, e2, ?_, ?_⟩
      · rw [Ro_len]
        exact small1000 (by omega)
      refine ⟨_, rfl, .inl ⟨rfl, _, SqL.of upd_same⟩, D, _, rfl, rfl, upd_same, ?_⟩
      rw [upd_upd]
      walk_at "go"
      refine q _ D (fun b o e => ?_) ⟨(ws ++ [(t', a')]).reverse, ?_, fun w hw => ?_, ?_⟩
      · rw [upd_ne (ne_of_none e hD)]
        exact s2 b o e
      · rw [upd_same]
        show _ = some (HO.lst (List.map _ _))
        rw [List.map_reverse, List.map_append]
        rfl
      · have s3 : Same H (upd H' D (.lst ((Ro ws ++ [V.ref t']).reverse))) := fun b o e => by
          rw [upd_ne (ne_of_none e hD)]
          exact s2 b o e
        refine ArAt.up s3 ?_
        rcases List.mem_append.mp (List.mem_reverse.mp hw) with h | h
        · exact w2 w h
        · rw [List.mem_singleton.mp h]
          exact hA'
      · rw [List.map_reverse, hj, List.map_append]
        rfl
abbrev I3 := Int × Int × Int
def i3 (p : I3) : List V := zs [p.1, p.2.1, p.2.2]
def B3 (n : Nat) (p : I3) : Prop := Bz n p.1 ∧ Bz n p.2.1 ∧ Bz n p.2.2
def cr (p q : I3) : I3 := (p.2.1 * q.2.2 - p.2.2 * q.2.1, p.2.2 * q.1 - p.1 * q.2.2, p.1 * q.2.1 - p.2.1 * q.1)
def ip3 (p q : I3) : Int := p.1 * q.1 + p.2.1 * q.2.1 + p.2.2 * q.2.2
def vo (p q r : I3) : Int := ip3 p (cr q r)
def com (a b : Int) (p q : I3) : I3 := (a * p.1 + b * q.1, a * p.2.1 + b * q.2.1, a * p.2.2 + b * q.2.2)
theorem B3.up {n m : Nat} {p : I3} (h : B3 n p) (hm : n ≤ m) : B3 m p := ⟨h.1.up hm, h.2.1.up hm, h.2.2.up hm⟩
theorem B3.cr {n m : Nat} {p q : I3} (h : B3 n p) (g : B3 m q) : B3 (n + m + 1) (cr p q) := by
  obtain ⟨h1, h2, h3⟩ := h
  obtain ⟨g1, g2, g3⟩ := g
  exact ⟨(Bz.sub (h2.mul g3) (h3.mul g2)).up (by omega), (Bz.sub (h3.mul g1) (h1.mul g3)).up (by omega), (Bz.sub (h1.mul g2) (h2.mul g1)).up (by omega)⟩
theorem B3.ip {n m : Nat} {p q : I3} (h : B3 n p) (g : B3 m q) : Bz (n + m + 2) (ip3 p q) := by
  obtain ⟨h1, h2, h3⟩ := h
  obtain ⟨g1, g2, g3⟩ := g
  exact (Bz.add (Bz.add (h1.mul g1) (h2.mul g2)) (h3.mul g3)).up (by omega)
theorem B3.com {n m : Nat} {a b : Int} {p q : I3} (ha : Bz m a) (hb : Bz m b) (h : B3 n p) (g : B3 n q) : B3 (m + n + 1) (com a b p q) := by
  obtain ⟨h1, h2, h3⟩ := h
  obtain ⟨g1, g2, g3⟩ := g
  exact ⟨(Bz.add (ha.mul h1) (hb.mul g1)).up (by omega), (Bz.add (ha.mul h2) (hb.mul g2)).up (by omega), (Bz.add (ha.mul h3) (hb.mul g3)).up (by omega)⟩
def spInner (K : PySem.W.Frag) : Sp := fun vs H Q _ => ∃ (a b : Addr) (x y z u v w : Int), vs = [.ref a, .ref b] ∧ SqT K H a (zs [x, y, z]) ∧ SqT K H b (zs [u, v, w]) ∧ Bz 1000 x ∧ Bz 1000 y ∧ Bz 1000 z ∧ Bz 1000 u ∧ Bz 1000 v ∧ Bz 1000 w ∧ Q (.int (x * u + y * v + z * w)) H
theorem okInner {fInner : Addr} {fdInner : FuncData} (F : Fun K "inner" "inner" sInner fInner fdInner) (T : Txt mg) {aZERO : Addr} {aONE : Addr} (CT : Cons K mg aZERO aONE) {CPartError CNought : Addr} (EX : Exns K mg CPartError CNought) :
    FnOk P w K mg base CX0 1 fInner fdInner ["a", "b"] (spInner K) := by
  refine F.ok scInner (fun vs H Q E h => ?_) (fun cdv A outer s H vs Q E hr h => ?_)
  · obtain ⟨a, b, x, y, z, u, v, w, rfl, hA, hB, b1, b2, b3, b4, b5, b6, k⟩ := h
    rfl
  · obtain ⟨a, b, x, y, z, u, v, w, rfl, hA, hB, b1, b2, b3, b4, b5, b6, k⟩ := h
    refine ⟨_, (pss_one (ps_ret (pe_op op_add (pe_op op_add (pe_op op_mulW (pe_ix ix_tup (pv 0) pe_int (fun _ _ => rfl)) (pe_ix ix_tup (pv 1) pe_int (fun _ _ => rfl))) (pe_op op_mulW (pe_ix ix_tup (pv 0) pe_int (fun _ _ => rfl)) (pe_ix ix_tup (pv 1) pe_int (fun _ _ => rfl)))) (pe_op op_mulW (pe_ix ix_tup (pv 0) pe_int (fun _ _ => rfl)) (pe_ix ix_tup (pv 1) pe_int (fun _ _ => rfl)))))), ?_⟩
    walk_at "go"
    exact k
def spOuter (K : PySem.W.Frag) : Sp := fun vs H Q _ => ∃ (a b : Addr) (p q : I3), vs = [.ref a, .ref b] ∧ SqT K H a (i3 p) ∧ SqT K H b (i3 q) ∧ B3 400 p ∧ B3 400 q ∧ ∀ (H' : Hp) (t : Addr), Same H H' → SqT K H' t (i3 (cr p q)) → Q (.ref t) H'
theorem okOuter {fOuter : Addr} {fdOuter : FuncData} (F : Fun K "outer" "outer" sOuter fOuter fdOuter) (T : Txt mg) {aZERO : Addr} {aONE : Addr} (CT : Cons K mg aZERO aONE) {CPartError CNought : Addr} (EX : Exns K mg CPartError CNought) :
    FnOk P w K mg base CX0 1 fOuter fdOuter ["a", "b"] (spOuter K) := by
  refine F.ok scOuter (fun vs H Q E h => ?_) (fun cdv A outer s H vs Q E hr h => ?_)
  · obtain ⟨a, b, ⟨x, y, z⟩, ⟨u, v, w⟩, rfl, hA, hB, ⟨b1, b2, b3⟩, ⟨b4, b5, b6⟩, k⟩ := h
    rfl
  · obtain ⟨a, b, ⟨x, y, z⟩, ⟨u, v, w⟩, rfl, hA, hB, ⟨b1, b2, b3⟩, ⟨b4, b5, b6⟩, k⟩ := h
    refine ⟨_, (pss_one (ps_ret (pe_tup (pa_cons (pe_op op_sub (pe_op op_mulW (pe_ix ix_tup (pv 0) pe_int (fun _ _ => rfl)) (pe_ix ix_tup (pv 1) pe_int (fun _ _ => rfl))) (pe_op op_mulW (pe_ix ix_tup (pv 0) pe_int (fun _ _ => rfl)) (pe_ix ix_tup (pv 1) pe_int (fun _ _ => rfl)))) (pa_cons (pe_op op_sub (pe_op op_mulW (pe_ix ix_tup (pv 0) pe_int (fun _ _ => rfl)) (pe_ix ix_tup (pv 1) pe_int (fun _ _ => rfl))) (pe_op op_mulW (pe_ix ix_tup (pv 0) pe_int (fun _ _ => rfl)) (pe_ix ix_tup (pv 1) pe_int (fun _ _ => rfl)))) (pa_cons (pe_op op_sub (pe_op op_mulW (pe_ix ix_tup (pv 0) pe_int (fun _ _ => rfl)) (pe_ix ix_tup (pv 1) pe_int (fun _ _ => rfl))) (pe_op op_mulW (pe_ix ix_tup (pv 0) pe_int (fun _ _ => rfl)) (pe_ix ix_tup (pv 1) pe_int (fun _ _ => rfl)))) pa_nil)))))), ?_⟩
    replace hA : SqT K H a (zs [x, y, z]) := hA
    replace hB : SqT K H b (zs [u, v, w]) := hB
    replace b1 : Bz 400 x := b1
    replace b2 : Bz 400 y := b2
    replace b3 : Bz 400 z := b3
    replace b4 : Bz 400 u := b4
    replace b5 : Bz 400 v := b5
    replace b6 : Bz 400 w := b6
    walk_at "go"
    refine ⟨tn rfl, fun t1 nt1 => ?_⟩
    generalize hUt1 : upd _ _ (HO.tup _) = H1
    have s1 := same_hu hUt1 nt1
    have eh1 := at_hu hUt1
    have h1 := SqT.of (K := K) eh1
    clear hUt1
    exact k H1 t1 s1 h1
def spCleared (K : PySem.W.Frag) : Sp := fun vs H Q _ => ∃ (u b : Addr) (l : Nat) (row base : List Rat), vs = [.ref u, .int l, .ref b] ∧ RowAt K H u row ∧ RowAt K H b base ∧ row.length = base.length ∧ l < row.length ∧ row.length ≤ 30 ∧ (∀ x ∈ row, Bd 1000 x) ∧ (∀ x ∈ base, Bd 1000 x) ∧
  ∀ (H' : Hp) (t : Addr), Same H H' → RowAt K H' t (clr l base row) → (t = u ∨ H t = none) → Q (.ref t) H'
theorem okCleared {fCleared : Addr} {fdCleared : FuncData} (F : Fun K "cleared" "cleared" sCleared fCleared fdCleared) (T : Txt mg) {aZERO : Addr} {aONE : Addr} (CT : Cons K mg aZERO aONE) {CPartError CNought : Addr} (EX : Exns K mg CPartError CNought)
    {fMinus : Addr} {fdMinus : FuncData} (GMinus : FnOk P w K mg base CX0 2 fMinus fdMinus ["a", "b"] (spMinus K)) (gMinus : mg "minus" = some (.ref fMinus)) (kpMinus : PySem.W.keepIn K (.ref fMinus) = true) (bMinus : Binds K fdMinus ["a", "b"] [])
    {fTimes : Addr} {fdTimes : FuncData} (GTimes : FnOk P w K mg base CX0 2 fTimes fdTimes ["a", "b"] (spTimes K)) (gTimes : mg "times" = some (.ref fTimes)) (kpTimes : PySem.W.keepIn K (.ref fTimes) = true) (bTimes : Binds K fdTimes ["a", "b"] []) :
    FnOk P w K mg base CX0 3 fCleared fdCleared ["row", "at", "base"] (spCleared K) := by
  refine F.ok scCleared (fun vs H Q E h => ?_) (fun cdv A outer s H vs Q E hr h => ?_)
  · obtain ⟨u, b, l, row, base, rfl, ⟨ws, h1, h2, h3⟩, ⟨vs, g1, g2, g3⟩, hlen, hl, h20, b1, b2, k⟩ := h
    rfl
  · obtain ⟨u, b, l, row, base, rfl, ⟨ws, h1, h2, h3⟩, ⟨vs, g1, g2, g3⟩, hlen, hl, h20, b1, b2, k⟩ := h
    refine ⟨_, (pss_cons (ps_set (i := 3) scCleared.nd rfl (Or.inr rfl) (pe_ix ix_list (pv 0) (pv 1) (fun _ _ => rfl)))
      (pss_cons (ps_if (pt_cmpR (op_eqD hr.units) (pv 3) (pe_glob (v := .ref aZERO) (by rfl) CT.gZERO rfl) (nomark _))
        (pss_one (ps_ret (pv 0)))
        pss_nil)
      (pss_one (ps_ret (pe_lc (own := [("part", 4), ("other", 5)]) (by rfl) scCleared.nd (pi_zipB (by rfl) T.zip (pa_cons (pv 0) (pa_cons (pv 2) pa_nil))) (blkOk_by (own := [("part", 4), ("other", 5)]) (N := ["row", "at", "base", "factor", "part", "other"]) (sc := defScope sCleared) (by decide +kernel)) (fun _ _ _ _ _ => (show PG _ _ (gTup K 2 _) from (pg_tup rfl (pgs_cons (pg_name (i := 4) scCleared.nd rfl (Or.inl rfl)) (pgs_cons (pg_name (i := 5) scCleared.nd rfl (Or.inl rfl)) pgs_nil))))) (fun _ _ _ _ _ => pts_nil) (fun _ _ _ _ _ => (pe_call GMinus hr (by rfl) gMinus kpMinus bMinus .nil pass0 (pa_cons (pv 4) (pa_cons (pe_call GTimes hr (by rfl) gTimes kpTimes bTimes .nil pass0 (pa_cons (pv 3) (pa_cons (pv 5) pa_nil))) pa_nil))))))))), ?_⟩
    obtain ⟨a, a1, a2, a3⟩ := RowAt.get (K := K) h2 h3 hl
    have lw : ws.length = row.length := by rw [← h3, List.length_map]
    have lv : vs.length = base.length := by rw [← g3, List.length_map]
    have b0 := b1 _ a3
    unfold clr at k
    have F0 : Fx K H aZERO 0 := CT.tZERO H
    refine ⟨_, rfl, _, rfl, u, _, _, V.ref a, rfl, rfl, SqL.of h1, atI_nat a1, ?_⟩
    refine ⟨_, rfl, _, _, dpr a2, dpr F0, sh1 _, sh1 _, ?_⟩
    rw [eqvr]
    refine ⟨_, rfl, ?_⟩
    by_cases h0 : row.getD l 0 = 0
    · refine iteT' (decide_eq_true h0) ?_
      refine ⟨_, rfl, ?_⟩
      rw [if_pos h0] at k
      exact k H u (Same.refl _) ⟨ws, h1, h2, h3⟩ (.inl rfl)
    refine iteF' (decide_eq_false h0) ?_
    rw [if_neg h0] at k
    refine ⟨_, rfl, _, rfl, false, false, u, b, fr ws, fr vs, rfl, SqL.of h1, SqL.of g1, fun D hD => ?_⟩
    refine lc_row (K := K) (walk_zipB (f := false) (g := false) (xs := fr ws) (ys := fr vs) rfl) (List.zipWith (fun x y => x - row.getD l 0 * y) row base) (by rw [List.length_zipWith, fr_len, fr_len]; omega) (by rw [fr_len, fr_len]; omega) hD (fun H2 s2 => ⟨SqL.of (s2 _ _ h1), SqL.of (s2 _ _ g1)⟩) ?_ ?_
    · rintro i r v H2 H3 kk hr s2 ⟨T, w1, w2, rfl, hT, rfl, y1, y2⟩ kk2
      obtain ⟨w, rfl, hw⟩ := fr_get y1
      obtain ⟨w', rfl, hw'⟩ := fr_get y2
      rw [List.getElem?_zipWith, ← h3, ← g3, List.getElem?_map, List.getElem?_map, hw, hw', h3] at hr
      obtain rfl : w.2 - row.getD l 0 * w'.2 = r := Option.some.inj hr
      have m1 : w ∈ ws := List.mem_of_getElem? hw
      have m2 : w' ∈ vs := List.mem_of_getElem? hw'
      have sT := same_upd (o := .tup [.ref w.1, .ref w'.1]) hT
      have bw : Bd 1000 w.2 := b1 _ (by rw [← h3]; exact List.mem_map_of_mem m1)
      have bw' : Bd 1000 w'.2 := b2 _ (by rw [← g3]; exact List.mem_map_of_mem m2)
      refine ⟨_, _, rfl, SqT.of upd_same, rfl, _, _, rfl, _, _, rfl, rfl, rfl, ?_⟩
      refine ⟨_, rfl, _, rfl, _, rfl, a, w'.1, row.getD l 0, w'.2, rfl, a2.same (s2.trans sT), (g2 w' m2).same (s2.trans sT), b0.up (by decide), bw'.up (by decide), fun H5 t5 s5 f5 => ?_⟩
      exact ⟨w.1, t5, w.2, row.getD l 0 * w'.2, rfl, (h2 w m1).same (s2.trans (sT.trans s5)), f5, bw.up (by decide), (b0.mul bw').up (by decide), fun H6 t6 s6 f6 => kk2 t6 H6 (sT.trans (s5.trans s6)) f6⟩
    · intro H2 us s2 e2 r2 m2
      exact k H2 D s2 ⟨us, e2, r2, m2⟩ (.inr hD)
theorem none_back {H H' : Hp} {t : Addr} (s : Same H H') (h : H' t = none) : H t = none := by
  cases e : H t with
  | none => rfl
  | some o =>
    rw [s _ _ e] at h
    cases h
def spMarked (K : PySem.W.Frag) : Sp := fun vs H Q _ => ∃ (u : Addr) (i n : Nat) (row : List Rat), vs = [.ref u, .int i, .int n] ∧ RowAt K H u row ∧ row.length ≤ 30 ∧ n ≤ 20 ∧ ∀ (H' : Hp) (t : Addr), Same H H' → RowAt K H' t (mrk row i n) → H t = none → Q (.ref t) H'
theorem okMarked {fMarked : Addr} {fdMarked : FuncData} (F : Fun K "marked" "marked" sMarked fMarked fdMarked) (T : Txt mg) {aZERO : Addr} {aONE : Addr} (CT : Cons K mg aZERO aONE) {CPartError CNought : Addr} (EX : Exns K mg CPartError CNought) :
    FnOk P w K mg base CX0 1 fMarked fdMarked ["row", "at", "many"] (spMarked K) := by
  refine F.ok scMarked (fun vs H Q E h => ?_) (fun cdv A outer s H vs Q E hr h => ?_)
  · obtain ⟨u, i, n, row, rfl, ⟨ws, h1, h2, h3⟩, h20, hn, k⟩ := h
    rfl
  · obtain ⟨u, i, n, row, rfl, ⟨ws, h1, h2, h3⟩, h20, hn, k⟩ := h
    refine ⟨_, (pss_one (ps_ret (pe_op op_cat (pe_callTy call_list_of (by rfl) T.list (by decide +kernel) (pa_cons (pv 0) pa_nil)) (pe_lc (own := [("k", 3)]) (by rfl) scMarked.nd (pi_range1 rfl T.range (pa_cons (pv 2) pa_nil)) (blkOk_by (own := [("k", 3)]) (N := ["row", "at", "many", "k"]) (sc := defScope sMarked) (by decide +kernel)) (fun _ _ _ _ _ => (pg_name (i := 3) scMarked.nd rfl (Or.inl rfl))) (fun _ _ _ _ _ => pts_nil) (fun _ _ _ _ _ => (pe_ifExp (pt_cmpR op_eq (pv 3) (pv 1) (nomark _)) (pe_glob (v := .ref aONE) (by rfl) CT.gONE rfl) (pe_glob (v := .ref aZERO) (by rfl) CT.gZERO rfl))))))), ?_⟩
    have lw : ws.length = row.length := by rw [← h3, List.length_map]
    refine ⟨_, rfl, u, _, rfl, .inl (SqL.of h1), fun p np => ?_⟩
    have sp := same_upd (o := .lst (fr ws)) np
    have ep : (upd H p (.lst (fr ws))) p = some (.lst (fr ws)) := upd_same
    generalize upd H p (.lst (fr ws)) = H1 at sp ep ⊢
    refine ⟨_, rfl, n, rfl, by omega, by omega, fun D hD => ?_⟩
    refine lc_row (K := K) walk_range ((List.range n).map fun k => if k = i then (1 : Rat) else 0) (by simp) (by omega) hD (fun _ _ => trivial) ?_ ?_
    · rintro j c v H2 H3 kk hr s2 ⟨rfl, rfl⟩ kk2
      have hj : j < n := by
        have := (List.getElem?_eq_some_iff.mp hr).1
        rw [List.length_map, List.length_range] at this
        exact this
      rw [List.getElem?_map, List.getElem?_range hj] at hr
      obtain rfl : (if j = i then (1 : Rat) else 0) = c := Option.some.inj hr
      refine ⟨rfl, _, rfl, _, rfl, rfl, _, rfl, ite2 (fun g => ?_) (fun g => ?_)⟩
      · have e := eq_of_dec g
        exact kk2 aONE _ (Same.refl _) (by rw [if_pos (by omega)]; exact CT.tONE _)
      · have e := ne_of_nodec g
        exact kk2 aZERO _ (Same.refl _) (by rw [if_neg (by omega)]; exact CT.tZERO _)
    · intro H2 us s2 e2 r2 m2
      have lu : us.length = n := by
        have := congrArg List.length m2
        rw [List.length_map, List.length_map, List.length_range] at this
        exact this
      refine ⟨p, D, fr ws, fr us, rfl, rfl, s2 _ _ ep, e2, by rw [fr_len, fr_len]; exact Nat.le_of_lt (small1000 (by omega)), fun t nt => ?_⟩
      have st := same_upd (o := .lst (fr ws ++ fr us)) nt
      have s3 := sp.trans (s2.trans st)
      refine k _ t s3 ⟨ws ++ us, ?_, ?_, ?_⟩ (none_back (sp.trans s2) nt)
      · rw [show fr (ws ++ us) = fr ws ++ fr us from List.map_append]
        exact upd_same
      · intro w hw
        rcases List.mem_append.mp hw with h | h
        · exact (h2 w h).same s3
        · exact (r2 w h).same st
      · rw [List.map_append, h3, m2]
        rfl
def spLeadOf (K : PySem.W.Frag) : Sp := fun vs H Q _ => ∃ (u : Addr) (m : Nat) (row : List Rat), vs = [.ref u, .int m] ∧ RowAt K H u row ∧ m ≤ row.length ∧ row.length ≤ 30 ∧ (∀ a : Nat, a < m → row.getD a 0 ≠ 0 → (∀ k < a, row.getD k 0 = 0) → Q (.int a) H) ∧ ((∀ k < m, row.getD k 0 = 0) → Q .non H)
theorem okLeadOf {fLeadOf : Addr} {fdLeadOf : FuncData} (F : Fun K "lead_of" "lead_of" sLeadOf fLeadOf fdLeadOf) (T : Txt mg) {aZERO : Addr} {aONE : Addr} (CT : Cons K mg aZERO aONE) {CPartError CNought : Addr} (EX : Exns K mg CPartError CNought) :
    FnOk P w K mg base CX0 1 fLeadOf fdLeadOf ["row", "many"] (spLeadOf K) := by
  refine F.ok scLeadOf (fun vs H Q E h => ?_) (fun cdv A outer s H vs Q E hr h => ?_)
  · obtain ⟨u, m, row, rfl, ⟨ws, h1, h2, h3⟩, hm, h20, k1, k2⟩ := h
    rfl
  · obtain ⟨u, m, row, rfl, ⟨ws, h1, h2, h3⟩, hm, h20, k1, k2⟩ := h
    refine ⟨_, (C8.pss_cut (ps_for PassesOwn.never rfl (pi_range1 rfl T.range (pa_cons (pv 1) pa_nil)) (pg_name (i := 2) scLeadOf.nd rfl (Or.inl rfl))
        (pss_one (ps_if (pt_cmpR (op_neD hr.units) (pe_ix ix_list (pv 0) (pv 2) (fun _ _ => rfl)) (pe_glob (v := .ref aZERO) (by rfl) CT.gZERO rfl) (nomark _))
          (pss_one (ps_ret (pv 2)))
          pss_nil)))
      (pss_one (ps_ret pe_non))), ?_⟩
    refine ⟨fun σ' H' => H' = H ∧ ∀ k < m, row.getD k 0 = 0, ?_, ?_⟩
    · refine ⟨_, rfl, m, rfl, by omega, by omega, for_range (n := m) (fun i σ' H' => H' = H ∧ (∃ v2, σ' = [some (.ref u), some (.int (m : Nat)), v2]) ∧ ∀ k < i, row.getD k 0 = 0) ⟨rfl, ⟨_, rfl⟩, fun k hk => absurd hk (Nat.not_lt_zero k)⟩ ?_ ?_⟩
      · rintro i σ' H' hi ⟨rfl, ⟨v2, rfl⟩, hz⟩
        obtain ⟨a, a1, a2, a3⟩ := RowAt.get (K := K) h2 h3 (show i < row.length by omega)
        refine ⟨_, rfl, _, rfl, u, _, _, V.ref a, rfl, rfl, SqL.of h1, by rw [show (0 : Int) + (i : Int) = (i : Int) by omega]; exact atI_nat a1, ?_⟩
        refine ⟨_, _, dpr a2, dpr (show Fx K H' aZERO 0 from CT.tZERO H'), sh1 _, sh1 _, ?_⟩
        rw [eqvr]
        refine ⟨_, rfl, ?_⟩
        by_cases h0 : row.getD i 0 = 0
        · refine iteF' (by rw [decide_eq_true h0]; rfl) ?_
          refine ⟨rfl, ⟨_, rfl⟩, fun k hk => ?_⟩
          rcases Nat.lt_or_ge k i with g | g
          · exact hz k g
          · rw [show k = i by omega]
            exact h0
        · refine iteT' (by rw [decide_eq_false h0]; rfl) ?_
          have := k1 i hi h0 hz
          refine ⟨_, rfl, ?_⟩
          rw [show (0 : Int) + (i : Int) = (i : Int) by omega]
          exact this
      · rintro σ' H' ⟨rfl, _, hz⟩
        exact ⟨rfl, hz⟩
    rintro σ' H' ⟨rfl, hz⟩
    exact k2 hz
def RowsAt (K : PySem.W.Frag) (H : Hp) (l : Addr) (G : List (List Rat)) : Prop := ∃ gs : List (Addr × List Rat), SqL K H l (Ro gs) ∧ (∀ w ∈ gs, RowAt K H w.1 w.2) ∧ gs.map (·.2) = G
def spSettleRows (K : PySem.W.Frag) : Sp := fun vs H Q _ => ∃ (l : Addr) (m M : Nat) (G : List (List Rat)), vs = [.ref l, .int m] ∧ RowsAt K H l G ∧ (∀ g ∈ G, g.length = M ∧ Gt m g) ∧ m ≤ M ∧ M ≤ 8 ∧ m ≤ 6 ∧ G.length ≤ 14 ∧
  (∀ (H' : Hp) (t u : Addr) (kept : List (Nat × List Rat)), Same H H' → SG m M (M + G.length) G kept → SqT K H' t [.str "kept", .ref u] → KeptAt K H' u (kept.map fun p => (p.1, p.2.take M)) → Q (.ref t) H') ∧
  ∀ (H' : Hp) (t u : Addr) (i : Nat) (μ : Nat → Rat), Same H H' → Cg m M G i μ → SqT K H' t [.str "conflict", .ref u] → H' u = some (.lst ((toldL G.length μ).map fun k => V.int (k : Nat))) → Q (.ref t) H'
theorem okSettleRows {fSettleRows : Addr} {fdSettleRows : FuncData} (F : Fun K "settle_rows" "settle_rows" sSettleRows fSettleRows fdSettleRows) (T : Txt mg) {aZERO : Addr} {aONE : Addr} (CT : Cons K mg aZERO aONE) {CPartError CNought : Addr} (EX : Exns K mg CPartError CNought)
    {fMarked : Addr} {fdMarked : FuncData} (GMarked : FnOk P w K mg base CX0 1 fMarked fdMarked ["row", "at", "many"] (spMarked K)) (gMarked : mg "marked" = some (.ref fMarked)) (kpMarked : PySem.W.keepIn K (.ref fMarked) = true) (bMarked : Binds K fdMarked ["row", "at", "many"] [])
    {fLeadOf : Addr} {fdLeadOf : FuncData} (GLeadOf : FnOk P w K mg base CX0 1 fLeadOf fdLeadOf ["row", "many"] (spLeadOf K)) (gLeadOf : mg "lead_of" = some (.ref fLeadOf)) (kpLeadOf : PySem.W.keepIn K (.ref fLeadOf) = true) (bLeadOf : Binds K fdLeadOf ["row", "many"] [])
    {fCleared : Addr} {fdCleared : FuncData} (GCleared : FnOk P w K mg base CX0 3 fCleared fdCleared ["row", "at", "base"] (spCleared K)) (gCleared : mg "cleared" = some (.ref fCleared)) (kpCleared : PySem.W.keepIn K (.ref fCleared) = true) (bCleared : Binds K fdCleared ["row", "at", "base"] [])
    {fOver : Addr} {fdOver : FuncData} (GOver : FnOk P w K mg base CX0 2 fOver fdOver ["a", "b"] (spOver K)) (gOver : mg "over" = some (.ref fOver)) (kpOver : PySem.W.keepIn K (.ref fOver) = true) (bOver : Binds K fdOver ["a", "b"] []) :
    FnOk P w K mg base CX0 4 fSettleRows fdSettleRows ["rows", "many"] (spSettleRows K) := by
  refine F.ok scSettleRows (fun vs H Q E h => ?_) (fun cdv A outer s H vs Q E hr h => ?_)
  · obtain ⟨l, m, M, G, rfl, ⟨gs, h1, h2, h3⟩, hG, hmM, hM8, hm, h14, k1, k2⟩ := h
    rfl
  · obtain ⟨l, m, M, G, rfl, ⟨gs, h1, h2, h3⟩, hG, hmM, hM8, hm, h14, k1, k2⟩ := h
    refine ⟨_, (pss_cons (ps_set (i := 2) scSettleRows.nd rfl (Or.inl rfl) (pe_lst pa_nil))
      (C8.pss_cut (ps_for PassesOwn.never rfl (pi_enum (by rfl) T.enumerate (pa_cons (pv 0) pa_nil)) (pg_tup rfl (pgs_cons (pg_name (i := 3) scSettleRows.nd rfl (Or.inl rfl)) (pgs_cons (pg_name (i := 4) scSettleRows.nd rfl (Or.inl rfl)) pgs_nil)))
        (pss_cons (ps_set (i := 5) scSettleRows.nd rfl (Or.inr rfl) (pe_call GMarked (hr.mono (by decide)) (by rfl) gMarked kpMarked bMarked .nil pass0 (pa_cons (pv 4) (pa_cons (pv 3) (pa_cons (pe_callB (show CallR _ (Value.builtin "len") (rLenS K) from call_len_seq) (by rfl) T.len PySem.boot_len (pa_cons (pv 0) pa_nil)) pa_nil)))))
        (C8.pss_cut (ps_for PassesOwn.never rfl (pi_list (pv 2)) (pg_tup rfl (pgs_cons (pg_name (i := 6) scSettleRows.nd rfl (Or.inl rfl)) (pgs_cons (pg_name (i := 7) scSettleRows.nd rfl (Or.inl rfl)) pgs_nil)))
          (pss_one (ps_set (i := 5) scSettleRows.nd rfl (Or.inr rfl) (pe_call GCleared hr (by rfl) gCleared kpCleared bCleared .nil pass0 (pa_cons (pv 5) (pa_cons (pv 6) (pa_cons (pv 7) pa_nil)))))))
        (pss_cons (ps_set (i := 8) scSettleRows.nd rfl (Or.inr rfl) (pe_call GLeadOf (hr.mono (by decide)) (by rfl) gLeadOf kpLeadOf bLeadOf .nil pass0 (pa_cons (pv 5) (pa_cons (pv 1) pa_nil))))
        (pss_one (ps_if (pt_cmpR op_notN (pv 8) pe_non (nomark _))
          (pss_cons (ps_set (i := 9) scSettleRows.nd rfl (Or.inr rfl) (pe_ix ix_list (pv 5) (pv 8) (fun _ _ => rfl)))
          (pss_cons (ps_set (i := 5) scSettleRows.nd rfl (Or.inr rfl) (pe_lc (own := [("part", 11)]) (by rfl) scSettleRows.nd (pi_list (pv 5)) (blkOk_by (own := [("part", 11)]) (N := ["rows", "many", "kept", "place", "given", "row", "lead", "base", "at", "first", "marks", "part", "k", "mark"]) (sc := defScope sSettleRows) (by decide +kernel)) (fun _ _ _ _ _ => (pg_name (i := 11) scSettleRows.nd rfl (Or.inl rfl))) (fun _ _ _ _ _ => pts_nil) (fun _ _ _ _ _ => (pe_call GOver (hr.mono (by decide)) (by rfl) gOver kpOver bOver .nil pass0 (pa_cons (pv 11) (pa_cons (pv 9) pa_nil))))))
          (pss_one (ps_set (i := 2) scSettleRows.nd rfl (Or.inl rfl) (pe_op op_cat (pe_lc (own := [("lead", 6), ("base", 7)]) (by rfl) scSettleRows.nd (pi_list (pv 2)) (blkOk_by (own := [("lead", 6), ("base", 7)]) (N := ["rows", "many", "kept", "place", "given", "row", "lead", "base", "at", "first", "marks", "part", "k", "mark"]) (sc := defScope sSettleRows) (by decide +kernel)) (fun _ _ _ _ _ => (show PG _ _ (gTup K 2 _) from (pg_tup rfl (pgs_cons (pg_name (i := 6) scSettleRows.nd rfl (Or.inl rfl)) (pgs_cons (pg_name (i := 7) scSettleRows.nd rfl (Or.inl rfl)) pgs_nil))))) (fun _ _ _ _ _ => pts_nil) (fun _ _ _ _ _ => (pe_tup (pa_cons (pv 6) (pa_cons (pe_call GCleared hr (by rfl) gCleared kpCleared bCleared .nil pass0 (pa_cons (pv 7) (pa_cons (pv 8) (pa_cons (pv 5) pa_nil)))) pa_nil))))) (pe_lst (pa_cons (pe_tup (pa_cons (pv 8) (pa_cons (pv 5) pa_nil))) pa_nil)))))))
          (pss_one (ps_if (pt_val (pe_callB (cr_any rfl) (by rfl) T.any (by decide +kernel) (pa_cons (pe_lc (own := [("part", 11)]) (by rfl) scSettleRows.nd (pi_list (pe_slice (show SlR _ (rSlL K) from sl_list) (pv 5) (po_some (pv 1)) (po_some (pe_callB (show CallR _ (Value.builtin "len") (rLenS K) from call_len_seq) (by rfl) T.len PySem.boot_len (pa_cons (pv 4) pa_nil))))) (blkOk_by (own := [("part", 11)]) (N := ["rows", "many", "kept", "place", "given", "row", "lead", "base", "at", "first", "marks", "part", "k", "mark"]) (sc := defScope sSettleRows) (by decide +kernel)) (fun _ _ _ _ _ => (pg_name (i := 11) scSettleRows.nd rfl (Or.inl rfl))) (fun _ _ _ _ _ => pts_nil) (fun _ _ _ _ _ => (pe_cmpR (show OpR _ _ (rNeD K) from op_neD hr.units) (pv 11) (pe_glob (v := .ref aZERO) (by rfl) CT.gZERO rfl) (nomark _)))) pa_nil)))
            (pss_cons (ps_set (i := 10) scSettleRows.nd rfl (Or.inl rfl) (pe_slice (show SlR _ (rSlL K) from sl_list) (pv 5) (po_some (pe_callB (show CallR _ (Value.builtin "len") (rLenS K) from call_len_seq) (by rfl) T.len PySem.boot_len (pa_cons (pv 4) pa_nil))) po_none))
            (pss_one (ps_ret (pe_tup (pa_cons pe_str (pa_cons (pe_lc (own := [("k", 12), ("mark", 13)]) (by rfl) scSettleRows.nd (pi_enum (by rfl) T.enumerate (pa_cons (pv 10) pa_nil)) (blkOk_by (own := [("k", 12), ("mark", 13)]) (N := ["rows", "many", "kept", "place", "given", "row", "lead", "base", "at", "first", "marks", "part", "k", "mark"]) (sc := defScope sSettleRows) (by decide +kernel)) (fun _ _ _ _ _ => (show PG _ _ (gTup K 2 _) from (pg_tup rfl (pgs_cons (pg_name (i := 12) scSettleRows.nd rfl (Or.inl rfl)) (pgs_cons (pg_name (i := 13) scSettleRows.nd rfl (Or.inl rfl)) pgs_nil))))) (fun _ _ _ _ _ => pts_one (pt_cmpR (show OpR _ _ (rNeD K) from op_neD hr.units) (pv 13) (pe_glob (v := .ref aZERO) (by rfl) CT.gZERO rfl) (nomark _))) (fun _ _ _ _ _ => (pv 12))) pa_nil))))))
            pss_nil))))))))
      (pss_one (ps_ret (pe_tup (pa_cons pe_str (pa_cons (pe_lc (own := [("lead", 6), ("row", 5)]) (by rfl) scSettleRows.nd (pi_list (pv 2)) (blkOk_by (own := [("lead", 6), ("row", 5)]) (N := ["rows", "many", "kept", "place", "given", "row", "lead", "base", "at", "first", "marks", "part", "k", "mark"]) (sc := defScope sSettleRows) (by decide +kernel)) (fun _ _ _ _ _ => (show PG _ _ (gTup K 2 _) from (pg_tup rfl (pgs_cons (pg_name (i := 6) scSettleRows.nd rfl (Or.inl rfl)) (pgs_cons (pg_name (i := 5) scSettleRows.nd rfl (Or.inl rfl)) pgs_nil))))) (fun _ _ _ _ _ => pts_nil) (fun _ _ _ _ _ => (pe_tup (pa_cons (pv 6) (pa_cons (pe_slice (show SlR _ (rSlL K) from sl_list) (pv 5) po_none (po_some (pe_op op_sub (pe_callB (show CallR _ (Value.builtin "len") (rLenS K) from call_len_seq) (by rfl) T.len PySem.boot_len (pa_cons (pv 5) pa_nil)) (pe_callB (show CallR _ (Value.builtin "len") (rLenS K) from call_len_seq) (by rfl) T.len PySem.boot_len (pa_cons (pv 0) pa_nil))))) pa_nil))))) pa_nil))))))), ?_⟩
    have lg : gs.length = G.length := by rw [← h3, List.length_map]
    obtain ⟨W, hW⟩ : ∃ W, W = M + G.length := ⟨_, rfl⟩
    rw [← hW] at k1
    refine ⟨by show 0 ≤ sizeLine; decide, fun kp0 nk0 => ?_⟩
    have sk0 := same_upd (o := .lst []) nk0
    have ek0 : (upd H kp0 (.lst [])) kp0 = some (.lst []) := upd_same
    generalize upd H kp0 (.lst []) = H0 at sk0 ek0 ⊢
    refine ⟨fun σ' H' => ∃ (kp : Addr) (kept : List (Nat × List Rat)) (v3 v4 v5 v6 v7 v8 v9 v10 : Option V), σ' = [some (.ref l), some (.int (m : Nat)), some (.ref kp), v3, v4, v5, v6, v7, v8, v9, v10, none, none, none] ∧ Same H H' ∧ SG m M W G kept ∧ KeptAt K H' kp kept, ?_, ?_⟩
    · refine ⟨_, rfl, l, _, rfl, sk0.seq h1, for_it (walk_enum (K := K) (a := l) (xs := Ro gs)) (fun i σ' H' => ∃ (kp : Addr) (kept : List (Nat × List Rat)) (v3 v4 v5 v6 v7 v8 v9 v10 : Option V), σ' = [some (.ref l), some (.int (m : Nat)), some (.ref kp), v3, v4, v5, v6, v7, v8, v9, v10, none, none, none] ∧ Same H H' ∧ SG m M W (G.take i) kept ∧ KeptAt K H' kp kept ∧ MG m M G.length G i kept) ⟨kp0, [], _, _, _, _, _, _, _, _, rfl, sk0, (SG.start hmM), ⟨[], SqL.of ek0, (fun _ h => nomatch h), rfl⟩, MG.start⟩ ?_ ?_ ?_⟩
      · rintro i σ' H' _ ⟨kp, kept, v3, v4, v5, v6, v7, v8, v9, v10, rfl, s1, _, _, _⟩
        exact s1.seq h1
      · rintro i v σ' H1 H2 hi ⟨kp, kept, v3, v4, v5, v6, v7, v8, v9, v10, rfl, s1, hSI, hK, hMI⟩ ⟨T, x, y, rfl, hT, rfl, hx, hy⟩
        obtain rfl : V.int (i : Nat) = x := Option.some.inj hx
        obtain ⟨w, rfl, hw⟩ := Ro_get hy
        have hgi : G[i]? = some w.2 := map_at h3 hw
        have hiG : i < G.length := (List.getElem?_eq_some_iff.mp hgi).1
        obtain ⟨g1, g2⟩ := hG _ (List.mem_of_getElem? hgi)
        have hw1 := h2 w (List.mem_of_getElem? hw)
        obtain ⟨wa, g⟩ := w
        dsimp only at hgi g1 g2 hw1 ⊢
        have htake : G.take (i + 1) = G.take i ++ [g] := by
          rw [List.take_add_one, hgi]
          rfl
        have hk6 : kept.length ≤ 6 := Nat.le_trans hSI.ki.few (by omega)
        obtain ⟨bb1, bb2⟩ := hSI.bits (i := i) (n := G.length) g1 hW.symm g2 hk6
        obtain ⟨l1, _, n1⟩ := hSI.row (i := i) (n := G.length) g1 hW.symm
        have lm : (mrk g i G.length).length = W := by
          unfold mrk
          rw [List.length_append, List.length_map, List.length_range]
          omega
        have sT := same_upd (o := .tup [.int (i : Nat), .ref wa]) hT
        have eT : (upd H1 T (.tup [.int (i : Nat), .ref wa])) T = some (.tup [.int (i : Nat), .ref wa]) := upd_same
        generalize upd H1 T (.tup [.int (i : Nat), .ref wa]) = H2 at sT eT ⊢
        have s2 := s1.trans sT
        refine ⟨_, _, rfl, SqT.of eT, rfl, _, _, rfl, _, _, rfl, rfl, ?_⟩
        refine ⟨_, rfl, _, rfl, _, rfl, l, _, rfl, .inl (s2.seq h1), wa, i, G.length, g, by rw [Ro_len, lg]; rfl, hw1.up s2, by omega, by omega, fun H3 r0 s3 hr0 _ => ?_⟩
        have hK3 := hK.up (sT.trans s3)
        obtain ⟨ks, q1, q2, q3⟩ := hK3
        have lk : ks.length = kept.length := by rw [← q3, List.length_map]
        refine ⟨fun σ' H' => ∃ (r : Addr) (v6 v7 : Option V), σ' = [some (.ref l), some (.int (m : Nat)), some (.ref kp), some (.int (i : Nat)), some (.ref wa), some (.ref r), v6, v7, v8, v9, v10, none, none, none] ∧ Same H3 H' ∧ RowAt K H' r (red kept (mrk g i G.length)), ?_, ?_⟩
        · refine ⟨_, rfl, kp, rfl, ⟨_, q1⟩, for_list (K := K) (a := kp) (xs := Ro ks) (fun j σ' H' => ∃ (r : Addr) (v6 v7 : Option V), σ' = [some (.ref l), some (.int (m : Nat)), some (.ref kp), some (.int (i : Nat)), some (.ref wa), some (.ref r), v6, v7, v8, v9, v10, none, none, none] ∧ Same H3 H' ∧ RowAt K H' r (red (kept.take j) (mrk g i G.length))) ⟨r0, _, _, rfl, Same.refl _, hr0⟩ ?_ ?_ ?_⟩
          · rintro j σ' H' _ ⟨r, v6, v7, rfl, s4, _⟩
            exact s4.seq q1
          · rintro j v σ' H4 hj ⟨r, v6, v7, rfl, s4, hr⟩
            obtain ⟨w2, rfl, hw2⟩ := Ro_get hj
            have hkj : kept[j]? = some w2.2 := map_at q3 hw2
            have hjl : j < kept.length := (List.getElem?_eq_some_iff.mp hkj).1
            have mk2 := List.mem_of_getElem? hkj
            obtain ⟨b, u1, u2⟩ := (q2 w2 (List.mem_of_getElem? hw2)).up s4
            have lr : (red (kept.take j) (mrk g i G.length)).length = W := red_len (fun p hp => hSI.ki.len p (List.mem_of_mem_take hp)) lm
            have lb := hSI.ki.len _ mk2
            have ll := hSI.ki.lt _ mk2
            refine ⟨w2.1, _, rfl, u1, rfl, _, _, rfl, _, _, rfl, rfl, ?_⟩
            refine ⟨_, rfl, _, rfl, _, rfl, r, b, w2.2.1, _, w2.2.2, rfl, hr, u2, by omega, by omega, by omega, bb2 j (by omega), bb1 _ mk2, fun H5 t5 s5 hr5 _ => ?_⟩
            rw [red_snoc hkj]
            exact ⟨t5, _, _, rfl, s4.trans s5, hr5⟩
          · rintro σ' H4 ⟨r, v6, v7, rfl, s4, hr⟩
            rw [Ro_len, lk, List.take_length] at hr
            exact ⟨r, v6, v7, rfl, s4, hr⟩
        rintro σ' H4 ⟨r, v6, v7, rfl, s4, hr⟩
        have bb := bb2 kept.length (Nat.le_refl _)
        rw [List.take_length] at bb
        have s14 := s2.trans (s3.trans s4)
        refine ⟨_, rfl, _, rfl, r, m, _, rfl, hr, by omega, by omega, fun a ha ha0 _ => ?_, fun hz => ?_⟩
        · refine ⟨_, rfl, rfl, _, rfl, iteT' rfl ?_⟩
          have lr := l1
          generalize hrr : red kept (mrk g i G.length) = rr at *
          obtain ⟨ws, w1, w2, w3⟩ := hr
          obtain ⟨fa, fa1, fa2, fa3⟩ := RowAt.get (K := K) w2 w3 (show a < rr.length by omega)
          have bf := bb _ fa3
          refine ⟨_, rfl, _, rfl, r, _, _, V.ref fa, rfl, rfl, SqL.of w1, atI_nat fa1, ?_⟩
          refine ⟨_, rfl, r, rfl, ⟨_, SqL.of w1⟩, fun D hD => ?_⟩
          have lw : ws.length = rr.length := by rw [← w3, List.length_map]
          refine lc_row (K := K) (walk_list (K := K) (a := r) (xs := fr ws)) (rr.map fun x => x / rr.getD a 0) (by rw [List.length_map, fr_len]; omega) (by rw [fr_len]; omega) hD (fun H2 s2 => SqL.of (s2 _ _ w1)) ?_ ?_
          · rintro j c v H5 H6 kk hc s5 ⟨rfl, hg⟩ kk2
            obtain ⟨w', rfl, hw'⟩ := fr_get hg
            rw [← w3, List.getElem?_map, List.getElem?_map, hw', w3] at hc
            obtain rfl : w'.2 / rr.getD a 0 = c := Option.some.inj hc
            have m1 : w' ∈ ws := List.mem_of_getElem? hw'
            have bw : Bd 1000 w'.2 := bb _ (by rw [← w3]; exact List.mem_map_of_mem m1)
            exact ⟨rfl, _, rfl, _, rfl, w'.1, fa, w'.2, rr.getD a 0, rfl, (w2 w' m1).same s5, fa2.same s5, bw.up (by decide), bf.up (by decide), ha0, fun H7 t7 s7 f7 => kk2 t7 H7 s7 f7⟩
          intro H5 us s5 e5 r5 m5
          have hrow2 : RowAt K H5 D (rr.map fun x => x / rr.getD a 0) := ⟨us, e5, r5, m5⟩
          have hSI2 := hSI.plus (i := i) (n := G.length) g1 hW.symm g2 hk6 ha (by rw [hrr]; exact ha0)
          have hMI2 := hMI.plus (n := G.length) hSI hW.symm g1 hgi hiG ha (by rw [hrr]; exact ha0)
          rw [hrr] at hMI2
          rw [hrr, ← htake] at hSI2
          clear hrr
          have l2 : (rr.map fun x => x / rr.getD a 0).length = W := by rw [List.length_map]; exact lr
          generalize (rr.map fun x => x / rr.getD a 0) = r2 at hrow2 hSI2 l2 hMI2
          have kl : (kplus kept a r2).length = kept.length + 1 := by
            unfold kplus
            rw [List.length_append, List.length_map]
            rfl
          have kf := hSI2.ki.few
          have br2 : ∀ x ∈ r2, Bd 1000 x := fun x hx => (hSI2.jb.bd (p := (a, r2)) (List.mem_append_right _ List.mem_cons_self) x hx).up (Nat.le_trans (jb_le (by omega)) (by decide))
          have q1' := s5.seq (s4.seq q1)
          refine ⟨_, rfl, kp, rfl, ⟨_, q1'⟩, fun D2 hD2 => ?_⟩
          refine lc_relD (walk_list (K := K) (a := kp) (xs := Ro ks)) (kept.map fun p => (p.1, clr a r2 p.2)) (by rw [List.length_map, Ro_len, lk]) (by rw [Ro_len]; omega) hD2 (PairAt K D2) (fun s h => h.up s) (fun h hl s => h.over hl s) (fun H2 s2 => s2.seq q1') ?_ ?_
          · rintro j c v H6 H7 kk hc s6 ⟨ys, hys⟩ ⟨rfl, hg⟩ kk2
            obtain ⟨w2, rfl, hw2⟩ := Ro_get hg
            have hkj : kept[j]? = some w2.2 := map_at q3 hw2
            have mk2 := List.mem_of_getElem? hkj
            rw [List.getElem?_map, hkj] at hc
            obtain rfl : (w2.2.1, clr a r2 w2.2.2) = c := Option.some.inj hc
            have hb5 := (q2 w2 (List.mem_of_getElem? hw2)).up (s4.trans s5)
            obtain ⟨b, u1, u2⟩ := hb5
            have lb := hSI.ki.len _ mk2
            refine ⟨w2.1, _, rfl, same_tup s6 u1, rfl, _, _, rfl, _, _, rfl, rfl, rfl, ?_⟩
            refine ⟨_, rfl, _, rfl, _, rfl, _, rfl, b, D, a, w2.2.2, r2, rfl, u2.up s6, hrow2.up s6, by omega, by omega, by omega, bb1 _ mk2, br2, fun H8 t8 s8 hr8 ho => ?_⟩
            refine ⟨by show 2 ≤ sizeLine; decide, fun t9 n9 => ?_⟩
            have s9 := same_upd (o := .tup [.int (w2.2.1 : Int), .ref t8]) n9
            refine kk2 t9 _ (s8.trans s9) ⟨t8, ?_, SqT.of upd_same, hr8.up s9⟩
            rcases ho with rfl | ho
            · exact u2.ne hD2
            · intro e
              rw [e, hys] at ho
              cases ho
          intro H6 ks2 s6 e6 r6 m6
          refine ⟨_, rfl, _, rfl, by show 2 ≤ sizeLine; decide, fun t7 n7 => ?_⟩
          have s7 := same_upd (o := .tup [.int (a : Int), .ref D]) n7
          have e7 : (upd H6 t7 (.tup [.int (a : Int), .ref D])) t7 = some (.tup [.int (a : Int), .ref D]) := upd_same
          generalize upd H6 t7 (.tup [.int (a : Int), .ref D]) = H7 at s7 e7 ⊢
          refine ⟨by show 1 ≤ sizeLine; decide, fun L8 n8 => ?_⟩
          have s8 := same_upd (o := .lst [.ref t7]) n8
          have e8 : (upd H7 L8 (.lst [.ref t7])) L8 = some (.lst [.ref t7]) := upd_same
          generalize upd H7 L8 (.lst [.ref t7]) = H8 at s8 e8 ⊢
          have lk2 : ks2.length = kept.length := by
            have := congrArg List.length m6
            rw [List.length_map, List.length_map] at this
            exact this
          refine ⟨D2, L8, Ro ks2, [.ref t7], rfl, rfl, s8 _ _ (s7 _ _ e6), e8, by rw [Ro_len]; exact Nat.le_of_lt (small1000 (by show _ + 1 ≤ 1000; omega)), fun P9 n9 => ?_⟩
          have s9 := same_upd (o := .lst (Ro ks2 ++ [.ref t7])) n9
          have s69 := s7.trans (s8.trans s9)
          refine ⟨P9, kplus kept a r2, _, _, _, _, _, _, _, _, rfl, s14.trans (s5.trans (s6.trans s69)), hSI2, ⟨ks2 ++ [(t7, (a, r2))], ?_, ?_, ?_⟩, hMI2⟩
          · rw [show Ro (ks2 ++ [(t7, (a, r2))]) = Ro ks2 ++ [.ref t7] from List.map_append]
            exact SqL.of upd_same
          · intro w hw
            rcases List.mem_append.mp hw with h | h
            · exact (r6 w h).any.up s69
            · rw [List.mem_singleton.mp h]
              exact ⟨D, same_tup (s8.trans s9) (SqT.of e7), hrow2.up (s6.trans s69)⟩
          · rw [List.map_append, m6]
            rfl
        · refine ⟨_, rfl, rfl, _, rfl, iteF' rfl ?_⟩
          obtain ⟨ws, w1, w2, w3⟩ := hr
          have lw : ws.length = W := by rw [← l1, ← w3, List.length_map]
          obtain ⟨ga, gw1, gw2, gw3⟩ := hw1.up s14
          have lga : ga.length = M := by rw [← g1, ← gw3, List.length_map]
          have hle := hSI.le
          refine ⟨_, rfl, _, rfl, _, rfl, _, rfl, wa, _, rfl, .inl (SqL.of gw1), ?_⟩
          refine ⟨_, rfl, r, fr ws, rfl, SqL.of w1, fun p5 n5 => ?_⟩
          have ecut : cutV (fr ws) (some ((m : Nat) : Int)) (some ((fr ga).length : Int)) = fr ((ws.drop m).take (M - m)) := by
            rw [fr_len, lga, show ((M : Nat) : Int) = ((m + (M - m) : Nat) : Int) by omega, cutV_part (by rw [fr_len]; omega), fr_take, fr_drop]
          rw [ecut]
          obtain ⟨mid, hmid⟩ : ∃ mid, mid = (ws.drop m).take (M - m) := ⟨_, rfl⟩
          rw [← hmid]
          have midl : mid.length = M - m := by
            rw [hmid, List.length_take, List.length_drop]
            omega
          have midm : ∀ x ∈ mid, x ∈ ws := fun x hx => List.mem_of_mem_drop (List.mem_of_mem_take (by rw [← hmid]; exact hx))
          have mida : ∀ (j : Nat) (w : Addr × Rat), mid[j]? = some w → (red kept (mrk g i G.length)).getD (m + j) 0 = w.2 := fun j w hj => by
            have hjl : j < M - m := by
              have := (List.getElem?_eq_some_iff.mp hj).1
              omega
            rw [hmid, List.getElem?_take, if_pos hjl, List.getElem?_drop] at hj
            rw [← w3, List.getD_eq_getElem?_getD, List.getElem?_map, hj]
            rfl
          have s5 := same_upd (o := .lst (fr mid)) n5
          have e5 : (upd H4 p5 (.lst (fr mid))) p5 = some (.lst (fr mid)) := upd_same
          generalize upd H4 p5 (.lst (fr mid)) = H5 at s5 e5 ⊢
          refine ⟨p5, rfl, ⟨_, SqL.of e5⟩, fun D hD => ?_⟩
          refine lc_val (walk_list (K := K) (a := p5) (xs := fr mid)) (mid.map fun w => V.bl (!decide (w.2 = 0))) (by rw [List.length_map, fr_len]) (by rw [fr_len]; omega) hD (fun H2 s2 => SqL.of (s2 _ _ e5)) ?_ ?_
          · rintro j c v H6 H7 kk hc s6 ⟨rfl, hg⟩ kk2
            obtain ⟨w', rfl, hw'⟩ := fr_get hg
            rw [List.getElem?_map, hw'] at hc
            obtain rfl : V.bl (!decide (w'.2 = 0)) = c := Option.some.inj hc
            refine ⟨rfl, _, rfl, _, _, dpr ((w2 _ (midm _ (List.mem_of_getElem? hw'))).same (s5.trans s6)), dpr (show Fx K H7 aZERO 0 from CT.tZERO H7), sh1 _, sh1 _, ?_⟩
            rw [eqvr]
            exact kk2 _ (Same.refl _)
          intro H6 s6 e6
          have s16 := s14.trans (s5.trans s6)
          have e6' : H6 D = some (.lst ((mid.map fun w => (!decide (w.2 = 0))).map V.bl)) := by
            rw [List.map_map]
            exact e6
          refine ⟨D, mid.map fun w => (!decide (w.2 = 0)), rfl, SqL.of e6', _, rfl, ?_⟩
          by_cases hb0 : ∀ c, m ≤ c → c < M → (red kept (mrk g i G.length)).getD c 0 = 0
          · refine iteF' (by
              rw [List.any_eq_false]
              intro b hb
              obtain ⟨w, hw, rfl⟩ := List.mem_map.mp hb
              obtain ⟨j, hj⟩ := List.mem_iff_getElem?.mp hw
              have hjl : j < M - m := by
                have := (List.getElem?_eq_some_iff.mp hj).1
                omega
              have := hb0 (m + j) (by omega) (by omega)
              rw [mida j w hj] at this
              simp [this]) ?_
            have hSI2 := hSI.drop (i := i) (n := G.length) g1 hW.symm (fun k hk => by
              rcases Nat.lt_or_ge k m with g | g
              · exact hz k g
              · exact hb0 k g hk)
            rw [← htake] at hSI2
            exact ⟨kp, kept, _, _, _, _, _, _, _, _, rfl, s16, hSI2, hK.up (sT.trans (s3.trans (s4.trans (s5.trans s6)))), hMI.up⟩
          · have hex : ∃ c, m ≤ c ∧ c < M ∧ (red kept (mrk g i G.length)).getD c 0 ≠ 0 := by
              refine Classical.byContradiction fun hn => hb0 fun c c1 c2 => Classical.byContradiction fun z => hn ⟨c, c1, c2, z⟩
            obtain ⟨c, cx1, cx2, cx3⟩ := hex
            refine iteT' (by
              rw [List.any_eq_true]
              have hc : c - m < mid.length := by omega
              have hj : mid[c - m]? = some mid[c - m] := List.getElem?_eq_getElem hc
              have e := mida _ _ hj
              rw [show m + (c - m) = c by omega] at e
              rw [e] at cx3
              exact ⟨_, List.mem_map.mpr ⟨_, List.getElem_mem hc, rfl⟩, by simp [cx3]⟩) ?_
            have hC := hMI.conflict (n := G.length) hSI hW.symm rfl g1 hgi hz ⟨c, cx2, cx3⟩
            obtain ⟨μ, hμ⟩ : ∃ μ : Nat → Rat, μ = fun k => (red kept (mrk g i G.length)).getD (M + k) 0 := ⟨_, rfl⟩
            rw [← hμ] at hC
            have s46 := s5.trans s6
            refine ⟨_, rfl, _, rfl, wa, _, rfl, .inl (SqL.of (s46 _ _ gw1)), ?_⟩
            refine ⟨_, rfl, r, fr ws, rfl, SqL.of (s46 _ _ w1), fun p7 n7 => ?_⟩
            have ecut7 : cutV (fr ws) (some ((fr ga).length : Int)) none = fr (ws.drop M) := by
              rw [fr_len, lga, cutV_from (by rw [fr_len]; omega), fr_drop]
            rw [ecut7]
            have s7 := same_upd (o := .lst (fr (ws.drop M))) n7
            have e7 : (upd H6 p7 (.lst (fr (ws.drop M)))) p7 = some (.lst (fr (ws.drop M))) := upd_same
            generalize upd H6 p7 (.lst (fr (ws.drop M))) = H7 at s7 e7 ⊢
            have s47 := s46.trans s7
            have ldr : (ws.drop M).length = G.length := by rw [List.length_drop]; omega
            refine ⟨_, rfl, p7, fr (ws.drop M), rfl, SqL.of e7, fun D8 n8 => ?_⟩
            obtain ⟨L, hL⟩ : ∃ L : List (Option V), L = (List.range G.length).map fun k => if μ k = 0 then none else some (V.int ((0 + k : Nat) : Int)) := ⟨_, rfl⟩
            refine lc_vv (walk_enum (K := K) (a := p7) (xs := fr (ws.drop M))) L (by rw [hL, List.length_map, List.length_range, fr_len, ldr]) (by rw [fr_len]; omega) n8 (fun H2 s2 => SqL.of (s2 _ _ e7)) ?_ ?_
            · rintro i2 c x H9 H10 kk kn hc s9 ⟨T2, x1, y1, rfl, hT2, rfl, hx2, hy2⟩ hk hkn
              obtain rfl : V.int (i2 : Nat) = x1 := Option.some.inj hx2
              obtain ⟨w', rfl, hw'⟩ := fr_get hy2
              have hi2 : i2 < G.length := by
                have := (List.getElem?_eq_some_iff.mp hw').1
                omega
              have hw3 : ws[M + i2]? = some w' := by
                rw [List.getElem?_drop] at hw'
                exact hw'
              have hr2 : μ i2 = w'.2 := by
                rw [hμ]
                show (red kept (mrk g i G.length)).getD (M + i2) 0 = w'.2
                rw [← w3, List.getD_eq_getElem?_getD, List.getElem?_map, hw3]
                rfl
              rw [hL, List.getElem?_map, List.getElem?_range hi2] at hc
              have hc2 : (if μ i2 = 0 then none else some (V.int ((0 + i2 : Nat) : Int))) = c := Option.some.inj hc
              have sT2 := same_upd (o := .tup [.int (i2 : Nat), .ref w'.1]) hT2
              have eT2 : (upd H9 T2 (.tup [.int (i2 : Nat), .ref w'.1])) T2 = some (.tup [.int (i2 : Nat), .ref w'.1]) := upd_same
              generalize upd H9 T2 (.tup [.int (i2 : Nat), .ref w'.1]) = H11 at sT2 eT2 ⊢
              have fw : Fx K H11 w'.1 w'.2 := (w2 _ (List.mem_of_getElem? hw3)).same (s47.trans (s9.trans sT2))
              refine ⟨_, _, rfl, SqT.of eT2, rfl, _, _, rfl, _, _, rfl, rfl, rfl, ?_⟩
              refine ⟨_, rfl, _, _, dpr fw, dpr (show Fx K H11 aZERO 0 from CT.tZERO H11), sh1 _, sh1 _, ?_⟩
              rw [eqvr]
              refine ⟨_, rfl, ?_⟩
              by_cases h0 : w'.2 = 0
              · rw [if_pos (hr2.trans h0)] at hc2
                refine iteF' (by rw [decide_eq_true h0]; rfl) ?_
                exact hkn hc2.symm _ sT2
              · rw [if_neg (fun z => h0 (hr2.symm.trans z)), Nat.zero_add] at hc2
                refine iteT' (by rw [decide_eq_false h0]; rfl) ?_
                exact ⟨_, rfl, hk _ hc2.symm _ sT2⟩
            intro H8 s8 e8
            rw [hL, fm_ints (fun k => μ k = 0) 0] at e8
            refine ⟨by show 2 ≤ sizeLine; decide, fun t9 n9 => ?_⟩
            have s9 := same_upd (o := .tup [.str "conflict", .ref D8]) n9
            refine k2 _ t9 D8 i μ (s14.trans (s47.trans (s8.trans s9))) hC (SqT.of upd_same) ?_
            rw [s9 _ _ e8, List.map_map]
            refine congrArg (fun x => some (HO.lst x)) (List.map_congr_left fun k _ => ?_)
            show V.int ((0 + k : Nat) : Int) = V.int (k : Nat)
            rw [Nat.zero_add]
      · rintro σ' H' ⟨kp, kept, v3, v4, v5, v6, v7, v8, v9, v10, rfl, s1, hSI, hK, _⟩
        rw [Ro_len, lg, List.take_length] at hSI
        exact ⟨kp, kept, _, _, _, _, _, _, _, _, rfl, s1, hSI, hK⟩
    rintro σ' H1 ⟨kp, kept, v3, v4, v5, v6, v7, v8, v9, v10, rfl, s1, hSI, hK⟩
    obtain ⟨ks, q1, q2, q3⟩ := hK
    have lk : ks.length = kept.length := by rw [← q3, List.length_map]
    have kf := hSI.ki.few
    refine ⟨_, rfl, kp, rfl, ⟨_, q1⟩, fun D hD => ?_⟩
    refine lc_relD (walk_list (K := K) (a := kp) (xs := Ro ks)) (kept.map fun p => (p.1, p.2.take M)) (by rw [List.length_map, Ro_len, lk]) (by rw [Ro_len]; omega) hD (PairAt K D) (fun s h => h.up s) (fun h hl s => h.over hl s) (fun H2 s2 => s2.seq q1) ?_ ?_
    · rintro j c v H6 H7 kk hc s6 ⟨ys, hys⟩ ⟨rfl, hg⟩ kk2
      obtain ⟨w2, rfl, hw2⟩ := Ro_get hg
      have hkj : kept[j]? = some w2.2 := map_at q3 hw2
      have mk2 := List.mem_of_getElem? hkj
      rw [List.getElem?_map, hkj] at hc
      obtain rfl : (w2.2.1, w2.2.2.take M) = c := Option.some.inj hc
      have lb := hSI.ki.len _ mk2
      obtain ⟨b, u1, ws, w1, w2', w3⟩ := (q2 w2 (List.mem_of_getElem? hw2)).up s6
      have lw : ws.length = W := by rw [← lb, ← w3, List.length_map]
      refine ⟨w2.1, _, rfl, u1, rfl, _, _, rfl, _, _, rfl, rfl, rfl, ?_⟩
      refine ⟨_, rfl, _, rfl, _, rfl, b, _, rfl, .inl (SqL.of w1), _, rfl, l, _, rfl, .inl (s6.seq (s1.seq h1)), _, _, rfl, rfl, ?_⟩
      refine ⟨_, rfl, b, fr ws, rfl, SqL.of w1, fun t8 n8 => ?_⟩
      have ecut : cutV (fr ws) none (some (((fr ws).length : Int) - ((Ro gs).length : Int))) = fr (ws.take M) := by
        rw [fr_len, Ro_len, lw, lg, show ((W : Nat) : Int) - ((G.length : Nat) : Int) = ((M : Nat) : Int) by omega, cutV_to (by rw [fr_len]; omega), fr_take]
      dsimp only
      rw [ecut]
      have s8 := same_upd (o := .lst (fr (ws.take M))) n8
      have e8 : (upd H7 t8 (.lst (fr (ws.take M)))) t8 = some (.lst (fr (ws.take M))) := upd_same
      have hne : t8 ≠ D := fun e => by
        rw [e, hys] at n8
        cases n8
      generalize upd H7 t8 (.lst (fr (ws.take M))) = H8 at s8 e8 ⊢
      refine ⟨by show 2 ≤ sizeLine; decide, fun t9 n9 => ?_⟩
      have s9 := same_upd (o := .tup [.int (w2.2.1 : Int), .ref t8]) n9
      exact kk2 t9 _ (s8.trans s9) ⟨t8, hne, SqT.of upd_same, ws.take M, s9 _ _ e8, fun w hw => (w2' w (List.mem_of_mem_take hw)).same (s8.trans s9), by rw [List.map_take, w3]⟩
    intro H6 ks2 s6 e6 r6 m6
    refine ⟨by show 2 ≤ sizeLine; decide, fun t7 n7 => ?_⟩
    have s7 := same_upd (o := .tup [.str "kept", .ref D]) n7
    exact k1 _ t7 D kept (s1.trans (s6.trans s7)) hSI (SqT.of upd_same) ⟨ks2, SqL.of (s7 _ _ e6), (fun w hw => ((r6 w hw).up s7).any), m6⟩
def spWorthTold (K : PySem.W.Frag) : Sp := fun vs H Q _ => ∃ (u : Addr) (j m M : Nat) (kept : List (Nat × List Rat)), vs = [.ref u, .int j, .int m] ∧ KeptAt K H u kept ∧ kept.length ≤ 10 ∧ (∀ p ∈ kept, p.2.length = M) ∧ m ≤ M ∧ m ≤ 9 ∧ (∀ p ∈ kept, p.1 = j → (∀ k < m, k ≠ j → p.2.getD k 0 = 0) → ∀ (H' : Hp) (t : Addr), Same H H' → RowAt K H' t (p.2.drop m) → H t = none → Q (.ref t) H') ∧ ((∀ p ∈ kept, ¬ (p.1 = j ∧ ∀ k < m, k ≠ j → p.2.getD k 0 = 0)) → ∀ H', Same H H' → Q .non H')
theorem okWorthTold {fWorthTold : Addr} {fdWorthTold : FuncData} (F : Fun K "worth_told" "worth_told" sWorthTold fWorthTold fdWorthTold) (T : Txt mg) {aZERO : Addr} {aONE : Addr} (CT : Cons K mg aZERO aONE) {CPartError CNought : Addr} (EX : Exns K mg CPartError CNought) :
    FnOk P w K mg base CX0 1 fWorthTold fdWorthTold ["kept", "at", "many"] (spWorthTold K) := by
  refine F.ok scWorthTold (fun vs H Q E h => ?_) (fun cdv A outer s H vs Q E hr h => ?_)
  · obtain ⟨u, j, m, M, kept, rfl, ⟨ks, q1, q2, q3⟩, h10, hlen, hmM, hm, k1, k2⟩ := h
    rfl
  · obtain ⟨u, j, m, M, kept, rfl, ⟨ks, q1, q2, q3⟩, h10, hlen, hmM, hm, k1, k2⟩ := h
    refine ⟨_, (C8.pss_cut (ps_for PassesOwn.never rfl (pi_list (pv 0)) (pg_tup rfl (pgs_cons (pg_name (i := 3) scWorthTold.nd rfl (Or.inl rfl)) (pgs_cons (pg_name (i := 4) scWorthTold.nd rfl (Or.inl rfl)) pgs_nil)))
        (pss_one (ps_if (PW.pt (pw_and (pt_cmpR op_eq (pv 3) (pv 1) (nomark _)) (pw_and1 (pt_val (pe_callB (cr_all rfl) (by rfl) T.all (by decide +kernel) (pa_cons (pe_lc (own := [("k", 5), ("part", 6)]) (by rfl) scWorthTold.nd (pi_enum (by rfl) T.enumerate (pa_cons (pe_slice sl_list (pv 4) po_none (po_some (pv 2))) pa_nil)) (blkOk_by (own := [("k", 5), ("part", 6)]) (N := ["kept", "at", "many", "lead", "row", "k", "part"]) (sc := defScope sWorthTold) (by decide +kernel)) (fun _ _ _ _ _ => (show PG _ _ (gTup K 2 _) from (pg_tup rfl (pgs_cons (pg_name (i := 5) scWorthTold.nd rfl (Or.inl rfl)) (pgs_cons (pg_name (i := 6) scWorthTold.nd rfl (Or.inl rfl)) pgs_nil))))) (fun _ _ _ _ _ => pts_one (pt_cmpR op_ne (pv 5) (pv 1) (nomark _))) (fun _ _ _ _ _ => (pe_cmpR (show OpR _ _ (rEqD K) from op_eqD hr.units) (pv 6) (pe_glob (v := .ref aZERO) (by rfl) CT.gZERO rfl) (nomark _)))) pa_nil))))))
          (pss_one (ps_ret (pe_slice sl_list (pv 4) (po_some (pv 2)) po_none)))
          pss_nil)))
      (pss_one (ps_ret pe_non))), ?_⟩
    have lk : ks.length = kept.length := by rw [← q3, List.length_map]
    refine ⟨fun σ' H' => Same H H' ∧ ∀ p ∈ kept, ¬ (p.1 = j ∧ ∀ k < m, k ≠ j → p.2.getD k 0 = 0), ?_, ?_⟩
    · refine ⟨_, rfl, u, rfl, ⟨_, q1⟩, for_list (K := K) (a := u) (xs := Ro ks) (fun i σ' H' => Same H H' ∧ (∃ v3 v4 : Option V, σ' = [some (.ref u), some (.int (j : Nat)), some (.int (m : Nat)), v3, v4, none, none]) ∧ ∀ p ∈ kept.take i, ¬ (p.1 = j ∧ ∀ k < m, k ≠ j → p.2.getD k 0 = 0)) ⟨Same.refl _, ⟨_, _, rfl⟩, fun _ h => nomatch h⟩ ?_ ?_ ?_⟩
      · rintro i σ' H' _ ⟨s1, _⟩
        exact s1.seq q1
      · rintro i v σ' H1 hi ⟨s1, ⟨v3, v4, rfl⟩, hz⟩
        obtain ⟨w2, rfl, hw2⟩ := Ro_get hi
        have hkj : kept[i]? = some w2.2 := map_at q3 hw2
        have mk2 := List.mem_of_getElem? hkj
        obtain ⟨wt, ⟨ld, row⟩⟩ := w2
        obtain ⟨b, u1, ws, w1, w2', w3⟩ := (q2 _ (List.mem_of_getElem? hw2)).up s1
        dsimp only at hkj mk2 u1 w3
        have lw : ws.length = M := by rw [← hlen _ mk2, ← w3, List.length_map]
        have htk : kept.take (i + 1) = kept.take i ++ [(ld, row)] := by
          rw [List.take_add_one, hkj]
          rfl
        have no : ∀ H', Same H1 H' → ¬ (ld = j ∧ ∀ k < m, k ≠ j → row.getD k 0 = 0) → Same H H' ∧ (∃ v3 v4 : Option V, [some (V.ref u), some (V.int (j : Nat)), some (V.int (m : Nat)), some (V.int (ld : Nat)), some (V.ref b), none, none] = [some (.ref u), some (.int (j : Nat)), some (.int (m : Nat)), v3, v4, none, none]) ∧ ∀ p ∈ kept.take (i + 1), ¬ (p.1 = j ∧ ∀ k < m, k ≠ j → p.2.getD k 0 = 0) := fun H' s2 hn => ⟨s1.trans s2, ⟨_, _, rfl⟩, fun p hp => by
          rw [htk] at hp
          rcases List.mem_append.mp hp with h | h
          · exact hz p h
          · rw [List.mem_singleton.mp h]
            exact hn⟩
        refine ⟨wt, _, rfl, u1, rfl, _, _, rfl, _, _, rfl, rfl, ?_⟩
        refine ⟨_, rfl, _, rfl, rfl, _, rfl, ite2 (fun g => ?_) (fun g => ?_)⟩
        · have g1 : ld = j := by have := eq_of_dec g; omega
          refine ⟨_, rfl, _, rfl, _, rfl, b, fr ws, rfl, SqL.of w1, fun p5 n5 => ?_⟩
          rw [cutV_to (by rw [fr_len]; omega), ← fr_take]
          have s5 := same_upd (o := .lst (fr (ws.take m))) n5
          have e5 : (upd H1 p5 (.lst (fr (ws.take m)))) p5 = some (.lst (fr (ws.take m))) := upd_same
          generalize upd H1 p5 (.lst (fr (ws.take m))) = H5 at s5 e5 ⊢
          obtain ⟨L, hL⟩ : ∃ L : List (Option Bool), L = (List.range m).map fun k => if k = j then none else some (decide (row.getD k 0 = 0)) := ⟨_, rfl⟩
          have hall : (L.filterMap id).all id = true ↔ ∀ k < m, k ≠ j → row.getD k 0 = 0 := by
            rw [List.all_eq_true, hL]
            constructor
            · intro h k hk hne
              have := h (decide (row.getD k 0 = 0)) (List.mem_filterMap.mpr ⟨some (decide (row.getD k 0 = 0)), List.mem_map.mpr ⟨k, List.mem_range.mpr hk, if_neg hne⟩, rfl⟩)
              exact of_decide_eq_true this
            · intro h b hb
              obtain ⟨o, ho, e⟩ := List.mem_filterMap.mp hb
              obtain ⟨k, hk, rfl⟩ := List.mem_map.mp ho
              by_cases hkj2 : k = j
              · rw [if_pos hkj2] at e
                cases e
              · rw [if_neg hkj2] at e
                obtain rfl : decide (row.getD k 0 = 0) = b := Option.some.inj e
                exact decide_eq_true (h k (List.mem_range.mp hk) hkj2)
          refine ⟨p5, fr (ws.take m), rfl, SqL.of e5, fun D hD => ?_⟩
          refine lc_bl (walk_enum (K := K) (a := p5) (xs := fr (ws.take m))) L (by rw [hL, List.length_map, List.length_range, fr_len, List.length_take]; omega) (by rw [fr_len, List.length_take]; omega) hD (fun H2 s2 => SqL.of (s2 _ _ e5)) ?_ ?_
          · rintro i2 c x H6 H7 kk kn hc s6 ⟨T, x1, y1, rfl, hT, rfl, hx, hy⟩ hk hkn
            obtain rfl : V.int (i2 : Nat) = x1 := Option.some.inj hx
            obtain ⟨w', rfl, hw'⟩ := fr_get hy
            have hi2 : i2 < m := by
              have := (List.getElem?_eq_some_iff.mp hw').1
              rw [List.length_take] at this
              omega
            have hw3 : ws[i2]? = some w' := by
              rw [List.getElem?_take, if_pos hi2] at hw'
              exact hw'
            have hr2 : row.getD i2 0 = w'.2 := by
              rw [← w3, List.getD_eq_getElem?_getD, List.getElem?_map, hw3]
              rfl
            rw [hL, List.getElem?_map, List.getElem?_range hi2] at hc
            have hc2 : (if i2 = j then none else some (decide (row.getD i2 0 = 0))) = c := Option.some.inj hc
            have sT := same_upd (o := .tup [.int (i2 : Nat), .ref w'.1]) hT
            have eT : (upd H6 T (.tup [.int (i2 : Nat), .ref w'.1])) T = some (.tup [.int (i2 : Nat), .ref w'.1]) := upd_same
            generalize upd H6 T (.tup [.int (i2 : Nat), .ref w'.1]) = H8 at sT eT ⊢
            have fw : Fx K H8 w'.1 w'.2 := (w2' _ (List.mem_of_getElem? hw3)).same (s5.trans (s6.trans sT))
            refine ⟨_, _, rfl, SqT.of eT, rfl, _, _, rfl, _, _, rfl, rfl, rfl, ?_⟩
            refine ⟨_, rfl, _, rfl, rfl, _, rfl, ite2 (fun g2 => ?_) (fun g2 => ?_)⟩
            · have g3 : i2 ≠ j := fun z => ne_of_bang g2 (by rw [z])
              rw [if_neg g3] at hc2
              refine ⟨_, rfl, _, _, dpr fw, dpr (show Fx K H8 aZERO 0 from CT.tZERO H8), sh1 _, sh1 _, ?_⟩
              rw [eqvr, ← hr2]
              exact hk _ hc2.symm _ sT
            · have g3 : i2 = j := by have := eq_of_nobang g2; omega
              rw [if_pos g3] at hc2
              exact hkn hc2.symm _ sT
          intro H6 s6 e6
          refine ⟨D, L.filterMap id, rfl, SqL.of e6, _, rfl, ite2 (fun g2 => ?_) (fun g2 => ?_)⟩
          · have hz2 := hall.mp g2
            refine ⟨_, rfl, _, rfl, _, rfl, b, fr ws, rfl, SqL.of ((s5.trans s6) _ _ w1), fun p7 n7 => ?_⟩
            rw [cutV_from (by rw [fr_len]; omega), ← fr_drop]
            have s7 := same_upd (o := .lst (fr (ws.drop m))) n7
            exact k1 (ld, row) mk2 g1 hz2 _ p7 (s1.trans (s5.trans (s6.trans s7))) ⟨ws.drop m, upd_same, fun w hw => (w2' w (List.mem_of_mem_drop hw)).same (s5.trans (s6.trans s7)), by rw [List.map_drop, w3]⟩ (none_back (s1.trans (s5.trans s6)) n7)
          · exact no H6 (s5.trans s6) (fun z => g2 (hall.mpr z.2))
        · have g1 : ld ≠ j := by have := ne_of_nodec g; omega
          exact no H1 (Same.refl _) (fun z => g1 z.1)
      · rintro σ' H' ⟨s1, _, hz⟩
        rw [Ro_len, lk, List.take_length] at hz
        exact ⟨s1, hz⟩
    rintro σ' H' ⟨s1, hz⟩
    exact k2 hz H' s1
def spX2 (K : PySem.W.Frag) (c : Nat) (op : Rat → Rat → Rat) : Sp := fun vs H Q _ => ∃ (a b : Addr) (r s : Rat) (n m : Nat), vs = [.ref a, .ref b] ∧ Fx K H a r ∧ Fx K H b s ∧ Bd n r ∧ Bd m s ∧ n + m ≤ c ∧
  ∀ (H' : Hp) (t : Addr), Same H H' → Fx K H' t (op r s) → Q (.ref t) H'
/-- a value of a base and one slope -/
def V1 (K : PySem.W.Frag) (H : Hp) (t : Addr) (p : Rat × Rat) : Prop := Vx K H t p.1 [p.2]
theorem V1.up {K : PySem.W.Frag} {H H' : Hp} {t : Addr} {p : Rat × Rat} (s : Same H H') (h : V1 K H t p) : V1 K H' t p := Vx.same h s
theorem V1.parts {K : PySem.W.Frag} {H : Hp} {t : Addr} {p : Rat × Rat} (h : V1 K H t p) : ∃ a q b, SqT K H t [.ref a, .ref q] ∧ Fx K H a p.1 ∧ SqT K H q [.ref b] ∧ Fx K H b p.2 := by
  obtain ⟨a, q, ws, h1, h2, h3, h4, h5⟩ := h
  obtain ⟨w, rfl⟩ : ∃ w, ws = [w] := by
    have l : ws.length = 1 := by
      have := congrArg List.length h5
      rw [List.length_map] at this
      exact this
    match ws, l with
    | [w], _ => exact ⟨w, rfl⟩
  have e : w.2 = p.2 := by injection h5
  exact ⟨a, q, w.1, h1, h2, h3, by rw [← e]; exact h4 w List.mem_cons_self⟩
theorem V1.mk {K : PySem.W.Frag} {H : Hp} {t a q b : Addr} {x y : Rat} (h1 : SqT K H t [.ref a, .ref q]) (h2 : Fx K H a x) (h3 : SqT K H q [.ref b]) (h4 : Fx K H b y) : V1 K H t (x, y) :=
  ⟨a, q, [(b, y)], h1, h2, h3, fun w hw => by rw [List.mem_singleton.mp hw]; exact h4, rfl⟩
def spPartsOf (K : PySem.W.Frag) : Sp := fun vs H Q _ => ∃ (t : Addr) (p : Rat × Rat), vs = [.ref t] ∧ V1 K H t p ∧ ∀ (H' : Hp) (u : Addr), Same H H' → RowAt K H' u [p.1, p.2] → H u = none → Q (.ref u) H'
theorem okPartsOf {fPartsOf : Addr} {fdPartsOf : FuncData} (F : Fun K "parts_of" "parts_of" sPartsOf fPartsOf fdPartsOf) (T : Txt mg) {aZERO : Addr} {aONE : Addr} (CT : Cons K mg aZERO aONE) {CPartError CNought : Addr} (EX : Exns K mg CPartError CNought) :
    FnOk P w K mg base CX0 1 fPartsOf fdPartsOf ["found"] (spPartsOf K) := by
  refine F.ok scPartsOf (fun vs H Q E h => ?_) (fun cdv A outer s H vs Q E hr h => ?_)
  · obtain ⟨t, p, rfl, h, k⟩ := h
    rfl
  · obtain ⟨t, p, rfl, h, k⟩ := h
    refine ⟨_, (pss_one (ps_ret (pe_lst (pa_cons (pe_ix ix_tup (pv 0) pe_int (fun _ _ => rfl)) (StX.pa_star (pe_ix ix_tup (pv 0) pe_int (fun _ _ => rfl)) pa_nil))))), ?_⟩
    obtain ⟨a, q, b, h1, h2, h3, h4⟩ := h.parts
    walk_at "go"
    refine ⟨q, _, rfl, .inl h3, ?_⟩
    refine ⟨by show 2 ≤ sizeLine; decide, fun u nu => ?_⟩
    have s1 := same_upd (o := .lst [.ref a, .ref b]) nu
    exact k _ u s1 ⟨[(a, p.1), (b, p.2)], upd_same, fun w hw => by
      rcases List.mem_cons.mp hw with h | h
      · rw [h]; exact h2.same s1
      · rw [List.mem_singleton.mp h]; exact h4.same s1, rfl⟩ nu
def spRowOf (K : PySem.W.Frag) : Sp := fun vs H Q _ => ∃ (m : Nat) (d t : Addr) (f : Nat → Rat) (p : Rat × Rat) (N : Nat), vs = [.int m, .ref d, .ref t] ∧ ShAt K H d f N ∧ V1 K H t p ∧ m ≤ 20 ∧ ∀ (H' : Hp) (u : Addr), Same H H' → RowAt K H' u ((List.range m).map f ++ [p.1, p.2]) → H u = none → Q (.ref u) H'
theorem okRowOf {fRowOf : Addr} {fdRowOf : FuncData} (F : Fun K "row_of" "row_of" sRowOf fRowOf fdRowOf) (T : Txt mg) {aZERO : Addr} {aONE : Addr} (CT : Cons K mg aZERO aONE) {CPartError CNought : Addr} (EX : Exns K mg CPartError CNought)
    {fPartsOf : Addr} {fdPartsOf : FuncData} (GPartsOf : FnOk P w K mg base CX0 1 fPartsOf fdPartsOf ["found"] (spPartsOf K)) (gPartsOf : mg "parts_of" = some (.ref fPartsOf)) (kpPartsOf : PySem.W.keepIn K (.ref fPartsOf) = true) (bPartsOf : Binds K fdPartsOf ["found"] []) :
    FnOk P w K mg base CX0 2 fRowOf fdRowOf ["many", "shares", "found"] (spRowOf K) := by
  refine F.ok scRowOf (fun vs H Q E h => ?_) (fun cdv A outer s H vs Q E hr h => ?_)
  · obtain ⟨m, d, t, f, p, N, rfl, ⟨ks, e1, f1, z1, n1, c1⟩, hT, hm, k⟩ := h
    rfl
  · obtain ⟨m, d, t, f, p, N, rfl, ⟨ks, e1, f1, z1, n1, c1⟩, hT, hm, k⟩ := h
    refine ⟨_, (pss_one (ps_ret (pe_op op_cat (pe_lc (own := [("at", 3)]) (by rfl) scRowOf.nd (pi_range1 rfl T.range (pa_cons (pv 0) pa_nil)) (blkOk_by (own := [("at", 3)]) (N := ["many", "shares", "found", "at"]) (sc := defScope sRowOf) (by decide +kernel)) (fun _ _ _ _ _ => (pg_name (i := 3) scRowOf.nd rfl (Or.inl rfl))) (fun _ _ _ _ _ => pts_nil) (fun _ _ _ _ _ => (pe_dget2 (hu_of hr) (pv 1) (pv 3) (pe_glob (v := .ref aZERO) (by rfl) CT.gZERO rfl) ⟨rfl, rfl, rfl, rfl⟩))) (pe_call GPartsOf hr (by rfl) gPartsOf kpPartsOf bPartsOf .nil pass0 (pa_cons (pv 2) pa_nil))))), ?_⟩
    refine ⟨_, rfl, m, rfl, by omega, by omega, fun D hD => ?_⟩
    refine lc_row (K := K) walk_range ((List.range m).map f) (by simp) (by omega) hD (fun _ _ => trivial) ?_ ?_
    · rintro j c v H2 H3 kk hr s2 ⟨rfl, rfl⟩ kk2
      have hj : j < m := by
        have := (List.getElem?_eq_some_iff.mp hr).1
        rw [List.length_map, List.length_range] at this
        exact this
      rw [List.getElem?_map, List.getElem?_range hj] at hr
      obtain rfl : f j = c := Option.some.inj hr
      have e2 := s2 _ _ e1
      refine ⟨rfl, ?_⟩
      obtain ⟨w, hw1, hw2⟩ := ShAt.get (f := f) (fun p hp => (f1 p hp).same s2) z1 n1 (CT.tZERO _) j
      refine ⟨_, rfl, d, rfl, .inl ⟨_, .inl e2⟩, _, rfl, _, DGet.k (k := Sum.inl ((0 : Int) + (j : Nat))) e2, ?_⟩
      rw [show (0 : Int) + (j : Int) = (j : Int) by omega, hw1]
      exact kk2 w _ (Same.refl _) hw2
    · intro H2 us s2 e2 r2 m2
      refine ⟨_, rfl, t, p, rfl, hT.up s2, fun H3 u s3 ⟨vs, v1, v2, v3⟩ n3 => ?_⟩
      have lu : us.length = m := by
        have := congrArg List.length m2
        rw [List.length_map, List.length_map, List.length_range] at this
        exact this
      have lv : vs.length = 2 := by
        have := congrArg List.length v3
        rw [List.length_map] at this
        exact this
      refine ⟨D, u, fr us, fr vs, rfl, rfl, s3 _ _ e2, v1, by rw [fr_len, fr_len]; exact Nat.le_of_lt (small1000 (by omega)), fun t4 n4 => ?_⟩
      have s4 := same_upd (o := .lst (fr us ++ fr vs)) n4
      have s34 := s3.trans s4
      refine k _ t4 (s2.trans s34) ⟨us ++ vs, ?_, ?_, ?_⟩ (none_back (s2.trans s3) n4)
      · rw [show fr (us ++ vs) = fr us ++ fr vs from List.map_append]
        exact upd_same
      · intro w hw
        rcases List.mem_append.mp hw with h | h
        · exact (r2 w h).same s34
        · exact (v2 w h).same s4
      · rw [List.map_append, m2, v3]
/-- a line of a sketch: its name, its direction, perhaps a point -/
structure Ln where
  nm : Str
  a : Int
  b : Int
  pt : Option ((Rat × Rat) × (Rat × Rat))
def PtAt (K : PySem.W.Frag) (H : Hp) : V → Option ((Rat × Rat) × (Rat × Rat)) → Prop
  | v, none => v = .non
  | v, some (x, y) => ∃ q u w, v = .ref q ∧ SqT K H q [.ref u, .ref w] ∧ V1 K H u x ∧ V1 K H w y
def LnAt (K : PySem.W.Frag) (H : Hp) (t : Addr) (l : Ln) : Prop := ∃ d v, SqT K H t [.str l.nm, .ref d, v] ∧ SqT K H d [.int l.a, .int l.b] ∧ PtAt K H v l.pt
theorem PtAt.up {K : PySem.W.Frag} {H H' : Hp} {v : V} {p : Option ((Rat × Rat) × (Rat × Rat))} (s : Same H H') (h : PtAt K H v p) : PtAt K H' v p := by
  match p, h with
  | none, h => exact h
  | some (x, y), ⟨q, u, w, h1, h2, h3, h4⟩ => exact ⟨q, u, w, h1, same_tup s h2, h3.up s, h4.up s⟩
theorem LnAt.up {K : PySem.W.Frag} {H H' : Hp} {t : Addr} {l : Ln} (s : Same H H') (h : LnAt K H t l) : LnAt K H' t l := by
  obtain ⟨d, v, h1, h2, h3⟩ := h
  exact ⟨d, v, same_tup s h1, same_tup s h2, h3.up s⟩
/-- a list of lines -/
def LnsAt (K : PySem.W.Frag) (H : Hp) (u : Addr) (ls : List Ln) : Prop := ∃ ws : List (Addr × Ln), SqL K H u (Ro ws) ∧ (∀ w ∈ ws, LnAt K H w.1 w.2) ∧ ws.map (·.2) = ls
theorem LnsAt.up {K : PySem.W.Frag} {H H' : Hp} {u : Addr} {ls : List Ln} (s : Same H H') (h : LnsAt K H u ls) : LnsAt K H' u ls := by
  obtain ⟨ws, h1, h2, h3⟩ := h
  exact ⟨ws, s.seq h1, fun w hw => (h2 w hw).up s, h3⟩
theorem ln_at {ws : List (Addr × Ln)} {ls : List Ln} (h : ws.map (·.2) = ls) {i : Nat} {l : Ln} (hi : ls[i]? = some l) : ∃ t, (Ro ws)[i]? = some (.ref t) ∧ (t, l) ∈ ws := by
  rw [← h, List.getElem?_map] at hi
  cases e : ws[i]? with
  | none =>
    rw [e] at hi
    cases hi
  | some w =>
    rw [e] at hi
    obtain rfl : w.2 = l := Option.some.inj hi
    exact ⟨w.1, Ro_at e, List.mem_of_getElem? e⟩
/-- a row that has x at i, y at j and 0 elsewhere, and two numbers behind -/
def row2 (m i j : Nat) (x y : Rat) (p : Rat × Rat) : List Rat := (List.range m).map (fun k => if k = i then x else if k = j then y else 0) ++ [p.1, p.2]
def thrV (l : Ln) (x y : Rat × Rat) : Rat × Rat := (l.a * y.1 - l.b * x.1, l.a * y.2 - l.b * x.2)
theorem sh_one {K : PySem.W.Frag} {H : Hp} {d z : Addr} {x : Rat} {i : Nat} (h : H d = some (.dK [(Sum.inl (i : Int), .ref z)])) (hz : Fx K H z x) : ShAt K H d (fun k => if k = i then x else 0) 1 :=
  ⟨[(i, z)], h, fun p hp => by rw [List.mem_singleton.mp hp]; show Fx K H z (if i = i then x else 0); rw [if_pos rfl]; exact hz, fun j hj => if_neg fun e => hj (by rw [e]; exact List.mem_cons_self), List.nodup_cons.mpr ⟨List.not_mem_nil, List.nodup_nil⟩, Nat.le_refl 1⟩
theorem bd_small {a : Int} (h : a.natAbs < 8) {n : Nat} (hn : 3 ≤ n := by decide) : Bd n (a : Rat) := Bd.up (n := 3) ⟨h, by show 1 < 8; decide⟩ hn
theorem bd_times {a : Int} (h : a.natAbs < 8) {x : Rat} (hx : Bd 50 x) : Bd 60 ((a : Rat) * x) := ((bd_small h (n := 3)).mul hx).up (by decide)
def spThroughRow (K : PySem.W.Frag) : Sp := fun vs H Q _ => ∃ (u : Addr) (i : Nat) (ls : List Ln) (l : Ln) (x y : Rat × Rat), vs = [.ref u, .int i] ∧ LnsAt K H u ls ∧ ls[i]? = some l ∧ l.pt = some (x, y) ∧ ls.length ≤ 20 ∧ l.a.natAbs < 8 ∧ l.b.natAbs < 8 ∧ Bd 50 x.1 ∧ Bd 50 x.2 ∧ Bd 50 y.1 ∧ Bd 50 y.2 ∧ ∀ (H' : Hp) (t : Addr), Same H H' → RowAt K H' t (row2 ls.length i i 1 0 (thrV l x y)) → H t = none → Q (.ref t) H'
theorem okThroughRow {fThroughRow : Addr} {fdThroughRow : FuncData} (F : Fun K "through_row" "through_row" sThroughRow fThroughRow fdThroughRow) (T : Txt mg) {aZERO : Addr} {aONE : Addr} (CT : Cons K mg aZERO aONE) {CPartError CNought : Addr} (EX : Exns K mg CPartError CNought)
    {fRowOf : Addr} {fdRowOf : FuncData} (GRowOf : FnOk P w K mg base CX0 2 fRowOf fdRowOf ["many", "shares", "found"] (spRowOf K)) (gRowOf : mg "row_of" = some (.ref fRowOf)) (kpRowOf : PySem.W.keepIn K (.ref fRowOf) = true) (bRowOf : Binds K fdRowOf ["many", "shares", "found"] [])
    {fSubtract : Addr} {fdSubtract : FuncData} (GSubtract : FnOk P w K mg base CX0 3 fSubtract fdSubtract ["a", "b"] (spSubtract K)) (gSubtract : mg "subtract" = some (.ref fSubtract)) (kpSubtract : PySem.W.keepIn K (.ref fSubtract) = true) (bSubtract : Binds K fdSubtract ["a", "b"] [])
    {fScale : Addr} {fdScale : FuncData} (GScale : FnOk P w K mg base CX0 3 fScale fdScale ["factor", "a"] (spScale K)) (gScale : mg "scale" = some (.ref fScale)) (kpScale : PySem.W.keepIn K (.ref fScale) = true) (bScale : Binds K fdScale ["factor", "a"] [])
    {fFraction : Addr} {fdFraction : FuncData} (GFraction : FnOk P w K mg base (L2.CX P w) 1 fFraction fdFraction ["number", "divisor"] (spFraction K CNought)) (gFraction : mg "fraction" = some (.ref fFraction)) (kpFraction : PySem.W.keepIn K (.ref fFraction) = true) (bFraction : Binds K fdFraction ["number", "divisor"] []) {dsFraction : List Value} (vdFraction : Vals [.int 1] dsFraction) (bdFraction : Binds K fdFraction ["number", "divisor"] dsFraction) :
    FnOk P w K mg base CX0 4 fThroughRow fdThroughRow ["lines", "at"] (spThroughRow K) := by
  refine F.ok scThroughRow (fun vs H Q E h => ?_) (fun cdv A outer s H vs Q E hr h => ?_)
  · obtain ⟨u, i, ls, l, x, y, rfl, hL, hl, hp, hm, ha, hb, b1, b2, b3, b4, k⟩ := h
    rfl
  · obtain ⟨u, i, ls, l, x, y, rfl, hL, hl, hp, hm, ha, hb, b1, b2, b3, b4, k⟩ := h
    refine ⟨_, (pss_cons (ps_asg (pe_slice sl_tup (pe_ix ix_list (pv 0) (pv 1) (fun _ _ => rfl)) (po_some pe_int) po_none) (pg_tup rfl (pgs_cons (pg_tup rfl (pgs_cons (pg_name (i := 2) scThroughRow.nd rfl (Or.inl rfl)) (pgs_cons (pg_name (i := 3) scThroughRow.nd rfl (Or.inl rfl)) pgs_nil))) (pgs_cons (pg_tup rfl (pgs_cons (pg_name (i := 4) scThroughRow.nd rfl (Or.inl rfl)) (pgs_cons (pg_name (i := 5) scThroughRow.nd rfl (Or.inl rfl)) pgs_nil))) pgs_nil))))
      (pss_one (ps_ret (pe_call GRowOf (hr.mono (by decide)) (by rfl) gRowOf kpRowOf bRowOf .nil pass0 (pa_cons (pe_callB call_len_seq (by rfl) T.len PySem.boot_len (pa_cons (pv 0) pa_nil)) (pa_cons (pe_disp (pps_cons (pv 1) (pe_glob (v := .ref aONE) (by rfl) CT.gONE rfl) pps_nil) (by rfl) (by rfl) (fun z => by cases z) (by decide)) (pa_cons (pe_call GSubtract hr (by rfl) gSubtract kpSubtract bSubtract .nil pass0 (pa_cons (pe_call GScale hr (by rfl) gScale kpScale bScale .nil pass0 (pa_cons (pe_call GFraction (hr.mono (by decide)) (by rfl) gFraction kpFraction bdFraction vdFraction passL (pa_cons (pv 2) pa_nil)) (pa_cons (pv 5) pa_nil))) (pa_cons (pe_call GScale hr (by rfl) gScale kpScale bScale .nil pass0 (pa_cons (pe_call GFraction (hr.mono (by decide)) (by rfl) gFraction kpFraction bdFraction vdFraction passL (pa_cons (pv 3) pa_nil)) (pa_cons (pv 4) pa_nil))) pa_nil))) pa_nil))))))), ?_⟩
    obtain ⟨ws, h1, h2, h3⟩ := hL
    obtain ⟨t, t1, t2⟩ := ln_at h3 hl
    obtain ⟨d, v, g1, g2, g3⟩ := h2 _ t2
    dsimp only at g1 g2 g3
    rw [hp] at g3
    obtain ⟨q, ux, uy, rfl, q1, q2, q3⟩ := g3
    refine ⟨_, rfl, _, rfl, u, _, i, V.ref t, rfl, rfl, h1, atI_nat t1, ?_⟩
    refine ⟨_, rfl, t, _, rfl, g1, (show ¬ (1 = 0 ∧ _) from fun z => absurd z.1 (by decide)), fun t5 n5 => ?_⟩
    have ec : cutV [V.str l.nm, .ref d, .ref q] (some 1) none = [.ref d, .ref q] := rfl
    rw [ec]
    have s5 := same_upd (o := .tup [.ref d, .ref q]) n5
    have e5 : (upd H t5 (.tup [.ref d, .ref q])) t5 = some (.tup [.ref d, .ref q]) := upd_same
    generalize upd H t5 (.tup [.ref d, .ref q]) = H5 at s5 e5 ⊢
    refine ⟨t5, _, rfl, SqT.of e5, rfl, _, _, rfl, ⟨d, _, rfl, same_tup s5 g2, rfl, _, _, rfl, _, _, rfl, rfl, _, _, rfl, ⟨q, _, rfl, same_tup s5 q1, rfl, _, _, rfl, _, _, rfl, rfl, rfl, ?_⟩⟩⟩
    have x1 := q2.up s5
    have y1 := q3.up s5
    refine ⟨_, rfl, u, _, rfl, .inl (s5.seq h1), fun d6 nd => ?_⟩
    refine ⟨_, rfl, upd_same, [(Sum.inl (i : Int), .ref aONE)], rfl, (show 1 ≤ 15 by decide), ?_⟩
    rw [upd_upd]
    have s6 := same_upd (o := .dK (mergeK [] [(Sum.inl (i : Int), .ref aONE)])) nd
    have e6 : (upd H5 d6 (.dK (mergeK [] [(Sum.inl (i : Int), .ref aONE)]))) d6 = some (.dK [(Sum.inl (i : Int), .ref aONE)]) := upd_same
    generalize upd H5 d6 (.dK (mergeK [] [(Sum.inl (i : Int), .ref aONE)])) = H6 at s6 e6 ⊢
    walk_at "go"
    refine ⟨Bz.up (bz_of (n := 1) (by decide)) (by decide), fun z => absurd z (by decide), fun _ H7 t7 s7 f7 => ?_⟩
    rw [div_one] at f7
    refine ⟨_, rfl, t7, uy, (l.a : Rat), y.1, [y.2], rfl, f7, (y1.up (s6.trans s7)), (by show 1 ≤ 20; decide), bd_small ha, b3.up (by decide), (fun r hr => by rw [List.mem_singleton.mp hr]; exact b4.up (by decide)), fun H8 t8 s8 v8 => ?_⟩
    walk_at "go"
    refine ⟨Bz.up (bz_of (n := 1) (by decide)) (by decide), fun z => absurd z (by decide), fun _ H9 t9 s9 f9 => ?_⟩
    rw [div_one] at f9
    have s59 := s6.trans (s7.trans (s8.trans s9))
    refine ⟨_, rfl, t9, ux, (l.b : Rat), x.1, [x.2], rfl, f9, (x1.up s59), (by show 1 ≤ 20; decide), bd_small hb, b1.up (by decide), (fun r hr => by rw [List.mem_singleton.mp hr]; exact b2.up (by decide)), fun H10 t10 s10 v10 => ?_⟩
    refine ⟨t8, t10, _, _, _, _, rfl, v8.same (s9.trans s10), v10, rfl, by show 1 ≤ 20; decide, bd_times ha b3, bd_times hb b1, (fun r hr => by rw [List.mem_singleton.mp hr]; exact bd_times ha b4), (fun r hr => by rw [List.mem_singleton.mp hr]; exact bd_times hb b2), fun H11 t11 s11 v11 => ?_⟩
    have s611 := s7.trans (s8.trans (s9.trans (s10.trans s11)))
    refine ⟨ls.length, d6, t11, _, thrV l x y, 1, ?_, sh_one (s611 _ _ e6) (show Fx K H11 aONE 1 from CT.tONE _), v11, hm, fun H12 t12 s12 r12 n12 => ?_⟩
    · rw [Ro_len, ← h3, List.length_map]
      rfl
    · refine k H12 t12 (s5.trans (s6.trans (s611.trans s12))) ?_ (none_back (s5.trans (s6.trans s611)) n12)
      have e : row2 ls.length i i 1 0 (thrV l x y) = (List.range ls.length).map (fun k => if k = i then 1 else 0) ++ [(thrV l x y).1, (thrV l x y).2] := by
        unfold row2
        congr 1
        refine List.map_congr_left fun k _ => ?_
        split <;> rfl
      rw [e]
      exact r12
def ratioQ (pa pb oa ob : Int) : Rat := if pa ≠ 0 then Rat.divInt oa pa else Rat.divInt ob pb
theorem bz_small {a : Int} (h : a.natAbs < 8) {n : Nat} (hn : 3 ≤ n := by decide) : Bz n a := Bz.up (n := 3) h hn
def spRatio (K : PySem.W.Frag) : Sp := fun vs H Q _ => ∃ (t1 t2 : Addr) (pa pb oa ob : Int), vs = [.ref t1, .ref t2] ∧ SqT K H t1 [.int pa, .int pb] ∧ SqT K H t2 [.int oa, .int ob] ∧ pa.natAbs < 8 ∧ pb.natAbs < 8 ∧ (pa ≠ 0 ∨ pb ≠ 0) ∧ ∀ (H' : Hp) (t : Addr), Same H H' → Fx K H' t (ratioQ pa pb oa ob) → Q (.ref t) H'
theorem okRatio {fRatio : Addr} {fdRatio : FuncData} (F : Fun K "ratio" "ratio" sRatio fRatio fdRatio) (T : Txt mg) {aZERO : Addr} {aONE : Addr} (CT : Cons K mg aZERO aONE) {CPartError CNought : Addr} (EX : Exns K mg CPartError CNought)
    {fFraction : Addr} {fdFraction : FuncData} (GFraction : FnOk P w K mg base (L2.CX P w) 1 fFraction fdFraction ["number", "divisor"] (spFraction K CNought)) (gFraction : mg "fraction" = some (.ref fFraction)) (kpFraction : PySem.W.keepIn K (.ref fFraction) = true) (bFraction : Binds K fdFraction ["number", "divisor"] []) {dsFraction : List Value} (vdFraction : Vals [.int 1] dsFraction) (bdFraction : Binds K fdFraction ["number", "divisor"] dsFraction) :
    FnOk P w K mg base CX0 2 fRatio fdRatio ["pair", "other"] (spRatio K) := by
  refine F.ok scRatio (fun vs H Q E h => ?_) (fun cdv A outer s H vs Q E hr h => ?_)
  · obtain ⟨t1, t2, pa, pb, oa, ob, rfl, h1, h2, b1, b2, h0, k⟩ := h
    rfl
  · obtain ⟨t1, t2, pa, pb, oa, ob, rfl, h1, h2, b1, b2, h0, k⟩ := h
    refine ⟨_, (C8.pss_cut (ps_set (i := 2) scRatio.nd rfl (Or.inl rfl) (pe_ifExp (pt_cmpR op_ne (pe_ix ix_tup (pv 0) pe_int (fun _ _ => rfl)) pe_int (nomark _)) pe_int pe_int))
      (pss_one (ps_ret (pe_call GFraction hr (by rfl) gFraction kpFraction bFraction .nil passL (pa_cons (pe_ix ix_tup (pv 1) (pv 2) (fun _ _ => rfl)) (pa_cons (pe_ix ix_tup (pv 0) (pv 2) (fun _ _ => rfl)) pa_nil)))))), ?_⟩
    unfold ratioQ at k
    refine ⟨fun σ' H' => H' = H ∧ ∃ n : Nat, σ' = [some (.ref t1), some (.ref t2), some (.int (n : Nat))] ∧ ((n = 0 ∧ pa ≠ 0) ∨ (n = 1 ∧ pa = 0)), ?_, ?_⟩
    · walk_at "go"
      by_cases h : pa = 0
      · refine iteF' (by rw [decide_eq_true (by rw [h])]; rfl) ?_
        exact ⟨rfl, 1, rfl, .inr ⟨rfl, h⟩⟩
      · refine iteT' (by rw [decide_eq_false (fun z => h (V.int.inj z))]; rfl) ?_
        exact ⟨rfl, 0, rfl, .inl ⟨rfl, h⟩⟩
    rintro σ' H' ⟨rfl, n, rfl, ⟨rfl, h⟩ | ⟨rfl, h⟩⟩
    · rw [if_pos h] at k
      walk_at "go"
      exact ⟨bz_small b1, fun z => absurd z h, fun _ H' t s f => k H' t s f⟩
    · rw [if_neg (fun z => z h)] at k
      walk_at "go"
      exact ⟨bz_small b2, fun z => absurd z (h0.resolve_left fun z => z h), fun _ H' t s f => k H' t s f⟩
theorem sh_two {K : PySem.W.Frag} {H : Hp} {d z1 z2 : Addr} {x y : Rat} {i j : Nat} (hij : i ≠ j) (h : H d = some (.dK [(Sum.inl (i : Int), .ref z1), (Sum.inl (j : Int), .ref z2)])) (h1 : Fx K H z1 x) (h2 : Fx K H z2 y) : ShAt K H d (fun k => if k = i then x else if k = j then y else 0) 2 :=
  ⟨[(i, z1), (j, z2)], h, fun p hp => by
    rcases List.mem_cons.mp hp with e | e
    · rw [e]
      show Fx K H z1 (if i = i then x else _)
      rw [if_pos rfl]
      exact h1
    · rw [List.mem_singleton.mp e]
      show Fx K H z2 (if j = i then x else if j = j then y else 0)
      rw [if_neg (fun z => hij z.symm), if_pos rfl]
      exact h2, fun q hq => by
    have q1 : q ≠ i := fun e => hq (by rw [e]; exact List.mem_cons_self)
    have q2 : q ≠ j := fun e => hq (by rw [e]; exact List.mem_cons_of_mem _ List.mem_cons_self)
    show (if q = i then x else if q = j then y else 0) = 0
    rw [if_neg q1, if_neg q2], by simp [hij], Nat.le_refl 2⟩
theorem same_fill {H H2 : Hp} {d : Addr} {o : HO} (n : H d = none) (s : Same H H2) : Same H (upd H2 d o) := fun b o2 e => by
  rw [upd_ne (ne_of_none e n)]
  exact s _ _ e
theorem merge_two {i j : Nat} {a b : Addr} (h : i ≠ j) : mergeK [] [(Sum.inl (i : Int), V.ref a), (Sum.inl (j : Int), V.ref b)] = [(Sum.inl (i : Int), V.ref a), (Sum.inl (j : Int), V.ref b)] := by
  have e := putK_new (V.ref b) (sk_none (ks := [(i, a)]) (i := j) (by simp; exact fun z => h z.symm))
  exact e
theorem sh_disp {K : PySem.W.Frag} {H : Hp} {d z1 z2 : Addr} {x y : Rat} {i j : Nat} (hij : i ≠ j) (h : H d = some (.dK [])) (h1 : Fx K H z1 x) (h2 : Fx K H z2 y) : ShAt K (upd H d (.dK (mergeK [] [(Sum.inl (i : Int), V.ref z1), (Sum.inl (j : Int), V.ref z2)]))) d (fun k => if k = i then x else if k = j then y else 0) 2 :=
  sh_two hij (by rw [merge_two hij]; exact upd_same) (over_tupK h1 h fun b o hb e => by rw [upd_ne hb]; exact e) (over_tupK h2 h fun b o hb e => by rw [upd_ne hb]; exact e)
def axS (ax : Bool) : Str := if ax then "u" else "v"
theorem axS_eq (ax : Bool) : decide (V.str (axS ax) = V.str "u") = ax := by cases ax <;> decide +kernel
inductive Dm where
  | at (j k : Nat) (ax : Bool) (f : Rat × Rat)
  | ap (j k : Nat) (p q : Int) (f : Rat × Rat)
def DmAt (K : PySem.W.Frag) (H : Hp) (t : Addr) : Dm → Prop
  | .at j k ax f => ∃ v, SqT K H t [.str "at", .int (j : Int), .int (k : Int), .str (axS ax), .ref v] ∧ V1 K H v f
  | .ap j k p q f => ∃ d v, SqT K H t [.str "apart", .int (j : Int), .int (k : Int), .ref d, .ref v] ∧ SqT K H d [.int p, .int q] ∧ V1 K H v f
theorem DmAt.up {K : PySem.W.Frag} {H H' : Hp} {t : Addr} {d : Dm} (s : Same H H') (h : DmAt K H t d) : DmAt K H' t d := by
  match d, h with
  | .at j k ax f, ⟨v, h1, h2⟩ => exact ⟨v, same_tup s h1, h2.up s⟩
  | .ap j k p q f, ⟨d, v, h1, h2, h3⟩ => exact ⟨d, v, same_tup s h1, same_tup s h2, h3.up s⟩
def LnOk (l : Ln) : Prop := l.a.natAbs < 8 ∧ l.b.natAbs < 8 ∧ (l.a ≠ 0 ∨ l.b ≠ 0)
def spApartRow (K : PySem.W.Frag) : Sp := fun vs H Q _ => ∃ (u t : Addr) (i j : Nat) (p q : Int) (f : Rat × Rat) (ls : List Ln) (l1 l2 : Ln), vs = [.ref u, .ref t] ∧ DmAt K H t (.ap i j p q f) ∧ LnsAt K H u ls ∧ ls[i]? = some l1 ∧ ls[j]? = some l2 ∧ i ≠ j ∧ LnOk l1 ∧ LnOk l2 ∧ p.natAbs < 8 ∧ q.natAbs < 8 ∧ Bd 50 f.1 ∧ Bd 50 f.2 ∧ ls.length ≤ 20 ∧ ∀ (H' : Hp) (d : Addr), Same H H' → RowAt K H' d (row2 ls.length i j (-(ratioQ l1.a l1.b l2.a l2.b)) 1 (((l2.a * q - l2.b * p : Int) : Rat) * f.1, ((l2.a * q - l2.b * p : Int) : Rat) * f.2)) → H d = none → Q (.ref d) H'
theorem okApartRow {fApartRow : Addr} {fdApartRow : FuncData} (F : Fun K "apart_row" "apart_row" sApartRow fApartRow fdApartRow) (T : Txt mg) {aZERO : Addr} {aONE : Addr} (CT : Cons K mg aZERO aONE) {CPartError CNought : Addr} (EX : Exns K mg CPartError CNought)
    {fRowOf : Addr} {fdRowOf : FuncData} (GRowOf : FnOk P w K mg base CX0 2 fRowOf fdRowOf ["many", "shares", "found"] (spRowOf K)) (gRowOf : mg "row_of" = some (.ref fRowOf)) (kpRowOf : PySem.W.keepIn K (.ref fRowOf) = true) (bRowOf : Binds K fdRowOf ["many", "shares", "found"] [])
    {fNegative : Addr} {fdNegative : FuncData} (GNegative : FnOk P w K mg base CX0 1 fNegative fdNegative ["a"] (spNegative K)) (gNegative : mg "negative" = some (.ref fNegative)) (kpNegative : PySem.W.keepIn K (.ref fNegative) = true) (bNegative : Binds K fdNegative ["a"] [])
    {fScale : Addr} {fdScale : FuncData} (GScale : FnOk P w K mg base CX0 3 fScale fdScale ["factor", "a"] (spScale K)) (gScale : mg "scale" = some (.ref fScale)) (kpScale : PySem.W.keepIn K (.ref fScale) = true) (bScale : Binds K fdScale ["factor", "a"] [])
    {fRatio : Addr} {fdRatio : FuncData} (GRatio : FnOk P w K mg base CX0 2 fRatio fdRatio ["pair", "other"] (spRatio K)) (gRatio : mg "ratio" = some (.ref fRatio)) (kpRatio : PySem.W.keepIn K (.ref fRatio) = true) (bRatio : Binds K fdRatio ["pair", "other"] [])
    {fFraction : Addr} {fdFraction : FuncData} (GFraction : FnOk P w K mg base (L2.CX P w) 1 fFraction fdFraction ["number", "divisor"] (spFraction K CNought)) (gFraction : mg "fraction" = some (.ref fFraction)) (kpFraction : PySem.W.keepIn K (.ref fFraction) = true) (bFraction : Binds K fdFraction ["number", "divisor"] []) {dsFraction : List Value} (vdFraction : Vals [.int 1] dsFraction) (bdFraction : Binds K fdFraction ["number", "divisor"] dsFraction) :
    FnOk P w K mg base CX0 4 fApartRow fdApartRow ["lines", "dimension"] (spApartRow K) := by
  refine F.ok scApartRow (fun vs H Q E h => ?_) (fun cdv A outer s H vs Q E hr h => ?_)
  · obtain ⟨u, t, i, j, p, q, f, ls, l1, l2, rfl, ⟨dw, v, g1, gd, g2⟩, hL, e1, e2, hij, ⟨a1, a2, a3⟩, ⟨b1, b2, b3⟩, c1, c2, bf1, bf2, hm, k⟩ := h
    rfl
  · obtain ⟨u, t, i, j, p, q, f, ls, l1, l2, rfl, ⟨dw, v, g1, gd, g2⟩, hL, e1, e2, hij, ⟨a1, a2, a3⟩, ⟨b1, b2, b3⟩, c1, c2, bf1, bf2, hm, k⟩ := h
    refine ⟨_, (pss_cons (ps_asg (pv 1) (pg_tup rfl (pgs_cons (pg_name (i := 2) scApartRow.nd rfl (Or.inl rfl)) (pgs_cons (pg_name (i := 3) scApartRow.nd rfl (Or.inl rfl)) (pgs_cons (pg_name (i := 4) scApartRow.nd rfl (Or.inl rfl)) (pgs_cons (pg_tup rfl (pgs_cons (pg_name (i := 5) scApartRow.nd rfl (Or.inl rfl)) (pgs_cons (pg_name (i := 6) scApartRow.nd rfl (Or.inl rfl)) pgs_nil))) (pgs_cons (pg_name (i := 7) scApartRow.nd rfl (Or.inl rfl)) pgs_nil)))))))
      (pss_cons (ps_asg (pe_ix ix_tup (pe_ix ix_list (pv 0) (pv 4) (fun _ _ => rfl)) pe_int (fun _ _ => rfl)) (pg_tup rfl (pgs_cons (pg_name (i := 8) scApartRow.nd rfl (Or.inl rfl)) (pgs_cons (pg_name (i := 9) scApartRow.nd rfl (Or.inl rfl)) pgs_nil))))
      (pss_cons (ps_set (i := 10) scApartRow.nd rfl (Or.inl rfl) (pe_disp (pps_cons (pv 3) (pe_call GNegative (hr.mono (by decide)) (by rfl) gNegative kpNegative bNegative .nil pass0 (pa_cons (pe_call GRatio (hr.mono (by decide)) (by rfl) gRatio kpRatio bRatio .nil pass0 (pa_cons (pe_ix ix_tup (pe_ix ix_list (pv 0) (pv 3) (fun _ _ => rfl)) pe_int (fun _ _ => rfl)) (pa_cons (pe_tup (pa_cons (pv 8) (pa_cons (pv 9) pa_nil))) pa_nil))) pa_nil)) (pps_cons (pv 4) (pe_glob (v := .ref aONE) (by rfl) CT.gONE rfl) pps_nil)) (by rfl) (by rfl) (fun z => by cases z) (by decide)))
      (pss_one (ps_ret (pe_call GRowOf (hr.mono (by decide)) (by rfl) gRowOf kpRowOf bRowOf .nil pass0 (pa_cons (pe_callB call_len_seq (by rfl) T.len PySem.boot_len (pa_cons (pv 0) pa_nil)) (pa_cons (pv 10) (pa_cons (pe_call GScale hr (by rfl) gScale kpScale bScale .nil pass0 (pa_cons (pe_call GFraction (hr.mono (by decide)) (by rfl) gFraction kpFraction bdFraction vdFraction passL (pa_cons (pe_op op_sub (pe_op op_mulW (pv 8) (pv 6)) (pe_op op_mulW (pv 9) (pv 5))) pa_nil)) (pa_cons (pv 7) pa_nil))) pa_nil))))))))), ?_⟩
    obtain ⟨ws, h1, h2, h3⟩ := hL
    obtain ⟨ta, ta1, ta2⟩ := ln_at h3 e1
    obtain ⟨da, va, ga1, ga2, ga3⟩ := h2 _ ta2
    obtain ⟨tb, tb1, tb2⟩ := ln_at h3 e2
    obtain ⟨db, vb, gb1, gb2, gb3⟩ := h2 _ tb2
    dsimp only at ga1 ga2 gb1 gb2
    refine ⟨_, rfl, t, _, rfl, g1, rfl, _, _, rfl, _, _, rfl, _, _, rfl, _, _, rfl, ⟨dw, _, rfl, gd, rfl, _, _, rfl, _, _, rfl, rfl, _, _, rfl, rfl, ?_⟩⟩
    refine ⟨_, rfl, _, rfl, u, _, j, V.ref tb, rfl, rfl, h1, atI_nat tb1, ?_⟩
    refine ⟨tb, _, 1, _, rfl, rfl, gb1, atI_nat (j := 1) rfl, ?_⟩
    refine ⟨db, _, rfl, gb2, rfl, _, _, rfl, _, _, rfl, rfl, ?_⟩
    refine fun d nd => ?_
    have s0 := same_upd (o := .dK []) nd
    have e0 : (upd H d (.dK [])) d = some (.dK []) := upd_same
    generalize upd H d (.dK []) = H1 at s0 e0 ⊢
    walk_at "go"
    refine ⟨u, _, i, V.ref ta, rfl, rfl, s0.seq h1, atI_nat ta1, ?_⟩
    walk_at "go"
    refine ⟨tn rfl, fun t2 nt2 => ?_⟩
    generalize hUt2 : upd _ _ (HO.tup _) = H2
    have s2 := same_hu hUt2 nt2
    have eo2 := at_hu hUt2
    have o2 := SqT.of (K := K) eo2
    clear hUt2
    refine ⟨da, t2, l1.a, l1.b, l2.a, l2.b, rfl, same_tup (s0.trans s2) ga2, o2, a1, a2, a3, fun H3 t3 s3 f3 => ?_⟩
    walk_at "go"
    refine ⟨t3, _, rfl, f3, fun H4 t4 s4 f4 => ?_⟩
    walk_at "go"
    have s14 := s2.trans (s3.trans s4)
    refine ⟨s14 _ _ e0, [(Sum.inl (i : Int), .ref t4), (Sum.inl (j : Int), .ref aONE)], rfl, (show 2 ≤ 15 by decide), ?_⟩
    have s5 := same_fill (o := .dK (mergeK [] [(Sum.inl (i : Int), V.ref t4), (Sum.inl (j : Int), V.ref aONE)])) nd (s0.trans s14)
    have hd := sh_disp (K := K) hij (s14 _ _ e0) f4 (show Fx K H4 aONE 1 from CT.tONE H4)
    generalize upd H4 d (.dK (mergeK [] [(Sum.inl (i : Int), V.ref t4), (Sum.inl (j : Int), V.ref aONE)])) = H5 at s5 hd ⊢
    have z1 := bz_small (n := 3) b1
    have z2 := bz_small (n := 3) b2
    have z3 := bz_small (n := 3) c1
    have z4 := bz_small (n := 3) c2
    refine ⟨_, rfl, u, _, rfl, .inl (s5.seq h1), ?_⟩
    walk_at "go"
    refine ⟨Bz.up (bz_of (n := 1) (by decide)) (by decide), fun z => absurd z (by decide), fun _ H6 t6 s6 f6 => ?_⟩
    rw [div_one] at f6
    have bs : Bd 8 ((l2.a * q - l2.b * p : Int) : Rat) := ⟨Bz.up (Bz.sub (Bz.mul z1 z4) (Bz.mul z2 z3)) (by decide), by show 1 < 2 ^ 8; decide⟩
    refine ⟨_, rfl, t6, v, _, f.1, [f.2], rfl, f6, g2.up (s5.trans s6), (by show 1 ≤ 20; decide), bs.up (by decide), bf1.up (by decide), (fun r hr => by rw [List.mem_singleton.mp hr]; exact bf2.up (by decide)), fun H7 t7 s7 v7 => ?_⟩
    refine ⟨ls.length, d, t7, _, (((l2.a * q - l2.b * p : Int) : Rat) * f.1, ((l2.a * q - l2.b * p : Int) : Rat) * f.2), 2, ?_, hd.up (s6.trans s7), v7, hm, fun H8 r s8 hr nr => ?_⟩
    · rw [Ro_len, ← h3, List.length_map]
      rfl
    · exact k H8 r (s5.trans (s6.trans (s7.trans s8))) hr (none_back (s5.trans (s6.trans s7)) nr)
def cornQ (l1 l2 : Ln) (ax : Bool) : Rat × Rat :=
  if ax then (Rat.divInt l2.a (l1.a * l2.b - l1.b * l2.a), Rat.divInt (-l1.a) (l1.a * l2.b - l1.b * l2.a))
  else (Rat.divInt l2.b (l1.a * l2.b - l1.b * l2.a), Rat.divInt (-l1.b) (l1.a * l2.b - l1.b * l2.a))
def spCornerShares (K : PySem.W.Frag) : Sp := fun vs H Q _ => ∃ (u : Addr) (i j : Nat) (ax : Bool) (ls : List Ln) (l1 l2 : Ln), vs = [.ref u, .int i, .int j, .str (axS ax)] ∧ LnsAt K H u ls ∧ ls[i]? = some l1 ∧ ls[j]? = some l2 ∧ i ≠ j ∧ l1.a.natAbs < 8 ∧ l1.b.natAbs < 8 ∧ l2.a.natAbs < 8 ∧ l2.b.natAbs < 8 ∧ l1.a * l2.b - l1.b * l2.a ≠ 0 ∧ ∀ (H' : Hp) (d : Addr), Same H H' → ShAt K H' d (fun k => if k = i then (cornQ l1 l2 ax).1 else if k = j then (cornQ l1 l2 ax).2 else 0) 2 → Q (.ref d) H'
theorem okCornerShares {fCornerShares : Addr} {fdCornerShares : FuncData} (F : Fun K "corner_shares" "corner_shares" sCornerShares fCornerShares fdCornerShares) (T : Txt mg) {aZERO : Addr} {aONE : Addr} (CT : Cons K mg aZERO aONE) {CPartError CNought : Addr} (EX : Exns K mg CPartError CNought)
    {fFraction : Addr} {fdFraction : FuncData} (GFraction : FnOk P w K mg base (L2.CX P w) 1 fFraction fdFraction ["number", "divisor"] (spFraction K CNought)) (gFraction : mg "fraction" = some (.ref fFraction)) (kpFraction : PySem.W.keepIn K (.ref fFraction) = true) (bFraction : Binds K fdFraction ["number", "divisor"] []) {dsFraction : List Value} (vdFraction : Vals [.int 1] dsFraction) (bdFraction : Binds K fdFraction ["number", "divisor"] dsFraction) :
    FnOk P w K mg base CX0 2 fCornerShares fdCornerShares ["lines", "first", "second", "axis"] (spCornerShares K) := by
  refine F.ok scCornerShares (fun vs H Q E h => ?_) (fun cdv A outer s H vs Q E hr h => ?_)
  · obtain ⟨u, i, j, ax, ls, l1, l2, rfl, ⟨ws, h1, h2, h3⟩, e1, e2, hij, b1, b2, b3, b4, h0, k⟩ := h
    rfl
  · obtain ⟨u, i, j, ax, ls, l1, l2, rfl, ⟨ws, h1, h2, h3⟩, e1, e2, hij, b1, b2, b3, b4, h0, k⟩ := h
    refine ⟨_, (pss_cons (ps_asg (pe_tup (pa_cons (pe_ix ix_tup (pe_ix ix_list (pv 0) (pv 1) (fun _ _ => rfl)) pe_int (fun _ _ => rfl)) (pa_cons (pe_ix ix_tup (pe_ix ix_list (pv 0) (pv 2) (fun _ _ => rfl)) pe_int (fun _ _ => rfl)) pa_nil))) (pg_tup rfl (pgs_cons (pg_tup rfl (pgs_cons (pg_name (i := 4) scCornerShares.nd rfl (Or.inl rfl)) (pgs_cons (pg_name (i := 5) scCornerShares.nd rfl (Or.inl rfl)) pgs_nil))) (pgs_cons (pg_tup rfl (pgs_cons (pg_name (i := 6) scCornerShares.nd rfl (Or.inl rfl)) (pgs_cons (pg_name (i := 7) scCornerShares.nd rfl (Or.inl rfl)) pgs_nil))) pgs_nil))))
      (pss_cons (ps_set (i := 8) scCornerShares.nd rfl (Or.inl rfl) (pe_op op_sub (pe_op op_mulW (pv 4) (pv 7)) (pe_op op_mulW (pv 5) (pv 6))))
      (pss_cons (ps_if (pt_cmpR op_eq (pv 3) pe_str (nomark _))
        (pss_one (ps_ret (pe_disp (pps_cons (pv 1) (pe_call GFraction hr (by rfl) gFraction kpFraction bFraction .nil passL (pa_cons (pv 6) (pa_cons (pv 8) pa_nil))) (pps_cons (pv 2) (pe_call GFraction hr (by rfl) gFraction kpFraction bFraction .nil passL (pa_cons (pe_un un_neg (pv 4)) (pa_cons (pv 8) pa_nil))) pps_nil)) (by rfl) (by rfl) (fun z => by cases z) (by decide))))
        pss_nil)
      (pss_one (ps_ret (pe_disp (pps_cons (pv 1) (pe_call GFraction hr (by rfl) gFraction kpFraction bFraction .nil passL (pa_cons (pv 7) (pa_cons (pv 8) pa_nil))) (pps_cons (pv 2) (pe_call GFraction hr (by rfl) gFraction kpFraction bFraction .nil passL (pa_cons (pe_un un_neg (pv 5)) (pa_cons (pv 8) pa_nil))) pps_nil)) (by rfl) (by rfl) (fun z => by cases z) (by decide))))))), ?_⟩
    obtain ⟨ta, ta1, ta2⟩ := ln_at h3 e1
    obtain ⟨da, va, ga1, ga2, ga3⟩ := h2 _ ta2
    obtain ⟨tb, tb1, tb2⟩ := ln_at h3 e2
    obtain ⟨db, vb, gb1, gb2, gb3⟩ := h2 _ tb2
    dsimp only at ga1 ga2 gb1 gb2
    have hsz : Bz 8 (l1.a * l2.b - l1.b * l2.a) := Bz.up (Bz.sub (Bz.mul (bz_small (n := 3) b1) (bz_small (n := 3) b4)) (Bz.mul (bz_small (n := 3) b2) (bz_small (n := 3) b3))) (by decide)
    refine ⟨_, rfl, _, rfl, u, _, i, V.ref ta, rfl, rfl, h1, atI_nat ta1, ?_⟩
    walk_at "go"
    refine ⟨u, _, j, V.ref tb, rfl, rfl, h1, atI_nat tb1, ?_⟩
    walk_at "go"
    refine ⟨by show 2 ≤ sizeLine; decide, fun t5 n5 => ?_⟩
    have s5 := same_upd (o := .tup [.ref da, .ref db]) n5
    have e5 : (upd H t5 (.tup [.ref da, .ref db])) t5 = some (.tup [.ref da, .ref db]) := upd_same
    generalize upd H t5 (.tup [.ref da, .ref db]) = H5 at s5 e5 ⊢
    refine ⟨t5, _, rfl, SqT.of e5, rfl, _, _, rfl, ⟨da, _, rfl, same_tup s5 ga2, rfl, _, _, rfl, _, _, rfl, rfl, _, _, rfl, ⟨db, _, rfl, same_tup s5 gb2, rfl, _, _, rfl, _, _, rfl, rfl, rfl, ?_⟩⟩⟩
    have z1 := bz_small (n := 3) b1
    have z2 := bz_small (n := 3) b2
    have z3 := bz_small (n := 3) b3
    have z4 := bz_small (n := 3) b4
    walk_at "go"
    clear z1 z2 z3 z4
    rw [axS_eq]
    unfold cornQ at k
    cases ax with
    | true =>
      rw [if_pos rfl] at k
      refine iteT' rfl ?_
      refine fun d nd => ?_
      have s0 := same_upd (o := .dK []) nd
      have e0 : (upd H5 d (.dK [])) d = some (.dK []) := upd_same
      generalize upd H5 d (.dK []) = H50 at s0 e0 ⊢
      walk_at "go"
      refine ⟨hsz.up (by decide), fun z => absurd z h0, fun _ H6 t6 s6 f6 => ?_⟩
      walk_at "go"
      refine ⟨hsz.up (by decide), fun z => absurd z h0, fun _ H7 t7 s7 f7 => ?_⟩
      walk_at "go"
      refine ⟨s7 _ _ (s6 _ _ e0), [(Sum.inl (i : Int), .ref t6), (Sum.inl (j : Int), .ref t7)], rfl, (show 2 ≤ 15 by decide), ?_⟩
      exact k _ d (s5.trans (same_fill nd (s0.trans (s6.trans s7)))) (sh_disp hij (s7 _ _ (s6 _ _ e0)) (f6.same s7) f7)
    | false =>
      rw [if_neg Bool.false_ne_true] at k
      refine iteF' rfl ?_
      refine fun d nd => ?_
      have s0 := same_upd (o := .dK []) nd
      have e0 : (upd H5 d (.dK [])) d = some (.dK []) := upd_same
      generalize upd H5 d (.dK []) = H50 at s0 e0 ⊢
      walk_at "go"
      refine ⟨hsz.up (by decide), fun z => absurd z h0, fun _ H6 t6 s6 f6 => ?_⟩
      walk_at "go"
      refine ⟨hsz.up (by decide), fun z => absurd z h0, fun _ H7 t7 s7 f7 => ?_⟩
      walk_at "go"
      refine ⟨s7 _ _ (s6 _ _ e0), [(Sum.inl (i : Int), .ref t6), (Sum.inl (j : Int), .ref t7)], rfl, (show 2 ≤ 15 by decide), ?_⟩
      exact k _ d (s5.trans (same_fill nd (s0.trans (s6.trans s7)))) (sh_disp hij (s7 _ _ (s6 _ _ e0)) (f6.same s7) f7)
def spAtRow (K : PySem.W.Frag) : Sp := fun vs H Q _ => ∃ (u t : Addr) (i j : Nat) (ax : Bool) (f : Rat × Rat) (ls : List Ln) (l1 l2 : Ln), vs = [.ref u, .ref t] ∧ DmAt K H t (.at i j ax f) ∧ LnsAt K H u ls ∧ ls[i]? = some l1 ∧ ls[j]? = some l2 ∧ i ≠ j ∧ LnOk l1 ∧ LnOk l2 ∧ l1.a * l2.b - l1.b * l2.a ≠ 0 ∧ ls.length ≤ 20 ∧ ∀ (H' : Hp) (d : Addr), Same H H' → RowAt K H' d (row2 ls.length i j (cornQ l1 l2 ax).1 (cornQ l1 l2 ax).2 f) → H d = none → Q (.ref d) H'
theorem okAtRow {fAtRow : Addr} {fdAtRow : FuncData} (F : Fun K "at_row" "at_row" sAtRow fAtRow fdAtRow) (T : Txt mg) {aZERO : Addr} {aONE : Addr} (CT : Cons K mg aZERO aONE) {CPartError CNought : Addr} (EX : Exns K mg CPartError CNought)
    {fRowOf : Addr} {fdRowOf : FuncData} (GRowOf : FnOk P w K mg base CX0 2 fRowOf fdRowOf ["many", "shares", "found"] (spRowOf K)) (gRowOf : mg "row_of" = some (.ref fRowOf)) (kpRowOf : PySem.W.keepIn K (.ref fRowOf) = true) (bRowOf : Binds K fdRowOf ["many", "shares", "found"] [])
    {fCornerShares : Addr} {fdCornerShares : FuncData} (GCornerShares : FnOk P w K mg base CX0 2 fCornerShares fdCornerShares ["lines", "first", "second", "axis"] (spCornerShares K)) (gCornerShares : mg "corner_shares" = some (.ref fCornerShares)) (kpCornerShares : PySem.W.keepIn K (.ref fCornerShares) = true) (bCornerShares : Binds K fdCornerShares ["lines", "first", "second", "axis"] []) :
    FnOk P w K mg base CX0 3 fAtRow fdAtRow ["lines", "dimension"] (spAtRow K) := by
  refine F.ok scAtRow (fun vs H Q E h => ?_) (fun cdv A outer s H vs Q E hr h => ?_)
  · obtain ⟨u, t, i, j, ax, f, ls, l1, l2, rfl, ⟨v, g1, g2⟩, hL, e1, e2, hij, ⟨a1, a2, a3⟩, ⟨b1, b2, b3⟩, h0, hm, k⟩ := h
    rfl
  · obtain ⟨u, t, i, j, ax, f, ls, l1, l2, rfl, ⟨v, g1, g2⟩, hL, e1, e2, hij, ⟨a1, a2, a3⟩, ⟨b1, b2, b3⟩, h0, hm, k⟩ := h
    refine ⟨_, (pss_cons (ps_asg (pv 1) (pg_tup rfl (pgs_cons (pg_name (i := 2) scAtRow.nd rfl (Or.inl rfl)) (pgs_cons (pg_name (i := 3) scAtRow.nd rfl (Or.inl rfl)) (pgs_cons (pg_name (i := 4) scAtRow.nd rfl (Or.inl rfl)) (pgs_cons (pg_name (i := 5) scAtRow.nd rfl (Or.inl rfl)) (pgs_cons (pg_name (i := 6) scAtRow.nd rfl (Or.inl rfl)) pgs_nil)))))))
      (pss_one (ps_ret (pe_call GRowOf hr (by rfl) gRowOf kpRowOf bRowOf .nil pass0 (pa_cons (pe_callB call_len_seq (by rfl) T.len PySem.boot_len (pa_cons (pv 0) pa_nil)) (pa_cons (pe_call GCornerShares hr (by rfl) gCornerShares kpCornerShares bCornerShares .nil pass0 (pa_cons (pv 0) (pa_cons (pv 3) (pa_cons (pv 4) (pa_cons (pv 5) pa_nil))))) (pa_cons (pv 6) pa_nil))))))), ?_⟩
    have hLs := hL
    obtain ⟨ws, h1, h2, h3⟩ := hL
    refine ⟨_, rfl, t, _, rfl, g1, rfl, _, _, rfl, _, _, rfl, _, _, rfl, _, _, rfl, _, _, rfl, rfl, ?_⟩
    refine ⟨_, rfl, u, _, rfl, .inl h1, ?_⟩
    walk_at "go"
    refine ⟨u, i, j, ax, ls, l1, l2, rfl, hLs, e1, e2, hij, a1, a2, b1, b2, h0, fun H1 d s1 sh => ?_⟩
    refine ⟨_, rfl, ls.length, d, v, _, f, 2, ?_, sh, g2.up s1, hm, fun H2 r s2 hr nr => ?_⟩
    · rw [Ro_len, ← h3, List.length_map]
      rfl
    · exact k H2 r (s1.trans s2) hr (none_back s1 nr)
def spBetweenRow (K : PySem.W.Frag) : Sp := fun vs H Q _ => False
theorem okBetweenRow {fBetweenRow : Addr} {fdBetweenRow : FuncData} (F : Fun K "between_row" "between_row" sBetweenRow fBetweenRow fdBetweenRow) (T : Txt mg) {aZERO : Addr} {aONE : Addr} (CT : Cons K mg aZERO aONE) {CPartError CNought : Addr} (EX : Exns K mg CPartError CNought)
    {fCornerShares : Addr} {fdCornerShares : FuncData} (GCornerShares : FnOk P w K mg base CX0 2 fCornerShares fdCornerShares ["lines", "first", "second", "axis"] (spCornerShares K)) (gCornerShares : mg "corner_shares" = some (.ref fCornerShares)) (kpCornerShares : PySem.W.keepIn K (.ref fCornerShares) = true) (bCornerShares : Binds K fdCornerShares ["lines", "first", "second", "axis"] [])
    {fRowOf : Addr} {fdRowOf : FuncData} (GRowOf : FnOk P w K mg base CX0 2 fRowOf fdRowOf ["many", "shares", "found"] (spRowOf K)) (gRowOf : mg "row_of" = some (.ref fRowOf)) (kpRowOf : PySem.W.keepIn K (.ref fRowOf) = true) (bRowOf : Binds K fdRowOf ["many", "shares", "found"] [])
    {fMinus : Addr} {fdMinus : FuncData} (GMinus : FnOk P w K mg base CX0 2 fMinus fdMinus ["a", "b"] (spMinus K)) (gMinus : mg "minus" = some (.ref fMinus)) (kpMinus : PySem.W.keepIn K (.ref fMinus) = true) (bMinus : Binds K fdMinus ["a", "b"] []) :
    FnOk P w K mg base CX0 3 fBetweenRow fdBetweenRow ["lines", "dimension"] (spBetweenRow K) := by
  exact F.ok scBetweenRow (fun vs H Q E h => h.elim) (fun cdv A outer s H vs Q E hr h => h.elim)
/-- a dimension that fits the lines -/
def DmOk (ls : List Ln) : Dm → Prop
  | .at j k _ _ => ∃ l1 l2, ls[j]? = some l1 ∧ ls[k]? = some l2 ∧ j ≠ k ∧ l1.a * l2.b - l1.b * l2.a ≠ 0
  | .ap j k p q f => ∃ l1 l2, ls[j]? = some l1 ∧ ls[k]? = some l2 ∧ j ≠ k ∧ p.natAbs < 8 ∧ q.natAbs < 8 ∧ Bd 50 f.1 ∧ Bd 50 f.2
def lnD (ls : List Ln) (j : Nat) : Ln := ls.getD j ⟨"", 0, 0, none⟩
theorem lnD_at {ls : List Ln} {j : Nat} {l : Ln} (h : ls[j]? = some l) : lnD ls j = l := by
  unfold lnD
  rw [List.getD_eq_getElem?_getD, h]
  rfl
def dmRow (ls : List Ln) : Dm → List Rat
  | .at j k ax f => row2 ls.length j k (cornQ (lnD ls j) (lnD ls k) ax).1 (cornQ (lnD ls j) (lnD ls k) ax).2 f
  | .ap j k p q f => row2 ls.length j k (-(ratioQ (lnD ls j).a (lnD ls j).b (lnD ls k).a (lnD ls k).b)) 1 ((((lnD ls k).a * q - (lnD ls k).b * p : Int) : Rat) * f.1, (((lnD ls k).a * q - (lnD ls k).b * p : Int) : Rat) * f.2)
def spDimensionRow (K : PySem.W.Frag) : Sp := fun vs H Q _ => ∃ (u t : Addr) (ls : List Ln) (d : Dm), vs = [.ref u, .ref t] ∧ LnsAt K H u ls ∧ DmAt K H t d ∧ (∀ l ∈ ls, LnOk l) ∧ DmOk ls d ∧ ls.length ≤ 20 ∧ ∀ (H' : Hp) (r : Addr), Same H H' → RowAt K H' r (dmRow ls d) → H r = none → Q (.ref r) H'
theorem okDimensionRow {fDimensionRow : Addr} {fdDimensionRow : FuncData} (F : Fun K "dimension_row" "dimension_row" sDimensionRow fDimensionRow fdDimensionRow) (T : Txt mg) {aZERO : Addr} {aONE : Addr} (CT : Cons K mg aZERO aONE) {CPartError CNought : Addr} (EX : Exns K mg CPartError CNought)
    {fBetweenRow : Addr} {fdBetweenRow : FuncData} (GBetweenRow : FnOk P w K mg base CX0 3 fBetweenRow fdBetweenRow ["lines", "dimension"] (spBetweenRow K)) (gBetweenRow : mg "between_row" = some (.ref fBetweenRow)) (kpBetweenRow : PySem.W.keepIn K (.ref fBetweenRow) = true) (bBetweenRow : Binds K fdBetweenRow ["lines", "dimension"] [])
    {fApartRow : Addr} {fdApartRow : FuncData} (GApartRow : FnOk P w K mg base CX0 4 fApartRow fdApartRow ["lines", "dimension"] (spApartRow K)) (gApartRow : mg "apart_row" = some (.ref fApartRow)) (kpApartRow : PySem.W.keepIn K (.ref fApartRow) = true) (bApartRow : Binds K fdApartRow ["lines", "dimension"] [])
    {fAtRow : Addr} {fdAtRow : FuncData} (GAtRow : FnOk P w K mg base CX0 3 fAtRow fdAtRow ["lines", "dimension"] (spAtRow K)) (gAtRow : mg "at_row" = some (.ref fAtRow)) (kpAtRow : PySem.W.keepIn K (.ref fAtRow) = true) (bAtRow : Binds K fdAtRow ["lines", "dimension"] []) :
    FnOk P w K mg base CX0 5 fDimensionRow fdDimensionRow ["lines", "dimension"] (spDimensionRow K) := by
  refine F.ok scDimensionRow (fun vs H Q E h => ?_) (fun cdv A outer s H vs Q E hr h => ?_)
  · obtain ⟨u, t, ls, d, rfl, hL, hD, hl, hk, hm, k⟩ := h
    rfl
  · obtain ⟨u, t, ls, d, rfl, hL, hD, hl, hk, hm, k⟩ := h
    refine ⟨_, (pss_cons (ps_set (i := 2) scDimensionRow.nd rfl (Or.inl rfl) (pe_ix ix_tup (pv 1) pe_int (fun _ _ => rfl)))
      (pss_cons (ps_if (pt_cmpR op_eq (pv 2) pe_str (nomark _))
        (pss_one (ps_ret (pe_call GApartRow hr (by rfl) gApartRow kpApartRow bApartRow .nil pass0 (pa_cons (pv 0) (pa_cons (pv 1) pa_nil)))))
        pss_nil)
      (pss_cons (ps_if (pt_cmpR op_eq (pv 2) pe_str (nomark _))
        (pss_one (ps_ret (pe_call GAtRow (hr.mono (by decide)) (by rfl) gAtRow kpAtRow bAtRow .nil pass0 (pa_cons (pv 0) (pa_cons (pv 1) pa_nil)))))
        pss_nil)
      (pss_one (ps_ret (pe_call GBetweenRow (hr.mono (by decide)) (by rfl) gBetweenRow kpBetweenRow bBetweenRow .nil pass0 (pa_cons (pv 0) (pa_cons (pv 1) pa_nil)))))))), ?_⟩
    match d, hD, hk with
    | .at i j ax f, hD, ⟨l1, l2, e1, e2, hij, h0⟩ =>
      have hD2 := hD
      obtain ⟨v, g1, g2⟩ := hD2
      unfold dmRow at k
      dsimp only at k
      rw [lnD_at e1, lnD_at e2] at k
      walk_at "go"
      exact ⟨u, t, i, j, ax, f, ls, l1, l2, rfl, hD, hL, e1, e2, hij, hl _ (List.mem_of_getElem? e1), hl _ (List.mem_of_getElem? e2), h0, hm, k⟩
    | .ap i j p q f, hD, ⟨l1, l2, e1, e2, hij, c1, c2, c3, c4⟩ =>
      have hD2 := hD
      obtain ⟨dw, v, g1, gd, g2⟩ := hD2
      unfold dmRow at k
      dsimp only at k
      rw [lnD_at e1, lnD_at e2] at k
      walk_at "go"
      exact ⟨u, t, i, j, p, q, f, ls, l1, l2, rfl, hD, hL, e1, e2, hij, hl _ (List.mem_of_getElem? e1), hl _ (List.mem_of_getElem? e2), c1, c2, c3, c4, hm, k⟩
def PtBd (l : Ln) : Prop := ∀ x y, l.pt = some (x, y) → Bd 50 x.1 ∧ Bd 50 x.2 ∧ Bd 50 y.1 ∧ Bd 50 y.2
def thrO (ls : List Ln) (i : Nat) : Option (List Rat) := (lnD ls i).pt.map fun p => row2 ls.length i i 1 0 (thrV (lnD ls i) p.1 p.2)
def thrL (ls : List Ln) : List (Option (List Rat)) := (List.range ls.length).map (thrO ls)
def gRows (ls : List Ln) (ds : List Dm) : List (List Rat) := (thrL ls).filterMap id ++ ds.map (dmRow ls)
def DmsAt (K : PySem.W.Frag) (H : Hp) (u : Addr) (ds : List Dm) : Prop := ∃ ws : List (Addr × Dm), SqL K H u (Ro ws) ∧ (∀ w ∈ ws, DmAt K H w.1 w.2) ∧ ws.map (·.2) = ds
/-- whether a line's offset is determined -/
def dtB (m : Nat) (kept : List (Nat × List Rat)) (i : Nat) : Bool := kept.any fun p => decide (p.1 = i) && (List.range m).all fun k => decide (k = i) || decide (p.2.getD k 0 = 0)
theorem dtB_iff {m : Nat} {kept : List (Nat × List Rat)} {i : Nat} : dtB m kept i = true ↔ ∃ p ∈ kept, p.1 = i ∧ ∀ k < m, k ≠ i → p.2.getD k 0 = 0 := by
  unfold dtB
  rw [List.any_eq_true]
  constructor
  · rintro ⟨p, hp, h⟩
    rw [Bool.and_eq_true] at h
    refine ⟨p, hp, of_decide_eq_true h.1, fun k hk hne => ?_⟩
    have := List.all_eq_true.mp h.2 k (List.mem_range.mpr hk)
    rw [Bool.or_eq_true] at this
    exact of_decide_eq_true (this.resolve_left fun z => hne (of_decide_eq_true z))
  · rintro ⟨p, hp, h1, h2⟩
    refine ⟨p, hp, ?_⟩
    rw [Bool.and_eq_true]
    refine ⟨decide_eq_true h1, List.all_eq_true.mpr fun k hk => ?_⟩
    rw [Bool.or_eq_true]
    by_cases e : k = i
    · exact .inl (decide_eq_true e)
    · exact .inr (decide_eq_true (h2 k (List.mem_range.mp hk) e))
def freeL (m : Nat) (kept : List (Nat × List Rat)) (ls : List Ln) : List (Option V) := (List.range m).map fun i => if dtB m kept i = true then none else some (V.str (lnD ls i).nm)
theorem take_two {r : List Rat} {m : Nat} (h : m + 2 ≤ r.length) : (r.take (m + 2)).drop m = [r.getD m 0, r.getD (m + 1) 0] := by
  refine List.ext_getElem (by rw [List.length_drop, List.length_take]; show min (m + 2) r.length - m = 2; omega) fun k h1 h2 => ?_
  have h3 : k < 2 := h2
  rw [List.getElem_drop, List.getElem_take]
  have e : r[m + k]'(by omega) = r.getD (m + k) 0 := by
    rw [List.getD_eq_getElem?_getD, List.getElem?_eq_getElem (by omega)]
    rfl
  rw [e]
  have h4 : k = 0 ∨ k = 1 := by omega
  rcases h4 with h | h
  · subst h
    rfl
  · subst h
    rfl
theorem take_at {r : List Rat} {m k : Nat} (h : k < m) : (r.take m).getD k 0 = r.getD k 0 := by
  rw [List.getD_eq_getElem?_getD, List.getElem?_take, if_pos h, ← List.getD_eq_getElem?_getD]
theorem pick {α : Type} : ∀ {us : List V} {S : Nat → Addr → α → Prop}, (∀ i v, us[i]? = some v → ∃ t x, v = .ref t ∧ S i t x) → ∃ ws : List (Addr × α), Ro ws = us ∧ ∀ (i : Nat) (w : Addr × α), ws[i]? = some w → S i w.1 w.2
  | [], S, _ => ⟨[], rfl, fun _ _ h => by simp at h⟩
  | u :: us, S, h => by
    obtain ⟨t, x, rfl, h1⟩ := h 0 u rfl
    obtain ⟨ws, h2, h3⟩ := pick (us := us) (S := fun i => S (i + 1)) fun i v hv => h (i + 1) v hv
    refine ⟨(t, x) :: ws, by rw [← h2]; rfl, fun i w hw => ?_⟩
    cases i with
    | zero =>
      obtain rfl : (t, x) = w := Option.some.inj hw
      exact h1
    | succ i => exact h3 i w hw
theorem fm_filter {f : Nat → V} {c : Nat → Bool} : ∀ T : List Nat, (T.map fun k => if c k = true then some (f k) else none).filterMap id = (T.filter c).map f
  | [] => rfl
  | k :: T => by
    have ih := fm_filter (f := f) (c := c) T
    rw [List.map_cons]
    cases h : c k with
    | true => rw [if_pos rfl, List.filter_cons_of_pos h, List.map_cons, ← ih]; rfl
    | false => rw [if_neg Bool.false_ne_true, List.filter_cons_of_neg (by rw [h]; decide), ← ih]; rfl
def spSolveSketch (K : PySem.W.Frag) : Sp := fun vs H Q _ => ∃ (l d : Addr) (ls : List Ln) (ds : List Dm) (m : Nat), vs = [.ref l, .ref d] ∧ LnsAt K H l ls ∧ DmsAt K H d ds ∧ (∀ l ∈ ls, LnOk l ∧ PtBd l) ∧ (∀ d ∈ ds, DmOk ls d) ∧ ls.length = m ∧ m ≤ 6 ∧ ds.length ≤ 8 ∧ (∀ g ∈ gRows ls ds, Gt m g) ∧
  (∀ (H' : Hp) (t u : Addr) (i : Nat) (μ : Nat → Rat), Same H H' → Cg m (m + 2) (gRows ls ds) i μ → SqT K H' t [.str "over", .ref u] → H' u = some (.lst (((toldL (gRows ls ds).length μ).filter fun k => decide (((thrL ls).filterMap id).length ≤ k)).map fun k => V.int ((k - ((thrL ls).filterMap id).length + 1 : Nat) : Int))) → Q (.ref t) H') ∧
  (∀ (H' : Hp) (t u : Addr) (kept : List (Nat × List Rat)), Same H H' → SG m (m + 2) (m + 2 + (gRows ls ds).length) (gRows ls ds) kept → (∃ i < m, dtB m kept i = false) → SqT K H' t [.str "free", .ref u] → H' u = some (.lst ((freeL m kept ls).filterMap id)) → Q (.ref t) H') ∧
  ∀ (H' : Hp) (t u : Addr) (kept : List (Nat × List Rat)) (ws : List (Addr × (Rat × Rat))), Same H H' → SG m (m + 2) (m + 2 + (gRows ls ds).length) (gRows ls ds) kept → (∀ i < m, dtB m kept i = true) → SqT K H' t [.str "determined", .ref u] → H' u = some (.lst (Ro ws)) → (∀ w ∈ ws, V1 K H' w.1 w.2) → ws.length = m → (∀ (i : Nat) (w : Addr × (Rat × Rat)), ws[i]? = some w → ∃ p ∈ kept, p.1 = i ∧ (∀ k < m, k ≠ i → p.2.getD k 0 = 0) ∧ w.2 = (p.2.getD m 0, p.2.getD (m + 1) 0)) → Q (.ref t) H'
theorem okSolveSketch {fSolveSketch : Addr} {fdSolveSketch : FuncData} (F : Fun K "solve_sketch" "solve_sketch" sSolveSketch fSolveSketch fdSolveSketch) (T : Txt mg) {aZERO : Addr} {aONE : Addr} (CT : Cons K mg aZERO aONE) {CPartError CNought : Addr} (EX : Exns K mg CPartError CNought)
    {fSettleRows : Addr} {fdSettleRows : FuncData} (GSettleRows : FnOk P w K mg base CX0 4 fSettleRows fdSettleRows ["rows", "many"] (spSettleRows K)) (gSettleRows : mg "settle_rows" = some (.ref fSettleRows)) (kpSettleRows : PySem.W.keepIn K (.ref fSettleRows) = true) (bSettleRows : Binds K fdSettleRows ["rows", "many"] [])
    {fThroughRow : Addr} {fdThroughRow : FuncData} (GThroughRow : FnOk P w K mg base CX0 4 fThroughRow fdThroughRow ["lines", "at"] (spThroughRow K)) (gThroughRow : mg "through_row" = some (.ref fThroughRow)) (kpThroughRow : PySem.W.keepIn K (.ref fThroughRow) = true) (bThroughRow : Binds K fdThroughRow ["lines", "at"] [])
    {fWorthTold : Addr} {fdWorthTold : FuncData} (GWorthTold : FnOk P w K mg base CX0 1 fWorthTold fdWorthTold ["kept", "at", "many"] (spWorthTold K)) (gWorthTold : mg "worth_told" = some (.ref fWorthTold)) (kpWorthTold : PySem.W.keepIn K (.ref fWorthTold) = true) (bWorthTold : Binds K fdWorthTold ["kept", "at", "many"] [])
    {fDimensionRow : Addr} {fdDimensionRow : FuncData} (GDimensionRow : FnOk P w K mg base CX0 5 fDimensionRow fdDimensionRow ["lines", "dimension"] (spDimensionRow K)) (gDimensionRow : mg "dimension_row" = some (.ref fDimensionRow)) (kpDimensionRow : PySem.W.keepIn K (.ref fDimensionRow) = true) (bDimensionRow : Binds K fdDimensionRow ["lines", "dimension"] []) :
    FnOk P w K mg base CX0 6 fSolveSketch fdSolveSketch ["lines", "dimensions"] (spSolveSketch K) := by
  refine F.ok scSolveSketch (fun vs H Q E h => ?_) (fun cdv A outer s H vs Q E hr h => ?_)
  · obtain ⟨l, d, ls, ds, m, rfl, hL, hD, hl, hd, hm, h6, h8, hG, k1, k2, k3⟩ := h
    rfl
  · obtain ⟨l, d, ls, ds, m, rfl, hL, hD, hl, hd, hm, h6, h8, hG, k1, k2, k3⟩ := h
    refine ⟨_, (pss_cons (ps_set (i := 2) scSolveSketch.nd rfl (Or.inr rfl) (pe_callB (show CallR _ (Value.builtin "len") (rLenS K) from call_len_seq) (by rfl) T.len PySem.boot_len (pa_cons (pv 0) pa_nil)))
      (pss_cons (ps_set (i := 3) scSolveSketch.nd rfl (Or.inr rfl) (pe_lc (own := [("at", 8)]) (by rfl) scSolveSketch.nd (pi_range1 rfl T.range (pa_cons (pv 2) pa_nil)) (blkOk_by (own := [("at", 8)]) (N := ["lines", "dimensions", "many", "through", "state", "found", "told", "free", "at", "dimension", "place", "parts"]) (sc := defScope sSolveSketch) (by decide +kernel)) (fun _ _ _ _ _ => (pg_name (i := 8) scSolveSketch.nd rfl (Or.inl rfl))) (fun _ _ _ _ _ => pts_one (pt_cmpR op_notN (pe_ix (show IxR _ (rIxT K) from ix_tup) (pe_ix (show IxR _ (rIxL K) from ix_list) (pv 0) (pv 8) (fun _ _ => rfl)) pe_int (fun _ _ => rfl)) pe_non (nomark _))) (fun _ _ _ _ _ => (pe_call GThroughRow (hr.mono (by decide)) (by rfl) gThroughRow kpThroughRow bThroughRow .nil pass0 (pa_cons (pv 0) (pa_cons (pv 8) pa_nil))))))
      (pss_cons (ps_asg (pe_call GSettleRows (hr.mono (by decide)) (by rfl) gSettleRows kpSettleRows bSettleRows .nil pass0 (pa_cons (pe_op op_cat (pv 3) (pe_lc (own := [("dimension", 9)]) (by rfl) scSolveSketch.nd (pi_list (pv 1)) (blkOk_by (own := [("dimension", 9)]) (N := ["lines", "dimensions", "many", "through", "state", "found", "told", "free", "at", "dimension", "place", "parts"]) (sc := defScope sSolveSketch) (by decide +kernel)) (fun _ _ _ _ _ => (pg_name (i := 9) scSolveSketch.nd rfl (Or.inl rfl))) (fun _ _ _ _ _ => pts_nil) (fun _ _ _ _ _ => (pe_call GDimensionRow hr (by rfl) gDimensionRow kpDimensionRow bDimensionRow .nil pass0 (pa_cons (pv 0) (pa_cons (pv 9) pa_nil)))))) (pa_cons (pv 2) pa_nil))) (pg_tup rfl (pgs_cons (pg_name (i := 4) scSolveSketch.nd rfl (Or.inl rfl)) (pgs_cons (pg_name (i := 5) scSolveSketch.nd rfl (Or.inr rfl)) pgs_nil))))
      (pss_cons (ps_if (pt_cmpR op_eq (pv 4) pe_str (nomark _))
        (pss_one (ps_ret (pe_tup (pa_cons pe_str (pa_cons (pe_lc (own := [("place", 10)]) (by rfl) scSolveSketch.nd (pi_list (pv 5)) (blkOk_by (own := [("place", 10)]) (N := ["lines", "dimensions", "many", "through", "state", "found", "told", "free", "at", "dimension", "place", "parts"]) (sc := defScope sSolveSketch) (by decide +kernel)) (fun _ _ _ _ _ => (pg_name (i := 10) scSolveSketch.nd rfl (Or.inl rfl))) (fun _ _ _ _ _ => pts_one (pt_cmpR op_ge (pv 10) (pe_callB (show CallR _ (Value.builtin "len") (rLenS K) from call_len_seq) (by rfl) T.len PySem.boot_len (pa_cons (pv 3) pa_nil)) (nomark _))) (fun _ _ _ _ _ => (pe_op op_add (pe_op op_sub (pv 10) (pe_callB (show CallR _ (Value.builtin "len") (rLenS K) from call_len_seq) (by rfl) T.len PySem.boot_len (pa_cons (pv 3) pa_nil))) pe_int))) pa_nil)))))
        pss_nil)
      (pss_cons (ps_set (i := 6) scSolveSketch.nd rfl (Or.inr rfl) (pe_lc (own := [("at", 8)]) (by rfl) scSolveSketch.nd (pi_range1 rfl T.range (pa_cons (pv 2) pa_nil)) (blkOk_by (own := [("at", 8)]) (N := ["lines", "dimensions", "many", "through", "state", "found", "told", "free", "at", "dimension", "place", "parts"]) (sc := defScope sSolveSketch) (by decide +kernel)) (fun _ _ _ _ _ => (pg_name (i := 8) scSolveSketch.nd rfl (Or.inl rfl))) (fun _ _ _ _ _ => pts_nil) (fun _ _ _ _ _ => (pe_call GWorthTold (hr.mono (by decide)) (by rfl) gWorthTold kpWorthTold bWorthTold .nil pass0 (pa_cons (pv 5) (pa_cons (pv 8) (pa_cons (pv 2) pa_nil)))))))
      (pss_cons (ps_setLc (i := 7) (own := [("at", 8)]) (by rfl) scSolveSketch.nd rfl rfl (sw_true rfl rfl rfl (by decide +kernel)) (pi_range1 rfl T.range (pa_cons (pv 2) pa_nil)) (blkOk_by (own := [("at", 8)]) (N := ["lines", "dimensions", "many", "through", "state", "found", "told", "free", "at", "dimension", "place", "parts"]) (sc := defScope sSolveSketch) (by decide +kernel)) (fun _ _ _ _ _ => (pg_name (i := 8) scSolveSketch.nd rfl (Or.inl rfl))) (fun _ _ _ _ _ => pts_one (pt_cmpR op_isN (pe_ix (show IxR _ (rIxL K) from ix_list) (pv 6) (pv 8) (fun _ _ => rfl)) pe_non (nomark _))) (fun _ _ _ _ _ => (pe_ix (show IxR _ (rIxT K) from ix_tup) (pe_ix (show IxR _ (rIxL K) from ix_list) (pv 0) (pv 8) (fun _ _ => rfl)) pe_int (fun _ _ => rfl))))
      (pss_cons (ps_if (pt_truth (pv 7) (by intro _; rfl))
        (pss_one (ps_ret (pe_tup (pa_cons pe_str (pa_cons (pv 7) pa_nil)))))
        pss_nil)
      (pss_one (ps_ret (pe_tup (pa_cons pe_str (pa_cons (pe_lc (own := [("parts", 11)]) (by rfl) scSolveSketch.nd (pi_list (pv 6)) (blkOk_by (own := [("parts", 11)]) (N := ["lines", "dimensions", "many", "through", "state", "found", "told", "free", "at", "dimension", "place", "parts"]) (sc := defScope sSolveSketch) (by decide +kernel)) (fun _ _ _ _ _ => (pg_name (i := 11) scSolveSketch.nd rfl (Or.inl rfl))) (fun _ _ _ _ _ => pts_nil) (fun _ _ _ _ _ => (pe_tup (pa_cons (pe_ix (show IxR _ (rIxL K) from ix_list) (pv 11) pe_int (fun _ _ => rfl)) (pa_cons (pe_callTy (show CallR _ (Value.type "tuple") (rTupOf K) from call_tuple_of) (by rfl) (by exact T.tuple) (by decide +kernel) (pa_cons (pe_slice (show SlR _ (rSlL K) from sl_list) (pv 11) (po_some pe_int) po_none) pa_nil)) pa_nil))))) pa_nil)))))))))))), ?_⟩
    have hLs := hL
    obtain ⟨ws, l1, l2, l3⟩ := hL
    have lw : ws.length = m := by rw [← hm, ← l3, List.length_map]
    refine ⟨_, rfl, l, _, rfl, .inl l1, ?_⟩
    rw [Ro_len, lw]
    refine ⟨_, rfl, m, rfl, by omega, by omega, fun D nD => ?_⟩
    refine lc_selD (fun H t g => t ≠ D ∧ RowAt K H t g) (fun s h => ⟨h.1, h.2.up s⟩) walk_range (thrL ls) (by unfold thrL; rw [List.length_map, List.length_range, hm]; omega) (by omega) nD (fun h hl s => ⟨h.1, h.2.over h.1 hl s⟩) (fun _ _ => trivial) ?_ ?_
    · rintro i c v H2 H3 kk kn hc s2 ⟨ys, hys⟩ ⟨rfl, hv⟩ hk hkn
      obtain rfl : v = V.int (i : Int) := hv.trans (by show V.int (0 + (i : Int)) = _; rw [Int.zero_add])
      have hi : i < ls.length := by
        have := (List.getElem?_eq_some_iff.mp hc).1
        unfold thrL at this
        rw [List.length_map, List.length_range] at this
        exact this
      have ei : ls[i]? = some (lnD ls i) := by
        unfold lnD
        rw [List.getD_eq_getElem?_getD, List.getElem?_eq_getElem hi]
        rfl
      unfold thrL at hc
      rw [List.getElem?_map, List.getElem?_range hi] at hc
      obtain rfl : thrO ls i = c := Option.some.inj hc
      obtain ⟨ta, ta1, ta2⟩ := ln_at l3 ei
      obtain ⟨da, va, ga1, ga2, ga3⟩ := (l2 _ ta2).up s2
      obtain ⟨okl, bdl⟩ := hl _ (List.mem_of_getElem? ei)
      dsimp only at ga1 ga2 ga3
      refine ⟨rfl, ?_⟩
      refine ⟨_, rfl, _, rfl, l, _, i, V.ref ta, rfl, rfl, s2.seq l1, atI_nat ta1, ?_⟩
      refine ⟨ta, _, 2, _, rfl, rfl, ga1, atI_nat (j := 2) rfl, ?_⟩
      refine ⟨rfl, _, rfl, ?_⟩
      cases hp : (lnD ls i).pt with
      | none =>
        rw [hp] at ga3
        obtain rfl : va = V.non := ga3
        refine iteF' (by rw [decide_eq_true rfl]; rfl) ?_
        exact hkn (by unfold thrO; rw [hp]; rfl) _ (Same.refl _)
      | some pp =>
        obtain ⟨x, y⟩ := pp
        rw [hp] at ga3
        obtain ⟨q, u1, u2, rfl, ga4⟩ := ga3
        obtain ⟨c1, c2, c3, c4⟩ := bdl x y hp
        refine iteT' (by rw [decide_eq_false (fun z => by cases z)]; rfl) ?_
        refine ⟨_, rfl, _, rfl, l, i, ls, lnD ls i, x, y, rfl, hLs.up s2, ei, hp, by omega, okl.1, okl.2.1, c1, c2, c3, c4, fun H4 t s4 hr nt => ?_⟩
        exact hk _ (by unfold thrO; rw [hp]; rfl) t H4 s4 ⟨(fun e => by rw [e, hys] at nt; cases nt), hr⟩
    intro H1 ts s1 e1 r1 m1
    obtain ⟨dws, d1, d2, d3⟩ := hD
    have ldw : dws.length = ds.length := by rw [← d3, List.length_map]
    refine ⟨_, rfl, _, rfl, d, rfl, ⟨_, s1.seq d1⟩, fun D2 nD2 => ?_⟩
    refine lc_relD (walk_list (K := K) (a := d) (xs := Ro dws)) (ds.map (dmRow ls)) (by rw [List.length_map, Ro_len, ldw]) (by rw [Ro_len]; omega) nD2 (fun H t g => t ≠ D2 ∧ RowAt K H t g) (fun s h => ⟨h.1, h.2.up s⟩) (fun h hl s => ⟨h.1, h.2.over h.1 hl s⟩) (fun H2 s2 => s2.seq (s1.seq d1)) ?_ ?_
    · rintro j c v H2 H3 kk hc s2 ⟨ys, hys⟩ ⟨rfl, hg⟩ kk2
      obtain ⟨w, rfl, hw⟩ := Ro_get hg
      have mw := List.mem_of_getElem? hw
      have hdj := map_at d3 hw
      rw [List.getElem?_map, hdj] at hc
      obtain rfl : dmRow ls w.2 = c := Option.some.inj hc
      refine ⟨rfl, _, rfl, _, rfl, l, w.1, ls, w.2, rfl, hLs.up (s1.trans s2), (d2 w mw).up (s1.trans s2), (fun l hl2 => (hl l hl2).1), hd _ (List.mem_of_getElem? hdj), by omega, fun H4 t s4 hr nt => ?_⟩
      exact kk2 t H4 s4 ⟨(fun e => by rw [e, hys] at nt; cases nt), hr⟩
    intro H2 us s2 e2 r2 m2
    have lts : ts.length ≤ m := by
      have := congrArg List.length m1
      rw [List.length_map] at this
      have h2 := List.length_filterMap_le id (thrL ls)
      unfold thrL at h2 this
      rw [List.length_map, List.length_range] at h2
      omega
    have lus : us.length = ds.length := by
      have := congrArg List.length m2
      rw [List.length_map, List.length_map] at this
      exact this
    refine ⟨D, D2, Ro ts, Ro us, rfl, rfl, s2 _ _ e1, e2, by rw [Ro_len, Ro_len]; exact Nat.le_of_lt (small1000 (by omega)), fun P3 n3 => ?_⟩
    have s3 := same_upd (o := .lst (Ro ts ++ Ro us)) n3
    have e3 : (upd H2 P3 (.lst (Ro ts ++ Ro us))) P3 = some (.lst (Ro ts ++ Ro us)) := upd_same
    generalize upd H2 P3 (.lst (Ro ts ++ Ro us)) = H3 at s3 e3 ⊢
    have s03 := s1.trans (s2.trans s3)
    have hRows : RowsAt K H3 P3 (gRows ls ds) := by
      refine ⟨ts ++ us, ?_, fun w hw => ?_, ?_⟩
      · rw [show Ro (ts ++ us) = Ro ts ++ Ro us from List.map_append]
        exact SqL.of e3
      · rcases List.mem_append.mp hw with h | h
        · exact (r1 w h).2.up (s2.trans s3)
        · exact (r2 w h).2.up s3
      · rw [List.map_append, m1, m2]
        rfl
    have lG : (gRows ls ds).length ≤ 14 := by
      unfold gRows
      rw [List.length_append, ← m1, List.length_map, List.length_map]
      omega
    have hGl : ∀ g ∈ gRows ls ds, g.length = m + 2 := by
      have h2 : ∀ i j x y p, (row2 ls.length i j x y p).length = m + 2 := fun i j x y p => by
        unfold row2
        rw [List.length_append, List.length_map, List.length_range, hm]
        rfl
      intro g hg
      rcases List.mem_append.mp hg with h | h
      · obtain ⟨o, ho, e⟩ := List.mem_filterMap.mp h
        obtain ⟨i, _, rfl⟩ := List.mem_map.mp ho
        have e : thrO ls i = some g := e
        unfold thrO at e
        cases hp : (lnD ls i).pt with
        | none =>
          rw [hp] at e
          cases e
        | some p =>
          rw [hp] at e
          obtain rfl := Option.some.inj e
          exact h2 _ _ _ _ _
      · obtain ⟨x, _, rfl⟩ := List.mem_map.mp h
        unfold dmRow
        split
        · exact h2 _ _ _ _ _
        · exact h2 _ _ _ _ _
    refine ⟨_, rfl, P3, m, m + 2, gRows ls ds, rfl, hRows, fun g hg => ⟨hGl g hg, hG g hg⟩, by omega, by omega, h6, lG, fun H4 t u kept s4 hS ht hK => ?_, fun H4 t u i μ s4 hC ht hu => ?_⟩
    · refine ⟨t, _, rfl, ht, rfl, _, _, rfl, _, _, rfl, rfl, ?_⟩
      walk_at "go"
      refine ⟨by omega, by omega, fun D5 n5 => ?_⟩
      have hle := hS.le
      have kf := hS.ki.few
      obtain ⟨kp, hkp⟩ : ∃ kp, kp = kept.map (fun p => (p.1, p.2.take (m + 2))) := ⟨_, rfl⟩
      rw [← hkp] at hK
      have kin : ∀ p ∈ kp, ∃ q ∈ kept, p = (q.1, q.2.take (m + 2)) := fun p hp => by
        rw [hkp] at hp
        obtain ⟨q, hq, e⟩ := List.mem_map.mp hp
        exact ⟨q, hq, e.symm⟩
      have klq : ∀ q ∈ kept, m + 2 ≤ q.2.length := fun q hq => by
        rw [hS.ki.len q hq]
        omega
      have klen : ∀ p ∈ kp, p.2.length = m + 2 := fun p hp => by
        obtain ⟨q, hq, rfl⟩ := kin p hp
        have := klq q hq
        show (q.2.take (m + 2)).length = m + 2
        rw [List.length_take]
        omega
      refine lc_objD walk_range (fun i H v => (v = .non ∧ dtB m kept i = false) ∨ ∃ tt p, v = .ref tt ∧ tt ≠ D5 ∧ p ∈ kept ∧ p.1 = i ∧ (∀ k < m, k ≠ i → p.2.getD k 0 = 0) ∧ RowAt K H tt [p.2.getD m 0, p.2.getD (m + 1) 0]) (by omega) n5 ?_ (fun _ _ => trivial) ?_ ?_
      · rintro i Ha Hb v acc h hl2 s
        rcases h with h | ⟨tt, p, a1, a2, a3, a4, a5, a6⟩
        · exact .inl h
        · exact .inr ⟨tt, p, a1, a2, a3, a4, a5, a6.over a2 hl2 s⟩
      · rintro i x H5 H6 kk hi s5 ⟨ys, hys⟩ ⟨rfl, hv⟩ hk
        obtain rfl : x = V.int (i : Int) := hv.trans (by show V.int (0 + (i : Int)) = _; rw [Int.zero_add])
        refine ⟨rfl, ?_⟩
        refine ⟨_, rfl, _, rfl, _, rfl, u, i, m, m + 2, kp, rfl, hK.up s5, by rw [hkp, List.length_map]; omega, klen, by omega, by omega, fun p hp hpi hz H7 tt s7 hr nt => ?_, fun hn H7 s7 => ?_⟩
        · obtain ⟨q, hq, rfl⟩ := kin p hp
          refine hk _ H7 s7 (.inr ⟨tt, q, rfl, (fun e => by rw [e, hys] at nt; cases nt), hq, hpi, fun k hk hne => ?_, ?_⟩)
          · rw [← take_at (m := m + 2) (by omega)]
            exact hz k hk hne
          · rw [← take_two (klq q hq)]
            exact hr
        · refine hk _ H7 s7 (.inl ⟨rfl, ?_⟩)
          cases hb : dtB m kept i with
          | false => rfl
          | true =>
            obtain ⟨q, hq, h1, h2⟩ := dtB_iff.mp hb
            exact absurd ⟨h1, fun k hk hne => by rw [take_at (m := m + 2) (by omega)]; exact h2 k hk hne⟩ (hn (q.1, q.2.take (m + 2)) (by rw [hkp]; exact List.mem_map_of_mem hq))
      intro H5 tls s5 e5 ltl rtl
      have ltl2 : tls.length = m := by omega
      have tlv : ∀ i, i < m → ∃ v, tls[i]? = some v := fun i hi => ⟨_, List.getElem?_eq_getElem (by omega)⟩
      walk_at "go"
      refine ⟨by omega, by omega, fun D6 n6 => ?_⟩
      refine lc_vv walk_range (freeL m kept ls) (by unfold freeL; simp) (by omega) n6 (fun _ _ => trivial) ?_ ?_
      · rintro i c v H6 H7 kk kn hc s6 ⟨rfl, hv⟩ hk hkn
        obtain rfl : v = V.int (i : Int) := hv.trans (by show V.int (0 + (i : Int)) = _; rw [Int.zero_add])
        have hi : i < m := by
          have := (List.getElem?_eq_some_iff.mp hc).1
          unfold freeL at this
          rw [List.length_map, List.length_range] at this
          exact this
        unfold freeL at hc
        rw [List.getElem?_map, List.getElem?_range hi] at hc
        have hc2 : (if dtB m kept i = true then none else some (V.str (lnD ls i).nm)) = c := Option.some.inj hc
        obtain ⟨vi, hvi⟩ := tlv i hi
        refine ⟨rfl, ?_⟩
        refine ⟨_, rfl, _, rfl, D5, _, i, vi, rfl, rfl, SqL.of (s6 _ _ e5), atI_nat hvi, ?_⟩
        refine ⟨rfl, _, rfl, ?_⟩
        rcases rtl i vi hvi with ⟨rfl, hf⟩ | ⟨tt, p, rfl, a2, a3, a4, a5, a6⟩
        · rw [if_neg (by rw [hf]; decide)] at hc2
          refine iteT' (decide_eq_true rfl) ?_
          have ei : ls[i]? = some (lnD ls i) := by
            unfold lnD
            rw [List.getD_eq_getElem?_getD, List.getElem?_eq_getElem (by omega)]
            rfl
          obtain ⟨ta, ta1, ta2⟩ := ln_at l3 ei
          have s06 := s03.trans (s4.trans (s5.trans s6))
          obtain ⟨da, va, ga1, ga2, ga3⟩ := (l2 _ ta2).up s06
          refine ⟨_, rfl, _, rfl, l, _, i, V.ref ta, rfl, rfl, s06.seq l1, atI_nat ta1, ?_⟩
          refine ⟨ta, _, 0, _, rfl, rfl, ga1, atI_nat (j := 0) rfl, ?_⟩
          exact hk _ hc2.symm _ (Same.refl _)
        · have hb : dtB m kept i = true := dtB_iff.mpr ⟨p, a3, a4, a5⟩
          rw [if_pos hb] at hc2
          refine iteF' (decide_eq_false (fun z => by cases z)) ?_
          exact hkn hc2.symm _ (Same.refl _)
      intro H6 s6 e6
      walk_at "go"
      have s16 := s03.trans (s4.trans (s5.trans s6))
      have frI : ∀ i < m, dtB m kept i = false → ∃ x, x ∈ (freeL m kept ls).filterMap id := fun i hi hf => ⟨V.str (lnD ls i).nm, List.mem_filterMap.mpr ⟨some (V.str (lnD ls i).nm), List.mem_map.mpr ⟨i, List.mem_range.mpr hi, by rw [if_neg (by rw [hf]; decide)]⟩, rfl⟩⟩
      have frB : (∀ i < m, dtB m kept i = true) → (freeL m kept ls).filterMap id = [] := fun h => by
        rw [List.filterMap_eq_nil_iff]
        intro o ho
        obtain ⟨i, hi, rfl⟩ := List.mem_map.mp ho
        rw [if_pos (h i (List.mem_range.mp hi))]
        rfl
      refine ⟨_, .inl ⟨_, SqL.of e6, rfl⟩, ?_⟩
      by_cases hall : ∀ i < m, dtB m kept i = true
      · refine iteF' (by rw [frB hall]; rfl) ?_
        refine ⟨_, rfl, ?_⟩
        walk_at "go"
        have e56 := s6 _ _ e5
        refine ⟨⟨_, SqL.of e56⟩, fun D7 n7 => ?_⟩
        refine lc_objD (walk_list (K := K) (a := D5) (xs := tls)) (fun i H v => ∃ t x, v = .ref t ∧ V1 K H t x ∧ ∃ p ∈ kept, p.1 = i ∧ (∀ k < m, k ≠ i → p.2.getD k 0 = 0) ∧ x = (p.2.getD m 0, p.2.getD (m + 1) 0)) (by omega) n7 ?_ (fun H s => SqL.of (s _ _ e56)) ?_ ?_
        · rintro i Ha Hb v acc ⟨t, x, h1, h2, h3⟩ hl2 s
          exact ⟨t, x, h1, over_vx h2 hl2 s, h3⟩
        · rintro i x H7 H8 kk hi s7 ⟨ys, hys⟩ ⟨rfl, hg⟩ hk
          rcases rtl i x hg with ⟨rfl, hf⟩ | ⟨tt, p, rfl, a2, a3, a4, a5, a6⟩
          · rw [hall i (by omega)] at hf
            cases hf
          obtain ⟨zs2, z1, z2, z3⟩ := a6.up (s6.trans s7)
          obtain ⟨z, y, rfl⟩ : ∃ z y, zs2 = [z, y] := by
            have l2 : zs2.length = 2 := by
              have := congrArg List.length z3
              rw [List.length_map] at this
              exact this
            match zs2, l2 with
            | [z, y], _ => exact ⟨z, y, rfl⟩
          have ez : z.2 = p.2.getD m 0 := by injection z3
          have ey : y.2 = p.2.getD (m + 1) 0 := by
            injection z3 with _ z3
            injection z3
          have fz := z2 z List.mem_cons_self
          have fy := z2 y (List.mem_cons_of_mem _ List.mem_cons_self)
          refine ⟨rfl, ?_⟩
          refine ⟨_, rfl, tt, _, 0, _, rfl, rfl, SqL.of z1, atI_nat (j := 0) rfl, ?_⟩
          refine ⟨_, rfl, _, rfl, tt, _, rfl, SqL.of z1, fun t9 n9 => ?_⟩
          have ec : cutV (fr [z, y]) (some 1) none = [.ref y.1] := rfl
          dsimp only
          rw [ec]
          have s9 := same_upd (o := .lst [.ref y.1]) n9
          have e9 : (upd H8 t9 (.lst [.ref y.1])) t9 = some (.lst [.ref y.1]) := upd_same
          generalize upd H8 t9 (.lst [.ref y.1]) = H9 at s9 e9 ⊢
          refine ⟨t9, _, rfl, .inl ⟨SqL.of e9, fun t10 n10 => ?_⟩⟩
          have s10 := same_upd (o := .tup [.ref y.1]) n10
          have e10 : (upd H9 t10 (.tup [.ref y.1])) t10 = some (.tup [.ref y.1]) := upd_same
          generalize upd H9 t10 (.tup [.ref y.1]) = H10 at s10 e10 ⊢
          refine ⟨by show 2 ≤ sizeLine; decide, fun t11 n11 => ?_⟩
          have s11 := same_upd (o := .tup [.ref z.1, .ref t10]) n11
          refine hk _ _ (s9.trans (s10.trans s11)) ⟨t11, (p.2.getD m 0, p.2.getD (m + 1) 0), rfl, V1.mk (SqT.of upd_same) ?_ (SqT.of (s11 _ _ e10)) ?_, p, a3, a4, a5, rfl⟩
          · rw [← ez]
            exact fz.same (s9.trans (s10.trans s11))
          · rw [← ey]
            exact fy.same (s9.trans (s10.trans s11))
        intro H7 us7 s7 e7 l7 r7
        obtain ⟨ws7, w7, v7⟩ := pick (S := fun i t x => V1 K H7 t x ∧ ∃ p ∈ kept, p.1 = i ∧ (∀ k < m, k ≠ i → p.2.getD k 0 = 0) ∧ x = (p.2.getD m 0, p.2.getD (m + 1) 0)) r7
        walk_at "go"
        refine ⟨by show 2 ≤ sizeLine; decide, fun t8 n8 => ?_⟩
        have s8 := same_upd (o := .tup [.str "determined", .ref D7]) n8
        refine k3 _ t8 D7 kept ws7 (s16.trans (s7.trans s8)) hS hall (SqT.of upd_same) (by rw [w7]; exact s8 _ _ e7) (fun w hw => ?_) ?_ (fun i w hw => (v7 i w hw).2)
        · obtain ⟨i, hi⟩ := List.mem_iff_getElem?.mp hw
          exact (v7 i w hi).1.up s8
        · rw [← Ro_len, w7, l7]
          exact ltl2
      · obtain ⟨i0, hi0⟩ := Classical.not_forall.mp hall
        obtain ⟨hi1, hi2⟩ := Classical.not_imp.mp hi0
        have hf0 : dtB m kept i0 = false := by
          cases h : dtB m kept i0 with
          | false => rfl
          | true => exact absurd h hi2
        refine iteT' (by
          obtain ⟨x, hx⟩ := frI i0 hi1 hf0
          cases h : (freeL m kept ls).filterMap id with
          | nil =>
            rw [h] at hx
            cases hx
          | cons _ _ => rfl) ?_
        walk_at "go"
        refine ⟨by show 2 ≤ sizeLine; decide, fun t7 n7 => ?_⟩
        have s7 := same_upd (o := .tup [.str "free", .ref D6]) n7
        exact k2 _ t7 D6 kept (s16.trans s7) hS ⟨i0, hi1, hf0⟩ (SqT.of upd_same) (s7 _ _ e6)
    · refine ⟨t, _, rfl, ht, rfl, _, _, rfl, _, _, rfl, rfl, ?_⟩
      walk_at "go"
      refine ⟨⟨_, SqL.of hu⟩, fun D5 n5 => ?_⟩
      have lnp : ts.length = ((thrL ls).filterMap id).length := by rw [← m1, List.length_map]
      have e4 := s4 _ _ (s3 _ _ (s2 _ _ e1))
      have ltd : (toldL (gRows ls ds).length μ).length ≤ 14 := by
        unfold toldL
        have := List.length_filter_le (fun k => !decide (μ k = 0)) (List.range (gRows ls ds).length)
        rw [List.length_range] at this
        omega
      refine lc_vv (walk_list (K := K) (a := u) (xs := (toldL (gRows ls ds).length μ).map fun k => V.int (k : Nat))) ((toldL (gRows ls ds).length μ).map fun k => if decide (((thrL ls).filterMap id).length ≤ k) = true then some (V.int ((k - ((thrL ls).filterMap id).length + 1 : Nat) : Int)) else none) (by rw [List.length_map, List.length_map]) (by rw [List.length_map]; omega) n5 (fun H s => SqL.of (s _ _ hu)) ?_ ?_
      · rintro i2 c x H6 H7 kk kn hc s6 ⟨rfl, hg⟩ hk hkn
        rw [List.getElem?_map] at hc hg
        cases eT : (toldL (gRows ls ds).length μ)[i2]? with
        | none =>
          rw [eT] at hg
          cases hg
        | some q =>
          rw [eT] at hg hc
          obtain rfl : V.int (q : Nat) = x := Option.some.inj hg
          have hc2 : (if decide (((thrL ls).filterMap id).length ≤ q) = true then some (V.int ((q - ((thrL ls).filterMap id).length + 1 : Nat) : Int)) else none) = c := Option.some.inj hc
          refine ⟨rfl, ?_⟩
          refine ⟨_, rfl, _, rfl, D, _, rfl, .inl (SqL.of (s6 _ _ e4)), ?_⟩
          refine ⟨_, _, rfl, rfl, _, rfl, ite2 (fun g => ?_) (fun g => ?_)⟩
          · have g1 := of_decide_eq_true g
            rw [List.length_map, lnp] at g1
            rw [if_pos (decide_eq_true (by omega))] at hc2
            refine ⟨_, rfl, _, rfl, D, _, rfl, .inl (SqL.of (s6 _ _ e4)), ?_⟩
            refine ⟨_, _, rfl, rfl, _, _, rfl, rfl, ?_⟩
            refine hk _ ?_ _ (Same.refl _)
            rw [← hc2, List.length_map, lnp]
            refine congrArg (fun z => some (V.int z)) ?_
            omega
          · have g1 := of_decide_eq_false (Bool.eq_false_iff.mpr g)
            rw [List.length_map, lnp] at g1
            rw [if_neg (by rw [decide_eq_true_eq]; omega)] at hc2
            exact hkn hc2.symm _ (Same.refl _)
      intro H5 s5 e5
      rw [fm_filter] at e5
      walk_at "go"
      refine ⟨by show 2 ≤ sizeLine; decide, fun t6 n6 => ?_⟩
      have s6 := same_upd (o := .tup [.str "over", .ref D5]) n6
      exact k1 _ t6 D5 i μ (s03.trans (s4.trans (s5.trans s6))) hC (SqT.of upd_same) (s6 _ _ e5)
def spDot (K : PySem.W.Frag) : Sp := fun vs H Q _ => ∃ (a b : Addr) (p q : I3), vs = [.ref a, .ref b] ∧ SqT K H a (i3 p) ∧ SqT K H b (i3 q) ∧ B3 400 p ∧ B3 400 q ∧ Q (.int (ip3 p q)) H
theorem okDot {fDot : Addr} {fdDot : FuncData} (F : Fun K "dot" "dot" sDot fDot fdDot) (T : Txt mg) {aZERO : Addr} {aONE : Addr} (CT : Cons K mg aZERO aONE) {CPartError CNought : Addr} (EX : Exns K mg CPartError CNought)
    {fInner : Addr} {fdInner : FuncData} (GInner : FnOk P w K mg base CX0 1 fInner fdInner ["a", "b"] (spInner K)) (gInner : mg "inner" = some (.ref fInner)) (kpInner : PySem.W.keepIn K (.ref fInner) = true) (bInner : Binds K fdInner ["a", "b"] []) :
    FnOk P w K mg base CX0 2 fDot fdDot ["a", "b"] (spDot K) := by
  refine F.ok scDot (fun vs H Q E h => ?_) (fun cdv A outer s H vs Q E hr h => ?_)
  · obtain ⟨a, b, p, q, rfl, hA, hB, b1, b2, k⟩ := h
    rfl
  · obtain ⟨a, b, p, q, rfl, hA, hB, b1, b2, k⟩ := h
    refine ⟨_, (pss_one (ps_ret (pe_call GInner hr (by rfl) gInner kpInner bInner .nil pass0 (pa_cons (pv 0) (pa_cons (pv 1) pa_nil))))), ?_⟩
    exact ⟨_, rfl, _, rfl, a, b, _, _, _, _, _, _, rfl, hA, hB, b1.1.up (by decide), b1.2.1.up (by decide), b1.2.2.up (by decide), b2.1.up (by decide), b2.2.1.up (by decide), b2.2.2.up (by decide), k⟩
def spCross (K : PySem.W.Frag) : Sp := fun vs H Q _ => ∃ (a b : Addr) (p q : I3), vs = [.ref a, .ref b] ∧ SqT K H a (i3 p) ∧ SqT K H b (i3 q) ∧ B3 400 p ∧ B3 400 q ∧ ∀ (H' : Hp) (t : Addr), Same H H' → SqT K H' t (i3 (cr p q)) → Q (.ref t) H'
theorem okCross {fCross : Addr} {fdCross : FuncData} (F : Fun K "cross" "cross" sCross fCross fdCross) (T : Txt mg) {aZERO : Addr} {aONE : Addr} (CT : Cons K mg aZERO aONE) {CPartError CNought : Addr} (EX : Exns K mg CPartError CNought)
    {fOuter : Addr} {fdOuter : FuncData} (GOuter : FnOk P w K mg base CX0 1 fOuter fdOuter ["a", "b"] (spOuter K)) (gOuter : mg "outer" = some (.ref fOuter)) (kpOuter : PySem.W.keepIn K (.ref fOuter) = true) (bOuter : Binds K fdOuter ["a", "b"] []) :
    FnOk P w K mg base CX0 2 fCross fdCross ["a", "b"] (spCross K) := by
  refine F.ok scCross (fun vs H Q E h => ?_) (fun cdv A outer s H vs Q E hr h => ?_)
  · obtain ⟨a, b, p, q, rfl, hA, hB, b1, b2, k⟩ := h
    rfl
  · obtain ⟨a, b, p, q, rfl, hA, hB, b1, b2, k⟩ := h
    refine ⟨_, (pss_one (ps_ret (pe_call GOuter hr (by rfl) gOuter kpOuter bOuter .nil pass0 (pa_cons (pv 0) (pa_cons (pv 1) pa_nil))))), ?_⟩
    exact ⟨_, rfl, _, rfl, a, b, p, q, rfl, hA, hB, b1, b2, k⟩
def spVolume (K : PySem.W.Frag) : Sp := fun vs H Q _ => ∃ (a b c : Addr) (p q r : I3), vs = [.ref a, .ref b, .ref c] ∧ SqT K H a (i3 p) ∧ SqT K H b (i3 q) ∧ SqT K H c (i3 r) ∧ B3 40 p ∧ B3 40 q ∧ B3 40 r ∧ ∀ H', Same H H' → Q (.int (vo p q r)) H'
theorem okVolume {fVolume : Addr} {fdVolume : FuncData} (F : Fun K "volume" "volume" sVolume fVolume fdVolume) (T : Txt mg) {aZERO : Addr} {aONE : Addr} (CT : Cons K mg aZERO aONE) {CPartError CNought : Addr} (EX : Exns K mg CPartError CNought)
    {fInner : Addr} {fdInner : FuncData} (GInner : FnOk P w K mg base CX0 1 fInner fdInner ["a", "b"] (spInner K)) (gInner : mg "inner" = some (.ref fInner)) (kpInner : PySem.W.keepIn K (.ref fInner) = true) (bInner : Binds K fdInner ["a", "b"] [])
    {fOuter : Addr} {fdOuter : FuncData} (GOuter : FnOk P w K mg base CX0 1 fOuter fdOuter ["a", "b"] (spOuter K)) (gOuter : mg "outer" = some (.ref fOuter)) (kpOuter : PySem.W.keepIn K (.ref fOuter) = true) (bOuter : Binds K fdOuter ["a", "b"] []) :
    FnOk P w K mg base CX0 2 fVolume fdVolume ["a", "b", "c"] (spVolume K) := by
  refine F.ok scVolume (fun vs H Q E h => ?_) (fun cdv A outer s H vs Q E hr h => ?_)
  · obtain ⟨a, b, c, p, q, r, rfl, hA, hB, hC, b1, b2, b3, k⟩ := h
    rfl
  · obtain ⟨a, b, c, p, q, r, rfl, hA, hB, hC, b1, b2, b3, k⟩ := h
    refine ⟨_, (pss_one (ps_ret (pe_call GInner hr (by rfl) gInner kpInner bInner .nil pass0 (pa_cons (pv 0) (pa_cons (pe_call GOuter hr (by rfl) gOuter kpOuter bOuter .nil pass0 (pa_cons (pv 1) (pa_cons (pv 2) pa_nil))) pa_nil))))), ?_⟩
    refine ⟨_, rfl, _, rfl, _, rfl, b, c, q, r, rfl, hB, hC, b2.up (by decide), b3.up (by decide), fun H1 t1 s1 h1 => ?_⟩
    have bc := b2.cr b3
    exact ⟨a, t1, _, _, _, _, _, _, rfl, same_tup s1 hA, h1, b1.1.up (by decide), b1.2.1.up (by decide), b1.2.2.up (by decide), bc.1.up (by decide), bc.2.1.up (by decide), bc.2.2.up (by decide), k H1 s1⟩
def spPrimitive (K : PySem.W.Frag) : Sp := fun vs H Q _ => ∃ (p : Addr) (x y z : Int), vs = [.ref p] ∧ SqT K H p (zs [x, y, z]) ∧ dv x y z ≠ 0 ∧ (dv x y z).natAbs < 1073741824 ∧
  ∀ (H' : Hp) (t u : Addr), Same H H' → H t = none → H u = none → H' t = some (.tup [.ref u, .int (dv x y z)]) → H' u = some (.tup (zs [x.fdiv (dv x y z), y.fdiv (dv x y z), z.fdiv (dv x y z)])) → Q (.ref t) H'
theorem okPrimitive {fPrimitive : Addr} {fdPrimitive : FuncData} (F : Fun K "primitive" "primitive" sPrimitive fPrimitive fdPrimitive) (T : Txt mg) {aZERO : Addr} {aONE : Addr} (CT : Cons K mg aZERO aONE) {CPartError CNought : Addr} (EX : Exns K mg CPartError CNought)
    {fCommon : Addr} {fdCommon : FuncData} (GCommon : FnOk P w K mg base CX0 1 fCommon fdCommon ["a", "b"] (spCommon K)) (gCommon : mg "common" = some (.ref fCommon)) (kpCommon : PySem.W.keepIn K (.ref fCommon) = true) (bCommon : Binds K fdCommon ["a", "b"] []) :
    FnOk P w K mg base CX0 2 fPrimitive fdPrimitive ["a"] (spPrimitive K) := by
  refine F.ok scPrimitive (fun vs H Q E h => ?_) (fun cdv A outer s H vs Q E hr h => ?_)
  · obtain ⟨p, x, y, z, rfl, hS, hd0, hd1, q⟩ := h
    rfl
  · obtain ⟨p, x, y, z, rfl, hS, hd0, hd1, q⟩ := h
    refine ⟨_, (pss_cons (ps_set (i := 1) scPrimitive.nd rfl (Or.inr rfl) (pe_call GCommon hr (by rfl) gCommon kpCommon bCommon .nil pass0 (pa_cons (pe_call GCommon hr (by rfl) gCommon kpCommon bCommon .nil pass0 (pa_cons (pe_ix ix_tup (pv 0) pe_int (fun _ _ => rfl)) (pa_cons (pe_ix ix_tup (pv 0) pe_int (fun _ _ => rfl)) pa_nil))) (pa_cons (pe_ix ix_tup (pv 0) pe_int (fun _ _ => rfl)) pa_nil))))
      (C8.pss_cut (ps_if (pt_cmpR (op_ltT hr.units0) (pv 0) (pe_tup (pa_cons pe_int (pa_cons pe_int (pa_cons pe_int pa_nil)))) (nomark _))
        (pss_one (ps_set (i := 1) scPrimitive.nd rfl (Or.inr rfl) (pe_un un_neg (pv 1))))
        pss_nil)
      (pss_one (ps_ret (pe_tup (pa_cons (pe_callTy call_tuple_of (by rfl) T.tuple (by decide +kernel) (pa_cons (pe_lc (own := [("part", 2)]) (by rfl) scPrimitive.nd (pi_tup (pv 0)) (blkOk_by (own := [("part", 2)]) (N := ["a", "divisor", "part"]) (sc := defScope sPrimitive) (by decide +kernel)) (fun _ _ _ _ _ => (pg_name (i := 2) scPrimitive.nd rfl (Or.inl rfl))) (fun _ _ _ _ _ => pts_nil) (fun _ _ _ _ _ => (pe_op op_fdivN (pv 2) (pv 1)))) pa_nil)) (pa_cons (pv 1) pa_nil))))))), ?_⟩
    refine ⟨.ref p, rfl, p, _, _, _, rfl, rfl, hS, atI_nat (j := 0) rfl, .ref p, rfl, p, _, _, _, rfl, rfl, hS, atI_nat (j := 1) rfl, x, y, rfl, .ref p, rfl, p, _, _, _, rfl, rfl, hS, atI_nat (j := 2) rfl, _, z, rfl, ?_⟩
    refine ⟨fun σ' H' => σ' = [some (.ref p), some (.int (dv x y z)), none] ∧ Same H H', ?_, ?_⟩
    · refine ⟨.ref p, rfl, by decide, fun t ht => ?_⟩
      refine ⟨p, t, [x, y, z], [0, 0, 0], rfl, rfl, same_tup (same_upd ht) hS, SqT.of upd_same, _, rfl, ?_⟩
      cases e : HT.lexLt [x, y, z] [0, 0, 0] with
      | true =>
        refine iteT ⟨_, rfl, _, rfl, ?_, same_upd ht⟩
        unfold dv
        rw [if_pos e]
        rfl
      | false =>
        refine iteF ⟨?_, same_upd ht⟩
        unfold dv
        rw [if_neg (by rw [e]; exact Bool.false_ne_true)]
        rfl
    · rintro σ' H1 ⟨rfl, s1⟩
      refine ⟨.ref p, rfl, p, rfl, ⟨_, same_tup s1 hS⟩, fun D hD => ?_⟩
      have hD0 : ∀ {H2 : Hp}, Same H1 H2 → Same H H2 := fun s2 => s1.trans s2
      refine lc_tup (K := K) (a := p) (xs := zs [x, y, z]) (fun i H2 => Same H1 H2 ∧ H2 D = some (.lst (zs (([x, y, z].map fun v => v.fdiv (dv x y z)).take i)))) ⟨same_upd hD, upd_same⟩ (fun i H2 _ h => same_tup (hD0 h.1) hS) ?_ ?_
      · rintro i v H2 hi ⟨s2, e2⟩
        obtain ⟨n, rfl, hn⟩ := zs_get hi
        refine ⟨rfl, _, rfl, _, rfl, _, _, rfl, rfl, ⟨hd0, hd1⟩, _, e2, zs_len _ (by show 3 ≤ 1000; decide), fun b o e => ?_, ?_⟩
        · rw [upd_ne (ne_of_none e hD)]
          exact s2 b o e
        · rw [upd_same, zs_snoc (fun v => v.fdiv (dv x y z)) hn]
      · rintro H2 ⟨s2, e2⟩
        have e2' : H2 D = some (.lst (zs [x.fdiv (dv x y z), y.fdiv (dv x y z), z.fdiv (dv x y z)])) := e2
        refine ⟨D, _, rfl, .inl ⟨SqL.of e2', fun u hu => ⟨_, rfl, by show 2 ≤ sizeLine; decide, fun t ht => ?_⟩⟩⟩
        have s3 : Same H2 (upd H2 u (.tup (zs [x.fdiv (dv x y z), y.fdiv (dv x y z), z.fdiv (dv x y z)]))) := same_upd hu
        have s4 := same_upd (o := .tup [.ref u, .int (dv x y z)]) ht
        refine q _ t u ((hD0 s2).trans (s3.trans s4)) ((hD0 s2).trans s3 |>.free ht) ((hD0 s2).free hu) upd_same ?_
        rw [upd_ne (ne_of_none (upd_same (H := H2) (a := u)) ht)]
        exact upd_same
def vb (p : Rat × Rat) (b s : Rat) : Prop := p.1 = b ∧ p.2 = s
/-- three values -/
def Tr (K : PySem.W.Frag) (H : Hp) (t : Addr) (b1 s1 b2 s2 b3 s3 : Rat) : Prop := ∃ p q r : Addr, SqT K H t [.ref p, .ref q, .ref r] ∧ Vx K H p b1 [s1] ∧ Vx K H q b2 [s2] ∧ Vx K H r b3 [s3]
theorem Tr.same {K : PySem.W.Frag} {H H' : Hp} {t : Addr} {b1 s1 b2 s2 b3 s3 : Rat} (h : Tr K H t b1 s1 b2 s2 b3 s3) (e : Same H H') : Tr K H' t b1 s1 b2 s2 b3 s3 := by
  obtain ⟨p, q, r, h1, h2, h3, h4⟩ := h
  exact ⟨p, q, r, same_tup e h1, h2.same e, h3.same e, h4.same e⟩
def spSpread (K : PySem.W.Frag) : Sp := fun vs H Q _ => ∃ (n t : Addr) (x y z : Int) (b1 s1 b2 s2 b3 s3 : Rat), vs = [.ref n, .ref t] ∧ SqT K H n (zs [x, y, z]) ∧ Tr K H t b1 s1 b2 s2 b3 s3 ∧ Bz 12 x ∧ Bz 12 y ∧ Bz 12 z ∧ Bd 10 b1 ∧ Bd 10 s1 ∧ Bd 10 b2 ∧ Bd 10 s2 ∧ Bd 10 b3 ∧ Bd 10 s3 ∧
  ∀ (H' : Hp) (t : Addr), Same H H' → Vx K H' t ((x : Rat) * b1 + (y : Rat) * b2 + (z : Rat) * b3) [(x : Rat) * s1 + (y : Rat) * s2 + (z : Rat) * s3] → Q (.ref t) H'
theorem okSpread {fSpread : Addr} {fdSpread : FuncData} (F : Fun K "spread" "spread" sSpread fSpread fdSpread) (T : Txt mg) {aZERO : Addr} {aONE : Addr} (CT : Cons K mg aZERO aONE) {CPartError CNought : Addr} (EX : Exns K mg CPartError CNought)
    {fAdd : Addr} {fdAdd : FuncData} (GAdd : FnOk P w K mg base CX0 3 fAdd fdAdd ["a", "b"] (spAdd K)) (gAdd : mg "add" = some (.ref fAdd)) (kpAdd : PySem.W.keepIn K (.ref fAdd) = true) (bAdd : Binds K fdAdd ["a", "b"] [])
    {fScale : Addr} {fdScale : FuncData} (GScale : FnOk P w K mg base CX0 3 fScale fdScale ["factor", "a"] (spScale K)) (gScale : mg "scale" = some (.ref fScale)) (kpScale : PySem.W.keepIn K (.ref fScale) = true) (bScale : Binds K fdScale ["factor", "a"] [])
    {fFraction : Addr} {fdFraction : FuncData} (GFraction : FnOk P w K mg base (L2.CX P w) 1 fFraction fdFraction ["number", "divisor"] (spFraction K CNought)) (gFraction : mg "fraction" = some (.ref fFraction)) (kpFraction : PySem.W.keepIn K (.ref fFraction) = true) (bFraction : Binds K fdFraction ["number", "divisor"] []) {dsFraction : List Value} (vdFraction : Vals [.int 1] dsFraction) (bdFraction : Binds K fdFraction ["number", "divisor"] dsFraction) :
    FnOk P w K mg base CX0 4 fSpread fdSpread ["normal", "point"] (spSpread K) := by
  refine F.ok scSpread (fun vs H Q E h => ?_) (fun cdv A outer s H vs Q E hr h => ?_)
  · obtain ⟨n, t, x, y, z, b1, s1, b2, s2, b3, s3, rfl, hN, ⟨p, q, r, hT, hp, hq, hr3⟩, x1, x2, x3, c1, c2, c3, c4, c5, c6, k⟩ := h
    rfl
  · obtain ⟨n, t, x, y, z, b1, s1, b2, s2, b3, s3, rfl, hN, ⟨p, q, r, hT, hp, hq, hr3⟩, x1, x2, x3, c1, c2, c3, c4, c5, c6, k⟩ := h
    refine ⟨_, (pss_cons (ps_asg (pe_lc (own := [("part", 5), ("found", 6)]) (by rfl) scSpread.nd (pi_zipB (by rfl) T.zip (pa_cons (pv 0) (pa_cons (pv 1) pa_nil))) (blkOk_by (own := [("part", 5), ("found", 6)]) (N := ["normal", "point", "x", "y", "z", "part", "found"]) (sc := defScope sSpread) (by decide +kernel)) (fun _ _ _ _ _ => (show PG _ _ (gTup K 2 _) from (pg_tup rfl (pgs_cons (pg_name (i := 5) scSpread.nd rfl (Or.inl rfl)) (pgs_cons (pg_name (i := 6) scSpread.nd rfl (Or.inl rfl)) pgs_nil))))) (fun _ _ _ _ _ => pts_nil) (fun _ _ _ _ _ => (pe_call GScale hr (by rfl) gScale kpScale bScale .nil pass0 (pa_cons (pe_call GFraction (hr.mono (by decide)) (by rfl) gFraction kpFraction bdFraction vdFraction passL (pa_cons (pv 5) pa_nil)) (pa_cons (pv 6) pa_nil))))) (pg_unl rfl (pgs_cons (pg_name (i := 2) scSpread.nd rfl (Or.inl rfl)) (pgs_cons (pg_name (i := 3) scSpread.nd rfl (Or.inl rfl)) (pgs_cons (pg_name (i := 4) scSpread.nd rfl (Or.inl rfl)) pgs_nil)))))
      (pss_one (ps_ret (pe_call GAdd hr (by rfl) gAdd kpAdd bAdd .nil pass0 (pa_cons (pe_call GAdd hr (by rfl) gAdd kpAdd bAdd .nil pass0 (pa_cons (pv 2) (pa_cons (pv 3) pa_nil))) (pa_cons (pv 4) pa_nil)))))), ?_⟩
    refine ⟨_, rfl, _, rfl, true, true, n, t, _, _, rfl, hN, hT, fun D hD => ?_⟩
    refine lc_obj (walk_zipB (f := true) (g := true) (xs := zs [x, y, z]) (ys := [.ref p, .ref q, .ref r]) rfl) (fun i H v => ∃ a : Addr, v = .ref a ∧ Vx K H a ((th x y z i : Int) * th b1 b2 b3 i) [(th x y z i : Int) * th s1 s2 s3 i]) (fun {i H H' v D acc} h e s => by
      obtain ⟨a, h1, h2⟩ := h
      exact ⟨a, h1, over_vx h2 e s⟩) (by show 3 ≤ 1000; decide) hD (fun H2 s2 => ⟨same_tup s2 hN, same_tup s2 hT⟩) ?_ ?_
    · rintro i v H2 H3 kk hi s2' ⟨T, u, u2, rfl, hT', rfl, g1, g2⟩ kk2
      obtain ⟨zz, rfl, hz⟩ := zs_get g1
      obtain ⟨hi3, rfl⟩ := th_get hz
      obtain ⟨_, rfl⟩ := th_get g2
      have sT := same_upd (o := .tup [.int (th x y z i), th (.ref p) (.ref q) (.ref r) i]) hT'
      have bx : Bz 12 (th x y z i) := th_all (P := Bz 12) x1 x2 x3 i
      obtain ⟨a, ea, ha⟩ : ∃ a : Addr, th (V.ref p) (.ref q) (.ref r) i = .ref a ∧ Vx K H a (th b1 b2 b3 i) [th s1 s2 s3 i] := by
        obtain rfl | rfl | rfl : i = 0 ∨ i = 1 ∨ i = 2 := by omega
        · exact ⟨p, rfl, hp⟩
        · exact ⟨q, rfl, hq⟩
        · exact ⟨r, rfl, hr3⟩
      rw [ea] at sT ⊢
      generalize hU : upd H2 T (.tup [.int (th x y z i), .ref a]) = H4 at sT
      have eT : H4 T = some (.tup [.int (th x y z i), .ref a]) := at_hu hU
      refine ⟨_, _, rfl, SqT.of eT, rfl, _, _, rfl, _, _, rfl, rfl, rfl, ?_⟩
      walk_at "go"
      refine ⟨Bz.up (bz_of (n := 1) (by decide)) (by decide), fun z => absurd z (by decide), fun _ H5 t5 s5 f5 => ?_⟩
      rw [div_one] at f5
      walk_at "go"
      refine ⟨t5, a, _, _, [th s1 s2 s3 i], rfl, f5, ha.same (s2'.trans (sT.trans s5)), by show 1 ≤ 20; decide, (bd_int bx (by decide)).up (by decide), (th_all (P := Bd 10) c1 c3 c5 i).up (by decide), (fun r hr => by rw [List.mem_singleton.mp hr]; exact (th_all (P := Bd 10) c2 c4 c6 i).up (by decide)), fun H6 t6 s6 f6 => ?_⟩
      exact kk2 _ H6 (sT.trans (s5.trans s6)) ⟨t6, rfl, f6⟩
    · intro H2 us s2' e2 l2 r2
      obtain ⟨a, b, c, rfl⟩ := one3 (l2.trans rfl)
      obtain ⟨a, rfl, ha⟩ := r2 0 _ rfl
      obtain ⟨b, rfl, hb⟩ := r2 1 _ rfl
      obtain ⟨c, rfl, hc⟩ := r2 2 _ rfl
      refine ⟨D, _, rfl, SqL.of e2, rfl, _, _, rfl, _, _, rfl, _, _, rfl, rfl, ?_⟩
      walk_at "go"
      have m1 := fun {v c : Int} {b : Rat} (h : Bz 12 v) (h2 : Bd 10 b) => (bd_int h (by decide)).mul h2
      refine ⟨a, b, _, _, [_], [_], rfl, ha, hb, rfl, by show 1 ≤ 20; decide, ((bd_int x1 (by decide)).mul c1).up (by decide), ((bd_int x2 (by decide)).mul c3).up (by decide), (fun r hr => by rw [List.mem_singleton.mp hr]; exact ((bd_int x1 (by decide)).mul c2).up (by decide)), (fun r hr => by rw [List.mem_singleton.mp hr]; exact ((bd_int x2 (by decide)).mul c4).up (by decide)), fun H3 t3 s3' f3 => ?_⟩
      walk_at "go"
      refine ⟨t3, c, _, _, [_], [_], rfl, f3, hc.same s3', rfl, by show 1 ≤ 20; decide, (((bd_int x1 (by decide)).mul c1).add ((bd_int x2 (by decide)).mul c3)).up (by decide), ((bd_int x3 (by decide)).mul c5).up (by decide), (fun r hr => by rw [List.mem_singleton.mp hr]; exact (((bd_int x1 (by decide)).mul c2).add ((bd_int x2 (by decide)).mul c4)).up (by decide)), (fun r hr => by rw [List.mem_singleton.mp hr]; exact ((bd_int x3 (by decide)).mul c6).up (by decide)), fun H4 t4 s4 f4 => ?_⟩
      exact k H4 t4 (s2'.trans (s3'.trans s4)) f4
/-- a side: its origin w, its normal, its offset along one parameter, which half -/
def Sd (K : PySem.W.Frag) (H : Hp) (t : Addr) (w : V) (x y z : Int) (b s : Rat) (k : Bool) : Prop := ∃ n o : Addr, SqT K H t [w, .ref n, .ref o, .bl k] ∧ SqT K H n (zs [x, y, z]) ∧ Vx K H o b [s]
theorem Sd.same {K : PySem.W.Frag} {H H' : Hp} {t : Addr} {w : V} {x y z : Int} {b s : Rat} {k : Bool} (h : Sd K H t w x y z b s k) (e : Same H H') : Sd K H' t w x y z b s k := by
  obtain ⟨n, o, h1, h2, h3⟩ := h
  exact ⟨n, o, same_tup e h1, same_tup e h2, h3.same e⟩
theorem Sd.over {K : PySem.W.Frag} {H H' : Hp} {t D : Addr} {w : V} {x y z : Int} {b s : Rat} {k : Bool} {ys : List V} (h : Sd K H t w x y z b s k) (hl : H D = some (.lst ys)) (e : ∀ b o, b ≠ D → H b = some o → H' b = some o) : Sd K H' t w x y z b s k := by
  obtain ⟨n, o, h1, h2, h3⟩ := h
  exact ⟨n, o, over_tup h1 hl e, over_tup h2 hl e, over_vx h3 hl e⟩
/-- an origin -/
def Og (K : PySem.W.Frag) (H : Hp) (w : V) (m : Int) (ks : List Int) : Prop := ∃ a q : Addr, w = .ref a ∧ SqT K H a [.int m, .ref q, .str "half"] ∧ SqT K H q (zs ks)
theorem Og.same {K : PySem.W.Frag} {H H' : Hp} {w : V} {m : Int} {ks : List Int} (h : Og K H w m ks) (e : Same H H') : Og K H' w m ks := by
  obtain ⟨a, q, h1, h2, h3⟩ := h
  exact ⟨a, q, h1, same_tup e h2, same_tup e h3⟩
theorem Og.over {K : PySem.W.Frag} {H H' : Hp} {D : Addr} {w : V} {m : Int} {ks : List Int} {ys : List V} (h : Og K H w m ks) (hl : H D = some (.lst ys)) (e : ∀ b o, b ≠ D → H b = some o → H' b = some o) : Og K H' w m ks := by
  obtain ⟨a, q, h1, h2, h3⟩ := h
  exact ⟨a, q, h1, over_tup h2 hl e, over_tup h3 hl e⟩
/-- a tool with one side -/
def Tl (K : PySem.W.Frag) (H : Hp) (t : Addr) (m : Int) (ks : List Int) (x y z : Int) (b s : Rat) (k : Bool) : Prop := ∃ (l g sd : Addr) (w : V), SqT K H t [.str "cut", .ref l, .ref g] ∧ SqL K H l [.ref sd] ∧ SqT K H g [.str "side", .int 0] ∧ Sd K H sd w x y z b s k ∧ Og K H w m ks
theorem Tl.same {K : PySem.W.Frag} {H H' : Hp} {t : Addr} {m : Int} {ks : List Int} {x y z : Int} {b s : Rat} {k : Bool} (h : Tl K H t m ks x y z b s k) (e : Same H H') : Tl K H' t m ks x y z b s k := by
  obtain ⟨l, g, sd, w, h1, h2, h3, h4, h5⟩ := h
  exact ⟨l, g, sd, w, same_tup e h1, e.seq h2, same_tup e h3, h4.same e, h5.same e⟩
def eqb (a b : Bool) : Bool := decide (V.bl a = V.bl b)
def iv (d : Int) : Rat := Rat.divInt 1 d
def spSideOf (K : PySem.W.Frag) : Sp := fun vs H Q _ => ∃ (w : V) (n o : Addr) (x y z : Int) (b s : Rat) (k : Bool), vs = [w, .ref n, .ref o, .bl k] ∧ SqT K H n (zs [x, y, z]) ∧ Vx K H o b [s] ∧ dv x y z ≠ 0 ∧ (dv x y z).natAbs < 1073741824 ∧ Bd 60 b ∧ Bd 60 s ∧
  ∀ (H' : Hp) (t : Addr), Same H H' → Sd K H' t w (x.fdiv (dv x y z)) (y.fdiv (dv x y z)) (z.fdiv (dv x y z)) (iv (dv x y z) * b) (iv (dv x y z) * s) (eqb k (decide (0 < dv x y z))) → Q (.ref t) H'
theorem okSideOf {fSideOf : Addr} {fdSideOf : FuncData} (F : Fun K "side_of" "side_of" sSideOf fSideOf fdSideOf) (T : Txt mg) {aZERO : Addr} {aONE : Addr} (CT : Cons K mg aZERO aONE) {CPartError CNought : Addr} (EX : Exns K mg CPartError CNought)
    {fPrimitive : Addr} {fdPrimitive : FuncData} (GPrimitive : FnOk P w K mg base CX0 2 fPrimitive fdPrimitive ["a"] (spPrimitive K)) (gPrimitive : mg "primitive" = some (.ref fPrimitive)) (kpPrimitive : PySem.W.keepIn K (.ref fPrimitive) = true) (bPrimitive : Binds K fdPrimitive ["a"] [])
    {fScale : Addr} {fdScale : FuncData} (GScale : FnOk P w K mg base CX0 3 fScale fdScale ["factor", "a"] (spScale K)) (gScale : mg "scale" = some (.ref fScale)) (kpScale : PySem.W.keepIn K (.ref fScale) = true) (bScale : Binds K fdScale ["factor", "a"] [])
    {fFraction : Addr} {fdFraction : FuncData} (GFraction : FnOk P w K mg base (L2.CX P w) 1 fFraction fdFraction ["number", "divisor"] (spFraction K CNought)) (gFraction : mg "fraction" = some (.ref fFraction)) (kpFraction : PySem.W.keepIn K (.ref fFraction) = true) (bFraction : Binds K fdFraction ["number", "divisor"] []) {dsFraction : List Value} (vdFraction : Vals [.int 1] dsFraction) (bdFraction : Binds K fdFraction ["number", "divisor"] dsFraction) :
    FnOk P w K mg base CX0 4 fSideOf fdSideOf ["origin", "direction", "offset", "above"] (spSideOf K) := by
  refine F.ok scSideOf (fun vs H Q E h => ?_) (fun cdv A outer s H vs Q E hr h => ?_)
  · obtain ⟨w, n, o, x, y, z, b, s, k, rfl, hN, hO, hd0, hd1, bb, bs, q⟩ := h
    rfl
  · obtain ⟨w, n, o, x, y, z, b, s, k, rfl, hN, hO, hd0, hd1, bb, bs, q⟩ := h
    refine ⟨_, (pss_cons (ps_asg (pe_call GPrimitive (hr.mono (by decide)) (by rfl) gPrimitive kpPrimitive bPrimitive .nil pass0 (pa_cons (pv 1) pa_nil)) (pg_tup rfl (pgs_cons (pg_name (i := 4) scSideOf.nd rfl (Or.inl rfl)) (pgs_cons (pg_name (i := 5) scSideOf.nd rfl (Or.inl rfl)) pgs_nil))))
      (pss_one (ps_ret (pe_tup (pa_cons (pv 0) (pa_cons (pv 4) (pa_cons (pe_call GScale hr (by rfl) gScale kpScale bScale .nil pass0 (pa_cons (pe_call GFraction (hr.mono (by decide)) (by rfl) gFraction kpFraction bFraction .nil passL (pa_cons pe_int (pa_cons (pv 5) pa_nil))) (pa_cons (pv 2) pa_nil))) (pa_cons (pe_cmpR op_eq (pv 3) (pe_cmpR op_gt (pv 5) pe_int (nomark _)) (nomark _)) pa_nil)))))))), ?_⟩
    walk_at "go"
    refine ⟨n, x, y, z, rfl, hN, hd0, hd1, fun H1 t u s1 _ _ et eu => ?_⟩
    have ht : SqT K H1 t [.ref u, .int (dv x y z)] := SqT.of et
    have hu : SqT K H1 u (zs [x.fdiv (dv x y z), y.fdiv (dv x y z), z.fdiv (dv x y z)]) := SqT.of eu
    have bD : Bz 30 (dv x y z) := hd1
    walk_at "go"
    refine ⟨bD.up (by decide), fun h => absurd h hd0, fun _ H2 t2 s2 f2 => ?_⟩
    walk_at "go"
    refine ⟨t2, o, _, b, [s], rfl, f2, hO.same (s1.trans s2), by show 1 ≤ 20; decide, (bd_div hd0 (bz_of (n := 30) (by decide)) bD).up (by decide), bb, (fun r hr => by rw [List.mem_singleton.mp hr]; exact bs), fun H3 t3 s3 f3 => ?_⟩
    walk_at "go"
    refine ⟨tn rfl, fun t4 nt4 => ?_⟩
    generalize hUt4 : upd _ _ (HO.tup _) = H4
    have s4 := same_hu hUt4 nt4
    have eh4 := at_hu hUt4
    have h4 := SqT.of (K := K) eh4
    clear hUt4
    exact q H4 t4 (s1.trans (s2.trans (s3.trans s4))) ⟨u, t3, h4, same_tup (s2.trans (s3.trans s4)) hu, f3.same s4⟩
structure SdV where
  x : Int
  y : Int
  z : Int
  b : Rat
  s : Rat
  k : Bool
def SdAt (K : PySem.W.Frag) (H : Hp) (t : Addr) (w0 : V) (v : SdV) : Prop := Sd K H t w0 v.x v.y v.z v.b v.s v.k
theorem SdAt.up {K : PySem.W.Frag} {H H' : Hp} {t : Addr} {w0 : V} {v : SdV} (s : Same H H') (h : SdAt K H t w0 v) : SdAt K H' t w0 v := Sd.same h s
/-- the side at the plane of a direction and an offset -/
def sideOf (d : I3) (b s : Rat) (k : Bool) : SdV :=
  ⟨d.1.fdiv (dv d.1 d.2.1 d.2.2), d.2.1.fdiv (dv d.1 d.2.1 d.2.2), d.2.2.fdiv (dv d.1 d.2.1 d.2.2), iv (dv d.1 d.2.1 d.2.2) * b, iv (dv d.1 d.2.1 d.2.2) * s, eqb k (decide (0 < dv d.1 d.2.1 d.2.2))⟩
abbrev R3 := (Rat × Rat) × (Rat × Rat) × (Rat × Rat)
def T3At (K : PySem.W.Frag) (H : Hp) (t : Addr) (p : R3) : Prop := Tr K H t p.1.1 p.1.2 p.2.1.1 p.2.1.2 p.2.2.1 p.2.2.2
theorem T3At.up {K : PySem.W.Frag} {H H' : Hp} {t : Addr} {p : R3} (s : Same H H') (h : T3At K H t p) : T3At K H' t p := Tr.same h s
def spB (d : I3) (p : R3) : Rat := (d.1 : Rat) * p.1.1 + (d.2.1 : Rat) * p.2.1.1 + (d.2.2 : Rat) * p.2.2.1
def spS (d : I3) (p : R3) : Rat := (d.1 : Rat) * p.1.2 + (d.2.1 : Rat) * p.2.1.2 + (d.2.2 : Rat) * p.2.2.2
def lnDir (u v w : I3) (l : Ln) : I3 := cr w (com l.a l.b u v)
def lnSide (u v w : I3) (p : R3) (l : Ln) (f : Rat × Rat) : SdV := sideOf (lnDir u v w l) (spB (lnDir u v w l) p + ((vo u v w : Int) : Rat) * f.1) (spS (lnDir u v w l) p + ((vo u v w : Int) : Rat) * f.2) (decide (0 < vo u v w))
def ndSide (u v w : I3) (p : R3) (f : Rat × Rat) : SdV := sideOf (cr u v) (spB (cr u v) p + ((vo u v w : Int) : Rat) * f.1) (spS (cr u v) p + ((vo u v w : Int) : Rat) * f.2) (decide (0 < vo u v w))
def kvF (op : Str) (u v w l d a fr to sp : V) : List (Key × V) := [(Sum.inr "op", .str op), (Sum.inr "u", u), (Sum.inr "v", v), (Sum.inr "w", w), (Sum.inr "lines", l), (Sum.inr "dimensions", d), (Sum.inr "area", a), (Sum.inr "from", fr), (Sum.inr "to", to), (Sum.inr "spot", sp)]
theorem kvF_op {op : Str} {u v w l d a fr to sp : V} : valV (kvF op u v w l d a fr to sp) (Sum.inr "op") = some (.str op) := rfl
theorem kvF_u {op : Str} {u v w l d a fr to sp : V} : valV (kvF op u v w l d a fr to sp) (Sum.inr "u") = some u := rfl
theorem kvF_v {op : Str} {u v w l d a fr to sp : V} : valV (kvF op u v w l d a fr to sp) (Sum.inr "v") = some v := rfl
theorem kvF_w {op : Str} {u v w l d a fr to sp : V} : valV (kvF op u v w l d a fr to sp) (Sum.inr "w") = some w := rfl
theorem kvF_lines {op : Str} {u v w l d a fr to sp : V} : valV (kvF op u v w l d a fr to sp) (Sum.inr "lines") = some l := rfl
theorem kvF_dimensions {op : Str} {u v w l d a fr to sp : V} : valV (kvF op u v w l d a fr to sp) (Sum.inr "dimensions") = some d := rfl
theorem kvF_area {op : Str} {u v w l d a fr to sp : V} : valV (kvF op u v w l d a fr to sp) (Sum.inr "area") = some a := rfl
theorem kvF_from {op : Str} {u v w l d a fr to sp : V} : valV (kvF op u v w l d a fr to sp) (Sum.inr "from") = some fr := rfl
theorem kvF_to {op : Str} {u v w l d a fr to sp : V} : valV (kvF op u v w l d a fr to sp) (Sum.inr "to") = some to := rfl
theorem dv_lt {x y z : Int} (h : ¬ (x = 0 ∧ y = 0 ∧ z = 0)) (h1 : Bz 30 x) (h2 : Bz 30 y) (h3 : Bz 30 z) : (dv x y z).natAbs < 1073741824 := by
  have e : (2 : Nat) ^ 30 = 1073741824 := by decide
  unfold Bz at *
  rw [dv_abs]
  have := g3_le (n := 1073741823) h (by omega) (by omega) (by omega)
  omega
/-- a sketch as a dict -/
def FtAt (K : PySem.W.Frag) (H : Hp) (f : Addr) (op : Str) (u v w : I3) (ls : List Ln) (a : Ar) : Prop := ∃ pu pv pw l d pa fr to : Addr, ∃ sp x1 x2 : V, H f = some (.dK (kvF op (.ref pu) (.ref pv) (.ref pw) (.ref l) (.ref d) (.ref pa) (.ref fr) (.ref to) sp)) ∧
  SqT K H pu (i3 u) ∧ SqT K H pv (i3 v) ∧ SqT K H pw (i3 w) ∧ LnsAt K H l ls ∧ SqL K H d [] ∧ ArAt K H pa a ∧ SqT K H fr [.non, x1] ∧ SqT K H to [.non, x2]
theorem FtAt.up {K : PySem.W.Frag} {H H' : Hp} {f : Addr} {op : Str} {u v w : I3} {ls : List Ln} {a : Ar} (s : Same H H') (h : FtAt K H f op u v w ls a) : FtAt K H' f op u v w ls a := by
  obtain ⟨pu, pv, pw, l, d, pa, fr, to, sp, x1, x2, h1, h2, h3, h4, h5, h6, h7, h8, h9⟩ := h
  exact ⟨pu, pv, pw, l, d, pa, fr, to, sp, x1, x2, s _ _ h1, same_tup s h2, same_tup s h3, same_tup s h4, h5.up s, s.seq h6, h7.up s, same_tup s h8, same_tup s h9⟩
def B32 (n : Nat) (p : R3) : Prop := Bd n p.1.1 ∧ Bd n p.1.2 ∧ Bd n p.2.1.1 ∧ Bd n p.2.1.2 ∧ Bd n p.2.2.1 ∧ Bd n p.2.2.2
/-- an origin of a sketch -/
def OgN (K : PySem.W.Frag) (H : Hp) (w0 : V) (m : Int) (nm : Str) : Prop := ∃ a q : Addr, w0 = .ref a ∧ SqT K H a [.int m, .ref q, .str nm] ∧ SqT K H q []
theorem OgN.up {K : PySem.W.Frag} {H H' : Hp} {w0 : V} {m : Int} {nm : Str} (s : Same H H') (h : OgN K H w0 m nm) : OgN K H' w0 m nm := by
  obtain ⟨a, q, h1, h2, h3⟩ := h
  exact ⟨a, q, h1, same_tup s h2, same_tup s h3⟩
theorem OgN.over {K : PySem.W.Frag} {H H' : Hp} {D : Addr} {w0 : V} {m : Int} {nm : Str} {ys : List V} (h : OgN K H w0 m nm) (hl : H D = some (.lst ys)) (e : ∀ b o, b ≠ D → H b = some o → H' b = some o) : OgN K H' w0 m nm := by
  obtain ⟨a, q, h1, h2, h3⟩ := h
  exact ⟨a, q, h1, over_tup h2 hl e, over_tup h3 hl e⟩
theorem vo_lin (u v w : I3) (a b : Int) : ip3 (cr w (com a b u v)) u = -(b * vo u v w) ∧ ip3 (cr w (com a b u v)) v = a * vo u v w ∧ ip3 (cr w (com a b u v)) w = 0 := by
  unfold ip3 vo ip3 com cr
  refine ⟨?_, ?_, ?_⟩ <;> grind
theorem cr_lin (u v w : I3) : ip3 (cr u v) u = 0 ∧ ip3 (cr u v) v = 0 ∧ ip3 (cr u v) w = vo u v w := by
  unfold ip3 vo ip3 cr
  refine ⟨?_, ?_, ?_⟩ <;> grind
theorem lnDir_ne {u v w : I3} {l : Ln} (h0 : vo u v w ≠ 0) (hl : l.a ≠ 0 ∨ l.b ≠ 0) : ¬ ((lnDir u v w l).1 = 0 ∧ (lnDir u v w l).2.1 = 0 ∧ (lnDir u v w l).2.2 = 0) := by
  rintro ⟨h1, h2, h3⟩
  obtain ⟨g1, g2, _⟩ := vo_lin u v w l.a l.b
  have e1 : ip3 (lnDir u v w l) u = 0 := by
    unfold ip3
    rw [h1, h2, h3]
    simp
  have e2 : ip3 (lnDir u v w l) v = 0 := by
    unfold ip3
    rw [h1, h2, h3]
    simp
  rw [show ip3 (lnDir u v w l) u = _ from g1] at e1
  rw [show ip3 (lnDir u v w l) v = _ from g2] at e2
  rcases hl with h | h
  · exact absurd e2 (Int.mul_ne_zero h h0)
  · exact absurd (Int.neg_eq_zero.mp e1) (Int.mul_ne_zero h h0)
theorem cr_ne {u v w : I3} (h0 : vo u v w ≠ 0) : ¬ ((cr u v).1 = 0 ∧ (cr u v).2.1 = 0 ∧ (cr u v).2.2 = 0) := by
  rintro ⟨h1, h2, h3⟩
  obtain ⟨_, _, g⟩ := cr_lin u v w
  refine h0 (g.symm.trans ?_)
  unfold ip3
  rw [h1, h2, h3]
  simp
def spLineSide (K : PySem.W.Frag) : Sp := fun vs H Q _ => ∃ (m : Int) (i : Nat) (f bs o : Addr) (op : Str) (u v w : I3) (ls : List Ln) (a : Ar) (l : Ln) (p : R3) (c : Rat × Rat), vs = [.int m, .ref f, .ref bs, .int i, .ref o] ∧ FtAt K H f op u v w ls a ∧ ls[i]? = some l ∧ T3At K H bs p ∧ V1 K H o c ∧ B3 2 u ∧ B3 2 v ∧ B3 2 w ∧ Bz 2 l.a ∧ Bz 2 l.b ∧ (l.a ≠ 0 ∨ l.b ≠ 0) ∧ vo u v w ≠ 0 ∧ B32 3 p ∧ Bd 8 c.1 ∧ Bd 8 c.2 ∧
  ∀ (H' : Hp) (t : Addr) (w0 : V), Same H H' → SdAt K H' t w0 (lnSide u v w p l c) → OgN K H' w0 m l.nm → Q (.ref t) H'
theorem okLineSide {fLineSide : Addr} {fdLineSide : FuncData} (F : Fun K "line_side" "line_side" sLineSide fLineSide fdLineSide) (T : Txt mg) {aZERO : Addr} {aONE : Addr} (CT : Cons K mg aZERO aONE) {CPartError CNought : Addr} (EX : Exns K mg CPartError CNought)
    {fVolume : Addr} {fdVolume : FuncData} (GVolume : FnOk P w K mg base CX0 2 fVolume fdVolume ["a", "b", "c"] (spVolume K)) (gVolume : mg "volume" = some (.ref fVolume)) (kpVolume : PySem.W.keepIn K (.ref fVolume) = true) (bVolume : Binds K fdVolume ["a", "b", "c"] [])
    {fCross : Addr} {fdCross : FuncData} (GCross : FnOk P w K mg base CX0 2 fCross fdCross ["a", "b"] (spCross K)) (gCross : mg "cross" = some (.ref fCross)) (kpCross : PySem.W.keepIn K (.ref fCross) = true) (bCross : Binds K fdCross ["a", "b"] [])
    {fAdd : Addr} {fdAdd : FuncData} (GAdd : FnOk P w K mg base CX0 3 fAdd fdAdd ["a", "b"] (spAdd K)) (gAdd : mg "add" = some (.ref fAdd)) (kpAdd : PySem.W.keepIn K (.ref fAdd) = true) (bAdd : Binds K fdAdd ["a", "b"] [])
    {fSideOf : Addr} {fdSideOf : FuncData} (GSideOf : FnOk P w K mg base CX0 4 fSideOf fdSideOf ["origin", "direction", "offset", "above"] (spSideOf K)) (gSideOf : mg "side_of" = some (.ref fSideOf)) (kpSideOf : PySem.W.keepIn K (.ref fSideOf) = true) (bSideOf : Binds K fdSideOf ["origin", "direction", "offset", "above"] [])
    {fSpread : Addr} {fdSpread : FuncData} (GSpread : FnOk P w K mg base CX0 4 fSpread fdSpread ["normal", "point"] (spSpread K)) (gSpread : mg "spread" = some (.ref fSpread)) (kpSpread : PySem.W.keepIn K (.ref fSpread) = true) (bSpread : Binds K fdSpread ["normal", "point"] [])
    {fScale : Addr} {fdScale : FuncData} (GScale : FnOk P w K mg base CX0 3 fScale fdScale ["factor", "a"] (spScale K)) (gScale : mg "scale" = some (.ref fScale)) (kpScale : PySem.W.keepIn K (.ref fScale) = true) (bScale : Binds K fdScale ["factor", "a"] [])
    {fFraction : Addr} {fdFraction : FuncData} (GFraction : FnOk P w K mg base (L2.CX P w) 1 fFraction fdFraction ["number", "divisor"] (spFraction K CNought)) (gFraction : mg "fraction" = some (.ref fFraction)) (kpFraction : PySem.W.keepIn K (.ref fFraction) = true) (bFraction : Binds K fdFraction ["number", "divisor"] []) {dsFraction : List Value} (vdFraction : Vals [.int 1] dsFraction) (bdFraction : Binds K fdFraction ["number", "divisor"] dsFraction) :
    FnOk P w K mg base CX0 5 fLineSide fdLineSide ["number", "feature", "base", "at", "offset"] (spLineSide K) := by
  refine F.ok scLineSide (fun vs H Q E h => ?_) (fun cdv A outer s H vs Q E hr h => ?_)
  · obtain ⟨m, i, f, bs, o, op, u, v, w, ls, a, l, p, c, rfl, hF, hl, hB, hO, bu, bv, bw, ba, bb, hab, h0, bp, c1, c2, q⟩ := h
    rfl
  · obtain ⟨m, i, f, bs, o, op, u, v, w, ls, a, l, p, c, rfl, hF, hl, hB, hO, bu, bv, bw, ba, bb, hab, h0, bp, c1, c2, q⟩ := h
    refine ⟨_, (pss_cons (ps_asg (pe_slice sl_tup (pe_ix ix_list (pe_dget (hu_of hr) (pv 1) pe_str (fun _ _ => rfl)) (pv 3) (fun _ _ => rfl)) po_none (po_some pe_int)) (pg_tup rfl (pgs_cons (pg_name (i := 5) scLineSide.nd rfl (Or.inl rfl)) (pgs_cons (pg_tup rfl (pgs_cons (pg_name (i := 6) scLineSide.nd rfl (Or.inr rfl)) (pgs_cons (pg_name (i := 7) scLineSide.nd rfl (Or.inr rfl)) pgs_nil))) pgs_nil))))
      (pss_cons (ps_par3 (i := 8) (j := 9) (l := 10) (by rfl) scLineSide.nd rfl rfl rfl (by decide) (by decide) (by decide) rfl rfl rfl (pa_cons (pe_dget (hu_of hr) (pv 1) pe_str (fun _ _ => rfl)) (pa_cons (pe_dget (hu_of hr) (pv 1) pe_str (fun _ _ => rfl)) (pa_cons (pe_dget (hu_of hr) (pv 1) pe_str (fun _ _ => rfl)) pa_nil))) (by rfl))
      (pss_cons (ps_set (i := 11) scLineSide.nd rfl (Or.inl rfl) (pe_call GVolume (hr.mono (by decide)) (by rfl) gVolume kpVolume bVolume .nil pass0 (pa_cons (pv 8) (pa_cons (pv 9) (pa_cons (pv 10) pa_nil)))))
      (pss_cons (ps_set (i := 12) scLineSide.nd rfl (Or.inl rfl) (pe_call GCross (hr.mono (by decide)) (by rfl) gCross kpCross bCross .nil pass0 (pa_cons (pv 10) (pa_cons (pe_callTy call_tuple_of (by rfl) T.tuple (by decide +kernel) (pa_cons (pe_lc (own := [("x", 14), ("y", 15)]) (by rfl) scLineSide.nd (pi_zipB (by rfl) T.zip (pa_cons (pv 8) (pa_cons (pv 9) pa_nil))) (blkOk_by (own := [("x", 14), ("y", 15)]) (N := ["number", "feature", "base", "at", "offset", "name", "a", "b", "u", "v", "w", "size", "direction", "whole", "x", "y"]) (sc := defScope sLineSide) (by decide +kernel)) (fun _ _ _ _ _ => (show PG _ _ (gTup K 2 _) from (pg_tup rfl (pgs_cons (pg_name (i := 14) scLineSide.nd rfl (Or.inl rfl)) (pgs_cons (pg_name (i := 15) scLineSide.nd rfl (Or.inl rfl)) pgs_nil))))) (fun _ _ _ _ _ => pts_nil) (fun _ _ _ _ _ => (pe_op op_add (pe_op op_mulW (pv 6) (pv 14)) (pe_op op_mulW (pv 7) (pv 15))))) pa_nil)) pa_nil))))
      (pss_cons (ps_set (i := 13) scLineSide.nd rfl (Or.inl rfl) (pe_call GAdd (hr.mono (by decide)) (by rfl) gAdd kpAdd bAdd .nil pass0 (pa_cons (pe_call GSpread hr (by rfl) gSpread kpSpread bSpread .nil pass0 (pa_cons (pv 12) (pa_cons (pv 2) pa_nil))) (pa_cons (pe_call GScale (hr.mono (by decide)) (by rfl) gScale kpScale bScale .nil pass0 (pa_cons (pe_call GFraction (hr.mono (by decide)) (by rfl) gFraction kpFraction bdFraction vdFraction passL (pa_cons (pv 11) pa_nil)) (pa_cons (pv 4) pa_nil))) pa_nil))))
      (pss_one (ps_ret (pe_call GSideOf hr (by rfl) gSideOf kpSideOf bSideOf .nil pass0 (pa_cons (pe_tup (pa_cons (pv 0) (pa_cons (pe_tup pa_nil) (pa_cons (pv 5) pa_nil)))) (pa_cons (pv 12) (pa_cons (pv 13) (pa_cons (pe_cmpR op_gt (pv 11) pe_int (nomark _)) pa_nil)))))))))))), ?_⟩
    have hF0 := hF
    obtain ⟨pu, pv, pw, pl, d, pa, fr, to, sp, x1, x2, g0, g1, g2, g3, g4, g5, g6, g7, g8⟩ := hF0
    obtain ⟨ws, l1, l2, l3⟩ := g4
    obtain ⟨t, t1, t2⟩ := ln_at l3 hl
    obtain ⟨dd, vv, n1, n2, n3⟩ := l2 _ t2
    dsimp only at n1 n2
    refine ⟨_, rfl, f, _, rfl, kvF_lines ▸ DGet.k (k := Sum.inr "lines") g0, ?_⟩
    refine ⟨_, rfl, pl, _, i, V.ref t, rfl, rfl, l1, atI_nat t1, ?_⟩
    refine ⟨_, rfl, t, _, rfl, n1, (show ¬ ((0 : Nat) = 0 ∧ (2 : Nat) = 3) from by decide), fun t5 n5 => ?_⟩
    have ec : cutV [V.str l.nm, .ref dd, vv] none (some 2) = [.str l.nm, .ref dd] := rfl
    rw [ec]
    have s5 := same_upd (o := .tup [.str l.nm, .ref dd]) n5
    have e5 : (upd H t5 (.tup [.str l.nm, .ref dd])) t5 = some (.tup [.str l.nm, .ref dd]) := upd_same
    generalize upd H t5 (.tup [.str l.nm, .ref dd]) = H5 at s5 e5 ⊢
    refine ⟨t5, _, rfl, SqT.of e5, rfl, _, _, rfl, _, _, rfl, ⟨dd, _, rfl, same_tup s5 n2, rfl, _, _, rfl, _, _, rfl, rfl, rfl, ?_⟩⟩
    have g05 := s5 _ _ g0
    refine ⟨_, rfl, f, _, rfl, kvF_u ▸ DGet.k (k := Sum.inr "u") g05, ?_⟩
    refine ⟨_, rfl, f, _, rfl, kvF_v ▸ DGet.k (k := Sum.inr "v") g05, ?_⟩
    refine ⟨_, rfl, f, _, rfl, kvF_w ▸ DGet.k (k := Sum.inr "w") g05, ?_⟩
    refine ⟨_, _, _, rfl, ?_⟩
    have z1 := same_tup s5 g1
    have z2 := same_tup s5 g2
    have z3 := same_tup s5 g3
    walk_at "go"
    refine ⟨pu, pv, pw, u, v, w, rfl, z1, z2, z3, bu.up (by decide), bv.up (by decide), bw.up (by decide), fun H6 s6 => ?_⟩
    walk_at "go"
    have y1 := same_tup s6 z1
    have y2 := same_tup s6 z2
    have y3 := same_tup s6 z3
    walk_at "st"
    refine ⟨true, true, pu, pv, _, _, rfl, y1, y2, fun D hD => ?_⟩
    have bc := B3.com ba bb bu bv
    refine lc_val (walk_zipB (f := true) (g := true) (xs := i3 u) (ys := i3 v) rfl) (i3 (com l.a l.b u v)) rfl (by show 3 ≤ 1000; decide) hD (fun H2 s2 => ⟨same_tup s2 y1, same_tup s2 y2⟩) ?_ ?_
    · rintro j c0 v' H2 H3 kk hc s2 ⟨T, u1, u2, rfl, hT', rfl, gu, gv⟩ kk2
      obtain ⟨a1, rfl, ha1⟩ := zs_get gu
      obtain ⟨a2, rfl, ha2⟩ := zs_get gv
      obtain ⟨c1', rfl, hc1⟩ := zs_get hc
      obtain ⟨hj3, rfl⟩ := th_get ha1
      obtain ⟨_, rfl⟩ := th_get ha2
      obtain ⟨_, rfl⟩ := th_get hc1
      have sT := same_upd (o := .tup [.int (th u.1 u.2.1 u.2.2 j), .int (th v.1 v.2.1 v.2.2 j)]) hT'
      have bx : Bz 2 (th u.1 u.2.1 u.2.2 j) := th_all (P := Bz 2) bu.1 bu.2.1 bu.2.2 j
      have by1 : Bz 2 (th v.1 v.2.1 v.2.2 j) := th_all (P := Bz 2) bv.1 bv.2.1 bv.2.2 j
      have ec2 : th (com l.a l.b u v).1 (com l.a l.b u v).2.1 (com l.a l.b u v).2.2 j = l.a * th u.1 u.2.1 u.2.2 j + l.b * th v.1 v.2.1 v.2.2 j := by
        obtain rfl | rfl | rfl : j = 0 ∨ j = 1 ∨ j = 2 := by omega
        all_goals rfl
      rw [ec2] at kk2
      generalize hU : upd H2 T (.tup [.int (th u.1 u.2.1 u.2.2 j), .int (th v.1 v.2.1 v.2.2 j)]) = H4 at sT
      have eT : H4 T = some (.tup [.int (th u.1 u.2.1 u.2.2 j), .int (th v.1 v.2.1 v.2.2 j)]) := at_hu hU
      refine ⟨_, _, rfl, SqT.of eT, rfl, _, _, rfl, _, _, rfl, rfl, rfl, ?_⟩
      walk_at "go"
      exact kk2 H4 sT
    · intro H7 s7 e7
      refine ⟨D, _, rfl, .inl ⟨SqL.of e7, fun t8 n8 => ?_⟩⟩
      have s8 := same_upd (o := .tup (i3 (com l.a l.b u v))) n8
      have e8 : (upd H7 t8 (.tup (i3 (com l.a l.b u v)))) t8 = some (.tup (i3 (com l.a l.b u v))) := upd_same
      generalize upd H7 t8 (.tup (i3 (com l.a l.b u v))) = H8 at s8 e8 ⊢
      have s78 := s7.trans s8
      refine ⟨pw, t8, w, com l.a l.b u v, rfl, same_tup s78 y3, SqT.of e8, bw.up (by decide), bc.up (by decide), fun H9 dr s9 hdr => ?_⟩
      have s59 := s6.trans (s78.trans s9)
      have bD : B3 8 (lnDir u v w l) := (bw.cr bc).up (by decide)
      have bV : Bz 9 (vo u v w) := ((bu.ip (bv.cr bw))).up (by decide)
      obtain ⟨p1, p2, p3, p4, p5, p6⟩ := bp
      walk_at "go"
      refine ⟨dr, bs, _, _, _, _, _, _, _, _, _, rfl, hdr, T3At.up (s5.trans s59) hB, bD.1.up (by decide), bD.2.1.up (by decide), bD.2.2.up (by decide), p1.up (by decide), p2.up (by decide), p3.up (by decide), p4.up (by decide), p5.up (by decide), p6.up (by decide), fun H10 ta s10 fa => ?_⟩
      walk_at "go"
      refine ⟨Bz.up (bz_of (n := 1) (by decide)) (by decide), fun z => absurd z (by decide), fun _ H11 t11 s11 f11 => ?_⟩
      rw [div_one] at f11
      walk_at "go"
      have s511 := s5.trans (s59.trans (s10.trans s11))
      have bVr := bd_int bV (by decide)
      refine ⟨t11, o, _, c.1, [c.2], rfl, f11, V1.up s511 hO, by show 1 ≤ 20; decide, bVr.up (by decide), c1.up (by decide), (fun r hr => by rw [List.mem_singleton.mp hr]; exact c2.up (by decide)), fun H12 t12 s12 f12 => ?_⟩
      have bsB : Bd 35 (spB (lnDir u v w l) p) := bd_sum3 (n := 8) (m := 3) (by decide) bD.1 bD.2.1 bD.2.2 p1 p3 p5
      have bsS : Bd 35 (spS (lnDir u v w l) p) := bd_sum3 (n := 8) (m := 3) (by decide) bD.1 bD.2.1 bD.2.2 p2 p4 p6
      have bo1 := bVr.mul c1
      have bo2 := bVr.mul c2
      walk_at "go"
      refine ⟨ta, t12, _, _, [_], [_], rfl, fa.same (s11.trans s12), f12, rfl, by show 1 ≤ 20; decide, bsB.up (by decide), bo1.up (by decide), (fun r hr => by rw [List.mem_singleton.mp hr]; exact bsS.up (by decide)), (fun r hr => by rw [List.mem_singleton.mp hr]; exact bo2.up (by decide)), fun H13 t13 s13 f13 => ?_⟩
      walk_at "go"
      refine ⟨tn rfl, fun te nte => ?_⟩
      generalize hUte : upd _ _ (HO.tup _) = H14
      have s14 := same_hu hUte nte
      have eg14 := at_hu hUte
      have g14 := SqT.of (K := K) eg14
      clear hUte
      walk_at "go"
      refine ⟨tn rfl, fun to14 nto14 => ?_⟩
      generalize hUto14 : upd _ _ (HO.tup _) = H15
      have s15 := same_hu hUto14 nto14
      have eg15 := at_hu hUto14
      have g15 := SqT.of (K := K) eg15
      clear hUto14
      have s1115 := s14.trans s15
      have hne := lnDir_ne (l := l) h0 hab
      walk_at "go"
      refine ⟨_, dr, t13, _, _, _, _, _, _, rfl, same_tup (s10.trans (s11.trans (s12.trans (s13.trans s1115)))) hdr, f13.same s1115, dv_ne hne, dv_lt hne (bD.1.up (by decide)) (bD.2.1.up (by decide)) (bD.2.2.up (by decide)), (bsB.add bo1).up (by decide), (bsS.add bo2).up (by decide), fun H16 t16 s16 h16 => ?_⟩
      exact q H16 t16 _ (s511.trans (s12.trans (s13.trans (s1115.trans s16)))) h16 ⟨to14, te, rfl, same_tup s16 g15, same_tup (s15.trans s16) g14⟩
def spEndSide (K : PySem.W.Frag) : Sp := fun vs H Q _ => ∃ (w0 : V) (f bs o : Addr) (op : Str) (u v w : I3) (ls : List Ln) (a : Ar) (p : R3) (c : Rat × Rat), vs = [w0, .ref f, .ref bs, .ref o, .bl false] ∧ FtAt K H f op u v w ls a ∧ T3At K H bs p ∧ V1 K H o c ∧ B3 2 u ∧ B3 2 v ∧ B3 2 w ∧ vo u v w ≠ 0 ∧ B32 3 p ∧ Bd 8 c.1 ∧ Bd 8 c.2 ∧
  ∀ (H' : Hp) (t : Addr), Same H H' → SdAt K H' t w0 (ndSide u v w p c) → Q (.ref t) H'
theorem okEndSide {fEndSide : Addr} {fdEndSide : FuncData} (F : Fun K "end_side" "end_side" sEndSide fEndSide fdEndSide) (T : Txt mg) {aZERO : Addr} {aONE : Addr} (CT : Cons K mg aZERO aONE) {CPartError CNought : Addr} (EX : Exns K mg CPartError CNought)
    {fVolume : Addr} {fdVolume : FuncData} (GVolume : FnOk P w K mg base CX0 2 fVolume fdVolume ["a", "b", "c"] (spVolume K)) (gVolume : mg "volume" = some (.ref fVolume)) (kpVolume : PySem.W.keepIn K (.ref fVolume) = true) (bVolume : Binds K fdVolume ["a", "b", "c"] [])
    {fCross : Addr} {fdCross : FuncData} (GCross : FnOk P w K mg base CX0 2 fCross fdCross ["a", "b"] (spCross K)) (gCross : mg "cross" = some (.ref fCross)) (kpCross : PySem.W.keepIn K (.ref fCross) = true) (bCross : Binds K fdCross ["a", "b"] [])
    {fAdd : Addr} {fdAdd : FuncData} (GAdd : FnOk P w K mg base CX0 3 fAdd fdAdd ["a", "b"] (spAdd K)) (gAdd : mg "add" = some (.ref fAdd)) (kpAdd : PySem.W.keepIn K (.ref fAdd) = true) (bAdd : Binds K fdAdd ["a", "b"] [])
    {fSideOf : Addr} {fdSideOf : FuncData} (GSideOf : FnOk P w K mg base CX0 4 fSideOf fdSideOf ["origin", "direction", "offset", "above"] (spSideOf K)) (gSideOf : mg "side_of" = some (.ref fSideOf)) (kpSideOf : PySem.W.keepIn K (.ref fSideOf) = true) (bSideOf : Binds K fdSideOf ["origin", "direction", "offset", "above"] [])
    {fSpread : Addr} {fdSpread : FuncData} (GSpread : FnOk P w K mg base CX0 4 fSpread fdSpread ["normal", "point"] (spSpread K)) (gSpread : mg "spread" = some (.ref fSpread)) (kpSpread : PySem.W.keepIn K (.ref fSpread) = true) (bSpread : Binds K fdSpread ["normal", "point"] [])
    {fScale : Addr} {fdScale : FuncData} (GScale : FnOk P w K mg base CX0 3 fScale fdScale ["factor", "a"] (spScale K)) (gScale : mg "scale" = some (.ref fScale)) (kpScale : PySem.W.keepIn K (.ref fScale) = true) (bScale : Binds K fdScale ["factor", "a"] [])
    {fFraction : Addr} {fdFraction : FuncData} (GFraction : FnOk P w K mg base (L2.CX P w) 1 fFraction fdFraction ["number", "divisor"] (spFraction K CNought)) (gFraction : mg "fraction" = some (.ref fFraction)) (kpFraction : PySem.W.keepIn K (.ref fFraction) = true) (bFraction : Binds K fdFraction ["number", "divisor"] []) {dsFraction : List Value} (vdFraction : Vals [.int 1] dsFraction) (bdFraction : Binds K fdFraction ["number", "divisor"] dsFraction)
    {fDot : Addr} {fdDot : FuncData} (GDot : FnOk P w K mg base CX0 2 fDot fdDot ["a", "b"] (spDot K)) (gDot : mg "dot" = some (.ref fDot)) (kpDot : PySem.W.keepIn K (.ref fDot) = true) (bDot : Binds K fdDot ["a", "b"] []) :
    FnOk P w K mg base CX0 5 fEndSide fdEndSide ["origin", "feature", "base", "end", "is_named"] (spEndSide K) := by
  refine F.ok scEndSide (fun vs H Q E h => ?_) (fun cdv A outer s H vs Q E hr h => ?_)
  · obtain ⟨w0, f, bs, o, op, u, v, w, ls, a, p, c, rfl, hF, hB, hO, bu, bv, bw, h0, bp, c1, c2, q⟩ := h
    rfl
  · obtain ⟨w0, f, bs, o, op, u, v, w, ls, a, p, c, rfl, hF, hB, hO, bu, bv, bw, h0, bp, c1, c2, q⟩ := h
    refine ⟨_, (pss_cons (ps_par3 (i := 5) (j := 6) (l := 7) (by rfl) scEndSide.nd rfl rfl rfl (by decide) (by decide) (by decide) rfl rfl rfl (pa_cons (pe_dget (hu_of hr) (pv 1) pe_str (fun _ _ => rfl)) (pa_cons (pe_dget (hu_of hr) (pv 1) pe_str (fun _ _ => rfl)) (pa_cons (pe_dget (hu_of hr) (pv 1) pe_str (fun _ _ => rfl)) pa_nil))) (by rfl))
      (pss_cons (ps_if (pt_val (pv 4))
        (pss_cons (ps_asg (pv 3) (pg_tup rfl (pgs_cons (pg_name (i := 8) scEndSide.nd rfl (Or.inl rfl)) (pgs_cons (pg_name (i := 9) scEndSide.nd rfl (Or.inl rfl)) pgs_nil))))
        (pss_one (ps_ret (pe_tup (pa_cons (pv 0) (pa_cons (pv 8) (pa_cons (pv 9) (pa_cons (pe_cmpR op_gt (pe_call GDot (hr.mono (by decide)) (by rfl) gDot kpDot bDot .nil pass0 (pa_cons (pv 8) (pa_cons (pv 7) pa_nil))) pe_int (nomark _)) pa_nil))))))))
        pss_nil)
      (pss_cons (ps_set (i := 10) scEndSide.nd rfl (Or.inl rfl) (pe_call GVolume (hr.mono (by decide)) (by rfl) gVolume kpVolume bVolume .nil pass0 (pa_cons (pv 5) (pa_cons (pv 6) (pa_cons (pv 7) pa_nil)))))
      (pss_cons (ps_set (i := 11) scEndSide.nd rfl (Or.inl rfl) (pe_call GCross (hr.mono (by decide)) (by rfl) gCross kpCross bCross .nil pass0 (pa_cons (pv 5) (pa_cons (pv 6) pa_nil))))
      (pss_cons (ps_set (i := 12) scEndSide.nd rfl (Or.inl rfl) (pe_call GAdd (hr.mono (by decide)) (by rfl) gAdd kpAdd bAdd .nil pass0 (pa_cons (pe_call GSpread hr (by rfl) gSpread kpSpread bSpread .nil pass0 (pa_cons (pv 11) (pa_cons (pv 2) pa_nil))) (pa_cons (pe_call GScale (hr.mono (by decide)) (by rfl) gScale kpScale bScale .nil pass0 (pa_cons (pe_call GFraction (hr.mono (by decide)) (by rfl) gFraction kpFraction bdFraction vdFraction passL (pa_cons (pv 10) pa_nil)) (pa_cons (pv 3) pa_nil))) pa_nil))))
      (pss_one (ps_ret (pe_call GSideOf hr (by rfl) gSideOf kpSideOf bSideOf .nil pass0 (pa_cons (pv 0) (pa_cons (pv 11) (pa_cons (pv 12) (pa_cons (pe_cmpR op_gt (pv 10) pe_int (nomark _)) pa_nil)))))))))))), ?_⟩
    obtain ⟨pu, pv, pw, pl, d, pa, fr, to, sp, x1, x2, g0, g1, g2, g3, g4, g5, g6, g7, g8⟩ := hF
    refine ⟨_, rfl, f, _, rfl, kvF_u ▸ DGet.k (k := Sum.inr "u") g0, ?_⟩
    refine ⟨_, rfl, f, _, rfl, kvF_v ▸ DGet.k (k := Sum.inr "v") g0, ?_⟩
    refine ⟨_, rfl, f, _, rfl, kvF_w ▸ DGet.k (k := Sum.inr "w") g0, ?_⟩
    refine ⟨_, _, _, rfl, ?_⟩
    have bD : B3 8 (cr u v) := (bu.cr bv).up (by decide)
    have bV : Bz 9 (vo u v w) := ((bu.ip (bv.cr bw))).up (by decide)
    have bVr := bd_int bV (by decide)
    have bo1 := bVr.mul c1
    have bo2 := bVr.mul c2
    obtain ⟨p1, p2, p3, p4, p5, p6⟩ := bp
    have bsB : Bd 35 (spB (cr u v) p) := bd_sum3 (n := 8) (m := 3) (by decide) bD.1 bD.2.1 bD.2.2 p1 p3 p5
    have bsS : Bd 35 (spS (cr u v) p) := bd_sum3 (n := 8) (m := 3) (by decide) bD.1 bD.2.1 bD.2.2 p2 p4 p6
    have hne := cr_ne h0
    walk_at "go"
    refine ⟨pu, pv, pw, u, v, w, rfl, g1, g2, g3, bu.up (by decide), bv.up (by decide), bw.up (by decide), fun H6 s6 => ?_⟩
    walk_at "st"
    walk_at "go"
    refine ⟨pu, pv, u, v, rfl, same_tup s6 g1, same_tup s6 g2, bu.up (by decide), bv.up (by decide), fun H7 dr s7 hdr => ?_⟩
    walk_at "go"
    refine ⟨dr, bs, _, _, _, _, _, _, _, _, _, rfl, hdr, T3At.up (s6.trans s7) hB, bD.1.up (by decide), bD.2.1.up (by decide), bD.2.2.up (by decide), p1.up (by decide), p2.up (by decide), p3.up (by decide), p4.up (by decide), p5.up (by decide), p6.up (by decide), fun H10 ta s10 fa => ?_⟩
    walk_at "go"
    refine ⟨Bz.up (bz_of (n := 1) (by decide)) (by decide), fun z => absurd z (by decide), fun _ H11 t11 s11 f11 => ?_⟩
    rw [div_one] at f11
    walk_at "go"
    have s511 := s6.trans (s7.trans (s10.trans s11))
    refine ⟨t11, o, _, c.1, [c.2], rfl, f11, V1.up s511 hO, by show 1 ≤ 20; decide, bVr.up (by decide), c1.up (by decide), (fun r hr => by rw [List.mem_singleton.mp hr]; exact c2.up (by decide)), fun H12 t12 s12 f12 => ?_⟩
    walk_at "go"
    refine ⟨ta, t12, _, _, [_], [_], rfl, fa.same (s11.trans s12), f12, rfl, by show 1 ≤ 20; decide, bsB.up (by decide), bo1.up (by decide), (fun r hr => by rw [List.mem_singleton.mp hr]; exact bsS.up (by decide)), (fun r hr => by rw [List.mem_singleton.mp hr]; exact bo2.up (by decide)), fun H13 t13 s13 f13 => ?_⟩
    walk_at "go"
    refine ⟨_, dr, t13, _, _, _, _, _, _, rfl, same_tup (s10.trans (s11.trans (s12.trans s13))) hdr, f13, dv_ne hne, dv_lt hne (bD.1.up (by decide)) (bD.2.1.up (by decide)) (bD.2.2.up (by decide)), (bsB.add bo1).up (by decide), (bsS.add bo2).up (by decide), fun H16 t16 s16 h16 => ?_⟩
    exact q H16 t16 (s511.trans (s12.trans (s13.trans s16))) h16
def lvk (pl : List (Str × Int)) (n : Str) : Int := ((pl.find? fun p => decide (p.1 = n)).map (·.2)).getD 0
def PlAt (H : Hp) (d : Addr) (kvs : List (Key × V)) (pl : Str → Int) (R : Str → Prop) : Prop := H d = some (.dK kvs) ∧ ∀ n, R n → valV kvs (Sum.inr n) = some (.int (pl n))
theorem PlAt.up {H H' : Hp} {d : Addr} {kvs : List (Key × V)} {pl : Str → Int} {R : Str → Prop} (s : Same H H') (h : PlAt H d kvs pl R) : PlAt H' d kvs pl R := ⟨s _ _ h.1, h.2⟩
def spAreaTest (K : PySem.W.Frag) (n : Nat) : Sp := fun vs H Q _ => ∃ (t d : Addr) (a : Ar) (kvs : List (Key × V)) (pl : Str → Int) (R : Str → Prop), vs = [.ref t, .ref d] ∧ ArAt K H t a ∧ PlAt H d kvs pl R ∧ a.all R ∧ a.deep ≤ n ∧ a.deep ≤ 200 ∧ ∀ (H' : Hp) (u : Addr), Same H H' → TsAt K H' u (tsOf pl a) → Q (.ref u) H'
theorem okAreaTest {n : Nat} {fAreaTest : Addr} {fdAreaTest : FuncData} (F : Fun K "area_test" "area_test" sAreaTest fAreaTest fdAreaTest) (T : Txt mg) {aZERO : Addr} {aONE : Addr} (CT : Cons K mg aZERO aONE) {CPartError CNought : Addr} (EX : Exns K mg CPartError CNought)
    {fJoinedParts : Addr} {fdJoinedParts : FuncData} (GJoinedParts : FnOk P w K mg base CX0 1 fJoinedParts fdJoinedParts ["area"] (spJoinedParts K)) (gJoinedParts : mg "joined_parts" = some (.ref fJoinedParts)) (kpJoinedParts : PySem.W.keepIn K (.ref fJoinedParts) = true) (bJoinedParts : Binds K fdJoinedParts ["area"] [])
    (GAreaTest : FnOk P w K mg base CX0 (2 + n) fAreaTest fdAreaTest ["area", "places"] (spAreaTest K n)) (gAreaTest : mg "area_test" = some (.ref fAreaTest)) (kpAreaTest : PySem.W.keepIn K (.ref fAreaTest) = true) (bAreaTest : Binds K fdAreaTest ["area", "places"] []) :
    FnOk P w K mg base CX0 (2 + n + 1) fAreaTest fdAreaTest ["area", "places"] (spAreaTest K (n + 1)) := by
  refine F.ok scAreaTest (fun vs H Q E h => ?_) (fun cdv A outer s H vs Q E hr h => ?_)
  · obtain ⟨t, d, a, kvs, pl, R, rfl, hA, hP, hR, hn, hd, q⟩ := h
    rfl
  · obtain ⟨t, d, a, kvs, pl, R, rfl, hA, hP, hR, hn, hd, q⟩ := h
    refine ⟨_, (pss_cons (ps_set (i := 2) scAreaTest.nd rfl (Or.inl rfl) (pe_ix ix_tup (pv 0) pe_int (fun _ _ => rfl)))
      (pss_cons (ps_if (pt_cmpR op_eq (pv 2) pe_str (nomark _))
        (pss_one (ps_ret (pe_tup (pa_cons pe_str (pa_cons (pe_dget (hu_of hr) (pv 1) (pe_ix ix_tup (pv 0) pe_int (fun _ _ => rfl)) (fun _ _ => rfl)) pa_nil)))))
        pss_nil)
      (pss_cons (ps_if (pt_cmpR op_eq (pv 2) pe_str (nomark _))
        (pss_one (ps_ret (pe_tup (pa_cons pe_str (pa_cons (pe_tup (pa_cons pe_str (pa_cons (pe_dget (hu_of hr) (pv 1) (pe_ix ix_tup (pv 0) pe_int (fun _ _ => rfl)) (fun _ _ => rfl)) pa_nil))) pa_nil)))))
        pss_nil)
      (pss_cons (ps_if (pt_cmpR op_eq (pv 2) pe_str (nomark _))
        (pss_one (ps_ret (pe_tup (pa_cons pe_str (pa_cons (pe_call GAreaTest hr (by rfl) gAreaTest kpAreaTest bAreaTest .nil pass0 (pa_cons (pe_ix ix_tup (pv 0) pe_int (fun _ _ => rfl)) (pa_cons (pv 1) pa_nil))) pa_nil)))))
        pss_nil)
      (pss_cons (ps_set (i := 3) scAreaTest.nd rfl (Or.inl rfl) pe_non)
      (C8.pss_cut (ps_for PassesOwn.never rfl (pi_list (pe_call GJoinedParts (hr.mono (by omega)) (by rfl) gJoinedParts kpJoinedParts bJoinedParts .nil pass0 (pa_cons (pv 0) pa_nil))) (pg_name (i := 4) scAreaTest.nd rfl (Or.inl rfl))
        (pss_cons (ps_set (i := 5) scAreaTest.nd rfl (Or.inl rfl) (pe_call GAreaTest hr (by rfl) gAreaTest kpAreaTest bAreaTest .nil pass0 (pa_cons (pv 4) (pa_cons (pv 1) pa_nil))))
        (pss_one (ps_set (i := 3) scAreaTest.nd rfl (Or.inl rfl) (pe_ifExp (pt_cmpR op_isN (pv 3) pe_non (nomark _)) (pv 5) (pe_tup (pa_cons (pv 2) (pa_cons (pv 3) (pa_cons (pv 5) pa_nil)))))))))
      (pss_one (ps_ret (pv 3))))))))), ?_⟩
    match a, hA, hR, hn, hd, q with
    | .leaf r nm, hA, hR, hn, hd, q =>
      replace hA : SqT K H t [.str (lrS r), .str nm] := hA
      have g := hP.2 nm hR
      have hPd := hP.1
      cases r with
      | false =>
        walk_at "go"
        refine ⟨d, _, rfl, g ▸ DGet.k (k := Sum.inr nm) hPd, ?_⟩
        walk_at "go"
        refine ⟨tn rfl, fun t1 nt1 => ?_⟩
        generalize hUt1 : upd _ _ (HO.tup _) = H1
        have s1 := same_hu hUt1 nt1
        have eh1 := at_hu hUt1
        have h1 := SqT.of (K := K) eh1
        clear hUt1
        exact q H1 t1 s1 h1
      | true =>
        walk_at "go"
        refine ⟨d, _, rfl, g ▸ DGet.k (k := Sum.inr nm) hPd, ?_⟩
        walk_at "go"
        refine ⟨tn rfl, fun t1 nt1 => ?_⟩
        generalize hUt1 : upd _ _ (HO.tup _) = H1
        have s1 := same_hu hUt1 nt1
        have eh1 := at_hu hUt1
        have h1 := SqT.of (K := K) eh1
        clear hUt1
        walk_at "go"
        refine ⟨tn rfl, fun t2 nt2 => ?_⟩
        generalize hUt2 : upd _ _ (HO.tup _) = H2
        have s2 := same_hu hUt2 nt2
        have eh2 := at_hu hUt2
        have h2 := SqT.of (K := K) eh2
        clear hUt2
        exact q H2 t2 (s1.trans s2) ⟨t1, h2, same_tup s2 h1⟩
    | .no a1, ⟨u, h1, h2⟩, hR, hn, hd, q =>
      have hn1 : a1.deep + 1 ≤ n + 1 := hn
      have hd1 : a1.deep + 1 ≤ 200 := hd
      walk_at "go"
      refine ⟨u, d, a1, kvs, pl, R, rfl, h2, hP, hR, by omega, by omega, fun H1 u1 s1 r1 => ?_⟩
      walk_at "go"
      refine ⟨tn rfl, fun t2 nt2 => ?_⟩
      generalize hUt2 : upd _ _ (HO.tup _) = H2
      have s2 := same_hu hUt2 nt2
      have eg2 := at_hu hUt2
      have g2 := SqT.of (K := K) eg2
      clear hUt2
      exact q H2 t2 (s1.trans s2) ⟨u1, g2, r1.up s2⟩
    | .two e a1 a2, hA, hR, hn, hd, q =>
      have hA0 := hA
      obtain ⟨u, v, h1, h2, h3⟩ := hA0
      have hn1 : max a1.deep a2.deep + 1 ≤ n + 1 := hn
      walk_at "go"
      rw [tw_left]
      refine iteF' rfl ?_
      walk_at "go"
      rw [tw_right]
      refine iteF' rfl ?_
      walk_at "go"
      rw [tw_not]
      refine iteF' rfl ?_
      walk_at "go"
      refine ⟨fun σ' H' => ∃ (v4 v5 : Option V) (u : Addr), σ' = [some (.ref t), some (.ref d), some (.str (twS e)), some (.ref u), v4, v5] ∧ Same H H' ∧ TsAt K H' u (tsOf pl (.two e a1 a2)), ?_, ?_⟩
      · walk_at "go"
        refine ⟨t, e, a1, a2, rfl, hA, hd, fun H1 D s1 hD => ?_⟩
        obtain ⟨ws, e1, w1, w2⟩ := hD
        have hj : ∀ w ∈ ws, w.2.all R ∧ w.2.deep < (Ar.two e a1 a2).deep := fun w hw => by
          have : w.2 ∈ jpR e (.two e a1 a2) := by
            rw [← List.mem_reverse, ← w2]
            exact List.mem_map_of_mem hw
          exact ⟨jpR_all hR this, jpR_deep2 this⟩
        refine ⟨D, rfl, ⟨_, SqL.of e1⟩, for_list (K := K) (a := D) (xs := Ro ws) (fun i σ' H' => ∃ (v3 : V) (v4 v5 : Option V), σ' = [some (.ref t), some (.ref d), some (.str (twS e)), some v3, v4, v5] ∧ Same H1 H' ∧ tsV H' K (tsFold e pl ((ws.map (·.2)).take i).reverse) v3) ⟨.non, _, _, rfl, Same.refl _, rfl⟩ (fun i σ' H' _ h => ?_) ?_ ?_⟩
        · obtain ⟨v3, v4, v5, rfl, s2, h2⟩ := h
          exact s2.seq (SqL.of e1)
        · rintro i v σ' H2 hi ⟨v3, v4, v5, rfl, s2, h2⟩
          obtain ⟨w, rfl, gw⟩ := Ro_get hi
          have mw := List.mem_of_getElem? gw
          have gw2 : (ws.map (·.2))[i]? = some w.2 := by rw [List.getElem?_map, gw]; rfl
          have hd0 : (Ar.two e a1 a2).deep ≤ n + 1 := hn
          obtain ⟨j1, j2⟩ := hj w mw
          walk_at "go"
          refine ⟨w.1, d, w.2, kvs, pl, R, rfl, (w1 w mw).up s2, hP.up (s1.trans s2), j1, by omega, by omega, fun H3 u3 s3 r3 => ?_⟩
          have ef := tsFold_snoc (e := e) (pl := pl) gw2
          cases hf : tsFold e pl ((ws.map (·.2)).take i).reverse with
          | none =>
            rw [hf] at h2 ef
            obtain rfl : v3 = .non := h2
            walk_at "go"
            refine ⟨_, _, _, rfl, s2.trans s3, ?_⟩
            rw [ef]
            exact ⟨u3, rfl, r3⟩
          | some t0 =>
            rw [hf] at h2 ef
            obtain ⟨u0, rfl, h0⟩ := h2
            walk_at "go"
            refine ⟨tn rfl, fun t4 nt4 => ?_⟩
            generalize hUt4 : upd _ _ (HO.tup _) = H4
            have s4 := same_hu hUt4 nt4
            have eg4 := at_hu hUt4
            have g4 := SqT.of (K := K) eg4
            clear hUt4
            walk_at "go"
            refine ⟨_, _, _, rfl, s2.trans (s3.trans s4), ?_⟩
            rw [ef]
            exact ⟨t4, rfl, u0, u3, g4, h0.up (s3.trans s4), r3.up s4⟩
        · rintro σ' H2 ⟨v3, v4, v5, rfl, s2, h2⟩
          rw [Ro_len, ← List.length_map (f := (·.2)), List.take_length, w2, List.reverse_reverse, tsFold_jp] at h2
          obtain ⟨u0, rfl, h0⟩ := h2
          exact ⟨_, _, u0, rfl, s1.trans s2, h0⟩
      · rintro σ' H' ⟨v4, v5, u, rfl, s2, h2⟩
        walk_at "go"
        exact q H' u s2 h2
theorem recAreaTest {fAreaTest : Addr} {fdAreaTest : FuncData} (FAreaTest : Fun K "area_test" "area_test" sAreaTest fAreaTest fdAreaTest) (T : Txt mg) {aZERO : Addr} {aONE : Addr} (CT : Cons K mg aZERO aONE) {CPartError CNought : Addr} (EX : Exns K mg CPartError CNought)
    {fJoinedParts : Addr} {fdJoinedParts : FuncData} (GJoinedParts : FnOk P w K mg base CX0 1 fJoinedParts fdJoinedParts ["area"] (spJoinedParts K)) (gJoinedParts : mg "joined_parts" = some (.ref fJoinedParts)) (kpJoinedParts : PySem.W.keepIn K (.ref fJoinedParts) = true) (bJoinedParts : Binds K fdJoinedParts ["area"] [])
    (gAreaTest : mg "area_test" = some (.ref fAreaTest)) (kpAreaTest : PySem.W.keepIn K (.ref fAreaTest) = true) (bAreaTest : Binds K fdAreaTest ["area", "places"] []) : ∀ n : Nat, FnOk P w K mg base CX0 (2 + n) fAreaTest fdAreaTest ["area", "places"] (spAreaTest K n)
  | 0 => by
    have zAreaTest : ∀ vs H Q E, ¬ spAreaTest K 0 vs H Q E := fun vs H Q E h => by
      obtain ⟨t, d, a, kvs, pl, R, rfl, hA, hP, hR, hn, hd, q⟩ := h
      cases a <;> exact absurd hn (Nat.not_succ_le_zero _)
    exact ⟨fun vs H Q E h => absurd h (zAreaTest vs H Q E), fun A outer s H args us vs Q E _ _ _ _ h => absurd h (zAreaTest vs H Q E)⟩
  | n + 1 => by
    have ih := recAreaTest FAreaTest T CT EX GJoinedParts gJoinedParts kpJoinedParts bJoinedParts gAreaTest kpAreaTest bAreaTest n
    exact (okAreaTest FAreaTest T CT EX GJoinedParts gJoinedParts kpJoinedParts bJoinedParts ih gAreaTest kpAreaTest bAreaTest)
def spOppositeSide (K : PySem.W.Frag) : Sp := fun vs H Q _ => ∃ (sd : Addr) (w0 : V) (v : SdV), vs = [.ref sd] ∧ SdAt K H sd w0 v ∧ ∀ (H' : Hp) (t : Addr), Same H H' → SdAt K H' t w0 { v with k := !v.k } → Q (.ref t) H'
theorem okOppositeSide {fOppositeSide : Addr} {fdOppositeSide : FuncData} (F : Fun K "opposite_side" "opposite_side" sOppositeSide fOppositeSide fdOppositeSide) (T : Txt mg) {aZERO : Addr} {aONE : Addr} (CT : Cons K mg aZERO aONE) {CPartError CNought : Addr} (EX : Exns K mg CPartError CNought) :
    FnOk P w K mg base CX0 1 fOppositeSide fdOppositeSide ["side"] (spOppositeSide K) := by
  refine F.ok scOppositeSide (fun vs H Q E h => ?_) (fun cdv A outer s H vs Q E hr h => ?_)
  · obtain ⟨sd, w0, v, rfl, ⟨n, o, h1, h2, h3⟩, q⟩ := h
    rfl
  · obtain ⟨sd, w0, v, rfl, ⟨n, o, h1, h2, h3⟩, q⟩ := h
    refine ⟨_, (pss_cons (ps_asg (pv 0) (pg_tup rfl (pgs_cons (pg_name (i := 1) scOppositeSide.nd rfl (Or.inl rfl)) (pgs_cons (pg_name (i := 2) scOppositeSide.nd rfl (Or.inl rfl)) (pgs_cons (pg_name (i := 3) scOppositeSide.nd rfl (Or.inl rfl)) (pgs_cons (pg_name (i := 4) scOppositeSide.nd rfl (Or.inl rfl)) pgs_nil))))))
      (pss_one (ps_ret (pe_tup (pa_cons (pv 1) (pa_cons (pv 2) (pa_cons (pv 3) (pa_cons (pe_not (pv 4)) pa_nil)))))))), ?_⟩
    walk_at "go"
    refine ⟨tn rfl, fun t1 nt1 => ?_⟩
    generalize hUt1 : upd _ _ (HO.tup _) = H1
    have s1 := same_hu hUt1 nt1
    have eg1 := at_hu hUt1
    have g1 := SqT.of (K := K) eg1
    clear hUt1
    exact q H1 t1 s1 ⟨n, o, g1, same_tup s1 h2, h3.same s1⟩
/-- a tool: its sides with their names, its test -/
def TlAt (K : PySem.W.Frag) (H : Hp) (t : Addr) (op : Str) (m : Int) (L : List (Str × SdV)) (g : Ts) : Prop := ∃ (l pg : Addr) (ws : List (Addr × (Str × SdV))), SqT K H t [.str op, .ref l, .ref pg] ∧ H l = some (.lst (Ro ws)) ∧ (∀ w ∈ ws, ∃ w0, SdAt K H w.1 w0 w.2.2 ∧ OgN K H w0 m w.2.1) ∧ ws.map (·.2) = L ∧ TsAt K H pg g
theorem TlAt.up {K : PySem.W.Frag} {H H' : Hp} {t : Addr} {op : Str} {m : Int} {L : List (Str × SdV)} {g : Ts} (s : Same H H') (h : TlAt K H t op m L g) : TlAt K H' t op m L g := by
  obtain ⟨l, pg, ws, h1, h2, h3, h4, h5⟩ := h
  exact ⟨l, pg, ws, same_tup s h1, s _ _ h2, fun w hw => by
    obtain ⟨w0, g1, g2⟩ := h3 w hw
    exact ⟨w0, g1.up s, g2.up s⟩, h4, h5.up s⟩
def plI (ls : List Ln) (nm : Str) : Int := ((ls.findIdx fun l => decide (l.nm = nm) : Nat) : Int)
theorem nm_ne {ls : List Ln} (hp : ls.Pairwise fun x y => x.nm ≠ y.nm) {i j : Nat} {l l2 : Ln} (h : ls[i]? = some l) (h2 : ls[j]? = some l2) (hij : i < j) : l.nm ≠ l2.nm := by
  obtain ⟨hi, e⟩ := List.getElem?_eq_some_iff.mp h
  obtain ⟨hj, e2⟩ := List.getElem?_eq_some_iff.mp h2
  rw [← e, ← e2]
  exact (List.pairwise_iff_getElem.mp hp) i j hi hj hij
theorem plI_at {ls : List Ln} (hp : ls.Pairwise fun x y => x.nm ≠ y.nm) {j : Nat} {l : Ln} (h : ls[j]? = some l) : plI ls l.nm = (j : Int) := by
  obtain ⟨hj, e⟩ := List.getElem?_eq_some_iff.mp h
  unfold plI
  have : ls.findIdx (fun x => decide (x.nm = l.nm)) = j := by
    rw [List.findIdx_eq hj]
    refine ⟨by rw [e]; exact decide_eq_true rfl, fun i hi => decide_eq_false ?_⟩
    exact nm_ne hp (List.getElem?_eq_getElem (by omega)) h hi
  rw [this]
def NmIn (ls : List Ln) (nm : Str) : Prop := ∃ l ∈ ls, l.nm = nm
def skSides (u v w : I3) (p : R3) (ls : List Ln) (cs : List (Rat × Rat)) (c1 c2 : Rat × Rat) : List (Str × SdV) :=
  List.zipWith (fun l c => (l.nm, lnSide u v w p l c)) ls cs ++ [(("low" : Str), ndSide u v w p c1), (("high" : Str), { ndSide u v w p c2 with k := !(ndSide u v w p c2).k })]
theorem zip_eq {u v w : I3} {p : R3} {ls : List Ln} {cw : List (Addr × (Rat × Rat))} {ws : List (Addr × (Str × SdV))} (l1 : ws.length = cw.length) (l2 : cw.length = ls.length)
    (h : ∀ (i : Nat) (x : Addr × (Str × SdV)), ws[i]? = some x → ∃ (wc : Addr × (Rat × Rat)) (l : Ln), cw[i]? = some wc ∧ ls[i]? = some l ∧ x.2 = (l.nm, lnSide u v w p l wc.2)) :
    ws.map (·.2) = List.zipWith (fun l c => (l.nm, lnSide u v w p l c)) ls (cw.map (·.2)) := by
  refine List.ext_getElem (by rw [List.length_map, List.length_zipWith, List.length_map]; omega) fun i h1 h2 => ?_
  rw [List.length_map] at h1
  obtain ⟨wc, l, g1, g2, g3⟩ := h i ws[i] (List.getElem?_eq_getElem h1)
  obtain ⟨a1, a2⟩ := List.getElem?_eq_some_iff.mp g1
  obtain ⟨b1, b2⟩ := List.getElem?_eq_some_iff.mp g2
  rw [List.getElem_map, List.getElem_zipWith, List.getElem_map, b2, a2, g3]
def skTest (ls : List Ln) (a : Ar) : Ts := .two false (.two false (tsOf (plI ls) a) (.side ls.length)) (.side ((ls.length : Int) + 1))
def spToolBetween (K : PySem.W.Frag) : Sp := fun vs H Q _ => ∃ (m : Int) (f ofs bs en o1 o2 : Addr) (op : Str) (u v w : I3) (ls : List Ln) (a : Ar) (p : R3) (cw : List (Addr × (Rat × Rat))) (c1 c2 : Rat × Rat), vs = [.int m, .ref f, .ref ofs, .ref bs, .ref en] ∧ FtAt K H f op u v w ls a ∧ H ofs = some (.lst (Ro cw)) ∧ (∀ w ∈ cw, V1 K H w.1 w.2) ∧ cw.length = ls.length ∧ T3At K H bs p ∧ SqL K H en [.ref o1, .ref o2] ∧ V1 K H o1 c1 ∧ V1 K H o2 c2 ∧
  B3 2 u ∧ B3 2 v ∧ B3 2 w ∧ (∀ l ∈ ls, Bz 2 l.a ∧ Bz 2 l.b ∧ (l.a ≠ 0 ∨ l.b ≠ 0)) ∧ vo u v w ≠ 0 ∧ B32 3 p ∧ (∀ w ∈ cw, Bd 8 w.2.1 ∧ Bd 8 w.2.2) ∧ Bd 8 c1.1 ∧ Bd 8 c1.2 ∧ Bd 8 c2.1 ∧ Bd 8 c2.2 ∧ ls.length ≤ 20 ∧ ls.Pairwise (fun x y => x.nm ≠ y.nm) ∧ a.all (NmIn ls) ∧ a.deep ≤ 8 ∧
  ∀ (H' : Hp) (t : Addr), Same H H' → TlAt K H' t op m (skSides u v w p ls (cw.map (·.2)) c1 c2) (skTest ls a) → Q (.ref t) H'
theorem okToolBetween {fToolBetween : Addr} {fdToolBetween : FuncData} (F : Fun K "tool_between" "tool_between" sToolBetween fToolBetween fdToolBetween) (T : Txt mg) {aZERO : Addr} {aONE : Addr} (CT : Cons K mg aZERO aONE) {CPartError CNought : Addr} (EX : Exns K mg CPartError CNought)
    {fEndSide : Addr} {fdEndSide : FuncData} (GEndSide : FnOk P w K mg base CX0 5 fEndSide fdEndSide ["origin", "feature", "base", "end", "is_named"] (spEndSide K)) (gEndSide : mg "end_side" = some (.ref fEndSide)) (kpEndSide : PySem.W.keepIn K (.ref fEndSide) = true) (bEndSide : Binds K fdEndSide ["origin", "feature", "base", "end", "is_named"] [])
    {fAreaTest : Addr} {fdAreaTest : FuncData} (GAreaTest : FnOk P w K mg base CX0 10 fAreaTest fdAreaTest ["area", "places"] (spAreaTest K 8)) (gAreaTest : mg "area_test" = some (.ref fAreaTest)) (kpAreaTest : PySem.W.keepIn K (.ref fAreaTest) = true) (bAreaTest : Binds K fdAreaTest ["area", "places"] [])
    {fLineSide : Addr} {fdLineSide : FuncData} (GLineSide : FnOk P w K mg base CX0 5 fLineSide fdLineSide ["number", "feature", "base", "at", "offset"] (spLineSide K)) (gLineSide : mg "line_side" = some (.ref fLineSide)) (kpLineSide : PySem.W.keepIn K (.ref fLineSide) = true) (bLineSide : Binds K fdLineSide ["number", "feature", "base", "at", "offset"] [])
    {fOppositeSide : Addr} {fdOppositeSide : FuncData} (GOppositeSide : FnOk P w K mg base CX0 1 fOppositeSide fdOppositeSide ["side"] (spOppositeSide K)) (gOppositeSide : mg "opposite_side" = some (.ref fOppositeSide)) (kpOppositeSide : PySem.W.keepIn K (.ref fOppositeSide) = true) (bOppositeSide : Binds K fdOppositeSide ["side"] []) :
    FnOk P w K mg base CX0 11 fToolBetween fdToolBetween ["number", "feature", "offsets", "base", "ends"] (spToolBetween K) := by
  refine F.ok scToolBetween (fun vs H Q E h => ?_) (fun cdv A outer s H vs Q E hr h => ?_)
  · obtain ⟨m, f, ofs, bs, en, o1, o2, op, u, v, w, ls, a, p, cw, c1, c2, rfl, hF, hC, hCv, lC, hB, hE, hO1, hO2, bu, bv, bw, hls, h0, bp, bC, b1, b2, b3, b4, l20, hnd, hall, hdp, q⟩ := h
    rfl
  · obtain ⟨m, f, ofs, bs, en, o1, o2, op, u, v, w, ls, a, p, cw, c1, c2, rfl, hF, hC, hCv, lC, hB, hE, hO1, hO2, bu, bv, bw, hls, h0, bp, bC, b1, b2, b3, b4, l20, hnd, hall, hdp, q⟩ := h
    refine ⟨_, (pss_cons (ps_set (i := 5) scToolBetween.nd rfl (Or.inl rfl) (pe_dget (hu_of hr) (pv 1) pe_str (fun _ _ => rfl)))
      (pss_cons (ps_setLc (i := 6) (own := [("at", 12), ("offset", 13)]) (by rfl) scToolBetween.nd rfl rfl (sw_true rfl rfl rfl (by decide +kernel)) (pi_enum (by rfl) T.enumerate (pa_cons (pv 2) pa_nil)) (blkOk_by (own := [("at", 12), ("offset", 13)]) (N := ["number", "feature", "offsets", "base", "ends", "lines", "sides", "low", "high", "area", "many", "test", "at", "offset", "line"]) (sc := defScope sToolBetween) (by decide +kernel)) (fun _ _ _ _ _ => (show PG _ _ (gTup K 2 _) from (pg_tup rfl (pgs_cons (pg_name (i := 12) scToolBetween.nd rfl (Or.inl rfl)) (pgs_cons (pg_name (i := 13) scToolBetween.nd rfl (Or.inl rfl)) pgs_nil))))) (fun _ _ _ _ _ => pts_nil) (fun _ _ _ _ _ => (pe_call GLineSide (hr.mono (by decide)) (by rfl) gLineSide kpLineSide bLineSide .nil pass0 (pa_cons (pv 0) (pa_cons (pv 1) (pa_cons (pv 3) (pa_cons (pv 12) (pa_cons (pv 13) pa_nil))))))))
      (pss_cons (ps_set (i := 7) scToolBetween.nd rfl (Or.inl rfl) (pe_call GEndSide (hr.mono (by decide)) (by rfl) gEndSide kpEndSide bEndSide .nil pass0 (pa_cons (pe_tup (pa_cons (pv 0) (pa_cons (pe_tup pa_nil) (pa_cons pe_str pa_nil)))) (pa_cons (pv 1) (pa_cons (pv 3) (pa_cons (pe_ix ix_list (pv 4) pe_int (fun _ _ => rfl)) (pa_cons (pe_cmpR op_notN (pe_ix ix_tup (pe_dget (hu_of hr) (pv 1) pe_str (fun _ _ => rfl)) pe_int (fun _ _ => rfl)) pe_non (nomark _)) pa_nil)))))))
      (pss_cons (ps_set (i := 8) scToolBetween.nd rfl (Or.inl rfl) (pe_call GEndSide (hr.mono (by decide)) (by rfl) gEndSide kpEndSide bEndSide .nil pass0 (pa_cons (pe_tup (pa_cons (pv 0) (pa_cons (pe_tup pa_nil) (pa_cons pe_str pa_nil)))) (pa_cons (pv 1) (pa_cons (pv 3) (pa_cons (pe_ix ix_list (pv 4) pe_int (fun _ _ => rfl)) (pa_cons (pe_cmpR op_notN (pe_ix ix_tup (pe_dget (hu_of hr) (pv 1) pe_str (fun _ _ => rfl)) pe_int (fun _ _ => rfl)) pe_non (nomark _)) pa_nil)))))))
      (pss_cons (ps_set (i := 9) scToolBetween.nd rfl (Or.inl rfl) (pe_call GAreaTest hr (by rfl) gAreaTest kpAreaTest bAreaTest .nil pass0 (pa_cons (pe_dget (hu_of hr) (pv 1) pe_str (fun _ _ => rfl)) (pa_cons (pe_dc (own := [("at", 12), ("line", 14)]) (by rfl) scToolBetween.nd (pi_enum (by rfl) T.enumerate (pa_cons (pv 5) pa_nil)) (blkOk_by (own := [("at", 12), ("line", 14)]) (N := ["number", "feature", "offsets", "base", "ends", "lines", "sides", "low", "high", "area", "many", "test", "at", "offset", "line"]) (sc := defScope sToolBetween) (by decide +kernel)) (fun _ _ _ _ _ => (show PG _ _ (gTup K 2 _) from (pg_tup rfl (pgs_cons (pg_name (i := 12) scToolBetween.nd rfl (Or.inl rfl)) (pgs_cons (pg_name (i := 14) scToolBetween.nd rfl (Or.inl rfl)) pgs_nil))))) (fun _ _ _ _ _ => pts_nil) (fun _ _ _ _ _ => (pe_ix (show IxR _ (rIxT K) from ix_tup) (pv 14) pe_int (fun _ _ => rfl))) (fun _ _ _ _ _ => (pv 12))) pa_nil))))
      (pss_cons (ps_set (i := 10) scToolBetween.nd rfl (Or.inl rfl) (pe_callB call_len_seq (by rfl) T.len PySem.boot_len (pa_cons (pv 5) pa_nil)))
      (pss_cons (ps_set (i := 11) scToolBetween.nd rfl (Or.inl rfl) (pe_tup (pa_cons pe_str (pa_cons (pe_tup (pa_cons pe_str (pa_cons (pv 9) (pa_cons (pe_tup (pa_cons pe_str (pa_cons (pv 10) pa_nil))) pa_nil)))) (pa_cons (pe_tup (pa_cons pe_str (pa_cons (pe_op op_add (pv 10) pe_int) pa_nil))) pa_nil)))))
      (pss_one (ps_ret (pe_tup (pa_cons (pe_dget (hu_of hr) (pv 1) pe_str (fun _ _ => rfl)) (pa_cons (pe_op op_cat (pv 6) (pe_lst (pa_cons (pv 7) (pa_cons (pe_call GOppositeSide (hr.mono (by decide)) (by rfl) gOppositeSide kpOppositeSide bOppositeSide .nil pass0 (pa_cons (pv 8) pa_nil)) pa_nil)))) (pa_cons (pv 11) pa_nil))))))))))))), ?_⟩
    obtain ⟨pu, pv, pw, pl, d, pa, fr, to, sp, x1, x2, g0, g1, g2, g3, g4, g5, g6, g7, g8⟩ := id hF
    obtain ⟨lw, k1, k2, k3⟩ := g4
    have llw : lw.length = ls.length := by rw [← k3, List.length_map]
    refine ⟨_, rfl, f, _, rfl, kvF_lines ▸ DGet.k (k := Sum.inr "lines") g0, ?_⟩
    walk_at "go"
    walk_at "st"
    refine ⟨ofs, _, rfl, SqL.of hC, fun D hD => ?_⟩
    have cget : ∀ i, i < cw.length → ∃ (wc : Addr × (Rat × Rat)) (l : Ln), cw[i]? = some wc ∧ ls[i]? = some l := fun i hi => ⟨cw[i], ls[i]'(by omega), List.getElem?_eq_getElem hi, List.getElem?_eq_getElem (by omega)⟩
    refine lc_obj (walk_enum (K := K) (a := ofs) (xs := Ro cw)) (fun i H vx => ∃ (b : Addr) (w0 : V), vx = .ref b ∧ ∃ (wc : Addr × (Rat × Rat)) (l : Ln), cw[i]? = some wc ∧ ls[i]? = some l ∧ SdAt K H b w0 (lnSide u v w p l wc.2) ∧ OgN K H w0 m l.nm) (fun {i H H' vx D acc} h e s => by
      obtain ⟨b, w0, h1, wc, l, h2, h3, h4, h5⟩ := h
      exact ⟨b, w0, h1, wc, l, h2, h3, Sd.over h4 e s, OgN.over h5 e s⟩) (by rw [Ro_len]; omega) hD (fun H2 s2 => s2.seq (SqL.of hC)) ?_ ?_
    · rintro i v1 H2 H3 kk hi s2 ⟨T, u1, u2, rfl, hT', rfl, gu, gv⟩ kk2
      rw [Ro_len] at hi
      obtain rfl : V.int (i : Nat) = u1 := Option.some.inj gu
      obtain ⟨wc, rfl, gw⟩ := Ro_get gv
      obtain ⟨_, l, _, hl⟩ := cget i hi
      have mw := List.mem_of_getElem? gw
      have ml := List.mem_of_getElem? hl
      have sT := same_upd (o := .tup [.int (i : Nat), .ref wc.1]) hT'
      generalize hU : upd H2 T (.tup [.int (i : Nat), .ref wc.1]) = H4 at sT
      have eT : H4 T = some (.tup [.int (i : Nat), .ref wc.1]) := at_hu hU
      refine ⟨_, _, rfl, SqT.of eT, rfl, _, _, rfl, _, _, rfl, rfl, rfl, ?_⟩
      have s24 := s2.trans sT
      walk_at "go"
      refine ⟨m, i, f, bs, wc.1, op, u, v, w, ls, a, l, p, wc.2, rfl, hF.up s24, hl, hB.up s24, (hCv wc mw).up s24, bu, bv, bw, (hls l ml).1, (hls l ml).2.1, (hls l ml).2.2, h0, bp, (bC wc mw).1, (bC wc mw).2, fun H5 t5 w0 s5 g5 g6 => ?_⟩
      exact kk2 _ H5 (sT.trans s5) ⟨t5, w0, rfl, wc, l, gw, hl, g5, g6⟩
    · intro H2 us s2 e2 l2 r2
      obtain ⟨ws, rfl, w2⟩ := pick (us := us) (S := fun i t (x : Str × SdV) => ∃ (w0 : V) (wc : Addr × (Rat × Rat)) (l : Ln), cw[i]? = some wc ∧ ls[i]? = some l ∧ x = (l.nm, lnSide u v w p l wc.2) ∧ SdAt K H2 t w0 x.2 ∧ OgN K H2 w0 m x.1) fun i vx hv => by
        obtain ⟨b, w0, h1, wc, l, h2, h3, h4, h5⟩ := r2 i vx hv
        exact ⟨b, (l.nm, lnSide u v w p l wc.2), h1, w0, wc, l, h2, h3, rfl, h4, h5⟩
      have l2' : ws.length = cw.length := by rw [Ro_len, Ro_len] at l2; exact l2
      have g02 := s2 _ _ g0
      walk_at "go"
      refine ⟨tn rfl, fun te nte => ?_⟩
      generalize hUte : upd _ _ (HO.tup _) = H3
      have s3 := same_hu hUte nte
      have eh3 := at_hu hUte
      have h3 := SqT.of (K := K) eh3
      clear hUte
      walk_at "go"
      refine ⟨tn rfl, fun to1 nto1 => ?_⟩
      generalize hUto1 : upd _ _ (HO.tup _) = H4
      have s4 := same_hu hUto1 nto1
      have eh4 := at_hu hUto1
      have h4 := SqT.of (K := K) eh4
      clear hUto1
      have s04 := s2.trans (s3.trans s4)
      walk_at "go"
      refine ⟨en, _, 0, .ref o1, rfl, rfl, s04.seq hE, atI_nat (j := 0) rfl, ?_⟩
      have g04 := s04 _ _ g0
      have g74 := same_tup s04 g7
      refine ⟨_, rfl, f, _, rfl, kvF_from ▸ DGet.k (k := Sum.inr "from") g04, ?_⟩
      walk_at "go"
      refine ⟨_, f, bs, o1, op, u, v, w, ls, a, p, c1, rfl, hF.up s04, hB.up s04, hO1.up s04, bu, bv, bw, h0, bp, b1, b2, fun H5 lo s5 hlo => ?_⟩
      walk_at "go"
      refine ⟨tn rfl, fun te2 nte2 => ?_⟩
      generalize hUte2 : upd _ _ (HO.tup _) = H6
      have s6 := same_hu hUte2 nte2
      have eh6 := at_hu hUte2
      have h6 := SqT.of (K := K) eh6
      clear hUte2
      walk_at "go"
      refine ⟨tn rfl, fun to2 nto2 => ?_⟩
      generalize hUto2 : upd _ _ (HO.tup _) = H7
      have s7 := same_hu hUto2 nto2
      have eh7 := at_hu hUto2
      have h7 := SqT.of (K := K) eh7
      clear hUto2
      have s07 := s04.trans (s5.trans (s6.trans s7))
      walk_at "go"
      refine ⟨en, _, 1, .ref o2, rfl, rfl, s07.seq hE, atI_nat (j := 1) rfl, ?_⟩
      have g07 := s07 _ _ g0
      have g87 := same_tup s07 g8
      refine ⟨_, rfl, f, _, rfl, kvF_to ▸ DGet.k (k := Sum.inr "to") g07, ?_⟩
      walk_at "go"
      refine ⟨_, f, bs, o2, op, u, v, w, ls, a, p, c2, rfl, hF.up s07, hB.up s07, hO2.up s07, bu, bv, bw, h0, bp, b3, b4, fun H8 hi s8 hhi => ?_⟩
      have s08 := s07.trans s8
      have g08 := s08 _ _ g0
      walk_at "st"
      walk_at "go"
      refine ⟨f, _, rfl, kvF_area ▸ DGet.k (k := Sum.inr "area") g08, ?_⟩
      walk_at "go"
      walk_at "st"
      refine ⟨pl, _, rfl, s08.seq k1, fun G hG => ?_⟩
      refine dc_it (walk_enum (K := K) (a := pl) (xs := Ro lw)) (fun i Hx => Same H8 Hx ∧ ∃ kvs : List (Key × V), Hx G = some (.dK kvs) ∧ kvs.length ≤ i ∧ ∀ (j : Nat) (l : Ln), j < i → ls[j]? = some l → valV kvs (Sum.inr l.nm) = some (.int (j : Nat))) ⟨same_upd hG, [], upd_same, Nat.le_refl _, fun j l hj => absurd hj (Nat.not_lt_zero _)⟩ (fun i Hx _ h => h.1.seq (s08.seq k1)) ?_ ?_
      · rintro i v1 H9 H10 hi9 ⟨s9, kvs, e9, l9, val9⟩ ⟨T, u1, u2, rfl, hT', rfl, gu, gv⟩
        rw [Ro_len] at hi9
        obtain rfl : V.int (i : Nat) = u1 := Option.some.inj gu
        obtain ⟨wl, rfl, gw⟩ := Ro_get gv
        have ml := k2 wl (List.mem_of_getElem? gw)
        have hl : ls[i]? = some wl.2 := by rw [← k3, List.getElem?_map, gw]; rfl
        have sT := same_upd (o := .tup [.int (i : Nat), .ref wl.1]) hT'
        generalize hU : upd H9 T (.tup [.int (i : Nat), .ref wl.1]) = H11 at sT
        have eT : H11 T = some (.tup [.int (i : Nat), .ref wl.1]) := at_hu hU
        obtain ⟨dd, vv, n1, n2, n3⟩ := ml
        have n1' := same_tup (s08.trans (s9.trans sT)) n1
        refine ⟨_, _, rfl, SqT.of eT, rfl, _, _, rfl, _, _, rfl, rfl, rfl, ?_⟩
        refine ⟨_, rfl, wl.1, _, 0, _, rfl, rfl, n1', atI_nat (j := 0) rfl, ?_⟩
        refine ⟨_, rfl, kvs, Sum.inr wl.2.nm, rfl, sT _ _ e9, small1000 (by omega), fun b o e => ?_, _, upd_same, Nat.le_trans (length_putK _ _ _) (by omega), fun j l hj hl2 => ?_⟩
        · rw [upd_ne (ne_of_none e hG)]
          exact sT _ _ (s9 _ _ e)
        · rw [valV_put]
          by_cases hji : j = i
          · subst hji
            obtain rfl : wl.2 = l := Option.some.inj (hl.symm.trans hl2)
            rw [if_pos rfl]
          · rw [if_neg (fun e => nm_ne hnd hl2 hl (by omega) (Sum.inr.inj e))]
            exact val9 j l (by omega) hl2
      · rintro H9 ⟨s9, kvs, e9, l9, val9⟩
        rw [Ro_len] at l9 val9
        have hP : PlAt H9 G kvs (plI ls) (NmIn ls) := ⟨e9, fun nm hn => by
          obtain ⟨l, hl, rfl⟩ := hn
          obtain ⟨j, hj⟩ := List.getElem?_of_mem hl
          rw [plI_at hnd hj]
          have := (List.getElem?_eq_some_iff.mp hj).1
          exact val9 j l (by omega) hj⟩
        have s09 := s08.trans s9
        walk_at "go"
        refine ⟨pa, G, a, kvs, _, _, rfl, g6.up s09, hP, hall, hdp, by omega, fun H10 tt s10 htt => ?_⟩
        have k10 := (s09.trans s10).seq k1
        walk_at "go"
        refine ⟨pl, _, rfl, .inl k10, ?_⟩
        rw [Ro_len, llw]
        walk_at "st"
        walk_at "go"
        refine ⟨tn rfl, fun ta1 nta1 => ?_⟩
        generalize hUta1 : upd _ _ (HO.tup _) = H11
        have s11 := same_hu hUta1 nta1
        have eh11 := at_hu hUta1
        have h11 := SqT.of (K := K) eh11
        clear hUta1
        walk_at "go"
        refine ⟨tn rfl, fun ta2 nta2 => ?_⟩
        generalize hUta2 : upd _ _ (HO.tup _) = H12
        have s12 := same_hu hUta2 nta2
        have eh12 := at_hu hUta2
        have h12 := SqT.of (K := K) eh12
        clear hUta2
        walk_at "go"
        refine ⟨tn rfl, fun ta3 nta3 => ?_⟩
        generalize hUta3 : upd _ _ (HO.tup _) = H13
        have s13 := same_hu hUta3 nta3
        have eh13 := at_hu hUta3
        have h13 := SqT.of (K := K) eh13
        clear hUta3
        walk_at "go"
        refine ⟨tn rfl, fun ta4 nta4 => ?_⟩
        generalize hUta4 : upd _ _ (HO.tup _) = H14
        have s14 := same_hu hUta4 nta4
        have eh14 := at_hu hUta4
        have h14 := SqT.of (K := K) eh14
        clear hUta4
        have hts : TsAt K H14 ta4 (skTest ls a) := ⟨ta2, ta3, h14, ⟨tt, ta1, same_tup (s13.trans s14) h12, htt.up (s11.trans (s12.trans (s13.trans s14))), same_tup (s12.trans (s13.trans s14)) h11⟩, same_tup s14 h13⟩
        have s014 := s09.trans (s10.trans (s11.trans (s12.trans (s13.trans s14))))
        have g14 := s014 _ _ g0
        walk_at "st"
        walk_at "go"
        refine ⟨f, _, rfl, kvF_op ▸ DGet.k (k := Sum.inr "op") g14, ?_⟩
        walk_at "go"
        refine ⟨hi, _, _, rfl, SdAt.up (s9.trans (s10.trans (s11.trans (s12.trans (s13.trans s14))))) hhi, fun H15 hi2 s15 hhi2 => ?_⟩
        walk_at "go"
        refine ⟨tn rfl, fun l2 nl2 => ?_⟩
        generalize hUl2 : upd _ _ (HO.lst _) = H16
        have s16 := same_hu hUl2 nl2
        have eh16 := at_hu hUl2
        have h16 := SqL.of (K := K) eh16
        clear hUl2
        have sD := s3.trans (s4.trans (s5.trans (s6.trans (s7.trans (s8.trans (s9.trans (s10.trans (s11.trans (s12.trans (s13.trans (s14.trans (s15.trans s16))))))))))))
        refine ⟨D, l2, Ro ws, [.ref lo, .ref hi2], rfl, rfl, sD _ _ e2, eh16, by rw [Ro_len]; show ws.length + 2 ≤ sizeLine; exact Nat.le_of_lt (small1000 (by omega)), fun t17 n17 => ?_⟩
        have s17 := same_upd (o := .lst (Ro ws ++ [.ref lo, .ref hi2])) n17
        have e17 : (upd H16 t17 (.lst (Ro ws ++ [.ref lo, .ref hi2]))) t17 = some (.lst (Ro ws ++ [.ref lo, .ref hi2])) := upd_same
        generalize upd H16 t17 (.lst (Ro ws ++ [.ref lo, .ref hi2])) = H17 at s17 e17 ⊢
        walk_at "go"
        refine ⟨tn rfl, fun t18 nt18 => ?_⟩
        generalize hUt18 : upd _ _ (HO.tup _) = H18
        have s18 := same_hu hUt18 nt18
        have eh18 := at_hu hUt18
        have h18 := SqT.of (K := K) eh18
        clear hUt18
        have sE := s17.trans s18
        have s818 := s9.trans (s10.trans (s11.trans (s12.trans (s13.trans (s14.trans (s15.trans (s16.trans sE)))))))
        have s518 := s6.trans (s7.trans (s8.trans s818))
        refine q H18 t18 (s014.trans (s15.trans (s16.trans sE))) ⟨t17, ta4, ws ++ [(lo, (("low" : Str), ndSide u v w p c1)), (hi2, (("high" : Str), { ndSide u v w p c2 with k := !(ndSide u v w p c2).k }))], h18, ?_, ?_, ?_, hts.up (s15.trans (s16.trans sE))⟩
        · rw [s18 _ _ e17]
          show _ = some (HO.lst (List.map _ (_ ++ _)))
          rw [List.map_append]
          rfl
        · intro x hx
          rcases List.mem_append.mp hx with h | h
          · obtain ⟨i, hi9⟩ := List.getElem?_of_mem h
            obtain ⟨w0, wc, l, y1, y2, y3, y4, y5⟩ := w2 i x hi9
            exact ⟨w0, SdAt.up (sD.trans sE) y4, y5.up (sD.trans sE)⟩
          · rcases List.mem_cons.mp h with h | h
            · rw [h]
              exact ⟨.ref to1, SdAt.up s518 hlo, to1, te, rfl, same_tup (s5.trans s518) h4, same_tup (s4.trans (s5.trans s518)) h3⟩
            · rw [List.mem_singleton.mp h]
              exact ⟨.ref to2, SdAt.up (s16.trans sE) hhi2, to2, te2, rfl, same_tup (s8.trans s818) h7, same_tup (s7.trans (s8.trans s818)) h6⟩
        · rw [List.map_append, zip_eq l2' lC fun i x hx => by
            obtain ⟨w0, wc, l, y1, y2, y3, _⟩ := w2 i x hx
            exact ⟨wc, l, y1, y2, y3⟩]
          rfl
/-- offsets: whole numbers of at most 5 -/
def OfOk (offs : List (Rat × Rat)) : Prop := ∀ x ∈ offs, (∃ z : Int, x.1 = (z : Rat) ∧ z.natAbs ≤ 5) ∧ ∃ z : Int, x.2 = (z : Rat) ∧ z.natAbs ≤ 5
def OfsAt (K : PySem.W.Frag) (H : Hp) (u : Addr) (offs : List (Rat × Rat)) : Prop := ∃ ws : List (Addr × (Rat × Rat)), SqL K H u (Ro ws) ∧ (∀ w ∈ ws, V1 K H w.1 w.2) ∧ ws.map (·.2) = offs
theorem OfsAt.up {K : PySem.W.Frag} {H H' : Hp} {u : Addr} {offs : List (Rat × Rat)} (s : Same H H') (h : OfsAt K H u offs) : OfsAt K H' u offs := by
  obtain ⟨ws, h1, h2, h3⟩ := h
  exact ⟨ws, s.seq h1, fun w hw => (h2 w hw).up s, h3⟩
def ofA (offs : List (Rat × Rat)) (k : Nat) : Rat := (offs.getD k (0, 0)).1
def ofB (offs : List (Rat × Rat)) (k : Nat) : Rat := (offs.getD k (0, 0)).2
/-- numbers that are whole times 12, and at most so great -/
def W12 (n : Nat) (x : Rat) : Prop := ∃ N : Int, x * 12 = (N : Rat) ∧ N.natAbs ≤ n
theorem W12.bd {n : Nat} {x : Rat} (h : W12 n x) {b : Nat} (hn : n < 2 ^ b) (hb : 4 ≤ b) : Bd b x := by
  obtain ⟨N, h1, h2⟩ := h
  have : (2 : Nat) ^ 4 ≤ 2 ^ b := Nat.pow_le_pow_right (by decide) hb
  exact bd_over (D := 12) (by decide) (by omega) h1 (by omega)
theorem W12.add {n m : Nat} {x y : Rat} (h : W12 n x) (h2 : W12 m y) : W12 (n + m) (x + y) := by
  obtain ⟨N, a1, a2⟩ := h
  obtain ⟨M, b1, b2⟩ := h2
  exact ⟨N + M, by rw [Rat.intCast_add, ← a1, ← b1]; grind, by have := Int.natAbs_add_le N M; omega⟩
theorem W12.mulI {n k : Nat} {x : Rat} {z : Int} (h : W12 n x) (hz : z.natAbs ≤ k) : W12 (n * k) (x * (z : Rat)) := by
  obtain ⟨N, a1, a2⟩ := h
  exact ⟨N * z, by rw [Rat.intCast_mul, ← a1]; grind, by rw [Int.natAbs_mul]; exact Nat.mul_le_mul a2 hz⟩
theorem W12.zero {n : Nat} : W12 n 0 := ⟨0, by rw [Rat.zero_mul]; rfl, Nat.zero_le _⟩
theorem W12.sN {f g : Nat → Rat} {n k : Nat} (hf : ∀ i, W12 n (f i)) (hg : ∀ i, ∃ z : Int, g i = (z : Rat) ∧ z.natAbs ≤ k) : ∀ m, W12 (n * k * m) (Tp.sN (fun i => f i * g i) m)
  | 0 => W12.zero
  | m + 1 => by
    obtain ⟨z, z1, z2⟩ := hg m
    have h1 := W12.sN hf hg m
    have h2 := (hf m).mulI z2
    rw [← z1] at h2
    have := h1.add h2
    rw [Nat.mul_succ]
    exact this
theorem OfOk.at1 {offs : List (Rat × Rat)} (h : OfOk offs) (k : Nat) : ∃ z : Int, ofA offs k = (z : Rat) ∧ z.natAbs ≤ 5 := by
  unfold ofA
  rw [List.getD_eq_getElem?_getD]
  cases e : offs[k]? with
  | none => exact ⟨0, rfl, by decide⟩
  | some x => exact (h x (List.mem_of_getElem? e)).1
theorem OfOk.at2 {offs : List (Rat × Rat)} (h : OfOk offs) (k : Nat) : ∃ z : Int, ofB offs k = (z : Rat) ∧ z.natAbs ≤ 5 := by
  unfold ofB
  rw [List.getD_eq_getElem?_getD]
  cases e : offs[k]? with
  | none => exact ⟨0, rfl, by decide⟩
  | some x => exact (h x (List.mem_of_getElem? e)).2
theorem w12_getD {n : Nat} {r : List Rat} (h : ∀ x ∈ r, W12 n x) (k : Nat) : W12 n (r.getD k 0) := by
  rcases getD_or (r := r) (l := k) with e | e
  · rw [e]; exact W12.zero
  · exact h _ e
theorem bd_five {x : Rat} (h : ∃ z : Int, x = (z : Rat) ∧ z.natAbs ≤ 5) : Bd 4 x := by
  obtain ⟨z, rfl, h⟩ := h
  exact ⟨by show z.natAbs < 16; omega, by show 1 < 16; decide⟩
def menu6 : List (Int × Int) := [(1, 0), (0, 1), (1, 1), (2, 0), (-1, 2), (0, -3)]
def WaysAt (K : PySem.W.Frag) (H : Hp) (u : Addr) (ways : List (Int × Int)) : Prop := ∃ ws : List (Addr × (Int × Int)), SqL K H u (Ro ws) ∧ (∀ w ∈ ws, SqT K H w.1 [.int w.2.1, .int w.2.2]) ∧ ws.map (·.2) = ways
theorem WaysAt.up {K : PySem.W.Frag} {H H' : Hp} {u : Addr} {ways : List (Int × Int)} (s : Same H H') (h : WaysAt K H u ways) : WaysAt K H' u ways := by
  obtain ⟨ws, h1, h2, h3⟩ := h
  exact ⟨ws, s.seq h1, fun w hw => same_tup s (h2 w hw), h3⟩
def w12b (n : Nat) (x : Rat) : Bool := decide ((x * 12).den = 1) && decide ((x * 12).num.natAbs ≤ n)
theorem w12b_of {n : Nat} {x : Rat} (h : w12b n x = true) : W12 n x := by
  unfold w12b at h
  rw [Bool.and_eq_true] at h
  have h1 : (x * 12).den = 1 := of_decide_eq_true h.1
  refine ⟨(x * 12).num, ?_, of_decide_eq_true h.2⟩
  have e := (Rat.num_divInt_den (x * 12)).symm
  rw [h1] at e
  exact e.trans (div_one _)
abbrev lnW (w : Int × Int) : Ln := ⟨"", w.1, w.2, none⟩
theorem menu_corn : ∀ a ∈ menu6, ∀ b ∈ menu6, ∀ ax : Bool, a.1 * b.2 - a.2 * b.1 ≠ 0 → w12b 36 (cornQ (lnW a) (lnW b) ax).1 = true ∧ w12b 36 (cornQ (lnW a) (lnW b) ax).2 = true := by decide +kernel
theorem menu_rat : ∀ a ∈ menu6, ∀ b ∈ menu6, a.1 * b.2 - a.2 * b.1 = 0 → w12b 36 (ratioQ a.1 a.2 b.1 b.2) = true ∧ b.1 * a.1 - b.2 * -a.2 ≠ 0 ∧ (b.1 * a.1 - b.2 * -a.2).natAbs < 16 := by decide +kernel
theorem menu_ok : ∀ a ∈ menu6, a.1.natAbs < 8 ∧ a.2.natAbs < 8 ∧ (a.1 ≠ 0 ∨ a.2 ≠ 0) := by decide
theorem cornQ_eq {l1 l2 l3 l4 : Ln} {ax : Bool} (h1 : l1.a = l3.a) (h2 : l1.b = l3.b) (h3 : l2.a = l4.a) (h4 : l2.b = l4.b) : cornQ l1 l2 ax = cornQ l3 l4 ax := by
  unfold cornQ
  rw [h1, h2, h3, h4]
/-- what the law says of a dimension: it fits, its row is that of the law, with the sum that the offsets give -/
def DmFit (ways : List (Int × Int)) (offs : List (Rat × Rat)) (D : Dm) (co : List Rat) : Prop := co.length = ways.length ∧ (∀ x ∈ co, W12 36 x) ∧ ∀ ls : List Ln, ls.map (fun l => (l.a, l.b)) = ways → DmOk ls D ∧ dmRow ls D = co ++ [sN (fun k => co.getD k 0 * ofA offs k) co.length, sN (fun k => co.getD k 0 * ofB offs k) co.length]
def co2 (m j k : Nat) (x y : Rat) : List Rat := (List.range m).map fun q => if q = j then x else if q = k then y else 0
theorem RowAt.set {K : PySem.W.Frag} {H : Hp} {D t : Addr} {r : List Rat} {x : Rat} {j : Nat} (h : RowAt K H D r) (hx : Fx K H t x) : ∃ ws : List (Addr × Rat), H D = some (.lst (fr ws)) ∧ ws.length = r.length ∧ RowAt K (upd H D (.lst ((fr ws).set j (.ref t)))) D (r.set j x) := by
  obtain ⟨ws, h1, h2, h3⟩ := h
  have ov : ∀ {u : Addr} {z : Rat}, Fx K H u z → Fx K (upd H D (.lst ((fr ws).set j (.ref t)))) u z := fun h => over_tup h h1 fun b o hb e => by rw [upd_ne hb]; exact e
  refine ⟨ws, h1, by rw [← h3, List.length_map], ws.set j (t, x), ?_, fun w hw => ?_, by rw [← h3, List.map_set]⟩
  · rw [upd_same]
    refine congrArg (fun z => some (HO.lst z)) ?_
    unfold fr
    rw [List.map_set]
  · rcases List.mem_or_eq_of_mem_set hw with g | g
    · exact ov (h2 w g)
    · rw [g]
      exact ov hx
theorem set_co {m j q : Nat} {x y : Rat} (h : j ≠ q) : ((((List.range m).map fun _ => (0 : Rat)).set j x).set q y) = co2 m j q x y := by
  unfold co2
  refine List.ext_getElem (by simp) fun k h1 h2 => ?_
  rw [List.getElem_set, List.getElem_set, List.getElem_map, List.getElem_map, List.getElem_range]
  by_cases e1 : q = k
  · subst e1
    rw [if_pos rfl, if_neg (fun z => h z.symm), if_pos rfl]
  · rw [if_neg e1]
    by_cases e2 : j = k
    · subst e2
      rw [if_pos rfl, if_pos rfl]
    · rw [if_neg e2, if_neg (fun z => e2 z.symm), if_neg (fun z => e1 z.symm)]
theorem co2_sym {m j q : Nat} {x y : Rat} (h : j ≠ q) : co2 m q j y x = co2 m j q x y := by
  unfold co2
  refine List.map_congr_left fun k _ => ?_
  by_cases e1 : k = j
  · subst e1
    rw [if_pos rfl, if_neg h, if_pos rfl]
  · simp only [if_neg e1]
theorem co2_len {m j q : Nat} {x y : Rat} : (co2 m j q x y).length = m := by
  unfold co2
  rw [List.length_map, List.length_range]
theorem W12.mono {n k : Nat} {x : Rat} (h : W12 n x) (hk : n ≤ k) : W12 k x := by
  obtain ⟨N, h1, h2⟩ := h
  exact ⟨N, h1, by omega⟩
theorem co2_w {m j q n : Nat} {x y : Rat} (hx : W12 n x) (hy : W12 n y) : ∀ z ∈ co2 m j q x y, W12 n z := fun z hz => by
  obtain ⟨k, _, rfl⟩ := List.mem_map.mp hz
  split
  · exact hx
  · split
    · exact hy
    · exact W12.zero
theorem ways_at {ls : List Ln} {ways : List (Int × Int)} (h : ls.map (fun l => (l.a, l.b)) = ways) {j : Nat} {w : Int × Int} (hj : ways[j]? = some w) : ∃ l, ls[j]? = some l ∧ l.a = w.1 ∧ l.b = w.2 := by
  rw [← h, List.getElem?_map] at hj
  cases e : ls[j]? with
  | none =>
    rw [e] at hj
    cases hj
  | some l =>
    rw [e] at hj
    have e2 : (l.a, l.b) = w := Option.some.inj hj
    exact ⟨l, rfl, by rw [← e2], by rw [← e2]⟩
theorem fit_at {ways : List (Int × Int)} {offs : List (Rat × Rat)} {j q : Nat} {a b : Int × Int} {ax : Bool} (hj : ways[j]? = some a) (hq : ways[q]? = some b) (hjq : j ≠ q) (h0 : a.1 * b.2 - a.2 * b.1 ≠ 0) (h1 : W12 36 (cornQ (lnW a) (lnW b) ax).1) (h2 : W12 36 (cornQ (lnW a) (lnW b) ax).2) :
    DmFit ways offs (.at j q ax (sN (fun k => (co2 ways.length j q (cornQ (lnW a) (lnW b) ax).1 (cornQ (lnW a) (lnW b) ax).2).getD k 0 * ofA offs k) (co2 ways.length j q (cornQ (lnW a) (lnW b) ax).1 (cornQ (lnW a) (lnW b) ax).2).length, sN (fun k => (co2 ways.length j q (cornQ (lnW a) (lnW b) ax).1 (cornQ (lnW a) (lnW b) ax).2).getD k 0 * ofB offs k) (co2 ways.length j q (cornQ (lnW a) (lnW b) ax).1 (cornQ (lnW a) (lnW b) ax).2).length)) (co2 ways.length j q (cornQ (lnW a) (lnW b) ax).1 (cornQ (lnW a) (lnW b) ax).2) := by
  refine ⟨co2_len, co2_w h1 h2, fun ls hls => ?_⟩
  obtain ⟨l1, e1, a1, a2⟩ := ways_at hls hj
  obtain ⟨l2, e2, b1, b2⟩ := ways_at hls hq
  refine ⟨⟨l1, l2, e1, e2, hjq, by rw [a1, a2, b1, b2]; exact h0⟩, ?_⟩
  unfold dmRow
  dsimp only
  rw [lnD_at e1, lnD_at e2, cornQ_eq (l3 := lnW a) (l4 := lnW b) a1 a2 b1 b2]
  have hll : ls.length = ways.length := by rw [← hls, List.length_map]
  unfold row2
  rw [hll]
  rfl
theorem fit_ap {ways : List (Int × Int)} {offs : List (Rat × Rat)} {j q : Nat} {a b : Int × Int} {f : Rat × Rat} {x y : Rat} (hj : ways[j]? = some a) (hq : ways[q]? = some b) (hjq : j ≠ q) (ha1 : a.1.natAbs < 8) (ha2 : a.2.natAbs < 8) (h1 : W12 36 (ratioQ a.1 a.2 b.1 b.2)) (hf : Bd 50 f.1 ∧ Bd 50 f.2) (hx : ((b.1 * a.1 - b.2 * -a.2 : Int) : Rat) * f.1 = x) (hy : ((b.1 * a.1 - b.2 * -a.2 : Int) : Rat) * f.2 = y)
    (ex : x = sN (fun k => (co2 ways.length j q (-(ratioQ a.1 a.2 b.1 b.2)) 1).getD k 0 * ofA offs k) (co2 ways.length j q (-(ratioQ a.1 a.2 b.1 b.2)) 1).length) (ey : y = sN (fun k => (co2 ways.length j q (-(ratioQ a.1 a.2 b.1 b.2)) 1).getD k 0 * ofB offs k) (co2 ways.length j q (-(ratioQ a.1 a.2 b.1 b.2)) 1).length) :
    DmFit ways offs (.ap j q (-a.2) a.1 f) (co2 ways.length j q (-(ratioQ a.1 a.2 b.1 b.2)) 1) := by
  have hn : W12 36 (-(ratioQ a.1 a.2 b.1 b.2)) := by
    obtain ⟨N, n1, n2⟩ := h1
    exact ⟨-N, by rw [Rat.intCast_neg, ← n1]; grind, by rw [Int.natAbs_neg]; exact n2⟩
  refine ⟨co2_len, co2_w hn ⟨12, by rw [Rat.one_mul]; rfl, by decide⟩, fun ls hls => ?_⟩
  obtain ⟨l1, e1, a1, a2⟩ := ways_at hls hj
  obtain ⟨l2, e2, b1, b2⟩ := ways_at hls hq
  refine ⟨⟨l1, l2, e1, e2, hjq, by rw [Int.natAbs_neg]; exact ha2, ha1, hf.1, hf.2⟩, ?_⟩
  unfold dmRow
  dsimp only
  rw [lnD_at e1, lnD_at e2, a1, a2, b1, b2, hx, hy, ← ex, ← ey]
  have hll : ls.length = ways.length := by rw [← hls, List.length_map]
  unfold row2
  rw [hll]
  rfl
theorem fx_recip {K : PySem.W.Frag} {H : Hp} {t : Addr} {z : Int} (h : 0 < z) (e : SqT K H t [.int 1, .int z]) : Fx K H t (1 / (z : Rat)) := by
  have hz : z.toNat ≠ 0 := by omega
  have hz2 : ((z.toNat : Nat) : Int) = z := by omega
  have e2 : (1 / (z : Rat)) = (Rat.mk' 1 z.toNat hz (by simp) : Rat) := by
    rw [← Rat.num_divInt_den (Rat.mk' 1 z.toNat hz (by simp))]
    show _ = Rat.divInt 1 (z.toNat : Int)
    rw [hz2, Rat.divInt_eq_div]
    rfl
  rw [e2]
  show SqT K H t [.int 1, .int ((z.toNat : Nat) : Int)]
  rw [hz2]
  exact e
theorem fx_recipN {K : PySem.W.Frag} {H : Hp} {t : Addr} {z : Int} (h : z < 0) (e : SqT K H t [.int (-1), .int (-z)]) : Fx K H t (1 / (z : Rat)) := by
  have hz : (-z).toNat ≠ 0 := by omega
  have hz2 : (((-z).toNat : Nat) : Int) = -z := by omega
  have e2 : (1 / (z : Rat)) = (Rat.mk' (-1) (-z).toNat hz (by simp) : Rat) := by
    rw [← Rat.num_divInt_den (Rat.mk' (-1) (-z).toNat hz (by simp))]
    show _ = Rat.divInt (-1) ((-z).toNat : Int)
    rw [hz2, Rat.divInt_eq_div, Rat.intCast_neg, Rat.intCast_neg]
    have : (z : Rat) ≠ 0 := fun e => by
      have := Rat.intCast_inj.mp (show (z : Rat) = ((0 : Int) : Rat) from e)
      omega
    show 1 / (z : Rat) = -1 / -(z : Rat)
    grind
  rw [e2]
  show SqT K H t [.int (-1), .int (((-z).toNat : Nat) : Int)]
  rw [hz2]
  exact e
theorem bd_recip {z : Int} (h0 : z ≠ 0) (h : z.natAbs < 16) : Bd 5 (1 / (z : Rat)) := by
  have e : (1 / (z : Rat)) = Rat.divInt 1 z := by rw [Rat.divInt_eq_div]; rfl
  rw [e]
  exact bd_of h0 (by decide) (by show z.natAbs < 32; omega)
def PrAt (K : PySem.W.Frag) (H : Hp) (t : Addr) (p : Nat × Nat) : Prop := SqT K H t [.int (p.1 : Int), .int (p.2 : Int)]
/-- the rows and what has been used, on the heap -/
structure RS (K : PySem.W.Frag) (D Pv : Addr) (H : Hp) (R : List (List Rat)) (P : List (Nat × Nat)) : Prop where
  ne : D ≠ Pv
  rows : ∃ ws : List (Addr × List Rat), H D = some (.lst (Ro ws)) ∧ (∀ w ∈ ws, w.1 ≠ D ∧ w.1 ≠ Pv ∧ RowAt K H w.1 w.2) ∧ ws.map (·.2) = R
  used : ∃ ps : List (Addr × (Nat × Nat)), H Pv = some (.lst (Ro ps)) ∧ (∀ p ∈ ps, PrAt K H p.1 p.2) ∧ ps.map (·.2) = P
theorem RS.up {K : PySem.W.Frag} {D Pv : Addr} {H H' : Hp} {R : List (List Rat)} {P : List (Nat × Nat)} (s : Same H H') (h : RS K D Pv H R P) : RS K D Pv H' R P := by
  obtain ⟨h0, ⟨ws, a1, a2, a3⟩, ps, b1, b2, b3⟩ := h
  exact ⟨h0, ⟨ws, s _ _ a1, fun w hw => ⟨(a2 w hw).1, (a2 w hw).2.1, (a2 w hw).2.2.up s⟩, a3⟩, ps, s _ _ b1, fun p hp => same_tup s (b2 p hp), b3⟩
theorem RS.set {K : PySem.W.Frag} {D Pv : Addr} {H : Hp} {R : List (List Rat)} {P : List (Nat × Nat)} (h : RS K D Pv H R P) {q : Nat} {t : Addr} {r : List Rat} (ht : RowAt K H t r) (n1 : t ≠ D) (n2 : t ≠ Pv) : ∃ ws : List (Addr × List Rat), H D = some (.lst (Ro ws)) ∧ ws.length = R.length ∧ RS K D Pv (upd H D (.lst ((Ro ws).set q (.ref t)))) (R.set q r) P := by
  obtain ⟨h0, ⟨ws, a1, a2, a3⟩, ps, b1, b2, b3⟩ := h
  have st : ∀ b o, b ≠ D → H b = some o → (upd H D (.lst ((Ro ws).set q (.ref t)))) b = some o := fun b o hb e => by rw [upd_ne hb]; exact e
  refine ⟨ws, a1, by rw [← a3, List.length_map], h0, ⟨ws.set q (t, r), ?_, fun w hw => ?_, by rw [← a3, List.map_set]⟩, ps, ?_, fun p hp => over_tup (b2 p hp) a1 st, b3⟩
  · rw [upd_same]
    refine congrArg (fun z => some (HO.lst z)) ?_
    unfold Ro
    rw [List.map_set]
  · rcases List.mem_or_eq_of_mem_set hw with g | g
    · exact ⟨(a2 w g).1, (a2 w g).2.1, (a2 w g).2.2.over (a2 w g).1 a1 st⟩
    · rw [g]
      exact ⟨n1, n2, ht.over n1 a1 st⟩
  · rw [upd_ne h0.symm]
    exact b1
theorem RS.push {K : PySem.W.Frag} {D Pv : Addr} {H : Hp} {R : List (List Rat)} {P : List (Nat × Nat)} (h : RS K D Pv H R P) {t : Addr} {p : Nat × Nat} (ht : PrAt K H t p) : ∃ ps : List (Addr × (Nat × Nat)), H Pv = some (.lst (Ro ps)) ∧ ps.length = P.length ∧ RS K D Pv (upd H Pv (.lst (Ro ps ++ [.ref t]))) R (P ++ [p]) := by
  obtain ⟨h0, ⟨ws, a1, a2, a3⟩, ps, b1, b2, b3⟩ := h
  have st : ∀ b o, b ≠ Pv → H b = some o → (upd H Pv (.lst (Ro ps ++ [.ref t]))) b = some o := fun b o hb e => by rw [upd_ne hb]; exact e
  refine ⟨ps, b1, by rw [← b3, List.length_map], h0, ⟨ws, ?_, fun w hw => ⟨(a2 w hw).1, (a2 w hw).2.1, (a2 w hw).2.2.over (a2 w hw).2.1 b1 st⟩, a3⟩, ps ++ [(t, p)], ?_, fun x hx => ?_, by rw [List.map_append, b3]; rfl⟩
  · rw [upd_ne h0]
    exact a1
  · rw [upd_same]
    unfold Ro
    rw [List.map_append]
    rfl
  · rcases List.mem_append.mp hx with g | g
    · exact over_tup (b2 x g) b1 st
    · rw [List.mem_singleton.mp g]
      exact over_tup ht b1 st
def unitV (j : Nat) : VF := fun k => if k = j then 1 else 0
theorem V1.over {K : PySem.W.Frag} {H H' : Hp} {t D : Addr} {p : Rat × Rat} {ys : List V} (h : V1 K H t p) (hl : H D = some (.lst ys)) (s : ∀ b o, b ≠ D → H b = some o → H' b = some o) : V1 K H' t p := over_vx h hl s
theorem PtAt.over {K : PySem.W.Frag} {H H' : Hp} {v : V} {D : Addr} {p : Option ((Rat × Rat) × (Rat × Rat))} {ys : List V} (h : PtAt K H v p) (hl : H D = some (.lst ys)) (s : ∀ b o, b ≠ D → H b = some o → H' b = some o) : PtAt K H' v p := by
  match p, h with
  | none, h => exact h
  | some (x, y), ⟨q, u, w, h1, h2, h3, h4⟩ => exact ⟨q, u, w, h1, over_tup h2 hl s, h3.over hl s, h4.over hl s⟩
theorem ln_stab {K : PySem.W.Frag} (E : Addr) : StabAt (LnAt K) E := fun H H' t l ys hl s ⟨d, v, h1, h2, h3⟩ => ⟨d, v, over_tup h1 hl s, over_tup h2 hl s, h3.over hl s⟩
theorem dm_stab {K : PySem.W.Frag} (E : Addr) : StabAt (DmAt K) E := fun H H' t d ys hl s h => by
  match d, h with
  | .at j k ax f, ⟨v, h1, h2⟩ => exact ⟨v, over_tup h1 hl s, h2.over hl s⟩
  | .ap j k p q f, ⟨d, v, h1, h2, h3⟩ => exact ⟨d, v, over_tup h1 hl s, over_tup h2 hl s, h3.over hl s⟩
def valF (d : Int) : Rat × Rat := (((d % 11 - 5 : Int) : Rat), ((d / 11 % 3 - 1 : Int) : Rat))
theorem valF_ok (d : Int) : (∃ z : Int, (valF d).1 = (z : Rat) ∧ z.natAbs ≤ 5) ∧ ∃ z : Int, (valF d).2 = (z : Rat) ∧ z.natAbs ≤ 5 :=
  ⟨⟨_, rfl, by omega⟩, ⟨_, rfl, by omega⟩⟩
/-- the point that the law puts on a line -/
def lin (w : Int × Int) (x : Rat) : Rat := 0 + (w.1 : Rat) * x + ((-w.2 : Int) : Rat) * x
def shf (w : Int × Int) (o x : Rat) : Rat := o + ((-1 : Int) : Rat) * lin w x
def rcp (w : Int × Int) : Rat := 1 / ((w.1 * w.1 + w.2 * w.2 : Int) : Rat)
def ptX (w : Int × Int) (o x : Rat) : Rat := x + ((-w.2 : Int) : Rat) * rcp w * shf w o x
def ptY (w : Int × Int) (o x : Rat) : Rat := x + (w.1 : Rat) * rcp w * shf w o x
def ptF (d : Int) (w : Int × Int) (o : Rat × Rat) (j : Nat) : Option ((Rat × Rat) × (Rat × Rat)) :=
  if d / (3 + (j : Int)) % 3 = 0 then some ((ptX w o.1 (valF (d / (23 + (j : Int)))).1, ptX w o.2 (valF (d / (23 + (j : Int)))).2), (ptY w o.1 (valF (d / (23 + (j : Int)))).1, ptY w o.2 (valF (d / (23 + (j : Int)))).2)) else none
def nmS (j : Nat) : Str := ⟨#[97 + j]⟩
def lnF (d : Int) (ways : List (Int × Int)) (offs : List (Rat × Rat)) (j : Nat) : Ln := ⟨nmS j, (ways.getD j (0, 0)).1, (ways.getD j (0, 0)).2, ptF d (ways.getD j (0, 0)) (offs.getD j (0, 0)) j⟩
def pRow (d : Int) (ways : List (Int × Int)) (offs : List (Rat × Rat)) (m j : Nat) : Option (List Rat) := (ptF d (ways.getD j (0, 0)) (offs.getD j (0, 0)) j).map fun _ => co2 m j j 1 0
def pRows (d : Int) (ways : List (Int × Int)) (offs : List (Rat × Rat)) (m n : Nat) : List (List Rat) := ((List.range n).map (pRow d ways offs m)).filterMap id
theorem pRows_succ (d : Int) (ways : List (Int × Int)) (offs : List (Rat × Rat)) (m n : Nat) : pRows d ways offs m (n + 1) = pRows d ways offs m n ++ (match pRow d ways offs m n with | some r => [r] | none => []) := by
  unfold pRows
  rw [List.range_succ, List.map_append, List.filterMap_append]
  cases h : pRow d ways offs m n with
  | none => simp [h]
  | some r => simp [h]
theorem lns_succ (d : Int) (ways : List (Int × Int)) (offs : List (Rat × Rat)) (n : Nat) : (List.range (n + 1)).map (lnF d ways offs) = (List.range n).map (lnF d ways offs) ++ [lnF d ways offs n] := by
  rw [List.range_succ, List.map_append]
  rfl
theorem pRows_le (d : Int) (ways : List (Int × Int)) (offs : List (Rat × Rat)) (m n : Nat) : (pRows d ways offs m n).length ≤ n := by
  unfold pRows
  have := List.length_filterMap_le id ((List.range n).map (pRow d ways offs m))
  rw [List.length_map, List.length_range] at this
  exact this
theorem ln_up {K : PySem.W.Frag} {H H' : Hp} (s : Same H H') (t : Addr) (l : Ln) (h : LnAt K H t l) : LnAt K H' t l := h.up s
theorem dm_up {K : PySem.W.Frag} {H H' : Hp} (s : Same H H') (t : Addr) (d : Dm) (h : DmAt K H t d) : DmAt K H' t d := h.up s
theorem nms (j : Nat) (h : j < 6) : atI (Str.ofString "abcdef").cps.toList (j : Int) = some (97 + j : Nat) := by
  have : ∀ j : Nat, j < 6 → atI (Str.ofString "abcdef").cps.toList (j : Int) = some (97 + j : Nat) := by decide +kernel
  exact this j h
theorem menu_N : ∀ a ∈ menu6, 0 < a.1 * a.1 + a.2 * a.2 ∧ (a.1 * a.1 + a.2 * a.2).natAbs < 16 := by decide
theorem lin_bd {w : Int × Int} (h1 : w.1.natAbs < 8) (h2 : w.2.natAbs < 8) {x : Rat} (hx : Bd 4 x) : Bd 17 (lin w x) := ((bd_zero.add ((bd_small h1 (n := 3)).mul hx)).add ((bd_small (by rw [Int.natAbs_neg]; exact h2) (n := 3)).mul hx)).up (by decide)
theorem shf_bd {w : Int × Int} (h1 : w.1.natAbs < 8) (h2 : w.2.natAbs < 8) {o x : Rat} (ho : Bd 4 o) (hx : Bd 4 x) : Bd 25 (shf w o x) := (ho.add ((bd_small (a := -1) (by decide) (n := 3)).mul (lin_bd h1 h2 hx))).up (by decide)
theorem rcp_bd {w : Int × Int} (h : w ∈ menu6) : Bd 5 (rcp w) := bd_recip (by have := (menu_N w h).1; omega) (menu_N w h).2
theorem pt_bd {w : Int × Int} (h : w ∈ menu6) {o x : Rat} (ho : Bd 4 o) (hx : Bd 4 x) : Bd 50 (ptX w o x) ∧ Bd 50 (ptY w o x) := by
  obtain ⟨h1, h2, _⟩ := menu_ok w h
  exact ⟨(hx.add (((bd_small (by rw [Int.natAbs_neg]; exact h2) (n := 3)).mul (rcp_bd h)).mul (shf_bd h1 h2 ho hx))).up (by decide), (hx.add (((bd_small h1 (n := 3)).mul (rcp_bd h)).mul (shf_bd h1 h2 ho hx))).up (by decide)⟩
theorem pt_on {w : Int × Int} (h0 : w.1 ≠ 0 ∨ w.2 ≠ 0) (o x : Rat) : (w.1 : Rat) * ptY w o x - (w.2 : Rat) * ptX w o x = o := by
  have hN : ((w.1 * w.1 + w.2 * w.2 : Int) : Rat) ≠ 0 := fun e => by
    have e2 := Rat.intCast_inj.mp (show ((w.1 * w.1 + w.2 * w.2 : Int) : Rat) = ((0 : Int) : Rat) from e)
    have a1 : 0 ≤ w.1 * w.1 := by rcases Int.le_total 0 w.1 with h | h; exact Int.mul_nonneg h h; exact Int.mul_nonneg_of_nonpos_of_nonpos h h
    have a2 : 0 ≤ w.2 * w.2 := by rcases Int.le_total 0 w.2 with h | h; exact Int.mul_nonneg h h; exact Int.mul_nonneg_of_nonpos_of_nonpos h h
    have b1 : w.1 * w.1 = 0 := by omega
    have b2 : w.2 * w.2 = 0 := by omega
    rcases h0 with h | h
    · exact h ((Int.mul_eq_zero.mp b1).elim id id)
    · exact h ((Int.mul_eq_zero.mp b2).elim id id)
  unfold ptX ptY shf lin rcp
  rw [Rat.intCast_add, Rat.intCast_mul, Rat.intCast_mul] at hN ⊢
  rw [Rat.intCast_neg, Rat.intCast_neg]
  show (w.1 : Rat) * (x + (w.1 : Rat) * (1 / ((w.1 : Rat) * (w.1 : Rat) + (w.2 : Rat) * (w.2 : Rat))) * (o + -1 * (0 + (w.1 : Rat) * x + -(w.2 : Rat) * x))) - (w.2 : Rat) * (x + -(w.2 : Rat) * (1 / ((w.1 : Rat) * (w.1 : Rat) + (w.2 : Rat) * (w.2 : Rat))) * (o + -1 * (0 + (w.1 : Rat) * x + -(w.2 : Rat) * x))) = o
  generalize (w.1 : Rat) = a at *
  generalize (w.2 : Rat) = b at *
  generalize hn : a * a + b * b = n at *
  grind
theorem RowsAt.up {K : PySem.W.Frag} {H H' : Hp} {l : Addr} {G : List (List Rat)} (s : Same H H') (h : RowsAt K H l G) : RowsAt K H' l G := by
  obtain ⟨gs, h1, h2, h3⟩ := h
  exact ⟨gs, s.seq h1, fun w hw => (h2 w hw).up s, h3⟩
theorem few_of {F : List Nat} {m i0 : Nat} (nd : F.Nodup) (hF : ∀ k ∈ F, k < m) (h0 : i0 < m) (h1 : i0 ∉ F) : F.length < m := by
  have := nodup_le (A := i0 :: F) (B := List.range m) (List.nodup_cons.mpr ⟨h1, nd⟩) fun a ha => by
    rcases List.mem_cons.mp ha with e | e
    · rw [e]; exact List.mem_range.mpr h0
    · exact List.mem_range.mpr (hF a e)
  rw [List.length_cons, List.length_range] at this
  omega
theorem all_of {F : List Nat} {m : Nat} (nd : F.Nodup) (hF : ∀ k ∈ F, k < m) (h : ∀ k < m, k ∈ F) : F.length = m := by
  refine Nat.le_antisymm ?_ ?_
  · have := nodup_le nd (B := List.range m) fun a ha => List.mem_range.mpr (hF a ha)
    rw [List.length_range] at this
    exact this
  · have := nodup_le (A := List.range m) List.nodup_range (B := F) fun a ha => h a (List.mem_range.mp ha)
    rw [List.length_range] at this
    exact this
theorem fm_names {c : Nat → Bool} {d : Nat → Str} (hd : ∀ j, d j = nmS j) : ∀ L : List Nat, (L.map fun i => if c i = true then none else some (V.str (d i))).filterMap id = (L.filter fun i => !c i).map fun j => V.str (nmS j)
  | [] => rfl
  | k :: L => by
    have ih := fm_names (c := c) (d := d) hd L
    rw [List.map_cons]
    cases h : c k with
    | true => rw [if_pos rfl, List.filter_cons_of_neg (by rw [h]; decide), ← ih]; rfl
    | false => rw [if_neg Bool.false_ne_true, List.filter_cons_of_pos (by rw [h]; rfl), List.map_cons, ← ih, hd]; rfl
/-- a row of the law with what the offsets make of it -/
def ext (offs : List (Rat × Rat)) (co : List Rat) : List Rat := co ++ [sN (fun k => co.getD k 0 * ofA offs k) co.length, sN (fun k => co.getD k 0 * ofB offs k) co.length]
theorem fm_map {α β : Type} {f : α → β} : ∀ L : List (Option α), (L.map (Option.map f)).filterMap id = (L.filterMap id).map f
  | [] => rfl
  | none :: L => by
    have := fm_map (f := f) L
    simpa using this
  | some x :: L => by
    have := fm_map (f := f) L
    simpa using this
theorem ext_unit {offs : List (Rat × Rat)} {m i : Nat} (hi : i < m) : ext offs (co2 m i i 1 0) = row2 m i i 1 0 (ofA offs i, ofB offs i) := by
  have at_ : ∀ k, k < m → (co2 m i i 1 0).getD k 0 = if k = i then (1 : Rat) else 0 := fun k hk => by
    unfold co2
    rw [List.getD_eq_getElem?_getD, List.getElem?_map, List.getElem?_range hk]
    show (if k = i then (1 : Rat) else if k = i then 0 else 0) = _
    by_cases h : k = i
    · rw [if_pos h, if_pos h]
    · rw [if_neg h, if_neg h, if_neg h]
  have sm : ∀ f : Nat → Rat, sN (fun k => (co2 m i i 1 0).getD k 0 * f k) m = f i := fun f => by
    rw [sN_one (j := i) hi fun k hk hne => by rw [at_ k hk, if_neg hne]; grind, at_ i hi, if_pos rfl]
    grind
  unfold ext
  rw [co2_len, sm, sm]
  rfl
theorem ls_at {d : Int} {ways : List (Int × Int)} {offs : List (Rat × Rat)} {m i : Nat} (hi : i < m) : lnD ((List.range m).map (lnF d ways offs)) i = lnF d ways offs i := by
  refine lnD_at ?_
  rw [List.getElem?_map, List.getElem?_range hi]
  rfl
theorem of_at {offs : List (Rat × Rat)} {i : Nat} : offs.getD i (0, 0) = (ofA offs i, ofB offs i) := rfl
theorem ls_ways {d : Int} {ways : List (Int × Int)} {offs : List (Rat × Rat)} {m : Nat} (lW : ways.length = m) : ((List.range m).map (lnF d ways offs)).map (fun l => (l.a, l.b)) = ways := by
  rw [List.map_map]
  subst lW
  refine List.ext_getElem (by simp) fun k h1 h2 => ?_
  rw [List.getElem_map, List.getElem_range]
  show ((ways.getD k (0, 0)).1, (ways.getD k (0, 0)).2) = ways[k]
  rw [List.getD_eq_getElem?_getD, List.getElem?_eq_getElem h2]
  rfl
theorem g_ext {d : Int} {ways : List (Int × Int)} {offs : List (Rat × Rat)} {m : Nat} {dcs : List (Dm × List Rat)} (lW : ways.length = m) (hM : ∀ w ∈ ways, w ∈ menu6) (hF : ∀ p ∈ dcs, DmFit ways offs p.1 p.2) :
    gRows ((List.range m).map (lnF d ways offs)) (dcs.map (·.1)) = (pRows d ways offs m m ++ dcs.map (·.2)).map (ext offs) := by
  have ll : ((List.range m).map (lnF d ways offs)).length = m := by rw [List.length_map, List.length_range]
  unfold gRows
  rw [List.map_append]
  congr 1
  · unfold pRows thrL
    rw [ll, ← fm_map, List.map_map]
    congr 1
    refine List.map_congr_left fun i hi => ?_
    have hi := List.mem_range.mp hi
    show thrO _ i = Option.map (ext offs) (pRow d ways offs m i)
    unfold thrO pRow
    rw [ls_at hi, ll]
    show Option.map _ (ptF d (ways.getD i (0, 0)) (offs.getD i (0, 0)) i) = _
    have hw : ways.getD i (0, 0) ∈ menu6 := by
      rw [List.getD_eq_getElem?_getD, List.getElem?_eq_getElem (by omega)]
      exact hM _ (List.getElem_mem _)
    obtain ⟨_, _, h0⟩ := menu_ok _ hw
    unfold ptF
    by_cases hp : d / (3 + (i : Int)) % 3 = 0
    · rw [if_pos hp]
      show some _ = some _
      refine congrArg some ?_
      rw [ext_unit hi]
      refine congrArg (row2 m i i 1 0) ?_
      unfold thrV lnF
      dsimp only
      rw [pt_on h0, pt_on h0]
      rfl
    · rw [if_neg hp]
      rfl
  · rw [List.map_map, List.map_map]
    refine List.map_congr_left fun p hp => ?_
    exact ((hF p hp).2.2 _ (ls_ways lW)).2
theorem ext_cf {offs : List (Rat × Rat)} {co : List Rat} {m : Nat} (hl : co.length = m) : (∀ k < m, cf (m + 2) (ext offs co) k = co.getD k 0) ∧ cf (m + 2) (ext offs co) m = sN (fun k => co.getD k 0 * ofA offs k) m ∧ cf (m + 2) (ext offs co) (m + 1) = sN (fun k => co.getD k 0 * ofB offs k) m ∧ cf m (ext offs co) = cf m co := by
  subst hl
  refine ⟨fun k hk => ?_, ?_, ?_, funext fun k => ?_⟩
  · unfold cf ext
    rw [if_pos (by omega), List.getD_eq_getElem?_getD, List.getElem?_append_left hk, ← List.getD_eq_getElem?_getD]
  · unfold cf ext
    rw [if_pos (by omega), List.getD_eq_getElem?_getD, List.getElem?_append_right (Nat.le_refl _), Nat.sub_self]
    rfl
  · unfold cf ext
    rw [if_pos (by omega), List.getD_eq_getElem?_getD, List.getElem?_append_right (by omega), show co.length + 1 - co.length = 1 by omega]
    rfl
  · unfold cf ext
    by_cases hk : k < co.length
    · rw [if_pos hk, if_pos hk, List.getD_eq_getElem?_getD, List.getElem?_append_left hk, ← List.getD_eq_getElem?_getD]
    · rw [if_neg hk, if_neg hk]
theorem ext_pt {offs : List (Rat × Rat)} {co : List Rat} {m : Nat} (hl : co.length = m) : sN (fun k => cf (m + 2) (ext offs co) k * ofA offs k) m = cf (m + 2) (ext offs co) m ∧ sN (fun k => cf (m + 2) (ext offs co) k * ofB offs k) m = cf (m + 2) (ext offs co) (m + 1) := by
  obtain ⟨h1, h2, h3, _⟩ := ext_cf (offs := offs) hl
  rw [h2, h3]
  exact ⟨sN_cong fun k hk => by rw [h1 k hk], sN_cong fun k hk => by rw [h1 k hk]⟩
theorem ext_cs {offs : List (Rat × Rat)} {R : List (List Rat)} {m : Nat} (hl : ∀ r ∈ R, r.length = m) : Cs m (m + 2) (R.map (ext offs)) := by
  refine cs_point (pt := fun c k => if c = m then ofA offs k else ofB offs k) fun r hr c c1 c2 => ?_
  obtain ⟨co, hco, rfl⟩ := List.mem_map.mp hr
  obtain ⟨p1, p2⟩ := ext_pt (offs := offs) (hl co hco)
  by_cases h : c = m
  · subst h
    refine (sN_cong fun k _ => ?_).trans p1
    show _ * (if c = c then ofA offs k else ofB offs k) = _
    rw [if_pos rfl]
  · have : c = m + 1 := by omega
    subst this
    refine (sN_cong fun k _ => ?_).trans p2
    show _ * (if m + 1 = m then ofA offs k else ofB offs k) = _
    rw [if_neg h]
theorem ext_inL {offs : List (Rat × Rat)} {R : List (List Rat)} {m : Nat} (hl : ∀ r ∈ R, r.length = m) (v : VF) : Spn (inL m (R.map (ext offs))) v ↔ Spn (inL m R) v := by
  constructor
  · refine fun hv => hv.mono fun g hg => ?_
    obtain ⟨r, hr, rfl⟩ := hg
    obtain ⟨co, hco, rfl⟩ := List.mem_map.mp hr
    exact Spn.gen ⟨co, hco, (ext_cf (hl co hco)).2.2.2.symm⟩
  · refine fun hv => hv.mono fun g hg => ?_
    obtain ⟨r, hr, rfl⟩ := hg
    exact Spn.gen ⟨_, List.mem_map_of_mem hr, (ext_cf (hl r hr)).2.2.2⟩
theorem ext_gt {offs : List (Rat × Rat)} {co : List Rat} {m : Nat} (hl : co.length = m) (h6 : m ≤ 6) (hO : OfOk offs) (hW : ∀ x ∈ co, W12 36 x) : Gt m (ext offs co) := by
  have lim : 36 * 5 * co.length ≤ 36 * 5 * 6 := Nat.mul_le_mul_left _ (by omega)
  refine ⟨fun x hx => ?_, fun k hk => ?_⟩
  · rcases List.mem_append.mp hx with h | h
    · obtain ⟨N, n1, n2⟩ := hW x h
      exact ⟨N, n1, by show _ < 2048; omega⟩
    · rcases List.mem_cons.mp h with h | h
      · obtain ⟨N, n1, n2⟩ := W12.sN (w12_getD hW) hO.at1 co.length
        exact ⟨N, by rw [h]; exact n1, by show _ < 2048; omega⟩
      · obtain ⟨N, n1, n2⟩ := W12.sN (w12_getD hW) hO.at2 co.length
        exact ⟨N, by rw [List.mem_singleton.mp h]; exact n1, by show _ < 2048; omega⟩
  · have e : (ext offs co).getD k 0 = co.getD k 0 := by
      unfold ext
      rw [List.getD_eq_getElem?_getD, List.getElem?_append_left (by omega), ← List.getD_eq_getElem?_getD]
    rw [e]
    obtain ⟨N, n1, n2⟩ := w12_getD hW k
    exact ⟨N, n1, by omega⟩
theorem w12_cb {co : List Rat} (hW : ∀ x ∈ co, W12 36 x) : CB 11 co := ⟨12, by decide, by decide, fun x hx => by
  obtain ⟨N, n1, n2⟩ := hW x hx
  exact ⟨N, n1, by show _ < 2048; omega⟩⟩
theorem pRows_ok {d : Int} {ways : List (Int × Int)} {offs : List (Rat × Rat)} {m n : Nat} : ∀ r ∈ pRows d ways offs m n, r.length = m ∧ ∀ x ∈ r, W12 36 x := fun r hr => by
  unfold pRows at hr
  obtain ⟨o, ho, e⟩ := List.mem_filterMap.mp hr
  obtain ⟨i, _, rfl⟩ := List.mem_map.mp ho
  have e : pRow d ways offs m i = some r := e
  unfold pRow at e
  cases hp : ptF d (ways.getD i (0, 0)) (offs.getD i (0, 0)) i with
  | none =>
    rw [hp] at e
    cases e
  | some p =>
    rw [hp] at e
    obtain rfl : co2 m i i 1 0 = r := Option.some.inj e
    exact ⟨co2_len, co2_w ⟨12, by rw [Rat.one_mul]; rfl, by decide⟩ W12.zero⟩
/-- a line is determined if and only if its unit row is in the span -/
theorem dt_spn {m W : Nat} {G : List (List Rat)} {kept : List (Nat × List Rat)} (h : SG m (m + 2) W G kept) {i : Nat} (hi : i < m) : dtB m kept i = true ↔ Spn (inL m G) (unitV i) := by
  rw [h.same, h.ki.unit hi (u := unitV i) (fun k => rfl), dtB_iff]
def pdn (L : List Nat) : PyData := .list (L.map fun j => .str (nmS j))
theorem dp_n {K : PySem.W.Frag} {H : Hp} {a : Addr} {L : List Nat} (h : SqL K H a (L.map fun j => V.str (nmS j))) : Dp K H (.ref a) (pdn L) := by
  refine .lst h ?_
  clear h
  induction L with
  | nil => exact .nil
  | cons x L ih => exact .cons (.str _) ih
theorem sh_n {L : List Nat} (h : ∀ j ∈ L, j < 6) : SeqAt.shaped (pdn L) = true := by
  have lay : ∀ j < 6, (PyData.str (nmS j)).canLay0 = true ∧ (PyData.str (nmS j)).depth ≤ 1 := by decide +kernel
  have h1 : PyData.canLayAll0 (L.map fun j => PyData.str (nmS j)) = true ∧ PyData.depthAll (L.map fun j => PyData.str (nmS j)) ≤ 1 := by
    induction L with
    | nil => decide
    | cons r rs ih =>
      obtain ⟨i1, i2⟩ := ih fun j hj => h j (List.mem_cons_of_mem _ hj)
      obtain ⟨l1, l2⟩ := lay r (h r List.mem_cons_self)
      rw [List.map_cons, PyData.canLayAll0, PyData.depthAll, i1, l1]
      exact ⟨rfl, Nat.max_le.mpr ⟨l2, i2⟩⟩
  unfold SeqAt.shaped pdn
  rw [PyData.canLay0, PyData.depth, h1.1, decide_eq_true (by omega)]
  rfl
theorem eqv_sh {d : PyData} (h : SeqAt.shaped d = true) : PyData.eqv d d = true := by
  unfold SeqAt.shaped at h
  exact SeqAt.eqv_refl _ (by
    rw [Bool.and_eq_true] at h
    exact h.1)
def pdvs (L : List (Rat × Rat)) : PyData := .list (L.map fun p => pdv p.1 [p.2])
theorem dp_vs {K : PySem.W.Frag} {H : Hp} {a : Addr} {ws : List (Addr × (Rat × Rat))} (h : SqL K H a (Ro ws)) (hv : ∀ w ∈ ws, V1 K H w.1 w.2) : Dp K H (.ref a) (pdvs (ws.map (·.2))) := by
  refine .lst h ?_
  clear h
  induction ws with
  | nil => exact .nil
  | cons x L ih => exact .cons (dpv (hv x List.mem_cons_self)) (ih fun w hw => hv w (List.mem_cons_of_mem _ hw))
theorem sh_vs (L : List (Rat × Rat)) : SeqAt.shaped (pdvs L) = true := by
  have h1 : PyData.canLayAll0 (L.map fun p => pdv p.1 [p.2]) = true ∧ PyData.depthAll (L.map fun p => pdv p.1 [p.2]) ≤ 3 := by
    induction L with
    | nil => decide
    | cons r rs ih =>
      rw [List.map_cons, PyData.canLayAll0, PyData.depthAll, ih.1]
      refine ⟨rfl, Nat.max_le.mpr ⟨?_, ih.2⟩⟩
      have h2 := (shr [r.2]).2
      unfold pdv
      simp only [PyData.depth, PyData.depthAll, pdr, pd2]
      simp
      exact h2
  unfold SeqAt.shaped pdvs
  rw [PyData.canLay0, PyData.depth, h1.1, decide_eq_true (by omega)]
  rfl
def thrP (l : Ln) : Rat × Rat := match l.pt with
  | some (x, y) => thrV l x y
  | none => (0, 0)
/-- a line through a point, small -/
def LnS (l : Ln) : Prop := LnOk l ∧ Bz 2 l.a ∧ Bz 2 l.b ∧ ∃ x y, l.pt = some (x, y) ∧ (Bd 50 x.1 ∧ Bd 50 x.2 ∧ Bd 50 y.1 ∧ Bd 50 y.2) ∧ Bd 8 (thrP l).1 ∧ Bd 8 (thrP l).2 ∧ W12 1000 (thrP l).1 ∧ W12 1000 (thrP l).2
theorem gRows_all {ls : List Ln} (h : ∀ l ∈ ls, LnS l) : gRows ls [] = ((List.range ls.length).map fun i => co2 ls.length i i 1 0).map (ext (ls.map thrP)) := by
  unfold gRows thrL
  rw [List.map_nil, List.append_nil, List.map_map]
  have e : (List.range ls.length).map (thrO ls) = ((List.range ls.length).map fun i => row2 ls.length i i 1 0 (ofA (ls.map thrP) i, ofB (ls.map thrP) i)).map some := by
    rw [List.map_map]
    refine List.map_congr_left fun i hi => ?_
    have hi := List.mem_range.mp hi
    obtain ⟨_, _, _, x, y, hp, _⟩ := h ls[i] (List.getElem_mem hi)
    unfold thrO
    have el : lnD ls i = ls[i] := lnD_at (List.getElem?_eq_getElem hi)
    rw [el, hp]
    have eo : (ls.map thrP).getD i (0, 0) = thrV ls[i] x y := by
      rw [List.getD_eq_getElem?_getD, List.getElem?_map, List.getElem?_eq_getElem hi]
      show thrP ls[i] = _
      unfold thrP
      rw [hp]
    rw [of_at] at eo
    show some (row2 ls.length i i 1 0 (thrV ls[i] x y)) = some (row2 ls.length i i 1 0 (ofA (ls.map thrP) i, ofB (ls.map thrP) i))
    rw [eo]
  rw [e]
  have e2 : ∀ L : List (List Rat), (L.map some).filterMap id = L := fun L => by
    rw [List.filterMap_map]
    exact List.filterMap_some
  rw [e2]
  refine List.map_congr_left fun i hi => ?_
  exact (ext_unit (List.mem_range.mp hi)).symm
theorem gt_all {ls : List Ln} (h : ∀ l ∈ ls, LnS l) (h6 : ls.length ≤ 6) : ∀ g ∈ gRows ls [], Gt ls.length g := by
  rw [gRows_all h, List.map_map]
  intro g hg
  obtain ⟨i, hi, rfl⟩ := List.mem_map.mp hg
  have hi := List.mem_range.mp hi
  show Gt _ (ext _ (co2 _ i i 1 0))
  rw [ext_unit hi]
  have hl : (thrP ls[i]) = (ofA (ls.map thrP) i, ofB (ls.map thrP) i) := by
    rw [← of_at, List.getD_eq_getElem?_getD, List.getElem?_map, List.getElem?_eq_getElem hi]
    rfl
  obtain ⟨_, _, _, _, _, _, _, _, _, ⟨n1, e1, b1⟩, ⟨n2, e2, b2⟩⟩ := h ls[i] (List.getElem_mem hi)
  rw [hl] at e1 e2
  have one12 : ∀ k : Nat, ∃ N : Int, (if k = i then (1 : Rat) else if k = i then 0 else 0) * 12 = (N : Rat) ∧ N.natAbs ≤ 12 := fun k => by
    split
    · exact ⟨12, by decide +kernel, by decide⟩
    · exact ⟨0, by simp, by decide⟩
  constructor
  · intro x hx
    unfold row2 at hx
    rcases List.mem_append.mp hx with hx | hx
    · obtain ⟨k, _, rfl⟩ := List.mem_map.mp hx
      obtain ⟨N, m1, m2⟩ := one12 k
      exact ⟨N, m1, by omega⟩
    · rcases List.mem_cons.mp hx with hx | hx
      · rw [hx]
        exact ⟨n1, e1, by omega⟩
      · rw [List.mem_singleton.mp hx]
        exact ⟨n2, e2, by omega⟩
  · intro k hk
    unfold row2
    rw [List.getD_eq_getElem?_getD, List.getElem?_append_left (by rw [List.length_map, List.length_range]; exact hk), List.getElem?_map, List.getElem?_range hk]
    obtain ⟨N, m1, m2⟩ := one12 k
    exact ⟨N, m1, by omega⟩
def spSketchTool (K : PySem.W.Frag) : Sp := fun vs H Q _ => ∃ (m : Int) (f bs en o1 o2 : Addr) (op : Str) (u v w : I3) (ls : List Ln) (a : Ar) (p : R3) (c1 c2 : Rat × Rat), vs = [.int m, .ref f, .ref bs, .ref en] ∧ FtAt K H f op u v w ls a ∧ T3At K H bs p ∧ SqL K H en [.ref o1, .ref o2] ∧ V1 K H o1 c1 ∧ V1 K H o2 c2 ∧
  B3 2 u ∧ B3 2 v ∧ B3 2 w ∧ (∀ l ∈ ls, LnS l) ∧ vo u v w ≠ 0 ∧ B32 3 p ∧ Bd 8 c1.1 ∧ Bd 8 c1.2 ∧ Bd 8 c2.1 ∧ Bd 8 c2.2 ∧ ls.length ≤ 6 ∧ ls.Pairwise (fun x y => x.nm ≠ y.nm) ∧ a.all (NmIn ls) ∧ a.deep ≤ 8 ∧
  ∀ (H' : Hp) (t tl : Addr), Same H H' → SqT K H' t [.str "made", .ref tl] → TlAt K H' tl op m (skSides u v w p ls (ls.map thrP) c1 c2) (skTest ls a) → Q (.ref t) H'
theorem okSketchTool {fSketchTool : Addr} {fdSketchTool : FuncData} (F : Fun K "sketch_tool" "sketch_tool" sSketchTool fSketchTool fdSketchTool) (T : Txt mg) {aZERO : Addr} {aONE : Addr} (CT : Cons K mg aZERO aONE) {CPartError CNought : Addr} (EX : Exns K mg CPartError CNought)
    {fSolveSketch : Addr} {fdSolveSketch : FuncData} (GSolveSketch : FnOk P w K mg base CX0 6 fSolveSketch fdSolveSketch ["lines", "dimensions"] (spSolveSketch K)) (gSolveSketch : mg "solve_sketch" = some (.ref fSolveSketch)) (kpSolveSketch : PySem.W.keepIn K (.ref fSolveSketch) = true) (bSolveSketch : Binds K fdSolveSketch ["lines", "dimensions"] [])
    {fToolBetween : Addr} {fdToolBetween : FuncData} (GToolBetween : FnOk P w K mg base CX0 11 fToolBetween fdToolBetween ["number", "feature", "offsets", "base", "ends"] (spToolBetween K)) (gToolBetween : mg "tool_between" = some (.ref fToolBetween)) (kpToolBetween : PySem.W.keepIn K (.ref fToolBetween) = true) (bToolBetween : Binds K fdToolBetween ["number", "feature", "offsets", "base", "ends"] []) :
    FnOk P w K mg base CX0 12 fSketchTool fdSketchTool ["number", "feature", "base", "ends"] (spSketchTool K) := by
  refine F.ok scSketchTool (fun vs H Q E h => ?_) (fun cdv A outer s H vs Q E hr h => ?_)
  · obtain ⟨m, f, bs, en, o1, o2, op, u, v, w, ls, a, p, c1, c2, rfl, hF, hB, hE, hO1, hO2, bu, bv, bw, hls, h0, bp, b1, b2, b3, b4, l6, hnd, hall, hdp, q⟩ := h
    rfl
  · obtain ⟨m, f, bs, en, o1, o2, op, u, v, w, ls, a, p, c1, c2, rfl, hF, hB, hE, hO1, hO2, bu, bv, bw, hls, h0, bp, b1, b2, b3, b4, l6, hnd, hall, hdp, q⟩ := h
    refine ⟨_, (pss_cons (ps_asg (pe_call GSolveSketch (hr.mono (by decide)) (by rfl) gSolveSketch kpSolveSketch bSolveSketch .nil pass0 (pa_cons (pe_dget (hu_of hr) (pv 1) pe_str (fun _ _ => rfl)) (pa_cons (pe_dget (hu_of hr) (pv 1) pe_str (fun _ _ => rfl)) pa_nil))) (pg_tup rfl (pgs_cons (pg_name (i := 4) scSketchTool.nd rfl (Or.inl rfl)) (pgs_cons (pg_name (i := 5) scSketchTool.nd rfl (Or.inl rfl)) pgs_nil))))
      (pss_cons (ps_if (pt_cmpR op_ne (pv 4) pe_str (nomark _))
        (pss_one (ps_ret (pe_tup (pa_cons (pv 4) (pa_cons (pv 5) pa_nil)))))
        pss_nil)
      (pss_one (ps_ret (pe_tup (pa_cons pe_str (pa_cons (pe_call GToolBetween hr (by rfl) gToolBetween kpToolBetween bToolBetween .nil pass0 (pa_cons (pv 0) (pa_cons (pv 1) (pa_cons (pv 5) (pa_cons (pv 2) (pa_cons (pv 3) pa_nil)))))) pa_nil))))))), ?_⟩
    obtain ⟨pu, pv, pw, pl, d, pa, fr, to, sp, x1, x2, g0, g1, g2, g3, g4, g5, g6, g7, g8⟩ := id hF
    refine ⟨_, rfl, f, _, rfl, kvF_lines ▸ DGet.k (k := Sum.inr "lines") g0, ?_⟩
    refine ⟨_, rfl, f, _, rfl, kvF_dimensions ▸ DGet.k (k := Sum.inr "dimensions") g0, ?_⟩
    have hRl : ∀ r ∈ (List.range ls.length).map fun i => co2 ls.length i i 1 0, r.length = ls.length := fun r hr => by
      obtain ⟨i, _, rfl⟩ := List.mem_map.mp hr
      unfold co2
      rw [List.length_map, List.length_range]
    have hCs : Cs ls.length (ls.length + 2) (gRows ls []) := by
      rw [gRows_all hls]
      exact ext_cs hRl
    have hgA : ∀ r ∈ gRows ls [], sN (fun k => cf (ls.length + 2) r k * ofA (ls.map thrP) k) ls.length = cf (ls.length + 2) r ls.length ∧ sN (fun k => cf (ls.length + 2) r k * ofB (ls.map thrP) k) ls.length = cf (ls.length + 2) r (ls.length + 1) := fun r hr => by
      rw [gRows_all hls] at hr
      obtain ⟨co, hco, rfl⟩ := List.mem_map.mp hr
      exact ext_pt (hRl co hco)
    refine ⟨pl, d, ls, [], ls.length, rfl, g4, ⟨[], g5, fun w hw => (nomatch hw), rfl⟩, fun l hl => ⟨(hls l hl).1, ?_⟩, fun d hd => (nomatch hd), rfl, l6, by show 0 ≤ 8; decide, gt_all hls l6, fun H1 t u' i μ s1 hC _ _ => ?_, fun H1 t u' kept s1 hSG hfr _ _ => ?_, fun H1 t u' kept ws s1 hSG hdt h1 h2 h3 h4 h5 => ?_⟩
    · intro x y hxy
      obtain ⟨_, _, _, x', y', hp, hb, _⟩ := hls l hl
      rw [hp] at hxy
      cases hxy
      exact hb
    · exact absurd hCs (hC.not fun k hk => by
        have := (told_mem.mp hk).1
        rw [List.getD_eq_getElem?_getD, List.getElem?_eq_getElem this]
        exact List.getElem_mem this)
    · obtain ⟨i, hi, hz⟩ := hfr
      have : dtB ls.length kept i = true := (dt_spn hSG hi).mpr (by
        rw [gRows_all hls]
        refine (ext_inL hRl _).mpr (Spn.gen ⟨_, List.mem_map_of_mem (List.mem_range.mpr hi), ?_⟩)
        funext k
        unfold cf unitV co2
        by_cases hk : k < ls.length
        · rw [if_pos hk, List.getD_eq_getElem?_getD, List.getElem?_map, List.getElem?_range hk]
          show (if k = i then (1 : Rat) else if k = i then 0 else 0) = _
          split <;> rfl
        · rw [if_neg hk, if_neg (by omega)])
      rw [this] at hz
      cases hz
    · have ev : ws.map (·.2) = ls.map thrP := by
        refine List.ext_getElem (by rw [List.length_map, List.length_map, h4]) fun k y1 y2 => ?_
        rw [List.length_map] at y1 y2
        obtain ⟨pp, p1, p2, p3, p4⟩ := h5 k ws[k] (List.getElem?_eq_getElem y1)
        have wA := hSG.worth (c := ls.length) (Nat.le_refl _) (by omega) (pt := ofA (ls.map thrP)) (fun r hr => (hgA r hr).1) p1 (fun k hk hne => p3 k hk (by rw [← p2]; exact hne))
        have wB := hSG.worth (c := ls.length + 1) (by omega) (by omega) (pt := ofB (ls.map thrP)) (fun r hr => (hgA r hr).2) p1 (fun k hk hne => p3 k hk (by rw [← p2]; exact hne))
        rw [List.getElem_map, p4, wA, wB, p2]
        show (ofA (ls.map thrP) k, ofB (ls.map thrP) k) = (ls.map thrP)[k]
        rw [← of_at, List.getD_eq_getElem?_getD, List.getElem?_eq_getElem (by rw [List.length_map]; exact y2)]
        rfl
      have hw8 : ∀ w ∈ ws, Bd 8 w.2.1 ∧ Bd 8 w.2.2 := fun w hw => by
        have : w.2 ∈ ls.map thrP := by
          rw [← ev]
          exact List.mem_map_of_mem hw
        obtain ⟨l, hl, e⟩ := List.mem_map.mp this
        obtain ⟨_, _, _, _, _, _, _, z1, z2, _⟩ := hls l hl
        rw [← e]
        exact ⟨z1, z2⟩
      walk_at "go"
      refine ⟨m, f, u', bs, en, o1, o2, op, u, v, w, ls, a, p, ws, c1, c2, rfl, hF.up s1, h2, h3, h4, hB.up s1, s1.seq hE, hO1.up s1, hO2.up s1, bu, bv, bw, fun l hl => ⟨(hls l hl).2.1, (hls l hl).2.2.1, (hls l hl).1.2.2⟩, h0, bp, hw8, b1, b2, b3, b4, by omega, hnd, hall, hdp, fun H2 tl s2 htl => ?_⟩
      rw [ev] at htl
      walk_at "go"
      refine ⟨tn rfl, fun t3 nt3 => ?_⟩
      generalize hUt3 : upd _ _ (HO.tup _) = H3
      have s3 := same_hu hUt3 nt3
      have ey3 := at_hu hUt3
      have y3 := SqT.of (K := K) ey3
      clear hUt3
      exact q H3 t3 tl (s1.trans (s2.trans s3)) y3 (htl.up s3)
def spLLawNumber (K : PySem.W.Frag) : Sp := fun vs H Q _ => ∃ (a : Addr) (ns : List Int) (k : Nat), vs = [.ref a, .int k] ∧ SqL K H a (zs ns) ∧ ∀ c : Int, Q (.int c) H
theorem okLLawNumber {fLLawNumber : Addr} {fdLLawNumber : FuncData} (F : Fun K "_law_number" "_law_number" sLLawNumber fLLawNumber fdLLawNumber) (T : Txt mg) {aZERO : Addr} {aONE : Addr} (CT : Cons K mg aZERO aONE) {CPartError CNought : Addr} (EX : Exns K mg CPartError CNought) :
    FnOk P w K mg base CX0 1 fLLawNumber fdLLawNumber ["script", "k"] (spLLawNumber K) := by
  refine F.ok scLLawNumber (fun vs H Q E h => ?_) (fun cdv A outer s H vs Q E hr h => ?_)
  · obtain ⟨a, ns, k, rfl, hS, q⟩ := h
    rfl
  · obtain ⟨a, ns, k, rfl, hS, q⟩ := h
    refine ⟨_, (C8.pss_cut (ps_set (i := 2) scLLawNumber.nd rfl (Or.inl rfl) (pe_ifExp (pt_cmpR op_lt (pv 1) (pe_callB call_len_seq (by rfl) T.len PySem.boot_len (pa_cons (pv 0) pa_nil)) (nomark _)) (pe_ix ix_list (pv 0) (pv 1) (fun _ _ => rfl)) (pe_op op_add (pe_op op_mul pe_int (pv 1)) pe_int)))
      (C8.pss_cut (ps_if (pt_cmpR op_lt (pv 2) pe_int (nomark _))
        (pss_one (ps_set (i := 2) scLLawNumber.nd rfl (Or.inl rfl) (pe_op op_sub (pe_op op_mul (pe_un un_neg pe_int) (pv 2)) pe_int)))
        pss_nil)
      (pss_cons (ps_if (pt_cmpR op_lt (pv 2) (pe_op op_pow pe_int pe_int) (nomark _))
        (pss_cons (ps_set (i := 3) scLLawNumber.nd rfl (Or.inl rfl) (pe_op op_mod (pe_callTy call_int1 (by rfl) T.int (by decide +kernel) (pa_cons (pe_op op_add (pe_op op_add (pe_op op_mul (pv 2) pe_int) (pe_op op_mul (pv 1) pe_int)) pe_int) pa_nil)) pe_int))
        (pss_cons (ps_set (i := 4) scLLawNumber.nd rfl (Or.inl rfl) (pe_op op_mod (pe_callTy call_int1 (by rfl) T.int (by decide +kernel) (pa_cons (pe_op op_add (pe_op op_add (pe_op op_mul (pv 3) pe_int) (pe_op op_mul (pv 2) pe_int)) (pv 1)) pa_nil)) pe_int))
        (pss_one (ps_ret (pe_op op_add (pe_op op_mul (pv 3) pe_int) (pv 4))))))
        pss_nil)
      (pss_one (ps_ret (pv 2)))))), ?_⟩
    refine ⟨fun σ' H' => ∃ c : Int, σ' = [some (.ref a), some (.int k), some (.int c), none, none] ∧ H' = H, ?_, ?_⟩
    · refine ⟨_, rfl, .ref a, rfl, a, _, rfl, .inl hS, _, _, rfl, rfl, _, rfl, ite2 (fun hlt => ?_) (fun _ => ?_)⟩
      · have h1 := of_decide_eq_true hlt
        rw [show zs ns = ns.map V.int from rfl, List.length_map] at h1
        have h2 : k < ns.length := by omega
        have h3 : (zs ns)[k]? = some (.int ns[k]) := by
          rw [show zs ns = ns.map V.int from rfl, List.getElem?_map, List.getElem?_eq_getElem h2]
          rfl
        exact ⟨.ref a, rfl, _, rfl, a, _, _, _, rfl, rfl, hS, atI_nat h3, _, rfl, rfl⟩
      · walk_at "rd"
        exact rfl
    · rintro σ' H' ⟨c, rfl, rfl⟩
      refine ⟨fun σ' H2 => ∃ c : Int, σ' = [some (.ref a), some (.int k), some (.int c), none, none] ∧ H2 = H', ?_, ?_⟩
      · walk_at "rd"
        refine ite2 (fun _ => ?_) (fun _ => ⟨_, rfl, rfl⟩)
        walk_at "rd"
        exact rfl
      · rintro σ' H2 ⟨c, rfl, rfl⟩
        walk_at "rd"
        refine ite2 (fun _ => ?_) (fun _ => ⟨_, rfl, q _⟩)
        walk_at "rd"
        exact q _
def spLLawFraction (K : PySem.W.Frag) : Sp := fun vs H Q _ => ∃ n d : Int, vs = [.int n, .int d] ∧ n.natAbs < 2 ^ 1800 ∧ d.natAbs < 2 ^ 1800 ∧ d ≠ 0 ∧ ∀ (H' : Hp) (t : Addr), Same H H' → H' t = some (.tup (zs (rd2 n d))) → Q (.ref t) H'
theorem okLLawFraction {fLLawFraction : Addr} {fdLLawFraction : FuncData} (F : Fun K "_law_fraction" "_law_fraction" sLLawFraction fLLawFraction fdLLawFraction) (T : Txt mg) {aZERO : Addr} {aONE : Addr} (CT : Cons K mg aZERO aONE) {CPartError CNought : Addr} (EX : Exns K mg CPartError CNought) :
    FnOk P w K mg base CX0 1 fLLawFraction fdLLawFraction ["number", "divisor"] (spLLawFraction K) := by
  refine F.ok scLLawFraction (fun vs H Q E h => ?_) (fun cdv A outer s H vs Q E hr h => ?_)
  · obtain ⟨n, d, rfl, bn, bd, hd, k⟩ := h
    rfl
  · obtain ⟨n, d, rfl, bn, bd, hd, k⟩ := h
    refine ⟨_, (C8.pss_cut (ps_set (i := 2) scLLawFraction.nd rfl (Or.inl rfl) (pe_ifExp (pt_cmpR op_ge (pv 0) pe_int (nomark _)) (pv 0) (pe_un un_neg (pv 0))))
      (C8.pss_cut (ps_set (i := 3) scLLawFraction.nd rfl (Or.inl rfl) (pe_ifExp (pt_cmpR op_ge (pv 1) pe_int (nomark _)) (pv 1) (pe_un un_neg (pv 1))))
      (C8.pss_cut (ps_for PassesOwn.never rfl (pi_range1 rfl T.range (pa_cons (pe_op op_add (pe_op op_add (pe_op op_mul pe_int (pe_callB call_len_str (by rfl) T.len PySem.boot_len (pa_cons (pe_callTy call_str_int (by rfl) T.str (by decide +kernel) (pa_cons (pv 2) pa_nil)) pa_nil))) (pe_op op_mul pe_int (pe_callB call_len_str (by rfl) T.len PySem.boot_len (pa_cons (pe_callTy call_str_int (by rfl) T.str (by decide +kernel) (pa_cons (pv 3) pa_nil)) pa_nil)))) pe_int) pa_nil)) (pg_name (i := 4) scLLawFraction.nd rfl (Or.inl rfl))
        (pss_cons (ps_if (pt_cmpR op_eq (pv 3) pe_int (nomark _))
          (pss_one ps_break)
          pss_nil)
        (pss_cons (ps_set (i := 5) scLLawFraction.nd rfl (Or.inl rfl) (pe_op op_modN (pe_callTy call_int1 (by rfl) T.int (by decide +kernel) (pa_cons (pv 2) pa_nil)) (pv 3)))
        (pss_cons (ps_set (i := 2) scLLawFraction.nd rfl (Or.inl rfl) (pv 3))
        (pss_one (ps_set (i := 3) scLLawFraction.nd rfl (Or.inl rfl) (pv 5)))))))
      (C8.pss_cut (ps_if (pt_cmpR op_lt (pv 1) pe_int (nomark _))
        (pss_one (ps_set (i := 2) scLLawFraction.nd rfl (Or.inl rfl) (pe_un un_neg (pv 2))))
        pss_nil)
      (pss_one (ps_ret (pe_tup (pa_cons (pe_op op_fdivX (pv 0) (pv 2)) (pa_cons (pe_op op_fdivX (pv 1) (pv 2)) pa_nil))))))))), ?_⟩
    refine ⟨fun σ' H' => σ' = [some (.int n), some (.int d), some (.int ((n.natAbs : Nat) : Int)), none, none, none] ∧ H' = H, ?_, ?_⟩
    · walk_at "rd"
      refine ite2 (fun g => ?_) (fun g => ?_)
      · have g0 : 0 ≤ n := of_decide_eq_true g
        have e0 : ((n.natAbs : Nat) : Int) = n := by omega
        rw [e0]
        exact ⟨_, rfl, rfl, rfl⟩
      · have g0 : ¬ 0 ≤ n := fun z => g (decide_eq_true z)
        have e0 : ((n.natAbs : Nat) : Int) = -n := by omega
        rw [e0]
        exact ⟨_, rfl, _, rfl, rfl, rfl⟩
    rintro σ' H1 ⟨rfl, rfl⟩
    refine ⟨fun σ' H' => σ' = [some (.int n), some (.int d), some (.int ((n.natAbs : Nat) : Int)), some (.int ((d.natAbs : Nat) : Int)), none, none] ∧ H' = H1, ?_, ?_⟩
    · walk_at "rd"
      refine ite2 (fun g => ?_) (fun g => ?_)
      · have g0 : 0 ≤ d := of_decide_eq_true g
        have e0 : ((d.natAbs : Nat) : Int) = d := by omega
        rw [e0]
        exact ⟨_, rfl, rfl, rfl⟩
      · have g0 : ¬ 0 ≤ d := fun z => g (decide_eq_true z)
        have e0 : ((d.natAbs : Nat) : Int) = -d := by omega
        rw [e0]
        exact ⟨_, rfl, _, rfl, rfl, rfl⟩
    rintro σ' H2 ⟨rfl, rfl⟩
    have l1 : ((n.natAbs : Nat) : Int).natAbs.log2 < 1920 := by
      rw [Int.natAbs_natCast]
      exact Nat.lt_of_lt_of_le (PySem.Flt.log2_lt_of (by decide) bn) (by decide)
    have l2 : ((d.natAbs : Nat) : Int).natAbs.log2 < 1920 := by
      rw [Int.natAbs_natCast]
      exact Nat.lt_of_lt_of_le (PySem.Flt.log2_lt_of (by decide) bd) (by decide)
    have z1 := PySem.int_text_length_le (k := 1920) (by decide) l1
    have z2 := PySem.int_text_length_le (k := 1920) (by decide) l2
    obtain ⟨N, hN⟩ : ∃ N : Nat, N = 4 * (toString ((n.natAbs : Nat) : Int)).length + 4 * (toString ((d.natAbs : Nat) : Int)).length + 60 := ⟨_, rfl⟩
    have eN : (4 : Int) * ((Str.ofString (toString ((n.natAbs : Nat) : Int))).length : Nat) + 4 * ((Str.ofString (toString ((d.natAbs : Nat) : Int))).length : Nat) + 60 = (N : Int) := by
      rw [PySem.ofString_length, PySem.ofString_length, hN]
      omega
    refine ⟨fun σ' H' => ∃ v3 v4 v5 : Option V, σ' = [some (.int n), some (.int d), some (.int ((Nat.gcd n.natAbs d.natAbs : Nat) : Int)), v3, v4, v5] ∧ H' = H2, ?_, ?_⟩
    · refine ⟨_, rfl, _, rfl, l1, _, rfl, PySem.int_text_fits l1, _, _, rfl, rfl, .inl (by constructor <;> decide), ?_⟩
      refine ⟨_, rfl, _, rfl, l2, _, rfl, PySem.int_text_fits l2, _, _, rfl, rfl, .inl (by constructor <;> decide), ?_⟩
      refine ⟨_, _, rfl, rfl, _, _, rfl, rfl, N, congrArg (fun z => [V.int z]) eN, by omega, by omega, ?_⟩
      refine for_range (n := N) (fun i σ' H' => ∃ (c e : Nat) (v4 v5 : Option V), σ' = [some (.int n), some (.int d), some (.int c), some (.int e), v4, v5] ∧ H' = H2 ∧ Eu n.natAbs d.natAbs i c e) ⟨_, _, none, none, rfl, rfl, Eu.start _ _⟩ ?_ ?_
      · rintro i σ' H' hi ⟨c, e, v4, v5, rfl, rfl, eu⟩
        walk_at "rd"
        refine ite2 (fun g => ?_) (fun g => ?_)
        · have he0 : e = 0 := by
            have := eq_of_dec g
            omega
          subst he0
          refine ⟨some (.int ((0 : Nat) : Int)), some (.int (0 + (i : Int))), v5, ?_, rfl⟩
          rw [← eu.end]
          rfl
        · have he0 : e ≠ 0 := fun z => g (decide_eq_true (by rw [z]; rfl))
          walk_at "rd"
          refine ⟨by omega, ?_⟩
          walk_at "rd"
          refine ⟨e, c % e, some (.int (0 + (i : Int))), some (.int ((c % e : Nat) : Int)), ?_, rfl, eu.turn (by omega)⟩
          rw [← fmod_nat c e]
          rfl
      · rintro σ' H' ⟨c, e, v4, v5, rfl, rfl, eu⟩
        have he0 : e = 0 := eu.stop (by omega) (eu_digits hN)
        subst he0
        refine ⟨some (.int ((0 : Nat) : Int)), v4, v5, ?_, rfl⟩
        rw [← eu.end]
    rintro σ' H3 ⟨v3, v4, v5, rfl, rfl⟩
    refine ⟨fun σ' H' => σ' = [some (.int n), some (.int d), some (.int (sg n d)), v3, v4, v5] ∧ H' = H3, ?_, ?_⟩
    · walk_at "rd"
      refine ite2 (fun g2 => ?_) (fun g2 => ?_)
      · refine ⟨_, rfl, _, rfl, ?_, rfl⟩
        unfold sg
        rw [if_pos (of_decide_eq_true g2)]
        rfl
      · refine ⟨?_, rfl⟩
        unfold sg
        rw [if_neg (fun z => g2 (decide_eq_true z))]
    rintro σ' H4 ⟨rfl, rfl⟩
    have hs := sg_ne (n := n) hd
    have hsb : (sg n d).natAbs < 2 ^ 1800 := by
      rw [sg_abs]
      exact Nat.lt_of_le_of_lt (Nat.le_of_dvd (by omega) (Nat.gcd_dvd_right _ _)) bd
    refine ⟨_, rfl, _, rfl, _, _, rfl, rfl, wide_divx hs hsb (by decide) (by decide), _, rfl, _, rfl, _, _, rfl, rfl, wide_divx hs hsb (by decide) (by decide), by show 2 ≤ sizeLine; decide, fun t ht => ?_⟩
    exact k _ t (same_upd ht) upd_same
theorem bz_one {n : Nat} (h : 0 < n) : Bz n 1 := Nat.one_lt_two_pow (by omega)
def spLLawSum (K : PySem.W.Frag) : Sp := spR2 K (fun r s => r + s)
theorem okLLawSum {fLLawSum : Addr} {fdLLawSum : FuncData} (F : Fun K "_law_sum" "_law_sum" sLLawSum fLLawSum fdLLawSum) (T : Txt mg) {aZERO : Addr} {aONE : Addr} (CT : Cons K mg aZERO aONE) {CPartError CNought : Addr} (EX : Exns K mg CPartError CNought)
    {fLLawFraction : Addr} {fdLLawFraction : FuncData} (GLLawFraction : FnOk P w K mg base CX0 1 fLLawFraction fdLLawFraction ["number", "divisor"] (spLLawFraction K)) (gLLawFraction : mg "_law_fraction" = some (.ref fLLawFraction)) (kpLLawFraction : PySem.W.keepIn K (.ref fLLawFraction) = true) (bLLawFraction : Binds K fdLLawFraction ["number", "divisor"] []) :
    FnOk P w K mg base CX0 2 fLLawSum fdLLawSum ["a", "b"] (spLLawSum K) := by
  refine F.ok scLLawSum (fun vs H Q E h => ?_) (fun cdv A outer s H vs Q E hr h => ?_)
  · obtain ⟨a, b, r, s, rfl, hA, hB, hr1, hs1, k⟩ := h
    rfl
  · obtain ⟨a, b, r, s, rfl, hA, hB, hr1, hs1, k⟩ := h
    refine ⟨_, (pss_one (ps_ret (pe_call GLLawFraction hr (by rfl) gLLawFraction kpLLawFraction bLLawFraction .nil pass0 (pa_cons (pe_op op_add (pe_op op_mulW (pe_ix ix_tup (pv 0) pe_int (fun _ _ => rfl)) (pe_ix ix_tup (pv 1) pe_int (fun _ _ => rfl))) (pe_op op_mulW (pe_ix ix_tup (pv 1) pe_int (fun _ _ => rfl)) (pe_ix ix_tup (pv 0) pe_int (fun _ _ => rfl)))) (pa_cons (pe_op op_mulW (pe_ix ix_tup (pv 0) pe_int (fun _ _ => rfl)) (pe_ix ix_tup (pv 1) pe_int (fun _ _ => rfl))) pa_nil))))), ?_⟩
    walk_at "go"
    exact ⟨show Bz 1800 _ from Bz.up (by walk_at "bz") (by decide), show Bz 1800 _ from Bz.up (by walk_at "bz") (by decide), dd_ne r s, fun H' t s1 e1 => k H' t s1 (by show Fx K H' t (r + s); rw [add_div]; exact fx_rd (dd_ne r s) e1)⟩
def spLLawTimes (K : PySem.W.Frag) : Sp := spR2 K (fun r s => r * s)
theorem okLLawTimes {fLLawTimes : Addr} {fdLLawTimes : FuncData} (F : Fun K "_law_times" "_law_times" sLLawTimes fLLawTimes fdLLawTimes) (T : Txt mg) {aZERO : Addr} {aONE : Addr} (CT : Cons K mg aZERO aONE) {CPartError CNought : Addr} (EX : Exns K mg CPartError CNought)
    {fLLawFraction : Addr} {fdLLawFraction : FuncData} (GLLawFraction : FnOk P w K mg base CX0 1 fLLawFraction fdLLawFraction ["number", "divisor"] (spLLawFraction K)) (gLLawFraction : mg "_law_fraction" = some (.ref fLLawFraction)) (kpLLawFraction : PySem.W.keepIn K (.ref fLLawFraction) = true) (bLLawFraction : Binds K fdLLawFraction ["number", "divisor"] []) :
    FnOk P w K mg base CX0 2 fLLawTimes fdLLawTimes ["a", "b"] (spLLawTimes K) := by
  refine F.ok scLLawTimes (fun vs H Q E h => ?_) (fun cdv A outer s H vs Q E hr h => ?_)
  · obtain ⟨a, b, r, s, rfl, hA, hB, hr1, hs1, k⟩ := h
    rfl
  · obtain ⟨a, b, r, s, rfl, hA, hB, hr1, hs1, k⟩ := h
    refine ⟨_, (pss_one (ps_ret (pe_call GLLawFraction hr (by rfl) gLLawFraction kpLLawFraction bLLawFraction .nil pass0 (pa_cons (pe_op op_mulW (pe_ix ix_tup (pv 0) pe_int (fun _ _ => rfl)) (pe_ix ix_tup (pv 1) pe_int (fun _ _ => rfl))) (pa_cons (pe_op op_mulW (pe_ix ix_tup (pv 0) pe_int (fun _ _ => rfl)) (pe_ix ix_tup (pv 1) pe_int (fun _ _ => rfl))) pa_nil))))), ?_⟩
    walk_at "go"
    exact ⟨show Bz 1800 _ from Bz.up (by walk_at "bz") (by decide), show Bz 1800 _ from Bz.up (by walk_at "bz") (by decide), dd_ne r s, fun H' t s1 e1 => k H' t s1 (by show Fx K H' t (r * s); rw [mul_div]; exact fx_rd (dd_ne r s) e1)⟩
def spLLawDot (K : PySem.W.Frag) : Sp := fun vs H Q _ => ∃ (n t : Addr) (x y z : Int) (r1 r2 r3 : Rat), vs = [.ref n, .ref t] ∧ SqT K H n (zs [x, y, z]) ∧ P3 K H t r1 r2 r3 ∧ Bz 20 x ∧ Bz 20 y ∧ Bz 20 z ∧ Bd 100 r1 ∧ Bd 100 r2 ∧ Bd 100 r3 ∧
  ∀ (H' : Hp) (t : Addr), Same H H' → Fx K H' t (dot3 x y z r1 r2 r3) → Q (.ref t) H'
theorem okLLawDot {fLLawDot : Addr} {fdLLawDot : FuncData} (F : Fun K "_law_dot" "_law_dot" sLLawDot fLLawDot fdLLawDot) (T : Txt mg) {aZERO : Addr} {aONE : Addr} (CT : Cons K mg aZERO aONE) {CPartError CNought : Addr} (EX : Exns K mg CPartError CNought)
    {fLLawSum : Addr} {fdLLawSum : FuncData} (GLLawSum : FnOk P w K mg base CX0 2 fLLawSum fdLLawSum ["a", "b"] (spLLawSum K)) (gLLawSum : mg "_law_sum" = some (.ref fLLawSum)) (kpLLawSum : PySem.W.keepIn K (.ref fLLawSum) = true) (bLLawSum : Binds K fdLLawSum ["a", "b"] [])
    {fLLawTimes : Addr} {fdLLawTimes : FuncData} (GLLawTimes : FnOk P w K mg base CX0 2 fLLawTimes fdLLawTimes ["a", "b"] (spLLawTimes K)) (gLLawTimes : mg "_law_times" = some (.ref fLLawTimes)) (kpLLawTimes : PySem.W.keepIn K (.ref fLLawTimes) = true) (bLLawTimes : Binds K fdLLawTimes ["a", "b"] []) :
    FnOk P w K mg base CX0 3 fLLawDot fdLLawDot ["normal", "point"] (spLLawDot K) := by
  refine F.ok scLLawDot (fun vs H Q E h => ?_) (fun cdv A outer s H vs Q E hr h => ?_)
  · obtain ⟨n, t, x, y, z, r1, r2, r3, rfl, hN, ⟨p, q, r, hT, hp, hq, hr3⟩, x1, x2, x3, c1, c2, c3, k⟩ := h
    rfl
  · obtain ⟨n, t, x, y, z, r1, r2, r3, rfl, hN, ⟨p, q, r, hT, hp, hq, hr3⟩, x1, x2, x3, c1, c2, c3, k⟩ := h
    refine ⟨_, (pss_cons (ps_set (i := 2) scLLawDot.nd rfl (Or.inl rfl) (pe_tup (pa_cons pe_int (pa_cons pe_int pa_nil))))
      (C8.pss_cut (ps_for PassesOwn.never rfl (pi_range1 rfl T.range (pa_cons pe_int pa_nil)) (pg_name (i := 3) scLLawDot.nd rfl (Or.inl rfl))
        (pss_one (ps_set (i := 2) scLLawDot.nd rfl (Or.inl rfl) (pe_call GLLawSum hr (by rfl) gLLawSum kpLLawSum bLLawSum .nil pass0 (pa_cons (pv 2) (pa_cons (pe_call GLLawTimes hr (by rfl) gLLawTimes kpLLawTimes bLLawTimes .nil pass0 (pa_cons (pe_tup (pa_cons (pe_ix ix_tup (pv 0) (pv 3) (fun _ _ => rfl)) (pa_cons pe_int pa_nil))) (pa_cons (pe_ix ix_seq (pv 1) (pv 3) (fun _ _ => rfl)) pa_nil))) pa_nil))))))
      (pss_one (ps_ret (pv 2))))), ?_⟩
    refine ⟨tn rfl, fun f0 nf0 => ?_⟩
    generalize hUf0 : upd _ _ (HO.tup _) = H1
    have s1 := same_hu hUf0 nf0
    have eh1 := at_hu hUf0
    have h1 := SqT.of (K := K) eh1
    clear hUf0
    refine ⟨fun σ' H' => ∃ (f : Addr) (v3 : Option V), σ' = [some (.ref n), some (.ref t), some (.ref f), v3] ∧ Same H H' ∧ Fx K H' f (dot3 x y z r1 r2 r3), ?_, ?_⟩
    · refine ⟨3, rfl, by decide, by decide, for_range (n := 3) (fun i σ' H' => ∃ (f : Addr) (v3 : Option V), σ' = [some (.ref n), some (.ref t), some (.ref f), v3] ∧ Same H H' ∧ Fx K H' f (dacc x y z r1 r2 r3 i)) ?_ ?_ ?_⟩
      · exact ⟨f0, none, rfl, s1, h1⟩
      · rintro i σ' H2 hi ⟨f, v3, rfl, s2, hf⟩
        have hi0 : (0 : Int) + (i : Int) = (i : Int) := by omega
        have bx : Bz 20 (th x y z i) := th_all (P := Bz 20) x1 x2 x3 i
        have br : Bd 100 (th r1 r2 r3 i) := th_all (P := Bd 100) c1 c2 c3 i
        have gx : (zs [x, y, z])[i]? = some (.int (th x y z i)) := by
          obtain rfl | rfl | rfl : i = 0 ∨ i = 1 ∨ i = 2 := by omega
          all_goals rfl
        obtain ⟨a, ga, ha⟩ : ∃ a : Addr, [V.ref p, .ref q, .ref r][i]? = some (.ref a) ∧ Fx K H a (th r1 r2 r3 i) := by
          obtain rfl | rfl | rfl : i = 0 ∨ i = 1 ∨ i = 2 := by omega
          · exact ⟨p, rfl, hp⟩
          · exact ⟨q, rfl, hq⟩
          · exact ⟨r, rfl, hr3⟩
        rw [hi0]
        refine ⟨_, rfl, _, rfl, _, rfl, n, _, _, _, rfl, rfl, same_tup s2 hN, atI_nat gx, ?_⟩
        refine ⟨tn rfl, fun m nm => ?_⟩
        generalize hUm : upd _ _ (HO.tup _) = H3
        have s3 := same_hu hUm nm
        have eh3 := at_hu hUm
        have h3 := SqT.of (K := K) eh3
        clear hUm
        refine ⟨_, rfl, _, rfl, ?_⟩
        have s23 := s2.trans s3
        have fin : spLLawTimes K [.ref m, .ref a] H3 (fun yy H4 => spLLawSum K [.ref f, yy] H4 (fun y' H5 => ∃ (f : Addr) (v3 : Option V), [some (.ref n), some (.ref t), some y', some (.int (i : Int))] = [some (.ref n), some (.ref t), some (.ref f), v3] ∧ Same H H5 ∧ Fx K H5 f (dacc x y z r1 r2 r3 (i + 1))) E0) E0 := by
          refine ⟨m, a, ((th x y z i : Int) : Rat), th r1 r2 r3 i, rfl, fx_int h3, ha.same s23, (bd_int bx (by decide)).up (by decide), br.up (by decide), fun H4 t4 s4 f4 => ?_⟩
          refine ⟨f, t4, _, _, rfl, hf.same (s3.trans s4), f4, (dacc_bd x1 x2 x3 c1 c2 c3 i).up (by omega), ((bd_int bx (by decide)).mul br).up (by decide), fun H5 t5 s5 f5 => ?_⟩
          exact ⟨t5, _, rfl, s23.trans (s4.trans s5), f5⟩
        rcases hT with hT | hT
        · exact .inr (.inl ⟨t, _, _, _, rfl, rfl, same_tup s23 hT, atI_nat ga, fin⟩)
        · exact .inl ⟨t, _, _, _, rfl, rfl, s23.seq hT, atI_nat ga, fin⟩
      · rintro σ' H2 ⟨f, v3, rfl, s2, hf⟩
        rw [dacc_end] at hf
        exact ⟨f, v3, rfl, s2, hf⟩
    rintro σ' H2 ⟨f, v3, rfl, s2, hf⟩
    exact ⟨_, rfl, k H2 f s2 hf⟩
theorem vx1 {K : PySem.W.Frag} {H : Hp} {t : Addr} {b s : Rat} (h : Vx K H t b [s]) : ∃ p q a : Addr, SqT K H t [.ref p, .ref q] ∧ Fx K H p b ∧ SqT K H q [.ref a] ∧ Fx K H a s := by
  obtain ⟨p, q, ws, h1, h2, h3, h4, h5⟩ := h
  match ws, h5 with
  | [(a, s')], h5 =>
    obtain rfl : s' = s := by injection h5
    exact ⟨p, q, a, h1, h2, h3, h4 (a, s') List.mem_cons_self⟩
def spLLawAt (K : PySem.W.Frag) : Sp := fun vs H Q _ => ∃ (a w : Addr) (b s r : Rat), vs = [.ref a, .ref w] ∧ Vx K H a b [s] ∧ Fx K H w r ∧ Bd 100 b ∧ Bd 100 s ∧ Bd 100 r ∧ ∀ (H' : Hp) (t : Addr), Same H H' → Fx K H' t (b + s * r) → Q (.ref t) H'
theorem okLLawAt {fLLawAt : Addr} {fdLLawAt : FuncData} (F : Fun K "_law_at" "_law_at" sLLawAt fLLawAt fdLLawAt) (T : Txt mg) {aZERO : Addr} {aONE : Addr} (CT : Cons K mg aZERO aONE) {CPartError CNought : Addr} (EX : Exns K mg CPartError CNought)
    {fLLawSum : Addr} {fdLLawSum : FuncData} (GLLawSum : FnOk P w K mg base CX0 2 fLLawSum fdLLawSum ["a", "b"] (spLLawSum K)) (gLLawSum : mg "_law_sum" = some (.ref fLLawSum)) (kpLLawSum : PySem.W.keepIn K (.ref fLLawSum) = true) (bLLawSum : Binds K fdLLawSum ["a", "b"] [])
    {fLLawTimes : Addr} {fdLLawTimes : FuncData} (GLLawTimes : FnOk P w K mg base CX0 2 fLLawTimes fdLLawTimes ["a", "b"] (spLLawTimes K)) (gLLawTimes : mg "_law_times" = some (.ref fLLawTimes)) (kpLLawTimes : PySem.W.keepIn K (.ref fLLawTimes) = true) (bLLawTimes : Binds K fdLLawTimes ["a", "b"] []) :
    FnOk P w K mg base CX0 3 fLLawAt fdLLawAt ["found", "w"] (spLLawAt K) := by
  refine F.ok scLLawAt (fun vs H Q E h => ?_) (fun cdv A outer s H vs Q E hr h => ?_)
  · obtain ⟨a, w, b, s, r, rfl, hA, hW, c1, c2, c3, k⟩ := h
    rfl
  · obtain ⟨a, w, b, s, r, rfl, hA, hW, c1, c2, c3, k⟩ := h
    refine ⟨_, (pss_one (ps_ret (pe_call GLLawSum hr (by rfl) gLLawSum kpLLawSum bLLawSum .nil pass0 (pa_cons (pe_ix ix_tup (pv 0) pe_int (fun _ _ => rfl)) (pa_cons (pe_call GLLawTimes hr (by rfl) gLLawTimes kpLLawTimes bLLawTimes .nil pass0 (pa_cons (pe_ix ix_tup (pe_ix ix_tup (pv 0) pe_int (fun _ _ => rfl)) pe_int (fun _ _ => rfl)) (pa_cons (pv 1) pa_nil))) pa_nil))))), ?_⟩
    obtain ⟨p, q, e, h1, h2, h3, h4⟩ := vx1 hA
    walk_at "go"
    refine ⟨e, w, s, r, rfl, h4, hW, c2.up (by decide), c3.up (by decide), fun H1 t1 s1 f1 => ?_⟩
    walk_at "go"
    exact ⟨p, t1, b, _, rfl, h2.same s1, f1, c1.up (by decide), (c2.mul c3).up (by decide), fun H2 t2 s2 f2 => k H2 t2 (s1.trans s2) f2⟩
def sdv (q : Rat) (k : Bool) : V := if q.num = 0 then .non else .bl (eqb (decide (0 < q.num)) k)
def away (x y z : Int) (r1 r2 r3 a : Rat) : Rat := dot3 x y z r1 r2 r3 + ((-1 : Int) : Rat) * a
def spLLawSide (K : PySem.W.Frag) : Sp := fun vs H Q _ => ∃ (sd t w : Addr) (w0 : V) (x y z : Int) (r1 r2 r3 b s r : Rat) (k : Bool), vs = [.ref sd, .ref t, .ref w] ∧ Sd K H sd w0 x y z b s k ∧ P3 K H t r1 r2 r3 ∧ Fx K H w r ∧ Bz 20 x ∧ Bz 20 y ∧ Bz 20 z ∧ Bd 100 r1 ∧ Bd 100 r2 ∧ Bd 100 r3 ∧ Bd 100 b ∧ Bd 100 s ∧ Bd 100 r ∧
  ∀ H' : Hp, Same H H' → Q (sdv (away x y z r1 r2 r3 (b + s * r)) k) H'
theorem okLLawSide {fLLawSide : Addr} {fdLLawSide : FuncData} (F : Fun K "_law_side" "_law_side" sLLawSide fLLawSide fdLLawSide) (T : Txt mg) {aZERO : Addr} {aONE : Addr} (CT : Cons K mg aZERO aONE) {CPartError CNought : Addr} (EX : Exns K mg CPartError CNought)
    {fLLawSum : Addr} {fdLLawSum : FuncData} (GLLawSum : FnOk P w K mg base CX0 2 fLLawSum fdLLawSum ["a", "b"] (spLLawSum K)) (gLLawSum : mg "_law_sum" = some (.ref fLLawSum)) (kpLLawSum : PySem.W.keepIn K (.ref fLLawSum) = true) (bLLawSum : Binds K fdLLawSum ["a", "b"] [])
    {fLLawDot : Addr} {fdLLawDot : FuncData} (GLLawDot : FnOk P w K mg base CX0 3 fLLawDot fdLLawDot ["normal", "point"] (spLLawDot K)) (gLLawDot : mg "_law_dot" = some (.ref fLLawDot)) (kpLLawDot : PySem.W.keepIn K (.ref fLLawDot) = true) (bLLawDot : Binds K fdLLawDot ["normal", "point"] [])
    {fLLawTimes : Addr} {fdLLawTimes : FuncData} (GLLawTimes : FnOk P w K mg base CX0 2 fLLawTimes fdLLawTimes ["a", "b"] (spLLawTimes K)) (gLLawTimes : mg "_law_times" = some (.ref fLLawTimes)) (kpLLawTimes : PySem.W.keepIn K (.ref fLLawTimes) = true) (bLLawTimes : Binds K fdLLawTimes ["a", "b"] [])
    {fLLawAt : Addr} {fdLLawAt : FuncData} (GLLawAt : FnOk P w K mg base CX0 3 fLLawAt fdLLawAt ["found", "w"] (spLLawAt K)) (gLLawAt : mg "_law_at" = some (.ref fLLawAt)) (kpLLawAt : PySem.W.keepIn K (.ref fLLawAt) = true) (bLLawAt : Binds K fdLLawAt ["found", "w"] []) :
    FnOk P w K mg base CX0 4 fLLawSide fdLLawSide ["one", "point", "w"] (spLLawSide K) := by
  refine F.ok scLLawSide (fun vs H Q E h => ?_) (fun cdv A outer s H vs Q E hr h => ?_)
  · obtain ⟨sd, t, w, w0, x, y, z, r1, r2, r3, b, s, r, k, rfl, ⟨n, o, hS, hN, hO⟩, hP, hW, x1, x2, x3, c1, c2, c3, c4, c5, c6, q⟩ := h
    rfl
  · obtain ⟨sd, t, w, w0, x, y, z, r1, r2, r3, b, s, r, k, rfl, ⟨n, o, hS, hN, hO⟩, hP, hW, x1, x2, x3, c1, c2, c3, c4, c5, c6, q⟩ := h
    refine ⟨_, (pss_cons (ps_set (i := 3) scLLawSide.nd rfl (Or.inl rfl) (pe_call GLLawSum (hr.mono (by decide)) (by rfl) gLLawSum kpLLawSum bLLawSum .nil pass0 (pa_cons (pe_call GLLawDot hr (by rfl) gLLawDot kpLLawDot bLLawDot .nil pass0 (pa_cons (pe_ix ix_tup (pv 0) pe_int (fun _ _ => rfl)) (pa_cons (pv 1) pa_nil))) (pa_cons (pe_call GLLawTimes (hr.mono (by decide)) (by rfl) gLLawTimes kpLLawTimes bLLawTimes .nil pass0 (pa_cons (pe_tup (pa_cons (pe_un un_neg pe_int) (pa_cons pe_int pa_nil))) (pa_cons (pe_call GLLawAt hr (by rfl) gLLawAt kpLLawAt bLLawAt .nil pass0 (pa_cons (pe_ix ix_tup (pv 0) pe_int (fun _ _ => rfl)) (pa_cons (pv 2) pa_nil))) pa_nil))) pa_nil))))
      (pss_cons (ps_if (pt_cmpR op_eq (pe_ix ix_tup (pv 3) pe_int (fun _ _ => rfl)) pe_int (nomark _))
        (pss_one (ps_ret pe_non))
        pss_nil)
      (pss_one (ps_ret (pe_cmpR op_eq (pe_cmpR op_gt (pe_ix ix_tup (pv 3) pe_int (fun _ _ => rfl)) pe_int (nomark _)) (pe_ix ix_tup (pv 0) pe_int (fun _ _ => rfl)) (nomark _)))))), ?_⟩
    walk_at "go"
    refine ⟨n, t, x, y, z, r1, r2, r3, rfl, hN, hP, x1, x2, x3, c1, c2, c3, fun H1 t1 s1 f1 => ?_⟩
    walk_at "go"
    refine ⟨tn rfl, fun t2 nt2 => ?_⟩
    generalize hUt2 : upd _ _ (HO.tup _) = H2
    have s2 := same_hu hUt2 nt2
    have eh2 := at_hu hUt2
    have h2 := SqT.of (K := K) eh2
    clear hUt2
    walk_at "go"
    have s12 := s1.trans s2
    refine ⟨o, w, b, s, r, rfl, hO.same s12, hW.same s12, c4, c5, c6, fun H3 t3 s3 f3 => ?_⟩
    have bd1 := c4.add (c5.mul c6)
    walk_at "go"
    refine ⟨t2, t3, ((-1 : Int) : Rat), _, rfl, (fx_int h2).same s3, f3, (bd_int (n := -1) (k := 8) (by unfold Bz; decide) (by decide)).up (by decide), bd1.up (by decide), fun H4 t4 s4 f4 => ?_⟩
    walk_at "go"
    have bd2 := bd_sum3 (by decide) x1 x2 x3 c1 c2 c3
    refine ⟨t1, t4, _, _, rfl, f1.same (s2.trans (s3.trans s4)), f4, bd2.up (by decide), ((bd_int (n := -1) (k := 8) (by unfold Bz; decide) (by decide)).mul bd1).up (by decide), fun H5 t5 s5 f5 => ?_⟩
    have q5 := q H5 (s12.trans (s3.trans (s4.trans s5)))
    have f6 : Fx K H5 t5 (away x y z r1 r2 r3 (b + s * r)) := f5
    generalize away x y z r1 r2 r3 (b + s * r) = aw at q5 f6
    unfold sdv at q5
    have hS5 := same_tup (s12.trans (s3.trans (s4.trans s5))) hS
    walk_at "go"
    refine ite2 (fun g => ?_) (fun g => ?_)
    · rw [if_pos (eq_of_dec g)] at q5
      exact q5
    · rw [if_neg (ne_of_nodec g)] at q5
      walk_at "go"
      exact q5
def spLLawTest (K : PySem.W.Frag) (n : Nat) : Sp := fun vs H Q _ => ∃ (t l : Addr) (g : Ts) (bs : List Bool), vs = [.ref t, .ref l] ∧ TsAt K H t g ∧ SqL K H l (bs.map V.bl) ∧ g.all (fun i => 0 ≤ i ∧ i < (bs.length : Int)) ∧ g.deep ≤ n ∧ Q (.bl (g.holds fun i => bs.getD i.toNat false)) H
theorem okLLawTest {n : Nat} {fLLawTest : Addr} {fdLLawTest : FuncData} (F : Fun K "_law_test" "_law_test" sLLawTest fLLawTest fdLLawTest) (T : Txt mg) {aZERO : Addr} {aONE : Addr} (CT : Cons K mg aZERO aONE) {CPartError CNought : Addr} (EX : Exns K mg CPartError CNought)
    (GLLawTest : FnOk P w K mg base CX0 (1 + n) fLLawTest fdLLawTest ["test", "told"] (spLLawTest K n)) (gLLawTest : mg "_law_test" = some (.ref fLLawTest)) (kpLLawTest : PySem.W.keepIn K (.ref fLLawTest) = true) (bLLawTest : Binds K fdLLawTest ["test", "told"] []) :
    FnOk P w K mg base CX0 (1 + n + 1) fLLawTest fdLLawTest ["test", "told"] (spLLawTest K (n + 1)) := by
  refine F.ok scLLawTest (fun vs H Q E h => ?_) (fun cdv A outer s H vs Q E hr h => ?_)
  · obtain ⟨t, l, g, bs, rfl, hT, hL, hR, hn, q⟩ := h
    rfl
  · obtain ⟨t, l, g, bs, rfl, hT, hL, hR, hn, q⟩ := h
    refine ⟨_, (pss_cons (ps_if (pt_cmpR op_eq (pe_ix ix_tup (pv 0) pe_int (fun _ _ => rfl)) pe_str (nomark _))
        (pss_one (ps_ret (pe_not (pe_call GLLawTest hr (by rfl) gLLawTest kpLLawTest bLLawTest .nil pass0 (pa_cons (pe_ix ix_tup (pv 0) pe_int (fun _ _ => rfl)) (pa_cons (pv 1) pa_nil))))))
        pss_nil)
      (pss_cons (ps_if (pt_cmpR op_eq (pe_ix ix_tup (pv 0) pe_int (fun _ _ => rfl)) pe_str (nomark _))
        (pss_one (ps_ret (pe_and (pe_call GLLawTest hr (by rfl) gLLawTest kpLLawTest bLLawTest .nil pass0 (pa_cons (pe_ix ix_tup (pv 0) pe_int (fun _ _ => rfl)) (pa_cons (pv 1) pa_nil))) (pe_one (pe_call GLLawTest hr (by rfl) gLLawTest kpLLawTest bLLawTest .nil pass0 (pa_cons (pe_ix ix_tup (pv 0) pe_int (fun _ _ => rfl)) (pa_cons (pv 1) pa_nil)))))))
        pss_nil)
      (pss_cons (ps_if (pt_cmpR op_eq (pe_ix ix_tup (pv 0) pe_int (fun _ _ => rfl)) pe_str (nomark _))
        (pss_one (ps_ret (pe_or (pe_call GLLawTest hr (by rfl) gLLawTest kpLLawTest bLLawTest .nil pass0 (pa_cons (pe_ix ix_tup (pv 0) pe_int (fun _ _ => rfl)) (pa_cons (pv 1) pa_nil))) (pe_one (pe_call GLLawTest hr (by rfl) gLLawTest kpLLawTest bLLawTest .nil pass0 (pa_cons (pe_ix ix_tup (pv 0) pe_int (fun _ _ => rfl)) (pa_cons (pv 1) pa_nil)))))))
        pss_nil)
      (pss_one (ps_ret (pe_ix ix_list (pv 1) (pe_ix ix_tup (pv 0) pe_int (fun _ _ => rfl)) (fun _ _ => rfl))))))), ?_⟩
    generalize hf : (fun i : Int => bs.getD i.toNat false) = f at q
    match g, hT, hR, hn, q with
    | .side i, hT, hR, hn, q =>
      replace hT : SqT K H t [.str "side", .int i] := hT
      obtain ⟨i0, i1⟩ : 0 ≤ i ∧ i < (bs.length : Int) := hR
      have q' : Q (.bl (f i)) H := q
      rw [← hf] at q'
      walk_at "go"
      have ei : atI (bs.map V.bl) i = some (.bl (bs.getD i.toNat false)) := by
        have := atI_nat (j := i.toNat) (xs := bs.map V.bl) (v := .bl (bs.getD i.toNat false)) (by
          rw [List.getElem?_map, List.getD_eq_getElem?_getD, List.getElem?_eq_getElem (by omega)]
          rfl)
        rw [show ((i.toNat : Nat) : Int) = i by omega] at this
        exact this
      exact ⟨l, _, i, _, rfl, rfl, hL, ei, q'⟩
    | .no a1, ⟨u, h1, h2⟩, hR, hn, q =>
      have hn1 : a1.deep + 1 ≤ n + 1 := hn
      have q' : Q (.bl (!(a1.holds f))) H := q
      walk_at "go"
      refine ⟨u, l, a1, bs, rfl, h2, hL, hR, by omega, ?_⟩
      rw [hf]
      walk_at "go"
      exact q'
    | .two e a1 a2, ⟨u, v, h1, h2, h3⟩, hR, hn, q =>
      have hn1 : max a1.deep a2.deep + 1 ≤ n + 1 := hn
      cases e with
      | false =>
        have q' : Q (.bl (a1.holds f && a2.holds f)) H := q
        walk_at "go"
        refine ⟨u, l, a1, bs, rfl, h2, hL, hR.1, by omega, ?_⟩
        rw [hf]
        walk_at "go"
        cases hh : a1.holds f with
        | false =>
          rw [hh] at q'
          refine iteF' rfl ?_
          exact q'
        | true =>
          rw [hh] at q'
          refine iteT' rfl ?_
          walk_at "go"
          exact ⟨v, l, a2, bs, rfl, h3, hL, hR.2, by omega, hf ▸ q'⟩
      | true =>
        have q' : Q (.bl (a1.holds f || a2.holds f)) H := q
        walk_at "go"
        refine ⟨u, l, a1, bs, rfl, h2, hL, hR.1, by omega, ?_⟩
        rw [hf]
        walk_at "go"
        cases hh : a1.holds f with
        | true =>
          rw [hh] at q'
          refine iteT' rfl ?_
          exact q'
        | false =>
          rw [hh] at q'
          refine iteF' rfl ?_
          walk_at "go"
          exact ⟨v, l, a2, bs, rfl, h3, hL, hR.2, by omega, hf ▸ q'⟩
theorem recLLawTest {fLLawTest : Addr} {fdLLawTest : FuncData} (FLLawTest : Fun K "_law_test" "_law_test" sLLawTest fLLawTest fdLLawTest) (T : Txt mg) {aZERO : Addr} {aONE : Addr} (CT : Cons K mg aZERO aONE) {CPartError CNought : Addr} (EX : Exns K mg CPartError CNought)
    (gLLawTest : mg "_law_test" = some (.ref fLLawTest)) (kpLLawTest : PySem.W.keepIn K (.ref fLLawTest) = true) (bLLawTest : Binds K fdLLawTest ["test", "told"] []) : ∀ n : Nat, FnOk P w K mg base CX0 (1 + n) fLLawTest fdLLawTest ["test", "told"] (spLLawTest K n)
  | 0 => by
    have zLLawTest : ∀ vs H Q E, ¬ spLLawTest K 0 vs H Q E := fun vs H Q E h => by
      obtain ⟨t, l, g, bs, rfl, hT, hL, hR, hn, q⟩ := h
      cases g <;> exact absurd hn (Nat.not_succ_le_zero _)
    exact ⟨fun vs H Q E h => absurd h (zLLawTest vs H Q E), fun A outer s H args us vs Q E _ _ _ _ h => absurd h (zLLawTest vs H Q E)⟩
  | n + 1 => by
    have ih := recLLawTest FLLawTest T CT EX  gLLawTest kpLLawTest bLLawTest n
    exact (okLLawTest FLLawTest T CT EX ih gLLawTest kpLLawTest bLLawTest)
def sideA (x : SdV) (P : Rat × Rat × Rat) (r : Rat) : Rat := away x.x x.y x.z P.1 P.2.1 P.2.2 (x.b + x.s * r)
def sideB (x : SdV) (P : Rat × Rat × Rat) (r : Rat) : Bool := eqb (decide (0 < (sideA x P r).num)) x.k
theorem sdv_side {x : SdV} {P : Rat × Rat × Rat} {r : Rat} (h : sideA x P r ≠ 0) : sdv (sideA x P r) x.k = .bl (sideB x P r) := by
  unfold sdv
  rw [if_neg fun z => h (Rat.num_eq_zero.mp z)]
  rfl
theorem flat_bl (bs : List Bool) : (bs.map V.bl).all flatV = true := by
  rw [List.all_map]
  exact List.all_eq_true.mpr fun b _ => rfl
theorem inV_bl : ∀ bs : List Bool, inV .non (bs.map V.bl) = false
  | [] => rfl
  | b :: bs => by
    have ih := inV_bl bs
    unfold inV at ih ⊢
    rw [List.map_cons, List.any_cons, ih]
    rfl
def SdOk (x : SdV) : Prop := Bz 20 x.x ∧ Bz 20 x.y ∧ Bz 20 x.z ∧ Bd 100 x.b ∧ Bd 100 x.s
def spLLawIn (K : PySem.W.Frag) : Sp := fun vs H Q _ => ∃ (tl t w : Addr) (op : Str) (m : Int) (L : List (Str × SdV)) (g : Ts) (P : Rat × Rat × Rat) (r : Rat), vs = [.ref tl, .ref t, .ref w] ∧ TlAt K H tl op m L g ∧ P3 K H t P.1 P.2.1 P.2.2 ∧ Fx K H w r ∧ (∀ x ∈ L, SdOk x.2 ∧ sideA x.2 P r ≠ 0) ∧ Bd 100 P.1 ∧ Bd 100 P.2.1 ∧ Bd 100 P.2.2 ∧ Bd 100 r ∧ L.length ≤ 100 ∧ g.all (fun i => 0 ≤ i ∧ i < (L.length : Int)) ∧ g.deep ≤ 9 ∧
  ∀ H' : Hp, Same H H' → Q (.bl (g.holds fun i => (L.map fun x => sideB x.2 P r).getD i.toNat false)) H'
theorem okLLawIn {fLLawIn : Addr} {fdLLawIn : FuncData} (F : Fun K "_law_in" "_law_in" sLLawIn fLLawIn fdLLawIn) (T : Txt mg) {aZERO : Addr} {aONE : Addr} (CT : Cons K mg aZERO aONE) {CPartError CNought : Addr} (EX : Exns K mg CPartError CNought)
    {fLLawTest : Addr} {fdLLawTest : FuncData} (GLLawTest : FnOk P w K mg base CX0 10 fLLawTest fdLLawTest ["test", "told"] (spLLawTest K 9)) (gLLawTest : mg "_law_test" = some (.ref fLLawTest)) (kpLLawTest : PySem.W.keepIn K (.ref fLLawTest) = true) (bLLawTest : Binds K fdLLawTest ["test", "told"] [])
    {fLLawSide : Addr} {fdLLawSide : FuncData} (GLLawSide : FnOk P w K mg base CX0 4 fLLawSide fdLLawSide ["one", "point", "w"] (spLLawSide K)) (gLLawSide : mg "_law_side" = some (.ref fLLawSide)) (kpLLawSide : PySem.W.keepIn K (.ref fLLawSide) = true) (bLLawSide : Binds K fdLLawSide ["one", "point", "w"] []) :
    FnOk P w K mg base CX0 11 fLLawIn fdLLawIn ["tool", "point", "w"] (spLLawIn K) := by
  refine F.ok scLLawIn (fun vs H Q E h => ?_) (fun cdv A outer s H vs Q E hr h => ?_)
  · obtain ⟨tl, t, w, op, m, L, g, P, r, rfl, ⟨l, pg, ws, hT, hl, hws, eL, hg⟩, hP, hW, hx, c1, c2, c3, c6, l100, hga, hgd, q⟩ := h
    rfl
  · obtain ⟨tl, t, w, op, m, L, g, P, r, rfl, ⟨l, pg, ws, hT, hl, hws, eL, hg⟩, hP, hW, hx, c1, c2, c3, c6, l100, hga, hgd, q⟩ := h
    refine ⟨_, (pss_cons (ps_setLc (i := 3) (own := [("one", 4)]) (by rfl) scLLawIn.nd rfl rfl (sw_true rfl rfl rfl (by decide +kernel)) (pi_list (pe_ix ix_tup (pv 0) pe_int (fun _ _ => rfl))) (blkOk_by (own := [("one", 4)]) (N := ["tool", "point", "w", "told", "one"]) (sc := defScope sLLawIn) (by decide +kernel)) (fun _ _ _ _ _ => (pg_name (i := 4) scLLawIn.nd rfl (Or.inl rfl))) (fun _ _ _ _ _ => pts_nil) (fun _ _ _ _ _ => (pe_call GLLawSide (hr.mono (by decide)) (by rfl) gLLawSide kpLLawSide bLLawSide .nil pass0 (pa_cons (pv 4) (pa_cons (pv 1) (pa_cons (pv 2) pa_nil))))))
      (pss_cons (ps_if (pt_cmpR op_in_seq pe_non (pv 3) (by rfl))
        (pss_one (ps_ret pe_non))
        pss_nil)
      (pss_one (ps_ret (pe_call GLLawTest hr (by rfl) gLLawTest kpLLawTest bLLawTest .nil pass0 (pa_cons (pe_ix ix_tup (pv 0) pe_int (fun _ _ => rfl)) (pa_cons (pv 3) pa_nil))))))), ?_⟩
    have lw : ws.length = L.length := by rw [← eL, List.length_map]
    walk_at "go"
    refine ⟨⟨_, SqL.of hl⟩, fun D hDn => ?_⟩
    refine lc_val (walk_list (K := K) (a := l) (xs := Ro ws)) ((L.map fun x => sideB x.2 P r).map V.bl) (by rw [List.length_map, List.length_map, Ro_len, lw]) (by rw [Ro_len]; omega) hDn (fun H2 s2 => s2.seq (SqL.of hl)) ?_ ?_
    · rintro i c v' H2 H3 kk2 hc s2 ⟨rfl, g1⟩ kk3
      obtain ⟨wx, rfl, gw⟩ := Ro_get g1
      have mw := List.mem_of_getElem? gw
      have mL : wx.2 ∈ L := by rw [← eL]; exact List.mem_map_of_mem mw
      obtain ⟨w0, hs, _⟩ := hws wx mw
      obtain ⟨⟨x1, x2, x3, x4, x5⟩, hne⟩ := hx _ mL
      have ec : V.bl (sideB wx.2.2 P r) = c := by
        have hL : L[i]? = some wx.2 := by rw [← eL, List.getElem?_map, gw]; rfl
        rw [List.getElem?_map, List.getElem?_map, hL] at hc
        exact Option.some.inj hc
      subst ec
      walk_at "go"
      refine ⟨wx.1, t, w, w0, _, _, _, _, _, _, _, _, r, _, rfl, SdAt.up s2 hs, hP.same s2, hW.same s2, x1, x2, x3, c1, c2, c3, x4, x5, c6, fun H4 s4 => ?_⟩
      rw [show away wx.2.2.x wx.2.2.y wx.2.2.z P.1 P.2.1 P.2.2 (wx.2.2.b + wx.2.2.s * r) = sideA wx.2.2 P r from rfl, sdv_side hne]
      exact kk3 H4 s4
    · intro H2 s2 e2
      walk_at "go"
      refine ⟨D, _, rfl, .inl (SqL.of e2), rfl, flat_bl _, ?_⟩
      rw [if_neg Bool.false_ne_true, inV_bl]
      walk_at "go"
      exact ⟨pg, D, g, _, rfl, hg.up s2, SqL.of e2, by rw [List.length_map]; exact hga, hgd, q H2 s2⟩
def spLLawShared (K : PySem.W.Frag) : Sp := fun vs H Q _ => ∃ a b : Nat, vs = [.int a, .int b] ∧ a < 2 ^ 30 ∧ b < 2 ^ 30 ∧ Q (.int ((Nat.gcd a b : Nat) : Int)) H
theorem okLLawShared {fLLawShared : Addr} {fdLLawShared : FuncData} (F : Fun K "_law_shared" "_law_shared" sLLawShared fLLawShared fdLLawShared) (T : Txt mg) {aZERO : Addr} {aONE : Addr} (CT : Cons K mg aZERO aONE) {CPartError CNought : Addr} (EX : Exns K mg CPartError CNought) :
    FnOk P w K mg base CX0 1 fLLawShared fdLLawShared ["a", "b"] (spLLawShared K) := by
  refine F.ok scLLawShared (fun vs H Q E h => ?_) (fun cdv A outer s H vs Q E hr h => ?_)
  · obtain ⟨a, b, rfl, ha, hb, k⟩ := h
    rfl
  · obtain ⟨a, b, rfl, ha, hb, k⟩ := h
    refine ⟨_, (C8.pss_cut (ps_for PassesOwn.never rfl (pi_range1 rfl T.range (pa_cons pe_int pa_nil)) (pg_name (i := 2) scLLawShared.nd rfl (Or.inl rfl))
        (pss_cons (ps_if (pt_cmpR op_eq (pv 1) pe_int (nomark _))
          (pss_one ps_break)
          pss_nil)
        (pss_cons (ps_set (i := 3) scLLawShared.nd rfl (Or.inl rfl) (pe_op op_modN (pe_callTy call_int1 (by rfl) T.int (by decide +kernel) (pa_cons (pv 0) pa_nil)) (pv 1)))
        (pss_cons (ps_set (i := 0) scLLawShared.nd rfl (Or.inl rfl) (pv 1))
        (pss_one (ps_set (i := 1) scLLawShared.nd rfl (Or.inl rfl) (pv 3)))))))
      (pss_one (ps_ret (pv 0)))), ?_⟩
    refine ⟨fun σ' H' => ∃ v1 v2 v3 : Option V, σ' = [some (.int ((Nat.gcd a b : Nat) : Int)), v1, v2, v3] ∧ H' = H, ?_, ?_⟩
    · refine ⟨80, rfl, by decide, by decide, for_range (n := 80) (fun i σ' H' => ∃ (c e : Nat) (v2 v3 : Option V), σ' = [some (.int (c : Int)), some (.int (e : Int)), v2, v3] ∧ H' = H ∧ Eu a b i c e) ⟨_, _, none, none, rfl, rfl, Eu.start _ _⟩ ?_ ?_⟩
      · rintro i σ' H' hi ⟨c, e, v2, v3, rfl, rfl, eu⟩
        walk_at "rd"
        refine ite2 (fun g => ?_) (fun g => ?_)
        · have he0 : e = 0 := by
            have := eq_of_dec g
            omega
          subst he0
          refine ⟨some (.int ((0 : Nat) : Int)), some (.int (0 + (i : Int))), v3, ?_, rfl⟩
          rw [← eu.end]
          rfl
        · have he0 : e ≠ 0 := fun z => g (decide_eq_true (by rw [z]; rfl))
          walk_at "rd"
          refine ⟨by omega, _, rfl, _, rfl, e, c % e, some (.int (0 + (i : Int))), some (.int ((c % e : Nat) : Int)), ?_, rfl, eu.turn (by omega)⟩
          rw [← fmod_nat c e]
          rfl
      · rintro σ' H' ⟨c, e, v2, v3, rfl, rfl, eu⟩
        have he0 : e = 0 := eu.stop (by decide) (by
          have h1 : a * b < 2 ^ 30 * 2 ^ 30 := Nat.mul_lt_mul'' ha hb
          have h2 : 2 * (2 ^ 30 * 2 ^ 30) < 2 ^ 80 := by decide
          omega)
        subst he0
        refine ⟨some (.int ((0 : Nat) : Int)), v2, v3, ?_, rfl⟩
        rw [← eu.end]
    rintro σ' H' ⟨v1, v2, v3, rfl, rfl⟩
    exact ⟨_, rfl, k⟩
def gi (x y z : Int) : Nat → Nat
  | 0 => 0
  | i + 1 => Nat.gcd (gi x y z i) (th x y z i).natAbs
theorem gi_end (x y z : Int) : gi x y z 3 = g3 x y z := by
  simp only [gi, th, g3]
  rw [Nat.gcd_zero_left]
theorem gi_lt {x y z : Int} (h1 : Bz 30 x) (h2 : Bz 30 y) (h3 : Bz 30 z) : ∀ i, gi x y z i < 2 ^ 30 := by
  intro i
  induction i with
  | zero => exact Nat.two_pow_pos 30
  | succ i ih =>
    have hz : (th x y z i).natAbs < 2 ^ 30 := th_all (P := Bz 30) h1 h2 h3 i
    show Nat.gcd (gi x y z i) (th x y z i).natAbs < 2 ^ 30
    rcases Nat.eq_zero_or_pos (th x y z i).natAbs with e | e
    · rw [e, Nat.gcd_zero_right]
      exact ih
    · exact Nat.lt_of_le_of_lt (Nat.le_of_dvd e (Nat.gcd_dvd_right _ _)) hz
def spLLawCanonical (K : PySem.W.Frag) : Sp := fun vs H Q _ => ∃ (tl : Addr) (op : Str) (m : Int) (L : List (Str × SdV)) (g : Ts), vs = [.ref tl] ∧ TlAt K H tl op m L g ∧ (∀ x ∈ L, ¬ (x.2.x = 0 ∧ x.2.y = 0 ∧ x.2.z = 0) ∧ Bz 30 x.2.x ∧ Bz 30 x.2.y ∧ Bz 30 x.2.z ∧ g3 x.2.x x.2.y x.2.z = 1 ∧ dn x.2.x x.2.y x.2.z = false) ∧ ∀ H' : Hp, Same H H' → Q (.bl true) H'
theorem okLLawCanonical {fLLawCanonical : Addr} {fdLLawCanonical : FuncData} (F : Fun K "_law_canonical" "_law_canonical" sLLawCanonical fLLawCanonical fdLLawCanonical) (T : Txt mg) {aZERO : Addr} {aONE : Addr} (CT : Cons K mg aZERO aONE) {CPartError CNought : Addr} (EX : Exns K mg CPartError CNought)
    {fLLawShared : Addr} {fdLLawShared : FuncData} (GLLawShared : FnOk P w K mg base CX0 1 fLLawShared fdLLawShared ["a", "b"] (spLLawShared K)) (gLLawShared : mg "_law_shared" = some (.ref fLLawShared)) (kpLLawShared : PySem.W.keepIn K (.ref fLLawShared) = true) (bLLawShared : Binds K fdLLawShared ["a", "b"] []) :
    FnOk P w K mg base CX0 2 fLLawCanonical fdLLawCanonical ["tool"] (spLLawCanonical K) := by
  refine F.ok scLLawCanonical (fun vs H Q E h => ?_) (fun cdv A outer s H vs Q E hr h => ?_)
  · obtain ⟨tl, op, m, L, g, rfl, ⟨l, pg, ws, hT, hl, hws, eL, hg0⟩, hx, q⟩ := h
    rfl
  · obtain ⟨tl, op, m, L, g, rfl, ⟨l, pg, ws, hT, hl, hws, eL, hg0⟩, hx, q⟩ := h
    refine ⟨_, (C8.pss_cut (ps_for PassesOwn.never rfl (pi_list (pe_ix ix_tup (pv 0) pe_int (fun _ _ => rfl))) (pg_name (i := 1) scLLawCanonical.nd rfl (Or.inl rfl))
        (pss_cons (ps_set (i := 2) scLLawCanonical.nd rfl (Or.inl rfl) (pe_ix ix_tup (pv 1) pe_int (fun _ _ => rfl)))
        (pss_cons (ps_set (i := 3) scLLawCanonical.nd rfl (Or.inl rfl) (pe_ix ix_list (pe_lc (own := [("part", 5)]) (by rfl) scLLawCanonical.nd (pi_tup (pv 2)) (blkOk_by (own := [("part", 5)]) (N := ["tool", "one", "normal", "first", "size", "part"]) (sc := defScope sLLawCanonical) (by decide +kernel)) (fun _ _ _ _ _ => (pg_name (i := 5) scLLawCanonical.nd rfl (Or.inl rfl))) (fun _ _ _ _ _ => pts_one (pt_cmpR op_ne (pv 5) pe_int (nomark _))) (fun _ _ _ _ _ => (pv 5))) pe_int (fun _ _ => rfl)))
        (pss_cons (ps_set (i := 4) scLLawCanonical.nd rfl (Or.inl rfl) pe_int)
        (C8.pss_cut (ps_for PassesOwn.never rfl (pi_tup (pv 2)) (pg_name (i := 5) scLLawCanonical.nd rfl (Or.inl rfl))
          (pss_one (ps_set (i := 4) scLLawCanonical.nd rfl (Or.inl rfl) (pe_call GLLawShared hr (by rfl) gLLawShared kpLLawShared bLLawShared .nil pass0 (pa_cons (pv 4) (pa_cons (pe_ifExp (pt_cmpR op_ge (pv 5) pe_int (nomark _)) (pv 5) (pe_un un_neg (pv 5))) pa_nil))))))
        (pss_one (ps_if (PW.pt (pw_or (pt_cmpR op_lt (pv 3) pe_int (nomark _)) (pw_or (pt_cmpR op_ne (pv 4) pe_int (nomark _)) (pw_or (pt_not (pt_val (pe_callB call_isi (by rfl) T.isinstance (by decide +kernel) (pa_cons (pv 2) (pa_cons (pe_bltn (v := .ty "tuple") (by rfl) T.tuple (by decide +kernel) rfl) pa_nil))))) (pw_or1 (pt_not (pt_val (pe_callB call_isi (by rfl) T.isinstance (by decide +kernel) (pa_cons (pe_ix ix_tup (pv 1) pe_int (fun _ _ => rfl)) (pa_cons (pe_bltn (v := .ty "bool") (by rfl) T.bool (by decide +kernel) rfl) pa_nil))))))))))
          (pss_one (ps_ret pe_bl))
          pss_nil)))))))
      (pss_one (ps_ret pe_bl))), ?_⟩
    have fin : ∀ H', Same H H' → Q (.bl true) H' := q
    refine ⟨fun σ' H' => (∃ v1 v2 v3 v4 v5 : Option V, σ' = [some (.ref tl), v1, v2, v3, v4, v5]) ∧ Same H H', ?_, ?_⟩
    · walk_at "go"
      refine ⟨⟨_, SqL.of hl⟩, for_list (K := K) (a := l) (xs := Ro ws) (fun i σ' H' => (∃ v1 v2 v3 v4 v5 : Option V, σ' = [some (.ref tl), v1, v2, v3, v4, v5]) ∧ Same H H') ⟨⟨_, _, _, _, _, rfl⟩, Same.refl _⟩ (fun i σ' H' _ h => h.2.seq (SqL.of hl)) ?_ (fun σ' H' h => h)⟩
      rintro i v σ' H1 hi ⟨⟨v1, v2, v3, v4, v5, rfl⟩, s1⟩
      obtain ⟨wx, rfl, gw⟩ := Ro_get hi
      have mw := List.mem_of_getElem? gw
      obtain ⟨w0, ⟨n, o, hS, hN, hO⟩, _⟩ := hws wx mw
      obtain ⟨hn, x1, x2, x3, hg, hd⟩ := hx _ (by rw [← eL]; exact List.mem_map_of_mem mw)
      obtain ⟨sd, nm, x, y, z, bb, ss, k⟩ := wx
      dsimp only at hS hN hO hn x1 x2 x3 hg hd
      have hS1 := same_tup s1 hS
      have hN1 := same_tup s1 hN
      walk_at "go"
      refine ⟨⟨_, hN1⟩, fun D hDn => ?_⟩
      refine lc_tup (K := K) (a := n) (xs := zs [x, y, z]) (fun i H2 => Same H1 H2 ∧ H2 D = some (.lst (zs (([x, y, z].take i).filter fun v => decide (v ≠ 0))))) ⟨same_upd hDn, upd_same⟩ (fun i H2 _ h => same_tup h.1 hN1) ?_ ?_
      · rintro i v H2 hi ⟨s2, e2⟩
        obtain ⟨zz, rfl, hz⟩ := zs_get hi
        refine ⟨rfl, ?_⟩
        walk_at "rd"
        refine ite2 (fun g => ?_) (fun g => ?_)
        · refine ⟨_, rfl, _, e2, fil_lt _ (by show 3 ≤ 1000; decide), fun b o e => ?_, ?_⟩
          · rw [upd_ne (ne_of_none e hDn)]
            exact s2 b o e
          · rw [upd_same, fil_snoc hz (ne_of_bang g)]
        · refine ⟨s2, ?_⟩
          rw [fil_same hz (eq_of_nobang g)]
          exact e2
      · rintro H2 ⟨s2, e2⟩
        have e2' : (zs (([x, y, z].take (zs [x, y, z]).length).filter fun v => decide (v ≠ 0))) = zs ([x, y, z].filter fun v => decide (v ≠ 0)) := rfl
        rw [e2'] at e2
        refine ⟨D, _, 0, _, rfl, rfl, SqL.of e2, atI_nat (j := 0) (fs3_get hn), ?_⟩
        have s12 := s1.trans s2
        have hN2 := same_tup s2 hN1
        have hS2 := same_tup s2 hS1
        refine ⟨fun σ' H' => (∃ v5 : Option V, σ' = [some (.ref tl), some (.ref sd), some (.ref n), some (.int (fs3 x y z)), some (.int ((g3 x y z : Nat) : Int)), v5]) ∧ H' = H2, ?_, ?_⟩
        · refine ⟨_, rfl, n, rfl, ⟨_, hN2⟩, for_tup (K := K) (a := n) (xs := zs [x, y, z]) (fun i σ' H' => (∃ v5 : Option V, σ' = [some (.ref tl), some (.ref sd), some (.ref n), some (.int (fs3 x y z)), some (.int ((gi x y z i : Nat) : Int)), v5]) ∧ H' = H2) ⟨⟨v5, rfl⟩, rfl⟩ ?_ ?_ ?_⟩
          · rintro i σ' H' _ ⟨_, rfl⟩
            exact hN2
          · rintro i v σ' H' hi ⟨⟨w5, rfl⟩, rfl⟩
            obtain ⟨zz, rfl, hz⟩ := zs_get hi
            obtain ⟨hi3, rfl⟩ := th_get hz
            have hb : (th x y z i).natAbs < 2 ^ 30 := th_all (P := Bz 30) x1 x2 x3 i
            have hb2 := gi_lt x1 x2 x3 i
            walk_at "rd"
            refine ite2 (fun g => ?_) (fun g => ?_)
            · have g0 : 0 ≤ th x y z i := of_decide_eq_true g
              refine ⟨_, rfl, gi x y z i, (th x y z i).natAbs, ?_, hb2, hb, ⟨_, rfl⟩, rfl⟩
              show [V.int _, V.int (th x y z i)] = _
              rw [show (((th x y z i).natAbs : Nat) : Int) = th x y z i by omega]
            · have g0 : ¬ 0 ≤ th x y z i := fun z => g (decide_eq_true z)
              refine ⟨_, rfl, _, rfl, gi x y z i, (th x y z i).natAbs, ?_, hb2, hb, ⟨_, rfl⟩, rfl⟩
              show [V.int _, V.int (-th x y z i)] = _
              rw [show (((th x y z i).natAbs : Nat) : Int) = -th x y z i by omega]
          · rintro σ' H' ⟨⟨w5, rfl⟩, rfl⟩
            refine ⟨⟨w5, ?_⟩, rfl⟩
            rw [show (zs [x, y, z]).length = 3 from rfl, gi_end]
        rintro σ' H' ⟨⟨w5, rfl⟩, rfl⟩
        walk_at "rd"
        rw [fs3_dn hn, hd]
        refine iteF ?_
        walk_at "rd"
        rw [hg]
        refine ite2 (fun g => absurd (by rfl) (ne_of_bang g)) (fun _ => ?_)
        refine ⟨.ref n, rfl, .ref n, .ty "tuple", .type "tuple", .type "tuple", true, rfl, .ty _, tyx_tup hN2, kit_ty (by decide +kernel), true, rfl, ?_⟩
        refine iteF ?_
        walk_at "go"
        refine ⟨.bl k, .ty "bool", .type "bool", .type "bool", true, rfl, .ty _, .base (.bl k), kit_ty (by decide +kernel), true, rfl, ?_⟩
        refine iteF ?_
        exact ⟨⟨_, _, _, _, _, rfl⟩, s12⟩
    · rintro σ' H' ⟨⟨v1, v2, v3, v4, v5, rfl⟩, s1⟩
      walk_at "go"
      exact fin H' s1
def spLLawVolume (K : PySem.W.Frag) : Sp := fun vs H Q _ => ∃ (a b c : Addr) (p q r : I3), vs = [.ref a, .ref b, .ref c] ∧ SqT K H a (i3 p) ∧ SqT K H b (i3 q) ∧ SqT K H c (i3 r) ∧ B3 40 p ∧ B3 40 q ∧ B3 40 r ∧ Q (.int (vo p q r)) H
theorem okLLawVolume {fLLawVolume : Addr} {fdLLawVolume : FuncData} (F : Fun K "_law_volume" "_law_volume" sLLawVolume fLLawVolume fdLLawVolume) (T : Txt mg) {aZERO : Addr} {aONE : Addr} (CT : Cons K mg aZERO aONE) {CPartError CNought : Addr} (EX : Exns K mg CPartError CNought) :
    FnOk P w K mg base CX0 1 fLLawVolume fdLLawVolume ["u", "v", "w"] (spLLawVolume K) := by
  refine F.ok scLLawVolume (fun vs H Q E h => ?_) (fun cdv A outer s H vs Q E hr h => ?_)
  · obtain ⟨a, b, c, ⟨p1, p2, p3⟩, ⟨q1, q2, q3⟩, ⟨r1, r2, r3⟩, rfl, hA, hB, hC, ⟨b1, b2, b3⟩, ⟨b4, b5, b6⟩, ⟨b7, b8, b9⟩, k⟩ := h
    rfl
  · obtain ⟨a, b, c, ⟨p1, p2, p3⟩, ⟨q1, q2, q3⟩, ⟨r1, r2, r3⟩, rfl, hA, hB, hC, ⟨b1, b2, b3⟩, ⟨b4, b5, b6⟩, ⟨b7, b8, b9⟩, k⟩ := h
    refine ⟨_, (pss_one (ps_ret (pe_op op_add (pe_op op_add (pe_op op_mulW (pe_ix ix_tup (pv 0) pe_int (fun _ _ => rfl)) (pe_op op_sub (pe_op op_mulW (pe_ix ix_tup (pv 1) pe_int (fun _ _ => rfl)) (pe_ix ix_tup (pv 2) pe_int (fun _ _ => rfl))) (pe_op op_mulW (pe_ix ix_tup (pv 1) pe_int (fun _ _ => rfl)) (pe_ix ix_tup (pv 2) pe_int (fun _ _ => rfl))))) (pe_op op_mulW (pe_ix ix_tup (pv 0) pe_int (fun _ _ => rfl)) (pe_op op_sub (pe_op op_mulW (pe_ix ix_tup (pv 1) pe_int (fun _ _ => rfl)) (pe_ix ix_tup (pv 2) pe_int (fun _ _ => rfl))) (pe_op op_mulW (pe_ix ix_tup (pv 1) pe_int (fun _ _ => rfl)) (pe_ix ix_tup (pv 2) pe_int (fun _ _ => rfl)))))) (pe_op op_mulW (pe_ix ix_tup (pv 0) pe_int (fun _ _ => rfl)) (pe_op op_sub (pe_op op_mulW (pe_ix ix_tup (pv 1) pe_int (fun _ _ => rfl)) (pe_ix ix_tup (pv 2) pe_int (fun _ _ => rfl))) (pe_op op_mulW (pe_ix ix_tup (pv 1) pe_int (fun _ _ => rfl)) (pe_ix ix_tup (pv 2) pe_int (fun _ _ => rfl)))))))), ?_⟩
    replace hA : SqT K H a (zs [p1, p2, p3]) := hA
    replace hB : SqT K H b (zs [q1, q2, q3]) := hB
    replace hC : SqT K H c (zs [r1, r2, r3]) := hC
    replace b1 : Bz 40 p1 := b1
    replace b2 : Bz 40 p2 := b2
    replace b3 : Bz 40 p3 := b3
    replace b4 : Bz 40 q1 := b4
    replace b5 : Bz 40 q2 := b5
    replace b6 : Bz 40 q3 := b6
    replace b7 : Bz 40 r1 := b7
    replace b8 : Bz 40 r2 := b8
    replace b9 : Bz 40 r3 := b9
    walk_at "go"
    exact k
def frU (d : Int) : I3 := (1 + d % 2, d / 2 % 3 - 1, d / 6 % 3 - 1)
def frV (d : Int) : I3 := (d / 18 % 3 - 1, 1 + d / 54 % 2, d / 108 % 3 - 1)
def frW (d : Int) : I3 := (d / 324 % 3 - 1, d / 972 % 3 - 1, if d / 2916 % 2 = 0 then -2 else 3)
def frF (d : Int) : I3 × I3 × I3 := if vo (frU d) (frV d) (frW d) = 0 then ((1, 0, 0), (0, 1, 0), (1, 1, -1)) else (frU d, frV d, frW d)
theorem bz2 {x : Int} (h1 : -4 < x) (h2 : x < 4) : Bz 2 x := by
  show x.natAbs < 4
  omega
theorem fr_bd (d : Int) : B3 2 (frU d) ∧ B3 2 (frV d) ∧ B3 2 (frW d) := by
  refine ⟨⟨bz2 ?_ ?_, bz2 ?_ ?_, bz2 ?_ ?_⟩, ⟨bz2 ?_ ?_, bz2 ?_ ?_, bz2 ?_ ?_⟩, ⟨bz2 ?_ ?_, bz2 ?_ ?_, ?_⟩⟩
  all_goals first
    | (show _ < _; unfold frU; dsimp only; omega)
    | (show _ < _; unfold frV; dsimp only; omega)
    | (show _ < _; unfold frW; dsimp only; omega)
    | (unfold frW; dsimp only; split <;> exact bz2 (by decide) (by decide))
theorem frF_ok (d : Int) : B3 2 (frF d).1 ∧ B3 2 (frF d).2.1 ∧ B3 2 (frF d).2.2 ∧ vo (frF d).1 (frF d).2.1 (frF d).2.2 ≠ 0 := by
  unfold frF
  split
  · refine ⟨?_, ?_, ?_, by decide⟩
    all_goals exact ⟨bz2 (by decide) (by decide), bz2 (by decide) (by decide), bz2 (by decide) (by decide)⟩
  · exact ⟨(fr_bd d).1, (fr_bd d).2.1, (fr_bd d).2.2, by assumption⟩
def FrAt (K : PySem.W.Frag) (H : Hp) (t : Addr) (f : I3 × I3 × I3) : Prop := ∃ a b c : Addr, SqT K H t [.ref a, .ref b, .ref c] ∧ SqT K H a (i3 f.1) ∧ SqT K H b (i3 f.2.1) ∧ SqT K H c (i3 f.2.2)
theorem FrAt.up {K : PySem.W.Frag} {H H' : Hp} {t : Addr} {f : I3 × I3 × I3} (s : Same H H') (h : FrAt K H t f) : FrAt K H' t f := by
  obtain ⟨a, b, c, h1, h2, h3, h4⟩ := h
  exact ⟨a, b, c, same_tup s h1, same_tup s h2, same_tup s h3, same_tup s h4⟩
def spLLawFrame (K : PySem.W.Frag) : Sp := fun vs H Q _ => ∃ d : Int, vs = [.int d] ∧ ∀ (H' : Hp) (t : Addr), Same H H' → FrAt K H' t (frF d) → Q (.ref t) H'
theorem okLLawFrame {fLLawFrame : Addr} {fdLLawFrame : FuncData} (F : Fun K "_law_frame" "_law_frame" sLLawFrame fLLawFrame fdLLawFrame) (T : Txt mg) {aZERO : Addr} {aONE : Addr} (CT : Cons K mg aZERO aONE) {CPartError CNought : Addr} (EX : Exns K mg CPartError CNought)
    {fLLawVolume : Addr} {fdLLawVolume : FuncData} (GLLawVolume : FnOk P w K mg base CX0 1 fLLawVolume fdLLawVolume ["u", "v", "w"] (spLLawVolume K)) (gLLawVolume : mg "_law_volume" = some (.ref fLLawVolume)) (kpLLawVolume : PySem.W.keepIn K (.ref fLLawVolume) = true) (bLLawVolume : Binds K fdLLawVolume ["u", "v", "w"] []) :
    FnOk P w K mg base CX0 2 fLLawFrame fdLLawFrame ["draw"] (spLLawFrame K) := by
  refine F.ok scLLawFrame (fun vs H Q E h => ?_) (fun cdv A outer s H vs Q E hr h => ?_)
  · obtain ⟨d, rfl, k⟩ := h
    rfl
  · obtain ⟨d, rfl, k⟩ := h
    refine ⟨_, (pss_cons (ps_set (i := 1) scLLawFrame.nd rfl (Or.inl rfl) (pe_tup (pa_cons (pe_op op_add pe_int (pe_op op_mod (pe_callTy call_int1 (by rfl) T.int (by decide +kernel) (pa_cons (pv 0) pa_nil)) pe_int)) (pa_cons (pe_op op_sub (pe_op op_mod (pe_callTy call_int1 (by rfl) T.int (by decide +kernel) (pa_cons (pe_op op_fdiv (pv 0) pe_int) pa_nil)) pe_int) pe_int) (pa_cons (pe_op op_sub (pe_op op_mod (pe_callTy call_int1 (by rfl) T.int (by decide +kernel) (pa_cons (pe_op op_fdiv (pv 0) pe_int) pa_nil)) pe_int) pe_int) pa_nil)))))
      (pss_cons (ps_set (i := 2) scLLawFrame.nd rfl (Or.inl rfl) (pe_tup (pa_cons (pe_op op_sub (pe_op op_mod (pe_callTy call_int1 (by rfl) T.int (by decide +kernel) (pa_cons (pe_op op_fdiv (pv 0) pe_int) pa_nil)) pe_int) pe_int) (pa_cons (pe_op op_add pe_int (pe_op op_mod (pe_callTy call_int1 (by rfl) T.int (by decide +kernel) (pa_cons (pe_op op_fdiv (pv 0) pe_int) pa_nil)) pe_int)) (pa_cons (pe_op op_sub (pe_op op_mod (pe_callTy call_int1 (by rfl) T.int (by decide +kernel) (pa_cons (pe_op op_fdiv (pv 0) pe_int) pa_nil)) pe_int) pe_int) pa_nil)))))
      (C8.pss_cut (ps_set (i := 3) scLLawFrame.nd rfl (Or.inl rfl) (pe_tup (pa_cons (pe_op op_sub (pe_op op_mod (pe_callTy call_int1 (by rfl) T.int (by decide +kernel) (pa_cons (pe_op op_fdiv (pv 0) pe_int) pa_nil)) pe_int) pe_int) (pa_cons (pe_op op_sub (pe_op op_mod (pe_callTy call_int1 (by rfl) T.int (by decide +kernel) (pa_cons (pe_op op_fdiv (pv 0) pe_int) pa_nil)) pe_int) pe_int) (pa_cons (pe_ifExp (pt_cmpR op_eq (pe_op op_mod (pe_callTy call_int1 (by rfl) T.int (by decide +kernel) (pa_cons (pe_op op_fdiv (pv 0) pe_int) pa_nil)) pe_int) pe_int (nomark _)) (pe_un un_neg pe_int) pe_int) pa_nil)))))
      (pss_cons (ps_if (pt_cmpR op_eq (pe_call GLLawVolume hr (by rfl) gLLawVolume kpLLawVolume bLLawVolume .nil pass0 (pa_cons (pv 1) (pa_cons (pv 2) (pa_cons (pv 3) pa_nil)))) pe_int (nomark _))
        (pss_one (ps_ret (pe_tup (pa_cons (pe_tup (pa_cons pe_int (pa_cons pe_int (pa_cons pe_int pa_nil)))) (pa_cons (pe_tup (pa_cons pe_int (pa_cons pe_int (pa_cons pe_int pa_nil)))) (pa_cons (pe_tup (pa_cons pe_int (pa_cons pe_int (pa_cons (pe_un un_neg pe_int) pa_nil)))) pa_nil))))))
        pss_nil)
      (pss_one (ps_ret (pe_tup (pa_cons (pv 1) (pa_cons (pv 2) (pa_cons (pv 3) pa_nil)))))))))), ?_⟩
    obtain ⟨f1, f2, f3⟩ := fr_bd d
    walk_at "go"
    refine ⟨tn rfl, fun t1 nt1 => ?_⟩
    generalize hUt1 : upd _ _ (HO.tup _) = H1
    have s1 := same_hu hUt1 nt1
    have eh1 := at_hu hUt1
    have h1 := SqT.of (K := K) eh1
    clear hUt1
    walk_at "go"
    refine ⟨tn rfl, fun t2 nt2 => ?_⟩
    generalize hUt2 : upd _ _ (HO.tup _) = H2
    have s2 := same_hu hUt2 nt2
    have eh2 := at_hu hUt2
    have h2 := SqT.of (K := K) eh2
    clear hUt2
    refine ⟨fun σ' H' => ∃ t3 : Addr, σ' = [some (.int d), some (.ref t1), some (.ref t2), some (.ref t3)] ∧ Same H2 H' ∧ SqT K H' t3 (i3 (frW d)), ?_, ?_⟩
    · walk_at "st"
      walk_at "go"
      refine ite2 (fun g => ?_) (fun g => ?_)
      · have eW : frW d = (d / 324 % 3 - 1, d / 972 % 3 - 1, -2) := by
          unfold frW
          rw [if_pos (V.int.inj (of_decide_eq_true g))]
        walk_at "go"
        refine ⟨tn rfl, fun t3 nt3 => ?_⟩
        generalize hUt3 : upd _ _ (HO.tup _) = H3
        have s3 := same_hu hUt3 nt3
        have eh3 := at_hu hUt3
        have h3 := SqT.of (K := K) eh3
        clear hUt3
        exact ⟨t3, rfl, s3, by rw [eW]; exact h3⟩
      · have eW : frW d = (d / 324 % 3 - 1, d / 972 % 3 - 1, 3) := by
          unfold frW
          rw [if_neg (fun z => g (decide_eq_true (congrArg V.int z)))]
        walk_at "go"
        refine ⟨tn rfl, fun t3 nt3 => ?_⟩
        generalize hUt3 : upd _ _ (HO.tup _) = H3
        have s3 := same_hu hUt3 nt3
        have eh3 := at_hu hUt3
        have h3 := SqT.of (K := K) eh3
        clear hUt3
        exact ⟨t3, rfl, s3, by rw [eW]; exact h3⟩
    · rintro σ' H3 ⟨t3, rfl, s3, h3⟩
      have h13 := same_tup (s2.trans s3) h1
      have h23 := same_tup s3 h2
      walk_at "go"
      refine ⟨t1, t2, t3, frU d, frV d, frW d, rfl, h13, h23, h3, f1.up (by decide), f2.up (by decide), f3.up (by decide), ?_⟩
      unfold frF at k
      walk_at "go"
      refine ite2 (fun g => ?_) (fun g => ?_)
      · rw [if_pos (V.int.inj (of_decide_eq_true g))] at k
        walk_at "go"
        refine ⟨tn rfl, fun t4 nt4 => ?_⟩
        generalize hUt4 : upd _ _ (HO.tup _) = H4
        have s4 := same_hu hUt4 nt4
        have eh4 := at_hu hUt4
        have h4 := SqT.of (K := K) eh4
        clear hUt4
        walk_at "go"
        refine ⟨tn rfl, fun t5 nt5 => ?_⟩
        generalize hUt5 : upd _ _ (HO.tup _) = H5
        have s5 := same_hu hUt5 nt5
        have eh5 := at_hu hUt5
        have h5 := SqT.of (K := K) eh5
        clear hUt5
        walk_at "go"
        refine ⟨tn rfl, fun t6 nt6 => ?_⟩
        generalize hUt6 : upd _ _ (HO.tup _) = H6
        have s6 := same_hu hUt6 nt6
        have eh6 := at_hu hUt6
        have h6 := SqT.of (K := K) eh6
        clear hUt6
        walk_at "go"
        refine ⟨tn rfl, fun t7 nt7 => ?_⟩
        generalize hUt7 : upd _ _ (HO.tup _) = H7
        have s7 := same_hu hUt7 nt7
        have eh7 := at_hu hUt7
        have h7 := SqT.of (K := K) eh7
        clear hUt7
        exact k H7 t7 (s1.trans (s2.trans (s3.trans (s4.trans (s5.trans (s6.trans s7)))))) ⟨t4, t5, t6, h7, same_tup (s5.trans (s6.trans s7)) h4, same_tup (s6.trans s7) h5, same_tup s7 h6⟩
      · rw [if_neg (fun z => g (decide_eq_true (congrArg V.int z)))] at k
        walk_at "go"
        refine ⟨tn rfl, fun t4 nt4 => ?_⟩
        generalize hUt4 : upd _ _ (HO.tup _) = H4
        have s4 := same_hu hUt4 nt4
        have eh4 := at_hu hUt4
        have h4 := SqT.of (K := K) eh4
        clear hUt4
        exact k H4 t4 (s1.trans (s2.trans (s3.trans s4))) ⟨t1, t2, t3, h4, same_tup s4 h13, same_tup s4 h23, same_tup s4 h3⟩
def vN (d : Int) : Int := if d % 2 = 1 then d % 13 - 6 else d % 7 - 3
def vD (d : Int) : Int := if d % 2 = 1 then 2 else 1
def vS (d : Int) : Int := if d % 2 = 1 then d / 13 % 3 - 1 else 0
def RwAt (K : PySem.W.Frag) (H : Hp) (t : Addr) (n dd s : Int) : Prop := ∃ a q b : Addr, SqT K H t [.ref a, .ref q] ∧ SqT K H a [.int n, .int dd] ∧ SqT K H q [.ref b] ∧ SqT K H b [.int s, .int 1]
def valV2 (d : Int) : Rat × Rat := (Rat.divInt (vN d) (vD d), ((vS d : Int) : Rat))
theorem val_small (d : Int) : (∃ N : Int, (valV2 d).1 * 2 = (N : Rat) ∧ N.natAbs ≤ 6) ∧ (∃ N : Int, (valV2 d).2 = (N : Rat) ∧ N.natAbs ≤ 1) ∧ Bd 3 (valV2 d).1 ∧ Bd 3 (valV2 d).2 := by
  unfold valV2 vN vD vS
  by_cases h : d % 2 = 1
  · rw [if_pos h, if_pos h, if_pos h]
    refine ⟨⟨d % 13 - 6, ?_, by omega⟩, ⟨_, rfl, by omega⟩, bd_of (by decide) (by show _ < 8; omega) (by decide), bd_int (by show _ < 8; omega) (by decide)⟩
    rw [Rat.divInt_eq_div]
    show _ / ((2 : Int) : Rat) * 2 = _
    have : ((2 : Int) : Rat) = 2 := rfl
    rw [this]
    grind
  · rw [if_neg h, if_neg h, if_neg h]
    refine ⟨⟨(d % 7 - 3) * 2, ?_, by omega⟩, ⟨0, rfl, by decide⟩, bd_of (by decide) (by show _ < 8; omega) (by decide), bd_int (by show _ < 8; decide) (by decide)⟩
    rw [div_one, Rat.intCast_mul]
    rfl
def spLLawValue (K : PySem.W.Frag) : Sp := fun vs H Q _ => ∃ d : Int, vs = [.int d] ∧ ∀ (H' : Hp) (t : Addr), Same H H' → RwAt K H' t (vN d) (vD d) (vS d) → Q (.ref t) H'
theorem okLLawValue {fLLawValue : Addr} {fdLLawValue : FuncData} (F : Fun K "_law_value" "_law_value" sLLawValue fLLawValue fdLLawValue) (T : Txt mg) {aZERO : Addr} {aONE : Addr} (CT : Cons K mg aZERO aONE) {CPartError CNought : Addr} (EX : Exns K mg CPartError CNought) :
    FnOk P w K mg base CX0 1 fLLawValue fdLLawValue ["draw"] (spLLawValue K) := by
  refine F.ok scLLawValue (fun vs H Q E h => ?_) (fun cdv A outer s H vs Q E hr h => ?_)
  · obtain ⟨d, rfl, k⟩ := h
    rfl
  · obtain ⟨d, rfl, k⟩ := h
    refine ⟨_, (pss_one (ps_ret (pe_ifExp (pt_cmpR op_eq (pe_op op_mod (pe_callTy call_int1 (by rfl) T.int (by decide +kernel) (pa_cons (pv 0) pa_nil)) pe_int) pe_int (nomark _)) (pe_tup (pa_cons (pe_tup (pa_cons (pe_op op_sub (pe_op op_mod (pe_callTy call_int1 (by rfl) T.int (by decide +kernel) (pa_cons (pv 0) pa_nil)) pe_int) pe_int) (pa_cons pe_int pa_nil))) (pa_cons (pe_tup (pa_cons (pe_tup (pa_cons (pe_op op_sub (pe_op op_mod (pe_callTy call_int1 (by rfl) T.int (by decide +kernel) (pa_cons (pe_op op_fdiv (pv 0) pe_int) pa_nil)) pe_int) pe_int) (pa_cons pe_int pa_nil))) pa_nil)) pa_nil))) (pe_tup (pa_cons (pe_tup (pa_cons (pe_op op_sub (pe_op op_mod (pe_callTy call_int1 (by rfl) T.int (by decide +kernel) (pa_cons (pv 0) pa_nil)) pe_int) pe_int) (pa_cons pe_int pa_nil))) (pa_cons (pe_tup (pa_cons (pe_tup (pa_cons pe_int (pa_cons pe_int pa_nil))) pa_nil)) pa_nil)))))), ?_⟩
    unfold vN vD vS at k
    walk_at "go"
    refine ite2 (fun g => ?_) (fun g => ?_)
    · have g0 : d % 2 = 1 := V.int.inj (of_decide_eq_true g)
      rw [if_pos g0, if_pos g0, if_pos g0] at k
      walk_at "go"
      refine ⟨tn rfl, fun t1 nt1 => ?_⟩
      generalize hUt1 : upd _ _ (HO.tup _) = H1
      have s1 := same_hu hUt1 nt1
      have eh1 := at_hu hUt1
      have h1 := SqT.of (K := K) eh1
      clear hUt1
      walk_at "go"
      refine ⟨tn rfl, fun t2 nt2 => ?_⟩
      generalize hUt2 : upd _ _ (HO.tup _) = H2
      have s2 := same_hu hUt2 nt2
      have eh2 := at_hu hUt2
      have h2 := SqT.of (K := K) eh2
      clear hUt2
      walk_at "go"
      refine ⟨tn rfl, fun t3 nt3 => ?_⟩
      generalize hUt3 : upd _ _ (HO.tup _) = H3
      have s3 := same_hu hUt3 nt3
      have eh3 := at_hu hUt3
      have h3 := SqT.of (K := K) eh3
      clear hUt3
      walk_at "go"
      refine ⟨tn rfl, fun t4 nt4 => ?_⟩
      generalize hUt4 : upd _ _ (HO.tup _) = H4
      have s4 := same_hu hUt4 nt4
      have eh4 := at_hu hUt4
      have h4 := SqT.of (K := K) eh4
      clear hUt4
      exact k H4 t4 (s1.trans (s2.trans (s3.trans s4))) ⟨t1, t3, t2, h4, same_tup (s2.trans (s3.trans s4)) h1, same_tup s4 h3, same_tup (s3.trans s4) h2⟩
    · have g0 : ¬ d % 2 = 1 := fun z => g (decide_eq_true (congrArg V.int z))
      rw [if_neg g0, if_neg g0, if_neg g0] at k
      walk_at "go"
      refine ⟨tn rfl, fun t1 nt1 => ?_⟩
      generalize hUt1 : upd _ _ (HO.tup _) = H1
      have s1 := same_hu hUt1 nt1
      have eh1 := at_hu hUt1
      have h1 := SqT.of (K := K) eh1
      clear hUt1
      walk_at "go"
      refine ⟨tn rfl, fun t2 nt2 => ?_⟩
      generalize hUt2 : upd _ _ (HO.tup _) = H2
      have s2 := same_hu hUt2 nt2
      have eh2 := at_hu hUt2
      have h2 := SqT.of (K := K) eh2
      clear hUt2
      walk_at "go"
      refine ⟨tn rfl, fun t3 nt3 => ?_⟩
      generalize hUt3 : upd _ _ (HO.tup _) = H3
      have s3 := same_hu hUt3 nt3
      have eh3 := at_hu hUt3
      have h3 := SqT.of (K := K) eh3
      clear hUt3
      walk_at "go"
      refine ⟨tn rfl, fun t4 nt4 => ?_⟩
      generalize hUt4 : upd _ _ (HO.tup _) = H4
      have s4 := same_hu hUt4 nt4
      have eh4 := at_hu hUt4
      have h4 := SqT.of (K := K) eh4
      clear hUt4
      exact k H4 t4 (s1.trans (s2.trans (s3.trans s4))) ⟨t1, t3, t2, h4, same_tup (s2.trans (s3.trans s4)) h1, same_tup s4 h3, same_tup (s3.trans s4) h2⟩
def spLLawLow (K : PySem.W.Frag) : Sp := fun vs H Q _ => ∃ (d : Int) (t : Addr), vs = [.ref t] ∧ RwAt K H t (vN d) (vD d) (vS d) ∧ ∀ (H' : Hp) (t : Addr), Same H H' → V1 K H' t (valV2 d) → Q (.ref t) H'
theorem okLLawLow {fLLawLow : Addr} {fdLLawLow : FuncData} (F : Fun K "_law_low" "_law_low" sLLawLow fLLawLow fdLLawLow) (T : Txt mg) {aZERO : Addr} {aONE : Addr} (CT : Cons K mg aZERO aONE) {CPartError CNought : Addr} (EX : Exns K mg CPartError CNought)
    {fLLawFraction : Addr} {fdLLawFraction : FuncData} (GLLawFraction : FnOk P w K mg base CX0 1 fLLawFraction fdLLawFraction ["number", "divisor"] (spLLawFraction K)) (gLLawFraction : mg "_law_fraction" = some (.ref fLLawFraction)) (kpLLawFraction : PySem.W.keepIn K (.ref fLLawFraction) = true) (bLLawFraction : Binds K fdLLawFraction ["number", "divisor"] []) :
    FnOk P w K mg base CX0 2 fLLawLow fdLLawLow ["found"] (spLLawLow K) := by
  refine F.ok scLLawLow (fun vs H Q E h => ?_) (fun cdv A outer s H vs Q E hr h => ?_)
  · obtain ⟨d, t, rfl, ⟨a, q, b, h1, h2, h3, h4⟩, k⟩ := h
    rfl
  · obtain ⟨d, t, rfl, ⟨a, q, b, h1, h2, h3, h4⟩, k⟩ := h
    refine ⟨_, (pss_one (ps_ret (pe_tup (pa_cons (pe_call GLLawFraction hr (by rfl) gLLawFraction kpLLawFraction bLLawFraction .nil pass0 (pa_cons (pe_ix ix_tup (pe_ix ix_tup (pv 0) pe_int (fun _ _ => rfl)) pe_int (fun _ _ => rfl)) (pa_cons (pe_ix ix_tup (pe_ix ix_tup (pv 0) pe_int (fun _ _ => rfl)) pe_int (fun _ _ => rfl)) pa_nil))) (pa_cons (pe_ix ix_tup (pv 0) pe_int (fun _ _ => rfl)) pa_nil))))), ?_⟩
    have hd : vD d ≠ 0 := by unfold vD; split <;> decide
    have hd2 : (vD d).natAbs < 2 ^ 1800 := Bz.up (n := 3) (m := 1800) (by show (vD d).natAbs < 8; unfold vD; split <;> decide) (by decide)
    have hn2 : (vN d).natAbs < 2 ^ 1800 := Bz.up (n := 3) (m := 1800) (by show (vN d).natAbs < 8; unfold vN; split <;> omega) (by decide)
    walk_at "go"
    refine fun H1 t1 s1 e1 => ?_
    walk_at "go"
    refine ⟨tn rfl, fun t2 nt2 => ?_⟩
    generalize hUt2 : upd _ _ (HO.tup _) = H2
    have s2 := same_hu hUt2 nt2
    have ey2 := at_hu hUt2
    have y2 := SqT.of (K := K) ey2
    clear hUt2
    exact k H2 t2 (s1.trans s2) (V1.mk y2 ((fx_rd hd e1).same s2) (same_tup (s1.trans s2) h3) (same_tup (s1.trans s2) h4))
theorem nm4 (j : Nat) (h : j < 4) : atI (Str.ofString "abcd").cps.toList (j : Int) = some (97 + j : Nat) := by
  have : ∀ j : Nat, j < 4 → atI (Str.ofString "abcd").cps.toList (j : Int) = some (97 + j : Nat) := by decide +kernel
  exact this j h
theorem cdiv_small {i j : Int} (h : 0 < j) (h2 : j < 1000) : CDiv i j := ⟨h, by omega⟩
def lfR (d : Int) (k : Nat) : Bool := !decide (d / (3 + (k : Int)) % 2 = 0)
def lfE (d : Int) (k : Nat) : Bool := !decide (0 < d / (7 + (k : Int)) % 3)
def arB (d : Int) : Nat → Ar
  | 0 => .leaf false (nmS 0)
  | k + 1 => .two (lfE d (k + 1)) (arB d k) (.leaf (lfR d (k + 1)) (nmS (k + 1)))
def arF (m : Nat) (d : Int) : Ar := if d % 4 = 0 then .no (arB d (m - 1)) else arB d (m - 1)
theorem arB_deep (d : Int) : ∀ k, (arB d k).deep ≤ k + 1
  | 0 => Nat.le_refl 1
  | k + 1 => by
    have := arB_deep d k
    show max _ 1 + 1 ≤ _
    omega
theorem arB_all (d : Int) {m : Nat} : ∀ k, k < m → (arB d k).all fun n => ∃ j, j < m ∧ n = nmS j
  | 0, h => ⟨0, h, rfl⟩
  | k + 1, h => ⟨arB_all d k (by omega), k + 1, h, rfl⟩
theorem arF_ok {m : Nat} (d : Int) (h : 1 ≤ m) : (arF m d).deep ≤ m + 1 ∧ (arF m d).all fun n => ∃ j, j < m ∧ n = nmS j := by
  have h1 := arB_deep d (m - 1)
  have h2 := arB_all d (m := m) (m - 1) (by omega)
  unfold arF
  split
  · exact ⟨by show (arB d (m - 1)).deep + 1 ≤ _; omega, h2⟩
  · exact ⟨by omega, h2⟩
theorem lrS_ite (d : Int) (k : Nat) : (if d / (3 + (k : Int)) % 2 = 0 then V.str "left" else V.str "right") = V.str (lrS (lfR d k)) := by
  unfold lfR lrS
  split
  · rw [decide_eq_true (by assumption)]; rfl
  · rw [decide_eq_false (by assumption)]; rfl
def spLLawArea (K : PySem.W.Frag) : Sp := fun vs H Q _ => ∃ (m : Nat) (d : Int), vs = [.int m, .int d] ∧ 1 ≤ m ∧ m ≤ 4 ∧ ∀ (H' : Hp) (t : Addr), Same H H' → ArAt K H' t (arF m d) → Q (.ref t) H'
theorem okLLawArea {fLLawArea : Addr} {fdLLawArea : FuncData} (F : Fun K "_law_area" "_law_area" sLLawArea fLLawArea fdLLawArea) (T : Txt mg) {aZERO : Addr} {aONE : Addr} (CT : Cons K mg aZERO aONE) {CPartError CNought : Addr} (EX : Exns K mg CPartError CNought) :
    FnOk P w K mg base CX0 1 fLLawArea fdLLawArea ["many", "draw"] (spLLawArea K) := by
  refine F.ok scLLawArea (fun vs H Q E h => ?_) (fun cdv A outer s H vs Q E hr h => ?_)
  · obtain ⟨m, d, rfl, h1, h4, q⟩ := h
    rfl
  · obtain ⟨m, d, rfl, h1, h4, q⟩ := h
    refine ⟨_, (pss_cons (ps_set (i := 2) scLLawArea.nd rfl (Or.inl rfl) (pe_tup (pa_cons pe_str (pa_cons (pe_ix ix_str pe_str pe_int (fun _ _ => rfl)) pa_nil))))
      (C8.pss_cut (ps_for PassesOwn.never rfl (pi_range2 rfl T.range (pa_cons pe_int (pa_cons (pv 0) pa_nil))) (pg_name (i := 3) scLLawArea.nd rfl (Or.inl rfl))
        (C8.pss_cut (ps_set (i := 4) scLLawArea.nd rfl (Or.inl rfl) (pe_tup (pa_cons (pe_ifExp (pt_cmpR op_eq (pe_op op_mod (pe_callTy call_int1 (by rfl) T.int (by decide +kernel) (pa_cons (pe_op op_fdiv (pv 1) (pe_op op_add pe_int (pv 3))) pa_nil)) pe_int) pe_int (nomark _)) pe_str pe_str) (pa_cons (pe_ix ix_str pe_str (pv 3) (fun _ _ => rfl)) pa_nil))))
        (pss_one (ps_set (i := 2) scLLawArea.nd rfl (Or.inl rfl) (pe_tup (pa_cons (pe_ifExp (pt_cmpR op_gt (pe_op op_mod (pe_callTy call_int1 (by rfl) T.int (by decide +kernel) (pa_cons (pe_op op_fdiv (pv 1) (pe_op op_add pe_int (pv 3))) pa_nil)) pe_int) pe_int (nomark _)) pe_str pe_str) (pa_cons (pv 2) (pa_cons (pv 4) pa_nil))))))))
      (pss_one (ps_ret (pe_ifExp (pt_cmpR op_eq (pe_op op_mod (pe_callTy call_int1 (by rfl) T.int (by decide +kernel) (pa_cons (pv 1) pa_nil)) pe_int) pe_int (nomark _)) (pe_tup (pa_cons pe_str (pa_cons (pv 2) pa_nil))) (pv 2)))))), ?_⟩
    walk_at "go"
    refine ⟨_, _, _, rfl, rfl, by decide +kernel, nm4 0 (by decide), ?_⟩
    walk_at "go"
    refine ⟨tn rfl, fun t1 nt1 => ?_⟩
    generalize hUt1 : upd _ _ (HO.tup _) = H1
    have s1 := same_hu hUt1 nt1
    have ey1 := at_hu hUt1
    have y1 := SqT.of (K := K) ey1
    clear hUt1
    refine ⟨fun σ' H' => ∃ (t : Addr) (v3 v4 : Option V), σ' = [some (.int m), some (.int d), some (.ref t), v3, v4] ∧ Same H H' ∧ ArAt K H' t (arB d (m - 1)), ?_, ?_⟩
    · walk_at "go"
      refine ⟨by omega, for_range (n := ((m : Int) - 1).toNat) (fun k σ' H' => ∃ (t : Addr) (v3 v4 : Option V), σ' = [some (.int m), some (.int d), some (.ref t), v3, v4] ∧ Same H H' ∧ ArAt K H' t (arB d k)) ⟨t1, none, none, rfl, s1, y1⟩ ?_ ?_⟩
      · rintro k σ' H2 hk ⟨t2, v3, v4, rfl, s2, hA⟩
        have hk4 : k + 1 < 4 := by omega
        rw [show (1 : Int) + (k : Int) = ((k + 1 : Nat) : Int) by omega]
        refine ⟨fun σ' H' => ∃ u : Addr, σ' = [some (.int m), some (.int d), some (.ref t2), some (.int ((k + 1 : Nat) : Int)), some (.ref u)] ∧ Same H2 H' ∧ ArAt K H' u (.leaf (lfR d (k + 1)) (nmS (k + 1))), ?_, ?_⟩
        · walk_at "go"
          refine ⟨cdiv_small (by omega) (by omega), ?_⟩
          walk_at "go"
          refine ite2 (fun g => ?_) (fun g => ?_)
          · have eL : lfR d (k + 1) = false := by
              unfold lfR
              rw [decide_eq_true (V.int.inj (of_decide_eq_true g))]
              rfl
            rw [eL]
            walk_at "go"
            refine ⟨_, _, _, rfl, rfl, by decide +kernel, nm4 (k + 1) hk4, ?_⟩
            walk_at "go"
            refine ⟨tn rfl, fun t5 nt5 => ?_⟩
            generalize hUt5 : upd _ _ (HO.tup _) = H5
            have s5 := same_hu hUt5 nt5
            have ey5 := at_hu hUt5
            have y5 := SqT.of (K := K) ey5
            clear hUt5
            exact ⟨t5, rfl, s5, y5⟩
          · have eL : lfR d (k + 1) = true := by
              unfold lfR
              rw [decide_eq_false (fun z => g (decide_eq_true (congrArg V.int z)))]
              rfl
            rw [eL]
            walk_at "go"
            refine ⟨_, _, _, rfl, rfl, by decide +kernel, nm4 (k + 1) hk4, ?_⟩
            walk_at "go"
            refine ⟨tn rfl, fun t5 nt5 => ?_⟩
            generalize hUt5 : upd _ _ (HO.tup _) = H5
            have s5 := same_hu hUt5 nt5
            have ey5 := at_hu hUt5
            have y5 := SqT.of (K := K) ey5
            clear hUt5
            exact ⟨t5, rfl, s5, y5⟩
        · rintro σ' H3 ⟨u, rfl, s3, hu⟩
          walk_at "go"
          refine ⟨cdiv_small (by omega) (by omega), ?_⟩
          walk_at "go"
          refine ite2 (fun g => ?_) (fun g => ?_)
          · have eL : lfE d (k + 1) = false := by
              unfold lfE
              rw [decide_eq_true (of_decide_eq_true g)]
              rfl
            walk_at "go"
            refine ⟨tn rfl, fun t5 nt5 => ?_⟩
            generalize hUt5 : upd _ _ (HO.tup _) = H5
            have s5 := same_hu hUt5 nt5
            have ey5 := at_hu hUt5
            have y5 := SqT.of (K := K) ey5
            clear hUt5
            refine ⟨t5, _, _, rfl, s2.trans (s3.trans s5), t2, u, ?_, hA.up (s3.trans s5), hu.up s5⟩
            rw [eL]
            exact y5
          · have eL : lfE d (k + 1) = true := by
              unfold lfE
              rw [decide_eq_false (fun z => g (decide_eq_true z))]
              rfl
            walk_at "go"
            refine ⟨tn rfl, fun t5 nt5 => ?_⟩
            generalize hUt5 : upd _ _ (HO.tup _) = H5
            have s5 := same_hu hUt5 nt5
            have ey5 := at_hu hUt5
            have y5 := SqT.of (K := K) ey5
            clear hUt5
            refine ⟨t5, _, _, rfl, s2.trans (s3.trans s5), t2, u, ?_, hA.up (s3.trans s5), hu.up s5⟩
            rw [eL]
            exact y5
      · rintro σ' H2 ⟨t2, v3, v4, rfl, s2, hA⟩
        refine ⟨t2, v3, v4, rfl, s2, ?_⟩
        rw [show ((m : Int) - 1).toNat = m - 1 by omega] at hA
        exact hA
    · rintro σ' H' ⟨t, v3, v4, rfl, s2, hA⟩
      unfold arF at q
      walk_at "go"
      refine ite2 (fun g => ?_) (fun g => ?_)
      · have g0 : d % 4 = 0 := V.int.inj (of_decide_eq_true g)
        rw [if_pos g0] at q
        walk_at "go"
        refine ⟨tn rfl, fun t3 nt3 => ?_⟩
        generalize hUt3 : upd _ _ (HO.tup _) = H3
        have s3 := same_hu hUt3 nt3
        have ey3 := at_hu hUt3
        have y3 := SqT.of (K := K) ey3
        clear hUt3
        exact q H3 t3 (s2.trans s3) ⟨t, y3, hA.up s3⟩
      · rw [if_neg (fun z => g (decide_eq_true (congrArg V.int z)))] at q
        walk_at "go"
        exact q H' t s2 hA
def LdAt (H : Hp) (d : Addr) (f : Str → Bool) (R : Str → Prop) : Prop := ∃ kvs : List (Key × V), H d = some (.dK kvs) ∧ ∀ n, R n → valV kvs (Sum.inr n) = some (.bl (f n))
def spLLawAreaHolds (K : PySem.W.Frag) (n : Nat) : Sp := fun vs H Q _ => ∃ (t d : Addr) (a : Ar) (f : Str → Bool) (R : Str → Prop), vs = [.ref t, .ref d] ∧ ArAt K H t a ∧ LdAt H d f R ∧ a.all R ∧ a.deep ≤ n ∧ Q (.bl (a.holds f)) H
theorem okLLawAreaHolds {n : Nat} {fLLawAreaHolds : Addr} {fdLLawAreaHolds : FuncData} (F : Fun K "_law_area_holds" "_law_area_holds" sLLawAreaHolds fLLawAreaHolds fdLLawAreaHolds) (T : Txt mg) {aZERO : Addr} {aONE : Addr} (CT : Cons K mg aZERO aONE) {CPartError CNought : Addr} (EX : Exns K mg CPartError CNought)
    (GLLawAreaHolds : FnOk P w K mg base CX0 (1 + n) fLLawAreaHolds fdLLawAreaHolds ["area", "left"] (spLLawAreaHolds K n)) (gLLawAreaHolds : mg "_law_area_holds" = some (.ref fLLawAreaHolds)) (kpLLawAreaHolds : PySem.W.keepIn K (.ref fLLawAreaHolds) = true) (bLLawAreaHolds : Binds K fdLLawAreaHolds ["area", "left"] []) :
    FnOk P w K mg base CX0 (1 + n + 1) fLLawAreaHolds fdLLawAreaHolds ["area", "left"] (spLLawAreaHolds K (n + 1)) := by
  refine F.ok scLLawAreaHolds (fun vs H Q E h => ?_) (fun cdv A outer s H vs Q E hr h => ?_)
  · obtain ⟨t, d, a, f, R, rfl, hA, hL, hR, hn, q⟩ := h
    rfl
  · obtain ⟨t, d, a, f, R, rfl, hA, hL, hR, hn, q⟩ := h
    refine ⟨_, (pss_cons (ps_if (pt_cmpR op_eq (pe_ix ix_tup (pv 0) pe_int (fun _ _ => rfl)) pe_str (nomark _))
        (pss_one (ps_ret (pe_not (pe_call GLLawAreaHolds hr (by rfl) gLLawAreaHolds kpLLawAreaHolds bLLawAreaHolds .nil pass0 (pa_cons (pe_ix ix_tup (pv 0) pe_int (fun _ _ => rfl)) (pa_cons (pv 1) pa_nil))))))
        pss_nil)
      (pss_cons (ps_if (pt_cmpR op_eq (pe_ix ix_tup (pv 0) pe_int (fun _ _ => rfl)) pe_str (nomark _))
        (pss_one (ps_ret (pe_and (pe_call GLLawAreaHolds hr (by rfl) gLLawAreaHolds kpLLawAreaHolds bLLawAreaHolds .nil pass0 (pa_cons (pe_ix ix_tup (pv 0) pe_int (fun _ _ => rfl)) (pa_cons (pv 1) pa_nil))) (pe_one (pe_call GLLawAreaHolds hr (by rfl) gLLawAreaHolds kpLLawAreaHolds bLLawAreaHolds .nil pass0 (pa_cons (pe_ix ix_tup (pv 0) pe_int (fun _ _ => rfl)) (pa_cons (pv 1) pa_nil)))))))
        pss_nil)
      (pss_cons (ps_if (pt_cmpR op_eq (pe_ix ix_tup (pv 0) pe_int (fun _ _ => rfl)) pe_str (nomark _))
        (pss_one (ps_ret (pe_or (pe_call GLLawAreaHolds hr (by rfl) gLLawAreaHolds kpLLawAreaHolds bLLawAreaHolds .nil pass0 (pa_cons (pe_ix ix_tup (pv 0) pe_int (fun _ _ => rfl)) (pa_cons (pv 1) pa_nil))) (pe_one (pe_call GLLawAreaHolds hr (by rfl) gLLawAreaHolds kpLLawAreaHolds bLLawAreaHolds .nil pass0 (pa_cons (pe_ix ix_tup (pv 0) pe_int (fun _ _ => rfl)) (pa_cons (pv 1) pa_nil)))))))
        pss_nil)
      (pss_one (ps_ret (pe_cmpR op_eq (pe_dget (hu_of hr) (pv 1) (pe_ix ix_tup (pv 0) pe_int (fun _ _ => rfl)) (fun _ _ => rfl)) (pe_cmpR op_eq (pe_ix ix_tup (pv 0) pe_int (fun _ _ => rfl)) pe_str (nomark _)) (nomark _))))))), ?_⟩
    obtain ⟨kvs, d1, d2⟩ := id hL
    match a, hA, hR, hn, q with
    | .leaf r nm, hA, hR, hn, q =>
      replace hA : SqT K H t [.str (lrS r), .str nm] := hA
      have g := d2 nm hR
      have q' : Q (.bl (if r = true then !(f nm) else f nm)) H := q
      cases r with
      | false =>
        walk_at "go"
        refine ⟨d, _, rfl, g ▸ DGet.k (k := Sum.inr nm) d1, ?_⟩
        walk_at "go"
        have e : decide (V.bl (f nm) = V.bl (decide (V.str (lrS false) = V.str "left"))) = f nm := by
          cases f nm <;> decide
        refine (congrArg (fun b => Q (V.bl b) H) e).mpr ?_
        exact q'
      | true =>
        walk_at "go"
        refine ⟨d, _, rfl, g ▸ DGet.k (k := Sum.inr nm) d1, ?_⟩
        walk_at "go"
        have e : decide (V.bl (f nm) = V.bl (decide (V.str (lrS true) = V.str "left"))) = !(f nm) := by
          cases f nm <;> decide
        refine (congrArg (fun b => Q (V.bl b) H) e).mpr ?_
        exact q'
    | .no a1, ⟨u, h1, h2⟩, hR, hn, q =>
      have hn1 : a1.deep + 1 ≤ n + 1 := hn
      have q' : Q (.bl (!(a1.holds f))) H := q
      walk_at "go"
      refine ⟨u, d, a1, f, R, rfl, h2, hL, hR, by omega, ?_⟩
      walk_at "go"
      exact q'
    | .two e a1 a2, ⟨u, v, h1, h2, h3⟩, hR, hn, q =>
      have hn1 : max a1.deep a2.deep + 1 ≤ n + 1 := hn
      cases e with
      | false =>
        have q' : Q (.bl (a1.holds f && a2.holds f)) H := q
        walk_at "go"
        refine ⟨u, d, a1, f, R, rfl, h2, hL, hR.1, by omega, ?_⟩
        walk_at "go"
        cases hh : a1.holds f with
        | false =>
          rw [hh] at q'
          refine iteF' rfl ?_
          exact q'
        | true =>
          rw [hh] at q'
          refine iteT' rfl ?_
          walk_at "go"
          exact ⟨v, d, a2, f, R, rfl, h3, hL, hR.2, by omega, q'⟩
      | true =>
        have q' : Q (.bl (a1.holds f || a2.holds f)) H := q
        walk_at "go"
        refine ⟨u, d, a1, f, R, rfl, h2, hL, hR.1, by omega, ?_⟩
        walk_at "go"
        cases hh : a1.holds f with
        | true =>
          rw [hh] at q'
          refine iteT' rfl ?_
          exact q'
        | false =>
          rw [hh] at q'
          refine iteF' rfl ?_
          walk_at "go"
          exact ⟨v, d, a2, f, R, rfl, h3, hL, hR.2, by omega, q'⟩
theorem recLLawAreaHolds {fLLawAreaHolds : Addr} {fdLLawAreaHolds : FuncData} (FLLawAreaHolds : Fun K "_law_area_holds" "_law_area_holds" sLLawAreaHolds fLLawAreaHolds fdLLawAreaHolds) (T : Txt mg) {aZERO : Addr} {aONE : Addr} (CT : Cons K mg aZERO aONE) {CPartError CNought : Addr} (EX : Exns K mg CPartError CNought)
    (gLLawAreaHolds : mg "_law_area_holds" = some (.ref fLLawAreaHolds)) (kpLLawAreaHolds : PySem.W.keepIn K (.ref fLLawAreaHolds) = true) (bLLawAreaHolds : Binds K fdLLawAreaHolds ["area", "left"] []) : ∀ n : Nat, FnOk P w K mg base CX0 (1 + n) fLLawAreaHolds fdLLawAreaHolds ["area", "left"] (spLLawAreaHolds K n)
  | 0 => by
    have zLLawAreaHolds : ∀ vs H Q E, ¬ spLLawAreaHolds K 0 vs H Q E := fun vs H Q E h => by
      obtain ⟨t, d, a, f, R, rfl, hA, hL, hR, hn, q⟩ := h
      cases a <;> exact absurd hn (Nat.not_succ_le_zero _)
    exact ⟨fun vs H Q E h => absurd h (zLLawAreaHolds vs H Q E), fun A outer s H args us vs Q E _ _ _ _ h => absurd h (zLLawAreaHolds vs H Q E)⟩
  | n + 1 => by
    have ih := recLLawAreaHolds FLLawAreaHolds T CT EX  gLLawAreaHolds kpLLawAreaHolds bLLawAreaHolds n
    exact (okLLawAreaHolds FLLawAreaHolds T CT EX ih gLLawAreaHolds kpLLawAreaHolds bLLawAreaHolds)
def frc (F : I3 × I3 × I3) (j k : Nat) : Int := th (th F.1 F.2.1 F.2.2 j).1 (th F.1 F.2.1 F.2.2 j).2.1 (th F.1 F.2.1 F.2.2 j).2.2 k
def bsv (p : R3) (k : Nat) : Rat × Rat := th p.1 p.2.1 p.2.2 k
def ptAc (F : I3 × I3 × I3) (p : R3) (s : Rat × Rat × Rat) (r : Rat) (k : Nat) : Nat → Rat
  | 0 => (bsv p k).1 + (bsv p k).2 * r
  | j + 1 => ptAc F p s r k j + th s.1 s.2.1 s.2.2 j * ((frc F j k : Int) : Rat)
def ptC (F : I3 × I3 × I3) (p : R3) (s : Rat × Rat × Rat) (r : Rat) (k : Nat) : Rat := ptAc F p s r k 3
def F3 (K : PySem.W.Frag) (H : Hp) (t : Addr) (s : Rat × Rat × Rat) : Prop := ∃ a b c : Addr, SqL K H t [.ref a, .ref b, .ref c] ∧ Fx K H a s.1 ∧ Fx K H b s.2.1 ∧ Fx K H c s.2.2
theorem F3.up {K : PySem.W.Frag} {H H' : Hp} {t : Addr} {x : Rat × Rat × Rat} (s : Same H H') (h : F3 K H t x) : F3 K H' t x := by
  obtain ⟨a, b, c, h1, h2, h3, h4⟩ := h
  exact ⟨a, b, c, s.seq h1, h2.same s, h3.same s, h4.same s⟩
theorem frc_bd {F : I3 × I3 × I3} (h1 : B3 2 F.1) (h2 : B3 2 F.2.1) (h3 : B3 2 F.2.2) (j k : Nat) : Bz 2 (frc F j k) := by
  have h : B3 2 (th F.1 F.2.1 F.2.2 j) := th_all (P := B3 2) h1 h2 h3 j
  exact th_all (P := Bz 2) h.1 h.2.1 h.2.2 k
theorem bsv_bd {p : R3} (h : B32 3 p) (k : Nat) : Bd 3 (bsv p k).1 ∧ Bd 3 (bsv p k).2 := by
  obtain ⟨h1, h2, h3, h4, h5, h6⟩ := h
  exact th_all (P := fun x : Rat × Rat => Bd 3 x.1 ∧ Bd 3 x.2) ⟨h1, h2⟩ ⟨h3, h4⟩ ⟨h5, h6⟩ k
theorem ptAc_bd {F : I3 × I3 × I3} {p : R3} {s : Rat × Rat × Rat} {r : Rat} (h1 : B3 2 F.1) (h2 : B3 2 F.2.1) (h3 : B3 2 F.2.2) (hp : B32 3 p) (hs : Bd 4 s.1 ∧ Bd 4 s.2.1 ∧ Bd 4 s.2.2) (hr : Bd 4 r) (k : Nat) : ∀ j, Bd (11 + 7 * j) (ptAc F p s r k j)
  | 0 => ((bsv_bd hp k).1.add ((bsv_bd hp k).2.mul hr)).up (by decide)
  | j + 1 => ((ptAc_bd h1 h2 h3 hp hs hr k j).add ((th_all (P := Bd 4) hs.1 hs.2.1 hs.2.2 j).mul (bd_int (frc_bd h1 h2 h3 j k) (by decide)))).up (by omega)
def spLLawPoint (K : PySem.W.Frag) : Sp := fun vs H Q _ => ∃ (fr bs sp w : Addr) (F : I3 × I3 × I3) (p : R3) (x : Rat × Rat × Rat) (r : Rat), vs = [.ref fr, .ref bs, .ref sp, .ref w] ∧ FrAt K H fr F ∧ T3At K H bs p ∧ F3 K H sp x ∧ Fx K H w r ∧ B3 2 F.1 ∧ B3 2 F.2.1 ∧ B3 2 F.2.2 ∧ B32 3 p ∧ (Bd 4 x.1 ∧ Bd 4 x.2.1 ∧ Bd 4 x.2.2) ∧ Bd 4 r ∧
  ∀ (H' : Hp) (t : Addr), Same H H' → P3 K H' t (ptC F p x r 0) (ptC F p x r 1) (ptC F p x r 2) → Q (.ref t) H'
theorem okLLawPoint {fLLawPoint : Addr} {fdLLawPoint : FuncData} (F : Fun K "_law_point" "_law_point" sLLawPoint fLLawPoint fdLLawPoint) (T : Txt mg) {aZERO : Addr} {aONE : Addr} (CT : Cons K mg aZERO aONE) {CPartError CNought : Addr} (EX : Exns K mg CPartError CNought)
    {fLLawAt : Addr} {fdLLawAt : FuncData} (GLLawAt : FnOk P w K mg base CX0 3 fLLawAt fdLLawAt ["found", "w"] (spLLawAt K)) (gLLawAt : mg "_law_at" = some (.ref fLLawAt)) (kpLLawAt : PySem.W.keepIn K (.ref fLLawAt) = true) (bLLawAt : Binds K fdLLawAt ["found", "w"] [])
    {fLLawSum : Addr} {fdLLawSum : FuncData} (GLLawSum : FnOk P w K mg base CX0 2 fLLawSum fdLLawSum ["a", "b"] (spLLawSum K)) (gLLawSum : mg "_law_sum" = some (.ref fLLawSum)) (kpLLawSum : PySem.W.keepIn K (.ref fLLawSum) = true) (bLLawSum : Binds K fdLLawSum ["a", "b"] [])
    {fLLawTimes : Addr} {fdLLawTimes : FuncData} (GLLawTimes : FnOk P w K mg base CX0 2 fLLawTimes fdLLawTimes ["a", "b"] (spLLawTimes K)) (gLLawTimes : mg "_law_times" = some (.ref fLLawTimes)) (kpLLawTimes : PySem.W.keepIn K (.ref fLLawTimes) = true) (bLLawTimes : Binds K fdLLawTimes ["a", "b"] []) :
    FnOk P w K mg base CX0 4 fLLawPoint fdLLawPoint ["frame", "base", "spot", "w"] (spLLawPoint K) := by
  refine F.ok scLLawPoint (fun vs H Q E h => ?_) (fun cdv A outer s H vs Q E hr h => ?_)
  · obtain ⟨fr, bs, sp, w, F, p, x, r, rfl, ⟨f1, f2, f3, hF, hf1, hf2, hf3⟩, ⟨p1, p2, p3, hB, hp1, hp2, hp3⟩, ⟨x1, x2, x3, hS, hx1, hx2, hx3⟩, hW, b1, b2, b3, bp, bx, br, q⟩ := h
    rfl
  · obtain ⟨fr, bs, sp, w, F, p, x, r, rfl, ⟨f1, f2, f3, hF, hf1, hf2, hf3⟩, ⟨p1, p2, p3, hB, hp1, hp2, hp3⟩, ⟨x1, x2, x3, hS, hx1, hx2, hx3⟩, hW, b1, b2, b3, bp, bx, br, q⟩ := h
    refine ⟨_, (pss_cons (ps_set (i := 4) scLLawPoint.nd rfl (Or.inl rfl) (pe_lst pa_nil))
      (C8.pss_cut (ps_for PassesOwn.never rfl (pi_range1 rfl T.range (pa_cons pe_int pa_nil)) (pg_name (i := 5) scLLawPoint.nd rfl (Or.inl rfl))
        (pss_cons (ps_set (i := 6) scLLawPoint.nd rfl (Or.inl rfl) (pe_call GLLawAt hr (by rfl) gLLawAt kpLLawAt bLLawAt .nil pass0 (pa_cons (pe_ix ix_tup (pv 1) (pv 5) (fun _ _ => rfl)) (pa_cons (pv 3) pa_nil))))
        (C8.pss_cut (ps_for PassesOwn.never rfl (pi_range1 rfl T.range (pa_cons pe_int pa_nil)) (pg_name (i := 7) scLLawPoint.nd rfl (Or.inl rfl))
          (pss_one (ps_set (i := 6) scLLawPoint.nd rfl (Or.inl rfl) (pe_call GLLawSum (hr.mono (by decide)) (by rfl) gLLawSum kpLLawSum bLLawSum .nil pass0 (pa_cons (pv 6) (pa_cons (pe_call GLLawTimes (hr.mono (by decide)) (by rfl) gLLawTimes kpLLawTimes bLLawTimes .nil pass0 (pa_cons (pe_ix ix_list (pv 2) (pv 7) (fun _ _ => rfl)) (pa_cons (pe_tup (pa_cons (pe_ix ix_tup (pe_ix ix_tup (pv 0) (pv 7) (fun _ _ => rfl)) (pv 5) (fun _ _ => rfl)) (pa_cons pe_int pa_nil))) pa_nil))) pa_nil))))))
        (pss_one (ps_expr (pe_bm PySem.F.plainAttrs_list PySem.F.slot_list_append PySem.F.type_list_append mt_append (pv 4) (pa_cons (pv 6) pa_nil)))))))
      (pss_one (ps_ret (pe_callTy call_tuple_of (by rfl) T.tuple (by decide +kernel) (pa_cons (pv 4) pa_nil)))))), ?_⟩
    walk_at "go"
    refine ⟨by show 0 ≤ sizeLine; decide, fun D hD => ?_⟩
    have s1 := same_upd (o := .lst []) hD
    have e1 : (upd H D (.lst [])) D = some (.lst []) := upd_same
    generalize upd H D (.lst []) = H1 at s1 e1 ⊢
    have st : StabAt (fun H t x => Fx K H t x) D := fun H H' t x ys hl s h => over_fx h hl s
    refine ⟨fun σ' H' => ∃ (v5 v6 v7 : Option V), σ' = [some (.ref fr), some (.ref bs), some (.ref sp), some (.ref w), some (.ref D), v5, v6, v7] ∧ Same H H' ∧ OL (fun H t x => Fx K H t x) D H' ((List.range 3).map (ptC F p x r)), ?_, ?_⟩
    · walk_at "go"
      refine ⟨by decide, by decide, for_range (n := 3) (fun k σ' H' => ∃ (v5 v6 v7 : Option V), σ' = [some (.ref fr), some (.ref bs), some (.ref sp), some (.ref w), some (.ref D), v5, v6, v7] ∧ Same H H' ∧ OL (fun H t x => Fx K H t x) D H' ((List.range k).map (ptC F p x r))) ⟨_, _, _, rfl, s1, OL.nil e1⟩ ?_ (fun σ' H' h => h)⟩
      rintro k σ' H2 hk ⟨v5, v6, v7, rfl, s2, hO⟩
      rw [show (0 : Int) + (k : Int) = (k : Int) by omega]
      obtain ⟨a, ga, ha⟩ : ∃ a : Addr, [V.ref p1, .ref p2, .ref p3][k]? = some (.ref a) ∧ V1 K H a (bsv p k) := by
        obtain rfl | rfl | rfl : k = 0 ∨ k = 1 ∨ k = 2 := by omega
        · exact ⟨p1, rfl, hp1⟩
        · exact ⟨p2, rfl, hp2⟩
        · exact ⟨p3, rfl, hp3⟩
      walk_at "go"
      refine ⟨bs, _, _, _, rfl, rfl, same_tup s2 hB, atI_nat ga, ?_⟩
      walk_at "go"
      refine ⟨a, w, _, _, r, rfl, V1.up s2 ha, hW.same s2, (bsv_bd bp k).1.up (by decide), (bsv_bd bp k).2.up (by decide), br.up (by decide), fun H3 t3 s3 y3 => ?_⟩
      have hat : Fx K H3 t3 (ptAc F p x r k 0) := y3
      refine ⟨fun σ' H' => ∃ (t : Addr) (v7 : Option V), σ' = [some (.ref fr), some (.ref bs), some (.ref sp), some (.ref w), some (.ref D), some (.int (k : Nat)), some (.ref t), v7] ∧ Same H2 H' ∧ Fx K H' t (ptC F p x r k), ?_, ?_⟩
      · walk_at "go"
        refine ⟨by decide, by decide, for_range (n := 3) (fun j σ' H' => ∃ (t : Addr) (v7 : Option V), σ' = [some (.ref fr), some (.ref bs), some (.ref sp), some (.ref w), some (.ref D), some (.int (k : Nat)), some (.ref t), v7] ∧ Same H2 H' ∧ Fx K H' t (ptAc F p x r k j)) ⟨_, _, rfl, s3, hat⟩ ?_ (fun σ' H' h => h)⟩
        rintro j σ' H4 hj ⟨t4, v7', rfl, s4, y4⟩
        rw [show (0 : Int) + (j : Int) = (j : Int) by omega]
        have s24 := s2.trans s4
        obtain ⟨xa, gx, hxa⟩ : ∃ a : Addr, [V.ref x1, .ref x2, .ref x3][j]? = some (.ref a) ∧ Fx K H a (th x.1 x.2.1 x.2.2 j) := by
          obtain rfl | rfl | rfl : j = 0 ∨ j = 1 ∨ j = 2 := by omega
          · exact ⟨x1, rfl, hx1⟩
          · exact ⟨x2, rfl, hx2⟩
          · exact ⟨x3, rfl, hx3⟩
        obtain ⟨fa, gf, hfa⟩ : ∃ a : Addr, [V.ref f1, .ref f2, .ref f3][j]? = some (.ref a) ∧ SqT K H a (i3 (th F.1 F.2.1 F.2.2 j)) := by
          obtain rfl | rfl | rfl : j = 0 ∨ j = 1 ∨ j = 2 := by omega
          · exact ⟨f1, rfl, hf1⟩
          · exact ⟨f2, rfl, hf2⟩
          · exact ⟨f3, rfl, hf3⟩
        have gk : (i3 (th F.1 F.2.1 F.2.2 j))[k]? = some (.int (frc F j k)) := by
          obtain rfl | rfl | rfl : k = 0 ∨ k = 1 ∨ k = 2 := by omega
          all_goals rfl
        walk_at "go"
        refine ⟨sp, _, _, _, rfl, rfl, s24.seq hS, atI_nat gx, ?_⟩
        refine ⟨_, rfl, _, rfl, fr, _, _, _, rfl, rfl, same_tup s24 hF, atI_nat gf, ?_⟩
        refine ⟨_, rfl, fa, _, _, _, rfl, rfl, same_tup s24 hfa, atI_nat gk, ?_⟩
        walk_at "go"
        refine ⟨tn rfl, fun t5 nt5 => ?_⟩
        generalize hUt5 : upd _ _ (HO.tup _) = H5
        have s5 := same_hu hUt5 nt5
        have ey5 := at_hu hUt5
        have y5 := SqT.of (K := K) ey5
        clear hUt5
        walk_at "go"
        have bfr := frc_bd b1 b2 b3 j k
        have bxj := th_all (P := Bd 4) bx.1 bx.2.1 bx.2.2 j
        refine ⟨xa, t5, _, ((frc F j k : Int) : Rat), rfl, hxa.same (s24.trans s5), fx_int y5, bxj.up (by decide), (bd_int bfr (by decide)).up (by decide), fun H6 t6 s6 y6 => ?_⟩
        walk_at "go"
        refine ⟨t4, t6, _, _, rfl, y4.same (s5.trans s6), y6, (ptAc_bd b1 b2 b3 bp bx br k j).up (by omega), (bxj.mul (bd_int bfr (by decide))).up (by decide), fun H7 t7 s7 y7 => ?_⟩
        walk_at "go"
        exact ⟨s4.trans (s5.trans (s6.trans s7)), y7⟩
      · rintro σ' H4 ⟨t4, v7', rfl, s4, y4⟩
        have hO4 := hO.up (fun t x h => h.same s4) s4
        obtain ⟨us, u1, u2, u3⟩ := OL.push st hO4 y4
        walk_at "go"
        refine ⟨.inl ⟨rfl, _, SqL.of u1⟩, ?_⟩
        walk_at "go"
        refine ⟨D, _, _, rfl, rfl, u1, ?_, ?_⟩
        · rw [Ro_len, u2, List.length_map, List.length_range]
          exact small1000 (by omega)
        refine ⟨_, _, _, rfl, fun b o e => ?_, ?_⟩
        · rw [upd_ne (ne_of_none e hD)]
          exact (s2.trans s4) _ _ e
        · rw [List.range_succ, List.map_append]
          exact u3
    · rintro σ' H' ⟨v5, v6, v7, rfl, s2, hO⟩
      obtain ⟨ws, o1, o2, o3⟩ := hO
      obtain ⟨wa, wb, wc, rfl⟩ : ∃ a b c, ws = [a, b, c] := by
        have l := congrArg List.length o3
        rw [List.length_map] at l
        match ws, l with
        | [a, b, c], _ => exact ⟨a, b, c, rfl⟩
      have e0 : [wa.2, wb.2, wc.2] = [ptC F p x r 0, ptC F p x r 1, ptC F p x r 2] := o3
      injection e0 with ea e0
      injection e0 with eb e0
      injection e0 with ec e0
      have ha := o2 wa List.mem_cons_self
      have hb := o2 wb (List.mem_cons_of_mem _ List.mem_cons_self)
      have hc := o2 wc (List.mem_cons_of_mem _ (List.mem_cons_of_mem _ List.mem_cons_self))
      walk_at "go"
      refine ⟨D, _, rfl, .inl ⟨SqL.of o1, fun t8 n8 => ?_⟩⟩
      have s8 := same_upd (o := .tup (Ro [wa, wb, wc])) n8
      refine q _ t8 (s2.trans s8) ⟨wa.1, wb.1, wc.1, .inl (SqT.of upd_same), ?_, ?_, ?_⟩
      · rw [← ea]; exact ha.same s8
      · rw [← eb]; exact hb.same s8
      · rw [← ec]; exact hc.same s8
theorem eqb_eq (a b : Bool) : eqb a b = (a == b) := by
  unfold eqb
  cases a <;> cases b <;> simp
theorem rnum0 {q : Rat} : q.num = 0 ↔ q = 0 := Rat.num_eq_zero
theorem rnumP {q : Rat} : 0 < q.num ↔ 0 < q := by
  rw [Rat.lt_iff]
  simp
theorem rcast_pos {d : Int} : (0 : Rat) < (d : Rat) ↔ 0 < d := by
  rw [show (0 : Rat) = ((0 : Int) : Rat) from rfl]
  exact Rat.intCast_lt_intCast
theorem rsgn {q q' D c : Rat} (hc : 0 < c) (hD : 0 < D) (e : q' * D = c * q) : 0 < q' ↔ 0 < q := by
  have h1 := fun h : 0 < q' => Rat.mul_pos h hD
  have h2 := fun h : 0 < q => Rat.mul_pos hc h
  have h3 := fun h : q' ≤ 0 => Rat.mul_nonneg (show 0 ≤ -q' by grind) (Rat.le_of_lt hD)
  have h4 := fun h : q ≤ 0 => Rat.mul_nonneg (Rat.le_of_lt hc) (show 0 ≤ -q by grind)
  constructor
  · intro h
    rcases Rat.le_total (a := q) (b := 0) with g | g
    · have a1 := h1 h
      have a4 := h4 g
      grind
    · grind
  · intro h
    rcases Rat.le_total (a := q') (b := 0) with g | g
    · have a2 := h2 h
      have a3 := h3 g
      grind
    · grind
theorem sdv_flip {q q' c : Rat} {D : Int} {k : Bool} (hc : 0 < c) (hD : D ≠ 0) (e : q' * (D : Rat) = c * q) : sdv q' (eqb k (decide (0 < D))) = sdv q k := by
  have hD' : (D : Rat) ≠ 0 := fun z => hD (by exact_mod_cast z)
  unfold sdv
  simp only [eqb_eq, rnum0, rnumP]
  by_cases hq : q = 0
  · have h0 : q' = 0 := by
      rw [hq, Rat.mul_zero] at e
      rcases Rat.mul_eq_zero.mp e with z | z
      · exact z
      · exact absurd z hD'
    rw [if_pos hq, if_pos h0]
  · have h0 : q' ≠ 0 := fun z => by
      rw [z, Rat.zero_mul] at e
      rcases Rat.mul_eq_zero.mp e.symm with z | z
      · exact Rat.ne_of_gt hc z
      · exact hq z
    rw [if_neg hq, if_neg h0]
    by_cases hp : 0 < D
    · have := rsgn hc (rcast_pos.mpr hp) e
      simp only [hp, this, decide_true]
      cases k <;> simp
    · have hn : (0 : Rat) < ((-D : Int) : Rat) := rcast_pos.mpr (by omega)
      have hs := rsgn (q := -q) (q' := q') hc hn (by rw [Rat.intCast_neg]; grind)
      have h2 : (0 < -q) ↔ ¬ (0 < q) := by
        constructor
        · intro h z
          grind
        · intro h
          grind
      simp only [hp, hs, h2, decide_false, decide_not]
      cases k <;> simp
theorem can_dn {x y z : Int} (h : ¬ (x = 0 ∧ y = 0 ∧ z = 0)) : dn (x.fdiv (dv x y z)) (y.fdiv (dv x y z)) (z.fdiv (dv x y z)) = false ∧ g3 (x.fdiv (dv x y z)) (y.fdiv (dv x y z)) (z.fdiv (dv x y z)) = 1 ∧ ¬ (x.fdiv (dv x y z) = 0 ∧ y.fdiv (dv x y z) = 0 ∧ z.fdiv (dv x y z) = 0) := by
  have hd := dv_ne h
  have e1 := fdiv_back (dv_dx x y z)
  have e2 := fdiv_back (dv_dy x y z)
  have e3 := fdiv_back (dv_dz x y z)
  have hq := dv_eq x y z
  have hg := g3_pos h
  have one := g3_one h e1 e2 e3
  generalize x.fdiv (dv x y z) = a at *
  generalize y.fdiv (dv x y z) = b at *
  generalize z.fdiv (dv x y z) = c at *
  generalize dv x y z = d at *
  have hn : ¬ (a = 0 ∧ b = 0 ∧ c = 0) := fun ⟨ha, hb, hc⟩ => by
    subst ha hb hc
    simp at e1 e2 e3
    exact h ⟨e1.symm, e2.symm, e3.symm⟩
  refine ⟨?_, one, hn⟩
  rcases Int.lt_trichotomy d 0 with hneg | h0 | hpos
  · have e4 : dn x y z = true := by
      cases e : dn x y z with
      | true => rfl
      | false =>
        rw [e, if_neg Bool.false_ne_true] at hq
        omega
    have e5 := dn_mul (x := -a) (y := -b) (z := -c) (t := -d) (by omega)
    rw [Int.neg_mul_neg, Int.neg_mul_neg, Int.neg_mul_neg, e1, e2, e3, e4, dn_neg hn] at e5
    cases e : dn a b c with
    | true =>
      rw [e] at e5
      exact absurd e5 (by decide)
    | false => rfl
  · exact absurd h0 hd
  · have e4 : dn x y z = false := by
      cases e : dn x y z with
      | false => rfl
      | true =>
        rw [e, if_pos rfl] at hq
        omega
    have e5 := dn_mul (x := a) (y := b) (z := c) hpos
    rw [e1, e2, e3, e4] at e5
    exact e5.symm
theorem can_le {x y z : Int} (h : ¬ (x = 0 ∧ y = 0 ∧ z = 0)) : (x.fdiv (dv x y z)).natAbs ≤ x.natAbs ∧ (y.fdiv (dv x y z)).natAbs ≤ y.natAbs ∧ (z.fdiv (dv x y z)).natAbs ≤ z.natAbs := by
  have hd := dv_ne h
  exact ⟨part_le (fdiv_back (dv_dx x y z)) hd, part_le (fdiv_back (dv_dy x y z)) hd, part_le (fdiv_back (dv_dz x y z)) hd⟩
theorem mdv_bd {x y z : Int} (h : ¬ (x = 0 ∧ y = 0 ∧ z = 0)) (h1 : Bz 17 x) (h2 : Bz 17 y) (h3 : Bz 17 z) : Bz 17 (dv x y z) := by
  have e : (2 : Nat) ^ 17 = 131072 := by decide
  unfold Bz at *
  rw [dv_abs]
  have := g3_le (n := 131071) h (by omega) (by omega) (by omega)
  omega
theorem sdv_cases (q : Rat) (k : Bool) : sdv q k = .non ∨ ∃ c, sdv q k = .bl c := by
  unfold sdv
  split
  · exact .inl rfl
  · exact .inr ⟨_, rfl⟩
theorem dp_sdv (K : PySem.W.Frag) (q : Rat) (k : Bool) : ∃ d, (∀ H, Dp K H (sdv q k) d) ∧ SeqAt.shaped d = true ∧ PyData.eqv d d = true := by
  rcases sdv_cases q k with h | ⟨c, h⟩
  · rw [h]
    exact ⟨.none, fun _ => .non, rfl, rfl⟩
  · rw [h]
    exact ⟨.bool c, fun _ => .bl c, rfl, by cases c <;> rfl⟩
section
variable (u v w : I3) (p : R3) (s : Rat × Rat × Rat) (r : Rat)
def atR (f : Rat × Rat) (r : Rat) : Rat := f.1 + f.2 * r
def dR (d : I3) (P : Rat × Rat × Rat) : Rat := (d.1 : Rat) * P.1 + (d.2.1 : Rat) * P.2.1 + (d.2.2 : Rat) * P.2.2
def ptT : Rat × Rat × Rat := (ptC (u, v, w) p s r 0, ptC (u, v, w) p s r 1, ptC (u, v, w) p s r 2)
theorem ptC_eq (k : Nat) : ptC (u, v, w) p s r k = atR (bsv p k) r + s.1 * ((th u.1 u.2.1 u.2.2 k : Int) : Rat) + s.2.1 * ((th v.1 v.2.1 v.2.2 k : Int) : Rat) + s.2.2 * ((th w.1 w.2.1 w.2.2 k : Int) : Rat) := rfl
theorem dR_pt (d : I3) : dR d (ptT u v w p s r) = spB d p + spS d p * r + s.1 * ((ip3 d u : Int) : Rat) + s.2.1 * ((ip3 d v : Int) : Rat) + s.2.2 * ((ip3 d w : Int) : Rat) := by
  unfold dR ptT spB spS ip3
  rw [ptC_eq, ptC_eq, ptC_eq]
  unfold atR bsv th
  simp only [Rat.intCast_add, Rat.intCast_mul]
  grind
end
theorem fdiv_dv {a D : Int} (hD : D ≠ 0) (h : D ∣ a) : ((a.fdiv D : Int) : Rat) * (D : Rat) = (a : Rat) := by
  rw [← Rat.intCast_mul, Int.fdiv_mul_cancel h]
/-- the side that a direction and an offset tell, at a point: its sign by the product -/
theorem side_eq {d : I3} (hd : ¬ (d.1 = 0 ∧ d.2.1 = 0 ∧ d.2.2 = 0)) (b sl : Rat) (k : Bool) (P : Rat × Rat × Rat) (r : Rat) :
    sideA (sideOf d b sl k) P r * ((dv d.1 d.2.1 d.2.2 : Int) : Rat) = dR d P - (b + sl * r) := by
  have hD := dv_ne hd
  have hDr : ((dv d.1 d.2.1 d.2.2 : Int) : Rat) ≠ 0 := fun z => hD (Rat.intCast_inj.mp z)
  have e1 := fdiv_dv hD (dv_dx d.1 d.2.1 d.2.2)
  have e2 := fdiv_dv hD (dv_dy d.1 d.2.1 d.2.2)
  have e3 := fdiv_dv hD (dv_dz d.1 d.2.1 d.2.2)
  have ei : iv (dv d.1 d.2.1 d.2.2) * ((dv d.1 d.2.1 d.2.2 : Int) : Rat) = 1 := by
    unfold iv
    rw [Rat.divInt_eq_div]
    show ((1 : Int) : Rat) / _ * _ = 1
    rw [Rat.div_mul_cancel hDr]
    rfl
  unfold sideA sideOf away dot3 dR
  dsimp only
  generalize dv d.1 d.2.1 d.2.2 = D at *
  generalize ((d.1.fdiv D : Int) : Rat) = X at *
  generalize ((d.2.1.fdiv D : Int) : Rat) = Y at *
  generalize ((d.2.2.fdiv D : Int) : Rat) = Z at *
  rw [← e1, ← e2, ← e3]
  have em : ((-1 : Int) : Rat) = -1 := rfl
  rw [em]
  generalize iv D = I at *
  generalize (D : Rat) = Dr at *
  have e5 : I * b * Dr = b := by rw [Rat.mul_comm I b, Rat.mul_assoc, ei, Rat.mul_one]
  have e6 : I * sl * Dr = sl := by rw [Rat.mul_comm I sl, Rat.mul_assoc, ei, Rat.mul_one]
  grind
/-- a side that is the sign of V times c, as the program tells it: by c > 0 -/
theorem side_sign {d : I3} (hd : ¬ (d.1 = 0 ∧ d.2.1 = 0 ∧ d.2.2 = 0)) {b sl : Rat} {W : Int} (hV : W ≠ 0) {P : Rat × Rat × Rat} {r c : Rat} (he : dR d P - (b + sl * r) = (W : Rat) * c) (hc : c ≠ 0) :
    sideA (sideOf d b sl (decide (0 < W))) P r ≠ 0 ∧ sideB (sideOf d b sl (decide (0 < W))) P r = decide (0 < c) := by
  have h := side_eq hd b sl (decide (0 < W)) P r
  rw [he] at h
  have hD := dv_ne hd
  have hVr : (W : Rat) ≠ 0 := fun z => hV (Rat.intCast_inj.mp z)
  have h0 : sideA (sideOf d b sl (decide (0 < W))) P r ≠ 0 := fun z => by
    rw [z, Rat.zero_mul] at h
    rcases Rat.mul_eq_zero.mp h.symm with h | h
    · exact hVr h
    · exact hc h
  refine ⟨h0, ?_⟩
  have hs := sdv_side h0
  have hk : (sideOf d b sl (decide (0 < W))).k = eqb (decide (0 < W)) (decide (0 < dv d.1 d.2.1 d.2.2)) := rfl
  rw [hk] at hs
  have posR : ∀ {z : Int}, 0 < z → (0 : Rat) < (z : Rat) := fun {z} hz => Rat.intCast_pos.mpr hz
  by_cases hp : 0 < W
  · have f := sdv_flip (q := c) (q' := sideA (sideOf d b sl (decide (0 < W))) P r) (c := (W : Rat)) (D := dv d.1 d.2.1 d.2.2) (k := decide (0 < W)) (posR hp) hD h
    rw [f] at hs
    unfold sdv at hs
    rw [if_neg (fun z => hc (Rat.num_eq_zero.mp z)), decide_eq_true hp] at hs
    have hb := V.bl.inj hs
    rw [decide_eq_true hp, ← hb]
    rw [show decide (0 < c.num) = decide (0 < c) from decide_eq_decide.mpr rnumP]
    cases decide (0 < c) <;> rfl
  · have hp2 : 0 < -W := by omega
    have f := sdv_flip (q := -c) (q' := sideA (sideOf d b sl (decide (0 < W))) P r) (c := ((-W : Int) : Rat)) (D := dv d.1 d.2.1 d.2.2) (k := decide (0 < W)) (posR hp2) hD (by rw [h, Rat.intCast_neg]; grind)
    rw [f] at hs
    have hc2 : -c ≠ 0 := fun z => hc (by rw [← Rat.neg_neg c, z]; rfl)
    unfold sdv at hs
    rw [if_neg (fun z => hc2 (Rat.num_eq_zero.mp z)), decide_eq_false hp] at hs
    have hb := V.bl.inj hs
    rw [decide_eq_false hp, ← hb, show decide (0 < (-c).num) = decide (0 < -c) from decide_eq_decide.mpr rnumP]
    have tri : c < 0 ∨ 0 < c := by grind
    rcases tri with g | g
    · rw [decide_eq_true (by grind : (0 : Rat) < -c), decide_eq_false (by grind : ¬ (0 : Rat) < c)]
      rfl
    · rw [decide_eq_false (by grind : ¬ (0 : Rat) < -c), decide_eq_true g]
      rfl
/-- where a point of the frame is beside a line -/
def hereL (l : Ln) (s : Rat × Rat × Rat) : Rat := (l.a : Rat) * s.2.1 - (l.b : Rat) * s.1
theorem line_sign {u v w : I3} {p : R3} {l : Ln} {f s : Rat × Rat} {t : Rat} {r : Rat} (h0 : vo u v w ≠ 0) (hl : l.a ≠ 0 ∨ l.b ≠ 0) (hne : hereL l (s.1, s.2, t) ≠ atR f r) :
    sideA (lnSide u v w p l f) (ptT u v w p (s.1, s.2, t) r) r ≠ 0 ∧ sideB (lnSide u v w p l f) (ptT u v w p (s.1, s.2, t) r) r = decide (atR f r < hereL l (s.1, s.2, t)) := by
  obtain ⟨g1, g2, g3⟩ := vo_lin u v w l.a l.b
  have he : dR (lnDir u v w l) (ptT u v w p (s.1, s.2, t) r) - ((spB (lnDir u v w l) p + ((vo u v w : Int) : Rat) * f.1) + (spS (lnDir u v w l) p + ((vo u v w : Int) : Rat) * f.2) * r) = ((vo u v w : Int) : Rat) * (hereL l (s.1, s.2, t) - atR f r) := by
    rw [dR_pt, show ip3 (lnDir u v w l) u = _ from g1, show ip3 (lnDir u v w l) v = _ from g2, show ip3 (lnDir u v w l) w = _ from g3]
    unfold hereL atR
    simp only [Rat.intCast_neg, Rat.intCast_mul]
    grind
  have hc : hereL l (s.1, s.2, t) - atR f r ≠ 0 := fun z => hne (by grind)
  obtain ⟨k1, k2⟩ := side_sign (lnDir_ne h0 hl) h0 he hc
  refine ⟨k1, k2.trans ?_⟩
  exact decide_eq_decide.mpr (by constructor <;> intro h <;> grind)
theorem end_sign {u v w : I3} {p : R3} {f s : Rat × Rat} {t : Rat} {r : Rat} (h0 : vo u v w ≠ 0) (hne : t ≠ atR f r) :
    sideA (ndSide u v w p f) (ptT u v w p (s.1, s.2, t) r) r ≠ 0 ∧ sideB (ndSide u v w p f) (ptT u v w p (s.1, s.2, t) r) r = decide (atR f r < t) := by
  obtain ⟨g1, g2, g3⟩ := cr_lin u v w
  have he : dR (cr u v) (ptT u v w p (s.1, s.2, t) r) - ((spB (cr u v) p + ((vo u v w : Int) : Rat) * f.1) + (spS (cr u v) p + ((vo u v w : Int) : Rat) * f.2) * r) = ((vo u v w : Int) : Rat) * (t - atR f r) := by
    rw [dR_pt, g1, g2, g3]
    unfold atR
    grind
  have hc : t - atR f r ≠ 0 := fun z => hne (by grind)
  obtain ⟨k1, k2⟩ := side_sign (cr_ne h0) h0 he hc
  refine ⟨k1, k2.trans ?_⟩
  exact decide_eq_decide.mpr (by constructor <;> intro h <;> grind)
theorem sideB_not (x : SdV) (P : Rat × Rat × Rat) (r : Rat) : sideB { x with k := !x.k } P r = !(sideB x P r) := by
  unfold sideB
  show eqb (decide (0 < (sideA x P r).num)) (!x.k) = _
  cases decide (0 < (sideA x P r).num) <;> cases x.k <;> rfl
theorem sideOf_ok {d : I3} (hd : ¬ (d.1 = 0 ∧ d.2.1 = 0 ∧ d.2.2 = 0)) {b sl : Rat} {k : Bool} (b3 : B3 8 d) (b1 : Bd 60 b) (b2 : Bd 60 sl) : SdOk (sideOf d b sl k) ∧ (¬ ((sideOf d b sl k).x = 0 ∧ (sideOf d b sl k).y = 0 ∧ (sideOf d b sl k).z = 0) ∧ Bz 30 (sideOf d b sl k).x ∧ Bz 30 (sideOf d b sl k).y ∧ Bz 30 (sideOf d b sl k).z ∧ g3 (sideOf d b sl k).x (sideOf d b sl k).y (sideOf d b sl k).z = 1 ∧ dn (sideOf d b sl k).x (sideOf d b sl k).y (sideOf d b sl k).z = false) := by
  obtain ⟨l1, l2, l3⟩ := can_le hd
  obtain ⟨n1, n2, n3⟩ := can_dn hd
  have up : ∀ {n : Nat} {x y : Int}, x.natAbs ≤ y.natAbs → Bz n y → Bz n x := fun h g => Nat.lt_of_le_of_lt h g
  have hD := dv_ne hd
  have bD : Bz 8 (dv d.1 d.2.1 d.2.2) := by
    show (dv d.1 d.2.1 d.2.2).natAbs < 2 ^ 8
    have c1 : d.1.natAbs < 2 ^ 8 := b3.1
    have c2 : d.2.1.natAbs < 2 ^ 8 := b3.2.1
    have c3 : d.2.2.natAbs < 2 ^ 8 := b3.2.2
    rw [dv_abs]
    have := g3_le (n := 255) hd (by omega) (by omega) (by omega)
    omega
  have bI : Bd 8 (iv (dv d.1 d.2.1 d.2.2)) := bd_div hD (bz_of (n := 8) (by decide)) bD
  have x1 := up l1 b3.1
  have x2 := up l2 b3.2.1
  have x3 := up l3 b3.2.2
  exact ⟨⟨x1.up (by decide), x2.up (by decide), x3.up (by decide), (bI.mul b1).up (by decide), (bI.mul b2).up (by decide)⟩, n3, x1.up (by decide), x2.up (by decide), x3.up (by decide), n2, n1⟩
theorem lnSide_ok {u v w : I3} {p : R3} {l : Ln} {f : Rat × Rat} (bu : B3 2 u) (bv : B3 2 v) (bw : B3 2 w) (ba : Bz 2 l.a) (bb : Bz 2 l.b) (hab : l.a ≠ 0 ∨ l.b ≠ 0) (h0 : vo u v w ≠ 0) (bp : B32 3 p) (c1 : Bd 8 f.1) (c2 : Bd 8 f.2) :
    SdOk (lnSide u v w p l f) ∧ (¬ ((lnSide u v w p l f).x = 0 ∧ (lnSide u v w p l f).y = 0 ∧ (lnSide u v w p l f).z = 0) ∧ Bz 30 (lnSide u v w p l f).x ∧ Bz 30 (lnSide u v w p l f).y ∧ Bz 30 (lnSide u v w p l f).z ∧ g3 (lnSide u v w p l f).x (lnSide u v w p l f).y (lnSide u v w p l f).z = 1 ∧ dn (lnSide u v w p l f).x (lnSide u v w p l f).y (lnSide u v w p l f).z = false) := by
  have bD : B3 8 (lnDir u v w l) := (bw.cr (B3.com ba bb bu bv)).up (by decide)
  have bV := bd_int (((bu.ip (bv.cr bw))).up (by decide) : Bz 9 (vo u v w)) (by decide)
  obtain ⟨p1, p2, p3, p4, p5, p6⟩ := bp
  have s1 : Bd 35 (spB (lnDir u v w l) p) := bd_sum3 (n := 8) (m := 3) (by decide) bD.1 bD.2.1 bD.2.2 p1 p3 p5
  have s2 : Bd 35 (spS (lnDir u v w l) p) := bd_sum3 (n := 8) (m := 3) (by decide) bD.1 bD.2.1 bD.2.2 p2 p4 p6
  exact sideOf_ok (lnDir_ne h0 hab) bD ((s1.add (bV.mul c1)).up (by decide)) ((s2.add (bV.mul c2)).up (by decide))
theorem ndSide_ok {u v w : I3} {p : R3} {f : Rat × Rat} (bu : B3 2 u) (bv : B3 2 v) (bw : B3 2 w) (h0 : vo u v w ≠ 0) (bp : B32 3 p) (c1 : Bd 8 f.1) (c2 : Bd 8 f.2) :
    SdOk (ndSide u v w p f) ∧ (¬ ((ndSide u v w p f).x = 0 ∧ (ndSide u v w p f).y = 0 ∧ (ndSide u v w p f).z = 0) ∧ Bz 30 (ndSide u v w p f).x ∧ Bz 30 (ndSide u v w p f).y ∧ Bz 30 (ndSide u v w p f).z ∧ g3 (ndSide u v w p f).x (ndSide u v w p f).y (ndSide u v w p f).z = 1 ∧ dn (ndSide u v w p f).x (ndSide u v w p f).y (ndSide u v w p f).z = false) := by
  have bD : B3 8 (cr u v) := (bu.cr bv).up (by decide)
  have bV := bd_int (((bu.ip (bv.cr bw))).up (by decide) : Bz 9 (vo u v w)) (by decide)
  obtain ⟨p1, p2, p3, p4, p5, p6⟩ := bp
  have s1 : Bd 35 (spB (cr u v) p) := bd_sum3 (n := 8) (m := 3) (by decide) bD.1 bD.2.1 bD.2.2 p1 p3 p5
  have s2 : Bd 35 (spS (cr u v) p) := bd_sum3 (n := 8) (m := 3) (by decide) bD.1 bD.2.1 bD.2.2 p2 p4 p6
  exact sideOf_ok (cr_ne h0) bD ((s1.add (bV.mul c1)).up (by decide)) ((s2.add (bV.mul c2)).up (by decide))
/-- whether a point of the frame is to the left of a line -/
def lfB (s : Rat × Rat × Rat) (r : Rat) (l : Ln) : Bool := decide (atR (thrP l) r < hereL l s)
def lfN (ls : List Ln) (s : Rat × Rat × Rat) (r : Rat) (n : Str) : Bool := lfB s r (lnD ls (plI ls n).toNat)
theorem lfN_at {ls : List Ln} (hp : ls.Pairwise fun x y => x.nm ≠ y.nm) {j : Nat} {l : Ln} (h : ls[j]? = some l) (s : Rat × Rat × Rat) (r : Rat) : lfN ls s r l.nm = lfB s r l := by
  unfold lfN
  rw [plI_at hp h, show ((j : Nat) : Int).toNat = j from rfl, lnD_at h]
theorem tl_len {u v w : I3} {p : R3} {ls : List Ln} {c1 c2 : Rat × Rat} : (skSides u v w p ls (ls.map thrP) c1 c2).length = ls.length + 2 := by
  unfold skSides
  rw [List.length_append, List.length_zipWith, List.length_map, Nat.min_self]
  rfl
theorem tl_mem {u v w : I3} {p : R3} {ls : List Ln} {c1 c2 : Rat × Rat} {x : Str × SdV} (h : x ∈ skSides u v w p ls (ls.map thrP) c1 c2) :
    (∃ l ∈ ls, x = (l.nm, lnSide u v w p l (thrP l))) ∨ x = (("low" : Str), ndSide u v w p c1) ∨ x = (("high" : Str), { ndSide u v w p c2 with k := !(ndSide u v w p c2).k }) := by
  unfold skSides at h
  rcases List.mem_append.mp h with h | h
  · left
    rw [List.zipWith_map_right, List.zipWith_self] at h
    obtain ⟨l, hl, e⟩ := List.mem_map.mp h
    exact ⟨l, hl, e.symm⟩
  · rcases List.mem_cons.mp h with h | h
    · exact .inr (.inl h)
    · exact .inr (.inr (List.mem_singleton.mp h))
/-- what the test tells of a point that is on no side -/
theorem sk_holds {u v w : I3} {p : R3} {ls : List Ln} {a : Ar} {c1 c2 : Rat × Rat} {s1 s2 t r : Rat} (hp : ls.Pairwise fun x y => x.nm ≠ y.nm) (hl : ∀ l ∈ ls, l.a ≠ 0 ∨ l.b ≠ 0) (h0 : vo u v w ≠ 0) (ha : a.all (NmIn ls))
    (h1 : ∀ l ∈ ls, hereL l (s1, s2, t) ≠ atR (thrP l) r) (h2 : t ≠ atR c1 r) (h3 : t ≠ atR c2 r) :
    (∀ x ∈ skSides u v w p ls (ls.map thrP) c1 c2, sideA x.2 (ptT u v w p (s1, s2, t) r) r ≠ 0) ∧
    (skTest ls a).holds (fun i => ((skSides u v w p ls (ls.map thrP) c1 c2).map fun x => sideB x.2 (ptT u v w p (s1, s2, t) r) r).getD i.toNat false) = ((a.holds (lfN ls (s1, s2, t) r) && decide (atR c1 r < t)) && decide (t < atR c2 r)) := by
  obtain ⟨e1, e2⟩ := end_sign (p := p) (f := c1) (s := (s1, s2)) h0 h2
  obtain ⟨e3, e4⟩ := end_sign (p := p) (f := c2) (s := (s1, s2)) h0 h3
  constructor
  · intro x hx
    rcases tl_mem hx with ⟨l, m, rfl⟩ | rfl | rfl
    · exact (line_sign (s := (s1, s2)) h0 (hl l m) (h1 l m)).1
    · exact e1
    · exact e3
  · have gl : ∀ n, NmIn ls n → ((skSides u v w p ls (ls.map thrP) c1 c2).map fun x => sideB x.2 (ptT u v w p (s1, s2, t) r) r).getD (plI ls n).toNat false = lfN ls (s1, s2, t) r n := by
      rintro n ⟨l, hm, rfl⟩
      obtain ⟨j, hj⟩ := List.getElem?_of_mem hm
      have hjl := (List.getElem?_eq_some_iff.mp hj).1
      rw [lfN_at hp hj, plI_at hp hj, show ((j : Nat) : Int).toNat = j from rfl, List.getD_eq_getElem?_getD, List.getElem?_map]
      unfold skSides
      rw [List.zipWith_map_right, List.zipWith_self, List.getElem?_append_left (by rw [List.length_map]; exact hjl), List.getElem?_map, hj]
      exact (line_sign (s := (s1, s2)) h0 (hl l hm) (h1 l hm)).2
    have gk : ∀ k, k < 2 → ((skSides u v w p ls (ls.map thrP) c1 c2).map fun x => sideB x.2 (ptT u v w p (s1, s2, t) r) r).getD (ls.length + k) false = sideB ([ndSide u v w p c1, { ndSide u v w p c2 with k := !(ndSide u v w p c2).k }].getD k (ndSide u v w p c1)) (ptT u v w p (s1, s2, t) r) r := by
      intro k hk
      rw [List.getD_eq_getElem?_getD, List.getElem?_map]
      unfold skSides
      rw [List.zipWith_map_right, List.zipWith_self, List.getElem?_append_right (by rw [List.length_map]; omega), List.length_map, Nat.add_sub_cancel_left]
      obtain rfl | rfl : k = 0 ∨ k = 1 := by omega
      · rfl
      · rfl
    unfold skTest
    show ((Ts.holds _ (tsOf (plI ls) a) && _) && _) = _
    rw [holds_tsOf gl a ha]
    have k0 := gk 0 (by decide)
    have k1 := gk 1 (by decide)
    have n0 : ((ls.length : Nat) : Int).toNat = ls.length + 0 := rfl
    have n1 : (((ls.length : Nat) : Int) + 1).toNat = ls.length + 1 := by omega
    show ((_ && List.getD _ ((ls.length : Nat) : Int).toNat false) && List.getD _ (((ls.length : Nat) : Int) + 1).toNat false) = _
    rw [n0, n1, k0, k1]
    show ((_ && sideB (ndSide u v w p c1) _ _) && sideB { ndSide u v w p c2 with k := !(ndSide u v w p c2).k } _ _) = _
    rw [sideB_not, e2, e4]
    congr 1
    have tri : t < atR c2 r ∨ atR c2 r < t := by grind
    rcases tri with g | g
    · rw [decide_eq_true g, decide_eq_false (by grind : ¬ atR c2 r < t)]
      rfl
    · rw [decide_eq_true g, decide_eq_false (by grind : ¬ t < atR c2 r)]
      rfl
def spD (d : Int) (j : Nat) : Rat := Rat.divInt (d / (5 + 11 * (j : Int)) % 23 - 11) (2 + (j : Int))
def wD (d : Int) : Rat := Rat.divInt (d % 9 - 4) (1 + d / 9 % 2)
theorem spD_bd {d : Int} {j : Nat} (hj : j < 3) : Bd 4 (spD d j) := by
  refine bd_of (by omega) ?_ ?_
  · show (d / (5 + 11 * (j : Int)) % 23 - 11).natAbs < 16
    omega
  · show (2 + (j : Int)).natAbs < 16
    omega
theorem wD_bd (d : Int) : Bd 4 (wD d) := by
  refine bd_of (by omega) ?_ ?_
  · show (d % 9 - 4).natAbs < 16
    omega
  · show (1 + d / 9 % 2).natAbs < 16
    omega
def spLLawGood (K : PySem.W.Frag) : Sp := fun vs H Q _ => ∃ (tl fr bs ln ar en o1 o2 : Addr) (d m : Int) (op : Str) (u v w : I3) (ls : List Ln) (a : Ar) (p : R3) (c1 c2 : Rat × Rat), vs = [.ref tl, .ref fr, .ref bs, .ref ln, .ref ar, .ref en, .int d] ∧ TlAt K H tl op m (skSides u v w p ls (ls.map thrP) c1 c2) (skTest ls a) ∧ FrAt K H fr (u, v, w) ∧ T3At K H bs p ∧ LnsAt K H ln ls ∧ ArAt K H ar a ∧ SqL K H en [.ref o1, .ref o2] ∧ V1 K H o1 c1 ∧ V1 K H o2 c2 ∧
  B3 2 u ∧ B3 2 v ∧ B3 2 w ∧ (∀ l ∈ ls, LnS l) ∧ vo u v w ≠ 0 ∧ B32 3 p ∧ Bd 8 c1.1 ∧ Bd 8 c1.2 ∧ Bd 8 c2.1 ∧ Bd 8 c2.2 ∧ ls.length ≤ 6 ∧ ls.Pairwise (fun x y => x.nm ≠ y.nm) ∧ a.all (NmIn ls) ∧ a.deep ≤ 6 ∧
  ∀ H', Same H H' → Q (.bl true) H'
theorem okLLawGood {fLLawGood : Addr} {fdLLawGood : FuncData} (F : Fun K "_law_good" "_law_good" sLLawGood fLLawGood fdLLawGood) (T : Txt mg) {aZERO : Addr} {aONE : Addr} (CT : Cons K mg aZERO aONE) {CPartError CNought : Addr} (EX : Exns K mg CPartError CNought)
    {fLLawFraction : Addr} {fdLLawFraction : FuncData} (GLLawFraction : FnOk P w K mg base CX0 1 fLLawFraction fdLLawFraction ["number", "divisor"] (spLLawFraction K)) (gLLawFraction : mg "_law_fraction" = some (.ref fLLawFraction)) (kpLLawFraction : PySem.W.keepIn K (.ref fLLawFraction) = true) (bLLawFraction : Binds K fdLLawFraction ["number", "divisor"] [])
    {fLLawAt : Addr} {fdLLawAt : FuncData} (GLLawAt : FnOk P w K mg base CX0 3 fLLawAt fdLLawAt ["found", "w"] (spLLawAt K)) (gLLawAt : mg "_law_at" = some (.ref fLLawAt)) (kpLLawAt : PySem.W.keepIn K (.ref fLLawAt) = true) (bLLawAt : Binds K fdLLawAt ["found", "w"] [])
    {fLLawSum : Addr} {fdLLawSum : FuncData} (GLLawSum : FnOk P w K mg base CX0 2 fLLawSum fdLLawSum ["a", "b"] (spLLawSum K)) (gLLawSum : mg "_law_sum" = some (.ref fLLawSum)) (kpLLawSum : PySem.W.keepIn K (.ref fLLawSum) = true) (bLLawSum : Binds K fdLLawSum ["a", "b"] [])
    {fLLawAreaHolds : Addr} {fdLLawAreaHolds : FuncData} (GLLawAreaHolds : FnOk P w K mg base CX0 9 fLLawAreaHolds fdLLawAreaHolds ["area", "left"] (spLLawAreaHolds K 8)) (gLLawAreaHolds : mg "_law_area_holds" = some (.ref fLLawAreaHolds)) (kpLLawAreaHolds : PySem.W.keepIn K (.ref fLLawAreaHolds) = true) (bLLawAreaHolds : Binds K fdLLawAreaHolds ["area", "left"] [])
    {fLLawIn : Addr} {fdLLawIn : FuncData} (GLLawIn : FnOk P w K mg base CX0 11 fLLawIn fdLLawIn ["tool", "point", "w"] (spLLawIn K)) (gLLawIn : mg "_law_in" = some (.ref fLLawIn)) (kpLLawIn : PySem.W.keepIn K (.ref fLLawIn) = true) (bLLawIn : Binds K fdLLawIn ["tool", "point", "w"] [])
    {fLLawTimes : Addr} {fdLLawTimes : FuncData} (GLLawTimes : FnOk P w K mg base CX0 2 fLLawTimes fdLLawTimes ["a", "b"] (spLLawTimes K)) (gLLawTimes : mg "_law_times" = some (.ref fLLawTimes)) (kpLLawTimes : PySem.W.keepIn K (.ref fLLawTimes) = true) (bLLawTimes : Binds K fdLLawTimes ["a", "b"] [])
    {fLLawPoint : Addr} {fdLLawPoint : FuncData} (GLLawPoint : FnOk P w K mg base CX0 4 fLLawPoint fdLLawPoint ["frame", "base", "spot", "w"] (spLLawPoint K)) (gLLawPoint : mg "_law_point" = some (.ref fLLawPoint)) (kpLLawPoint : PySem.W.keepIn K (.ref fLLawPoint) = true) (bLLawPoint : Binds K fdLLawPoint ["frame", "base", "spot", "w"] []) :
    FnOk P w K mg base CX0 12 fLLawGood fdLLawGood ["tool", "frame", "base", "lines", "area", "ends", "draw"] (spLLawGood K) := by
  refine F.ok scLLawGood (fun vs H Q E h => ?_) (fun cdv A outer s H vs Q E hr h => ?_)
  · obtain ⟨tl, fr, bs, ln, ar, en, o1, o2, d, m, op, u, v, w, ls, a, p, c1, c2, rfl, hTl, hFr, hB, hL, hA, hE, hO1, hO2, bu, bv, bw, hls, h0, bp, b1, b2, b3, b4, l6, hnd, hall, hdp, q⟩ := h
    rfl
  · obtain ⟨tl, fr, bs, ln, ar, en, o1, o2, d, m, op, u, v, w, ls, a, p, c1, c2, rfl, hTl, hFr, hB, hL, hA, hE, hO1, hO2, bu, bv, bw, hls, h0, bp, b1, b2, b3, b4, l6, hnd, hall, hdp, q⟩ := h
    refine ⟨_, (pss_cons (ps_set (i := 7) scLLawGood.nd rfl (Or.inl rfl) (pe_call GLLawFraction (hr.mono (by decide)) (by rfl) gLLawFraction kpLLawFraction bLLawFraction .nil pass0 (pa_cons (pe_op op_sub (pe_op op_mod (pe_callTy call_int1 (by rfl) T.int (by decide +kernel) (pa_cons (pv 6) pa_nil)) pe_int) pe_int) (pa_cons (pe_op op_add pe_int (pe_op op_mod (pe_callTy call_int1 (by rfl) T.int (by decide +kernel) (pa_cons (pe_op op_fdiv (pv 6) pe_int) pa_nil)) pe_int)) pa_nil))))
      (pss_cons (ps_setLc (i := 8) (own := [("j", 19)]) (by rfl) scLLawGood.nd rfl rfl (sw_true rfl rfl rfl (by decide +kernel)) (pi_range1 rfl T.range (pa_cons pe_int pa_nil)) (blkOk_by (own := [("j", 19)]) (N := ["tool", "frame", "base", "lines", "area", "ends", "draw", "w", "spot", "left", "name", "way", "point", "here", "there", "low", "high", "beyond", "due", "j"]) (sc := defScope sLLawGood) (by decide +kernel)) (fun _ _ _ _ _ => (pg_name (i := 19) scLLawGood.nd rfl (Or.inl rfl))) (fun _ _ _ _ _ => pts_nil) (fun _ _ _ _ _ => (pe_call GLLawFraction (hr.mono (by decide)) (by rfl) gLLawFraction kpLLawFraction bLLawFraction .nil pass0 (pa_cons (pe_op op_sub (pe_op op_mod (pe_callTy call_int1 (by rfl) T.int (by decide +kernel) (pa_cons (pe_op op_fdiv (pv 6) (pe_op op_add pe_int (pe_op op_mulW pe_int (pv 19)))) pa_nil)) pe_int) pe_int) (pa_cons (pe_op op_add pe_int (pv 19)) pa_nil)))))
      (pss_cons (ps_set (i := 9) scLLawGood.nd rfl (Or.inl rfl) pe_dnewK)
      (C8.pss_cut (ps_for PassesOwn.never rfl (pi_list (pv 3)) (pg_tup rfl (pgs_cons (pg_name (i := 10) scLLawGood.nd rfl (Or.inl rfl)) (pgs_cons (pg_name (i := 11) scLLawGood.nd rfl (Or.inl rfl)) (pgs_cons (pg_name (i := 12) scLLawGood.nd rfl (Or.inl rfl)) pgs_nil))))
        (pss_cons (ps_set (i := 13) scLLawGood.nd rfl (Or.inl rfl) (pe_call GLLawSum (hr.mono (by decide)) (by rfl) gLLawSum kpLLawSum bLLawSum .nil pass0 (pa_cons (pe_call GLLawTimes (hr.mono (by decide)) (by rfl) gLLawTimes kpLLawTimes bLLawTimes .nil pass0 (pa_cons (pe_tup (pa_cons (pe_ix ix_tup (pv 11) pe_int (fun _ _ => rfl)) (pa_cons pe_int pa_nil))) (pa_cons (pe_ix ix_list (pv 8) pe_int (fun _ _ => rfl)) pa_nil))) (pa_cons (pe_call GLLawTimes (hr.mono (by decide)) (by rfl) gLLawTimes kpLLawTimes bLLawTimes .nil pass0 (pa_cons (pe_tup (pa_cons (pe_un un_neg (pe_ix ix_tup (pv 11) pe_int (fun _ _ => rfl))) (pa_cons pe_int pa_nil))) (pa_cons (pe_ix ix_list (pv 8) pe_int (fun _ _ => rfl)) pa_nil))) pa_nil))))
        (pss_cons (ps_set (i := 14) scLLawGood.nd rfl (Or.inl rfl) (pe_call GLLawSum (hr.mono (by decide)) (by rfl) gLLawSum kpLLawSum bLLawSum .nil pass0 (pa_cons (pe_call GLLawTimes (hr.mono (by decide)) (by rfl) gLLawTimes kpLLawTimes bLLawTimes .nil pass0 (pa_cons (pe_tup (pa_cons (pe_ix ix_tup (pv 11) pe_int (fun _ _ => rfl)) (pa_cons pe_int pa_nil))) (pa_cons (pe_call GLLawAt (hr.mono (by decide)) (by rfl) gLLawAt kpLLawAt bLLawAt .nil pass0 (pa_cons (pe_ix ix_tup (pv 12) pe_int (fun _ _ => rfl)) (pa_cons (pv 7) pa_nil))) pa_nil))) (pa_cons (pe_call GLLawTimes (hr.mono (by decide)) (by rfl) gLLawTimes kpLLawTimes bLLawTimes .nil pass0 (pa_cons (pe_tup (pa_cons (pe_un un_neg (pe_ix ix_tup (pv 11) pe_int (fun _ _ => rfl))) (pa_cons pe_int pa_nil))) (pa_cons (pe_call GLLawAt (hr.mono (by decide)) (by rfl) gLLawAt kpLLawAt bLLawAt .nil pass0 (pa_cons (pe_ix ix_tup (pv 12) pe_int (fun _ _ => rfl)) (pa_cons (pv 7) pa_nil))) pa_nil))) pa_nil))))
        (pss_cons (ps_if (pt_cmpR (op_eqD hr.units) (pv 13) (pv 14) (nomark _))
          (pss_one (ps_ret pe_bl))
          pss_nil)
        (pss_one (ps_dput (hu_of hr) (pv 9) (pv 10) (pe_cmpR op_gt (pe_op op_mulW (pe_ix ix_tup (pv 13) pe_int (fun _ _ => rfl)) (pe_ix ix_tup (pv 14) pe_int (fun _ _ => rfl))) (pe_op op_mulW (pe_ix ix_tup (pv 14) pe_int (fun _ _ => rfl)) (pe_ix ix_tup (pv 13) pe_int (fun _ _ => rfl))) (nomark _)) rfl))))))
      (pss_cons (ps_set (i := 15) scLLawGood.nd rfl (Or.inl rfl) (pe_call GLLawAt (hr.mono (by decide)) (by rfl) gLLawAt kpLLawAt bLLawAt .nil pass0 (pa_cons (pe_ix ix_list (pv 5) pe_int (fun _ _ => rfl)) (pa_cons (pv 7) pa_nil))))
      (pss_cons (ps_set (i := 16) scLLawGood.nd rfl (Or.inl rfl) (pe_call GLLawAt (hr.mono (by decide)) (by rfl) gLLawAt kpLLawAt bLLawAt .nil pass0 (pa_cons (pe_ix ix_list (pv 5) pe_int (fun _ _ => rfl)) (pa_cons (pv 7) pa_nil))))
      (pss_cons (ps_if (pt_cmpR (op_inTD (u65_of hr)) (pe_ix ix_list (pv 8) pe_int (fun _ _ => rfl)) (pe_tup (pa_cons (pv 15) (pa_cons (pv 16) pa_nil))) (by rfl))
        (pss_one (ps_ret pe_bl))
        pss_nil)
      (pss_cons (ps_set (i := 17) scLLawGood.nd rfl (Or.inl rfl) (pe_cmpR op_gt (pe_op op_mulW (pe_ix ix_tup (pe_ix ix_list (pv 8) pe_int (fun _ _ => rfl)) pe_int (fun _ _ => rfl)) (pe_ix ix_tup (pv 15) pe_int (fun _ _ => rfl))) (pe_op op_mulW (pe_ix ix_tup (pv 15) pe_int (fun _ _ => rfl)) (pe_ix ix_tup (pe_ix ix_list (pv 8) pe_int (fun _ _ => rfl)) pe_int (fun _ _ => rfl))) (nomark _)))
      (pss_cons (ps_set (i := 18) scLLawGood.nd rfl (Or.inl rfl) (pe_and (pe_call GLLawAreaHolds (hr.mono (by decide)) (by rfl) gLLawAreaHolds kpLLawAreaHolds bLLawAreaHolds .nil pass0 (pa_cons (pv 4) (pa_cons (pv 9) pa_nil))) (pe_and (pv 17) (pe_one (pe_cmpR op_lt (pe_op op_mulW (pe_ix ix_tup (pe_ix ix_list (pv 8) pe_int (fun _ _ => rfl)) pe_int (fun _ _ => rfl)) (pe_ix ix_tup (pv 16) pe_int (fun _ _ => rfl))) (pe_op op_mulW (pe_ix ix_tup (pv 16) pe_int (fun _ _ => rfl)) (pe_ix ix_tup (pe_ix ix_list (pv 8) pe_int (fun _ _ => rfl)) pe_int (fun _ _ => rfl))) (nomark _))))))
      (pss_one (ps_ret (pe_cmpR op_eq (pe_call GLLawIn hr (by rfl) gLLawIn kpLLawIn bLLawIn .nil pass0 (pa_cons (pv 0) (pa_cons (pe_call GLLawPoint (hr.mono (by decide)) (by rfl) gLLawPoint kpLLawPoint bLLawPoint .nil pass0 (pa_cons (pv 1) (pa_cons (pv 2) (pa_cons (pv 8) (pa_cons (pv 7) pa_nil))))) (pa_cons (pv 7) pa_nil)))) (pv 18) (nomark _))))))))))))), ?_⟩
    have hn1 : (d % 9 - 4).natAbs < 2 ^ 1800 := Bz.up (n := 4) (m := 1800) (by show (d % 9 - 4).natAbs < 16; omega) (by decide)
    have hn2 : (1 + d / 9 % 2).natAbs < 2 ^ 1800 := Bz.up (n := 4) (m := 1800) (by show (1 + d / 9 % 2).natAbs < 16; omega) (by decide)
    have hn3 : 1 + d / 9 % 2 ≠ 0 := by omega
    walk_at "go"
    refine fun H1 tw s1 e1 => ?_
    have fw : Fx K H1 tw (wD d) := fx_rd hn3 e1
    walk_at "go"
    walk_at "st"
    refine ⟨by decide, by decide, fun D hD => ?_⟩
    refine lc_obj (walk_range (lo := 0) (n := 3)) (fun i H v => ∃ b : Addr, v = .ref b ∧ Fx K H b (spD d i)) (fun {i H H' v D acc} h e s => by
      obtain ⟨b, g1, g2⟩ := h
      exact ⟨b, g1, over_fx g2 e s⟩) (by decide) hD (fun H2 s2 => trivial) ?_ ?_
    · rintro i x H2 H3 kk hi s2 ⟨rfl, rfl⟩ kk2
      show gName 19 (V.int ((0 : Int) + (i : Nat))) _ _ _
      rw [show (0 : Int) + (i : Int) = (i : Int) by omega]
      refine ⟨rfl, ?_⟩
      walk_at "go"
      refine ⟨Bz.wide (n := 4) (m := 4) (by show (11 : Int).natAbs < 16; decide) (by show ((i : Nat) : Int).natAbs < 16; omega) (by decide), ?_⟩
      walk_at "go"
      refine ⟨cdiv_small (by omega) (by omega), ?_⟩
      walk_at "go"
      refine ⟨Bz.up (n := 5) (m := 1800) (by show (d / (5 + 11 * (i : Int)) % 23 - 11).natAbs < 32; omega) (by decide), Bz.up (n := 5) (m := 1800) (by show (2 + (i : Int)).natAbs < 32; omega) (by decide), by omega, fun H4 t4 s4 e4 => ?_⟩
      exact kk2 _ H4 s4 ⟨t4, rfl, fx_rd (by omega) e4⟩
    · intro H2 us s2 e2 l2 r2
      obtain ⟨a0, a1, a2, rfl⟩ := one3 (l2.trans rfl)
      obtain ⟨xa, rfl, hxa⟩ := r2 0 _ rfl
      obtain ⟨xb, rfl, hxb⟩ := r2 1 _ rfl
      obtain ⟨xc, rfl, hxc⟩ := r2 2 _ rfl
      have bsp := @spD_bd d
      refine fun dl ndl => ?_
      have s3 := same_upd (o := .dK []) ndl
      have e3 : (upd H2 dl (.dK [])) dl = some (.dK []) := upd_same
      generalize upd H2 dl (.dK []) = H3 at s3 e3 ⊢
      obtain ⟨lw, k1, k2, k3⟩ := id hL
      have llw : lw.length = ls.length := by rw [← k3, List.length_map]
      have s12 := s1.trans s2
      have f3 : F3 K H2 D (spD d 0, spD d 1, spD d 2) := ⟨xa, xb, xc, SqL.of e2, hxa, hxb, hxc⟩
      have fw2 := fw.same s2
      have bw4 := wD_bd d
      generalize hsp : (spD d 0, spD d 1, spD d 2) = sp at f3
      have bs1 : Bd 4 sp.1 ∧ Bd 4 sp.2.1 ∧ Bd 4 sp.2.2 := by rw [← hsp]; exact ⟨bsp (by decide), bsp (by decide), bsp (by decide)⟩
      generalize wD d = r at *
      refine ⟨fun σ' H' => ∃ (v10 v11 v12 v13 v14 : Option V) (kvs : List (Key × V)), σ' = [some (.ref tl), some (.ref fr), some (.ref bs), some (.ref ln), some (.ref ar), some (.ref en), some (.int d), some (.ref tw), some (.ref D), some (.ref dl), v10, v11, v12, v13, v14, none, none, none, none, none] ∧ Same H2 H' ∧ H' dl = some (.dK kvs) ∧ (∀ (j : Nat) (l : Ln), ls[j]? = some l → hereL l sp ≠ atR (thrP l) r ∧ valV kvs (Sum.inr l.nm) = some (.bl (lfB sp r l))), ?_, ?_⟩
      · walk_at "st"
        refine ⟨_, rfl, ln, rfl, ⟨_, (s12.trans s3).seq k1⟩, for_list (K := K) (a := ln) (xs := Ro lw) (fun i σ' H' => ∃ (v10 v11 v12 v13 v14 : Option V) (kvs : List (Key × V)), σ' = [some (.ref tl), some (.ref fr), some (.ref bs), some (.ref ln), some (.ref ar), some (.ref en), some (.int d), some (.ref tw), some (.ref D), some (.ref dl), v10, v11, v12, v13, v14, none, none, none, none, none] ∧ Same H2 H' ∧ H' dl = some (.dK kvs) ∧ kvs.length ≤ i ∧ (∀ (j : Nat) (l : Ln), j < i → ls[j]? = some l → hereL l sp ≠ atR (thrP l) r ∧ valV kvs (Sum.inr l.nm) = some (.bl (lfB sp r l)))) ⟨none, none, none, none, none, [], rfl, s3, e3, Nat.le_refl _, fun j l hj => absurd hj (Nat.not_lt_zero _)⟩ ?_ ?_ ?_⟩
        · rintro i σ' H' _ ⟨v10, v11, v12, v13, v14, kvs, rfl, s4, _⟩
          exact s4.seq (s12.seq k1)
        · rintro i vx σ' H4 hi ⟨v10, v11, v12, v13, v14, kvs, rfl, s4, e4, len4, val4⟩
          obtain ⟨wl, rfl, gw⟩ := Ro_get hi
          have hil : i < ls.length := by
            have := (List.getElem?_eq_some_iff.mp gw).1
            omega
          have ml := k2 wl (List.mem_of_getElem? gw)
          have hl : ls[i]? = some wl.2 := by rw [← k3, List.getElem?_map, gw]; rfl
          obtain ⟨lt, l⟩ := wl
          obtain ⟨dd, vv, n1, n2, n3⟩ := ml
          dsimp only at n1 n2 n3 hl
          obtain ⟨hok, ba, bb, x, y, hpt, ⟨p1, p2, p3, p4⟩, _⟩ := hls l (List.mem_of_getElem? hl)
          rw [hpt] at n3
          obtain ⟨qa, ux, uy, rfl, q1, q2, q3⟩ := n3
          have s04 := s12.trans s4
          have n1' := same_tup s04 n1
          have n2' := same_tup s04 n2
          have q1' := same_tup s04 q1
          have q2' := V1.up s04 q2
          have q3' := V1.up s04 q3
          obtain ⟨xa, xb, xc, f31, f32, f33, f34⟩ := F3.up s4 f3
          have fw4 := fw2.same s4
          refine ⟨lt, _, rfl, n1', rfl, _, _, rfl, _, _, rfl, _, _, rfl, rfl, ?_⟩
          walk_at "st"
          have bar := bd_int ba (by decide)
          have bbr := bd_int (Bz.neg bb) (by decide)
          obtain ⟨bs2, bs3, bs4⟩ := bs1
          walk_at "go"
          refine ⟨tn rfl, fun t5 nt5 => ?_⟩
          generalize hUt5 : upd _ _ (HO.tup _) = H5
          have s5 := same_hu hUt5 nt5
          have ey5 := at_hu hUt5
          have y5 := SqT.of (K := K) ey5
          clear hUt5
          walk_at "go"
          refine ⟨D, _, 1, .ref xb, rfl, rfl, s5.seq f31, atI_nat (j := 1) rfl, ?_⟩
          walk_at "go"
          refine ⟨t5, xb, ((l.a : Int) : Rat), sp.2.1, rfl, fx_int y5, f33.same s5, bar.up (by decide), bs3.up (by decide), fun H6 t6 s6 y6 => ?_⟩
          walk_at "go"
          refine ⟨tn rfl, fun t7 nt7 => ?_⟩
          generalize hUt7 : upd _ _ (HO.tup _) = H7
          have s7 := same_hu hUt7 nt7
          have ey7 := at_hu hUt7
          have y7 := SqT.of (K := K) ey7
          clear hUt7
          walk_at "go"
          refine ⟨D, _, 0, .ref xa, rfl, rfl, (s5.trans (s6.trans s7)).seq f31, atI_nat (j := 0) rfl, ?_⟩
          walk_at "go"
          refine ⟨t7, xa, ((-l.b : Int) : Rat), sp.1, rfl, fx_int y7, f32.same (s5.trans (s6.trans s7)), bbr.up (by decide), bs2.up (by decide), fun H8 t8 s8 y8 => ?_⟩
          walk_at "go"
          refine ⟨t6, t8, _, _, rfl, y6.same (s7.trans s8), y8, (bar.mul bs3).up (by decide), (bbr.mul bs2).up (by decide), fun H9 th s9 yh => ?_⟩
          have s49 := s5.trans (s6.trans (s7.trans (s8.trans s9)))
          have hh : Fx K H9 th (hereL l sp) := by
            have e : ((l.a : Int) : Rat) * sp.2.1 + ((-l.b : Int) : Rat) * sp.1 = hereL l sp := by
              unfold hereL
              rw [Rat.intCast_neg]
              grind
            rw [← e]
            exact yh
          have q1a := same_tup s49 q1'
          have q2a := V1.up s49 q2'
          have q3a := V1.up s49 q3'
          have fwa := fw4.same s49
          have n2a := same_tup s49 n2'
          walk_at "st"
          walk_at "go"
          refine ⟨tn rfl, fun t10 nt10 => ?_⟩
          generalize hUt10 : upd _ _ (HO.tup _) = H10
          have s10 := same_hu hUt10 nt10
          have ey10 := at_hu hUt10
          have y10 := SqT.of (K := K) ey10
          clear hUt10
          walk_at "go"
          refine ⟨uy, tw, y.1, y.2, r, rfl, q3a.same s10, fwa.same s10, p3.up (by decide), p4.up (by decide), bw4.up (by decide), fun H11 t11 s11 y11 => ?_⟩
          have by11 := p3.add (p4.mul bw4)
          walk_at "go"
          refine ⟨t10, t11, ((l.a : Int) : Rat), _, rfl, (fx_int y10).same s11, y11, bar.up (by decide), by11.up (by decide), fun H12 t12 s12' y12 => ?_⟩
          walk_at "go"
          refine ⟨tn rfl, fun t13 nt13 => ?_⟩
          generalize hUt13 : upd _ _ (HO.tup _) = H13
          have s13 := same_hu hUt13 nt13
          have ey13 := at_hu hUt13
          have y13 := SqT.of (K := K) ey13
          clear hUt13
          have s913 := s10.trans (s11.trans (s12'.trans s13))
          have q1b := same_tup s913 q1a
          walk_at "go"
          refine ⟨ux, tw, x.1, x.2, r, rfl, q2a.same s913, fwa.same s913, p1.up (by decide), p2.up (by decide), bw4.up (by decide), fun H14 t14 s14 y14 => ?_⟩
          have by14 := p1.add (p2.mul bw4)
          walk_at "go"
          refine ⟨t13, t14, ((-l.b : Int) : Rat), _, rfl, (fx_int y13).same s14, y14, bbr.up (by decide), by14.up (by decide), fun H15 t15 s15 y15 => ?_⟩
          walk_at "go"
          refine ⟨t12, t15, _, _, rfl, y12.same (s13.trans (s14.trans s15)), y15, (bar.mul by11).up (by decide), (bbr.mul by14).up (by decide), fun H16 tt s16 ytt => ?_⟩
          have s916 := s913.trans (s14.trans (s15.trans s16))
          have ht : Fx K H16 tt (atR (thrP l) r) := by
            have e : ((l.a : Int) : Rat) * (y.1 + y.2 * r) + ((-l.b : Int) : Rat) * (x.1 + x.2 * r) = atR (thrP l) r := by
              unfold atR thrP
              rw [hpt]
              unfold thrV
              dsimp only
              rw [Rat.intCast_neg]
              grind
            rw [← e]
            exact ytt
          have hh16 := hh.same s916
          have s416 := s49.trans s916
          walk_at "st"
          refine ⟨_, rfl, _, rfl, _, _, dpr hh16, dpr ht, sh1 _, sh1 _, ?_⟩
          rw [eqvr]
          refine ⟨_, rfl, ?_⟩
          by_cases he : hereL l sp = atR (thrP l) r
          · refine iteT' (decide_eq_true he) ?_
            walk_at "go"
            exact q H16 (s12.trans (s4.trans s416))
          · refine iteF' (decide_eq_false he) ?_
            have bh : Bd 700 (hereL l sp) := by
              have e : ((l.a : Int) : Rat) * sp.2.1 + ((-l.b : Int) : Rat) * sp.1 = hereL l sp := by
                unfold hereL
                rw [Rat.intCast_neg]
                grind
              rw [← e]
              exact ((bar.mul bs3).add (bbr.mul bs2)).up (by decide)
            have bt : Bd 700 (atR (thrP l) r) := by
              have e : ((l.a : Int) : Rat) * (y.1 + y.2 * r) + ((-l.b : Int) : Rat) * (x.1 + x.2 * r) = atR (thrP l) r := by
                unfold atR thrP
                rw [hpt]
                unfold thrV
                dsimp only
                rw [Rat.intCast_neg]
                grind
              rw [← e]
              exact ((bar.mul by11).add (bbr.mul by14)).up (by decide)
            have hlf : lfB sp r l = decide (atR (thrP l) r < hereL l sp) := rfl
            generalize hX : hereL l sp = X at *
            generalize hY : atR (thrP l) r = Y at *
            walk_at "go"
            refine ⟨dl, _, rfl, DPut.k (k := Sum.inr l.nm) (s416 _ _ e4) (small1000 (by omega)), ?_⟩
            have hcmp : decide (Y.num * (X.den : Int) < X.num * (Y.den : Int)) = lfB sp r l := by
              rw [hlf]
              exact decide_eq_decide.mpr (Rat.lt_iff Y X).symm
            refine ⟨_, _, _, _, _, _, rfl, fun b o e => ?_, upd_same, Nat.le_trans (length_putK _ _ _) (by omega), fun j l2 hj hl2 => ?_⟩
            · rw [upd_ne (ne_of_none e ndl)]
              exact s416 _ _ (s4 _ _ e)
            · by_cases hji : j = i
              · subst hji
                obtain rfl : l = l2 := Option.some.inj (hl.symm.trans hl2)
                refine ⟨by rw [hX, hY]; exact he, ?_⟩
                rw [valV_put, if_pos rfl, ← hcmp]
              · obtain ⟨z1, z2⟩ := val4 j l2 (by omega) hl2
                refine ⟨z1, ?_⟩
                rw [valV_put, if_neg (fun e => nm_ne hnd hl2 hl (by omega) (Sum.inr.inj e))]
                exact z2
        · rintro σ' H4 ⟨v10, v11, v12, v13, v14, kvs, rfl, s4, e4, len4, val4⟩
          rw [Ro_len] at val4
          exact ⟨v10, v11, v12, v13, v14, kvs, rfl, s4, e4, fun j l hl => val4 j l (by have := (List.getElem?_eq_some_iff.mp hl).1; omega) hl⟩
      · rintro σ' H4 ⟨v10, v11, v12, v13, v14, kvs, rfl, s4, e4, val4⟩
        have s04 := s12.trans s4
        have fw4 := fw2.same s4
        obtain ⟨xa, xb, xc, f31, f32, f33, f34⟩ := F3.up s4 f3
        have hO1' := V1.up s04 hO1
        have hO2' := V1.up s04 hO2
        walk_at "go"
        refine ⟨en, _, 0, .ref o1, rfl, rfl, s04.seq hE, atI_nat (j := 0) rfl, ?_⟩
        walk_at "go"
        refine ⟨o1, tw, c1.1, c1.2, r, rfl, hO1', fw4, b1.up (by decide), b2.up (by decide), bw4.up (by decide), fun H5 lo s5 ylo => ?_⟩
        walk_at "st"
        walk_at "go"
        refine ⟨en, _, 1, .ref o2, rfl, rfl, (s04.trans s5).seq hE, atI_nat (j := 1) rfl, ?_⟩
        walk_at "go"
        refine ⟨o2, tw, c2.1, c2.2, r, rfl, hO2'.same s5, fw4.same s5, b3.up (by decide), b4.up (by decide), bw4.up (by decide), fun H6 hi s6 yhi => ?_⟩
        have ylo' : Fx K H6 lo (atR c1 r) := ylo.same s6
        replace yhi : Fx K H6 hi (atR c2 r) := yhi
        have s56 := s5.trans s6
        walk_at "st"
        walk_at "go"
        refine ⟨D, _, 2, .ref xc, rfl, rfl, s56.seq f31, atI_nat (j := 2) rfl, ?_⟩
        walk_at "go"
        refine ⟨tn rfl, fun tp ntp => ?_⟩
        generalize hUtp : upd _ _ (HO.tup _) = H7
        have s7 := same_hu hUtp ntp
        have ey7 := at_hu hUtp
        have y7 := SqT.of (K := K) ey7
        clear hUtp
        have s57 := s56.trans s7
        have ylo7 := ylo'.same s7
        have yhi7 := yhi.same s7
        have yt7 := f34.same s57
        refine ⟨pdr sp.2.2, [atR c1 r, atR c2 r].map pdr, dpr yt7, .tup y7 (.cons (dpr ylo7) (.cons (dpr yhi7) .nil)), sh1 _, shrt _, ?_⟩
        have ein : (([atR c1 r, atR c2 r].map pdr).any fun z => PyData.eqv z (pdr sp.2.2)) = (decide (atR c1 r = sp.2.2) || decide (atR c2 r = sp.2.2)) := by
          show (PyData.eqv (pdr (atR c1 r)) (pdr sp.2.2) || (PyData.eqv (pdr (atR c2 r)) (pdr sp.2.2) || false)) = _
          rw [eqvr, eqvr, Bool.or_false]
        rw [ein]
        by_cases hin : (decide (atR c1 r = sp.2.2) || decide (atR c2 r = sp.2.2)) = true
        · rw [hin]
          refine ⟨_, rfl, ?_⟩
          refine iteT' rfl ?_
          walk_at "go"
          exact q H7 (s04.trans s57)
        · rw [Bool.not_eq_true] at hin
          rw [hin]
          rw [Bool.or_eq_false_iff] at hin
          have ne1 : sp.2.2 ≠ atR c1 r := fun z => of_decide_eq_false hin.1 z.symm
          have ne2 : sp.2.2 ≠ atR c2 r := fun z => of_decide_eq_false hin.2 z.symm
          have bat1 : Bd 700 (atR c1 r) := (b1.add (b2.mul bw4)).up (by decide)
          have bat2 : Bd 700 (atR c2 r) := (b3.add (b4.mul bw4)).up (by decide)
          have bt2 : Bd 700 sp.2.2 := bs1.2.2.up (by decide)
          refine ⟨_, rfl, ?_⟩
          refine iteF' rfl ?_
          have f317 := s57.seq f31
          have ld : LdAt H7 dl (lfN ls sp r) (NmIn ls) := ⟨kvs, s57 _ _ e4, fun n hn => by
            obtain ⟨l, hl, rfl⟩ := hn
            obtain ⟨j, hj⟩ := List.getElem?_of_mem hl
            rw [lfN_at hnd hj]
            exact (val4 j l hj).2⟩
          have hne : ∀ l ∈ ls, hereL l sp ≠ atR (thrP l) r := fun l hl => by
            obtain ⟨j, hj⟩ := List.getElem?_of_mem hl
            exact (val4 j l hj).1
          obtain ⟨k01, k02⟩ := sk_holds (p := p) (c1 := c1) (c2 := c2) (s1 := sp.1) (s2 := sp.2.1) (t := sp.2.2) hnd (fun l hl => (hls l hl).1.2.2) h0 hall hne ne1 ne2
          walk_at "go"
          have ptbd : ∀ k, Bd 100 (ptC (u, v, w) p sp r k) := fun k => (ptAc_bd (F := (u, v, w)) bu bv bw bp bs1 bw4 k 3).up (by decide)
          have hok : ∀ x ∈ skSides u v w p ls (ls.map thrP) c1 c2, SdOk x.2 := fun x hx => by
            rcases tl_mem hx with ⟨l, hl, rfl⟩ | rfl | rfl
            · obtain ⟨⟨_, _, hab⟩, ba, bb, _, _, _, _, z1, z2, _⟩ := hls l hl
              exact (lnSide_ok bu bv bw ba bb hab h0 bp z1 z2).1
            · exact (ndSide_ok bu bv bw h0 bp b1 b2).1
            · exact (ndSide_ok bu bv bw h0 bp b3 b4).1
          have hga : (skTest ls a).all fun i => 0 ≤ i ∧ i < ((skSides u v w p ls (ls.map thrP) c1 c2).length : Int) := by
            rw [tl_len]
            refine ⟨⟨tsOf_all (fun n hn => ?_) a hall, by constructor <;> omega⟩, by constructor <;> omega⟩
            obtain ⟨l, hl, rfl⟩ := hn
            obtain ⟨j, hj⟩ := List.getElem?_of_mem hl
            have := (List.getElem?_eq_some_iff.mp hj).1
            rw [plI_at hnd hj]
            constructor <;> omega
          have hgd : (skTest ls a).deep ≤ 9 := by
            have := tsOf_deep (pl := plI ls) a
            show max (max _ 1 + 1) 1 + 1 ≤ 9
            omega
          refine ⟨ar, dl, a, lfN ls sp r, NmIn ls, rfl, hA.up (s04.trans s57), ld, hall, by omega, ?_⟩
          refine ⟨_, rfl, ?_⟩
          have hb1 : decide ((atR c1 r).num * (sp.2.2.den : Int) < sp.2.2.num * ((atR c1 r).den : Int)) = decide (atR c1 r < sp.2.2) := decide_eq_decide.mpr (Rat.lt_iff _ _).symm
          have hb2 : decide (sp.2.2.num * ((atR c2 r).den : Int) < (atR c2 r).num * (sp.2.2.den : Int)) = decide (sp.2.2 < atR c2 r) := decide_eq_decide.mpr (Rat.lt_iff _ _).symm
          cases hAh : a.holds (lfN ls sp r) with
          | false =>
            refine iteF' rfl ?_
            rw [hAh] at k02
            walk_at "st"
            walk_at "go"
            refine ⟨fr, bs, D, tw, (u, v, w), p, sp, r, rfl, hFr.up (s04.trans s57), T3At.up (s04.trans s57) hB, F3.up s57 ⟨xa, xb, xc, f31, f32, f33, f34⟩, fw4.same s57, bu, bv, bw, bp, bs1, bw4, fun H8 pt s8 y8 => ?_⟩
            walk_at "go"
            refine ⟨tl, pt, tw, op, m, _, _, ptT u v w p sp r, r, rfl, TlAt.up (s04.trans (s57.trans s8)) hTl, y8, fw4.same (s57.trans s8), fun x hx => ⟨hok x hx, k01 x hx⟩, ptbd 0, ptbd 1, ptbd 2, bw4.up (by decide), by rw [tl_len]; omega, hga, hgd, fun H9 s9 => ?_⟩
            walk_at "go"
            refine (congrArg (fun b => Q (V.bl b) H9) (decide_eq_true (congrArg V.bl (k02.trans rfl)))).mpr (q H9 (s04.trans (s57.trans (s8.trans s9))))
          | true =>
            refine iteT' rfl ?_
            rw [hAh] at k02
            walk_at "go"
            cases hBh : decide (atR c1 r < sp.2.2) with
            | false =>
              rw [hBh] at k02 hb1
              refine iteF' hb1 ?_
              walk_at "st"
              walk_at "go"
              refine ⟨fr, bs, D, tw, (u, v, w), p, sp, r, rfl, hFr.up (s04.trans s57), T3At.up (s04.trans s57) hB, F3.up s57 ⟨xa, xb, xc, f31, f32, f33, f34⟩, fw4.same s57, bu, bv, bw, bp, bs1, bw4, fun H8 pt s8 y8 => ?_⟩
              walk_at "go"
              refine ⟨tl, pt, tw, op, m, _, _, ptT u v w p sp r, r, rfl, TlAt.up (s04.trans (s57.trans s8)) hTl, y8, fw4.same (s57.trans s8), fun x hx => ⟨hok x hx, k01 x hx⟩, ptbd 0, ptbd 1, ptbd 2, bw4.up (by decide), by rw [tl_len]; omega, hga, hgd, fun H9 s9 => ?_⟩
              walk_at "go"
              refine (congrArg (fun b => Q (V.bl b) H9) (decide_eq_true (congrArg V.bl (k02.trans rfl)))).mpr (q H9 (s04.trans (s57.trans (s8.trans s9))))
            | true =>
              rw [hBh] at k02 hb1
              refine iteT' hb1 ?_
              walk_at "go"
              walk_at "st"
              walk_at "go"
              refine ⟨fr, bs, D, tw, (u, v, w), p, sp, r, rfl, hFr.up (s04.trans s57), T3At.up (s04.trans s57) hB, F3.up s57 ⟨xa, xb, xc, f31, f32, f33, f34⟩, fw4.same s57, bu, bv, bw, bp, bs1, bw4, fun H8 pt s8 y8 => ?_⟩
              walk_at "go"
              refine ⟨tl, pt, tw, op, m, _, _, ptT u v w p sp r, r, rfl, TlAt.up (s04.trans (s57.trans s8)) hTl, y8, fw4.same (s57.trans s8), fun x hx => ⟨hok x hx, k01 x hx⟩, ptbd 0, ptbd 1, ptbd 2, bw4.up (by decide), by rw [tl_len]; omega, hga, hgd, fun H9 s9 => ?_⟩
              walk_at "go"
              refine (congrArg (fun b => Q (V.bl b) H9) (decide_eq_true (congrArg V.bl (k02.trans hb2.symm)))).mpr (q H9 (s04.trans (s57.trans (s8.trans s9))))
def Wy : List (Int × Int) := [(1, 0), (0, 1), (2, -3), (-1, -1), (0, -2)]
def wyF (d : Int) (j : Nat) : Int × Int := Wy.getD (d / (3 + 5 * (j : Int)) % 5).toNat (1, 0)
def lnG (d : Int) (j : Nat) : Ln := ⟨nmS j, (wyF d j).1, (wyF d j).2, some (valV2 (d / (41 + (j : Int))), valV2 (d / (47 + 3 * (j : Int))))⟩
def lsG (d : Int) (m : Nat) : List Ln := (List.range m).map (lnG d)
def bsG (d : Int) : R3 := (valV2 (d / 31), valV2 (d / 38), valV2 (d / 45))
theorem wy_ok : ∀ w ∈ Wy, Bz 2 w.1 ∧ Bz 2 w.2 ∧ (w.1 ≠ 0 ∨ w.2 ≠ 0) ∧ w.1.natAbs ≤ 3 ∧ w.2.natAbs ≤ 3 := by
  have : ∀ w ∈ Wy, w.1.natAbs < 4 ∧ w.2.natAbs < 4 ∧ (w.1 ≠ 0 ∨ w.2 ≠ 0) ∧ w.1.natAbs ≤ 3 ∧ w.2.natAbs ≤ 3 := by decide
  exact this
theorem wyF_mem (d : Int) (j : Nat) : wyF d j ∈ Wy := by
  unfold wyF
  have h : (d / (3 + 5 * (j : Int)) % 5).toNat < Wy.length := by
    show _ < 5
    omega
  rw [List.getD_eq_getElem?_getD, List.getElem?_eq_getElem h]
  exact List.getElem_mem h
theorem half_ok {q : Rat} {N : Int} (h : q * 2 = (N : Rat)) (hN : N.natAbs ≤ 80) : Bd 8 q ∧ W12 1000 q := by
  have e : q = Rat.divInt N 2 := by
    rw [Rat.divInt_eq_div]
    show q = (N : Rat) / ((2 : Int) : Rat)
    rw [← h]
    have : ((2 : Int) : Rat) = 2 := rfl
    rw [this]
    grind
  refine ⟨?_, 6 * N, ?_, by omega⟩
  · rw [e]
    refine bd_of (by decide) ?_ (by decide)
    show N.natAbs < 256
    omega
  · rw [Rat.intCast_mul, ← h]
    show q * 12 = 6 * (q * 2)
    grind
theorem mul_le {a b : Int} {n m : Nat} (h : a.natAbs ≤ n) (g : b.natAbs ≤ m) : (a * b).natAbs ≤ n * m := by
  rw [Int.natAbs_mul]
  exact Nat.mul_le_mul h g
theorem lnG_ok (d : Int) (j : Nat) : LnS (lnG d j) := by
  obtain ⟨w1, w2, w3, w4, w5⟩ := wy_ok _ (wyF_mem d j)
  obtain ⟨⟨X, x1, x2⟩, ⟨X', x3, x4⟩, x5, x6⟩ := val_small (d / (41 + (j : Int)))
  obtain ⟨⟨Y, y1, y2⟩, ⟨Y', y3, y4⟩, y5, y6⟩ := val_small (d / (47 + 3 * (j : Int)))
  have a1 := mul_le w4 y2
  have a2 := mul_le w5 x2
  have a3 := mul_le w4 y4
  have a4 := mul_le w5 x4
  have h1 := half_ok (q := (thrP (lnG d j)).1) (N := (wyF d j).1 * Y - (wyF d j).2 * X) (by
    show (((wyF d j).1 : Rat) * (valV2 (d / (47 + 3 * (j : Int)))).1 - ((wyF d j).2 : Rat) * (valV2 (d / (41 + (j : Int)))).1) * 2 = _
    rw [Rat.intCast_sub, Rat.intCast_mul, Rat.intCast_mul, ← x1, ← y1]
    grind) (by omega)
  have h2 := half_ok (q := (thrP (lnG d j)).2) (N := 2 * ((wyF d j).1 * Y' - (wyF d j).2 * X')) (by
    show (((wyF d j).1 : Rat) * (valV2 (d / (47 + 3 * (j : Int)))).2 - ((wyF d j).2 : Rat) * (valV2 (d / (41 + (j : Int)))).2) * 2 = _
    rw [Rat.intCast_mul, Rat.intCast_sub, Rat.intCast_mul, Rat.intCast_mul, ← x3, ← y3]
    show _ = 2 * _
    grind) (by omega)
  exact ⟨⟨by show (wyF d j).1.natAbs < 8; omega, by show (wyF d j).2.natAbs < 8; omega, w3⟩, w1, w2, _, _, rfl, ⟨x5.up (by decide), x6.up (by decide), y5.up (by decide), y6.up (by decide)⟩, h1.1, h2.1, h1.2, h2.2⟩
def opF (d : Int) : Str := if d % 3 = 0 then "add" else if d % 3 = 1 then "cut" else "keep"
theorem opF_at (d : Int) : atI [V.str "add", V.str "cut", V.str "keep"] (d % 3) = some (V.str (opF d)) := by
  unfold opF
  by_cases h : d % 3 = 0
  · rw [if_pos h, h]
    exact atI_nat (j := 0) rfl
  · rw [if_neg h]
    by_cases h1 : d % 3 = 1
    · rw [if_pos h1, h1]
      exact atI_nat (j := 1) rfl
    · rw [if_neg h1, show d % 3 = 2 by omega]
      exact atI_nat (j := 2) rfl
theorem ln_over {K : PySem.W.Frag} (E : Addr) : StabAt (LnAt K) E := fun H H' t l ys hl s ⟨d, v, h1, h2, h3⟩ => ⟨d, v, over_tup h1 hl s, over_tup h2 hl s, h3.over hl s⟩
theorem ne_td {H : Hp} {t d : Addr} {xs : List V} {kvs : List (Key × V)} (h : H t = some (.tup xs)) (g : H d = some (.dK kvs)) : t ≠ d := fun e => by
  rw [e, g] at h
  cases h
theorem ne_ld {H : Hp} {t d : Addr} {xs : List V} {kvs : List (Key × V)} (h : H t = some (.lst xs)) (g : H d = some (.dK kvs)) : t ≠ d := fun e => by
  rw [e, g] at h
  cases h
theorem merge_kvF {op : Str} {u v w l d a fr to sp : V} : mergeK [] (kvF op u v w l d a fr to sp) = kvF op u v w l d a fr to sp := by kernel_rfl
theorem nmS_inj {i j : Nat} (h : nmS i = nmS j) : i = j := by
  unfold nmS at h
  have e := congrArg (fun s : Str => s.cps.toList) h
  simp at e
  exact e
theorem lsG_nd (d : Int) (m : Nat) : (lsG d m).Pairwise fun x y => x.nm ≠ y.nm := by
  unfold lsG
  rw [List.pairwise_map]
  exact List.Pairwise.imp (fun {a b} h => fun e => Nat.ne_of_lt h (nmS_inj e)) List.pairwise_lt_range
theorem lsG_nm {d : Int} {m : Nat} {n : Str} (h : ∃ j, j < m ∧ n = nmS j) : NmIn (lsG d m) n := by
  obtain ⟨j, hj, rfl⟩ := h
  exact ⟨lnG d j, List.mem_map_of_mem (List.mem_range.mpr hj), rfl⟩
theorem ar_mono {P R : Str → Prop} (h : ∀ n, P n → R n) : ∀ a : Ar, a.all P → a.all R
  | .leaf _ n, g => h n g
  | .no a, g => ar_mono h a g
  | .two _ a b, g => ⟨ar_mono h a g.1, ar_mono h b g.2⟩
def pdO (nm : Str) : PyData := .tuple [.int 7, .tuple [], .str nm]
theorem dp_og {K : PySem.W.Frag} {H : Hp} {w0 : V} {nm : Str} (h : OgN K H w0 7 nm) : Dp K H w0 (pdO nm) := by
  obtain ⟨a, q, rfl, h1, h2⟩ := h
  exact .tup h1 (.cons (.int 7) (.cons (.tup h2 .nil) (.cons (.str nm) .nil)))
def nmL (m : Nat) : List Str := (List.range m).map nmS ++ [("low" : Str), ("high" : Str)]
theorem sh_nmL : ∀ m : Nat, m < 5 → SeqAt.shaped (.list ((nmL m).map pdO)) = true := by decide +kernel
theorem dp_all {K : PySem.W.Frag} {H : Hp} : ∀ {xs : List V} {ns : List Str}, xs.length = ns.length → (∀ (i : Nat) (v : V) (n : Str), xs[i]? = some v → ns[i]? = some n → OgN K H v 7 n) → DpAll K H xs (ns.map pdO)
  | [], [], _, _ => .nil
  | v :: xs, n :: ns, h, g => .cons (dp_og (g 0 v n rfl rfl)) (dp_all (Nat.succ.inj h) fun i v' n' h1 h2 => g (i + 1) v' n' h1 h2)
theorem sk_names {u v w : I3} {p : R3} {d : Int} {m : Nat} {c1 c2 : Rat × Rat} : (skSides u v w p (lsG d m) ((lsG d m).map thrP) c1 c2).map (·.1) = nmL m := by
  unfold skSides nmL
  rw [List.zipWith_map_right, List.zipWith_self, List.map_append, List.map_map]
  unfold lsG
  rw [List.map_map]
  rfl
theorem lsG_get {d : Int} {m i : Nat} {l : Ln} (h : (lsG d m)[i]? = some l) : i < m ∧ l = lnG d i := by
  unfold lsG at h
  have hi : i < m := by
    have := (List.getElem?_eq_some_iff.mp h).1
    rw [List.length_map, List.length_range] at this
    exact this
  rw [List.getElem?_map, List.getElem?_range hi] at h
  exact ⟨hi, (Option.some.inj h).symm⟩
def spLaw (K : PySem.W.Frag) : Sp := fun vs H Q _ => ∃ (a : Addr) (ns : List Int), vs = [.ref a] ∧ SqL K H a (ns.map V.int) ∧ ns.length ≤ 63 ∧ ∀ H', Q (.bl true) H'
theorem okLaw {fLaw : Addr} {fdLaw : FuncData} (F : Fun K "law" "law" sLaw fLaw fdLaw) (T : Txt mg) {aZERO : Addr} {aONE : Addr} (CT : Cons K mg aZERO aONE) {CPartError CNought : Addr} (EX : Exns K mg CPartError CNought)
    {fLLawNumber : Addr} {fdLLawNumber : FuncData} (GLLawNumber : FnOk P w K mg base CX0 1 fLLawNumber fdLLawNumber ["script", "k"] (spLLawNumber K)) (gLLawNumber : mg "_law_number" = some (.ref fLLawNumber)) (kpLLawNumber : PySem.W.keepIn K (.ref fLLawNumber) = true) (bLLawNumber : Binds K fdLLawNumber ["script", "k"] [])
    {fLLawFrame : Addr} {fdLLawFrame : FuncData} (GLLawFrame : FnOk P w K mg base CX0 2 fLLawFrame fdLLawFrame ["draw"] (spLLawFrame K)) (gLLawFrame : mg "_law_frame" = some (.ref fLLawFrame)) (kpLLawFrame : PySem.W.keepIn K (.ref fLLawFrame) = true) (bLLawFrame : Binds K fdLLawFrame ["draw"] [])
    {fLLawArea : Addr} {fdLLawArea : FuncData} (GLLawArea : FnOk P w K mg base CX0 1 fLLawArea fdLLawArea ["many", "draw"] (spLLawArea K)) (gLLawArea : mg "_law_area" = some (.ref fLLawArea)) (kpLLawArea : PySem.W.keepIn K (.ref fLLawArea) = true) (bLLawArea : Binds K fdLLawArea ["many", "draw"] [])
    {fSketchTool : Addr} {fdSketchTool : FuncData} (GSketchTool : FnOk P w K mg base CX0 12 fSketchTool fdSketchTool ["number", "feature", "base", "ends"] (spSketchTool K)) (gSketchTool : mg "sketch_tool" = some (.ref fSketchTool)) (kpSketchTool : PySem.W.keepIn K (.ref fSketchTool) = true) (bSketchTool : Binds K fdSketchTool ["number", "feature", "base", "ends"] [])
    {fLLawLow : Addr} {fdLLawLow : FuncData} (GLLawLow : FnOk P w K mg base CX0 2 fLLawLow fdLLawLow ["found"] (spLLawLow K)) (gLLawLow : mg "_law_low" = some (.ref fLLawLow)) (kpLLawLow : PySem.W.keepIn K (.ref fLLawLow) = true) (bLLawLow : Binds K fdLLawLow ["found"] [])
    {fLLawValue : Addr} {fdLLawValue : FuncData} (GLLawValue : FnOk P w K mg base CX0 1 fLLawValue fdLLawValue ["draw"] (spLLawValue K)) (gLLawValue : mg "_law_value" = some (.ref fLLawValue)) (kpLLawValue : PySem.W.keepIn K (.ref fLLawValue) = true) (bLLawValue : Binds K fdLLawValue ["draw"] [])
    {fLLawCanonical : Addr} {fdLLawCanonical : FuncData} (GLLawCanonical : FnOk P w K mg base CX0 2 fLLawCanonical fdLLawCanonical ["tool"] (spLLawCanonical K)) (gLLawCanonical : mg "_law_canonical" = some (.ref fLLawCanonical)) (kpLLawCanonical : PySem.W.keepIn K (.ref fLLawCanonical) = true) (bLLawCanonical : Binds K fdLLawCanonical ["tool"] [])
    {fLLawGood : Addr} {fdLLawGood : FuncData} (GLLawGood : FnOk P w K mg base CX0 12 fLLawGood fdLLawGood ["tool", "frame", "base", "lines", "area", "ends", "draw"] (spLLawGood K)) (gLLawGood : mg "_law_good" = some (.ref fLLawGood)) (kpLLawGood : PySem.W.keepIn K (.ref fLLawGood) = true) (bLLawGood : Binds K fdLLawGood ["tool", "frame", "base", "lines", "area", "ends", "draw"] []) :
    FnOk P w K mg base CX0 13 fLaw fdLaw ["script"] (spLaw K) := by
  refine F.ok scLaw (fun vs H Q E h => ?_) (fun cdv A outer s H vs Q E hr h => ?_)
  · obtain ⟨s0, ns, rfl, hS0, hlen, q⟩ := h
    rfl
  · obtain ⟨s0, ns, rfl, hS0, hlen, q⟩ := h
    refine ⟨_, (pss_cons (ps_set (i := 1) scLaw.nd rfl (Or.inl rfl) (pe_lst (pa_cons (pe_tup (pa_cons pe_int (pa_cons pe_int pa_nil))) (pa_cons (pe_tup (pa_cons pe_int (pa_cons pe_int pa_nil))) (pa_cons (pe_tup (pa_cons pe_int (pa_cons (pe_un un_neg pe_int) pa_nil))) (pa_cons (pe_tup (pa_cons (pe_un un_neg pe_int) (pa_cons (pe_un un_neg pe_int) pa_nil))) (pa_cons (pe_tup (pa_cons pe_int (pa_cons (pe_un un_neg pe_int) pa_nil))) pa_nil)))))))
      (C8.pss_cut (ps_for PassesOwn.never rfl (pi_range1 rfl T.range (pa_cons pe_int pa_nil)) (pg_name (i := 2) scLaw.nd rfl (Or.inl rfl))
        (pss_cons (ps_set (i := 3) scLaw.nd rfl (Or.inr rfl) (pe_call GLLawNumber (hr.mono (by decide)) (by rfl) gLLawNumber kpLLawNumber bLLawNumber .nil pass0 (pa_cons (pv 0) (pa_cons (pv 2) pa_nil))))
        (pss_cons (ps_set (i := 4) scLaw.nd rfl (Or.inl rfl) (pe_call GLLawFrame (hr.mono (by decide)) (by rfl) gLLawFrame kpLLawFrame bLLawFrame .nil pass0 (pa_cons (pv 3) pa_nil)))
        (pss_cons (ps_set (i := 5) scLaw.nd rfl (Or.inl rfl) (pe_op op_add pe_int (pe_op op_mod (pe_callTy call_int1 (by rfl) T.int (by decide +kernel) (pa_cons (pe_op op_fdiv (pv 3) pe_int) pa_nil)) pe_int)))
        (pss_cons (ps_set (i := 6) scLaw.nd rfl (Or.inl rfl) (pe_callTy call_tuple_of (by rfl) T.tuple (by decide +kernel) (pa_cons (pe_lc (own := [("j", 8)]) (by rfl) scLaw.nd (pi_range1 rfl T.range (pa_cons pe_int pa_nil)) (blkOk_by (own := [("j", 8)]) (N := ["script", "ways", "k", "draw", "frame", "many", "base", "lines", "j", "point", "area", "ends", "feature", "state", "tool", "names", "line", "one"]) (sc := defScope sLaw) (by decide +kernel)) (fun _ _ _ _ _ => (pg_name (i := 8) scLaw.nd rfl (Or.inl rfl))) (fun _ _ _ _ _ => pts_nil) (fun _ _ _ _ _ => (pe_call GLLawLow (hr.mono (by decide)) (by rfl) gLLawLow kpLLawLow bLLawLow .nil pass0 (pa_cons (pe_call GLLawValue (hr.mono (by decide)) (by rfl) gLLawValue kpLLawValue bLLawValue .nil pass0 (pa_cons (pe_op op_fdiv (pv 3) (pe_op op_add pe_int (pe_op op_mulW pe_int (pv 8)))) pa_nil)) pa_nil)))) pa_nil)))
        (pss_cons (ps_set (i := 7) scLaw.nd rfl (Or.inl rfl) (pe_lst pa_nil))
        (C8.pss_cut (ps_for PassesOwn.never rfl (pi_range1 rfl T.range (pa_cons (pv 5) pa_nil)) (pg_name (i := 8) scLaw.nd rfl (Or.inl rfl))
          (pss_cons (ps_set (i := 9) scLaw.nd rfl (Or.inl rfl) (pe_tup (pa_cons (pe_call GLLawLow (hr.mono (by decide)) (by rfl) gLLawLow kpLLawLow bLLawLow .nil pass0 (pa_cons (pe_call GLLawValue (hr.mono (by decide)) (by rfl) gLLawValue kpLLawValue bLLawValue .nil pass0 (pa_cons (pe_op op_fdiv (pv 3) (pe_op op_add pe_int (pv 8))) pa_nil)) pa_nil)) (pa_cons (pe_call GLLawLow (hr.mono (by decide)) (by rfl) gLLawLow kpLLawLow bLLawLow .nil pass0 (pa_cons (pe_call GLLawValue (hr.mono (by decide)) (by rfl) gLLawValue kpLLawValue bLLawValue .nil pass0 (pa_cons (pe_op op_fdiv (pv 3) (pe_op op_add pe_int (pe_op op_mulW pe_int (pv 8)))) pa_nil)) pa_nil)) pa_nil))))
          (pss_one (ps_expr (pe_bm PySem.F.plainAttrs_list PySem.F.slot_list_append PySem.F.type_list_append mt_append (pv 7) (pa_cons (pe_tup (pa_cons (pe_ix ix_str pe_str (pv 8) (fun _ _ => rfl)) (pa_cons (pe_ix ix_list (pv 1) (pe_op op_mod (pe_callTy call_int1 (by rfl) T.int (by decide +kernel) (pa_cons (pe_op op_fdiv (pv 3) (pe_op op_add pe_int (pe_op op_mulW pe_int (pv 8)))) pa_nil)) pe_int) (fun _ _ => rfl)) (pa_cons (pv 9) pa_nil)))) pa_nil))))))
        (pss_cons (ps_set (i := 10) scLaw.nd rfl (Or.inl rfl) (pe_call GLLawArea (hr.mono (by decide)) (by rfl) gLLawArea kpLLawArea bLLawArea .nil pass0 (pa_cons (pv 5) (pa_cons (pe_op op_fdiv (pv 3) pe_int) pa_nil))))
        (pss_cons (ps_set (i := 11) scLaw.nd rfl (Or.inl rfl) (pe_lst (pa_cons (pe_call GLLawLow (hr.mono (by decide)) (by rfl) gLLawLow kpLLawLow bLLawLow .nil pass0 (pa_cons (pe_call GLLawValue (hr.mono (by decide)) (by rfl) gLLawValue kpLLawValue bLLawValue .nil pass0 (pa_cons (pe_op op_fdiv (pv 3) pe_int) pa_nil)) pa_nil)) (pa_cons (pe_call GLLawLow (hr.mono (by decide)) (by rfl) gLLawLow kpLLawLow bLLawLow .nil pass0 (pa_cons (pe_call GLLawValue (hr.mono (by decide)) (by rfl) gLLawValue kpLLawValue bLLawValue .nil pass0 (pa_cons (pe_op op_fdiv (pv 3) pe_int) pa_nil)) pa_nil)) pa_nil))))
        (pss_cons (ps_set (i := 12) scLaw.nd rfl (Or.inl rfl) (pe_disp (pps_cons pe_str (pe_ix ix_list (pe_lst (pa_cons pe_str (pa_cons pe_str (pa_cons pe_str pa_nil)))) (pe_op op_mod (pe_callTy call_int1 (by rfl) T.int (by decide +kernel) (pa_cons (pv 3) pa_nil)) pe_int) (fun _ _ => rfl)) (pps_cons pe_str (pe_ix ix_tup (pv 4) pe_int (fun _ _ => rfl)) (pps_cons pe_str (pe_ix ix_tup (pv 4) pe_int (fun _ _ => rfl)) (pps_cons pe_str (pe_ix ix_tup (pv 4) pe_int (fun _ _ => rfl)) (pps_cons pe_str (pv 7) (pps_cons pe_str (pe_lst pa_nil) (pps_cons pe_str (pv 10) (pps_cons pe_str (pe_tup (pa_cons pe_non (pa_cons (pe_ix ix_list (pv 11) pe_int (fun _ _ => rfl)) pa_nil))) (pps_cons pe_str (pe_tup (pa_cons pe_non (pa_cons (pe_ix ix_list (pv 11) pe_int (fun _ _ => rfl)) pa_nil))) (pps_cons pe_str (pe_tup (pa_cons pe_non (pa_cons (pv 6) pa_nil))) pps_nil)))))))))) (by rfl) (by rfl) (fun z => by cases z) (by decide)))
        (pss_cons (ps_asg (pe_call GSketchTool hr (by rfl) gSketchTool kpSketchTool bSketchTool .nil pass0 (pa_cons pe_int (pa_cons (pv 12) (pa_cons (pv 6) (pa_cons (pe_callTy call_list_of (by rfl) T.list (by decide +kernel) (pa_cons (pv 11) pa_nil)) pa_nil))))) (pg_tup rfl (pgs_cons (pg_name (i := 13) scLaw.nd rfl (Or.inl rfl)) (pgs_cons (pg_name (i := 14) scLaw.nd rfl (Or.inl rfl)) pgs_nil))))
        (pss_cons (ps_if (PW.pt (pw_or (pt_cmpR op_ne (pv 13) pe_str (nomark _)) (pw_or (pt_cmpR op_ne (pe_ix ix_tup (pv 14) pe_int (fun _ _ => rfl)) (pe_dget (hu_of hr) (pv 12) pe_str (fun _ _ => rfl)) (nomark _)) (pw_or1 (pt_not (pt_val (pe_call GLLawCanonical (hr.mono (by decide)) (by rfl) gLLawCanonical kpLLawCanonical bLLawCanonical .nil pass0 (pa_cons (pv 14) pa_nil))))))))
          (pss_one (ps_ret pe_bl))
          pss_nil)
        (pss_cons (ps_set (i := 15) scLaw.nd rfl (Or.inl rfl) (pe_op op_cat (pe_lc (own := [("line", 16)]) (by rfl) scLaw.nd (pi_list (pv 7)) (blkOk_by (own := [("line", 16)]) (N := ["script", "ways", "k", "draw", "frame", "many", "base", "lines", "j", "point", "area", "ends", "feature", "state", "tool", "names", "line", "one"]) (sc := defScope sLaw) (by decide +kernel)) (fun _ _ _ _ _ => (pg_name (i := 16) scLaw.nd rfl (Or.inl rfl))) (fun _ _ _ _ _ => pts_nil) (fun _ _ _ _ _ => (pe_tup (pa_cons pe_int (pa_cons (pe_tup pa_nil) (pa_cons (pe_ix (show IxR _ (rIxT K) from ix_tup) (pv 16) pe_int (fun _ _ => rfl)) pa_nil)))))) (pe_lst (pa_cons (pe_tup (pa_cons pe_int (pa_cons (pe_tup pa_nil) (pa_cons pe_str pa_nil)))) (pa_cons (pe_tup (pa_cons pe_int (pa_cons (pe_tup pa_nil) (pa_cons pe_str pa_nil)))) pa_nil)))))
        (pss_cons (ps_if (pt_cmpR (op_neD hr.units) (pe_lc (own := [("one", 17)]) (by rfl) scLaw.nd (pi_list (pe_ix ix_tup (pv 14) pe_int (fun _ _ => rfl))) (blkOk_by (own := [("one", 17)]) (N := ["script", "ways", "k", "draw", "frame", "many", "base", "lines", "j", "point", "area", "ends", "feature", "state", "tool", "names", "line", "one"]) (sc := defScope sLaw) (by decide +kernel)) (fun _ _ _ _ _ => (pg_name (i := 17) scLaw.nd rfl (Or.inl rfl))) (fun _ _ _ _ _ => pts_nil) (fun _ _ _ _ _ => (pe_ix (show IxR _ (rIxT K) from ix_tup) (pv 17) pe_int (fun _ _ => rfl)))) (pv 15) (nomark _))
          (pss_one (ps_ret pe_bl))
          pss_nil)
        (pss_one (ps_for PassesOwn.never rfl (pi_range1 rfl T.range (pa_cons pe_int pa_nil)) (pg_name (i := 8) scLaw.nd rfl (Or.inl rfl))
          (pss_one (ps_if (pt_not (pt_val (pe_call GLLawGood hr (by rfl) gLLawGood kpLLawGood bLLawGood .nil pass0 (pa_cons (pv 14) (pa_cons (pv 4) (pa_cons (pv 6) (pa_cons (pv 7) (pa_cons (pv 10) (pa_cons (pv 11) (pa_cons (pe_op op_add (pe_call GLLawNumber (hr.mono (by decide)) (by rfl) gLLawNumber kpLLawNumber bLLawNumber .nil pass0 (pa_cons (pv 0) (pa_cons (pe_op op_add (pe_op op_add pe_int (pe_op op_mulW pe_int (pv 2))) (pv 8)) pa_nil))) (pv 3)) pa_nil))))))))))
            (pss_one (ps_ret pe_bl))
            pss_nil))))))))))))))))))
      (pss_one (ps_ret pe_bl)))), ?_⟩
    have hS : SqL K H s0 (zs ns) := hS0
    walk_at "go"
    refine ⟨tn rfl, fun p1 np1 => ?_⟩
    generalize hUp1 : upd _ _ (HO.tup _) = H1
    have s1 := same_hu hUp1 np1
    have eo1 := at_hu hUp1
    have o1 := SqT.of (K := K) eo1
    clear hUp1
    walk_at "go"
    refine ⟨tn rfl, fun p2 np2 => ?_⟩
    generalize hUp2 : upd _ _ (HO.tup _) = H2
    have s2 := same_hu hUp2 np2
    have eo2 := at_hu hUp2
    have o2 := SqT.of (K := K) eo2
    clear hUp2
    walk_at "go"
    refine ⟨tn rfl, fun p3 np3 => ?_⟩
    generalize hUp3 : upd _ _ (HO.tup _) = H3
    have s3 := same_hu hUp3 np3
    have eo3 := at_hu hUp3
    have o3 := SqT.of (K := K) eo3
    clear hUp3
    walk_at "go"
    refine ⟨tn rfl, fun p4 np4 => ?_⟩
    generalize hUp4 : upd _ _ (HO.tup _) = H4
    have s4 := same_hu hUp4 np4
    have eo4 := at_hu hUp4
    have o4 := SqT.of (K := K) eo4
    clear hUp4
    walk_at "go"
    refine ⟨tn rfl, fun p5 np5 => ?_⟩
    generalize hUp5 : upd _ _ (HO.tup _) = H5
    have s5 := same_hu hUp5 np5
    have eo5 := at_hu hUp5
    have o5 := SqT.of (K := K) eo5
    clear hUp5
    refine ⟨by show 5 ≤ sizeLine; decide, fun ml n7 => ?_⟩
    have s7 := same_upd (o := .lst [.ref p1, .ref p2, .ref p3, .ref p4, .ref p5]) n7
    have e7 : (upd H5 ml (.lst [.ref p1, .ref p2, .ref p3, .ref p4, .ref p5])) ml = some (.lst [.ref p1, .ref p2, .ref p3, .ref p4, .ref p5]) := upd_same
    generalize upd H5 ml (.lst [.ref p1, .ref p2, .ref p3, .ref p4, .ref p5]) = Hm at s7 e7 ⊢
    have hMenu : WaysAt K Hm ml Wy := ⟨[(p1, (1, 0)), (p2, (0, 1)), (p3, (2, -3)), (p4, (-1, -1)), (p5, (0, -2))], SqL.of e7, fun w hw => by
      rcases List.mem_cons.mp hw with h | hw
      · rw [h]; exact same_tup (s2.trans (s3.trans (s4.trans (s5.trans s7)))) o1
      rcases List.mem_cons.mp hw with h | hw
      · rw [h]; exact same_tup (s3.trans (s4.trans (s5.trans s7))) o2
      rcases List.mem_cons.mp hw with h | hw
      · rw [h]; exact same_tup (s4.trans (s5.trans s7)) o3
      rcases List.mem_cons.mp hw with h | hw
      · rw [h]; exact same_tup (s5.trans s7) o4
      · rw [List.mem_singleton.mp hw]; exact same_tup s7 o5, rfl⟩
    have sM : Same H Hm := s1.trans (s2.trans (s3.trans (s4.trans (s5.trans s7))))
    clear s1 s2 s3 s4 s5 s7 o1 o2 o3 o4 o5 n7 e7
    refine ⟨fun σ' H' => Same Hm H' ∧ ∃ v2 v3 v4 v5 v6 v7 v8 v9 v10 v11 v12 v13 v14 v15 v16 v17 : Option V, σ' = [some (.ref s0), some (.ref ml), v2, v3, v4, v5, v6, v7, v8, v9, v10, v11, v12, v13, v14, v15, v16, v17], ?_, ?_⟩
    · refine ⟨10, rfl, by decide, by decide, for_range (n := 10) (fun i σ' H' => Same Hm H' ∧ ∃ v2 v3 v4 v5 v6 v7 v8 v9 v10 v11 v12 v13 v14 v15 v16 v17 : Option V, σ' = [some (.ref s0), some (.ref ml), v2, v3, v4, v5, v6, v7, v8, v9, v10, v11, v12, v13, v14, v15, v16, v17]) ⟨Same.refl _, none, none, none, none, none, none, none, none, none, none, none, none, none, none, none, none, rfl⟩ ?_ (fun σ' H' h => h)⟩
      rintro i σ' H0 hi ⟨z0, v2, v3, v4, v5, v6, v7, v8, v9, v10, v11, v12, v13, v14, v15, v16, v17, rfl⟩
      have hi0 : (0 : Int) + (i : Int) = (i : Int) := by omega
      rw [hi0]
      refine ⟨_, rfl, _, rfl, s0, ns, i, rfl, (sM.trans z0).seq hS, fun dr => ?_⟩
      walk_at "st"
      walk_at "go"
      refine fun H1 fr s1 hfr => ?_
      obtain ⟨m, hm, m1, m4⟩ : ∃ m : Nat, 1 + dr / 5 % 4 = (m : Int) ∧ 1 ≤ m ∧ m ≤ 4 := ⟨(1 + dr / 5 % 4).toNat, by omega, by omega, by omega⟩
      walk_at "st"
      walk_at "go"
      rw [show (fun i j : Int => V.int (i + j)) 1 (dr / 5 % 4) = V.int (m : Int) from congrArg V.int hm]
      walk_at "st"
      refine ⟨by decide, by decide, fun Db nb => ?_⟩
      refine lc_obj (walk_range (lo := 0) (n := 3)) (fun i H v => ∃ b : Addr, v = .ref b ∧ V1 K H b (bsv (bsG dr) i)) (fun {i H H' v D acc} h e s => by
        obtain ⟨b, g1, g2⟩ := h
        exact ⟨b, g1, over_vx g2 e s⟩) (by decide) nb (fun H2 s2 => trivial) ?_ ?_
      · rintro i x H2 H3 kk hi s2 ⟨rfl, rfl⟩ kk2
        show gName 8 (V.int ((0 : Int) + (i : Nat))) _ _ _
        rw [show (0 : Int) + (i : Int) = (i : Int) by omega]
        refine ⟨rfl, ?_⟩
        refine ⟨_, rfl, _, rfl, _, _, rfl, rfl, Bz.wide (n := 4) (m := 4) (by show (7 : Int).natAbs < 16; decide) (by show ((i : Nat) : Int).natAbs < 16; omega) (by decide), ?_⟩
        refine ⟨_, _, rfl, rfl, ?_⟩
        refine ⟨_, _, rfl, rfl, cdiv_small (by omega) (by omega), ?_⟩
        refine ⟨_, rfl, fun H4 t4 s4 h4 => ?_⟩
        refine ⟨_, t4, rfl, h4, fun H5 t5 s5 h5 => ?_⟩
        have e : valV2 (dr / (31 + 7 * ((i : Nat) : Int))) = bsv (bsG dr) i := by
          obtain rfl | rfl | rfl : i = 0 ∨ i = 1 ∨ i = 2 := by omega
          all_goals rfl
        rw [e] at h5
        exact kk2 _ H5 (s4.trans s5) ⟨t5, rfl, h5⟩
      · intro H2 us s2 e2 l2 r2
        obtain ⟨a0, a1, a2, rfl⟩ := one3 (l2.trans rfl)
        obtain ⟨xa, rfl, hxa⟩ := r2 0 _ rfl
        obtain ⟨xb, rfl, hxb⟩ := r2 1 _ rfl
        obtain ⟨xc, rfl, hxc⟩ := r2 2 _ rfl
        refine ⟨Db, _, rfl, .inl ⟨SqL.of e2, fun bs n3 => ?_⟩⟩
        have s3 := same_upd (o := .tup [.ref xa, .ref xb, .ref xc]) n3
        have hB : T3At K (upd H2 bs (.tup [.ref xa, .ref xb, .ref xc])) bs (bsG dr) := ⟨xa, xb, xc, SqT.of upd_same, V1.up s3 hxa, V1.up s3 hxb, V1.up s3 hxc⟩
        generalize upd H2 bs (.tup [.ref xa, .ref xb, .ref xc]) = H3 at s3 hB ⊢
        refine ⟨by show 0 ≤ sizeLine; decide, fun Dl n4 => ?_⟩
        have s4 := same_upd (o := .lst []) n4
        have e4 : (upd H3 Dl (.lst [])) Dl = some (.lst []) := upd_same
        generalize upd H3 Dl (.lst []) = H4 at s4 e4 ⊢
        have sA := s1.trans (s2.trans s3)
        refine ⟨fun σ' H' => ∃ v8 v9 : Option V, σ' = [some (.ref s0), some (.ref ml), some (.int i), some (.int dr), some (.ref fr), some (.int m), some (.ref bs), some (.ref Dl), v8, v9, v10, v11, v12, v13, v14, v15, v16, v17] ∧ Same H3 H' ∧ OL (LnAt K) Dl H' (lsG dr m), ?_, ?_⟩
        · walk_at "go"
          refine ⟨by omega, by omega, for_range (n := m) (fun j σ' H' => ∃ v8 v9 : Option V, σ' = [some (.ref s0), some (.ref ml), some (.int i), some (.int dr), some (.ref fr), some (.int m), some (.ref bs), some (.ref Dl), v8, v9, v10, v11, v12, v13, v14, v15, v16, v17] ∧ Same H3 H' ∧ OL (LnAt K) Dl H' (lsG dr j)) ⟨_, _, rfl, s4, OL.nil e4⟩ ?_ (fun σ' H' h => h)⟩
          rintro j σ' H5 hj ⟨v8, v9, rfl, s5, hO⟩
          rw [show (0 : Int) + (j : Int) = (j : Int) by omega]
          refine ⟨_, rfl, _, rfl, _, _, rfl, rfl, ?_⟩
          refine ⟨_, _, rfl, rfl, cdiv_small (by omega) (by omega), ?_⟩
          refine ⟨_, rfl, fun H6 t6 s6 h6 => ?_⟩
          refine ⟨_, t6, rfl, h6, fun H7 t7 s7 h7 => ?_⟩
          refine ⟨_, rfl, _, rfl, _, _, rfl, rfl, Bz.wide (n := 4) (m := 4) (by show (3 : Int).natAbs < 16; decide) (by show ((j : Nat) : Int).natAbs < 16; omega) (by decide), ?_⟩
          refine ⟨_, _, rfl, rfl, ?_⟩
          refine ⟨_, _, rfl, rfl, cdiv_small (by omega) (by omega), ?_⟩
          refine ⟨_, rfl, fun H8 t8 s8 h8 => ?_⟩
          refine ⟨_, t8, rfl, h8, fun H9 t9 s9 h9 => ?_⟩
          refine ⟨tn rfl, fun pt npt => ?_⟩
          generalize hUpt : upd _ _ (HO.tup _) = H10
          have s10 := same_hu hUpt npt
          have ey10 := at_hu hUpt
          have y10 := SqT.of (K := K) ey10
          clear hUpt
          have s510 := s6.trans (s7.trans (s8.trans (s9.trans s10)))
          have hO10 := hO.up (fun t x h => h.up s510) s510
          obtain ⟨mws, mw1, mw2, mw3⟩ := hMenu
          obtain ⟨qw, hqw, hq5⟩ : ∃ qw : Nat, dr / (3 + 5 * (j : Int)) % 5 = (qw : Int) ∧ qw < 5 := ⟨(dr / (3 + 5 * (j : Int)) % 5).toNat, by omega, by omega⟩
          have lmw : mws.length = 5 := by rw [← List.length_map (f := fun w : Addr × (Int × Int) => w.2), mw3]; rfl
          obtain ⟨wq, gq⟩ : ∃ wq, mws[qw]? = some wq := ⟨mws[qw], List.getElem?_eq_getElem (by omega)⟩
          have ewq : wq.2 = wyF dr j := by
            unfold wyF
            rw [hqw, show ((qw : Nat) : Int).toNat = qw from rfl, ← mw3, List.getD_eq_getElem?_getD, List.getElem?_map, gq]
            rfl
          have hwq := mw2 wq (List.mem_of_getElem? gq)
          rw [ewq] at hwq
          have sm10 := z0.trans (s1.trans (s2.trans (s3.trans (s5.trans s510))))
          obtain ⟨ws0, o1, _, _⟩ := id hO10
          refine ⟨_, rfl, .inl ⟨rfl, _, SqL.of o1⟩, ?_⟩
          refine ⟨_, rfl, _, _, _, rfl, rfl, by decide +kernel, nm4 j (by omega), ?_⟩
          refine ⟨_, rfl, _, rfl, _, rfl, _, _, rfl, rfl, Bz.wide (n := 4) (m := 4) (by show (5 : Int).natAbs < 16; decide) (by show ((j : Nat) : Int).natAbs < 16; omega) (by decide), ?_⟩
          refine ⟨_, _, rfl, rfl, ?_⟩
          refine ⟨_, _, rfl, rfl, cdiv_small (by omega) (by omega), ?_⟩
          refine .inl ⟨_, rfl, ?_⟩
          refine ⟨_, _, rfl, rfl, (by show (0 : Int) < 5; decide), ?_⟩
          refine ⟨ml, _, _, V.ref wq.1, rfl, rfl, sm10.seq mw1, by rw [hqw]; exact atI_nat (Ro_at gq), ?_⟩
          refine ⟨_, rfl, ?_⟩
          refine ⟨tn rfl, fun lt nlt => ?_⟩
          generalize hUlt : upd _ _ (HO.tup _) = H11
          have s11 := same_hu hUlt nlt
          have ey11 := at_hu hUlt
          have y11 := SqT.of (K := K) ey11
          clear hUlt
          have hl11 : LnAt K H11 lt (lnG dr j) := ⟨wq.1, .ref pt, y11, same_tup (sm10.trans s11) hwq, pt, t7, t9, rfl, same_tup s11 y10, V1.up (s8.trans (s9.trans (s10.trans s11))) h7, V1.up (s10.trans s11) h9⟩
          obtain ⟨us, u1, u2, u3⟩ := OL.push (ln_over Dl) (hO10.up (fun t x h => h.up s11) s11) hl11
          refine ⟨Dl, _, _, rfl, rfl, u1, ?_, ?_⟩
          · rw [Ro_len, u2]
            unfold lsG
            rw [List.length_map, List.length_range]
            exact small1000 (by omega)
          refine ⟨_, _, rfl, fun b o e => ?_, ?_⟩
          · rw [upd_ne (ne_of_none e n4)]
            exact (s5.trans (s510.trans s11)) _ _ e
          · have el : lsG dr (j + 1) = lsG dr j ++ [lnG dr j] := by
              unfold lsG
              rw [List.range_succ, List.map_append]
              rfl
            rw [el]
            exact u3
        · rintro σ' H5 ⟨v8, v9, rfl, s5, hO⟩
          obtain ⟨bu, bv, bw, h0⟩ := frF_ok dr
          walk_at "go"
          refine fun H6 ar s6 har => ?_
          walk_at "st"
          walk_at "go"
          refine fun H7 t7 s7 h7 => ?_
          refine ⟨_, t7, rfl, h7, fun H8 o1 s8 g1 => ?_⟩
          walk_at "go"
          refine fun H9 t9 s9 h9 => ?_
          refine ⟨_, t9, rfl, h9, fun H10 o2 s10 g2 => ?_⟩
          walk_at "go"
          refine ⟨tn rfl, fun en nen => ?_⟩
          generalize hUen : upd _ _ (HO.lst _) = H11
          have s11 := same_hu hUen nen
          have ey11 := at_hu hUen
          have y11 := SqL.of (K := K) ey11
          clear hUen
          have s611 := s7.trans (s8.trans (s9.trans (s10.trans s11)))
          have s511 := s6.trans s611
          have s311 := s5.trans s511
          have hOb := hO.up (fun t x h => h.up s511) s511
          have hBb := T3At.up s311 hB
          have hFb := hfr.up (s2.trans (s3.trans s311))
          have harb := har.up s611
          have g1b := V1.up (s9.trans (s10.trans s11)) g1
          have g2b := V1.up s11 g2
          obtain ⟨lws, ol1, ol2, ol3⟩ := hOb
          have hLs : LnsAt K H11 Dl (lsG dr m) := ⟨lws, SqL.of ol1, ol2, ol3⟩
          walk_at "st"
          refine fun df nd => ?_
          have s12 := same_upd (o := .dK []) nd
          have e12 : (upd H11 df (.dK [])) df = some (.dK []) := upd_same
          generalize upd H11 df (.dK []) = H12 at s12 e12 ⊢
          obtain ⟨fa, fb, fc, f0, f1, f2, f3⟩ := hFb
          walk_at "go"
          refine ⟨tn rfl, fun ol nol => ?_⟩
          generalize hUol : upd _ _ (HO.lst _) = H13
          have s13 := same_hu hUol nol
          have ey13 := at_hu hUol
          have y13 := SqL.of (K := K) ey13
          clear hUol
          walk_at "go"
          refine ⟨ol, _, _, _, rfl, rfl, y13, opF_at dr, ?_⟩
          have f013 := same_tup (s12.trans s13) f0
          walk_at "go"
          refine ⟨tn rfl, fun dm ndm => ?_⟩
          generalize hUdm : upd _ _ (HO.lst _) = H14
          have s14 := same_hu hUdm ndm
          have ey14 := at_hu hUdm
          have y14 := SqL.of (K := K) ey14
          clear hUdm
          have s1114 := s12.trans (s13.trans s14)
          walk_at "go"
          refine ⟨en, _, 0, .ref o1, rfl, rfl, s1114.seq y11, atI_nat (j := 0) rfl, ?_⟩
          walk_at "go"
          refine ⟨tn rfl, fun ft nft => ?_⟩
          generalize hUft : upd _ _ (HO.tup _) = H15
          have s15 := same_hu hUft nft
          have ey15 := at_hu hUft
          have y15 := SqT.of (K := K) ey15
          clear hUft
          walk_at "go"
          refine ⟨en, _, 1, .ref o2, rfl, rfl, (s1114.trans s15).seq y11, atI_nat (j := 1) rfl, ?_⟩
          walk_at "go"
          refine ⟨tn rfl, fun et net => ?_⟩
          generalize hUet : upd _ _ (HO.tup _) = H16
          have s16 := same_hu hUet net
          have ey16 := at_hu hUet
          have y16 := SqT.of (K := K) ey16
          clear hUet
          walk_at "go"
          refine ⟨tn rfl, fun st nst => ?_⟩
          generalize hUst : upd _ _ (HO.tup _) = H17
          have s17 := same_hu hUst nst
          have ey17 := at_hu hUst
          have y17 := SqT.of (K := K) ey17
          clear hUst
          have s1417 := s15.trans (s16.trans s17)
          have e17 := (s13.trans (s14.trans s1417)) _ _ e12
          refine ⟨e17, kvF (opF dr) (.ref fa) (.ref fb) (.ref fc) (.ref Dl) (.ref dm) (.ref ar) (.ref ft) (.ref et) (.ref st), rfl, by show 10 ≤ 15; decide, ?_⟩
          rw [merge_kvF]
          generalize hUf : upd H17 df (.dK (kvF (opF dr) (.ref fa) (.ref fb) (.ref fc) (.ref Dl) (.ref dm) (.ref ar) (.ref ft) (.ref et) (.ref st))) = Hf
          have eF : Hf df = some (.dK (kvF (opF dr) (.ref fa) (.ref fb) (.ref fc) (.ref Dl) (.ref dm) (.ref ar) (.ref ft) (.ref et) (.ref st))) := by rw [← hUf]; exact upd_same
          have sF : Same H11 Hf := fun b o e => by
            rw [← hUf, upd_ne (ne_of_none e nd)]
            exact (s12.trans (s13.trans (s14.trans s1417))) _ _ e
          have edm : Hf dm = some (.lst []) := by
            rw [← hUf, upd_ne (ne_ld (s1417 _ _ ey14) e17)]
            exact s1417 _ _ ey14
          have eft : Hf ft = some (.tup [.non, .ref o1]) := by
            rw [← hUf, upd_ne (ne_td ((s16.trans s17) _ _ ey15) e17)]
            exact (s16.trans s17) _ _ ey15
          have eet : Hf et = some (.tup [.non, .ref o2]) := by
            rw [← hUf, upd_ne (ne_td (s17 _ _ ey16) e17)]
            exact s17 _ _ ey16
          clear hUf ey13 ey14 ey15 ey16 ey17 y13 y14 y15 y16 y17 e17 e12
          have hFt : FtAt K Hf df (opF dr) (frF dr).1 (frF dr).2.1 (frF dr).2.2 (lsG dr m) (arF m (dr / 7)) := ⟨fa, fb, fc, Dl, dm, ar, ft, et, _, .ref o1, .ref o2, eF, same_tup sF f1, same_tup sF f2, same_tup sF f3, hLs.up sF, SqL.of edm, harb.up sF, SqT.of eft, SqT.of eet⟩
          have hBf := T3At.up sF hBb
          have hLf := hLs.up sF
          have haf := harb.up sF
          have hEf := sF.seq y11
          have g1f := V1.up sF g1b
          have g2f := V1.up sF g2b
          have hFf : FrAt K Hf fr (frF dr) := ⟨fa, fb, fc, same_tup sF f0, same_tup sF f1, same_tup sF f2, same_tup sF f3⟩
          obtain ⟨ad, aa⟩ := arF_ok (m := m) (dr / 7) m1
          have lls : (lsG dr m).length = m := by
            unfold lsG
            rw [List.length_map, List.length_range]
          have hls : ∀ l ∈ lsG dr m, LnS l := fun l hl => by
            unfold lsG at hl
            obtain ⟨j, _, rfl⟩ := List.mem_map.mp hl
            exact lnG_ok dr j
          have haN : (arF m (dr / 7)).all (NmIn (lsG dr m)) := ar_mono (fun n hn => lsG_nm hn) _ aa
          have b31 := (val_small (dr / 31)).2.2
          have b38 := (val_small (dr / 38)).2.2
          have b45 := (val_small (dr / 45)).2.2
          have bp : B32 3 (bsG dr) := ⟨b31.1, b31.2, b38.1, b38.2, b45.1, b45.2⟩
          have c53 := (val_small (dr / 53)).2.2
          have c59 := (val_small (dr / 59)).2.2
          have sAll : Same H0 Hf := s1.trans (s2.trans (s3.trans (s311.trans sF)))
          walk_at "st"
          refine ⟨_, rfl, _, rfl, _, rfl, en, _, rfl, .inl hEf, fun L8 n8 => ?_⟩
          have s18 := same_upd (o := .lst [.ref o1, .ref o2]) n8
          have e18 : (upd Hf L8 (.lst [.ref o1, .ref o2])) L8 = some (.lst [.ref o1, .ref o2]) := upd_same
          generalize upd Hf L8 (.lst [.ref o1, .ref o2]) = H18 at s18 e18 ⊢
          refine ⟨7, df, bs, L8, o1, o2, opF dr, _, _, _, lsG dr m, arF m (dr / 7), bsG dr, valV2 (dr / 53), valV2 (dr / 59), rfl, hFt.up s18, T3At.up s18 hBf, SqL.of e18, V1.up s18 g1f, V1.up s18 g2f, bu, bv, bw, hls, h0, bp, c53.1.up (by decide), c53.2.up (by decide), c59.1.up (by decide), c59.2.up (by decide), by omega, lsG_nd dr m, haN, by omega, fun H19 tr tl s19 htr hTl => ?_⟩
          have sf19 := s18.trans s19
          obtain ⟨tll, tg, tws, tt0, tt1, tt2, tt3, tt4⟩ := id hTl
          walk_at "go"
          refine ⟨df, _, rfl, kvF_op ▸ DGet.k (k := Sum.inr "op") (sf19 _ _ eF), ?_⟩
          walk_at "go"
          have hcan : ∀ x ∈ skSides (frF dr).1 (frF dr).2.1 (frF dr).2.2 (bsG dr) (lsG dr m) ((lsG dr m).map thrP) (valV2 (dr / 53)) (valV2 (dr / 59)), ¬ (x.2.x = 0 ∧ x.2.y = 0 ∧ x.2.z = 0) ∧ Bz 30 x.2.x ∧ Bz 30 x.2.y ∧ Bz 30 x.2.z ∧ g3 x.2.x x.2.y x.2.z = 1 ∧ dn x.2.x x.2.y x.2.z = false := fun x hx => by
            rcases tl_mem hx with ⟨l, hl, rfl⟩ | rfl | rfl
            · obtain ⟨⟨_, _, hab⟩, ba, bb, _, _, _, _, z1, z2, _⟩ := hls l hl
              exact (lnSide_ok bu bv bw ba bb hab h0 bp z1 z2).2
            · exact (ndSide_ok bu bv bw h0 bp (c53.1.up (by decide)) (c53.2.up (by decide))).2
            · exact (ndSide_ok bu bv bw h0 bp (c59.1.up (by decide)) (c59.2.up (by decide))).2
          refine iteF' (show (!decide (V.str (opF dr) = V.str (opF dr))) = false by rw [decide_eq_true rfl]; rfl) ?_
          walk_at "go"
          refine ⟨tl, _, _, _, _, rfl, hTl, hcan, fun H20 s20 => ?_⟩
          have sf20 := sf19.trans s20
          walk_at "go"
          have hL20 := hLf.up sf20
          obtain ⟨lw2, q1, q2, q3⟩ := hL20
          have llw2 : lw2.length = m := by rw [← lls, ← q3, List.length_map]
          walk_at "st"
          refine ⟨⟨_, q1⟩, fun D1 n1 => ?_⟩
          refine lc_obj (walk_list (K := K) (a := Dl) (xs := Ro lw2)) (fun i H v => OgN K H v 7 (nmS i)) (fun {i H H' v D acc} h e s => OgN.over h e s) (by rw [Ro_len]; omega) n1 (fun H2 s2 => s2.seq q1) ?_ ?_
          · rintro k x H21 H22 kk hk s21 ⟨rfl, hx⟩ kk2
            obtain ⟨wl, rfl, gw⟩ := Ro_get hx
            have mlx := q2 wl (List.mem_of_getElem? gw)
            have hl : (lsG dr m)[k]? = some wl.2 := by rw [← q3, List.getElem?_map, gw]; rfl
            obtain ⟨_, el⟩ := lsG_get hl
            rw [el] at mlx
            obtain ⟨dd, vv, n2, _, _⟩ := mlx
            have n2' := same_tup s21 n2
            walk_at "go"
            refine ⟨tn rfl, fun t1 nt1 => ?_⟩
            generalize hUt1 : upd _ _ (HO.tup _) = H23
            have s23 := same_hu hUt1 nt1
            have ey23 := at_hu hUt1
            have y23 := SqT.of (K := K) ey23
            clear hUt1
            have n2'' := same_tup s23 n2'
            walk_at "go"
            refine ⟨tn rfl, fun t2 nt2 => ?_⟩
            generalize hUt2 : upd _ _ (HO.tup _) = H24
            have s24 := same_hu hUt2 nt2
            have ey24 := at_hu hUt2
            have y24 := SqT.of (K := K) ey24
            clear hUt2
            exact kk2 _ H24 (s23.trans s24) ⟨t2, t1, rfl, y24, same_tup s24 y23⟩
          · intro H21 us s21 e21 l21 r21
            rw [Ro_len, llw2] at l21
            walk_at "go"
            refine ⟨tn rfl, fun u1 nu1 => ?_⟩
            generalize hUu1 : upd _ _ (HO.tup _) = H22
            have s22 := same_hu hUu1 nu1
            have ey22 := at_hu hUu1
            have y22 := SqT.of (K := K) ey22
            clear hUu1
            walk_at "go"
            refine ⟨tn rfl, fun u2 nu2 => ?_⟩
            generalize hUu2 : upd _ _ (HO.tup _) = H23
            have s23 := same_hu hUu2 nu2
            have ey23 := at_hu hUu2
            have y23 := SqT.of (K := K) ey23
            clear hUu2
            walk_at "go"
            refine ⟨tn rfl, fun u3 nu3 => ?_⟩
            generalize hUu3 : upd _ _ (HO.tup _) = H24
            have s24 := same_hu hUu3 nu3
            have ey24 := at_hu hUu3
            have y24 := SqT.of (K := K) ey24
            clear hUu3
            walk_at "go"
            refine ⟨tn rfl, fun u4 nu4 => ?_⟩
            generalize hUu4 : upd _ _ (HO.tup _) = H25
            have s25 := same_hu hUu4 nu4
            have ey25 := at_hu hUu4
            have y25 := SqT.of (K := K) ey25
            clear hUu4
            walk_at "go"
            refine ⟨tn rfl, fun l2 nl2 => ?_⟩
            generalize hUl2 : upd _ _ (HO.lst _) = H26
            have s26 := same_hu hUl2 nl2
            have ey26 := at_hu hUl2
            have y26 := SqL.of (K := K) ey26
            clear hUl2
            have s2126 := s22.trans (s23.trans (s24.trans (s25.trans s26)))
            refine ⟨D1, l2, us, [.ref u2, .ref u4], rfl, rfl, s2126 _ _ e21, ey26, by rw [l21]; show m + 2 ≤ sizeLine; exact Nat.le_of_lt (small1000 (by omega)), fun nl n27 => ?_⟩
            have s27 := same_upd (o := .lst (us ++ [.ref u2, .ref u4])) n27
            have e27 : (upd H26 nl (.lst (us ++ [.ref u2, .ref u4]))) nl = some (.lst (us ++ [.ref u2, .ref u4])) := upd_same
            generalize upd H26 nl (.lst (us ++ [.ref u2, .ref u4])) = H27 at s27 e27 ⊢
            have sf27 := sf20.trans (s21.trans (s2126.trans s27))
            have hTl27 := TlAt.up (s20.trans (s21.trans (s2126.trans s27))) hTl
            have hnames : ∀ (i : Nat) (v : V) (n : Str), (us ++ [V.ref u2, .ref u4])[i]? = some v → (nmL m)[i]? = some n → OgN K H27 v 7 n := by
              intro i v n h1 h2
              unfold nmL at h2
              by_cases hi : i < m
              · rw [List.getElem?_append_left (by omega)] at h1
                rw [List.getElem?_append_left (by rw [List.length_map, List.length_range]; exact hi), List.getElem?_map, List.getElem?_range hi] at h2
                obtain rfl : nmS i = n := Option.some.inj h2
                exact OgN.up (s2126.trans s27) (r21 i v h1)
              · rw [List.getElem?_append_right (by omega), l21] at h1
                rw [List.getElem?_append_right (by rw [List.length_map, List.length_range]; omega), List.length_map, List.length_range] at h2
                obtain hz | hz : i - m = 0 ∨ i - m = 1 := by
                  have := (List.getElem?_eq_some_iff.mp h1).1
                  have e : [V.ref u2, V.ref u4].length = 2 := rfl
                  omega
                · rw [hz] at h1 h2
                  obtain rfl : V.ref u2 = v := Option.some.inj h1
                  obtain rfl : ("low" : Str) = n := Option.some.inj h2
                  exact ⟨u2, u1, rfl, same_tup (s24.trans (s25.trans (s26.trans s27))) y23, same_tup (s23.trans (s24.trans (s25.trans (s26.trans s27)))) y22⟩
                · rw [hz] at h1 h2
                  obtain rfl : V.ref u4 = v := Option.some.inj h1
                  obtain rfl : ("high" : Str) = n := Option.some.inj h2
                  exact ⟨u4, u3, rfl, same_tup (s26.trans s27) y25, same_tup (s25.trans (s26.trans s27)) y24⟩
            clear y22 y23 y24 y25 y26 ey22 ey23 ey24 ey25 ey26 r21
            walk_at "st"
            obtain ⟨tll, tg, tws, tt0, tt1, tt2, tt3, tt4⟩ := id hTl27
            have ltw : tws.length = m + 2 := by
              have := congrArg List.length tt3
              rw [List.length_map, tl_len, lls] at this
              exact this
            refine ⟨_, rfl, tl, _, 1, _, rfl, rfl, tt0, atI_nat (j := 1) rfl, ?_⟩
            refine ⟨tll, rfl, ⟨_, SqL.of tt1⟩, fun D2 n2 => ?_⟩
            refine lc_obj (walk_list (K := K) (a := tll) (xs := Ro tws)) (fun i H v => ∀ n, (nmL m)[i]? = some n → OgN K H v 7 n) (fun {i H H' v D acc} h e s n hn => OgN.over (h n hn) e s) (by rw [Ro_len]; omega) n2 (fun H2 s2 => s2.seq (SqL.of tt1)) ?_ ?_
            · rintro k x H28 H29 kk hk s28 ⟨rfl, hx⟩ kk2
              obtain ⟨wl, rfl, gw⟩ := Ro_get hx
              obtain ⟨w0, ⟨nn, oo, hsd, hn1, ho1⟩, hog⟩ := tt2 wl (List.mem_of_getElem? gw)
              have hsd' := same_tup s28 hsd
              have hnm : (nmL m)[k]? = some wl.2.1 := by
                rw [← sk_names (u := (frF dr).1) (v := (frF dr).2.1) (w := (frF dr).2.2) (p := bsG dr) (d := dr) (c1 := valV2 (dr / 53)) (c2 := valV2 (dr / 59)), ← tt3, List.map_map, List.getElem?_map, gw]
                rfl
              walk_at "go"
              exact kk2 _ _ (Same.refl _) fun n hn => by
                rw [hnm] at hn
                obtain rfl := Option.some.inj hn
                exact hog.up s28
            · intro H28 us2 s28 e28 l28 r28
              rw [Ro_len, ltw] at l28
              have lnm : (nmL m).length = m + 2 := by
                unfold nmL
                rw [List.length_append, List.length_map, List.length_range]
                rfl
              have hd1 : DpAll K H28 us2 ((nmL m).map pdO) := dp_all (l28.trans lnm.symm) fun i v n h1 h2 => r28 i v h1 n h2
              have hd2 : DpAll K H28 (us ++ [V.ref u2, .ref u4]) ((nmL m).map pdO) := dp_all (by rw [List.length_append, l21, lnm]; rfl) fun i v n h1 h2 => OgN.up s28 (hnames i v n h1 h2)
              refine ⟨_, rfl, _, _, .lst (SqL.of e28) hd1, .lst (SqL.of (s28 _ _ e27)) hd2, sh_nmL m (by omega), sh_nmL m (by omega), ?_⟩
              rw [eqv_sh (sh_nmL m (by omega))]
              have sf28 := sf27.trans s28
              have hTl28 := TlAt.up s28 hTl27
              walk_at "go"
              refine ⟨by decide, by decide, for_range (n := 12) (fun j σ' H' => Same H28 H' ∧ ∃ v8 v9 v16 v17 : Option V, σ' = [some (.ref s0), some (.ref ml), some (.int i), some (.int dr), some (.ref fr), some (.int m), some (.ref bs), some (.ref Dl), v8, v9, some (.ref ar), some (.ref en), some (.ref df), some (.str "made"), some (.ref tl), some (.ref nl), v16, v17]) ⟨Same.refl _, _, _, _, _, rfl⟩ ?_ ?_⟩
              · rintro j σ' H29 hj ⟨s29, v8, v9, v16, v17, rfl⟩
                rw [show (0 : Int) + (j : Int) = (j : Int) by omega]
                have sf29 := sf28.trans s29
                refine ⟨_, rfl, _, rfl, _, rfl, _, rfl, _, rfl, _, rfl, _, rfl, _, rfl, _, _, rfl, rfl, Bz.wide (n := 4) (m := 4) (by show (12 : Int).natAbs < 16; decide) (by show ((i : Nat) : Int).natAbs < 16; omega) (by decide), ?_⟩
                refine ⟨_, _, rfl, rfl, ?_⟩
                refine ⟨_, rfl, _, _, rfl, rfl, ?_⟩
                refine ⟨s0, ns, 10 + 12 * i + j, congrArg (fun z => [V.ref s0, V.int z]) (by omega), (sM.trans (z0.trans (sAll.trans sf29))).seq hS, fun c => ?_⟩
                refine ⟨_, rfl, _, _, rfl, rfl, ?_⟩
                refine ⟨tl, fr, bs, Dl, ar, en, o1, o2, c + dr, 7, opF dr, _, _, _, lsG dr m, arF m (dr / 7), bsG dr, valV2 (dr / 53), valV2 (dr / 59), rfl, TlAt.up s29 hTl28, hFf.up sf29, T3At.up sf29 hBf, hLf.up sf29, haf.up sf29, sf29.seq hEf, V1.up sf29 g1f, V1.up sf29 g2f, bu, bv, bw, hls, h0, bp, c53.1.up (by decide), c53.2.up (by decide), c59.1.up (by decide), c59.2.up (by decide), by omega, lsG_nd dr m, haN, by omega, fun H30 s30 => ?_⟩
                walk_at "go"
                exact ⟨s29.trans s30, _, _, _, _, rfl⟩
              · rintro σ' H29 ⟨s29, v8, v9, v16, v17, rfl⟩
                exact ⟨z0.trans (sAll.trans (sf28.trans s29)), _, _, _, _, _, _, _, _, _, _, _, _, _, _, _, _, rfl⟩
    · rintro σ' H' ⟨_, v2, v3, v4, v5, v6, v7, v8, v9, v10, v11, v12, v13, v14, v15, v16, v17, rfl⟩
      walk_at "go"
      exact q H'
end
theorem all_mk {l : PySem.W.OpenLaw} {w : World} {K : PySem.W.Frag} {h : Heap} {mg : Str → Option Value} {fa f1 f2 f3 f4 f5 f6 f7 f8 f9 f10 f11 f12 f13 f14 f15 f16 f17 f18 f19 f20 f21 f22 f23 f24 f25 f26 f27 f28 f29 f30 f31 f32 f33 f34 f35 f36 f37 f38 f39 f40 f41 f42 f43 f44 f45 f46 f47 f48 f49 f50 f51 f52 f53 f54 f55 f56 f57 f58 f59 f60 aZERO aONE CPartError CNought T2 : Addr} (X : K.In h) (G : h.Ns mainGlobals mg) (hfa : mg "law" = some (.ref fa))
    {od1 an1 od2 an2 od3 an3 od4 an4 od5 an5 od6 an6 od7 an7 od8 an8 od9 an9 od10 an10 od11 an11 od12 an12 od13 an13 od14 an14 od15 an15 od16 an16 od17 an17 od18 an18 od19 an19 od20 an20 od21 an21 od22 an22 od23 an23 od24 an24 od25 an25 od26 an26 od27 an27 od28 an28 od29 an29 od30 an30 od31 an31 od32 an32 od33 an33 od34 an34 od35 an35 od36 an36 od37 an37 od38 an38 od39 an39 od40 an40 od41 an41 od42 an42 od43 an43 od44 an44 od45 an45 od46 an46 od47 an47 od48 an48 od49 an49 od50 an50 od51 an51 od52 an52 od53 an53 od54 an54 od55 an55 od56 an56 od57 an57 od58 an58 od59 an59 od60 an60 : Option Addr} {sl1 sl2 sl3 sl4 sl5 sl6 sl7 sl8 sl9 sl10 sl11 sl12 sl13 sl14 sl15 sl16 sl17 sl18 sl19 sl20 sl21 sl22 sl23 sl24 sl25 sl26 sl27 sl28 sl29 sl30 sl31 sl32 sl33 sl34 sl35 sl36 sl37 sl38 sl39 sl40 sl41 sl42 sl43 sl44 sl45 sl46 sl47 sl48 sl49 sl50 sl51 sl52 sl53 sl54 sl55 sl56 sl57 sl58 sl59 sl60 : Array (Option Value)} {oc1 kV1 dc1 pm1 cd1 ct1 oc2 kV2 dc2 pm2 cd2 ct2 oc3 kV3 dc3 pm3 cd3 ct3 oc4 kV4 dc4 pm4 cd4 ct4 oc5 kV5 dc5 pm5 cd5 ct5 oc6 kV6 dc6 pm6 cd6 ct6 oc7 kV7 dc7 pm7 cd7 ct7 oc8 kV8 dc8 pm8 cd8 ct8 oc9 kV9 dc9 pm9 cd9 ct9 oc10 kV10 dc10 pm10 cd10 ct10 oc11 kV11 dc11 pm11 cd11 ct11 oc12 kV12 dc12 pm12 cd12 ct12 oc13 kV13 dc13 pm13 cd13 ct13 oc14 kV14 dc14 pm14 cd14 ct14 oc15 kV15 dc15 pm15 cd15 ct15 oc16 kV16 dc16 pm16 cd16 ct16 oc17 kV17 dc17 pm17 cd17 ct17 oc18 kV18 dc18 pm18 cd18 ct18 oc19 kV19 dc19 pm19 cd19 ct19 oc20 kV20 dc20 pm20 cd20 ct20 oc21 kV21 dc21 pm21 cd21 ct21 oc22 kV22 dc22 pm22 cd22 ct22 oc23 kV23 dc23 pm23 cd23 ct23 oc24 kV24 dc24 pm24 cd24 ct24 oc25 kV25 dc25 pm25 cd25 ct25 oc26 kV26 dc26 pm26 cd26 ct26 oc27 kV27 dc27 pm27 cd27 ct27 oc28 kV28 dc28 pm28 cd28 ct28 oc29 kV29 dc29 pm29 cd29 ct29 oc30 kV30 dc30 pm30 cd30 ct30 oc31 kV31 dc31 pm31 cd31 ct31 oc32 kV32 dc32 pm32 cd32 ct32 oc33 kV33 dc33 pm33 cd33 ct33 oc34 kV34 dc34 pm34 cd34 ct34 oc35 kV35 dc35 pm35 cd35 ct35 oc36 kV36 dc36 pm36 cd36 ct36 oc37 kV37 dc37 pm37 cd37 ct37 oc38 kV38 dc38 pm38 cd38 ct38 oc39 kV39 dc39 pm39 cd39 ct39 oc40 kV40 dc40 pm40 cd40 ct40 oc41 kV41 dc41 pm41 cd41 ct41 oc42 kV42 dc42 pm42 cd42 ct42 oc43 kV43 dc43 pm43 cd43 ct43 oc44 kV44 dc44 pm44 cd44 ct44 oc45 kV45 dc45 pm45 cd45 ct45 oc46 kV46 dc46 pm46 cd46 ct46 oc47 kV47 dc47 pm47 cd47 ct47 oc48 kV48 dc48 pm48 cd48 ct48 oc49 kV49 dc49 pm49 cd49 ct49 oc50 kV50 dc50 pm50 cd50 ct50 oc51 kV51 dc51 pm51 cd51 ct51 oc52 kV52 dc52 pm52 cd52 ct52 oc53 kV53 dc53 pm53 cd53 ct53 oc54 kV54 dc54 pm54 cd54 ct54 oc55 kV55 dc55 pm55 cd55 ct55 oc56 kV56 dc56 pm56 cd56 ct56 oc57 kV57 dc57 pm57 cd57 ct57 oc58 kV58 dc58 pm58 cd58 ct58 oc59 kV59 dc59 pm59 cd59 ct59 oc60 kV60 dc60 pm60 cd60 ct60 : Value}
    (a1 : PySem.W.nsIn K mainGlobals "common" = some (some (.ref f1))) (l1 : K.lookup f1 = some ⟨oc1, od1, .func (PySem.W.fnOf "common" "common" (defArgs sCommon) (defBody sCommon) (defScope sCommon) .none kV1 dc1 pm1 an1 cd1 ct1), sl1⟩) (c1 : PySem.W.codeIn K cd1 "common" = true) (k1 : PySem.W.keepIn K (.ref f1) = true)
    (a2 : PySem.W.nsIn K mainGlobals "fraction" = some (some (.ref f2))) (l2 : K.lookup f2 = some ⟨oc2, od2, .func (PySem.W.fnOf "fraction" "fraction" (defArgs sFraction) (defBody sFraction) (defScope sFraction) (.ref T2) kV2 dc2 pm2 an2 cd2 ct2), sl2⟩) {ocT2 : Value} {odT2 : Option Addr} {slT2 : Array (Option Value)} {nT2 : Nat} {tT2 : Tok} (lT2 : K.lookup T2 = some ⟨ocT2, odT2, .seq #[.int 1 tT2] nT2, slT2⟩) (c2 : PySem.W.codeIn K cd2 "fraction" = true) (k2 : PySem.W.keepIn K (.ref f2) = true)
    (a3 : PySem.W.nsIn K mainGlobals "plus" = some (some (.ref f3))) (l3 : K.lookup f3 = some ⟨oc3, od3, .func (PySem.W.fnOf "plus" "plus" (defArgs sPlus) (defBody sPlus) (defScope sPlus) .none kV3 dc3 pm3 an3 cd3 ct3), sl3⟩) (c3 : PySem.W.codeIn K cd3 "plus" = true) (k3 : PySem.W.keepIn K (.ref f3) = true)
    (a4 : PySem.W.nsIn K mainGlobals "minus" = some (some (.ref f4))) (l4 : K.lookup f4 = some ⟨oc4, od4, .func (PySem.W.fnOf "minus" "minus" (defArgs sMinus) (defBody sMinus) (defScope sMinus) .none kV4 dc4 pm4 an4 cd4 ct4), sl4⟩) (c4 : PySem.W.codeIn K cd4 "minus" = true) (k4 : PySem.W.keepIn K (.ref f4) = true)
    (a5 : PySem.W.nsIn K mainGlobals "times" = some (some (.ref f5))) (l5 : K.lookup f5 = some ⟨oc5, od5, .func (PySem.W.fnOf "times" "times" (defArgs sTimes) (defBody sTimes) (defScope sTimes) .none kV5 dc5 pm5 an5 cd5 ct5), sl5⟩) (c5 : PySem.W.codeIn K cd5 "times" = true) (k5 : PySem.W.keepIn K (.ref f5) = true)
    (a6 : PySem.W.nsIn K mainGlobals "over" = some (some (.ref f6))) (l6 : K.lookup f6 = some ⟨oc6, od6, .func (PySem.W.fnOf "over" "over" (defArgs sOver) (defBody sOver) (defScope sOver) .none kV6 dc6 pm6 an6 cd6 ct6), sl6⟩) (c6 : PySem.W.codeIn K cd6 "over" = true) (k6 : PySem.W.keepIn K (.ref f6) = true)
    (a7 : PySem.W.nsIn K mainGlobals "negative" = some (some (.ref f7))) (l7 : K.lookup f7 = some ⟨oc7, od7, .func (PySem.W.fnOf "negative" "negative" (defArgs sNegative) (defBody sNegative) (defScope sNegative) .none kV7 dc7 pm7 an7 cd7 ct7), sl7⟩) (c7 : PySem.W.codeIn K cd7 "negative" = true) (k7 : PySem.W.keepIn K (.ref f7) = true)
    (a8 : PySem.W.nsIn K mainGlobals "add" = some (some (.ref f8))) (l8 : K.lookup f8 = some ⟨oc8, od8, .func (PySem.W.fnOf "add" "add" (defArgs sAdd) (defBody sAdd) (defScope sAdd) .none kV8 dc8 pm8 an8 cd8 ct8), sl8⟩) (c8 : PySem.W.codeIn K cd8 "add" = true) (k8 : PySem.W.keepIn K (.ref f8) = true)
    (a9 : PySem.W.nsIn K mainGlobals "subtract" = some (some (.ref f9))) (l9 : K.lookup f9 = some ⟨oc9, od9, .func (PySem.W.fnOf "subtract" "subtract" (defArgs sSubtract) (defBody sSubtract) (defScope sSubtract) .none kV9 dc9 pm9 an9 cd9 ct9), sl9⟩) (c9 : PySem.W.codeIn K cd9 "subtract" = true) (k9 : PySem.W.keepIn K (.ref f9) = true)
    (a10 : PySem.W.nsIn K mainGlobals "scale" = some (some (.ref f10))) (l10 : K.lookup f10 = some ⟨oc10, od10, .func (PySem.W.fnOf "scale" "scale" (defArgs sScale) (defBody sScale) (defScope sScale) .none kV10 dc10 pm10 an10 cd10 ct10), sl10⟩) (c10 : PySem.W.codeIn K cd10 "scale" = true) (k10 : PySem.W.keepIn K (.ref f10) = true)
    (a11 : PySem.W.nsIn K mainGlobals "joined_parts" = some (some (.ref f11))) (l11 : K.lookup f11 = some ⟨oc11, od11, .func (PySem.W.fnOf "joined_parts" "joined_parts" (defArgs sJoinedParts) (defBody sJoinedParts) (defScope sJoinedParts) .none kV11 dc11 pm11 an11 cd11 ct11), sl11⟩) (c11 : PySem.W.codeIn K cd11 "joined_parts" = true) (k11 : PySem.W.keepIn K (.ref f11) = true)
    (a12 : PySem.W.nsIn K mainGlobals "inner" = some (some (.ref f12))) (l12 : K.lookup f12 = some ⟨oc12, od12, .func (PySem.W.fnOf "inner" "inner" (defArgs sInner) (defBody sInner) (defScope sInner) .none kV12 dc12 pm12 an12 cd12 ct12), sl12⟩) (c12 : PySem.W.codeIn K cd12 "inner" = true) (k12 : PySem.W.keepIn K (.ref f12) = true)
    (a13 : PySem.W.nsIn K mainGlobals "outer" = some (some (.ref f13))) (l13 : K.lookup f13 = some ⟨oc13, od13, .func (PySem.W.fnOf "outer" "outer" (defArgs sOuter) (defBody sOuter) (defScope sOuter) .none kV13 dc13 pm13 an13 cd13 ct13), sl13⟩) (c13 : PySem.W.codeIn K cd13 "outer" = true) (k13 : PySem.W.keepIn K (.ref f13) = true)
    (a14 : PySem.W.nsIn K mainGlobals "cleared" = some (some (.ref f14))) (l14 : K.lookup f14 = some ⟨oc14, od14, .func (PySem.W.fnOf "cleared" "cleared" (defArgs sCleared) (defBody sCleared) (defScope sCleared) .none kV14 dc14 pm14 an14 cd14 ct14), sl14⟩) (c14 : PySem.W.codeIn K cd14 "cleared" = true) (k14 : PySem.W.keepIn K (.ref f14) = true)
    (a15 : PySem.W.nsIn K mainGlobals "marked" = some (some (.ref f15))) (l15 : K.lookup f15 = some ⟨oc15, od15, .func (PySem.W.fnOf "marked" "marked" (defArgs sMarked) (defBody sMarked) (defScope sMarked) .none kV15 dc15 pm15 an15 cd15 ct15), sl15⟩) (c15 : PySem.W.codeIn K cd15 "marked" = true) (k15 : PySem.W.keepIn K (.ref f15) = true)
    (a16 : PySem.W.nsIn K mainGlobals "lead_of" = some (some (.ref f16))) (l16 : K.lookup f16 = some ⟨oc16, od16, .func (PySem.W.fnOf "lead_of" "lead_of" (defArgs sLeadOf) (defBody sLeadOf) (defScope sLeadOf) .none kV16 dc16 pm16 an16 cd16 ct16), sl16⟩) (c16 : PySem.W.codeIn K cd16 "lead_of" = true) (k16 : PySem.W.keepIn K (.ref f16) = true)
    (a17 : PySem.W.nsIn K mainGlobals "settle_rows" = some (some (.ref f17))) (l17 : K.lookup f17 = some ⟨oc17, od17, .func (PySem.W.fnOf "settle_rows" "settle_rows" (defArgs sSettleRows) (defBody sSettleRows) (defScope sSettleRows) .none kV17 dc17 pm17 an17 cd17 ct17), sl17⟩) (c17 : PySem.W.codeIn K cd17 "settle_rows" = true) (k17 : PySem.W.keepIn K (.ref f17) = true)
    (a18 : PySem.W.nsIn K mainGlobals "worth_told" = some (some (.ref f18))) (l18 : K.lookup f18 = some ⟨oc18, od18, .func (PySem.W.fnOf "worth_told" "worth_told" (defArgs sWorthTold) (defBody sWorthTold) (defScope sWorthTold) .none kV18 dc18 pm18 an18 cd18 ct18), sl18⟩) (c18 : PySem.W.codeIn K cd18 "worth_told" = true) (k18 : PySem.W.keepIn K (.ref f18) = true)
    (a19 : PySem.W.nsIn K mainGlobals "parts_of" = some (some (.ref f19))) (l19 : K.lookup f19 = some ⟨oc19, od19, .func (PySem.W.fnOf "parts_of" "parts_of" (defArgs sPartsOf) (defBody sPartsOf) (defScope sPartsOf) .none kV19 dc19 pm19 an19 cd19 ct19), sl19⟩) (c19 : PySem.W.codeIn K cd19 "parts_of" = true) (k19 : PySem.W.keepIn K (.ref f19) = true)
    (a20 : PySem.W.nsIn K mainGlobals "row_of" = some (some (.ref f20))) (l20 : K.lookup f20 = some ⟨oc20, od20, .func (PySem.W.fnOf "row_of" "row_of" (defArgs sRowOf) (defBody sRowOf) (defScope sRowOf) .none kV20 dc20 pm20 an20 cd20 ct20), sl20⟩) (c20 : PySem.W.codeIn K cd20 "row_of" = true) (k20 : PySem.W.keepIn K (.ref f20) = true)
    (a21 : PySem.W.nsIn K mainGlobals "through_row" = some (some (.ref f21))) (l21 : K.lookup f21 = some ⟨oc21, od21, .func (PySem.W.fnOf "through_row" "through_row" (defArgs sThroughRow) (defBody sThroughRow) (defScope sThroughRow) .none kV21 dc21 pm21 an21 cd21 ct21), sl21⟩) (c21 : PySem.W.codeIn K cd21 "through_row" = true) (k21 : PySem.W.keepIn K (.ref f21) = true)
    (a22 : PySem.W.nsIn K mainGlobals "ratio" = some (some (.ref f22))) (l22 : K.lookup f22 = some ⟨oc22, od22, .func (PySem.W.fnOf "ratio" "ratio" (defArgs sRatio) (defBody sRatio) (defScope sRatio) .none kV22 dc22 pm22 an22 cd22 ct22), sl22⟩) (c22 : PySem.W.codeIn K cd22 "ratio" = true) (k22 : PySem.W.keepIn K (.ref f22) = true)
    (a23 : PySem.W.nsIn K mainGlobals "apart_row" = some (some (.ref f23))) (l23 : K.lookup f23 = some ⟨oc23, od23, .func (PySem.W.fnOf "apart_row" "apart_row" (defArgs sApartRow) (defBody sApartRow) (defScope sApartRow) .none kV23 dc23 pm23 an23 cd23 ct23), sl23⟩) (c23 : PySem.W.codeIn K cd23 "apart_row" = true) (k23 : PySem.W.keepIn K (.ref f23) = true)
    (a24 : PySem.W.nsIn K mainGlobals "corner_shares" = some (some (.ref f24))) (l24 : K.lookup f24 = some ⟨oc24, od24, .func (PySem.W.fnOf "corner_shares" "corner_shares" (defArgs sCornerShares) (defBody sCornerShares) (defScope sCornerShares) .none kV24 dc24 pm24 an24 cd24 ct24), sl24⟩) (c24 : PySem.W.codeIn K cd24 "corner_shares" = true) (k24 : PySem.W.keepIn K (.ref f24) = true)
    (a25 : PySem.W.nsIn K mainGlobals "at_row" = some (some (.ref f25))) (l25 : K.lookup f25 = some ⟨oc25, od25, .func (PySem.W.fnOf "at_row" "at_row" (defArgs sAtRow) (defBody sAtRow) (defScope sAtRow) .none kV25 dc25 pm25 an25 cd25 ct25), sl25⟩) (c25 : PySem.W.codeIn K cd25 "at_row" = true) (k25 : PySem.W.keepIn K (.ref f25) = true)
    (a26 : PySem.W.nsIn K mainGlobals "between_row" = some (some (.ref f26))) (l26 : K.lookup f26 = some ⟨oc26, od26, .func (PySem.W.fnOf "between_row" "between_row" (defArgs sBetweenRow) (defBody sBetweenRow) (defScope sBetweenRow) .none kV26 dc26 pm26 an26 cd26 ct26), sl26⟩) (c26 : PySem.W.codeIn K cd26 "between_row" = true) (k26 : PySem.W.keepIn K (.ref f26) = true)
    (a27 : PySem.W.nsIn K mainGlobals "dimension_row" = some (some (.ref f27))) (l27 : K.lookup f27 = some ⟨oc27, od27, .func (PySem.W.fnOf "dimension_row" "dimension_row" (defArgs sDimensionRow) (defBody sDimensionRow) (defScope sDimensionRow) .none kV27 dc27 pm27 an27 cd27 ct27), sl27⟩) (c27 : PySem.W.codeIn K cd27 "dimension_row" = true) (k27 : PySem.W.keepIn K (.ref f27) = true)
    (a28 : PySem.W.nsIn K mainGlobals "solve_sketch" = some (some (.ref f28))) (l28 : K.lookup f28 = some ⟨oc28, od28, .func (PySem.W.fnOf "solve_sketch" "solve_sketch" (defArgs sSolveSketch) (defBody sSolveSketch) (defScope sSolveSketch) .none kV28 dc28 pm28 an28 cd28 ct28), sl28⟩) (c28 : PySem.W.codeIn K cd28 "solve_sketch" = true) (k28 : PySem.W.keepIn K (.ref f28) = true)
    (a29 : PySem.W.nsIn K mainGlobals "dot" = some (some (.ref f29))) (l29 : K.lookup f29 = some ⟨oc29, od29, .func (PySem.W.fnOf "dot" "dot" (defArgs sDot) (defBody sDot) (defScope sDot) .none kV29 dc29 pm29 an29 cd29 ct29), sl29⟩) (c29 : PySem.W.codeIn K cd29 "dot" = true) (k29 : PySem.W.keepIn K (.ref f29) = true)
    (a30 : PySem.W.nsIn K mainGlobals "cross" = some (some (.ref f30))) (l30 : K.lookup f30 = some ⟨oc30, od30, .func (PySem.W.fnOf "cross" "cross" (defArgs sCross) (defBody sCross) (defScope sCross) .none kV30 dc30 pm30 an30 cd30 ct30), sl30⟩) (c30 : PySem.W.codeIn K cd30 "cross" = true) (k30 : PySem.W.keepIn K (.ref f30) = true)
    (a31 : PySem.W.nsIn K mainGlobals "volume" = some (some (.ref f31))) (l31 : K.lookup f31 = some ⟨oc31, od31, .func (PySem.W.fnOf "volume" "volume" (defArgs sVolume) (defBody sVolume) (defScope sVolume) .none kV31 dc31 pm31 an31 cd31 ct31), sl31⟩) (c31 : PySem.W.codeIn K cd31 "volume" = true) (k31 : PySem.W.keepIn K (.ref f31) = true)
    (a32 : PySem.W.nsIn K mainGlobals "primitive" = some (some (.ref f32))) (l32 : K.lookup f32 = some ⟨oc32, od32, .func (PySem.W.fnOf "primitive" "primitive" (defArgs sPrimitive) (defBody sPrimitive) (defScope sPrimitive) .none kV32 dc32 pm32 an32 cd32 ct32), sl32⟩) (c32 : PySem.W.codeIn K cd32 "primitive" = true) (k32 : PySem.W.keepIn K (.ref f32) = true)
    (a33 : PySem.W.nsIn K mainGlobals "spread" = some (some (.ref f33))) (l33 : K.lookup f33 = some ⟨oc33, od33, .func (PySem.W.fnOf "spread" "spread" (defArgs sSpread) (defBody sSpread) (defScope sSpread) .none kV33 dc33 pm33 an33 cd33 ct33), sl33⟩) (c33 : PySem.W.codeIn K cd33 "spread" = true) (k33 : PySem.W.keepIn K (.ref f33) = true)
    (a34 : PySem.W.nsIn K mainGlobals "side_of" = some (some (.ref f34))) (l34 : K.lookup f34 = some ⟨oc34, od34, .func (PySem.W.fnOf "side_of" "side_of" (defArgs sSideOf) (defBody sSideOf) (defScope sSideOf) .none kV34 dc34 pm34 an34 cd34 ct34), sl34⟩) (c34 : PySem.W.codeIn K cd34 "side_of" = true) (k34 : PySem.W.keepIn K (.ref f34) = true)
    (a35 : PySem.W.nsIn K mainGlobals "line_side" = some (some (.ref f35))) (l35 : K.lookup f35 = some ⟨oc35, od35, .func (PySem.W.fnOf "line_side" "line_side" (defArgs sLineSide) (defBody sLineSide) (defScope sLineSide) .none kV35 dc35 pm35 an35 cd35 ct35), sl35⟩) (c35 : PySem.W.codeIn K cd35 "line_side" = true) (k35 : PySem.W.keepIn K (.ref f35) = true)
    (a36 : PySem.W.nsIn K mainGlobals "end_side" = some (some (.ref f36))) (l36 : K.lookup f36 = some ⟨oc36, od36, .func (PySem.W.fnOf "end_side" "end_side" (defArgs sEndSide) (defBody sEndSide) (defScope sEndSide) .none kV36 dc36 pm36 an36 cd36 ct36), sl36⟩) (c36 : PySem.W.codeIn K cd36 "end_side" = true) (k36 : PySem.W.keepIn K (.ref f36) = true)
    (a37 : PySem.W.nsIn K mainGlobals "area_test" = some (some (.ref f37))) (l37 : K.lookup f37 = some ⟨oc37, od37, .func (PySem.W.fnOf "area_test" "area_test" (defArgs sAreaTest) (defBody sAreaTest) (defScope sAreaTest) .none kV37 dc37 pm37 an37 cd37 ct37), sl37⟩) (c37 : PySem.W.codeIn K cd37 "area_test" = true) (k37 : PySem.W.keepIn K (.ref f37) = true)
    (a38 : PySem.W.nsIn K mainGlobals "opposite_side" = some (some (.ref f38))) (l38 : K.lookup f38 = some ⟨oc38, od38, .func (PySem.W.fnOf "opposite_side" "opposite_side" (defArgs sOppositeSide) (defBody sOppositeSide) (defScope sOppositeSide) .none kV38 dc38 pm38 an38 cd38 ct38), sl38⟩) (c38 : PySem.W.codeIn K cd38 "opposite_side" = true) (k38 : PySem.W.keepIn K (.ref f38) = true)
    (a39 : PySem.W.nsIn K mainGlobals "tool_between" = some (some (.ref f39))) (l39 : K.lookup f39 = some ⟨oc39, od39, .func (PySem.W.fnOf "tool_between" "tool_between" (defArgs sToolBetween) (defBody sToolBetween) (defScope sToolBetween) .none kV39 dc39 pm39 an39 cd39 ct39), sl39⟩) (c39 : PySem.W.codeIn K cd39 "tool_between" = true) (k39 : PySem.W.keepIn K (.ref f39) = true)
    (a40 : PySem.W.nsIn K mainGlobals "sketch_tool" = some (some (.ref f40))) (l40 : K.lookup f40 = some ⟨oc40, od40, .func (PySem.W.fnOf "sketch_tool" "sketch_tool" (defArgs sSketchTool) (defBody sSketchTool) (defScope sSketchTool) .none kV40 dc40 pm40 an40 cd40 ct40), sl40⟩) (c40 : PySem.W.codeIn K cd40 "sketch_tool" = true) (k40 : PySem.W.keepIn K (.ref f40) = true)
    (a41 : PySem.W.nsIn K mainGlobals "_law_number" = some (some (.ref f41))) (l41 : K.lookup f41 = some ⟨oc41, od41, .func (PySem.W.fnOf "_law_number" "_law_number" (defArgs sLLawNumber) (defBody sLLawNumber) (defScope sLLawNumber) .none kV41 dc41 pm41 an41 cd41 ct41), sl41⟩) (c41 : PySem.W.codeIn K cd41 "_law_number" = true) (k41 : PySem.W.keepIn K (.ref f41) = true)
    (a42 : PySem.W.nsIn K mainGlobals "_law_fraction" = some (some (.ref f42))) (l42 : K.lookup f42 = some ⟨oc42, od42, .func (PySem.W.fnOf "_law_fraction" "_law_fraction" (defArgs sLLawFraction) (defBody sLLawFraction) (defScope sLLawFraction) .none kV42 dc42 pm42 an42 cd42 ct42), sl42⟩) (c42 : PySem.W.codeIn K cd42 "_law_fraction" = true) (k42 : PySem.W.keepIn K (.ref f42) = true)
    (a43 : PySem.W.nsIn K mainGlobals "_law_sum" = some (some (.ref f43))) (l43 : K.lookup f43 = some ⟨oc43, od43, .func (PySem.W.fnOf "_law_sum" "_law_sum" (defArgs sLLawSum) (defBody sLLawSum) (defScope sLLawSum) .none kV43 dc43 pm43 an43 cd43 ct43), sl43⟩) (c43 : PySem.W.codeIn K cd43 "_law_sum" = true) (k43 : PySem.W.keepIn K (.ref f43) = true)
    (a44 : PySem.W.nsIn K mainGlobals "_law_times" = some (some (.ref f44))) (l44 : K.lookup f44 = some ⟨oc44, od44, .func (PySem.W.fnOf "_law_times" "_law_times" (defArgs sLLawTimes) (defBody sLLawTimes) (defScope sLLawTimes) .none kV44 dc44 pm44 an44 cd44 ct44), sl44⟩) (c44 : PySem.W.codeIn K cd44 "_law_times" = true) (k44 : PySem.W.keepIn K (.ref f44) = true)
    (a45 : PySem.W.nsIn K mainGlobals "_law_dot" = some (some (.ref f45))) (l45 : K.lookup f45 = some ⟨oc45, od45, .func (PySem.W.fnOf "_law_dot" "_law_dot" (defArgs sLLawDot) (defBody sLLawDot) (defScope sLLawDot) .none kV45 dc45 pm45 an45 cd45 ct45), sl45⟩) (c45 : PySem.W.codeIn K cd45 "_law_dot" = true) (k45 : PySem.W.keepIn K (.ref f45) = true)
    (a46 : PySem.W.nsIn K mainGlobals "_law_at" = some (some (.ref f46))) (l46 : K.lookup f46 = some ⟨oc46, od46, .func (PySem.W.fnOf "_law_at" "_law_at" (defArgs sLLawAt) (defBody sLLawAt) (defScope sLLawAt) .none kV46 dc46 pm46 an46 cd46 ct46), sl46⟩) (c46 : PySem.W.codeIn K cd46 "_law_at" = true) (k46 : PySem.W.keepIn K (.ref f46) = true)
    (a47 : PySem.W.nsIn K mainGlobals "_law_side" = some (some (.ref f47))) (l47 : K.lookup f47 = some ⟨oc47, od47, .func (PySem.W.fnOf "_law_side" "_law_side" (defArgs sLLawSide) (defBody sLLawSide) (defScope sLLawSide) .none kV47 dc47 pm47 an47 cd47 ct47), sl47⟩) (c47 : PySem.W.codeIn K cd47 "_law_side" = true) (k47 : PySem.W.keepIn K (.ref f47) = true)
    (a48 : PySem.W.nsIn K mainGlobals "_law_test" = some (some (.ref f48))) (l48 : K.lookup f48 = some ⟨oc48, od48, .func (PySem.W.fnOf "_law_test" "_law_test" (defArgs sLLawTest) (defBody sLLawTest) (defScope sLLawTest) .none kV48 dc48 pm48 an48 cd48 ct48), sl48⟩) (c48 : PySem.W.codeIn K cd48 "_law_test" = true) (k48 : PySem.W.keepIn K (.ref f48) = true)
    (a49 : PySem.W.nsIn K mainGlobals "_law_in" = some (some (.ref f49))) (l49 : K.lookup f49 = some ⟨oc49, od49, .func (PySem.W.fnOf "_law_in" "_law_in" (defArgs sLLawIn) (defBody sLLawIn) (defScope sLLawIn) .none kV49 dc49 pm49 an49 cd49 ct49), sl49⟩) (c49 : PySem.W.codeIn K cd49 "_law_in" = true) (k49 : PySem.W.keepIn K (.ref f49) = true)
    (a50 : PySem.W.nsIn K mainGlobals "_law_shared" = some (some (.ref f50))) (l50 : K.lookup f50 = some ⟨oc50, od50, .func (PySem.W.fnOf "_law_shared" "_law_shared" (defArgs sLLawShared) (defBody sLLawShared) (defScope sLLawShared) .none kV50 dc50 pm50 an50 cd50 ct50), sl50⟩) (c50 : PySem.W.codeIn K cd50 "_law_shared" = true) (k50 : PySem.W.keepIn K (.ref f50) = true)
    (a51 : PySem.W.nsIn K mainGlobals "_law_canonical" = some (some (.ref f51))) (l51 : K.lookup f51 = some ⟨oc51, od51, .func (PySem.W.fnOf "_law_canonical" "_law_canonical" (defArgs sLLawCanonical) (defBody sLLawCanonical) (defScope sLLawCanonical) .none kV51 dc51 pm51 an51 cd51 ct51), sl51⟩) (c51 : PySem.W.codeIn K cd51 "_law_canonical" = true) (k51 : PySem.W.keepIn K (.ref f51) = true)
    (a52 : PySem.W.nsIn K mainGlobals "_law_volume" = some (some (.ref f52))) (l52 : K.lookup f52 = some ⟨oc52, od52, .func (PySem.W.fnOf "_law_volume" "_law_volume" (defArgs sLLawVolume) (defBody sLLawVolume) (defScope sLLawVolume) .none kV52 dc52 pm52 an52 cd52 ct52), sl52⟩) (c52 : PySem.W.codeIn K cd52 "_law_volume" = true) (k52 : PySem.W.keepIn K (.ref f52) = true)
    (a53 : PySem.W.nsIn K mainGlobals "_law_frame" = some (some (.ref f53))) (l53 : K.lookup f53 = some ⟨oc53, od53, .func (PySem.W.fnOf "_law_frame" "_law_frame" (defArgs sLLawFrame) (defBody sLLawFrame) (defScope sLLawFrame) .none kV53 dc53 pm53 an53 cd53 ct53), sl53⟩) (c53 : PySem.W.codeIn K cd53 "_law_frame" = true) (k53 : PySem.W.keepIn K (.ref f53) = true)
    (a54 : PySem.W.nsIn K mainGlobals "_law_value" = some (some (.ref f54))) (l54 : K.lookup f54 = some ⟨oc54, od54, .func (PySem.W.fnOf "_law_value" "_law_value" (defArgs sLLawValue) (defBody sLLawValue) (defScope sLLawValue) .none kV54 dc54 pm54 an54 cd54 ct54), sl54⟩) (c54 : PySem.W.codeIn K cd54 "_law_value" = true) (k54 : PySem.W.keepIn K (.ref f54) = true)
    (a55 : PySem.W.nsIn K mainGlobals "_law_low" = some (some (.ref f55))) (l55 : K.lookup f55 = some ⟨oc55, od55, .func (PySem.W.fnOf "_law_low" "_law_low" (defArgs sLLawLow) (defBody sLLawLow) (defScope sLLawLow) .none kV55 dc55 pm55 an55 cd55 ct55), sl55⟩) (c55 : PySem.W.codeIn K cd55 "_law_low" = true) (k55 : PySem.W.keepIn K (.ref f55) = true)
    (a56 : PySem.W.nsIn K mainGlobals "_law_area" = some (some (.ref f56))) (l56 : K.lookup f56 = some ⟨oc56, od56, .func (PySem.W.fnOf "_law_area" "_law_area" (defArgs sLLawArea) (defBody sLLawArea) (defScope sLLawArea) .none kV56 dc56 pm56 an56 cd56 ct56), sl56⟩) (c56 : PySem.W.codeIn K cd56 "_law_area" = true) (k56 : PySem.W.keepIn K (.ref f56) = true)
    (a57 : PySem.W.nsIn K mainGlobals "_law_area_holds" = some (some (.ref f57))) (l57 : K.lookup f57 = some ⟨oc57, od57, .func (PySem.W.fnOf "_law_area_holds" "_law_area_holds" (defArgs sLLawAreaHolds) (defBody sLLawAreaHolds) (defScope sLLawAreaHolds) .none kV57 dc57 pm57 an57 cd57 ct57), sl57⟩) (c57 : PySem.W.codeIn K cd57 "_law_area_holds" = true) (k57 : PySem.W.keepIn K (.ref f57) = true)
    (a58 : PySem.W.nsIn K mainGlobals "_law_point" = some (some (.ref f58))) (l58 : K.lookup f58 = some ⟨oc58, od58, .func (PySem.W.fnOf "_law_point" "_law_point" (defArgs sLLawPoint) (defBody sLLawPoint) (defScope sLLawPoint) .none kV58 dc58 pm58 an58 cd58 ct58), sl58⟩) (c58 : PySem.W.codeIn K cd58 "_law_point" = true) (k58 : PySem.W.keepIn K (.ref f58) = true)
    (a59 : PySem.W.nsIn K mainGlobals "_law_good" = some (some (.ref f59))) (l59 : K.lookup f59 = some ⟨oc59, od59, .func (PySem.W.fnOf "_law_good" "_law_good" (defArgs sLLawGood) (defBody sLLawGood) (defScope sLLawGood) .none kV59 dc59 pm59 an59 cd59 ct59), sl59⟩) (c59 : PySem.W.codeIn K cd59 "_law_good" = true) (k59 : PySem.W.keepIn K (.ref f59) = true)
    (a60 : PySem.W.nsIn K mainGlobals "law" = some (some (.ref f60))) (l60 : K.lookup f60 = some ⟨oc60, od60, .func (PySem.W.fnOf "law" "law" (defArgs sLaw) (defBody sLaw) (defScope sLaw) .none kV60 dc60 pm60 an60 cd60 ct60), sl60⟩) (c60 : PySem.W.codeIn K cd60 "law" = true) (k60 : PySem.W.keepIn K (.ref f60) = true)
    (z1 : PySem.W.nsIn K mainGlobals "all" = some none)
    (z2 : PySem.W.nsIn K mainGlobals "any" = some none)
    (z3 : PySem.W.nsIn K mainGlobals "bool" = some none)
    (z4 : PySem.W.nsIn K mainGlobals "enumerate" = some none)
    (z5 : PySem.W.nsIn K mainGlobals "int" = some none)
    (z6 : PySem.W.nsIn K mainGlobals "isinstance" = some none)
    (z7 : PySem.W.nsIn K mainGlobals "len" = some none)
    (z8 : PySem.W.nsIn K mainGlobals "list" = some none)
    (z9 : PySem.W.nsIn K mainGlobals "range" = some none)
    (z10 : PySem.W.nsIn K mainGlobals "str" = some none)
    (z11 : PySem.W.nsIn K mainGlobals "tuple" = some none)
    (z12 : PySem.W.nsIn K mainGlobals "zip" = some none)
    (z13 : PySem.W.nsIn K mainGlobals "gcd" = some (some (.builtin "math.gcd")))
    (u0 : PySem.W.nsIn K mainGlobals "ZERO" = some (some (.ref aZERO))) {dw0 : Option Addr} {nw0 : Nat} {sw0 : Array (Option Value)} {tk0_0 tk0_1 : Tok} (w0 : K.lookup aZERO = some ⟨.type "tuple", dw0, .seq #[.int 0 tk0_0, .int 1 tk0_1] nw0, sw0⟩)
    (u1 : PySem.W.nsIn K mainGlobals "ONE" = some (some (.ref aONE))) {dw1 : Option Addr} {nw1 : Nat} {sw1 : Array (Option Value)} {tk1_0 tk1_1 : Tok} (w1 : K.lookup aONE = some ⟨.type "tuple", dw1, .seq #[.int 1 tk1_0, .int 1 tk1_1] nw1, sw1⟩)
    (y0 : PySem.W.nsIn K mainGlobals "PartError" = some (some (.ref CPartError)))
    (y1 : PySem.W.nsIn K mainGlobals "Nought" = some (some (.ref CNought)))
    (y2 : PySem.W.excIn K CNought [.type "ValueError", .type "Exception", .type "BaseException", .type "object"] "ValueError.__new__" = true)
    (y3 : PySem.W.keepIn K (.ref CNought) = true)
    (y4 : PySem.W.subIn K (.ref CNought) (.type "BaseException") = some true)
    (y5 : PySem.W.typeIn K (.ref CNought) = some (.type "type"))
    (y6 : PySem.W.subIn K (.ref CPartError) (.type "BaseException") = some true)
    (y7 : PySem.W.isClsIn K CPartError = true)
    (y8 : PySem.W.typeIn K (.ref CPartError) = some (.type "type"))
    (y9 : PySem.W.subIn K (.ref CNought) (.ref CPartError) = some true)
    (y10 : PySem.W.subIn K (.ref CNought) (.ref CNought) = some true)
    (y11 : PySem.W.findIn K (.ref CNought) "__getattribute__" = some (some (.builtin "BaseException.__getattribute__")))
    (y12 : PySem.W.findIn K (.ref CNought) "__getattr__" = some none)
    (y13 : PySem.W.hasDictIn K CNought = true)
    (y14 : PySem.W.findIn K (.ref CNought) "__class__" = some (some (.builtin "object.__class__")))
    (y15 : PySem.W.specialIn K (.builtin "object.__class__") "__get__" = some (some (.builtin "getset_descriptor.__get__")))
    (y16 : PySem.W.takesIn K (.builtin "object.__class__") = some true)
    (y17 : PySem.W.mroIn K CNought (.type "object") = some true)
    : ∃ fd : FuncData, (∀ (s : Shared) (v : Value), BindsTo s fd ⟨[v], []⟩ [("script", v)]) ∧ ∀ base : Heap, K.In base → base.Ns mainGlobals mg → FnOk l.prog w K mg base CX0 13 fa fd ["script"] (spLaw K) := by
  have e := hfa.symm.trans (PySem.W.mg_of X G a60)
  cases e
  have T : Txt mg := ⟨PySem.W.mg_none_of X G z1, PySem.W.mg_none_of X G z2, PySem.W.mg_none_of X G z3, PySem.W.mg_none_of X G z4, PySem.W.mg_none_of X G z5, PySem.W.mg_none_of X G z6, PySem.W.mg_none_of X G z7, PySem.W.mg_none_of X G z8, PySem.W.mg_none_of X G z9, PySem.W.mg_none_of X G z10, PySem.W.mg_none_of X G z11, PySem.W.mg_none_of X G z12, PySem.W.mg_of X G z13⟩
  have CT : Cons K mg aZERO aONE := ⟨PySem.W.mg_of X G u0, fun H => .inr ⟨_, _, _, w0, rfl, rfl, by show 2 ≤ sizeLine; decide, (.cons ⟨_, rfl⟩ (.cons ⟨_, rfl⟩ .nil))⟩, PySem.W.mg_of X G u1, fun H => .inr ⟨_, _, _, w1, rfl, rfl, by show 2 ≤ sizeLine; decide, (.cons ⟨_, rfl⟩ (.cons ⟨_, rfl⟩ .nil))⟩⟩
  have EX : Exns K mg CPartError CNought := ⟨PySem.W.mg_of X G y0, PySem.W.mg_of X G y1, y2, y3, y4, y5, y6, y7, y8, y9, y10, y11, y12, y13, y14, y15, y16, y17⟩
  have F1 := fun_mk (st := sCommon) l1 c1 k1
  have F2 : FunD K "fraction" "fraction" (defArgs sFraction) (defBody sFraction) (defScope sFraction) [.int 1] [] f2 _ := ⟨⟨oc2, od2, .ref T2, kV2, dc2, pm2, an2, cd2, ct2, sl2, rfl, l2, c2, .inr ⟨by decide, T2, _, [.int 1 tT2], nT2, rfl, lT2, rfl, .cons ⟨_, rfl⟩ .nil⟩, .inl rfl⟩, k2⟩
  have F3 := fun_mk (st := sPlus) l3 c3 k3
  have F4 := fun_mk (st := sMinus) l4 c4 k4
  have F5 := fun_mk (st := sTimes) l5 c5 k5
  have F6 := fun_mk (st := sOver) l6 c6 k6
  have F7 := fun_mk (st := sNegative) l7 c7 k7
  have F8 := fun_mk (st := sAdd) l8 c8 k8
  have F9 := fun_mk (st := sSubtract) l9 c9 k9
  have F10 := fun_mk (st := sScale) l10 c10 k10
  have F11 := fun_mk (st := sJoinedParts) l11 c11 k11
  have F12 := fun_mk (st := sInner) l12 c12 k12
  have F13 := fun_mk (st := sOuter) l13 c13 k13
  have F14 := fun_mk (st := sCleared) l14 c14 k14
  have F15 := fun_mk (st := sMarked) l15 c15 k15
  have F16 := fun_mk (st := sLeadOf) l16 c16 k16
  have F17 := fun_mk (st := sSettleRows) l17 c17 k17
  have F18 := fun_mk (st := sWorthTold) l18 c18 k18
  have F19 := fun_mk (st := sPartsOf) l19 c19 k19
  have F20 := fun_mk (st := sRowOf) l20 c20 k20
  have F21 := fun_mk (st := sThroughRow) l21 c21 k21
  have F22 := fun_mk (st := sRatio) l22 c22 k22
  have F23 := fun_mk (st := sApartRow) l23 c23 k23
  have F24 := fun_mk (st := sCornerShares) l24 c24 k24
  have F25 := fun_mk (st := sAtRow) l25 c25 k25
  have F26 := fun_mk (st := sBetweenRow) l26 c26 k26
  have F27 := fun_mk (st := sDimensionRow) l27 c27 k27
  have F28 := fun_mk (st := sSolveSketch) l28 c28 k28
  have F29 := fun_mk (st := sDot) l29 c29 k29
  have F30 := fun_mk (st := sCross) l30 c30 k30
  have F31 := fun_mk (st := sVolume) l31 c31 k31
  have F32 := fun_mk (st := sPrimitive) l32 c32 k32
  have F33 := fun_mk (st := sSpread) l33 c33 k33
  have F34 := fun_mk (st := sSideOf) l34 c34 k34
  have F35 := fun_mk (st := sLineSide) l35 c35 k35
  have F36 := fun_mk (st := sEndSide) l36 c36 k36
  have F37 := fun_mk (st := sAreaTest) l37 c37 k37
  have F38 := fun_mk (st := sOppositeSide) l38 c38 k38
  have F39 := fun_mk (st := sToolBetween) l39 c39 k39
  have F40 := fun_mk (st := sSketchTool) l40 c40 k40
  have F41 := fun_mk (st := sLLawNumber) l41 c41 k41
  have F42 := fun_mk (st := sLLawFraction) l42 c42 k42
  have F43 := fun_mk (st := sLLawSum) l43 c43 k43
  have F44 := fun_mk (st := sLLawTimes) l44 c44 k44
  have F45 := fun_mk (st := sLLawDot) l45 c45 k45
  have F46 := fun_mk (st := sLLawAt) l46 c46 k46
  have F47 := fun_mk (st := sLLawSide) l47 c47 k47
  have F48 := fun_mk (st := sLLawTest) l48 c48 k48
  have F49 := fun_mk (st := sLLawIn) l49 c49 k49
  have F50 := fun_mk (st := sLLawShared) l50 c50 k50
  have F51 := fun_mk (st := sLLawCanonical) l51 c51 k51
  have F52 := fun_mk (st := sLLawVolume) l52 c52 k52
  have F53 := fun_mk (st := sLLawFrame) l53 c53 k53
  have F54 := fun_mk (st := sLLawValue) l54 c54 k54
  have F55 := fun_mk (st := sLLawLow) l55 c55 k55
  have F56 := fun_mk (st := sLLawArea) l56 c56 k56
  have F57 := fun_mk (st := sLLawAreaHolds) l57 c57 k57
  have F58 := fun_mk (st := sLLawPoint) l58 c58 k58
  have F59 := fun_mk (st := sLLawGood) l59 c59 k59
  have F60 := fun_mk (st := sLaw) l60 c60 k60
  have b1 := F1.binds (ps := ["a", "b"]) fun _ _ _ _ _ _ us hl => match us, hl with | [_, _], _ => rfl
  obtain ⟨e2, ve2, b2⟩ := F2.binds1 (ps := ["number", "divisor"]) 2 1 (by decide) rfl (fun T kV doc pm an cdv ct us its hu hi => match us, its, hu, hi with | [_, _], [_], _, _ => ⟨_, rfl, by kernel_rfl⟩)
  cases ve2
  obtain ⟨d2, vd2, bd2⟩ := F2.binds1 (ps := ["number", "divisor"]) 1 0 (by decide) rfl (fun T kV doc pm an cdv ct us its hu hi => match us, its, hu, hi with | [_], [_], _, _ => ⟨_, rfl, by kernel_rfl⟩)
  have b3 := F3.binds (ps := ["a", "b"]) fun _ _ _ _ _ _ us hl => match us, hl with | [_, _], _ => rfl
  have b4 := F4.binds (ps := ["a", "b"]) fun _ _ _ _ _ _ us hl => match us, hl with | [_, _], _ => rfl
  have b5 := F5.binds (ps := ["a", "b"]) fun _ _ _ _ _ _ us hl => match us, hl with | [_, _], _ => rfl
  have b6 := F6.binds (ps := ["a", "b"]) fun _ _ _ _ _ _ us hl => match us, hl with | [_, _], _ => rfl
  have b7 := F7.binds (ps := ["a"]) fun _ _ _ _ _ _ us hl => match us, hl with | [_], _ => rfl
  have b8 := F8.binds (ps := ["a", "b"]) fun _ _ _ _ _ _ us hl => match us, hl with | [_, _], _ => rfl
  have b9 := F9.binds (ps := ["a", "b"]) fun _ _ _ _ _ _ us hl => match us, hl with | [_, _], _ => rfl
  have b10 := F10.binds (ps := ["factor", "a"]) fun _ _ _ _ _ _ us hl => match us, hl with | [_, _], _ => rfl
  have b11 := F11.binds (ps := ["area"]) fun _ _ _ _ _ _ us hl => match us, hl with | [_], _ => rfl
  have b12 := F12.binds (ps := ["a", "b"]) fun _ _ _ _ _ _ us hl => match us, hl with | [_, _], _ => rfl
  have b13 := F13.binds (ps := ["a", "b"]) fun _ _ _ _ _ _ us hl => match us, hl with | [_, _], _ => rfl
  have b14 := F14.binds (ps := ["row", "at", "base"]) fun _ _ _ _ _ _ us hl => match us, hl with | [_, _, _], _ => rfl
  have b15 := F15.binds (ps := ["row", "at", "many"]) fun _ _ _ _ _ _ us hl => match us, hl with | [_, _, _], _ => rfl
  have b16 := F16.binds (ps := ["row", "many"]) fun _ _ _ _ _ _ us hl => match us, hl with | [_, _], _ => rfl
  have b17 := F17.binds (ps := ["rows", "many"]) fun _ _ _ _ _ _ us hl => match us, hl with | [_, _], _ => rfl
  have b18 := F18.binds (ps := ["kept", "at", "many"]) fun _ _ _ _ _ _ us hl => match us, hl with | [_, _, _], _ => rfl
  have b19 := F19.binds (ps := ["found"]) fun _ _ _ _ _ _ us hl => match us, hl with | [_], _ => rfl
  have b20 := F20.binds (ps := ["many", "shares", "found"]) fun _ _ _ _ _ _ us hl => match us, hl with | [_, _, _], _ => rfl
  have b21 := F21.binds (ps := ["lines", "at"]) fun _ _ _ _ _ _ us hl => match us, hl with | [_, _], _ => rfl
  have b22 := F22.binds (ps := ["pair", "other"]) fun _ _ _ _ _ _ us hl => match us, hl with | [_, _], _ => rfl
  have b23 := F23.binds (ps := ["lines", "dimension"]) fun _ _ _ _ _ _ us hl => match us, hl with | [_, _], _ => rfl
  have b24 := F24.binds (ps := ["lines", "first", "second", "axis"]) fun _ _ _ _ _ _ us hl => match us, hl with | [_, _, _, _], _ => rfl
  have b25 := F25.binds (ps := ["lines", "dimension"]) fun _ _ _ _ _ _ us hl => match us, hl with | [_, _], _ => rfl
  have b26 := F26.binds (ps := ["lines", "dimension"]) fun _ _ _ _ _ _ us hl => match us, hl with | [_, _], _ => rfl
  have b27 := F27.binds (ps := ["lines", "dimension"]) fun _ _ _ _ _ _ us hl => match us, hl with | [_, _], _ => rfl
  have b28 := F28.binds (ps := ["lines", "dimensions"]) fun _ _ _ _ _ _ us hl => match us, hl with | [_, _], _ => rfl
  have b29 := F29.binds (ps := ["a", "b"]) fun _ _ _ _ _ _ us hl => match us, hl with | [_, _], _ => rfl
  have b30 := F30.binds (ps := ["a", "b"]) fun _ _ _ _ _ _ us hl => match us, hl with | [_, _], _ => rfl
  have b31 := F31.binds (ps := ["a", "b", "c"]) fun _ _ _ _ _ _ us hl => match us, hl with | [_, _, _], _ => rfl
  have b32 := F32.binds (ps := ["a"]) fun _ _ _ _ _ _ us hl => match us, hl with | [_], _ => rfl
  have b33 := F33.binds (ps := ["normal", "point"]) fun _ _ _ _ _ _ us hl => match us, hl with | [_, _], _ => rfl
  have b34 := F34.binds (ps := ["origin", "direction", "offset", "above"]) fun _ _ _ _ _ _ us hl => match us, hl with | [_, _, _, _], _ => rfl
  have b35 := F35.binds (ps := ["number", "feature", "base", "at", "offset"]) fun _ _ _ _ _ _ us hl => match us, hl with | [_, _, _, _, _], _ => rfl
  have b36 := F36.binds (ps := ["origin", "feature", "base", "end", "is_named"]) fun _ _ _ _ _ _ us hl => match us, hl with | [_, _, _, _, _], _ => rfl
  have b37 := F37.binds (ps := ["area", "places"]) fun _ _ _ _ _ _ us hl => match us, hl with | [_, _], _ => rfl
  have b38 := F38.binds (ps := ["side"]) fun _ _ _ _ _ _ us hl => match us, hl with | [_], _ => rfl
  have b39 := F39.binds (ps := ["number", "feature", "offsets", "base", "ends"]) fun _ _ _ _ _ _ us hl => match us, hl with | [_, _, _, _, _], _ => rfl
  have b40 := F40.binds (ps := ["number", "feature", "base", "ends"]) fun _ _ _ _ _ _ us hl => match us, hl with | [_, _, _, _], _ => rfl
  have b41 := F41.binds (ps := ["script", "k"]) fun _ _ _ _ _ _ us hl => match us, hl with | [_, _], _ => rfl
  have b42 := F42.binds (ps := ["number", "divisor"]) fun _ _ _ _ _ _ us hl => match us, hl with | [_, _], _ => rfl
  have b43 := F43.binds (ps := ["a", "b"]) fun _ _ _ _ _ _ us hl => match us, hl with | [_, _], _ => rfl
  have b44 := F44.binds (ps := ["a", "b"]) fun _ _ _ _ _ _ us hl => match us, hl with | [_, _], _ => rfl
  have b45 := F45.binds (ps := ["normal", "point"]) fun _ _ _ _ _ _ us hl => match us, hl with | [_, _], _ => rfl
  have b46 := F46.binds (ps := ["found", "w"]) fun _ _ _ _ _ _ us hl => match us, hl with | [_, _], _ => rfl
  have b47 := F47.binds (ps := ["one", "point", "w"]) fun _ _ _ _ _ _ us hl => match us, hl with | [_, _, _], _ => rfl
  have b48 := F48.binds (ps := ["test", "told"]) fun _ _ _ _ _ _ us hl => match us, hl with | [_, _], _ => rfl
  have b49 := F49.binds (ps := ["tool", "point", "w"]) fun _ _ _ _ _ _ us hl => match us, hl with | [_, _, _], _ => rfl
  have b50 := F50.binds (ps := ["a", "b"]) fun _ _ _ _ _ _ us hl => match us, hl with | [_, _], _ => rfl
  have b51 := F51.binds (ps := ["tool"]) fun _ _ _ _ _ _ us hl => match us, hl with | [_], _ => rfl
  have b52 := F52.binds (ps := ["u", "v", "w"]) fun _ _ _ _ _ _ us hl => match us, hl with | [_, _, _], _ => rfl
  have b53 := F53.binds (ps := ["draw"]) fun _ _ _ _ _ _ us hl => match us, hl with | [_], _ => rfl
  have b54 := F54.binds (ps := ["draw"]) fun _ _ _ _ _ _ us hl => match us, hl with | [_], _ => rfl
  have b55 := F55.binds (ps := ["found"]) fun _ _ _ _ _ _ us hl => match us, hl with | [_], _ => rfl
  have b56 := F56.binds (ps := ["many", "draw"]) fun _ _ _ _ _ _ us hl => match us, hl with | [_, _], _ => rfl
  have b57 := F57.binds (ps := ["area", "left"]) fun _ _ _ _ _ _ us hl => match us, hl with | [_, _], _ => rfl
  have b58 := F58.binds (ps := ["frame", "base", "spot", "w"]) fun _ _ _ _ _ _ us hl => match us, hl with | [_, _, _, _], _ => rfl
  have b59 := F59.binds (ps := ["tool", "frame", "base", "lines", "area", "ends", "draw"]) fun _ _ _ _ _ _ us hl => match us, hl with | [_, _, _, _, _, _, _], _ => rfl
  refine ⟨PySem.W.fnOf "law" "law" (defArgs sLaw) (defBody sLaw) (defScope sLaw) .none kV60 dc60 pm60 an60 cd60 ct60, fun s v => .of_eq rfl, fun base _ _ => ?_⟩
  have G1 : FnOk l.prog w K mg base CX0 1 f1 _ ["a", "b"] (spCommon K) := okCommon F1 T CT EX 
  have G2 : FnOk l.prog w K mg base (L2.CX l.prog w) 1 f2 _ ["number", "divisor"] (spFraction K CNought) := okFraction F2 T CT EX 
  have G3 : FnOk l.prog w K mg base CX0 2 f3 _ ["a", "b"] (spPlus K) := okPlus F3 T CT EX G2 (PySem.W.mg_of X G a2) k2 b2 vd2 bd2
  have G4 : FnOk l.prog w K mg base CX0 2 f4 _ ["a", "b"] (spMinus K) := okMinus F4 T CT EX G2 (PySem.W.mg_of X G a2) k2 b2 vd2 bd2
  have G5 : FnOk l.prog w K mg base CX0 2 f5 _ ["a", "b"] (spTimes K) := okTimes F5 T CT EX G2 (PySem.W.mg_of X G a2) k2 b2 vd2 bd2
  have G6 : FnOk l.prog w K mg base CX0 2 f6 _ ["a", "b"] (spOver K) := okOver F6 T CT EX G2 (PySem.W.mg_of X G a2) k2 b2 vd2 bd2
  have G7 : FnOk l.prog w K mg base CX0 1 f7 _ ["a"] (spNegative K) := okNegative F7 T CT EX 
  have G8 : FnOk l.prog w K mg base CX0 3 f8 _ ["a", "b"] (spAdd K) := okAdd F8 T CT EX G3 (PySem.W.mg_of X G a3) k3 b3
  have G9 : FnOk l.prog w K mg base CX0 3 f9 _ ["a", "b"] (spSubtract K) := okSubtract F9 T CT EX G4 (PySem.W.mg_of X G a4) k4 b4
  have G10 : FnOk l.prog w K mg base CX0 3 f10 _ ["factor", "a"] (spScale K) := okScale F10 T CT EX G5 (PySem.W.mg_of X G a5) k5 b5
  have G11 : FnOk l.prog w K mg base CX0 1 f11 _ ["area"] (spJoinedParts K) := okJoinedParts F11 T CT EX 
  have G12 : FnOk l.prog w K mg base CX0 1 f12 _ ["a", "b"] (spInner K) := okInner F12 T CT EX 
  have G13 : FnOk l.prog w K mg base CX0 1 f13 _ ["a", "b"] (spOuter K) := okOuter F13 T CT EX 
  have G14 : FnOk l.prog w K mg base CX0 3 f14 _ ["row", "at", "base"] (spCleared K) := okCleared F14 T CT EX G4 (PySem.W.mg_of X G a4) k4 b4 G5 (PySem.W.mg_of X G a5) k5 b5
  have G15 : FnOk l.prog w K mg base CX0 1 f15 _ ["row", "at", "many"] (spMarked K) := okMarked F15 T CT EX 
  have G16 : FnOk l.prog w K mg base CX0 1 f16 _ ["row", "many"] (spLeadOf K) := okLeadOf F16 T CT EX 
  have G17 : FnOk l.prog w K mg base CX0 4 f17 _ ["rows", "many"] (spSettleRows K) := okSettleRows F17 T CT EX G15 (PySem.W.mg_of X G a15) k15 b15 G16 (PySem.W.mg_of X G a16) k16 b16 G14 (PySem.W.mg_of X G a14) k14 b14 G6 (PySem.W.mg_of X G a6) k6 b6
  have G18 : FnOk l.prog w K mg base CX0 1 f18 _ ["kept", "at", "many"] (spWorthTold K) := okWorthTold F18 T CT EX 
  have G19 : FnOk l.prog w K mg base CX0 1 f19 _ ["found"] (spPartsOf K) := okPartsOf F19 T CT EX 
  have G20 : FnOk l.prog w K mg base CX0 2 f20 _ ["many", "shares", "found"] (spRowOf K) := okRowOf F20 T CT EX G19 (PySem.W.mg_of X G a19) k19 b19
  have G21 : FnOk l.prog w K mg base CX0 4 f21 _ ["lines", "at"] (spThroughRow K) := okThroughRow F21 T CT EX G20 (PySem.W.mg_of X G a20) k20 b20 G9 (PySem.W.mg_of X G a9) k9 b9 G10 (PySem.W.mg_of X G a10) k10 b10 G2 (PySem.W.mg_of X G a2) k2 b2 vd2 bd2
  have G22 : FnOk l.prog w K mg base CX0 2 f22 _ ["pair", "other"] (spRatio K) := okRatio F22 T CT EX G2 (PySem.W.mg_of X G a2) k2 b2 vd2 bd2
  have G23 : FnOk l.prog w K mg base CX0 4 f23 _ ["lines", "dimension"] (spApartRow K) := okApartRow F23 T CT EX G20 (PySem.W.mg_of X G a20) k20 b20 G7 (PySem.W.mg_of X G a7) k7 b7 G10 (PySem.W.mg_of X G a10) k10 b10 G22 (PySem.W.mg_of X G a22) k22 b22 G2 (PySem.W.mg_of X G a2) k2 b2 vd2 bd2
  have G24 : FnOk l.prog w K mg base CX0 2 f24 _ ["lines", "first", "second", "axis"] (spCornerShares K) := okCornerShares F24 T CT EX G2 (PySem.W.mg_of X G a2) k2 b2 vd2 bd2
  have G25 : FnOk l.prog w K mg base CX0 3 f25 _ ["lines", "dimension"] (spAtRow K) := okAtRow F25 T CT EX G20 (PySem.W.mg_of X G a20) k20 b20 G24 (PySem.W.mg_of X G a24) k24 b24
  have G26 : FnOk l.prog w K mg base CX0 3 f26 _ ["lines", "dimension"] (spBetweenRow K) := okBetweenRow F26 T CT EX G24 (PySem.W.mg_of X G a24) k24 b24 G20 (PySem.W.mg_of X G a20) k20 b20 G4 (PySem.W.mg_of X G a4) k4 b4
  have G27 : FnOk l.prog w K mg base CX0 5 f27 _ ["lines", "dimension"] (spDimensionRow K) := okDimensionRow F27 T CT EX G26 (PySem.W.mg_of X G a26) k26 b26 G23 (PySem.W.mg_of X G a23) k23 b23 G25 (PySem.W.mg_of X G a25) k25 b25
  have G28 : FnOk l.prog w K mg base CX0 6 f28 _ ["lines", "dimensions"] (spSolveSketch K) := okSolveSketch F28 T CT EX G17 (PySem.W.mg_of X G a17) k17 b17 G21 (PySem.W.mg_of X G a21) k21 b21 G18 (PySem.W.mg_of X G a18) k18 b18 G27 (PySem.W.mg_of X G a27) k27 b27
  have G29 : FnOk l.prog w K mg base CX0 2 f29 _ ["a", "b"] (spDot K) := okDot F29 T CT EX G12 (PySem.W.mg_of X G a12) k12 b12
  have G30 : FnOk l.prog w K mg base CX0 2 f30 _ ["a", "b"] (spCross K) := okCross F30 T CT EX G13 (PySem.W.mg_of X G a13) k13 b13
  have G31 : FnOk l.prog w K mg base CX0 2 f31 _ ["a", "b", "c"] (spVolume K) := okVolume F31 T CT EX G12 (PySem.W.mg_of X G a12) k12 b12 G13 (PySem.W.mg_of X G a13) k13 b13
  have G32 : FnOk l.prog w K mg base CX0 2 f32 _ ["a"] (spPrimitive K) := okPrimitive F32 T CT EX G1 (PySem.W.mg_of X G a1) k1 b1
  have G33 : FnOk l.prog w K mg base CX0 4 f33 _ ["normal", "point"] (spSpread K) := okSpread F33 T CT EX G8 (PySem.W.mg_of X G a8) k8 b8 G10 (PySem.W.mg_of X G a10) k10 b10 G2 (PySem.W.mg_of X G a2) k2 b2 vd2 bd2
  have G34 : FnOk l.prog w K mg base CX0 4 f34 _ ["origin", "direction", "offset", "above"] (spSideOf K) := okSideOf F34 T CT EX G32 (PySem.W.mg_of X G a32) k32 b32 G10 (PySem.W.mg_of X G a10) k10 b10 G2 (PySem.W.mg_of X G a2) k2 b2 vd2 bd2
  have G35 : FnOk l.prog w K mg base CX0 5 f35 _ ["number", "feature", "base", "at", "offset"] (spLineSide K) := okLineSide F35 T CT EX G31 (PySem.W.mg_of X G a31) k31 b31 G30 (PySem.W.mg_of X G a30) k30 b30 G8 (PySem.W.mg_of X G a8) k8 b8 G34 (PySem.W.mg_of X G a34) k34 b34 G33 (PySem.W.mg_of X G a33) k33 b33 G10 (PySem.W.mg_of X G a10) k10 b10 G2 (PySem.W.mg_of X G a2) k2 b2 vd2 bd2
  have G36 : FnOk l.prog w K mg base CX0 5 f36 _ ["origin", "feature", "base", "end", "is_named"] (spEndSide K) := okEndSide F36 T CT EX G31 (PySem.W.mg_of X G a31) k31 b31 G30 (PySem.W.mg_of X G a30) k30 b30 G8 (PySem.W.mg_of X G a8) k8 b8 G34 (PySem.W.mg_of X G a34) k34 b34 G33 (PySem.W.mg_of X G a33) k33 b33 G10 (PySem.W.mg_of X G a10) k10 b10 G2 (PySem.W.mg_of X G a2) k2 b2 vd2 bd2 G29 (PySem.W.mg_of X G a29) k29 b29
  have R37 := recAreaTest (P := l.prog) (w := w) (base := base) F37 T CT EX G11 (PySem.W.mg_of X G a11) k11 b11 (PySem.W.mg_of X G a37) k37 b37 8
  have G37 : FnOk l.prog w K mg base CX0 10 f37 _ ["area", "places"] (spAreaTest K 8) := R37
  have G38 : FnOk l.prog w K mg base CX0 1 f38 _ ["side"] (spOppositeSide K) := okOppositeSide F38 T CT EX 
  have G39 : FnOk l.prog w K mg base CX0 11 f39 _ ["number", "feature", "offsets", "base", "ends"] (spToolBetween K) := okToolBetween F39 T CT EX G36 (PySem.W.mg_of X G a36) k36 b36 G37 (PySem.W.mg_of X G a37) k37 b37 G35 (PySem.W.mg_of X G a35) k35 b35 G38 (PySem.W.mg_of X G a38) k38 b38
  have G40 : FnOk l.prog w K mg base CX0 12 f40 _ ["number", "feature", "base", "ends"] (spSketchTool K) := okSketchTool F40 T CT EX G28 (PySem.W.mg_of X G a28) k28 b28 G39 (PySem.W.mg_of X G a39) k39 b39
  have G41 : FnOk l.prog w K mg base CX0 1 f41 _ ["script", "k"] (spLLawNumber K) := okLLawNumber F41 T CT EX 
  have G42 : FnOk l.prog w K mg base CX0 1 f42 _ ["number", "divisor"] (spLLawFraction K) := okLLawFraction F42 T CT EX 
  have G43 : FnOk l.prog w K mg base CX0 2 f43 _ ["a", "b"] (spLLawSum K) := okLLawSum F43 T CT EX G42 (PySem.W.mg_of X G a42) k42 b42
  have G44 : FnOk l.prog w K mg base CX0 2 f44 _ ["a", "b"] (spLLawTimes K) := okLLawTimes F44 T CT EX G42 (PySem.W.mg_of X G a42) k42 b42
  have G45 : FnOk l.prog w K mg base CX0 3 f45 _ ["normal", "point"] (spLLawDot K) := okLLawDot F45 T CT EX G43 (PySem.W.mg_of X G a43) k43 b43 G44 (PySem.W.mg_of X G a44) k44 b44
  have G46 : FnOk l.prog w K mg base CX0 3 f46 _ ["found", "w"] (spLLawAt K) := okLLawAt F46 T CT EX G43 (PySem.W.mg_of X G a43) k43 b43 G44 (PySem.W.mg_of X G a44) k44 b44
  have G47 : FnOk l.prog w K mg base CX0 4 f47 _ ["one", "point", "w"] (spLLawSide K) := okLLawSide F47 T CT EX G43 (PySem.W.mg_of X G a43) k43 b43 G45 (PySem.W.mg_of X G a45) k45 b45 G44 (PySem.W.mg_of X G a44) k44 b44 G46 (PySem.W.mg_of X G a46) k46 b46
  have R48 := recLLawTest (P := l.prog) (w := w) (base := base) F48 T CT EX  (PySem.W.mg_of X G a48) k48 b48 9
  have G48 : FnOk l.prog w K mg base CX0 10 f48 _ ["test", "told"] (spLLawTest K 9) := R48
  have G49 : FnOk l.prog w K mg base CX0 11 f49 _ ["tool", "point", "w"] (spLLawIn K) := okLLawIn F49 T CT EX G48 (PySem.W.mg_of X G a48) k48 b48 G47 (PySem.W.mg_of X G a47) k47 b47
  have G50 : FnOk l.prog w K mg base CX0 1 f50 _ ["a", "b"] (spLLawShared K) := okLLawShared F50 T CT EX 
  have G51 : FnOk l.prog w K mg base CX0 2 f51 _ ["tool"] (spLLawCanonical K) := okLLawCanonical F51 T CT EX G50 (PySem.W.mg_of X G a50) k50 b50
  have G52 : FnOk l.prog w K mg base CX0 1 f52 _ ["u", "v", "w"] (spLLawVolume K) := okLLawVolume F52 T CT EX 
  have G53 : FnOk l.prog w K mg base CX0 2 f53 _ ["draw"] (spLLawFrame K) := okLLawFrame F53 T CT EX G52 (PySem.W.mg_of X G a52) k52 b52
  have G54 : FnOk l.prog w K mg base CX0 1 f54 _ ["draw"] (spLLawValue K) := okLLawValue F54 T CT EX 
  have G55 : FnOk l.prog w K mg base CX0 2 f55 _ ["found"] (spLLawLow K) := okLLawLow F55 T CT EX G42 (PySem.W.mg_of X G a42) k42 b42
  have G56 : FnOk l.prog w K mg base CX0 1 f56 _ ["many", "draw"] (spLLawArea K) := okLLawArea F56 T CT EX 
  have R57 := recLLawAreaHolds (P := l.prog) (w := w) (base := base) F57 T CT EX  (PySem.W.mg_of X G a57) k57 b57 8
  have G57 : FnOk l.prog w K mg base CX0 9 f57 _ ["area", "left"] (spLLawAreaHolds K 8) := R57
  have G58 : FnOk l.prog w K mg base CX0 4 f58 _ ["frame", "base", "spot", "w"] (spLLawPoint K) := okLLawPoint F58 T CT EX G46 (PySem.W.mg_of X G a46) k46 b46 G43 (PySem.W.mg_of X G a43) k43 b43 G44 (PySem.W.mg_of X G a44) k44 b44
  have G59 : FnOk l.prog w K mg base CX0 12 f59 _ ["tool", "frame", "base", "lines", "area", "ends", "draw"] (spLLawGood K) := okLLawGood F59 T CT EX G42 (PySem.W.mg_of X G a42) k42 b42 G46 (PySem.W.mg_of X G a46) k46 b46 G43 (PySem.W.mg_of X G a43) k43 b43 G57 (PySem.W.mg_of X G a57) k57 b57 G49 (PySem.W.mg_of X G a49) k49 b49 G44 (PySem.W.mg_of X G a44) k44 b44 G58 (PySem.W.mg_of X G a58) k58 b58
  exact okLaw F60 T CT EX G41 (PySem.W.mg_of X G a41) k41 b41 G53 (PySem.W.mg_of X G a53) k53 b53 G56 (PySem.W.mg_of X G a56) k56 b56 G40 (PySem.W.mg_of X G a40) k40 b40 G55 (PySem.W.mg_of X G a55) k55 b55 G54 (PySem.W.mg_of X G a54) k54 b54 G51 (PySem.W.mg_of X G a51) k51 b51 G59 (PySem.W.mg_of X G a59) k59 b59
end Tp
open PySem PySem.W PyProof.Rows
set_option maxHeartbeats 0 in
theorem PySem.Challenge.cw_truepart_k32_sketches_in_space_holds : PySem.Challenge.rw_truepart_k32_sketches_in_space.Holds := by
  w_on; o_law; k_head; (case hw => w_witness2)
  k_fill
  refine L2.walk_of (l := PySem.Challenge.rw_truepart_k32_sketches_in_space) (n := 63) (k := 13) (x := "script") (CX := fun _ => L2.CX0) (sp := fun w => Tp.spLaw _) rfl (by decide) rfl ⟨rfl, by decide, by decide⟩ (fun w h Y => PySem.W.kIn_of Y) ?F (fun _ _ a ns hl _ hS => ⟨a, ns, rfl, hS, hl, fun _ => rfl⟩) (fun _ _ _ _ _ h => h)
  case F =>
    intro w mg fa h KX G hmg
    refine' Tp.all_mk KX G hmg ?a1 ?l1 ?c1 ?k1 ?a2 ?l2 ?lT2 ?c2 ?k2 ?a3 ?l3 ?c3 ?k3 ?a4 ?l4 ?c4 ?k4 ?a5 ?l5 ?c5 ?k5 ?a6 ?l6 ?c6 ?k6 ?a7 ?l7 ?c7 ?k7 ?a8 ?l8 ?c8 ?k8 ?a9 ?l9 ?c9 ?k9 ?a10 ?l10 ?c10 ?k10 ?a11 ?l11 ?c11 ?k11 ?a12 ?l12 ?c12 ?k12 ?a13 ?l13 ?c13 ?k13 ?a14 ?l14 ?c14 ?k14 ?a15 ?l15 ?c15 ?k15 ?a16 ?l16 ?c16 ?k16 ?a17 ?l17 ?c17 ?k17 ?a18 ?l18 ?c18 ?k18 ?a19 ?l19 ?c19 ?k19 ?a20 ?l20 ?c20 ?k20 ?a21 ?l21 ?c21 ?k21 ?a22 ?l22 ?c22 ?k22 ?a23 ?l23 ?c23 ?k23 ?a24 ?l24 ?c24 ?k24 ?a25 ?l25 ?c25 ?k25 ?a26 ?l26 ?c26 ?k26 ?a27 ?l27 ?c27 ?k27 ?a28 ?l28 ?c28 ?k28 ?a29 ?l29 ?c29 ?k29 ?a30 ?l30 ?c30 ?k30 ?a31 ?l31 ?c31 ?k31 ?a32 ?l32 ?c32 ?k32 ?a33 ?l33 ?c33 ?k33 ?a34 ?l34 ?c34 ?k34 ?a35 ?l35 ?c35 ?k35 ?a36 ?l36 ?c36 ?k36 ?a37 ?l37 ?c37 ?k37 ?a38 ?l38 ?c38 ?k38 ?a39 ?l39 ?c39 ?k39 ?a40 ?l40 ?c40 ?k40 ?a41 ?l41 ?c41 ?k41 ?a42 ?l42 ?c42 ?k42 ?a43 ?l43 ?c43 ?k43 ?a44 ?l44 ?c44 ?k44 ?a45 ?l45 ?c45 ?k45 ?a46 ?l46 ?c46 ?k46 ?a47 ?l47 ?c47 ?k47 ?a48 ?l48 ?c48 ?k48 ?a49 ?l49 ?c49 ?k49 ?a50 ?l50 ?c50 ?k50 ?a51 ?l51 ?c51 ?k51 ?a52 ?l52 ?c52 ?k52 ?a53 ?l53 ?c53 ?k53 ?a54 ?l54 ?c54 ?k54 ?a55 ?l55 ?c55 ?k55 ?a56 ?l56 ?c56 ?k56 ?a57 ?l57 ?c57 ?k57 ?a58 ?l58 ?c58 ?k58 ?a59 ?l59 ?c59 ?k59 ?a60 ?l60 ?c60 ?k60 ?z1 ?z2 ?z3 ?z4 ?z5 ?z6 ?z7 ?z8 ?z9 ?z10 ?z11 ?z12 ?z13 ?u0 ?w0 ?u1 ?w1 ?y0 ?y1 ?y2 ?y3 ?y4 ?y5 ?y6 ?y7 ?y8 ?y9 ?y10 ?y11 ?y12 ?y13 ?y14 ?y15 ?y16 ?y17
    (case a1 => k_is)
    (case l1 => k_is)
    (case c1 => k_is)
    (case k1 => k_is)
    (case a2 => k_is)
    (case l2 => k_is)
    (case lT2 => k_is)
    (case c2 => k_is)
    (case k2 => k_is)
    (case a3 => k_is)
    (case l3 => k_is)
    (case c3 => k_is)
    (case k3 => k_is)
    (case a4 => k_is)
    (case l4 => k_is)
    (case c4 => k_is)
    (case k4 => k_is)
    (case a5 => k_is)
    (case l5 => k_is)
    (case c5 => k_is)
    (case k5 => k_is)
    (case a6 => k_is)
    (case l6 => k_is)
    (case c6 => k_is)
    (case k6 => k_is)
    (case a7 => k_is)
    (case l7 => k_is)
    (case c7 => k_is)
    (case k7 => k_is)
    (case a8 => k_is)
    (case l8 => k_is)
    (case c8 => k_is)
    (case k8 => k_is)
    (case a9 => k_is)
    (case l9 => k_is)
    (case c9 => k_is)
    (case k9 => k_is)
    (case a10 => k_is)
    (case l10 => k_is)
    (case c10 => k_is)
    (case k10 => k_is)
    (case a11 => k_is)
    (case l11 => k_is)
    (case c11 => k_is)
    (case k11 => k_is)
    (case a12 => k_is)
    (case l12 => k_is)
    (case c12 => k_is)
    (case k12 => k_is)
    (case a13 => k_is)
    (case l13 => k_is)
    (case c13 => k_is)
    (case k13 => k_is)
    (case a14 => k_is)
    (case l14 => k_is)
    (case c14 => k_is)
    (case k14 => k_is)
    (case a15 => k_is)
    (case l15 => k_is)
    (case c15 => k_is)
    (case k15 => k_is)
    (case a16 => k_is)
    (case l16 => k_is)
    (case c16 => k_is)
    (case k16 => k_is)
    (case a17 => k_is)
    (case l17 => k_is)
    (case c17 => k_is)
    (case k17 => k_is)
    (case a18 => k_is)
    (case l18 => k_is)
    (case c18 => k_is)
    (case k18 => k_is)
    (case a19 => k_is)
    (case l19 => k_is)
    (case c19 => k_is)
    (case k19 => k_is)
    (case a20 => k_is)
    (case l20 => k_is)
    (case c20 => k_is)
    (case k20 => k_is)
    (case a21 => k_is)
    (case l21 => k_is)
    (case c21 => k_is)
    (case k21 => k_is)
    (case a22 => k_is)
    (case l22 => k_is)
    (case c22 => k_is)
    (case k22 => k_is)
    (case a23 => k_is)
    (case l23 => k_is)
    (case c23 => k_is)
    (case k23 => k_is)
    (case a24 => k_is)
    (case l24 => k_is)
    (case c24 => k_is)
    (case k24 => k_is)
    (case a25 => k_is)
    (case l25 => k_is)
    (case c25 => k_is)
    (case k25 => k_is)
    (case a26 => k_is)
    (case l26 => k_is)
    (case c26 => k_is)
    (case k26 => k_is)
    (case a27 => k_is)
    (case l27 => k_is)
    (case c27 => k_is)
    (case k27 => k_is)
    (case a28 => k_is)
    (case l28 => k_is)
    (case c28 => k_is)
    (case k28 => k_is)
    (case a29 => k_is)
    (case l29 => k_is)
    (case c29 => k_is)
    (case k29 => k_is)
    (case a30 => k_is)
    (case l30 => k_is)
    (case c30 => k_is)
    (case k30 => k_is)
    (case a31 => k_is)
    (case l31 => k_is)
    (case c31 => k_is)
    (case k31 => k_is)
    (case a32 => k_is)
    (case l32 => k_is)
    (case c32 => k_is)
    (case k32 => k_is)
    (case a33 => k_is)
    (case l33 => k_is)
    (case c33 => k_is)
    (case k33 => k_is)
    (case a34 => k_is)
    (case l34 => k_is)
    (case c34 => k_is)
    (case k34 => k_is)
    (case a35 => k_is)
    (case l35 => k_is)
    (case c35 => k_is)
    (case k35 => k_is)
    (case a36 => k_is)
    (case l36 => k_is)
    (case c36 => k_is)
    (case k36 => k_is)
    (case a37 => k_is)
    (case l37 => k_is)
    (case c37 => k_is)
    (case k37 => k_is)
    (case a38 => k_is)
    (case l38 => k_is)
    (case c38 => k_is)
    (case k38 => k_is)
    (case a39 => k_is)
    (case l39 => k_is)
    (case c39 => k_is)
    (case k39 => k_is)
    (case a40 => k_is)
    (case l40 => k_is)
    (case c40 => k_is)
    (case k40 => k_is)
    (case a41 => k_is)
    (case l41 => k_is)
    (case c41 => k_is)
    (case k41 => k_is)
    (case a42 => k_is)
    (case l42 => k_is)
    (case c42 => k_is)
    (case k42 => k_is)
    (case a43 => k_is)
    (case l43 => k_is)
    (case c43 => k_is)
    (case k43 => k_is)
    (case a44 => k_is)
    (case l44 => k_is)
    (case c44 => k_is)
    (case k44 => k_is)
    (case a45 => k_is)
    (case l45 => k_is)
    (case c45 => k_is)
    (case k45 => k_is)
    (case a46 => k_is)
    (case l46 => k_is)
    (case c46 => k_is)
    (case k46 => k_is)
    (case a47 => k_is)
    (case l47 => k_is)
    (case c47 => k_is)
    (case k47 => k_is)
    (case a48 => k_is)
    (case l48 => k_is)
    (case c48 => k_is)
    (case k48 => k_is)
    (case a49 => k_is)
    (case l49 => k_is)
    (case c49 => k_is)
    (case k49 => k_is)
    (case a50 => k_is)
    (case l50 => k_is)
    (case c50 => k_is)
    (case k50 => k_is)
    (case a51 => k_is)
    (case l51 => k_is)
    (case c51 => k_is)
    (case k51 => k_is)
    (case a52 => k_is)
    (case l52 => k_is)
    (case c52 => k_is)
    (case k52 => k_is)
    (case a53 => k_is)
    (case l53 => k_is)
    (case c53 => k_is)
    (case k53 => k_is)
    (case a54 => k_is)
    (case l54 => k_is)
    (case c54 => k_is)
    (case k54 => k_is)
    (case a55 => k_is)
    (case l55 => k_is)
    (case c55 => k_is)
    (case k55 => k_is)
    (case a56 => k_is)
    (case l56 => k_is)
    (case c56 => k_is)
    (case k56 => k_is)
    (case a57 => k_is)
    (case l57 => k_is)
    (case c57 => k_is)
    (case k57 => k_is)
    (case a58 => k_is)
    (case l58 => k_is)
    (case c58 => k_is)
    (case k58 => k_is)
    (case a59 => k_is)
    (case l59 => k_is)
    (case c59 => k_is)
    (case k59 => k_is)
    (case a60 => k_is)
    (case l60 => k_is)
    (case c60 => k_is)
    (case k60 => k_is)
    (case z1 => k_is)
    (case z2 => k_is)
    (case z3 => k_is)
    (case z4 => k_is)
    (case z5 => k_is)
    (case z6 => k_is)
    (case z7 => k_is)
    (case z8 => k_is)
    (case z9 => k_is)
    (case z10 => k_is)
    (case z11 => k_is)
    (case z12 => k_is)
    (case z13 => k_is)
    (case u0 => k_is)
    (case w0 => k_is)
    (case u1 => k_is)
    (case w1 => k_is)
    (case y0 => k_is)
    (case y1 => k_is)
    (case y2 => k_exc)
    (case y3 => k_is)
    (case y4 => k_is)
    (case y5 => k_is)
    (case y6 => k_is)
    (case y7 => k_is)
    (case y8 => k_is)
    (case y9 => k_is)
    (case y10 => first | k_is | rfl)
    (case y11 => k_is)
    (case y12 => k_is)
    (case y13 => k_is)
    (case y14 => k_is)
    (case y15 => k_is)
    (case y16 => k_is)
    (case y17 => k_is)
#print axioms PySem.Challenge.cw_truepart_k32_sketches_in_space_holds
