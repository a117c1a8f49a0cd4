import PyProof.Rows.All
import Wide.All
import OpenK.AllK
import Wide.FinOn
import HandS.ForMost
import HandS.Codes
import HandS.Gcd
import HandS.IsInst
import HandS.Wide
import HandS.ForExc
import HandS.ExcIs
import HandS.CallSlots
import HandS.Defaults
import HandS.TupMul
import HandS.Star
import HandS.Walk
import HandS.Style
import HandS.More
import HandS.DictComp
import HandS.RevRange
import PyProof.StrOps2
import KE.KUnpackStar
import KE.GoesMore
import KE.KTurns
import KE.KeyNested
import KE.GoesEnum
import KE.SortData
import KE.DatumOrd
import HandS.SortKw
import HandS.Sort
import HandS.SortInts
import HandS.Conv
import HandS.RevRange
import HandS.Dict
import PyProof.TupleOfSeq
import PySem.Challenge.RW_truepart_k40_areas_of_polygons
set_option Elab.async false
set_option linter.all false
set_option maxHeartbeats 8000000
set_option maxRecDepth 100000
namespace Tp
open PySem L2
def top (i : Nat) : Stmt := PySem.Challenge.pw_truepart_k40_areas_of_polygons.main.body.getD i (.Pass ⟨0, 0, 0, 0⟩)
abbrev sFraction : Stmt := top 6
abbrev sPlus : Stmt := top 7
abbrev sMinus : Stmt := top 8
abbrev sOver : Stmt := top 9
abbrev sInner : Stmt := top 11
abbrev sReachRatio : Stmt := top 12
abbrev sReach : Stmt := top 13
abbrev sScaleFor : Stmt := top 15
abbrev sScaleForPoints : Stmt := top 16
abbrev sRank : Stmt := top 17
abbrev sPointRank : Stmt := top 18
abbrev sInOrder : Stmt := top 20
abbrev sOnOneDivisor : Stmt := top 22
abbrev sTurn : Stmt := top 23
abbrev sAround : Stmt := top 24
abbrev sPolygonArea : Stmt := top 25
abbrev sAreaOf : Stmt := top 26
abbrev sLengthOf : Stmt := top 27
abbrev sLLawIsInteger : Stmt := top 29
abbrev sLLawCell : Stmt := top 30
abbrev sLLawRow : Stmt := top 31
abbrev sLLawFraction : Stmt := top 32
abbrev sLLawPlus : Stmt := top 33
abbrev sLLawTimes : Stmt := top 34
abbrev sLLawIsFraction : Stmt := top 36
abbrev sLLawDirection : Stmt := top 39
abbrev sLLawCommon : Stmt := top 40
abbrev sLLawCanonical : Stmt := top 41
abbrev sLLawMoved : Stmt := top 42
abbrev sLLawTurned : Stmt := top 43
abbrev sLaw : Stmt := top 44
theorem scFraction : FnScope ["number", "divisor", "shared"] ["number", "divisor"] (defScope sFraction) := ⟨rfl, rfl, rfl, by decide +kernel, rfl, by decide +kernel, by decide +kernel⟩
theorem scPlus : FnScope ["a", "b"] ["a", "b"] (defScope sPlus) := ⟨rfl, rfl, rfl, by decide +kernel, rfl, by decide +kernel, by decide +kernel⟩
theorem scMinus : FnScope ["a", "b"] ["a", "b"] (defScope sMinus) := ⟨rfl, rfl, rfl, by decide +kernel, rfl, by decide +kernel, by decide +kernel⟩
theorem scOver : FnScope ["a", "b"] ["a", "b"] (defScope sOver) := ⟨rfl, rfl, rfl, by decide +kernel, rfl, by decide +kernel, by decide +kernel⟩
theorem scInner : FnScope ["a", "b"] ["a", "b"] (defScope sInner) := ⟨rfl, rfl, rfl, by decide +kernel, rfl, by decide +kernel, by decide +kernel⟩
theorem scReachRatio : FnScope ["normal", "point", "x", "under_x", "y", "under_y", "z", "under_z", "number"] ["normal", "point"] (defScope sReachRatio) := ⟨rfl, rfl, rfl, by decide +kernel, rfl, by decide +kernel, by decide +kernel⟩
theorem scReach : FnScope ["normal", "point", "number", "divisor"] ["normal", "point"] (defScope sReach) := ⟨rfl, rfl, rfl, by decide +kernel, rfl, by decide +kernel, by decide +kernel⟩
theorem scScaleFor : FnScope ["parts", "most", "part"] ["parts"] (defScope sScaleFor) := ⟨rfl, rfl, rfl, by decide +kernel, rfl, by decide +kernel, by decide +kernel⟩
theorem scScaleForPoints : FnScope ["points", "point", "part"] ["points"] (defScope sScaleForPoints) := ⟨rfl, rfl, rfl, by decide +kernel, rfl, by decide +kernel, by decide +kernel⟩
theorem scRank : FnScope ["part", "scale"] ["part", "scale"] (defScope sRank) := ⟨rfl, rfl, rfl, by decide +kernel, rfl, by decide +kernel, by decide +kernel⟩
theorem scPointRank : FnScope ["point", "scale", "part"] ["point", "scale"] (defScope sPointRank) := ⟨rfl, rfl, rfl, by decide +kernel, rfl, by decide +kernel, by decide +kernel⟩
theorem scInOrder : FnScope ["points", "found", "scale", "point", "row"] ["points"] (defScope sInOrder) := ⟨rfl, rfl, rfl, by decide +kernel, rfl, by decide +kernel, by decide +kernel⟩
theorem scOnOneDivisor : FnScope ["points", "shared", "point", "part"] ["points"] (defScope sOnOneDivisor) := ⟨rfl, rfl, rfl, by decide +kernel, rfl, by decide +kernel, by decide +kernel⟩
theorem scTurn : FnScope ["a", "b", "c"] ["a", "b", "c"] (defScope sTurn) := ⟨rfl, rfl, rfl, by decide +kernel, rfl, by decide +kernel, by decide +kernel⟩
theorem scAround : FnScope ["corners", "first", "last", "between", "right", "left", "corner"] ["corners"] (defScope sAround) := ⟨rfl, rfl, rfl, by decide +kernel, rfl, by decide +kernel, by decide +kernel⟩
theorem scPolygonArea : FnScope ["corners", "normal", "triples", "divisor", "axis", "shadow", "twice", "k", "triple", "a", "b"] ["corners", "normal"] (defScope sPolygonArea) := ⟨rfl, rfl, rfl, by decide +kernel, rfl, by decide +kernel, by decide +kernel⟩
theorem scAreaOf : FnScope ["polygons", "normal", "found", "corners"] ["polygons", "normal"] (defScope sAreaOf) := ⟨rfl, rfl, rfl, by decide +kernel, rfl, by decide +kernel, by decide +kernel⟩
theorem scLengthOf : FnScope ["direction", "start", "end"] ["direction", "start", "end"] (defScope sLengthOf) := ⟨rfl, rfl, rfl, by decide +kernel, rfl, by decide +kernel, by decide +kernel⟩
theorem scLLawIsInteger : FnScope ["actual"] ["actual"] (defScope sLLawIsInteger) := ⟨rfl, rfl, rfl, by decide +kernel, rfl, by decide +kernel, by decide +kernel⟩
theorem scLLawCell : FnScope ["script", "k"] ["script", "k"] (defScope sLLawCell) := ⟨rfl, rfl, rfl, by decide +kernel, rfl, by decide +kernel, by decide +kernel⟩
theorem scLLawRow : FnScope ["cell", "size", "base", "row", "number", "k", "mixed"] ["cell", "size", "base"] (defScope sLLawRow) := ⟨rfl, rfl, rfl, by decide +kernel, rfl, by decide +kernel, by decide +kernel⟩
theorem scLLawFraction : FnScope ["number", "divisor", "a", "b", "k"] ["number", "divisor"] (defScope sLLawFraction) := ⟨rfl, rfl, rfl, by decide +kernel, rfl, by decide +kernel, by decide +kernel⟩
theorem scLLawPlus : FnScope ["a", "b"] ["a", "b"] (defScope sLLawPlus) := ⟨rfl, rfl, rfl, by decide +kernel, rfl, by decide +kernel, by decide +kernel⟩
theorem scLLawTimes : FnScope ["a", "b"] ["a", "b"] (defScope sLLawTimes) := ⟨rfl, rfl, rfl, by decide +kernel, rfl, by decide +kernel, by decide +kernel⟩
theorem scLLawIsFraction : FnScope ["actual"] ["actual"] (defScope sLLawIsFraction) := ⟨rfl, rfl, rfl, by decide +kernel, rfl, by decide +kernel, by decide +kernel⟩
theorem scLLawDirection : FnScope ["cell", "most", "row"] ["cell", "most"] (defScope sLLawDirection) := ⟨rfl, rfl, rfl, by decide +kernel, rfl, by decide +kernel, by decide +kernel⟩
theorem scLLawCommon : FnScope ["row", "found", "one", "a", "b", "k"] ["row"] (defScope sLLawCommon) := ⟨rfl, rfl, rfl, by decide +kernel, rfl, by decide +kernel, by decide +kernel⟩
theorem scLLawCanonical : FnScope ["direction", "by", "first", "part"] ["direction"] (defScope sLLawCanonical) := ⟨rfl, rfl, rfl, by decide +kernel, rfl, by decide +kernel, by decide +kernel⟩
theorem scLLawMoved : FnScope ["point", "direction", "k"] ["point", "direction"] (defScope sLLawMoved) := ⟨rfl, rfl, rfl, by decide +kernel, rfl, by decide +kernel, by decide +kernel⟩
theorem scLLawTurned : FnScope ["points", "draw", "row", "k", "at", "one"] ["points", "draw"] (defScope sLLawTurned) := ⟨rfl, rfl, rfl, by decide +kernel, rfl, by decide +kernel, by decide +kernel⟩
theorem scLaw : FnScope ["script", "first", "second", "draw", "across", "normal", "start", "triangle", "both", "axis", "due", "found", "steps", "stop", "k"] ["script"] (defScope sLaw) := ⟨rfl, rfl, rfl, by decide +kernel, rfl, by decide +kernel, by decide +kernel⟩
structure Txt (mg : Str → Option Value) : Prop where
  abs : mg "abs" = none
  bool : mg "bool" = none
  int : mg "int" = none
  isinstance : mg "isinstance" = none
  len : mg "len" = none
  list : mg "list" = none
  max : mg "max" = none
  range : mg "range" = none
  sorted : mg "sorted" = none
  sum : mg "sum" = none
  tuple : mg "tuple" = none
  zip : mg "zip" = none
  gcd : mg "gcd" = some (.builtin "math.gcd")
  lcm : mg "lcm" = some (.builtin "math.lcm")
structure Cons (K : PySem.W.Frag) (mg : Str → Option Value) (aZERO : Addr) : Prop where
  gZERO : mg "ZERO" = some (.ref aZERO)
  tZERO : ∀ H, SqT K H aZERO ([0, 1].map V.int)
section
variable {K : PySem.W.Frag} {C D : Addr} {c : Value} {r : Bool}
theorem exm_two (b : PySem.W.subIn K (.ref D) (.type "BaseException") = some true) (i : PySem.W.isClsIn K D = true) (t : PySem.W.typeIn K (.ref D) = some (.type "type")) (s : PySem.W.subIn K c (.ref D) = some r) : PySem.W.exmOne K c (.ref D) = some r := by
  have e1 : (PySem.W.subIn K (.ref D) (.type "BaseException") == some true) = true := by rw [b]; rfl
  have i' : (PySem.W.clsIn K D).isSome = true := i
  have e2 : ((PySem.W.clsIn K D).isSome && PySem.W.typeIn K (.ref D) == some (.type "type")) = true := by rw [i', t]; rfl
  unfold PySem.W.exmOne PySem.W.kitCls
  rw [if_pos e1]
  show (if _ then _ else _) = _
  rw [if_pos e2]
  exact s
theorem kit_self : PySem.W.kitOne K (.ref C) (.ref C) = some true := by
  unfold PySem.W.kitOne
  exact if_pos (beq_iff_eq.mpr rfl)
theorem kit_not (s0 : PySem.W.subIn K (.ref C) (.ref C) = some true) (i : PySem.W.isClsIn K D = true) (t : PySem.W.typeIn K (.ref D) = some (.type "type")) (s : PySem.W.subIn K (.ref C) (.ref D) = some false) : PySem.W.kitOne K (.ref C) (.ref D) = some false := by
  have i' : (PySem.W.clsIn K D).isSome = true := i
  have e2 : ((PySem.W.clsIn K D).isSome && PySem.W.typeIn K (.ref D) == some (.type "type")) = true := by rw [i', t]; rfl
  unfold PySem.W.kitOne PySem.W.kitCls
  rw [if_neg (fun z => ?_)]
  · show (if _ then _ else _) = _
    rw [if_pos e2]
    exact s
  · have e := Value.ref.inj (beq_iff_eq.mp z)
    subst e
    rw [s0] at s
    cases s
theorem kit_kind {T : String} (h : PySem.W.kitMeta T = true) (s : PySem.W.subIn K (.ref C) (.type T) = some r) : PySem.W.kitOne K (.ref C) (.type T) = some r := by
  unfold PySem.W.kitOne PySem.W.kitCls
  rw [if_neg (fun z => by have e := beq_iff_eq.mp z; cases e)]
  show (if _ then _ else _) = _
  rw [if_pos h]
  exact s
end

structure Exns (K : PySem.W.Frag) (mg : Str → Option Value) (CPartError CNought : Addr) : Prop where
  gPartError : mg "PartError" = some (.ref CPartError)
  gNought : mg "Nought" = some (.ref CNought)
  xNought : PySem.W.excIn K CNought [.type "ValueError", .type "Exception", .type "BaseException", .type "object"] "ValueError.__new__" = true
  kNought : PySem.W.keepIn K (.ref CNought) = true
  bNought : PySem.W.subIn K (.ref CNought) (.type "BaseException") = some true
  tNought : PySem.W.typeIn K (.ref CNought) = some (.type "type")
  cb : PySem.W.subIn K (.ref CPartError) (.type "BaseException") = some true
  ci : PySem.W.isClsIn K CPartError = true
  ct : PySem.W.typeIn K (.ref CPartError) = some (.type "type")
  cs : PySem.W.subIn K (.ref CNought) (.ref CPartError) = some true
  ss : PySem.W.subIn K (.ref CNought) (.ref CNought) = some true
  i1 : PySem.W.findIn K (.ref CNought) "__getattribute__" = some (some (.builtin "BaseException.__getattribute__"))
  i2 : PySem.W.findIn K (.ref CNought) "__getattr__" = some none
  i3 : PySem.W.hasDictIn K CNought = true
  i4 : PySem.W.findIn K (.ref CNought) "__class__" = some (some (.builtin "object.__class__"))
  i5 : PySem.W.specialIn K (.builtin "object.__class__") "__get__" = some (some (.builtin "getset_descriptor.__get__"))
  i6 : PySem.W.takesIn K (.builtin "object.__class__") = some true
  i7 : PySem.W.mroIn K CNought (.type "object") = some true
theorem Exns.iNought {K : PySem.W.Frag} {mg : Str → Option Value} {CPartError CNought : Addr} (EX : Exns K mg CPartError CNought) : ExcC K CNought := ⟨EX.i1, EX.i2, EX.bNought, EX.i3, EX.i4, EX.i5, EX.i6, EX.i7⟩
theorem Exns.eNought {K : PySem.W.Frag} {mg : Str → Option Value} {CPartError CNought : Addr} (EX : Exns K mg CPartError CNought) : PySem.W.exmOne K (.ref CNought) (.ref CPartError) = some true := exm_two EX.cb EX.ci EX.ct EX.cs
theorem Exns.nNought {K : PySem.W.Frag} {mg : Str → Option Value} {CPartError CNought : Addr} (EX : Exns K mg CPartError CNought) : PySem.W.kitOne K (.ref CNought) (.ref CNought) = some true := kit_self
local macro_rules | `(tactic| walk_at "rd") => `(tactic| repeat (first | refine ⟨_, rfl, ?_⟩ | refine ⟨rfl, ?_⟩ | refine ⟨_, _, rfl, rfl, ?_⟩ | refine Or.inl ⟨_, rfl, ?_⟩ | refine ⟨(by show (0 : Int) < _; decide), ?_⟩ | refine ⟨⟨by decide, by decide⟩, ?_⟩ | refine ⟨Or.inr ⟨by decide, by decide⟩, ?_⟩ | refine ⟨Or.inl ⟨by decide, by decide⟩, ?_⟩ | refine ⟨⟨by decide, by decide, by decide⟩, ?_⟩))
abbrev zs (l : List Int) : List V := l.map V.int
theorem same_upd {H : Hp} {p : Addr} {o : HO} (h : H p = none) : Same H (upd H p o) := fun b x e => by
  rw [upd_ne (ne_of_none e h)]
  exact e
theorem same_tup {K : PySem.W.Frag} {H H' : Hp} {a : Addr} {xs : List V} (e : Same H H') (h : SqT K H a xs) : SqT K H' a xs := by
  rcases h with (h | ⟨o, h⟩) | h
  · exact .inl (.inl (e _ _ h))
  · exact .inl (.inr ⟨o, e _ _ h⟩)
  · exact .inr h
theorem zs_get {l : List Int} {i : Nat} {v : V} (h : (zs l)[i]? = some v) : ∃ z, v = .int z ∧ l[i]? = some z := by
  rw [show zs l = l.map V.int from rfl, List.getElem?_map] at h
  cases e : l[i]? with
  | none =>
    rw [e] at h
    cases h
  | some z =>
    rw [e] at h
    exact ⟨z, (Option.some.inj h).symm, rfl⟩
theorem zs_snoc {l : List Int} {i : Nat} {z : Int} (f : Int → Int) (h : l[i]? = some z) : zs ((l.map f).take i) ++ [V.int (f z)] = zs ((l.map f).take (i + 1)) := by
  show ((l.map f).take i).map V.int ++ [V.int (f z)] = ((l.map f).take (i + 1)).map V.int
  rw [List.take_add_one, List.getElem?_map, h, List.map_append]
  rfl
theorem zs_len {l : List Int} (n : Nat) (h : l.length ≤ 1000) : (zs (l.take n)).length < sizeLine := by
  show ((l.take n).map V.int).length < sizeLine
  rw [List.length_map, List.length_take]
  exact small1000 (by omega)
theorem ne_of_bang {n m : Int} (h : (!decide (V.int n = V.int m)) = true) : n ≠ m := fun e => by
  rw [e, decide_eq_true rfl] at h
  cases h
theorem eq_of_nobang {n m : Int} (h : ¬ (!decide (V.int n = V.int m)) = true) : n = m := by
  by_cases e : n = m
  · exact e
  · exact absurd (by rw [decide_eq_false (fun z => e (V.int.inj z))]; rfl) h
theorem eq_of_dec {n m : Int} (h : decide (V.int n = V.int m) = true) : n = m := V.int.inj (of_decide_eq_true h)
theorem ne_of_nodec {n m : Int} (h : ¬ decide (V.int n = V.int m) = true) : n ≠ m := fun e => h (decide_eq_true (by rw [e]))

/-! Euclid by turns. -/
/-- one turn of the walk (a, b) -> (b, a % b), of naturals -/
theorem gcd_turn (a b : Nat) : Nat.gcd b (a % b) = Nat.gcd a b := by
  rw [Nat.gcd_comm b, ← Nat.gcd_rec, Nat.gcd_comm]
theorem prod_turn {a b : Nat} (h : b ≤ a) (hb : 0 < b) : 2 * (b * (a % b)) ≤ a * b := by
  have h1 : a % b < b := Nat.mod_lt _ hb
  have h2 : a = b * (a / b) + a % b := (Nat.div_add_mod a b).symm
  have h3 : 1 ≤ a / b := (Nat.one_le_div_iff hb).mpr h
  have h4 : b * 1 ≤ b * (a / b) := Nat.mul_le_mul_left b h3
  have h5 : 2 * (a % b) ≤ a := by omega
  calc 2 * (b * (a % b)) = b * (2 * (a % b)) := by rw [Nat.mul_left_comm]
    _ ≤ b * a := Nat.mul_le_mul_left b h5
    _ = a * b := Nat.mul_comm _ _
/-- what holds behind i turns from (a0, b0) -/
structure Eu (a0 b0 i a b : Nat) : Prop where
  g : Nat.gcd a b = Nat.gcd a0 b0
  p : a * b * 2 ^ i ≤ 2 * (a0 * b0)
  o : i = 0 ∨ b ≤ a
  z : i = 0 → a = a0 ∧ b = b0
theorem Eu.start (a b : Nat) : Eu a b 0 a b := ⟨rfl, by rw [Nat.pow_zero]; omega, .inl rfl, fun _ => ⟨rfl, rfl⟩⟩
theorem Eu.turn {a0 b0 i a b : Nat} (e : Eu a0 b0 i a b) (hb : 0 < b) : Eu a0 b0 (i + 1) b (a % b) := by
  refine ⟨(gcd_turn a b).trans e.g, ?_, .inr (Nat.le_of_lt (Nat.mod_lt _ hb)), fun z => by omega⟩
  rcases e.o with hi | hle
  · obtain ⟨rfl, rfl⟩ := e.z hi
    subst hi
    have h1 : b * (a % b) ≤ b * a := Nat.mul_le_mul_left b (Nat.mod_le a b)
    have h2 : b * a = a * b := Nat.mul_comm _ _
    rw [Nat.zero_add, Nat.pow_one]
    omega
  · have h1 := prod_turn hle hb
    have h2 := e.p
    have h3 : b * (a % b) * 2 ^ (i + 1) = 2 * (b * (a % b)) * 2 ^ i := by
      rw [Nat.pow_succ]
      rw [Nat.mul_comm (2 ^ i) 2, ← Nat.mul_assoc, Nat.mul_comm (b * (a % b)) 2]
    rw [h3]
    exact Nat.le_trans (Nat.mul_le_mul_right _ h1) h2
/-- too many turns: nothing is left -/
theorem Eu.stop {a0 b0 i a b : Nat} (e : Eu a0 b0 i a b) (hi : i ≠ 0) (h : 2 * (a0 * b0) < 2 ^ i) : b = 0 := by
  rcases Nat.eq_zero_or_pos b with h0 | h0
  · exact h0
  · have hle : b ≤ a := by
      rcases e.o with h1 | h1
      · exact absurd h1 hi
      · exact h1
    have h1 : 1 ≤ a * b := Nat.mul_pos (by omega) h0
    have h2 : 1 * 2 ^ i ≤ a * b * 2 ^ i := Nat.mul_le_mul_right _ h1
    have h3 := e.p
    omega
theorem Eu.end {a0 b0 i a : Nat} (e : Eu a0 b0 i a 0) : a = Nat.gcd a0 b0 := by
  rw [← e.g, Nat.gcd_zero_right]
/-- the greatest divisor of a row, as it is reckoned from the left -/
def gl (l : List Int) : Nat := l.foldl (fun g v => Nat.gcd v.natAbs g) 0
theorem gl_snoc (l : List Int) (v : Int) : gl (l ++ [v]) = Nat.gcd v.natAbs (gl l) := by
  unfold gl
  rw [List.foldl_append]
  rfl
theorem gl_lt {l : List Int} {v : Int} (h : gl l < 2 ^ 100) (hv : v.natAbs < 2 ^ 100) : gl (l ++ [v]) < 2 ^ 100 := by
  rw [gl_snoc]
  rcases Nat.eq_zero_or_pos v.natAbs with e | e
  · rw [e, Nat.gcd_zero_left]
    exact h
  · exact Nat.lt_of_le_of_lt (Nat.le_of_dvd e (Nat.gcd_dvd_left _ _)) hv
theorem take_snoc {l : List Int} {i : Nat} {z : Int} (h : l[i]? = some z) : l.take (i + 1) = l.take i ++ [z] := by
  rw [List.take_add_one, h]
  rfl
theorem eu_far {a b n : Nat} (hn : 201 ≤ n) (ha : a < 2 ^ 100) (hb : b < 2 ^ 100) : 2 * (a * b) < 2 ^ n := by
  have h1 : a * b < 2 ^ 100 * 2 ^ 100 := Nat.mul_lt_mul'' ha hb
  rw [← Nat.pow_add] at h1
  have h2 : (2 : Nat) * 2 ^ (100 + 100) = 2 ^ 201 := by decide +kernel
  have h3 : (2 : Nat) ^ 201 ≤ 2 ^ n := Nat.pow_le_pow_right (by decide) hn
  omega
theorem fmod_nat (a b : Nat) : (a : Int).fmod (b : Int) = ((a % b : Nat) : Int) := by
  rw [Int.fmod_eq_emod_of_nonneg _ (Int.natCast_nonneg _)]
  exact (Int.natCast_emod a b).symm

/-- // by any divisor other than 0, below 2 ^ 9000 in size -/
def CDivX (_ j : Int) : Prop := j ≠ 0 ∧ j.natAbs.log2 < 9000
theorem op_fdivX {X : Cx} : OpR X (binaryOp .FloorDiv) (rI CDivX fun i j => .int (i.fdiv j)) :=
  opI fun _ _ _ _ _ _ _ hc q =>
    PyProof.Rows.floordiv_int hc.1 q (.inl (PyProof.noPylong_of_log2 hc.2))
theorem wide_divx {i j : Int} {b : Nat} (h : j ≠ 0) (hb : j.natAbs < 2 ^ b) (h0 : 0 < b) (h9 : b ≤ 9000) : CDivX i j :=
  ⟨h, Nat.lt_of_lt_of_le (PySem.Flt.log2_lt_of h0 hb) h9⟩
/-- n noughts -/
def nou (n : Nat) : Str := ⟨(List.replicate n (Str.ofString "0").cps).foldl (· ++ ·) #[]⟩
theorem nou_len {n : Nat} (h : n ≤ 100) : (nou n).length ≤ sizeLine := by
  have : ∀ n : _root_.Fin 101, (nou n.val).length ≤ 100 := by decide +kernel
  have h1 := this ⟨n, by omega⟩
  rw [PySem.sizeLine_eq]
  exact Nat.le_trans h1 (by decide)
theorem op_nou {X : Cx} : OpR X (binaryOp .Mult) (fun x y H Q => ∃ n : Nat, x = .str "0" ∧ y = .int (n : Int) ∧ 1 ≤ n ∧ n ≤ 100 ∧ Q (.str (nou n)) H) := by
  intro pins s σ H x y v u Q I rx ry h
  obtain ⟨n, rfl, rfl, h1, h2, q⟩ := h
  obtain ⟨t, rfl⟩ := rx
  obtain ⟨t', rfl⟩ := ry
  have e1 : ¬ ((n : Int) < 1) := by omega
  have el : (Str.ofString "0").length = 1 := by decide +kernel
  refine PySem.P.mul_str ?_ ?_ ?_ ?_
  · rw [decide_eq_false (by omega), decide_eq_false (by omega)]
    rfl
  · intro _ _
    rw [el]
    have : (2 ^ 63 - 1 : Int) / n ≥ 1 := by
      have : (1 : Int) * n ≤ 2 ^ 63 - 1 := by omega
      exact (Int.le_ediv_iff_mul_le (by omega)).mpr this
    omega
  · intro _ _
    rw [el]
    unfold PySem.Builtin.Str.tooLong
    rw [PySem.sizeLine_eq]
    exact decide_eq_false (by omega)
  · rw [if_neg e1]
    by_cases hn : n = 1
    · subst hn
      have e2 : nou 1 = Str.ofString "0" := by decide +kernel
      rw [e2] at q
      exact ⟨.str (Str.ofString "0"), H, I, ⟨t, rfl⟩, q⟩
    · have : ((n : Int) == 1 || (Str.ofString "0").length == 0) = false := by
        rw [el]
        simp
        omega
      rw [this, if_neg Bool.false_ne_true]
      exact ⟨nou_len h2, .str (nou n), H, I.tok _, ⟨_, rfl⟩, q⟩
theorem suite_of {X : Cx} {a C : Addr} {oe : Obj} {pn : List (Addr × Obj)} {cls : Value} {d : Option Addr} {sts : List Stmt} {ts : TS} (hz : Zc cls d oe)
    (h : Zc (.ref C) none oe → PSs (X.suite a ((a, oe) :: pn)) sts ts) : PSs (X.suite a ((a, oe) :: pn)) sts (fun D σ H => (cls = .ref C ∧ d = none) ∧ ts D σ H) :=
  ⟨fun pins s σ H D I hq => by
    obtain ⟨⟨rfl, rfl⟩, q⟩ := hq
    exact (h hz).run pins s σ H D I q⟩
theorem ten_text : ∀ n : Nat, 1 ≤ n → n ≤ 20 → PySem.intText? (Str.ofString "1" ++ nou n) = some ((10 : Int) ^ n) ∧ (Str.ofString "1" ++ nou n).length ≤ 640 ∧ (nou n).length ≤ 100 := by
  intro n h1 h2
  have : ∀ n : _root_.Fin 21, 1 ≤ n.val → PySem.intText? (Str.ofString "1" ++ nou n.val) = some ((10 : Int) ^ n.val) ∧ (Str.ofString "1" ++ nou n.val).length ≤ 640 ∧ (nou n.val).length ≤ 100 := by decide +kernel
  exact this ⟨n, by omega⟩ h1

/-- the divisor by which fraction divides both -/
def sg (n d : Int) : Int := if d < 0 then -((Nat.gcd n.natAbs d.natAbs : Nat) : Int) else ((Nat.gcd n.natAbs d.natAbs : Nat) : Int)
theorem sg_abs (n d : Int) : (sg n d).natAbs = Nat.gcd n.natAbs d.natAbs := by
  unfold sg
  split
  · rw [Int.natAbs_neg, Int.natAbs_natCast]
  · rw [Int.natAbs_natCast]
theorem sg_ne {n d : Int} (h : d ≠ 0) : sg n d ≠ 0 := by
  intro e
  have h1 := sg_abs n d
  rw [e] at h1
  have h2 : Nat.gcd n.natAbs d.natAbs = 0 := h1.symm
  have h3 := Nat.gcd_eq_zero_iff.mp h2
  omega
theorem sg_dn (n d : Int) : sg n d ∣ n := by
  have h : ((Nat.gcd n.natAbs d.natAbs : Nat) : Int) ∣ n := Int.dvd_natAbs.mp (Int.natCast_dvd_natCast.mpr (Nat.gcd_dvd_left _ _))
  unfold sg
  split
  · exact Int.neg_dvd.mpr h
  · exact h
theorem sg_dd (n d : Int) : sg n d ∣ d := by
  have h : ((Nat.gcd n.natAbs d.natAbs : Nat) : Int) ∣ d := Int.dvd_natAbs.mp (Int.natCast_dvd_natCast.mpr (Nat.gcd_dvd_right _ _))
  unfold sg
  split
  · exact Int.neg_dvd.mpr h
  · exact h
theorem fdiv_back {d v : Int} (h : d ∣ v) : v.fdiv d * d = v := Int.fdiv_mul_cancel h
theorem part_le {f d v : Int} (e : f * d = v) (hd : d ≠ 0) : f.natAbs ≤ v.natAbs := by
  rw [← e, Int.natAbs_mul]
  exact Nat.le_mul_of_pos_right _ (by omega)
/-- what fraction yields -/
structure Fr (n d p q : Int) : Prop where
  hp : p * sg n d = n
  hq : q * sg n d = d
  q0 : 0 < q
  one : Nat.gcd p.natAbs q.natAbs = 1
theorem fr_of {n d : Int} (h : d ≠ 0) : Fr n d (n.fdiv (sg n d)) (d.fdiv (sg n d)) := by
  have e1 := fdiv_back (sg_dn n d)
  have e2 := fdiv_back (sg_dd n d)
  have hs := sg_ne (n := n) h
  refine ⟨e1, e2, ?_, ?_⟩
  · rcases Int.lt_or_le 0 (d.fdiv (sg n d)) with h1 | h1
    · exact h1
    · exfalso
      have hg : 0 < Nat.gcd n.natAbs d.natAbs := Nat.gcd_pos_of_pos_right _ (by omega)
      rcases Int.lt_or_le d 0 with h2 | h2
      · have h3 : sg n d < 0 := by
          unfold sg
          rw [if_pos h2]
          omega
        have h4 := Int.mul_nonneg_of_nonpos_of_nonpos h1 (Int.le_of_lt h3)
        omega
      · have h3 : 0 < sg n d := by
          unfold sg
          rw [if_neg (by omega)]
          omega
        have h4 := Int.mul_nonpos_of_nonpos_of_nonneg h1 (Int.le_of_lt h3)
        omega
  · have e3 : Nat.gcd n.natAbs d.natAbs = Nat.gcd (n.fdiv (sg n d)).natAbs (d.fdiv (sg n d)).natAbs * (sg n d).natAbs := by
      rw [← Nat.gcd_mul_right, ← Int.natAbs_mul, ← Int.natAbs_mul, e1, e2]
    rw [sg_abs] at e3
    have hg : 0 < Nat.gcd n.natAbs d.natAbs := Nat.gcd_pos_of_pos_right _ (by omega)
    exact (Nat.eq_of_mul_eq_mul_right hg (by rw [Nat.one_mul]; exact e3)).symm
theorem Fr.cross {n d p q : Int} (f : Fr n d p q) : p * d = n * q := by
  have h1 := f.hp
  have h2 := f.hq
  calc p * d = p * (q * sg n d) := by rw [h2]
    _ = (p * sg n d) * q := by rw [Int.mul_comm q, Int.mul_assoc]
    _ = n * q := by rw [h1]
theorem sg_one (n : Int) : sg n 1 = 1 := by
  unfold sg
  rw [if_neg (by decide)]
  show ((Nat.gcd n.natAbs 1 : Nat) : Int) = 1
  rw [Nat.gcd_one_right]
  rfl
theorem rd_one (n : Int) : [n.fdiv (sg n 1), (1 : Int).fdiv (sg n 1)] = [n, 1] := by rw [sg_one, Int.fdiv_one, Int.fdiv_one]

/-- in lowest terms -/
def rd2 (n d : Int) : List Int := [n.fdiv (sg n d), d.fdiv (sg n d)]
theorem low_uniq {p q r s : Int} (h1 : Nat.gcd p.natAbs q.natAbs = 1) (h2 : Nat.gcd r.natAbs s.natAbs = 1) (hq : 0 < q) (hs : 0 < s) (h : p * s = r * q) : p = r ∧ q = s := by
  have hn : p.natAbs * s.natAbs = r.natAbs * q.natAbs := by
    rw [← Int.natAbs_mul, ← Int.natAbs_mul, h]
  have d1 : q.natAbs ∣ s.natAbs := by
    have h3 : q.natAbs ∣ p.natAbs * s.natAbs := ⟨r.natAbs, by rw [hn, Nat.mul_comm]⟩
    exact Nat.Coprime.dvd_of_dvd_mul_left (show Nat.Coprime q.natAbs p.natAbs from (Nat.gcd_comm _ _).trans h1) h3
  have d2 : s.natAbs ∣ q.natAbs := by
    have h3 : s.natAbs ∣ r.natAbs * q.natAbs := ⟨p.natAbs, by rw [← hn, Nat.mul_comm]⟩
    exact Nat.Coprime.dvd_of_dvd_mul_left (show Nat.Coprime s.natAbs r.natAbs from (Nat.gcd_comm _ _).trans h2) h3
  have e : q.natAbs = s.natAbs := Nat.dvd_antisymm d1 d2
  have e2 : q = s := by omega
  subst e2
  exact ⟨Int.eq_of_mul_eq_mul_right (by omega) h, rfl⟩
theorem rd2_eq {n d n' d' : Int} (hd : 0 < d) (hd' : 0 < d') (h : n * d' = n' * d) : rd2 n d = rd2 n' d' := by
  have f := fr_of (n := n) (show d ≠ 0 by omega)
  have f' := fr_of (n := n') (show d' ≠ 0 by omega)
  have c1 := f.cross
  have c2 := f'.cross
  unfold rd2
  generalize n.fdiv (sg n d) = p at f c1
  generalize d.fdiv (sg n d) = q at f c1
  generalize n'.fdiv (sg n' d') = r at f' c2
  generalize d'.fdiv (sg n' d') = s at f' c2
  have e : p * s = r * q := by
    have h1 : (p * s) * (d * d') = (r * q) * (d * d') := by
      calc (p * s) * (d * d') = (p * d) * (s * d') := by
              rw [Int.mul_assoc, Int.mul_assoc, Int.mul_left_comm s d d']
        _ = (n * q) * (s * d') := by rw [c1]
        _ = (n * d') * (q * s) := by
              rw [Int.mul_assoc, Int.mul_assoc, Int.mul_comm s d', Int.mul_left_comm q d' s]
        _ = (n' * d) * (q * s) := by rw [h]
        _ = (n' * s) * (d * q) := by
              rw [Int.mul_assoc, Int.mul_assoc, Int.mul_comm q s, Int.mul_left_comm d s q]
        _ = (r * d') * (d * q) := by rw [c2]
        _ = (r * q) * (d * d') := by
              rw [Int.mul_assoc, Int.mul_assoc, Int.mul_comm d q, Int.mul_left_comm d' q d, Int.mul_comm d' d]
    exact Int.eq_of_mul_eq_mul_right (Int.mul_ne_zero (by omega) (by omega)) h1
  have u := low_uniq f.one f'.one f.q0 f'.q0 e
  rw [u.1, u.2]
theorem sg_zero_one : sg 0 1 = 1 := sg_one 0
theorem rd2_zero : rd2 0 1 = [0, 1] := by
  unfold rd2
  rw [sg_zero_one, Int.fdiv_one, Int.fdiv_one]
/-- the digits of a number are not too few -/
theorem lt_digits (n : Nat) : n < 2 ^ (4 * (toString (n : Int)).length + 4) := by
  have e : toString (n : Int) = Nat.repr n := rfl
  rw [e]
  have h : n < 10 ^ ((Nat.repr n).length + 1) := (Nat.length_repr_le_iff (Nat.succ_pos _)).mp (Nat.le_succ _)
  refine Nat.lt_of_lt_of_le h ?_
  have h2 : (10 : Nat) ^ ((Nat.repr n).length + 1) ≤ 16 ^ ((Nat.repr n).length + 1) := Nat.pow_le_pow_left (by decide) _
  have h3 : (16 : Nat) ^ ((Nat.repr n).length + 1) = 2 ^ (4 * (Nat.repr n).length + 4) := by
    rw [show (16 : Nat) = 2 ^ 4 from rfl, ← Nat.pow_mul]
    rfl
  omega
theorem eu_digits {a b t : Nat} (h : t = 4 * (toString (a : Int)).length + 4 * (toString (b : Int)).length + 60) : 2 * (a * b) < 2 ^ t := by
  subst h
  have h1 := lt_digits a
  have h2 := lt_digits b
  have h3 : a * b < 2 ^ (4 * (toString (a : Int)).length + 4) * 2 ^ (4 * (toString (b : Int)).length + 4) := Nat.mul_lt_mul'' h1 h2
  rw [← Nat.pow_add] at h3
  have h4 : 2 * (a * b) < 2 * 2 ^ (4 * (toString (a : Int)).length + 4 + (4 * (toString (b : Int)).length + 4)) := by omega
  rw [← Nat.pow_succ'] at h4
  exact Nat.lt_of_lt_of_le h4 (Nat.pow_le_pow_right (by decide) (by omega))
theorem args2 {x y : Int} (hx : 0 ≤ x) (hy : 0 ≤ y) : [V.int x, V.int y] ++ [] = [V.int ((x.natAbs : Nat) : Int), V.int ((y.natAbs : Nat) : Int)] := by
  have e1 : ((x.natAbs : Nat) : Int) = x := by omega
  have e2 : ((y.natAbs : Nat) : Int) = y := by omega
  rw [e1, e2]
  rfl
theorem mod_abs (x : Int) {b : Int} (h : 0 < b) : (x % b).natAbs ≤ b.natAbs := by
  have h1 := Int.emod_nonneg x (show b ≠ 0 by omega)
  have h2 := Int.emod_lt_of_pos x h
  omega
theorem mul_lt_abs {a b : Int} {A B : Nat} (ha : a.natAbs ≤ A) (hb : b.natAbs ≤ B) : (a * b).natAbs ≤ A * B := by
  rw [Int.natAbs_mul]
  exact Nat.mul_le_mul ha hb
def pd2 (x y : Int) : PyData := .tuple [.int x, .int y]
theorem dp2 {K : PySem.W.Frag} {H : Hp} {u : Addr} {x y : Int} (h : SqT K H u (zs [x, y])) : Dp K H (.ref u) (pd2 x y) :=
  .tup h (.cons (.int x) (.cons (.int y) .nil))
theorem eqv2 (x y : Int) : PyData.eqv (pd2 x y) (pd2 x y) = true := by
  unfold pd2
  simp [PyData.eqv, PyData.eqvAll]

def dv (x y z : Int) : Int := let g : Int := (Nat.gcd (Nat.gcd x.natAbs y.natAbs) z.natAbs : Nat)
  if HT.lexLt [x, y, z] [0, 0, 0] = true then -g else g
def g3 (x y z : Int) : Nat := Nat.gcd (Nat.gcd x.natAbs y.natAbs) z.natAbs
/-- the first one that is not 0 is below 0 -/
def dn (x y z : Int) : Bool := decide (x < 0) || (decide (x = 0) && (decide (y < 0) || (decide (y = 0) && decide (z < 0))))
theorem lex_dn (x y z : Int) : HT.lexLt [x, y, z] [0, 0, 0] = dn x y z := by
  rw [HT.lexLt_cons, HT.lexLt_cons, HT.lexLt_cons, HT.lexLt_nil_nil]
  unfold dn
  by_cases hx : x = 0
  · subst hx
    by_cases hy : y = 0
    · subst hy
      by_cases hz : z = 0
      · subst hz; decide
      · simp [hz]
    · simp [hy]
  · simp [hx]
theorem dv_eq (x y z : Int) : dv x y z = if dn x y z = true then -(g3 x y z : Int) else (g3 x y z : Int) := by
  unfold dv g3
  rw [lex_dn]
theorem dv_abs (x y z : Int) : (dv x y z).natAbs = g3 x y z := by
  rw [dv_eq]
  split
  · rw [Int.natAbs_neg, Int.natAbs_natCast]
  · rw [Int.natAbs_natCast]
theorem g3_pos {x y z : Int} (h : ¬ (x = 0 ∧ y = 0 ∧ z = 0)) : 0 < g3 x y z := by
  rcases Nat.eq_zero_or_pos (g3 x y z) with e | e
  · exfalso
    have h1 := Nat.gcd_eq_zero_iff.mp e
    have h2 := Nat.gcd_eq_zero_iff.mp h1.1
    omega
  · exact e
theorem dv_ne {x y z : Int} (h : ¬ (x = 0 ∧ y = 0 ∧ z = 0)) : dv x y z ≠ 0 := by
  intro e
  have h1 := dv_abs x y z
  have h2 := g3_pos h
  rw [e] at h1
  have : (0 : Int).natAbs = 0 := rfl
  omega
theorem g3_dx (x y z : Int) : (g3 x y z : Int) ∣ x := by
  refine Int.dvd_natAbs.mp (Int.natCast_dvd_natCast.mpr ?_)
  exact Nat.dvd_trans (Nat.gcd_dvd_left _ _) (Nat.gcd_dvd_left _ _)
theorem g3_dy (x y z : Int) : (g3 x y z : Int) ∣ y := by
  refine Int.dvd_natAbs.mp (Int.natCast_dvd_natCast.mpr ?_)
  exact Nat.dvd_trans (Nat.gcd_dvd_left _ _) (Nat.gcd_dvd_right _ _)
theorem g3_dz (x y z : Int) : (g3 x y z : Int) ∣ z := by
  refine Int.dvd_natAbs.mp (Int.natCast_dvd_natCast.mpr ?_)
  exact Nat.gcd_dvd_right _ _
theorem dv_dvd {x y z v : Int} (h : (g3 x y z : Int) ∣ v) : dv x y z ∣ v := by
  rw [dv_eq]
  split
  · exact Int.neg_dvd.mpr h
  · exact h
theorem dv_dx (x y z : Int) : dv x y z ∣ x := dv_dvd (g3_dx x y z)
theorem dv_dy (x y z : Int) : dv x y z ∣ y := dv_dvd (g3_dy x y z)
theorem dv_dz (x y z : Int) : dv x y z ∣ z := dv_dvd (g3_dz x y z)
theorem g3_le {x y z : Int} {n : Nat} (h : ¬ (x = 0 ∧ y = 0 ∧ z = 0)) (hx : x.natAbs ≤ n) (hy : y.natAbs ≤ n) (hz : z.natAbs ≤ n) : g3 x y z ≤ n := by
  by_cases h1 : x = 0
  · by_cases h2 : y = 0
    · have h3 : z ≠ 0 := fun e => h ⟨h1, h2, e⟩
      exact Nat.le_trans (Nat.le_of_dvd (by omega) (Nat.gcd_dvd_right _ _)) hz
    · exact Nat.le_trans (Nat.le_of_dvd (by omega) (Nat.dvd_trans (Nat.gcd_dvd_left _ _) (Nat.gcd_dvd_right _ _))) hy
  · exact Nat.le_trans (Nat.le_of_dvd (by omega) (Nat.dvd_trans (Nat.gcd_dvd_left _ _) (Nat.gcd_dvd_left _ _))) hx
theorem g3_mul (x y z t : Int) : g3 (x * t) (y * t) (z * t) = g3 x y z * t.natAbs := by
  unfold g3
  rw [Int.natAbs_mul, Int.natAbs_mul, Int.natAbs_mul, Nat.gcd_mul_right, Nat.gcd_mul_right]
/-- the parts have no divisor left -/
theorem g3_one {x y z a b c : Int} (h : ¬ (x = 0 ∧ y = 0 ∧ z = 0)) (ha : a * dv x y z = x) (hb : b * dv x y z = y) (hc : c * dv x y z = z) : g3 a b c = 1 := by
  have h1 : g3 x y z = g3 a b c * (dv x y z).natAbs := by
    have := g3_mul a b c (dv x y z)
    rw [ha, hb, hc] at this
    exact this
  rw [dv_abs] at h1
  have h2 := g3_pos h
  exact (Nat.eq_of_mul_eq_mul_right h2 (by rw [Nat.one_mul]; exact h1)).symm
theorem neg_mul_iff {v t : Int} (ht : 0 < t) : (v * t < 0 ↔ v < 0) ∧ (v * t = 0 ↔ v = 0) := by
  constructor
  · constructor
    · intro h
      rcases Int.lt_or_le v 0 with h1 | h1
      · exact h1
      · have := Int.mul_nonneg h1 (Int.le_of_lt ht)
        omega
    · exact fun h => Int.mul_neg_of_neg_of_pos h ht
  · constructor
    · intro h
      rcases Int.mul_eq_zero.mp h with h1 | h1
      · exact h1
      · omega
    · intro h
      rw [h, Int.zero_mul]
theorem dn_mul {x y z t : Int} (ht : 0 < t) : dn (x * t) (y * t) (z * t) = dn x y z := by
  unfold dn
  have hx := neg_mul_iff (v := x) ht
  have hy := neg_mul_iff (v := y) ht
  have hz := neg_mul_iff (v := z) ht
  simp only [hx, hy, hz]
theorem dn_neg {x y z : Int} (h : ¬ (x = 0 ∧ y = 0 ∧ z = 0)) : dn (-x) (-y) (-z) = !dn x y z := by
  unfold dn
  rcases Int.lt_trichotomy x 0 with hx | hx | hx
  · have h1 : ¬ (-x < 0) := by omega
    have h2 : ¬ (-x = 0) := by omega
    simp [hx, h1, h2]
    omega
  · subst hx
    rcases Int.lt_trichotomy y 0 with hy | hy | hy
    · have h1 : ¬ (-y < 0) := by omega
      have h2 : ¬ (-y = 0) := by omega
      simp [hy, h1, h2]
      omega
    · subst hy
      have hz : z ≠ 0 := fun e => h ⟨rfl, rfl, e⟩
      by_cases h1 : z < 0
      · have h2 : ¬ (-z < 0) := by omega
        simp [h1, h2]
        omega
      · have h2 : -z < 0 := by omega
        simp [h1, h2]
        omega
    · have h1 : -y < 0 := by omega
      have h2 : ¬ y < 0 := by omega
      have h3 : ¬ y = 0 := by omega
      simp [h1, h2, h3]
      omega
  · have h1 : -x < 0 := by omega
    have h2 : ¬ x < 0 := by omega
    have h3 : ¬ x = 0 := by omega
    simp [h1, h2, h3]
    omega
theorem dv_mul {x y z t : Int} (h : ¬ (x = 0 ∧ y = 0 ∧ z = 0)) (ht : t ≠ 0) : dv (x * t) (y * t) (z * t) = dv x y z * t := by
  rw [dv_eq, dv_eq, g3_mul]
  rcases Int.lt_or_gt_of_ne ht with h1 | h1
  · have e1 : ∀ v : Int, v * t = -v * -t := fun v => (Int.neg_mul_neg v t).symm
    have e2 : (t.natAbs : Int) = -t := by omega
    have h2 : ¬ (-x = 0 ∧ -y = 0 ∧ -z = 0) := by omega
    rw [e1 x, e1 y, e1 z, dn_mul (by omega), dn_neg h]
    cases dn x y z with
    | true => simp [e2, Int.neg_mul, Int.mul_neg]
    | false => simp [e2, Int.neg_mul, Int.mul_neg]
  · have e2 : (t.natAbs : Int) = t := by omega
    rw [dn_mul h1]
    cases dn x y z with
    | true => simp [e2, Int.neg_mul, Int.mul_neg]
    | false => simp [e2, Int.neg_mul, Int.mul_neg]
theorem fdiv_same {d v t : Int} (hd : d ≠ 0) (ht : t ≠ 0) (h : d ∣ v) : (v * t).fdiv (d * t) = v.fdiv d := by
  obtain ⟨k, rfl⟩ := h
  rw [Int.mul_assoc, Int.mul_comm k t, ← Int.mul_assoc, Int.mul_fdiv_cancel_left _ hd, Int.mul_fdiv_cancel_left]
  exact Int.mul_ne_zero hd ht

theorem zs_push {l : List Int} {n : Int} : zs l ++ [V.int n] = zs (l ++ [n]) := by
  show l.map V.int ++ [V.int n] = (l ++ [n]).map V.int
  rw [List.map_append]
  rfl
theorem zs_lt {l : List Int} (h : l.length ≤ 1000) : (zs l).length < sizeLine := by
  show (l.map V.int).length < sizeLine
  rw [List.length_map]
  exact small1000 h
theorem row_all {rs : List Int} {b : Int} (h : ∀ r ∈ rs, 0 ≤ r ∧ r < b) (x : Int) (hb : 0 < b) : ∀ r ∈ rs ++ [x % b], 0 ≤ r ∧ r < b := by
  intro r hr
  rcases List.mem_append.mp hr with h1 | h1
  · exact h r h1
  · rw [List.mem_singleton.mp h1]
    exact ⟨Int.emod_nonneg _ (by omega), Int.emod_lt_of_pos _ hb⟩
theorem ixN_in {n : Nat} {i : Int} (h0 : 0 ≤ i) (h : i < (n : Int)) : ixN n i = some i.toNat := by
  unfold ixN
  rw [if_pos h0, if_pos h]
theorem len3 {rs : List Int} (h : rs.length = 3) : ∃ a b c, rs = [a, b, c] := by
  match rs, h with
  | [a, b, c], _ => exact ⟨a, b, c, rfl⟩
theorem gl_three (x y z : Int) : gl [x, y, z] = g3 x y z := by
  show Nat.gcd z.natAbs (Nat.gcd y.natAbs (Nat.gcd x.natAbs 0)) = Nat.gcd (Nat.gcd x.natAbs y.natAbs) z.natAbs
  rw [Nat.gcd_zero_right, Nat.gcd_comm z.natAbs, Nat.gcd_comm y.natAbs]
def fs3 (x y z : Int) : Int := if x ≠ 0 then x else if y ≠ 0 then y else z
theorem fs3_get {x y z : Int} (h : ¬ (x = 0 ∧ y = 0 ∧ z = 0)) : (zs ([x, y, z].filter fun v => decide (v ≠ 0)))[0]? = some (.int (fs3 x y z)) := by
  unfold fs3
  by_cases hx : x = 0
  · by_cases hy : y = 0
    · have hz : z ≠ 0 := fun e => h ⟨hx, hy, e⟩
      simp [hx, hy, hz]
    · simp [hx, hy]
  · simp [hx]
theorem fs3_dn {x y z : Int} (h : ¬ (x = 0 ∧ y = 0 ∧ z = 0)) : decide (fs3 x y z < 0) = dn x y z := by
  unfold fs3 dn
  by_cases hx : x = 0
  · by_cases hy : y = 0
    · simp [hx, hy]
    · simp [hx, hy]
  · simp [hx]
theorem fil_snoc {l : List Int} {i : Nat} {z : Int} (h : l[i]? = some z) (hz : z ≠ 0) : zs ((l.take i).filter fun v => decide (v ≠ 0)) ++ [V.int z] = zs ((l.take (i + 1)).filter fun v => decide (v ≠ 0)) := by
  rw [take_snoc h, List.filter_append, zs_push]
  simp [hz]
theorem fil_same {l : List Int} {i : Nat} {z : Int} (h : l[i]? = some z) (hz : z = 0) : (l.take (i + 1)).filter (fun v => decide (v ≠ 0)) = (l.take i).filter fun v => decide (v ≠ 0) := by
  rw [take_snoc h, List.filter_append]
  simp [hz]
theorem fil_lt {l : List Int} (n : Nat) (h : l.length ≤ 1000) : (zs ((l.take n).filter fun v => decide (v ≠ 0))).length < sizeLine := by
  refine zs_lt ?_
  have h1 := List.length_filter_le (fun v : Int => decide (v ≠ 0)) (l.take n)
  rw [List.length_take] at h1
  omega
theorem zs_at {l : List Int} {i : Nat} {z : Int} (h : l[i]? = some z) : atI (zs l) (i : Int) = some (V.int z) := atI_nat (by
  rw [show zs l = l.map V.int from rfl, List.getElem?_map, h]
  rfl)
theorem parts_at {x y z d : Int} (hx : d ∣ x) (hy : d ∣ y) (hz : d ∣ z) {i : Nat} (hi : i < 3) : ∃ f v : Int, [x.fdiv d, y.fdiv d, z.fdiv d][i]? = some f ∧ [x, y, z][i]? = some v ∧ f * d = v := by
  obtain rfl | rfl | rfl : i = 0 ∨ i = 1 ∨ i = 2 := by omega
  · exact ⟨_, _, rfl, rfl, fdiv_back hx⟩
  · exact ⟨_, _, rfl, rfl, fdiv_back hy⟩
  · exact ⟨_, _, rfl, rfl, fdiv_back hz⟩
def pd3 (x y z : Int) : PyData := .tuple [.int x, .int y, .int z]
theorem dp3 {K : PySem.W.Frag} {H : Hp} {u : Addr} {x y z : Int} (h : SqT K H u (zs [x, y, z])) : Dp K H (.ref u) (pd3 x y z) :=
  .tup h (.cons (.int x) (.cons (.int y) (.cons (.int z) .nil)))
theorem eqv3 (x y z : Int) : PyData.eqv (pd3 x y z) (pd3 x y z) = true := by
  unfold pd3
  simp [PyData.eqv, PyData.eqvAll]

def sgn (i : Int) : Int := if i < 0 then -1 else if 0 < i then 1 else 0
theorem sgn_mul {a b : Int} (hb : 0 < b) : sgn (a * b) = sgn a := by
  have h := neg_mul_iff (v := a) hb
  have h2 : 0 < a * b ↔ 0 < a := by
    constructor
    · intro z
      have h3 : ¬ a < 0 := fun y => by
        have := h.1.mpr y
        omega
      have h4 : ¬ a = 0 := fun y => by
        have := h.2.mpr y
        omega
      omega
    · exact fun z => Int.mul_pos z hb
  unfold sgn
  by_cases h3 : a < 0
  · rw [if_pos h3, if_pos (h.1.mpr h3)]
  · rw [if_neg h3, if_neg (fun z => h3 (h.1.mp z))]
    by_cases h4 : 0 < a
    · rw [if_pos h4, if_pos (h2.mpr h4)]
    · rw [if_neg h4, if_neg (fun z => h4 (h2.mp z))]
theorem sg_pos {n d : Int} (h : 0 < d) : 0 < sg n d := by
  have hg : 0 < Nat.gcd n.natAbs d.natAbs := Nat.gcd_pos_of_pos_right _ (by omega)
  unfold sg
  rw [if_neg (by omega)]
  omega
/-- the sign of a fraction is that of its numerator, before and behind -/
theorem sgn_low {n d : Int} (h : 0 < d) : sgn (n.fdiv (sg n d)) = sgn n := by
  have h1 := fdiv_back (sg_dn n d)
  have h2 := sgn_mul (a := n.fdiv (sg n d)) (sg_pos (n := n) h)
  rw [h1] at h2
  exact h2.symm
theorem rd2_le {n d : Int} (hd : d ≠ 0) : ∃ p q, rd2 n d = [p, q] ∧ p.natAbs ≤ n.natAbs ∧ q.natAbs ≤ d.natAbs ∧ Fr n d p q :=
  have f := fr_of (n := n) hd
  ⟨_, _, rfl, part_le f.hp (sg_ne hd), part_le f.hq (sg_ne hd), f⟩
/-- a sum of two, each brought to lowest terms -/
theorem rd2_plus {a b c d p q r s : Int} (f : Fr a b p q) (g : Fr c d r s) (hb : 0 < b) (hd : 0 < d) : rd2 (p * s + r * q) (q * s) = rd2 (a * d + c * b) (b * d) := by
  have q0 := f.q0
  have s0 := g.q0
  have c1 := f.cross
  have c2 := g.cross
  exact rd2_eq (Int.mul_pos q0 s0) (Int.mul_pos hb hd) (by grind)
/-- what is in lowest terms stays -/
theorem low_of {p q : Int} (h : Nat.gcd p.natAbs q.natAbs = 1) (hq : 0 < q) : rd2 p q = [p, q] := by
  have f := fr_of (n := p) (show q ≠ 0 by omega)
  have c := f.cross
  have u := low_uniq f.one h f.q0 hq (by rw [f.cross])
  unfold rd2
  rw [u.1, u.2]
theorem fr_low {n d p q : Int} (f : Fr n d p q) : rd2 p q = [p, q] := low_of f.one f.q0
theorem eu_far2 {a b n : Nat} (hn : 3601 ≤ n) (ha : a < 2 ^ 1800) (hb : b < 2 ^ 1800) : 2 * (a * b) < 2 ^ n := by
  have h1 : a * b < 2 ^ 1800 * 2 ^ 1800 := Nat.mul_lt_mul'' ha hb
  rw [← Nat.pow_add] at h1
  have h2 : (2 : Nat) ^ 3601 ≤ 2 ^ n := Nat.pow_le_pow_right (by decide) hn
  rw [show (3601 : Nat) = 1 + (1800 + 1800) from rfl, Nat.pow_add] at h2
  generalize (2 : Nat) ^ (1800 + 1800) = B at *
  generalize (2 : Nat) ^ n = C at *
  omega
theorem rd2_eq0 {n d n' d' : Int} (hd : d ≠ 0) (hd' : d' ≠ 0) (h : n * d' = n' * d) : rd2 n d = rd2 n' d' := by
  have f := fr_of (n := n) hd
  have f' := fr_of (n := n') hd'
  have c1 := f.cross
  have c2 := f'.cross
  unfold rd2
  generalize n.fdiv (sg n d) = p at f c1
  generalize d.fdiv (sg n d) = q at f c1
  generalize n'.fdiv (sg n' d') = r at f' c2
  generalize d'.fdiv (sg n' d') = s at f' c2
  have e : p * s = r * q := by
    have h1 : (p * s) * (d * d') = (r * q) * (d * d') := by grind
    exact Int.eq_of_mul_eq_mul_right (Int.mul_ne_zero hd hd') h1
  have u := low_uniq f.one f'.one f.q0 f'.q0 e
  rw [u.1, u.2]

/-- a row of fractions: where each stands, its two numbers -/
structure Rows (K : PySem.W.Frag) (H : Hp) (ws : List (Addr × Int × Int)) : Prop where
  at_ : ∀ w ∈ ws, SqT K H w.1 (zs [w.2.1, w.2.2])
  b1 : ∀ w ∈ ws, w.2.1.natAbs < 2 ^ 40
  b2 : ∀ w ∈ ws, w.2.2.natAbs < 2 ^ 40
  b3 : ∀ w ∈ ws, 0 < w.2.2
  few : ws.length ≤ 9
theorem Rows.nil {K : PySem.W.Frag} {H : Hp} : Rows K H [] :=
  ⟨(fun _ h => nomatch h), (fun _ h => nomatch h), (fun _ h => nomatch h), (fun _ h => nomatch h), by decide⟩
def rf (ws : List (Addr × Int × Int)) : List V := ws.map fun w => V.ref w.1
theorem Rows.same {K : PySem.W.Frag} {H H' : Hp} {ws : List (Addr × Int × Int)} (r : Rows K H ws) (s : Same H H') : Rows K H' ws :=
  ⟨fun w hw => same_tup s (r.at_ w hw), r.b1, r.b2, r.b3, r.few⟩
theorem Rows.take {K : PySem.W.Frag} {H : Hp} {ws : List (Addr × Int × Int)} (r : Rows K H ws) (i : Nat) : Rows K H (ws.take i) :=
  ⟨fun w hw => r.at_ w (List.mem_of_mem_take hw), fun w hw => r.b1 w (List.mem_of_mem_take hw), fun w hw => r.b2 w (List.mem_of_mem_take hw), fun w hw => r.b3 w (List.mem_of_mem_take hw), by
    rw [List.length_take]
    have := r.few
    omega⟩
theorem rf_get {ws : List (Addr × Int × Int)} {i : Nat} {v : V} (h : (rf ws)[i]? = some v) : ∃ w, v = .ref w.1 ∧ ws[i]? = some w := by
  rw [show rf ws = ws.map fun w => V.ref w.1 from rfl, List.getElem?_map] at h
  cases e : ws[i]? with
  | none =>
    rw [e] at h
    cases h
  | some w =>
    rw [e] at h
    exact ⟨w, (Option.some.inj h).symm, rfl⟩
theorem rf_len (ws : List (Addr × Int × Int)) : (rf ws).length = ws.length := List.length_map _
theorem take_sn {α : Type} {l : List α} {i : Nat} {z : α} (h : l[i]? = some z) : l.take (i + 1) = l.take i ++ [z] := by
  rw [List.take_add_one, h]
  rfl
theorem tup_upd {K : PySem.W.Frag} {H : Hp} {a l : Addr} {xs ys : List V} {o : HO} (h : SqT K H a xs) (hl : H l = some (.lst ys)) : SqT K (upd H l o) a xs := by
  rcases h with (h | ⟨ob, h⟩) | h
  · refine .inl (.inl ?_)
    rw [upd_ne (ne_of h hl (by intro z; cases z))]
    exact h
  · refine .inl (.inr ⟨ob, ?_⟩)
    rw [upd_ne (ne_of h hl (by intro z; cases z))]
    exact h
  · exact .inr h
theorem tyx_tup {K : PySem.W.Frag} {H : Hp} {a : Addr} {xs : List V} (h : SqT K H a xs) : TyX K H (.ref a) (.type "tuple") := by
  rcases h with (h | ⟨ob, h⟩) | ⟨o, its, n, h, hc, _⟩
  · exact .base (.tup h)
  · exact .fTuple h
  · exact .kTuple h hc
theorem no_self {x : V} (h : (!decide (x = x)) = true) : False := by
  rw [decide_eq_true rfl] at h
  cases h

section ZipMixed
open PySem PySem.Spec PyProof.Rows
/-- a list or a tuple that stands still -/
def SqB (f : Bool) (K : PySem.W.Frag) (H : Hp) (q : Addr) (vs : List V) : Prop := bif f then SqT K H q vs else SqL K H q vs
def ItB (f : Bool) (h : Heap) (it q : Addr) (i : Nat) : Prop := bif f then h.IsTupleIter it q i else h.IsListIter it q i
def AtB (f : Bool) (h : Heap) (q : Addr) (us : Array Value) : Prop := bif f then h.IsTuple q us else h.IsList q us
def oB (f : Bool) (q : Addr) : Obj := bif f then { cls := .type "tuple_iterator", data := .fields #[.ref q, .int 0 0] } else { cls := .type "list_iterator", data := .fields #[.ref q, .int 0 0] }
theorem ItB.live {f : Bool} {h : Heap} {it q : Addr} {i : Nat} (s : ItB f h it q i) : ∃ o, h.get? it = some o ∧ ∀ v, o.data ≠ .cell v := by
  cases f
  · obtain ⟨o, e, _, d⟩ := s
    exact ⟨o, e, fun v z => by rw [d] at z; cases z⟩
  · obtain ⟨o, e, _, d⟩ := s
    exact ⟨o, e, fun v z => by rw [d] at z; cases z⟩
theorem ItB.keep {f : Bool} {h h' : Heap} {it q : Addr} {i : Nat} (s : ItB f h it q i) (k : ∀ o, h.get? it = some o → h'.get? it = some o) : ItB f h' it q i := by
  cases f
  · exact Heap.IsListIter.at s k
  · exact Heap.IsTupleIter.at s k
theorem SqB.at_ {X : Cx} {pins : List (Addr × Obj)} {σ : L2.St} {H : Hp} {s : Shared} {f : Bool} {q : Addr} {vs : List V} (I : Inv X pins σ H s) (h : SqB f X.K H q vs) :
    ∃ us : List Value, Vals vs us ∧ AtB f s.heap q us.toArray := by
  cases f
  · obtain ⟨us, rv, p, _⟩ := I.list h
    exact ⟨us, rv, p.isList⟩
  · obtain ⟨us, rv, p, _⟩ := I.tuple h
    exact ⟨us, rv, p⟩
theorem SqB.inj {X : Cx} {pins : List (Addr × Obj)} {σ : L2.St} {H : Hp} {s : Shared} {f : Bool} {q : Addr} {vs ws : List V} (I : Inv X pins σ H s) (h : SqB f X.K H q vs) (h2 : SqB f X.K H q ws) : vs = ws := by
  cases f
  · exact I.list_inj h h2
  · exact I.tuple_inj h h2
theorem drawsB {P : Program} {w : World} {A : Around} (hh : A.handled = none) (f : Bool) (it q : Addr) (hne : q ≠ it) (us : Array Value) :
    Draws P w A it [it, q] us.size (fun i v => us[i]? = some v) (fun i h => ItB f h it q i ∧ AtB f h q us) := by
  cases f
  · exact Draws.list hh it q hne us
  · exact Draws.tuple hh it q hne us
theorem beginsB (f : Bool) (q : Addr) (us : Array Value) : Begins (.ref q) (oB f q) fun h => AtB f h q us := by
  cases f
  · exact begins_list q us
  · exact begins_tuple q us
theorem AtB.lt {f : Bool} {h : Heap} {q : Addr} {us : Array Value} (p : AtB f h q us) : q < h.objs.size := by
  cases f
  · obtain ⟨o, e, _⟩ := p
    exact Heap.lt_size e
  · obtain ⟨o, e, _⟩ := p
    exact Heap.lt_size e
theorem oB_it {f : Bool} {h : Heap} {it q : Addr} (e : h.get? it = some (oB f q)) : ItB f h it q 0 := by
  cases f
  · exact ⟨_, e, rfl, rfl⟩
  · exact ⟨_, e, rfl, rfl⟩
theorem sep_of {z TI TO i1 i2 a b : Addr} (D : ZipApart z TI TO i1 i2 a b) : ZipSep2 z TI TO i1 i2 [i1, a] [i2, b] where
  TIz := D.TIz
  TOz := D.TOz
  TITO := D.TITO
  TIi1 := D.TIi1
  mem1 := by simp
  zf1 := by simp [D.i1z.symm, D.l1z.symm]
  Tf1 := by simp [D.TOi1, D.l1TO.symm]
  TIi2 := D.TIi2
  mem2 := by simp
  zf2 := by simp [D.i2z.symm, D.l2z.symm]
  Tf2 := by simp [D.TOi2, D.l2TO.symm]
  sep1_2 := by simp [D.i12, D.l2i1.symm]
  sep2_1 := by simp [D.i12.symm, D.l1i2.symm]
/-- the two as they stand at each turn, what they hold in new pairs -/
def ItzB (f g : Bool) (K : PySem.W.Frag) (a b : Addr) : It :=
  ⟨fun i H => ∃ (xs ys : List V) (x y : V), SqB f K H a xs ∧ SqB g K H b ys ∧ xs[i]? = some x ∧ ys[i]? = some y,
    fun i H v H' => ∃ T x y, v = .ref T ∧ H T = none ∧ H' = upd H T (.tup [x, y]) ∧ (∀ xs, SqB f K H a xs → xs[i]? = some x) ∧ ∀ ys, SqB g K H b ys → ys[i]? = some y,
    fun i H => ∃ xs ys : List V, SqB f K H a xs ∧ SqB g K H b ys ∧ i ≤ xs.length ∧ i ≤ ys.length ∧ (i = xs.length ∨ i = ys.length)⟩
theorem turn_zipB {P : Program} {w : World} {K : PySem.W.Frag} {elts : List Expr} {kk : Nat} {tpos : Pos} {a b z TI TO i1 i2 : Addr} (f g : Bool) (D : ZipApart z TI TO i1 i2 a b) :
    Turn P w K (.Tuple elts kk tpos) (ItzB f g K a b) [z, TI, TO, i1, i2] z (fun i h => IsZip h z TI TO .none ∧ IsPair h TI (.ref i1) (.ref i2) ∧ (∃ x y, IsPair h TO x y) ∧ ItB f h i1 a i ∧ ItB g h i2 b i) where
  mem := by simp
  obj := fun i h st c hc => by
    obtain ⟨hz, hTI, ⟨x, y, hTO⟩, h1, h2⟩ := st
    have e' : c = z ∨ c = TI ∨ c = TO ∨ c = i1 ∨ c = i2 := by simpa using hc
    rcases e' with rfl | rfl | rfl | rfl | rfl
    · exact ⟨_, hz, fun v q => nomatch q⟩
    · exact ⟨_, hTI, fun v q => nomatch q⟩
    · exact ⟨_, hTO, fun v q => nomatch q⟩
    · exact h1.live
    · exact h2.live
  keep := fun i h h' st k => by
    obtain ⟨hz, hTI, ⟨x, y, hTO⟩, h1, h2⟩ := st
    exact ⟨k z (by simp) _ hz, k TI (by simp) _ hTI, ⟨x, y, k TO (by simp) _ hTO⟩, h1.keep fun o q => k i1 (by simp) o q, h2.keep fun o q => k i2 (by simp) o q⟩
  item := by
    intro X hP hw hK hc i pins s σ H E I hf st hg
    subst hP hw hK
    obtain ⟨hz, hTI, ⟨x0, y0, hTO⟩, h1, h2⟩ := st
    obtain ⟨xs, ys, x, y, hqx, hqy, hx, hy⟩ := hg
    obtain ⟨us, rv, p⟩ := hqx.at_ I
    obtain ⟨us2, rv2, p2⟩ := hqy.at_ I
    obtain ⟨u, hu, ru⟩ := rv.get hx
    obtain ⟨u2, hu2, ru2⟩ := rv2.get hy
    have hzl : z < s.heap.objs.size := Heap.lt_size hz
    have lx : i < us.toArray.size := by
      have := (List.getElem?_eq_some_iff.mp hu).1
      simpa using this
    have ly : i < us2.toArray.size := by
      have := (List.getElem?_eq_some_iff.mp hu2).1
      simpa using this
    have hhd : X.A.in1.handled = none := I.ok.hd hc
    refine wpAny_pyNext_zipD2_item (sep_of D) (drawsB hhd f i1 a D.l1i1 us.toArray) (drawsB hhd g i2 b D.l2i2 us2.toArray) hz hTI hTO ⟨h1, p⟩ ⟨h2, p2⟩ lx ly fun v1 v2 h' tk e1 e2 z' TO' st1 st2 hT hsz hk => ?_
    have w1 : v1 = u := by
      have : us[i]? = some v1 := by simpa using e1
      rw [hu] at this
      exact (Option.some.inj this).symm
    have w2 : v2 = u2 := by
      have : us2[i]? = some v2 := by simpa using e2
      rw [hu2] at this
      exact (Option.some.inj this).symm
    subst w1 w2
    refine ⟨_, rfl, wpAny_letOwnedTupleGo_zip (s := { s with heap := h', toks := tk }) z' fun h'' z'' sb => ?_⟩
    have hT2 : h''.get? s.heap.objs.size = some { cls := .type "tuple", data := .seq #[v1, v2] } := (sb.2 _ (Nat.ne_of_gt hzl)).trans hT
    have new : ObjOk X.prog X.w (upd H s.heap.objs.size (.tup [x, y])) h'' s.heap.objs.size (.tup [x, y]) :=
      ⟨by show 2 ≤ sizeLine; decide, [v1, v2], .cons ru (.cons ru2 .nil), ⟨_, hT2, rfl, _, rfl⟩⟩
    have I1 : Inv X pins σ (upd H s.heap.objs.size (.tup [x, y])) { s with heap := h'', toks := tk } :=
      I.turnedNew (t' := tk) (ch := [z, TI, TO, i1, i2]) (fun c o hb q => (sb.2 c (fun q' => hb (by simp [q']))).trans (hk c o (fun q' => hb (by simp [q'])) (fun q' => hb (by simp [q'])) (fun q' => hb (by simp [q'])) (fun q' => hb (by simp [q'])) q)) hf (Nat.le_refl _) new
    refine ⟨.ref s.heap.objs.size, _, I1, rfl, ⟨_, x, y, rfl, I.hok.fresh (Nat.le_refl _), rfl, fun l hl => by rw [hl.inj I hqx]; exact hx, fun l hl => by rw [hl.inj I hqy]; exact hy⟩, ⟨z'', ?_, ⟨v1, v2, ?_⟩, ?_, ?_⟩, fun c hcm => ?_⟩
    · exact (sb.2 _ D.TIz).trans (hk _ _ D.TIz D.TITO D.TIi1 D.TIi2 hTI)
    · exact (sb.2 _ D.TOz).trans TO'
    · exact st1.1.keep fun o q => (sb.2 _ D.i1z).trans q
    · exact st2.1.keep fun o q => (sb.2 _ D.i2z).trans q
    · have hlt : c < s.heap.objs.size := by
        have e' : c = z ∨ c = TI ∨ c = TO ∨ c = i1 ∨ c = i2 := by simpa using hcm
        rcases e' with rfl | rfl | rfl | rfl | rfl
        · exact hzl
        · exact Heap.lt_size hTI
        · exact Heap.lt_size hTO
        · obtain ⟨_, e1, _⟩ := h1.live; exact Heap.lt_size e1
        · obtain ⟨_, e1, _⟩ := h2.live; exact Heap.lt_size e1
      rw [upd_ne (Nat.ne_of_lt hlt)]
      exact (hf c hcm).1
  done := by
    intro X hP hw hK hc i pins s σ H E I hf st hg
    subst hP hw hK
    obtain ⟨hz, hTI, ⟨x0, y0, hTO⟩, h1, h2⟩ := st
    obtain ⟨xs, ys, hqx, hqy, hend1, hend2, hend3⟩ := hg
    obtain ⟨us, rv, p⟩ := hqx.at_ I
    obtain ⟨us2, rv2, p2⟩ := hqy.at_ I
    have l1 := rv.length
    have l2 := rv2.length
    have hhd : X.A.in1.handled = none := I.ok.hd hc
    have z1 : us.toArray.size = us.length := by simp
    have z2 : us2.toArray.size = us2.length := by simp
    exact wpAny_pyNext_zipD2_end (sep_of D) (drawsB hhd f i1 a D.l1i1 us.toArray) (drawsB hhd g i2 b D.l2i2 us2.toArray) hz hTI hTO ⟨h1, p⟩ ⟨h2, p2⟩ (by omega) (by omega) (by omega) fun h' tk hk => ⟨rfl, I.turnedL (t' := tk) (ch := [z, TI, TO, i1, i2]) (fun c o hb q =>
      hk c o (fun q' => hb (by simp [q'])) (fun q' => hb (by simp [q'])) (fun q' => hb (by simp [q'])) (fun q' => hb (by simp [q'])) q) hf⟩
  self := fun A i s Q E st h => wpAny_pyIter_zip st.1 h
def iZipB (K : PySem.W.Frag) (ta : TA) : TI := fun σ H R => ta σ H fun vs H1 => ∃ (f g : Bool) (a b : Addr) (xs ys : List V), vs = [.ref a, .ref b] ∧ SqB f K H1 a xs ∧ SqB g K H1 b ys ∧ R (ItzB f g K a b) H1
theorem pi_zipB {X : Cx} {e e2 : Expr} {ta : TA} {p pos tpos : Pos} {elts : List Expr} {kk : Nat} (hg : Gl X "zip") (hm : X.mg "zip" = none) (ha : PA X [e, e2] ta)
    (hs : starEach [e, e2] X.env = (false, eval e X.env) :: starEach [e2] X.env := by rfl) (hpl : (backTo pos (starEach [e2] X.env)).any (·.1) = false := by rfl) :
    PI X (.Tuple elts kk tpos) (.Call (.Name "zip" p) [e, e2] [] pos) (iZipB X.K ta) := by
  refine ⟨fun pins s σ H R I h => ?_⟩
  refine Call_ (ld_blt I hg hm PyProof.Rows.boot_zip (PyProof.Rows.callWith_type1 (thn (ha.run pos pins s σ H _ I h) fun us s1 ⟨vs, H1, I1, r1, q1⟩ => ?_) hs hpl))
  obtain ⟨f, g, a, b, xs, ys, rfl, hqx, hqy, q⟩ := q1
  obtain ⟨u1, u2, rfl, r, r'⟩ := vals2 r1
  cases r
  cases r'
  obtain ⟨_, rv, p1⟩ := hqx.at_ I1
  obtain ⟨_, rv2, p2⟩ := hqy.at_ I1
  refine zip_begins2 (beginsB f a _) (beginsB g b _) p1 p2 fun h' hz hTI hTO h1 h2 hsz hk => wpAny_pyIter_zip hz ?_
  have I2 : Inv X pins σ H1 { s1 with heap := h' } := I1.kept (t' := s1.toks) hk
  refine ⟨s1.heap.objs.size + 4, [s1.heap.objs.size + 4, s1.heap.objs.size + 2, s1.heap.objs.size + 3, s1.heap.objs.size, s1.heap.objs.size + 1], _, _, H1, rfl, I2, turn_zipB f g (PySem.W.ktu_apart s1.heap.objs.size a b p1.lt p2.lt), ⟨hz, hTI, ⟨_, _, hTO⟩, oB_it h1, oB_it h2⟩, fun c hcm => ?_, q⟩
  have e' : c = s1.heap.objs.size + 4 ∨ c = s1.heap.objs.size + 2 ∨ c = s1.heap.objs.size + 3 ∨ c = s1.heap.objs.size ∨ c = s1.heap.objs.size + 1 := by simpa using hcm
  have hle : s1.heap.objs.size ≤ c := by
    rcases e' with z | z | z | z | z
    · rw [z]; exact Nat.le_add_right _ _
    · rw [z]; exact Nat.le_add_right _ _
    · rw [z]; exact Nat.le_add_right _ _
    · rw [z]; exact Nat.le_refl _
    · rw [z]; exact Nat.le_add_right _ _
  exact I1.fpOk hle (I1.hok.fresh hle)
theorem walk_zipB {f g : Bool} {K : PySem.W.Frag} {a b : Addr} {xs ys : List V} {n : Nat} (hn : n = min xs.length ys.length) : Walk (ItzB f g K a b) n (fun H => SqB f K H a xs ∧ SqB g K H b ys) (YPair (fun i => xs[i]?) (fun i => ys[i]?)) := by
  subst hn
  refine ⟨fun i _ hi q => ?_, fun _ q => ⟨xs, ys, q.1, q.2, by omega, by omega, by omega⟩, fun i H v H' _ q y => ?_⟩
  · have h1 : i < xs.length := by omega
    have h2 : i < ys.length := by omega
    exact ⟨xs, ys, xs[i], ys[i], q.1, q.2, by simp [h1], by simp [h2]⟩
  · obtain ⟨T, u, u2, h1, h2, h3, h4, h5⟩ := y
    exact ⟨T, u, u2, h1, h2, h3, h4 xs q.1, h5 ys q.2⟩
end ZipMixed

theorem rat_rd {n d : Int} (hd : d ≠ 0) : rd2 n d = [(Rat.divInt n d).num, ((Rat.divInt n d).den : Int)] := by
  have h0 : ((Rat.divInt n d).den : Int) ≠ 0 := by
    have := (Rat.divInt n d).den_nz
    omega
  have e : Rat.divInt n d = Rat.divInt (Rat.divInt n d).num ((Rat.divInt n d).den : Int) := (Rat.num_divInt_den _).symm
  have c := (Rat.divInt_eq_divInt_iff hd h0).mp e
  rw [rd2_eq0 hd h0 c]
  exact low_of (Rat.divInt n d).reduced (by have := (Rat.divInt n d).den_nz; omega)
/-- a fraction that stands at an address -/
def Fx (K : PySem.W.Frag) (H : Hp) (a : Addr) (r : Rat) : Prop := SqT K H a (zs [r.num, (r.den : Int)])
theorem Fx.same {K : PySem.W.Frag} {H H' : Hp} {a : Addr} {r : Rat} (h : Fx K H a r) (s : Same H H') : Fx K H' a r := same_tup s h
theorem fx_rd {K : PySem.W.Frag} {H : Hp} {a : Addr} {n d : Int} (hd : d ≠ 0) (h : H a = some (.tup (zs (rd2 n d)))) : Fx K H a (Rat.divInt n d) := by
  unfold Fx
  rw [← rat_rd hd]
  exact SqT.of h
theorem fx_at {K : PySem.W.Frag} {H : Hp} {a : Addr} {r : Rat} (h : H a = some (.tup (zs [r.num, (r.den : Int)]))) : Fx K H a r := SqT.of h
def Bd (n : Nat) (r : Rat) : Prop := r.num.natAbs < 2 ^ n ∧ r.den < 2 ^ n
theorem Bd.up {n m : Nat} {r : Rat} (h : Bd n r) (hm : n ≤ m) : Bd m r :=
  ⟨Nat.lt_of_lt_of_le h.1 (Nat.pow_le_pow_right (by decide) hm), Nat.lt_of_lt_of_le h.2 (Nat.pow_le_pow_right (by decide) hm)⟩
theorem Bd.den {n : Nat} {r : Rat} (h : Bd n r) : ((r.den : Nat) : Int).natAbs < 2 ^ n := h.2
theorem den_pos (r : Rat) : (0 : Int) < (r.den : Int) := by
  have := r.den_nz
  omega
theorem den_ne (r : Rat) : ((r.den : Nat) : Int) ≠ 0 := by
  have := den_pos r
  omega
theorem bd_of {n d : Int} {k : Nat} (hd : d ≠ 0) (h1 : n.natAbs < 2 ^ k) (h2 : d.natAbs < 2 ^ k) : Bd k (Rat.divInt n d) := by
  obtain ⟨p, q, e, l1, l2, _⟩ := rd2_le (n := n) hd
  rw [rat_rd hd] at e
  have e1 : (Rat.divInt n d).num = p := by injection e
  have e2 : ((Rat.divInt n d).den : Int) = q := by
    injection e with _ e
    injection e
  refine ⟨by rw [e1]; omega, ?_⟩
  have : (Rat.divInt n d).den = q.natAbs := by rw [← e2]; rfl
  omega
theorem add_div (r s : Rat) : r + s = Rat.divInt (r.num * s.den + s.num * r.den) (r.den * s.den) := by
  rw [Rat.add_def', Rat.divInt_eq_div, Rat.mkRat_eq_div]
  rfl
theorem sub_div (r s : Rat) : r - s = Rat.divInt (r.num * s.den - s.num * r.den) (r.den * s.den) := by
  rw [Rat.sub_def', Rat.divInt_eq_div, Rat.mkRat_eq_div]
  rfl
theorem mul_div (r s : Rat) : r * s = Rat.divInt (r.num * s.num) (r.den * s.den) := by
  rw [Rat.mul_def', Rat.divInt_eq_div, Rat.mkRat_eq_div]
  rfl
theorem dd_ne (r s : Rat) : ((r.den : Int) * (s.den : Int)) ≠ 0 := Int.mul_ne_zero (den_ne r) (den_ne s)
theorem pow_two_add (a b : Nat) : (2 : Nat) ^ (a + b + 1) = 2 * 2 ^ (a + b) := by
  rw [Nat.pow_succ, Nat.mul_comm]
theorem wl {x y : Int} {a b : Nat} (h : x.natAbs < 2 ^ a) (h2 : y.natAbs < 2 ^ b) : (x * y).natAbs < 2 ^ (a + b) := by
  rw [Int.natAbs_mul, Nat.pow_add]
  exact Nat.mul_lt_mul'' h h2
theorem Bd.mul {a b : Nat} {r s : Rat} (h : Bd a r) (h2 : Bd b s) : Bd (a + b) (r * s) := by
  rw [mul_div]
  exact bd_of (dd_ne r s) (wl h.1 h2.1) (wl h.den h2.den)
theorem Bd.add {a b : Nat} {r s : Rat} (h : Bd a r) (h2 : Bd b s) : Bd (a + b + 1) (r + s) := by
  rw [add_div]
  have e := pow_two_add a b
  have w1 := wl h.1 h2.den
  have w2 := wl h2.1 h.den
  have w3 := wl h.den h2.den
  rw [Nat.add_comm b a] at w2
  have := Int.natAbs_add_le (r.num * (s.den : Int)) (s.num * (r.den : Int))
  exact bd_of (dd_ne r s) (by omega) (by omega)
theorem Bd.sub {a b : Nat} {r s : Rat} (h : Bd a r) (h2 : Bd b s) : Bd (a + b + 1) (r - s) := by
  rw [sub_div]
  have e := pow_two_add a b
  have w1 := wl h.1 h2.den
  have w2 := wl h2.1 h.den
  have w3 := wl h.den h2.den
  rw [Nat.add_comm b a] at w2
  have := Int.natAbs_sub_le (r.num * (s.den : Int)) (s.num * (r.den : Int))
  exact bd_of (dd_ne r s) (by omega) (by omega)
theorem Bd.neg {a : Nat} {r : Rat} (h : Bd a r) : Bd a (-r) := by
  refine ⟨?_, ?_⟩
  · rw [Rat.neg_num, Int.natAbs_neg]
    exact h.1
  · rw [Rat.neg_den]
    exact h.2
theorem bd_zero : Bd 1 0 := ⟨by decide, by decide⟩
theorem bd_one : Bd 1 1 := ⟨by decide, by decide⟩
def pdr (r : Rat) : PyData := pd2 r.num (r.den : Int)
theorem dpr {K : PySem.W.Frag} {H : Hp} {a : Addr} {r : Rat} (h : Fx K H a r) : Dp K H (.ref a) (pdr r) := dp2 h
theorem eqvr (r s : Rat) : PyData.eqv (pdr r) (pdr s) = decide (r = s) := by
  unfold pdr pd2
  simp only [PyData.eqv, PyData.eqvAll, Bool.and_true]
  by_cases h : r = s
  · subst h
    simp
  · rw [decide_eq_false h]
    by_cases h1 : r.num = s.num
    · have h2 : ¬ r.den = s.den := fun z => h (Rat.ext h1 z)
      simp [h1]
      omega
    · simp [h1]
/-- a row of fractions: where each stands, what it is -/
def Rx (K : PySem.W.Frag) (H : Hp) (ws : List (Addr × Rat)) : Prop := ∀ w ∈ ws, Fx K H w.1 w.2
def fr (ws : List (Addr × Rat)) : List V := ws.map fun w => V.ref w.1
theorem Rx.same {K : PySem.W.Frag} {H H' : Hp} {ws : List (Addr × Rat)} (h : Rx K H ws) (s : Same H H') : Rx K H' ws := fun w hw => (h w hw).same s
theorem fr_len (ws : List (Addr × Rat)) : (fr ws).length = ws.length := List.length_map _
theorem fr_get {ws : List (Addr × Rat)} {i : Nat} {v : V} (h : (fr ws)[i]? = some v) : ∃ w, v = .ref w.1 ∧ ws[i]? = some w := by
  rw [show fr ws = ws.map fun w => V.ref w.1 from rfl, List.getElem?_map] at h
  cases e : ws[i]? with
  | none =>
    rw [e] at h
    cases h
  | some w =>
    rw [e] at h
    exact ⟨w, (Option.some.inj h).symm, rfl⟩
theorem fr_at {ws : List (Addr × Rat)} {i : Nat} {r : Rat} (h : (ws.map (·.2))[i]? = some r) : ∃ t, (fr ws)[i]? = some (.ref t) ∧ (t, r) ∈ ws := by
  rw [List.getElem?_map] at h
  cases e : ws[i]? with
  | none =>
    rw [e] at h
    cases h
  | some w =>
    rw [e] at h
    have : w.2 = r := Option.some.inj h
    subst this
    refine ⟨w.1, ?_, List.mem_of_getElem? e⟩
    rw [show fr ws = ws.map fun w => V.ref w.1 from rfl, List.getElem?_map, e]
    rfl
theorem dpAll {K : PySem.W.Frag} {H : Hp} : ∀ {ws : List (Addr × Rat)}, Rx K H ws → DpAll K H (fr ws) ((ws.map (·.2)).map pdr)
  | [], _ => .nil
  | w :: ws, h => .cons (dpr (h w List.mem_cons_self)) (dpAll fun x hx => h x (List.mem_cons_of_mem _ hx))
theorem eqvAllr : ∀ rs ss : List Rat, PyData.eqvAll (rs.map pdr) (ss.map pdr) = decide (rs = ss)
  | [], [] => rfl
  | [], _ :: _ => rfl
  | _ :: _, [] => rfl
  | r :: rs, s :: ss => by
    rw [List.map_cons, List.map_cons, PyData.eqvAll, eqvr, eqvAllr rs ss]
    by_cases h1 : r = s
    · by_cases h2 : rs = ss
      · simp [h1, h2]
      · simp [h1, h2]
    · simp [h1]
theorem shr (rs : List Rat) : PyData.canLayAll0 (rs.map pdr) = true ∧ PyData.depthAll (rs.map pdr) ≤ 1 := by
  induction rs with
  | nil => decide
  | cons r rs ih =>
    rw [List.map_cons, PyData.canLayAll0, PyData.depthAll, ih.1]
    exact ⟨rfl, Nat.max_le.mpr ⟨Nat.le_refl 1, ih.2⟩⟩
theorem shrl (rs : List Rat) : SeqAt.shaped (.list (rs.map pdr)) = true := by
  have h1 := (shr rs).1
  have h2 := (shr rs).2
  unfold SeqAt.shaped
  rw [PyData.canLay0, PyData.depth, h1, decide_eq_true (by omega)]
  rfl
theorem shrt (rs : List Rat) : SeqAt.shaped (.tuple (rs.map pdr)) = true := by
  have h1 := (shr rs).1
  have h2 := (shr rs).2
  unfold SeqAt.shaped
  rw [PyData.canLay0, PyData.depth, h1, decide_eq_true (by omega)]
  rfl
/-- a value along parameters: its base, its slopes -/
def Vx (K : PySem.W.Frag) (H : Hp) (t : Addr) (b : Rat) (ss : List Rat) : Prop := ∃ (p q : Addr) (ws : List (Addr × Rat)), SqT K H t [.ref p, .ref q] ∧ Fx K H p b ∧ SqT K H q (fr ws) ∧ Rx K H ws ∧ ws.map (·.2) = ss
theorem Vx.same {K : PySem.W.Frag} {H H' : Hp} {t : Addr} {b : Rat} {ss : List Rat} (h : Vx K H t b ss) (s : Same H H') : Vx K H' t b ss := by
  obtain ⟨p, q, ws, h1, h2, h3, h4, h5⟩ := h
  exact ⟨p, q, ws, same_tup s h1, h2.same s, same_tup s h3, h4.same s, h5⟩
def pdv (b : Rat) (ss : List Rat) : PyData := .tuple [pdr b, .tuple (ss.map pdr)]
theorem dpv {K : PySem.W.Frag} {H : Hp} {t : Addr} {b : Rat} {ss : List Rat} (h : Vx K H t b ss) : Dp K H (.ref t) (pdv b ss) := by
  obtain ⟨p, q, ws, h1, h2, h3, h4, rfl⟩ := h
  exact .tup h1 (.cons (dpr h2) (.cons (.tup h3 (dpAll h4)) .nil))
theorem eqvv (b c : Rat) (ss us : List Rat) : PyData.eqv (pdv b ss) (pdv c us) = decide (b = c ∧ ss = us) := by
  unfold pdv
  rw [PyData.eqv, PyData.eqvAll, PyData.eqvAll, PyData.eqvAll, eqvr, PyData.eqv, eqvAllr]
  by_cases h1 : b = c
  · by_cases h2 : ss = us
    · simp [h1, h2]
    · simp [h1, h2]
  · simp [h1]
theorem shv (b : Rat) (ss : List Rat) : SeqAt.shaped (pdv b ss) = true := by
  have h1 := (shr ss).1
  have h2 := (shr ss).2
  unfold SeqAt.shaped pdv
  simp only [PyData.canLay0, PyData.canLayAll0, PyData.depth, PyData.depthAll, h1, pdr, pd2]
  simp
  omega
theorem sh1 (r : Rat) : SeqAt.shaped (pdr r) = true := rfl
theorem over_tup {K : PySem.W.Frag} {H H' : Hp} {t D : Addr} {xs ys : List V} (h : SqT K H t xs) (hl : H D = some (.lst ys)) (s : ∀ b o, b ≠ D → H b = some o → H' b = some o) : SqT K H' t xs := by
  rcases h with (h | ⟨ob, h⟩) | h
  · exact .inl (.inl (s _ _ (ne_of h hl (by intro z; cases z)) h))
  · exact .inl (.inr ⟨ob, s _ _ (ne_of h hl (by intro z; cases z)) h⟩)
  · exact .inr h
/-- a comprehension whose elements are fractions: those of L -/
theorem lc_row {K : PySem.W.Frag} {J : It} {n : Nat} {G : Hp → Prop} {Y : Nat → Hp → V → Hp → Prop} (w : Walk J n G Y) (L : List Rat) (hL : L.length = n) (hz : n ≤ 1000)
    {g : TG} {te : TE} {vs : List Nat} {σ : L2.St} {H1 : Hp} {D : Addr} {Qd : Hp → Prop} (hD : H1 D = none) (hG : ∀ H, Same H1 H → G H)
    (hs : ∀ i r x H H' (k : V → Hp → Prop), L[i]? = some r → Same H1 H → Y i H x H' → (∀ t H4, Same H H4 → Fx K H4 t r → k (.ref t) H4) → g x (wipe σ vs) H' fun σ2 H2 => wipe σ2 vs = wipe σ vs ∧ te σ2 H2 k)
    (hd : ∀ H ws, Same H1 H → H D = some (.lst (fr ws)) → Rx K H ws → ws.map (·.2) = L → Qd H) :
    ∃ W : Nat → Nat → Hp → Prop, (∃ m, W 0 m (upd H1 D (.lst []))) ∧ ∀ i m H, W i m H →
      (J.stop i H ∧ Qd H) ∨ (J.go i H ∧ ∃ Nx : Hp → Prop, (∀ H', Nx H' → ∃ m', m' < m ∧ W (i + 1) m' H') ∧ ∀ x H', J.yld i H x H' → g x (wipe σ vs) H' fun σ2 H2 => wipe σ2 vs = wipe σ vs ∧ tYes σ2 H2 fun b H3 =>
        if b = true then te σ2 H3 fun y H4 => ∃ acc, H4 D = some (.lst acc) ∧ acc.length < sizeLine ∧ Nx (upd H4 D (.lst (acc ++ [y]))) else Nx H3) := by
  subst hL
  refine lc_it w (fun i H => Same H1 H ∧ ∃ ws, H D = some (.lst (fr ws)) ∧ Rx K H ws ∧ ws.map (·.2) = L.take i) ⟨same_upd hD, [], upd_same, (fun _ z => nomatch z), rfl⟩ (fun i H _ h => hG H h.1) ?_ ?_
  · rintro i x H H' hi ⟨s1, ws, e1, r1, m1⟩ y
    have hr : L[i]? = some L[i] := List.getElem?_eq_getElem hi
    have q := hs i L[i] x H H' (fun y H4 => ∃ acc, H4 D = some (.lst acc) ∧ acc.length < sizeLine ∧ (fun H => Same H1 H ∧ ∃ ws, H D = some (.lst (fr ws)) ∧ Rx K H ws ∧ ws.map (·.2) = L.take (i + 1)) (upd H4 D (.lst (acc ++ [y])))) hr s1 y (fun t H4 s4 f4 => ?_)
    · refine Eq.mp (congrArg (g x (wipe σ vs) H') ?_) q
      funext σ2 H2
      simp [tYes]
    · have e4 := s4 _ _ e1
      have hlen : ws.length = (L.take i).length := by rw [← m1, List.length_map]
      rw [List.length_take] at hlen
      refine ⟨fr ws, e4, ?_, fun b o e => ?_, ws ++ [(t, L[i])], ?_, fun v hv => ?_, ?_⟩
      · rw [fr_len]
        exact small1000 (by omega)
      · rw [upd_ne (ne_of_none e hD)]
        exact s4 _ _ (s1 _ _ e)
      · rw [upd_same, show fr (ws ++ [(t, L[i])]) = fr ws ++ [.ref t] from List.map_append]
      · rcases List.mem_append.mp hv with h | h
        · exact over_tup ((r1.same s4) v h) e4 fun b o hb e => by rw [upd_ne hb]; exact e
        · rw [List.mem_singleton.mp h]
          exact over_tup f4 e4 fun b o hb e => by rw [upd_ne hb]; exact e
      · rw [List.map_append, m1, List.take_add_one, hr]
        rfl
  · rintro H ⟨s1, ws, e1, r1, m1⟩
    rw [List.take_length] at m1
    exact hd H ws s1 e1 r1 m1
/-- a comprehension whose elements are plain values: those of L -/
theorem lc_val {J : It} {n : Nat} {G : Hp → Prop} {Y : Nat → Hp → V → Hp → Prop} (w : Walk J n G Y) (L : List V) (hL : L.length = n) (hz : n ≤ 1000)
    {g : TG} {te : TE} {vs : List Nat} {σ : L2.St} {H1 : Hp} {D : Addr} {Qd : Hp → Prop} (hD : H1 D = none) (hG : ∀ H, Same H1 H → G H)
    (hs : ∀ i r x H H' (k : V → Hp → Prop), L[i]? = some r → Same H1 H → Y i H x H' → (∀ H4, Same H H4 → k r H4) → g x (wipe σ vs) H' fun σ2 H2 => wipe σ2 vs = wipe σ vs ∧ te σ2 H2 k)
    (hd : ∀ H, Same H1 H → H D = some (.lst L) → Qd H) :
    ∃ W : Nat → Nat → Hp → Prop, (∃ m, W 0 m (upd H1 D (.lst []))) ∧ ∀ i m H, W i m H →
      (J.stop i H ∧ Qd H) ∨ (J.go i H ∧ ∃ Nx : Hp → Prop, (∀ H', Nx H' → ∃ m', m' < m ∧ W (i + 1) m' H') ∧ ∀ x H', J.yld i H x H' → g x (wipe σ vs) H' fun σ2 H2 => wipe σ2 vs = wipe σ vs ∧ tYes σ2 H2 fun b H3 =>
        if b = true then te σ2 H3 fun y H4 => ∃ acc, H4 D = some (.lst acc) ∧ acc.length < sizeLine ∧ Nx (upd H4 D (.lst (acc ++ [y]))) else Nx H3) := by
  subst hL
  refine lc_it w (fun i H => Same H1 H ∧ H D = some (.lst (L.take i))) ⟨same_upd hD, upd_same⟩ (fun i H _ h => hG H h.1) ?_ ?_
  · rintro i x H H' hi ⟨s1, e1⟩ y
    have hr : L[i]? = some L[i] := List.getElem?_eq_getElem hi
    have q := hs i L[i] x H H' (fun y H4 => ∃ acc, H4 D = some (.lst acc) ∧ acc.length < sizeLine ∧ (fun H => Same H1 H ∧ H D = some (.lst (L.take (i + 1)))) (upd H4 D (.lst (acc ++ [y])))) hr s1 y (fun H4 s4 => ?_)
    · refine Eq.mp (congrArg (g x (wipe σ vs) H') ?_) q
      funext σ2 H2
      simp [tYes]
    · have e4 := s4 _ _ e1
      refine ⟨L.take i, e4, ?_, fun b o e => ?_, ?_⟩
      · rw [List.length_take]
        exact small1000 (by omega)
      · rw [upd_ne (ne_of_none e hD)]
        exact s4 _ _ (s1 _ _ e)
      · rw [upd_same, List.take_add_one, hr]
        rfl
  · rintro H ⟨s1, e1⟩
    rw [List.take_length] at e1
    exact hd H s1 e1
def sumR (l : List Rat) : Rat := l.foldl (· + ·) 0
theorem foldl_sum (b : Rat) (l : List Rat) : l.foldl (· + ·) b = b + sumR l := by
  unfold sumR
  induction l generalizing b with
  | nil => exact (Rat.add_zero b).symm
  | cons x l ih =>
    rw [List.foldl_cons, List.foldl_cons, ih, ih (0 + x)]
    grind
theorem sum_bd {n : Nat} {l : List Rat} (h : ∀ r ∈ l, Bd n r) : ∀ i ≤ l.length, Bd (1 + (n + 1) * i) (sumR (l.take i)) := by
  intro i
  induction i with
  | zero =>
    intro _
    exact bd_zero
  | succ i ih =>
    intro hi
    have e : l[i]? = some l[i] := List.getElem?_eq_getElem (by omega)
    have b1 := ih (by omega)
    have b2 := h l[i] (List.getElem_mem _)
    have e2 : sumR (l.take (i + 1)) = sumR (l.take i) + l[i] := by
      unfold sumR
      rw [List.take_add_one, e, List.foldl_append]
      rfl
    rw [e2]
    refine (b1.add b2).up ?_
    rw [Nat.mul_succ]
    omega

section
open PySem PySem.Spec PyProof.Rows
/-- a tuple, once: itself -/
theorem mul_once (l : Addr) (its : Array Value) (n : Nat) (dt : Option Addr) (sl : Array (Option Value)) (u : Tok) :
    Meets (Builtin.«tuple.__mul__» ⟨[.ref l, .int 1 u], []⟩) (fun _ R s => s.heap.get? l = some { cls := .type "tuple", dict := dt, data := .seq its n, slots := sl } ∧ R (.ok (.ret (Value.ref l))) s) :=
  .of_wp fun prog w A R s h => by
    obtain ⟨hp, g, dw, tk, os⟩ := s; obtain ⟨hl, h⟩ := h
    have ix := AutoSeq1.idx_int
    wp_walk using wpAny_loadPart' hl
    exact ⟨_, rfl, h⟩
/-- a tuple, no times: an empty one -/
theorem mul_none (l : Addr) (its : Array Value) (n : Nat) (dt : Option Addr) (sl : Array (Option Value)) (u : Tok) (hi : its.isEmpty = false) :
    Meets (Builtin.«tuple.__mul__» ⟨[.ref l, .int 0 u], []⟩) (fun _ R s => s.heap.get? l = some { cls := .type "tuple", dict := dt, data := .seq its n, slots := sl } ∧
      R (.ok (.ret (Value.ref s.heap.objs.size))) { s with heap := s.heap.push { cls := Value.type "tuple", data := Data.seq #[] }, toks := s.toks }) :=
  .of_wp fun prog w A R s h => by
    obtain ⟨hp, g, dw, tk, os⟩ := s; obtain ⟨hl, h⟩ := h
    have ix := AutoSeq1.idx_int
    have c1 : (its.isEmpty || (0 : Int) == 1) = false := by rw [hi]; rfl
    wp_walk using wpAny_loadPart' hl
    repeat (first
      | (refine wpAny_ite_false (decide_eq_false (by rw [c1]; exact Bool.false_ne_true)) ?_; wp_walk using wpAny_loadPart' hl))
    exact ⟨_, rfl, h⟩
section
variable {X : Cx}
theorem op_mulOnce : OpR X (binaryOp .Mult) (fun x y H Q => ∃ l xs, x = .ref l ∧ y = .int 1 ∧ SqT X.K H l xs ∧ Q (.ref l) H) := by
  intro pins s σ H x y v u Q I rx ry hh
  obtain ⟨l, xs, rfl, rfl, hT, q⟩ := hh
  obtain rfl : v = .ref l := rx
  obtain ⟨tk1, rfl⟩ := ry
  obtain ⟨its, r, ⟨⟨kl, dt, da, sl⟩, ho, hc, n, hd⟩, _⟩ := I.tuple hT
  dsimp only at hc hd; subst hc hd
  exact wpAny_binaryOp_repeat_ref (T := "tuple") (U := "int") (by decide) ⟨_, ho, rfl⟩ (fun s' => typeIs_int s' 1 tk1) noFill_tuple_mul F.fills_int_mul F.slot_int_rmul repeat_tuple F.slot_int_index.lookup
    (call_meets F.slot_int_rmul (typeIs_int s 1 tk1) F.entry_int_rmul (F.args_int_rmul_2 _ _) (int_rmul_tuple 1 tk1 l its.toArray n dt sl)
      ⟨ho, rfl, ⟨_, ho, rfl⟩, call_meets F.slot_tuple_mul ⟨_, ho, rfl⟩ F.entry_tuple_mul (F.args_tuple_mul_2 _ _) (mul_once l its.toArray n dt sl tk1) ⟨ho, ⟨.ref l, H, I, rfl, q⟩⟩⟩)
theorem op_mulNone : OpR X (binaryOp .Mult) (fun x y H Q => ∃ l xs, x = .ref l ∧ y = .int 0 ∧ SqT X.K H l xs ∧ xs ≠ [] ∧ ∀ p, H p = none → Q (.ref p) (upd H p (.tup []))) := by
  intro pins s σ H x y v u Q I rx ry hh
  obtain ⟨l, xs, rfl, rfl, hT, hne, q⟩ := hh
  obtain rfl : v = .ref l := rx
  obtain ⟨tk1, rfl⟩ := ry
  obtain ⟨its, r, ⟨⟨kl, dt, da, sl⟩, ho, hc, n, hd⟩, _⟩ := I.tuple hT
  dsimp only at hc hd; subst hc hd
  have hi : its.toArray.isEmpty = false := by
    cases r with
    | nil => exact absurd rfl hne
    | cons _ _ => rfl
  exact wpAny_binaryOp_repeat_ref (T := "tuple") (U := "int") (by decide) ⟨_, ho, rfl⟩ (fun s' => typeIs_int s' 0 tk1) noFill_tuple_mul F.fills_int_mul F.slot_int_rmul repeat_tuple F.slot_int_index.lookup
    (call_meets F.slot_int_rmul (typeIs_int s 0 tk1) F.entry_int_rmul (F.args_int_rmul_2 _ _) (int_rmul_tuple 0 tk1 l its.toArray n dt sl)
      ⟨ho, rfl, ⟨_, ho, rfl⟩, call_meets F.slot_tuple_mul ⟨_, ho, rfl⟩ F.entry_tuple_mul (F.args_tuple_mul_2 _ _) (mul_none l its.toArray n dt sl tk1 hi) ⟨ho,
        ⟨.ref s.heap.objs.size, _, I.laid (t' := s.toks) (o := .tup []) (fun b ob e => Heap.get?_push_of_some _ e) (Nat.le_refl _) ⟨by show 0 ≤ sizeLine; decide, [], .nil, IsTup.new _ _⟩, rfl, q _ (I.hok.fresh (Nat.le_refl _))⟩⟩⟩)
end
end

def Bz (n : Nat) (x : Int) : Prop := x.natAbs < 2 ^ n
theorem Bz.up {n m : Nat} {x : Int} (h : Bz n x) (hm : n ≤ m) : Bz m x := Nat.lt_of_lt_of_le h (Nat.pow_le_pow_right (by decide) hm)
theorem Bz.mul {n m : Nat} {x y : Int} (h : Bz n x) (h2 : Bz m y) : Bz (n + m) (x * y) := wide_lt h h2
theorem Bz.neg {n : Nat} {x : Int} (h : Bz n x) : Bz n (-x) := by
  unfold Bz
  rw [Int.natAbs_neg]
  exact h
theorem Bz.add {n m : Nat} {x y : Int} (h : Bz n x) (h2 : Bz m y) : Bz (max n m + 1) (x + y) := by
  have a1 := h.up (Nat.le_max_left n m)
  have a2 := h2.up (Nat.le_max_right n m)
  unfold Bz at *
  rw [Nat.pow_succ]
  have := Int.natAbs_add_le x y
  omega
theorem Bz.sub {n m : Nat} {x y : Int} (h : Bz n x) (h2 : Bz m y) : Bz (max n m + 1) (x - y) := h.add h2.neg
theorem Bz.wide {n m : Nat} {x y : Int} (h : Bz n x) (h2 : Bz m y) (hn : n + m ≤ 900000) : CMulW x y :=
  wide_mul (h.up (Nat.le_succ n)) (h2.up (Nat.le_succ m)) (Nat.succ_pos _) (Nat.succ_pos _) (by omega)
theorem Bd.nz {n : Nat} {r : Rat} (h : Bd n r) : Bz n r.num := h.1
theorem Bd.dz {n : Nat} {r : Rat} (h : Bd n r) : Bz n (r.den : Int) := h.2
theorem bz_of {n : Nat} {x : Int} (h : x.natAbs < 2 ^ n) : Bz n x := h
theorem bz_lt {n : Nat} {x : Int} {b : Nat} (hb : b ≤ 2 ^ n) (h : x.natAbs < b) : Bz n x := Nat.lt_of_lt_of_le h hb
theorem bd_div {n d : Int} {k : Nat} (hd : d ≠ 0) (h1 : Bz k n) (h2 : Bz k d) : Bd k (Rat.divInt n d) := bd_of hd h1 h2
theorem tn {n : Nat} (h : Nat.ble n 1000 = true) : n ≤ sizeLine := Nat.le_trans (Nat.le_of_ble_eq_true h) (by decide)
theorem same_hu {H H' : Hp} {p : Addr} {o : HO} (h : upd H p o = H') (n : H p = none) : Same H H' := h ▸ same_upd n
theorem at_hu {H H' : Hp} {p : Addr} {o : HO} (h : upd H p o = H') : H' p = some o := h ▸ upd_same
theorem same_tr {H H1 H2 : Hp} (h2 : Same H1 H2) (h1 : Same H H1) : Same H H2 := h1.trans h2
theorem fx_up {K : PySem.W.Frag} {H H' : Hp} {a : Addr} {r : Rat} (s : Same H H') (h : Fx K H a r) : Fx K H' a r := h.same s
theorem vx_up {K : PySem.W.Frag} {H H' : Hp} {a : Addr} {r : Rat} {ss : List Rat} (s : Same H H') (h : Vx K H a r ss) : Vx K H' a r ss := h.same s
theorem seq_up {K : PySem.W.Frag} {H H' : Hp} {a : Addr} {xs : List V} (s : Same H H') (h : SqL K H a xs) : SqL K H' a xs := s.seq h
local macro_rules | `(tactic| walk_at "ss") => `(tactic| first | exact Same.refl _ | assumption | exact same_tr (by assumption) (by walk_at "ss"))
local macro_rules | `(tactic| walk_at "bz") => `(tactic| first | assumption | exact Bd.nz (by assumption) | exact Bd.dz (by assumption) | exact Bz.mul (by walk_at "bz") (by walk_at "bz") | exact Bz.add (by walk_at "bz") (by walk_at "bz") | exact Bz.sub (by walk_at "bz") (by walk_at "bz") | exact Bz.neg (by walk_at "bz") | exact bz_of (n := 1) (by decide) | exact bz_of (n := 4) (by decide)| exact bz_of (n := 8) (by decide)| exact bz_of (n := 20) (by decide))
local macro_rules | `(tactic| walk_at "sm0") => `(tactic| assumption)
local macro_rules | `(tactic| walk_at "sm1") => `(tactic| first | assumption | exact same_tup (by assumption) (by walk_at "sm0"))
local macro_rules | `(tactic| walk_at "sm2") => `(tactic| first | assumption | exact same_tup (by assumption) (by walk_at "sm1"))
local macro_rules | `(tactic| walk_at "sm3") => `(tactic| first | assumption | exact same_tup (by assumption) (by walk_at "sm2"))
local macro_rules | `(tactic| walk_at "sm4") => `(tactic| first | assumption | exact same_tup (by assumption) (by walk_at "sm3"))
local macro_rules | `(tactic| walk_at "sm5") => `(tactic| first | assumption | exact same_tup (by assumption) (by walk_at "sm4"))
local macro_rules | `(tactic| walk_at "sm6") => `(tactic| first | assumption | exact same_tup (by assumption) (by walk_at "sm5"))
local macro_rules | `(tactic| walk_at "sm7") => `(tactic| first | assumption | exact same_tup (by assumption) (by walk_at "sm6"))
local macro_rules | `(tactic| walk_at "sm") => `(tactic| walk_at "sm7")
local macro_rules | `(tactic| walk_at "sf0") => `(tactic| assumption)
local macro_rules | `(tactic| walk_at "sf1") => `(tactic| first | assumption | exact fx_up (by assumption) (by walk_at "sf0") | exact vx_up (by assumption) (by walk_at "sf0") | exact seq_up (by assumption) (by walk_at "sf0"))
local macro_rules | `(tactic| walk_at "sf2") => `(tactic| first | assumption | exact fx_up (by assumption) (by walk_at "sf1") | exact vx_up (by assumption) (by walk_at "sf1") | exact seq_up (by assumption) (by walk_at "sf1"))
local macro_rules | `(tactic| walk_at "sf3") => `(tactic| first | assumption | exact fx_up (by assumption) (by walk_at "sf2") | exact vx_up (by assumption) (by walk_at "sf2") | exact seq_up (by assumption) (by walk_at "sf2"))
local macro_rules | `(tactic| walk_at "sf4") => `(tactic| first | assumption | exact fx_up (by assumption) (by walk_at "sf3") | exact vx_up (by assumption) (by walk_at "sf3") | exact seq_up (by assumption) (by walk_at "sf3"))
local macro_rules | `(tactic| walk_at "sf5") => `(tactic| first | assumption | exact fx_up (by assumption) (by walk_at "sf4") | exact vx_up (by assumption) (by walk_at "sf4") | exact seq_up (by assumption) (by walk_at "sf4"))
local macro_rules | `(tactic| walk_at "sf6") => `(tactic| first | assumption | exact fx_up (by assumption) (by walk_at "sf5") | exact vx_up (by assumption) (by walk_at "sf5") | exact seq_up (by assumption) (by walk_at "sf5"))
local macro_rules | `(tactic| walk_at "sf7") => `(tactic| first | assumption | exact fx_up (by assumption) (by walk_at "sf6") | exact vx_up (by assumption) (by walk_at "sf6") | exact seq_up (by assumption) (by walk_at "sf6"))
local macro_rules | `(tactic| walk_at "sf") => `(tactic| walk_at "sf7")
local macro_rules | `(tactic| walk_at "go") => `(tactic| repeat (first | refine ⟨_, rfl, ?_⟩ | refine ⟨rfl, ?_⟩ | refine ⟨_, _, rfl, rfl, ?_⟩ | refine ⟨Bz.wide (by walk_at "bz") (by walk_at "bz") (by decide), ?_⟩ | refine ⟨_, _, _, _, rfl, rfl, (by walk_at "sm"), atI_nat (j := 0) (by rfl), ?_⟩ | refine ⟨_, _, _, _, rfl, rfl, (by walk_at "sm"), atI_nat (j := 1) (by rfl), ?_⟩ | refine ⟨_, _, _, _, rfl, rfl, (by walk_at "sm"), atI_nat (j := 2) (by rfl), ?_⟩ | refine ⟨_, _, _, _, rfl, rfl, (by walk_at "sm"), atI_nat (j := 3) (by rfl), ?_⟩ | refine ⟨_, _, rfl, (by walk_at "sm"), (by rfl), ?_⟩ | refine ⟨⟨by decide, by decide⟩, ?_⟩ | refine ⟨(by show (0 : Int) < _; decide), ?_⟩ | refine ⟨Or.inr ⟨by decide, by decide⟩, ?_⟩ | refine ⟨Or.inl ⟨by decide, by decide⟩, ?_⟩ | refine Or.inl ⟨_, rfl, ?_⟩ | refine And.intro (by assumption) ?_ | refine ⟨_, _, rfl, ?_⟩))
/-- a comprehension whose elements are things of a kind R that stands while nothing but the new list changes -/
theorem lc_obj {J : It} {n : Nat} {G : Hp → Prop} {Y : Nat → Hp → V → Hp → Prop} (w : Walk J n G Y) (R : Nat → Hp → V → Prop)
    (stab : ∀ {i H H' v D acc}, R i H v → H D = some (.lst acc) → (∀ b o, b ≠ D → H b = some o → H' b = some o) → R i H' v) (hz : n ≤ 1000)
    {g : TG} {te : TE} {vs : List Nat} {σ : L2.St} {H1 : Hp} {D : Addr} {Qd : Hp → Prop} (hD : H1 D = none) (hG : ∀ H, Same H1 H → G H)
    (hs : ∀ i x H H' (k : V → Hp → Prop), i < n → Same H1 H → Y i H x H' → (∀ v H4, Same H H4 → R i H4 v → k v H4) → g x (wipe σ vs) H' fun σ2 H2 => wipe σ2 vs = wipe σ vs ∧ te σ2 H2 k)
    (hd : ∀ H us, Same H1 H → H D = some (.lst us) → us.length = n → (∀ i v, us[i]? = some v → R i H v) → Qd H) :
    ∃ W : Nat → Nat → Hp → Prop, (∃ m, W 0 m (upd H1 D (.lst []))) ∧ ∀ i m H, W i m H →
      (J.stop i H ∧ Qd H) ∨ (J.go i H ∧ ∃ Nx : Hp → Prop, (∀ H', Nx H' → ∃ m', m' < m ∧ W (i + 1) m' H') ∧ ∀ x H', J.yld i H x H' → g x (wipe σ vs) H' fun σ2 H2 => wipe σ2 vs = wipe σ vs ∧ tYes σ2 H2 fun b H3 =>
        if b = true then te σ2 H3 fun y H4 => ∃ acc, H4 D = some (.lst acc) ∧ acc.length < sizeLine ∧ Nx (upd H4 D (.lst (acc ++ [y]))) else Nx H3) := by
  refine lc_it w (fun i H => Same H1 H ∧ ∃ us, H D = some (.lst us) ∧ us.length = i ∧ ∀ j v, us[j]? = some v → R j H v) ⟨same_upd hD, [], upd_same, rfl, (fun j v h => by simp at h)⟩ (fun i H _ h => hG H h.1) ?_ ?_
  · rintro i x H H' hi ⟨s1, us, e1, l1, r1⟩ y
    have q := hs i x H H' (fun y H4 => ∃ acc, H4 D = some (.lst acc) ∧ acc.length < sizeLine ∧ (fun H => Same H1 H ∧ ∃ us, H D = some (.lst us) ∧ us.length = i + 1 ∧ ∀ j v, us[j]? = some v → R j H v) (upd H4 D (.lst (acc ++ [y])))) hi s1 y (fun v H4 s4 f4 => ?_)
    · refine Eq.mp (congrArg (g x (wipe σ vs) H') ?_) q
      funext σ2 H2
      simp [tYes]
    · have e4 := s4 _ _ e1
      refine ⟨us, e4, small1000 (by omega), fun b o e => ?_, us ++ [v], upd_same, by rw [List.length_append, l1]; rfl, fun j u hu => ?_⟩
      · rw [upd_ne (ne_of_none e hD)]
        exact s4 _ _ (s1 _ _ e)
      · by_cases hj : j < i
        · rw [List.getElem?_append_left (by omega)] at hu
          have hf := stab (r1 j u hu) e1 (fun b o _ e => s4 b o e)
          exact stab hf e4 fun b o hb e => by rw [upd_ne hb]; exact e
        · have hj2 : j < (us ++ [v]).length := (List.getElem?_eq_some_iff.mp hu).1
          rw [List.length_append, l1] at hj2
          have hj3 : j = i := by
            simp at hj2
            omega
          subst hj3
          rw [List.getElem?_append_right (by omega), l1, Nat.sub_self] at hu
          obtain rfl : v = u := Option.some.inj hu
          exact stab f4 e4 fun b o hb e => by rw [upd_ne hb]; exact e
  · rintro H ⟨s1, us, e1, l1, r1⟩
    exact hd H us s1 e1 l1 r1
theorem over_fx {K : PySem.W.Frag} {H H' : Hp} {t D : Addr} {r : Rat} {ys : List V} (h : Fx K H t r) (hl : H D = some (.lst ys)) (s : ∀ b o, b ≠ D → H b = some o → H' b = some o) : Fx K H' t r := over_tup h hl s
theorem over_vx {K : PySem.W.Frag} {H H' : Hp} {t D : Addr} {b : Rat} {ss : List Rat} {ys : List V} (h : Vx K H t b ss) (hl : H D = some (.lst ys)) (s : ∀ b o, b ≠ D → H b = some o → H' b = some o) : Vx K H' t b ss := by
  obtain ⟨p, q, ws, h1, h2, h3, h4, h5⟩ := h
  exact ⟨p, q, ws, over_tup h1 hl s, over_tup h2 hl s, over_tup h3 hl s, fun w hw => over_tup (h4 w hw) hl s, h5⟩

theorem zw_get {xs us : List Rat} {i : Nat} (h : i < xs.length) (h2 : i < us.length) : (List.zipWith (fun r s => r * s) xs us)[i]? = some (xs[i] * us[i]) := by
  rw [List.getElem?_zipWith, List.getElem?_eq_getElem h, List.getElem?_eq_getElem h2]
theorem zw_bd {n : Nat} {xs us : List Rat} (h1 : ∀ r ∈ xs, Bd n r) (h2 : ∀ r ∈ us, Bd n r) : ∀ r ∈ List.zipWith (fun r s => r * s) xs us, Bd (n + n) r := by
  induction xs generalizing us with
  | nil =>
    intro r hr
    cases us <;> cases hr
  | cons x xs ih =>
    cases us with
    | nil =>
      intro r hr
      cases hr
    | cons u us =>
      intro r hr
      rw [List.zipWith_cons_cons] at hr
      rcases List.mem_cons.mp hr with rfl | h
      · exact (h1 x List.mem_cons_self).mul (h2 u List.mem_cons_self)
      · exact ih (fun r hr => h1 r (List.mem_cons_of_mem _ hr)) (fun r hr => h2 r (List.mem_cons_of_mem _ hr)) r h
theorem take_sum {l : List Rat} {i : Nat} {r : Rat} (h : l[i]? = some r) : sumR (l.take (i + 1)) = sumR (l.take i) + r := by
  unfold sumR
  rw [List.take_add_one, h, List.foldl_append]
  rfl
theorem eqvv_self (b : Rat) (ss : List Rat) : PyData.eqv (pdv b ss) (pdv b ss) = true := by
  rw [eqvv]
  exact decide_eq_true ⟨rfl, rfl⟩
theorem eqvr_self (b : Rat) : PyData.eqv (pdr b) (pdr b) = true := by
  rw [eqvr]
  exact decide_eq_true rfl
theorem eqvl_self (ss : List Rat) : PyData.eqv (.list (ss.map pdr)) (.list (ss.map pdr)) = true := by
  rw [PyData.eqv, eqvAllr]
  exact decide_eq_true rfl
theorem zw_some {op : Rat → Rat → Rat} {xs ys : List Rat} {i : Nat} {c : Rat} (h : (List.zipWith op xs ys)[i]? = some c) : ∃ x y, xs[i]? = some x ∧ ys[i]? = some y ∧ op x y = c := by
  rw [List.getElem?_zipWith] at h
  cases e1 : xs[i]? with
  | none =>
    rw [e1] at h
    cases h
  | some x =>
    cases e2 : ys[i]? with
    | none =>
      rw [e1, e2] at h
      cases h
    | some y =>
      rw [e1, e2] at h
      exact ⟨x, y, rfl, rfl, Option.some.inj h⟩
theorem sum_cons (x : Rat) (l : List Rat) : sumR (x :: l) = x + sumR l := by
  show (x :: l).foldl (· + ·) 0 = _
  rw [List.foldl_cons, foldl_sum, Rat.zero_add]
theorem zw_add (us : List Rat) : ∀ {xs ys : List Rat}, xs.length = us.length → ys.length = us.length → sumR (List.zipWith (fun r s => r * s) (List.zipWith (fun r s => r + s) xs ys) us) = sumR (List.zipWith (fun r s => r * s) xs us) + sumR (List.zipWith (fun r s => r * s) ys us) := by
  induction us with
  | nil =>
    intro xs ys h1 h2
    rw [List.zipWith_nil_right, List.zipWith_nil_right, List.zipWith_nil_right]
    exact (Rat.add_zero 0).symm
  | cons u us ih =>
    intro xs ys h1 h2
    cases xs with
    | nil => cases h1
    | cons x xs =>
      cases ys with
      | nil => cases h2
      | cons y ys =>
        rw [List.zipWith_cons_cons, List.zipWith_cons_cons, List.zipWith_cons_cons, List.zipWith_cons_cons, sum_cons, sum_cons, sum_cons, ih (by simpa using h1) (by simpa using h2)]
        grind
theorem zw_sub (xs ys : List Rat) : List.zipWith (fun r s => r + s) xs (ys.map fun y => -1 * y) = List.zipWith (fun r s => r - s) xs ys := by
  rw [List.zipWith_map_right]
  congr 1
  funext r s
  grind
theorem neg_map (ys : List Rat) : (ys.map fun y => -1 * y) = ys.map fun y => -y := by
  congr 1
  funext y
  grind
theorem ind_sum : ∀ (us : List Rat) (m : Nat) (f : Nat → Rat), (∀ i, i ≠ m → f i = 0) → f m = 1 → ∀ u, us[m]? = some u → sumR (List.zipWith (fun r s => r * s) ((List.range us.length).map f) us) = u := by
  have hz : ∀ (us : List Rat) (f : Nat → Rat), (∀ i, f i = 0) → sumR (List.zipWith (fun r s => r * s) ((List.range us.length).map f) us) = 0 := by
    intro us
    induction us with
    | nil => intro f _; rfl
    | cons u us ih =>
      intro f hf
      rw [List.length_cons, List.range_succ_eq_map, List.map_cons, List.zipWith_cons_cons, sum_cons, List.map_map, hf 0]
      rw [show (f ∘ Nat.succ) = fun i => f (i + 1) from rfl, ih (fun i => f (i + 1)) (fun i => hf (i + 1))]
      grind
  intro us
  induction us with
  | nil =>
    intro m f _ _ u h
    cases h
  | cons v us ih =>
    intro m f hf hm u h
    rw [List.length_cons, List.range_succ_eq_map, List.map_cons, List.zipWith_cons_cons, sum_cons, List.map_map, show (f ∘ Nat.succ) = fun i => f (i + 1) from rfl]
    cases m with
    | zero =>
      obtain rfl : v = u := Option.some.inj h
      rw [hm, hz us (fun i => f (i + 1)) (fun i => hf (i + 1) (by omega))]
      grind
    | succ m =>
      rw [ih m (fun i => f (i + 1)) (fun i hi => hf (i + 1) (by omega)) hm u h, hf 0 (by omega)]
      grind
theorem all_rep {xs : List Rat} {n : Nat} (h : xs.length = n) (x : Rat) : (decide (x = 0) && xs.all fun y => decide (y = 0)) = decide (x = 0 ∧ xs = List.replicate n 0) := by
  have e : (xs.all fun y => decide (y = 0)) = decide (xs = List.replicate n 0) := by
    rw [Bool.eq_iff_iff, List.all_eq_true, decide_eq_true_iff, List.eq_replicate_iff]
    constructor
    · exact fun g => ⟨h, fun b hb => of_decide_eq_true (g b hb)⟩
    · exact fun g b hb => decide_eq_true (g.2 b hb)
  rw [e]
  by_cases h1 : x = 0
  · by_cases h2 : xs = List.replicate n 0
    · simp [h1, h2]
    · simp [h1, h2]
  · simp [h1]
theorem at_bd {x : Rat} {xs us : List Rat} (bx : Bd 30 x) (h1 : ∀ r ∈ xs, Bd 30 r) (h2 : ∀ r ∈ us, Bd 30 r) (hl : xs.length ≤ 9) : Bd 800 (x + sumR (List.zipWith (fun r s => r * s) xs us)) := by
  have b := sum_bd (zw_bd h1 h2) _ (Nat.le_refl _)
  rw [List.take_length] at b
  exact (bx.add b).up (by rw [List.length_zipWith]; omega)
theorem fx_lit {K : PySem.W.Frag} {H : Hp} {a : Addr} {r : Rat} {p q : Int} (h : H a = some (.tup [.int p, .int q])) (h1 : r.num = p) (h2 : (r.den : Int) = q) : Fx K H a r := by
  subst h1 h2
  exact SqT.of h
theorem eqvbb (a b : Bool) : PyData.eqv (.bool a) (.bool b) = (a == b) := by simp [PyData.eqv]

theorem iteF' {b : Bool} {p q : Prop} (h : b = false) (hq : q) : if b = true then p else q := by
  rw [h, if_neg Bool.false_ne_true]
  exact hq
theorem iteT' {b : Bool} {p q : Prop} (h : b = true) (hp : p) : if b = true then p else q := by
  rw [h, if_pos rfl]
  exact hp

section
open PySem PySem.Spec PySem.Calls PyProof.Rows PySem.W
/-- a list taken apart, one of the targets with a star -/
theorem tp_parts {prog : Program} {w : World} {A : Around} {E : Value → Shared → Prop} {s : Shared} {a : Addr} {its : Array Value} {n i : Nat} {Q : List Value → Shared → Prop} (hl : s.heap.IsList a its) (hh : A.handled = none) (hi : i < n) (hn : n ≤ its.size + 1) (hz : its.size ≤ 16384)
    (h : ∀ (h' : Heap) tk, (∀ b o, s.heap.get? b = some o → h'.get? b = some o) → Q (its.toList.take i ++ [.ref h'.objs.size] ++ (its.toList.drop i).drop (its.size + 1 - n)) { s with heap := h'.push { cls := .type "list", data := .seq ((its.toList.drop i).take (its.size + 1 - n)).toArray }, toks := tk }) :
    wpAny (model prog w) A (unpackItems (.ref a) n (some i)) Q E s := by
  have far : a ≠ s.heap.objs.size := by
    obtain ⟨o, ho, _⟩ := hl
    exact Nat.ne_of_lt (Heap.lt_size ho)
  unfold unpackItems
  refine wpAny_bind ?_
  unfold notIterableAtAll
  refine wpAny_bind (wpAny_specialOf hl.typeIs slot_list_iter.lookup ?_)
  refine wpAny_pure ?_
  simp only [Bool.false_eq_true, if_false]
  refine wpAny_bind (wpAny_holding (wpAny_pyIter_list hl ?_))
  refine wpAny_bind (wpAny_holding (kun_draw far i 0 _ _ ⟨_, Heap.get?_push_size _ rfl, rfl, rfl⟩ (hl.push _) (by omega) fun h1 it1 sb => ?_))
  have l1 : h1.IsList a its := (hl.push _).extBut sb.extBut far
  rw [Nat.zero_add] at it1
  obtain ⟨oi, hoi, _⟩ := id it1
  obtain ⟨ol, hol, _⟩ := id l1
  rw [List.drop_zero]
  have f1 : (its.toList.take i).length = i := by
    rw [List.length_take, Array.length_toList]
    omega
  rw [if_neg (by rw [f1]; exact Nat.lt_irrefl _)]
  refine wpAny_bind (wpAny_holding (kun_collect (s := { s with heap := h1 }) (T := "list_iterator") (.inr (.inr (.inl rfl))) (Walks.list (A := A.in1) hh s.heap.objs.size a far its) (fun j u st => st.1.typeIs) (k := i) (by omega) ⟨it1, l1⟩ (Heap.lt_size hoi) (Heap.lt_size hol) (fun h2 tk hk => ?_) (by rw [sizeLine_eq]; exact Nat.le_trans hz (by decide))))
  have f2 : (its.toList.drop i).length = its.size - i := by
    rw [List.length_drop, Array.length_toList]
  have f3 : (its.toList.drop i).length - (n - 1 - i) = its.size + 1 - n := by
    rw [f2]
    omega
  show wpAny _ _ (if (its.toList.drop i).length < n - 1 - i then _ else _) _ _ _
  rw [if_neg (by rw [f2]; omega)]
  show wpAny _ _ (newList ((its.toList.drop i).take ((its.toList.drop i).length - (n - 1 - i))) >>= fun d => pure (its.toList.take i ++ [d] ++ (its.toList.drop i).drop ((its.toList.drop i).length - (n - 1 - i)))) _ _ _
  rw [f3]
  have old : ∀ b o, s.heap.get? b = some o → h2.get? b = some o := fun b o e => by
    have nb : b ≠ s.heap.objs.size := Nat.ne_of_lt (Heap.lt_size e)
    exact hk b o nb (sb.extBut b o nb (Heap.get?_push_of_some _ e))
  refine wpAny_bind (PySem.wpAny_newList (wpAny_pure (h h2 tk old)) ?_)
  rw [List.length_take, f2, sizeLine_eq]
  omega
end
section
open PySem PySem.Spec PyProof.Rows
variable {X : Cx} {pos : Pos}
theorem vals_take {vs : List V} {us : List Value} (r : Vals vs us) (n : Nat) : Vals (vs.take n) (us.take n) := by
  induction r generalizing n with
  | nil =>
    rw [List.take_nil, List.take_nil]
    exact .nil
  | cons h t ih =>
    cases n with
    | zero => exact .nil
    | succ n => exact .cons h (ih n)
theorem vals_drop {vs : List V} {us : List Value} (r : Vals vs us) (n : Nat) : Vals (vs.drop n) (us.drop n) := by
  induction r generalizing n with
  | nil =>
    rw [List.drop_nil, List.drop_nil]
    exact .nil
  | cons h t ih =>
    cases n with
    | zero => exact .cons h t
    | succ n => exact ih n
theorem vals_app {vs ws : List V} {us ys : List Value} (r : Vals vs us) (q : Vals ws ys) : Vals (vs ++ ws) (us ++ ys) := by
  induction r with
  | nil => exact q
  | cons h t ih => exact .cons h ih
theorem pgs_star {e : Expr} {p : Pos} {es : List Expr} {t : TG} {u : TGs} (h1 : PG X e t) (h2 : PGs X es u)
    (hs : (assignEach (.Starred e p :: es) X.env).map (·.2) = assign e X.env :: (assignEach es X.env).map (·.2) := by rfl) : PGs X (.Starred e p :: es) (gCons t u) := by
  refine ⟨fun pins s σ H vs us Q I r h => ?_⟩
  obtain ⟨v, vr, e1, h⟩ := h
  subst e1
  cases r with
  | cons r rr =>
    rw [hs]
    refine assignInOrder_cons (thn (h1.run pins s σ H _ _ _ I r h) fun _ s1 ⟨σ1, H1, I1, q1⟩ => ?_)
    exact h2.run pins s1 σ1 H1 _ _ Q I1 rr q1
/-- (a, *b, ..) = a list, the star at place i of n -/
def gStar (K : PySem.W.Frag) (n i : Nat) (t : TGs) : TG := fun v σ H Q => ∃ a xs, v = .ref a ∧ SqL K H a xs ∧ n ≤ xs.length + 1 ∧ xs.length ≤ 16384 ∧
  ∀ D, H D = none → t (xs.take i ++ [.ref D] ++ (xs.drop i).drop (xs.length + 1 - n)) σ (upd H D (.lst ((xs.drop i).take (xs.length + 1 - n)))) Q
theorem pg_star {es : List Expr} {k : Nat} {t : TGs} {n i : Nat} (hc : X.calm = true) (h : PGs X es t)
    (hn : (assignEach es X.env).length = n := by rfl) (hst : (assignEach es X.env).findIdx? (·.1) = some i := by rfl) (hi : i < n := by decide) : PG X (.Tuple es k pos) (gStar X.K n i t) := by
  refine ⟨fun pins s σ H v u Q I r hw => ?_⟩
  obtain ⟨a, xs, e1, hq, hl, hm, hw⟩ := hw
  subst e1
  cases r
  obtain ⟨its, rv, pl, hz⟩ := I.list hq
  have hlen := rv.length
  have hl' : s.heap.IsList a its.toArray := pl.isList
  rw [PyProof.Rows.assign_Tuple]
  refine wpAny_bind (wpAny_standAt ?_)
  unfold unpack
  rw [hn, hst]
  refine wpAny_bind (wpAny_holding (tp_parts hl' (I.ok.hd hc) hi (by rw [List.size_toArray]; omega) (by rw [List.size_toArray]; omega) fun h' tk hx => ?_))
  have I1 : Inv X pins σ H { s with heap := h', toks := tk } := I.kept (t' := tk) hx
  have ez : its.toArray.size = xs.length := by rw [List.size_toArray, hlen]
  rw [ez, show its.toArray.toList = its from rfl]
  have I2 := I1.laid (a := h'.objs.size) (o := .lst ((xs.drop i).take (xs.length + 1 - n))) (h' := h'.push { cls := .type "list", data := .seq ((its.drop i).take (xs.length + 1 - n)).toArray }) (t' := tk) (fun b o e => Heap.get?_push_of_some _ e) (Nat.le_refl _)
    ⟨by
      rw [List.length_take, List.length_drop, PySem.sizeLine_eq]
      omega, _, 0, vals_take (vals_drop rv i) _, Heap.get?_push_size _ rfl⟩
  refine h.run pins _ σ _ _ _ Q I2 ?_ (hw _ (I1.hok.fresh (Nat.le_refl _)))
  exact vals_app (vals_app (vals_take rv i) (.cons rfl .nil)) (vals_drop (vals_drop rv i) _)
end

def Px (K : PySem.W.Frag) (H : Hp) (t : Addr) (r1 r2 r3 : Rat) : Prop := ∃ p q r : Addr, SqT K H t [.ref p, .ref q, .ref r] ∧ Fx K H p r1 ∧ Fx K H q r2 ∧ Fx K H r r3
theorem Px.same {K : PySem.W.Frag} {H H' : Hp} {t : Addr} {r1 r2 r3 : Rat} (h : Px K H t r1 r2 r3) (e : Same H H') : Px K H' t r1 r2 r3 := by
  obtain ⟨p, q, r, h1, h2, h3, h4⟩ := h
  exact ⟨p, q, r, same_tup e h1, h2.same e, h3.same e, h4.same e⟩
/-- the i-th of three -/
def th {α : Type} (a b c : α) : Nat → α
  | 0 => a
  | 1 => b
  | _ => c
theorem th_get {α : Type} {a b c : α} {i : Nat} {u : α} (h : [a, b, c][i]? = some u) : i < 3 ∧ u = th a b c i := by
  have hi : i < 3 := (List.getElem?_eq_some_iff.mp h).1
  refine ⟨hi, ?_⟩
  obtain rfl | rfl | rfl : i = 0 ∨ i = 1 ∨ i = 2 := by omega
  all_goals exact (Option.some.inj h).symm
theorem th_all {α : Type} {P : α → Prop} {a b c : α} (h1 : P a) (h2 : P b) (h3 : P c) (i : Nat) : P (th a b c i) := by
  unfold th
  split
  · exact h1
  · exact h2
  · exact h3
theorem div_one (n : Int) : Rat.divInt n 1 = (n : Rat) := by
  exact (Rat.divInt_ofNat n 1).trans (Rat.mkRat_one n)
theorem bd_int {n : Int} {k : Nat} (h : Bz k n) (hk : 0 < k) : Bd k (n : Rat) :=
  ⟨h, by
    show 1 < 2 ^ k
    exact Nat.one_lt_two_pow (by omega)⟩
theorem one3 {xs : List V} (h : xs.length = 3) : ∃ a b c, xs = [a, b, c] := by
  match xs, h with
  | [a, b, c], _ => exact ⟨a, b, c, rfl⟩
theorem one1 {xs : List V} (h : xs.length = 1) : ∃ a, xs = [a] := by
  match xs, h with
  | [a], _ => exact ⟨a, rfl⟩
/-- a point: its three fractions -/
structure Pt (K : PySem.W.Frag) (H : Hp) (t : Addr) (p1 q1 p2 q2 p3 q3 : Int) : Prop where
  ex : ∃ a b c : Addr, SqT K H t [.ref a, .ref b, .ref c] ∧ SqT K H a (zs [p1, q1]) ∧ SqT K H b (zs [p2, q2]) ∧ SqT K H c (zs [p3, q3])
  b1 : p1.natAbs < 2 ^ 100 ∧ p2.natAbs < 2 ^ 100 ∧ p3.natAbs < 2 ^ 100
  b2 : q1.natAbs < 2 ^ 100 ∧ q2.natAbs < 2 ^ 100 ∧ q3.natAbs < 2 ^ 100
  b3 : 0 < q1 ∧ 0 < q2 ∧ 0 < q3
theorem Pt.same {K : PySem.W.Frag} {H H' : Hp} {t : Addr} {p1 q1 p2 q2 p3 q3 : Int} (p : Pt K H t p1 q1 p2 q2 p3 q3) (s : Same H H') : Pt K H' t p1 q1 p2 q2 p3 q3 := by
  obtain ⟨a, b, c, h, h1, h2, h3⟩ := p.ex
  exact ⟨⟨a, b, c, same_tup s h, same_tup s h1, same_tup s h2, same_tup s h3⟩, p.b1, p.b2, p.b3⟩
/-- the product of a direction and a point, over one divisor -/
def rn (x y z p1 q1 p2 q2 p3 q3 : Int) : Int := x * p1 * q2 * q3 + y * p2 * q1 * q3 + z * p3 * q1 * q2
/-- a plane: its normal, its offset -/
structure Wl (K : PySem.W.Frag) (H : Hp) (w : Addr) (x y z p q : Int) : Prop where
  ex : ∃ u o : Addr, SqT K H w [.ref u, .ref o] ∧ SqT K H u (zs [x, y, z]) ∧ SqT K H o (zs [p, q])
theorem Wl.same {K : PySem.W.Frag} {H H' : Hp} {w : Addr} {x y z p q : Int} (h : Wl K H w x y z p q) (s : Same H H') : Wl K H' w x y z p q := by
  obtain ⟨u, o, h1, h2, h3⟩ := h.ex
  exact ⟨u, o, same_tup s h1, same_tup s h2, same_tup s h3⟩
/-- the side of a point: by its product brought to lowest terms -/
def sd (x y z p q p1 q1 p2 q2 p3 q3 : Int) : Int := sgn (rn x y z p1 q1 p2 q2 p3 q3 * q - p * (q1 * q2 * q3))
theorem sd_low {A B a b p q : Int} (f : Fr A B a b) (hB : 0 < B) (hq : 0 < q) : sgn ((a * q - p * b).fdiv (sg (a * q - p * b) (b * q))) = sgn (A * q - p * B) := by
  have b0 := f.q0
  rw [sgn_low (Int.mul_pos b0 hq)]
  have h1 : 0 < sg A B := sg_pos hB
  have e1 := f.hp
  have e2 := f.hq
  rw [← sgn_mul (a := a * q - p * b) h1]
  congr 1
  grind
theorem sd_low2 {A B a b p q : Int} (f : Fr A B a b) (hB : 0 < B) : sgn (a * q - p * b) = sgn (A * q - p * B) := by
  have h1 : 0 < sg A B := sg_pos hB
  have e1 := f.hp
  have e2 := f.hq
  rw [← sgn_mul (a := a * q - p * b) h1]
  congr 1
  grind
theorem rn_lt {x y z p1 q1 p2 q2 p3 q3 : Int} (bx : x.natAbs < 2 ^ 100) (bY : y.natAbs < 2 ^ 100) (bz : z.natAbs < 2 ^ 100) (h1 : p1.natAbs < 2 ^ 100 ∧ p2.natAbs < 2 ^ 100 ∧ p3.natAbs < 2 ^ 100) (h2 : q1.natAbs < 2 ^ 100 ∧ q2.natAbs < 2 ^ 100 ∧ q3.natAbs < 2 ^ 100) :
    (rn x y z p1 q1 p2 q2 p3 q3).natAbs < 2 ^ 402 ∧ (q1 * q2 * q3).natAbs < 2 ^ 402 := by
  obtain ⟨bp1, bp2, bp3⟩ := h1
  obtain ⟨bq1, bq2, bq3⟩ := h2
  have e1 := wide_lt (wide_lt (wide_lt bx bp1) bq2) bq3
  have e2 := wide_lt (wide_lt (wide_lt bY bp2) bq1) bq3
  have e3 := wide_lt (wide_lt (wide_lt bz bp3) bq1) bq2
  have d := wide_lt (wide_lt bq1 bq2) bq3
  have p : (2 : Nat) ^ 402 = 4 * 2 ^ (100 + 100 + 100 + 100) := by
    rw [show (402 : Nat) = 2 + (100 + 100 + 100 + 100) from rfl, Nat.pow_add]
  have pp2 : (2 : Nat) ^ (100 + 100 + 100) ≤ 2 ^ (100 + 100 + 100 + 100) := Nat.pow_le_pow_right (by decide) (by decide)
  have a1 := Int.natAbs_add_le (x * p1 * q2 * q3) (y * p2 * q1 * q3)
  have a2 := Int.natAbs_add_le (x * p1 * q2 * q3 + y * p2 * q1 * q3) (z * p3 * q1 * q2)
  unfold rn
  generalize (2 : Nat) ^ (100 + 100 + 100 + 100) = B at *
  omega
def dacc (x y z : Int) (r1 r2 r3 : Rat) : Nat → Rat
  | 0 => 0
  | i + 1 => dacc x y z r1 r2 r3 i + ((th x y z i : Int) : Rat) * th r1 r2 r3 i
def dot3 (x y z : Int) (r1 r2 r3 : Rat) : Rat := (x : Rat) * r1 + (y : Rat) * r2 + (z : Rat) * r3
theorem dacc_end (x y z : Int) (r1 r2 r3 : Rat) : dacc x y z r1 r2 r3 3 = dot3 x y z r1 r2 r3 := by
  simp only [dacc, th, dot3]
  rw [Rat.zero_add]
theorem dacc_bd {x y z : Int} {r1 r2 r3 : Rat} (x1 : Bz 20 x) (x2 : Bz 20 y) (x3 : Bz 20 z) (h1 : Bd 100 r1) (h2 : Bd 100 r2) (h3 : Bd 100 r3) : ∀ i, Bd (1 + 121 * i) (dacc x y z r1 r2 r3 i) := by
  intro i
  induction i with
  | zero => exact bd_zero
  | succ i ih =>
    have m := (bd_int (th_all (P := Bz 20) x1 x2 x3 i) (by decide)).mul (th_all (P := Bd 100) h1 h2 h3 i)
    exact (ih.add m).up (by omega)
theorem fx_int {K : PySem.W.Frag} {H : Hp} {t : Addr} {n : Int} (h : SqT K H t (zs [n, 1])) : Fx K H t (n : Rat) := h
/-- three fractions, as a tuple or a list -/
def P3 (K : PySem.W.Frag) (H : Hp) (t : Addr) (r1 r2 r3 : Rat) : Prop := ∃ p q r : Addr, (SqT K H t [.ref p, .ref q, .ref r] ∨ SqL K H t [.ref p, .ref q, .ref r]) ∧ Fx K H p r1 ∧ Fx K H q r2 ∧ Fx K H r r3
theorem P3.same {K : PySem.W.Frag} {H H' : Hp} {t : Addr} {r1 r2 r3 : Rat} (h : P3 K H t r1 r2 r3) (e : Same H H') : P3 K H' t r1 r2 r3 := by
  obtain ⟨p, q, r, h1, h2, h3, h4⟩ := h
  exact ⟨p, q, r, h1.imp (same_tup e) (fun h => e.seq h), h2.same e, h3.same e, h4.same e⟩
theorem bd_sum3 {x y z : Int} {r1 r2 r3 : Rat} {n m : Nat} (hn : 0 < n) (x1 : Bz n x) (x2 : Bz n y) (x3 : Bz n z) (h1 : Bd m r1) (h2 : Bd m r2) (h3 : Bd m r3) : Bd (3 * (n + m) + 2) (dot3 x y z r1 r2 r3) :=
  ((((bd_int x1 hn).mul h1).add ((bd_int x2 hn).mul h2)).add ((bd_int x3 hn).mul h3)).up (by omega)

theorem dot_div (x y z : Int) (r1 r2 r3 : Rat) : dot3 x y z r1 r2 r3 = Rat.divInt (rn x y z r1.num (r1.den : Int) r2.num (r2.den : Int) r3.num (r3.den : Int)) ((r1.den : Int) * (r2.den : Int) * (r3.den : Int)) := by
  have q : ∀ r : Rat, (r.num : Rat) / ((r.den : Int) : Rat) = r := fun r => by rw [← Rat.divInt_eq_div, Rat.num_divInt_den]
  have n : ∀ r : Rat, ((r.den : Int) : Rat) ≠ 0 := fun r z => den_ne r (Rat.intCast_inj.mp z)
  have h1 := q r1
  have h2 := q r2
  have h3 := q r3
  have d1 := n r1
  have d2 := n r2
  have d3 := n r3
  unfold dot3 rn
  rw [Rat.divInt_eq_div]
  simp only [Rat.intCast_add, Rat.intCast_mul]
  generalize (r1.num : Rat) = a1 at *
  generalize (r2.num : Rat) = a2 at *
  generalize (r3.num : Rat) = a3 at *
  generalize ((r1.den : Int) : Rat) = c1 at *
  generalize ((r2.den : Int) : Rat) = c2 at *
  generalize ((r3.den : Int) : Rat) = c3 at *
  subst h1 h2 h3
  grind
/-- the numbers of a plane -/
structure WI where
  x : Int
  y : Int
  z : Int
  r : Rat
def sdw (w : WI) (r1 r2 r3 : Rat) : Int := sd w.x w.y w.z w.r.num (w.r.den : Int) r1.num (r1.den : Int) r2.num (r2.den : Int) r3.num (r3.den : Int)
theorem sdw_dot (w : WI) (r1 r2 r3 : Rat) : sdw w r1 r2 r3 = sgn ((dot3 w.x w.y w.z r1 r2 r3).num * (w.r.den : Int) - w.r.num * ((dot3 w.x w.y w.z r1 r2 r3).den : Int)) := by
  have hd : (0 : Int) < (r1.den : Int) * (r2.den : Int) * (r3.den : Int) := Int.mul_pos (Int.mul_pos (den_pos r1) (den_pos r2)) (den_pos r3)
  obtain ⟨a, b, e, _, _, fr⟩ := rd2_le (n := rn w.x w.y w.z r1.num (r1.den : Int) r2.num (r2.den : Int) r3.num (r3.den : Int)) (d := (r1.den : Int) * (r2.den : Int) * (r3.den : Int)) (by omega)
  have e2 := rat_rd (n := rn w.x w.y w.z r1.num (r1.den : Int) r2.num (r2.den : Int) r3.num (r3.den : Int)) (d := (r1.den : Int) * (r2.den : Int) * (r3.den : Int)) (by omega)
  rw [← dot_div, e] at e2
  injection e2 with e3 e4
  injection e4 with e4
  rw [← e3, ← e4]
  unfold sdw sd
  exact (sd_low2 fr hd).symm
def WOk (K : PySem.W.Frag) (H : Hp) (t : Addr) (w : WI) : Prop := Wl K H t w.x w.y w.z w.r.num (w.r.den : Int)
def WBd (w : WI) : Prop := Bz 20 w.x ∧ Bz 20 w.y ∧ Bz 20 w.z ∧ Bd 20 w.r
def wr (ws : List (Addr × WI)) : List V := ws.map fun w => V.ref w.1
def WsX (K : PySem.W.Frag) (H : Hp) (ws : List (Addr × WI)) : Prop := ∀ w ∈ ws, WOk K H w.1 w.2
theorem WsX.same {K : PySem.W.Frag} {H H' : Hp} {ws : List (Addr × WI)} (h : WsX K H ws) (s : Same H H') : WsX K H' ws := fun w hw => Wl.same (h w hw) s
theorem wr_len (ws : List (Addr × WI)) : (wr ws).length = ws.length := List.length_map _
theorem wr_get {ws : List (Addr × WI)} {i : Nat} {v : V} (h : (wr ws)[i]? = some v) : ∃ w, v = .ref w.1 ∧ ws[i]? = some w := by
  rw [show wr ws = ws.map fun w => V.ref w.1 from rfl, List.getElem?_map] at h
  cases e : ws[i]? with
  | none =>
    rw [e] at h
    cases h
  | some w =>
    rw [e] at h
    exact ⟨w, (Option.some.inj h).symm, rfl⟩
theorem wr_at {ws : List (Addr × WI)} {i : Nat} {w : Addr × WI} (h : ws[i]? = some w) : (wr ws)[i]? = some (.ref w.1) := by
  rw [show wr ws = ws.map fun w => V.ref w.1 from rfl, List.getElem?_map, h]
  rfl
theorem Px.pt {K : PySem.W.Frag} {H : Hp} {t : Addr} {r1 r2 r3 : Rat} (h : Px K H t r1 r2 r3) (b1 : Bd 100 r1) (b2 : Bd 100 r2) (b3 : Bd 100 r3) : Pt K H t r1.num (r1.den : Int) r2.num (r2.den : Int) r3.num (r3.den : Int) :=
  ⟨h, ⟨b1.1, b2.1, b3.1⟩, ⟨b1.2, b2.2, b3.2⟩, ⟨den_pos r1, den_pos r2, den_pos r3⟩⟩
def tnI (s x : Int) : Int := if s < 0 then -x else x
def tnR (s : Int) (r : Rat) : Rat := if s < 0 then -r else r
def tnW (s : Int) (w : WI) : WI := ⟨tnI s w.x, tnI s w.y, tnI s w.z, tnR s w.r⟩
/-- whether two lists have at some place what is asked -/
def any2 (p : Rat → Int → Bool) (ms : List Rat) (sg : List Int) : Bool := (List.zipWith p ms sg).any id
def pN (m : Rat) (s : Int) : Bool := decide (s ≠ 0) && decide (sgn m.num < 0)
def pP (m : Rat) (s : Int) : Bool := decide (s ≠ 0) && decide (0 < sgn m.num)
/-- the sum of the parts, each times its multiplier -/
def tot (f : WI → Rat) (ws : List WI) (sg : List Int) (ms : List Rat) : Rat := sumR (List.zipWith (fun m q => m * q) ms (List.zipWith (fun w s => f (tnW s w)) ws sg))
def RP (ws : List WI) (sg : List Int) (ms : List Rat) : Bool :=
  decide (ms.length = ws.length) && (!any2 pN ms sg && (decide (tot (fun w => (w.x : Rat)) ws sg ms = 0) && (decide (tot (fun w => (w.y : Rat)) ws sg ms = 0) && (decide (tot (fun w => (w.z : Rat)) ws sg ms = 0) && (if any2 pP ms sg then decide (0 ≤ sgn (tot (fun w => w.r) ws sg ms).num) else decide (sgn (tot (fun w => w.r) ws sg ms).num ≠ 0))))))
def pdi (l : List Int) : PyData := .tuple (l.map PyData.int)
def pdil (l : List Int) : PyData := .list (l.map PyData.int)
theorem dpi_all {K : PySem.W.Frag} {H : Hp} : ∀ l : List Int, DpAll K H (zs l) (l.map PyData.int)
  | [] => .nil
  | x :: l => .cons (.int x) (dpi_all l)
theorem eqvi : ∀ l m : List Int, PyData.eqvAll (l.map PyData.int) (m.map PyData.int) = decide (l = m)
  | [], [] => rfl
  | [], _ :: _ => rfl
  | _ :: _, [] => rfl
  | x :: l, y :: m => by
    rw [List.map_cons, List.map_cons, PyData.eqvAll, eqvi l m, PyData.eqv]
    by_cases h1 : x = y
    · by_cases h2 : l = m
      · simp [h1, h2]
      · simp [h1, h2]
    · simp [h1]
theorem shi (l : List Int) : PyData.canLayAll0 (l.map PyData.int) = true ∧ PyData.depthAll (l.map PyData.int) = 0 := by
  induction l with
  | nil => decide
  | cons r rs ih =>
    rw [List.map_cons, PyData.canLayAll0, PyData.depthAll, ih.1, ih.2]
    exact ⟨rfl, rfl⟩
theorem shi_t (l : List Int) : SeqAt.shaped (pdi l) = true := by
  unfold SeqAt.shaped pdi
  rw [PyData.canLay0, PyData.depth, (shi l).1, (shi l).2]
  rfl
theorem shi_l (l : List Int) : SeqAt.shaped (pdil l) = true := by
  unfold SeqAt.shaped pdil
  rw [PyData.canLay0, PyData.depth, (shi l).1, (shi l).2]
  rfl

/-- a comprehension, perhaps with a condition, whose elements are Booleans -/
theorem lc_any {J : It} {n : Nat} {G : Hp → Prop} {Y : Nat → Hp → V → Hp → Prop} (w : Walk J n G Y) (L : List (Bool × Bool)) (hL : L.length = n) (hz : n ≤ 1000)
    {g : TG} {tt : TT} {te : TE} {vs : List Nat} {σ : L2.St} {H1 : Hp} {D : Addr} {Qd : Hp → Prop} (hD : H1 D = none) (hG : ∀ H, Same H1 H → G H)
    (hs : ∀ i c x H H' (kk : V → Hp → Prop) (kn : Hp → Prop), L[i]? = some c → Same H1 H → Y i H x H' → (c.1 = true → ∀ H4, Same H H4 → kk (.bl c.2) H4) → (c.1 = false → ∀ H4, Same H H4 → kn H4) → g x (wipe σ vs) H' fun σ2 H2 => wipe σ2 vs = wipe σ vs ∧ tt σ2 H2 fun b H3 => if b = true then te σ2 H3 kk else kn H3)
    (hd : ∀ H (bs : List Bool), Same H1 H → H D = some (.lst (bs.map V.bl)) → bs.any id = (L.map fun c => c.1 && c.2).any id → Qd H) :
    ∃ W : Nat → Nat → Hp → Prop, (∃ m, W 0 m (upd H1 D (.lst []))) ∧ ∀ i m H, W i m H →
      (J.stop i H ∧ Qd H) ∨ (J.go i H ∧ ∃ Nx : Hp → Prop, (∀ H', Nx H' → ∃ m', m' < m ∧ W (i + 1) m' H') ∧ ∀ x H', J.yld i H x H' → g x (wipe σ vs) H' fun σ2 H2 => wipe σ2 vs = wipe σ vs ∧ tt σ2 H2 fun b H3 =>
        if b = true then te σ2 H3 fun y H4 => ∃ acc, H4 D = some (.lst acc) ∧ acc.length < sizeLine ∧ Nx (upd H4 D (.lst (acc ++ [y]))) else Nx H3) := by
  subst hL
  refine lc_it w (fun i H => Same H1 H ∧ ∃ bs : List Bool, H D = some (.lst (bs.map V.bl)) ∧ bs.any id = ((L.map fun c => c.1 && c.2).take i).any id ∧ bs.length ≤ i) ⟨same_upd hD, [], upd_same, rfl, Nat.zero_le _⟩ (fun i H _ h => hG H h.1) ?_ ?_
  · rintro i x H H' hi ⟨s1, bs, e1, a1, l1⟩ y
    have hr : L[i]? = some L[i] := List.getElem?_eq_getElem hi
    have tk : ((L.map fun c => c.1 && c.2).take (i + 1)).any id = (((L.map fun c => c.1 && c.2).take i).any id || (L[i].1 && L[i].2)) := by
      rw [List.take_add_one, List.getElem?_map, hr, List.any_append]
      simp
    refine hs i L[i] x H H' _ _ hr s1 y (fun hc H4 s4 => ?_) (fun hc H4 s4 => ?_)
    · refine ⟨bs.map V.bl, s4 _ _ e1, ?_, fun b o e => ?_, bs ++ [L[i].2], ?_, ?_, ?_⟩
      · rw [List.length_map]
        exact small1000 (by omega)
      · rw [upd_ne (ne_of_none e hD)]
        exact s4 _ _ (s1 _ _ e)
      · rw [upd_same, List.map_append]
        rfl
      · rw [tk, List.any_append, a1, hc]
        simp
      · rw [List.length_append]
        exact Nat.succ_le_succ l1
    · refine ⟨s1.trans s4, bs, s4 _ _ e1, ?_, Nat.le_succ_of_le l1⟩
      rw [tk, a1, hc]
      simp
  · rintro H ⟨s1, bs, e1, a1, _⟩
    rw [List.take_of_length_le (by rw [List.length_map]; exact Nat.le_refl _)] at a1
    exact hd H bs s1 e1 a1

/-- a comprehension whose elements are things of a kind: those of L -/
theorem lc_rel {α : Type} (Rel : Hp → Addr → α → Prop) (up : ∀ {H H' t x}, Same H H' → Rel H t x → Rel H' t x) (over : ∀ {H H' t D x ys}, Rel H t x → H D = some (.lst ys) → (∀ b o, b ≠ D → H b = some o → H' b = some o) → Rel H' t x)
    {J : It} {n : Nat} {G : Hp → Prop} {Y : Nat → Hp → V → Hp → Prop} (w : Walk J n G Y) (L : List α) (hL : L.length = n) (hz : n ≤ 1000)
    {g : TG} {te : TE} {vs : List Nat} {σ : L2.St} {H1 : Hp} {D : Addr} {Qd : Hp → Prop} (hD : H1 D = none) (hG : ∀ H, Same H1 H → G H)
    (hs : ∀ i r x H H' (k : V → Hp → Prop), L[i]? = some r → Same H1 H → Y i H x H' → (∀ t H4, Same H H4 → Rel H4 t r → k (.ref t) H4) → g x (wipe σ vs) H' fun σ2 H2 => wipe σ2 vs = wipe σ vs ∧ te σ2 H2 k)
    (hd : ∀ H (ws : List (Addr × α)), Same H1 H → H D = some (.lst (ws.map fun w => .ref w.1)) → (∀ w ∈ ws, Rel H w.1 w.2) → ws.map (·.2) = L → Qd H) :
    ∃ W : Nat → Nat → Hp → Prop, (∃ m, W 0 m (upd H1 D (.lst []))) ∧ ∀ i m H, W i m H →
      (J.stop i H ∧ Qd H) ∨ (J.go i H ∧ ∃ Nx : Hp → Prop, (∀ H', Nx H' → ∃ m', m' < m ∧ W (i + 1) m' H') ∧ ∀ x H', J.yld i H x H' → g x (wipe σ vs) H' fun σ2 H2 => wipe σ2 vs = wipe σ vs ∧ tYes σ2 H2 fun b H3 =>
        if b = true then te σ2 H3 fun y H4 => ∃ acc, H4 D = some (.lst acc) ∧ acc.length < sizeLine ∧ Nx (upd H4 D (.lst (acc ++ [y]))) else Nx H3) := by
  subst hL
  refine lc_it w (fun i H => Same H1 H ∧ ∃ ws : List (Addr × α), H D = some (.lst (ws.map fun w => .ref w.1)) ∧ (∀ w ∈ ws, Rel H w.1 w.2) ∧ ws.map (·.2) = L.take i) ⟨same_upd hD, [], upd_same, (fun _ z => nomatch z), rfl⟩ (fun i H _ h => hG H h.1) ?_ ?_
  · rintro i x H H' hi ⟨s1, ws, e1, r1, m1⟩ y
    have hr : L[i]? = some L[i] := List.getElem?_eq_getElem hi
    have q := hs i L[i] x H H' (fun y H4 => ∃ acc, H4 D = some (.lst acc) ∧ acc.length < sizeLine ∧ (fun H => Same H1 H ∧ ∃ ws : List (Addr × α), H D = some (.lst (ws.map fun w => .ref w.1)) ∧ (∀ w ∈ ws, Rel H w.1 w.2) ∧ ws.map (·.2) = L.take (i + 1)) (upd H4 D (.lst (acc ++ [y])))) hr s1 y (fun t H4 s4 f4 => ?_)
    · refine Eq.mp (congrArg (g x (wipe σ vs) H') ?_) q
      funext σ2 H2
      simp [tYes]
    · have e4 := s4 _ _ e1
      have hlen : ws.length = (L.take i).length := by rw [← m1, List.length_map]
      rw [List.length_take] at hlen
      refine ⟨_, e4, ?_, fun b o e => ?_, ws ++ [(t, L[i])], ?_, fun v hv => ?_, ?_⟩
      · rw [List.length_map]
        exact small1000 (by omega)
      · rw [upd_ne (ne_of_none e hD)]
        exact s4 _ _ (s1 _ _ e)
      · rw [upd_same, List.map_append]
        rfl
      · rcases List.mem_append.mp hv with h | h
        · exact over (up s4 (r1 v h)) e4 fun b o hb e => by rw [upd_ne hb]; exact e
        · rw [List.mem_singleton.mp h]
          exact over f4 e4 fun b o hb e => by rw [upd_ne hb]; exact e
      · rw [List.map_append, m1, List.take_add_one, hr]
        rfl
  · rintro H ⟨s1, ws, e1, r1, m1⟩
    rw [List.take_length] at m1
    exact hd H ws s1 e1 r1 m1
theorem WOk.up {K : PySem.W.Frag} {H H' : Hp} {t : Addr} {w : WI} (s : Same H H') (h : WOk K H t w) : WOk K H' t w := Wl.same h s
theorem WOk.over {K : PySem.W.Frag} {H H' : Hp} {t D : Addr} {w : WI} {ys : List V} (h : WOk K H t w) (hl : H D = some (.lst ys)) (s : ∀ b o, b ≠ D → H b = some o → H' b = some o) : WOk K H' t w := by
  obtain ⟨u, o, h1, h2, h3⟩ := h
  exact ⟨u, o, over_tup h1 hl s, over_tup h2 hl s, over_tup h3 hl s⟩
theorem zw3 {ms : List (Addr × Rat)} {sg : List Int} {i : Nat} {β : Type} {F : Rat → Int → β} {c : β} (h : (List.zipWith F (ms.map (·.2)) sg)[i]? = some c) : ∃ (m : Addr × Rat) (s : Int), ms[i]? = some m ∧ sg[i]? = some s ∧ F m.2 s = c := by
  rw [List.getElem?_zipWith, List.getElem?_map] at h
  cases e1 : ms[i]? with
  | none =>
    rw [e1] at h
    cases h
  | some m =>
    cases e2 : sg[i]? with
    | none =>
      rw [e1, e2] at h
      cases h
    | some s =>
      rw [e1, e2] at h
      exact ⟨m, s, rfl, rfl, Option.some.inj h⟩
theorem zwG {α β γ : Type} {F : α → β → γ} {l : List α} {m : List β} {i : Nat} {c : γ} (h : (List.zipWith F l m)[i]? = some c) : ∃ a b, l[i]? = some a ∧ m[i]? = some b ∧ F a b = c := by
  rw [List.getElem?_zipWith] at h
  cases e1 : l[i]? with
  | none =>
    rw [e1] at h
    cases h
  | some a =>
    cases e2 : m[i]? with
    | none =>
      rw [e1, e2] at h
      cases h
    | some b =>
      rw [e1, e2] at h
      exact ⟨a, b, rfl, rfl, Option.some.inj h⟩
theorem any2_eq (f v : Rat → Int → Bool) (ms : List Rat) (sg : List Int) : ((List.zipWith (fun m s => (f m s, v m s)) ms sg).map fun c => c.1 && c.2) = List.zipWith (fun m s => f m s && v m s) ms sg := by
  rw [List.map_zipWith]
theorem atG {α : Type} {ws : List (Addr × α)} {i : Nat} {w : Addr × α} (h : ws[i]? = some w) : (ws.map fun w => V.ref w.1)[i]? = some (.ref w.1) := by
  rw [List.getElem?_map, h]
  rfl
theorem getG {α : Type} {ws : List (Addr × α)} {i : Nat} {v : V} (h : (ws.map fun w => V.ref w.1)[i]? = some v) : ∃ w, v = .ref w.1 ∧ ws[i]? = some w := by
  rw [List.getElem?_map] at h
  cases e : ws[i]? with
  | none =>
    rw [e] at h
    cases h
  | some w =>
    rw [e] at h
    exact ⟨w, (Option.some.inj h).symm, rfl⟩
/-- the part of a normal -/
def axf (i : Nat) (w : WI) : Rat := ((th w.x w.y w.z i : Int) : Rat)
theorem tn_bd {s : Int} {w : WI} (h : WBd w) : WBd (tnW s w) := by
  obtain ⟨h1, h2, h3, h4⟩ := h
  unfold tnW tnI tnR
  by_cases g : s < 0
  · rw [if_pos g, if_pos g, if_pos g, if_pos g]
    exact ⟨h1.neg, h2.neg, h3.neg, h4.neg⟩
  · rw [if_neg g, if_neg g, if_neg g, if_neg g]
    exact ⟨h1, h2, h3, h4⟩

theorem eqv_pdi (l m : List Int) : PyData.eqv (pdi l) (pdi m) = decide (l = m) := by
  unfold pdi
  rw [PyData.eqv, eqvi]
theorem eqv_pdil (l m : List Int) : PyData.eqv (pdil l) (pdil m) = decide (l = m) := by
  unfold pdil
  rw [PyData.eqv, eqvi]
theorem len4 {rs : List Int} (h : rs.length = 4) : ∃ a b c d, rs = [a, b, c, d] := by
  match rs, h with
  | [a, b, c, d], _ => exact ⟨a, b, c, d, rfl⟩
theorem wr_of {K : PySem.W.Frag} {H : Hp} : ∀ {us : List V}, (∀ (i : Nat) (v : V), us[i]? = some v → ∃ (t : Addr) (w : WI), v = .ref t ∧ WOk K H t w ∧ WBd w) → ∃ ws : List (Addr × WI), us = wr ws ∧ WsX K H ws ∧ ∀ w ∈ ws, WBd w.2
  | [], _ => ⟨[], rfl, (fun _ h => nomatch h), fun _ h => nomatch h⟩
  | u :: us, h => by
    obtain ⟨t, w, rfl, h1, h2⟩ := h 0 u rfl
    obtain ⟨ws, rfl, h3, h4⟩ := wr_of (us := us) fun i v hv => h (i + 1) v hv
    refine ⟨(t, w) :: ws, rfl, fun x hx => ?_, fun x hx => ?_⟩
    · rcases List.mem_cons.mp hx with rfl | hx
      · exact h1
      · exact h3 x hx
    · rcases List.mem_cons.mp hx with rfl | hx
      · exact h2
      · exact h4 x hx

theorem via {P C : Prop} (h : P → C) (p : P) : C := h p
def f4 : Nat → WI → Rat
  | 0, w => (w.x : Rat)
  | 1, w => (w.y : Rat)
  | 2, w => (w.z : Rat)
  | _, w => w.r
def Lc (c : Nat) (ws : List WI) (sg : List Int) (ms : List Rat) : List Rat := List.zipWith (fun m q => m * q) ms (List.zipWith (fun w s => f4 c (tnW s w)) ws sg)
def pt (c : Nat) (ws : List WI) (sg : List Int) (ms : List Rat) (i : Nat) : Rat := sumR ((Lc c ws sg ms).take i)
theorem tn_mul (s : Int) (m : Rat) (c : Nat) (w : WI) : tnR s m * f4 c w = m * f4 c (tnW s w) := by
  have hI : ∀ z : Int, ((tnI s z : Int) : Rat) = tnR s (z : Rat) := fun z => by
    unfold tnI tnR
    by_cases g : s < 0
    · rw [if_pos g, if_pos g, Rat.intCast_neg]
    · rw [if_neg g, if_neg g]
  have h : f4 c (tnW s w) = tnR s (f4 c w) := by
    unfold f4 tnW
    split
    · exact hI _
    · exact hI _
    · exact hI _
    · rfl
  rw [h]
  unfold tnR
  by_cases g : s < 0
  · rw [if_pos g, if_pos g]
    grind
  · rw [if_neg g, if_neg g]
theorem Lc_at {c i : Nat} {ws : List WI} {sg : List Int} {ms : List Rat} {w : WI} {s : Int} {m : Rat} (h1 : ws[i]? = some w) (h2 : sg[i]? = some s) (h3 : ms[i]? = some m) : (Lc c ws sg ms)[i]? = some (tnR s m * f4 c w) := by
  unfold Lc
  rw [List.getElem?_zipWith, List.getElem?_zipWith, h1, h2, h3, tn_mul]
theorem f4_bd {c : Nat} {w : WI} (h : WBd w) : Bd 20 (f4 c w) := by
  obtain ⟨h1, h2, h3, h4⟩ := h
  unfold f4
  split
  · exact bd_int h1 (by decide)
  · exact bd_int h2 (by decide)
  · exact bd_int h3 (by decide)
  · exact h4
theorem Lc_bd {c : Nat} {ws : List WI} {sg : List Int} {ms : List Rat} (h1 : ∀ w ∈ ws, WBd w) (h2 : ∀ m ∈ ms, Bd 10 m) : ∀ r ∈ Lc c ws sg ms, Bd 30 r := by
  intro r hr
  obtain ⟨i, hi⟩ := List.mem_iff_getElem?.mp hr
  obtain ⟨m, q, a1, a2, rfl⟩ := zwG hi
  obtain ⟨w, s, a3, a4, rfl⟩ := zwG a2
  exact (h2 m (List.mem_of_getElem? a1)).mul (f4_bd (tn_bd (h1 w (List.mem_of_getElem? a3))))
theorem tnR_bd {s : Int} {m : Rat} {n : Nat} (h : Bd n m) : Bd n (tnR s m) := by
  unfold tnR
  split
  · exact h.neg
  · exact h
theorem any_take {L : List Bool} {i : Nat} {b : Bool} (h : L[i]? = some b) : (L.take (i + 1)).any id = ((L.take i).any id || b) := by
  rw [List.take_add_one, h, List.any_append]
  simp
theorem pt_all {c : Nat} {ws : List WI} {sg : List Int} {ms : List Rat} {n : Nat} (h : (Lc c ws sg ms).length ≤ n) : pt c ws sg ms n = tot (f4 c) ws sg ms := by
  unfold pt
  rw [List.take_of_length_le h]
  rfl
theorem fx_neg {K : PySem.W.Frag} {H : Hp} {t : Addr} {r : Rat} (h : SqT K H t (zs [-r.num, (r.den : Int)])) : Fx K H t (-r) := by
  unfold Fx
  rw [Rat.neg_num, Rat.neg_den]
  exact h
theorem sgn_lt (z : Int) : decide (sgn z < 0) = decide (z < 0) := decide_eq_decide.mpr (by
  unfold sgn
  split
  · omega
  · split <;> omega)
theorem sgn_gt (z : Int) : decide (0 < sgn z) = decide (0 < z) := decide_eq_decide.mpr (by
  unfold sgn
  split
  · omega
  · split <;> omega)
theorem sgn_ge (z : Int) : decide (0 ≤ sgn z) = decide (0 ≤ z) := decide_eq_decide.mpr (by
  unfold sgn
  split
  · omega
  · split <;> omega)
theorem sgn_nz (z : Int) : decide (sgn z ≠ 0) = decide (z ≠ 0) := decide_eq_decide.mpr (by
  unfold sgn
  split
  · omega
  · split <;> omega)

theorem rp_pair (f : Rat) : RP [⟨1, 0, -2, 3⟩, ⟨1, 0, -2, f⟩] [1, -1] [1, 1] = decide (f.num ≤ 3 * (f.den : Int)) := by
  have t0 : tot (fun w => (w.x : Rat)) [⟨1, 0, -2, 3⟩, ⟨1, 0, -2, f⟩] [1, -1] [1, 1] = 0 := by
    show ((0 : Rat) + 1 * ((1 : Int) : Rat)) + 1 * ((-1 : Int) : Rat) = 0
    decide +kernel
  have t1 : tot (fun w => (w.y : Rat)) [⟨1, 0, -2, 3⟩, ⟨1, 0, -2, f⟩] [1, -1] [1, 1] = 0 := by
    show ((0 : Rat) + 1 * ((0 : Int) : Rat)) + 1 * ((0 : Int) : Rat) = 0
    decide +kernel
  have t2 : tot (fun w => (w.z : Rat)) [⟨1, 0, -2, 3⟩, ⟨1, 0, -2, f⟩] [1, -1] [1, 1] = 0 := by
    show ((0 : Rat) + 1 * ((-2 : Int) : Rat)) + 1 * ((2 : Int) : Rat) = 0
    decide +kernel
  have t3 : tot (fun w => w.r) [⟨1, 0, -2, 3⟩, ⟨1, 0, -2, f⟩] [1, -1] [1, 1] = 3 - f := by
    show ((0 : Rat) + 1 * 3) + 1 * (-f) = 3 - f
    grind
  have a1 : any2 pN [1, 1] [1, -1] = false := by decide
  have a2 : any2 pP [1, 1] [1, -1] = true := by decide
  unfold RP
  rw [t0, t1, t2, t3, a1, a2, sgn_ge]
  show decide (0 ≤ (3 - f).num) = decide (f.num ≤ 3 * (f.den : Int))
  refine decide_eq_decide.mpr ?_
  rw [Rat.num_nonneg]
  constructor
  · intro h
    have h2 : f ≤ 3 := by grind
    rw [Rat.le_iff] at h2
    have h3 : f.num * ((1 : Nat) : Int) ≤ 3 * (f.den : Int) := h2
    omega
  · intro h
    have h2 : f ≤ 3 := by
      rw [Rat.le_iff]
      show f.num * ((1 : Nat) : Int) ≤ 3 * (f.den : Int)
      omega
    grind

section
/-- rows of numbers as functions -/
abbrev VF := Nat → Rat
/-- what rows span -/
inductive Spn (G : VF → Prop) : VF → Prop
  | zero : Spn G (fun _ => 0)
  | step {v g : VF} (c : Rat) : Spn G v → G g → Spn G (fun k => v k + c * g k)
theorem Spn.cong {G : VF → Prop} {v w : VF} (h : Spn G v) (e : ∀ k, v k = w k) : Spn G w := by
  have : v = w := funext e
  rw [← this]
  exact h
theorem Spn.gen {G : VF → Prop} {g : VF} (h : G g) : Spn G g := (Spn.step 1 Spn.zero h).cong fun k => by grind
theorem Spn.scale {G : VF → Prop} {v : VF} (a : Rat) (h : Spn G v) : Spn G fun k => a * v k := by
  induction h with
  | zero => exact Spn.zero.cong fun k => by grind
  | step c _ hg ih => exact (Spn.step (a * c) ih hg).cong fun k => by grind
theorem Spn.addv {G : VF → Prop} {v w : VF} (hv : Spn G v) (hw : Spn G w) : Spn G fun k => v k + w k := by
  induction hw with
  | zero => exact hv.cong fun k => by grind
  | step c _ hg ih => exact (Spn.step c ih hg).cong fun k => by grind
theorem Spn.mono {G G' : VF → Prop} (h : ∀ g, G g → Spn G' g) {v : VF} (hv : Spn G v) : Spn G' v := by
  induction hv with
  | zero => exact Spn.zero
  | step c _ hg ih => exact ih.addv ((h _ hg).scale c)
theorem Spn.map {G : VF → Prop} {T : VF → VF} (h0 : ∀ k, T (fun _ => 0) k = 0) (hT : ∀ (v g : VF) (c : Rat) k, T (fun k => v k + c * g k) k = T v k + c * T g k) {v : VF} (hv : Spn G v) : Spn (fun h => ∃ g, G g ∧ T g = h) (T v) := by
  induction hv with
  | zero => exact Spn.zero.cong fun k => (h0 k).symm
  | step c _ hg ih => exact (Spn.step c ih ⟨_, hg, rfl⟩).cong fun k => (hT _ _ _ k).symm
theorem Spn.vanish {G : VF → Prop} {v : VF} (hv : Spn G v) {k : Nat} (h : ∀ g, G g → g k = 0) : v k = 0 := by
  induction hv with
  | zero => rfl
  | step c _ hg ih =>
    show _ + c * _ = 0
    rw [ih, h _ hg]
    grind
/-- the first place that is not 0 -/
def Ld (v : VF) (c : Nat) : Prop := v c ≠ 0 ∧ ∀ k < c, v k = 0
theorem Ld.uniq {v : VF} {c d : Nat} (h : Ld v c) (h2 : Ld v d) : c = d := by
  rcases Nat.lt_trichotomy c d with g | g | g
  · exact absurd (h2.2 c g) h.1
  · exact g
  · exact absurd (h.2 d g) h2.1
def Ec (E : List (Nat × VF)) : Prop := E.Pairwise (fun p q => p.1 < q.1) ∧ ∀ p ∈ E, Ld p.2 p.1
abbrev inR (E : List (Nat × VF)) : VF → Prop := fun g => ∃ p ∈ E, p.2 = g
theorem spn_cons {p : Nat × VF} {E : List (Nat × VF)} {v : VF} (h : Spn (inR (p :: E)) v) : ∃ (a : Rat) (w : VF), Spn (inR E) w ∧ ∀ k, v k = a * p.2 k + w k := by
  induction h with
  | zero => exact ⟨0, _, Spn.zero, fun k => by grind⟩
  | step c _ hg ih =>
    obtain ⟨a, w, h1, h2⟩ := ih
    obtain ⟨q, hq, rfl⟩ := hg
    rcases List.mem_cons.mp hq with rfl | hq
    · exact ⟨a + c, w, h1, fun k => by dsimp only; rw [h2 k]; grind⟩
    · exact ⟨a, _, Spn.step c h1 ⟨q, hq, rfl⟩, fun k => by dsimp only; rw [h2 k]; grind⟩
theorem Ec.lead : ∀ {E : List (Nat × VF)}, Ec E → ∀ {v : VF}, Spn (inR E) v → (∀ k, v k = 0) ∨ ∃ p ∈ E, Ld v p.1
  | [], _, v, hv => .inl fun k => hv.vanish fun g hg => by
    obtain ⟨p, hp, _⟩ := hg
    cases hp
  | p :: E, h, v, hv => by
    obtain ⟨a, w, h1, h2⟩ := spn_cons hv
    have hp := List.pairwise_cons.mp h.1
    have hl := h.2 p List.mem_cons_self
    have hw : ∀ k ≤ p.1, w k = 0 := fun k hk => h1.vanish fun g hg => by
      obtain ⟨q, hq, rfl⟩ := hg
      have := hp.1 q hq
      exact (h.2 q (List.mem_cons_of_mem _ hq)).2 k (by omega)
    by_cases ha : a = 0
    · have e : Spn (inR E) v := h1.cong fun k => by rw [h2 k, ha]; grind
      rcases Ec.lead ⟨hp.2, fun q hq => h.2 q (List.mem_cons_of_mem _ hq)⟩ e with g | ⟨q, hq, hg⟩
      · exact .inl g
      · exact .inr ⟨q, List.mem_cons_of_mem _ hq, hg⟩
    · refine .inr ⟨p, List.mem_cons_self, ?_, fun k hk => ?_⟩
      · rw [h2, hw _ (Nat.le_refl _), Rat.add_zero]
        intro z
        rcases Rat.mul_eq_zero.mp z with z | z
        · exact ha z
        · exact hl.1 z
      · rw [h2, hw k (by omega), hl.2 k hk]
        grind
theorem nodup_le : ∀ {A B : List Nat}, A.Nodup → (∀ a ∈ A, a ∈ B) → A.length ≤ B.length
  | [], _, _, _ => Nat.zero_le _
  | a :: A, B, hA, h => by
    have h1 := List.nodup_cons.mp hA
    have hB := h a List.mem_cons_self
    have := nodup_le (A := A) (B := B.erase a) h1.2 fun x hx => by
      have hne : x ≠ a := fun e => by
        rw [e] at hx
        exact h1.1 hx
      exact (List.mem_erase_of_ne hne).mpr (h x (List.mem_cons_of_mem _ hx))
    rw [List.length_erase_of_mem hB] at this
    have hpos : 0 < B.length := List.length_pos_of_mem hB
    rw [List.length_cons]
    omega
theorem nodup_eq {A B : List Nat} (hA : A.Nodup) (h : ∀ a ∈ A, a ∈ B) (hl : A.length = B.length) : ∀ b ∈ B, b ∈ A := by
  intro b hb
  refine Classical.byContradiction fun hn => ?_
  have := nodup_le (A := A) (B := B.erase b) hA fun x hx => by
    have hne : x ≠ b := fun e => by
      rw [e] at hx
      exact hn hx
    exact (List.mem_erase_of_ne hne).mpr (h x hx)
  rw [List.length_erase_of_mem hb] at this
  have hpos : 0 < B.length := List.length_pos_of_mem hb
  omega
/-- the rank of what is spanned: the number of its leads -/
def RankIs (S : VF → Prop) (r : Nat) : Prop := ∃ E : List (Nat × VF), Ec E ∧ (∀ p ∈ E, S p.2) ∧ (∀ v c, S v → Ld v c → ∃ p ∈ E, p.1 = c) ∧ E.length = r
theorem Ec.nodup {E : List (Nat × VF)} (h : Ec E) : (E.map (·.1)).Nodup := by
  rw [List.nodup_iff_pairwise_ne, List.pairwise_map]
  exact h.1.imp fun h => Nat.ne_of_lt h
theorem rank_sub {S T : VF → Prop} {r s : Nat} (hS : RankIs S r) (hT : RankIs T s) (h : ∀ v, S v → T v) : ∃ A B : List Nat, A.Nodup ∧ B.Nodup ∧ A.length = r ∧ B.length = s ∧ (∀ a ∈ A, a ∈ B) ∧ (∀ v c, S v → Ld v c → c ∈ A) ∧ (∀ v c, T v → Ld v c → c ∈ B) ∧ (∀ a ∈ A, ∃ v, S v ∧ Ld v a) ∧ ∀ b ∈ B, ∃ v, T v ∧ Ld v b := by
  obtain ⟨E, e1, e2, e3, e4⟩ := hS
  obtain ⟨F, f1, f2, f3, f4⟩ := hT
  refine ⟨E.map (·.1), F.map (·.1), e1.nodup, f1.nodup, by rw [List.length_map, e4], by rw [List.length_map, f4], ?_, ?_, ?_, ?_, ?_⟩
  · intro a ha
    obtain ⟨p, hp, rfl⟩ := List.mem_map.mp ha
    obtain ⟨q, hq, e⟩ := f3 _ _ (h _ (e2 p hp)) (e1.2 p hp)
    exact List.mem_map.mpr ⟨q, hq, e⟩
  · intro v c hv hc
    obtain ⟨q, hq, e⟩ := e3 v c hv hc
    exact List.mem_map.mpr ⟨q, hq, e⟩
  · intro v c hv hc
    obtain ⟨q, hq, e⟩ := f3 v c hv hc
    exact List.mem_map.mpr ⟨q, hq, e⟩
  · intro a ha
    obtain ⟨p, hp, rfl⟩ := List.mem_map.mp ha
    exact ⟨_, e2 p hp, e1.2 p hp⟩
  · intro a ha
    obtain ⟨p, hp, rfl⟩ := List.mem_map.mp ha
    exact ⟨_, f2 p hp, f1.2 p hp⟩
theorem rank_le {S T : VF → Prop} {r s : Nat} (hS : RankIs S r) (hT : RankIs T s) (h : ∀ v, S v → T v) : r ≤ s := by
  obtain ⟨A, B, a1, _, rfl, rfl, h5, _⟩ := rank_sub hS hT h
  exact nodup_le a1 h5
theorem rank_eq {S T : VF → Prop} {r s : Nat} (hS : RankIs S r) (hT : RankIs T s) (h : ∀ v, S v → T v) (h2 : ∀ v, T v → S v) : r = s := Nat.le_antisymm (rank_le hS hT h) (rank_le hT hS h2)
/-- of the same rank, one in the other: the same -/
theorem rank_in {S T : VF → Prop} {r n : Nat} (cS : ∀ v w a, S v → S w → S fun k => v k + a * w k) (zS : S fun _ => 0) (cT : ∀ v w a, T v → T w → T fun k => v k + a * w k) (fT : ∀ v, T v → ∀ k ≥ n, v k = 0)
    (hS : RankIs S r) (hT : RankIs T r) (h : ∀ v, S v → T v) : ∀ v, T v → S v := by
  obtain ⟨A, B, a1, b1, la, lb, h5, h6, h7, h8, h9⟩ := rank_sub hS hT h
  have hBA := nodup_eq a1 h5 (by omega)
  have key : ∀ m v, T v → (∀ k < n - m, v k = 0) → S v := by
    intro m
    induction m with
    | zero =>
      intro v hv hz
      have : v = fun _ => 0 := funext fun k => by
        rcases Nat.lt_or_ge k n with g | g
        · exact hz k (by omega)
        · exact fT v hv k g
      rw [this]
      exact zS
    | succ m ih =>
      intro v hv hz
      by_cases hc : v (n - (m + 1)) = 0
      · refine ih v hv fun k hk => ?_
        rcases Nat.lt_or_ge k (n - (m + 1)) with g | g
        · exact hz k g
        · have : k = n - (m + 1) := by omega
          rw [this]
          exact hc
      · have hl : Ld v (n - (m + 1)) := ⟨hc, hz⟩
        obtain ⟨w, hw, hlw⟩ := h8 _ (hBA _ (h7 v _ hv hl))
        have h10 := ih (fun k => v k + -(v (n - (m + 1)) / w (n - (m + 1))) * w k) (cT _ _ _ hv (h w hw)) fun k hk => by
          rcases Nat.lt_or_ge k (n - (m + 1)) with g | g
          · rw [hz k g, hlw.2 k g]
            grind
          · have e : k = n - (m + 1) := by omega
            subst e
            have := hlw.1
            grind
        have h11 := cS _ _ (v (n - (m + 1)) / w (n - (m + 1))) h10 hw
        have : v = fun k => (v k + -(v (n - (m + 1)) / w (n - (m + 1))) * w k) + v (n - (m + 1)) / w (n - (m + 1)) * w k := funext fun k => by grind
        rw [this]
        exact h11
  intro v hv
  exact key n v hv fun k hk => by omega
theorem Spn.closed {G : VF → Prop} (v w : VF) (a : Rat) (hv : Spn G v) (hw : Spn G w) : Spn G fun k => v k + a * w k := hv.addv (hw.scale a)
/-- a row's first M numbers, as a function -/
def cf (M : Nat) (r : List Rat) : VF := fun k => if k < M then r.getD k 0 else 0
abbrev inL (M : Nat) (R : List (List Rat)) : VF → Prop := fun g => ∃ r ∈ R, cf M r = g
theorem cf_out {M : Nat} {R : List (List Rat)} {v : VF} (h : Spn (inL M R) v) : ∀ k ≥ M, v k = 0 := fun k hk => h.vanish fun g hg => by
  obtain ⟨r, _, rfl⟩ := hg
  exact if_neg (by omega)
/-- another row is in what rows span if and only if the rank stays -/
theorem rank_more {M : Nat} {R : List (List Rat)} {u : List Rat} {r s : Nat} (h1 : RankIs (Spn (inL M R)) r) (h2 : RankIs (Spn (inL M (R ++ [u]))) s) : s = r ↔ Spn (inL M R) (cf M u) := by
  have sub : ∀ v, Spn (inL M R) v → Spn (inL M (R ++ [u])) v := fun v hv => hv.mono fun g hg => by
    obtain ⟨x, hx, e⟩ := hg
    exact Spn.gen ⟨x, List.mem_append_left _ hx, e⟩
  constructor
  · intro e
    subst e
    exact rank_in (fun v w a => Spn.closed v w a) Spn.zero (fun v w a => Spn.closed v w a) (fun v hv => cf_out hv) h1 h2 sub _ (Spn.gen ⟨u, List.mem_append_right _ List.mem_cons_self, rfl⟩)
  · intro hu
    refine rank_eq h2 h1 (fun v hv => hv.mono fun g hg => ?_) sub
    obtain ⟨x, hx, rfl⟩ := hg
    rcases List.mem_append.mp hx with hx | hx
    · exact Spn.gen ⟨x, hx, rfl⟩
    · rw [List.mem_singleton.mp hx]
      exact hu
end

section
/-- one row cleared by another, at a place -/
def clr (l : Nat) (base row : List Rat) : List Rat := if row.getD l 0 = 0 then row else List.zipWith (fun x y => x - row.getD l 0 * y) row base
theorem clr_len {l : Nat} {base row : List Rat} (h : row.length = base.length) : (clr l base row).length = row.length := by
  unfold clr
  split
  · rfl
  · rw [List.length_zipWith]
    omega
theorem getD_zip {f : Rat → Rat → Rat} (h0 : f 0 0 = 0) : ∀ {a b : List Rat} (k : Nat), a.length = b.length → (List.zipWith f a b).getD k 0 = f (a.getD k 0) (b.getD k 0)
  | [], [], k, _ => by simp [h0]
  | x :: a, y :: b, 0, _ => rfl
  | x :: a, y :: b, k + 1, h => by
    rw [List.length_cons, List.length_cons] at h
    exact getD_zip h0 (a := a) (b := b) k (by omega)
theorem clr_at {l : Nat} {base row : List Rat} (h : row.length = base.length) (k : Nat) : (clr l base row).getD k 0 = row.getD k 0 - row.getD l 0 * base.getD k 0 := by
  unfold clr
  by_cases h0 : row.getD l 0 = 0
  · rw [if_pos h0, h0]
    grind
  · rw [if_neg h0, getD_zip (f := fun x y => x - row.getD l 0 * y) (by grind) k h]
theorem cf_clr {M l : Nat} {base row : List Rat} (h : row.length = base.length) (k : Nat) : cf M (clr l base row) k = cf M row k + -row.getD l 0 * cf M base k := by
  unfold cf
  by_cases hk : k < M
  · rw [if_pos hk, if_pos hk, if_pos hk, clr_at h]
    grind
  · rw [if_neg hk, if_neg hk, if_neg hk]
    grind
/-- a row cleared by all kept ones, one behind the other -/
def red (kept : List (Nat × List Rat)) (row : List Rat) : List Rat := kept.foldl (fun row p => clr p.1 p.2 row) row
/-- what is kept: leads that differ, below m; 1 at a row's own lead, 0 at the others' -/
structure KI (m W : Nat) (kept : List (Nat × List Rat)) : Prop where
  lt : ∀ p ∈ kept, p.1 < m
  len : ∀ p ∈ kept, p.2.length = W
  one : ∀ p ∈ kept, p.2.getD p.1 0 = 1
  apart : kept.Pairwise fun p q => p.1 ≠ q.1
  nought : ∀ p ∈ kept, ∀ q ∈ kept, p.1 ≠ q.1 → p.2.getD q.1 0 = 0
theorem KI.nodup {m W : Nat} {kept : List (Nat × List Rat)} (h : KI m W kept) : (kept.map (·.1)).Nodup := by
  rw [List.nodup_iff_pairwise_ne, List.pairwise_map]
  exact h.apart
theorem KI.few {m W : Nat} {kept : List (Nat × List Rat)} (h : KI m W kept) : kept.length ≤ m := by
  have := nodup_le (A := kept.map (·.1)) (B := List.range m) h.nodup fun a ha => by
    obtain ⟨p, hp, rfl⟩ := List.mem_map.mp ha
    exact List.mem_range.mpr (h.lt p hp)
  rw [List.length_map, List.length_range] at this
  exact this
theorem KI.same {m W : Nat} {kept : List (Nat × List Rat)} (h : KI m W kept) {p q : Nat × List Rat} (hp : p ∈ kept) (hq : q ∈ kept) (e : p.1 = q.1) : p = q := by
  have : ∀ {l : List (Nat × List Rat)}, l.Pairwise (fun p q => p.1 ≠ q.1) → p ∈ l → q ∈ l → p = q := by
    intro l
    induction l with
    | nil => exact fun _ h => nomatch h
    | cons x l ih =>
      intro hl h1 h2
      have hx := List.pairwise_cons.mp hl
      rcases List.mem_cons.mp h1 with e1 | m1
      · rcases List.mem_cons.mp h2 with e2 | m2
        · rw [e1, e2]
        · rw [e1] at e
          exact absurd e (hx.1 _ m2)
      · rcases List.mem_cons.mp h2 with e2 | m2
        · rw [e2] at e
          exact absurd e.symm (hx.1 _ m1)
        · exact ih hx.2 m1 m2
  exact this h.apart hp hq
theorem red_len {W : Nat} : ∀ {kept : List (Nat × List Rat)} {row : List Rat}, (∀ p ∈ kept, p.2.length = W) → row.length = W → (red kept row).length = W
  | [], _, _, h => h
  | p :: kept, row, h, hr => by
    have hp := h p List.mem_cons_self
    exact red_len (kept := kept) (fun q hq => h q (List.mem_cons_of_mem _ hq)) (by rw [clr_len (by omega)]; exact hr)
theorem red_spn {M W : Nat} : ∀ {kept : List (Nat × List Rat)} {row : List Rat}, (∀ p ∈ kept, p.2.length = W) → row.length = W → ∃ v, Spn (inL M (kept.map (·.2))) v ∧ ∀ k, cf M (red kept row) k = cf M row k + v k
  | [], row, _, _ => ⟨_, Spn.zero, fun k => by show cf M row k = _; grind⟩
  | p :: kept, row, h, hr => by
    have hp := h p List.mem_cons_self
    obtain ⟨v, h1, h2⟩ := red_spn (M := M) (kept := kept) (row := clr p.1 p.2 row) (fun q hq => h q (List.mem_cons_of_mem _ hq)) (by rw [clr_len (by omega)]; exact hr)
    refine ⟨fun k => v k + -row.getD p.1 0 * cf M p.2 k, Spn.step _ (h1.mono fun g hg => ?_) ⟨p.2, List.mem_map_of_mem List.mem_cons_self, rfl⟩, fun k => ?_⟩
    · obtain ⟨r, hr2, e⟩ := hg
      rw [List.map_cons]
      exact Spn.gen ⟨r, List.mem_cons_of_mem _ hr2, e⟩
    · show cf M (red kept (clr p.1 p.2 row)) k = _
      rw [h2 k, cf_clr (by omega)]
      grind
/-- a row cleared by all kept ones is 0 at their leads -/
theorem red_nought {m W : Nat} {kept : List (Nat × List Rat)} (h : KI m W kept) {row : List Rat} (hr : row.length = W) : ∀ p ∈ kept, (red kept row).getD p.1 0 = 0 := by
  have key : ∀ (todo done : List (Nat × List Rat)) (row : List Rat), (∀ p ∈ todo, p ∈ kept) → (∀ p ∈ done, p ∈ kept) → row.length = W → (∀ p ∈ done, row.getD p.1 0 = 0) → ∀ p, p ∈ todo ∨ p ∈ done → (red todo row).getD p.1 0 = 0 := by
    intro todo
    induction todo with
    | nil =>
      intro done row _ _ _ hz p hp
      rcases hp with hp | hp
      · cases hp
      · exact hz p hp
    | cons q todo ih =>
      intro done row ht hd hl hz p hp
      have hq := ht q List.mem_cons_self
      have hlq := h.len q hq
      have e : row.length = q.2.length := by omega
      refine ih (q :: done) (clr q.1 q.2 row) (fun x hx => ht x (List.mem_cons_of_mem _ hx)) (fun x hx => ?_) (by rw [clr_len e]; exact hl) (fun x hx => ?_) p ?_
      · rcases List.mem_cons.mp hx with rfl | hx
        · exact hq
        · exact hd x hx
      · rw [clr_at e]
        by_cases hxq : x.1 = q.1
        · rw [hxq, h.one q hq]
          grind
        · rcases List.mem_cons.mp hx with rfl | hx
          · exact absurd rfl hxq
          · rw [hz x hx, h.nought q hq x (hd x hx) (fun z => hxq z.symm)]
            grind
      · rcases hp with hp | hp
        · rcases List.mem_cons.mp hp with rfl | hp
          · exact .inr List.mem_cons_self
          · exact .inl hp
        · exact .inr (List.mem_cons_of_mem _ hp)
  exact fun p hp => key kept [] row (fun _ h => h) (fun _ h => nomatch h) hr (fun _ h => nomatch h) p (.inl hp)
/-- what is kept behind one more row, which has a lead -/
def kplus (kept : List (Nat × List Rat)) (a : Nat) (row : List Rat) : List (Nat × List Rat) := kept.map (fun p => (p.1, clr a row p.2)) ++ [(a, row)]
theorem KI.plus {m W : Nat} {kept : List (Nat × List Rat)} (h : KI m W kept) {a : Nat} {row : List Rat} (ha : a < m) (hl : row.length = W) (h1 : row.getD a 0 = 1) (h0 : ∀ p ∈ kept, row.getD p.1 0 = 0) : KI m W (kplus kept a row) := by
  have hne : ∀ p ∈ kept, p.1 ≠ a := fun p hp e => by
    have := h0 p hp
    rw [e, h1] at this
    exact absurd this (by decide)
  have el : ∀ p ∈ kept, p.2.length = row.length := fun p hp => by rw [h.len p hp, hl]
  have mem : ∀ x ∈ kplus kept a row, (∃ p ∈ kept, x = (p.1, clr a row p.2)) ∨ x = (a, row) := fun x hx => by
    rcases List.mem_append.mp hx with hx | hx
    · obtain ⟨p, hp, rfl⟩ := List.mem_map.mp hx
      exact .inl ⟨p, hp, rfl⟩
    · exact .inr (List.mem_singleton.mp hx)
  refine ⟨fun x hx => ?_, fun x hx => ?_, fun x hx => ?_, ?_, fun x hx y hy hxy => ?_⟩
  · rcases mem x hx with ⟨p, hp, rfl⟩ | rfl
    · exact h.lt p hp
    · exact ha
  · rcases mem x hx with ⟨p, hp, rfl⟩ | rfl
    · show (clr a row p.2).length = W
      rw [clr_len (el p hp)]
      exact h.len p hp
    · exact hl
  · rcases mem x hx with ⟨p, hp, rfl⟩ | rfl
    · show (clr a row p.2).getD p.1 0 = 1
      rw [clr_at (el p hp), h.one p hp, h0 p hp]
      grind
    · exact h1
  · unfold kplus
    rw [List.pairwise_append]
    refine ⟨?_, List.pairwise_singleton _ _, fun x hx y hy => ?_⟩
    · rw [List.pairwise_map]
      exact h.apart
    · obtain ⟨p, hp, rfl⟩ := List.mem_map.mp hx
      rw [List.mem_singleton.mp hy]
      exact hne p hp
  · rcases mem x hx with ⟨p, hp, rfl⟩ | rfl
    · rcases mem y hy with ⟨q, hq, rfl⟩ | rfl
      · show (clr a row p.2).getD q.1 0 = 0
        rw [clr_at (el p hp), h.nought p hp q hq hxy, h0 q hq]
        grind
      · show (clr a row p.2).getD a 0 = 0
        rw [clr_at (el p hp), h1]
        grind
    · rcases mem y hy with ⟨q, hq, rfl⟩ | rfl
      · exact h0 q hq
      · exact absurd rfl hxy
theorem kplus_spn {M W m : Nat} {kept : List (Nat × List Rat)} (h : KI m W kept) {a : Nat} {row : List Rat} (hl : row.length = W) : (∀ p ∈ kept, Spn (inL M ((kplus kept a row).map (·.2))) (cf M p.2)) ∧ Spn (inL M ((kplus kept a row).map (·.2))) (cf M row) ∧
    ∀ p ∈ kplus kept a row, Spn (inL M (kept.map (·.2) ++ [row])) (cf M p.2) := by
  have el : ∀ p ∈ kept, p.2.length = row.length := fun p hp => by rw [h.len p hp, hl]
  have r1 : Spn (inL M ((kplus kept a row).map (·.2))) (cf M row) := Spn.gen ⟨row, List.mem_map.mpr ⟨(a, row), List.mem_append_right _ List.mem_cons_self, rfl⟩, rfl⟩
  refine ⟨fun p hp => ?_, r1, fun x hx => ?_⟩
  · have g1 : Spn (inL M ((kplus kept a row).map (·.2))) (cf M (clr a row p.2)) := Spn.gen ⟨_, List.mem_map.mpr ⟨(p.1, clr a row p.2), List.mem_append_left _ (List.mem_map.mpr ⟨p, hp, rfl⟩), rfl⟩, rfl⟩
    exact (Spn.closed _ _ (p.2.getD a 0) g1 r1).cong fun k => by
      rw [cf_clr (el p hp)]
      grind
  · rcases List.mem_append.mp hx with hx | hx
    · obtain ⟨p, hp, rfl⟩ := List.mem_map.mp hx
      have g1 : Spn (inL M (kept.map (·.2) ++ [row])) (cf M p.2) := Spn.gen ⟨_, List.mem_append_left _ (List.mem_map_of_mem hp), rfl⟩
      have g2 : Spn (inL M (kept.map (·.2) ++ [row])) (cf M row) := Spn.gen ⟨_, List.mem_append_right _ List.mem_cons_self, rfl⟩
      exact (Spn.closed _ _ (-p.2.getD a 0) g1 g2).cong fun k => by rw [cf_clr (el p hp)]
    · rw [List.mem_singleton.mp hx]
      exact Spn.gen ⟨_, List.mem_append_right _ List.mem_cons_self, rfl⟩
/-- the sum of what kept rows give of a function, each as often as it says at the row's lead -/
def ksum (v : VF) : List (Nat × VF) → VF
  | [] => fun _ => 0
  | p :: l => fun k => v p.1 * p.2 k + ksum v l k
theorem ksum_add (v g : VF) (c : Rat) : ∀ (l : List (Nat × VF)) (k : Nat), ksum (fun j => v j + c * g j) l k = ksum v l k + c * ksum g l k
  | [], k => by show (0 : Rat) = 0 + c * 0; grind
  | p :: l, k => by
    show (v p.1 + c * g p.1) * p.2 k + ksum _ l k = (v p.1 * p.2 k + ksum v l k) + c * (g p.1 * p.2 k + ksum g l k)
    rw [ksum_add v g c l k]
    grind
theorem ksum_none {v : VF} : ∀ {l : List (Nat × VF)}, (∀ p ∈ l, v p.1 = 0) → ∀ k, ksum v l k = 0
  | [], _, _ => rfl
  | p :: l, h, k => by
    show v p.1 * p.2 k + ksum v l k = 0
    rw [h p List.mem_cons_self, ksum_none (fun q hq => h q (List.mem_cons_of_mem _ hq))]
    grind
theorem ksum_one {v : VF} {q : Nat × VF} : ∀ {l : List (Nat × VF)}, q ∈ l → l.Pairwise (fun p q => p.1 ≠ q.1) → v q.1 = 1 → (∀ p ∈ l, p.1 ≠ q.1 → v p.1 = 0) → ∀ k, ksum v l k = q.2 k
  | p :: l, hq, hp, h1, h0, k => by
    have hp2 := List.pairwise_cons.mp hp
    show v p.1 * p.2 k + ksum v l k = q.2 k
    rcases List.mem_cons.mp hq with rfl | hq
    · rw [h1, ksum_none (fun r hr => h0 r (List.mem_cons_of_mem _ hr) (hp2.1 r hr).symm)]
      grind
    · rw [h0 p List.mem_cons_self (hp2.1 q hq), ksum_one hq hp2.2 h1 (fun r hr => h0 r (List.mem_cons_of_mem _ hr))]
      grind
/-- what kept rows span is told by its numbers at the leads -/
theorem KI.told {m W M : Nat} {kept : List (Nat × List Rat)} (h : KI m W kept) (hM : m ≤ M) {v : VF} (hv : Spn (inL M (kept.map (·.2))) v) : ∀ k, v k = ksum v (kept.map fun p => (p.1, cf M p.2)) k := by
  have hp : (kept.map fun p => (p.1, cf M p.2)).Pairwise (fun p q => p.1 ≠ q.1) := by
    rw [List.pairwise_map]
    exact h.apart
  induction hv with
  | zero => exact fun k => (ksum_none (fun _ _ => rfl) k).symm
  | step c _ hg ih =>
    obtain ⟨r, hr, rfl⟩ := hg
    obtain ⟨p, hp1, rfl⟩ := List.mem_map.mp hr
    intro k
    have hlt := h.lt p hp1
    have e := ksum_one (v := cf M p.2) (q := (p.1, cf M p.2)) (List.mem_map.mpr ⟨p, hp1, rfl⟩) hp (by
      show cf M p.2 p.1 = 1
      unfold cf
      rw [if_pos (by omega), h.one p hp1]) (fun x hx hne => by
      obtain ⟨y, hy, rfl⟩ := List.mem_map.mp hx
      show cf M p.2 y.1 = 0
      unfold cf
      have := h.lt y hy
      rw [if_pos (by omega), h.nought p hp1 y hy (fun z => hne z.symm)]) k
    rw [ksum_add, ← ih k, e]
/-- a unit row is in what kept rows span if and only if it is one of them -/
theorem KI.unit {m W : Nat} {kept : List (Nat × List Rat)} (h : KI m W kept) {j : Nat} (hj : j < m) {u : VF} (hu : ∀ k, u k = if k = j then 1 else 0) :
    Spn (inL m (kept.map (·.2))) u ↔ ∃ p ∈ kept, p.1 = j ∧ ∀ k < m, k ≠ j → p.2.getD k 0 = 0 := by
  have hp : (kept.map fun p => (p.1, cf m p.2)).Pairwise (fun p q => p.1 ≠ q.1) := by
    rw [List.pairwise_map]
    exact h.apart
  constructor
  · intro hs
    have ht := h.told (Nat.le_refl m) hs
    by_cases hex : ∃ p ∈ kept, p.1 = j
    · obtain ⟨p, hp1, rfl⟩ := hex
      refine ⟨p, hp1, rfl, fun k hk hne => ?_⟩
      have e := ksum_one (v := u) (q := (p.1, cf m p.2)) (List.mem_map.mpr ⟨p, hp1, rfl⟩) hp (by rw [hu, if_pos rfl]) (fun x hx hne => by rw [hu, if_neg hne]) k
      rw [← ht k, hu, if_neg hne] at e
      have e2 : cf m p.2 k = 0 := e.symm
      unfold cf at e2
      rw [if_pos hk] at e2
      exact e2
    · exfalso
      have e := ksum_none (v := u) (l := kept.map fun p => (p.1, cf m p.2)) (fun x hx => by
        obtain ⟨y, hy, rfl⟩ := List.mem_map.mp hx
        rw [hu]
        exact if_neg fun z => hex ⟨y, hy, z⟩) j
      rw [← ht j, hu, if_pos rfl] at e
      exact absurd e (by decide)
  · rintro ⟨p, hp1, rfl, hz⟩
    have : Spn (inL m (kept.map (·.2))) (cf m p.2) := Spn.gen ⟨p.2, List.mem_map_of_mem hp1, rfl⟩
    refine this.cong fun k => ?_
    rw [hu]
    unfold cf
    by_cases hk : k < m
    · rw [if_pos hk]
      by_cases e : k = p.1
      · rw [if_pos e, e]
        exact h.one p hp1
      · rw [if_neg e]
        exact hz k hk e
    · rw [if_neg hk, if_neg (by omega)]
/-- a sum of the first n -/
def sN (f : Nat → Rat) : Nat → Rat
  | 0 => 0
  | n + 1 => sN f n + f n
theorem sN_add (f g : Nat → Rat) (c : Rat) : ∀ n, sN (fun k => f k + c * g k) n = sN f n + c * sN g n
  | 0 => by show (0 : Rat) = 0 + c * 0; grind
  | n + 1 => by
    show sN _ n + _ = (sN f n + f n) + c * (sN g n + g n)
    rw [sN_add f g c n]
    grind
theorem sN_cong {f g : Nat → Rat} : ∀ {n : Nat}, (∀ k < n, f k = g k) → sN f n = sN g n
  | 0, _ => rfl
  | n + 1, h => by
    show sN f n + f n = sN g n + g n
    rw [sN_cong fun k hk => h k (by omega), h n (by omega)]
theorem sN_none {f : Nat → Rat} : ∀ {n : Nat}, (∀ k < n, f k = 0) → sN f n = 0
  | 0, _ => rfl
  | n + 1, h => by
    show sN f n + f n = 0
    rw [sN_none fun k hk => h k (by omega), h n (by omega)]
    grind
theorem sN_one {f : Nat → Rat} {j : Nat} : ∀ {n : Nat}, j < n → (∀ k < n, k ≠ j → f k = 0) → sN f n = f j
  | n + 1, hj, h => by
    show sN f n + f n = f j
    by_cases e : j = n
    · subst e
      rw [sN_none fun k hk => h k (by omega) (by omega)]
      grind
    · rw [sN_one (n := n) (by omega) fun k hk => h k (by omega), h n (by omega) (by omega)]
      grind
/-- equations that hold at a point: so does what they span -/
theorem spn_holds {m : Nat} {pt : Nat → Rat} {G : VF → Prop} (h : ∀ g, G g → sN (fun k => g k * pt k) m = g m) {v : VF} (hv : Spn G v) : sN (fun k => v k * pt k) m = v m := by
  induction hv with
  | zero => exact sN_none fun k _ => by grind
  | step c _ hg ih =>
    rename_i v g _
    have e : (fun k => (v k + c * g k) * pt k) = fun k => (fun k => v k * pt k) k + c * (fun k => g k * pt k) k := funext fun k => by grind
    show sN (fun k => (v k + c * g k) * pt k) m = v m + c * g m
    rw [e, sN_add, ih, h _ hg]
end

section
/-- numbers over one divisor, all of n bits -/
def CB (n : Nat) (r : List Rat) : Prop := ∃ D : Nat, 0 < D ∧ D < 2 ^ n ∧ ∀ x ∈ r, ∃ N : Int, x * (D : Rat) = (N : Rat) ∧ N.natAbs < 2 ^ n
theorem CB.up {n m : Nat} {r : List Rat} (h : CB n r) (hm : n ≤ m) : CB m r := by
  obtain ⟨D, h0, h1, h2⟩ := h
  have hp : (2 : Nat) ^ n ≤ 2 ^ m := Nat.pow_le_pow_right (by decide) hm
  exact ⟨D, h0, Nat.lt_of_lt_of_le h1 hp, fun x hx => by
    obtain ⟨N, e, b⟩ := h2 x hx
    exact ⟨N, e, Nat.lt_of_lt_of_le b hp⟩⟩
theorem natCast_ne {D : Nat} (h : 0 < D) : (D : Rat) ≠ 0 := fun z => by
  have : (D : Rat) = ((0 : Nat) : Rat) := z
  have := Rat.natCast_inj.mp this
  omega
theorem CB.bd {n : Nat} {r : List Rat} (h : CB n r) {x : Rat} (hx : x ∈ r) : Bd n x := by
  obtain ⟨D, h0, h1, h2⟩ := h
  obtain ⟨N, e, b⟩ := h2 x hx
  have e1 : x = Rat.divInt N (D : Int) := by
    rw [Rat.divInt_eq_div]
    show x = (N : Rat) / (D : Rat)
    rw [← e]
    have := natCast_ne h0
    grind
  rw [e1]
  exact bd_of (by omega) b (by rw [Int.natAbs_natCast]; exact h1)
theorem getD_or {r : List Rat} {l : Nat} : r.getD l 0 = 0 ∨ r.getD l 0 ∈ r := by
  rw [List.getD_eq_getElem?_getD]
  cases h : r[l]? with
  | none => exact .inl rfl
  | some x => exact .inr (List.mem_of_getElem? h)
theorem CB.at {n : Nat} {r : List Rat} {D : Nat} (h : ∀ x ∈ r, ∃ N : Int, x * (D : Rat) = (N : Rat) ∧ N.natAbs < 2 ^ n) (l : Nat) : ∃ N : Int, r.getD l 0 * (D : Rat) = (N : Rat) ∧ N.natAbs < 2 ^ n := by
  rcases getD_or (r := r) (l := l) with e | e
  · exact ⟨0, by rw [e, Rat.zero_mul]; rfl, by show 0 < 2 ^ n; exact Nat.two_pow_pos n⟩
  · exact h _ e
theorem zip_mem {f : Rat → Rat → Rat} {a b : List Rat} {z : Rat} (h : z ∈ List.zipWith f a b) : ∃ x ∈ a, ∃ y ∈ b, f x y = z := by
  obtain ⟨i, hi⟩ := List.mem_iff_getElem?.mp h
  rw [List.getElem?_zipWith] at hi
  cases e1 : a[i]? with
  | none =>
    rw [e1] at hi
    cases hi
  | some c =>
    cases e2 : b[i]? with
    | none =>
      rw [e1, e2] at hi
      cases hi
    | some d =>
      rw [e1, e2] at hi
      exact ⟨c, List.mem_of_getElem? e1, d, List.mem_of_getElem? e2, Option.some.inj hi⟩
theorem two_wl {x y : Int} {a b : Nat} (h : x.natAbs < 2 ^ a) (h2 : y.natAbs < 2 ^ b) (z w : Int) (h3 : z.natAbs < 2 ^ a) (h4 : w.natAbs < 2 ^ b) : (x * y - z * w).natAbs < 2 ^ (a + b + 1) := by
  have w1 := wl h h2
  have w2 := wl h3 h4
  have := Int.natAbs_sub_le (x * y) (z * w)
  rw [Nat.pow_succ]
  omega
theorem CB.clr {n m l : Nat} {base row : List Rat} (h : CB n row) (h2 : CB m base) : CB (n + m + 1) (Tp.clr l base row) := by
  unfold Tp.clr
  split
  · exact h.up (by omega)
  obtain ⟨D, d0, d1, d2⟩ := h
  obtain ⟨E, e0, e1, e2⟩ := h2
  obtain ⟨F, f1, f2⟩ := CB.at d2 l
  refine ⟨D * E, Nat.mul_pos d0 e0, ?_, fun z hz => ?_⟩
  · have := Nat.mul_lt_mul'' d1 e1
    rw [← Nat.pow_add] at this
    exact Nat.lt_of_lt_of_le this (Nat.pow_le_pow_right (by decide) (by omega))
  · obtain ⟨x, hx, y, hy, rfl⟩ := zip_mem hz
    obtain ⟨N, n1, n2⟩ := d2 x hx
    obtain ⟨M, m1, m2⟩ := e2 y hy
    refine ⟨N * (E : Int) - F * M, ?_, two_wl n2 (by rw [Int.natAbs_natCast]; exact e1) _ _ f2 m2⟩
    rw [Rat.natCast_mul, Rat.intCast_sub, Rat.intCast_mul, Rat.intCast_mul, ← n1, ← f1, ← m1]
    show (x - row.getD l 0 * y) * ((D : Rat) * (E : Rat)) = x * D * (E : Rat) - row.getD l 0 * D * (y * E)
    grind
theorem CB.over {n : Nat} {r : List Rat} (h : CB n r) {f : Rat} (hf : f ∈ r) (f0 : f ≠ 0) : CB n (r.map fun x => x / f) := by
  obtain ⟨D, d0, d1, d2⟩ := h
  obtain ⟨F, f1, f2⟩ := d2 f hf
  have hD := natCast_ne d0
  have hF : F ≠ 0 := fun z => by
    subst z
    have z2 : f * (D : Rat) = 0 := f1
    rcases Rat.mul_eq_zero.mp z2 with g | g
    · exact f0 g
    · exact hD g
  refine ⟨F.natAbs, by omega, f2, fun z hz => ?_⟩
  obtain ⟨x, hx, rfl⟩ := List.mem_map.mp hz
  obtain ⟨N, n1, n2⟩ := d2 x hx
  rcases Int.natAbs_eq F with e | e
  · refine ⟨N, ?_, n2⟩
    have e3 : ((F.natAbs : Nat) : Rat) = f * D := by
      rw [f1, show ((F.natAbs : Nat) : Rat) = (((F.natAbs : Nat) : Int) : Rat) from rfl, ← e]
    rw [e3, ← n1]
    grind
  · refine ⟨-N, ?_, by rw [Int.natAbs_neg]; exact n2⟩
    have e3 : ((F.natAbs : Nat) : Rat) = -(f * D) := by
      rw [f1, ← Rat.intCast_neg, show ((F.natAbs : Nat) : Rat) = (((F.natAbs : Nat) : Int) : Rat) from rfl]
      congr 1
      omega
    rw [e3, Rat.intCast_neg, ← n1]
    grind
theorem CB.append {n : Nat} {r s : List Rat} (h : CB n r) (hs : ∀ x ∈ s, x = 0 ∨ x = 1) : CB n (r ++ s) := by
  obtain ⟨D, d0, d1, d2⟩ := h
  refine ⟨D, d0, d1, fun x hx => ?_⟩
  rcases List.mem_append.mp hx with h | h
  · exact d2 x h
  · rcases hs x h with rfl | rfl
    · exact ⟨0, by rw [Rat.zero_mul]; rfl, by show 0 < 2 ^ n; exact Nat.two_pow_pos n⟩
    · exact ⟨(D : Int), by rw [Rat.one_mul]; rfl, by rw [Int.natAbs_natCast]; exact d1⟩
/-- kept rows over one divisor, all of m bits -/
def JB (m : Nat) (kept : List (Nat × List Rat)) : Prop := ∃ D : Nat, 0 < D ∧ D < 2 ^ m ∧ ∀ p ∈ kept, ∀ x ∈ p.2, ∃ N : Int, x * (D : Rat) = (N : Rat) ∧ N.natAbs < 2 ^ m
/-- the bits of so many kept rows -/
def jb : Nat → Nat
  | 0 => 1
  | s + 1 => 2 * jb s + 13
theorem jb_up {s : Nat} : jb s ≤ jb (s + 1) := by
  show _ ≤ 2 * jb s + 13
  omega
theorem jb_le {s : Nat} (h : s ≤ 6) : jb s ≤ 900 := by
  have : ∀ s ≤ 6, jb s ≤ 900 := by decide
  exact this s h
/-- small given rows: times 12 whole, of 11 bits; whole and at most 2 ahead of place m -/
def Gs (m : Nat) (g : List Rat) : Prop := (∀ x ∈ g, ∃ N : Int, x * 12 = (N : Rat) ∧ N.natAbs < 2 ^ 11) ∧ ∀ k < m, ∃ F : Int, g.getD k 0 = (F : Rat) ∧ F.natAbs ≤ 2
theorem clr_up {D B l : Nat} {base row : List Rat} {m : Nat} (hb : ∀ y ∈ base, ∃ N : Int, y * (D : Rat) = (N : Rat) ∧ N.natAbs < 2 ^ m) (hr : ∀ x ∈ row, ∃ N : Int, x * ((12 * D : Nat) : Rat) = (N : Rat) ∧ N.natAbs < 2 ^ m * B) {F : Int} (hF : row.getD l 0 = (F : Rat)) (hF2 : F.natAbs ≤ 2) :
    ∀ x ∈ clr l base row, ∃ N : Int, x * ((12 * D : Nat) : Rat) = (N : Rat) ∧ N.natAbs < 2 ^ m * (B + 24) := by
  have hp : 0 < 2 ^ m := Nat.two_pow_pos m
  unfold clr
  intro z hz
  split at hz
  · obtain ⟨N, n1, n2⟩ := hr z hz
    exact ⟨N, n1, by rw [Nat.mul_add]; omega⟩
  · obtain ⟨x, hx, y, hy, rfl⟩ := zip_mem hz
    obtain ⟨N, n1, n2⟩ := hr x hx
    obtain ⟨M, m1, m2⟩ := hb y hy
    refine ⟨N - 12 * F * M, ?_, ?_⟩
    · rw [Rat.intCast_sub, Rat.intCast_mul, Rat.intCast_mul, ← n1, ← m1, ← hF, Rat.natCast_mul, show ((12 : Int) : Rat) = 12 from rfl, show ((12 : Nat) : Rat) = 12 from rfl]
      grind
    · have h1 : (12 * F * M).natAbs ≤ 24 * M.natAbs := by
        rw [Int.natAbs_mul, Int.natAbs_mul]
        exact Nat.mul_le_mul_right _ (by show 12 * F.natAbs ≤ 24; omega)
      have h2 := Int.natAbs_sub_le N (12 * F * M)
      rw [Nat.mul_add]
      omega
theorem red_jb {D m W mm : Nat} {kept : List (Nat × List Rat)} (hk : KI mm W kept) (hD : ∀ p ∈ kept, ∀ x ∈ p.2, ∃ N : Int, x * (D : Rat) = (N : Rat) ∧ N.natAbs < 2 ^ m) :
    ∀ (todo : List (Nat × List Rat)) (row : List Rat) (B : Nat), (∀ p ∈ todo, p ∈ kept) → todo.Pairwise (fun p q => p.1 ≠ q.1) → row.length = W → (∀ x ∈ row, ∃ N : Int, x * ((12 * D : Nat) : Rat) = (N : Rat) ∧ N.natAbs < 2 ^ m * B) → (∀ p ∈ todo, ∃ F : Int, row.getD p.1 0 = (F : Rat) ∧ F.natAbs ≤ 2) →
      ∀ x ∈ red todo row, ∃ N : Int, x * ((12 * D : Nat) : Rat) = (N : Rat) ∧ N.natAbs < 2 ^ m * (B + 24 * todo.length)
  | [], row, B, _, _, _, hr, _ => hr
  | p :: todo, row, B, ht, hpw, hl, hr, hF => by
    have hp := ht p List.mem_cons_self
    have hpw2 := List.pairwise_cons.mp hpw
    have el : row.length = p.2.length := by rw [hl, hk.len p hp]
    obtain ⟨F, f1, f2⟩ := hF p List.mem_cons_self
    have h1 := clr_up (hD p hp) hr f1 f2
    have := red_jb hk hD todo (clr p.1 p.2 row) (B + 24) (fun q hq => ht q (List.mem_cons_of_mem _ hq)) hpw2.2 (by rw [clr_len el]; exact hl) h1 (fun q hq => by
      obtain ⟨F2, g1, g2⟩ := hF q (List.mem_cons_of_mem _ hq)
      refine ⟨F2, ?_, g2⟩
      rw [clr_at el, hk.nought p hp q (ht q (List.mem_cons_of_mem _ hq)) (hpw2.1 q hq), g1]
      grind)
    intro x hx
    obtain ⟨N, n1, n2⟩ := this x hx
    refine ⟨N, n1, ?_⟩
    rw [List.length_cons, show B + 24 * (todo.length + 1) = B + 24 + 24 * todo.length by omega]
    exact n2
/-- one row cleared by another, as the check does it -/
def elm (n c : Nat) (row x : List Rat) : List Rat := (List.range n).map fun k => x.getD k 0 + -(x.getD c 0 / row.getD c 0) * row.getD k 0
theorem elm_len {n c : Nat} {row x : List Rat} : (elm n c row x).length = n := by
  unfold elm
  rw [List.length_map, List.length_range]
theorem elm_at {n c : Nat} {row x : List Rat} {k : Nat} (h : k < n) : (elm n c row x).getD k 0 = x.getD k 0 + -(x.getD c 0 / row.getD c 0) * row.getD k 0 := by
  unfold elm
  rw [List.getD_eq_getElem?_getD, List.getElem?_map, List.getElem?_range h]
  rfl
theorem cf_elm {n c : Nat} {row x : List Rat} (k : Nat) : cf n (elm n c row x) k = cf n x k + -(x.getD c 0 / row.getD c 0) * cf n row k := by
  unfold cf
  by_cases h : k < n
  · rw [if_pos h, if_pos h, if_pos h, elm_at h]
  · rw [if_neg h, if_neg h, if_neg h]
    grind
theorem CB.elm {b n c : Nat} {row x : List Rat} (h : CB b x) (h2 : CB b row) (h0 : row.getD c 0 ≠ 0) : CB (2 * b + 1) (Tp.elm n c row x) := by
  obtain ⟨D, d0, d1, d2⟩ := h
  obtain ⟨E, e0, e1, e2⟩ := h2
  obtain ⟨N0, n1, n2⟩ := CB.at d2 c
  obtain ⟨M0, m1, m2⟩ := CB.at e2 c
  have hE := natCast_ne e0
  have hM : M0 ≠ 0 := fun z => by
    subst z
    have z2 : row.getD c 0 * (E : Rat) = 0 := m1
    rcases Rat.mul_eq_zero.mp z2 with g | g
    · exact h0 g
    · exact hE g
  have hp : D * M0.natAbs < 2 ^ (2 * b + 1) := by
    have := Nat.mul_lt_mul'' d1 m2
    rw [← Nat.pow_add] at this
    exact Nat.lt_of_lt_of_le this (Nat.pow_le_pow_right (by decide) (by omega))
  refine ⟨D * M0.natAbs, Nat.mul_pos d0 (by omega), hp, fun z hz => ?_⟩
  obtain ⟨k, _, rfl⟩ := List.mem_map.mp hz
  obtain ⟨N, n3, n4⟩ := CB.at d2 k
  obtain ⟨M, m3, m4⟩ := CB.at e2 k
  have hb : ∀ s : Int, s.natAbs = 1 → (s * (N * M0 - N0 * M)).natAbs < 2 ^ (2 * b + 1) := fun s hs => by
    rw [Int.natAbs_mul, hs, Nat.one_mul]
    have := two_wl n4 m2 _ _ n2 m4
    rw [show b + b + 1 = 2 * b + 1 by omega] at this
    exact this
  rcases Int.natAbs_eq M0 with e | e
  · refine ⟨1 * (N * M0 - N0 * M), ?_, hb 1 rfl⟩
    have e3 : ((M0.natAbs : Nat) : Rat) = row.getD c 0 * E := by
      rw [m1, show ((M0.natAbs : Nat) : Rat) = (((M0.natAbs : Nat) : Int) : Rat) from rfl, ← e]
    rw [Rat.natCast_mul, e3, Int.one_mul, Rat.intCast_sub, Rat.intCast_mul, Rat.intCast_mul, ← n1, ← m1, ← n3, ← m3]
    grind
  · refine ⟨-1 * (N * M0 - N0 * M), ?_, hb (-1) rfl⟩
    have e3 : ((M0.natAbs : Nat) : Rat) = -(row.getD c 0 * E) := by
      rw [m1, ← Rat.intCast_neg, show ((M0.natAbs : Nat) : Rat) = (((M0.natAbs : Nat) : Int) : Rat) from rfl]
      congr 1
      omega
    rw [Rat.natCast_mul, e3, Rat.intCast_mul, Rat.intCast_sub, Rat.intCast_mul, Rat.intCast_mul, ← n1, ← m1, ← n3, ← m3, show ((-1 : Int) : Rat) = -1 from rfl]
    grind
/-- the check's elimination, ahead of column c, with f rows done -/
structure RI (n : Nat) (rows0 rows : List (List Rat)) (c f : Nat) : Prop where
  len : ∀ r ∈ rows, r.length = n
  cnt : rows.length = rows0.length
  spn : ∀ v, Spn (inL n rows0) v ↔ Spn (inL n rows) v
  few : f ≤ rows.length
  ech : ∃ E : List (Nat × VF), Ec E ∧ E.map (·.2) = (rows.take f).map (cf n) ∧ ∀ p ∈ E, p.1 < c
  low : ∀ r ∈ rows.drop f, ∀ k < c, r.getD k 0 = 0
theorem RI.start {n : Nat} {rows : List (List Rat)} (h : ∀ r ∈ rows, r.length = n) : RI n rows rows 0 0 :=
  ⟨h, rfl, fun _ => Iff.rfl, Nat.zero_le _, ⟨[], ⟨List.Pairwise.nil, fun _ h => nomatch h⟩, rfl, fun _ h => nomatch h⟩, fun _ _ _ h => absurd h (Nat.not_lt_zero _)⟩
theorem RI.skip {n c f : Nat} {rows0 rows : List (List Rat)} (h : RI n rows0 rows c f) (hz : ∀ r ∈ rows.drop f, r.getD c 0 = 0) : RI n rows0 rows (c + 1) f := by
  obtain ⟨E, e1, e2, e3⟩ := h.ech
  refine ⟨h.len, h.cnt, h.spn, h.few, ⟨E, e1, e2, fun p hp => by have := e3 p hp; omega⟩, fun r hr k hk => ?_⟩
  rcases Nat.lt_or_ge k c with g | g
  · exact h.low r hr k g
  · have : k = c := by omega
    rw [this]
    exact hz r hr
theorem RI.next {n c f : Nat} {rows0 A B C : List (List Rat)} {row : List Rat} (h : RI n rows0 (A ++ (B ++ row :: C)) c f) (hA : A.length = f) (hc : c < n) (h0 : row.getD c 0 ≠ 0) : RI n rows0 (A ++ row :: (B ++ C).map (elm n c row)) (c + 1) (f + 1) := by
  obtain ⟨E, e1, e2, e3⟩ := h.ech
  subst hA
  have hd : (A ++ (B ++ row :: C)).drop A.length = B ++ row :: C := List.drop_left
  have hlow := h.low
  rw [hd] at hlow
  rw [List.take_left] at e2
  have hrow : row ∈ B ++ row :: C := List.mem_append_right _ List.mem_cons_self
  have hBC : ∀ x ∈ B ++ C, x ∈ B ++ row :: C := fun x hx => by
    rcases List.mem_append.mp hx with g | g
    · exact List.mem_append_left _ g
    · exact List.mem_append_right _ (List.mem_cons_of_mem _ g)
  have hin : ∀ x ∈ A ++ (B ++ row :: C), x ∈ A ∨ x = row ∨ x ∈ B ++ C := fun x hx => by
    rcases List.mem_append.mp hx with g | g
    · exact .inl g
    · rcases List.mem_append.mp g with g | g
      · exact .inr (.inr (List.mem_append_left _ g))
      · rcases List.mem_cons.mp g with g | g
        · exact .inr (.inl g)
        · exact .inr (.inr (List.mem_append_right _ g))
  have ld : Ld (cf n row) c := by
    refine ⟨?_, fun k hk => ?_⟩
    · unfold cf
      rw [if_pos hc]
      exact h0
    · unfold cf
      rw [if_pos (by omega)]
      exact hlow row hrow k hk
  refine ⟨fun r hr => ?_, ?_, fun v => (h.spn v).trans ⟨fun hv => hv.mono fun g hg => ?_, fun hv => hv.mono fun g hg => ?_⟩, ?_, ⟨E ++ [(c, cf n row)], ⟨?_, ?_⟩, ?_, ?_⟩, ?_⟩
  · rcases List.mem_append.mp hr with g | g
    · exact h.len r (List.mem_append_left _ g)
    · rcases List.mem_cons.mp g with g | g
      · rw [g]
        exact h.len row (List.mem_append_right _ hrow)
      · obtain ⟨x, _, rfl⟩ := List.mem_map.mp g
        exact elm_len
  · rw [← h.cnt]
    simp only [List.length_append, List.length_cons, List.length_map]
    omega
  · obtain ⟨x, hx, rfl⟩ := hg
    have r1 : Spn (inL n (A ++ row :: (B ++ C).map (elm n c row))) (cf n row) := Spn.gen ⟨row, List.mem_append_right _ List.mem_cons_self, rfl⟩
    rcases hin x hx with g | g | g
    · exact Spn.gen ⟨x, List.mem_append_left _ g, rfl⟩
    · rw [g]
      exact r1
    · have r2 : Spn (inL n (A ++ row :: (B ++ C).map (elm n c row))) (cf n (elm n c row x)) := Spn.gen ⟨_, List.mem_append_right _ (List.mem_cons_of_mem _ (List.mem_map_of_mem g)), rfl⟩
      exact (Spn.closed _ _ (x.getD c 0 / row.getD c 0) r2 r1).cong fun k => by
        rw [cf_elm]
        grind
  · obtain ⟨x, hx, rfl⟩ := hg
    have r1 : Spn (inL n (A ++ (B ++ row :: C))) (cf n row) := Spn.gen ⟨row, List.mem_append_right _ hrow, rfl⟩
    rcases List.mem_append.mp hx with g | g
    · exact Spn.gen ⟨x, List.mem_append_left _ g, rfl⟩
    · rcases List.mem_cons.mp g with g | g
      · rw [g]
        exact r1
      · obtain ⟨y, hy, rfl⟩ := List.mem_map.mp g
        have r2 : Spn (inL n (A ++ (B ++ row :: C))) (cf n y) := Spn.gen ⟨y, List.mem_append_right _ (hBC y hy), rfl⟩
        exact (Spn.closed _ _ (-(y.getD c 0 / row.getD c 0)) r2 r1).cong fun k => by rw [cf_elm]
  · simp only [List.length_append, List.length_cons]
    omega
  · rw [List.pairwise_append]
    refine ⟨e1.1, List.pairwise_singleton _ _, fun p hp q hq => ?_⟩
    rw [List.mem_singleton.mp hq]
    exact e3 p hp
  · intro p hp
    rcases List.mem_append.mp hp with g | g
    · exact e1.2 p g
    · rw [List.mem_singleton.mp g]
      exact ld
  · rw [List.map_append, e2, show A ++ row :: (B ++ C).map (elm n c row) = (A ++ [row]) ++ (B ++ C).map (elm n c row) by simp, List.take_left' (by simp), List.map_append]
    rfl
  · intro p hp
    rcases List.mem_append.mp hp with g | g
    · have := e3 p g
      omega
    · rw [List.mem_singleton.mp g]
      exact Nat.lt_succ_self c
  · rw [show A ++ row :: (B ++ C).map (elm n c row) = (A ++ [row]) ++ (B ++ C).map (elm n c row) by simp, List.drop_left' (by simp)]
    intro r hr k hk
    obtain ⟨x, hx, rfl⟩ := List.mem_map.mp hr
    rw [elm_at (by omega)]
    rcases Nat.lt_or_ge k c with g | g
    · rw [hlow x (hBC x hx) k g, hlow row hrow k g]
      grind
    · have : k = c := by omega
      subst this
      grind
theorem RI.done {n f : Nat} {rows0 rows : List (List Rat)} (h : RI n rows0 rows n f) : RankIs (Spn (inL n rows0)) f := by
  obtain ⟨E, e1, e2, e3⟩ := h.ech
  have hlen : E.length = f := by
    have := congrArg List.length e2
    rw [List.length_map, List.length_map, List.length_take] at this
    have := h.few
    omega
  have hE : ∀ p ∈ E, ∃ r ∈ rows.take f, cf n r = p.2 := fun p hp => by
    have : p.2 ∈ (rows.take f).map (cf n) := by
      rw [← e2]
      exact List.mem_map_of_mem hp
    obtain ⟨r, hr, e⟩ := List.mem_map.mp this
    exact ⟨r, hr, e⟩
  refine ⟨E, e1, fun p hp => ?_, fun v c hv hc => ?_, hlen⟩
  · obtain ⟨r, hr, e⟩ := hE p hp
    rw [h.spn, ← e]
    exact Spn.gen ⟨r, List.mem_of_mem_take hr, rfl⟩
  · have hv2 : Spn (inR E) v := ((h.spn v).mp hv).mono fun g hg => by
      obtain ⟨r, hr, rfl⟩ := hg
      rw [← List.take_append_drop f rows] at hr
      rcases List.mem_append.mp hr with g | g
      · have : cf n r ∈ E.map (·.2) := by
          rw [e2]
          exact List.mem_map_of_mem g
        obtain ⟨p, hp, e⟩ := List.mem_map.mp this
        exact Spn.gen ⟨p, hp, e⟩
      · refine Spn.zero.cong fun k => ?_
        unfold cf
        split
        · rename_i hk
          exact (h.low r g k hk).symm
        · rfl
    rcases e1.lead hv2 with z | ⟨p, hp, hl⟩
    · exact absurd (z c) hc.1
    · exact ⟨p, hp, hl.uniq hc⟩
/-- a row with a mark behind it -/
def mrk (g : List Rat) (i n : Nat) : List Rat := g ++ (List.range n).map fun k => if k = i then (1 : Rat) else 0
theorem cf_mrk {M : Nat} {g : List Rat} (h : g.length = M) (i n : Nat) : cf M (mrk g i n) = cf M g := funext fun k => by
  unfold cf mrk
  by_cases hk : k < M
  · rw [if_pos hk, if_pos hk, List.getD_eq_getElem?_getD, List.getD_eq_getElem?_getD, List.getElem?_append_left (by omega)]
  · rw [if_neg hk, if_neg hk]
theorem mrk_gs {m : Nat} {g : List Rat} (h : Gs m g) (hl : m ≤ g.length) (i n : Nat) : Gs m (mrk g i n) := by
  refine ⟨fun x hx => ?_, fun k hk => ?_⟩
  · rcases List.mem_append.mp hx with hx | hx
    · exact h.1 x hx
    · obtain ⟨k, _, rfl⟩ := List.mem_map.mp hx
      split
      · exact ⟨12, by rw [Rat.one_mul]; rfl, by decide⟩
      · exact ⟨0, by rw [Rat.zero_mul]; rfl, by decide⟩
  · unfold mrk
    rw [List.getD_eq_getElem?_getD, List.getElem?_append_left (by omega), ← List.getD_eq_getElem?_getD]
    exact h.2 k hk
/-- what is kept behind some equations, without a conflict -/
structure SI (m W : Nat) (done : List (List Rat)) (kept : List (Nat × List Rat)) : Prop where
  ki : KI m W kept
  jb : JB (jb kept.length) kept
  s1 : ∀ p ∈ kept, Spn (inL (m + 1) done) (cf (m + 1) p.2)
  s2 : ∀ g ∈ done, Spn (inL (m + 1) (kept.map (·.2))) (cf (m + 1) g)
theorem SI.start {m W : Nat} : SI m W [] [] := ⟨⟨(fun _ h => nomatch h), (fun _ h => nomatch h), (fun _ h => nomatch h), List.Pairwise.nil, (fun _ h => nomatch h)⟩, ⟨1, Nat.one_pos, by decide, fun _ h => nomatch h⟩, (fun _ h => nomatch h), (fun _ h => nomatch h)⟩
theorem SI.row {m W i n : Nat} {done : List (List Rat)} {kept : List (Nat × List Rat)} (h : SI m W done kept) {g : List Rat} (hg : g.length = m + 1) (hW : m + 1 + n = W) :
    (red kept (mrk g i n)).length = W ∧ (∃ v, Spn (inL (m + 1) (kept.map (·.2))) v ∧ ∀ k, cf (m + 1) (red kept (mrk g i n)) k = cf (m + 1) g k + v k) ∧ ∀ p ∈ kept, (red kept (mrk g i n)).getD p.1 0 = 0 := by
  have hl : (mrk g i n).length = W := by
    unfold mrk
    rw [List.length_append, List.length_map, List.length_range]
    omega
  refine ⟨red_len h.ki.len hl, ?_, red_nought h.ki hl⟩
  obtain ⟨v, v1, v2⟩ := red_spn (M := m + 1) h.ki.len hl
  refine ⟨v, v1, fun k => ?_⟩
  rw [v2 k, cf_mrk hg]
theorem SI.some {m W i n : Nat} {done : List (List Rat)} {kept : List (Nat × List Rat)} (h : SI m W done kept) {g : List Rat} (hg : g.length = m + 1) (hW : m + 1 + n = W) (hb : Gs m g) (hk : kept.length ≤ 6) : ∃ D : Nat, 0 < D ∧ D < 2 ^ (Tp.jb kept.length) ∧ (∀ p ∈ kept, ∀ x ∈ p.2, ∃ N : Int, x * (D : Rat) = (N : Rat) ∧ N.natAbs < 2 ^ (Tp.jb kept.length)) ∧
    ∀ j ≤ kept.length, ∀ x ∈ red (kept.take j) (mrk g i n), ∃ N : Int, x * ((12 * D : Nat) : Rat) = (N : Rat) ∧ N.natAbs < 2 ^ (Tp.jb kept.length + 12) := by
  obtain ⟨D, d0, d1, d2⟩ := h.jb
  have hl : (mrk g i n).length = W := by
    unfold mrk
    rw [List.length_append, List.length_map, List.length_range]
    omega
  have hs := mrk_gs hb (by omega) i n
  refine ⟨D, d0, d1, d2, fun j hj x hx => ?_⟩
  obtain ⟨N, n1, n2⟩ := red_jb h.ki d2 (kept.take j) (mrk g i n) (2 ^ 11) (fun p hp => List.mem_of_mem_take hp) (h.ki.apart.sublist (List.take_sublist _ _)) hl (fun x hx => by
    obtain ⟨N, n1, n2⟩ := hs.1 x hx
    refine ⟨N * (D : Int), ?_, ?_⟩
    · rw [Rat.natCast_mul, Rat.intCast_mul, ← n1, show ((12 : Nat) : Rat) = 12 from rfl]
      show x * (12 * (D : Rat)) = x * 12 * (D : Rat)
      grind
    · rw [Int.natAbs_mul, Int.natAbs_natCast, Nat.mul_comm]
      exact Nat.mul_lt_mul'' d1 n2) (fun p hp => hs.2 p.1 (h.ki.lt p (List.mem_of_mem_take hp))) x hx
  refine ⟨N, n1, Nat.lt_of_lt_of_le n2 ?_⟩
  rw [Nat.pow_add]
  refine Nat.mul_le_mul_left _ ?_
  rw [List.length_take]
  have : (2 : Nat) ^ 12 = 4096 := rfl
  have : (2 : Nat) ^ 11 = 2048 := rfl
  omega
theorem bd_over {D n : Nat} {x : Rat} {N : Int} (h0 : 0 < D) (h1 : D < 2 ^ n) (e : x * (D : Rat) = (N : Rat)) (b : N.natAbs < 2 ^ n) : Bd n x := by
  have e1 : x = Rat.divInt N (D : Int) := by
    rw [Rat.divInt_eq_div]
    show x = (N : Rat) / (D : Rat)
    rw [← e]
    have := natCast_ne h0
    grind
  rw [e1]
  exact bd_of (by omega) b (by rw [Int.natAbs_natCast]; exact h1)
theorem SI.bits {m W i n : Nat} {done : List (List Rat)} {kept : List (Nat × List Rat)} (h : SI m W done kept) {g : List Rat} (hg : g.length = m + 1) (hW : m + 1 + n = W) (hb : Gs m g) (hk : kept.length ≤ 6) : (∀ p ∈ kept, ∀ x ∈ p.2, Bd 1000 x) ∧ ∀ j ≤ kept.length, ∀ x ∈ red (kept.take j) (mrk g i n), Bd 1000 x := by
  obtain ⟨D, d0, d1, d2, d3⟩ := h.some (i := i) hg hW hb hk
  have hj := jb_le hk
  refine ⟨fun p hp x hx => ?_, fun j hj2 x hx => ?_⟩
  · obtain ⟨N, n1, n2⟩ := d2 p hp x hx
    exact (bd_over d0 d1 n1 n2).up (by omega)
  · obtain ⟨N, n1, n2⟩ := d3 j hj2 x hx
    refine (bd_over (n := Tp.jb kept.length + 12) (by omega) ?_ n1 n2).up (by omega)
    rw [Nat.pow_add]
    have : (2 : Nat) ^ 12 = 4096 := rfl
    omega
theorem SI.holds {m W i n : Nat} {done : List (List Rat)} {kept : List (Nat × List Rat)} (h : SI m W done kept) {g : List Rat} (hg : g.length = m + 1) (hW : m + 1 + n = W) {pt : Nat → Rat} (hp : ∀ r ∈ done ++ [g], sN (fun k => cf (m + 1) r k * pt k) m = cf (m + 1) r m)
    (hz : ∀ k < m, (red kept (mrk g i n)).getD k 0 = 0) : (red kept (mrk g i n)).getD m 0 = 0 := by
  obtain ⟨_, ⟨v, v1, v2⟩, _⟩ := h.row (i := i) hg hW
  have hs : Spn (inL (m + 1) (done ++ [g])) (cf (m + 1) (red kept (mrk g i n))) := by
    have a1 : Spn (inL (m + 1) (done ++ [g])) (cf (m + 1) g) := Spn.gen ⟨g, List.mem_append_right _ List.mem_cons_self, rfl⟩
    have a2 : Spn (inL (m + 1) (done ++ [g])) v := v1.mono fun x hx => by
      obtain ⟨r, hr, rfl⟩ := hx
      obtain ⟨p, hp, rfl⟩ := List.mem_map.mp hr
      exact (h.s1 p hp).mono fun y hy => by
        obtain ⟨r, hr, rfl⟩ := hy
        exact Spn.gen ⟨r, List.mem_append_left _ hr, rfl⟩
    exact (a1.addv a2).cong fun k => (v2 k).symm
  have e := spn_holds (m := m) (pt := pt) (fun x hx => by
    obtain ⟨r, hr, rfl⟩ := hx
    exact hp r hr) hs
  rw [sN_none (fun k hk => by
    have : cf (m + 1) (red kept (mrk g i n)) k = 0 := by
      unfold cf
      rw [if_pos (by omega)]
      exact hz k hk
    rw [this]
    grind)] at e
  have e2 : cf (m + 1) (red kept (mrk g i n)) m = (red kept (mrk g i n)).getD m 0 := by
    unfold cf
    exact if_pos (by omega)
  rw [← e2]
  exact e.symm
theorem SI.drop {m W i n : Nat} {done : List (List Rat)} {kept : List (Nat × List Rat)} (h : SI m W done kept) {g : List Rat} (hg : g.length = m + 1) (hW : m + 1 + n = W) (hz : ∀ k < m + 1, (red kept (mrk g i n)).getD k 0 = 0) : SI m W (done ++ [g]) kept := by
  obtain ⟨_, ⟨v, v1, v2⟩, _⟩ := h.row (i := i) hg hW
  refine ⟨h.ki, h.jb, fun p hp => (h.s1 p hp).mono fun y hy => ?_, fun x hx => ?_⟩
  · obtain ⟨r, hr, rfl⟩ := hy
    exact Spn.gen ⟨r, List.mem_append_left _ hr, rfl⟩
  · rcases List.mem_append.mp hx with hx | hx
    · exact h.s2 x hx
    · rw [List.mem_singleton.mp hx]
      refine (v1.scale (-1)).cong fun k => ?_
      have e := v2 k
      have e0 : cf (m + 1) (red kept (mrk g i n)) k = 0 := by
        unfold cf
        split
        · exact hz k (by assumption)
        · rfl
      rw [e0] at e
      grind
theorem jb_next {D m : Nat} {kept : List (Nat × List Rat)} {r1 : List Rat} {f : Rat} (d0 : 0 < D) (d1 : D < 2 ^ m) (d2 : ∀ p ∈ kept, ∀ x ∈ p.2, ∃ N : Int, x * (D : Rat) = (N : Rat) ∧ N.natAbs < 2 ^ m) (d4 : ∀ x ∈ r1, ∃ N : Int, x * ((12 * D : Nat) : Rat) = (N : Rat) ∧ N.natAbs < 2 ^ (m + 12)) (hf : f ∈ r1) (f0 : f ≠ 0) : ∀ a, JB (2 * m + 13) (kplus kept a (r1.map fun x => x / f)) := by
  intro a
  obtain ⟨F, f1, f2⟩ := d4 f hf
  have hD := natCast_ne (D := 12 * D) (by omega)
  have hF : F ≠ 0 := fun z => by
    subst z
    have z2 : f * ((12 * D : Nat) : Rat) = 0 := f1
    rcases Rat.mul_eq_zero.mp z2 with g | g
    · exact f0 g
    · exact hD g
  obtain ⟨s, s1, s2⟩ : ∃ s : Int, s.natAbs = 1 ∧ ((F.natAbs : Nat) : Int) = s * F := by
    rcases Int.natAbs_eq F with e | e
    · exact ⟨1, rfl, by omega⟩
    · exact ⟨-1, rfl, by omega⟩
  have eF : ((F.natAbs : Nat) : Rat) = (s : Rat) * (f * ((12 * D : Nat) : Rat)) := by
    rw [f1, ← Rat.intCast_mul, ← s2]
    rfl
  have row2 : ∀ x ∈ r1.map (fun x => x / f), ∃ N : Int, x * ((F.natAbs : Nat) : Rat) = (N : Rat) ∧ N.natAbs < 2 ^ (m + 12) := fun z hz => by
    obtain ⟨x, hx, rfl⟩ := List.mem_map.mp hz
    obtain ⟨N, n1, n2⟩ := d4 x hx
    refine ⟨s * N, ?_, by rw [Int.natAbs_mul, s1, Nat.one_mul]; exact n2⟩
    rw [eF, Rat.intCast_mul, ← n1]
    grind
  generalize r1.map (fun x => x / f) = r2 at row2
  have hDF : D * F.natAbs < 2 ^ (2 * m + 13) := by
    have := Nat.mul_lt_mul'' d1 f2
    rw [← Nat.pow_add] at this
    exact Nat.lt_of_lt_of_le this (Nat.pow_le_pow_right (by decide) (by omega))
  refine ⟨D * F.natAbs, Nat.mul_pos d0 (by omega), hDF, fun q hq x hx => ?_⟩
  rcases List.mem_append.mp hq with hq | hq
  · obtain ⟨p, hp, rfl⟩ := List.mem_map.mp hq
    have hx : x ∈ clr a r2 p.2 := hx
    unfold clr at hx
    split at hx
    · obtain ⟨N, n1, n2⟩ := d2 p hp x hx
      refine ⟨N * (F.natAbs : Nat), ?_, ?_⟩
      · rw [Rat.natCast_mul, Rat.intCast_mul, ← n1]
        show x * ((D : Rat) * (F.natAbs : Rat)) = x * (D : Rat) * (F.natAbs : Rat)
        grind
      · rw [Int.natAbs_mul, Int.natAbs_natCast]
        have := Nat.mul_lt_mul'' n2 f2
        rw [← Nat.pow_add] at this
        exact Nat.lt_of_lt_of_le this (Nat.pow_le_pow_right (by decide) (by omega))
    · obtain ⟨y, hy, z, hz, rfl⟩ := zip_mem hx
      obtain ⟨N, n1, n2⟩ := d2 p hp y hy
      obtain ⟨A, a1, a2⟩ := CB.at (d2 p hp) a
      obtain ⟨M, m1, m2⟩ := row2 z hz
      refine ⟨N * (F.natAbs : Nat) - A * M, ?_, ?_⟩
      · rw [Rat.natCast_mul, Rat.intCast_sub, Rat.intCast_mul, Rat.intCast_mul, ← n1, ← a1, ← m1]
        show (y - p.2.getD a 0 * z) * ((D : Rat) * (F.natAbs : Rat)) = y * (D : Rat) * (F.natAbs : Rat) - p.2.getD a 0 * (D : Rat) * (z * (F.natAbs : Rat))
        grind
      · have := two_wl (a := m) (b := m + 12) n2 (y := ((F.natAbs : Nat) : Int)) (by rw [Int.natAbs_natCast]; exact f2) A M a2 m2
        rw [show m + (m + 12) + 1 = 2 * m + 13 by omega] at this
        exact this
  · rw [List.mem_singleton.mp hq] at hx
    obtain ⟨M, m1, m2⟩ := row2 x hx
    refine ⟨(D : Int) * M, ?_, ?_⟩
    · rw [Rat.natCast_mul, Rat.intCast_mul, ← m1]
      show x * ((D : Rat) * (F.natAbs : Rat)) = (D : Rat) * (x * (F.natAbs : Rat))
      grind
    · rw [Int.natAbs_mul, Int.natAbs_natCast]
      have := Nat.mul_lt_mul'' d1 m2
      rw [← Nat.pow_add] at this
      exact Nat.lt_of_lt_of_le this (Nat.pow_le_pow_right (by decide) (by omega))
theorem SI.plus {m W i n a : Nat} {done : List (List Rat)} {kept : List (Nat × List Rat)} (h : SI m W done kept) {g : List Rat} (hg : g.length = m + 1) (hW : m + 1 + n = W) (hb : Gs m g) (hk6 : kept.length ≤ 6) (ha : a < m) (h0 : (red kept (mrk g i n)).getD a 0 ≠ 0) :
    SI m W (done ++ [g]) (kplus kept a ((red kept (mrk g i n)).map fun x => x / (red kept (mrk g i n)).getD a 0)) := by
  obtain ⟨l1, ⟨v, v1, v2⟩, n1⟩ := h.row (i := i) hg hW
  obtain ⟨D, d0, d1, d2, d3⟩ := h.some (i := i) hg hW hb hk6
  have d4 := d3 kept.length (Nat.le_refl _)
  rw [List.take_length] at d4
  clear d3
  generalize red kept (mrk g i n) = r1 at *
  have hr2 : ∀ k, (r1.map fun x => x / r1.getD a 0).getD k 0 = r1.getD k 0 / r1.getD a 0 := fun k => by
    rw [List.getD_eq_getElem?_getD, List.getElem?_map, List.getD_eq_getElem?_getD (l := r1) (i := k)]
    cases r1[k]? with
    | none => show (0 : Rat) = 0 / _; grind
    | some x => rfl
  have mem : r1.getD a 0 ∈ r1 := by
    rcases getD_or (r := r1) (l := a) with e | e
    · exact absurd e h0
    · exact e
  have jn := jb_next d0 d1 d2 d4 mem h0
  have l2 : (r1.map fun x => x / r1.getD a 0).length = W := by rw [List.length_map]; exact l1
  have e1 : (r1.map fun x => x / r1.getD a 0).getD a 0 = 1 := by
    rw [hr2]
    grind
  have e0 : ∀ p ∈ kept, (r1.map fun x => x / r1.getD a 0).getD p.1 0 = 0 := fun p hp => by
    rw [hr2, n1 p hp]
    grind
  have cfr : ∀ k, cf (m + 1) (r1.map fun x => x / r1.getD a 0) k = (1 / r1.getD a 0) * cf (m + 1) r1 k := fun k => by
    unfold cf
    split
    · rw [hr2]
      grind
    · grind
  generalize (r1.map fun x => x / r1.getD a 0) = r2 at *
  obtain ⟨k1, k2, k3⟩ := kplus_spn (M := m + 1) h.ki (a := a) l2
  have kl : (kplus kept a r2).length = kept.length + 1 := by
    unfold kplus
    rw [List.length_append, List.length_map]
    rfl
  refine ⟨h.ki.plus ha l2 e1 e0, by rw [kl]; exact jn a, fun x hx => ?_, fun x hx => ?_⟩
  · refine (k3 x hx).mono fun y hy => ?_
    obtain ⟨r, hr, rfl⟩ := hy
    have dn : ∀ w, Spn (inL (m + 1) done) w → Spn (inL (m + 1) (done ++ [g])) w := fun w hw => hw.mono fun y hy => by
      obtain ⟨r, hr, rfl⟩ := hy
      exact Spn.gen ⟨r, List.mem_append_left _ hr, rfl⟩
    rcases List.mem_append.mp hr with hr | hr
    · obtain ⟨p, hp, rfl⟩ := List.mem_map.mp hr
      exact dn _ (h.s1 p hp)
    · rw [List.mem_singleton.mp hr]
      have a1 : Spn (inL (m + 1) (done ++ [g])) (cf (m + 1) g) := Spn.gen ⟨g, List.mem_append_right _ List.mem_cons_self, rfl⟩
      have a2 : Spn (inL (m + 1) (done ++ [g])) v := v1.mono fun x hx => by
        obtain ⟨r, hr, rfl⟩ := hx
        obtain ⟨p, hp, rfl⟩ := List.mem_map.mp hr
        exact dn _ (h.s1 p hp)
      exact ((a1.addv a2).scale (1 / r1.getD a 0)).cong fun k => by rw [cfr k, v2 k]
  · have up : ∀ w, Spn (inL (m + 1) (kept.map (·.2))) w → Spn (inL (m + 1) ((kplus kept a r2).map (·.2))) w := fun w hw => hw.mono fun y hy => by
      obtain ⟨r, hr, rfl⟩ := hy
      obtain ⟨p, hp, rfl⟩ := List.mem_map.mp hr
      exact k1 p hp
    rcases List.mem_append.mp hx with hx | hx
    · exact up _ (h.s2 x hx)
    · rw [List.mem_singleton.mp hx]
      refine (Spn.closed _ _ (-1) (k2.scale (r1.getD a 0)) (up _ v1)).cong fun k => ?_
      rw [cfr k, v2 k]
      grind
/-- the same rows, fewer columns -/
theorem spn_fewer {M N : Nat} (h : N ≤ M) {R : List (List Rat)} {v : VF} (hv : Spn (inL M R) v) : Spn (inL N R) fun k => if k < N then v k else 0 := by
  have h0 : ∀ k, (fun (w : VF) k => if k < N then w k else 0) (fun _ => 0) k = 0 := fun k => by
    show (if k < N then (0 : Rat) else 0) = 0
    split <;> rfl
  have := Spn.map (T := fun (w : VF) k => if k < N then w k else 0) h0 (fun w g c k => by
    show (if k < N then w k + c * g k else 0) = (if k < N then w k else 0) + c * (if k < N then g k else 0)
    split
    · rfl
    · grind) hv
  refine this.mono fun x hx => ?_
  obtain ⟨y, ⟨r, hr, rfl⟩, rfl⟩ := hx
  refine Spn.gen ⟨r, hr, funext fun k => ?_⟩
  show cf N r k = if k < N then cf M r k else 0
  unfold cf
  by_cases hk : k < N
  · rw [if_pos hk, if_pos hk, if_pos (by omega)]
  · rw [if_neg hk, if_neg hk]
theorem cf_fewer {M N : Nat} (h : N ≤ M) (r : List Rat) (k : Nat) : (if k < N then cf M r k else 0) = cf N r k := by
  unfold cf
  by_cases hk : k < N
  · rw [if_pos hk, if_pos hk, if_pos (by omega)]
  · rw [if_neg hk, if_neg hk]
theorem SI.same {m W : Nat} {done : List (List Rat)} {kept : List (Nat × List Rat)} (h : SI m W done kept) (v : VF) : Spn (inL m done) v ↔ Spn (inL m (kept.map (·.2))) v := by
  constructor
  · refine fun hv => hv.mono fun x hx => ?_
    obtain ⟨r, hr, rfl⟩ := hx
    exact (spn_fewer (Nat.le_succ m) (h.s2 r hr)).cong fun k => cf_fewer (Nat.le_succ m) r k
  · refine fun hv => hv.mono fun x hx => ?_
    obtain ⟨r, hr, rfl⟩ := hx
    obtain ⟨p, hp, rfl⟩ := List.mem_map.mp hr
    exact (spn_fewer (Nat.le_succ m) (h.s1 p hp)).cong fun k => cf_fewer (Nat.le_succ m) p.2 k
/-- what a kept unit row says: the point's part -/
theorem SI.worth {m W : Nat} {done : List (List Rat)} {kept : List (Nat × List Rat)} (h : SI m W done kept) {pt : Nat → Rat} (hp : ∀ r ∈ done, sN (fun k => cf (m + 1) r k * pt k) m = cf (m + 1) r m) {p : Nat × List Rat} (hk : p ∈ kept) (hz : ∀ k < m, k ≠ p.1 → p.2.getD k 0 = 0) : p.2.getD m 0 = pt p.1 := by
  have e := spn_holds (m := m) (pt := pt) (fun x hx => by
    obtain ⟨r, hr, rfl⟩ := hx
    exact hp r hr) (h.s1 p hk)
  have hlt := h.ki.lt p hk
  have c1 : ∀ k < m + 1, cf (m + 1) p.2 k = p.2.getD k 0 := fun k hk => if_pos hk
  rw [sN_one hlt (fun k hk hne => by
    rw [c1 k (by omega), hz k hk hne]
    grind), c1 _ (by omega), c1 _ (by omega), h.ki.one p hk] at e
  rw [← e]
  grind
end
theorem bd_quo {a b : Nat} {r s : Rat} (h : Bd a r) (h2 : Bd b s) (h0 : s ≠ 0) : Bd (a + b) (r / s) := by
  have h1 : (r.num : Rat) / ((r.den : Int) : Rat) = r := by rw [← Rat.divInt_eq_div, Rat.num_divInt_den]
  have h3 : (s.num : Rat) / ((s.den : Int) : Rat) = s := by rw [← Rat.divInt_eq_div, Rat.num_divInt_den]
  have d1 : ((r.den : Int) : Rat) ≠ 0 := fun z => den_ne r (Rat.intCast_inj.mp z)
  have d2 : ((s.den : Int) : Rat) ≠ 0 := fun z => den_ne s (Rat.intCast_inj.mp z)
  have e : r / s = Rat.divInt (r.num * s.den) (r.den * s.num) := by
    rw [Rat.divInt_eq_div, Rat.intCast_mul, Rat.intCast_mul]
    generalize (r.num : Rat) = a at *
    generalize (s.num : Rat) = b at *
    generalize ((r.den : Int) : Rat) = c at *
    generalize ((s.den : Int) : Rat) = d at *
    subst h1 h3
    by_cases hb : b = 0
    · subst hb
      grind
    · grind
  rw [e]
  have hn : s.num ≠ 0 := fun z => h0 (by rw [← Rat.num_divInt_den s, z]; simp)
  exact bd_of (Int.mul_ne_zero (den_ne r) hn) (wl h.1 h2.den) (wl h.den h2.1)

section
/-- a row of fractions in a list -/
def RowAt (K : PySem.W.Frag) (H : Hp) (u : Addr) (r : List Rat) : Prop := ∃ ws, H u = some (.lst (fr ws)) ∧ Rx K H ws ∧ ws.map (·.2) = r
theorem RowAt.up {K : PySem.W.Frag} {H H' : Hp} {u : Addr} {r : List Rat} (s : Same H H') (h : RowAt K H u r) : RowAt K H' u r := by
  obtain ⟨ws, h1, h2, h3⟩ := h
  exact ⟨ws, s _ _ h1, h2.same s, h3⟩
theorem over_list {K : PySem.W.Frag} {H H' : Hp} {t D : Addr} {xs : List V} (h : SqL K H t xs) (hne : t ≠ D) (s : ∀ b o, b ≠ D → H b = some o → H' b = some o) : SqL K H' t xs := by
  rcases h with (h | ⟨ob, h⟩) | h
  · exact .inl (.inl (s _ _ hne h))
  · exact .inl (.inr ⟨ob, s _ _ hne h⟩)
  · exact .inr h
theorem RowAt.over {K : PySem.W.Frag} {H H' : Hp} {u D : Addr} {r : List Rat} {ys : List V} (h : RowAt K H u r) (hne : u ≠ D) (hl : H D = some (.lst ys)) (s : ∀ b o, b ≠ D → H b = some o → H' b = some o) : RowAt K H' u r := by
  obtain ⟨ws, h1, h2, h3⟩ := h
  exact ⟨ws, s _ _ hne h1, fun w hw => over_tup (h2 w hw) hl s, h3⟩
theorem RowAt.get {K : PySem.W.Frag} {H : Hp} {r : List Rat} {ws : List (Addr × Rat)} (h2 : Rx K H ws) (h3 : ws.map (·.2) = r) {k : Nat} (hk : k < r.length) : ∃ a, (fr ws)[k]? = some (.ref a) ∧ Fx K H a (r.getD k 0) ∧ r.getD k 0 ∈ r := by
  subst h3
  have e : (ws.map (·.2))[k]? = some ((ws.map (·.2)).getD k 0) := by
    rw [List.getD_eq_getElem?_getD, List.getElem?_eq_getElem hk]
    rfl
  obtain ⟨a, a1, a2⟩ := fr_at e
  exact ⟨a, a1, h2 _ a2, List.mem_of_getElem? e⟩
/-- a pair of a number and a row -/
def PairAt (K : PySem.W.Frag) (D : Addr) (H : Hp) (t : Addr) (p : Nat × List Rat) : Prop := ∃ v, v ≠ D ∧ SqT K H t [.int (p.1 : Int), .ref v] ∧ RowAt K H v p.2
theorem PairAt.up {K : PySem.W.Frag} {D : Addr} {H H' : Hp} {t : Addr} {p : Nat × List Rat} (s : Same H H') (h : PairAt K D H t p) : PairAt K D H' t p := by
  obtain ⟨v, h0, h1, h2⟩ := h
  exact ⟨v, h0, same_tup s h1, h2.up s⟩
theorem PairAt.over {K : PySem.W.Frag} {D : Addr} {H H' : Hp} {t : Addr} {p : Nat × List Rat} {ys : List V} (h : PairAt K D H t p) (hl : H D = some (.lst ys)) (s : ∀ b o, b ≠ D → H b = some o → H' b = some o) : PairAt K D H' t p := by
  obtain ⟨v, h0, h1, h2⟩ := h
  exact ⟨v, h0, over_tup h1 hl s, h2.over h0 hl s⟩
/-- rows and pairs in lists: where each stands, what it is -/
def Ro {α : Type} (ws : List (Addr × α)) : List V := ws.map fun w => V.ref w.1
theorem Ro_len {α : Type} (ws : List (Addr × α)) : (Ro ws).length = ws.length := List.length_map _
theorem Ro_get {α : Type} {ws : List (Addr × α)} {i : Nat} {v : V} (h : (Ro ws)[i]? = some v) : ∃ w, v = .ref w.1 ∧ ws[i]? = some w := by
  rw [show Ro ws = ws.map fun w => V.ref w.1 from rfl, List.getElem?_map] at h
  cases e : ws[i]? with
  | none =>
    rw [e] at h
    cases h
  | some w =>
    rw [e] at h
    exact ⟨w, (Option.some.inj h).symm, rfl⟩
theorem Ro_at {α : Type} {ws : List (Addr × α)} {i : Nat} {w : Addr × α} (h : ws[i]? = some w) : (Ro ws)[i]? = some (.ref w.1) := by
  rw [show Ro ws = ws.map fun w => V.ref w.1 from rfl, List.getElem?_map, h]
  rfl
/-- a comprehension whose elements are things of a kind that may be lists: those of L -/
theorem lc_relD {α : Type} {J : It} {n : Nat} {G : Hp → Prop} {Y : Nat → Hp → V → Hp → Prop} (w : Walk J n G Y) (L : List α) (hL : L.length = n) (hz : n ≤ 1000)
    {g : TG} {te : TE} {vs : List Nat} {σ : L2.St} {H1 : Hp} {D : Addr} {Qd : Hp → Prop} (hD : H1 D = none) (Rel : Hp → Addr → α → Prop) (up : ∀ {H H' t x}, Same H H' → Rel H t x → Rel H' t x) (over : ∀ {H H' t x ys}, Rel H t x → H D = some (.lst ys) → (∀ b o, b ≠ D → H b = some o → H' b = some o) → Rel H' t x) (hG : ∀ H, Same H1 H → G H)
    (hs : ∀ i r x H H' (k : V → Hp → Prop), L[i]? = some r → Same H1 H → (∃ ys, H D = some (.lst ys)) → Y i H x H' → (∀ t H4, Same H H4 → Rel H4 t r → k (.ref t) H4) → g x (wipe σ vs) H' fun σ2 H2 => wipe σ2 vs = wipe σ vs ∧ te σ2 H2 k)
    (hd : ∀ H (ws : List (Addr × α)), Same H1 H → H D = some (.lst (Ro ws)) → (∀ w ∈ ws, Rel H w.1 w.2) → ws.map (·.2) = L → Qd H) :
    ∃ W : Nat → Nat → Hp → Prop, (∃ m, W 0 m (upd H1 D (.lst []))) ∧ ∀ i m H, W i m H →
      (J.stop i H ∧ Qd H) ∨ (J.go i H ∧ ∃ Nx : Hp → Prop, (∀ H', Nx H' → ∃ m', m' < m ∧ W (i + 1) m' H') ∧ ∀ x H', J.yld i H x H' → g x (wipe σ vs) H' fun σ2 H2 => wipe σ2 vs = wipe σ vs ∧ tYes σ2 H2 fun b H3 =>
        if b = true then te σ2 H3 fun y H4 => ∃ acc, H4 D = some (.lst acc) ∧ acc.length < sizeLine ∧ Nx (upd H4 D (.lst (acc ++ [y]))) else Nx H3) := by
  subst hL
  refine lc_it w (fun i H => Same H1 H ∧ ∃ ws : List (Addr × α), H D = some (.lst (Ro ws)) ∧ (∀ w ∈ ws, Rel H w.1 w.2) ∧ ws.map (·.2) = L.take i) ⟨same_upd hD, [], upd_same, (fun _ z => nomatch z), rfl⟩ (fun i H _ h => hG H h.1) ?_ ?_
  · rintro i x H H' hi ⟨s1, ws, e1, r1, m1⟩ y
    have hr : L[i]? = some L[i] := List.getElem?_eq_getElem hi
    have q := hs i L[i] x H H' (fun y H4 => ∃ acc, H4 D = some (.lst acc) ∧ acc.length < sizeLine ∧ (fun H => Same H1 H ∧ ∃ ws : List (Addr × α), H D = some (.lst (Ro ws)) ∧ (∀ w ∈ ws, Rel H w.1 w.2) ∧ ws.map (·.2) = L.take (i + 1)) (upd H4 D (.lst (acc ++ [y])))) hr s1 ⟨_, e1⟩ y (fun t H4 s4 f4 => ?_)
    · refine Eq.mp (congrArg (g x (wipe σ vs) H') ?_) q
      funext σ2 H2
      simp [tYes]
    · have e4 := s4 _ _ e1
      have hlen : ws.length = (L.take i).length := by rw [← m1, List.length_map]
      rw [List.length_take] at hlen
      refine ⟨_, e4, ?_, fun b o e => ?_, ws ++ [(t, L[i])], ?_, fun v hv => ?_, ?_⟩
      · rw [Ro_len]
        exact small1000 (by omega)
      · rw [upd_ne (ne_of_none e hD)]
        exact s4 _ _ (s1 _ _ e)
      · rw [upd_same]
        unfold Ro
        rw [List.map_append]
        rfl
      · rcases List.mem_append.mp hv with h | h
        · exact over (up s4 (r1 v h)) e4 fun b o hb e => by rw [upd_ne hb]; exact e
        · rw [List.mem_singleton.mp h]
          exact over f4 e4 fun b o hb e => by rw [upd_ne hb]; exact e
      · rw [List.map_append, m1, List.take_add_one, hr]
        rfl
  · rintro H ⟨s1, ws, e1, r1, m1⟩
    rw [List.take_length] at m1
    exact hd H ws s1 e1 r1 m1
end
abbrev rLenS (K : PySem.W.Frag) : List V → Hp → VK → Prop := fun xs H Q => ∃ p ys, xs = [V.ref p] ∧ (SqL K H p ys ∨ SqT K H p ys) ∧ Q (V.int (ys.length : Nat)) H
section
def PairA (K : PySem.W.Frag) (H : Hp) (t : Addr) (p : Nat × List Rat) : Prop := ∃ v, SqT K H t [.int (p.1 : Int), .ref v] ∧ RowAt K H v p.2
theorem PairA.up {K : PySem.W.Frag} {H H' : Hp} {t : Addr} {p : Nat × List Rat} (s : Same H H') (h : PairA K H t p) : PairA K H' t p := by
  obtain ⟨v, h1, h2⟩ := h
  exact ⟨v, same_tup s h1, h2.up s⟩
theorem PairAt.any {K : PySem.W.Frag} {D : Addr} {H : Hp} {t : Addr} {p : Nat × List Rat} (h : PairAt K D H t p) : PairA K H t p := by
  obtain ⟨v, _, h1, h2⟩ := h
  exact ⟨v, h1, h2⟩
def KeptAt (K : PySem.W.Frag) (H : Hp) (u : Addr) (kept : List (Nat × List Rat)) : Prop := ∃ ks : List (Addr × (Nat × List Rat)), SqL K H u (Ro ks) ∧ (∀ w ∈ ks, PairA K H w.1 w.2) ∧ ks.map (·.2) = kept
theorem KeptAt.up {K : PySem.W.Frag} {H H' : Hp} {u : Addr} {kept : List (Nat × List Rat)} (s : Same H H') (h : KeptAt K H u kept) : KeptAt K H' u kept := by
  obtain ⟨ks, h1, h2, h3⟩ := h
  exact ⟨ks, s.seq h1, fun w hw => (h2 w hw).up s, h3⟩
theorem red_snoc {kept : List (Nat × List Rat)} {j : Nat} {p : Nat × List Rat} {row : List Rat} (h : kept[j]? = some p) : red (kept.take (j + 1)) row = clr p.1 p.2 (red (kept.take j) row) := by
  unfold red
  rw [List.take_add_one, h, List.foldl_append]
  rfl
theorem map_at {α : Type} {ws : List (Addr × α)} {L : List α} (h : ws.map (·.2) = L) {i : Nat} {w : Addr × α} (hw : ws[i]? = some w) : L[i]? = some w.2 := by
  rw [← h, List.getElem?_map, hw]
  rfl
end
section
theorem RowAt.ne {K : PySem.W.Frag} {H : Hp} {u D : Addr} {r : List Rat} (h : RowAt K H u r) (hD : H D = none) : u ≠ D := fun e => by
  obtain ⟨ws, h1, _⟩ := h
  rw [e, hD] at h1
  cases h1
theorem cutV_part {xs : List V} {i n : Nat} (h : i + n ≤ xs.length) : cutV xs (some ((i : Nat) : Int)) (some ((i + n : Nat) : Int)) = (xs.drop i).take n := by
  unfold cutV
  rw [HT.sIx_nat, HT.sIx_nat, show min i xs.length = i by omega, show min (i + n) xs.length = i + n by omega, show i + n - i = n by omega]
theorem cutV_to {xs : List V} {n : Nat} (h : n ≤ xs.length) : cutV xs none (some ((n : Nat) : Int)) = xs.take n := by
  unfold cutV
  rw [HT.sIx_nat, HT.sIx_none, show min n xs.length = n by omega]
  show (xs.drop 0).take (n - 0) = xs.take n
  rw [List.drop_zero, Nat.sub_zero]
theorem cutV_from {xs : List V} {n : Nat} (h : n ≤ xs.length) : cutV xs (some ((n : Nat) : Int)) none = xs.drop n := by
  unfold cutV
  rw [HT.sIx_nat, HT.sIx_none, show min n xs.length = n by omega]
  show (xs.drop n).take (xs.length - n) = xs.drop n
  exact List.take_of_length_le (by rw [List.length_drop]; exact Nat.le_refl _)
theorem fr_take (ws : List (Addr × Rat)) (n : Nat) : fr (ws.take n) = (fr ws).take n := List.map_take
theorem fr_drop (ws : List (Addr × Rat)) (n : Nat) : fr (ws.drop n) = (fr ws).drop n := List.map_drop
theorem JB.bd {m : Nat} {kept : List (Nat × List Rat)} (h : JB m kept) {p : Nat × List Rat} (hp : p ∈ kept) : ∀ x ∈ p.2, Bd m x := fun x hx => by
  obtain ⟨D, d0, d1, d2⟩ := h
  obtain ⟨N, n1, n2⟩ := d2 p hp x hx
  exact bd_over d0 d1 n1 n2
end
/-- a comprehension, perhaps with a condition, whose elements are Booleans, all of them told -/
theorem lc_bl {J : It} {n : Nat} {G : Hp → Prop} {Y : Nat → Hp → V → Hp → Prop} (w : Walk J n G Y) (L : List (Option Bool)) (hL : L.length = n) (hz : n ≤ 1000)
    {g : TG} {tt : TT} {te : TE} {vs : List Nat} {σ : L2.St} {H1 : Hp} {D : Addr} {Qd : Hp → Prop} (hD : H1 D = none) (hG : ∀ H, Same H1 H → G H)
    (hs : ∀ i c x H H' (kk : V → Hp → Prop) (kn : Hp → Prop), L[i]? = some c → Same H1 H → Y i H x H' → (∀ b, c = some b → ∀ H4, Same H H4 → kk (.bl b) H4) → (c = none → ∀ H4, Same H H4 → kn H4) → g x (wipe σ vs) H' fun σ2 H2 => wipe σ2 vs = wipe σ vs ∧ tt σ2 H2 fun b H3 => if b = true then te σ2 H3 kk else kn H3)
    (hd : ∀ H, Same H1 H → H D = some (.lst ((L.filterMap id).map V.bl)) → Qd H) :
    ∃ W : Nat → Nat → Hp → Prop, (∃ m, W 0 m (upd H1 D (.lst []))) ∧ ∀ i m H, W i m H →
      (J.stop i H ∧ Qd H) ∨ (J.go i H ∧ ∃ Nx : Hp → Prop, (∀ H', Nx H' → ∃ m', m' < m ∧ W (i + 1) m' H') ∧ ∀ x H', J.yld i H x H' → g x (wipe σ vs) H' fun σ2 H2 => wipe σ2 vs = wipe σ vs ∧ tt σ2 H2 fun b H3 =>
        if b = true then te σ2 H3 fun y H4 => ∃ acc, H4 D = some (.lst acc) ∧ acc.length < sizeLine ∧ Nx (upd H4 D (.lst (acc ++ [y]))) else Nx H3) := by
  subst hL
  refine lc_it w (fun i H => Same H1 H ∧ H D = some (.lst (((L.take i).filterMap id).map V.bl)) ∧ ((L.take i).filterMap id).length ≤ i) ⟨same_upd hD, upd_same, Nat.le_refl _⟩ (fun i H _ h => hG H h.1) ?_ ?_
  · rintro i x H H' hi ⟨s1, e1, l1⟩ y
    have hr : L[i]? = some L[i] := List.getElem?_eq_getElem hi
    have tk : (L.take (i + 1)).filterMap id = (L.take i).filterMap id ++ [L[i]].filterMap id := by
      rw [List.take_add_one, hr, List.filterMap_append]
      rfl
    refine hs i L[i] x H H' _ _ hr s1 y (fun b hc H4 s4 => ?_) (fun hc H4 s4 => ?_)
    · refine ⟨_, s4 _ _ e1, ?_, fun b o e => ?_, ?_, ?_⟩
      · rw [List.length_map]
        exact small1000 (by omega)
      · rw [upd_ne (ne_of_none e hD)]
        exact s4 _ _ (s1 _ _ e)
      · rw [upd_same, tk, hc, List.map_append]
        rfl
      · rw [tk, hc, List.length_append]
        exact Nat.succ_le_succ l1
    · rw [tk, hc]
      refine ⟨s1.trans s4, ?_, ?_⟩
      · rw [show [(none : Option Bool)].filterMap id = [] from rfl, List.append_nil]
        exact s4 _ _ e1
      · rw [show [(none : Option Bool)].filterMap id = [] from rfl, List.append_nil]
        omega
  · rintro H ⟨s1, e1, _⟩
    rw [List.take_length] at e1
    exact hd H s1 e1
/-- an equation: its coefficients, its bound -/
def EqAt (K : PySem.W.Frag) (H : Hp) (t : Addr) (e : List Rat × Rat) : Prop := ∃ u v, SqT K H t [.ref u, .ref v] ∧ RowAt K H u e.1 ∧ Fx K H v e.2
theorem EqAt.up {K : PySem.W.Frag} {H H' : Hp} {t : Addr} {e : List Rat × Rat} (s : Same H H') (h : EqAt K H t e) : EqAt K H' t e := by
  obtain ⟨u, v, h1, h2, h3⟩ := h
  exact ⟨u, v, same_tup s h1, h2.up s, h3.same s⟩
abbrev rListOf (K : PySem.W.Frag) : List V → Hp → VK → Prop := fun xs H Q => ∃ p ys, xs = [V.ref p] ∧ (SqL K H p ys ∨ SqT K H p ys) ∧ ∀ (l : Addr), H l = none → Q (V.ref l) (upd H l (HO.lst ys))

section
/-- a comprehension, perhaps with a condition, whose elements are plain values, all of them told -/
theorem lc_vv {J : It} {n : Nat} {G : Hp → Prop} {Y : Nat → Hp → V → Hp → Prop} (w : Walk J n G Y) (L : List (Option V)) (hL : L.length = n) (hz : n ≤ 1000)
    {g : TG} {tt : TT} {te : TE} {vs : List Nat} {σ : L2.St} {H1 : Hp} {D : Addr} {Qd : Hp → Prop} (hD : H1 D = none) (hG : ∀ H, Same H1 H → G H)
    (hs : ∀ i c x H H' (kk : V → Hp → Prop) (kn : Hp → Prop), L[i]? = some c → Same H1 H → Y i H x H' → (∀ b, c = some b → ∀ H4, Same H H4 → kk b H4) → (c = none → ∀ H4, Same H H4 → kn H4) → g x (wipe σ vs) H' fun σ2 H2 => wipe σ2 vs = wipe σ vs ∧ tt σ2 H2 fun b H3 => if b = true then te σ2 H3 kk else kn H3)
    (hd : ∀ H, Same H1 H → H D = some (.lst (L.filterMap id)) → Qd H) :
    ∃ W : Nat → Nat → Hp → Prop, (∃ m, W 0 m (upd H1 D (.lst []))) ∧ ∀ i m H, W i m H →
      (J.stop i H ∧ Qd H) ∨ (J.go i H ∧ ∃ Nx : Hp → Prop, (∀ H', Nx H' → ∃ m', m' < m ∧ W (i + 1) m' H') ∧ ∀ x H', J.yld i H x H' → g x (wipe σ vs) H' fun σ2 H2 => wipe σ2 vs = wipe σ vs ∧ tt σ2 H2 fun b H3 =>
        if b = true then te σ2 H3 fun y H4 => ∃ acc, H4 D = some (.lst acc) ∧ acc.length < sizeLine ∧ Nx (upd H4 D (.lst (acc ++ [y]))) else Nx H3) := by
  subst hL
  refine lc_it w (fun i H => Same H1 H ∧ H D = some (.lst ((L.take i).filterMap id)) ∧ ((L.take i).filterMap id).length ≤ i) ⟨same_upd hD, upd_same, Nat.le_refl _⟩ (fun i H _ h => hG H h.1) ?_ ?_
  · rintro i x H H' hi ⟨s1, e1, l1⟩ y
    have hr : L[i]? = some L[i] := List.getElem?_eq_getElem hi
    have tk : (L.take (i + 1)).filterMap id = (L.take i).filterMap id ++ [L[i]].filterMap id := by
      rw [List.take_add_one, hr, List.filterMap_append]
      rfl
    refine hs i L[i] x H H' _ _ hr s1 y (fun b hc H4 s4 => ?_) (fun hc H4 s4 => ?_)
    · refine ⟨_, s4 _ _ e1, small1000 (by omega), fun b o e => ?_, ?_, ?_⟩
      · rw [upd_ne (ne_of_none e hD)]
        exact s4 _ _ (s1 _ _ e)
      · rw [upd_same, tk, hc]
        rfl
      · rw [tk, hc, List.length_append]
        exact Nat.succ_le_succ l1
    · rw [tk, hc]
      refine ⟨s1.trans s4, ?_, ?_⟩
      · rw [show [(none : Option V)].filterMap id = [] from rfl, List.append_nil]
        exact s4 _ _ e1
      · rw [show [(none : Option V)].filterMap id = [] from rfl, List.append_nil]
        omega
  · rintro H ⟨s1, e1, _⟩
    rw [List.take_length] at e1
    exact hd H s1 e1
def pdrr (R : List (List Rat)) : PyData := .list (R.map fun r => .list (r.map pdr))
theorem dp_row {K : PySem.W.Frag} {H : Hp} {u : Addr} {r : List Rat} (h : RowAt K H u r) : Dp K H (.ref u) (.list (r.map pdr)) := by
  obtain ⟨ws, h1, h2, rfl⟩ := h
  exact .lst (SqL.of h1) (dpAll h2)
theorem dp_rows {K : PySem.W.Frag} {H : Hp} : ∀ {ws : List (Addr × List Rat)}, (∀ w ∈ ws, RowAt K H w.1 w.2) → DpAll K H (Ro ws) ((ws.map (·.2)).map fun r => .list (r.map pdr))
  | [], _ => .nil
  | w :: ws, h => .cons (dp_row (h w List.mem_cons_self)) (dp_rows fun x hx => h x (List.mem_cons_of_mem _ hx))
theorem shrr (R : List (List Rat)) : PyData.canLayAll0 (R.map fun r => PyData.list (r.map pdr)) = true ∧ PyData.depthAll (R.map fun r => PyData.list (r.map pdr)) ≤ 2 := by
  induction R with
  | nil => decide
  | cons r R ih =>
    have h1 := (shr r).1
    have h2 := (shr r).2
    rw [List.map_cons, PyData.canLayAll0, PyData.depthAll, ih.1, PyData.canLay0, PyData.depth, h1]
    exact ⟨rfl, Nat.max_le.mpr ⟨by omega, ih.2⟩⟩
theorem shrrl (R : List (List Rat)) : SeqAt.shaped (pdrr R) = true := by
  have h1 := (shrr R).1
  have h2 := (shrr R).2
  unfold SeqAt.shaped pdrr
  rw [PyData.canLay0, PyData.depth, h1, decide_eq_true (by omega)]
  rfl
theorem eq_none (R : List (List Rat)) : PyData.eqv (pdrr R) (pdrr []) = decide (R = []) := by
  cases R with
  | nil => rfl
  | cons r R => rfl
def pdis (l : List Int) : PyData := .list (l.map PyData.int)
theorem dp_is {K : PySem.W.Frag} {H : Hp} : ∀ l : List Int, DpAll K H (l.map V.int) (l.map PyData.int)
  | [] => .nil
  | x :: l => .cons (.int x) (dp_is l)
theorem shis (l : List Int) : PyData.canLayAll0 (l.map PyData.int) = true ∧ PyData.depthAll (l.map PyData.int) ≤ 1 := by
  induction l with
  | nil => decide
  | cons r R ih =>
    rw [List.map_cons, PyData.canLayAll0, PyData.depthAll, ih.1]
    exact ⟨rfl, Nat.max_le.mpr ⟨Nat.zero_le 1, ih.2⟩⟩
theorem shisl (l : List Int) : SeqAt.shaped (pdis l) = true := by
  have h1 := (shis l).1
  have h2 := (shis l).2
  unfold SeqAt.shaped pdis
  rw [PyData.canLay0, PyData.depth, h1, decide_eq_true (by omega)]
  rfl
theorem eq_nois (l : List Int) : PyData.eqv (pdis l) (pdis []) = decide (l = []) := by
  cases l with
  | nil => rfl
  | cons r R => rfl
def lb : Nat → Nat
  | 0 => 3
  | c + 1 => 2 * lb c + 1
theorem lb_le {c : Nat} (h : c ≤ 6) : lb c ≤ 300 := by
  have : ∀ c ≤ 6, lb c ≤ 300 := by decide
  exact this c h
theorem split_at {α : Type} {l : List α} {f k : Nat} {x : α} (h : l[k]? = some x) (hf : f ≤ k) : ∃ A B C, l = A ++ (B ++ x :: C) ∧ A.length = f ∧ f + B.length = k := by
  have hk := (List.getElem?_eq_some_iff.mp h).1
  have hx : l[k] = x := (List.getElem?_eq_some_iff.mp h).2
  refine ⟨l.take f, (l.drop f).take (k - f), l.drop (k + 1), ?_, by rw [List.length_take]; omega, by rw [List.length_take, List.length_drop]; omega⟩
  have e1 : l.drop f = (l.drop f).take (k - f) ++ (l.drop f).drop (k - f) := (List.take_append_drop _ _).symm
  rw [List.drop_drop, show f + (k - f) = k by omega, List.drop_eq_getElem_cons hk, hx] at e1
  rw [← e1, List.take_append_drop]
theorem erase_mid {α : Type} {A B C : List α} {x : α} {k : Nat} (h : A.length + B.length = k) : (A ++ (B ++ x :: C)).eraseIdx k = A ++ (B ++ C) := by
  rw [← List.append_assoc, List.eraseIdx_append_of_length_le (by rw [List.length_append]; omega), List.length_append, h, Nat.sub_self, ← List.append_assoc]
  rfl
theorem set_mid {α : Type} {A B : List α} {x y : α} {k : Nat} (h : A.length = k) : (A ++ x :: B).set k y = A ++ y :: B := by
  subst h
  rw [List.set_append_right _ _ (Nat.le_refl _), Nat.sub_self]
  rfl
theorem get_mid {α : Type} {A B : List α} {x : α} {k : Nat} (h : A.length = k) : (A ++ x :: B)[k]? = some x := by
  subst h
  rw [List.getElem?_append_right (Nat.le_refl _), Nat.sub_self]
  rfl
end
/-- every object but one stays -/
def SameX (q : Addr) (H H' : Hp) : Prop := ∀ a o, a ≠ q → H a = some o → H' a = some o
theorem same_ofX {q : Addr} {H0 H1 H2 : Hp} (h : H0 q = none) (s : Same H0 H1) (x : SameX q H1 H2) : Same H0 H2 := fun a o e => x a o (fun z => by rw [z, h] at e; cases e) (s a o e)
theorem SameX.tr {q : Addr} {H H1 H2 : Hp} (h : SameX q H H1) (s : Same H1 H2) : SameX q H H2 := fun a o n e => s a o (h a o n e)
theorem SameX.set {q : Addr} {H H1 : Hp} {o : HO} (h : SameX q H H1) : SameX q H (upd H1 q o) := fun a o2 n e => by
  rw [upd_ne n]
  exact h a o2 n e
theorem rowD_set {K : PySem.W.Frag} {H : Hp} {t D : Addr} {r : List Rat} {xs ys : List V} (h : t ≠ D ∧ RowAt K H t r) (hl : H D = some (.lst xs)) : t ≠ D ∧ RowAt K (upd H D (.lst ys)) t r :=
  ⟨h.1, h.2.over h.1 hl fun b o hb e => by rw [upd_ne hb]; exact e⟩
theorem fx_lit0 {K : PySem.W.Frag} {H : Hp} {a : Addr} (h : H a = some (.tup [.int 0, .int 1])) : Fx K H a 0 := SqT.of h
def wat (ws : List (Addr × List Rat)) (k : Nat) : List Rat := match ws[k]? with
  | some w => w.2
  | none => []
theorem wat_eq {ws : List (Addr × List Rat)} {k : Nat} {w : Addr × List Rat} (h : ws[k]? = some w) : wat ws k = w.2 := by
  unfold wat
  rw [h]
theorem fm_ints (P : Nat → Prop) [DecidablePred P] (f : Nat) : ∀ l : List Nat, (l.map fun i => if P i then none else some (V.int ((f + i : Nat) : Int))).filterMap id = ((l.filter fun i => !decide (P i)).map fun i => ((f + i : Nat) : Int)).map V.int
  | [] => rfl
  | i :: l => by
    have ih := fm_ints P f l
    by_cases h : P i
    · rw [List.map_cons, if_pos h, List.filter_cons_of_neg (by simp [h])]
      exact ih
    · rw [List.map_cons, if_neg h, List.filter_cons_of_pos (by simp [h]), List.map_cons, List.map_cons, ← ih]
      rfl
theorem seqIndex_nat {k n : Nat} (h : k < n) : PySem.seqIndex? (k : Int) n = some k := by
  have e : (if (k : Int) < 0 then (k : Int) + (n : Int) else (k : Int)) = (k : Int) := if_neg (by omega)
  show (if (decide (0 ≤ (if (k : Int) < 0 then (k : Int) + (n : Int) else (k : Int))) && decide ((if (k : Int) < 0 then (k : Int) + (n : Int) else (k : Int)) < (n : Int))) = true then some (if (k : Int) < 0 then (k : Int) + (n : Int) else (k : Int)).toNat else none) = some k
  rw [e, decide_eq_true (show (0 : Int) ≤ (k : Int) by omega), decide_eq_true (show (k : Int) < (n : Int) by omega)]
  rfl
theorem ixN_nat {k n : Nat} (h : k < n) : ixN n (k : Int) = some k := by
  unfold ixN
  rw [if_pos (by omega), if_pos (by omega)]
  rfl
theorem lb_le4 {c : Nat} (h : c ≤ 4) : lb c ≤ 63 := by
  have : ∀ c ≤ 4, lb c ≤ 63 := by decide
  exact this c h
section
def pde (e : List Rat × Rat) : PyData := .tuple [.list (e.1.map pdr), pdr e.2]
def pdes (l : List (List Rat × Rat)) : PyData := .list (l.map pde)
theorem dp_es {K : PySem.W.Frag} {H : Hp} : ∀ {es : List (Addr × (List Rat × Rat))}, (∀ w ∈ es, EqAt K H w.1 w.2) → DpAll K H (Ro es) ((es.map (·.2)).map pde)
  | [], _ => .nil
  | w :: es, h => by
    obtain ⟨u, v, h1, h2, h3⟩ := h w List.mem_cons_self
    exact .cons (.tup h1 (.cons (dp_row h2) (.cons (dpr h3) .nil))) (dp_es fun x hx => h x (List.mem_cons_of_mem _ hx))
theorem shes (l : List (List Rat × Rat)) : PyData.canLayAll0 (l.map pde) = true ∧ PyData.depthAll (l.map pde) ≤ 3 := by
  induction l with
  | nil => decide
  | cons e l ih =>
    have h1 := (shr e.1).1
    have h2 := (shr e.1).2
    rw [List.map_cons, PyData.canLayAll0, PyData.depthAll, ih.1]
    refine ⟨?_, Nat.max_le.mpr ⟨?_, ih.2⟩⟩
    · unfold pde
      simp only [PyData.canLay0, PyData.canLayAll0, h1, pdr, pd2]
      rfl
    · unfold pde
      simp only [PyData.depth, PyData.depthAll, pdr, pd2]
      simp
      omega
theorem shesl (l : List (List Rat × Rat)) : SeqAt.shaped (pdes l) = true := by
  have h1 := (shes l).1
  have h2 := (shes l).2
  unfold SeqAt.shaped pdes
  rw [PyData.canLay0, PyData.depth, h1, decide_eq_true (by omega)]
  rfl
theorem eq_noes (l : List (List Rat × Rat)) : PyData.eqv (pdes l) (pdes []) = decide (l = []) := by
  cases l with
  | nil => rfl
  | cons r R => rfl
/-- an equation in a tuple whose list is not D -/
def EqD (K : PySem.W.Frag) (D : Addr) (H : Hp) (t : Addr) (e : List Rat × Rat) : Prop := ∃ u v, u ≠ D ∧ SqT K H t [.ref u, .ref v] ∧ RowAt K H u e.1 ∧ Fx K H v e.2
theorem EqD.up {K : PySem.W.Frag} {D : Addr} {H H' : Hp} {t : Addr} {e : List Rat × Rat} (s : Same H H') (h : EqD K D H t e) : EqD K D H' t e := by
  obtain ⟨u, v, h0, h1, h2, h3⟩ := h
  exact ⟨u, v, h0, same_tup s h1, h2.up s, h3.same s⟩
theorem EqD.over {K : PySem.W.Frag} {D : Addr} {H H' : Hp} {t : Addr} {e : List Rat × Rat} {ys : List V} (h : EqD K D H t e) (hl : H D = some (.lst ys)) (s : ∀ b o, b ≠ D → H b = some o → H' b = some o) : EqD K D H' t e := by
  obtain ⟨u, v, h0, h1, h2, h3⟩ := h
  exact ⟨u, v, h0, over_tup h1 hl s, h2.over h0 hl s, over_tup h3 hl s⟩
theorem EqD.any {K : PySem.W.Frag} {D : Addr} {H : Hp} {t : Addr} {e : List Rat × Rat} (h : EqD K D H t e) : EqAt K H t e := by
  obtain ⟨u, v, h0, h1, h2, h3⟩ := h
  exact ⟨u, v, h1, h2, h3⟩
/-- a drawn equation: small whole coefficients, its bound that of a point -/
def EqOk (m : Nat) (pts : List Rat) (e : List Rat × Rat) : Prop := e.1.length = m ∧ (∀ x ∈ e.1, ∃ F : Int, x = (F : Rat) ∧ F.natAbs ≤ 2) ∧ e.2 = sN (fun k => e.1.getD k 0 * pts.getD k 0) m
/-- a drawn point -/
def PtOk (m : Nat) (pts : List Rat) : Prop := pts.length = m ∧ ∀ x ∈ pts, (∃ N : Int, x * 12 = (N : Rat) ∧ N.natAbs ≤ 108) ∧ Bd 10 x
theorem sum12 {m : Nat} {cs pts : List Rat} (h1 : ∀ x ∈ cs, ∃ F : Int, x = (F : Rat) ∧ F.natAbs ≤ 2) (h2 : ∀ x ∈ pts, ∃ N : Int, x * 12 = (N : Rat) ∧ N.natAbs ≤ 108) : ∀ n, ∃ N : Int, sN (fun k => cs.getD k 0 * pts.getD k 0) n * 12 = (N : Rat) ∧ N.natAbs ≤ 216 * n := by
  intro n
  induction n with
  | zero => exact ⟨0, by show (0 : Rat) * 12 = _; rw [Rat.zero_mul]; rfl, Nat.zero_le _⟩
  | succ n ih =>
    obtain ⟨N, n1, n2⟩ := ih
    obtain ⟨F, f1, f2⟩ : ∃ F : Int, cs.getD n 0 = (F : Rat) ∧ F.natAbs ≤ 2 := by
      rcases getD_or (r := cs) (l := n) with e | e
      · exact ⟨0, by rw [e]; rfl, by decide⟩
      · exact h1 _ e
    obtain ⟨M, m1, m2⟩ : ∃ N : Int, pts.getD n 0 * 12 = (N : Rat) ∧ N.natAbs ≤ 108 := by
      rcases getD_or (r := pts) (l := n) with e | e
      · exact ⟨0, by rw [e, Rat.zero_mul]; rfl, by decide⟩
      · exact h2 _ e
    refine ⟨N + F * M, ?_, ?_⟩
    · show (sN (fun k => cs.getD k 0 * pts.getD k 0) n + cs.getD n 0 * pts.getD n 0) * 12 = _
      rw [Rat.intCast_add, Rat.intCast_mul, ← n1, ← f1, ← m1]
      grind
    · have a1 := Int.natAbs_add_le N (F * M)
      rw [Int.natAbs_mul] at a1
      have a2 := Nat.mul_le_mul f2 m2
      omega
theorem EqOk.gs {m : Nat} {pts : List Rat} {e : List Rat × Rat} (h : EqOk m pts e) (hp : PtOk m pts) (hm : m ≤ 5) : Gs m (e.1 ++ [e.2]) := by
  obtain ⟨h1, h2, h3⟩ := h
  refine ⟨fun x hx => ?_, fun k hk => ?_⟩
  · rcases List.mem_append.mp hx with g | g
    · obtain ⟨F, f1, f2⟩ := h2 x g
      refine ⟨F * 12, by rw [f1, Rat.intCast_mul]; rfl, ?_⟩
      rw [Int.natAbs_mul]
      show F.natAbs * 12 < 2048
      omega
    · rw [List.mem_singleton.mp g, h3]
      obtain ⟨N, n1, n2⟩ := sum12 (m := m) h2 (fun x hx => (hp.2 x hx).1) m
      exact ⟨N, n1, by show _ < 2048; omega⟩
  · rw [List.getD_eq_getElem?_getD, List.getElem?_append_left (by omega), ← List.getD_eq_getElem?_getD]
    rcases getD_or (r := e.1) (l := k) with g | g
    · exact ⟨0, by rw [g]; rfl, by decide⟩
    · exact h2 _ g
theorem cf_coef {m : Nat} {cs : List Rat} (h : cs.length = m) (b : Rat) (k : Nat) (hk : k < m) : cf (m + 1) (cs ++ [b]) k = cs.getD k 0 := by
  unfold cf
  rw [if_pos (by omega), List.getD_eq_getElem?_getD, List.getElem?_append_left (by omega), ← List.getD_eq_getElem?_getD]
theorem cf_short {m : Nat} {cs : List Rat} (h : cs.length = m) (b : Rat) : cf m (cs ++ [b]) = cf m cs := funext fun k => by
  unfold cf
  by_cases hk : k < m
  · rw [if_pos hk, if_pos hk, List.getD_eq_getElem?_getD, List.getElem?_append_left (by omega), ← List.getD_eq_getElem?_getD]
  · rw [if_neg hk, if_neg hk]
theorem EqOk.holds {m : Nat} {pts : List Rat} {e : List Rat × Rat} (h : EqOk m pts e) : sN (fun k => cf (m + 1) (e.1 ++ [e.2]) k * pts.getD k 0) m = e.2 := by
  rw [sN_cong (g := fun k => e.1.getD k 0 * pts.getD k 0) fun k hk => by rw [cf_coef h.1 e.2 k hk]]
  exact h.2.2.symm
theorem EqOk.cb {m : Nat} {pts : List Rat} {e : List Rat × Rat} (h : EqOk m pts e) : CB 3 e.1 := ⟨1, by decide, by decide, fun x hx => by
  obtain ⟨F, f1, f2⟩ := h.2.1 x hx
  exact ⟨F, by rw [f1]; exact Rat.mul_one _, by show _ < 8; omega⟩⟩
end
theorem fx_intE {K : PySem.W.Frag} {H : Hp} {a : Addr} {z : Int} (h : H a = some (.tup [.int z, .int 1])) : Fx K H a ((z : Int) : Rat) := SqT.of h
theorem zs_atD {rs : List Int} {k : Nat} (h : k < rs.length) : atI (zs rs) ((k : Nat) : Int) = some (.int (rs.getD k 0)) := atI_nat (by
  rw [show zs rs = rs.map V.int from rfl, List.getElem?_map, List.getElem?_eq_getElem h, List.getD_eq_getElem?_getD, List.getElem?_eq_getElem h]
  rfl)

/-- the number of a draw -/
def nmd12 (d : Int) : Rat := Rat.divInt (d % 19 - 9) (1 + d / 19 % 4)
theorem nmd12_ok (d : Int) : (∃ N : Int, nmd12 d * 12 = (N : Rat) ∧ N.natAbs ≤ 108) ∧ Bd 10 (nmd12 d) := by
  have h1 := Int.emod_nonneg d (show (19 : Int) ≠ 0 by decide)
  have h2 := Int.emod_lt_of_pos d (show (0 : Int) < 19 by decide)
  have h3 := Int.emod_nonneg (d / 19) (show (4 : Int) ≠ 0 by decide)
  have h4 := Int.emod_lt_of_pos (d / 19) (show (0 : Int) < 4 by decide)
  unfold nmd12
  have hn : (d % 19 - 9).natAbs ≤ 9 := by omega
  generalize d % 19 - 9 = n at hn ⊢
  clear h1 h2
  have key : ∀ q k : Int, q ≠ 0 → q * k = 12 → Rat.divInt n q * 12 = ((n * k : Int) : Rat) := fun q k hq e => by
    have hq' : (q : Rat) ≠ 0 := fun z => hq (by have := Rat.intCast_inj.mp (z.trans (Rat.intCast_zero).symm); exact this)
    rw [Rat.divInt_eq_div, Rat.intCast_mul, show (12 : Rat) = ((q * k : Int) : Rat) by rw [e]; rfl, Rat.intCast_mul]
    grind
  have big : (2 : Nat) ^ 10 = 1024 := rfl
  refine ⟨?_, bd_of (by omega) (by omega) (by omega)⟩
  obtain h | h | h | h : d / 19 % 4 = 0 ∨ d / 19 % 4 = 1 ∨ d / 19 % 4 = 2 ∨ d / 19 % 4 = 3 := by omega
  · rw [h]
    exact ⟨_, key 1 12 (by decide) (by decide), by rw [Int.natAbs_mul]; show n.natAbs * 12 ≤ 108; omega⟩
  · rw [h]
    exact ⟨_, key 2 6 (by decide) (by decide), by rw [Int.natAbs_mul]; show n.natAbs * 6 ≤ 108; omega⟩
  · rw [h]
    exact ⟨_, key 3 4 (by decide) (by decide), by rw [Int.natAbs_mul]; show n.natAbs * 4 ≤ 108; omega⟩
  · rw [h]
    exact ⟨_, key 4 3 (by decide) (by decide), by rw [Int.natAbs_mul]; show n.natAbs * 3 ≤ 108; omega⟩
theorem EqOk.last {m : Nat} {pts : List Rat} {e : List Rat × Rat} (h : EqOk m pts e) : cf (m + 1) (e.1 ++ [e.2]) m = e.2 := by
  unfold cf
  rw [if_pos (by omega), List.getD_eq_getElem?_getD, List.getElem?_append_right (by rw [h.1]; omega), h.1, Nat.sub_self]
  rfl
def unitL (m j : Nat) : List Rat := (List.range m).map fun i => if i = j then 1 else 0
theorem unitL_len (m j : Nat) : (unitL m j).length = m := by
  unfold unitL
  rw [List.length_map, List.length_range]
theorem unitL_cf {m j : Nat} (hj : j < m) (k : Nat) : cf m (unitL m j) k = if k = j then 1 else 0 := by
  unfold cf unitL
  by_cases hk : k < m
  · rw [if_pos hk, List.getD_eq_getElem?_getD, List.getElem?_map, List.getElem?_range hk]
    rfl
  · rw [if_neg hk, if_neg (by omega)]
theorem unitL_cb (m j : Nat) : CB 3 (unitL m j) := ⟨1, by decide, by decide, fun x hx => by
  obtain ⟨i, _, rfl⟩ := List.mem_map.mp hx
  split
  · exact ⟨1, Rat.mul_one _, by decide⟩
  · exact ⟨0, Rat.mul_one _, by decide⟩⟩
theorem eqs_rank {m : Nat} {pts : List Rat} {W : Nat} {L : List (List Rat × Rat)} {kept : List (Nat × List Rat)} (ho : ∀ e ∈ L, EqOk m pts e) (h : SI m W (L.map fun e => e.1 ++ [e.2]) kept) {f f2 j : Nat} (hj : j < m)
    (h1 : RankIs (Spn (inL m (L.map (·.1)))) f) (h2 : RankIs (Spn (inL m (L.map (·.1) ++ [unitL m j]))) f2) : f2 = f ↔ ∃ p ∈ kept, p.1 = j ∧ ∀ k < m, k ≠ j → p.2.getD k 0 = 0 := by
  rw [rank_more h1 h2, ← KI.unit h.ki hj (unitL_cf hj), ← h.same]
  have e : inL m (L.map (·.1)) = inL m (L.map fun e => e.1 ++ [e.2]) := funext fun g => propext ⟨fun ⟨r, hr, hg⟩ => by
    obtain ⟨w, hw, rfl⟩ := List.mem_map.mp hr
    exact ⟨_, List.mem_map_of_mem hw, by rw [cf_short (ho w hw).1]; exact hg⟩, fun ⟨r, hr, hg⟩ => by
    obtain ⟨w, hw, rfl⟩ := List.mem_map.mp hr
    exact ⟨_, List.mem_map_of_mem hw, by rw [← hg]; exact (cf_short (ho w hw).1 _).symm⟩⟩
  rw [e]
theorem eqs_worth {m : Nat} {pts : List Rat} {W : Nat} {L : List (List Rat × Rat)} {kept : List (Nat × List Rat)} (ho : ∀ e ∈ L, EqOk m pts e) (h : SI m W (L.map fun e => e.1 ++ [e.2]) kept) {p : Nat × List Rat} (hk : p ∈ kept) (hz : ∀ k < m, k ≠ p.1 → p.2.getD k 0 = 0) : p.2.getD m 0 = pts.getD p.1 0 :=
  h.worth (pt := fun k => pts.getD k 0) (fun r hr => by
    obtain ⟨e, he, rfl⟩ := List.mem_map.mp hr
    rw [(ho e he).last]
    exact (ho e he).holds) hk hz
theorem getD_take {l : List Rat} {k n : Nat} (h : k < n) : (l.take n).getD k 0 = l.getD k 0 := by
  rw [List.getD_eq_getElem?_getD, List.getD_eq_getElem?_getD, List.getElem?_take, if_pos h]

section
inductive Kd where
  | eq | ls | mo
  deriving DecidableEq
structure Rr where
  c : List Rat
  b : Rat
  k : Kd
  sh : Nat → Rat
def dt : List Rat → List Rat → Rat
  | x :: c, y :: v => x * y + dt c v
  | _, _ => 0
def okK (k : Kd) (b l : Rat) : Prop := match k with
  | .eq => l = b
  | .ls => b ≤ l
  | .mo => b < l
def Rr.ok (r : Rr) (v : List Rat) : Prop := okK r.k r.b (dt r.c v)
def at0 (l : List Rat) (i : Nat) : Rat := l.getD i 0
def mix (a : Rat) (f : Rr) (b : Rat) (s : Rr) (k : Kd) : Rr :=
  ⟨List.zipWith (fun x y => a * x + b * y) f.c s.c, a * f.b + b * s.b, k, fun n => a * f.sh n + b * s.sh n⟩
def wov (e : Rr) (i : Nat) (r : Rr) : Rr := mix 1 r (-(at0 r.c i / at0 e.c i)) e r.k
def sumd (i : Nat) (m f : Rr) : Rr := mix (1 / at0 m.c i) m (-(1 / at0 f.c i)) f (if m.k = .mo ∨ f.k = .mo then .mo else .ls)
def pS (i : Nat) (s : Int) (r : Rr) : Bool := decide (sgn (at0 r.c i).num = s)
def wSign (rows : List Rr) (i : Nat) (s : Int) : List Rr := rows.filter (pS i s)
def eqF (rows : List Rr) (i : Nat) : Option Rr := rows.find? fun r => decide (r.k = .eq) && decide (at0 r.c i ≠ 0)
def pairs (i : Nat) (ms fs : List Rr) : List Rr := ms.flatMap fun m => fs.map fun f => sumd i m f
def elimR (rows : List Rr) (i : Nat) : List Rr := match eqF rows i with
  | some e => rows.map (wov e i)
  | none => wSign rows i 0 ++ pairs i (wSign rows i 1) (wSign rows i (-1))
def absR (x : Rat) : Rat := if x < 0 then -x else x
def sizes (c : List Rat) : List Rat := (c.filter fun x => decide (x ≠ 0)).map absR
def szR (c : List Rat) : Rat := (sizes c).headD 1
def uns (r : Rr) : List Rat × Rat := (r.c.map fun x => x / szR r.c, r.b / szR r.c)
abbrev Stg := List Rat → Option (Rat × Bool)
def weak (a b : Rat × Bool) : Bool := if a.1 = b.1 then b.2 && !a.2 else decide (a.1 < b.1)
def putS (m : Stg) (l : List Rat) (s : Rat × Bool) : Stg := fun x => if x = l then some s else m x
def keepIt (m : Stg) (l : List Rat) (s : Rat × Bool) : Bool := match m l with
  | none => true
  | some t => weak t s
def need : Stg → List Rr → List Rr
  | _, [] => []
  | m, r :: rs => if r.k = .eq then r :: need m rs else
    if keepIt m (uns r).1 ((uns r).2, decide (r.k = .mo)) then r :: need (putS m (uns r).1 ((uns r).2, decide (r.k = .mo))) rs else need m rs
def limR (r : Rr) (v : List Rat) : Rat := (r.b - dt (r.c.take v.length) v) / at0 r.c v.length
def grt (l : List Rat) : Option Rat := l.foldl (fun f x => match f with
  | none => some x
  | some y => if y < x then some x else some y) none
def nextV (rows : List Rr) (v : List Rat) : Rat := match eqF rows v.length with
  | some e => limR e v
  | none => match grt ((wSign rows v.length 1).map fun r => limR r v), grt ((wSign rows v.length (-1)).map fun r => -(limR r v)) with
    | none, none => 0
    | some l, none => l + 1
    | none, some h => -h - 1
    | some l, some h => (l + -h) / 2
def n0 : Stg := fun _ => none
def stg : Nat → List Rr → List (List Rr) × List Rr
  | 0, k => ([], k)
  | n + 1, k => ((stg n (need n0 (elimR k n))).1 ++ [k], (stg n (need n0 (elimR k n))).2)
def vals (ss : List (List Rr)) : List Rat := ss.foldl (fun v s => v ++ [nextV s v]) []
def unit (i : Nat) : Nat → Rat := fun n => if n = i then 1 else 0
structure Ro3 where
  c : List Rat
  b : Rat
  k : Kd
def Ro3.r (x : Ro3) (i : Nat) : Rr := ⟨x.c, x.b, x.k, unit i⟩
def bse (rows : List Ro3) : List Rr := rows.mapIdx fun i x => x.r i
def start (rows : List Ro3) : List Rr := need n0 (bse rows)
def zeros (n : Nat) : List Rat := List.replicate n 0
def bad (n : Nat) (r : Rr) : Bool := !(match r.k with
  | .eq => decide (dt r.c (zeros n) = r.b)
  | .ls => decide (r.b ≤ dt r.c (zeros n))
  | .mo => decide (r.b < dt r.c (zeros n)))
theorem bad_ok {n : Nat} {r : Rr} : bad n r = true ↔ ¬ r.ok (zeros n) := by
  unfold bad Rr.ok okK
  cases r.k <;> simp
/-- what solve answers: multipliers, or values -/
def solF (rows : List Ro3) (n : Nat) : List Rat ⊕ List Rat := match (stg n (start rows)).2.find? (bad n) with
  | some r => .inl ((List.range rows.length).map r.sh)
  | none => .inr (vals (stg n (start rows)).1)
/-! sums of products -/
theorem dt_nil (v : List Rat) : dt [] v = 0 := by cases v <;> rfl
theorem dt_nil2 (c : List Rat) : dt c [] = 0 := by cases c <;> rfl
theorem dt_zip (a b : Rat) : ∀ (c d v : List Rat), c.length = d.length → dt (List.zipWith (fun x y => a * x + b * y) c d) v = a * dt c v + b * dt d v
  | [], [], v, _ => by rw [List.zipWith_nil_left, dt_nil]; grind
  | [], _ :: _, _, h => by cases h
  | _ :: _, [], _, h => by cases h
  | x :: c, y :: d, [], _ => by rw [dt_nil2, dt_nil2, dt_nil2]; grind
  | x :: c, y :: d, z :: v, h => by
    rw [List.zipWith_cons_cons, dt, dt, dt, dt_zip a b c d v (by simpa using h)]
    grind
theorem dt_snoc : ∀ (c v : List Rat) (t : Rat), dt c (v ++ [t]) = dt c v + at0 c v.length * t
  | [], v, t => by
    rw [dt_nil, dt_nil]
    unfold at0
    rw [List.getD_nil, Rat.zero_mul, Rat.add_zero]
  | x :: c, [], t => by
    show x * t + dt c [] = dt (x :: c) [] + at0 (x :: c) 0 * t
    rw [dt_nil2, dt_nil2]
    unfold at0
    simp
    grind
  | x :: c, y :: v, t => by
    show x * y + dt c (v ++ [t]) = x * y + dt c v + at0 (x :: c) (v.length + 1) * t
    rw [dt_snoc c v t]
    unfold at0
    rw [List.getD_cons_succ]
    grind
theorem dt_take : ∀ (c v : List Rat), dt (c.take v.length) v = dt c v
  | [], v => by rw [List.take_nil]
  | x :: c, [] => by rw [dt_nil2, dt_nil2]
  | x :: c, y :: v => by
    rw [List.length_cons, List.take_succ_cons, dt, dt, dt_take c v]
theorem dt_div (s : Rat) : ∀ (c v : List Rat), dt (c.map fun x => x / s) v = dt c v / s
  | [], v => by rw [List.map_nil, dt_nil]; grind
  | x :: c, [] => by rw [dt_nil2, dt_nil2]; grind
  | x :: c, y :: v => by
    rw [List.map_cons, dt, dt, dt_div s c v, Rat.div_def, Rat.div_def, Rat.div_def]
    grind
theorem dt_zero : ∀ (c v : List Rat), (∀ x ∈ c, x = 0) → dt c v = 0
  | [], v, _ => dt_nil v
  | x :: c, [], _ => dt_nil2 _
  | x :: c, y :: v, h => by
    rw [dt, dt_zero c v (fun z hz => h z (List.mem_cons_of_mem _ hz)), h x List.mem_cons_self]
    grind
theorem at0_zip (a b : Rat) {c d : List Rat} (h : c.length = d.length) (i : Nat) : at0 (List.zipWith (fun x y => a * x + b * y) c d) i = a * at0 c i + b * at0 d i := by
  unfold at0
  rw [List.getD_eq_getElem?_getD, List.getD_eq_getElem?_getD, List.getD_eq_getElem?_getD, List.getElem?_zipWith]
  by_cases hi : i < c.length
  · rw [List.getElem?_eq_getElem hi, List.getElem?_eq_getElem (by omega)]
    rfl
  · rw [List.getElem?_eq_none (by omega), List.getElem?_eq_none (by omega)]
    show (0 : Rat) = a * 0 + b * 0
    rw [Rat.mul_zero, Rat.mul_zero, Rat.add_zero]
theorem okK_mix {a b : Rat} {j k : Kd} {x y l m : Rat} (ha : 0 < a) (hb : 0 < b) (hj : j ≠ .eq) (hk : k ≠ .eq) (h1 : okK j x l) (h2 : okK k y m) : okK (if j = .mo ∨ k = .mo then .mo else .ls) (a * x + b * y) (a * l + b * m) := by
  have w : ∀ {c p q : Rat}, 0 < c → p ≤ q → c * p ≤ c * q := fun hc h => Rat.mul_le_mul_of_nonneg_left h (Rat.le_of_lt hc)
  have s : ∀ {c p q : Rat}, 0 < c → p < q → c * p < c * q := fun hc h => Rat.mul_lt_mul_of_pos_left h hc
  cases j with
  | eq => exact absurd rfl hj
  | ls => cases k with
    | eq => exact absurd rfl hk
    | ls =>
      have := w ha h1
      have := w hb h2
      show a * x + b * y ≤ a * l + b * m
      grind
    | mo =>
      have := w ha h1
      have := s hb h2
      show a * x + b * y < a * l + b * m
      grind
  | mo => cases k with
    | eq => exact absurd rfl hk
    | ls =>
      have := s ha h1
      have := w hb h2
      show a * x + b * y < a * l + b * m
      grind
    | mo =>
      have := s ha h1
      have := s hb h2
      show a * x + b * y < a * l + b * m
      grind
theorem okK_eq {k : Kd} {f x y l m : Rat} (h2 : m = y) : okK k (1 * x + f * y) (1 * l + f * m) ↔ okK k x l := by
  subst h2
  cases k
  · show 1 * l + f * m = 1 * x + f * m ↔ l = x
    constructor <;> intro h <;> grind
  · show 1 * x + f * m ≤ 1 * l + f * m ↔ x ≤ l
    constructor <;> intro h <;> grind
  · show 1 * x + f * m < 1 * l + f * m ↔ x < l
    constructor <;> intro h <;> grind

/-! what elimination keeps -/
structure RW (n : Nat) (r : Rr) : Prop where
  len : r.c.length = n
theorem mix_ok {a b : Rat} {f s : Rr} {k : Kd} (h : f.c.length = s.c.length) (v : List Rat) : (mix a f b s k).ok v ↔ okK k (a * f.b + b * s.b) (a * dt f.c v + b * dt s.c v) := by
  unfold Rr.ok mix
  rw [dt_zip a b f.c s.c v h]
theorem wov_ok {e r : Rr} {i : Nat} (h : r.c.length = e.c.length) {v : List Rat} (he : dt e.c v = e.b) : (wov e i r).ok v ↔ r.ok v := by
  unfold wov
  rw [mix_ok h]
  exact okK_eq he
theorem sumd_ok {i : Nat} {m f : Rr} (h : m.c.length = f.c.length) (h1 : 0 < at0 m.c i) (h2 : at0 f.c i < 0) (hm : m.k ≠ .eq) (hf : f.k ≠ .eq) {v : List Rat} (o1 : m.ok v) (o2 : f.ok v) : (sumd i m f).ok v := by
  unfold sumd
  rw [mix_ok h]
  refine okK_mix ?_ ?_ hm hf o1 o2
  · rw [Rat.div_def, Rat.one_mul]
    exact Rat.inv_pos.mpr h1
  · rw [Rat.div_def, Rat.one_mul]
    have : (at0 f.c i)⁻¹ < 0 := by
      have h3 : 0 < -(at0 f.c i) := by grind
      have h4 := Rat.inv_pos.mpr h3
      have h5 : (-(at0 f.c i))⁻¹ = -(at0 f.c i)⁻¹ := by grind
      grind
    grind
theorem eqF_some {rows : List Rr} {i : Nat} {e : Rr} (h : eqF rows i = some e) : e ∈ rows ∧ e.k = .eq ∧ at0 e.c i ≠ 0 := by
  have h1 := List.mem_of_find?_eq_some h
  have h2 := List.find?_some h
  rw [Bool.and_eq_true] at h2
  exact ⟨h1, of_decide_eq_true h2.1, of_decide_eq_true h2.2⟩
theorem eqF_none {rows : List Rr} {i : Nat} (h : eqF rows i = none) : ∀ r ∈ rows, at0 r.c i ≠ 0 → r.k ≠ .eq := by
  intro r hr h0 hk
  have := List.find?_eq_none.mp h r hr
  simp [hk, h0] at this
theorem num_lt0 {x : Rat} : x.num < 0 ↔ x < 0 := by
  rw [← Rat.not_le, ← Rat.num_nonneg]
  omega
theorem num_gt0 {x : Rat} : 0 < x.num ↔ 0 < x := by
  have h1 := Rat.num_nonneg (q := x)
  have h2 := Rat.num_eq_zero (q := x)
  constructor
  · intro h
    have h3 := h1.mp (by omega)
    have h4 : x ≠ 0 := fun z => by
      have := h2.mpr z
      omega
    grind
  · intro h
    have h3 := h1.mpr (Rat.le_of_lt h)
    have h4 : x.num ≠ 0 := fun z => by
      have := h2.mp z
      grind
    omega
theorem sgn_cases (x : Rat) : (x < 0 ∧ sgn x.num = -1) ∨ (x = 0 ∧ sgn x.num = 0) ∨ (0 < x ∧ sgn x.num = 1) := by
  unfold sgn
  by_cases h : x.num < 0
  · exact .inl ⟨num_lt0.mp h, by rw [if_pos h]⟩
  · by_cases h2 : 0 < x.num
    · exact .inr (.inr ⟨num_gt0.mp h2, by rw [if_neg h, if_pos h2]⟩)
    · refine .inr (.inl ⟨Rat.num_eq_zero.mp (by omega), by rw [if_neg h, if_neg h2]⟩)
theorem pS_pos {i : Nat} {r : Rr} : pS i 1 r = true ↔ 0 < at0 r.c i := by
  unfold pS
  rw [decide_eq_true_iff]
  rcases sgn_cases (at0 r.c i) with ⟨h, e⟩ | ⟨h, e⟩ | ⟨h, e⟩ <;> rw [e] <;> constructor <;> intro g <;> first | (exfalso; grind) | rfl | exact h | (exfalso; omega)
theorem pS_neg {i : Nat} {r : Rr} : pS i (-1) r = true ↔ at0 r.c i < 0 := by
  unfold pS
  rw [decide_eq_true_iff]
  rcases sgn_cases (at0 r.c i) with ⟨h, e⟩ | ⟨h, e⟩ | ⟨h, e⟩ <;> rw [e] <;> constructor <;> intro g <;> first | (exfalso; grind) | rfl | exact h | (exfalso; omega)
theorem pS_zero {i : Nat} {r : Rr} : pS i 0 r = true ↔ at0 r.c i = 0 := by
  unfold pS
  rw [decide_eq_true_iff]
  rcases sgn_cases (at0 r.c i) with ⟨h, e⟩ | ⟨h, e⟩ | ⟨h, e⟩ <;> rw [e] <;> constructor <;> intro g <;> first | (exfalso; grind) | rfl | exact h | (exfalso; omega)
/-- a fact of rows that elimination keeps, by its two steps -/
theorem elim_all {P : Rr → Prop} {rows : List Rr} {i : Nat} (h : ∀ r ∈ rows, P r) (hw : ∀ e ∈ rows, e.k = .eq → at0 e.c i ≠ 0 → ∀ r ∈ rows, P (wov e i r)) (hs : ∀ m ∈ rows, ∀ f ∈ rows, 0 < at0 m.c i → at0 f.c i < 0 → m.k ≠ .eq → f.k ≠ .eq → P (sumd i m f)) : ∀ r ∈ elimR rows i, P r := by
  intro r hr
  unfold elimR at hr
  cases e : eqF rows i with
  | some q =>
    rw [e] at hr
    obtain ⟨x, hx, rfl⟩ := List.mem_map.mp hr
    obtain ⟨a, b, c⟩ := eqF_some e
    exact hw q a b c x hx
  | none =>
    rw [e] at hr
    have hn := eqF_none e
    rcases List.mem_append.mp hr with hz | hp
    · exact h r (List.mem_filter.mp hz).1
    · obtain ⟨m, hm, hp⟩ := List.mem_flatMap.mp hp
      obtain ⟨f, hf, rfl⟩ := List.mem_map.mp hp
      obtain ⟨m1, m2⟩ := List.mem_filter.mp hm
      obtain ⟨f1, f2⟩ := List.mem_filter.mp hf
      have m3 := pS_pos.mp m2
      have f3 := pS_neg.mp f2
      exact hs m m1 f f1 m3 f3 (hn m m1 (by grind)) (hn f f1 (by grind))
theorem need_sub : ∀ (m : Stg) (rows : List Rr), ∀ r ∈ need m rows, r ∈ rows
  | _, [], r, h => h
  | m, x :: rows, r, h => by
    unfold need at h
    split at h
    · rcases List.mem_cons.mp h with rfl | h
      · exact List.mem_cons_self
      · exact List.mem_cons_of_mem _ (need_sub _ _ _ h)
    · split at h
      · rcases List.mem_cons.mp h with rfl | h
        · exact List.mem_cons_self
        · exact List.mem_cons_of_mem _ (need_sub _ _ _ h)
      · exact List.mem_cons_of_mem _ (need_sub _ _ _ h)
theorem need_len : ∀ (m : Stg) (rows : List Rr), (need m rows).length ≤ rows.length
  | _, [] => Nat.le_refl _
  | m, x :: rows => by
    unfold need
    have h1 := fun m => need_len m rows
    split
    · exact Nat.succ_le_succ (h1 _)
    · split
      · exact Nat.succ_le_succ (h1 _)
      · exact Nat.le_succ_of_le (h1 _)
/-! what is left out says no more -/
theorem absR_pos {x : Rat} (h : x ≠ 0) : 0 < absR x := by
  unfold absR
  split <;> grind
theorem szR_pos (c : List Rat) : 0 < szR c := by
  unfold szR
  cases e : sizes c with
  | nil => exact (by decide : (0 : Rat) < 1)
  | cons x l =>
    have h : x ∈ sizes c := by rw [e]; exact List.mem_cons_self
    obtain ⟨y, hy, rfl⟩ := List.mem_map.mp h
    exact absR_pos (of_decide_eq_true (List.mem_filter.mp hy).2)
def sat (l : List Rat) (s : Rat × Bool) (v : List Rat) : Prop := if s.2 then s.1 < dt l v else s.1 ≤ dt l v
theorem div_le {a b s : Rat} (h : 0 < s) : a / s ≤ b / s ↔ a ≤ b := by
  rw [Rat.div_def, Rat.div_def]
  have hi := Rat.inv_pos.mpr h
  constructor
  · intro g
    exact Rat.le_of_mul_le_mul_right g hi
  · intro g
    exact Rat.mul_le_mul_of_nonneg_right g (Rat.le_of_lt hi)
theorem div_lt {a b s : Rat} (h : 0 < s) : a / s < b / s ↔ a < b := by
  rw [← Rat.not_le, ← Rat.not_le, div_le h]
theorem uns_ok {r : Rr} (hk : r.k ≠ .eq) (v : List Rat) : r.ok v ↔ sat (uns r).1 ((uns r).2, decide (r.k = .mo)) v := by
  unfold sat uns Rr.ok
  rw [dt_div]
  have h := szR_pos r.c
  cases e : r.k with
  | eq => exact absurd e hk
  | ls => exact (div_le h).symm
  | mo => exact (div_lt h).symm
theorem weak_not {a b : Rat × Bool} {l v : List Rat} (h : weak a b = false) (s : sat l a v) : sat l b v := by
  obtain ⟨x, p⟩ := a
  obtain ⟨y, q⟩ := b
  unfold weak at h
  unfold sat at *
  dsimp only at *
  by_cases e : x = y
  · subst e
    rw [if_pos rfl] at h
    cases p <;> cases q
    · exact s
    · cases h
    · rw [if_pos rfl] at s
      rw [if_neg Bool.false_ne_true]
      exact Rat.le_of_lt s
    · exact s
  · rw [if_neg e] at h
    have h2 : ¬ x < y := of_decide_eq_false h
    cases p <;> cases q <;> simp at s ⊢ <;> grind
theorem need_ok (v : List Rat) : ∀ (m : Stg) (rows : List Rr), (∀ l s, m l = some s → sat l s v) → (∀ r ∈ need m rows, r.ok v) → ∀ r ∈ rows, r.ok v
  | _, [], _, _, r, h => nomatch h
  | m, x :: rows, hm, hn, r, hr => by
    unfold need at hn
    by_cases hk : x.k = .eq
    · rw [if_pos hk] at hn
      rcases List.mem_cons.mp hr with rfl | hr
      · exact hn _ List.mem_cons_self
      · exact need_ok v m rows hm (fun z hz => hn z (List.mem_cons_of_mem _ hz)) r hr
    · rw [if_neg hk] at hn
      by_cases g : keepIt m (uns x).1 ((uns x).2, decide (x.k = .mo)) = true
      · rw [if_pos g] at hn
        have hx := hn x List.mem_cons_self
        rcases List.mem_cons.mp hr with rfl | hr
        · exact hx
        · refine need_ok v _ rows (fun l s h => ?_) (fun z hz => hn z (List.mem_cons_of_mem _ hz)) r hr
          unfold putS at h
          by_cases e : l = (uns x).1
          · rw [if_pos e] at h
            rw [← Option.some.inj h, e]
            exact (uns_ok hk v).mp hx
          · rw [if_neg e] at h
            exact hm l s h
      · rw [if_neg g] at hn
        rcases List.mem_cons.mp hr with rfl | hr
        · rw [uns_ok hk]
          unfold keepIt at g
          cases e : m (uns r).1 with
          | none => rw [e] at g; exact absurd rfl g
          | some t =>
            rw [e] at g
            exact weak_not (Bool.eq_false_iff.mpr g) (hm _ _ e)
        · exact need_ok v m rows hm hn r hr
theorem need_ok0 {v : List Rat} {rows : List Rr} (h : ∀ r ∈ need n0 rows, r.ok v) : ∀ r ∈ rows, r.ok v :=
  need_ok v n0 rows (fun _ _ z => nomatch z) h
end

section
/-! the values that are found -/
structure WF (n i : Nat) (r : Rr) : Prop where
  len : r.c.length = n
  zer : ∀ j, i ≤ j → at0 r.c j = 0
theorem wov_at {e r : Rr} (h : r.c.length = e.c.length) (i j : Nat) : at0 (wov e i r).c j = 1 * at0 r.c j + -(at0 r.c i / at0 e.c i) * at0 e.c j := at0_zip _ _ h j
theorem sumd_at {m f : Rr} (h : m.c.length = f.c.length) (i j : Nat) : at0 (sumd i m f).c j = 1 / at0 m.c i * at0 m.c j + -(1 / at0 f.c i) * at0 f.c j := at0_zip _ _ h j
theorem mix_len {a b : Rat} {f s : Rr} {k : Kd} {n : Nat} (h1 : f.c.length = n) (h2 : s.c.length = n) : (mix a f b s k).c.length = n := by
  show (List.zipWith _ _ _).length = n
  rw [List.length_zipWith, h1, h2, Nat.min_self]
theorem elim_wf {n i : Nat} {rows : List Rr} (h : ∀ r ∈ rows, WF n (i + 1) r) : ∀ r ∈ need n0 (elimR rows i), WF n i r := by
  refine fun r hr => ?_
  replace hr := need_sub _ _ r hr
  unfold elimR at hr
  cases e : eqF rows i with
  | some q =>
    rw [e] at hr
    obtain ⟨x, hx, rfl⟩ := List.mem_map.mp hr
    obtain ⟨a, b, c⟩ := eqF_some e
    have hx := h x hx
    have hq := h q a
    refine ⟨mix_len hx.len hq.len, fun j hj => ?_⟩
    rw [wov_at (hx.len.trans hq.len.symm)]
    rcases Nat.lt_or_ge i j with g | g
    · rw [hx.zer j g, hq.zer j g]
      grind
    · obtain rfl : i = j := by omega
      rw [Rat.div_def]
      grind
  | none =>
    rw [e] at hr
    rcases List.mem_append.mp hr with hz | hp
    · obtain ⟨h1, h2⟩ := List.mem_filter.mp hz
      have hx := h r h1
      refine ⟨hx.len, fun j hj => ?_⟩
      rcases Nat.lt_or_ge i j with g | g
      · exact hx.zer j g
      · obtain rfl : i = j := by omega
        exact pS_zero.mp h2
    · obtain ⟨m, hm, hp⟩ := List.mem_flatMap.mp hp
      obtain ⟨f, hf, rfl⟩ := List.mem_map.mp hp
      obtain ⟨m1, m2⟩ := List.mem_filter.mp hm
      obtain ⟨f1, f2⟩ := List.mem_filter.mp hf
      have m3 := pS_pos.mp m2
      have f3 := pS_neg.mp f2
      have hx := h m m1
      have hq := h f f1
      refine ⟨mix_len hx.len hq.len, fun j hj => ?_⟩
      rw [sumd_at (hx.len.trans hq.len.symm)]
      rcases Nat.lt_or_ge i j with g | g
      · rw [hx.zer j g, hq.zer j g]
        grind
      · obtain rfl : i = j := by omega
        rw [Rat.div_def, Rat.div_def]
        grind
theorem grt_aux : ∀ (l : List Rat) (o : Option Rat), ∃ r, (l.foldl (fun f x => match f with
  | none => some x
  | some y => if y < x then some x else some y) o) = r ∧ (∀ y, o = some y → ∃ z, r = some z ∧ y ≤ z) ∧ (∀ x ∈ l, ∃ z, r = some z ∧ x ≤ z) ∧ (∀ z, r = some z → o = some z ∨ z ∈ l)
  | [], o => ⟨o, rfl, fun y h => ⟨y, h, Rat.le_refl⟩, (fun _ h => nomatch h), fun z h => .inl h⟩
  | x :: l, o => by
    obtain ⟨r, e, h1, h2, h3⟩ := grt_aux l (match o with
      | none => some x
      | some y => if y < x then some x else some y)
    refine ⟨r, e, fun y hy => ?_, fun z hz => ?_, fun z hz => ?_⟩
    · subst hy
      dsimp only at h1
      by_cases g : y < x
      · rw [if_pos g] at h1
        obtain ⟨z, a, b⟩ := h1 x rfl
        exact ⟨z, a, by grind⟩
      · rw [if_neg g] at h1
        exact h1 y rfl
    · rcases List.mem_cons.mp hz with rfl | hz
      · cases o with
        | none => exact h1 z rfl
        | some y =>
          dsimp only at h1
          by_cases g : y < z
          · rw [if_pos g] at h1
            exact h1 z rfl
          · rw [if_neg g] at h1
            obtain ⟨w, a, b⟩ := h1 y rfl
            exact ⟨w, a, by grind⟩
      · exact h2 z hz
    · rcases h3 z hz with g | g
      · cases o with
        | none => exact .inr (by rw [← Option.some.inj g]; exact List.mem_cons_self)
        | some y =>
          dsimp only at g
          by_cases q : y < x
          · rw [if_pos q] at g
            exact .inr (by rw [← Option.some.inj g]; exact List.mem_cons_self)
          · rw [if_neg q] at g
            exact .inl g
      · exact .inr (List.mem_cons_of_mem _ g)
theorem grt_none {l : List Rat} (h : grt l = none) : l = [] := by
  obtain ⟨r, e, _, h2, _⟩ := grt_aux l none
  cases l with
  | nil => rfl
  | cons x l =>
    obtain ⟨z, a, _⟩ := h2 x List.mem_cons_self
    unfold grt at h
    rw [e, a] at h
    cases h
theorem grt_some {l : List Rat} {z : Rat} (h : grt l = some z) : z ∈ l ∧ ∀ x ∈ l, x ≤ z := by
  obtain ⟨r, e, _, h2, h3⟩ := grt_aux l none
  unfold grt at h
  rw [e] at h
  refine ⟨?_, fun x hx => ?_⟩
  · rcases h3 z h with g | g
    · cases g
    · exact g
  · obtain ⟨w, a, b⟩ := h2 x hx
    rw [h] at a
    rw [Option.some.inj a]
    exact b
theorem lim_eq (r : Rr) (v : List Rat) : limR r v = (r.b - dt r.c v) / at0 r.c v.length := by
  unfold limR
  rw [dt_take]
theorem pos_ok {r : Rr} {v : List Rat} (hk : r.k ≠ .eq) (h : 0 < at0 r.c v.length) (t : Rat) : r.ok (v ++ [t]) ↔ (if r.k = .mo then limR r v < t else limR r v ≤ t) := by
  rw [lim_eq]
  unfold Rr.ok
  rw [dt_snoc]
  have e : t = at0 r.c v.length * t / at0 r.c v.length := by
    rw [Rat.div_def]
    grind
  cases hr : r.k with
  | eq => exact absurd hr hk
  | ls =>
    rw [if_neg (by decide)]
    conv => rhs; rw [e]
    rw [div_le h]
    show r.b ≤ _ ↔ _
    constructor <;> intro g <;> grind
  | mo =>
    rw [if_pos rfl]
    conv => rhs; rw [e]
    rw [div_lt h]
    show r.b < _ ↔ _
    constructor <;> intro g <;> grind
theorem neg_ok {r : Rr} {v : List Rat} (hk : r.k ≠ .eq) (h : at0 r.c v.length < 0) (t : Rat) : r.ok (v ++ [t]) ↔ (if r.k = .mo then t < limR r v else t ≤ limR r v) := by
  rw [lim_eq]
  unfold Rr.ok
  rw [dt_snoc]
  generalize at0 r.c v.length = a at *
  have h2 : 0 < -a := by grind
  have e : t = (-a * t) / -a := by
    rw [Rat.div_def]
    grind
  have e2 : (r.b - dt r.c v) / a = (dt r.c v - r.b) / -a := by
    rw [Rat.div_def, Rat.div_def]
    grind
  rw [e2]
  cases hr : r.k with
  | eq => exact absurd hr hk
  | ls =>
    rw [if_neg (by decide)]
    conv => rhs; rw [e]
    rw [div_le h2]
    show r.b ≤ _ ↔ _
    constructor <;> intro g <;> grind
  | mo =>
    rw [if_pos rfl]
    conv => rhs; rw [e]
    rw [div_lt h2]
    show r.b < _ ↔ _
    constructor <;> intro g <;> grind
theorem zero_ok {r : Rr} {v : List Rat} (h : at0 r.c v.length = 0) (t : Rat) : r.ok (v ++ [t]) ↔ r.ok v := by
  unfold Rr.ok
  rw [dt_snoc, h, Rat.zero_mul, Rat.add_zero]
theorem pair_ok {m f : Rr} {v : List Rat} (hl : m.c.length = f.c.length) (hm : 0 < at0 m.c v.length) (hf : at0 f.c v.length < 0) (h : (sumd v.length m f).ok v) : limR m v ≤ limR f v ∧ (m.k = .mo ∨ f.k = .mo → limR m v < limR f v) := by
  unfold sumd at h
  rw [mix_ok hl] at h
  rw [lim_eq, lim_eq]
  generalize at0 m.c v.length = a at *
  generalize at0 f.c v.length = c at *
  have e1 : (m.b - dt m.c v) / a = 1 / a * m.b - 1 / a * dt m.c v := by
    rw [Rat.div_def, Rat.div_def]
    grind
  have e2 : (f.b - dt f.c v) / c = 1 / c * f.b - 1 / c * dt f.c v := by
    rw [Rat.div_def, Rat.div_def]
    grind
  rw [e1, e2]
  by_cases g : m.k = .mo ∨ f.k = .mo
  · rw [if_pos g] at h
    have h2 : 1 / a * m.b + -(1 / c) * f.b < 1 / a * dt m.c v + -(1 / c) * dt f.c v := h
    exact ⟨by grind, fun _ => by grind⟩
  · rw [if_neg g] at h
    have h2 : 1 / a * m.b + -(1 / c) * f.b ≤ 1 / a * dt m.c v + -(1 / c) * dt f.c v := h
    exact ⟨by grind, fun z => absurd z g⟩
theorem next_ok {n : Nat} {rows : List Rr} {v : List Rat} (hw : ∀ r ∈ rows, r.c.length = n) (h : ∀ r ∈ elimR rows v.length, r.ok v) : ∀ r ∈ rows, r.ok (v ++ [nextV rows v]) := by
  intro r hr
  unfold elimR at h
  unfold nextV
  cases e : eqF rows v.length with
  | some q =>
    rw [e] at h
    obtain ⟨a, b, c⟩ := eqF_some e
    show r.ok (v ++ [limR q v])
    have hq : dt q.c (v ++ [limR q v]) = q.b := by
      rw [dt_snoc, lim_eq, Rat.div_def]
      grind
    rw [← wov_ok (i := v.length) ((hw r hr).trans (hw q a).symm) hq]
    rw [zero_ok]
    · exact h _ (List.mem_map_of_mem hr)
    · rw [wov_at ((hw r hr).trans (hw q a).symm), Rat.div_def]
      grind
  | none =>
    rw [e] at h
    have hn := eqF_none e
    have hz : ∀ r ∈ rows, at0 r.c v.length = 0 → ∀ t, r.ok (v ++ [t]) := fun r hr h0 t => by
      rw [zero_ok h0]
      exact h r (List.mem_append_left _ (List.mem_filter.mpr ⟨hr, pS_zero.mpr h0⟩))
    have hp : ∀ m ∈ rows, ∀ f ∈ rows, 0 < at0 m.c v.length → at0 f.c v.length < 0 → limR m v ≤ limR f v ∧ (m.k = .mo ∨ f.k = .mo → limR m v < limR f v) := fun m hm f hf m0 f0 =>
      pair_ok ((hw m hm).trans (hw f hf).symm) m0 f0 (h _ (List.mem_append_right _ (List.mem_flatMap.mpr ⟨m, List.mem_filter.mpr ⟨hm, pS_pos.mpr m0⟩, List.mem_map_of_mem (List.mem_filter.mpr ⟨hf, pS_neg.mpr f0⟩)⟩)))
    have hP : ∀ t, (∀ m ∈ rows, 0 < at0 m.c v.length → if m.k = .mo then limR m v < t else limR m v ≤ t) → (∀ f ∈ rows, at0 f.c v.length < 0 → if f.k = .mo then t < limR f v else t ≤ limR f v) → r.ok (v ++ [t]) := fun t h1 h2 => by
      rcases sgn_cases (at0 r.c v.length) with ⟨g, _⟩ | ⟨g, _⟩ | ⟨g, _⟩
      · exact (neg_ok (hn r hr (by grind)) g t).mpr (h2 r hr g)
      · exact hz r hr g t
      · exact (pos_ok (hn r hr (by grind)) g t).mpr (h1 r hr g)
    have inP : ∀ m ∈ rows, 0 < at0 m.c v.length → limR m v ∈ (wSign rows v.length 1).map fun r => limR r v := fun m hm m0 => List.mem_map_of_mem (f := fun r => limR r v) (List.mem_filter.mpr ⟨hm, pS_pos.mpr m0⟩)
    have inN : ∀ m ∈ rows, at0 m.c v.length < 0 → -(limR m v) ∈ (wSign rows v.length (-1)).map fun r => -(limR r v) := fun m hm m0 => List.mem_map_of_mem (f := fun r => -(limR r v)) (List.mem_filter.mpr ⟨hm, pS_neg.mpr m0⟩)
    dsimp only
    refine hP _ ?_ ?_
    · intro m hm m0
      have hmP := inP m hm m0
      cases e1 : grt ((wSign rows v.length 1).map fun r => limR r v) with
      | none =>
        rw [grt_none e1] at hmP
        cases hmP
      | some l =>
        obtain ⟨l1, l2⟩ := grt_some e1
        have hl := l2 _ hmP
        cases e2 : grt ((wSign rows v.length (-1)).map fun r => -(limR r v)) with
        | none =>
          dsimp only
          split <;> grind
        | some u =>
          dsimp only
          obtain ⟨u1, u2⟩ := grt_some e2
          obtain ⟨x, hx, ex⟩ := List.mem_map.mp l1
          obtain ⟨y, hy, ey⟩ := List.mem_map.mp u1
          obtain ⟨x1, x2⟩ := List.mem_filter.mp hx
          obtain ⟨y1, y2⟩ := List.mem_filter.mp hy
          have p1 := hp x x1 y y1 (pS_pos.mp x2) (pS_neg.mp y2)
          have p2 := hp m hm y y1 m0 (pS_neg.mp y2)
          by_cases k1 : m.k = .mo
          · rw [if_pos k1]
            have := p2.2 (.inl k1)
            grind
          · rw [if_neg k1]
            grind
    · intro m hm m0
      have hmN := inN m hm m0
      cases e2 : grt ((wSign rows v.length (-1)).map fun r => -(limR r v)) with
      | none =>
        rw [grt_none e2] at hmN
        cases hmN
      | some u =>
        obtain ⟨u1, u2⟩ := grt_some e2
        have hu := u2 _ hmN
        cases e1 : grt ((wSign rows v.length 1).map fun r => limR r v) with
        | none =>
          dsimp only
          split <;> grind
        | some l =>
          dsimp only
          obtain ⟨l1, l2⟩ := grt_some e1
          obtain ⟨x, hx, ex⟩ := List.mem_map.mp l1
          obtain ⟨y, hy, ey⟩ := List.mem_map.mp u1
          obtain ⟨x1, x2⟩ := List.mem_filter.mp hx
          obtain ⟨y1, y2⟩ := List.mem_filter.mp hy
          have p1 := hp x x1 y y1 (pS_pos.mp x2) (pS_neg.mp y2)
          have p2 := hp x x1 m hm (pS_pos.mp x2) m0
          by_cases k1 : m.k = .mo
          · rw [if_pos k1]
            have := p2.2 (.inr k1)
            grind
          · rw [if_neg k1]
            grind
theorem vals_snoc (ss : List (List Rr)) (k : List Rr) : vals (ss ++ [k]) = vals ss ++ [nextV k (vals ss)] := by
  unfold vals
  rw [List.foldl_append]
  rfl
theorem stg_pt {n : Nat} : ∀ (i : Nat) (rows : List Rr), (∀ r ∈ rows, WF n i r) → (∀ r ∈ (stg i rows).2, r.ok []) → (vals (stg i rows).1).length = i ∧ ∀ r ∈ rows, r.ok (vals (stg i rows).1)
  | 0, rows, _, h => ⟨rfl, h⟩
  | i + 1, rows, hw, h => by
    obtain ⟨h1, h2⟩ := stg_pt i (need n0 (elimR rows i)) (elim_wf hw) h
    unfold stg
    dsimp only
    rw [vals_snoc]
    refine ⟨by rw [List.length_append, h1]; rfl, ?_⟩
    refine next_ok (fun r hr => (hw r hr).len) ?_
    rw [h1]
    exact need_ok0 h2
theorem dt_zeros (c : List Rat) (n : Nat) : dt c (zeros n) = 0 := by
  induction n generalizing c with
  | zero => exact dt_nil2 c
  | succ n ih =>
    cases c with
    | nil => exact dt_nil _
    | cons x c =>
      show x * 0 + dt c (zeros n) = 0
      rw [ih, Rat.mul_zero, Rat.add_zero]
theorem ok_zeros (r : Rr) (n : Nat) : r.ok (zeros n) ↔ r.ok [] := by
  unfold Rr.ok
  rw [dt_zeros, dt_nil2]
theorem at0_out {l : List Rat} {j : Nat} (h : l.length ≤ j) : at0 l j = 0 := by
  unfold at0
  rw [List.getD_eq_getElem?_getD, List.getElem?_eq_none h]
  rfl
theorem base_mem {rows : List Ro3} {r : Rr} (h : r ∈ bse rows) : ∃ (i : Nat) (x : Ro3), rows[i]? = some x ∧ r = x.r i := by
  unfold bse at h
  obtain ⟨i, hi⟩ := List.mem_iff_getElem?.mp h
  rw [List.getElem?_mapIdx] at hi
  cases e : rows[i]? with
  | none => rw [e] at hi; cases hi
  | some x => rw [e] at hi; exact ⟨i, x, e, (Option.some.inj hi).symm⟩
theorem base_wf {rows : List Ro3} {n : Nat} (h : ∀ x ∈ rows, x.c.length = n) : ∀ r ∈ start rows, WF n n r := by
  intro r hr
  obtain ⟨i, x, hi, rfl⟩ := base_mem (need_sub _ _ r hr)
  have hl := h x (List.mem_of_getElem? hi)
  exact ⟨hl, fun j hj => at0_out (by show x.c.length ≤ j; omega)⟩
def Ro3.ok (x : Ro3) (v : List Rat) : Prop := okK x.k x.b (dt x.c v)
/-- the values that are found: all rows hold -/
theorem solF_pt {rows : List Ro3} {n : Nat} {v : List Rat} (hl : ∀ x ∈ rows, x.c.length = n) (h : solF rows n = .inr v) : v.length = n ∧ ∀ x ∈ rows, x.ok v := by
  unfold solF at h
  cases e : (stg n (start rows)).2.find? (bad n) with
  | some r => rw [e] at h; cases h
  | none =>
    rw [e] at h
    have h0 := List.find?_eq_none.mp e
    obtain ⟨h1, h2⟩ := stg_pt n (start rows) (base_wf hl) fun r hr => by
      have := h0 r hr
      rw [bad_ok] at this
      rw [← ok_zeros r n]
      exact Classical.not_not.mp this
    obtain rfl : vals (stg n (start rows)).1 = v := Sum.inr.inj h
    refine ⟨h1, fun x hx => ?_⟩
    obtain ⟨i, hi⟩ := List.mem_iff_getElem?.mp hx
    exact need_ok0 h2 (x.r i) (by
      unfold bse
      exact List.mem_of_getElem? (i := i) (by rw [List.getElem?_mapIdx, hi]; rfl))
/-- where there is a point at which all rows hold, values are found -/
theorem stg_ok {n : Nat} {v : List Rat} : ∀ (i : Nat) (rows : List Rr), (∀ r ∈ rows, WF n i r) → (∀ r ∈ rows, r.ok v) → ∀ r ∈ (stg i rows).2, r.ok v ∧ WF n 0 r
  | 0, rows, hw, h => fun r hr => ⟨h r hr, hw r hr⟩
  | i + 1, rows, hw, h => by
    refine stg_ok i (need n0 (elimR rows i)) (elim_wf hw) fun r hr => ?_
    refine elim_all (P := fun r => r.ok v) h (fun e he ek e0 r hr => ?_) (fun m hm f hf m0 f0 mk fk => ?_) r (need_sub _ _ r hr)
    · have := h e he
      unfold Rr.ok at this
      rw [ek] at this
      exact (wov_ok ((hw r hr).len.trans (hw e he).len.symm) this).mpr (h r hr)
    · exact sumd_ok ((hw m hm).len.trans (hw f hf).len.symm) m0 f0 mk fk (h m hm) (h f hf)
theorem at0_all {c : List Rat} (h : ∀ j, at0 c j = 0) : ∀ x ∈ c, x = 0 := by
  intro x hx
  obtain ⟨i, hi⟩ := List.mem_iff_getElem?.mp hx
  have := h i
  unfold at0 at this
  rw [List.getD_eq_getElem?_getD, hi] at this
  exact this
theorem solF_there {rows : List Ro3} {n : Nat} {x : List Rat} (hl : ∀ r ∈ rows, r.c.length = n) (h : ∀ r ∈ rows, r.ok x) : ∃ v, solF rows n = .inr v := by
  unfold solF
  cases e : (stg n (start rows)).2.find? (bad n) with
  | none => exact ⟨_, rfl⟩
  | some r =>
    exfalso
    have h1 := List.mem_of_find?_eq_some e
    have h2 := bad_ok.mp (List.find?_some e)
    obtain ⟨h3, h4⟩ := stg_ok (v := x) n (start rows) (base_wf hl) (fun r hr => by
      obtain ⟨i, y, hi, rfl⟩ := base_mem (need_sub _ _ r hr)
      exact h y (List.mem_of_getElem? hi)) r h1
    rw [ok_zeros] at h2
    refine h2 ?_
    unfold Rr.ok at *
    rw [dt_zero _ _ (at0_all fun j => h4.zer j (Nat.zero_le _))] at h3
    rw [dt_nil2]
    exact h3
end

section
/-! the multipliers that are found -/
def sm (f : Nat → Rat) : Nat → Rat
  | 0 => 0
  | n + 1 => sm f n + f n
theorem sm_lin (a b : Rat) (f g : Nat → Rat) : ∀ n, sm (fun i => a * f i + b * g i) n = a * sm f n + b * sm g n
  | 0 => by
    show (0 : Rat) = a * 0 + b * 0
    rw [Rat.mul_zero, Rat.mul_zero, Rat.add_zero]
  | n + 1 => by
    show sm (fun i => a * f i + b * g i) n + (a * f n + b * g n) = a * (sm f n + f n) + b * (sm g n + g n)
    rw [sm_lin a b f g n]
    grind
theorem sm_congr {f g : Nat → Rat} : ∀ {n : Nat}, (∀ i, i < n → f i = g i) → sm f n = sm g n
  | 0, _ => rfl
  | n + 1, h => by
    show sm f n + f n = sm g n + g n
    rw [sm_congr fun i hi => h i (Nat.lt_succ_of_lt hi), h n (Nat.lt_succ_self n)]
theorem sm_zero : ∀ (n : Nat) {f : Nat → Rat}, (∀ i, i < n → f i = 0) → sm f n = 0
  | 0, _, _ => rfl
  | n + 1, f, h => by
    show sm f n + f n = 0
    rw [sm_zero n fun i hi => h i (Nat.lt_succ_of_lt hi), h n (Nat.lt_succ_self n), Rat.add_zero]
theorem sm_unit {i : Nat} {g : Nat → Rat} : ∀ {n : Nat}, i < n → sm (fun j => unit i j * g j) n = g i
  | 0, h => absurd h (Nat.not_lt_zero _)
  | n + 1, h => by
    show sm (fun j => unit i j * g j) n + unit i n * g n = g i
    rcases Nat.lt_or_ge i n with k | k
    · rw [sm_unit k]
      unfold unit
      rw [if_neg (by omega), Rat.zero_mul, Rat.add_zero]
    · obtain rfl : i = n := by omega
      rw [sm_zero]
      · unfold unit
        rw [if_pos rfl, Rat.one_mul, Rat.zero_add]
      · intro j hj
        unfold unit
        rw [if_neg (by omega), Rat.zero_mul]
/-- a row that comes from others by its shares -/
structure Der (m : Nat) (C : Nat → Nat → Rat) (B : Nat → Rat) (K : Nat → Kd) (n : Nat) (r : Rr) : Prop where
  len : r.c.length = n
  co : ∀ j, at0 r.c j = sm (fun i => r.sh i * C i j) m
  bo : r.b = sm (fun i => r.sh i * B i) m
  eq0 : r.k = .eq → ∀ i, K i ≠ .eq → r.sh i = 0
  pos : r.k ≠ .eq → ∀ i, K i ≠ .eq → 0 ≤ r.sh i
  str : r.k = .mo → ∃ i, i < m ∧ K i = .mo ∧ 0 < r.sh i
section
variable {m : Nat} {C : Nat → Nat → Rat} {B : Nat → Rat} {K : Nat → Kd} {n : Nat}
theorem lin_sum {a b : Rat} {f s : Nat → Rat} {g : Nat → Rat} (m : Nat) : sm (fun i => (a * f i + b * s i) * g i) m = a * sm (fun i => f i * g i) m + b * sm (fun i => s i * g i) m := by
  rw [← sm_lin]
  exact sm_congr fun i _ => by grind
theorem der_co {a b : Rat} {f s : Rr} (k : Kd) (h1 : Der m C B K n f) (h2 : Der m C B K n s) (j : Nat) : at0 (mix a f b s k).c j = sm (fun i => (mix a f b s k).sh i * C i j) m := by
  show at0 (List.zipWith _ f.c s.c) j = sm (fun i => (a * f.sh i + b * s.sh i) * C i j) m
  rw [at0_zip _ _ (h1.len.trans h2.len.symm), lin_sum, h1.co, h2.co]
theorem der_bo {a b : Rat} {f s : Rr} (k : Kd) (h1 : Der m C B K n f) (h2 : Der m C B K n s) : (mix a f b s k).b = sm (fun i => (mix a f b s k).sh i * B i) m := by
  show a * f.b + b * s.b = sm (fun i => (a * f.sh i + b * s.sh i) * B i) m
  rw [lin_sum, h1.bo, h2.bo]
theorem der_wov {e r : Rr} {i : Nat} (h1 : Der m C B K n r) (h2 : Der m C B K n e) (ek : e.k = .eq) : Der m C B K n (wov e i r) := by
  have hs : ∀ i', K i' ≠ .eq → (wov e i r).sh i' = r.sh i' := fun i' h => by
    show 1 * r.sh i' + _ * e.sh i' = r.sh i'
    rw [h2.eq0 ek i' h]
    grind
  refine ⟨mix_len h1.len h2.len, der_co _ h1 h2, der_bo _ h1 h2, fun hk i' h => ?_, fun hk i' h => ?_, fun hk => ?_⟩
  · rw [hs i' h]
    exact h1.eq0 hk i' h
  · rw [hs i' h]
    exact h1.pos hk i' h
  · obtain ⟨i', a, b, c⟩ := h1.str hk
    refine ⟨i', a, b, ?_⟩
    rw [hs i' (by rw [b]; decide)]
    exact c
theorem der_sumd {p f : Rr} {i : Nat} (h1 : Der m C B K n p) (h2 : Der m C B K n f) (p0 : 0 < at0 p.c i) (f0 : at0 f.c i < 0) (pk : p.k ≠ .eq) (fk : f.k ≠ .eq) : Der m C B K n (sumd i p f) := by
  have a0 : 0 < 1 / at0 p.c i := by
    rw [Rat.div_def, Rat.one_mul]
    exact Rat.inv_pos.mpr p0
  have b0 : 0 < -(1 / at0 f.c i) := by
    rw [Rat.div_def, Rat.one_mul]
    have h3 : 0 < -(at0 f.c i) := by grind
    have h4 := Rat.inv_pos.mpr h3
    have h5 : (-(at0 f.c i))⁻¹ = -(at0 f.c i)⁻¹ := by grind
    grind
  have hn : (sumd i p f).k ≠ .eq := by
    show (if p.k = .mo ∨ f.k = .mo then Kd.mo else Kd.ls) ≠ .eq
    split <;> decide
  have hp : ∀ i', K i' ≠ .eq → 0 ≤ 1 / at0 p.c i * p.sh i' ∧ 0 ≤ -(1 / at0 f.c i) * f.sh i' := fun i' h =>
    ⟨Rat.mul_nonneg (Rat.le_of_lt a0) (h1.pos pk i' h), Rat.mul_nonneg (Rat.le_of_lt b0) (h2.pos fk i' h)⟩
  refine ⟨mix_len h1.len h2.len, der_co _ h1 h2, der_bo _ h1 h2, fun hk => absurd hk hn, fun _ i' h => ?_, fun hk => ?_⟩
  · show 0 ≤ 1 / at0 p.c i * p.sh i' + -(1 / at0 f.c i) * f.sh i'
    have := hp i' h
    grind
  · have g : p.k = .mo ∨ f.k = .mo := by
      rcases Classical.em (p.k = .mo ∨ f.k = .mo) with g | g
      · exact g
      · have hk2 : (if p.k = .mo ∨ f.k = .mo then Kd.mo else Kd.ls) = .mo := hk
        rw [if_neg g] at hk2
        cases hk2
    rcases g with g | g
    · obtain ⟨i', a, b, c⟩ := h1.str g
      refine ⟨i', a, b, ?_⟩
      show 0 < 1 / at0 p.c i * p.sh i' + -(1 / at0 f.c i) * f.sh i'
      have := hp i' (by rw [b]; decide)
      have := Rat.mul_pos a0 c
      grind
    · obtain ⟨i', a, b, c⟩ := h2.str g
      refine ⟨i', a, b, ?_⟩
      show 0 < 1 / at0 p.c i * p.sh i' + -(1 / at0 f.c i) * f.sh i'
      have := hp i' (by rw [b]; decide)
      have := Rat.mul_pos b0 c
      grind
theorem stg_der : ∀ (i : Nat) (rows : List Rr), (∀ r ∈ rows, Der m C B K n r) → ∀ r ∈ (stg i rows).2, Der m C B K n r
  | 0, rows, h => h
  | i + 1, rows, h => stg_der i (need n0 (elimR rows i)) fun r hr =>
    elim_all (P := Der m C B K n) h (fun e he ek _ r hr => der_wov (h r hr) (h e he) ek) (fun p hp f hf p0 f0 pk fk => der_sumd (h p hp) (h f hf) p0 f0 pk fk) r (need_sub _ _ r hr)
end
theorem stg_wf {n : Nat} : ∀ (i : Nat) (rows : List Rr), (∀ r ∈ rows, WF n i r) → ∀ r ∈ (stg i rows).2, WF n 0 r
  | 0, _, h => h
  | i + 1, rows, h => stg_wf i (need n0 (elimR rows i)) (elim_wf h)
def cO (rows : List Ro3) (i j : Nat) : Rat := match rows[i]? with
  | some x => at0 x.c j
  | none => 0
def bO (rows : List Ro3) (i : Nat) : Rat := match rows[i]? with
  | some x => x.b
  | none => 0
def kO (rows : List Ro3) (i : Nat) : Kd := match rows[i]? with
  | some x => x.k
  | none => .eq
/-- what the multipliers show -/
structure Wit (rows : List Ro3) (n : Nat) (u : Nat → Rat) : Prop where
  pos : ∀ i, i < rows.length → kO rows i ≠ .eq → 0 ≤ u i
  co : ∀ j, sm (fun i => u i * cO rows i j) rows.length = 0
  plain : (∀ i, i < rows.length → kO rows i ≠ .eq → ¬ 0 < u i) → sm (fun i => u i * bO rows i) rows.length ≠ 0
  more : (∃ i, i < rows.length ∧ kO rows i ≠ .eq ∧ 0 < u i) → 0 < sm (fun i => u i * bO rows i) rows.length ∨ (sm (fun i => u i * bO rows i) rows.length = 0 ∧ ∃ i, i < rows.length ∧ kO rows i = .mo ∧ 0 < u i)
theorem start_der {rows : List Ro3} {n : Nat} (hl : ∀ x ∈ rows, x.c.length = n) : ∀ r ∈ start rows, Der rows.length (cO rows) (bO rows) (kO rows) n r := by
  intro r hr
  obtain ⟨i, x, hi, rfl⟩ := base_mem (need_sub _ _ r hr)
  have hi2 : i < rows.length := (List.getElem?_eq_some_iff.mp hi).1
  refine ⟨hl x (List.mem_of_getElem? hi), fun j => ?_, ?_, fun hk i' h => ?_, fun hk i' h => ?_, fun hk => ⟨i, hi2, ?_, ?_⟩⟩
  · show at0 x.c j = sm (fun i' => unit i i' * cO rows i' j) rows.length
    rw [sm_unit (g := fun i' => cO rows i' j) hi2]
    unfold cO
    rw [hi]
  · show x.b = sm (fun i' => unit i i' * bO rows i') rows.length
    rw [sm_unit hi2]
    unfold bO
    rw [hi]
  · show unit i i' = 0
    unfold unit
    by_cases g : i' = i
    · subst g
      unfold kO at h
      rw [hi] at h
      exact absurd hk h
    · rw [if_neg g]
  · show 0 ≤ unit i i'
    unfold unit
    split <;> decide
  · unfold kO
    rw [hi]
    exact hk
  · show 0 < unit i i
    unfold unit
    rw [if_pos rfl]
    decide
theorem solF_wit {rows : List Ro3} {n : Nat} {us : List Rat} (hl : ∀ x ∈ rows, x.c.length = n) (h : solF rows n = .inl us) : ∃ r : Rr, r ∈ (stg n (start rows)).2 ∧ us = (List.range rows.length).map r.sh ∧ Wit rows n r.sh := by
  unfold solF at h
  cases e : (stg n (start rows)).2.find? (bad n) with
  | none => rw [e] at h; cases h
  | some r =>
    rw [e] at h
    have h1 := List.mem_of_find?_eq_some e
    have h2 := bad_ok.mp (List.find?_some e)
    have h3 := stg_der n (start rows) (start_der hl) r h1
    have h4 := stg_wf n (start rows) (base_wf hl) r h1
    refine ⟨r, h1, (Sum.inl.inj h).symm, ?_⟩
    rw [ok_zeros] at h2
    unfold Rr.ok at h2
    rw [dt_nil2] at h2
    have hb := h3.bo
    refine ⟨fun i hi hk => ?_, fun j => (h3.co j).symm.trans (h4.zer j (Nat.zero_le _)), fun hp => ?_, fun ⟨i, hi, hk, h0⟩ => ?_⟩
    · cases ek : r.k with
      | eq =>
        rw [h3.eq0 ek i hk]
        exact Rat.le_refl
      | ls => exact h3.pos (by rw [ek]; decide) i hk
      | mo => exact h3.pos (by rw [ek]; decide) i hk
    · rw [← hb]
      cases ek : r.k with
      | eq =>
        rw [ek] at h2
        exact fun z => h2 z.symm
      | ls =>
        rw [ek] at h2
        have h5 : ¬ r.b ≤ 0 := h2
        grind
      | mo =>
        obtain ⟨i, hi, hk, h0⟩ := h3.str ek
        exact absurd h0 (hp i hi (by rw [hk]; decide))
    · rw [← hb]
      cases ek : r.k with
      | eq =>
        rw [h3.eq0 ek i hk] at h0
        exact absurd h0 (by decide)
      | ls =>
        rw [ek] at h2
        have h5 : ¬ r.b ≤ 0 := h2
        exact .inl (by grind)
      | mo =>
        rw [ek] at h2
        have h5 : ¬ r.b < 0 := h2
        by_cases h6 : r.b = 0
        · exact .inr ⟨h6, h3.str ek⟩
        · exact .inl (by grind)
end

section
open PySem.Spec PyProof.Rows
def nkr (r : Rat) : NestedKey := .tup [.num r.num, .num (r.den : Int)]
def nkl (l : List Rat) : NestedKey := .tup (l.map nkr)
theorem nkr_inj {r s : Rat} (h : nkr r = nkr s) : r = s := by
  unfold nkr at h
  injection h with h
  injection h with h1 h2
  injection h2 with h2 _
  injection h1 with h1
  injection h2 with h2
  exact Rat.ext h1 (by omega)
theorem nkm_inj : ∀ {l m : List Rat}, l.map nkr = m.map nkr → l = m
  | [], [], _ => rfl
  | [], _ :: _, h => by cases h
  | _ :: _, [], h => by cases h
  | x :: l, y :: m, h => by
    rw [List.map_cons, List.map_cons] at h
    injection h with h1 h2
    rw [nkr_inj h1, nkm_inj h2]
theorem nkl_inj {l m : List Rat} (h : nkl l = nkl m) : l = m := by
  unfold nkl at h
  injection h with h
  exact nkm_inj h
/-- a tuple of fractions -/
def FT (K : PySem.W.Frag) (H : Hp) (b : Addr) (l : List Rat) : Prop := ∃ ws, SqT K H b (fr ws) ∧ Rx K H ws ∧ ws.map (·.2) = l
theorem FT.up {K : PySem.W.Frag} {H H' : Hp} {b : Addr} {l : List Rat} (s : Same H H') (h : FT K H b l) : FT K H' b l := by
  obtain ⟨ws, h1, h2, h3⟩ := h
  exact ⟨ws, same_tup s h1, h2.same s, h3⟩
section
variable {X : Cx} {pins : List (Addr × Obj)} {σ : L2.St} {H : Hp} {s : Shared}
theorem fx_nested (I : Inv X pins σ H s) {a : Addr} {r : Rat} (h : Fx X.K H a r) : NestedIs s.heap (nkr r) (.ref a) := by
  obtain ⟨its, rv, ⟨o, e, hc, n, hd⟩, _⟩ := I.tuple h
  cases rv with
  | cons r1 rv =>
    cases rv with
    | cons r2 rv =>
      cases rv
      obtain ⟨t1, rfl⟩ := r1
      obtain ⟨t2, rfl⟩ := r2
      exact .tup e hc hd (.cons (.int _ _) (.cons (.int _ _) .nil))
theorem rx_nested (I : Inv X pins σ H s) : ∀ {ws : List (Addr × Rat)} {us : List Value}, Rx X.K H ws → Vals (fr ws) us → NestedAll s.heap ((ws.map (·.2)).map nkr) us
  | [], _, _, h => by
    cases h
    exact .nil
  | w :: ws, _, hr, h => by
    cases h with
    | cons h1 h2 =>
      cases (show _ = Value.ref w.1 from h1)
      exact .cons (fx_nested I (hr w List.mem_cons_self)) (rx_nested I (fun x hx => hr x (List.mem_cons_of_mem _ hx)) h2)
theorem nkr_depth (r : Rat) : (nkr r).depth = 1 := by
  unfold nkr
  simp [NestedKey.depth, NestedKey.depthAll]
theorem nkm_depth (l : List Rat) : NestedKey.depthAll (l.map nkr) ≤ 1 := by
  induction l with
  | nil => simp [NestedKey.depthAll]
  | cons x l ih =>
    rw [List.map_cons, NestedKey.depthAll, nkr_depth]
    omega
theorem FT.key (I : Inv X pins σ H s) {b : Addr} {l : List Rat} (h : FT X.K H b l) : (nestedKind X.prog X.w).is s.heap (nkl l) b := by
  obtain ⟨ws, h1, h2, rfl⟩ := h
  obtain ⟨its, rv, ⟨o, e, hc, n, hd⟩, _⟩ := I.tuple h1
  refine ⟨.tup e hc hd (by simpa using rx_nested I h2 rv), ?_⟩
  unfold nkl
  rw [NestedKey.depth]
  have := nkm_depth (ws.map (·.2))
  omega
end
/-- a dict whose keys are tuples of fractions: the key, where its tuple stands, the value -/
abbrev NL := List (List Rat × Addr × V)
def NDat (P : Program) (w : World) (a : Addr) (L : NL) (h : Heap) : Prop := L.length ≤ sizeLine ∧ (a == sysModules) = false ∧ ∃ xs : List (NestedKey × Addr × Value), Paired (fun (p : List Rat × Addr × V) (q : NestedKey × Addr × Value) => q.1 = nkl p.1 ∧ q.2.1 = p.2.1 ∧ RelV p.2.2 q.2.2) L xs ∧
  ∃ o es ep, h.get? a = some o ∧ o.ExactDict ∧ o.data = .dict es ep ∧ es.toList = xs.map (entryOfKey (nestedKind P w)) ∧ (xs.map (·.1)).Nodup
def ND (P : Program) (w : World) (a : Addr) (L : NL) : HO := .ext (NDat P w a L)
def lkL (L : NL) (l : List Rat) : Option V := (L.find? fun p => decide (p.1 = l)).map (·.2.2)
def putL (L : NL) (l : List Rat) (b : Addr) (v : V) : NL := if (lkL L l).isSome then L.map (fun p => if p.1 = l then (p.1, p.2.1, v) else p) else L ++ [(l, b, v)]
theorem NDat.ok {P : Program} {w : World} {H : Hp} {h : Heap} {a : Addr} {L : NL} (R : NDat P w a L h) : ObjOk P w H h a (ND P w a L) := by
  have R2 := R
  obtain ⟨_, _, xs, _, o, es, ep, e, _⟩ := R2
  refine ⟨R, ⟨o, e⟩, fun h1 h2 p k => ?_⟩
  obtain ⟨z, y, xs, r, o, es, ep, e, q⟩ := p
  exact ⟨z, y, xs, r, o, es, ep, k o e, q⟩
section
variable {X : Cx} {pins : List (Addr × Obj)} {σ : L2.St} {H : Hp} {s : Shared} {a : Addr} {L : NL}
theorem nd_keys (I : Inv X pins σ H s) {xs : List (NestedKey × Addr × Value)} (r : Paired (fun (p : List Rat × Addr × V) (q : NestedKey × Addr × Value) => q.1 = nkl p.1 ∧ q.2.1 = p.2.1 ∧ RelV p.2.2 q.2.2) L xs) (hk : ∀ p ∈ L, FT X.K H p.2.1 p.1) : ∀ x ∈ xs, (nestedKind X.prog X.w).is s.heap x.1 x.2.1 := by
  induction r with
  | nil => exact fun x hx => nomatch hx
  | @cons p q ps qs hq t ih =>
    intro x hx
    rcases List.mem_cons.mp hx with e | hx
    · subst e
      rw [hq.1, hq.2.1]
      exact FT.key I (hk p List.mem_cons_self)
    · exact ih (fun p hp => hk p (List.mem_cons_of_mem _ hp)) x hx
theorem nd_rd (I : Inv X pins σ H s) (e : H a = some (ND X.prog X.w a L)) (hk : ∀ p ∈ L, FT X.K H p.2.1 p.1) : L.length ≤ sizeLine ∧ (a == sysModules) = false ∧ ∃ xs : List (NestedKey × Addr × Value), Paired (fun (p : List Rat × Addr × V) (q : NestedKey × Addr × Value) => q.1 = nkl p.1 ∧ q.2.1 = p.2.1 ∧ RelV p.2.2 q.2.2) L xs ∧ s.heap.DictOfH (nestedKind X.prog X.w) a xs := by
  obtain ⟨⟨z, y, xs, r, o, es, ep, h1, h2, h3, h4, h5⟩, _⟩ := (show ObjOk X.prog X.w H s.heap a (ND X.prog X.w a L) from I.hok a _ e)
  exact ⟨z, y, xs, r, o, es, ep, h1, h2, h3, h4, nd_keys I r hk, h5⟩
theorem nd_val {xs : List (NestedKey × Addr × Value)} (r : Paired (fun (p : List Rat × Addr × V) (q : NestedKey × Addr × Value) => q.1 = nkl p.1 ∧ q.2.1 = p.2.1 ∧ RelV p.2.2 q.2.2) L xs) (l : List Rat) : RelO (lkL L l) ((atKey xs (nkl l)).map (·.2)) := by
  induction r with
  | nil => exact True.intro
  | @cons p q ps qs h t ih =>
    obtain ⟨h1, _, h2⟩ := h
    by_cases e : p.1 = l
    · have a1 : lkL (p :: ps) l = some p.2.2 := by simp [lkL, List.find?_cons, e]
      have a2 : atKey (q :: qs) (nkl l) = some q.2 := by simp [atKey, List.find?_cons, h1, e]
      rw [a1, a2]
      exact h2
    · have e' : ¬ q.1 = nkl l := fun z => e (nkl_inj (h1.symm.trans z))
      have a1 : lkL (p :: ps) l = lkL ps l := by simp [lkL, List.find?_cons, e]
      have a2 : atKey (q :: qs) (nkl l) = atKey qs (nkl l) := by simp [atKey, List.find?_cons, e']
      rw [a1, a2]
      exact ih
theorem nd_repl {xs : List (NestedKey × Addr × Value)} (r : Paired (fun (p : List Rat × Addr × V) (q : NestedKey × Addr × Value) => q.1 = nkl p.1 ∧ q.2.1 = p.2.1 ∧ RelV p.2.2 q.2.2) L xs) (l : List Rat) {v : V} {u : Value} (rv : RelV v u) :
    Paired (fun (p : List Rat × Addr × V) (q : NestedKey × Addr × Value) => q.1 = nkl p.1 ∧ q.2.1 = p.2.1 ∧ RelV p.2.2 q.2.2) (L.map fun p => if p.1 = l then (p.1, p.2.1, v) else p) (xs.map (putAt (nkl l) u)) := by
  induction r with
  | nil => exact .nil
  | @cons p q ps qs h t ih =>
    rw [List.map_cons, List.map_cons]
    refine .cons ?_ ih
    obtain ⟨h1, h2, h3⟩ := h
    unfold putAt
    by_cases e : p.1 = l
    · rw [if_pos e, if_pos (by rw [h1, e])]
      exact ⟨h1, h2, rv⟩
    · rw [if_neg e, if_neg (fun z => e (nkl_inj (h1.symm.trans z)))]
      exact ⟨h1, h2, h3⟩
theorem nd_put {xs : List (NestedKey × Addr × Value)} (r : Paired (fun (p : List Rat × Addr × V) (q : NestedKey × Addr × Value) => q.1 = nkl p.1 ∧ q.2.1 = p.2.1 ∧ RelV p.2.2 q.2.2) L xs) (l : List Rat) (b : Addr) {v : V} {u : Value} (rv : RelV v u) :
    Paired (fun (p : List Rat × Addr × V) (q : NestedKey × Addr × Value) => q.1 = nkl p.1 ∧ q.2.1 = p.2.1 ∧ RelV p.2.2 q.2.2) (putL L l b v) (storedH xs (nkl l) b u) := by
  have e : (lkL L l).isSome = (atKey xs (nkl l)).isSome := by
    rw [(nd_val r l).isSome_eq, Option.isSome_map]
  unfold putL storedH
  rw [e]
  by_cases q : (atKey xs (nkl l)).isSome = true
  · rw [if_pos q, if_pos q]
    exact nd_repl r l rv
  · rw [if_neg q, if_neg q]
    exact Paired.snoc r ⟨rfl, rfl, rv⟩
theorem putL_len (L : NL) (l : List Rat) (b : Addr) (v : V) : (putL L l b v).length ≤ L.length + 1 := by
  unfold putL
  split
  · rw [List.length_map]
    omega
  · rw [List.length_append]
    exact Nat.le_refl _
end
/-- l not in d -/
def rNotInN (X : Cx) : R2 := fun x y H Q => ∃ (b a : Addr) (l : List Rat) (L : NL), x = .ref b ∧ y = .ref a ∧ H a = some (ND X.prog X.w a L) ∧ (∀ p ∈ L, FT X.K H p.2.1 p.1) ∧ FT X.K H b l ∧ Q (.bl (!(lkL L l).isSome)) H
def rIxN (X : Cx) : R2 := fun x y H Q => ∃ (a b : Addr) (l : List Rat) (L : NL) (v : V), x = .ref a ∧ y = .ref b ∧ H a = some (ND X.prog X.w a L) ∧ (∀ p ∈ L, FT X.K H p.2.1 p.1) ∧ FT X.K H b l ∧ lkL L l = some v ∧ Q v H
def rSetN (X : Cx) : V → V → V → Hp → (Hp → Prop) → Prop := fun o i v H Q => ∃ (a b : Addr) (l : List Rat) (L : NL), o = .ref a ∧ i = .ref b ∧ H a = some (ND X.prog X.w a L) ∧ (∀ p ∈ L, FT X.K H p.2.1 p.1) ∧ FT X.K H b l ∧ L.length < sizeLine ∧ Q (upd H a (ND X.prog X.w a (putL L l b v)))
theorem room_n {A : Around} (hu : A.units + 64 < cLine) {P : Program} {w : World} : (nestedKind P w).room A.in1 := by
  show A.units + 1 + 8 < cLine
  omega
theorem op_notIn_nd {X : Cx} (hu : X.A.units + 64 < cLine) : OpR X (compareOp .NotIn) (rNotInN X) := by
  intro pins s σ H x y v u Q I rx ry h
  obtain ⟨b, a, l, L, rfl, rfl, e, hk, hf, q⟩ := h
  cases rx
  cases ry
  obtain ⟨z, hd, xs, r, dd⟩ := nd_rd I e hk
  refine wpAny_notIn_heap (room_n hu) (FT.key I hf) hd dd ?_
  have := (nd_val r l).isSome_eq
  rw [Option.isSome_map] at this
  rw [← this]
  exact ⟨.bl _, H, I.tok _, rfl, q⟩
theorem set_nd {X : Cx} (hu : X.A.units + 64 < cLine) : PSet X (rSetN X) := by
  intro pins s σ H o i v ov iv u Q I ro ri rv h
  obtain ⟨a, b, l, L, rfl, rfl, e, hk, hf, hl, q⟩ := h
  cases ro
  cases ri
  obtain ⟨z, hd, xs, r, dd⟩ := nd_rd I e hk
  have hz : xs.length ≤ sizeLine := by rw [← Paired.length r]; exact z
  refine wpAny_setItem_heap (hsz := hz) (room_n hu) (FT.key I hf) dd fun h' dd' hs => ⟨_, ?_, q⟩
  obtain ⟨ob, es, ep, hq, h2, h3, h4, _, h5⟩ := dd'
  refine d_write I (by rw [e]; exact True.intro) hs ⟨ob, hq⟩ (NDat.ok ⟨?_, hd, _, nd_put r l b rv, ob, es, ep, hq, h2, h3, h4, h5⟩)
  have := putL_len L l b v
  omega
/-- d[l] -/
def tNGet (X : Cx) (td ty : TE) : TE := fun σ H Q => td σ H fun x H1 => ty σ H1 fun y H2 => rIxN X x y H2 Q
theorem pe_nget {X : Cx} {o i : Expr} {pos : Pos} {td ty : TE} (hu : X.A.units + 64 < cLine) (ho : PE X o td) (hi : PE X i ty) (hs : NoSl i) : PE X (.Subscript o i pos) (tNGet X td ty) := by
  refine ⟨fun pins s σ H Q I h => ?_⟩
  refine subD_of PySem.F.slot_dict_getitem.lookup hs (thn (ho.run pins s σ H _ I h) fun u s1 ⟨x, H1, I1, rx, q1⟩ => thn (hi.run pins s1 σ H1 _ I1 q1) fun iv s2 ⟨y, H2, I2, ry, a, b, l, L, v, ex, ey, e, hk, hf, hl, q2⟩ => ?_)
  subst ex ey
  obtain rfl : u = Value.ref a := rx
  obtain rfl : iv = Value.ref b := ry
  obtain ⟨z, hd, xs, r, dd⟩ := nd_rd I2 e hk
  obtain ⟨w', hw, rw'⟩ := RelO.some_of (v := v) (o := (atKey xs (nkl l)).map (·.2)) (by rw [← hl]; exact nd_val r l)
  obtain ⟨p, hp, hp2⟩ := Option.map_eq_some_iff.mp hw
  refine ⟨dd.typeIs, wpAny_getItem_heap (room_n hu) (FT.key I2 hf) dd hp ?_⟩
  rw [hp2]
  exact ⟨v, H2, I2.tok _, rw', q2⟩
/-- {}, to be a dict of such keys -/
def tNNew (X : Cx) : TE := fun _ H Q => ∀ p, H p = none → Q (.ref p) (upd H p (ND X.prog X.w p []))
theorem nd_empty {P : Program} {w : World} {H : Hp} (h : Heap) (hb : sysModules < h.objs.size) : ObjOk P w H (h.push { cls := .type "dict", data := .dict #[] }) h.objs.size (ND P w h.objs.size []) :=
  NDat.ok ⟨Nat.zero_le _, beq_eq_false_iff_ne.mpr (Ne.symm (Nat.ne_of_lt hb)), [], .nil, _, #[], 0, Heap.get?_push_size _ rfl, ⟨rfl, rfl, rfl⟩, rfl, rfl, List.nodup_nil⟩
theorem pe_nnew {X : Cx} {pos : Pos} : PE X (.Dict [] [] pos) (tNNew X) := ⟨fun pins s σ H Q I h =>
  wpAny_Dict_empty ⟨.ref s.heap.objs.size, _, I.laid (a := s.heap.objs.size) (o := ND X.prog X.w s.heap.objs.size []) (t' := s.toks) (fun _ _ q => Heap.get?_push_of_some _ q) (Nat.le_refl _) (nd_empty s.heap I.big), rfl, h _ (I.hok.fresh (Nat.le_refl _))⟩⟩
end

/-- a comprehension with a condition, whose elements are things of a kind: those of L that are some -/
theorem lc_sel {α : Type} (Rel : Hp → Addr → α → Prop) (up : ∀ {H H' t x}, Same H H' → Rel H t x → Rel H' t x) (over : ∀ {H H' t D x ys}, Rel H t x → H D = some (.lst ys) → (∀ b o, b ≠ D → H b = some o → H' b = some o) → Rel H' t x)
    {J : It} {n : Nat} {G : Hp → Prop} {Y : Nat → Hp → V → Hp → Prop} (w : Walk J n G Y) (L : List (Option α)) (hL : L.length = n) (hz : n ≤ 1000)
    {g : TG} {tt : TT} {te : TE} {vs : List Nat} {σ : L2.St} {H1 : Hp} {D : Addr} {Qd : Hp → Prop} (hD : H1 D = none) (hG : ∀ H, Same H1 H → G H)
    (hs : ∀ i c x H H' (kk : V → Hp → Prop) (kn : Hp → Prop), L[i]? = some c → Same H1 H → Y i H x H' → (∀ r, c = some r → ∀ t H4, Same H H4 → Rel H4 t r → kk (.ref t) H4) → (c = none → ∀ H4, Same H H4 → kn H4) → g x (wipe σ vs) H' fun σ2 H2 => wipe σ2 vs = wipe σ vs ∧ tt σ2 H2 fun b H3 => if b = true then te σ2 H3 kk else kn H3)
    (hd : ∀ H (ws : List (Addr × α)), Same H1 H → H D = some (.lst (ws.map fun w => .ref w.1)) → (∀ w ∈ ws, Rel H w.1 w.2) → ws.map (·.2) = L.filterMap id → Qd H) :
    ∃ W : Nat → Nat → Hp → Prop, (∃ m, W 0 m (upd H1 D (.lst []))) ∧ ∀ i m H, W i m H →
      (J.stop i H ∧ Qd H) ∨ (J.go i H ∧ ∃ Nx : Hp → Prop, (∀ H', Nx H' → ∃ m', m' < m ∧ W (i + 1) m' H') ∧ ∀ x H', J.yld i H x H' → g x (wipe σ vs) H' fun σ2 H2 => wipe σ2 vs = wipe σ vs ∧ tt σ2 H2 fun b H3 =>
        if b = true then te σ2 H3 fun y H4 => ∃ acc, H4 D = some (.lst acc) ∧ acc.length < sizeLine ∧ Nx (upd H4 D (.lst (acc ++ [y]))) else Nx H3) := by
  subst hL
  refine lc_it w (fun i H => Same H1 H ∧ ∃ ws : List (Addr × α), H D = some (.lst (ws.map fun w => .ref w.1)) ∧ (∀ w ∈ ws, Rel H w.1 w.2) ∧ ws.map (·.2) = (L.take i).filterMap id ∧ ws.length ≤ i) ⟨same_upd hD, [], upd_same, (fun _ z => nomatch z), rfl, Nat.le_refl _⟩ (fun i H _ h => hG H h.1) ?_ ?_
  · rintro i x H H' hi ⟨s1, ws, e1, r1, m1, l1⟩ y
    have hr : L[i]? = some L[i] := List.getElem?_eq_getElem hi
    have tk : (L.take (i + 1)).filterMap id = (L.take i).filterMap id ++ [L[i]].filterMap id := by
      rw [List.take_add_one, hr, List.filterMap_append]
      rfl
    refine hs i L[i] x H H' _ _ hr s1 y (fun r hc t H4 s4 f4 => ?_) (fun hc H4 s4 => ?_)
    · have e4 := s4 _ _ e1
      refine ⟨_, e4, ?_, fun b o e => ?_, ws ++ [(t, r)], ?_, fun v hv => ?_, ?_, ?_⟩
      · rw [List.length_map]
        exact small1000 (by omega)
      · rw [upd_ne (ne_of_none e hD)]
        exact s4 _ _ (s1 _ _ e)
      · rw [upd_same, List.map_append]
        rfl
      · rcases List.mem_append.mp hv with h | h
        · exact over (up s4 (r1 v h)) e4 fun b o hb e => by rw [upd_ne hb]; exact e
        · rw [List.mem_singleton.mp h]
          exact over f4 e4 fun b o hb e => by rw [upd_ne hb]; exact e
      · rw [List.map_append, m1, tk, hc]
        rfl
      · rw [List.length_append]
        exact Nat.succ_le_succ l1
    · refine ⟨s1.trans s4, ws, s4 _ _ e1, fun w hw => up s4 (r1 w hw), ?_, Nat.le_succ_of_le l1⟩
      rw [tk, m1, hc]
      exact (List.append_nil _).symm
  · rintro H ⟨s1, ws, e1, r1, m1, _⟩
    rw [List.take_length] at m1
    exact hd H ws s1 e1 r1 m1

section
open PySem.Spec PyProof.Rows
/-- name = {..} on one line, the name a local -/
theorem ps_setDc {X : Cx} {i : Nat} {yn : Str} {pn : Pos} {kx vx tgt itr : Expr} {cnd : List Expr} {sco : Scope} {own : List (Str × Nat)} {po spo : Pos} {wi : TI} {g : TG} {tt : TT} {tk tv : TE} (hc : X.calm = true) (hN : X.N.Nodup) (hy : X.N[i]? = some yn) (hyl : X.env.scope.names.lookup yn = some .local)
    (hsw : swapsWith (.DictComp kx vx [⟨tgt, itr, cnd, 0⟩] sco po) (some (.Name yn pn)) spo.line X.env = pure true) (hi : PI X tgt itr wi) (ok : BlkOk X.N X.env.scope sco own)
    (hg : ∀ (t : Shared) (H : Hp) (C : Addr) (cl : List (Str × Addr)) (fp : List Addr), PG (X.blk t H sco (compEnvC sco cl C X.env) fp) tgt g) (ht : ∀ (t : Shared) (H : Hp) (C : Addr) (cl : List (Str × Addr)) (fp : List Addr), PTs (X.blk t H sco (compEnvC sco cl C X.env) fp) cnd tt)
    (hk : ∀ (t : Shared) (H : Hp) (C : Addr) (cl : List (Str × Addr)) (fp : List Addr), PE (X.blk t H sco (compEnvC sco cl C X.env) fp) kx tk)
    (he : ∀ (t : Shared) (H : Hp) (C : Addr) (cl : List (Str × Addr)) (fp : List Addr), PE (X.blk t H sco (compEnvC sco cl C X.env) fp) vx tv) (hs : ∀ x, foldedSetIterable itr X.env x = pure x := by intro _; rfl) :
    PS X (.Assign [.Name yn pn] (.DictComp kx vx [⟨tgt, itr, cnd, 0⟩] sco po) spo) (tAsg (tDc wi g tt tk tv (own.map (·.2))) (gName i)) := by
  refine ⟨fun pins s σ H D I hq0 => ?_⟩
  rw [exec_Assign_Name_used _ _ _ _ hsw]
  refine wpAny_bind (wpAny_standAt (wpAny_bind ?_))
  show wpAny _ X.A (do let _ ← comprehension (.DictComp kx vx [⟨tgt, itr, cnd, 0⟩] sco po) sco X.env (firstIterPos [⟨tgt, itr, cnd, 0⟩] po) newDict false (eval itr X.env) (some (assign (.Name yn pn) X.env))) _ _ s
  have hq1 : tDc wi g tt tk tv (own.map (·.2)) σ H (fun x H1 => gName i x σ H1 D.nx) := hq0
  refine wpAny_bind (thn (dc_core (Qf := fun _ s' => SP X pins D .next s') hc hN I hi ok hg ht hk he hs hq1 fun L C t' m H' I' q hn f => ?_) fun _ t' hq => wpAny_pure (wpAny_pure hq))
  show wpAny _ _ (assign (.Name yn pn) X.env (.ref L)) _ _ _
  refine wpAny_assign_Name (store_ok2 (v := V.ref L) I' hN hy (.inl hyl) rfl (fun t2 I2 ⟨a, sb, ha⟩ => ?_) (.inr hyl))
  obtain ⟨q0, q1, q2, q3, q4, q5⟩ := f
  refine ⟨m, hn.sameBut sb (ha.elim (fun z => by rw [z]; exact q1) fun z e => q4 yn a z e.symm), fun h3 sb3 => ?_⟩
  exact ⟨_, H', I2.turned (t' := t2.toks) (fun b o hb e => (sb3.2 b hb).trans e) q0 q1 q3 q4 q5, q⟩
theorem sw_trueD {kx vx : Expr} {cs : List Comprehension} {sco : Scope} {po pn : Pos} {yn : Str} {ln : Nat} {en : Env} (hk : en.scope.kind = .function) (hy : en.scope.names.lookup yn = some .local) (hl : (pn.line == po.line) = true)
    (ha : (sco.names.any fun (n, k) => n == yn && (k == .local || k == .cell)) = false) : swapsWith (.DictComp kx vx cs sco po) (some (.Name yn pn)) ln en = pure true := by
  have ky : en.kindOf yn = some .local := hy
  have hb : en.blockKind = .function := by unfold Env.blockKind; rw [hk]; rfl
  unfold swapsWith
  simp only [hb, ky, ha, Expr.pos, hl]
  rfl
end

section
def kS : Kd → Str
  | .eq => "equal"
  | .ls => "least"
  | .mo => "more"
theorem kS_eq (k : Kd) : decide (V.str (kS k) = V.str "equal") = decide (k = .eq) := by cases k <;> decide +kernel
theorem kS_mo (k : Kd) : decide (V.str (kS k) = V.str "more") = decide (k = .mo) := by cases k <;> decide +kernel
theorem kS_ls (k : Kd) : decide (V.str (kS k) = V.str "least") = decide (k = .ls) := by cases k <;> decide +kernel
def okB (k : Kd) (b l : Rat) : Bool := match k with
  | .eq => decide (l = b)
  | .ls => decide (b ≤ l)
  | .mo => decide (b < l)
theorem okB_ok {k : Kd} {b l : Rat} : okB k b l = true ↔ okK k b l := by
  unfold okB okK
  cases k <;> simp
/-- a row of fractions in a list that is read -/
def RowL (K : PySem.W.Frag) (H : Hp) (u : Addr) (r : List Rat) : Prop := ∃ ws, SqL K H u (fr ws) ∧ Rx K H ws ∧ ws.map (·.2) = r
theorem RowL.up {K : PySem.W.Frag} {H H' : Hp} {u : Addr} {r : List Rat} (s : Same H H') (h : RowL K H u r) : RowL K H' u r := by
  obtain ⟨ws, h1, h2, h3⟩ := h
  exact ⟨ws, s.seq h1, h2.same s, h3⟩
theorem RowAt.l {K : PySem.W.Frag} {H : Hp} {u : Addr} {r : List Rat} (h : RowAt K H u r) : RowL K H u r := by
  obtain ⟨ws, h1, h2, h3⟩ := h
  exact ⟨ws, SqL.of h1, h2, h3⟩
theorem rowL_at {K : PySem.W.Frag} {H : Hp} {r : List Rat} {ws : List (Addr × Rat)} (h2 : Rx K H ws) (h3 : ws.map (·.2) = r) {k : Nat} (hk : k < r.length) : ∃ a, (fr ws)[k]? = some (.ref a) ∧ Fx K H a (at0 r k) ∧ at0 r k ∈ r := RowAt.get h2 h3 hk
/-- the shares of a row: a dict by places -/
def sk (ks : List (Nat × Addr)) : List (Key × V) := ks.map fun p => (Sum.inl (p.1 : Int), V.ref p.2)
def ShAt (K : PySem.W.Frag) (H : Hp) (d : Addr) (f : Nat → Rat) (N : Nat) : Prop := ∃ ks : List (Nat × Addr), H d = some (.dK (sk ks)) ∧ (∀ p ∈ ks, Fx K H p.2 (f p.1)) ∧ (∀ i, i ∉ ks.map (·.1) → f i = 0) ∧ (ks.map (·.1)).Nodup ∧ ks.length ≤ N
def RXl (K : PySem.W.Frag) (N : Nat) (H : Hp) (t : Addr) (r : Rr) (l : Addr) : Prop := ∃ o d, SqT K H t [.ref l, .ref o, .str (kS r.k), .ref d] ∧ RowAt K H l r.c ∧ Fx K H o r.b ∧ ShAt K H d r.sh N
def RX (K : PySem.W.Frag) (N : Nat) (H : Hp) (t : Addr) (r : Rr) : Prop := ∃ l, RXl K N H t r l
/-- a row whose list is new -/
def RXn (K : PySem.W.Frag) (N : Nat) (H0 H : Hp) (t : Addr) (r : Rr) : Prop := ∃ l, H0 l = none ∧ RXl K N H t r l
/-- a row whose list is another one than that at D -/
def RXD (K : PySem.W.Frag) (N : Nat) (D : Addr) (H : Hp) (t : Addr) (r : Rr) : Prop := ∃ l, l ≠ D ∧ RXl K N H t r l
theorem ShAt.up {K : PySem.W.Frag} {H H' : Hp} {d : Addr} {f : Nat → Rat} {N : Nat} (s : Same H H') (h : ShAt K H d f N) : ShAt K H' d f N := by
  obtain ⟨ks, h1, h2, h3⟩ := h
  exact ⟨ks, s _ _ h1, fun p hp => (h2 p hp).same s, h3⟩
theorem ShAt.mono {K : PySem.W.Frag} {H : Hp} {d : Addr} {f : Nat → Rat} {N M : Nat} (h : ShAt K H d f N) (hm : N ≤ M) : ShAt K H d f M := by
  obtain ⟨ks, h1, h2, h3, h4, h5⟩ := h
  exact ⟨ks, h1, h2, h3, h4, by omega⟩
theorem ShAt.over {K : PySem.W.Frag} {H H' : Hp} {d D : Addr} {f : Nat → Rat} {N : Nat} {ys : List V} (h : ShAt K H d f N) (hl : H D = some (.lst ys)) (s : ∀ b o, b ≠ D → H b = some o → H' b = some o) : ShAt K H' d f N := by
  obtain ⟨ks, h1, h2, h3⟩ := h
  refine ⟨ks, s _ _ (fun e => ?_) h1, fun p hp => over_tup (h2 p hp) hl s, h3⟩
  rw [e, hl] at h1
  cases h1
theorem RXl.up {K : PySem.W.Frag} {N : Nat} {H H' : Hp} {t l : Addr} {r : Rr} (s : Same H H') (h : RXl K N H t r l) : RXl K N H' t r l := by
  obtain ⟨o, d, h1, h2, h3, h4⟩ := h
  exact ⟨o, d, same_tup s h1, h2.up s, h3.same s, h4.up s⟩
theorem RXl.mono {K : PySem.W.Frag} {N M : Nat} {H : Hp} {t l : Addr} {r : Rr} (h : RXl K N H t r l) (hm : N ≤ M) : RXl K M H t r l := by
  obtain ⟨o, d, h1, h2, h3, h4⟩ := h
  exact ⟨o, d, h1, h2, h3, h4.mono hm⟩
theorem RXl.over {K : PySem.W.Frag} {N : Nat} {H H' : Hp} {t l D : Addr} {r : Rr} {ys : List V} (h : RXl K N H t r l) (hne : l ≠ D) (hl : H D = some (.lst ys)) (s : ∀ b o, b ≠ D → H b = some o → H' b = some o) : RXl K N H' t r l := by
  obtain ⟨o, d, h1, h2, h3, h4⟩ := h
  exact ⟨o, d, over_tup h1 hl s, h2.over hne hl s, over_tup h3 hl s, h4.over hl s⟩
theorem RX.up {K : PySem.W.Frag} {N : Nat} {H H' : Hp} {t : Addr} {r : Rr} (s : Same H H') (h : RX K N H t r) : RX K N H' t r := by
  obtain ⟨l, h⟩ := h
  exact ⟨l, h.up s⟩
theorem RXD.up {K : PySem.W.Frag} {N : Nat} {D : Addr} {H H' : Hp} {t : Addr} {r : Rr} (s : Same H H') (h : RXD K N D H t r) : RXD K N D H' t r := by
  obtain ⟨l, h0, h⟩ := h
  exact ⟨l, h0, h.up s⟩
theorem RXD.over {K : PySem.W.Frag} {N : Nat} {D : Addr} {H H' : Hp} {t : Addr} {r : Rr} {ys : List V} (h : RXD K N D H t r) (hl : H D = some (.lst ys)) (s : ∀ b o, b ≠ D → H b = some o → H' b = some o) : RXD K N D H' t r := by
  obtain ⟨l, h0, h⟩ := h
  exact ⟨l, h0, h.over h0 hl s⟩
theorem RXl.ne {K : PySem.W.Frag} {N : Nat} {H : Hp} {t l D : Addr} {r : Rr} (h : RXl K N H t r l) (hD : H D = none) : l ≠ D := by
  obtain ⟨o, d, h1, h2, h3, h4⟩ := h
  exact h2.ne hD
theorem RX.D {K : PySem.W.Frag} {N : Nat} {H : Hp} {t D : Addr} {r : Rr} (h : RX K N H t r) (hD : H D = none) : RXD K N D H t r := by
  obtain ⟨l, h⟩ := h
  exact ⟨l, h.ne hD, h⟩
theorem RXn.D {K : PySem.W.Frag} {N : Nat} {H0 H : Hp} {t D : Addr} {r : Rr} {o : HO} (h : RXn K N H0 H t r) (hD : H0 D = some o) : RXD K N D H t r := by
  obtain ⟨l, h0, h⟩ := h
  refine ⟨l, fun e => ?_, h⟩
  rw [e, hD] at h0
  cases h0
theorem RXn.x {K : PySem.W.Frag} {N : Nat} {H0 H : Hp} {t : Addr} {r : Rr} (h : RXn K N H0 H t r) : RX K N H t r := by
  obtain ⟨l, h0, h⟩ := h
  exact ⟨l, h⟩
theorem RXD.x {K : PySem.W.Frag} {N : Nat} {D : Addr} {H : Hp} {t : Addr} {r : Rr} (h : RXD K N D H t r) : RX K N H t r := by
  obtain ⟨l, h0, h⟩ := h
  exact ⟨l, h⟩
/-- a list of rows -/
def RL (K : PySem.W.Frag) (N : Nat) (H : Hp) (u : Addr) (rs : List Rr) : Prop := ∃ ws : List (Addr × Rr), SqL K H u (Ro ws) ∧ (∀ w ∈ ws, RX K N H w.1 w.2) ∧ ws.map (·.2) = rs
theorem RL.up {K : PySem.W.Frag} {N : Nat} {H H' : Hp} {u : Addr} {rs : List Rr} (s : Same H H') (h : RL K N H u rs) : RL K N H' u rs := by
  obtain ⟨ws, h1, h2, h3⟩ := h
  exact ⟨ws, s.seq h1, fun w hw => (h2 w hw).up s, h3⟩
/-- a row whose list is none of those of B -/
def RXQ (K : PySem.W.Frag) (N : Nat) (B : Addr → Prop) (H : Hp) (t : Addr) (r : Rr) : Prop := ∃ l, ¬ B l ∧ RXl K N H t r l
theorem RXQ.up {K : PySem.W.Frag} {N : Nat} {B : Addr → Prop} {H H' : Hp} {t : Addr} {r : Rr} (s : Same H H') (h : RXQ K N B H t r) : RXQ K N B H' t r := by
  obtain ⟨l, h0, h⟩ := h
  exact ⟨l, h0, h.up s⟩
theorem RXQ.over {K : PySem.W.Frag} {N : Nat} {B : Addr → Prop} {D : Addr} {H H' : Hp} {t : Addr} {r : Rr} {ys : List V} (h : RXQ K N B H t r) (hB : B D) (hl : H D = some (.lst ys)) (s : ∀ b o, b ≠ D → H b = some o → H' b = some o) : RXQ K N B H' t r := by
  obtain ⟨l, h0, h⟩ := h
  exact ⟨l, h0, h.over (fun e => h0 (by rw [e]; exact hB)) hl s⟩
theorem RXQ.x {K : PySem.W.Frag} {N : Nat} {B : Addr → Prop} {H : Hp} {t : Addr} {r : Rr} (h : RXQ K N B H t r) : RX K N H t r := by
  obtain ⟨l, h0, h⟩ := h
  exact ⟨l, h⟩
theorem RXQ.mono {K : PySem.W.Frag} {N M : Nat} {B : Addr → Prop} {H : Hp} {t : Addr} {r : Rr} (h : RXQ K N B H t r) (hm : N ≤ M) : RXQ K M B H t r := by
  obtain ⟨l, h0, h⟩ := h
  exact ⟨l, h0, h.mono hm⟩
theorem RXQ.more {K : PySem.W.Frag} {N : Nat} {B : Addr → Prop} {D : Addr} {H : Hp} {t : Addr} {r : Rr} (h : RXQ K N B H t r) (hD : H D = none) : RXQ K N (fun l => l = D ∨ B l) H t r := by
  obtain ⟨l, h0, h⟩ := h
  exact ⟨l, fun e => e.elim (h.ne hD) h0, h⟩
theorem RXQ.less {K : PySem.W.Frag} {N : Nat} {B : Addr → Prop} {D : Addr} {H : Hp} {t : Addr} {r : Rr} (h : RXQ K N (fun l => l = D ∨ B l) H t r) : RXQ K N B H t r := by
  obtain ⟨l, h0, h⟩ := h
  exact ⟨l, fun e => h0 (.inr e), h⟩
theorem RX.Q {K : PySem.W.Frag} {N : Nat} {H : Hp} {t D : Addr} {r : Rr} (h : RX K N H t r) (hD : H D = none) : RXQ K N (fun l => l = D) H t r := by
  obtain ⟨l, h⟩ := h
  exact ⟨l, h.ne hD, h⟩
theorem RXn.Q {K : PySem.W.Frag} {N : Nat} {B : Addr → Prop} {H0 H : Hp} {t : Addr} {r : Rr} (h : RXn K N H0 H t r) (hB : ∀ a, B a → ∃ o, H0 a = some o) : RXQ K N B H t r := by
  obtain ⟨l, h0, h⟩ := h
  refine ⟨l, fun e => ?_, h⟩
  obtain ⟨o, e2⟩ := hB l e
  rw [h0] at e2
  cases e2
/-- a list of rows that may still grow -/
def RG (K : PySem.W.Frag) (N : Nat) (B : Addr → Prop) (H : Hp) (u : Addr) (rs : List Rr) : Prop := ∃ ws : List (Addr × Rr), H u = some (.lst (Ro ws)) ∧ (∀ w ∈ ws, RXQ K N (fun l => l = u ∨ B l) H w.1 w.2) ∧ ws.map (·.2) = rs
theorem RG.up {K : PySem.W.Frag} {N : Nat} {B : Addr → Prop} {H H' : Hp} {u : Addr} {rs : List Rr} (s : Same H H') (h : RG K N B H u rs) : RG K N B H' u rs := by
  obtain ⟨ws, h1, h2, h3⟩ := h
  exact ⟨ws, s _ _ h1, fun w hw => (h2 w hw).up s, h3⟩
theorem RG.push {K : PySem.W.Frag} {N : Nat} {B : Addr → Prop} {H : Hp} {u t : Addr} {rs : List Rr} {r : Rr} {ws : List (Addr × Rr)} (h1 : H u = some (.lst (Ro ws))) (h2 : ∀ w ∈ ws, RXQ K N (fun l => l = u ∨ B l) H w.1 w.2) (h3 : ws.map (·.2) = rs) (h : RXQ K N (fun l => l = u ∨ B l) H t r) : RG K N B (upd H u (.lst (Ro ws ++ [.ref t]))) u (rs ++ [r]) := by
  refine ⟨ws ++ [(t, r)], ?_, fun w hw => ?_, by rw [List.map_append, h3]; rfl⟩
  · rw [upd_same]
    unfold Ro
    rw [List.map_append]
    rfl
  · rcases List.mem_append.mp hw with g | g
    · exact (h2 w g).over (.inl rfl) h1 fun b o hb e => by rw [upd_ne hb]; exact e
    · rw [List.mem_singleton.mp g]
      exact h.over (.inl rfl) h1 fun b o hb e => by rw [upd_ne hb]; exact e
/-- bits of a row -/
structure RB (p q s : Nat) (r : Rr) : Prop where
  c : ∀ x ∈ r.c, Bd p x
  b : Bd q r.b
  sh : ∀ i, Bd s (r.sh i)
theorem RB.up {p q s p' q' s' : Nat} {r : Rr} (h : RB p q s r) (h1 : p ≤ p') (h2 : q ≤ q') (h3 : s ≤ s') : RB p' q' s' r :=
  ⟨fun x hx => (h.c x hx).up h1, h.b.up h2, fun i => (h.sh i).up h3⟩
/-- a dict comprehension over a walk -/
theorem dc_it {J : It} {n : Nat} {G : Hp → Prop} {Y : Nat → Hp → V → Hp → Prop} (w : Walk J n G Y) {g : TG} {tt : TT} {tk tv : TE} {vs : List Nat} {σ : L2.St} {H1 : Hp} {D : Addr} {Qd : Hp → Prop} (Pv : Nat → Hp → Prop) (h0 : Pv 0 (upd H1 D (.dK []))) (hG : ∀ i H, i ≤ n → Pv i H → G H)
    (hs : ∀ i x H H', i < n → Pv i H → Y i H x H' → g x (wipe σ vs) H' fun σ2 H2 => wipe σ2 vs = wipe σ vs ∧ tt σ2 H2 fun b H3 =>
      if b = true then tk σ2 H3 fun y H4 => tv σ2 H4 fun z H5 => ∃ kvs k, y = kV k ∧ H5 D = some (.dK kvs) ∧ kvs.length < sizeLine ∧ Pv (i + 1) (upd H5 D (.dK (putK kvs k z))) else Pv (i + 1) H3) (hd : ∀ H, Pv n H → Qd H) :
    ∃ W : Nat → Nat → Hp → Prop, (∃ m, W 0 m (upd H1 D (.dK []))) ∧ ∀ i m H, W i m H →
      (J.stop i H ∧ Qd H) ∨ (J.go i H ∧ ∃ Nx : Hp → Prop, (∀ H', Nx H' → ∃ m', m' < m ∧ W (i + 1) m' H') ∧ ∀ x H', J.yld i H x H' → g x (wipe σ vs) H' fun σ2 H2 => wipe σ2 vs = wipe σ vs ∧ tt σ2 H2 fun b H3 =>
        if b = true then tk σ2 H3 fun y H4 => tv σ2 H4 fun z H5 => ∃ kvs k, y = kV k ∧ H5 D = some (.dK kvs) ∧ kvs.length < sizeLine ∧ Nx (upd H5 D (.dK (putK kvs k z))) else Nx H3) := by
  refine ⟨fun i m H => m = n - i ∧ i ≤ n ∧ Pv i H, ⟨n, by simp, Nat.zero_le _, h0⟩, ?_⟩
  rintro i m H ⟨rfl, hi, p⟩
  have q := hG i H hi p
  by_cases hlt : i < n
  · refine .inr ⟨w.goes i H hlt q, Pv (i + 1), fun H' p' => ⟨n - (i + 1), by omega, rfl, hlt, p'⟩, fun x H' y => hs i x H H' hlt p (w.yields i H x H' hlt q y)⟩
  · have e : i = n := by omega
    subst e
    exact .inl ⟨w.stops H q, hd H p⟩
theorem sk_val (ks : List (Nat × Addr)) (i : Nat) : valV (sk ks) (Sum.inl (i : Int)) = (ks.find? fun p => decide (p.1 = i)).map fun p => V.ref p.2 := by
  unfold sk
  induction ks with
  | nil => rfl
  | cons p ks ih =>
    rw [List.map_cons]
    by_cases e : p.1 = i
    · rw [valV_pos (by rw [e]), List.find?_cons_of_pos (by simp [e])]
      rfl
    · rw [valV_neg (fun z => e (by injection z with z; omega)), ih, List.find?_cons_of_neg (by simp [e])]
theorem sk_mem {ks : List (Nat × Addr)} {p : Nat × Addr} (hn : (ks.map (·.1)).Nodup) (hp : p ∈ ks) : valV (sk ks) (Sum.inl (p.1 : Int)) = some (.ref p.2) := by
  rw [sk_val]
  induction ks with
  | nil => cases hp
  | cons q ks ih =>
    rw [List.map_cons, List.nodup_cons] at hn
    rcases List.mem_cons.mp hp with rfl | hp
    · rw [List.find?_cons_of_pos (by simp)]
      rfl
    · rw [List.find?_cons_of_neg (by
        simp only [decide_eq_true_eq]
        exact fun z => hn.1 (by rw [z]; exact List.mem_map_of_mem hp))]
      exact ih hn.2 hp
theorem sk_none {ks : List (Nat × Addr)} {i : Nat} (h : i ∉ ks.map (·.1)) : valV (sk ks) (Sum.inl (i : Int)) = none := by
  rw [sk_val, List.find?_eq_none.mpr]
  · rfl
  · intro p hp
    simp only [decide_eq_true_eq]
    exact fun z => h (by rw [← z]; exact List.mem_map_of_mem hp)
theorem sk_snoc (ks : List (Nat × Addr)) (p : Nat × Addr) : sk (ks ++ [p]) = sk ks ++ [(Sum.inl (p.1 : Int), V.ref p.2)] := List.map_append
theorem sk_len (ks : List (Nat × Addr)) : (sk ks).length = ks.length := List.length_map _
/-- the value at a place, 0 where there is none -/
theorem ShAt.get {K : PySem.W.Frag} {H : Hp} {f : Nat → Rat} {ks : List (Nat × Addr)} (h2 : ∀ p ∈ ks, Fx K H p.2 (f p.1)) (h3 : ∀ i, i ∉ ks.map (·.1) → f i = 0) (hn : (ks.map (·.1)).Nodup) {z : Addr} (hz : Fx K H z 0) (i : Nat) : ∃ a, ((valV (sk ks) (Sum.inl (i : Int))).getD (.ref z)) = .ref a ∧ Fx K H a (f i) := by
  by_cases e : i ∈ ks.map (·.1)
  · obtain ⟨p, hp, rfl⟩ := List.mem_map.mp e
    rw [sk_mem hn hp]
    exact ⟨p.2, rfl, h2 p hp⟩
  · rw [sk_none e, h3 i e]
    exact ⟨z, rfl, hz⟩
theorem dt_sum : ∀ (c v : List Rat), sumR (List.zipWith (fun a b => a * b) c v) = dt c v
  | [], v => by rw [List.zipWith_nil_left, dt_nil]; rfl
  | x :: c, [] => by rw [List.zipWith_nil_right, dt_nil2]; rfl
  | x :: c, y :: v => by
    rw [List.zipWith_cons_cons, sum_cons, dt, dt_sum c v]
def VB (bs : List Nat) (l : List Rat) : Prop := bs.length = l.length ∧ ∀ i, i < l.length → Bd (bs.getD i 0) (at0 l i)
def bsum (bs : List Nat) : Nat := (bs.map fun b => b + 1).sum
theorem bsum_cons (b : Nat) (bs : List Nat) : bsum (b :: bs) = b + 1 + bsum bs := rfl
theorem bsum_snoc (bs : List Nat) (b : Nat) : bsum (bs ++ [b]) = bsum bs + (b + 1) := by
  unfold bsum
  rw [List.map_append, List.sum_append]
  rfl
theorem bsum_take {bs : List Nat} {i : Nat} (h : i < bs.length) : bsum (bs.take (i + 1)) = bsum (bs.take i) + (bs.getD i 0 + 1) := by
  rw [List.take_add_one, List.getElem?_eq_getElem h, List.getD_eq_getElem?_getD, List.getElem?_eq_getElem h]
  exact bsum_snoc _ _
theorem bsum_le (bs : List Nat) (i : Nat) : bsum (bs.take i) ≤ bsum bs := by
  have e : bsum bs = bsum (bs.take i) + bsum (bs.drop i) := by
    unfold bsum
    rw [← List.sum_append, ← List.map_append, List.take_append_drop]
  omega
theorem psum_bd {bs : List Nat} {l : List Rat} (h : VB bs l) : ∀ i, i ≤ l.length → Bd (1 + bsum (bs.take i)) (sumR (l.take i)) := by
  intro i
  induction i with
  | zero =>
    intro _
    exact bd_zero
  | succ i ih =>
    intro hi
    have e : l[i]? = some l[i] := List.getElem?_eq_getElem (by omega)
    have b1 := ih (by omega)
    have b2 := h.2 i (by omega)
    have e2 : at0 l i = l[i] := by
      unfold at0
      rw [List.getD_eq_getElem?_getD, e]
      rfl
    rw [take_sum e, bsum_take (by rw [h.1]; omega)]
    rw [e2] at b2
    exact (b1.add b2).up (by omega)
theorem mid_div (r s : Rat) : Rat.divInt (r.num * (s.den : Int) + s.num * (r.den : Int)) (2 * (r.den : Int) * (s.den : Int)) = (r + s) / 2 := by
  have q : ∀ r : Rat, (r.num : Rat) / ((r.den : Int) : Rat) = r := fun r => by rw [← Rat.divInt_eq_div, Rat.num_divInt_den]
  have n : ∀ r : Rat, ((r.den : Int) : Rat) ≠ 0 := fun r z => den_ne r (Rat.intCast_inj.mp z)
  have h1 := q r
  have h2 := q s
  have d1 := n r
  have d2 := n s
  rw [Rat.divInt_eq_div]
  simp only [Rat.intCast_add, Rat.intCast_mul]
  generalize (r.num : Rat) = a1 at *
  generalize (s.num : Rat) = a2 at *
  generalize ((r.den : Int) : Rat) = c1 at *
  generalize ((s.den : Int) : Rat) = c2 at *
  subst h1 h2
  have : ((2 : Int) : Rat) = 2 := rfl
  rw [this]
  grind
theorem mid_ne (r s : Rat) : 2 * (r.den : Int) * (s.den : Int) ≠ 0 := Int.mul_ne_zero (Int.mul_ne_zero (by decide) (den_ne r)) (den_ne s)
theorem less_iff (r s : Rat) : decide (r.num * (s.den : Int) < s.num * (r.den : Int)) = decide (r < s) := decide_eq_decide.mpr (by rw [← Rat.not_le, Rat.le_iff]; omega)
theorem tup_updK {K : PySem.W.Frag} {H : Hp} {a d : Addr} {xs : List V} {o : HO} {kvs : List (Key × V)} (h : SqT K H a xs) (hl : H d = some (.dK kvs)) : SqT K (upd H d o) a xs := by
  rcases h with (h | ⟨ob, h⟩) | h
  · refine .inl (.inl ?_)
    rw [upd_ne (ne_of h hl (by intro z; cases z))]
    exact h
  · refine .inl (.inr ⟨ob, ?_⟩)
    rw [upd_ne (ne_of h hl (by intro z; cases z))]
    exact h
  · exact .inr h
theorem lst_updK {H : Hp} {a d : Addr} {xs : List V} {o : HO} {kvs : List (Key × V)} (h : H a = some (.lst xs)) (hl : H d = some (.dK kvs)) : upd H d o a = some (.lst xs) := by
  rw [upd_ne (ne_of h hl (by intro z; cases z))]
  exact h
theorem row_updK {K : PySem.W.Frag} {H : Hp} {u d : Addr} {r : List Rat} {o : HO} {kvs : List (Key × V)} (h : RowAt K H u r) (hl : H d = some (.dK kvs)) : RowAt K (upd H d o) u r := by
  obtain ⟨ws, h1, h2, h3⟩ := h
  exact ⟨ws, lst_updK h1 hl, fun w hw => tup_updK (h2 w hw) hl, h3⟩
theorem same_lock {H H' : Hp} {d : Addr} {u fz : HO} (h : H d = some u) (s : Same (upd H d fz) H') : Same H (upd H' d u) := fun b o e => by
  by_cases hb : b = d
  · subst hb
    rw [upd_same, ← h]
    exact e
  · rw [upd_ne hb]
    exact s b o (by rw [upd_ne hb]; exact e)
theorem sameX_lock {H H' : Hp} {d D : Addr} {u fz : HO} (h : H d = some u) (s : SameX D (upd H d fz) H') : SameX D H (upd H' d u) := fun b o n e => by
  by_cases hb : b = d
  · subst hb
    rw [upd_same, ← h]
    exact e
  · rw [upd_ne hb]
    exact s b o n (by rw [upd_ne hb]; exact e)
theorem tupX {K : PySem.W.Frag} {H H' : Hp} {a D : Addr} {xs : List V} {kvs : List (Key × V)} (h : SqT K H a xs) (hl : H D = some (.dK kvs)) (s : SameX D H H') : SqT K H' a xs := by
  rcases h with (h | ⟨ob, h⟩) | h
  · exact .inl (.inl (s _ _ (ne_of h hl (by intro z; cases z)) h))
  · exact .inl (.inr ⟨ob, s _ _ (ne_of h hl (by intro z; cases z)) h⟩)
  · exact .inr h
theorem rowX {K : PySem.W.Frag} {H H' : Hp} {u D : Addr} {r : List Rat} {kvs : List (Key × V)} (h : RowAt K H u r) (hl : H D = some (.dK kvs)) (s : SameX D H H') : RowAt K H' u r := by
  obtain ⟨ws, h1, h2, h3⟩ := h
  exact ⟨ws, s _ _ (ne_of h1 hl (by intro z; cases z)) h1, fun w hw => tupX (h2 w hw) hl s, h3⟩
theorem sk_get {ks : List (Nat × Addr)} {i : Nat} {k : Key} {v : V} (h : (sk ks)[i]? = some (k, v)) : ∃ p, ks[i]? = some p ∧ k = Sum.inl (p.1 : Int) ∧ v = .ref p.2 := by
  unfold sk at h
  rw [List.getElem?_map] at h
  cases e : ks[i]? with
  | none => rw [e] at h; cases h
  | some p =>
    rw [e] at h
    injection Option.some.inj h with h1 h2
    exact ⟨p, rfl, h1.symm, h2.symm⟩
theorem nodup_at {l : List Nat} {i : Nat} {x : Nat} (hn : l.Nodup) (h : l[i]? = some x) : x ∉ l.take i := by
  intro hm
  obtain ⟨j, hj⟩ := List.mem_iff_getElem?.mp hm
  rw [List.getElem?_take] at hj
  by_cases hji : j < i
  · rw [if_pos hji] at hj
    have := (List.getElem?_inj (List.getElem?_eq_some_iff.mp hj).1 hn).mp (hj.trans h.symm)
    omega
  · rw [if_neg hji] at hj
    cases hj
theorem dget_frz {H : Hp} {d : Addr} {od : Obj} {ks : List (Nat × Addr)} {p : Nat × Addr} (h : H d = some (.frz od (.dK (sk ks)))) (hn : (ks.map (·.1)).Nodup) (hp : p ∈ ks) : DGet H d (.int (p.1 : Int)) (some (.ref p.2)) :=
  .inl ⟨sk ks, Sum.inl (p.1 : Int), .inr ⟨od, h⟩, rfl, (sk_mem hn hp).symm⟩
theorem over_tupK {K : PySem.W.Frag} {H H' : Hp} {t D : Addr} {xs : List V} {kvs : List (Key × V)} (h : SqT K H t xs) (hl : H D = some (.dK kvs)) (s : ∀ b o, b ≠ D → H b = some o → H' b = some o) : SqT K H' t xs := by
  rcases h with (h | ⟨ob, h⟩) | h
  · exact .inl (.inl (s _ _ (ne_of h hl (by intro z; cases z)) h))
  · exact .inl (.inr ⟨ob, s _ _ (ne_of h hl (by intro z; cases z)) h⟩)
  · exact .inr h
theorem tup_updZ {K : PySem.W.Frag} {H : Hp} {a d : Addr} {xs : List V} {o : HO} {od : Obj} {kvs : List (Key × V)} (h : SqT K H a xs) (hl : H d = some (.frz od (.dK kvs))) : SqT K (upd H d o) a xs := by
  rcases h with (h | ⟨ob, h⟩) | h
  · refine .inl (.inl ?_)
    rw [upd_ne (ne_of h hl (by intro z; cases z))]
    exact h
  · refine .inl (.inr ⟨ob, ?_⟩)
    rw [upd_ne (ne_of h hl (by intro z; cases z))]
    exact h
  · exact .inr h
theorem tupXn {K : PySem.W.Frag} {H H' : Hp} {a D : Addr} {xs : List V} (h : SqT K H a xs) (hD : H D = none) (s : ∀ b o, b ≠ D → H b = some o → H' b = some o) : SqT K H' a xs := by
  rcases h with (h | ⟨ob, h⟩) | h
  · exact .inl (.inl (s _ _ (ne_of_none h hD) h))
  · exact .inl (.inr ⟨ob, s _ _ (ne_of_none h hD) h⟩)
  · exact .inr h
/-- the dict of shares behind a store -/
def pk (ks : List (Nat × Addr)) (i : Nat) (t : Addr) : List (Nat × Addr) := if i ∈ ks.map (·.1) then ks.map (fun q => if q.1 = i then (q.1, t) else q) else ks ++ [(i, t)]
theorem sk_put (ks : List (Nat × Addr)) (i : Nat) (t : Addr) : putK (sk ks) (Sum.inl (i : Int)) (.ref t) = sk (pk ks i t) := by
  by_cases h : i ∈ ks.map (·.1)
  · unfold putK pk
    have e : ((sk ks).any fun kv => decide (kv.1 = Sum.inl (i : Int))) = true := by
      obtain ⟨p, hp, rfl⟩ := List.mem_map.mp h
      rw [List.any_eq_true]
      exact ⟨(Sum.inl (p.1 : Int), V.ref p.2), List.mem_map_of_mem (f := fun p : Nat × Addr => ((Sum.inl (p.1 : Int) : Key), V.ref p.2)) hp, decide_eq_true rfl⟩
    rw [if_pos e, if_pos h]
    unfold sk
    rw [List.map_map, List.map_map]
    refine List.map_congr_left fun q _ => ?_
    show (if (Sum.inl (q.1 : Int) : Key) = Sum.inl (i : Int) then _ else _) = _
    by_cases g : q.1 = i
    · show _ = ((Sum.inl ((if q.1 = i then (q.1, t) else q).1 : Int) : Key), V.ref (if q.1 = i then (q.1, t) else q).2)
      rw [if_pos (by rw [g]), if_pos g]
    · show _ = ((Sum.inl ((if q.1 = i then (q.1, t) else q).1 : Int) : Key), V.ref (if q.1 = i then (q.1, t) else q).2)
      rw [if_neg (fun z => g (by injection z with z; omega)), if_neg g]
  · rw [putK_new _ (sk_none h)]
    unfold pk
    rw [if_neg h, sk_snoc]
theorem pk_keys (ks : List (Nat × Addr)) (i : Nat) (t : Addr) : (pk ks i t).map (·.1) = if i ∈ ks.map (·.1) then ks.map (·.1) else ks.map (·.1) ++ [i] := by
  unfold pk
  by_cases h : i ∈ ks.map (·.1)
  · rw [if_pos h, if_pos h, List.map_map]
    refine List.map_congr_left fun q _ => ?_
    show (if q.1 = i then (q.1, t) else q).1 = q.1
    split <;> rfl
  · rw [if_neg h, if_neg h, List.map_append]
    rfl
theorem pk_nodup {ks : List (Nat × Addr)} {i : Nat} {t : Addr} (h : (ks.map (·.1)).Nodup) : ((pk ks i t).map (·.1)).Nodup := by
  rw [pk_keys]
  split
  · exact h
  · rename_i g
    rw [List.nodup_append]
    refine ⟨h, by simp, fun a ha b hb => ?_⟩
    rw [List.mem_singleton.mp hb]
    exact fun z => g (by rw [← z]; exact ha)
theorem pk_len (ks : List (Nat × Addr)) (i : Nat) (t : Addr) : (pk ks i t).length ≤ ks.length + 1 := by
  unfold pk
  split
  · rw [List.length_map]
    omega
  · rw [List.length_append]
    exact Nat.le_refl _
theorem pk_mem {ks : List (Nat × Addr)} {i : Nat} {t : Addr} {q : Nat × Addr} (h : q ∈ pk ks i t) : (q = (i, t)) ∨ (q ∈ ks ∧ q.1 ≠ i) := by
  unfold pk at h
  split at h
  · obtain ⟨p, hp, rfl⟩ := List.mem_map.mp h
    by_cases g : p.1 = i
    · rw [if_pos g, g]
      exact .inl rfl
    · rw [if_neg g]
      exact .inr ⟨hp, g⟩
  · rename_i g
    rcases List.mem_append.mp h with h | h
    · exact .inr ⟨h, fun z => g (by rw [← z]; exact List.mem_map_of_mem h)⟩
    · exact .inl (List.mem_singleton.mp h)
theorem pk_has {ks : List (Nat × Addr)} {i j : Nat} {t : Addr} : j ∈ (pk ks i t).map (·.1) ↔ j ∈ ks.map (·.1) ∨ j = i := by
  rw [pk_keys]
  split
  · rename_i g
    constructor
    · exact .inl
    · rintro (h | h)
      · exact h
      · rw [h]
        exact g
  · rw [List.mem_append, List.mem_singleton]
theorem none_of {H H' : Hp} {p : Addr} (s : Same H H') (h : H' p = none) : H p = none := by
  cases e : H p with
  | none => rfl
  | some o =>
    rw [s p o e] at h
    cases h
theorem zip_get2 {op : Rat → Rat → Rat} {xs ys : List (Addr × Rat)} {i : Nat} {c : Rat} (h : (List.zipWith op (xs.map (·.2)) (ys.map (·.2)))[i]? = some c) : ∃ x y, xs[i]? = some x ∧ ys[i]? = some y ∧ op x.2 y.2 = c := by
  rw [List.getElem?_zipWith, List.getElem?_map, List.getElem?_map] at h
  cases e1 : xs[i]? with
  | none => rw [e1] at h; cases h
  | some x =>
    cases e2 : ys[i]? with
    | none => rw [e1, e2] at h; cases h
    | some y =>
      rw [e1, e2] at h
      exact ⟨x, y, rfl, rfl, Option.some.inj h⟩
end

section
/-- a point with wide parts -/
structure Pt8 (K : PySem.W.Frag) (H : Hp) (t : Addr) (p1 q1 p2 q2 p3 q3 : Int) : Prop where
  ex : ∃ a b c : Addr, SqT K H t [.ref a, .ref b, .ref c] ∧ SqT K H a (zs [p1, q1]) ∧ SqT K H b (zs [p2, q2]) ∧ SqT K H c (zs [p3, q3])
  b1 : p1.natAbs < 2 ^ 1800 ∧ p2.natAbs < 2 ^ 1800 ∧ p3.natAbs < 2 ^ 1800
  b2 : q1.natAbs < 2 ^ 1800 ∧ q2.natAbs < 2 ^ 1800 ∧ q3.natAbs < 2 ^ 1800
  b3 : 0 < q1 ∧ 0 < q2 ∧ 0 < q3
theorem Pt8.same {K : PySem.W.Frag} {H H' : Hp} {t : Addr} {p1 q1 p2 q2 p3 q3 : Int} (p : Pt8 K H t p1 q1 p2 q2 p3 q3) (s : Same H H') : Pt8 K H' t p1 q1 p2 q2 p3 q3 := by
  obtain ⟨a, b, c, h, h1, h2, h3⟩ := p.ex
  exact ⟨⟨a, b, c, same_tup s h, same_tup s h1, same_tup s h2, same_tup s h3⟩, p.b1, p.b2, p.b3⟩
theorem Px.pt8 {K : PySem.W.Frag} {H : Hp} {t : Addr} {r1 r2 r3 : Rat} (h : Px K H t r1 r2 r3) (b1 : Bd 1800 r1) (b2 : Bd 1800 r2) (b3 : Bd 1800 r3) : Pt8 K H t r1.num (r1.den : Int) r2.num (r2.den : Int) r3.num (r3.den : Int) :=
  ⟨h, ⟨b1.1, b2.1, b3.1⟩, ⟨b1.2, b2.2, b3.2⟩, ⟨den_pos r1, den_pos r2, den_pos r3⟩⟩
theorem rn_lt8 {x y z p1 q1 p2 q2 p3 q3 : Int} (bx : x.natAbs < 2 ^ 100) (bY : y.natAbs < 2 ^ 100) (bz : z.natAbs < 2 ^ 100) (h1 : p1.natAbs < 2 ^ 1800 ∧ p2.natAbs < 2 ^ 1800 ∧ p3.natAbs < 2 ^ 1800) (h2 : q1.natAbs < 2 ^ 1800 ∧ q2.natAbs < 2 ^ 1800 ∧ q3.natAbs < 2 ^ 1800) :
    (rn x y z p1 q1 p2 q2 p3 q3).natAbs < 2 ^ 5502 ∧ (q1 * q2 * q3).natAbs < 2 ^ 5502 := by
  obtain ⟨bp1, bp2, bp3⟩ := h1
  obtain ⟨bq1, bq2, bq3⟩ := h2
  have e1 := wide_lt (wide_lt (wide_lt bx bp1) bq2) bq3
  have e2 := wide_lt (wide_lt (wide_lt bY bp2) bq1) bq3
  have e3 := wide_lt (wide_lt (wide_lt bz bp3) bq1) bq2
  have d := wide_lt (wide_lt bq1 bq2) bq3
  have p : (2 : Nat) ^ 5502 = 4 * 2 ^ (100 + 1800 + 1800 + 1800) := by
    rw [show (5502 : Nat) = 2 + (100 + 1800 + 1800 + 1800) from rfl, Nat.pow_add]
  have pp2 : (2 : Nat) ^ (1800 + 1800 + 1800) ≤ 2 ^ (100 + 1800 + 1800 + 1800) := Nat.pow_le_pow_right (by decide) (by decide)
  have a1 := Int.natAbs_add_le (x * p1 * q2 * q3) (y * p2 * q1 * q3)
  have a2 := Int.natAbs_add_le (x * p1 * q2 * q3 + y * p2 * q1 * q3) (z * p3 * q1 * q2)
  unfold rn
  generalize (2 : Nat) ^ (100 + 1800 + 1800 + 1800) = B at *
  omega
def WBs (w : WI) : Prop := Bz 3 w.x ∧ Bz 3 w.y ∧ Bz 3 w.z ∧ Bd 3 w.r
theorem WBs.d {w : WI} (h : WBs w) : WBd w := ⟨h.1.up (by decide), h.2.1.up (by decide), h.2.2.1.up (by decide), h.2.2.2.up (by decide)⟩
theorem vb_rep {b : Nat} {qs : List (Addr × Rat)} (h : ∀ w ∈ qs, Bd b w.2) : VB (List.replicate qs.length b) (qs.map (·.2)) := by
  refine ⟨by rw [List.length_replicate, List.length_map], fun i hi => ?_⟩
  rw [List.length_map] at hi
  unfold at0
  rw [List.getD_eq_getElem?_getD, List.getD_eq_getElem?_getD, List.getElem?_replicate, if_pos hi, List.getElem?_map, List.getElem?_eq_getElem hi]
  exact h _ (List.getElem_mem _)
theorem Lc_bd8 {c : Nat} {ws : List WI} {sg : List Int} {ms : List Rat} (h1 : ∀ w ∈ ws, WBd w) (h2 : ∀ m ∈ ms, Bd 900 m) : ∀ r ∈ Lc c ws sg ms, Bd 920 r := by
  intro r hr
  obtain ⟨i, hi⟩ := List.mem_iff_getElem?.mp hr
  obtain ⟨m, q, a1, a2, rfl⟩ := zwG hi
  obtain ⟨w, s, a3, a4, rfl⟩ := zwG a2
  exact (h2 m (List.mem_of_getElem? a1)).mul (f4_bd (tn_bd (h1 w (List.mem_of_getElem? a3))))
/-- the row of a plane and a sign -/
def roW (w : WI) (s : Int) : Ro3 := ⟨[((tnI s w.x : Int) : Rat), ((tnI s w.y : Int) : Rat), ((tnI s w.z : Int) : Rat)], tnR s w.r, if s = 0 then .eq else .mo⟩
def roL (ws : List WI) (sg : List Int) : List Ro3 := List.zipWith roW ws sg
theorem dt3 (a b c x y z : Rat) : dt [a, b, c] [x, y, z] = a * x + b * y + c * z := by
  show a * x + (b * y + (c * z + 0)) = _
  grind
theorem tnI_rat (s z : Int) : ((tnI s z : Int) : Rat) = tnR s (z : Rat) := by
  unfold tnI tnR
  by_cases g : s < 0
  · rw [if_pos g, if_pos g, Rat.intCast_neg]
  · rw [if_neg g, if_neg g]
theorem sdw_sgn (w : WI) (r1 r2 r3 : Rat) : sdw w r1 r2 r3 = sgn (dot3 w.x w.y w.z r1 r2 r3 - w.r).num := by
  rw [sdw_dot]
  generalize dot3 w.x w.y w.z r1 r2 r3 = d
  have h1 := less_iff d w.r
  have h2 := less_iff w.r d
  rw [decide_eq_decide] at h1 h2
  rcases sgn_cases (d - w.r) with ⟨h, e⟩ | ⟨h, e⟩ | ⟨h, e⟩
  · have := h1.mpr (by grind)
    rw [e]
    unfold sgn
    rw [if_pos (by omega)]
  · have h3 : d = w.r := by grind
    rw [e, h3]
    unfold sgn
    rw [if_neg (by omega), if_neg (by omega)]
  · have := h2.mpr (by grind)
    rw [e]
    unfold sgn
    rw [if_neg (by omega), if_pos (by omega)]
/-- the row holds exactly where the point has the sign -/
theorem roW_ok {w : WI} {s : Int} (hs : s = -1 ∨ s = 0 ∨ s = 1) (r1 r2 r3 : Rat) : (roW w s).ok [r1, r2, r3] ↔ sdw w r1 r2 r3 = s := by
  rw [sdw_sgn]
  unfold Ro3.ok roW
  dsimp only
  rw [dt3, tnI_rat, tnI_rat, tnI_rat]
  unfold dot3
  generalize (w.x : Rat) = a
  generalize (w.y : Rat) = b
  generalize (w.z : Rat) = c
  rcases sgn_cases (a * r1 + b * r2 + c * r3 - w.r) with ⟨h, e⟩ | ⟨h, e⟩ | ⟨h, e⟩ <;> rw [e] <;> rcases hs with rfl | rfl | rfl <;> simp [tnR, okK] <;> grind
theorem roL_at {ws : List WI} {sg : List Int} {i : Nat} {x : Ro3} (h : (roL ws sg)[i]? = some x) : ∃ w s, ws[i]? = some w ∧ sg[i]? = some s ∧ roW w s = x := zwG h
theorem roL_len {ws : List WI} {sg : List Int} (h : sg.length = ws.length) : (roL ws sg).length = ws.length := by
  unfold roL
  rw [List.length_zipWith, h, Nat.min_self]
theorem roL_wf (ws : List WI) (sg : List Int) : ∀ x ∈ roL ws sg, x.c.length = 3 := by
  intro x hx
  obtain ⟨i, hi⟩ := List.mem_iff_getElem?.mp hx
  obtain ⟨w, s, _, _, rfl⟩ := roL_at hi
  rfl
/-- a sum of products, part by part -/
theorem zip_sm : ∀ (us ys : List Rat), us.length = ys.length → sumR (List.zipWith (fun m q => m * q) us ys) = sm (fun i => at0 us i * at0 ys i) ys.length := by
  intro us ys h
  have hz : ∀ i, i ≤ ys.length → sumR ((List.zipWith (fun m q => m * q) us ys).take i) = sm (fun i => at0 us i * at0 ys i) i := by
    intro i
    induction i with
    | zero =>
      intro _
      rfl
    | succ i ih =>
      intro hi
      have e : (List.zipWith (fun m q => m * q) us ys)[i]? = some (at0 us i * at0 ys i) := by
        unfold at0
        rw [List.getElem?_zipWith, List.getD_eq_getElem?_getD, List.getD_eq_getElem?_getD, List.getElem?_eq_getElem (show i < us.length by omega), List.getElem?_eq_getElem (show i < ys.length by omega)]
        rfl
      rw [take_sum e, ih (by omega)]
      rfl
  have := hz ys.length (Nat.le_refl _)
  rw [List.take_of_length_le (by rw [List.length_zipWith]; omega)] at this
  exact this
theorem tot_sm {f : WI → Rat} {ws : List WI} {sg : List Int} {us : List Rat} (h1 : sg.length = ws.length) (h2 : us.length = ws.length) (g : Nat → Rat) (hg : ∀ i w s, ws[i]? = some w → sg[i]? = some s → f (tnW s w) = g i) : tot f ws sg us = sm (fun i => at0 us i * g i) ws.length := by
  unfold tot
  have hl : (List.zipWith (fun w s => f (tnW s w)) ws sg).length = ws.length := by rw [List.length_zipWith, h1, Nat.min_self]
  rw [zip_sm _ _ (by rw [hl]; exact h2), hl]
  refine sm_congr fun i hi => ?_
  have : at0 (List.zipWith (fun w s => f (tnW s w)) ws sg) i = g i := by
    unfold at0
    rw [List.getD_eq_getElem?_getD, List.getElem?_zipWith, List.getElem?_eq_getElem hi, List.getElem?_eq_getElem (show i < sg.length by omega)]
    exact hg i _ _ (List.getElem?_eq_getElem hi) (List.getElem?_eq_getElem (show i < sg.length by omega))
  rw [this]
theorem wit_rp {ws : List WI} {sg : List Int} {us : List Rat} (h1 : sg.length = ws.length) (h2 : us.length = ws.length) (hw : Wit (roL ws sg) 3 (at0 us)) : RP ws sg us = true := by
  have hl := roL_len h1
  have hat : ∀ i w s, ws[i]? = some w → sg[i]? = some s → (roL ws sg)[i]? = some (roW w s) := fun i w s a b => by
    unfold roL
    rw [List.getElem?_zipWith, a, b]
  have hco : ∀ j i w s, ws[i]? = some w → sg[i]? = some s → cO (roL ws sg) i j = at0 (roW w s).c j := fun j i w s a b => by
    unfold cO
    rw [hat i w s a b]
  have hbo : ∀ i w s, ws[i]? = some w → sg[i]? = some s → bO (roL ws sg) i = tnR s w.r := fun i w s a b => by
    unfold bO
    rw [hat i w s a b]
    rfl
  have hko : ∀ i w s, ws[i]? = some w → sg[i]? = some s → kO (roL ws sg) i = if s = 0 then .eq else .mo := fun i w s a b => by
    unfold kO
    rw [hat i w s a b]
    rfl
  have tx : tot (fun w => (w.x : Rat)) ws sg us = 0 := by
    rw [tot_sm h1 h2 (fun i => cO (roL ws sg) i 0) fun i w s a b => by rw [hco 0 i w s a b]; rfl, ← hl]
    exact hw.co 0
  have ty : tot (fun w => (w.y : Rat)) ws sg us = 0 := by
    rw [tot_sm h1 h2 (fun i => cO (roL ws sg) i 1) fun i w s a b => by rw [hco 1 i w s a b]; rfl, ← hl]
    exact hw.co 1
  have tz : tot (fun w => (w.z : Rat)) ws sg us = 0 := by
    rw [tot_sm h1 h2 (fun i => cO (roL ws sg) i 2) fun i w s a b => by rw [hco 2 i w s a b]; rfl, ← hl]
    exact hw.co 2
  have tb : tot (fun w => w.r) ws sg us = sm (fun i => at0 us i * bO (roL ws sg) i) (roL ws sg).length := by
    rw [tot_sm h1 h2 (fun i => bO (roL ws sg) i) fun i w s a b => by rw [hbo i w s a b]; rfl, hl]
  have hz : ∀ {p : Rat → Int → Bool} {i : Nat} {b : Bool}, (List.zipWith p us sg)[i]? = some b → ∃ w s, i < ws.length ∧ ws[i]? = some w ∧ sg[i]? = some s ∧ b = p (at0 us i) s := fun h => by
    obtain ⟨m, s, a1, a2, a3⟩ := zwG h
    have hi := (List.getElem?_eq_some_iff.mp a2).1
    refine ⟨_, s, by omega, List.getElem?_eq_getElem (by omega), a2, ?_⟩
    rw [← a3]
    unfold at0
    rw [List.getD_eq_getElem?_getD, a1]
    rfl
  have aN : any2 pN us sg = false := by
    unfold any2
    rw [Bool.eq_false_iff]
    intro h
    obtain ⟨b, hb, h⟩ := List.any_eq_true.mp h
    obtain ⟨i, hi⟩ := List.mem_iff_getElem?.mp hb
    obtain ⟨w, s, q0, q1, q2, rfl⟩ := hz hi
    unfold pN at h
    simp only [id, Bool.and_eq_true, decide_eq_true_eq] at h
    have hp := hw.pos i (by omega) (by rw [hko i w s q1 q2, if_neg h.1]; decide)
    have h3 := h.2
    have hp2 := Rat.num_nonneg.mpr hp
    unfold sgn at h3
    rw [if_neg (by omega)] at h3
    split at h3 <;> omega
  unfold RP
  rw [aN, tx, ty, tz, tb, decide_eq_true h2]
  simp only [Bool.not_false, decide_true, Bool.true_and]
  by_cases hP : any2 pP us sg = true
  · rw [if_pos hP, sgn_ge]
    refine decide_eq_true (Rat.num_nonneg.mpr ?_)
    have hP2 := hP
    unfold any2 at hP2
    obtain ⟨b, hb, h⟩ := List.any_eq_true.mp hP2
    obtain ⟨i, hi⟩ := List.mem_iff_getElem?.mp hb
    obtain ⟨w, s, q0, q1, q2, rfl⟩ := hz hi
    unfold pP at h
    simp only [id, Bool.and_eq_true, decide_eq_true_eq] at h
    have h3 := h.2
    have h4 : 0 < at0 us i := by
      rcases sgn_cases (at0 us i) with ⟨g, e⟩ | ⟨g, e⟩ | ⟨g, e⟩
      · rw [e] at h3
        omega
      · rw [e] at h3
        omega
      · exact g
    rcases hw.more ⟨i, by omega, by rw [hko i w s q1 q2, if_neg h.1]; decide, h4⟩ with g | ⟨g, _⟩
    · exact Rat.le_of_lt g
    · rw [g]
      exact Rat.le_refl
  · rw [if_neg hP, sgn_nz]
    refine decide_eq_true fun z => ?_
    refine hw.plain (fun i hi hk h0 => hP ?_) (Rat.num_eq_zero.mp z)
    rw [hl] at hi
    obtain ⟨s, hs⟩ : ∃ s, sg[i]? = some s := ⟨_, List.getElem?_eq_getElem (by omega)⟩
    have hwi : ws[i]? = some ws[i] := List.getElem?_eq_getElem hi
    rw [hko i _ s hwi hs] at hk
    have hs0 : s ≠ 0 := fun z => hk (if_pos z)
    unfold any2
    refine List.any_eq_true.mpr ⟨true, List.mem_of_getElem? (i := i) ?_, rfl⟩
    have hu : us[i]? = some (at0 us i) := by
      unfold at0
      rw [List.getD_eq_getElem?_getD, List.getElem?_eq_getElem (by omega)]
      rfl
    rw [List.getElem?_zipWith, hu, hs]
    refine congrArg some ?_
    unfold pP
    rw [sgn_gt, decide_eq_true hs0, decide_eq_true (num_gt0.mpr h0)]
    rfl
theorem wr_of8 {K : PySem.W.Frag} {H : Hp} : ∀ {us : List V}, (∀ (i : Nat) (v : V), us[i]? = some v → ∃ (t : Addr) (w : WI), v = .ref t ∧ WOk K H t w ∧ WBs w) → ∃ ws : List (Addr × WI), us = wr ws ∧ WsX K H ws ∧ ∀ w ∈ ws, WBs w.2
  | [], _ => ⟨[], rfl, (fun _ h => nomatch h), fun _ h => nomatch h⟩
  | u :: us, h => by
    obtain ⟨t, w, rfl, h1, h2⟩ := h 0 u rfl
    obtain ⟨ws, rfl, h3, h4⟩ := wr_of8 (us := us) fun i v hv => h (i + 1) v hv
    refine ⟨(t, w) :: ws, rfl, fun x hx => ?_, fun x hx => ?_⟩
    · rcases List.mem_cons.mp hx with rfl | hx
      · exact h1
      · exact h3 x hx
    · rcases List.mem_cons.mp hx with rfl | hx
      · exact h2
      · exact h4 x hx
end

section CircM
abbrev V3 := Int × Int × Int
def crs (a b : V3) : V3 := (a.2.1 * b.2.2 - a.2.2 * b.2.1, a.2.2 * b.1 - a.1 * b.2.2, a.1 * b.2.1 - a.2.1 * b.1)
def ipr (a b : V3) : Int := a.1 * b.1 + a.2.1 * b.2.1 + a.2.2 * b.2.2
def det (a b c : V3) : Int := ipr a (crs b c)
def l3 (a : V3) : List Int := [a.1, a.2.1, a.2.2]
def par (a b : V3) : Bool := decide (l3 (crs a b) = [0, 0, 0])
/-- the greatest divisor of a row -/
def gcl (l : List Int) : Nat := l.foldl (fun g m => Nat.gcd g m.natAbs) 0
def wd (l : List Int) : Int := if l.getD 0 0 < 0 then -(gcl l : Int) else (gcl l : Int)
def wc (l : List Int) : List Int := l.map fun m => m.fdiv (wd l)
theorem gfold_dvd (l : List Int) : ∀ g : Nat, l.foldl (fun g m => Nat.gcd g m.natAbs) g ∣ g ∧ ∀ m ∈ l, l.foldl (fun g m => Nat.gcd g m.natAbs) g ∣ m.natAbs := by
  induction l with
  | nil => exact fun g => ⟨Nat.dvd_refl _, fun _ h => nomatch h⟩
  | cons x l ih =>
    intro g
    obtain ⟨h1, h2⟩ := ih (Nat.gcd g x.natAbs)
    refine ⟨Nat.dvd_trans h1 (Nat.gcd_dvd_left _ _), fun m hm => ?_⟩
    rcases List.mem_cons.mp hm with rfl | hm
    · exact Nat.dvd_trans h1 (Nat.gcd_dvd_right _ _)
    · exact h2 m hm
theorem gcl_dvd {l : List Int} {m : Int} (h : m ∈ l) : (gcl l : Int) ∣ m := Int.dvd_natAbs.mp (Int.natCast_dvd_natCast.mpr ((gfold_dvd l 0).2 m h))
theorem gcl_pos {l : List Int} {m : Int} (h : m ∈ l) (h0 : m ≠ 0) : 0 < gcl l := by
  rcases Nat.eq_zero_or_pos (gcl l) with e | e
  · have d := gcl_dvd h
    rw [e] at d
    have := Int.zero_dvd.mp d
    exact absurd this h0
  · exact e
theorem wd_abs (l : List Int) : (wd l).natAbs = gcl l := by
  unfold wd
  split
  · rw [Int.natAbs_neg, Int.natAbs_natCast]
  · rw [Int.natAbs_natCast]
theorem wd_dvd {l : List Int} {m : Int} (h : m ∈ l) : wd l ∣ m := by
  unfold wd
  split
  · exact Int.neg_dvd.mpr (gcl_dvd h)
  · exact gcl_dvd h
theorem wd_ne {l : List Int} {m : Int} (h : m ∈ l) (h0 : m ≠ 0) : wd l ≠ 0 := fun e => by
  have h1 := wd_abs l
  have h2 := gcl_pos h h0
  rw [e] at h1
  have : (0 : Int).natAbs = 0 := rfl
  omega
theorem fdv_back {x d : Int} (h : d ∣ x) : x.fdiv d * d = x := by
  obtain ⟨k, rfl⟩ := h
  by_cases h0 : d = 0
  · subst h0
    simp
  · rw [Int.mul_fdiv_cancel_left _ h0, Int.mul_comm]
theorem wc_back {l : List Int} {m : Int} (h : m ∈ l) : m.fdiv (wd l) * wd l = m := fdv_back (wd_dvd h)
theorem wc_len (l : List Int) : (wc l).length = l.length := List.length_map _
theorem wc_get {l : List Int} {i : Nat} {m : Int} (h : l[i]? = some m) : (wc l)[i]? = some (m.fdiv (wd l)) := by
  unfold wc
  rw [List.getElem?_map, h]
  rfl
theorem gfold_mul (k : Nat) (d : Int) (hd : d.natAbs = k) (l : List Int) : ∀ g : Nat, (l.map fun q => q * d).foldl (fun g m => Nat.gcd g m.natAbs) (g * k) = l.foldl (fun g m => Nat.gcd g m.natAbs) g * k := by
  induction l with
  | nil => exact fun g => rfl
  | cons x l ih =>
    intro g
    rw [List.map_cons, List.foldl_cons, List.foldl_cons, Int.natAbs_mul, hd, Nat.gcd_mul_right, ih]
theorem wc_one {l : List Int} {m : Int} (h : m ∈ l) (h0 : m ≠ 0) : gcl (wc l) = 1 := by
  have e : (wc l).map (fun q => q * wd l) = l := by
    unfold wc
    rw [List.map_map]
    exact (List.map_congr_left fun x hx => wc_back hx).trans (List.map_id _)
  have q := gfold_mul (gcl l) (wd l) (wd_abs l) (wc l) 0
  rw [e, Nat.zero_mul] at q
  have p := gcl_pos h h0
  have q2 : gcl l = gcl (wc l) * gcl l := q
  have : 1 * gcl l = gcl (wc l) * gcl l := by omega
  exact (Nat.eq_of_mul_eq_mul_right p this).symm
theorem wc_first {l : List Int} {m : Int} (h : l[0]? = some m) (h0 : m ≠ 0) : 0 < m.fdiv (wd l) := by
  have hm := List.mem_of_getElem? h
  have b := wc_back hm
  have p := gcl_pos hm h0
  have e : l.getD 0 0 = m := by
    rw [List.getD_eq_getElem?_getD, h]
    rfl
  generalize hq : m.fdiv (wd l) = q at *
  unfold wd at b
  rw [e] at b
  by_cases hn : m < 0
  · rw [if_pos hn] at b
    rcases Int.lt_or_le 0 q with z | z
    · exact z
    · have : 0 ≤ q * -(gcl l : Int) := Int.mul_nonneg_of_nonpos_of_nonpos z (by omega)
      omega
  · rw [if_neg hn] at b
    rcases Int.lt_or_le 0 q with z | z
    · exact z
    · have : q * (gcl l : Int) ≤ 0 := Int.mul_nonpos_of_nonpos_of_nonneg z (by omega)
      omega
theorem wc_ne {l : List Int} {m : Int} (h : m ∈ l) (h0 : m ≠ 0) : m.fdiv (wd l) ≠ 0 := fun e => by
  have b := wc_back h
  rw [e, Int.zero_mul] at b
  exact h0 b.symm
def thr (a b c : V3) : List Int := [ipr (crs b c) (crs a b), ipr (crs c a) (crs a b), ipr (crs a b) (crs a b)]
def fou (a b c d : V3) : List Int := [det b c d, -det a c d, det a b d, -det a b c]
/-- the multipliers of these directions, if they make a circuit -/
def mulR : List V3 → Option (List Int)
  | [a, b] => if a = b then some [1, -1] else none
  | [a, b, c] => if det a b c = 0 ∧ par a b = false ∧ par a c = false ∧ par b c = false then some (wc (thr a b c)) else none
  | [a, b, c, d] => if (0 : Int) ∈ fou a b c d then none else some (wc (fou a b c d))
  | _ => none
def nx (ns : List V3) (c : List Nat) : List V3 := c.map fun k => ns.getD k (0, 0, 0)
abbrev CI := List Nat × List Int
def circ (ns : List V3) (c : List Nat) : Option CI := (mulR (nx ns c)).map fun m => (c, m)
/-- what the law asks of the places -/
def minR : List V3 → Bool
  | [a, b] => decide (a = b)
  | [a, b, c] => decide (det a b c = 0) && (decide (a ≠ b) && (decide (a ≠ c) && decide (b ≠ c)))
  | [a, b, c, d] => decide (det b c d ≠ 0) && (decide (det a c d ≠ 0) && (decide (det a b d ≠ 0) && decide (det a b c ≠ 0)))
  | _ => false
theorem mulR_2 (a b : V3) : mulR [a, b] = if a = b then some [1, -1] else none := rfl
theorem mulR_3 (a b c : V3) : mulR [a, b, c] = if det a b c = 0 ∧ par a b = false ∧ par a c = false ∧ par b c = false then some (wc (thr a b c)) else none := rfl
theorem mulR_4 (a b c d : V3) : mulR [a, b, c, d] = if (0 : Int) ∈ fou a b c d then none else some (wc (fou a b c d)) := rfl
theorem minR_2 (a b : V3) : minR [a, b] = decide (a = b) := rfl
theorem minR_3 (a b c : V3) : minR [a, b, c] = (decide (det a b c = 0) && (decide (a ≠ b) && (decide (a ≠ c) && decide (b ≠ c)))) := rfl
theorem minR_4 (a b c d : V3) : minR [a, b, c, d] = (decide (det b c d ≠ 0) && (decide (det a c d ≠ 0) && (decide (det a b d ≠ 0) && decide (det a b c ≠ 0)))) := rfl
/-- canonical directions, small -/
def cnb (v : V3) : Bool := decide (Nat.gcd (Nat.gcd v.1.natAbs v.2.1.natAbs) v.2.2.natAbs = 1) && !(decide (v.1 < 0) || (decide (v.1 = 0) && (decide (v.2.1 < 0) || (decide (v.2.1 = 0) && decide (v.2.2 < 0)))))
def sm7 : List Int := [-3, -2, -1, 0, 1, 2, 3]
def all7 : List V3 := sm7.flatMap fun x => sm7.flatMap fun y => sm7.map fun z => (x, y, z)
def cn7 : List V3 := all7.filter cnb
theorem sm7_mem {x : Int} (h : x.natAbs ≤ 3) : x ∈ sm7 := by
  have : x = -3 ∨ x = -2 ∨ x = -1 ∨ x = 0 ∨ x = 1 ∨ x = 2 ∨ x = 3 := by omega
  rcases this with rfl | rfl | rfl | rfl | rfl | rfl | rfl <;> decide
theorem all7_mem {x y z : Int} (hx : x.natAbs ≤ 3) (hy : y.natAbs ≤ 3) (hz : z.natAbs ≤ 3) : (x, y, z) ∈ all7 := by
  unfold all7
  exact List.mem_flatMap.mpr ⟨x, sm7_mem hx, List.mem_flatMap.mpr ⟨y, sm7_mem hy, List.mem_map.mpr ⟨z, sm7_mem hz, rfl⟩⟩⟩
theorem par_cn : ∀ a ∈ cn7, ∀ b ∈ cn7, par a b = decide (a = b) := by
  have : (cn7.all fun a => cn7.all fun b => par a b == decide (a = b)) = true := by decide +kernel
  intro a ha b hb
  have h := List.all_eq_true.mp (List.all_eq_true.mp this a ha) b hb
  exact eq_of_beq h
theorem cn_small : ∀ a ∈ cn7, a.1.natAbs ≤ 3 ∧ a.2.1.natAbs ≤ 3 ∧ a.2.2.natAbs ≤ 3 := by
  have : (cn7.all fun a => decide (a.1.natAbs ≤ 3) && (decide (a.2.1.natAbs ≤ 3) && decide (a.2.2.natAbs ≤ 3))) = true := by decide +kernel
  intro a ha
  have h := List.all_eq_true.mp this a ha
  simp only [Bool.and_eq_true, decide_eq_true_eq] at h
  exact h
theorem mul_min {rs : List V3} (h : ∀ a ∈ rs, a ∈ cn7) : (mulR rs).isSome = minR rs := by
  rcases rs with _ | ⟨a, _ | ⟨b, _ | ⟨c, _ | ⟨d, _ | ⟨e, t⟩⟩⟩⟩⟩
  · rfl
  · rfl
  · rw [mulR_2, minR_2]
    by_cases e : a = b
    · simp [e]
    · simp [e]
  · have h1 := par_cn a (h a (by simp)) b (h b (by simp))
    have h2 := par_cn a (h a (by simp)) c (h c (by simp))
    have h3 := par_cn b (h b (by simp)) c (h c (by simp))
    rw [mulR_3, minR_3, h1, h2, h3]
    by_cases q : det a b c = 0 ∧ decide (a = b) = false ∧ decide (a = c) = false ∧ decide (b = c) = false
    · rw [if_pos q]
      obtain ⟨q1, q2, q3, q4⟩ := q
      simp only [decide_eq_false_iff_not] at q2 q3 q4
      simp [q1, q2, q3, q4]
    · rw [if_neg q]
      simp only [decide_eq_false_iff_not] at q
      symm
      simp only [Option.isSome_none, Bool.and_eq_false_iff, decide_eq_false_iff_not]
      by_cases z1 : det a b c = 0
      · by_cases z2 : a = b
        · exact .inr (.inl (by simp [z2]))
        · by_cases z3 : a = c
          · exact .inr (.inr (.inl (by simp [z3])))
          · by_cases z4 : b = c
            · exact .inr (.inr (.inr (by simp [z4])))
            · exact absurd ⟨z1, z2, z3, z4⟩ q
      · exact .inl z1
  · rw [mulR_4, minR_4]
    unfold fou
    simp only [List.mem_cons, List.not_mem_nil, or_false]
    by_cases q : (0 : Int) = det b c d ∨ 0 = -det a c d ∨ 0 = det a b d ∨ 0 = -det a b c
    · rw [if_pos q]
      symm
      simp only [Option.isSome_none, Bool.and_eq_false_iff, decide_eq_false_iff_not]
      rcases q with q | q | q | q
      · exact .inl (by omega)
      · exact .inr (.inl (by omega))
      · exact .inr (.inr (.inl (by omega)))
      · exact .inr (.inr (.inr (by omega)))
    · rw [if_neg q]
      simp only [not_or] at q
      obtain ⟨q1, q2, q3, q4⟩ := q
      have e1 : det b c d ≠ 0 := by omega
      have e2 : det a c d ≠ 0 := by omega
      have e3 : det a b d ≠ 0 := by omega
      have e4 : det a b c ≠ 0 := by omega
      simp [e1, e2, e3, e4]
  · rfl
/-- two lists of the same things, both in order -/
theorem sorted_one {α : Type} {le : α → α → Prop} (anti : ∀ x y, le x y → le y x → x = y) (refl : ∀ x, le x x) : ∀ {l m : List α}, l.Perm m → l.Pairwise le → m.Pairwise le → l = m
  | [], m, h, _, _ => (List.Perm.eq_nil h.symm).symm
  | x :: l, [], h, _, _ => absurd h.length_eq (by simp)
  | x :: l, y :: m, h, h1, h2 => by
    obtain ⟨a1, a2⟩ := List.pairwise_cons.mp h1
    obtain ⟨b1, b2⟩ := List.pairwise_cons.mp h2
    have hy : y ∈ x :: l := h.mem_iff.mpr List.mem_cons_self
    have hx : x ∈ y :: m := h.mem_iff.mp List.mem_cons_self
    have e : x = y := by
      rcases List.mem_cons.mp hy with e | hy
      · exact e.symm
      · rcases List.mem_cons.mp hx with e | hx
        · exact e
        · exact anti x y (a1 y hy) (b1 x hx)
    subst e
    rw [sorted_one anti refl ((List.perm_cons x).mp h) a2 b2]
/-- the law's own places -/
def rg (a n : Nat) : List Nat := (List.range (n - a)).map fun i => a + i
def pl3 (n i j k : Nat) : List (List Nat) := [i, j, k] :: (rg (k + 1) n).map fun m => [i, j, k, m]
def pl2 (n i j : Nat) : List (List Nat) := [i, j] :: (rg (j + 1) n).flatMap (pl3 n i j)
def pl1 (n i : Nat) : List (List Nat) := (rg (i + 1) n).flatMap (pl2 n i)
def pl0 (n : Nat) : List (List Nat) := (rg 0 n).flatMap (pl1 n)
end CircM

section CircM2
def Sv (K : PySem.W.Frag) (H : Hp) (t : Addr) (a : V3) : Prop := SqT K H t (zs (l3 a))
def Vz (n : Nat) (a : V3) : Prop := Bz n a.1 ∧ Bz n a.2.1 ∧ Bz n a.2.2
theorem Vz.crs {n m : Nat} {a b : V3} (h : Vz n a) (k : Vz m b) : Vz (n + m + 1) (crs a b) :=
  ⟨((h.2.1.mul k.2.2).sub (h.2.2.mul k.2.1)).up (by omega), ((h.2.2.mul k.1).sub (h.1.mul k.2.2)).up (by omega), ((h.1.mul k.2.1).sub (h.2.1.mul k.1)).up (by omega)⟩
theorem Vz.up {n m : Nat} {a : V3} (h : Vz n a) (e : n ≤ m) : Vz m a := ⟨h.1.up e, h.2.1.up e, h.2.2.up e⟩
end CircM2

section Combs
open PySem PySem.Spec PyProof.Rows
abbrev cbT : String := "itertools.combinations"
theorem cb_slot_next : Slot "itertools.combinations" "__next__" "itertools.combinations.__next__" :=
  .of (owner := "itertools.combinations") (n := "__next__") (by rw [typeLookup_type, builtinLookup_eq_fast]; kernel_rfl) (by decide +kernel) (by decide +kernel) (by decide +kernel)
    (by first | exact .inl (by decide +kernel) | exact .inr (by decide +kernel)) (by rw [isSubtype_type]; kernel_rfl)
theorem cb_entry_next : entryFor table "itertools.combinations.__next__" = some Builtin.«itertools.combinations.__next__» := entryFor_of_tree (by kernel_rfl)
theorem cb_mro : mroOf (.type "itertools.combinations") = pure [.type "itertools.combinations", .type "object"] := by rw [mroOf_type]; kernel_rfl
theorem cb_lookup_new : typeLookup (.type "itertools.combinations") "__new__" = pure (some (.builtin "itertools.combinations.__new__")) := by rw [typeLookup_type, builtinLookup_eq_fast]; kernel_rfl
theorem cb_entry_new : entryFor table "itertools.combinations.__new__" = some Builtin.«itertools.combinations.__new__» := entryFor_of_tree (by kernel_rfl)
theorem cb_typeCall_2 (a b : Value) : checkTypeCall "itertools.combinations" ⟨[a, b], []⟩ = pure () := by kernel_rfl
theorem cb_newCall_2 (a b : Value) : checkBuiltinCall "itertools.combinations.__new__" ⟨[.type "itertools.combinations", a, b], []⟩ = pure () := by kernel_rfl
theorem cb_sub : isSubtype (.type "itertools.combinations") (.type "itertools.combinations") = pure true := by rw [isSubtype_type]; kernel_rfl
theorem cb_slot_init : Slot "itertools.combinations" "__init__" "object.__init__" :=
  .of (owner := "object") (n := "__init__") (by rw [typeLookup_type, builtinLookup_eq_fast]; kernel_rfl) (by decide +kernel) (by decide +kernel) (by decide +kernel)
    (by first | exact .inl (by decide +kernel) | exact .inr (by decide +kernel)) (by rw [isSubtype_type]; kernel_rfl)
theorem cb_slot_iter : Slot "itertools.combinations" "__iter__" "itertools.combinations.__iter__" :=
  .of (owner := "itertools.combinations") (n := "__iter__") (by rw [typeLookup_type, builtinLookup_eq_fast]; kernel_rfl) (by decide +kernel) (by decide +kernel) (by decide +kernel)
    (by first | exact .inl (by decide +kernel) | exact .inr (by decide +kernel)) (by rw [isSubtype_type]; kernel_rfl)
theorem cb_called : TypeCalled "itertools.combinations" "itertools.combinations.__new__" "object.__init__" :=
  ⟨by decide +kernel, by decide +kernel, ⟨_, _, cb_mro⟩, madeBy_type cb_mro cb_lookup_new (by decide +kernel), by decide +kernel, by rw [isSubtype_type]; kernel_rfl, cb_slot_init⟩
theorem cb_args_next (a : Value) : argsOk "itertools.combinations.__next__" ⟨[a], []⟩ := by
  unfold argsOk; rw [signature?_of (rows := Manifest.sig_itertools_combinations) (id := "itertools.combinations.__next__") (n := ['_', '_', 't', 'x', 'e', 'n', '_', '_']) (o := ['s', 'n', 'o', 'i', 't', 'a', 'n', 'i', 'b', 'm', 'o', 'c', '.', 's', 'l', 'o', 'o', 't', 'r', 'e', 't', 'i']) (by kernel_rfl) (by kernel_rfl)]; kernel_rfl
end Combs
section Combs2
open PySem PySem.Spec PyProof.Rows PySem.Builtin.Itertools
/-- combinations as they stand: the pool, how far, the last one, the indexes -/
abbrev CbAt (h : Heap) (it pool : Addr) (ph : Int) (last : Value) (idx : List Nat) : Prop :=
  h.get? it = some { cls := .type "itertools.combinations", data := .fields (.ref pool :: rawInt ph :: last :: idx.map fun (n : Nat) => rawInt n).toArray }
theorem cb_back (idx : List Nat) : (idx.map fun (n : Nat) => rawInt n).map (fun v => match v with | .int n _ => n.toNat | _ => 0) = idx := by
  rw [List.map_map]
  exact (List.map_congr_left fun n _ => rfl).trans (List.map_id _)
variable {prog : Program} {w : World} {A : Around} {E : Value → Shared → Prop} {s : Shared}
theorem cb_nums {it pool : Addr} {ph : Int} {last : Value} {idx : List Nat} {Q : List Nat → Shared → Prop} (hz : CbAt s.heap it pool ph last idx) (h : Q idx s) :
    wpAny (model prog w) A (itNumbersFrom (.ref it) 3) Q E s := by
  unfold itNumbersFrom
  refine wpAny_bind (wpAny_load hz ?_)
  show wpAny _ _ (pure _) _ _ _
  refine wpAny_pure ?_
  refine Eq.mpr (congrArg (fun l => Q l s) ?_) h
  show (idx.map fun (n : Nat) => rawInt n).map _ = idx
  rw [List.map_map]
  exact (List.map_congr_left fun n _ => rfl).trans (List.map_id _)
theorem cb_pool {it pool : Addr} {ph : Int} {last : Value} {idx : List Nat} {h : Heap} {items : Array Value} (hz : CbAt h it pool ph last idx) (hp : h.IsTuple pool items) : pool ≠ it := fun z => by
  obtain ⟨o, e, c, _⟩ := hp
  rw [z, hz] at e
  injection e with e
  rw [← e] at c
  simp at c
/-- the tuple at the indexes is made and handed out -/
theorem cb_out {it pool : Addr} {last : Value} {idx : List Nat} {items : Array Value} {Q : Value → Shared → Prop} {k0 k1 : Heap} {g : Array GenState} {d : Drawn} {m0 : Nat} {os : OsState}
    (z1 : CbAt k1 it pool 1 last idx) (u1 : Heap.SameBut it k0 k1) (hp1 : k1.IsTuple pool items) (hl : idx.length ≤ 1000)
    (hQ : ∀ h', CbAt h' it pool 1 (.ref k0.objs.size) idx → h'.get? k0.objs.size = some { cls := .type "tuple", data := .seq (idx.map fun i => items.getD i .none).toArray } →
      (∀ c o, c ≠ it → k0.get? c = some o → h'.get? c = some o) → Q (.ref k0.objs.size) ⟨h', g, d, m0, os⟩) :
    wpAny (model prog w) A ((itPoolItems (.ref pool) >>= fun xs => newTuple (idx.map fun i => xs.getD i .none)) >>= fun result => do
      let before ← field (.ref it) 2
      setField (.ref it) 2 result
      letGo [before] [result]
      ret result) (fun fin s' => ∃ v, fin = .done (.ret v) ∧ Q v s') E ⟨k1, g, d, m0, os⟩ := by
  have npi := cb_pool z1 hp1
  refine wpAny_bind (wpAny_bind ?_)
  unfold itPoolItems
  obtain ⟨op, ep, cp, nw, dp⟩ := hp1
  refine wpAny_bind (wpAny_seqItems (s := ⟨k1, g, d, m0, os⟩) ep dp (wpAny_pure ?_))
  refine wpAny_newTuple (hsz := by rw [List.length_map]; exact Nat.le_trans hl (by decide)) ?_
  have zP : CbAt (k1.push { cls := .type "tuple", data := .seq (idx.map fun i => items.getD i .none).toArray }) it pool 1 last idx := Heap.get?_push_of_some _ z1
  refine wpAny_bind (wpAny_field zP rfl (x := last) (by simp) ?_)
  refine wpAny_bind (wpAny_setField_rec zP (by simp) fun k2 z2 u2 => ?_)
  replace z2 : CbAt k2 it pool 1 (.ref k1.objs.size) idx := z2
  refine wpAny_bind (wpAny_letGo (wpAny_pure ⟨_, rfl, ?_⟩))
  have hs : k1.objs.size = k0.objs.size := u1.1
  have lz : it < k1.objs.size := Heap.lt_size z1
  have hT : k2.get? k1.objs.size = some { cls := .type "tuple", data := .seq (idx.map fun i => items.getD i .none).toArray } := u2.extBut _ _ (Nat.ne_of_gt lz) (Heap.get?_push_size _ rfl)
  show Q (.ref k1.objs.size) ⟨k2, g, d, m0, os⟩
  rw [hs] at z2 hT ⊢
  exact hQ k2 z2 hT fun c o hc e => u2.extBut _ _ hc (Heap.get?_push_of_some _ (u1.extBut _ _ hc e))
theorem cb_first {it pool : Addr} {last : Value} {idx : List Nat} {items : Array Value} {Q : Value → Shared → Prop} (hz : CbAt s.heap it pool 0 last idx) (hp : s.heap.IsTuple pool items) (hl : idx.length ≤ 1000)
    (hQ : ∀ h', CbAt h' it pool 1 (.ref s.heap.objs.size) idx → h'.get? s.heap.objs.size = some { cls := .type "tuple", data := .seq (idx.map fun i => items.getD i .none).toArray } →
      (∀ c o, c ≠ it → s.heap.get? c = some o → h'.get? c = some o) → Q (.ref s.heap.objs.size) { s with heap := h' }) :
    wpAny (model prog w) A (Builtin.«itertools.combinations.__next__» ⟨[.ref it], []⟩) (fun fin s' => ∃ v, fin = .done (.ret v) ∧ Q v s') E s := by
  obtain ⟨k0, g, d, m0, os⟩ := s
  show wpAny _ _ (field (.ref it) 0 >>= _) _ _ _
  refine wpAny_bind (wpAny_field hz rfl (x := .ref pool) (by simp) ?_)
  show wpAny _ _ (itNumbersFrom (.ref it) 3 >>= _) _ _ _
  refine wpAny_bind (cb_nums hz ?_)
  show wpAny _ _ (itIntField (.ref it) 1 >>= _) _ _ _
  refine wpAny_bind ?_
  unfold itIntField
  refine wpAny_bind (wpAny_field hz rfl (x := rawInt 0) (by simp) (wpAny_pure ?_))
  show wpAny _ _ (setField (.ref it) 1 (rawInt 1) >>= _) _ _ _
  refine wpAny_bind (wpAny_setField_rec hz (by simp) fun k1 z1 u1 => ?_)
  replace z1 : CbAt k1 it pool 1 last idx := z1
  replace u1 : Heap.SameBut it k0 k1 := u1
  have npi : pool ≠ it := cb_pool hz hp
  have hp1 : k1.IsTuple pool items := by
    obtain ⟨o, e, r⟩ := hp
    exact ⟨o, u1.extBut _ _ npi e, r⟩
  exact cb_out (E := E) z1 u1 hp1 hl hQ
/-- the indexes behind these -/
def cbN (n : Nat) (idx : List Nat) : Option (List Nat) := match (List.range idx.length).reverse.find? fun i => idx.getD i 0 != i + n - idx.length with
  | none => none
  | some i => some (idx.take i ++ (List.range (idx.length - i)).map (idx.getD i 0 + 1 + ·))
theorem cb_set {it pool : Addr} {ph : Int} {last : Value} {idx nx : List Nat} {Q : Unit → Shared → Prop} (hz : CbAt s.heap it pool ph last idx) (hl : nx.length ≤ 1000)
    (h : ∀ h', CbAt h' it pool ph last nx → Heap.SameBut it s.heap h' → Q () { s with heap := h' }) : wpAny (model prog w) A (itSetNumbersFrom (.ref it) 3 nx) Q E s := by
  unfold itSetNumbersFrom
  refine wpAny_updateFields hz rfl (h _ ?_ (Heap.SameBut.update ..)) ?_
  · show Heap.get? _ it = _
    rw [Heap.get?_update_self _ hz rfl]
    simp [Obj.mapFields]
  · simp
    have : (sizeLine : Nat) = 2 ^ 24 := rfl
    omega
theorem cb_step {it pool : Addr} {last : Value} {idx nx : List Nat} {items : Array Value} {Q : Value → Shared → Prop} (hz : CbAt s.heap it pool 1 last idx) (hp : s.heap.IsTuple pool items) (hn : cbN items.size idx = some nx) (hl : nx.length ≤ 1000)
    (hQ : ∀ h', CbAt h' it pool 1 (.ref s.heap.objs.size) nx → h'.get? s.heap.objs.size = some { cls := .type "tuple", data := .seq (nx.map fun i => items.getD i .none).toArray } →
      (∀ c o, c ≠ it → s.heap.get? c = some o → h'.get? c = some o) → Q (.ref s.heap.objs.size) { s with heap := h' }) :
    wpAny (model prog w) A (Builtin.«itertools.combinations.__next__» ⟨[.ref it], []⟩) (fun fin s' => ∃ v, fin = .done (.ret v) ∧ Q v s') E s := by
  obtain ⟨k0, g, d, m0, os⟩ := s
  show wpAny _ _ (field (.ref it) 0 >>= _) _ _ _
  refine wpAny_bind (wpAny_field hz rfl (x := .ref pool) (by simp) ?_)
  show wpAny _ _ (itNumbersFrom (.ref it) 3 >>= _) _ _ _
  refine wpAny_bind (cb_nums hz ?_)
  show wpAny _ _ (itIntField (.ref it) 1 >>= _) _ _ _
  refine wpAny_bind ?_
  unfold itIntField
  refine wpAny_bind (wpAny_field hz rfl (x := rawInt 1) (by simp) (wpAny_pure ?_))
  show wpAny _ _ (itPoolItems (.ref pool) >>= _) _ _ _
  refine wpAny_bind ?_
  unfold itPoolItems
  have npi : pool ≠ it := cb_pool hz hp
  obtain ⟨op, ep, cp, nw, dp⟩ := id hp
  refine wpAny_bind (wpAny_seqItems (s := ⟨k0, g, d, m0, os⟩) ep dp (wpAny_pure ?_))
  show wpAny _ _ (match cbN items.size idx with
    | some next => itSetNumbersFrom (.ref it) 3 next >>= fun _ => ((itPoolItems (.ref pool) >>= fun xs => newTuple (next.map fun i => xs.getD i .none)) >>= fun result => do
        let before ← field (.ref it) 2
        setField (.ref it) 2 result
        letGo [before] [result]
        ret result)
    | none => setField (.ref it) 1 (rawInt 2) >>= fun _ => itStop) _ _ _
  rw [hn]
  refine wpAny_bind (cb_set hz hl fun k1 z1 u1 => ?_)
  have hp1 : k1.IsTuple pool items := by
    obtain ⟨o, e, r⟩ := hp
    exact ⟨o, u1.extBut _ _ npi e, r⟩
  exact cb_out z1 u1 hp1 hl hQ
theorem cb_stop {α : Type} {it : Addr} {k0 k1 : Heap} {g : Array GenState} {d : Drawn} {m0 : Nat} {os : OsState} {Q : α → Shared → Prop} (hh : A.handled = none) (u1 : ∀ c o, c ≠ it → k0.get? c = some o → k1.get? c = some o)
    (hE : ∀ h' e, (∀ c o, c ≠ it → k0.get? c = some o → h'.get? c = some o) → (∃ o, h'.get? e = some o ∧ o.cls = .type "StopIteration") → E (.ref e) ⟨h', g, d, m0, os⟩) :
    wpAny (model prog w) A (itStop : Sem α) Q E ⟨k1, g, d, m0, os⟩ := by
  unfold itStop
  refine wpAny_bind ?_
  simp only [newExc, newTuple]
  refine wpAny_bind (wpAny_newObj_type ?_ (by size_fits))
  refine wpAny_bind (m := firstArgMember _ _) (wpAny_of_eq (a := Value.none) (by first | rfl | (simp only [firstArgMember]; rfl)) ?_)
  refine wpAny_newObj_type ?_ (by size_fits)
  simp only [raiseNew]
  refine wpAny_bind (wpAny_handled ?_)
  rw [hh]
  refine wpAny_bind (wpAny_pure (wpAny_throw ?_))
  exact hE _ _ (fun c o hc e => Heap.get?_push_of_some _ (Heap.get?_push_of_some _ (u1 c o hc e))) ⟨_, Heap.get?_push_size _ rfl, rfl⟩
theorem cb_end {it pool : Addr} {last : Value} {idx : List Nat} {items : Array Value} {Q : Fin → Shared → Prop} (hh : A.handled = none) (hz : CbAt s.heap it pool 1 last idx) (hp : s.heap.IsTuple pool items) (hn : cbN items.size idx = none)
    (hE : ∀ h' e, (∀ c o, c ≠ it → s.heap.get? c = some o → h'.get? c = some o) → (∃ o, h'.get? e = some o ∧ o.cls = .type "StopIteration") → E (.ref e) { s with heap := h' }) :
    wpAny (model prog w) A (Builtin.«itertools.combinations.__next__» ⟨[.ref it], []⟩) Q E s := by
  obtain ⟨k0, g, d, m0, os⟩ := s
  show wpAny _ _ (field (.ref it) 0 >>= _) _ _ _
  refine wpAny_bind (wpAny_field hz rfl (x := .ref pool) (by simp) ?_)
  show wpAny _ _ (itNumbersFrom (.ref it) 3 >>= _) _ _ _
  refine wpAny_bind (cb_nums hz ?_)
  show wpAny _ _ (itIntField (.ref it) 1 >>= _) _ _ _
  refine wpAny_bind ?_
  unfold itIntField
  refine wpAny_bind (wpAny_field hz rfl (x := rawInt 1) (by simp) (wpAny_pure ?_))
  show wpAny _ _ (itPoolItems (.ref pool) >>= _) _ _ _
  refine wpAny_bind ?_
  unfold itPoolItems
  obtain ⟨op, ep, cp, nw, dp⟩ := id hp
  refine wpAny_bind (wpAny_seqItems (s := ⟨k0, g, d, m0, os⟩) ep dp (wpAny_pure ?_))
  show wpAny _ _ (match cbN items.size idx with
    | some next => itSetNumbersFrom (.ref it) 3 next >>= fun _ => ((itPoolItems (.ref pool) >>= fun xs => newTuple (next.map fun i => xs.getD i .none)) >>= fun result => do
        let before ← field (.ref it) 2
        setField (.ref it) 2 result
        letGo [before] [result]
        ret result)
    | none => setField (.ref it) 1 (rawInt 2) >>= fun _ => itStop) _ _ _
  rw [hn]
  refine wpAny_bind (wpAny_setField_rec hz (by simp) fun k1 z1 u1 => ?_)
  replace u1 : Heap.SameBut it k0 k1 := u1
  exact cb_stop hh (fun c o hc e => u1.extBut _ _ hc e) hE
theorem cb_end2 {it pool : Addr} {last : Value} {idx : List Nat} {Q : Fin → Shared → Prop} (hh : A.handled = none) (hz : CbAt s.heap it pool 2 last idx)
    (hE : ∀ h' e, (∀ c o, c ≠ it → s.heap.get? c = some o → h'.get? c = some o) → (∃ o, h'.get? e = some o ∧ o.cls = .type "StopIteration") → E (.ref e) { s with heap := h' }) :
    wpAny (model prog w) A (Builtin.«itertools.combinations.__next__» ⟨[.ref it], []⟩) Q E s := by
  obtain ⟨k0, g, d, m0, os⟩ := s
  show wpAny _ _ (field (.ref it) 0 >>= _) _ _ _
  refine wpAny_bind (wpAny_field hz rfl (x := .ref pool) (by simp) ?_)
  show wpAny _ _ (itNumbersFrom (.ref it) 3 >>= _) _ _ _
  refine wpAny_bind (cb_nums hz ?_)
  show wpAny _ _ (itIntField (.ref it) 1 >>= _) _ _ _
  refine wpAny_bind ?_
  unfold itIntField
  refine wpAny_bind (wpAny_field hz rfl (x := rawInt 2) (by simp) (wpAny_pure ?_))
  show wpAny _ _ (rule _ >>= _) _ _ _
  refine wpAny_bind (wpAny_rule ?_)
  exact cb_stop hh (fun c o _ e => e) hE
theorem cb_py {it : Addr} {c : Value} {dd : Data} {Q : Option Value → Shared → Prop} (hz : s.heap.get? it = some { cls := .type "itertools.combinations", data := dd })
    (h : wpAny (model prog w) A.in1 (Builtin.«itertools.combinations.__next__» ⟨[.ref it], []⟩) (fun fin s' => ∃ v, fin = .done (.ret v) ∧ Q (some v) s') (fun e s' => ∃ a, e = .ref a ∧ (∃ o, s'.heap.get? a = some o ∧ o.cls = .type "StopIteration") ∧ Q none s') s) :
    wpAny (model prog w) A (pyNext (.ref it)) Q E s := by
  have hT : s.TypeIs (.ref it) "itertools.combinations" := ⟨_, hz, rfl⟩
  unfold pyNext
  refine wpAny_bind (wpAny_attempt (wpAny_callSpecial?_slot (name := Str.ofString "__next__") hT cb_slot_next
    (wpAny_call_entry cb_slot_next hT cb_entry_next (wpAny_mono h (fun fin s' hq => ?_) (fun e s' hq => ?_)) (cb_args_next _))))
  · obtain ⟨v, e, q⟩ := hq
    exact ⟨v, e, wpAny_pure q⟩
  · obtain ⟨a, rfl, ⟨o, ho, hc⟩, q⟩ := hq
    refine wpAny_bind (wpAny_isInstance (T := "StopIteration") (b := true) ⟨o, ho, hc⟩ isSubtype_stop ?_)
    exact wpAny_pure q
end Combs2
section Combs3a
open PySem PySem.Spec PyProof.Rows
variable {prog : Program} {w : World} {A : Around} {E : Value → Shared → Prop} {s : Shared}
theorem cb_entry_iter : entryFor table "itertools.combinations.__iter__" = some Builtin.«dict_keyiterator.__iter__» :=
  entryFor_alias (id' := "dict_keyiterator.__iter__") (by kernel_rfl) (by first | rfl | decide +kernel | (unfold String.splitOn; simp +decide [String.splitOnAux])) (by decide +kernel) (by kernel_rfl)
theorem cb_args_iter (a : Value) : argsOk "itertools.combinations.__iter__" ⟨[a], []⟩ := by
  unfold argsOk; rw [signature?_of (rows := Manifest.sig_itertools_combinations) (id := "itertools.combinations.__iter__") (n := ['_', '_', 'r', 'e', 't', 'i', '_', '_']) (o := ['s', 'n', 'o', 'i', 't', 'a', 'n', 'i', 'b', 'm', 'o', 'c', '.', 's', 'l', 'o', 'o', 't', 'r', 'e', 't', 'i']) (by kernel_rfl) (by kernel_rfl)]; kernel_rfl
theorem cb_iter {it : Addr} {dd : Data} {Q : Value → Shared → Prop} (hz : s.heap.get? it = some { cls := .type "itertools.combinations", data := dd }) (h : Q (.ref it) s) : wpAny (model prog w) A (pyIter (.ref it)) Q E s := by
  have hT : s.TypeIs (.ref it) "itertools.combinations" := ⟨_, hz, rfl⟩
  refine wpAny_pyIter_slot hT cb_slot_iter (wpAny_call_entry cb_slot_iter hT cb_entry_iter ?_ (cb_args_iter _))
  show wpAny _ _ (ret (.ref it)) _ _ s
  exact wpAny_pure ⟨_, rfl, "itertools.combinations", _, hT, cb_slot_next.lookup, h⟩
end Combs3a
section Combs3
open PySem PySem.Spec PyProof.Rows
/-- the rows of indexes in their order -/
structure CbRun (n r : Nat) (cs : List (List Nat)) : Prop where
  head : ∀ c, cs[0]? = some c → c = List.range r
  step : ∀ i c d, cs[i]? = some c → cs[i + 1]? = some d → cbN n c = some d
  last : ∀ i c, cs[i]? = some c → cs[i + 1]? = none → cbN n c = none
  len : ∀ c, c ∈ cs → c.length = r
  small : r ≤ 1000
def cbTup (xs : List V) (c : List Nat) : List V := c.map fun k => xs.getD k .non
def ItCb (xs : List V) (cs : List (List Nat)) : It :=
  ⟨fun i _ => i < cs.length, fun i H v H' => ∃ T c, v = .ref T ∧ H T = none ∧ cs[i]? = some c ∧ H' = upd H T (.tup (cbTup xs c)), fun i _ => i = cs.length⟩
def CbTn (it pool : Addr) (items : Array Value) (r : Nat) (cs : List (List Nat)) (i : Nat) (h : Heap) : Prop :=
  ∃ (ph : Int) (last : Value) (idx : List Nat), CbAt h it pool ph last idx ∧ h.get? pool = some { cls := .type "tuple", data := .seq items } ∧
    ((i = 0 ∧ cs ≠ [] ∧ ph = 0 ∧ idx = List.range r) ∨ (i = 0 ∧ cs = [] ∧ ph = 2) ∨ (∃ j, i = j + 1 ∧ ph = 1 ∧ cs[j]? = some idx))
theorem cb_vals {xs : List V} {us : List Value} (r : Vals xs us) : ∀ c : List Nat, (∀ k ∈ c, k < xs.length) → Vals (cbTup xs c) (c.map fun k => us.toArray.getD k .none)
  | [], _ => .nil
  | k :: c, h => by
    have hk := h k List.mem_cons_self
    obtain ⟨u, hu, ru⟩ := r.get (List.getElem?_eq_getElem hk)
    refine .cons ?_ (cb_vals r c fun q hq => h q (List.mem_cons_of_mem _ hq))
    have e1 : xs.getD k .non = xs[k] := by rw [List.getD_eq_getElem?_getD, List.getElem?_eq_getElem hk]; rfl
    have e2 : us.toArray.getD k .none = u := by simp [hu]
    show RelV (xs.getD k .non) (us.toArray.getD k .none)
    rw [e1, e2]
    exact ru
theorem turn_cb {P : Program} {w : World} {K : PySem.W.Frag} {tg : Expr} {it pool : Addr} {xs : List V} {us : List Value} {r : Nat} {cs : List (List Nat)} (rv : Vals xs us) (hr : CbRun xs.length r cs) (hin : ∀ c ∈ cs, ∀ k ∈ c, k < xs.length) :
    Turn P w K tg (ItCb xs cs) [it, pool] it (CbTn it pool us.toArray r cs) where
  mem := by simp
  obj := fun i h st q hq => by
    obtain ⟨ph, last, idx, hz, hp, _⟩ := st
    have e' : q = it ∨ q = pool := by simpa using hq
    rcases e' with rfl | rfl
    · exact ⟨_, hz, fun v q => nomatch q⟩
    · exact ⟨_, hp, fun v q => nomatch q⟩
  keep := fun i h h' st k => by
    obtain ⟨ph, last, idx, hz, hp, hc⟩ := st
    exact ⟨ph, last, idx, k it (by simp) _ hz, k pool (by simp) _ hp, hc⟩
  item := by
    intro X hP hw hK hc i pins s σ H E I hf st hg
    subst hP hw hK
    obtain ⟨ph, last, idx, hz, hp, hcase⟩ := st
    have hpt : s.heap.IsTuple pool us.toArray := ⟨_, hp, rfl, _, rfl⟩
    have hg : i < cs.length := hg
    obtain ⟨c, hci⟩ : ∃ c, cs[i]? = some c := ⟨_, List.getElem?_eq_getElem hg⟩
    have mc := List.mem_of_getElem? hci
    have lz : it < s.heap.objs.size := Heap.lt_size hz
    have lp : pool < s.heap.objs.size := Heap.lt_size hp
    have lc : c.length ≤ 1000 := by rw [hr.len c mc]; exact hr.small
    have hsz : us.toArray.size = xs.length := by rw [List.size_toArray]; exact rv.length.symm
    have fin : ∀ h', CbAt h' it pool 1 (.ref s.heap.objs.size) c → h'.get? s.heap.objs.size = some { cls := .type "tuple", data := .seq (c.map fun k => us.toArray.getD k .none).toArray } →
        (∀ q o, q ≠ it → s.heap.get? q = some o → h'.get? q = some o) →
        (fun (ov : Option Value) s1 => ∃ u, ov = some u ∧ wpAny (model X.prog X.w) X.A (letOwnedTupleGo tg (.ref it) u) (fun _ s2 => ∃ x H', Inv X pins σ H' s2 ∧ RelV x u ∧ (ItCb xs cs).yld i H x H' ∧ CbTn it pool us.toArray r cs (i + 1) s2.heap ∧ ∀ b ∈ [it, pool], H' b = none) E s1) (some (.ref s.heap.objs.size)) { s with heap := h' } := fun h' z' hT hk => by
      refine ⟨_, rfl, ?_⟩
      refine go_of z' rfl rfl (by decide +kernel) ?_
      have new : ObjOk X.prog X.w (upd H s.heap.objs.size (.tup (cbTup xs c))) h' s.heap.objs.size (.tup (cbTup xs c)) :=
        ⟨by unfold cbTup; rw [List.length_map]; exact Nat.le_trans lc (by decide), _, cb_vals rv c (hin c mc), ⟨_, hT, rfl, _, rfl⟩⟩
      have I1 : Inv X pins σ (upd H s.heap.objs.size (.tup (cbTup xs c))) { s with heap := h' } :=
        I.turnedNew (t' := s.toks) (ch := [it, pool]) (fun q o hb e => hk q o (fun q' => hb (by simp [q'])) e) hf (Nat.le_refl _) new
      refine ⟨.ref s.heap.objs.size, _, I1, rfl, ⟨_, c, rfl, I.hok.fresh (Nat.le_refl _), hci, rfl⟩, ⟨1, _, c, z', ?_, .inr (.inr ⟨i, rfl, rfl, hci⟩)⟩, fun q hq => ?_⟩
      · exact hk _ _ (cb_pool hz hpt) hp
      · have hlt : q < s.heap.objs.size := by
          have e' : q = it ∨ q = pool := by simpa using hq
          rcases e' with rfl | rfl
          · exact lz
          · exact lp
        rw [upd_ne (Nat.ne_of_lt hlt)]
        exact (hf q hq).1
    refine cb_py (c := .none) hz ?_
    rcases hcase with ⟨rfl, _, rfl, rfl⟩ | ⟨rfl, rfl, _⟩ | ⟨j, rfl, rfl, hj⟩
    · have e := hr.head c hci
      refine cb_first hz hpt (by rw [List.length_range]; exact hr.small) fun h' z' hT hk => ?_
      rw [← e] at z' hT
      exact fin h' z' hT hk
    · cases hci
    · refine cb_step hz hpt (nx := c) (by rw [hsz]; exact hr.step j idx c hj hci) lc fin
  done := by
    intro X hP hw hK hc i pins s σ H E I hf st hg
    subst hP hw hK
    obtain ⟨ph, last, idx, hz, hp, hcase⟩ := st
    have hpt : s.heap.IsTuple pool us.toArray := ⟨_, hp, rfl, _, rfl⟩
    have hhd : X.A.in1.handled = none := I.ok.hd hc
    have hg : i = cs.length := hg
    have hsz : us.toArray.size = xs.length := by rw [List.size_toArray]; exact rv.length.symm
    have fin : ∀ h' e, (∀ c o, c ≠ it → s.heap.get? c = some o → h'.get? c = some o) → (∃ o, h'.get? e = some o ∧ o.cls = .type "StopIteration") →
        (fun (e : Value) s' => ∃ a, e = .ref a ∧ (∃ o, s'.heap.get? a = some o ∧ o.cls = .type "StopIteration") ∧ (fun (r : Option Value) s1 => r = none ∧ Inv X pins σ H s1) none s') (.ref e) { s with heap := h' } := fun h' e hk he =>
      ⟨e, rfl, he, rfl, I.turnedL (t' := s.toks) (ch := [it, pool]) (fun q o hb x => hk q o (fun q' => hb (by simp [q'])) x) hf⟩
    refine cb_py (c := .none) hz ?_
    rcases hcase with ⟨rfl, hne, _, _⟩ | ⟨rfl, rfl, rfl⟩ | ⟨j, rfl, rfl, hj⟩
    · exact absurd (List.length_eq_zero_iff.mp hg.symm) hne
    · exact cb_end2 hhd hz fin
    · refine cb_end hhd hz hpt (by rw [hsz]; exact hr.last j idx hj (List.getElem?_eq_none (by omega))) fin
  self := fun A i s Q E st h => by
    obtain ⟨ph, last, idx, hz, hp, hcase⟩ := st
    exact cb_iter hz h
end Combs3
section Combs4
open PySem PySem.Spec PyProof.Rows PySem.Builtin.Itertools
def cbRec (pool : Addr) (n r : Nat) : Obj := { cls := .type "itertools.combinations", data := .fields (.ref pool :: rawInt (if r > n then 2 else 0) :: .none :: (List.range r).map fun (i : Nat) => rawInt i).toArray }
theorem cb_sub2 : isSubtype (.type "itertools.combinations") (.type ("itertools." ++ "combinations")) = pure true := by
  rw [show (("itertools." : String) ++ "combinations") = "itertools.combinations" by decide]
  exact cb_sub
theorem cb_bind (v x : Value) : itBindNamed "combinations" ["iterable", "r"] 2 2 [v, x] [] = pure [some v, some x] := by
  unfold itBindNamed
  rfl
theorem cb_size (r : Nat) (t : Tok) (h : r ≤ 1000) : itSsizeArg (.int (r : Int) t) = pure (r : Int) := by
  unfold itSsizeArg
  show (if _ then _ else _) = _
  rw [if_neg (by simp; omega)]
theorem cb_new {v : Value} {r n : Nat} {t : Tok} {UP : List Value → Prop} {CO : Heap → Prop} (hU : ∀ us, UP us → us.length = n) (hl : n ≤ 1000) (h1000 : r ≤ 1000)
    (hcol : ∀ (prog : Program) (w : World) (A : Around) (s : Shared) (E : Value → Shared → Prop) (Q : List Value → Shared → Prop), A.handled = none → CO s.heap → (∀ (us : List Value) (h' : Heap) (tk : Nat), UP us → (∀ c o, s.heap.get? c = some o → h'.get? c = some o) → Q us { s with heap := h', toks := tk }) → wpAny (model prog w) A (collect v) Q E s) :
    Meets (Builtin.«itertools.combinations.__new__» ⟨[.type "itertools.combinations", v, .int (r : Int) t], []⟩) (fun A R s => A.handled = none ∧ CO s.heap ∧
      ∀ (us : List Value) (h' : Heap) (tk : Nat), UP us → (∀ c o, s.heap.get? c = some o → h'.get? c = some o) → R (.ok (.ret (.ref (h'.objs.size + 1)))) { s with heap := (h'.push { cls := .type "tuple", data := .seq us.toArray }).push (cbRec h'.objs.size us.length r), toks := tk }) :=
  .of_wp fun prog w A R s h => by
    obtain ⟨hp, g, d, tk, os⟩ := s; obtain ⟨hh, h1, h⟩ := h
    have hsub := cb_sub
    have q1 : ∀ {E : Value → Shared → Prop} {Q : List Value → Shared → Prop}, (∀ (us : List Value) (h' : Heap) (tk : Nat), UP us → (∀ c o, hp.get? c = some o → h'.get? c = some o) → Q us ⟨h', g, d, tk, os⟩) → wpAny (model prog w) A.in1 (collect v) Q E ⟨hp, g, d, tk, os⟩ :=
      fun q => hcol prog w _ ⟨hp, g, d, tk, os⟩ _ _ hh h1 q
    wp_walk using q1
    rw [cb_sub2]
    refine wpAny_pure ?_
    simp only [Bool.not_true, Bool.false_eq_true, if_false]
    refine wpAny_pure ?_
    refine wpAny_bind (wpAny_of_eq (cb_bind v _) ?_)
    show wpAny _ _ (itSsizeArg (.int (r : Int) t) >>= _) _ _ _
    refine wpAny_bind (wpAny_of_eq (cb_size r t h1000) ?_)
    refine wpAny_bind (q1 fun us h' tk' hu hk => ?_)
    have hlu : us.length ≤ 1000 := by rw [hU us hu]; exact hl
    rw [if_neg (show ¬ ((r : Int) < 0) by omega), if_neg (show ¬ (itTooMany (r : Int) = true) by unfold itTooMany; simp; omega)]
    refine wpAny_bind (wpAny_newTuple (hsz := Nat.le_trans hlu (by decide)) (wpAny_pure ?_))
    refine wpAny_bind ?_
    unfold itNewRecord
    rw [if_pos (show (!typeHasDict (.type "itertools.combinations")) = true by decide +kernel)]
    refine wpAny_newObj_type ?_ (Nat.le_trans (m := 1003) (by simp; omega) (by decide))
    refine wpAny_pure ⟨_, rfl, ?_⟩
    have h2 := h us h' tk' hu hk
    rw [← Heap.size_push (h := h') (o := { cls := .type "tuple", data := .seq us.toArray })] at h2
    exact h2
variable {prog : Program} {w : World} {A : Around} {E : Value → Shared → Prop} {s : Shared}
theorem cb_call {v : Value} {r n : Nat} {t : Tok} {UP : List Value → Prop} {CO : Heap → Prop} {Q : Value → Shared → Prop} (hh : A.handled = none) (hU : ∀ us, UP us → us.length = n) (hl : n ≤ 1000) (h1000 : r ≤ 1000)
    (hcol : ∀ (prog : Program) (w : World) (A : Around) (s : Shared) (E : Value → Shared → Prop) (Q : List Value → Shared → Prop), A.handled = none → CO s.heap → (∀ (us : List Value) (h' : Heap) (tk : Nat), UP us → (∀ c o, s.heap.get? c = some o → h'.get? c = some o) → Q us { s with heap := h', toks := tk }) → wpAny (model prog w) A (collect v) Q E s)
    (hc : CO s.heap)
    (hQ : ∀ (us : List Value) (h' : Heap) (tk : Nat), UP us → (∀ c o, s.heap.get? c = some o → h'.get? c = some o) → Q (.ref (h'.objs.size + 1)) { s with heap := (h'.push { cls := .type "tuple", data := .seq us.toArray }).push (cbRec h'.objs.size us.length r), toks := tk }) :
    wpAny (model prog w) A (call (.type "itertools.combinations") [v, .int (r : Int) t]) Q E s := by
  refine callType_new cb_called (by decide) (cb_typeCall_2 _ _) (cb_newCall_2 _ _) (fun obj => F.args_object_init_3 obj _ _) cb_entry_new (cb_new hU hl h1000 hcol) ⟨hh, hc, fun us h' tk hu hk => ?_⟩
  have e : ((h'.push { cls := .type "tuple", data := .seq us.toArray }).push (cbRec h'.objs.size us.length r)).get? (h'.objs.size + 1) = some (cbRec h'.objs.size us.length r) := by
    have := Heap.get?_push_size (h := h'.push { cls := .type "tuple", data := .seq us.toArray }) (o := cbRec h'.objs.size us.length r) rfl
    rw [Heap.size_push] at this
    exact this
  exact ⟨⟨_, e, rfl⟩, hQ us h' tk hu hk⟩
end Combs4
section Combs5
def runOk (n : Nat) : List (List Nat) → Bool
  | [] => true
  | [c] => decide (cbN n c = none)
  | c :: d :: t => decide (cbN n c = some d) && runOk n (d :: t)
theorem run_step {n : Nat} : ∀ {cs : List (List Nat)}, runOk n cs = true → ∀ i c d, cs[i]? = some c → cs[i + 1]? = some d → cbN n c = some d
  | [], _, _, _, _, h, _ => nomatch h
  | [_], _, 0, _, _, _, h => nomatch h
  | [_], _, _ + 1, _, _, h, _ => nomatch h
  | a :: b :: t, k, 0, c, d, h1, h2 => by
    have k1 : decide (cbN n a = some b) = true := (Bool.and_eq_true _ _ ▸ k).1
    obtain rfl : a = c := Option.some.inj h1
    obtain rfl : b = d := Option.some.inj h2
    exact of_decide_eq_true k1
  | a :: b :: t, k, i + 1, c, d, h1, h2 => run_step (cs := b :: t) (Bool.and_eq_true _ _ ▸ k).2 i c d h1 h2
theorem run_last {n : Nat} : ∀ {cs : List (List Nat)}, runOk n cs = true → ∀ i c, cs[i]? = some c → cs[i + 1]? = none → cbN n c = none
  | [], _, _, _, h, _ => nomatch h
  | [a], k, 0, c, h1, _ => by
    obtain rfl : a = c := Option.some.inj h1
    exact of_decide_eq_true k
  | [_], _, _ + 1, _, h, _ => nomatch h
  | _ :: _ :: _, _, 0, _, _, h => nomatch h
  | a :: b :: t, k, i + 1, c, h1, h2 => run_last (cs := b :: t) (Bool.and_eq_true _ _ ▸ k).2 i c h1 h2
def cbGo (n : Nat) : Nat → List Nat → List (List Nat)
  | 0, _ => []
  | f + 1, c => c :: (match cbN n c with
    | none => []
    | some d => cbGo n f d)
def cbAll (n r : Nat) : List (List Nat) := if r > n then [] else cbGo n 100 (List.range r)
theorem run_all {n r : Nat} (h : (runOk n (cbAll n r) && (cbAll n r).all (fun c => decide (c.length = r)) && decide ((cbAll n r).head? = none ∨ (cbAll n r).head? = some (List.range r)) && decide (r ≤ 1000)) = true) : CbRun n r (cbAll n r) := by
  simp only [Bool.and_eq_true, decide_eq_true_eq, List.all_eq_true] at h
  obtain ⟨⟨⟨h1, h2⟩, h3⟩, h4⟩ := h
  refine ⟨fun c hc => ?_, run_step h1, run_last h1, h2, h4⟩
  rw [List.head?_eq_getElem?] at h3
  rcases h3 with h3 | h3
  · rw [h3] at hc
    cases hc
  · rw [h3] at hc
    exact (Option.some.inj hc).symm
theorem run_small : ∀ n, n ≤ 8 → ∀ r, r ≤ 4 → CbRun n r (cbAll n r) := fun n hn r hr => run_all (by
  have : ∀ n, n < 9 → ∀ r, r < 5 → (runOk n (cbAll n r) && (cbAll n r).all (fun c => decide (c.length = r)) && decide ((cbAll n r).head? = none ∨ (cbAll n r).head? = some (List.range r)) && decide (r ≤ 1000)) = true := by decide +kernel
  exact this n (by omega) r (by omega))
end Combs5

section Combs6
open PySem PySem.Spec PyProof.Rows
/-- what is behind the making, whatever the items are -/
theorem cb_pie {X : Cx} {tg : Expr} {pins : List (Addr × Obj)} {σ : L2.St} {H : Hp} {s : Shared} {h' : Heap} {tk r : Nat} {xs : List V} {us : List Value} {cs : List (List Nat)} {R : It → Hp → Prop} (I : Inv X pins σ H s) (rv : Vals xs us) (hk : ∀ c o, s.heap.get? c = some o → h'.get? c = some o)
    (hr : CbRun xs.length r cs) (he : cs = [] ↔ xs.length < r) (hin : ∀ c ∈ cs, ∀ k ∈ c, k < xs.length) (q : R (ItCb xs cs) H) :
    wpAny (model X.prog X.w) X.A (pyIter (.ref (h'.objs.size + 1))) (PIE X pins σ tg R) X.xe { s with heap := (h'.push { cls := .type "tuple", data := .seq us.toArray }).push (cbRec h'.objs.size us.length r), toks := tk } := by
  have hlen : us.length = xs.length := rv.length.symm
  have sz : (h'.push { cls := .type "tuple", data := .seq us.toArray }).objs.size = h'.objs.size + 1 := Heap.size_push ..
  have e : ((h'.push { cls := .type "tuple", data := .seq us.toArray }).push (cbRec h'.objs.size us.length r)).get? (h'.objs.size + 1) = some (cbRec h'.objs.size us.length r) := by
    have := Heap.get?_push_size (h := h'.push { cls := .type "tuple", data := .seq us.toArray }) (o := cbRec h'.objs.size us.length r) rfl
    rw [Heap.size_push] at this
    exact this
  have ep : ((h'.push { cls := .type "tuple", data := .seq us.toArray }).push (cbRec h'.objs.size us.length r)).get? h'.objs.size = some { cls := .type "tuple", data := .seq us.toArray } := Heap.get?_push_of_some _ (Heap.get?_push_size _ rfl)
  refine cb_iter e ?_
  have I1 : Inv X pins σ H { s with heap := h', toks := tk } := I.kept hk
  have I2 : Inv X pins σ H { s with heap := (h'.push { cls := .type "tuple", data := .seq us.toArray }).push (cbRec h'.objs.size us.length r), toks := tk } :=
    I.kept (t' := tk) fun b u z => Heap.get?_push_of_some _ (Heap.get?_push_of_some _ (hk b u z))
  refine ⟨h'.objs.size + 1, [h'.objs.size + 1, h'.objs.size], _, ItCb xs cs, H, rfl, I2, turn_cb (r := r) rv hr hin, ?_, fun b hb => ?_, q⟩
  · refine ⟨((if us.length < r then 2 else 0 : Nat) : Int), .none, List.range r, ?_, ep, ?_⟩
    · show ((h'.push { cls := .type "tuple", data := .seq us.toArray }).push (cbRec h'.objs.size us.length r)).get? (h'.objs.size + 1) = _
      rw [e]
      unfold cbRec
      by_cases hz : r > us.length
      · rw [if_pos hz, if_pos hz]
        rfl
      · rw [if_neg hz, if_neg hz]
        rfl
    · rw [hlen]
      by_cases hz : xs.length < r
      · rw [if_pos hz]
        exact .inr (.inl ⟨rfl, he.mpr hz, rfl⟩)
      · rw [if_neg hz]
        exact .inl ⟨rfl, fun z => hz (he.mp z), rfl, rfl⟩
  · have hge : h'.objs.size ≤ b := by
      have e' : b = h'.objs.size + 1 ∨ b = h'.objs.size := by simpa using hb
      rcases e' with z | z
      · rw [z]; exact Nat.le_succ _
      · rw [z]; exact Nat.le_refl _
    exact I1.fpOk hge (I1.hok.fresh hge)
def cbFits (n r : Nat) : Prop := n ≤ 8 ∧ r ≤ 4
theorem cb_all : ∀ n, n ≤ 8 → ∀ r, r ≤ 4 → (cbAll n r = [] ↔ n < r) ∧ ∀ c ∈ cbAll n r, ∀ k ∈ c, k < n := fun n hn r hr => by
  have : ∀ n, n < 9 → ∀ r, r < 5 → (decide (cbAll n r = [] ↔ n < r) && (cbAll n r).all fun c => c.all fun k => decide (k < n)) = true := by decide +kernel
  have h := this n (by omega) r (by omega)
  simp only [Bool.and_eq_true, decide_eq_true_eq, List.all_eq_true] at h
  exact h
/-- combinations(range(..), r) -/
def iCombR (r : Nat) (tr : L2.St → Hp → (Int → Int → Hp → Prop) → Prop) : TI := fun σ H R => tr σ H fun a b H1 => ∃ n, (rgV a b).length = n ∧ n ≤ 8 ∧ RgOk a b ∧ R (ItCb (rgV a b) (cbAll n r)) H1
theorem pi_combR {X : Cx} {tg e : Expr} {tr : L2.St → Hp → (Int → Int → Hp → Prop) → Prop} {r : Nat} {jj : Nat} {cp p pos : Pos} (hr4 : r ≤ 4) (hc : X.calm = true) (hg : Gl X "combinations") (hm : X.mg "combinations" = some (.type "itertools.combinations")) (he : PRg X e tr)
    (na : starEach [e, .Constant (.int (r : Int)) jj cp] X.env = (false, eval e X.env) :: starEach [.Constant (.int (r : Int)) jj cp] X.env := by rfl) (nb : starEach [.Constant (.int (r : Int)) jj cp] X.env = (false, eval (.Constant (.int (r : Int)) jj cp) X.env) :: starEach [] X.env := by rfl)
    (hp : (backTo pos (starEach [.Constant (.int (r : Int)) jj cp] X.env)).any (·.1) = false := by rfl) :
    PI X tg (.Call (.Name "combinations" p) [e, .Constant (.int (r : Int)) jj cp] [] pos) (iCombR r tr) := by
  refine ⟨fun pins s σ H R I h => ?_⟩
  refine Call_ (ld_glob I hg hm (PyProof.Rows.callWith_type1 (args_cons (thn (he pins s σ H _ I h) fun x s1 hx => args_cons (wpAny_Constant_int (args_nil ?_)) nb) na) na hp))
  obtain ⟨rr, a, b, t, u, v, H1, ex, hr, I1, n, hn, h8, ok, q⟩ := hx
  subst ex
  obtain ⟨b1, b2, b3, b4, b5⟩ := ok
  have hh : X.A.handled = none := I1.ok.hd hc
  rw [rgV_length] at hn
  obtain ⟨c1, c2⟩ := cb_all n h8 r hr4
  refine cb_call (n := n) (UP := fun us => Vals (rgV a b) us) (CO := fun h => IsRange h rr a b 1 t u v) hh (fun us hu => by rw [← hu.length, rgV_length]; exact hn) (by omega) (by omega) ?_ hr fun us h' tk hu hk => ?_
  · intro prog w A s E Q hh hr hQ
    exact collect_range hh hr (small_one b1 b2 b3 b4) (rangeSize_nat a b) b5 fun h' tk acc hk hi => hQ _ h' tk (vals_rg hi) hk
  · have hl : (rgV a b).length = n := by rw [rgV_length]; exact hn
    exact cb_pie (s := { s1 with toks := s1.toks + 1 }) (I1.tok _) hu hk (by rw [hl]; exact run_small n h8 r hr4) (by rw [hl]; exact c1) (by rw [hl]; exact c2) q
/-- combinations(a list, r) -/
def iCombL (K : PySem.W.Frag) (r : Nat) (ta : TE) : TI := fun σ H R => ta σ H fun x H1 => ∃ (a : Addr) (xs : List V) (n : Nat), x = .ref a ∧ SqL K H1 a xs ∧ xs.length = n ∧ n ≤ 8 ∧ R (ItCb xs (cbAll n r)) H1
theorem pi_combL {X : Cx} {tg e : Expr} {ta : TE} {r : Nat} {jj : Nat} {cp p pos : Pos} (hr4 : r ≤ 4) (hc : X.calm = true) (hg : Gl X "combinations") (hm : X.mg "combinations" = some (.type "itertools.combinations")) (he : PE X e ta)
    (na : starEach [e, .Constant (.int (r : Int)) jj cp] X.env = (false, eval e X.env) :: starEach [.Constant (.int (r : Int)) jj cp] X.env := by rfl) (nb : starEach [.Constant (.int (r : Int)) jj cp] X.env = (false, eval (.Constant (.int (r : Int)) jj cp) X.env) :: starEach [] X.env := by rfl)
    (hp : (backTo pos (starEach [.Constant (.int (r : Int)) jj cp] X.env)).any (·.1) = false := by rfl) :
    PI X tg (.Call (.Name "combinations" p) [e, .Constant (.int (r : Int)) jj cp] [] pos) (iCombL X.K r ta) := by
  refine ⟨fun pins s σ H R I h => ?_⟩
  refine Call_ (ld_glob I hg hm (PyProof.Rows.callWith_type1 (args_cons (thn (he.run pins s σ H _ I h) fun x s1 ⟨y, H1, I1, r1, hx⟩ => args_cons (wpAny_Constant_int (args_nil ?_)) nb) na) na hp))
  obtain ⟨a, xs, n, ey, hq, hn, h8, q⟩ := hx
  subst ey
  obtain rfl : x = .ref a := r1
  have hh : X.A.handled = none := I1.ok.hd hc
  obtain ⟨c1, c2⟩ := cb_all n h8 r hr4
  obtain ⟨its, rv, ⟨o, m, ho, hcl, hdd, hd⟩, hz⟩ := I1.list hq
  have hli : its.length = n := by rw [← rv.length]; exact hn
  refine cb_call (n := n) (UP := fun us => us = its) (CO := fun h => h.get? a = some o) hh (fun us hu => by rw [hu]; exact hli) (by omega) (by omega) ?_ ho fun us h' tk hu hk => ?_
  · intro prog w A s E Q hh hr hQ
    refine wpAny_collect_seq a (.inl rfl) hr hcl hd (fun h' hk => ?_) (by rw [List.size_toArray, hli]; exact Nat.le_trans h8 (by decide))
    exact hQ _ h' s.toks rfl hk
  · subst hu
    exact cb_pie (s := { s1 with toks := s1.toks + 1 }) (I1.tok _) rv hk (by rw [hn]; exact run_small n h8 r hr4) (by rw [hn]; exact c1) (by rw [hn]; exact c2) q
/-- the rows handed out -/
def YCb (xs : List V) (cs : List (List Nat)) : Nat → Hp → V → Hp → Prop := fun i H v H' => ∃ T c, v = .ref T ∧ H T = none ∧ cs[i]? = some c ∧ H' = upd H T (.tup (cbTup xs c))
theorem walk_cb {xs : List V} {cs : List (List Nat)} {n : Nat} (h : cs.length = n) : Walk (ItCb xs cs) n (fun _ => True) (YCb xs cs) := by
  subst h
  exact ⟨fun i _ hi _ => hi, fun _ _ => rfl, fun i H v H' _ _ y => y⟩
theorem rg_n {n : Nat} : rgV 0 (n : Int) = (List.range n).map fun i => V.int ((i : Nat) : Int) := by
  unfold rgV
  rw [show (((n : Int) - 0).toNat) = n by omega]
  exact List.map_congr_left fun i _ => by rw [show (0 : Int) + (i : Int) = (i : Int) by omega]
theorem cbTup_rg {n : Nat} {c : List Nat} (h : ∀ k ∈ c, k < n) : cbTup (rgV 0 (n : Int)) c = zs (c.map fun k => ((k : Nat) : Int)) := by
  unfold cbTup zs
  rw [List.map_map]
  refine List.map_congr_left fun k hk => ?_
  have hk := h k hk
  rw [rg_n, List.getD_eq_getElem?_getD, List.getElem?_map, List.getElem?_range hk]
  rfl
end Combs6

section SortD
open PySem PySem.Spec PyProof.Rows PySem.W
/-- sorted(a list of data): in order, where each stands with it -/
def rSortedD (K : PySem.W.Frag) : List V → Hp → VK → Prop := fun vs H Q => ∃ (α : Type) (enc : α → PyData) (a : Addr) (ws : List (V × α)), vs = [V.ref a] ∧ SqL K H a (ws.map (·.1)) ∧ (∀ w ∈ ws, Dp K H w.1 (enc w.2)) ∧
  (∀ b b', alike (enc b) (enc b') = true) ∧ (∀ w ∈ ws, ∃ x r, enc w.2 = .tuple (x :: r)) ∧ (∀ b, (enc b).depth ≤ 4) ∧
  ∀ (ws' : List (V × α)) (p : Addr), ws'.Perm ws → ws'.Pairwise (fun x y => dataLe false enc x.2 y.2 = true) → H p = none → Q (.ref p) (upd H p (.lst (ws'.map (·.1))))
theorem each_pairs {X : Cx} {α : Type} {enc : α → PyData} {pins : List (Addr × Obj)} {σ : L2.St} {H : Hp} {s : Shared} (I : Inv X pins σ H s) : ∀ {ws : List (V × α)} {us : List Value}, (∀ w ∈ ws, Dp X.K H w.1 (enc w.2)) → Vals (ws.map (·.1)) us → EachIs (fun v (b : V × α) => RelV b.1 v ∧ ∃ as, Reads s.heap v (enc b.2) as) us ws
  | [], _, _, r => by
    cases r
    exact .nil
  | w :: ws, _, h, r => by
    cases r with
    | cons r1 r2 => exact .cons ⟨r1, Dp.reads I _ _ _ (h w List.mem_cons_self) r1⟩ (each_pairs I (fun x hx => h x (List.mem_cons_of_mem _ hx)) r2)
theorem each_vals {α : Type} {P : Value → V × α → Prop} (hP : ∀ v b, P v b → RelV b.1 v) : ∀ {us : List Value} {ws : List (V × α)}, EachIs P us ws → Vals (ws.map (·.1)) us
  | _, _, .nil => .nil
  | _, _, .cons h t => .cons (hP _ _ h) (each_vals hP t)
theorem dataLe_pairwise {α : Type} (enc : α → PyData) (bs : List α) (_ : ∀ b b', alike (enc b) (enc b') = true) : (bs.mergeSort (dataLe false enc)).Pairwise fun x y => dataLe false enc x y = true :=
  sort_pairwise (sortLe_total _ _ _) bs
theorem cr_sortedD {X : Cx} (hu : X.A.units + 64 < cLine) : CallR X (.builtin "sorted") (rSortedD X.K) := by
  intro pins s σ H vs us Q I r h
  obtain ⟨α, enc, a, ws, rfl, hs, hd, hal, htu, hdep, q⟩ := h
  obtain ⟨its, rv, hl, hz⟩ := I.list hs
  rw [Vals.ref1 r]
  have ep := each_pairs I hd rv
  refine sorted_data (enc := fun b : V × α => enc b.2) (bs := ws) (R := fun v b => RelV b.1 v) hl.isList (ep.mono fun _ _ h => h.1) (ep.mono fun _ _ h => h.2) (AllAlike.of fun b b' => hal b.2 b'.2) (.inl fun d hd => by obtain ⟨b, hb, rfl⟩ := List.mem_map.mp hd; exact htu b hb) (by rw [List.length_map] at hz; exact hz) (fun b _ => by have := hdep b.2; omega) fun out h1 h2 => ?_
  obtain ⟨ep', he'⟩ := PyProof.Rows.sortedAll_at s.heap its out.toArray
  have hp : (ws.mergeSort (dataLe false fun b : V × α => enc b.2)).Perm ws := List.mergeSort_perm _ _
  have hlen : ((ws.mergeSort (dataLe false fun b : V × α => enc b.2)).map (·.1)).length ≤ sizeLine := by
    rw [List.length_map, hp.length_eq]
    rw [List.length_map] at hz
    exact hz
  exact ⟨.ref _, upd H (s.heap.objs.size + 1) (.lst ((ws.mergeSort (dataLe false fun b : V × α => enc b.2)).map (·.1))), I.laid (t' := s.toks) (fun _ _ => PyProof.Rows.sortedAll_old) (Nat.le_succ _) ⟨hlen, out, ep', each_vals (fun _ _ h => h) h2, he'⟩, rfl, q _ _ hp (dataLe_pairwise (fun b : V × α => enc b.2) ws fun b b' => hal b.2 b'.2) (I.hok.fresh (Nat.le_succ _))⟩
def ni (c : List Nat) : List Int := c.map fun k => ((k : Nat) : Int)
theorem ni_inj : ∀ {c d : List Nat}, ni c = ni d → c = d
  | [], [], _ => rfl
  | [], _ :: _, h => by cases h
  | _ :: _, [], h => by cases h
  | a :: c, b :: d, h => by
    injection h with h1 h2
    rw [Int.ofNat.inj h1, ni_inj h2]
def encI (l : List Int) : PyData := .tuple (l.map .int)
def encC (x : List Nat × List Int) : PyData := .tuple [encI (ni x.1), encI x.2]
theorem dep_ints : ∀ l : List Int, PyData.depthAll (l.map .int) = 0
  | [] => rfl
  | x :: l => by
    rw [List.map_cons, PyData.depthAll, dep_ints l]
    simp [PyData.depth]
theorem encI_dep (l : List Int) : (encI l).depth ≤ 1 := by
  unfold encI
  rw [PyData.depth, dep_ints]
  decide
theorem encC_dep (x : List Nat × List Int) : (encC x).depth ≤ 4 := by
  have h1 := encI_dep (ni x.1)
  have h2 := encI_dep x.2
  unfold encC
  rw [PyData.depth, PyData.depthAll, PyData.depthAll, PyData.depthAll]
  omega
theorem encI_alike (l m : List Int) : alike (encI l) (encI m) = true := by
  unfold encI
  rw [alike]
  exact alike_ints l m
theorem encC_alike (x y : List Nat × List Int) : alike (encC x) (encC y) = true := by
  unfold encC
  rw [alike, alikeAll, alikeAll, alikeAll, encI_alike, encI_alike]
  rfl
theorem ltI (l m : List Int) : dataLt (encI l) (encI m) = decide (l < m) := by
  unfold encI
  rw [dataLt_tuple]
  exact dataLt_ints l m
theorem eqvI : ∀ l m : List Int, PyData.eqvAll (l.map .int) (m.map .int) = decide (l = m)
  | [], [] => rfl
  | [], _ :: _ => rfl
  | _ :: _, [] => rfl
  | x :: l, y :: m => by
    rw [List.map_cons, List.map_cons, PyData.eqvAll, eqvI l m]
    by_cases h : x = y
    · by_cases h2 : l = m
      · simp [PyData.eqv, h, h2]
      · simp [PyData.eqv, h, h2]
    · simp [PyData.eqv, h]
theorem leI {l m : List Nat} (h : dataLe false (fun c => encI (ni c)) l m = true) : ni l ≤ ni m := by
  rw [dataLe_eq] at h
  have h2 : (!dataLt (encI (ni m)) (encI (ni l))) = true := h
  rw [ltI, Bool.not_eq_true', decide_eq_false_iff_not] at h2
  exact List.not_lt.mp h2
theorem leC {x y : List Nat × List Int} (h : dataLe false encC x y = true) : ni x.1 ≤ ni y.1 := by
  rw [dataLe_eq] at h
  have h2 : (!dataLt (encC y) (encC x)) = true := h
  unfold encC at h2
  rw [dataLt_pair (encI_alike _ _) (encI_alike _ _)] at h2
  by_cases e : PyData.eqv (encI (ni y.1)) (encI (ni x.1)) = true
  · unfold encI at e
    rw [PyData.eqv, eqvI, decide_eq_true_eq] at e
    rw [e]
    exact List.le_refl _
  · rw [if_neg e, ltI, Bool.not_eq_true', decide_eq_false_iff_not] at h2
    exact List.not_lt.mp h2
theorem le_anti {l m : List Nat} (h1 : ni l ≤ ni m) (h2 : ni m ≤ ni l) : l = m := ni_inj (List.le_antisymm h1 h2)
end SortD
/-- the law's places, and those of the combinations -/
theorem pl_perm : ∀ n, n ≤ 7 → (pl0 n).Perm (cbAll n 2 ++ cbAll n 3 ++ cbAll n 4) ∧ (pl0 n).Pairwise fun c d => ni c ≤ ni d := by
  have : ∀ n, n < 8 → ((pl0 n).isPerm (cbAll n 2 ++ cbAll n 3 ++ cbAll n 4) && decide ((pl0 n).Pairwise fun c d => ni c ≤ ni d)) = true := by decide +kernel
  intro n hn
  have h := this n (by omega)
  rw [Bool.and_eq_true, decide_eq_true_eq] at h
  exact ⟨List.isPerm_iff.mp h.1, h.2⟩
def allC (ns : List V3) : List CI := (cbAll ns.length 2 ++ cbAll ns.length 3 ++ cbAll ns.length 4).filterMap (circ ns)
theorem filterMap_fst (ns : List V3) (l : List (List Nat)) : (l.filterMap (circ ns)).map (·.1) = l.filter fun c => (mulR (nx ns c)).isSome := by
  induction l with
  | nil => rfl
  | cons c l ih =>
    unfold circ at ih ⊢
    cases e : mulR (nx ns c) with
    | none =>
      rw [List.filterMap_cons_none (by rw [e]; rfl), List.filter_cons_of_neg (by rw [e]; decide)]
      exact ih
    | some m =>
      rw [List.filterMap_cons_some (by rw [e]; rfl), List.filter_cons_of_pos (by rw [e]; rfl), List.map_cons, ih]
/-- the places of the circuits that are told are those due -/
theorem due_eq {ns : List V3} (hn : ns.length ≤ 7) (hc : ∀ a ∈ ns, a ∈ cn7) {cl : List CI} (hp : cl.Perm (allC ns)) (hs : cl.Pairwise fun x y => ni x.1 ≤ ni y.1) :
    cl.map (·.1) = (pl0 ns.length).filter fun c => minR (nx ns c) := by
  obtain ⟨p1, p2⟩ := pl_perm ns.length hn
  refine sorted_one (le := fun c d => ni c ≤ ni d) (fun _ _ => le_anti) (fun _ => List.le_refl _) ?_ (List.pairwise_map.mpr hs) (p2.sublist List.filter_sublist)
  have q1 := hp.map (·.1)
  unfold allC at q1
  rw [filterMap_fst] at q1
  refine q1.trans ?_
  refine ((p1.symm.filter _).trans (List.Perm.of_eq ?_))
  refine List.filter_congr fun c hcm => ?_
  refine mul_min fun a ha => ?_
  unfold nx at ha
  obtain ⟨k, hk, rfl⟩ := List.mem_map.mp ha
  have hin : k < ns.length := by
    have hc2 := p1.mem_iff.mp hcm
    rcases List.mem_append.mp hc2 with h | h
    · rcases List.mem_append.mp h with h | h
      · exact (cb_all ns.length (by omega) 2 (by decide)).2 c h k hk
      · exact (cb_all ns.length (by omega) 3 (by decide)).2 c h k hk
    · exact (cb_all ns.length (by omega) 4 (by decide)).2 c h k hk
  rw [List.getD_eq_getElem?_getD, List.getElem?_eq_getElem hin]
  exact hc _ (List.getElem_mem hin)
theorem cb43 : ∀ n, n ≤ 8 → ∀ p q r m, [p, q, r, m] ∈ cbAll n 4 → [q, r, m] ∈ cbAll n 3 ∧ [p, r, m] ∈ cbAll n 3 ∧ [p, q, m] ∈ cbAll n 3 ∧ [p, q, r] ∈ cbAll n 3 := by
  have : ∀ n, n < 9 → ((cbAll n 4).all fun c => (cbAll n 3).contains (c.drop 1) && ((cbAll n 3).contains (c.take 1 ++ c.drop 2) && ((cbAll n 3).contains (c.take 2 ++ c.drop 3) && (cbAll n 3).contains (c.take 3)))) = true := by decide +kernel
  intro n hn p q r m h
  have h1 := List.all_eq_true.mp (this n (by omega)) _ h
  simp only [Bool.and_eq_true, List.contains_iff_mem] at h1
  exact ⟨h1.1, h1.2.1, h1.2.2.1, h1.2.2.2⟩
theorem pl_ne : ∀ n, n ≤ 7 → ∀ c ∈ pl0 n, 2 ≤ c.length ∧ c.length ≤ 4 ∧ ∀ k ∈ c, k < n := by
  have : ∀ n, n < 8 → ((pl0 n).all fun c => decide (2 ≤ c.length) && (decide (c.length ≤ 4) && c.all fun k => decide (k < n))) = true := by decide +kernel
  intro n hn c hc
  have h := List.all_eq_true.mp (this n (by omega)) c hc
  simp only [Bool.and_eq_true, decide_eq_true_eq, List.all_eq_true] at h
  exact h

section
open PySem PySem.Spec PyProof.Rows
/-- x(*y), x a def of the module -/
theorem pe_callSt {X : Cx} {CX : CXT} {k : Nat} {f : Addr} {fd : FuncData} {ps : List Str} {ds : List Value} {dvs : List V} {sp : Sp} {E : XK} {x : Str} {e : Expr} {te : TE} {p sp_ pos : Pos} (F : FnOk X.prog X.w X.K X.mg X.base CX k f fd ps sp) (hr : Room k X.A) (hg : Gl X x) (hm : X.mg x = some (.ref f)) (hk : PySem.W.keepIn X.K (.ref f) = true) (hb : Binds X.K fd ps ds) (hd : Vals dvs ds) (hx : Passes CX X E) (he : PE X e te) (hdb : (x == ("__debug__" : Str)) = false := by decide)
    (hst : starEach [.Starred e sp_] X.env = [(true, eval e X.env)] := by rfl) :
    PE X (.Call (.Name x p) [.Starred e sp_] [] pos) (fun σ H Q => te σ H fun y H1 => ∃ a xs, y = V.ref a ∧ (SqT X.K H1 a xs ∨ SqL X.K H1 a xs) ∧ sp (xs ++ dvs) H1 Q E) := by
  refine ⟨fun pins s σ H Q I h => ?_⟩
  refine wpAny_Call_Name_kw (ld_glob I hg hm ?_ hdb)
  refine PySem.W.callWith_S (h₀ := X.base) I.ok.mod.kin hk (thn (he.run pins s σ H _ I h) fun v s1 ⟨y, H1, I1, ry, a, xs, ey, hxs, q⟩ => ?_) hst
  subst ey
  obtain rfl : v = Value.ref a := ry
  exact StX.star_any I1 hxs fun us s2 I2 rv => ⟨I2.kIn, run_fn F hr hb hd hx I2 rv q⟩
end

section LcmMax
open PySem PySem.Spec PyProof.Rows
def rLcm : List V → Hp → VK → Prop := fun vs H Q => ∃ x y : Int, vs = [.int x, .int y] ∧ x.natAbs < 2 ^ 64 ∧ y.natAbs < 2 ^ 64 ∧ Q (.int ((Nat.lcm x.natAbs y.natAbs : Nat) : Int)) H
theorem lcm_log {a b : Nat} (ha : a < 2 ^ 64) (hb : b < 2 ^ 64) : ((((Nat.lcm 1 a).lcm b : Nat) : Int)).natAbs.log2 < bitsLine := by
  have h1 : (Nat.lcm 1 a).lcm b < 2 ^ 128 := by
    rw [Nat.lcm_one_left]
    have : a.lcm b ≤ a * b := by
      rcases Nat.eq_zero_or_pos (a * b) with h | h
      · rcases Nat.mul_eq_zero.mp h with h | h
        · rw [h, Nat.lcm_zero_left]
          exact Nat.zero_le _
        · rw [h, Nat.lcm_zero_right]
          exact Nat.zero_le _
      · exact Nat.le_of_dvd h (Nat.lcm_dvd_mul a b)
    refine Nat.lt_of_le_of_lt this ?_
    rw [show (2 : Nat) ^ 128 = 2 ^ 64 * 2 ^ 64 from rfl]
    exact Nat.mul_lt_mul'' ha hb
  have h2 := PySem.W.mg_log (n := (Nat.lcm 1 a).lcm b) (k := 127) h1
  rw [Int.natAbs_natCast]
  exact Nat.lt_of_le_of_lt h2 (by decide)
theorem cr_lcm {X : Cx} : CallR X (.builtin "math.lcm") rLcm := by
  intro pins s σ H vs us Q I rr hyp
  obtain ⟨x, y, rfl, hx, hy, q⟩ := hyp
  obtain ⟨t, u, rfl⟩ := Vals.int2 rr
  refine PySem.W.mg_lcm hx hy (lcm_log hx hy) ⟨.int _, H, I.tok _, ⟨_, rfl⟩, ?_⟩
  rw [Nat.lcm_one_left]
  exact q
/-- max(a list of ints, default=d) -/
def rMaxD (K : PySem.W.Frag) : List V → List V → Hp → VK → Prop := fun vs zz H Q => ∃ (a : Addr) (ns : List Int) (d : Int), vs = [.ref a] ∧ zz = [.int d] ∧ SqL K H a (zs ns) ∧ (ns = [] → Q (.int d) H) ∧ ∀ m, m ∈ ns → (∀ n ∈ ns, n ≤ m) → Q (.int m) H
theorem maxOf_le : ∀ (ys : List Int) (y : Int), PySem.W.maxOf y ys ∈ y :: ys ∧ ∀ n ∈ y :: ys, n ≤ PySem.W.maxOf y ys
  | [], y => ⟨List.mem_cons_self, fun n hn => by rw [List.mem_singleton.mp hn]; exact Int.le_refl _⟩
  | x :: ys, y => by
    have e : PySem.W.maxOf y (x :: ys) = PySem.W.maxOf (if y < x then x else y) ys := by
      unfold PySem.W.maxOf
      rw [List.foldl_cons]
      congr 1
      by_cases h : y < x
      · rw [if_pos h, if_pos (show PySem.W.DatumOrd.lt y x = true from decide_eq_true h)]
      · rw [if_neg h, if_neg (show ¬ PySem.W.DatumOrd.lt y x = true from fun z => h (of_decide_eq_true z))]
    rw [e]
    obtain ⟨h1, h2⟩ := maxOf_le ys (if y < x then x else y)
    refine ⟨?_, fun n hn => ?_⟩
    · rcases List.mem_cons.mp h1 with h | h
      · rw [h]
        by_cases g : y < x
        · rw [if_pos g]
          exact List.mem_cons_of_mem _ List.mem_cons_self
        · rw [if_neg g]
          exact List.mem_cons_self
      · exact List.mem_cons_of_mem _ (List.mem_cons_of_mem _ h)
    · have h3 := h2 _ List.mem_cons_self
      rcases List.mem_cons.mp hn with h | h
      · rw [h]
        refine Int.le_trans ?_ h3
        by_cases g : y < x
        · rw [if_pos g]; omega
        · rw [if_neg g]; exact Int.le_refl _
      · rcases List.mem_cons.mp h with h | h
        · rw [h]
          refine Int.le_trans ?_ h3
          by_cases g : y < x
          · rw [if_pos g]; exact Int.le_refl _
          · rw [if_neg g]; omega
        · exact h2 n (List.mem_cons_of_mem _ h)
theorem hold_ints {h : Heap} : ∀ {us : List Value} {ns : List Int}, Vals (zs ns) us → PySem.W.HoldAll h us ns
  | _, [], r => by
    cases r
    exact .nil
  | _, n :: ns, r => by
    cases r with
    | cons r1 r2 =>
      obtain ⟨t, rfl⟩ := r1
      exact .cons ⟨_, .int n t⟩ (hold_ints r2)
theorem cr_maxD {X : Cx} (hc : X.calm = true) (hu : X.A.units + 64 < cLine) : CallRK X (.builtin "max") [Str.ofString "default"] (rMaxD X.K) := by
  intro pins s σ H vs zz us ws Q I r1 r2 hyp
  obtain ⟨a, ns, d, rfl, rfl, hs, q0, q1⟩ := hyp
  obtain ⟨its, rv, hl, _⟩ := I.list hs
  rw [Vals.ref1 r1]
  obtain ⟨w, rfl, t, rfl⟩ := r2.one
  refine PySem.W.max_list_datum_default (xs := ns) (I.ok.hd hc) hl.isList (by rw [List.toList_toArray]; exact hold_ints rv) (by show X.A.units + 1 + 0 < cLine; omega) (fun e h' tk hk => ?_) fun y ys i v h' tk e hi hh hk => ?_
  · exact ⟨.int d, H, I.kept hk, ⟨_, rfl⟩, q0 e⟩
  · obtain ⟨m1, m2⟩ := maxOf_le ys y
    obtain ⟨as, hr⟩ := hh
    have hv : ∃ t, v = .int (PySem.W.maxOf y ys) t := by
      cases hr
      exact ⟨_, rfl⟩
    exact ⟨.int (PySem.W.maxOf y ys), H, I.kept hk, hv, q1 _ (by rw [e]; exact m1) (by rw [e]; exact m2)⟩
end LcmMax

section DictCompN
open PySem PySem.Spec PyProof.Rows
/-- {k: v for target in iter}, the keys tuples of fractions -/
def tDcN (X : Cx) (wi : TI) (g : TG) (tk tv : TE) (vs : List Nat) : TE := fun σ H Q => wi σ H fun J H1 => ∀ d, H1 d = none → ∃ W : Nat → Nat → Hp → Prop, (∃ m, W 0 m (upd H1 d (ND X.prog X.w d []))) ∧ ∀ i m G, W i m G →
  (J.stop i G ∧ Q (.ref d) G) ∨ (J.go i G ∧ ∃ Nx : Hp → Prop, (∀ G', Nx G' → ∃ m', m' < m ∧ W (i + 1) m' G') ∧ ∀ x G', J.yld i G x G' → g x (wipe σ vs) G' fun σ2 G2 => wipe σ2 vs = wipe σ vs ∧
    tk σ2 G2 fun y G4 => tv σ2 G4 fun z G5 => rSetN X (.ref d) y z G5 Nx)
theorem nd_dictSet {X : Cx} {pins : List (Addr × Obj)} {σ : L2.St} {H : Hp} {s : Shared} {E : Value → Shared → Prop} {d : Addr} {y z : V} {u r : Value} {Q : Unit → Shared → Prop} {N : Hp → Prop} (hu : X.A.units + 64 < cLine) (I : Inv X pins σ H s) (ry : RelV y u) (rz : RelV z r) (h : rSetN X (.ref d) y z H N)
    (hq : ∀ s' H', Inv X pins σ H' s' → N H' → Q () s') : wpAny (model X.prog X.w) X.A (dictSet d u r) Q E s := by
  obtain ⟨a, b, l, L, e1, e2, e, hk, hf, hl, q⟩ := h
  injection e1 with e1
  subst e1 e2
  cases ry
  obtain ⟨z0, hd, xs, rr, dd⟩ := nd_rd I e hk
  have hz : xs.length ≤ sizeLine := by rw [← Paired.length rr]; exact z0
  refine wpAny_dictSet_heap (knd := nestedKind X.prog X.w) (hsz := hz) (show X.A.units + 8 < cLine by omega) (FT.key I hf) dd fun h' dd' hs => hq _ _ ?_ q
  obtain ⟨ob, es, ep, g1, g2, g3, g4, _, g5⟩ := dd'
  refine d_write I (by rw [e]; exact True.intro) hs ⟨ob, g1⟩ (NDat.ok ⟨?_, hd, _, nd_put rr l b rz, ob, es, ep, g1, g2, g3, g4, g5⟩)
  have := putL_len L l b z
  omega
theorem pe_dcN {X : Cx} {kx vx tgt itr : Expr} {sco : Scope} {ow : List (Str × Nat)} {po : Pos} {wi : TI} {g : TG} {tk tv : TE} (hu : X.A.units + 64 < cLine) (hc : X.calm = true) (hN : X.N.Nodup) (hi : PI X tgt itr wi) (ok : BlkOk X.N X.env.scope sco ow)
    (hg : ∀ (t : Shared) (G : Hp) (C : Addr) (cl : List (Str × Addr)) (fp : List Addr), PG (X.blk t G sco (compEnvC sco cl C X.env) fp) tgt g)
    (hk : ∀ (t : Shared) (G : Hp) (C : Addr) (cl : List (Str × Addr)) (fp : List Addr), PE (X.blk t G sco (compEnvC sco cl C X.env) fp) kx tk)
    (he : ∀ (t : Shared) (G : Hp) (C : Addr) (cl : List (Str × Addr)) (fp : List Addr), PE (X.blk t G sco (compEnvC sco cl C X.env) fp) vx tv) (hs : ∀ x, foldedSetIterable itr X.env x = pure x := by intro _; rfl) :
    PE X (.DictComp kx vx [⟨tgt, itr, [], 0⟩] sco po) (tDcN X wi g tk tv (ow.map (·.2))) := by
  refine ⟨fun pins t0 σ G0 Q I0 hyp => ?_⟩
  rw [arm_eval_DictComp]
  have fr : ∀ y ∈ sco.names, y.2 = .free → ∃ c, X.env.cells.lookup y.1 = some c := fun y hy e => (ok.free y hy e).elim (fun k => I0.ok.has _ (.inl k)) fun k => I0.ok.has _ (.inr k)
  refine wpAny_comprehension_free (use := none) rfl hs (closure_ok fr) ok.kind (fun y hy e => by rw [ok.uniq y hy, e]) (thn (hi.run pins t0 σ G0 _ I0 hyp) fun xv t1 hx => thn hx fun itv t2 ⟨it, fp, tn, J, G2, ei, I2, T, st2, f2, q⟩ => ?_)
  subst ei
  refine wpAny_newObj_type (newEnv_comp ?_)
  obtain ⟨d, hd⟩ : ∃ d, d = t2.heap.objs.size := ⟨_, rfl⟩
  obtain ⟨W, ⟨m0, w0⟩, turn⟩ := q d (I2.hok.fresh (Nat.le_of_eq hd.symm))
  obtain ⟨t3, ht3⟩ : ∃ t3 : Shared, t3 = { t2 with heap := t2.heap.push { cls := .type "dict", data := .dict #[] } } := ⟨_, rfl⟩
  have I3 : Inv X pins σ (upd G2 d (ND X.prog X.w d [])) t3 := by
    rw [ht3, hd]
    exact I2.laid (t' := t2.toks) (fun b o e => Heap.get?_push_of_some _ e) (Nat.le_refl _) (nd_empty t2.heap I2.big)
  have hp3 : t3.heap = t2.heap.push { cls := .type "dict", data := .dict #[] } := by rw [ht3]
  have f3 : ∀ b ∈ fp, FpOk X pins (upd G2 d (ND X.prog X.w d [])) b ∧ b < t3.heap.objs.size := fun b hb => by
    obtain ⟨o, e, _⟩ := T.obj _ _ st2 b hb
    have lt := Heap.lt_size e
    exact ⟨⟨by rw [upd_ne (by rw [hd]; exact Nat.ne_of_lt lt)]; exact (f2 b hb).1, (f2 b hb).2⟩, by rw [hp3, Heap.size_push]; exact Nat.lt_succ_of_lt lt⟩
  have st3 : tn 0 t3.heap := T.keep _ _ _ st2 fun b _ o e => by rw [hp3]; exact Heap.get?_push_of_some _ e
  have I4 := block_start I3 ok hN f3
  obtain ⟨G3, hG3⟩ : ∃ G3, G3 = upd G2 d (ND X.prog X.w d []) := ⟨_, rfl⟩
  rw [← hG3] at I3 I4 f3 w0
  obtain ⟨ce, hce⟩ : ∃ ce, ce = compEnvC sco (cellsFrom (t3.heap.objs.size + 1) sco.names (cloFrom X.env.cells sco.names [])) t3.heap.objs.size X.env := ⟨_, rfl⟩
  have pg := hg t3 G3 t3.heap.objs.size (cellsFrom (t3.heap.objs.size + 1) sco.names (cloFrom X.env.cells sco.names [])) fp
  have pk := hk t3 G3 t3.heap.objs.size (cellsFrom (t3.heap.objs.size + 1) sco.names (cloFrom X.env.cells sco.names [])) fp
  have pe := he t3 G3 t3.heap.objs.size (cellsFrom (t3.heap.objs.size + 1) sco.names (cloFrom X.env.cells sco.names [])) fp
  rw [← hce] at I4 pg pk pe
  have cL : ce.locals = t3.heap.objs.size := by rw [hce]; rfl
  obtain ⟨t4, ht4⟩ : ∃ t4 : Shared, t4 = { t3 with heap := pushCells (t3.heap.push { cls := .type "dict", data := .dict #[] }) sco.names } := ⟨_, rfl⟩
  rw [← ht4] at I4
  have st4 : tn 0 t4.heap := T.keep _ _ _ st3 fun b _ o e => by rw [ht4]; exact pushCells_keeps _ _ _ _ (Heap.get?_push_of_some _ e)
  have stat : ∀ {σ' : L2.St} {G' : Hp} {t' : Shared}, Inv (X.blk t3 G3 sco ce fp) [] σ' G' t' → (∀ b ∈ fp, G' b = none) → ∀ b ∈ fp, FpOk (X.blk t3 G3 sco ce fp) [] G' b := fun J' hn b hb =>
    ⟨hn b hb, (J'.ok.exf b hb).1, J'.ok.exfs b hb, .inl hb, fun x c e => (J'.ok.exf b hb).2 x c e, fun p hp => nomatch (show p ∈ ([] : List (Addr × Obj)) from hp)⟩
  show codeAny _ _ (.compStart (.DictComp kx vx [⟨tgt, itr, [], 0⟩] sco po) 0 (.ref it) (.ref t2.heap.objs.size) (compEnvC sco (cellsFrom ((t2.heap.push { cls := .type "dict", data := .dict #[] }).objs.size + 1) sco.names (cloFrom X.env.cells sco.names [])) (t2.heap.push { cls := .type "dict", data := .dict #[] }).objs.size X.env)) _ _
  rw [← hd, ← hp3, ← hce]
  have e4 : ({ t2 with heap := pushCells (t3.heap.push { cls := .type "dict", data := .dict #[] }) sco.names } : Shared) = t4 := by rw [ht4, ht3]
  rw [e4]
  refine codeAny_compStart_dict ?_ (T.self X.A 0 _ _ _ st4 ?_)
  all_goals
    refine compLoop_anyD (fun n t' => ∃ i G', Inv (X.blk t3 G3 sco ce fp) [] (wipe σ (ow.map (·.2))) G' t' ∧ tn i t'.heap ∧ (∀ b ∈ fp, G' b = none) ∧ W i n G') ?_ m0 ⟨0, G3, I4, st4, fun b hb => (f3 b hb).1.1, w0⟩
    rintro n t5 ⟨i, G5, I5, st5, n5, w5⟩
    rcases turn i n G5 w5 with ⟨halt, qq⟩ | ⟨go, Nx, hNx, step⟩
    · refine thnF (T.done (X.blk t3 G3 sco ce fp) rfl rfl rfl hc i [] t5 _ G5 (fun _ _ => False) I5 (stat I5 n5) st5 halt) fun r t6 ⟨hr, I6⟩ => ?_
      subst hr
      have I7 : Inv X pins σ G5 t6 := I3.call' (ch := fp) I6.os I6.base I6.hok I6.bare fun b hb => ⟨(f3 b hb).1.2.2.2.1, (f3 b hb).1.2.1, (f3 b hb).1.2.2.2.2.1, (f3 b hb).1.2.2.2.2.2⟩
      have nC : G5 t3.heap.objs.size = none := cL ▸ I6.free
      obtain ⟨m, hn, _⟩ := I6.loc
      have hn : t6.heap.Ns t3.heap.objs.size m := cL ▸ hn
      obtain ⟨q0, q1, q2, q3, q4, q5⟩ : FpOk X pins G5 t3.heap.objs.size := I3.fpOk (Nat.le_refl _) nC
      exact ⟨m, hn, fun h'' sb => ⟨.ref d, G5, I7.turned (t' := t6.toks) (fun b o hb e => (sb.2 b hb).trans e) q0 q1 q3 q4 q5, rfl, qq⟩⟩
    · refine thnF (T.item (X.blk t3 G3 sco ce fp) rfl rfl rfl hc i [] t5 _ G5 (fun _ _ => False) I5 (stat I5 n5) st5 go) fun r t6 ⟨u, hr, h6⟩ => ?_
      subst hr
      refine thnF h6 fun _ t7 ⟨x, G7, I7, r7, y7, st7, n7⟩ => ?_
      refine thnF (pg.run _ t7 _ G7 x u _ (I7.pinned (stat I7 n7) (T.obj _ _ st7)) r7 (step x G7 y7)) fun _ t8 ⟨σ8, G8, I8, hw8, q8⟩ => ?_
      have fin : ∀ {t' : Shared} {G' : Hp}, Inv (X.blk t3 G3 sco ce fp) ([] ++ pinsAt fp t7.heap) σ8 G' t' → Nx G' → ∃ m, m < n ∧ ∃ i G', Inv (X.blk t3 G3 sco ce fp) [] (wipe σ (ow.map (·.2))) G' t' ∧ tn i t'.heap ∧ (∀ b ∈ fp, G' b = none) ∧ W i m G' := fun {t' G'} J' nx => by
        obtain ⟨m', hm, w'⟩ := hNx G' nx
        have pin' : ∀ b ∈ fp, ∀ o, t7.heap.get? b = some o → t'.heap.get? b = some o ∧ G' b = none := fun b hb o e => by
          have z := J'.pin (b, o) (List.mem_append_right _ (List.mem_append_right _ (mem_pinsAt hb e)))
          exact ⟨z.1, z.2.1⟩
        refine ⟨m', hm, i + 1, G', J'.unpinned.weak (by rw [← hw8, wipe_length]) (fun j v e => ?_), T.keep _ _ _ st7 fun b hb o e => (pin' b hb o e).1, fun b hb => ?_, w'⟩
        · rw [← hw8] at e
          exact (wipe_some e).1
        · obtain ⟨o, e, _⟩ := T.obj _ _ st7 b hb
          exact (pin' b hb o e).2
      refine thnF ((pts_nil (X := X.blk t3 G3 sco ce fp)).run _ t8 σ8 G8 (fun b G => b = true ∧ G = G8) I8 ⟨rfl, rfl⟩) fun b t9 ⟨G9, I9, eb, eG⟩ => ?_
      subst eb eG
      rw [if_pos rfl]
      refine thnF (pk.run _ t9 σ8 _ _ I9 q8) fun z t10 ⟨yk, G10, I10, r10, q10⟩ => ?_
      refine thnF (pe.run _ t10 σ8 G10 _ I10 q10) fun z2 t11 ⟨yv, G11, I11, r11, q11⟩ => ?_
      exact nd_dictSet (X := X.blk t3 G3 sco ce fp) (d := d) hu I11 r10 r11 q11 fun t12 G12 I12 nx => fin I12 nx
/-- list(d): where its keys stand, in their order -/
def rListN (X : Cx) : List V → Hp → VK → Prop := fun vs H Q => ∃ (d : Addr) (L : NL), vs = [.ref d] ∧ H d = some (ND X.prog X.w d L) ∧ ∀ p, H p = none → Q (.ref p) (upd H p (.lst (L.map fun x => .ref x.2.1)))
theorem vals_addrs {P : Program} {w : World} : ∀ {L : NL} {xs : List (NestedKey × Addr × Value)}, Paired (fun (p : List Rat × Addr × V) (q : NestedKey × Addr × Value) => q.1 = nkl p.1 ∧ q.2.1 = p.2.1 ∧ RelV p.2.2 q.2.2) L xs → Vals (L.map fun x => V.ref x.2.1) (xs.map fun x => Value.ref x.2.1)
  | _, _, .nil => .nil
  | _, _, .cons h t => .cons (by show Value.ref _ = _; rw [h.2.1]) (vals_addrs (P := P) (w := w) t)
theorem call_list_nd {X : Cx} (hc : X.calm = true) : CallR X (.type "list") (rListN X) := by
  intro pins s σ H vs us Q I rr hyp
  obtain ⟨d, L, rfl, e, q⟩ := hyp
  rw [Vals.ref1 rr]
  obtain ⟨⟨z, y, xs, pr, o, es, ep, g1, g2, g3, g4, g5⟩, _⟩ := (show ObjOk X.prog X.w H s.heap d (ND X.prog X.w d L) from I.hok d _ e)
  have lx : es.size = xs.length := by
    rw [← Array.length_toList, g4, List.length_map]
  have lL : L.length = xs.length := Paired.length pr
  refine PySem.W.kdl_call (kdl_raw y g2 g3) (I.ok.hd hc) g1 (by omega) fun h' tk acc c' kp e' it => ?_
  have ea : acc.toList = xs.map fun x => Value.ref x.2.1 := by
    refine List.ext_getElem (by rw [Array.length_toList, it.1, List.length_map, lx]) fun j h1 h2 => ?_
    obtain ⟨en, hen, hv⟩ := it.2 j acc.toList[j] (by rw [← Array.getElem?_toList]; exact List.getElem?_eq_getElem h1)
    have hj : j < xs.length := by rw [List.length_map] at h2; exact h2
    have he : es.toList[j]? = some (entryOfKey (nestedKind X.prog X.w) xs[j]) := by
      rw [g4, List.getElem?_map, List.getElem?_eq_getElem hj]
      rfl
    rw [Array.getElem?_toList, hen] at he
    rw [hv, Option.some.inj he, List.getElem_map]
    rfl
  refine ⟨.ref s.heap.objs.size, _, I.laid (t' := tk) (o := .lst (L.map fun x => .ref x.2.1)) kp (Nat.le_refl _) ⟨by rw [List.length_map]; omega, acc.toList, c', by rw [ea]; exact vals_addrs (P := X.prog) (w := X.w) pr, by rw [Array.toArray_toList]; exact e'⟩, rfl, q _ (I.hok.fresh (Nat.le_refl _))⟩
end DictCompN

section OrderP
open PySem PySem.Spec PyProof.Rows PySem.W
def rk (r : Rat) (s : Int) : Int := (r.num * s).fdiv (r.den : Int)
/-- points in the order of their coordinates -/
def lt3 : List Rat → List Rat → Prop
  | [a, b, c], [x, y, z] => a < x ∨ (a = x ∧ (b < y ∨ (b = y ∧ c < z)))
  | _, _ => False
theorem rk_mono {r t : Rat} {m : Nat} (h : r < t) (hr : r.den ≤ m) (ht : t.den ≤ m) : rk r ((m * m : Nat) : Int) < rk t ((m * m : Nat) : Int) := by
  have d1 : (0 : Int) < (r.den : Int) := by exact_mod_cast r.den_pos
  have d2 : (0 : Int) < (t.den : Int) := by exact_mod_cast t.den_pos
  have h2 : r.num * (t.den : Int) + 1 ≤ t.num * (r.den : Int) := by
    have := Rat.lt_iff _ _ |>.mp h
    omega
  have hm : (r.den : Int) * (t.den : Int) ≤ ((m * m : Nat) : Int) := by
    exact_mod_cast Nat.mul_le_mul hr ht
  unfold rk
  generalize ((m * m : Nat) : Int) = S at hm
  have hS : 0 < S := Int.lt_of_lt_of_le (Int.mul_pos d1 d2) hm
  generalize r.num = n1 at *
  generalize t.num = n2 at *
  generalize (r.den : Int) = e1 at *
  generalize (t.den : Int) = e2 at *
  rw [Int.fdiv_eq_ediv_of_nonneg _ (Int.le_of_lt d1), Int.fdiv_eq_ediv_of_nonneg _ (Int.le_of_lt d2)]
  have q1 : n1 * S / e1 * e1 ≤ n1 * S := Int.ediv_mul_le _ (Int.ne_of_gt d1)
  have key : n1 * S / e1 + 1 ≤ n2 * S / e2 := by
    rw [Int.le_ediv_iff_mul_le d2]
    refine Int.le_of_mul_le_mul_right ?_ d1
    have e : (n1 * S / e1 + 1) * e2 * e1 = n1 * S / e1 * e1 * e2 + e1 * e2 := by grind
    have f : n1 * S * e2 + S = S * (n1 * e2 + 1) := by grind
    have g : S * (n2 * e1) = n2 * S * e1 := by grind
    rw [e, ← g]
    refine Int.le_trans ?_ (Int.mul_le_mul_of_nonneg_left h2 (Int.le_of_lt hS))
    rw [← f]
    exact Int.add_le_add (Int.mul_le_mul_of_nonneg_right q1 (Int.le_of_lt d2)) hm
  exact key
def encF (r : Rat) : PyData := encI [r.num, (r.den : Int)]
def encP (p : List Rat) : PyData := .tuple (p.map encF)
def encO (s : Int) (p : List Rat) : PyData := .tuple [encI (p.map fun r => rk r s), encP p]
theorem alike_mapF : ∀ p q : List Rat, alikeAll (p.map encF) (q.map encF) = true
  | [], _ => by simp [alikeAll]
  | _ :: _, [] => by simp [alikeAll]
  | x :: p, y :: q => by
    rw [List.map_cons, List.map_cons, alikeAll, alike_mapF p q]
    unfold encF
    rw [encI_alike]
    rfl
theorem encP_alike (p q : List Rat) : alike (encP p) (encP q) = true := by
  unfold encP
  rw [alike]
  exact alike_mapF p q
theorem encO_alike (s : Int) (p q : List Rat) : alike (encO s p) (encO s q) = true := by
  unfold encO
  rw [alike, alikeAll, alikeAll, alikeAll, encI_alike, encP_alike]
  rfl
theorem depF : ∀ p : List Rat, PyData.depthAll (p.map encF) ≤ 1
  | [] => by simp [PyData.depthAll]
  | x :: p => by
    have h1 : (encF x).depth ≤ 1 := encI_dep _
    have h2 := depF p
    rw [List.map_cons, PyData.depthAll]
    omega
theorem encO_dep (s : Int) (p : List Rat) : (encO s p).depth ≤ 4 := by
  have h1 := encI_dep (p.map fun r => rk r s)
  have h2 : (encP p).depth ≤ 2 := by
    have := depF p
    unfold encP
    rw [PyData.depth]
    omega
  unfold encO
  rw [PyData.depth, PyData.depthAll, PyData.depthAll, PyData.depthAll]
  omega
theorem leO {s : Int} {p q : List Rat} (h : dataLe false (encO s) p q = true) : (p.map fun r => rk r s) ≤ (q.map fun r => rk r s) := by
  rw [dataLe_eq] at h
  have h2 : (!dataLt (encO s q) (encO s p)) = true := h
  unfold encO at h2
  rw [dataLt_pair (encI_alike _ _) (encP_alike _ _)] at h2
  by_cases e : PyData.eqv (encI (q.map fun r => rk r s)) (encI (p.map fun r => rk r s)) = true
  · unfold encI at e
    rw [PyData.eqv, eqvI, decide_eq_true_eq] at e
    rw [e]
    exact List.le_refl _
  · rw [if_neg e, ltI, Bool.not_eq_true', decide_eq_false_iff_not] at h2
    exact List.not_lt.mp h2
theorem lt3_of {m : Nat} {p q : List Rat} (hp : p.length = 3) (hq : q.length = 3) (dp : ∀ r ∈ p, r.den ≤ m) (dq : ∀ r ∈ q, r.den ≤ m) (ne : p ≠ q)
    (h : (p.map fun r => rk r ((m * m : Nat) : Int)) ≤ (q.map fun r => rk r ((m * m : Nat) : Int))) : lt3 p q := by
  match p, q, hp, hq with
  | [a, b, c], [x, y, z], _, _ =>
    have h' := List.not_lt.mpr h
    have key : ∀ r ∈ [a, b, c], ∀ t ∈ [x, y, z], ¬ rk t ((m * m : Nat) : Int) < rk r ((m * m : Nat) : Int) → ¬ r = t → r < t := by
      intro r hr t ht hn hne
      by_cases g : r < t
      · exact g
      · have g2 : t < r := Rat.lt_of_le_of_ne (Rat.not_lt.mp g) (fun e => hne e.symm)
        exact absurd (rk_mono g2 (dq t ht) (dp r hr)) hn
    simp only [List.map_cons, List.map_nil, List.cons_lt_cons_iff] at h'
    show a < x ∨ (a = x ∧ (b < y ∨ (b = y ∧ c < z)))
    by_cases e1 : a = x
    · subst e1
      refine .inr ⟨rfl, ?_⟩
      by_cases e2 : b = y
      · subst e2
        refine .inr ⟨rfl, key c (by simp) z (by simp) (fun g => h' (.inr ⟨rfl, .inr ⟨rfl, .inl g⟩⟩)) (fun e => ne (by rw [e]))⟩
      · exact .inl (key b (by simp) y (by simp) (fun g => h' (.inr ⟨rfl, .inl g⟩)) e2)
    · exact .inl (key a (by simp) x (by simp) (fun g => h' (.inl g)) e1)
def vAd : V → Addr
  | .ref a => a
  | _ => 0
def rp {α : Type} (x : Addr × α) : V × α := (.ref x.1, x.2)
theorem perm_lift {α : Type} {ws' : List (V × α)} {ks : List (Addr × α)} (h : ws'.Perm (ks.map rp)) : ∃ ks' : List (Addr × α), ks'.Perm ks ∧ ws' = ks'.map rp := by
  refine ⟨ws'.map fun w => (vAd w.1, w.2), ?_, ?_⟩
  · have q := h.map fun w => (vAd w.1, w.2)
    rw [List.map_map] at q
    exact q.trans (List.Perm.of_eq (List.map_id _))
  · rw [List.map_map]
    refine (List.map_id ws').symm.trans (List.map_congr_left fun w hw => ?_)
    obtain ⟨x, _, rfl⟩ := List.mem_map.mp (h.mem_iff.mp hw)
    rfl
theorem dpF {K : PySem.W.Frag} {H : Hp} : ∀ {us : List (Addr × Rat)}, Rx K H us → DpAll K H (fr us) ((us.map (·.2)).map encF)
  | [], _ => .nil
  | u :: us, h => .cons (.tup (h u List.mem_cons_self) (dpi_all _)) (dpF fun x hx => h x (List.mem_cons_of_mem _ hx))
theorem dpP {K : PySem.W.Frag} {H : Hp} {t : Addr} {p : List Rat} (h : FT K H t p) : Dp K H (.ref t) (encP p) := by
  obtain ⟨us, h1, h2, rfl⟩ := h
  exact .tup h1 (dpF h2)
theorem FT.over {K : PySem.W.Frag} {H H' : Hp} {t D : Addr} {p : List Rat} {ys : List V} (h : FT K H t p) (hl : H D = some (.lst ys)) (e : ∀ b o, b ≠ D → H b = some o → H' b = some o) : FT K H' t p := by
  obtain ⟨us, h1, h2, h3⟩ := h
  exact ⟨us, over_tup h1 hl e, fun x hx => over_fx (h2 x hx) hl e, h3⟩
/-- a row of ranks and the point -/
def RkAt (K : PySem.W.Frag) (s : Int) (H : Hp) (t : Addr) (p : List Rat) : Prop := ∃ u b, SqT K H t [.ref u, .ref b] ∧ SqT K H u (zs (p.map fun r => rk r s)) ∧ FT K H b p
theorem RkAt.up {K : PySem.W.Frag} {s : Int} {H H' : Hp} {t : Addr} {p : List Rat} (e : Same H H') (h : RkAt K s H t p) : RkAt K s H' t p := by
  obtain ⟨u, b, h1, h2, h3⟩ := h
  exact ⟨u, b, same_tup e h1, same_tup e h2, FT.up e h3⟩
theorem RkAt.over {K : PySem.W.Frag} {s : Int} {H H' : Hp} {t D : Addr} {p : List Rat} {ys : List V} (h : RkAt K s H t p) (hl : H D = some (.lst ys)) (e : ∀ b o, b ≠ D → H b = some o → H' b = some o) : RkAt K s H' t p := by
  obtain ⟨u, b, h1, h2, h3⟩ := h
  exact ⟨u, b, over_tup h1 hl e, over_tup h2 hl e, h3.over hl e⟩
theorem dpO {K : PySem.W.Frag} {s : Int} {H : Hp} {t : Addr} {p : List Rat} (h : RkAt K s H t p) : Dp K H (.ref t) (encO s p) := by
  obtain ⟨u, b, h1, h2, h3⟩ := h
  exact .tup h1 (.cons (.tup h2 (dpi_all _)) (.cons (dpP h3) .nil))
theorem putL_new {L : NL} {l : List Rat} {b : Addr} {v : V} (h : ∀ p ∈ L, p.1 ≠ l) : putL L l b v = L ++ [(l, b, v)] := by
  have e : lkL L l = none := by
    unfold lkL
    rw [List.find?_eq_none.mpr (fun p hp => by simpa using h p hp)]
    rfl
  unfold putL
  rw [e]
  rfl
end OrderP

section Poly
open PySem PySem.Spec PyProof.Rows
def tri (a b c : Int × Int) : Int := (b.1 - a.1) * (c.2 - a.2) - (b.2 - a.2) * (c.1 - a.1)
def S2 (K : PySem.W.Frag) (H : Hp) (t : Addr) (a : Int × Int) : Prop := SqT K H t (zs [a.1, a.2])
def V2 (n : Nat) (a : Int × Int) : Prop := Bz n a.1 ∧ Bz n a.2
abbrev rTupOf (K : PySem.W.Frag) : List V → Hp → (V → Hp → Prop) → Prop := fun xs H Q => ∃ p ys, xs = [.ref p] ∧ ((SqL K H p ys ∧ ∀ l, H l = none → Q (.ref l) (upd H l (.tup ys))) ∨ (SqT K H p ys ∧ Q (.ref p) H))
def lcd (g : Nat) (l : List Rat) : Nat := l.foldl (fun g r => Nat.lcm g r.den) g
def ldv (ps : List (List Rat)) : Nat := lcd 1 ps.flatten
def trp (d : Nat) (p : List Rat) : List Int := p.map fun r => r.num * ((d : Int).fdiv (r.den : Int))
theorem lcd_app (g : Nat) (l m : List Rat) : lcd g (l ++ m) = lcd (lcd g l) m := List.foldl_append
theorem lcd_60 : ∀ (l : List Rat) (g : Nat), g ∣ 60 → (∀ r ∈ l, r.den ≤ 5) → lcd g l ∣ 60
  | [], _, h, _ => h
  | r :: l, g, h, k => by
    refine lcd_60 l _ (Nat.lcm_dvd h ?_) fun x hx => k x (List.mem_cons_of_mem _ hx)
    have h1 := k r List.mem_cons_self
    have h2 := r.den_pos
    have : ∀ d, d < 6 → 0 < d → d ∣ 60 := by decide
    exact this _ (by omega) h2
theorem ldv_60 {ps : List (List Rat)} (h : ∀ p ∈ ps, ∀ r ∈ p, r.den ≤ 5) : ldv ps ∣ 60 := lcd_60 _ _ (by decide) fun r hr => by
  obtain ⟨p, hp, hq⟩ := List.mem_flatten.mp hr
  exact h p hp r hq
def arn (a z : Int × Int) (m : List (Int × Int)) : List (Int × Int) := [a] ++ m.filter (fun c => decide (tri a z c < 0)) ++ [z] ++ (m.filter fun c => decide (0 ≤ tri a z c)).reverse
theorem opt_sel {α : Type} (f : α → Bool) (ws : List (Addr × α)) : (ws.map fun w => if f w.2 = true then some (V.ref w.1) else none).filterMap id = Ro (ws.filter fun w => f w.2) := by
  unfold Ro
  induction ws with
  | nil => rfl
  | cons w ws ih =>
    rw [List.map_cons]
    by_cases h : f w.2 = true
    · rw [if_pos h, List.filter_cons, if_pos h, List.map_cons, ← ih]
      rfl
    · rw [if_neg h, List.filter_cons, if_neg h, ← ih]
      rfl
theorem sel_map {α : Type} (f : α → Bool) (ws : List (Addr × α)) : (ws.filter fun w => f w.2).map (·.2) = (ws.map (·.2)).filter f := by
  rw [List.filter_map]
  rfl
theorem cutV_in {A : List V} {x y : V} : cutV (x :: (A ++ [y])) (some 1) (some (-1)) = A := by
  unfold cutV
  have n : (x :: (A ++ [y])).length = A.length + 2 := by simp
  have e1 : HT.sIx (x :: (A ++ [y])).length 0 (some 1) = 1 := by
    rw [n]
    show (if (1 : Int) < 0 then ((1 : Int) + ((A.length + 2 : Nat) : Int)).toNat else min (1 : Int).toNat (A.length + 2)) = 1
    rw [if_neg (by decide)]
    show min 1 (A.length + 2) = 1
    omega
  have e : HT.sIx (x :: (A ++ [y])).length (x :: (A ++ [y])).length (some (-1)) = A.length + 1 := by
    rw [n]
    show (if (-1 : Int) < 0 then ((-1 : Int) + ((A.length + 2 : Nat) : Int)).toNat else min (-1 : Int).toNat (A.length + 2)) = A.length + 1
    rw [if_pos (by decide)]
    omega
  rw [e, e1, List.drop_succ_cons, List.drop_zero, Nat.add_sub_cancel, List.take_left']
  rfl
def co3 (v : V3) : Nat → Int
  | 0 => v.1
  | 1 => v.2.1
  | _ => v.2.2
/-- the two coordinates that are left -/
def shd (ax : Nat) (p : List Int) : Int × Int := match ax with
  | 0 => (p.getD 1 0, p.getD 2 0)
  | 1 => (p.getD 2 0, p.getD 0 0)
  | _ => (p.getD 0 0, p.getD 1 0)
def shoe (q : List (Int × Int)) : Int := (List.zipWith (fun a b => tri (0, 0) a b) q (q.drop 1 ++ q.take 1)).sum
def arnd (l : List (Int × Int)) : List (Int × Int) := match l with
  | [] => []
  | a :: t => arn a (t.getLastD a) t.dropLast
def twc (ax : Nat) (ps : List (List Rat)) : Int := shoe (arnd ((ps.map (trp (ldv ps))).map (shd ax)))
theorem ax_first {v : V3} {ax : Nat} (ha : ax < 3) (h0 : co3 v ax ≠ 0) (hz : ∀ j < ax, co3 v j = 0) : ∃ rest, (((List.range 3).map fun (k : Nat) => if decide (co3 v k ≠ 0) = true then some (V.int (k : Int)) else none).filterMap id) = V.int (ax : Int) :: rest := by
  match ax, ha with
  | 0, _ =>
    have h0 : v.1 ≠ 0 := h0
    exact ⟨_, by simp [List.range_succ, co3, h0]; rfl⟩
  | 1, _ =>
    have h1 : v.1 = 0 := hz 0 (by decide)
    have h0 : v.2.1 ≠ 0 := h0
    exact ⟨_, by simp [List.range_succ, co3, h0, h1]; rfl⟩
  | 2, _ =>
    have h1 : v.1 = 0 := hz 0 (by decide)
    have h2 : v.2.1 = 0 := hz 1 (by decide)
    have h0 : v.2.2 ≠ 0 := h0
    exact ⟨[], by simp [List.range_succ, co3, h0, h1, h2]⟩
theorem l3_at {v : V3} {k : Nat} (h : k < 3) : atI (zs (l3 v)) (k : Int) = some (V.int (co3 v k)) := by
  match k, h with
  | 0, _ => exact atI_nat (j := 0) rfl
  | 1, _ => exact atI_nat (j := 1) rfl
  | 2, _ => exact atI_nat (j := 2) rfl
theorem shd_at {p : List Int} (hp : p.length = 3) {ax : Nat} (h : ax < 3) : atI (zs p) ((ax : Int) - 2) = some (V.int (shd ax p).1) ∧ atI (zs p) ((ax : Int) - 1) = some (V.int (shd ax p).2) := by
  match p, hp, ax, h with
  | [x, y, z], _, 0, _ => exact ⟨rfl, rfl⟩
  | [x, y, z], _, 1, _ => exact ⟨rfl, rfl⟩
  | [x, y, z], _, 2, _ => exact ⟨rfl, rfl⟩
theorem arn_len (a z : Int × Int) (m : List (Int × Int)) : (arn a z m).length = m.length + 2 := by
  have : (m.filter fun c => decide (tri a z c < 0)).length + (m.filter fun c => decide (0 ≤ tri a z c)).length = m.length := by
    induction m with
    | nil => rfl
    | cons c m ih =>
      by_cases h : tri a z c < 0
      · rw [List.filter_cons_of_pos (by simpa using h), List.filter_cons_of_neg (by simpa using h), List.length_cons, List.length_cons]
        omega
      · rw [List.filter_cons_of_neg (by simpa using h), List.filter_cons_of_pos (by simpa using Int.not_lt.mp h), List.length_cons, List.length_cons]
        omega
  unfold arn
  rw [List.length_append, List.length_append, List.length_append, List.length_reverse]
  show 1 + _ + 1 + _ = _
  omega
theorem trp_bz {d : Nat} {q : List Rat} (hd : d ≤ 60) (hb : ∀ r ∈ q, Bd 29 r) (k : Nat) : Bz 40 ((trp d q).getD k 0) := by
  show ((trp d q).getD k 0).natAbs < 2 ^ 40
  unfold trp
  rw [List.getD_eq_getElem?_getD, List.getElem?_map]
  cases e : q[k]? with
  | none => exact Nat.pos_of_ne_zero (by decide)
  | some r =>
    have h1 : r.num.natAbs < 2 ^ 29 := (hb r (List.mem_of_getElem? e)).1
    show (r.num * ((d : Int).fdiv (r.den : Int))).natAbs < 2 ^ 40
    have e2 : (d : Int).fdiv (r.den : Int) = ((d / r.den : Nat) : Int) := by
      rw [Int.fdiv_eq_ediv_of_nonneg _ (Int.natCast_nonneg _)]
      exact (Int.natCast_ediv _ _).symm
    rw [e2, Int.natAbs_mul, Int.natAbs_natCast]
    have h2 : d / r.den ≤ 60 := Nat.le_trans (Nat.div_le_self _ _) hd
    calc r.num.natAbs * (d / r.den) ≤ 2 ^ 29 * 60 := Nat.mul_le_mul (Nat.le_of_lt h1) h2
      _ < 2 ^ 40 := by decide
theorem shd_bz {ax d : Nat} {q : List Rat} (hd : d ≤ 60) (hb : ∀ r ∈ q, Bd 29 r) : V2 40 (shd ax (trp d q)) := by
  unfold shd
  split <;> exact ⟨trp_bz hd hb _, trp_bz hd hb _⟩
theorem arnd_eq (a z : Int × Int) (m : List (Int × Int)) : arnd (a :: (m ++ [z])) = arn a z m := by
  show arn a ((m ++ [z]).getLastD a) (m ++ [z]).dropLast = arn a z m
  rw [List.dropLast_concat, List.getLastD_concat]
end Poly

section Area
open PySem PySem.Spec PyProof.Rows
def tz (d : Nat) (r : Rat) : Int := r.num * ((d : Int).fdiv (r.den : Int))
theorem tz_cast {d : Nat} {r : Rat} (h : r.den ∣ d) : ((tz d r : Int) : Rat) = r * (d : Rat) := by
  obtain ⟨k, rfl⟩ := h
  have d0 : ((r.den : Nat) : Rat) ≠ 0 := by
    have := r.den_nz
    exact_mod_cast this
  have e : ((r.den * k : Nat) : Int).fdiv (r.den : Int) = (k : Int) := by
    rw [Int.natCast_mul]
    exact Int.mul_fdiv_cancel_left _ (by exact_mod_cast r.den_nz)
  unfold tz
  rw [e, Rat.intCast_mul, Rat.natCast_mul, Rat.intCast_natCast, ← Rat.mul_assoc]
  congr 1
  calc (r.num : Rat) = (r.num : Rat) / ((r.den : Nat) : Rat) * ((r.den : Nat) : Rat) := (Rat.div_mul_cancel d0).symm
    _ = r * ((r.den : Nat) : Rat) := by
      congr 1
      rw [← Rat.intCast_natCast, ← Rat.divInt_eq_div]
      exact Rat.num_divInt_den r
theorem lcd_dvd : ∀ (l : List Rat) (g : Nat), g ∣ lcd g l ∧ ∀ r ∈ l, r.den ∣ lcd g l
  | [], g => ⟨Nat.dvd_refl g, fun r h => (List.not_mem_nil h).elim⟩
  | x :: l, g => by
    obtain ⟨h1, h2⟩ := lcd_dvd l (Nat.lcm g x.den)
    refine ⟨Nat.dvd_trans (Nat.dvd_lcm_left _ _) h1, fun r hr => ?_⟩
    rcases List.mem_cons.mp hr with h | h
    · rw [h]
      exact Nat.dvd_trans (Nat.dvd_lcm_right _ _) h1
    · exact h2 r h
theorem ldv_dvd {ps : List (List Rat)} {p : List Rat} {r : Rat} (hp : p ∈ ps) (hr : r ∈ p) : r.den ∣ ldv ps := (lcd_dvd _ 1).2 r (List.mem_flatten.mpr ⟨p, hp, hr⟩)
theorem perm2 {α : Type} {l : List α} {a b : α} (h : l.Perm [a, b]) : l = [a, b] ∨ l = [b, a] := by
  match l, h.length_eq with
  | [x, y], _ =>
    rcases List.mem_cons.mp (h.mem_iff.mp (List.mem_cons_self (a := x) (l := [y]))) with e | e
    · subst e
      have := (List.perm_cons x).mp h
      rw [List.perm_singleton.mp this]
      exact .inl rfl
    · rw [List.mem_singleton.mp e] at h ⊢
      have := (List.perm_cons b).mp (h.trans (List.Perm.swap b a []))
      rw [List.perm_singleton.mp this]
      exact .inr rfl
theorem perm3 {α : Type} {l : List α} {a b c : α} (h : l.Perm [a, b, c]) : l = [a, b, c] ∨ l = [a, c, b] ∨ l = [b, a, c] ∨ l = [b, c, a] ∨ l = [c, a, b] ∨ l = [c, b, a] := by
  match l, h.length_eq with
  | x :: t, _ =>
    have hx := h.mem_iff.mp (List.mem_cons_self (a := x) (l := t))
    simp only [List.mem_cons, List.not_mem_nil, or_false] at hx
    rcases hx with e | e | e
    · subst e
      rcases perm2 ((List.perm_cons x).mp h) with e | e <;> simp [e]
    · subst e
      rcases perm2 ((List.perm_cons x).mp (h.trans (List.Perm.swap x a [c]))) with e | e <;> simp [e]
    · subst e
      rcases perm2 ((List.perm_cons x).mp (h.trans (((List.Perm.swap x b []).cons a).trans (List.Perm.swap x a [b])))) with e | e <;> simp [e]
theorem perm4 {α : Type} {l : List α} {a b c e : α} (h : l.Perm [a, b, c, e]) : ∃ x t, l = x :: t ∧ ((x = a ∧ t.Perm [b, c, e]) ∨ (x = b ∧ t.Perm [a, c, e]) ∨ (x = c ∧ t.Perm [a, b, e]) ∨ (x = e ∧ t.Perm [a, b, c])) := by
  match l, h.length_eq with
  | x :: t, _ =>
    refine ⟨x, t, rfl, ?_⟩
    have hx := h.mem_iff.mp (List.mem_cons_self (a := x) (l := t))
    simp only [List.mem_cons, List.not_mem_nil, or_false] at hx
    rcases hx with q | q | q | q
    · subst q
      exact .inl ⟨rfl, (List.perm_cons x).mp h⟩
    · subst q
      exact .inr (.inl ⟨rfl, (List.perm_cons x).mp (h.trans (List.Perm.swap x a _))⟩)
    · subst q
      exact .inr (.inr (.inl ⟨rfl, (List.perm_cons x).mp (h.trans (((List.Perm.swap x b _).cons a).trans (List.Perm.swap x a _)))⟩))
    · subst q
      exact .inr (.inr (.inr ⟨rfl, (List.perm_cons x).mp (h.trans ((((List.Perm.swap x c _).cons b).cons a).trans (((List.Perm.swap x b _).cons a).trans (List.Perm.swap x a _))))⟩))
theorem shoe3 (x y z : Int × Int) : shoe (arnd [x, y, z]) = ((tri x z y).natAbs : Int) := by
  rw [show [x, y, z] = x :: ([y] ++ [z]) from rfl, arnd_eq]
  unfold arn
  by_cases h : tri x z y < 0
  · rw [List.filter_cons_of_pos (by simpa using h), List.filter_cons_of_neg (by simpa using h)]
    have e : ((tri x z y).natAbs : Int) = - tri x z y := by omega
    rw [e]
    show tri (0, 0) x y + (tri (0, 0) y z + (tri (0, 0) z x + 0)) = _
    unfold tri
    grind
  · rw [List.filter_cons_of_neg (by simpa using h), List.filter_cons_of_pos (by simpa using Int.not_lt.mp h)]
    have e : ((tri x z y).natAbs : Int) = tri x z y := by omega
    rw [e]
    show tri (0, 0) x z + (tri (0, 0) z y + (tri (0, 0) y x + 0)) = _
    unfold tri
    grind
theorem shoe4 {x y w z : Int × Int} (h1 : x.1 + z.1 = y.1 + w.1) (h2 : x.2 + z.2 = y.2 + w.2) : shoe (arnd [x, y, w, z]) = 2 * ((tri x z y).natAbs : Int) := by
  rw [show [x, y, w, z] = x :: ([y, w] ++ [z]) from rfl, arnd_eq]
  have ew : tri x z w = - tri x z y := by
    have e1 : w.1 = x.1 + z.1 - y.1 := by omega
    have e2 : w.2 = x.2 + z.2 - y.2 := by omega
    unfold tri
    rw [e1, e2]
    grind
  have w1 : w.1 = x.1 + z.1 - y.1 := by omega
  have w2 : w.2 = x.2 + z.2 - y.2 := by omega
  unfold arn
  by_cases h : tri x z y < 0
  · rw [List.filter_cons_of_pos (by simpa using h), List.filter_cons_of_neg (by rw [ew]; simp; omega), List.filter_cons_of_neg (by simpa using h), List.filter_cons_of_pos (by rw [ew]; simp; omega)]
    have e : ((tri x z y).natAbs : Int) = - tri x z y := by omega
    rw [e]
    show tri (0, 0) x y + (tri (0, 0) y z + (tri (0, 0) z w + (tri (0, 0) w x + 0))) = _
    unfold tri
    rw [w1, w2]
    grind
  · by_cases h0 : tri x z y = 0
    · rw [List.filter_cons_of_neg (by simpa using h), List.filter_cons_of_neg (by rw [ew]; simp; omega), List.filter_cons_of_pos (by simp; omega), List.filter_cons_of_pos (by rw [ew]; simp; omega)]
      rw [h0]
      show tri (0, 0) x z + (tri (0, 0) z w + (tri (0, 0) w y + (tri (0, 0) y x + 0))) = _
      unfold tri at h0 ⊢
      rw [w1, w2]
      grind
    · rw [List.filter_cons_of_neg (by simpa using h), List.filter_cons_of_pos (by rw [ew]; simp; omega), List.filter_cons_of_pos (by simp; omega), List.filter_cons_of_neg (by rw [ew]; simp; omega)]
      have e : ((tri x z y).natAbs : Int) = tri x z y := by omega
      rw [e]
      show tri (0, 0) x w + (tri (0, 0) w z + (tri (0, 0) z y + (tri (0, 0) y x + 0))) = _
      unfold tri
      rw [w1, w2]
      grind
/-- the point s + a u + b v -/
def pnt (s0 s1 s2 : Rat) (u v : V3) (a b : Int) : List Rat := [s0 + a * u.1 + b * v.1, s1 + a * u.2.1 + b * v.2.1, s2 + a * u.2.2 + b * v.2.2]
theorem tz_pnt {d : Nat} {s t : Rat} {n : Int} (h : s.den ∣ d) (h' : t.den ∣ d) (e : t = s + (n : Rat)) : tz d t = tz d s + n * (d : Int) := by
  have : ((tz d t : Int) : Rat) = ((tz d s + n * (d : Int) : Int) : Rat) := by
    rw [tz_cast h', Rat.intCast_add, tz_cast h, Rat.intCast_mul, Rat.intCast_natCast, e, Rat.add_mul]
  exact_mod_cast this
/-- the two coordinates of a vector that are left -/
def sh3 (ax : Nat) (v : V3) : Int × Int := shd ax (l3 v)
theorem shd_tz {ax d : Nat} {x y z : Rat} : shd ax (trp d [x, y, z]) = (match ax with
  | 0 => (tz d y, tz d z)
  | 1 => (tz d z, tz d x)
  | _ => (tz d x, tz d y)) := by
  match ax with
  | 0 => rfl
  | 1 => rfl
  | n + 2 => rfl
/-- where the points lie in the shadow -/
theorem shd_pnt {ax d : Nat} {s0 s1 s2 : Rat} {u v : V3} {a b : Int} (h0 : ∀ r ∈ pnt s0 s1 s2 u v 0 0, r.den ∣ d) (h : ∀ r ∈ pnt s0 s1 s2 u v a b, r.den ∣ d) :
    shd ax (trp d (pnt s0 s1 s2 u v a b)) = ((shd ax (trp d (pnt s0 s1 s2 u v 0 0))).1 + (a * (sh3 ax u).1 + b * (sh3 ax v).1) * (d : Int), (shd ax (trp d (pnt s0 s1 s2 u v 0 0))).2 + (a * (sh3 ax u).2 + b * (sh3 ax v).2) * (d : Int)) := by
  have k0 : tz d (s0 + a * u.1 + b * v.1) = tz d (s0 + (0 : Int) * u.1 + (0 : Int) * v.1) + (a * u.1 + b * v.1) * (d : Int) := tz_pnt (h0 _ (by simp [pnt])) (h _ (by simp [pnt])) (by push_cast; grind)
  have k1 : tz d (s1 + a * u.2.1 + b * v.2.1) = tz d (s1 + (0 : Int) * u.2.1 + (0 : Int) * v.2.1) + (a * u.2.1 + b * v.2.1) * (d : Int) := tz_pnt (h0 _ (by simp [pnt])) (h _ (by simp [pnt])) (by push_cast; grind)
  have k2 : tz d (s2 + a * u.2.2 + b * v.2.2) = tz d (s2 + (0 : Int) * u.2.2 + (0 : Int) * v.2.2) + (a * u.2.2 + b * v.2.2) * (d : Int) := tz_pnt (h0 _ (by simp [pnt])) (h _ (by simp [pnt])) (by push_cast; grind)
  unfold pnt
  rw [shd_tz, shd_tz]
  match ax with
  | 0 => exact Prod.ext k1 k2
  | 1 => exact Prod.ext k2 k0
  | n + 2 => exact Prod.ext k0 k1
theorem sh_cross (ax : Nat) (u v : V3) : (sh3 ax u).1 * (sh3 ax v).2 - (sh3 ax u).2 * (sh3 ax v).1 = co3 (crs u v) ax := by
  match ax with
  | 0 => rfl
  | 1 => rfl
  | n + 2 => rfl
/-- any three corners of the parallelogram -/
theorem tri_pnt {ax d : Nat} {s0 s1 s2 : Rat} {u v : V3} {a1 b1 a2 b2 a3 b3 : Int} (h0 : ∀ r ∈ pnt s0 s1 s2 u v 0 0, r.den ∣ d) (h1 : ∀ r ∈ pnt s0 s1 s2 u v a1 b1, r.den ∣ d) (h2 : ∀ r ∈ pnt s0 s1 s2 u v a2 b2, r.den ∣ d) (h3 : ∀ r ∈ pnt s0 s1 s2 u v a3 b3, r.den ∣ d) :
    tri (shd ax (trp d (pnt s0 s1 s2 u v a1 b1))) (shd ax (trp d (pnt s0 s1 s2 u v a2 b2))) (shd ax (trp d (pnt s0 s1 s2 u v a3 b3))) = ((a2 - a1) * (b3 - b1) - (b2 - b1) * (a3 - a1)) * (co3 (crs u v) ax * ((d : Int) * (d : Int))) := by
  rw [shd_pnt h0 h1, shd_pnt h0 h2, shd_pnt h0 h3, ← sh_cross]
  unfold tri
  grind
theorem natAbs_one {e C : Int} {x : Int} (h : x = e * C) (he : e = 1 ∨ e = -1) : x.natAbs = C.natAbs := by
  rcases he with rfl | rfl
  · rw [h, Int.one_mul]
  · rw [h, Int.neg_one_mul, Int.natAbs_neg]
/-- the triangle's shadow, twice -/
theorem twc_tri {ax : Nat} {s0 s1 s2 : Rat} {u v : V3} {ps : List (List Rat)} (h : ps.Perm [pnt s0 s1 s2 u v 0 0, pnt s0 s1 s2 u v 1 0, pnt s0 s1 s2 u v 0 1]) :
    twc ax ps = ((co3 (crs u v) ax * (((ldv ps : Nat) : Int) * ((ldv ps : Nat) : Int))).natAbs : Int) := by
  have hd : ∀ p ∈ ps, ∀ r ∈ p, r.den ∣ ldv ps := fun p hp r hr => ldv_dvd hp hr
  have m0 := hd _ (h.mem_iff.mpr (by simp : pnt s0 s1 s2 u v 0 0 ∈ _))
  have m1 := hd _ (h.mem_iff.mpr (by simp : pnt s0 s1 s2 u v 1 0 ∈ _))
  have m2 := hd _ (h.mem_iff.mpr (by simp : pnt s0 s1 s2 u v 0 1 ∈ _))
  unfold twc
  generalize ldv ps = d at m0 m1 m2 ⊢
  rcases perm3 h with e | e | e | e | e | e <;> subst e <;>
    (simp only [List.map_cons, List.map_nil]; rw [shoe3]; congr 1)
  · exact natAbs_one (tri_pnt m0 m0 m2 m1) (by decide)
  · exact natAbs_one (tri_pnt m0 m0 m1 m2) (by decide)
  · exact natAbs_one (tri_pnt m0 m1 m2 m0) (by decide)
  · exact natAbs_one (tri_pnt m0 m1 m0 m2) (by decide)
  · exact natAbs_one (tri_pnt m0 m2 m1 m0) (by decide)
  · exact natAbs_one (tri_pnt m0 m2 m0 m1) (by decide)
def sg3 (c p : List Rat) : List Rat := List.zipWith (fun a b => a - b) c p
theorem sg3_rev {c x y : List Rat} (hc : c.length = 3) (h : lt3 x y) : lt3 (sg3 c y) (sg3 c x) := by
  match c, hc, x, y, h with
  | [p, q, r], _, [a, b, e], [x, y, z], h =>
    show p - x < p - a ∨ (p - x = p - a ∧ (q - y < q - b ∨ (q - y = q - b ∧ r - z < r - e)))
    have sl : ∀ {m a b : Rat}, a < b → m - b < m - a := fun h => by grind
    rcases h with h | ⟨h1, h | ⟨h2, h⟩⟩
    · exact .inl (sl h)
    · exact .inr ⟨by rw [h1], .inl (sl h)⟩
    · exact .inr ⟨by rw [h1], .inr ⟨by rw [h2], sl h⟩⟩
theorem lt3_anti {x y : List Rat} (h1 : lt3 x y) (h2 : lt3 y x) : False := by
  match x, y, h1, h2 with
  | [a, b, c], [x, y, z], h1, h2 =>
    rcases h1 with h1 | ⟨e1, h1 | ⟨e2, h1⟩⟩ <;> rcases h2 with h2 | ⟨f1, h2 | ⟨f2, h2⟩⟩ <;> grind
theorem mirror {c x y w z : List Rat} {L : List (List Rat)} (hc : c.length = 3) (hp : [x, y, w, z].Perm L) (hL : (L.map (sg3 c)).Perm L) (hs : [x, y, w, z].Pairwise lt3) : z = sg3 c x ∧ w = sg3 c y := by
  have h1 : [sg3 c z, sg3 c w, sg3 c y, sg3 c x].Perm [x, y, w, z] := by
    have a1 : [sg3 c z, sg3 c w, sg3 c y, sg3 c x].Perm [sg3 c x, sg3 c y, sg3 c w, sg3 c z] := List.reverse_perm [sg3 c x, sg3 c y, sg3 c w, sg3 c z]
    exact a1.trans ((hp.map (sg3 c)).trans (hL.trans hp.symm))
  have h2 : [sg3 c z, sg3 c w, sg3 c y, sg3 c x].Pairwise lt3 := by
    simp only [List.pairwise_cons, List.mem_cons, List.not_mem_nil, or_false, forall_eq_or_imp, forall_eq] at hs
    obtain ⟨⟨q1, q2, q3⟩, ⟨q4, q5⟩, q6, _⟩ := hs
    have r := fun {a b : List Rat} (h : lt3 a b) => sg3_rev hc h
    simp only [List.pairwise_cons, List.mem_cons, List.not_mem_nil, or_false, forall_eq_or_imp, forall_eq]
    exact ⟨⟨r q6, r q5, r q3⟩, ⟨r q4, r q2⟩, r q1, (fun _ h => h.elim), .nil⟩
  have e := sorted_one (le := fun a b => a = b ∨ lt3 a b) (fun a b g1 g2 => by
    rcases g1 with g | g
    · exact g
    · rcases g2 with k | k
      · exact k.symm
      · exact (lt3_anti g k).elim) (fun _ => .inl rfl) h1 (h2.imp .inr) (hs.imp .inr)
  injection e with e1 e
  injection e with e2 e
  injection e with e3 e
  injection e with e4 _
  exact ⟨e4.symm, e3.symm⟩
theorem sg_pnt (s0 s1 s2 : Rat) (u v : V3) (a b : Int) : sg3 [s0 + s0 + u.1 + v.1, s1 + s1 + u.2.1 + v.2.1, s2 + s2 + u.2.2 + v.2.2] (pnt s0 s1 s2 u v a b) = pnt s0 s1 s2 u v (1 - a) (1 - b) := by
  have k : ∀ (s : Rat) (x y : Int), s + s + (x : Rat) + (y : Rat) - (s + a * x + b * y) = s + ((1 - a : Int) : Rat) * x + ((1 - b : Int) : Rat) * y := fun s x y => by
    rw [Rat.intCast_sub, Rat.intCast_sub]
    have e : ((1 : Int) : Rat) = 1 := rfl
    rw [e]
    grind
  exact List.cons_eq_cons.mpr ⟨k _ _ _, List.cons_eq_cons.mpr ⟨k _ _ _, List.cons_eq_cons.mpr ⟨k _ _ _, rfl⟩⟩⟩
theorem in4 {s0 s1 s2 : Rat} {u v : V3} {p : List Rat} (h : p ∈ [pnt s0 s1 s2 u v 0 0, pnt s0 s1 s2 u v 1 0, pnt s0 s1 s2 u v 0 1, pnt s0 s1 s2 u v 1 1]) : ∃ a b : Int, (a = 0 ∨ a = 1) ∧ (b = 0 ∨ b = 1) ∧ p = pnt s0 s1 s2 u v a b := by
  simp only [List.mem_cons, List.not_mem_nil, or_false] at h
  rcases h with h | h | h | h
  · exact ⟨0, 0, .inl rfl, .inl rfl, h⟩
  · exact ⟨1, 0, .inr rfl, .inl rfl, h⟩
  · exact ⟨0, 1, .inl rfl, .inr rfl, h⟩
  · exact ⟨1, 1, .inr rfl, .inr rfl, h⟩
/-- the parallelogram's shadow, twice -/
theorem twc_par {ax : Nat} {s0 s1 s2 : Rat} {u v : V3} {ps : List (List Rat)} (h : ps.Perm [pnt s0 s1 s2 u v 0 0, pnt s0 s1 s2 u v 1 0, pnt s0 s1 s2 u v 0 1, pnt s0 s1 s2 u v 1 1]) (hs : ps.Pairwise lt3) :
    twc ax ps = 2 * ((co3 (crs u v) ax * (((ldv ps : Nat) : Int) * ((ldv ps : Nat) : Int))).natAbs : Int) := by
  have hd : ∀ p ∈ ps, ∀ r ∈ p, r.den ∣ ldv ps := fun p hp r hr => ldv_dvd hp hr
  have hm : ∀ p ∈ ps, ∃ a b : Int, (a = 0 ∨ a = 1) ∧ (b = 0 ∨ b = 1) ∧ p = pnt s0 s1 s2 u v a b := fun p hp => in4 (h.mem_iff.mp hp)
  have m0 := hd _ (h.mem_iff.mpr (by simp : pnt s0 s1 s2 u v 0 0 ∈ _))
  unfold twc
  generalize ldv ps = d at hd m0 ⊢
  obtain ⟨x, y, w, z, rfl⟩ : ∃ x y w z, ps = [x, y, w, z] := by
    match ps, h.length_eq with
    | [x, y, w, z], _ => exact ⟨x, y, w, z, rfl⟩
  obtain ⟨ez, ew⟩ := mirror (c := [s0 + s0 + u.1 + v.1, s1 + s1 + u.2.1 + v.2.1, s2 + s2 + u.2.2 + v.2.2]) rfl h (by
    simp only [List.map_cons, List.map_nil, sg_pnt]
    exact List.reverse_perm [pnt s0 s1 s2 u v 0 0, pnt s0 s1 s2 u v 1 0, pnt s0 s1 s2 u v 0 1, pnt s0 s1 s2 u v 1 1]) hs
  simp only [List.pairwise_cons, List.mem_cons, List.not_mem_nil, or_false, forall_eq_or_imp, forall_eq] at hs
  obtain ⟨⟨q1, _, _⟩, ⟨_, q5⟩, _⟩ := hs
  obtain ⟨a1, b1, ha1, hb1, ex⟩ := hm x (by simp)
  obtain ⟨a3, b3, ha3, hb3, ey⟩ := hm y (by simp)
  rw [ex, sg_pnt] at ez
  rw [ey, sg_pnt] at ew
  have dx := hd x (by simp)
  have dy := hd y (by simp)
  have dw := hd w (by simp)
  have dz := hd z (by simp)
  rw [ex] at dx
  rw [ey] at dy
  rw [ew] at dw
  rw [ez] at dz
  have co : (((1 - a1) - a1) * (b3 - b1) - ((1 - b1) - b1) * (a3 - a1) = 1 ∨ ((1 - a1) - a1) * (b3 - b1) - ((1 - b1) - b1) * (a3 - a1) = -1) ∨ (a3 = a1 ∧ b3 = b1) ∨ (a3 = 1 - a1 ∧ b3 = 1 - b1) := by
    rcases ha1 with rfl | rfl <;> rcases hb1 with rfl | rfl <;> rcases ha3 with rfl | rfl <;> rcases hb3 with rfl | rfl <;> decide
  rcases co with co | ⟨e1, e2⟩ | ⟨e1, e2⟩
  · have e := natAbs_one (tri_pnt (ax := ax) m0 dx dz dy) co
    simp only [List.map_cons, List.map_nil]
    rw [ex, ey, ew, ez]
    rw [shoe4, e]
    · rw [shd_pnt m0 dx, shd_pnt m0 dy, shd_pnt m0 dw, shd_pnt m0 dz]
      grind
    · rw [shd_pnt m0 dx, shd_pnt m0 dy, shd_pnt m0 dw, shd_pnt m0 dz]
      grind
  · subst e1 e2
    rw [ex, ey] at q1
    exact (lt3_anti q1 q1).elim
  · subst e1 e2
    rw [ey, ez] at q5
    exact (lt3_anti q5 q5).elim
theorem ldv_pos {ps : List (List Rat)} : 0 < ldv ps := by
  have : ∀ (l : List Rat) (g : Nat), 0 < g → 0 < lcd g l := by
    intro l
    induction l with
    | nil => exact fun g h => h
    | cons r l ih => exact fun g h => ih _ (Nat.lcm_pos h r.den_pos)
  exact this _ 1 (by decide)
theorem area_div {C N : Int} {d : Nat} (hd : 0 < d) (hN : N ≠ 0) (k : Int) : Rat.divInt (k * ((C * ((d : Int) * (d : Int))).natAbs : Int)) (2 * (d : Int) * (d : Int) * (N.natAbs : Int)) = Rat.divInt (C.natAbs : Int) (2 * (N.natAbs : Int)) * ((k : Int) : Rat) := by
  have d0 : ((d : Int) * (d : Int)) ≠ 0 := Int.mul_ne_zero (by omega) (by omega)
  have e1 : ((C * ((d : Int) * (d : Int))).natAbs : Int) = (C.natAbs : Int) * ((d : Int) * (d : Int)) := by
    rw [Int.natAbs_mul, Int.natAbs_mul, Int.natAbs_natCast, Int.natCast_mul, Int.natCast_mul]
  have e2 : 2 * (d : Int) * (d : Int) * (N.natAbs : Int) = (2 * (N.natAbs : Int)) * ((d : Int) * (d : Int)) := by grind
  rw [e1, e2, ← Int.mul_assoc, Rat.divInt_mul_right d0, Rat.divInt_eq_div, Rat.divInt_eq_div, Rat.intCast_mul, Rat.div_def, Rat.div_def]
  grind
end Area


section
variable {P : Program} {w : World} {K : PySem.W.Frag} {mg : Str → Option Value} {base : Heap}
def spFraction (K : PySem.W.Frag) (CNought : Addr) : Sp := fun vs H Q E => ∃ n d : Int, vs = [.int n, .int d] ∧ Bz 8500 d ∧ (d = 0 → E (.ref CNought) none H) ∧ (d ≠ 0 → ∀ (H' : Hp) (t : Addr), Same H H' → Fx K H' t (Rat.divInt n d) → Q (.ref t) H')
theorem okFraction {fFraction : Addr} {fdFraction : FuncData} (F : FunD K "fraction" "fraction" (defArgs sFraction) (defBody sFraction) (defScope sFraction) [.int 1] [] fFraction fdFraction) (T : Txt mg) {aZERO : Addr} (CT : Cons K mg aZERO) {CPartError CNought : Addr} (EX : Exns K mg CPartError CNought) :
    FnOk P w K mg base (L2.CX P w) 1 fFraction fdFraction ["number", "divisor"] (spFraction K CNought) := by
  refine F.ok scFraction (fun vs H Q E h => ?_) (fun cdv A outer s H vs Q E hr h => ?_)
  · obtain ⟨n, d, rfl, hb, he, q⟩ := h
    rfl
  · obtain ⟨n, d, rfl, hb, he, q⟩ := h
    refine ⟨_, (pss_cons (ps_if (pt_cmpR op_eq (pv 1) pe_int (nomark _))
        (pss_one (ps_ret (pe_tup (pa_cons (pv 0) (pa_cons pe_int pa_nil)))))
        pss_nil)
      (pss_cons (ps_if (pt_cmpR op_eq (pv 1) pe_int (nomark _))
        (pss_one (ps_raise rfl (takes_of rfl rfl rfl rfl) (pmk_own PySem.F.excBase_ValueError EX.xNought EX.gNought EX.kNought (raises_own EX.bNought EX.tNought) rfl)))
        pss_nil)
      (pss_cons (ps_set (i := 2) scFraction.nd rfl (Or.inl rfl) (pe_callBfun cr_gcd (by rfl) T.gcd (pa_cons (pv 0) (pa_cons (pv 1) pa_nil))))
      (C8.pss_cut (ps_if (pt_cmpR op_lt (pv 1) pe_int (nomark _))
        (pss_one (ps_set (i := 2) scFraction.nd rfl (Or.inl rfl) (pe_un un_neg (pv 2))))
        pss_nil)
      (pss_one (ps_ret (pe_tup (pa_cons (pe_op op_fdivX (pv 0) (pv 2)) (pa_cons (pe_op op_fdivX (pv 1) (pv 2)) pa_nil))))))))), ?_⟩
    walk_at "rd"
    refine ite2 (fun g1 => ?_) (fun g1 => ?_)
    · obtain rfl : d = 1 := eq_of_dec g1
      refine ⟨_, rfl, by show 2 ≤ sizeLine; decide, fun t ht => ?_⟩
      exact q (by decide) _ t (same_upd ht) (fx_rd (by decide) (by unfold rd2; rw [rd_one]; exact upd_same))
    walk_at "rd"
    refine ite2 (fun g => ?_) (fun g => ?_)
    · exact he (eq_of_dec g)
    · have hd := ne_of_nodec g
      refine ⟨_, rfl, _, rfl, n, d, rfl, ?_⟩
      refine ⟨fun σ' H' => σ' = [some (.int n), some (.int d), some (.int (sg n d))] ∧ H' = H, ?_, ?_⟩
      · walk_at "rd"
        refine ite2 (fun g2 => ?_) (fun g2 => ?_)
        · refine ⟨_, rfl, _, rfl, ?_, rfl⟩
          unfold sg
          rw [if_pos (of_decide_eq_true g2)]
          rfl
        · refine ⟨?_, rfl⟩
          unfold sg
          rw [if_neg (fun z => g2 (decide_eq_true z))]
          rfl
      · rintro σ' H' ⟨rfl, rfl⟩
        have hs := sg_ne (n := n) hd
        have hsb : (sg n d).natAbs < 2 ^ 8500 := by
          rw [sg_abs]
          exact Nat.lt_of_le_of_lt (Nat.le_of_dvd (by omega) (Nat.gcd_dvd_right _ _)) hb
        refine ⟨_, rfl, _, rfl, _, _, rfl, rfl, wide_divx hs hsb (by decide) (by decide), _, rfl, _, rfl, _, _, rfl, rfl, wide_divx hs hsb (by decide) (by decide), by show 2 ≤ sizeLine; decide, fun t ht => ?_⟩
        exact q hd _ t (same_upd ht) (fx_rd hd upd_same)
def spX2 (K : PySem.W.Frag) (c : Nat) (op : Rat → Rat → Rat) : Sp := fun vs H Q _ => ∃ (a b : Addr) (r s : Rat) (n m : Nat), vs = [.ref a, .ref b] ∧ Fx K H a r ∧ Fx K H b s ∧ Bd n r ∧ Bd m s ∧ n + m ≤ c ∧
  ∀ (H' : Hp) (t : Addr), Same H H' → Fx K H' t (op r s) → Q (.ref t) H'
def spPlus (K : PySem.W.Frag) : Sp := spX2 K 8000 (fun r s => r + s)
theorem okPlus {fPlus : Addr} {fdPlus : FuncData} (F : Fun K "plus" "plus" sPlus fPlus fdPlus) (T : Txt mg) {aZERO : Addr} (CT : Cons K mg aZERO) {CPartError CNought : Addr} (EX : Exns K mg CPartError CNought)
    {fFraction : Addr} {fdFraction : FuncData} (GFraction : FnOk P w K mg base (L2.CX P w) 1 fFraction fdFraction ["number", "divisor"] (spFraction K CNought)) (gFraction : mg "fraction" = some (.ref fFraction)) (kpFraction : PySem.W.keepIn K (.ref fFraction) = true) (bFraction : Binds K fdFraction ["number", "divisor"] []) {dsFraction : List Value} (vdFraction : Vals [.int 1] dsFraction) (bdFraction : Binds K fdFraction ["number", "divisor"] dsFraction) :
    FnOk P w K mg base CX0 2 fPlus fdPlus ["a", "b"] (spPlus K) := by
  refine F.ok scPlus (fun vs H Q E h => ?_) (fun cdv A outer s H vs Q E hr h => ?_)
  · obtain ⟨a, b, r, s, n, m, rfl, hA, hB, hn, hm, hc, k⟩ := h
    rfl
  · obtain ⟨a, b, r, s, n, m, rfl, hA, hB, hn, hm, hc, k⟩ := h
    refine ⟨_, (pss_one (ps_ret (pe_call GFraction hr (by rfl) gFraction kpFraction bFraction .nil passL (pa_cons (pe_op op_add (pe_op op_mulW (pe_ix ix_tup (pv 0) pe_int (fun _ _ => rfl)) (pe_ix ix_tup (pv 1) pe_int (fun _ _ => rfl))) (pe_op op_mulW (pe_ix ix_tup (pv 1) pe_int (fun _ _ => rfl)) (pe_ix ix_tup (pv 0) pe_int (fun _ _ => rfl)))) (pa_cons (pe_op op_mulW (pe_ix ix_tup (pv 0) pe_int (fun _ _ => rfl)) (pe_ix ix_tup (pv 1) pe_int (fun _ _ => rfl))) pa_nil))))), ?_⟩
    have hd : Bz 8500 ((r.den : Int) * (s.den : Int)) := (hn.dz.mul hm.dz).up (by omega)
    replace hn : Bd 8000 r := hn.up (by omega)
    replace hm : Bd 8000 s := hm.up (by omega)
    walk_at "go"
    exact ⟨fun h => absurd h (dd_ne r s), fun _ H' t s1 e1 => k H' t s1 (by show Fx K H' t (r + s); rw [add_div]; exact e1)⟩

def spMinus (K : PySem.W.Frag) : Sp := spX2 K 8000 (fun r s => r - s)
theorem okMinus {fMinus : Addr} {fdMinus : FuncData} (F : Fun K "minus" "minus" sMinus fMinus fdMinus) (T : Txt mg) {aZERO : Addr} (CT : Cons K mg aZERO) {CPartError CNought : Addr} (EX : Exns K mg CPartError CNought)
    {fFraction : Addr} {fdFraction : FuncData} (GFraction : FnOk P w K mg base (L2.CX P w) 1 fFraction fdFraction ["number", "divisor"] (spFraction K CNought)) (gFraction : mg "fraction" = some (.ref fFraction)) (kpFraction : PySem.W.keepIn K (.ref fFraction) = true) (bFraction : Binds K fdFraction ["number", "divisor"] []) {dsFraction : List Value} (vdFraction : Vals [.int 1] dsFraction) (bdFraction : Binds K fdFraction ["number", "divisor"] dsFraction) :
    FnOk P w K mg base CX0 2 fMinus fdMinus ["a", "b"] (spMinus K) := by
  refine F.ok scMinus (fun vs H Q E h => ?_) (fun cdv A outer s H vs Q E hr h => ?_)
  · obtain ⟨a, b, r, s, n, m, rfl, hA, hB, hn, hm, hc, k⟩ := h
    rfl
  · obtain ⟨a, b, r, s, n, m, rfl, hA, hB, hn, hm, hc, k⟩ := h
    refine ⟨_, (pss_one (ps_ret (pe_call GFraction hr (by rfl) gFraction kpFraction bFraction .nil passL (pa_cons (pe_op op_sub (pe_op op_mulW (pe_ix ix_tup (pv 0) pe_int (fun _ _ => rfl)) (pe_ix ix_tup (pv 1) pe_int (fun _ _ => rfl))) (pe_op op_mulW (pe_ix ix_tup (pv 1) pe_int (fun _ _ => rfl)) (pe_ix ix_tup (pv 0) pe_int (fun _ _ => rfl)))) (pa_cons (pe_op op_mulW (pe_ix ix_tup (pv 0) pe_int (fun _ _ => rfl)) (pe_ix ix_tup (pv 1) pe_int (fun _ _ => rfl))) pa_nil))))), ?_⟩
    have hd : Bz 8500 ((r.den : Int) * (s.den : Int)) := (hn.dz.mul hm.dz).up (by omega)
    replace hn : Bd 8000 r := hn.up (by omega)
    replace hm : Bd 8000 s := hm.up (by omega)
    walk_at "go"
    exact ⟨fun h => absurd h (dd_ne r s), fun _ H' t s1 e1 => k H' t s1 (by show Fx K H' t (r - s); rw [sub_div]; exact e1)⟩
theorem ov_div {r s : Rat} : r / s = Rat.divInt (r.num * s.den) (r.den * s.num) := by
  have h1 : (r.num : Rat) / ((r.den : Int) : Rat) = r := by rw [← Rat.divInt_eq_div, Rat.num_divInt_den]
  have h2 : (s.num : Rat) / ((s.den : Int) : Rat) = s := by rw [← Rat.divInt_eq_div, Rat.num_divInt_den]
  have d1 : ((r.den : Int) : Rat) ≠ 0 := fun z => den_ne r (Rat.intCast_inj.mp z)
  have d2 : ((s.den : Int) : Rat) ≠ 0 := fun z => den_ne s (Rat.intCast_inj.mp z)
  rw [Rat.divInt_eq_div, Rat.intCast_mul, Rat.intCast_mul]
  generalize (r.num : Rat) = a at *
  generalize (s.num : Rat) = b at *
  generalize ((r.den : Int) : Rat) = c at *
  generalize ((s.den : Int) : Rat) = d at *
  subst h1 h2
  by_cases hb : b = 0
  · subst hb
    grind
  · grind
theorem od_ne {r s : Rat} (h : s ≠ 0) : (r.den : Int) * s.num ≠ 0 := Int.mul_ne_zero (den_ne r) (fun z => h (by rw [← Rat.num_divInt_den s, z]; simp))
theorem Bd.div {n m : Nat} {r s : Rat} (h1 : Bd n r) (h2 : Bd m s) : Bd (n + m) (r / s) := by
  by_cases h : s = 0
  · subst h
    rw [Rat.div_def, show (0 : Rat)⁻¹ = 0 from by decide +kernel, Rat.mul_zero]
    have := h1.2
    have hn : 0 < n := by
      rcases Nat.eq_zero_or_pos n with e | e
      · subst e
        have := r.den_pos
        omega
      · exact e
    exact bd_zero.up (by omega)
  · rw [ov_div]
    exact bd_of (od_ne h) (wl h1.1 h2.dz) (wl h1.dz h2.1)
def spOver (K : PySem.W.Frag) : Sp := fun vs H Q E => ∃ (a b : Addr) (r s : Rat) (n m : Nat), vs = [.ref a, .ref b] ∧ Fx K H a r ∧ Fx K H b s ∧ Bd n r ∧ Bd m s ∧ n + m ≤ 8000 ∧ s ≠ 0 ∧
  ∀ (H' : Hp) (t : Addr), Same H H' → Fx K H' t (r / s) → Q (.ref t) H'
theorem okOver {fOver : Addr} {fdOver : FuncData} (F : Fun K "over" "over" sOver fOver fdOver) (T : Txt mg) {aZERO : Addr} (CT : Cons K mg aZERO) {CPartError CNought : Addr} (EX : Exns K mg CPartError CNought)
    {fFraction : Addr} {fdFraction : FuncData} (GFraction : FnOk P w K mg base (L2.CX P w) 1 fFraction fdFraction ["number", "divisor"] (spFraction K CNought)) (gFraction : mg "fraction" = some (.ref fFraction)) (kpFraction : PySem.W.keepIn K (.ref fFraction) = true) (bFraction : Binds K fdFraction ["number", "divisor"] []) {dsFraction : List Value} (vdFraction : Vals [.int 1] dsFraction) (bdFraction : Binds K fdFraction ["number", "divisor"] dsFraction) :
    FnOk P w K mg base CX0 2 fOver fdOver ["a", "b"] (spOver K) := by
  refine F.ok scOver (fun vs H Q E h => ?_) (fun cdv A outer s H vs Q E hr h => ?_)
  · obtain ⟨a, b, r, s, n, m, rfl, hA, hB, hn, hm, hc, h0, k⟩ := h
    rfl
  · obtain ⟨a, b, r, s, n, m, rfl, hA, hB, hn, hm, hc, h0, k⟩ := h
    refine ⟨_, (pss_one (ps_ret (pe_call GFraction hr (by rfl) gFraction kpFraction bFraction .nil passL (pa_cons (pe_op op_mulW (pe_ix ix_tup (pv 0) pe_int (fun _ _ => rfl)) (pe_ix ix_tup (pv 1) pe_int (fun _ _ => rfl))) (pa_cons (pe_op op_mulW (pe_ix ix_tup (pv 0) pe_int (fun _ _ => rfl)) (pe_ix ix_tup (pv 1) pe_int (fun _ _ => rfl))) pa_nil))))), ?_⟩
    have hd : Bz 8500 ((r.den : Int) * s.num) := (hn.dz.mul hm.nz).up (by omega)
    replace hn : Bd 8000 r := hn.up (by omega)
    replace hm : Bd 8000 s := hm.up (by omega)
    walk_at "go"
    exact ⟨fun h => absurd h (od_ne h0), fun _ H' t s1 e1 => k H' t s1 (by rw [ov_div]; exact e1)⟩
def spInner (K : PySem.W.Frag) : Sp := fun vs H Q _ => ∃ (a b : Addr) (x y z u v w : Int), vs = [.ref a, .ref b] ∧ SqT K H a (zs [x, y, z]) ∧ SqT K H b (zs [u, v, w]) ∧ Bz 1000 x ∧ Bz 1000 y ∧ Bz 1000 z ∧ Bz 1000 u ∧ Bz 1000 v ∧ Bz 1000 w ∧ Q (.int (x * u + y * v + z * w)) H
theorem okInner {fInner : Addr} {fdInner : FuncData} (F : Fun K "inner" "inner" sInner fInner fdInner) (T : Txt mg) {aZERO : Addr} (CT : Cons K mg aZERO) {CPartError CNought : Addr} (EX : Exns K mg CPartError CNought) :
    FnOk P w K mg base CX0 1 fInner fdInner ["a", "b"] (spInner K) := by
  refine F.ok scInner (fun vs H Q E h => ?_) (fun cdv A outer s H vs Q E hr h => ?_)
  · obtain ⟨a, b, x, y, z, u, v, w, rfl, hA, hB, b1, b2, b3, b4, b5, b6, k⟩ := h
    rfl
  · obtain ⟨a, b, x, y, z, u, v, w, rfl, hA, hB, b1, b2, b3, b4, b5, b6, k⟩ := h
    refine ⟨_, (pss_one (ps_ret (pe_op op_add (pe_op op_add (pe_op op_mulW (pe_ix ix_tup (pv 0) pe_int (fun _ _ => rfl)) (pe_ix ix_tup (pv 1) pe_int (fun _ _ => rfl))) (pe_op op_mulW (pe_ix ix_tup (pv 0) pe_int (fun _ _ => rfl)) (pe_ix ix_tup (pv 1) pe_int (fun _ _ => rfl)))) (pe_op op_mulW (pe_ix ix_tup (pv 0) pe_int (fun _ _ => rfl)) (pe_ix ix_tup (pv 1) pe_int (fun _ _ => rfl)))))), ?_⟩
    walk_at "go"
    exact k
def spReachRatio (K : PySem.W.Frag) : Sp := fun vs H Q _ => ∃ (n t : Addr) (x y z p1 q1 p2 q2 p3 q3 : Int), vs = [.ref n, .ref t] ∧ SqT K H n (zs [x, y, z]) ∧ x.natAbs < 2 ^ 100 ∧ y.natAbs < 2 ^ 100 ∧ z.natAbs < 2 ^ 100 ∧ Pt8 K H t p1 q1 p2 q2 p3 q3 ∧
  ∀ (H' : Hp) (r : Addr), Same H H' → H' r = some (.tup (zs [rn x y z p1 q1 p2 q2 p3 q3, q1 * q2 * q3])) → Q (.ref r) H'
theorem okReachRatio {fReachRatio : Addr} {fdReachRatio : FuncData} (F : Fun K "reach_ratio" "reach_ratio" sReachRatio fReachRatio fdReachRatio) (T : Txt mg) {aZERO : Addr} (CT : Cons K mg aZERO) {CPartError CNought : Addr} (EX : Exns K mg CPartError CNought) :
    FnOk P w K mg base CX0 1 fReachRatio fdReachRatio ["normal", "point"] (spReachRatio K) := by
  refine F.ok scReachRatio (fun vs H Q E h => ?_) (fun cdv A outer s H vs Q E hr h => ?_)
  · obtain ⟨n, t, x, y, z, p1, q1, p2, q2, p3, q3, rfl, hN, bx, bY, bz, hP, k⟩ := h
    rfl
  · obtain ⟨n, t, x, y, z, p1, q1, p2, q2, p3, q3, rfl, hN, bx, bY, bz, hP, k⟩ := h
    refine ⟨_, (pss_cons (ps_asg (pv 1) (pg_tup rfl (pgs_cons (pg_tup rfl (pgs_cons (pg_name (i := 2) scReachRatio.nd rfl (Or.inl rfl)) (pgs_cons (pg_name (i := 3) scReachRatio.nd rfl (Or.inl rfl)) pgs_nil))) (pgs_cons (pg_tup rfl (pgs_cons (pg_name (i := 4) scReachRatio.nd rfl (Or.inl rfl)) (pgs_cons (pg_name (i := 5) scReachRatio.nd rfl (Or.inl rfl)) pgs_nil))) (pgs_cons (pg_tup rfl (pgs_cons (pg_name (i := 6) scReachRatio.nd rfl (Or.inl rfl)) (pgs_cons (pg_name (i := 7) scReachRatio.nd rfl (Or.inl rfl)) pgs_nil))) pgs_nil)))))
      (pss_cons (ps_set (i := 8) scReachRatio.nd rfl (Or.inl rfl) (pe_op op_add (pe_op op_add (pe_op op_mulW (pe_op op_mulW (pe_op op_mulW (pe_ix ix_tup (pv 0) pe_int (fun _ _ => rfl)) (pv 2)) (pv 5)) (pv 7)) (pe_op op_mulW (pe_op op_mulW (pe_op op_mulW (pe_ix ix_tup (pv 0) pe_int (fun _ _ => rfl)) (pv 4)) (pv 3)) (pv 7))) (pe_op op_mulW (pe_op op_mulW (pe_op op_mulW (pe_ix ix_tup (pv 0) pe_int (fun _ _ => rfl)) (pv 6)) (pv 3)) (pv 5))))
      (pss_one (ps_ret (pe_tup (pa_cons (pv 8) (pa_cons (pe_op op_mulW (pe_op op_mulW (pv 3) (pv 5)) (pv 7)) pa_nil))))))), ?_⟩
    obtain ⟨⟨a, b, c, hT, h1, h2, h3⟩, ⟨bp1, bp2, bp3⟩, ⟨bq1, bq2, bq3⟩, c1, c2, c3⟩ := hP
    refine ⟨_, rfl, t, _, rfl, hT, rfl, _, _, rfl, a, _, rfl, h1, rfl, _, _, rfl, _, _, rfl, rfl, _, _, rfl, b, _, rfl, h2, rfl, _, _, rfl, _, _, rfl, rfl, _, _, rfl, c, _, rfl, h3, rfl, _, _, rfl, _, _, rfl, rfl, rfl, ?_⟩
    have e1 := wide_lt bx bp1
    have e2 := wide_lt e1 bq2
    have f1 := wide_lt bY bp2
    have f2 := wide_lt f1 bq1
    have g1 := wide_lt bz bp3
    have g2 := wide_lt g1 bq1
    have d1 := wide_lt bq1 bq2
    have d2 := wide_lt d1 bq3
    refine ⟨.ref n, rfl, n, _, 0, _, rfl, rfl, hN, atI_nat (j := 0) rfl, _, rfl, _, _, rfl, rfl, wide_mul bx bp1 (by decide) (by decide) (by decide), _, rfl, _, _, rfl, rfl, wide_mul e1 bq2 (by decide) (by decide) (by decide), _, rfl, _, _, rfl, rfl, wide_mul e2 bq3 (by decide) (by decide) (by decide), ?_⟩
    refine ⟨.ref n, rfl, n, _, 1, _, rfl, rfl, hN, atI_nat (j := 1) rfl, _, rfl, _, _, rfl, rfl, wide_mul bY bp2 (by decide) (by decide) (by decide), _, rfl, _, _, rfl, rfl, wide_mul f1 bq1 (by decide) (by decide) (by decide), _, rfl, _, _, rfl, rfl, wide_mul f2 bq3 (by decide) (by decide) (by decide), _, _, rfl, rfl, ?_⟩
    refine ⟨.ref n, rfl, n, _, 2, _, rfl, rfl, hN, atI_nat (j := 2) rfl, _, rfl, _, _, rfl, rfl, wide_mul bz bp3 (by decide) (by decide) (by decide), _, rfl, _, _, rfl, rfl, wide_mul g1 bq1 (by decide) (by decide) (by decide), _, rfl, _, _, rfl, rfl, wide_mul g2 bq2 (by decide) (by decide) (by decide), _, _, rfl, rfl, ?_⟩
    refine ⟨_, rfl, _, rfl, _, rfl, _, _, rfl, rfl, wide_mul bq1 bq2 (by decide) (by decide) (by decide), _, rfl, _, _, rfl, rfl, wide_mul d1 bq3 (by decide) (by decide) (by decide), by show 2 ≤ sizeLine; decide, fun r hr => k _ r (same_upd hr) upd_same⟩
def spReach (K : PySem.W.Frag) : Sp := fun vs H Q _ => ∃ (n t : Addr) (v : V3) (r1 r2 r3 : Rat), vs = [.ref n, .ref t] ∧ Sv K H n v ∧ Px K H t r1 r2 r3 ∧ Vz 90 v ∧ Bd 90 r1 ∧ Bd 90 r2 ∧ Bd 90 r3 ∧
  ∀ (H' : Hp) (r : Addr), Same H H' → Fx K H' r (dot3 v.1 v.2.1 v.2.2 r1 r2 r3) → Q (.ref r) H'
theorem okReach {fReach : Addr} {fdReach : FuncData} (F : Fun K "reach" "reach" sReach fReach fdReach) (T : Txt mg) {aZERO : Addr} (CT : Cons K mg aZERO) {CPartError CNought : Addr} (EX : Exns K mg CPartError CNought)
    {fReachRatio : Addr} {fdReachRatio : FuncData} (GReachRatio : FnOk P w K mg base CX0 1 fReachRatio fdReachRatio ["normal", "point"] (spReachRatio K)) (gReachRatio : mg "reach_ratio" = some (.ref fReachRatio)) (kpReachRatio : PySem.W.keepIn K (.ref fReachRatio) = true) (bReachRatio : Binds K fdReachRatio ["normal", "point"] [])
    {fFraction : Addr} {fdFraction : FuncData} (GFraction : FnOk P w K mg base (L2.CX P w) 1 fFraction fdFraction ["number", "divisor"] (spFraction K CNought)) (gFraction : mg "fraction" = some (.ref fFraction)) (kpFraction : PySem.W.keepIn K (.ref fFraction) = true) (bFraction : Binds K fdFraction ["number", "divisor"] []) {dsFraction : List Value} (vdFraction : Vals [.int 1] dsFraction) (bdFraction : Binds K fdFraction ["number", "divisor"] dsFraction) :
    FnOk P w K mg base CX0 2 fReach fdReach ["normal", "point"] (spReach K) := by
  refine F.ok scReach (fun vs H Q E h => ?_) (fun cdv A outer s H vs Q E hr h => ?_)
  · obtain ⟨n, t, v, r1, r2, r3, rfl, hN, hP, ⟨b1, b2, b3⟩, c1, c2, c3, k⟩ := h
    rfl
  · obtain ⟨n, t, v, r1, r2, r3, rfl, hN, hP, ⟨b1, b2, b3⟩, c1, c2, c3, k⟩ := h
    refine ⟨_, (pss_cons (ps_asg (pe_call GReachRatio hr (by rfl) gReachRatio kpReachRatio bReachRatio .nil pass0 (pa_cons (pv 0) (pa_cons (pv 1) pa_nil))) (pg_tup rfl (pgs_cons (pg_name (i := 2) scReach.nd rfl (Or.inl rfl)) (pgs_cons (pg_name (i := 3) scReach.nd rfl (Or.inl rfl)) pgs_nil))))
      (pss_one (ps_ret (pe_call GFraction hr (by rfl) gFraction kpFraction bFraction .nil passL (pa_cons (pv 2) (pa_cons (pv 3) pa_nil)))))), ?_⟩
    have up : (2 : Nat) ^ 90 ≤ 2 ^ 100 := Nat.pow_le_pow_right (by decide) (by decide)
    have hd : (r1.den : Int) * (r2.den : Int) * (r3.den : Int) ≠ 0 := Int.mul_ne_zero (Int.mul_ne_zero (den_ne r1) (den_ne r2)) (den_ne r3)
    have bd : Bz 8500 ((r1.den : Int) * (r2.den : Int) * (r3.den : Int)) := ((c1.dz.mul c2.dz).mul c3.dz).up (by decide)
    refine ⟨_, rfl, _, rfl, n, t, v.1, v.2.1, v.2.2, _, _, _, _, _, _, rfl, hN, Nat.lt_of_lt_of_le b1 up, Nat.lt_of_lt_of_le b2 up, Nat.lt_of_lt_of_le b3 up, hP.pt8 (c1.up (by decide)) (c2.up (by decide)) (c3.up (by decide)), fun H1 r s1 e1 => ?_⟩
    refine ⟨r, _, rfl, SqT.of e1, rfl, _, _, rfl, _, _, rfl, rfl, ?_⟩
    exact ⟨_, rfl, _, rfl, _, _, rfl, bd, fun h => absurd h hd, fun _ H' r2 s2 e => k H' r2 (s1.trans s2) (by rw [dot_div]; exact e)⟩
theorem tyes_if {σ : L2.St} {H : Hp} {F G : Hp → Prop} (h : F H) : tYes σ H (fun b H3 => if b = true then F H3 else G H3) := by
  show (if true = true then F H else G H)
  rw [if_pos rfl]
  exact h
def most (l : List Rat) (m : Nat) : Prop := (l = [] ∧ m = 1) ∨ ((∃ r ∈ l, r.den = m) ∧ ∀ r ∈ l, r.den ≤ m)
/-- points where they stand -/
def Pts (K : PySem.W.Frag) (H : Hp) (ws : List (Addr × List Rat)) : Prop := ∀ w ∈ ws, FT K H w.1 w.2
theorem Pts.up {K : PySem.W.Frag} {H H' : Hp} {ws : List (Addr × List Rat)} (h : Pts K H ws) (s : Same H H') : Pts K H' ws := fun w hw => FT.up s (h w hw)
/-- points of three fractions with n bits -/
def Pb3 (n : Nat) (p : List Rat) : Prop := p.length = 3 ∧ ∀ r ∈ p, Bd n r
def spScaleFor (K : PySem.W.Frag) : Sp := fun vs H Q _ => ∃ (l : Addr) (ws : List (Addr × Rat)), vs = [.ref l] ∧ SqL K H l (fr ws) ∧ Rx K H ws ∧ ws.length ≤ 1000 ∧ (∀ w ∈ ws, Bd 30 w.2) ∧ ∀ (H' : Hp) (m : Nat), Same H H' → most (ws.map (·.2)) m → Q (.int ((m * m : Nat) : Int)) H'
theorem okScaleFor {fScaleFor : Addr} {fdScaleFor : FuncData} (F : Fun K "scale_for" "scale_for" sScaleFor fScaleFor fdScaleFor) (T : Txt mg) {aZERO : Addr} (CT : Cons K mg aZERO) {CPartError CNought : Addr} (EX : Exns K mg CPartError CNought) :
    FnOk P w K mg base CX0 1 fScaleFor fdScaleFor ["parts"] (spScaleFor K) := by
  refine F.ok scScaleFor (fun vs H Q E h => ?_) (fun cdv A outer s H vs Q E hr h => ?_)
  · obtain ⟨l, ws, rfl, hL, rW, n9, bW, k⟩ := h
    rfl
  · obtain ⟨l, ws, rfl, hL, rW, n9, bW, k⟩ := h
    refine ⟨_, (pss_cons (ps_set (i := 1) scScaleFor.nd rfl (Or.inl rfl) (pe_callBK (cr_maxD rfl hr.units) (by rfl) T.max (by decide +kernel) (pa_cons (pe_lc (own := [("part", 2)]) (by rfl) scScaleFor.nd (pi_list (pv 0)) (blkOk_by (own := [("part", 2)]) (N := ["parts", "most", "part"]) (sc := defScope sScaleFor) (by decide +kernel)) (fun _ _ _ _ _ => (pg_name (i := 2) scScaleFor.nd rfl (Or.inl rfl))) (fun _ _ _ _ _ => pts_nil) (fun _ _ _ _ _ => (pe_ix (show IxR _ (rIxT K) from ix_tup) (pv 2) pe_int (fun _ _ => rfl)))) pa_nil) (pk_cons pe_int pk_nil)))
      (pss_one (ps_ret (pe_op op_mul (pv 1) (pv 1))))), ?_⟩
    refine ⟨_, rfl, l, rfl, ⟨_, hL⟩, fun D hD => ?_⟩
    refine lc_val (walk_list (K := K) (a := l) (xs := fr ws)) (zs (ws.map fun w => (w.2.den : Int))) (by simp [fr_len, zs]) (by rw [fr_len]; omega) hD (fun H s => s.seq hL) ?_ ?_
    · rintro i v x H1 H2 yk hr s1 ⟨rfl, hx⟩ kk
      obtain ⟨w, rfl, hw⟩ := fr_get hx
      have hv : v = .int (w.2.den : Int) := by
        unfold zs at hr
        rw [List.getElem?_map, List.getElem?_map, hw] at hr
        exact (Option.some.inj hr).symm
      subst hv
      have mw := List.mem_of_getElem? hw
      exact ⟨rfl, _, rfl, w.1, _, 1, _, rfl, rfl, (rW w mw).same s1, atI_nat (j := 1) rfl, kk _ (Same.refl _)⟩
    · intro H1 s1 e1
      have key : ∀ m : Nat, m < 2 ^ 30 → most (ws.map (·.2)) m → (fun x H1 => gName 1 x (L2.start ["parts", "most", "part"] [V.ref l]) H1 (tRet (tOp (rI CMul fun i j => V.int (i * j)) (tVar 1) (tVar 1)) { nx := fun x H' => Q V.non H', rt := Q })) (V.int (m : Int)) H1 := by
        intro m hm hmm
        refine ⟨_, rfl, _, rfl, (m : Int), (m : Int), rfl, rfl, ?_, ?_⟩
        · exact .inl ⟨by omega, by omega⟩
        · have := k H1 m s1 hmm
          rw [Int.natCast_mul] at this
          exact this
      refine ⟨D, ws.map (fun w => (w.2.den : Int)), 1, rfl, rfl, SqL.of e1, fun h0 => key 1 (by decide) (.inl ⟨?_, rfl⟩), fun m hm hx => ?_⟩
      · rw [List.map_eq_nil_iff] at h0
        rw [h0]
        rfl
      · obtain ⟨w, hw, rfl⟩ := List.mem_map.mp hm
        refine key w.2.den (bW w hw).2 (.inr ⟨⟨w.2, List.mem_map_of_mem hw, rfl⟩, fun r hr => ?_⟩)
        obtain ⟨u, hu, rfl⟩ := List.mem_map.mp hr
        have := hx _ (List.mem_map_of_mem hu)
        exact_mod_cast this
def spScaleForPoints (K : PySem.W.Frag) : Sp := fun vs H Q _ => ∃ (l : Addr) (ws : List (Addr × List Rat)), vs = [.ref l] ∧ SqL K H l (Ro ws) ∧ Pts K H ws ∧ ws.length ≤ 10 ∧ (∀ w ∈ ws, Pb3 30 w.2) ∧ ∀ (H' : Hp) (m : Nat), Same H H' → most (ws.map (·.2)).flatten m → Q (.int ((m * m : Nat) : Int)) H'
theorem okScaleForPoints {fScaleForPoints : Addr} {fdScaleForPoints : FuncData} (F : Fun K "scale_for_points" "scale_for_points" sScaleForPoints fScaleForPoints fdScaleForPoints) (T : Txt mg) {aZERO : Addr} (CT : Cons K mg aZERO) {CPartError CNought : Addr} (EX : Exns K mg CPartError CNought)
    {fScaleFor : Addr} {fdScaleFor : FuncData} (GScaleFor : FnOk P w K mg base CX0 1 fScaleFor fdScaleFor ["parts"] (spScaleFor K)) (gScaleFor : mg "scale_for" = some (.ref fScaleFor)) (kpScaleFor : PySem.W.keepIn K (.ref fScaleFor) = true) (bScaleFor : Binds K fdScaleFor ["parts"] []) :
    FnOk P w K mg base CX0 2 fScaleForPoints fdScaleForPoints ["points"] (spScaleForPoints K) := by
  refine F.ok scScaleForPoints (fun vs H Q E h => ?_) (fun cdv A outer s H vs Q E hr h => ?_)
  · obtain ⟨l, ws, rfl, hL, rW, n9, bW, k⟩ := h
    rfl
  · obtain ⟨l, ws, rfl, hL, rW, n9, bW, k⟩ := h
    refine ⟨_, (pss_one (ps_ret (pe_call GScaleFor hr (by rfl) gScaleFor kpScaleFor bScaleFor .nil pass0 (pa_cons (pe_lc2 (own := [("point", 1), ("part", 2)]) (vs1 := [2]) (by rfl) scScaleForPoints.nd (pi_list (pv 0)) (blkOk_by (own := [("point", 1), ("part", 2)]) (N := ["points", "point", "part"]) (sc := defScope sScaleForPoints) (by decide +kernel)) (by decide) (fun _ _ _ _ _ => (pg_name (i := 1) scScaleForPoints.nd rfl (Or.inl rfl))) (fun _ _ _ _ _ => pts_nil) (fun _ _ _ _ _ => (show PI _ _ _ (iTup K _) from (pi_tup (pv 1)))) (fun _ _ _ _ _ => (pg_name (i := 2) scScaleForPoints.nd rfl (Or.inl rfl))) (fun _ _ _ _ _ => pts_nil) (fun _ _ _ _ _ => (pv 2))) pa_nil)))), ?_⟩
    refine ⟨_, rfl, l, rfl, ⟨_, hL⟩, fun D hD => ?_⟩
    have nD : ∀ {Hx : Hp} {o : HO}, Same H Hx → Same H (upd Hx D o) := fun {Hx o} s b u e => by
      rw [upd_ne (ne_of_none e hD)]
      exact s b u e
    have all3 : ∀ w ∈ ws, w.2.length = 3 := fun w hw => (bW w hw).1
    refine ⟨fun i m Hx => m = ws.length - i ∧ i ≤ ws.length ∧ Same H Hx ∧ ∃ us, Hx D = some (.lst (fr us)) ∧ Rx K H us ∧ us.length = 3 * i ∧ us.map (·.2) = ((ws.map (·.2)).take i).flatten, ⟨_, rfl, Nat.zero_le _, nD (Same.refl _), [], upd_same, fun _ h => (List.not_mem_nil h).elim, rfl, rfl⟩, ?_⟩
    rintro i m H1 ⟨rfl, hi, s1, us, eD, rU, nU, mU⟩
    by_cases hlt : i < ws.length
    · refine .inr ⟨⟨_, V.ref (ws[i]).1, s1.seq hL, by simp [Ro, hlt]⟩, _, fun H' q => ⟨ws.length - (i + 1), by omega, q⟩, ?_⟩
      rintro x H2 ⟨rfl, hx⟩
      have hx := hx _ (s1.seq hL)
      obtain ⟨w, rfl, hw⟩ := Ro_get hx
      have mw := List.mem_of_getElem? hw
      obtain ⟨vs, hV, rV, mV⟩ := rW w mw
      have nV : vs.length = 3 := by rw [← all3 w mw, ← mV, List.length_map]
      refine ⟨rfl, ?_⟩
      refine tyes_if ?_
      refine ⟨_, rfl, w.1, rfl, ⟨_, same_tup s1 hV⟩, ?_⟩
      refine ⟨fun j k' Hx => k' = vs.length - j ∧ j ≤ vs.length ∧ Same H Hx ∧ Hx D = some (.lst (fr (us ++ vs.take j))), ⟨_, rfl, Nat.zero_le _, s1, by rw [List.take_zero, List.append_nil]; exact eD⟩, ?_⟩
      rintro j k' H3 ⟨rfl, hj, s3, e3⟩
      by_cases hlt2 : j < vs.length
      · refine .inr ⟨⟨_, V.ref (vs[j]).1, same_tup s3 hV, by simp [fr, hlt2]⟩, _, fun H' q => ⟨vs.length - (j + 1), by omega, q⟩, ?_⟩
        rintro x H4 ⟨rfl, hx⟩
        have hx := hx _ (same_tup s3 hV)
        obtain ⟨u, rfl, hu⟩ := fr_get hx
        refine ⟨rfl, ?_⟩
        refine tyes_if ?_
        refine ⟨_, rfl, _, e3, ?_, rfl, by omega, nD s3, ?_⟩
        · rw [fr_len, List.length_append, nU, List.length_take]
          exact small1000 (by omega)
        · rw [upd_same, List.take_add_one, hu]
          unfold fr
          simp
      · have ej : j = vs.length := by omega
        subst ej
        refine .inl ⟨⟨_, same_tup s3 hV, by rw [fr_len]; exact Nat.le_refl _⟩, rfl, by omega, s3, us ++ vs, ?_, ?_, ?_, ?_⟩
        · rw [e3, List.take_length]
        · intro u hu
          rcases List.mem_append.mp hu with h | h
          · exact rU u h
          · exact rV u h
        · rw [List.length_append, nU, nV]
          omega
        · rw [List.map_append, mU, mV, List.take_add_one, List.getElem?_map, hw, List.flatten_append]
          simp
    · have ei : i = ws.length := by omega
      subst ei
      refine .inl ⟨⟨_, s1.seq hL, by rw [Ro_len]; exact Nat.le_refl _⟩, D, us, rfl, SqL.of eD, rU.same s1, ?_, ?_, ?_⟩
      · omega
      · intro u hu
        have h : u.2 ∈ us.map (·.2) := List.mem_map_of_mem hu
        rw [mU, List.take_of_length_le (by simp)] at h
        obtain ⟨p, hp, hq⟩ := List.mem_flatten.mp h
        obtain ⟨w, hw, rfl⟩ := List.mem_map.mp hp
        exact (bW w hw).2 _ hq
      · intro H' m s2 hm
        rw [mU, List.take_of_length_le (by simp)] at hm
        exact k H' m (s1.trans s2) hm
def spRank (K : PySem.W.Frag) : Sp := fun vs H Q _ => ∃ (a : Addr) (r : Rat) (s : Int), vs = [.ref a, .int s] ∧ Fx K H a r ∧ Bd 29 r ∧ Bz 60 s ∧ Q (.int (rk r s)) H
theorem okRank {fRank : Addr} {fdRank : FuncData} (F : Fun K "rank" "rank" sRank fRank fdRank) (T : Txt mg) {aZERO : Addr} (CT : Cons K mg aZERO) {CPartError CNought : Addr} (EX : Exns K mg CPartError CNought) :
    FnOk P w K mg base CX0 1 fRank fdRank ["part", "scale"] (spRank K) := by
  refine F.ok scRank (fun vs H Q E h => ?_) (fun cdv A outer s H vs Q E hr h => ?_)
  · obtain ⟨a, r, s', rfl, hA, hb, hs, k⟩ := h
    rfl
  · obtain ⟨a, r, s', rfl, hA, hb, hs, k⟩ := h
    refine ⟨_, (pss_one (ps_ret (pe_op op_fdivN (pe_op op_mulW (pe_ix ix_tup (pv 0) pe_int (fun _ _ => rfl)) (pv 1)) (pe_ix ix_tup (pv 0) pe_int (fun _ _ => rfl))))), ?_⟩
    replace hb : Bd 29 r := hb
    have h1 : r.num.natAbs < 2 ^ 64 := Nat.lt_of_lt_of_le hb.nz (by decide)
    walk_at "go"
    exact ⟨⟨den_ne r, Nat.lt_of_lt_of_le hb.dz (by decide)⟩, k⟩
def spPointRank (K : PySem.W.Frag) : Sp := fun vs H Q _ => ∃ (t : Addr) (p : List Rat) (s : Int), vs = [.ref t, .int s] ∧ FT K H t p ∧ Pb3 29 p ∧ Bz 60 s ∧ ∀ (H' : Hp) (u : Addr), Same H H' → SqT K H' u (zs (p.map fun r => rk r s)) → Q (.ref u) H'
theorem okPointRank {fPointRank : Addr} {fdPointRank : FuncData} (F : Fun K "point_rank" "point_rank" sPointRank fPointRank fdPointRank) (T : Txt mg) {aZERO : Addr} (CT : Cons K mg aZERO) {CPartError CNought : Addr} (EX : Exns K mg CPartError CNought)
    {fRank : Addr} {fdRank : FuncData} (GRank : FnOk P w K mg base CX0 1 fRank fdRank ["part", "scale"] (spRank K)) (gRank : mg "rank" = some (.ref fRank)) (kpRank : PySem.W.keepIn K (.ref fRank) = true) (bRank : Binds K fdRank ["part", "scale"] []) :
    FnOk P w K mg base CX0 2 fPointRank fdPointRank ["point", "scale"] (spPointRank K) := by
  refine F.ok scPointRank (fun vs H Q E h => ?_) (fun cdv A outer s H vs Q E hr h => ?_)
  · obtain ⟨t, p, s', rfl, hT, hb, hs, k⟩ := h
    rfl
  · obtain ⟨t, p, s', rfl, hT, hb, hs, k⟩ := h
    refine ⟨_, (pss_one (ps_ret (pe_callTy call_tuple_of (by rfl) T.tuple (by decide +kernel) (pa_cons (pe_lc (own := [("part", 2)]) (by rfl) scPointRank.nd (pi_tup (pv 0)) (blkOk_by (own := [("part", 2)]) (N := ["point", "scale", "part"]) (sc := defScope sPointRank) (by decide +kernel)) (fun _ _ _ _ _ => (pg_name (i := 2) scPointRank.nd rfl (Or.inl rfl))) (fun _ _ _ _ _ => pts_nil) (fun _ _ _ _ _ => (pe_call GRank hr (by rfl) gRank kpRank bRank .nil pass0 (pa_cons (pv 2) (pa_cons (pv 1) pa_nil))))) pa_nil)))), ?_⟩
    obtain ⟨ws, hS, hR, rfl⟩ := hT
    obtain ⟨b0, b1⟩ := hb
    have n3 : ws.length = 3 := by rw [← b0, List.length_map]
    refine ⟨_, rfl, t, rfl, ⟨_, hS⟩, fun D hD => ?_⟩
    refine lc_val (walk_tup (K := K) (a := t) (xs := fr ws)) (zs ((ws.map (·.2)).map fun r => rk r s')) (by simp [fr_len, zs]) (by rw [fr_len]; omega) hD (fun H s => same_tup s hS) ?_ ?_
    · rintro i v x H1 H2 yk hr s1 ⟨rfl, hx⟩ kk
      obtain ⟨w, rfl, hw⟩ := fr_get hx
      have hv : v = .int (rk w.2 s') := by
        unfold zs at hr
        rw [List.getElem?_map, List.getElem?_map, List.getElem?_map, hw] at hr
        exact (Option.some.inj hr).symm
      subst hv
      have mw := List.mem_of_getElem? hw
      exact ⟨rfl, _, rfl, _, rfl, w.1, w.2, s', rfl, (hR w mw).same s1, b1 _ (List.mem_map_of_mem mw), hs, kk _ (Same.refl _)⟩
    · intro H1 s1 e1
      refine ⟨D, _, rfl, .inl ⟨SqL.of e1, fun u hu => ?_⟩⟩
      exact k _ u (s1.trans (same_upd hu)) (SqT.of upd_same)
def spInOrder (K : PySem.W.Frag) : Sp := fun vs H Q _ => ∃ (l : Addr) (ws : List (Addr × List Rat)), vs = [.ref l] ∧ SqL K H l (Ro ws) ∧ Pts K H ws ∧ ws.length ≤ 10 ∧ (∀ w ∈ ws, Pb3 29 w.2) ∧ (ws.map (·.2)).Nodup ∧
  ∀ (H' : Hp) (D : Addr) (ks : List (Addr × List Rat)), Same H H' → H' D = some (.lst (Ro ks)) → Pts K H' ks → (ks.map (·.2)).Perm (ws.map (·.2)) → (ks.map (·.2)).Pairwise lt3 → Q (.ref D) H'
theorem okInOrder {fInOrder : Addr} {fdInOrder : FuncData} (F : Fun K "in_order" "in_order" sInOrder fInOrder fdInOrder) (T : Txt mg) {aZERO : Addr} (CT : Cons K mg aZERO) {CPartError CNought : Addr} (EX : Exns K mg CPartError CNought)
    {fScaleForPoints : Addr} {fdScaleForPoints : FuncData} (GScaleForPoints : FnOk P w K mg base CX0 2 fScaleForPoints fdScaleForPoints ["points"] (spScaleForPoints K)) (gScaleForPoints : mg "scale_for_points" = some (.ref fScaleForPoints)) (kpScaleForPoints : PySem.W.keepIn K (.ref fScaleForPoints) = true) (bScaleForPoints : Binds K fdScaleForPoints ["points"] [])
    {fPointRank : Addr} {fdPointRank : FuncData} (GPointRank : FnOk P w K mg base CX0 2 fPointRank fdPointRank ["point", "scale"] (spPointRank K)) (gPointRank : mg "point_rank" = some (.ref fPointRank)) (kpPointRank : PySem.W.keepIn K (.ref fPointRank) = true) (bPointRank : Binds K fdPointRank ["point", "scale"] []) :
    FnOk P w K mg base CX0 3 fInOrder fdInOrder ["points"] (spInOrder K) := by
  refine F.ok scInOrder (fun vs H Q E h => ?_) (fun cdv A outer s H vs Q E hr h => ?_)
  · obtain ⟨l, ws, rfl, hL, rW, n9, bW, hnd, k⟩ := h
    rfl
  · obtain ⟨l, ws, rfl, hL, rW, n9, bW, hnd, k⟩ := h
    refine ⟨_, (pss_cons (ps_set (i := 1) scInOrder.nd rfl (Or.inl rfl) (pe_callTy (call_list_nd rfl) (by rfl) T.list (by decide +kernel) (pa_cons (pe_dcN (ow := [("point", 3)]) hr.units (by rfl) scInOrder.nd (pi_list (pv 0)) (blkOk_by (own := [("point", 3)]) (N := ["points", "found", "scale", "point", "row"]) (sc := defScope sInOrder) (by decide +kernel)) (fun _ _ _ _ _ => (pg_name (i := 3) scInOrder.nd rfl (Or.inl rfl))) (fun _ _ _ _ _ => (pv 3)) (fun _ _ _ _ _ => pe_bl)) pa_nil)))
      (pss_cons (ps_set (i := 2) scInOrder.nd rfl (Or.inr rfl) (pe_call GScaleForPoints hr (by rfl) gScaleForPoints kpScaleForPoints bScaleForPoints .nil pass0 (pa_cons (pv 1) pa_nil)))
      (pss_one (ps_ret (pe_lc (own := [("row", 4)]) (by rfl) scInOrder.nd (pi_list (pe_callB (cr_sortedD hr.units) (by rfl) T.sorted (by decide +kernel) (pa_cons (pe_lc (own := [("point", 3)]) (by rfl) scInOrder.nd (pi_list (pv 1)) (blkOk_by (own := [("point", 3)]) (N := ["points", "found", "scale", "point", "row"]) (sc := defScope sInOrder) (by decide +kernel)) (fun _ _ _ _ _ => (pg_name (i := 3) scInOrder.nd rfl (Or.inl rfl))) (fun _ _ _ _ _ => pts_nil) (fun _ _ _ _ _ => (pe_tup (pa_cons (pe_call GPointRank hr (by rfl) gPointRank kpPointRank bPointRank .nil pass0 (pa_cons (pv 3) (pa_cons (pv 2) pa_nil))) (pa_cons (pv 3) pa_nil))))) pa_nil))) (blkOk_by (own := [("row", 4)]) (N := ["points", "found", "scale", "point", "row"]) (sc := defScope sInOrder) (by decide +kernel)) (fun _ _ _ _ _ => (pg_name (i := 4) scInOrder.nd rfl (Or.inl rfl))) (fun _ _ _ _ _ => pts_nil) (fun _ _ _ _ _ => (pe_ix (show IxR _ (rIxT K) from ix_tup) (pv 4) pe_int (fun _ _ => rfl)))))))), ?_⟩
    let pre : Nat → NL := fun i => (ws.take i).map fun x => (x.2, x.1, V.bl true)
    refine ⟨_, rfl, l, rfl, ⟨_, hL⟩, fun d hd => ?_⟩
    have sd : ∀ o, Same H (upd H d o) := fun o => same_upd hd
    refine ⟨fun i m G => m = ws.length - i ∧ i ≤ ws.length ∧ G = upd H d (ND P w d (pre i)), ⟨_, rfl, Nat.zero_le _, rfl⟩, ?_⟩
    rintro i m G ⟨rfl, hi, rfl⟩
    have s1 := sd (ND P w d (pre i))
    by_cases hlt : i < ws.length
    · refine .inr ⟨⟨_, V.ref (ws[i]).1, (sd _).seq hL, by simp [Ro, hlt]⟩, _, fun H' q => ⟨ws.length - (i + 1), by omega, q⟩, ?_⟩
      rintro x H2 ⟨rfl, hx⟩
      have hx := hx _ ((sd _).seq hL)
      obtain ⟨u, rfl, hu⟩ := Ro_get hx
      have mu := List.mem_of_getElem? hu
      refine ⟨rfl, _, rfl, d, u.1, u.2, pre i, rfl, rfl, upd_same, ?_, FT.up s1 (rW u mu), ?_, rfl, by omega, ?_⟩
      · intro p hp
        obtain ⟨y, hy, rfl⟩ := List.mem_map.mp hp
        exact FT.up s1 (rW y (List.mem_of_mem_take hy))
      · rw [List.length_map, List.length_take]
        exact small1000 (by omega)
      · rw [upd_upd, putL_new]
        · show upd H d (ND P w d ((ws.take i).map (fun x => (x.2, x.1, V.bl true)) ++ [(u.2, u.1, V.bl true)])) = upd H d (ND P w d ((ws.take (i + 1)).map fun x => (x.2, x.1, V.bl true)))
          rw [List.take_add_one, hu, List.map_append]
          rfl
        · intro p hp e
          obtain ⟨y, hy, rfl⟩ := List.mem_map.mp hp
          obtain ⟨j, hj, hjy⟩ := List.mem_take_iff_getElem.mp hy
          have h1 : (ws.map (·.2))[j]? = some u.2 := by
            rw [List.getElem?_map, List.getElem?_eq_getElem (by omega), hjy]
            exact congrArg some e
          have h2 : (ws.map (·.2))[i]? = some u.2 := by
            rw [List.getElem?_map, hu]
            rfl
          have := (List.getElem?_inj (by rw [List.length_map]; omega) hnd).mp (h1.trans h2.symm)
          omega
    · have ei : i = ws.length := by omega
      subst ei
      refine .inl ⟨⟨_, (sd _).seq hL, by rw [Ro_len]; exact Nat.le_refl _⟩, d, pre ws.length, rfl, upd_same, fun p np => ?_⟩
      have eP : (pre ws.length).map (fun x => V.ref x.2.1) = Ro ws := by
        show ((ws.take ws.length).map (fun x => (x.2, x.1, V.bl true))).map (fun x => V.ref x.2.1) = _
        rw [List.take_length, List.map_map]
        rfl
      rw [eP]
      have s2 := s1.trans (same_upd (o := .lst (Ro ws)) np)
      have e2 : (upd (upd H d (ND P w d (pre ws.length))) p (.lst (Ro ws))) p = some (.lst (Ro ws)) := upd_same
      generalize upd (upd H d (ND P w d (pre ws.length))) p (.lst (Ro ws)) = H2 at s2 e2 ⊢
      have hP2 : SqL K H2 p (Ro ws) := SqL.of e2
      refine ⟨_, rfl, p, ws, rfl, hP2, rW.up s2, n9, fun x hx => ⟨(bW x hx).1, fun r hr => ((bW x hx).2 r hr).up (by decide)⟩, fun H3 m s3 hm => ?_⟩
      have s23 := s2.trans s3
      have hm29 : m < 2 ^ 29 := by
        rcases hm with ⟨_, rfl⟩ | ⟨⟨r, hr, rfl⟩, _⟩
        · decide
        · obtain ⟨q, hq, hrq⟩ := List.mem_flatten.mp hr
          obtain ⟨x, hx, rfl⟩ := List.mem_map.mp hq
          exact ((bW x hx).2 r hrq).2
      have hmd : ∀ x ∈ ws, ∀ r ∈ x.2, r.den ≤ m := by
        intro x hx r hr
        have hin : r ∈ (ws.map (·.2)).flatten := List.mem_flatten.mpr ⟨x.2, List.mem_map_of_mem hx, hr⟩
        rcases hm with ⟨h0, _⟩ | ⟨_, h⟩
        · rw [h0] at hin
          exact (List.not_mem_nil hin).elim
        · exact h r hin
      have bS : Bz 60 ((m * m : Nat) : Int) := by
        show (((m * m : Nat) : Int)).natAbs < 2 ^ 60
        rw [Int.natAbs_natCast]
        exact Nat.lt_of_lt_of_le (Nat.mul_lt_mul'' hm29 hm29) (by decide)
      have hP3 := s3.seq hP2
      refine ⟨_, rfl, p, rfl, ⟨_, hP3⟩, fun D hD => ?_⟩
      refine lc_relD (walk_list (K := K) (a := p) (xs := Ro ws)) (ws.map (·.2)) (by rw [Ro_len, List.length_map]) (by rw [Ro_len]; omega) hD (RkAt K ((m * m : Nat) : Int)) RkAt.up RkAt.over (fun H s => s.seq hP3) ?_ ?_
      · rintro i r x H4 H5 kk hr s4 _ ⟨rfl, hx⟩ put
        obtain ⟨u, rfl, hu⟩ := Ro_get hx
        have mu := List.mem_of_getElem? hu
        have er : r = u.2 := by
          rw [List.getElem?_map, hu] at hr
          exact (Option.some.inj hr).symm
        subst er
        refine ⟨rfl, _, rfl, _, rfl, u.1, u.2, _, rfl, FT.up (s23.trans s4) (rW u mu), bW u mu, bS, fun H6 t s6 h6 => ?_⟩
        refine ⟨_, rfl, ?_⟩
        refine ⟨tn rfl, fun t2 nt2 => ?_⟩
        generalize hUt2 : upd _ _ (HO.tup _) = H7
        have s7 := same_hu hUt2 nt2
        have eh7 := at_hu hUt2
        have h7 := SqT.of (K := K) eh7
        clear hUt2
        exact put t2 H7 (s6.trans s7) ⟨t, u.1, h7, same_tup s7 h6, FT.up ((s23.trans s4).trans (s6.trans s7)) (rW u mu)⟩
      intro H4 ks s4 e4 r4 m4
      refine ⟨List Rat, encO ((m * m : Nat) : Int), D, ks.map rp, rfl, ?_, ?_, fun _ _ => encO_alike _ _ _, fun _ _ => ⟨_, _, rfl⟩, fun b => encO_dep _ b, fun ws' D7 hp hs nD7 => ?_⟩
      · rw [List.map_map]
        exact SqL.of e4
      · intro x hx
        obtain ⟨y, hy, rfl⟩ := List.mem_map.mp hx
        exact dpO (r4 y hy)
      obtain ⟨k7, hp7, rfl⟩ := perm_lift hp
      have s7 := same_upd (o := .lst ((k7.map rp).map (·.1))) nD7
      have e7 : (upd H4 D7 (.lst ((k7.map rp).map (·.1)))) D7 = some (.lst (Ro k7)) := by
        rw [upd_same, List.map_map]
        rfl
      generalize upd H4 D7 (.lst ((k7.map rp).map (·.1))) = H7 at s7 e7 ⊢
      have h7 := SqL.of (K := K) e7
      have q7 := hp7.map (·.2)
      rw [m4] at q7
      have n7 : k7.length ≤ 10 := by
        rw [← List.length_map (f := (·.2)), q7.length_eq, List.length_map]
        exact n9
      have l7 : ∀ x ∈ k7, x.2 ∈ ws.map (·.2) := fun x hx => q7.mem_iff.mp (List.mem_map_of_mem hx)
      refine ⟨D7, rfl, ⟨_, h7⟩, fun D8 hD8 => ?_⟩
      refine lc_relD (walk_list (K := K) (a := D7) (xs := Ro k7)) (k7.map (·.2)) (by rw [Ro_len, List.length_map]) (by rw [Ro_len]; omega) hD8 (FT K) FT.up FT.over (fun H s => s.seq h7) ?_ ?_
      · rintro i r x H8 H9 kk hr s8 _ ⟨rfl, hx⟩ put
        obtain ⟨u, rfl, hu⟩ := Ro_get hx
        have mu := List.mem_of_getElem? hu
        have er : r = u.2 := by
          rw [List.getElem?_map, hu] at hr
          exact (Option.some.inj hr).symm
        subst er
        obtain ⟨b1, b2, f1, _, f3⟩ := (r4 u (hp7.mem_iff.mp mu)).up (s7.trans s8)
        exact ⟨rfl, _, rfl, u.1, _, 1, _, rfl, rfl, f1, atI_nat (j := 1) rfl, put b2 _ (Same.refl _) f3⟩
      intro H8 k8 s8 e8 r8 m8
      refine k H8 D8 k8 (s23.trans (s4.trans (s7.trans s8))) e8 r8 (by rw [m8]; exact q7) ?_
      rw [m8, List.pairwise_map]
      rw [List.pairwise_map] at hs
      have hn : k7.Pairwise fun x y => x.2 ≠ y.2 := List.pairwise_map.mp (q7.nodup_iff.mpr hnd)
      refine (hs.and hn).imp_of_mem fun {a b} ha hb hab => ?_
      obtain ⟨xa, hxa, ea⟩ := List.mem_map.mp (l7 a ha)
      obtain ⟨xb, hxb, eb⟩ := List.mem_map.mp (l7 b hb)
      exact lt3_of (m := m) (by rw [← ea]; exact (bW xa hxa).1) (by rw [← eb]; exact (bW xb hxb).1) (by rw [← ea]; exact hmd xa hxa) (by rw [← eb]; exact hmd xb hxb) hab.2 (leO hab.1)
def spOnOneDivisor (K : PySem.W.Frag) : Sp := fun vs H Q _ => ∃ (l : Addr) (ws : List (Addr × List Rat)), vs = [.ref l] ∧ SqL K H l (Ro ws) ∧ Pts K H ws ∧ ws.length ≤ 4 ∧ (∀ w ∈ ws, Pb3 29 w.2 ∧ ∀ r ∈ w.2, r.den ≤ 5) ∧
  ∀ (H' : Hp) (t D : Addr) (ks : List (Addr × List Int)), Same H H' → SqT K H' t [.ref D, .int (ldv (ws.map (·.2)) : Nat)] → H' D = some (.lst (Ro ks)) → (∀ x ∈ ks, SqT K H' x.1 (zs x.2)) → ks.map (·.2) = (ws.map (·.2)).map (trp (ldv (ws.map (·.2)))) → Q (.ref t) H'
theorem okOnOneDivisor {fOnOneDivisor : Addr} {fdOnOneDivisor : FuncData} (F : Fun K "on_one_divisor" "on_one_divisor" sOnOneDivisor fOnOneDivisor fdOnOneDivisor) (T : Txt mg) {aZERO : Addr} (CT : Cons K mg aZERO) {CPartError CNought : Addr} (EX : Exns K mg CPartError CNought) :
    FnOk P w K mg base CX0 1 fOnOneDivisor fdOnOneDivisor ["points"] (spOnOneDivisor K) := by
  refine F.ok scOnOneDivisor (fun vs H Q E h => ?_) (fun cdv A outer s H vs Q E hr h => ?_)
  · obtain ⟨l, ws, rfl, hL, rW, n4, bW, k⟩ := h
    rfl
  · obtain ⟨l, ws, rfl, hL, rW, n4, bW, k⟩ := h
    refine ⟨_, (pss_cons (ps_set (i := 1) scOnOneDivisor.nd rfl (Or.inr rfl) pe_int)
      (C8.pss_cut (ps_for PassesOwn.never rfl (pi_list (pv 0)) (pg_name (i := 2) scOnOneDivisor.nd rfl (Or.inl rfl))
        (pss_one (ps_for PassesOwn.never rfl (pi_tup (pv 2)) (pg_name (i := 3) scOnOneDivisor.nd rfl (Or.inl rfl))
          (pss_one (ps_set (i := 1) scOnOneDivisor.nd rfl (Or.inr rfl) (pe_callBfun cr_lcm (by rfl) T.lcm (pa_cons (pv 1) (pa_cons (pe_ix ix_tup (pv 3) pe_int (fun _ _ => rfl)) pa_nil))))))))
      (pss_one (ps_ret (pe_tup (pa_cons (pe_lc (own := [("point", 2)]) (by rfl) scOnOneDivisor.nd (pi_list (pv 0)) (blkOk_by (own := [("point", 2)]) (N := ["points", "shared", "point", "part"]) (sc := defScope sOnOneDivisor) (by decide +kernel)) (fun _ _ _ _ _ => (pg_name (i := 2) scOnOneDivisor.nd rfl (Or.inl rfl))) (fun _ _ _ _ _ => pts_nil) (fun _ _ _ _ _ => (pe_callTy (show CallR _ (Value.type "tuple") (rTupOf K) from call_tuple_of) (by rfl) (by exact T.tuple) (by decide +kernel) (pa_cons (pe_lc (own := [("part", 3)]) (by rfl) scOnOneDivisor.nd (show PI _ _ _ (iTup K _) from (pi_tup (pv 2))) (blkOk_by (own := [("part", 3)]) (N := ["points", "shared", "point", "part"]) (by rfl)) (fun _ _ _ _ _ => (pg_name (i := 3) scOnOneDivisor.nd rfl (Or.inl rfl))) (fun _ _ _ _ _ => pts_nil) (fun _ _ _ _ _ => (pe_op op_mul (pe_ix (show IxR _ (rIxT K) from ix_tup) (pv 3) pe_int (fun _ _ => rfl)) (pe_op op_fdivN (pv 1) (pe_ix (show IxR _ (rIxT K) from ix_tup) (pv 3) pe_int (fun _ _ => rfl)))))) pa_nil)))) (pa_cons (pv 1) pa_nil))))))), ?_⟩
    have d60 : ∀ ps : List (List Rat), (∀ p ∈ ps, p ∈ ws.map (·.2)) → ldv ps ∣ 60 := fun ps h => ldv_60 fun p hp r hr => by
      obtain ⟨x, hx, rfl⟩ := List.mem_map.mp (h p hp)
      exact (bW x hx).2 r hr
    refine ⟨fun σ' H' => ∃ v2 v3 : Option V, σ' = [some (.ref l), some (.int (ldv (ws.map (·.2)) : Nat)), v2, v3] ∧ Same H H', ?_, ?_⟩
    · refine ⟨_, rfl, l, rfl, ⟨_, hL⟩, for_list (K := K) (a := l) (xs := Ro ws) (fun i σ' H' => ∃ v2 v3 : Option V, σ' = [some (.ref l), some (.int (ldv ((ws.map (·.2)).take i) : Nat)), v2, v3] ∧ Same H H') ⟨none, none, rfl, Same.refl _⟩ ?_ ?_ ?_⟩
      · rintro i σ' H' _ ⟨_, _, rfl, s1⟩
        exact s1.seq hL
      · rintro i x σ' H' hx ⟨v2, v3, rfl, s1⟩
        obtain ⟨u, rfl, hu⟩ := Ro_get hx
        have mu := List.mem_of_getElem? hu
        obtain ⟨us, hU, rU, mU⟩ := rW u mu
        have hg := d60 ((ws.map (·.2)).take i) fun p hp => List.mem_of_mem_take hp
        have e1 : (ws.map (·.2)).take (i + 1) = (ws.map (·.2)).take i ++ [u.2] := by
          rw [List.take_add_one, List.getElem?_map, hu]
          rfl
        have e2 : ldv ((ws.map (·.2)).take (i + 1)) = lcd (ldv ((ws.map (·.2)).take i)) u.2 := by
          rw [e1]
          unfold ldv
          rw [List.flatten_append, lcd_app]
          simp
        generalize ldv ((ws.map (·.2)).take i) = g at hg e2 ⊢
        refine ⟨_, rfl, u.1, rfl, ⟨_, same_tup s1 hU⟩, for_tup (K := K) (a := u.1) (xs := fr us) (fun j σ' H' => ∃ v3 : Option V, σ' = [some (.ref l), some (.int (lcd g ((us.map (·.2)).take j) : Nat)), some (.ref u.1), v3] ∧ Same H H') ⟨_, rfl, s1⟩ ?_ ?_ ?_⟩
        · rintro j σ' H' _ ⟨_, rfl, s1⟩
          exact same_tup s1 hU
        · rintro j x σ' H' hx ⟨v3, rfl, s1⟩
          obtain ⟨y, rfl, hy⟩ := fr_get hx
          have my := List.mem_of_getElem? hy
          have b5 : ∀ z ∈ us, z.2.den ≤ 5 := fun z hz => (bW u mu).2 _ (by rw [← mU]; exact List.mem_map_of_mem hz)
          have h60 : lcd g ((us.map (·.2)).take j) ∣ 60 := lcd_60 _ _ hg fun r hr => by
            obtain ⟨z, hz, rfl⟩ := List.mem_map.mp (List.mem_of_mem_take hr)
            exact b5 z hz
          have le60 := Nat.le_of_dvd (by decide) h60
          refine ⟨_, rfl, _, rfl, y.1, _, 1, _, rfl, rfl, (rU y my).same s1, atI_nat (j := 1) rfl, ?_⟩
          refine ⟨((lcd g ((us.map (·.2)).take j) : Nat) : Int), (y.2.den : Int), rfl, ?_, ?_, ?_⟩
          · rw [Int.natAbs_natCast]
            exact Nat.lt_of_le_of_lt le60 (by decide)
          · rw [Int.natAbs_natCast]
            exact Nat.lt_of_le_of_lt (b5 y my) (by decide)
          · refine ⟨some (.ref y.1), ?_, s1⟩
            rw [Int.natAbs_natCast, Int.natAbs_natCast, List.take_add_one, List.getElem?_map, hy]
            show _ = [some (V.ref l), some (V.int ((lcd g ((us.map (·.2)).take j ++ [y.2]) : Nat) : Int)), some (V.ref u.1), some (V.ref y.1)]
            rw [lcd_app]
            rfl
        · rintro σ' H' ⟨v3, rfl, s1⟩
          refine ⟨some (.ref u.1), v3, ?_, s1⟩
          rw [List.take_of_length_le (by rw [fr_len, List.length_map]; exact Nat.le_refl _), mU, e2]
      · rintro σ' H' ⟨v2, v3, rfl, s1⟩
        refine ⟨v2, v3, ?_, s1⟩
        rw [List.take_of_length_le (by rw [Ro_len, List.length_map]; exact Nat.le_refl _)]
    · rintro σ' H1 ⟨v2, v3, rfl, s1⟩
      have hd := Nat.le_of_dvd (by decide) (d60 (ws.map (·.2)) fun p hp => hp)
      generalize ldv (ws.map (·.2)) = d at hd k ⊢
      refine ⟨_, rfl, l, rfl, ⟨_, s1.seq hL⟩, fun D hD => ?_⟩
      refine lc_relD (walk_list (K := K) (a := l) (xs := Ro ws)) ((ws.map (·.2)).map (trp d)) (by rw [Ro_len, List.length_map, List.length_map]) (by rw [Ro_len]; omega) hD (fun H t (x : List Int) => SqT K H t (zs x)) (fun e h => same_tup e h) over_tup (fun H s => s.seq (s1.seq hL)) ?_ ?_
      · rintro i r x H4 H5 kk hr s4 _ ⟨rfl, hx⟩ put
        obtain ⟨u, rfl, hu⟩ := Ro_get hx
        have mu := List.mem_of_getElem? hu
        have er : r = trp d u.2 := by
          rw [List.getElem?_map, List.getElem?_map, hu] at hr
          exact (Option.some.inj hr).symm
        subst er
        obtain ⟨us, hU, rU, mU⟩ := rW u mu
        have s14 := s1.trans s4
        have nU : us.length = 3 := by rw [← (bW u mu).1.1, ← mU, List.length_map]
        refine ⟨rfl, _, rfl, u.1, rfl, ⟨_, same_tup s14 hU⟩, fun D2 hD2 => ?_⟩
        refine lc_val (walk_tup (K := K) (a := u.1) (xs := fr us)) (zs (trp d u.2)) (by rw [fr_len, ← mU]; simp [zs, trp]) (by rw [fr_len]; omega) hD2 (fun H s => same_tup s (same_tup s14 hU)) ?_ ?_
        · rintro j v x H6 H7 kk hr s6 ⟨rfl, hx⟩ put
          obtain ⟨y, rfl, hy⟩ := fr_get hx
          have my := List.mem_of_getElem? hy
          have hv : v = .int (y.2.num * ((d : Int).fdiv (y.2.den : Int))) := by
            unfold zs trp at hr
            rw [← mU, List.getElem?_map, List.getElem?_map, List.getElem?_map, hy] at hr
            exact (Option.some.inj hr).symm
          subst hv
          have f6 := (rU y my).same (s14.trans s6)
          have by' : Bd 29 y.2 := (bW u mu).1.2 _ (by rw [← mU]; exact List.mem_map_of_mem my)
          refine ⟨rfl, _, rfl, y.1, _, 0, _, rfl, rfl, f6, atI_nat (j := 0) rfl, _, rfl, _, rfl, y.1, _, 1, _, rfl, rfl, f6, atI_nat (j := 1) rfl, ?_⟩
          refine ⟨_, _, rfl, rfl, ⟨den_ne _, Nat.lt_of_lt_of_le by'.dz (by decide)⟩, ?_⟩
          refine ⟨_, _, rfl, rfl, .inl ?_, put _ (Same.refl _)⟩
          have := by'.nz
          have h2 : y.2.num.natAbs < 2 ^ 29 := this
          omega
        · intro H6 s6 e6
          refine ⟨D2, _, rfl, .inl ⟨SqL.of e6, fun t ht => ?_⟩⟩
          exact put t _ (s6.trans (same_upd ht)) (SqT.of upd_same)
      · intro H4 ks s4 e4 r4 m4
        refine ⟨_, rfl, ?_⟩
        refine ⟨tn rfl, fun t nt => ?_⟩
        generalize hUt : upd _ _ (HO.tup _) = H5
        have s5 := same_hu hUt nt
        have eh5 := at_hu hUt
        have h5 := SqT.of (K := K) eh5
        clear hUt
        exact k H5 t D ks (s1.trans (s4.trans s5)) h5 (s5 _ _ e4) (fun x hx => same_tup s5 (r4 x hx)) m4
def spTurn (K : PySem.W.Frag) : Sp := fun vs H Q _ => ∃ (a b c : Addr) (u v w : Int × Int), vs = [.ref a, .ref b, .ref c] ∧ S2 K H a u ∧ S2 K H b v ∧ S2 K H c w ∧ V2 40 u ∧ V2 40 v ∧ V2 40 w ∧ Q (.int (tri u v w)) H
theorem okTurn {fTurn : Addr} {fdTurn : FuncData} (F : Fun K "turn" "turn" sTurn fTurn fdTurn) (T : Txt mg) {aZERO : Addr} (CT : Cons K mg aZERO) {CPartError CNought : Addr} (EX : Exns K mg CPartError CNought) :
    FnOk P w K mg base CX0 1 fTurn fdTurn ["a", "b", "c"] (spTurn K) := by
  refine F.ok scTurn (fun vs H Q E h => ?_) (fun cdv A outer s H vs Q E hr h => ?_)
  · obtain ⟨a, b, c, ⟨u1, u2⟩, ⟨v1, v2⟩, ⟨w1, w2⟩, rfl, hA, hB, hC, ⟨b1, b2⟩, ⟨b3, b4⟩, ⟨b5, b6⟩, k⟩ := h
    rfl
  · obtain ⟨a, b, c, ⟨u1, u2⟩, ⟨v1, v2⟩, ⟨w1, w2⟩, rfl, hA, hB, hC, ⟨b1, b2⟩, ⟨b3, b4⟩, ⟨b5, b6⟩, k⟩ := h
    refine ⟨_, (pss_one (ps_ret (pe_op op_sub (pe_op op_mulW (pe_op op_sub (pe_ix ix_tup (pv 1) pe_int (fun _ _ => rfl)) (pe_ix ix_tup (pv 0) pe_int (fun _ _ => rfl))) (pe_op op_sub (pe_ix ix_tup (pv 2) pe_int (fun _ _ => rfl)) (pe_ix ix_tup (pv 0) pe_int (fun _ _ => rfl)))) (pe_op op_mulW (pe_op op_sub (pe_ix ix_tup (pv 1) pe_int (fun _ _ => rfl)) (pe_ix ix_tup (pv 0) pe_int (fun _ _ => rfl))) (pe_op op_sub (pe_ix ix_tup (pv 2) pe_int (fun _ _ => rfl)) (pe_ix ix_tup (pv 0) pe_int (fun _ _ => rfl))))))), ?_⟩
    replace hA : SqT K H a (zs [u1, u2]) := hA
    replace hB : SqT K H b (zs [v1, v2]) := hB
    replace hC : SqT K H c (zs [w1, w2]) := hC
    replace b1 : Bz 40 u1 := b1
    replace b2 : Bz 40 u2 := b2
    replace b3 : Bz 40 v1 := b3
    replace b4 : Bz 40 v2 := b4
    replace b5 : Bz 40 w1 := b5
    replace b6 : Bz 40 w2 := b6
    walk_at "go"
    exact k
def spAround (K : PySem.W.Frag) : Sp := fun vs H Q _ => ∃ (l : Addr) (a z : Addr × (Int × Int)) (ms : List (Addr × (Int × Int))), vs = [.ref l] ∧ SqL K H l (Ro (a :: (ms ++ [z]))) ∧ (∀ x ∈ a :: (ms ++ [z]), S2 K H x.1 x.2 ∧ V2 40 x.2) ∧ ms.length ≤ 8 ∧
  ∀ (H' : Hp) (D : Addr) (ks : List (Addr × (Int × Int))), Same H H' → H' D = some (.lst (Ro ks)) → (∀ x ∈ ks, x ∈ a :: (ms ++ [z])) → ks.map (·.2) = arn a.2 z.2 (ms.map (·.2)) → Q (.ref D) H'
theorem okAround {fAround : Addr} {fdAround : FuncData} (F : Fun K "around" "around" sAround fAround fdAround) (T : Txt mg) {aZERO : Addr} (CT : Cons K mg aZERO) {CPartError CNought : Addr} (EX : Exns K mg CPartError CNought)
    {fTurn : Addr} {fdTurn : FuncData} (GTurn : FnOk P w K mg base CX0 1 fTurn fdTurn ["a", "b", "c"] (spTurn K)) (gTurn : mg "turn" = some (.ref fTurn)) (kpTurn : PySem.W.keepIn K (.ref fTurn) = true) (bTurn : Binds K fdTurn ["a", "b", "c"] []) :
    FnOk P w K mg base CX0 2 fAround fdAround ["corners"] (spAround K) := by
  refine F.ok scAround (fun vs H Q E h => ?_) (fun cdv A outer s H vs Q E hr h => ?_)
  · obtain ⟨l, a, z, ms, rfl, hL, rW, n9, k⟩ := h
    rfl
  · obtain ⟨l, a, z, ms, rfl, hL, rW, n9, k⟩ := h
    refine ⟨_, (pss_cons (ps_asg (pe_tup (pa_cons (pe_ix ix_list (pv 0) pe_int (fun _ _ => rfl)) (pa_cons (pe_ix ix_list (pv 0) (pe_un un_neg pe_int) (fun _ _ => rfl)) pa_nil))) (pg_tup rfl (pgs_cons (pg_name (i := 1) scAround.nd rfl (Or.inr rfl)) (pgs_cons (pg_name (i := 2) scAround.nd rfl (Or.inr rfl)) pgs_nil))))
      (pss_cons (ps_set (i := 3) scAround.nd rfl (Or.inl rfl) (pe_slice sl_list (pv 0) (po_some pe_int) (po_some (pe_un un_neg pe_int))))
      (pss_cons (ps_setLc (i := 4) (own := [("corner", 6)]) (by rfl) scAround.nd rfl rfl (sw_true rfl rfl rfl (by decide +kernel)) (pi_list (pv 3)) (blkOk_by (own := [("corner", 6)]) (N := ["corners", "first", "last", "between", "right", "left", "corner"]) (sc := defScope sAround) (by decide +kernel)) (fun _ _ _ _ _ => (pg_name (i := 6) scAround.nd rfl (Or.inl rfl))) (fun _ _ _ _ _ => pts_one (pt_cmpR op_lt (pe_call GTurn hr (by rfl) gTurn kpTurn bTurn .nil pass0 (pa_cons (pv 1) (pa_cons (pv 2) (pa_cons (pv 6) pa_nil)))) pe_int (nomark _))) (fun _ _ _ _ _ => (pv 6)))
      (pss_cons (ps_setLc (i := 5) (own := [("corner", 6)]) (by rfl) scAround.nd rfl rfl (sw_true rfl rfl rfl (by decide +kernel)) (pi_list (pv 3)) (blkOk_by (own := [("corner", 6)]) (N := ["corners", "first", "last", "between", "right", "left", "corner"]) (sc := defScope sAround) (by decide +kernel)) (fun _ _ _ _ _ => (pg_name (i := 6) scAround.nd rfl (Or.inl rfl))) (fun _ _ _ _ _ => pts_one (pt_cmpR op_ge (pe_call GTurn hr (by rfl) gTurn kpTurn bTurn .nil pass0 (pa_cons (pv 1) (pa_cons (pv 2) (pa_cons (pv 6) pa_nil)))) pe_int (nomark _))) (fun _ _ _ _ _ => (pv 6)))
      (pss_one (ps_ret (pe_op op_cat (pe_op op_cat (pe_op op_cat (pe_lst (pa_cons (pv 1) pa_nil)) (pv 4)) (pe_lst (pa_cons (pv 2) pa_nil))) (pe_revL (pv 5))))))))), ?_⟩
    have e9 : Ro (a :: (ms ++ [z])) = Ro (a :: ms) ++ [V.ref z.1] := by
      unfold Ro
      simp
    refine ⟨_, rfl, l, _, 0, _, rfl, rfl, hL, atI_nat (j := 0) rfl, ?_⟩
    refine ⟨_, rfl, _, rfl, l, _, (-1 : Int), _, rfl, rfl, hL, by rw [e9]; exact atI_last _ _, ?_⟩
    refine ⟨by show 2 ≤ sizeLine; decide, fun p0 np0 => ?_⟩
    have s1 := same_upd (o := .tup ([V.ref a.1, V.ref z.1])) np0
    refine ⟨p0, _, rfl, SqT.of upd_same, rfl, _, _, rfl, _, _, rfl, rfl, ?_⟩
    have hL2 := s1.seq hL
    have nD : (upd H p0 (.tup ([V.ref a.1, V.ref z.1]))) p0 = some (.tup ([V.ref a.1, V.ref z.1])) := upd_same
    generalize upd H p0 (.tup ([V.ref a.1, V.ref z.1])) = H1 at s1 hL2 ⊢
    refine ⟨_, rfl, _, rfl, _, rfl, _, rfl, l, _, rfl, hL2, fun p1 np1 => ?_⟩
    have eC : cutV (Ro (a :: (ms ++ [z]))) (some 1) (some (-1)) = Ro ms := by
      have : Ro (a :: (ms ++ [z])) = V.ref a.1 :: (Ro ms ++ [V.ref z.1]) := by
        unfold Ro
        simp
      rw [this]
      exact cutV_in
    rw [eC]
    have s2 := same_upd (o := .lst (Ro ms)) np1
    have e2 : (upd H1 p1 (.lst (Ro ms))) p1 = some (.lst (Ro ms)) := upd_same
    generalize upd H1 p1 (.lst (Ro ms)) = H2 at s2 e2 ⊢
    have hM := SqL.of (K := K) e2
    have s12 := s1.trans s2
    refine ⟨_, rfl, p1, rfl, ⟨_, hM⟩, fun D hD => ?_⟩
    have part : ∀ (x : Addr × (Int × Int)), x ∈ ms → x ∈ a :: (ms ++ [z]) := fun x hx => List.mem_cons_of_mem _ (List.mem_append_left _ hx)
    refine lc_vv (walk_list (K := K) (a := p1) (xs := Ro ms)) (ms.map fun x => if decide (tri a.2 z.2 x.2 < 0) = true then some (V.ref x.1) else none) (by simp [Ro_len]) (by rw [Ro_len]; omega) hD (fun H2 s2 => s2.seq hM) ?_ ?_
    · rintro j c v Hy Hz kk kn hc s3 ⟨rfl, hv⟩ yk yn
      obtain ⟨x, rfl, hx⟩ := Ro_get hv
      have mx := part x (List.mem_of_getElem? hx)
      rw [List.getElem?_map, hx] at hc
      have s123 := s12.trans s3
      refine ⟨rfl, ?_⟩
      refine ⟨_, rfl, _, rfl, _, rfl, a.1, z.1, x.1, a.2, z.2, x.2, rfl, same_tup s123 (rW a (by simp)).1, same_tup s123 (rW z (by simp)).1, same_tup s123 (rW x mx).1, (rW a (by simp)).2, (rW z (by simp)).2, (rW x mx).2, ?_⟩
      refine ⟨_, _, rfl, rfl, _, rfl, ?_⟩
      refine ite2 (fun g => ?_) (fun g => ?_)
      · exact ⟨_, rfl, yk _ (by rw [← Option.some.inj hc]; exact if_pos g) _ (Same.refl _)⟩
      · exact yn (by rw [← Option.some.inj hc]; exact if_neg g) _ (Same.refl _)
    intro H3 s3 e3
    rw [opt_sel (fun c => decide (tri a.2 z.2 c < 0))] at e3
    have hM3 := s3.seq hM
    have s13 := s12.trans s3
    refine ⟨_, rfl, p1, rfl, ⟨_, hM3⟩, fun D2 hD2 => ?_⟩
    refine lc_vv (walk_list (K := K) (a := p1) (xs := Ro ms)) (ms.map fun x => if decide (0 ≤ tri a.2 z.2 x.2) = true then some (V.ref x.1) else none) (by simp [Ro_len]) (by rw [Ro_len]; omega) hD2 (fun H2 s2 => s2.seq hM3) ?_ ?_
    · rintro j c v Hy Hz kk kn hc s3 ⟨rfl, hv⟩ yk yn
      obtain ⟨x, rfl, hx⟩ := Ro_get hv
      have mx := part x (List.mem_of_getElem? hx)
      rw [List.getElem?_map, hx] at hc
      have s123 := s13.trans s3
      refine ⟨rfl, ?_⟩
      refine ⟨_, rfl, _, rfl, _, rfl, a.1, z.1, x.1, a.2, z.2, x.2, rfl, same_tup s123 (rW a (by simp)).1, same_tup s123 (rW z (by simp)).1, same_tup s123 (rW x mx).1, (rW a (by simp)).2, (rW z (by simp)).2, (rW x mx).2, ?_⟩
      refine ⟨_, _, rfl, rfl, _, rfl, ?_⟩
      refine ite2 (fun g => ?_) (fun g => ?_)
      · exact ⟨_, rfl, yk _ (by rw [← Option.some.inj hc]; exact if_pos g) _ (Same.refl _)⟩
      · exact yn (by rw [← Option.some.inj hc]; exact if_neg g) _ (Same.refl _)
    intro H4 s4 e4
    rw [opt_sel (fun c => decide (0 ≤ tri a.2 z.2 c))] at e4
    have s14 := s13.trans s4
    have e34 := s4 _ _ e3
    generalize hr : (ms.filter fun x => decide (tri a.2 z.2 x.2 < 0)) = rs at e3 e34
    generalize hl : (ms.filter fun x => decide (0 ≤ tri a.2 z.2 x.2)) = ls at e4
    have nr : rs.length ≤ 8 := by rw [← hr]; exact Nat.le_trans (List.length_filter_le _ _) n9
    have nl : ls.length ≤ 8 := by rw [← hl]; exact Nat.le_trans (List.length_filter_le _ _) n9
    have one : ∀ v : V, [v].length ≤ sizeLine := fun v => by
      show 1 ≤ sizeLine
      decide
    have len : ∀ {α : Type} (ks : List (Addr × α)), ks.length ≤ 20 → (Ro ks).length ≤ 20 := fun ks h => by
      rw [Ro_len]
      exact h
    have cat : ∀ {α : Type} (xs ys : List (Addr × α)), Ro xs ++ Ro ys = Ro (xs ++ ys) := fun xs ys => by
      unfold Ro
      rw [List.map_append]
    refine ⟨_, rfl, one _, fun p5 np5 => ?_⟩
    have s5 := same_upd (o := .lst [V.ref a.1]) np5
    have e5 : (upd H4 p5 (.lst [V.ref a.1])) p5 = some (.lst (Ro [a])) := upd_same
    show tVar 4 _ (upd H4 p5 (.lst [V.ref a.1])) _
    generalize upd H4 p5 (.lst [V.ref a.1]) = H5 at s5 e5 ⊢
    refine ⟨_, rfl, p5, D, _, _, rfl, rfl, e5, s5 _ _ e34, ?_, fun p6 np6 => ?_⟩
    · have := len [a] (by simp)
      have := len rs (by omega)
      rw [sizeLine_eq]
      omega
    rw [cat]
    have s6 := same_upd (o := .lst (Ro ([a] ++ rs))) np6
    have e6 : (upd H5 p6 (.lst (Ro ([a] ++ rs)))) p6 = some (.lst (Ro ([a] ++ rs))) := upd_same
    generalize upd H5 p6 (.lst (Ro ([a] ++ rs))) = H6 at s6 e6 ⊢
    refine ⟨_, rfl, one _, fun p7 np7 => ?_⟩
    have s7 := same_upd (o := .lst [V.ref z.1]) np7
    have e7 : (upd H6 p7 (.lst [V.ref z.1])) p7 = some (.lst (Ro [z])) := upd_same
    show rCat _ _ (upd H6 p7 (.lst [V.ref z.1])) _
    generalize upd H6 p7 (.lst [V.ref z.1]) = H7 at s7 e7 ⊢
    refine ⟨p6, p7, _, _, rfl, rfl, s7 _ _ e6, e7, ?_, fun p8 np8 => ?_⟩
    · have := len ([a] ++ rs) (by simp; omega)
      have := len [z] (by simp)
      rw [sizeLine_eq]
      omega
    rw [cat]
    have s8 := same_upd (o := .lst (Ro ([a] ++ rs ++ [z]))) np8
    have e8 : (upd H7 p8 (.lst (Ro ([a] ++ rs ++ [z])))) p8 = some (.lst (Ro ([a] ++ rs ++ [z]))) := upd_same
    generalize upd H7 p8 (.lst (Ro ([a] ++ rs ++ [z]))) = H8 at s8 e8 ⊢
    have s58 := s5.trans (s6.trans (s7.trans s8))
    refine ⟨_, rfl, D2, _, rfl, SqL.of (s58 _ _ e4), fun p9 np9 => ?_⟩
    have eR : (Ro ls).reverse = Ro ls.reverse := by
      unfold Ro
      rw [List.map_reverse]
    rw [eR]
    have s9 := same_upd (o := .lst (Ro ls.reverse)) np9
    have e9' : (upd H8 p9 (.lst (Ro ls.reverse))) p9 = some (.lst (Ro ls.reverse)) := upd_same
    generalize upd H8 p9 (.lst (Ro ls.reverse)) = H9 at s9 e9' ⊢
    refine ⟨p8, p9, _, _, rfl, rfl, s9 _ _ e8, e9', ?_, fun p10 np10 => ?_⟩
    · have := len ([a] ++ rs ++ [z]) (by simp; omega)
      have := len ls.reverse (by simp; omega)
      rw [sizeLine_eq]
      omega
    rw [cat]
    refine k _ p10 ([a] ++ rs ++ [z] ++ ls.reverse) (s14.trans (s58.trans (s9.trans (same_upd np10)))) upd_same ?_ ?_
    · intro x hx
      simp only [List.mem_append, List.mem_singleton, List.mem_reverse] at hx
      rcases hx with ((h | h) | h) | h
      · rw [h]
        simp
      · rw [← hr] at h
        exact part x (List.mem_filter.mp h).1
      · rw [h]
        simp
      · rw [← hl] at h
        exact part x (List.mem_filter.mp h).1
    · rw [List.map_append, List.map_append, List.map_append, List.map_reverse, ← hr, ← hl, sel_map (fun c => decide (tri a.2 z.2 c < 0)), sel_map (fun c => decide (0 ≤ tri a.2 z.2 c))]
      rfl
def spPolygonArea (K : PySem.W.Frag) : Sp := fun vs H Q _ => ∃ (l n : Addr) (ws : List (Addr × List Rat)) (v : V3) (ax : Nat), vs = [.ref l, .ref n] ∧ SqL K H l (Ro ws) ∧ Pts K H ws ∧ 2 ≤ ws.length ∧ ws.length ≤ 4 ∧ (∀ w ∈ ws, Pb3 29 w.2 ∧ ∀ r ∈ w.2, r.den ≤ 5) ∧ (ws.map (·.2)).Nodup ∧ Sv K H n v ∧ Vz 40 v ∧ ax < 3 ∧ co3 v ax ≠ 0 ∧ (∀ j < ax, co3 v j = 0) ∧
  ∀ (H' : Hp) (r : Addr) (ps : List (List Rat)), Same H H' → ps.Perm (ws.map (·.2)) → ps.Pairwise lt3 → Fx K H' r (Rat.divInt (twc ax ps) (2 * ((ldv ps : Nat) : Int) * ((ldv ps : Nat) : Int) * ((co3 v ax).natAbs : Int))) → Q (.ref r) H'
theorem okPolygonArea {fPolygonArea : Addr} {fdPolygonArea : FuncData} (F : Fun K "polygon_area" "polygon_area" sPolygonArea fPolygonArea fdPolygonArea) (T : Txt mg) {aZERO : Addr} (CT : Cons K mg aZERO) {CPartError CNought : Addr} (EX : Exns K mg CPartError CNought)
    {fOnOneDivisor : Addr} {fdOnOneDivisor : FuncData} (GOnOneDivisor : FnOk P w K mg base CX0 1 fOnOneDivisor fdOnOneDivisor ["points"] (spOnOneDivisor K)) (gOnOneDivisor : mg "on_one_divisor" = some (.ref fOnOneDivisor)) (kpOnOneDivisor : PySem.W.keepIn K (.ref fOnOneDivisor) = true) (bOnOneDivisor : Binds K fdOnOneDivisor ["points"] [])
    {fAround : Addr} {fdAround : FuncData} (GAround : FnOk P w K mg base CX0 2 fAround fdAround ["corners"] (spAround K)) (gAround : mg "around" = some (.ref fAround)) (kpAround : PySem.W.keepIn K (.ref fAround) = true) (bAround : Binds K fdAround ["corners"] [])
    {fFraction : Addr} {fdFraction : FuncData} (GFraction : FnOk P w K mg base (L2.CX P w) 1 fFraction fdFraction ["number", "divisor"] (spFraction K CNought)) (gFraction : mg "fraction" = some (.ref fFraction)) (kpFraction : PySem.W.keepIn K (.ref fFraction) = true) (bFraction : Binds K fdFraction ["number", "divisor"] []) {dsFraction : List Value} (vdFraction : Vals [.int 1] dsFraction) (bdFraction : Binds K fdFraction ["number", "divisor"] dsFraction)
    {fInOrder : Addr} {fdInOrder : FuncData} (GInOrder : FnOk P w K mg base CX0 3 fInOrder fdInOrder ["points"] (spInOrder K)) (gInOrder : mg "in_order" = some (.ref fInOrder)) (kpInOrder : PySem.W.keepIn K (.ref fInOrder) = true) (bInOrder : Binds K fdInOrder ["points"] [])
    {fTurn : Addr} {fdTurn : FuncData} (GTurn : FnOk P w K mg base CX0 1 fTurn fdTurn ["a", "b", "c"] (spTurn K)) (gTurn : mg "turn" = some (.ref fTurn)) (kpTurn : PySem.W.keepIn K (.ref fTurn) = true) (bTurn : Binds K fdTurn ["a", "b", "c"] []) :
    FnOk P w K mg base CX0 4 fPolygonArea fdPolygonArea ["corners", "normal"] (spPolygonArea K) := by
  refine F.ok scPolygonArea (fun vs H Q E h => ?_) (fun cdv A outer s H vs Q E hr h => ?_)
  · obtain ⟨l, n, ws, v, ax, rfl, hL, rW, n2, n4, bW, hnd, hN, bv, ha, h0, hz, k⟩ := h
    rfl
  · obtain ⟨l, n, ws, v, ax, rfl, hL, rW, n2, n4, bW, hnd, hN, bv, ha, h0, hz, k⟩ := h
    refine ⟨_, (pss_cons (ps_asg (pe_call GOnOneDivisor (hr.mono (by decide)) (by rfl) gOnOneDivisor kpOnOneDivisor bOnOneDivisor .nil pass0 (pa_cons (pe_call GInOrder hr (by rfl) gInOrder kpInOrder bInOrder .nil pass0 (pa_cons (pv 0) pa_nil)) pa_nil)) (pg_tup rfl (pgs_cons (pg_name (i := 2) scPolygonArea.nd rfl (Or.inl rfl)) (pgs_cons (pg_name (i := 3) scPolygonArea.nd rfl (Or.inl rfl)) pgs_nil))))
      (pss_cons (ps_set (i := 4) scPolygonArea.nd rfl (Or.inr rfl) (pe_ix ix_list (pe_lc (own := [("k", 7)]) (by rfl) scPolygonArea.nd (pi_range1 rfl T.range (pa_cons pe_int pa_nil)) (blkOk_by (own := [("k", 7)]) (N := ["corners", "normal", "triples", "divisor", "axis", "shadow", "twice", "k", "triple", "a", "b"]) (sc := defScope sPolygonArea) (by decide +kernel)) (fun _ _ _ _ _ => (pg_name (i := 7) scPolygonArea.nd rfl (Or.inl rfl))) (fun _ _ _ _ _ => pts_one (pt_cmpR op_ne (pe_ix (show IxR _ (rIxT K) from ix_tup) (pv 1) (pv 7) (fun _ _ => rfl)) pe_int (nomark _))) (fun _ _ _ _ _ => (pv 7))) pe_int (fun _ _ => rfl)))
      (pss_cons (ps_set (i := 5) scPolygonArea.nd rfl (Or.inl rfl) (pe_call GAround (hr.mono (by decide)) (by rfl) gAround kpAround bAround .nil pass0 (pa_cons (pe_lc (own := [("triple", 8)]) (by rfl) scPolygonArea.nd (pi_list (pv 2)) (blkOk_by (own := [("triple", 8)]) (N := ["corners", "normal", "triples", "divisor", "axis", "shadow", "twice", "k", "triple", "a", "b"]) (sc := defScope sPolygonArea) (by decide +kernel)) (fun _ _ _ _ _ => (pg_name (i := 8) scPolygonArea.nd rfl (Or.inl rfl))) (fun _ _ _ _ _ => pts_nil) (fun _ _ _ _ _ => (pe_tup (pa_cons (pe_ix (show IxR _ (rIxT K) from ix_tup) (pv 8) (pe_op op_sub (pv 4) pe_int) (fun _ _ => rfl)) (pa_cons (pe_ix (show IxR _ (rIxT K) from ix_tup) (pv 8) (pe_op op_sub (pv 4) pe_int) (fun _ _ => rfl)) pa_nil))))) pa_nil)))
      (pss_cons (ps_set (i := 6) scPolygonArea.nd rfl (Or.inl rfl) (pe_callB (cr_sum rfl) (by rfl) T.sum (by decide +kernel) (pa_cons (pe_lc (own := [("a", 9), ("b", 10)]) (by rfl) scPolygonArea.nd (pi_zipB (by rfl) T.zip (pa_cons (pv 5) (pa_cons (pe_op op_cat (pe_slice sl_list (pv 5) (po_some pe_int) po_none) (pe_slice sl_list (pv 5) po_none (po_some pe_int))) pa_nil))) (blkOk_by (own := [("a", 9), ("b", 10)]) (N := ["corners", "normal", "triples", "divisor", "axis", "shadow", "twice", "k", "triple", "a", "b"]) (sc := defScope sPolygonArea) (by decide +kernel)) (fun _ _ _ _ _ => (show PG _ _ (gTup K 2 _) from (pg_tup rfl (pgs_cons (pg_name (i := 9) scPolygonArea.nd rfl (Or.inl rfl)) (pgs_cons (pg_name (i := 10) scPolygonArea.nd rfl (Or.inl rfl)) pgs_nil))))) (fun _ _ _ _ _ => pts_nil) (fun _ _ _ _ _ => (pe_call GTurn (hr.mono (by decide)) (by rfl) gTurn kpTurn bTurn .nil pass0 (pa_cons (pe_tup (pa_cons pe_int (pa_cons pe_int pa_nil))) (pa_cons (pv 9) (pa_cons (pv 10) pa_nil)))))) pa_nil)))
      (pss_one (ps_ret (pe_call GFraction (hr.mono (by decide)) (by rfl) gFraction kpFraction bFraction .nil passL (pa_cons (pv 6) (pa_cons (pe_op op_mul (pe_op op_mul (pe_op op_mul pe_int (pv 3)) (pv 3)) (pe_callB call_abs (by rfl) T.abs (by decide +kernel) (pa_cons (pe_ix ix_tup (pv 1) (pv 4) (fun _ _ => rfl)) pa_nil))) pa_nil))))))))), ?_⟩
    refine ⟨_, rfl, l, ws, rfl, hL, rW, by omega, fun x hx => (bW x hx).1, hnd, fun H1 D1 ks s1 e1 r1 p1 o1 => ?_⟩
    have nk : ks.length = ws.length := by
      have := p1.length_eq
      rw [List.length_map, List.length_map] at this
      exact this
    have bk : ∀ x ∈ ks, Pb3 29 x.2 ∧ ∀ r ∈ x.2, r.den ≤ 5 := fun x hx => by
      obtain ⟨y, hy, e⟩ := List.mem_map.mp (p1.mem_iff.mp (List.mem_map_of_mem hx))
      have e : y.2 = x.2 := e
      rw [← e]
      exact bW y hy
    refine ⟨D1, ks, rfl, SqL.of e1, r1, by omega, bk, fun H2 t D2 k2 s2 ht e2 r2 m2 => ?_⟩
    refine ⟨t, _, rfl, ht, rfl, _, _, rfl, _, _, rfl, rfl, ?_⟩
    refine ⟨_, rfl, by decide, by decide, fun D hD => ?_⟩
    have s12 := s1.trans s2
    refine lc_vv (walk_range (lo := 0) (n := 3)) ((List.range 3).map fun (k : Nat) => if decide (co3 v k ≠ 0) = true then some (V.int (k : Int)) else none) (by simp) (by decide) hD (fun _ _ => trivial) ?_ ?_
    · rintro j c x Hy Hz kk kn hc s3 ⟨rfl, rfl⟩ yk yn
      have hj3 : j < 3 := by
        have := (List.getElem?_eq_some_iff.mp hc).1
        simpa using this
      rw [List.getElem?_map, List.getElem?_range hj3] at hc
      refine ⟨rfl, _, rfl, _, rfl, n, _, _, _, rfl, rfl, same_tup (s12.trans s3) hN, by rw [Int.zero_add]; exact l3_at hj3, ?_⟩
      refine ⟨rfl, _, rfl, ?_⟩
      rw [dec_int]
      have ez : V.int (0 + ((j : Nat) : Int)) = V.int ((j : Nat) : Int) := by rw [Int.zero_add]
      refine ite2 (fun g => ?_) (fun g => ?_)
      · have g' : decide (co3 v j ≠ 0) = true := by simpa using g
        exact ⟨_, rfl, yk _ (by rw [← Option.some.inj hc]; exact (if_pos g').trans (congrArg some ez.symm)) _ (Same.refl _)⟩
      · have g' : ¬ decide (co3 v j ≠ 0) = true := by simpa using g
        exact yn (by rw [← Option.some.inj hc]; exact if_neg g') _ (Same.refl _)
    · intro H3 s3 e3
      obtain ⟨rest, er⟩ := ax_first ha h0 hz
      rw [er] at e3
      refine ⟨D, _, 0, _, rfl, rfl, SqL.of e3, atI_nat (j := 0) rfl, ?_⟩
      have s13 := s12.trans s3
      have e2' := s3 _ _ e2
      have hK2 := SqL.of (K := K) e2'
      refine ⟨_, rfl, D2, rfl, ⟨_, hK2⟩, fun D4 hD4 => ?_⟩
      have n2' : k2.length = ks.length := by
        have := congrArg List.length m2
        rw [List.length_map, List.length_map, List.length_map] at this
        exact this
      refine lc_relD (walk_list (K := K) (a := D2) (xs := Ro k2)) ((k2.map (·.2)).map (shd ax)) (by rw [Ro_len, List.length_map, List.length_map]) (by rw [Ro_len]; omega) hD4 (S2 K) (fun e h => same_tup e h) over_tup (fun H s => s.seq hK2) ?_ ?_
      · rintro i r x Hy Hz kk hr s4 _ ⟨rfl, hx⟩ put
        obtain ⟨u, rfl, hu⟩ := Ro_get hx
        have mu := List.mem_of_getElem? hu
        have er : r = shd ax u.2 := by
          rw [List.getElem?_map, List.getElem?_map, hu] at hr
          exact (Option.some.inj hr).symm
        subst er
        have hS := same_tup (s3.trans s4) (r2 u mu)
        have l3' : u.2.length = 3 := by
          have : u.2 ∈ k2.map (·.2) := List.mem_map_of_mem mu
          rw [m2] at this
          obtain ⟨q, hq, e⟩ := List.mem_map.mp this
          obtain ⟨y, hy, e'⟩ := List.mem_map.mp hq
          rw [← e, ← e']
          unfold trp
          rw [List.length_map]
          exact (bk y hy).1.1
        obtain ⟨q1, q2⟩ := shd_at l3' ha
        refine ⟨rfl, _, rfl, _, rfl, _, _, rfl, rfl, u.1, _, _, _, rfl, rfl, hS, q1, _, rfl, _, rfl, _, _, rfl, rfl, u.1, _, _, _, rfl, rfl, hS, q2, ?_⟩
        refine ⟨tn rfl, fun t5 nt5 => ?_⟩
        generalize hUt5 : upd _ _ (HO.tup _) = H5
        have s5 := same_hu hUt5 nt5
        have eh5 := at_hu hUt5
        have h5 := SqT.of (K := K) eh5
        clear hUt5
        exact put t5 H5 s5 h5
      intro H4 js s4 e4 r4 m4
      have nj : js.length = k2.length := by
        have := congrArg List.length m4
        rw [List.length_map, List.length_map, List.length_map] at this
        exact this
      obtain ⟨a, z, ms, rfl⟩ : ∃ a z ms, js = a :: (ms ++ [z]) := by
        match js, nj with
        | [], h => exact absurd h (by simp; omega)
        | [x], h => exact absurd h (by simp; omega)
        | x :: y :: t, _ =>
          refine ⟨x, (y :: t).getLast (by simp), (y :: t).dropLast, ?_⟩
          rw [List.dropLast_concat_getLast]
      have nm : ms.length + 2 = k2.length := by
        rw [← nj]
        simp
      have hd60 : ldv (ks.map (·.2)) ≤ 60 := Nat.le_of_dvd (by decide) (ldv_60 fun p hp r hr => by
        obtain ⟨x, hx, rfl⟩ := List.mem_map.mp hp
        exact (bk x hx).2 r hr)
      have vJ : ∀ x ∈ a :: (ms ++ [z]), V2 40 x.2 := fun x hx => by
        have h := List.mem_map_of_mem (f := (·.2)) hx
        rw [m4, m2] at h
        obtain ⟨p, hp, e⟩ := List.mem_map.mp h
        obtain ⟨q, hq, rfl⟩ := List.mem_map.mp hp
        obtain ⟨y, hy, rfl⟩ := List.mem_map.mp hq
        rw [← e]
        exact shd_bz hd60 (bk y hy).1.2
      refine ⟨D4, a, z, ms, rfl, SqL.of e4, fun x hx => ⟨r4 x hx, vJ x hx⟩, by omega, fun H5 D5 qs s5 e5 in5 m5 => ?_⟩
      have hQ := SqL.of (K := K) e5
      have nq' : qs.length = k2.length := by
        rw [← nm, ← List.length_map (f := (·.2)), m5, arn_len, List.length_map]
      have nq : qs.length ≤ 4 := by omega
      have nq2 : 2 ≤ qs.length := by omega
      have aQ : ∀ x ∈ qs, S2 K H4 x.1 x.2 ∧ V2 40 x.2 := fun x hx => ⟨r4 x (in5 x hx), vJ x (in5 x hx)⟩
      refine ⟨_, rfl, _, rfl, _, rfl, D5, _, rfl, hQ, fun p6 np6 => ?_⟩
      have c1 : cutV (Ro qs) (some 1) none = Ro (qs.drop 1) := by
        rw [show (some (1 : Int)) = some ((1 : Nat) : Int) from rfl, cutV_from (by rw [Ro_len]; omega)]
        unfold Ro
        rw [List.map_drop]
      have c2 : cutV (Ro qs) none (some 1) = Ro (qs.take 1) := by
        rw [show (some (1 : Int)) = some ((1 : Nat) : Int) from rfl, cutV_to (by rw [Ro_len]; omega)]
        unfold Ro
        rw [List.map_take]
      rw [c1]
      have s6 := same_upd (o := .lst (Ro (qs.drop 1))) np6
      have e6 : (upd H5 p6 (.lst (Ro (qs.drop 1)))) p6 = some (.lst (Ro (qs.drop 1))) := upd_same
      generalize upd H5 p6 (.lst (Ro (qs.drop 1))) = H6 at s6 e6 ⊢
      refine ⟨_, rfl, _, rfl, D5, _, rfl, s6.seq hQ, fun p7 np7 => ?_⟩
      rw [c2]
      have s7 := same_upd (o := .lst (Ro (qs.take 1))) np7
      have e7 : (upd H6 p7 (.lst (Ro (qs.take 1)))) p7 = some (.lst (Ro (qs.take 1))) := upd_same
      generalize upd H6 p7 (.lst (Ro (qs.take 1))) = H7 at s7 e7 ⊢
      refine ⟨p6, p7, _, _, rfl, rfl, s7 _ _ e6, e7, ?_, fun p8 np8 => ?_⟩
      · rw [Ro_len, Ro_len, List.length_drop, List.length_take, sizeLine_eq]
        omega
      have cat : Ro (qs.drop 1) ++ Ro (qs.take 1) = Ro (qs.drop 1 ++ qs.take 1) := by
        unfold Ro
        rw [List.map_append]
      rw [cat]
      have s8 := same_upd (o := .lst (Ro (qs.drop 1 ++ qs.take 1))) np8
      have e8 : (upd H7 p8 (.lst (Ro (qs.drop 1 ++ qs.take 1)))) p8 = some (.lst (Ro (qs.drop 1 ++ qs.take 1))) := upd_same
      generalize upd H7 p8 (.lst (Ro (qs.drop 1 ++ qs.take 1))) = H8 at s8 e8 ⊢
      have s58 := s6.trans (s7.trans s8)
      have h8 := SqL.of (K := K) e8
      have nr : (qs.drop 1 ++ qs.take 1).length = qs.length := by
        rw [List.length_append, List.length_drop, List.length_take]
        omega
      refine ⟨false, false, D5, p8, _, _, rfl, s58.seq hQ, h8, fun D9 hD9 => ?_⟩
      refine lc_val (walk_zipB (f := false) (g := false) (xs := Ro qs) (ys := Ro (qs.drop 1 ++ qs.take 1)) (n := qs.length) (by rw [Ro_len, Ro_len, nr, Nat.min_self])) (zs (List.zipWith (fun a b => tri (0, 0) a b) (qs.map (·.2)) ((qs.drop 1 ++ qs.take 1).map (·.2)))) (by rw [show (zs (List.zipWith (fun a b => tri (0, 0) a b) (qs.map (·.2)) ((qs.drop 1 ++ qs.take 1).map (·.2)))).length = (List.zipWith (fun a b => tri (0, 0) a b) (qs.map (·.2)) ((qs.drop 1 ++ qs.take 1).map (·.2))).length from List.length_map _, List.length_zipWith, List.length_map, List.length_map, nr, Nat.min_self]) (by omega) hD9 (fun H s => ⟨s.seq (s58.seq hQ), s.seq h8⟩) ?_ ?_
      · rintro i r y Hy Hz kk hr s9 ⟨T, w1, w2, rfl, hT, rfl, g1, g2⟩ yk
        obtain ⟨x1, rfl, hx1⟩ := Ro_get g1
        obtain ⟨x2, rfl, hx2⟩ := Ro_get g2
        have m1 := List.mem_of_getElem? hx1
        have mx2 : x2 ∈ qs := by
          rcases List.mem_append.mp (List.mem_of_getElem? hx2) with h | h
          · exact List.mem_of_mem_drop h
          · exact List.mem_of_mem_take h
        have er : r = .int (tri (0, 0) x1.2 x2.2) := by
          obtain ⟨ze, rfl, hz⟩ := zs_get hr
          rw [List.getElem?_zipWith, List.getElem?_map, hx1, List.getElem?_map, hx2] at hz
          exact congrArg V.int (Option.some.inj hz).symm
        subst er
        have sT := same_upd (o := .tup [.ref x1.1, .ref x2.1]) hT
        have s5y := (s5.trans s58).trans (s9.trans sT)
        refine ⟨T, _, rfl, SqT.of upd_same, rfl, _, _, rfl, _, _, rfl, rfl, ?_⟩
        refine ⟨rfl, ?_⟩
        refine ⟨by show 2 ≤ sizeLine; decide, fun p11 np11 => ?_⟩
        have s11 := same_upd (o := .tup [V.int 0, V.int 0]) np11
        refine ⟨_, rfl, _, rfl, p11, x1.1, x2.1, (0, 0), x1.2, x2.2, rfl, SqT.of upd_same, same_tup (s5y.trans s11) (aQ x1 m1).1, same_tup (s5y.trans s11) (aQ x2 mx2).1, ⟨Nat.pos_of_ne_zero (by decide), Nat.pos_of_ne_zero (by decide)⟩, (aQ x1 m1).2, (aQ x2 mx2).2, ?_⟩
        exact yk _ (sT.trans s11)
      · intro H9 s9 e9
        refine ⟨D9, _, rfl, SqL.of e9, ?_⟩
        have e12 : (List.zipWith (fun a b => tri (0, 0) a b) (qs.map (·.2)) ((qs.drop 1 ++ qs.take 1).map (·.2))).sum = twc ax (ks.map (·.2)) := by
          have e : ((ks.map (·.2)).map (trp (ldv (ks.map (·.2))))).map (shd ax) = a.2 :: (ms.map (·.2) ++ [z.2]) := by
            rw [← m2, ← m4]
            simp
          unfold twc
          rw [e, arnd_eq, ← m5, List.map_append, List.map_drop, List.map_take]
          rfl
        rw [e12]
        have s59 := s5.trans (s58.trans s9)
        have sA := s13.trans (s4.trans s59)
        generalize hdv : ldv (ks.map (·.2)) = d at hd60 ⊢
        have bd : (-(2 ^ 64) < (d : Int) ∧ (d : Int) < 2 ^ 64) := ⟨by omega, by omega⟩
        have bn : Bz 40 (co3 v ax) := by
          match ax, ha with
          | 0, _ => exact bv.1
          | 1, _ => exact bv.2.1
          | 2, _ => exact bv.2.2
        have bn' : (co3 v ax).natAbs < 2 ^ 40 := bn
        have d0 : 0 < d := by
          rw [← hdv]
          exact Nat.pos_of_dvd_of_pos (ldv_60 fun p hp r hr => by
            obtain ⟨x, hx, rfl⟩ := List.mem_map.mp hp
            exact (bk x hx).2 r hr) (by decide)
        have eabs : (if co3 v ax < 0 then -co3 v ax else co3 v ax) = ((co3 v ax).natAbs : Int) := by
          split <;> omega
        refine ⟨_, rfl, _, rfl, _, _, rfl, rfl, .inr bd, _, rfl, _, _, rfl, rfl, .inr bd, ?_⟩
        refine ⟨_, rfl, _, rfl, n, _, _, _, rfl, rfl, same_tup sA hN, l3_at ha, _, rfl, ?_⟩
        rw [eabs]
        have c0 : (2 * (d : Int) * (d : Int) * ((co3 v ax).natAbs : Int)) ≠ 0 := by
          have h1 : (d : Int) ≠ 0 := by omega
          have h2 : ((co3 v ax).natAbs : Int) ≠ 0 := by omega
          exact Int.mul_ne_zero (Int.mul_ne_zero (Int.mul_ne_zero (by decide) h1) h1) h2
        have bD : Bz 8500 (2 * (d : Int) * (d : Int) * ((co3 v ax).natAbs : Int)) := by
          have b1 : Bz 6 (d : Int) := by
            show ((d : Int)).natAbs < 2 ^ 6
            omega
          have b2 : Bz 2 (2 : Int) := show (2 : Int).natAbs < 2 ^ 2 by decide
          have b3 : Bz 40 ((co3 v ax).natAbs : Int) := by
            show (((co3 v ax).natAbs : Int)).natAbs < 2 ^ 40
            rw [Int.natAbs_natCast]
            exact bn'
          exact (((b2.mul b1).mul b1).mul b3).up (by decide)
        refine ⟨_, _, rfl, rfl, .inr ⟨by omega, by omega⟩, ?_⟩
        refine ⟨_, _, rfl, bD, fun h => absurd h c0, fun _ Hf t f1 f2 => k Hf t (ks.map (·.2)) (sA.trans f1) p1 o1 ?_⟩
        rw [hdv]
        exact f2
def arS (l : List Rat) : Rat := l.foldl (fun a b => a + b) 0
def Pg (K : PySem.W.Frag) (H : Hp) (v : V3) (ax : Nat) (a : Addr) (ws : List (Addr × List Rat)) (A : Rat) : Prop := SqL K H a (Ro ws) ∧ Pts K H ws ∧ 2 ≤ ws.length ∧ ws.length ≤ 4 ∧ (∀ w ∈ ws, Pb3 29 w.2 ∧ ∀ r ∈ w.2, r.den ≤ 5) ∧ (ws.map (·.2)).Nodup ∧ Bd 200 A ∧
  ∀ ps : List (List Rat), ps.Perm (ws.map (·.2)) → ps.Pairwise lt3 → Rat.divInt (twc ax ps) (2 * ((ldv ps : Nat) : Int) * ((ldv ps : Nat) : Int) * ((co3 v ax).natAbs : Int)) = A
theorem Pg.up {K : PySem.W.Frag} {H H' : Hp} {v : V3} {ax : Nat} {a : Addr} {ws : List (Addr × List Rat)} {A : Rat} (h : Pg K H v ax a ws A) (s : Same H H') : Pg K H' v ax a ws A := by
  obtain ⟨h1, h2, h3⟩ := h
  exact ⟨s.seq h1, h2.up s, h3⟩
def spAreaOf (K : PySem.W.Frag) : Sp := fun vs H Q _ => ∃ (l n : Addr) (pl : List (Addr × (List (Addr × List Rat) × Rat))) (v : V3) (ax : Nat), vs = [.ref l, .ref n] ∧ SqL K H l (Ro pl) ∧ (∀ x ∈ pl, Pg K H v ax x.1 x.2.1 x.2.2) ∧ pl.length ≤ 2 ∧ Sv K H n v ∧ Vz 40 v ∧ ax < 3 ∧ co3 v ax ≠ 0 ∧ (∀ j < ax, co3 v j = 0) ∧
  ∀ (H' : Hp) (r : Addr), Same H H' → Fx K H' r (arS (pl.map (·.2.2))) → Q (.ref r) H'
theorem okAreaOf {fAreaOf : Addr} {fdAreaOf : FuncData} (F : Fun K "area_of" "area_of" sAreaOf fAreaOf fdAreaOf) (T : Txt mg) {aZERO : Addr} (CT : Cons K mg aZERO) {CPartError CNought : Addr} (EX : Exns K mg CPartError CNought)
    {fPlus : Addr} {fdPlus : FuncData} (GPlus : FnOk P w K mg base CX0 2 fPlus fdPlus ["a", "b"] (spPlus K)) (gPlus : mg "plus" = some (.ref fPlus)) (kpPlus : PySem.W.keepIn K (.ref fPlus) = true) (bPlus : Binds K fdPlus ["a", "b"] [])
    {fPolygonArea : Addr} {fdPolygonArea : FuncData} (GPolygonArea : FnOk P w K mg base CX0 4 fPolygonArea fdPolygonArea ["corners", "normal"] (spPolygonArea K)) (gPolygonArea : mg "polygon_area" = some (.ref fPolygonArea)) (kpPolygonArea : PySem.W.keepIn K (.ref fPolygonArea) = true) (bPolygonArea : Binds K fdPolygonArea ["corners", "normal"] []) :
    FnOk P w K mg base CX0 5 fAreaOf fdAreaOf ["polygons", "normal"] (spAreaOf K) := by
  refine F.ok scAreaOf (fun vs H Q E h => ?_) (fun cdv A outer s H vs Q E hr h => ?_)
  · obtain ⟨l, n, pl, v, ax, rfl, hL, rP, n2, hN, bv, ha, h0, hz, k⟩ := h
    rfl
  · obtain ⟨l, n, pl, v, ax, rfl, hL, rP, n2, hN, bv, ha, h0, hz, k⟩ := h
    refine ⟨_, (pss_cons (ps_set (i := 2) scAreaOf.nd rfl (Or.inl rfl) (pe_glob (v := .ref aZERO) (by rfl) CT.gZERO rfl))
      (C8.pss_cut (ps_for PassesOwn.never rfl (pi_list (pv 0)) (pg_name (i := 3) scAreaOf.nd rfl (Or.inl rfl))
        (pss_one (ps_set (i := 2) scAreaOf.nd rfl (Or.inl rfl) (pe_call GPlus (hr.mono (by decide)) (by rfl) gPlus kpPlus bPlus .nil pass0 (pa_cons (pv 2) (pa_cons (pe_call GPolygonArea hr (by rfl) gPolygonArea kpPolygonArea bPolygonArea .nil pass0 (pa_cons (pv 3) (pa_cons (pv 1) pa_nil))) pa_nil))))))
      (pss_one (ps_ret (pv 2))))), ?_⟩
    refine ⟨fun σ' H' => ∃ (t : Addr) (v3 : Option V), σ' = [some (.ref l), some (.ref n), some (.ref t), v3] ∧ Same H H' ∧ Fx K H' t (arS (pl.map (·.2.2))), ?_, ?_⟩
    · refine ⟨_, rfl, l, rfl, ⟨_, hL⟩, for_list (K := K) (a := l) (xs := Ro pl) (fun i σ' H' => ∃ (t : Addr) (v3 : Option V), σ' = [some (.ref l), some (.ref n), some (.ref t), v3] ∧ Same H H' ∧ Fx K H' t (arS ((pl.map (·.2.2)).take i)) ∧ Bd (1 + 201 * i) (arS ((pl.map (·.2.2)).take i))) ?_ ?_ ?_ ?_⟩
      · exact ⟨aZERO, none, rfl, Same.refl _, CT.tZERO H, show Bd 1 (0 : Rat) from ⟨by decide, by decide⟩⟩
      · rintro i σ' H' _ ⟨t, v3, rfl, s1, _⟩
        exact s1.seq hL
      · rintro i x σ' H' hi ⟨t, v3, rfl, s1, ht, bt⟩
        obtain ⟨u, rfl, hu⟩ := Ro_get hi
        have mu := List.mem_of_getElem? hu
        have hil : i < pl.length := (List.getElem?_eq_some_iff.mp hu).1
        obtain ⟨p1, p2, p3, p4, p5, p6, p7, p8⟩ := (rP u mu).up s1
        refine ⟨_, rfl, _, rfl, _, rfl, u.1, n, u.2.1, v, ax, rfl, p1, p2, p3, p4, p5, p6, same_tup s1 hN, bv, ha, h0, hz, fun H2 r ps s2 q1 q2 q3 => ?_⟩
        rw [p8 ps q1 q2] at q3
        have e3 : arS ((pl.map (·.2.2)).take (i + 1)) = arS ((pl.map (·.2.2)).take i) + u.2.2 := by
          unfold arS
          rw [List.take_add_one, List.getElem?_map, hu, List.foldl_append]
          rfl
        refine ⟨t, r, _, _, _, _, rfl, ht.same s2, q3, bt, p7, by omega, fun H3 t2 s3 e2 => ?_⟩
        refine ⟨t2, some (.ref u.1), rfl, s1.trans (s2.trans s3), ?_, ?_⟩
        · rw [e3]
          exact e2
        · rw [e3]
          exact (bt.add p7).up (by omega)
      · rintro σ' H' ⟨t, v3, rfl, s1, ht, _⟩
        rw [List.take_of_length_le (by rw [Ro_len, List.length_map]; exact Nat.le_refl _)] at ht
        exact ⟨t, v3, rfl, s1, ht⟩
    · rintro σ' H' ⟨t, v3, rfl, s1, ht⟩
      exact ⟨_, rfl, k H' t s1 ht⟩
theorem FT.three {K : PySem.W.Frag} {H : Hp} {b : Addr} {p : List Rat} (h : FT K H b p) (hp : p.length = 3) : Px K H b (p.getD 0 0) (p.getD 1 0) (p.getD 2 0) := by
  obtain ⟨ws, h1, h2, rfl⟩ := h
  match ws, hp with
  | [x, y, z], _ => exact ⟨x.1, y.1, z.1, h1, h2 x (by simp), h2 y (by simp), h2 z (by simp)⟩
theorem getD_bd3 {n k : Nat} {p : List Rat} (hp : p.length = 3) (h : ∀ r ∈ p, Bd n r) (hk : k < 3) : Bd n (p.getD k 0) := by
  rw [List.getD_eq_getElem?_getD, List.getElem?_eq_getElem (by omega)]
  exact h _ (List.getElem_mem _)
theorem dot_bd {v : V3} {a b c : Rat} (bv : Vz 10 v) (h1 : Bd 29 a) (h2 : Bd 29 b) (h3 : Bd 29 c) : Bd 119 (dot3 v.1 v.2.1 v.2.2 a b c) :=
  (((((bd_int bv.1 (by decide)).mul h1).add ((bd_int bv.2.1 (by decide)).mul h2)).add ((bd_int bv.2.2 (by decide)).mul h3))).up (by decide)
def spLengthOf (K : PySem.W.Frag) : Sp := fun vs H Q _ => ∃ (n a b : Addr) (v : V3) (p q : List Rat), vs = [.ref n, .ref a, .ref b] ∧ Sv K H n v ∧ Vz 10 v ∧ FT K H a p ∧ FT K H b q ∧ Pb3 29 p ∧ Pb3 29 q ∧ v.1 * v.1 + v.2.1 * v.2.1 + v.2.2 * v.2.2 ≠ 0 ∧
  ∀ (H' : Hp) (r : Addr), Same H H' → Fx K H' r ((dot3 v.1 v.2.1 v.2.2 (q.getD 0 0) (q.getD 1 0) (q.getD 2 0) - dot3 v.1 v.2.1 v.2.2 (p.getD 0 0) (p.getD 1 0) (p.getD 2 0)) / ((v.1 * v.1 + v.2.1 * v.2.1 + v.2.2 * v.2.2 : Int) : Rat)) → Q (.ref r) H'
theorem okLengthOf {fLengthOf : Addr} {fdLengthOf : FuncData} (F : Fun K "length_of" "length_of" sLengthOf fLengthOf fdLengthOf) (T : Txt mg) {aZERO : Addr} (CT : Cons K mg aZERO) {CPartError CNought : Addr} (EX : Exns K mg CPartError CNought)
    {fOver : Addr} {fdOver : FuncData} (GOver : FnOk P w K mg base CX0 2 fOver fdOver ["a", "b"] (spOver K)) (gOver : mg "over" = some (.ref fOver)) (kpOver : PySem.W.keepIn K (.ref fOver) = true) (bOver : Binds K fdOver ["a", "b"] [])
    {fMinus : Addr} {fdMinus : FuncData} (GMinus : FnOk P w K mg base CX0 2 fMinus fdMinus ["a", "b"] (spMinus K)) (gMinus : mg "minus" = some (.ref fMinus)) (kpMinus : PySem.W.keepIn K (.ref fMinus) = true) (bMinus : Binds K fdMinus ["a", "b"] [])
    {fFraction : Addr} {fdFraction : FuncData} (GFraction : FnOk P w K mg base (L2.CX P w) 1 fFraction fdFraction ["number", "divisor"] (spFraction K CNought)) (gFraction : mg "fraction" = some (.ref fFraction)) (kpFraction : PySem.W.keepIn K (.ref fFraction) = true) (bFraction : Binds K fdFraction ["number", "divisor"] []) {dsFraction : List Value} (vdFraction : Vals [.int 1] dsFraction) (bdFraction : Binds K fdFraction ["number", "divisor"] dsFraction)
    {fReach : Addr} {fdReach : FuncData} (GReach : FnOk P w K mg base CX0 2 fReach fdReach ["normal", "point"] (spReach K)) (gReach : mg "reach" = some (.ref fReach)) (kpReach : PySem.W.keepIn K (.ref fReach) = true) (bReach : Binds K fdReach ["normal", "point"] [])
    {fInner : Addr} {fdInner : FuncData} (GInner : FnOk P w K mg base CX0 1 fInner fdInner ["a", "b"] (spInner K)) (gInner : mg "inner" = some (.ref fInner)) (kpInner : PySem.W.keepIn K (.ref fInner) = true) (bInner : Binds K fdInner ["a", "b"] []) :
    FnOk P w K mg base CX0 3 fLengthOf fdLengthOf ["direction", "start", "end"] (spLengthOf K) := by
  refine F.ok scLengthOf (fun vs H Q E h => ?_) (fun cdv A outer s H vs Q E hr h => ?_)
  · obtain ⟨n, a, b, v, p, q, rfl, hN, bv, hA, hB, bp, bq, h0, k⟩ := h
    rfl
  · obtain ⟨n, a, b, v, p, q, rfl, hN, bv, hA, hB, bp, bq, h0, k⟩ := h
    refine ⟨_, (pss_one (ps_ret (pe_call GOver hr (by rfl) gOver kpOver bOver .nil pass0 (pa_cons (pe_call GMinus hr (by rfl) gMinus kpMinus bMinus .nil pass0 (pa_cons (pe_call GReach hr (by rfl) gReach kpReach bReach .nil pass0 (pa_cons (pv 0) (pa_cons (pv 2) pa_nil))) (pa_cons (pe_call GReach hr (by rfl) gReach kpReach bReach .nil pass0 (pa_cons (pv 0) (pa_cons (pv 1) pa_nil))) pa_nil))) (pa_cons (pe_call GFraction (hr.mono (by decide)) (by rfl) gFraction kpFraction bdFraction vdFraction passL (pa_cons (pe_call GInner (hr.mono (by decide)) (by rfl) gInner kpInner bInner .nil pass0 (pa_cons (pv 0) (pa_cons (pv 0) pa_nil))) pa_nil)) pa_nil))))), ?_⟩
    have gq : ∀ k, k < 3 → Bd 29 (q.getD k 0) := fun k hk => getD_bd3 bq.1 bq.2 hk
    have gp : ∀ k, k < 3 → Bd 29 (p.getD k 0) := fun k hk => getD_bd3 bp.1 bp.2 hk
    have u9 : ∀ k, k < 3 → Bd 90 (q.getD k 0) := fun k hk => (gq k hk).up (by decide)
    have w9 : ∀ k, k < 3 → Bd 90 (p.getD k 0) := fun k hk => (gp k hk).up (by decide)
    refine ⟨_, rfl, _, rfl, n, b, v, _, _, _, rfl, hN, hB.three bq.1, bv.up (by decide), u9 0 (by decide), u9 1 (by decide), u9 2 (by decide), fun H1 r1 s1 e1 => ?_⟩
    refine ⟨_, rfl, _, rfl, n, a, v, _, _, _, rfl, same_tup s1 hN, (FT.up s1 hA).three bp.1, bv.up (by decide), w9 0 (by decide), w9 1 (by decide), w9 2 (by decide), fun H2 r2 s2 e2 => ?_⟩
    have d1 := dot_bd bv (gq 0 (by decide)) (gq 1 (by decide)) (gq 2 (by decide))
    have d2 := dot_bd bv (gp 0 (by decide)) (gp 1 (by decide)) (gp 2 (by decide))
    refine ⟨r1, r2, _, _, _, _, rfl, e1.same s2, e2, d1, d2, by decide, fun H3 r3 s3 e3 => ?_⟩
    have s12 := s1.trans (s2.trans s3)
    have bz := bv.up (show 10 ≤ 1000 by decide)
    refine ⟨_, rfl, _, rfl, n, n, _, _, _, _, _, _, rfl, same_tup s12 hN, same_tup s12 hN, bz.1, bz.2.1, bz.2.2, bz.1, bz.2.1, bz.2.2, ?_⟩
    refine ⟨_, 1, rfl, show (1 : Int).natAbs < 2 ^ 8500 from Nat.one_lt_two_pow (by decide), fun h => absurd h (by decide), fun _ H4 r4 s4 e4 => ?_⟩
    rw [div_one] at e4
    have b0 : Bd 25 ((v.1 * v.1 + v.2.1 * v.2.1 + v.2.2 * v.2.2 : Int) : Rat) := bd_int (((bv.1.mul bv.1).add (bv.2.1.mul bv.2.1)).add (bv.2.2.mul bv.2.2) |>.up (by decide)) (by decide)
    exact ⟨r3, r4, _, _, _, _, rfl, e3.same s4, e4, d1.sub d2, b0, by decide, fun c => h0 (by exact_mod_cast c), fun H5 t s5 e5 => k H5 t (s12.trans (s4.trans s5)) e5⟩
def spLLawIsInteger (K : PySem.W.Frag) : Sp := fun vs H Q _ => ∃ n : Int, vs = [.int n] ∧ Q (.bl true) H
theorem okLLawIsInteger {fLLawIsInteger : Addr} {fdLLawIsInteger : FuncData} (F : Fun K "_law_is_integer" "_law_is_integer" sLLawIsInteger fLLawIsInteger fdLLawIsInteger) (T : Txt mg) {aZERO : Addr} (CT : Cons K mg aZERO) {CPartError CNought : Addr} (EX : Exns K mg CPartError CNought) :
    FnOk P w K mg base CX0 1 fLLawIsInteger fdLLawIsInteger ["actual"] (spLLawIsInteger K) := by
  refine F.ok scLLawIsInteger (fun vs H Q E h => ?_) (fun cdv A outer s H vs Q E hr h => ?_)
  · obtain ⟨n, rfl, q⟩ := h
    rfl
  · obtain ⟨n, rfl, q⟩ := h
    refine ⟨_, (pss_one (ps_ret (pe_and (pe_callB call_isi (by rfl) T.isinstance (by decide +kernel) (pa_cons (pv 0) (pa_cons (pe_bltn (v := .ty "int") (by rfl) T.int (by decide +kernel) rfl) pa_nil))) (pe_one (pe_not (pe_callB call_isi (by rfl) T.isinstance (by decide +kernel) (pa_cons (pv 0) (pa_cons (pe_bltn (v := .ty "bool") (by rfl) T.bool (by decide +kernel) rfl) pa_nil)))))))), ?_⟩
    refine ⟨.int n, rfl, .int n, .ty "int", .type "int", .type "int", true, rfl, (.ty _), .base (.int n), kit_ty (by decide +kernel), true, rfl, iteT ?_⟩
    exact ⟨.int n, rfl, .int n, .ty "bool", .type "int", .type "bool", false, rfl, (.ty _), .base (.int n), kit_ty (by decide +kernel), false, rfl, q⟩
def spLLawCell (K : PySem.W.Frag) : Sp := fun vs H Q _ => ∃ (a : Addr) (ns : List Int) (k : Nat), vs = [.ref a, .int k] ∧ SqL K H a (zs ns) ∧ ∀ c : Int, 0 ≤ c → Q (.int c) H
theorem okLLawCell {fLLawCell : Addr} {fdLLawCell : FuncData} (F : Fun K "_law_cell" "_law_cell" sLLawCell fLLawCell fdLLawCell) (T : Txt mg) {aZERO : Addr} (CT : Cons K mg aZERO) {CPartError CNought : Addr} (EX : Exns K mg CPartError CNought) :
    FnOk P w K mg base CX0 1 fLLawCell fdLLawCell ["script", "k"] (spLLawCell K) := by
  refine F.ok scLLawCell (fun vs H Q E h => ?_) (fun cdv A outer s H vs Q E hr h => ?_)
  · obtain ⟨a, ns, k, rfl, hS, q⟩ := h
    rfl
  · obtain ⟨a, ns, k, rfl, hS, q⟩ := h
    refine ⟨_, (pss_cons (ps_if (pt_cmpR op_lt (pv 1) (pe_callB call_len_seq (by rfl) T.len PySem.boot_len (pa_cons (pv 0) pa_nil)) (nomark _))
        (pss_one (ps_ret (pe_callB call_abs (by rfl) T.abs (by decide +kernel) (pa_cons (pe_callTy call_int1 (by rfl) T.int (by decide +kernel) (pa_cons (pe_ix ix_list (pv 0) (pv 1) (fun _ _ => rfl)) pa_nil)) pa_nil))))
        pss_nil)
      (pss_one (ps_ret pe_int))), ?_⟩
    refine ⟨_, rfl, .ref a, rfl, a, _, rfl, .inl hS, _, _, rfl, rfl, _, rfl, ite2 (fun hlt => ?_) (fun _ => ?_)⟩
    · have h1 := of_decide_eq_true hlt
      rw [show zs ns = ns.map V.int from rfl, List.length_map] at h1
      have h2 : k < ns.length := by omega
      have h3 : (zs ns)[k]? = some (.int ns[k]) := by
        rw [show zs ns = ns.map V.int from rfl, List.getElem?_map, List.getElem?_eq_getElem h2]
        rfl
      refine ⟨.ref a, rfl, _, rfl, a, _, _, _, rfl, rfl, hS, atI_nat h3, .inl ⟨_, rfl, _, rfl, q _ ?_⟩⟩
      split <;> omega
    · exact q 0 (by decide)
def spLLawRow (K : PySem.W.Frag) : Sp := fun vs H Q _ => ∃ (cell base : Int) (n : Nat), vs = [.int cell, .int n, .int base] ∧ 0 < base ∧ base < 1000000 ∧ n ≤ 1000 ∧
  ∀ (H' : Hp) (l : Addr) (rs : List Int), Same H H' → H l = none → H' l = some (.lst (zs rs)) → rs.length = n → (∀ r ∈ rs, 0 ≤ r ∧ r < base) → Q (.ref l) H'
theorem okLLawRow {fLLawRow : Addr} {fdLLawRow : FuncData} (F : Fun K "_law_row" "_law_row" sLLawRow fLLawRow fdLLawRow) (T : Txt mg) {aZERO : Addr} (CT : Cons K mg aZERO) {CPartError CNought : Addr} (EX : Exns K mg CPartError CNought) :
    FnOk P w K mg base CX0 1 fLLawRow fdLLawRow ["cell", "size", "base"] (spLLawRow K) := by
  refine F.ok scLLawRow (fun vs H Q E h => ?_) (fun cdv A outer s H vs Q E hr h => ?_)
  · obtain ⟨cell, base, n, rfl, hb0, hb1, hn, q⟩ := h
    rfl
  · obtain ⟨cell, base, n, rfl, hb0, hb1, hn, q⟩ := h
    refine ⟨_, (pss_cons (ps_set (i := 3) scLLawRow.nd rfl (Or.inl rfl) (pe_lst pa_nil))
      (pss_cons (ps_set (i := 4) scLLawRow.nd rfl (Or.inl rfl) (pv 0))
      (C8.pss_cut (ps_for PassesOwn.never rfl (pi_range1 rfl T.range (pa_cons (pv 1) pa_nil)) (pg_name (i := 5) scLLawRow.nd rfl (Or.inl rfl))
        (pss_one (ps_if (pt_cmpR op_ge (pv 0) (pe_op op_pow pe_int pe_int) (nomark _))
          (pss_cons (ps_expr (pe_bm PySem.F.plainAttrs_list PySem.F.slot_list_append PySem.F.type_list_append mt_append (pv 3) (pa_cons (pe_op op_mod (pe_callTy call_int1 (by rfl) T.int (by decide +kernel) (pa_cons (pv 4) pa_nil)) (pv 2)) pa_nil)))
          (pss_one (ps_set (i := 4) scLLawRow.nd rfl (Or.inl rfl) (pe_op op_fdiv (pv 4) (pv 2)))))
          (pss_cons (ps_set (i := 6) scLLawRow.nd rfl (Or.inl rfl) (pe_op op_mod (pe_op op_add (pe_op op_add (pe_op op_mul (pe_op op_mod (pe_callTy call_int1 (by rfl) T.int (by decide +kernel) (pa_cons (pv 0) pa_nil)) pe_int) pe_int) (pe_op op_mul (pv 5) pe_int)) (pe_op op_fdiv (pv 0) pe_int)) pe_int))
          (pss_cons (ps_set (i := 6) scLLawRow.nd rfl (Or.inl rfl) (pe_op op_mod (pe_op op_add (pe_op op_add (pe_op op_mul (pv 6) pe_int) (pe_op op_mul (pv 5) pe_int)) pe_int) pe_int))
          (pss_one (ps_expr (pe_bm PySem.F.plainAttrs_list PySem.F.slot_list_append PySem.F.type_list_append mt_append (pv 3) (pa_cons (pe_op op_mod (pe_op op_fdiv (pv 6) pe_int) (pv 2)) pa_nil)))))))))
      (pss_one (ps_ret (pv 3)))))), ?_⟩
    refine ⟨Nat.zero_le _, fun l hl => ?_⟩
    have sl : Same H (upd H l (.lst [])) := same_upd hl
    walk_at "rd"
    refine ⟨fun σ' H' => ∃ (rs : List Int) (v4 v5 v6 : Option V), σ' = [some (.int cell), some (.int n), some (.int base), some (.ref l), v4, v5, v6] ∧ Same H H' ∧ H' l = some (.lst (zs rs)) ∧ rs.length = n ∧ ∀ r ∈ rs, 0 ≤ r ∧ r < base, ?_, ?_⟩
    · refine ⟨_, rfl, n, rfl, by omega, by omega, for_range (n := n) (fun i σ' H' => ∃ (rs : List Int) (number : Int) (v5 v6 : Option V), σ' = [some (.int cell), some (.int n), some (.int base), some (.ref l), some (.int number), v5, v6] ∧ Same H H' ∧ H' l = some (.lst (zs rs)) ∧ rs.length = i ∧ ∀ r ∈ rs, 0 ≤ r ∧ r < base) ?_ ?_ ?_⟩
      · exact ⟨[], cell, none, none, rfl, sl, upd_same, rfl, fun r h => nomatch h⟩
      · rintro i σ' H' hi ⟨rs, number, v5, v6, rfl, s1, e1, el, ea⟩
        have hlen : (zs rs).length < sizeLine := zs_lt (by omega)
        walk_at "rd"
        refine ite2 (fun _ => ?_) (fun _ => ?_)
        · walk_at "rd"
          refine ⟨.inl ⟨rfl, _, SqL.of e1⟩, ?_⟩
          walk_at "rd"
          refine ⟨hb0, l, _, _, rfl, rfl, e1, hlen, ?_⟩
          walk_at "rd"
          refine ⟨⟨hb0, by omega⟩, rs ++ [number % base], _, _, _, rfl, fun b o e => ?_, ?_, ?_, row_all ea _ hb0⟩
          · rw [upd_ne (ne_of_none e hl)]
            exact s1 b o e
          · rw [upd_same, zs_push]
          · rw [List.length_append, el]
            rfl
        · walk_at "rd"
          refine ⟨.inl ⟨rfl, _, SqL.of e1⟩, ?_⟩
          walk_at "rd"
          refine ⟨hb0, l, _, _, rfl, rfl, e1, hlen, ?_⟩
          refine ⟨_, _, _, _, rfl, fun b o e => ?_, by rw [upd_same, zs_push], ?_, row_all ea _ hb0⟩
          · rw [upd_ne (ne_of_none e hl)]
            exact s1 b o e
          · rw [List.length_append, el]
            rfl
      · rintro σ' H' ⟨rs, number, v5, v6, rfl, s1, e1, el, ea⟩
        exact ⟨rs, _, _, _, rfl, s1, e1, el, ea⟩
    · rintro σ' H' ⟨rs, v4, v5, v6, rfl, s1, e1, el, ea⟩
      exact ⟨_, rfl, q H' l rs s1 hl e1 el ea⟩
theorem eu_far49 {a b : Nat} (ha : a < 2 ^ 4900) (hb : b < 2 ^ 4900) : 2 * (a * b) < 2 ^ 10000 := by
  have h1 : a * b < 2 ^ 4900 * 2 ^ 4900 := Nat.mul_lt_mul'' ha hb
  rw [← Nat.pow_add] at h1
  have h2 : (2 : Nat) * 2 ^ (4900 + 4900) ≤ 2 ^ 10000 := by
    rw [← Nat.pow_succ']
    exact Nat.pow_le_pow_right (by decide) (by decide)
  omega
def spLLawFraction (K : PySem.W.Frag) : Sp := fun vs H Q _ => ∃ n d : Int, vs = [.int n, .int d] ∧ n.natAbs < 2 ^ 4900 ∧ d.natAbs < 2 ^ 4900 ∧ d ≠ 0 ∧ ∀ (H' : Hp) (t : Addr), Same H H' → H' t = some (.tup (zs (rd2 n d))) → Q (.ref t) H'
theorem okLLawFraction {fLLawFraction : Addr} {fdLLawFraction : FuncData} (F : Fun K "_law_fraction" "_law_fraction" sLLawFraction fLLawFraction fdLLawFraction) (T : Txt mg) {aZERO : Addr} (CT : Cons K mg aZERO) {CPartError CNought : Addr} (EX : Exns K mg CPartError CNought) :
    FnOk P w K mg base CX0 1 fLLawFraction fdLLawFraction ["number", "divisor"] (spLLawFraction K) := by
  refine F.ok scLLawFraction (fun vs H Q E h => ?_) (fun cdv A outer s H vs Q E hr h => ?_)
  · obtain ⟨n, d, rfl, bn, bd, hd, k⟩ := h
    rfl
  · obtain ⟨n, d, rfl, bn, bd, hd, k⟩ := h
    refine ⟨_, (pss_cons (ps_set (i := 2) scLLawFraction.nd rfl (Or.inl rfl) (pe_callB call_abs (by rfl) T.abs (by decide +kernel) (pa_cons (pv 0) pa_nil)))
      (pss_cons (ps_set (i := 3) scLLawFraction.nd rfl (Or.inl rfl) (pe_callB call_abs (by rfl) T.abs (by decide +kernel) (pa_cons (pv 1) pa_nil)))
      (C8.pss_cut (ps_for PassesOwn.never rfl (pi_range1 rfl T.range (pa_cons pe_int pa_nil)) (pg_name (i := 4) scLLawFraction.nd rfl (Or.inl rfl))
        (pss_cons (ps_if (pt_cmpR op_eq (pv 3) pe_int (nomark _))
          (pss_one ps_break)
          pss_nil)
        (pss_one (ps_par (i := 2) (j := 3) (by rfl) scLLawFraction.nd rfl rfl (by decide) rfl rfl (pa_cons (pv 3) (pa_cons (pe_op op_modN (pv 2) (pv 3)) pa_nil)) (by rfl)))))
      (C8.pss_cut (ps_if (pt_cmpR op_lt (pv 1) pe_int (nomark _))
        (pss_one (ps_set (i := 2) scLLawFraction.nd rfl (Or.inl rfl) (pe_un un_neg (pv 2))))
        pss_nil)
      (pss_one (ps_ret (pe_tup (pa_cons (pe_op op_fdivX (pv 0) (pv 2)) (pa_cons (pe_op op_fdivX (pv 1) (pv 2)) pa_nil))))))))), ?_⟩
    walk_at "rd"
    have ez : ∀ z : Int, (if z < 0 then -z else z) = ((z.natAbs : Nat) : Int) := fun z => by
      split <;> omega
    rw [ez n, ez d]
    refine ⟨fun σ' H' => ∃ v3 v4 : Option V, σ' = [some (.int n), some (.int d), some (.int ((Nat.gcd n.natAbs d.natAbs : Nat) : Int)), v3, v4] ∧ H' = H, ?_, ?_⟩
    · refine ⟨10000, rfl, by decide, by decide, for_range (n := 10000) (fun i σ' H' => ∃ (c e : Nat) (v4 : Option V), σ' = [some (.int n), some (.int d), some (.int c), some (.int e), v4] ∧ H' = H ∧ Eu n.natAbs d.natAbs i c e) ⟨_, _, none, rfl, rfl, Eu.start _ _⟩ ?_ ?_⟩
      · rintro i σ' H' hi ⟨c, e, v4, rfl, rfl, eu⟩
        walk_at "rd"
        refine ite2 (fun g => ?_) (fun g => ?_)
        · have he0 : e = 0 := by
            have := eq_of_dec g
            omega
          subst he0
          refine ⟨some (.int ((0 : Nat) : Int)), some (.int (0 + (i : Int))), ?_, rfl⟩
          rw [← eu.end]
          rfl
        · have he0 : e ≠ 0 := fun z => g (decide_eq_true (by rw [z]; rfl))
          walk_at "rd"
          refine ⟨by omega, _, _, rfl, e, c % e, some (.int (0 + (i : Int))), ?_, rfl, eu.turn (by omega)⟩
          rw [← fmod_nat c e]
          rfl
      · rintro σ' H' ⟨c, e, v4, rfl, rfl, eu⟩
        have he0 : e = 0 := eu.stop (by decide) (eu_far49 bn bd)
        subst he0
        refine ⟨some (.int ((0 : Nat) : Int)), v4, ?_, rfl⟩
        rw [← eu.end]
    rintro σ' H3 ⟨v3, v4, rfl, rfl⟩
    refine ⟨fun σ' H' => σ' = [some (.int n), some (.int d), some (.int (sg n d)), v3, v4] ∧ H' = H3, ?_, ?_⟩
    · walk_at "rd"
      refine ite2 (fun g2 => ?_) (fun g2 => ?_)
      · refine ⟨_, rfl, _, rfl, ?_, rfl⟩
        unfold sg
        rw [if_pos (of_decide_eq_true g2)]
        rfl
      · refine ⟨?_, rfl⟩
        unfold sg
        rw [if_neg (fun z => g2 (decide_eq_true z))]
    rintro σ' H4 ⟨rfl, rfl⟩
    have hs := sg_ne (n := n) hd
    have hsb : (sg n d).natAbs < 2 ^ 4900 := by
      rw [sg_abs]
      exact Nat.lt_of_le_of_lt (Nat.le_of_dvd (by omega) (Nat.gcd_dvd_right _ _)) bd
    refine ⟨_, rfl, _, rfl, _, _, rfl, rfl, wide_divx hs hsb (by decide) (by decide), _, rfl, _, rfl, _, _, rfl, rfl, wide_divx hs hsb (by decide) (by decide), by show 2 ≤ sizeLine; decide, fun t ht => ?_⟩
    exact k _ t (same_upd ht) upd_same
def spLLawPlus (K : PySem.W.Frag) : Sp := spX2 K 4800 (fun r s => r + s)
theorem okLLawPlus {fLLawPlus : Addr} {fdLLawPlus : FuncData} (F : Fun K "_law_plus" "_law_plus" sLLawPlus fLLawPlus fdLLawPlus) (T : Txt mg) {aZERO : Addr} (CT : Cons K mg aZERO) {CPartError CNought : Addr} (EX : Exns K mg CPartError CNought)
    {fLLawFraction : Addr} {fdLLawFraction : FuncData} (GLLawFraction : FnOk P w K mg base CX0 1 fLLawFraction fdLLawFraction ["number", "divisor"] (spLLawFraction K)) (gLLawFraction : mg "_law_fraction" = some (.ref fLLawFraction)) (kpLLawFraction : PySem.W.keepIn K (.ref fLLawFraction) = true) (bLLawFraction : Binds K fdLLawFraction ["number", "divisor"] []) :
    FnOk P w K mg base CX0 2 fLLawPlus fdLLawPlus ["a", "b"] (spLLawPlus K) := by
  refine F.ok scLLawPlus (fun vs H Q E h => ?_) (fun cdv A outer s H vs Q E hr h => ?_)
  · obtain ⟨a, b, r, s, n, m, rfl, hA, hB, hn, hm, hc, k⟩ := h
    rfl
  · obtain ⟨a, b, r, s, n, m, rfl, hA, hB, hn, hm, hc, k⟩ := h
    refine ⟨_, (pss_one (ps_ret (pe_call GLLawFraction hr (by rfl) gLLawFraction kpLLawFraction bLLawFraction .nil pass0 (pa_cons (pe_op op_add (pe_op op_mulW (pe_ix ix_tup (pv 0) pe_int (fun _ _ => rfl)) (pe_ix ix_tup (pv 1) pe_int (fun _ _ => rfl))) (pe_op op_mulW (pe_ix ix_tup (pv 1) pe_int (fun _ _ => rfl)) (pe_ix ix_tup (pv 0) pe_int (fun _ _ => rfl)))) (pa_cons (pe_op op_mulW (pe_ix ix_tup (pv 0) pe_int (fun _ _ => rfl)) (pe_ix ix_tup (pv 1) pe_int (fun _ _ => rfl))) pa_nil))))), ?_⟩
    have b1 : Bz 4900 (r.num * (s.den : Int) + s.num * (r.den : Int)) := ((hn.nz.mul hm.dz).add (hm.nz.mul hn.dz)).up (by omega)
    have b2 : Bz 4900 ((r.den : Int) * (s.den : Int)) := (hn.dz.mul hm.dz).up (by omega)
    replace hn : Bd 8000 r := hn.up (by omega)
    replace hm : Bd 8000 s := hm.up (by omega)
    walk_at "go"
    exact ⟨dd_ne r s, fun H' t s1 e1 => k H' t s1 (by show Fx K H' t (r + s); rw [add_div]; exact fx_rd (dd_ne r s) e1)⟩
def spLLawTimes (K : PySem.W.Frag) : Sp := spX2 K 4800 (fun r s => r * s)
theorem okLLawTimes {fLLawTimes : Addr} {fdLLawTimes : FuncData} (F : Fun K "_law_times" "_law_times" sLLawTimes fLLawTimes fdLLawTimes) (T : Txt mg) {aZERO : Addr} (CT : Cons K mg aZERO) {CPartError CNought : Addr} (EX : Exns K mg CPartError CNought)
    {fLLawFraction : Addr} {fdLLawFraction : FuncData} (GLLawFraction : FnOk P w K mg base CX0 1 fLLawFraction fdLLawFraction ["number", "divisor"] (spLLawFraction K)) (gLLawFraction : mg "_law_fraction" = some (.ref fLLawFraction)) (kpLLawFraction : PySem.W.keepIn K (.ref fLLawFraction) = true) (bLLawFraction : Binds K fdLLawFraction ["number", "divisor"] []) :
    FnOk P w K mg base CX0 2 fLLawTimes fdLLawTimes ["a", "b"] (spLLawTimes K) := by
  refine F.ok scLLawTimes (fun vs H Q E h => ?_) (fun cdv A outer s H vs Q E hr h => ?_)
  · obtain ⟨a, b, r, s, n, m, rfl, hA, hB, hn, hm, hc, k⟩ := h
    rfl
  · obtain ⟨a, b, r, s, n, m, rfl, hA, hB, hn, hm, hc, k⟩ := h
    refine ⟨_, (pss_one (ps_ret (pe_call GLLawFraction hr (by rfl) gLLawFraction kpLLawFraction bLLawFraction .nil pass0 (pa_cons (pe_op op_mulW (pe_ix ix_tup (pv 0) pe_int (fun _ _ => rfl)) (pe_ix ix_tup (pv 1) pe_int (fun _ _ => rfl))) (pa_cons (pe_op op_mulW (pe_ix ix_tup (pv 0) pe_int (fun _ _ => rfl)) (pe_ix ix_tup (pv 1) pe_int (fun _ _ => rfl))) pa_nil))))), ?_⟩
    have b1 : Bz 4900 (r.num * s.num) := (hn.nz.mul hm.nz).up (by omega)
    have b2 : Bz 4900 ((r.den : Int) * (s.den : Int)) := (hn.dz.mul hm.dz).up (by omega)
    replace hn : Bd 8000 r := hn.up (by omega)
    replace hm : Bd 8000 s := hm.up (by omega)
    walk_at "go"
    exact ⟨dd_ne r s, fun H' t s1 e1 => k H' t s1 (by show Fx K H' t (r * s); rw [mul_div]; exact fx_rd (dd_ne r s) e1)⟩
def spLLawIsFraction (K : PySem.W.Frag) : Sp := fun vs H Q _ => ∃ (t : Addr) (r : Rat), vs = [.ref t] ∧ Fx K H t r ∧ Bd 4900 r ∧ ∀ H', Same H H' → Q (.bl true) H'
theorem okLLawIsFraction {fLLawIsFraction : Addr} {fdLLawIsFraction : FuncData} (F : Fun K "_law_is_fraction" "_law_is_fraction" sLLawIsFraction fLLawIsFraction fdLLawIsFraction) (T : Txt mg) {aZERO : Addr} (CT : Cons K mg aZERO) {CPartError CNought : Addr} (EX : Exns K mg CPartError CNought)
    {fLLawFraction : Addr} {fdLLawFraction : FuncData} (GLLawFraction : FnOk P w K mg base CX0 1 fLLawFraction fdLLawFraction ["number", "divisor"] (spLLawFraction K)) (gLLawFraction : mg "_law_fraction" = some (.ref fLLawFraction)) (kpLLawFraction : PySem.W.keepIn K (.ref fLLawFraction) = true) (bLLawFraction : Binds K fdLLawFraction ["number", "divisor"] [])
    {fLLawIsInteger : Addr} {fdLLawIsInteger : FuncData} (GLLawIsInteger : FnOk P w K mg base CX0 1 fLLawIsInteger fdLLawIsInteger ["actual"] (spLLawIsInteger K)) (gLLawIsInteger : mg "_law_is_integer" = some (.ref fLLawIsInteger)) (kpLLawIsInteger : PySem.W.keepIn K (.ref fLLawIsInteger) = true) (bLLawIsInteger : Binds K fdLLawIsInteger ["actual"] []) :
    FnOk P w K mg base CX0 2 fLLawIsFraction fdLLawIsFraction ["actual"] (spLLawIsFraction K) := by
  refine F.ok scLLawIsFraction (fun vs H Q E h => ?_) (fun cdv A outer s H vs Q E hr h => ?_)
  · obtain ⟨t, r, rfl, hT0, hb0, k⟩ := h
    rfl
  · obtain ⟨t, r, rfl, hT0, hb0, k⟩ := h
    refine ⟨_, (pss_cons (ps_if (PW.pt (pw_or (pt_not (pt_val (pe_callB call_isi (by rfl) T.isinstance (by decide +kernel) (pa_cons (pv 0) (pa_cons (pe_bltn (v := .ty "tuple") (by rfl) T.tuple (by decide +kernel) rfl) pa_nil))))) (pw_or1 (pt_cmpR op_ne (pe_callB call_len_seq (by rfl) T.len PySem.boot_len (pa_cons (pv 0) pa_nil)) pe_int (nomark _)))))
        (pss_one (ps_ret pe_bl))
        pss_nil)
      (pss_cons (ps_if (PW.pt (pw_or (pt_not (pt_val (pe_call GLLawIsInteger hr (by rfl) gLLawIsInteger kpLLawIsInteger bLLawIsInteger .nil pass0 (pa_cons (pe_ix ix_tup (pv 0) pe_int (fun _ _ => rfl)) pa_nil)))) (pw_or (pt_not (pt_val (pe_call GLLawIsInteger hr (by rfl) gLLawIsInteger kpLLawIsInteger bLLawIsInteger .nil pass0 (pa_cons (pe_ix ix_tup (pv 0) pe_int (fun _ _ => rfl)) pa_nil)))) (pw_or1 (pt_cmpR op_lt (pe_ix ix_tup (pv 0) pe_int (fun _ _ => rfl)) pe_int (nomark _))))))
        (pss_one (ps_ret pe_bl))
        pss_nil)
      (pss_one (ps_ret (pe_cmpR (op_eqD hr.units) (pv 0) (pe_call GLLawFraction hr (by rfl) gLLawFraction kpLLawFraction bLLawFraction .nil pass0 (pa_cons (pe_ix ix_tup (pv 0) pe_int (fun _ _ => rfl)) (pa_cons (pe_ix ix_tup (pv 0) pe_int (fun _ _ => rfl)) pa_nil))) (nomark _)))))), ?_⟩
    obtain ⟨p, q, hpq, h1, q0, bp, bq, hT⟩ : ∃ p q : Int, zs [p, q] = zs [r.num, (r.den : Int)] ∧ Nat.gcd p.natAbs q.natAbs = 1 ∧ 0 < q ∧ p.natAbs < 2 ^ 4900 ∧ q.natAbs < 2 ^ 4900 ∧ SqT K H t (zs [p, q]) := ⟨r.num, (r.den : Int), rfl, r.reduced, den_pos r, hb0.1, hb0.2, hT0⟩
    refine ⟨.ref t, rfl, .ref t, .ty "tuple", .type "tuple", .type "tuple", true, rfl, .ty _, tyx_tup hT, kit_ty (by decide +kernel), true, rfl, ?_⟩
    refine iteF ⟨.ref t, rfl, t, _, rfl, .inr hT, rfl, _, rfl, ?_⟩
    refine ite2 (fun g => absurd rfl (ne_of_bang g)) (fun _ => ?_)
    refine ⟨.ref t, rfl, t, _, 0, _, rfl, rfl, hT, atI_nat (j := 0) rfl, p, rfl, true, rfl, iteF ?_⟩
    refine ⟨.ref t, rfl, t, _, 1, _, rfl, rfl, hT, atI_nat (j := 1) rfl, q, rfl, true, rfl, iteF ?_⟩
    refine ⟨.ref t, rfl, t, _, 1, _, rfl, rfl, hT, atI_nat (j := 1) rfl, _, _, rfl, rfl, _, rfl, ?_⟩
    refine ite2 (fun g => absurd (of_decide_eq_true g) (by omega)) (fun _ => ?_)
    refine ⟨_, rfl, .ref t, rfl, t, _, 0, _, rfl, rfl, hT, atI_nat (j := 0) rfl, .ref t, rfl, t, _, 1, _, rfl, rfl, hT, atI_nat (j := 1) rfl, p, q, rfl, bp, bq, by omega, fun H1 t1 s1 e1 => ?_⟩
    rw [low_of h1 q0] at e1
    refine ⟨_, _, dp2 (same_tup s1 hT), dp2 (SqT.of e1), rfl, rfl, ?_⟩
    rw [eqv2]
    exact k H1 s1
def spLLawDirection (K : PySem.W.Frag) : Sp := fun vs H Q _ => ∃ (cell most : Int), vs = [.int cell, .int most] ∧ 0 < most ∧ most < 100000 ∧
  ∀ (H' : Hp) (t : Addr) (x y z : Int), Same H H' → H' t = some (.tup (zs [x, y, z])) → ¬ (x = 0 ∧ y = 0 ∧ z = 0) → (x.natAbs : Int) ≤ most + 1 → (y.natAbs : Int) ≤ most + 1 → (z.natAbs : Int) ≤ most + 1 → Q (.ref t) H'
theorem okLLawDirection {fLLawDirection : Addr} {fdLLawDirection : FuncData} (F : Fun K "_law_direction" "_law_direction" sLLawDirection fLLawDirection fdLLawDirection) (T : Txt mg) {aZERO : Addr} (CT : Cons K mg aZERO) {CPartError CNought : Addr} (EX : Exns K mg CPartError CNought)
    {fLLawRow : Addr} {fdLLawRow : FuncData} (GLLawRow : FnOk P w K mg base CX0 1 fLLawRow fdLLawRow ["cell", "size", "base"] (spLLawRow K)) (gLLawRow : mg "_law_row" = some (.ref fLLawRow)) (kpLLawRow : PySem.W.keepIn K (.ref fLLawRow) = true) (bLLawRow : Binds K fdLLawRow ["cell", "size", "base"] []) :
    FnOk P w K mg base CX0 2 fLLawDirection fdLLawDirection ["cell", "most"] (spLLawDirection K) := by
  refine F.ok scLLawDirection (fun vs H Q E h => ?_) (fun cdv A outer s H vs Q E hr h => ?_)
  · obtain ⟨cell, most, rfl, h0, h1, q⟩ := h
    rfl
  · obtain ⟨cell, most, rfl, h0, h1, q⟩ := h
    refine ⟨_, (pss_cons (ps_set (i := 2) scLLawDirection.nd rfl (Or.inl rfl) (pe_call GLLawRow hr (by rfl) gLLawRow kpLLawRow bLLawRow .nil pass0 (pa_cons (pv 0) (pa_cons pe_int (pa_cons (pe_op op_add (pe_op op_mul pe_int (pv 1)) pe_int) pa_nil)))))
      (C8.pss_cut (ps_if (PW.pt (pw_and (pt_cmpR op_eq (pe_ix ix_list (pv 2) pe_int (fun _ _ => rfl)) (pv 1) (nomark _)) (pw_and (pt_cmpR op_eq (pe_ix ix_list (pv 2) pe_int (fun _ _ => rfl)) (pv 1) (nomark _)) (pw_and1 (pt_cmpR op_eq (pe_ix ix_list (pv 2) pe_int (fun _ _ => rfl)) (pv 1) (nomark _))))))
        (pss_one (ps_asg (pe_op op_add (pv 1) pe_int) (pg_sub (pv 2) (pe_op op_mod (pe_callTy call_int1 (by rfl) T.int (by decide +kernel) (pa_cons (pv 0) pa_nil)) pe_int) set_list)))
        pss_nil)
      (pss_one (ps_ret (pe_tup (pa_cons (pe_op op_sub (pe_ix ix_list (pv 2) pe_int (fun _ _ => rfl)) (pv 1)) (pa_cons (pe_op op_sub (pe_ix ix_list (pv 2) pe_int (fun _ _ => rfl)) (pv 1)) (pa_cons (pe_op op_sub (pe_ix ix_list (pv 2) pe_int (fun _ _ => rfl)) (pv 1)) pa_nil)))))))), ?_⟩
    walk_at "rd"
    refine ⟨cell, 2 * most + 1, 3, rfl, by omega, by omega, by decide, fun H1 l rs s1 hl el e3 ea => ?_⟩
    obtain ⟨a, b, c, rfl⟩ := len3 e3
    have ha := ea a (by simp)
    have hb := ea b (by simp)
    have hc := ea c (by simp)
    refine ⟨fun σ' H' => ∃ x y z : Int, σ' = [some (.int cell), some (.int most), some (.ref l)] ∧ Same H H' ∧ H' l = some (.lst (zs [x, y, z])) ∧ ¬ (x = most ∧ y = most ∧ z = most) ∧ 0 ≤ x ∧ x ≤ 2 * most + 1 ∧ 0 ≤ y ∧ y ≤ 2 * most + 1 ∧ 0 ≤ z ∧ z ≤ 2 * most + 1, ?_, ?_⟩
    · refine ⟨.ref l, rfl, l, _, 0, _, rfl, rfl, SqL.of el, atI_nat (j := 0) rfl, ?_⟩
      walk_at "rd"
      have no : ∀ (hh : ¬ (a = most ∧ b = most ∧ c = most)), ∃ x y z : Int, [some (V.int cell), some (.int most), some (.ref l)] = [some (.int cell), some (.int most), some (.ref l)] ∧ Same H H1 ∧ H1 l = some (.lst (zs [x, y, z])) ∧ ¬ (x = most ∧ y = most ∧ z = most) ∧ 0 ≤ x ∧ x ≤ 2 * most + 1 ∧ 0 ≤ y ∧ y ≤ 2 * most + 1 ∧ 0 ≤ z ∧ z ≤ 2 * most + 1 :=
        fun hh => ⟨a, b, c, rfl, s1, el, hh, by omega, by omega, by omega, by omega, by omega, by omega⟩
      refine ite2 (fun g => ?_) (fun g => iteF ?_)
      · refine ⟨.ref l, rfl, l, _, 1, _, rfl, rfl, SqL.of el, atI_nat (j := 1) rfl, ?_⟩
        walk_at "rd"
        refine ite2 (fun g2 => ?_) (fun g2 => iteF ?_)
        · refine ⟨.ref l, rfl, l, _, 2, _, rfl, rfl, SqL.of el, atI_nat (j := 2) rfl, ?_⟩
          walk_at "rd"
          refine ite2 (fun g3 => ?_) (fun g3 => ?_)
          · walk_at "rd"
            have k0 : 0 ≤ cell % 3 := Int.emod_nonneg _ (by decide)
            have k3 : cell % 3 < 3 := Int.emod_lt_of_pos _ (by decide)
            have ga : a = most := V.int.inj (of_decide_eq_true g)
            have gb : b = most := V.int.inj (of_decide_eq_true g2)
            have gc : c = most := V.int.inj (of_decide_eq_true g3)
            refine ⟨l, zs [a, b, c], cell % 3, (cell % 3).toNat, rfl, rfl, el, ixN_in k0 k3, ?_⟩
            have sm : Same H (upd H1 l (.lst ((zs [a, b, c]).set (cell % 3).toNat (.int (most + 1))))) := fun b o e => by
              rw [upd_ne (ne_of_none e hl)]
              exact s1 b o e
            obtain h | h | h : (cell % 3).toNat = 0 ∨ (cell % 3).toNat = 1 ∨ (cell % 3).toNat = 2 := by omega
            · rw [h] at sm ⊢
              exact ⟨most + 1, b, c, rfl, sm, upd_same, by omega, by omega, by omega, by omega, by omega, by omega, by omega⟩
            · rw [h] at sm ⊢
              exact ⟨a, most + 1, c, rfl, sm, upd_same, by omega, by omega, by omega, by omega, by omega, by omega, by omega⟩
            · rw [h] at sm ⊢
              exact ⟨a, b, most + 1, rfl, sm, upd_same, by omega, by omega, by omega, by omega, by omega, by omega, by omega⟩
          · exact no fun z => g3 (decide_eq_true (by rw [z.2.2]))
        · exact no fun z => g2 (decide_eq_true (by rw [z.2.1]))
      · exact no fun z => g (decide_eq_true (by rw [z.1]))
    · rintro σ' H2 ⟨x, y, z, rfl, s2, e2, hh, hx⟩
      refine ⟨.ref l, rfl, l, _, 0, _, rfl, rfl, SqL.of e2, atI_nat (j := 0) rfl, _, rfl, _, _, rfl, rfl, ?_⟩
      refine ⟨.ref l, rfl, l, _, 1, _, rfl, rfl, SqL.of e2, atI_nat (j := 1) rfl, _, rfl, _, _, rfl, rfl, ?_⟩
      refine ⟨.ref l, rfl, l, _, 2, _, rfl, rfl, SqL.of e2, atI_nat (j := 2) rfl, _, rfl, _, _, rfl, rfl, ?_⟩
      refine ⟨by show 3 ≤ sizeLine; decide, fun t ht => q _ t (x - most) (y - most) (z - most) (s2.trans (same_upd ht)) upd_same ?_ ?_ ?_ ?_⟩ <;> omega
def spLLawCommon (K : PySem.W.Frag) : Sp := fun vs H Q _ => ∃ (p : Addr) (l : List Int), vs = [.ref p] ∧ SqT K H p (zs l) ∧ l.length ≤ 1000 ∧ (∀ v ∈ l, v.natAbs < 2 ^ 100) ∧ Q (.int ((gl l : Nat) : Int)) H
theorem okLLawCommon {fLLawCommon : Addr} {fdLLawCommon : FuncData} (F : Fun K "_law_common" "_law_common" sLLawCommon fLLawCommon fdLLawCommon) (T : Txt mg) {aZERO : Addr} (CT : Cons K mg aZERO) {CPartError CNought : Addr} (EX : Exns K mg CPartError CNought) :
    FnOk P w K mg base CX0 1 fLLawCommon fdLLawCommon ["row"] (spLLawCommon K) := by
  refine F.ok scLLawCommon (fun vs H Q E h => ?_) (fun cdv A outer s H vs Q E hr h => ?_)
  · obtain ⟨p, l, rfl, hS, hl, hv, q⟩ := h
    rfl
  · obtain ⟨p, l, rfl, hS, hl, hv, q⟩ := h
    refine ⟨_, (pss_cons (ps_set (i := 1) scLLawCommon.nd rfl (Or.inl rfl) pe_int)
      (C8.pss_cut (ps_for PassesOwn.never rfl (pi_tup (pv 0)) (pg_name (i := 2) scLLawCommon.nd rfl (Or.inl rfl))
        (pss_cons (ps_set (i := 3) scLLawCommon.nd rfl (Or.inl rfl) (pe_callB call_abs (by rfl) T.abs (by decide +kernel) (pa_cons (pv 2) pa_nil)))
        (pss_cons (ps_set (i := 4) scLLawCommon.nd rfl (Or.inl rfl) (pv 1))
        (C8.pss_cut (ps_for PassesOwn.never rfl (pi_range1 rfl T.range (pa_cons pe_int pa_nil)) (pg_name (i := 5) scLLawCommon.nd rfl (Or.inl rfl))
          (pss_cons (ps_if (pt_cmpR op_eq (pv 4) pe_int (nomark _))
            (pss_one ps_break)
            pss_nil)
          (pss_one (ps_par (i := 3) (j := 4) (by rfl) scLLawCommon.nd rfl rfl (by decide) rfl rfl (pa_cons (pv 4) (pa_cons (pe_op op_modN (pv 3) (pv 4)) pa_nil)) (by rfl)))))
        (pss_one (ps_set (i := 1) scLLawCommon.nd rfl (Or.inl rfl) (pv 3)))))))
      (pss_one (ps_ret (pv 1))))), ?_⟩
    refine ⟨fun σ' H' => ∃ v2 v3 v4 v5 : Option V, σ' = [some (.ref p), some (.int ((gl l : Nat) : Int)), v2, v3, v4, v5] ∧ H' = H, ?_, ?_⟩
    · refine ⟨_, rfl, p, rfl, ⟨_, hS⟩, for_tup (K := K) (a := p) (xs := zs l) (fun i σ' H' => ∃ v2 v3 v4 v5 : Option V, σ' = [some (.ref p), some (.int ((gl (l.take i) : Nat) : Int)), v2, v3, v4, v5] ∧ H' = H ∧ gl (l.take i) < 2 ^ 100) ?_ ?_ ?_ ?_⟩
      · exact ⟨none, none, none, none, rfl, rfl, by show (0 : Nat) < 2 ^ 100; decide⟩
      · rintro i σ' H' _ ⟨_, _, _, _, _, rfl, _⟩
        exact hS
      · rintro i v σ' H' hi ⟨v2, v3, v4, v5, rfl, rfl, hg⟩
        obtain ⟨z, rfl, hz⟩ := zs_get hi
        have hzz : z.natAbs < 2 ^ 100 := hv z (List.mem_of_getElem? hz)
        walk_at "rd"
        have ez : (if z < 0 then -z else z) = ((z.natAbs : Nat) : Int) := by
          split <;> omega
        rw [ez]
        refine ⟨fun σ2 H2 => ∃ v4 v5 : Option V, σ2 = [some (.ref p), some (.int ((gl (l.take i) : Nat) : Int)), some (.int z), some (.int ((gl (l.take (i + 1)) : Nat) : Int)), v4, v5] ∧ H2 = H', ?_, ?_⟩
        · refine ⟨10000, rfl, by decide, by decide, for_range (n := 10000) (fun j σ2 H2 => ∃ (a b : Nat) (v5 : Option V), σ2 = [some (.ref p), some (.int ((gl (l.take i) : Nat) : Int)), some (.int z), some (.int (a : Int)), some (.int (b : Int)), v5] ∧ H2 = H' ∧ Eu z.natAbs (gl (l.take i)) j a b) ?_ ?_ ?_⟩
          · exact ⟨_, _, v5, rfl, rfl, Eu.start _ _⟩
          · rintro j σ2 H2 hj ⟨a, b, w5, rfl, rfl, eu⟩
            walk_at "rd"
            refine ite2 (fun hb => ?_) (fun hb => ?_)
            · have hb0 : b = 0 := by
                have := V.int.inj (of_decide_eq_true hb)
                omega
              subst hb0
              refine ⟨some (.int ((0 : Nat) : Int)), some (.int (0 + (j : Int))), ?_, rfl⟩
              rw [take_snoc hz, gl_snoc, ← eu.end]
              rfl
            · have hb0 : b ≠ 0 := fun e => hb (decide_eq_true (by rw [e]; rfl))
              walk_at "rd"
              refine ⟨by omega, _, _, rfl, b, a % b, some (.int (0 + (j : Int))), ?_, rfl, eu.turn (by omega)⟩
              rw [← fmod_nat a b]
              rfl
          · rintro σ2 H2 ⟨a, b, w5, rfl, rfl, eu⟩
            have hb0 : b = 0 := eu.stop (by decide) (eu_far (by decide) hzz hg)
            subst hb0
            refine ⟨some (.int ((0 : Nat) : Int)), w5, ?_, rfl⟩
            rw [take_snoc hz, gl_snoc, ← eu.end]
        · rintro σ2 H2 ⟨w4, w5, rfl, rfl⟩
          refine ⟨_, rfl, _, _, _, _, rfl, rfl, ?_⟩
          rw [take_snoc hz]
          exact gl_lt hg hzz
      · rintro σ' H' ⟨v2, v3, v4, v5, rfl, rfl, _⟩
        refine ⟨v2, v3, v4, v5, ?_, rfl⟩
        rw [show (zs l).length = l.length from List.length_map _, List.take_length]
    · rintro σ' H' ⟨v2, v3, v4, v5, rfl, rfl⟩
      exact ⟨_, rfl, q⟩
def spLLawCanonical (K : PySem.W.Frag) : Sp := fun vs H Q _ => ∃ (p : Addr) (x y z : Int), vs = [.ref p] ∧ SqT K H p (zs [x, y, z]) ∧ ¬ (x = 0 ∧ y = 0 ∧ z = 0) ∧ x.natAbs < 1073741824 ∧ y.natAbs < 1073741824 ∧ z.natAbs < 1073741824 ∧
  ∀ (H' : Hp) (u : Addr), Same H H' → H' u = some (.tup (zs [x.fdiv (dv x y z), y.fdiv (dv x y z), z.fdiv (dv x y z)])) → Q (.ref u) H'
theorem okLLawCanonical {fLLawCanonical : Addr} {fdLLawCanonical : FuncData} (F : Fun K "_law_canonical" "_law_canonical" sLLawCanonical fLLawCanonical fdLLawCanonical) (T : Txt mg) {aZERO : Addr} (CT : Cons K mg aZERO) {CPartError CNought : Addr} (EX : Exns K mg CPartError CNought)
    {fLLawCommon : Addr} {fdLLawCommon : FuncData} (GLLawCommon : FnOk P w K mg base CX0 1 fLLawCommon fdLLawCommon ["row"] (spLLawCommon K)) (gLLawCommon : mg "_law_common" = some (.ref fLLawCommon)) (kpLLawCommon : PySem.W.keepIn K (.ref fLLawCommon) = true) (bLLawCommon : Binds K fdLLawCommon ["row"] []) :
    FnOk P w K mg base CX0 2 fLLawCanonical fdLLawCanonical ["direction"] (spLLawCanonical K) := by
  refine F.ok scLLawCanonical (fun vs H Q E h => ?_) (fun cdv A outer s H vs Q E hr h => ?_)
  · obtain ⟨p, x, y, z, rfl, hS, hn, bx, bY, bz, q⟩ := h
    rfl
  · obtain ⟨p, x, y, z, rfl, hS, hn, bx, bY, bz, q⟩ := h
    refine ⟨_, (pss_cons (ps_set (i := 1) scLLawCanonical.nd rfl (Or.inl rfl) (pe_call GLLawCommon hr (by rfl) gLLawCommon kpLLawCommon bLLawCommon .nil pass0 (pa_cons (pv 0) pa_nil)))
      (pss_cons (ps_set (i := 2) scLLawCanonical.nd rfl (Or.inl rfl) (pe_ix ix_list (pe_lc (own := [("part", 3)]) (by rfl) scLLawCanonical.nd (pi_tup (pv 0)) (blkOk_by (own := [("part", 3)]) (N := ["direction", "by", "first", "part"]) (sc := defScope sLLawCanonical) (by decide +kernel)) (fun _ _ _ _ _ => (pg_name (i := 3) scLLawCanonical.nd rfl (Or.inl rfl))) (fun _ _ _ _ _ => pts_one (pt_cmpR op_ne (pv 3) pe_int (nomark _))) (fun _ _ _ _ _ => (pv 3))) pe_int (fun _ _ => rfl)))
      (C8.pss_cut (ps_if (pt_cmpR op_lt (pv 2) pe_int (nomark _))
        (pss_one (ps_set (i := 1) scLLawCanonical.nd rfl (Or.inl rfl) (pe_un un_neg (pv 1))))
        pss_nil)
      (pss_one (ps_ret (pe_tup (pa_cons (pe_op op_fdivN (pe_ix ix_tup (pv 0) pe_int (fun _ _ => rfl)) (pv 1)) (pa_cons (pe_op op_fdivN (pe_ix ix_tup (pv 0) pe_int (fun _ _ => rfl)) (pv 1)) (pa_cons (pe_op op_fdivN (pe_ix ix_tup (pv 0) pe_int (fun _ _ => rfl)) (pv 1)) pa_nil))))))))), ?_⟩
    have hv : ∀ v ∈ [x, y, z], v.natAbs < 2 ^ 100 := by
      have hb : (1073741824 : Nat) < 2 ^ 100 := by decide
      intro v hv
      simp only [List.mem_cons, List.not_mem_nil, or_false] at hv
      rcases hv with rfl | rfl | rfl <;> omega
    refine ⟨.ref p, rfl, p, [x, y, z], rfl, hS, by show 3 ≤ 1000; decide, hv, ?_⟩
    rw [gl_three]
    refine ⟨.ref p, rfl, p, rfl, ⟨_, hS⟩, fun D hD => ?_⟩
    refine lc_tup (K := K) (a := p) (xs := zs [x, y, z]) (fun i H2 => Same H H2 ∧ H2 D = some (.lst (zs (([x, y, z].take i).filter fun v => decide (v ≠ 0))))) ⟨same_upd hD, upd_same⟩ (fun i H2 _ h => same_tup h.1 hS) ?_ ?_
    · rintro i v H2 hi ⟨s2, e2⟩
      obtain ⟨n, rfl, hn⟩ := zs_get hi
      refine ⟨rfl, ?_⟩
      walk_at "rd"
      refine ite2 (fun g => ?_) (fun g => ?_)
      · refine ⟨_, rfl, _, e2, fil_lt _ (by show 3 ≤ 1000; decide), fun b o e => ?_, ?_⟩
        · rw [upd_ne (ne_of_none e hD)]
          exact s2 b o e
        · rw [upd_same, fil_snoc hn (ne_of_bang g)]
      · refine ⟨s2, ?_⟩
        rw [fil_same hn (eq_of_nobang g)]
        exact e2
    · rintro H2 ⟨s2, e2⟩
      have e2' : (zs (([x, y, z].take (zs [x, y, z]).length).filter fun v => decide (v ≠ 0))) = zs ([x, y, z].filter fun v => decide (v ≠ 0)) := rfl
      rw [e2'] at e2
      refine ⟨D, _, 0, _, rfl, rfl, SqL.of e2, atI_nat (j := 0) (fs3_get hn), ?_⟩
      refine ⟨fun σ3 H3 => ∃ v2 v3 : Option V, σ3 = [some (.ref p), some (.int (dv x y z)), v2, v3] ∧ H3 = H2, ?_, ?_⟩
      · walk_at "rd"
        rw [fs3_dn hn]
        have e3 := dv_eq x y z
        cases e : dn x y z with
        | true =>
          rw [e] at e3
          refine iteT ⟨_, rfl, _, rfl, some (.int (fs3 x y z)), none, ?_, rfl⟩
          rw [e3, if_pos rfl]
          rfl
        | false =>
          rw [e] at e3
          refine iteF ⟨some (.int (fs3 x y z)), none, ?_, rfl⟩
          rw [e3, if_neg Bool.false_ne_true]
          rfl
      · rintro σ3 H3 ⟨w2, w3, rfl, rfl⟩
        have hS3 := same_tup s2 hS
        have hd0 := dv_ne hn
        have hd1 : (dv x y z).natAbs < 1073741824 := by
          rw [dv_abs]
          have := g3_le (n := 1073741823) hn (by omega) (by omega) (by omega)
          omega
        refine ⟨.ref p, rfl, p, _, 0, _, rfl, rfl, hS3, atI_nat (j := 0) rfl, _, rfl, _, _, rfl, rfl, ⟨hd0, hd1⟩, ?_⟩
        refine ⟨.ref p, rfl, p, _, 1, _, rfl, rfl, hS3, atI_nat (j := 1) rfl, _, rfl, _, _, rfl, rfl, ⟨hd0, hd1⟩, ?_⟩
        refine ⟨.ref p, rfl, p, _, 2, _, rfl, rfl, hS3, atI_nat (j := 2) rfl, _, rfl, _, _, rfl, rfl, ⟨hd0, hd1⟩, ?_⟩
        exact ⟨by show 3 ≤ sizeLine; decide, fun t ht => q _ t (s2.trans (same_upd ht)) upd_same⟩
def spLLawMoved (K : PySem.W.Frag) : Sp := fun vs H Q _ => ∃ (a n : Addr) (p : List Rat) (v : V3), vs = [.ref a, .ref n] ∧ FT K H a p ∧ Pb3 20 p ∧ Sv K H n v ∧ Vz 10 v ∧
  ∀ (H' : Hp) (t : Addr), Same H H' → FT K H' t [p.getD 0 0 + v.1, p.getD 1 0 + v.2.1, p.getD 2 0 + v.2.2] → Q (.ref t) H'
theorem okLLawMoved {fLLawMoved : Addr} {fdLLawMoved : FuncData} (F : Fun K "_law_moved" "_law_moved" sLLawMoved fLLawMoved fdLLawMoved) (T : Txt mg) {aZERO : Addr} (CT : Cons K mg aZERO) {CPartError CNought : Addr} (EX : Exns K mg CPartError CNought)
    {fLLawPlus : Addr} {fdLLawPlus : FuncData} (GLLawPlus : FnOk P w K mg base CX0 2 fLLawPlus fdLLawPlus ["a", "b"] (spLLawPlus K)) (gLLawPlus : mg "_law_plus" = some (.ref fLLawPlus)) (kpLLawPlus : PySem.W.keepIn K (.ref fLLawPlus) = true) (bLLawPlus : Binds K fdLLawPlus ["a", "b"] []) :
    FnOk P w K mg base CX0 3 fLLawMoved fdLLawMoved ["point", "direction"] (spLLawMoved K) := by
  refine F.ok scLLawMoved (fun vs H Q E h => ?_) (fun cdv A outer s H vs Q E hr h => ?_)
  · obtain ⟨a, n, p, v, rfl, hA, bp, hN, bv, k⟩ := h
    rfl
  · obtain ⟨a, n, p, v, rfl, hA, bp, hN, bv, k⟩ := h
    refine ⟨_, (pss_one (ps_ret (pe_callTy call_tuple_of (by rfl) T.tuple (by decide +kernel) (pa_cons (pe_lc (own := [("k", 2)]) (by rfl) scLLawMoved.nd (pi_range1 rfl T.range (pa_cons pe_int pa_nil)) (blkOk_by (own := [("k", 2)]) (N := ["point", "direction", "k"]) (sc := defScope sLLawMoved) (by decide +kernel)) (fun _ _ _ _ _ => (pg_name (i := 2) scLLawMoved.nd rfl (Or.inl rfl))) (fun _ _ _ _ _ => pts_nil) (fun _ _ _ _ _ => (pe_call GLLawPlus hr (by rfl) gLLawPlus kpLLawPlus bLLawPlus .nil pass0 (pa_cons (pe_ix (show IxR _ (rIxT K) from ix_tup) (pv 0) (pv 2) (fun _ _ => rfl)) (pa_cons (pe_tup (pa_cons (pe_ix (show IxR _ (rIxT K) from ix_tup) (pv 1) (pv 2) (fun _ _ => rfl)) (pa_cons pe_int pa_nil))) pa_nil))))) pa_nil)))), ?_⟩
    obtain ⟨ws, hW, rW, rfl⟩ := hA
    obtain ⟨x, y, z, rfl⟩ : ∃ x y z, ws = [x, y, z] := by
      match ws, bp.1 with
      | [x, y, z], _ => exact ⟨x, y, z, rfl⟩
    refine ⟨_, rfl, by decide, by decide, fun D hD => ?_⟩
    refine lc_row (K := K) (walk_range (lo := 0) (n := 3)) [x.2 + v.1, y.2 + v.2.1, z.2 + v.2.2] rfl (by decide) hD (fun _ _ => trivial) ?_ ?_
    · rintro j r i Hy Hz kk hr s3 ⟨rfl, rfl⟩ put
      have hj3 : j < 3 := (List.getElem?_eq_some_iff.mp hr).1
      obtain ⟨u, hu, mu, er⟩ : ∃ u : Addr × Rat, atI (fr [x, y, z]) (j : Int) = some (V.ref u.1) ∧ u ∈ [x, y, z] ∧ r = u.2 + ((co3 v j : Int) : Rat) := by
        match j, hj3, hr with
        | 0, _, hr => exact ⟨x, rfl, by simp, (Option.some.inj hr).symm⟩
        | 1, _, hr => exact ⟨y, rfl, by simp, (Option.some.inj hr).symm⟩
        | 2, _, hr => exact ⟨z, rfl, by simp, (Option.some.inj hr).symm⟩
      have ez : (0 : Int) + ((j : Nat) : Int) = ((j : Nat) : Int) := Int.zero_add _
      refine ⟨rfl, _, rfl, _, rfl, a, _, _, _, rfl, rfl, same_tup s3 hW, by rw [ez]; exact hu, _, rfl, _, rfl, n, _, _, _, rfl, rfl, same_tup s3 hN, by rw [ez]; exact l3_at hj3, ?_⟩
      refine ⟨tn rfl, fun t5 nt5 => ?_⟩
      generalize hUt5 : upd _ _ (HO.tup _) = H5
      have s5 := same_hu hUt5 nt5
      have eh5 := at_hu hUt5
      have h5 := SqT.of (K := K) eh5
      clear hUt5
      have bn : Bz 10 (co3 v j) := by
        match j, hj3 with
        | 0, _ => exact bv.1
        | 1, _ => exact bv.2.1
        | 2, _ => exact bv.2.2
      refine ⟨u.1, t5, u.2, ((co3 v j : Int) : Rat), 20, 10, rfl, (rW u mu).same (s3.trans s5), h5, bp.2 _ (List.mem_map_of_mem mu), bd_int bn (by decide), by decide, fun H6 t6 s6 e6 => ?_⟩
      have e6 : Fx K H6 t6 (u.2 + ((co3 v j : Int) : Rat)) := e6
      rw [← er] at e6
      exact put t6 H6 (s5.trans s6) e6
    · intro H3 ws3 s3 e3 r3 m3
      refine ⟨D, _, rfl, .inl ⟨SqL.of e3, fun t ht => ?_⟩⟩
      exact k _ t (s3.trans (same_upd ht)) ⟨ws3, SqT.of upd_same, r3.same (same_upd ht), m3⟩
theorem perm_pop {α : Type} {l : List α} {i : Nat} (h : i < l.length) : (l.eraseIdx i ++ [l[i]]).Perm l := by
  rw [List.eraseIdx_eq_take_drop_succ]
  refine (List.perm_append_singleton _ _).trans ?_
  refine List.perm_middle.symm.trans (List.Perm.of_eq ?_)
  rw [← List.drop_eq_getElem_cons h, List.take_append_drop]
def spLLawTurned (K : PySem.W.Frag) : Sp := fun vs H Q _ => ∃ (l : Addr) (ws : List (Addr × List Rat)) (d : Int), vs = [.ref l, .int d] ∧ SqL K H l (Ro ws) ∧ ws.length ≤ 4 ∧ 0 < ws.length ∧ 0 ≤ d ∧ d < 2 ^ 62 ∧
  ∀ (H' : Hp) (D : Addr) (ks : List (Addr × List Rat)), Same H H' → SqL K H' D (Ro ks) → ks.Perm ws → Q (.ref D) H'
theorem okLLawTurned {fLLawTurned : Addr} {fdLLawTurned : FuncData} (F : Fun K "_law_turned" "_law_turned" sLLawTurned fLLawTurned fdLLawTurned) (T : Txt mg) {aZERO : Addr} (CT : Cons K mg aZERO) {CPartError CNought : Addr} (EX : Exns K mg CPartError CNought) :
    FnOk P w K mg base CX0 1 fLLawTurned fdLLawTurned ["points", "draw"] (spLLawTurned K) := by
  refine F.ok scLLawTurned (fun vs H Q E h => ?_) (fun cdv A outer s H vs Q E hr h => ?_)
  · obtain ⟨l, ws, d, rfl, hL, n4, n1, d0, d9, k⟩ := h
    rfl
  · obtain ⟨l, ws, d, rfl, hL, n4, n1, d0, d9, k⟩ := h
    refine ⟨_, (pss_cons (ps_set (i := 2) scLLawTurned.nd rfl (Or.inl rfl) (pe_callTy call_list_of (by rfl) T.list (by decide +kernel) (pa_cons (pv 0) pa_nil)))
      (C8.pss_cut (ps_for PassesOwn.never rfl (pi_range1 rfl T.range (pa_cons (pe_callB call_len_seq (by rfl) T.len PySem.boot_len (pa_cons (pv 2) pa_nil)) pa_nil)) (pg_name (i := 3) scLLawTurned.nd rfl (Or.inl rfl))
        (pss_cons (ps_set (i := 4) scLLawTurned.nd rfl (Or.inl rfl) (pe_op op_modN (pe_op op_fdiv (pv 1) (pe_op op_mul pe_int (pe_op op_add (pv 3) pe_int))) (pe_callB call_len_seq (by rfl) T.len PySem.boot_len (pa_cons (pv 2) pa_nil))))
        (pss_cons (ps_set (i := 5) scLLawTurned.nd rfl (Or.inl rfl) (pe_bm PySem.F.plainAttrs_list PySem.F.slot_list_pop PySem.F.type_list_pop mt_popAt (pv 2) (pa_cons (pv 4) pa_nil)))
        (pss_one (ps_expr (pe_bm PySem.F.plainAttrs_list PySem.F.slot_list_append PySem.F.type_list_append mt_append (pv 2) (pa_cons (pv 5) pa_nil)))))))
      (pss_one (ps_ret (pv 2))))), ?_⟩
    refine ⟨_, rfl, l, _, rfl, .inl hL, fun D nD => ?_⟩
    refine ⟨fun σ' H' => ∃ (v3 v4 v5 : Option V) (ks : List (Addr × List Rat)), σ' = [some (.ref l), some (.int d), some (.ref D), v3, v4, v5] ∧ H' = upd H D (.lst (Ro ks)) ∧ ks.Perm ws, ?_, ?_⟩
    · refine ⟨_, rfl, D, _, rfl, .inl (SqL.of upd_same), ?_⟩
      refine ⟨_, rfl, by omega, by rw [Ro_len]; omega, ?_⟩
      refine for_range (lo := 0) (n := (Ro ws).length) (fun i σ' H' => ∃ (v3 v4 v5 : Option V) (ks : List (Addr × List Rat)), σ' = [some (.ref l), some (.int d), some (.ref D), v3, v4, v5] ∧ H' = upd H D (.lst (Ro ks)) ∧ ks.Perm ws) ⟨_, _, _, ws, rfl, rfl, .refl _⟩ ?_ ?_
      · rintro i σ' H' hi ⟨v3, v4, v5, ks, rfl, rfl, hp⟩
        have nk := hp.length_eq
        rw [Ro_len] at hi
        refine ⟨_, rfl, _, rfl, _, _, rfl, rfl, _, _, rfl, rfl, ?_, _, _, rfl, rfl, ?_, _, rfl, D, _, rfl, .inl (SqL.of upd_same), _, _, rfl, rfl, ?_, ?_⟩
        · exact .inl ⟨by decide, by decide⟩
        · exact ⟨by omega, by omega⟩
        · rw [Ro_len]
          omega
        have hj0 : (0 : Int) ≤ (d / (7 * (0 + (i : Int) + 1))).fmod ((Ro ks).length : Int) := Int.fmod_nonneg_of_pos _ (by rw [Ro_len]; omega)
        have hj1 : (d / (7 * (0 + (i : Int) + 1))).fmod ((Ro ks).length : Int) < ((Ro ks).length : Int) := Int.fmod_lt_of_pos _ (by rw [Ro_len]; omega)
        have hs := PySem.seqIndex_of hj0 hj1
        have hj9 : (d / (7 * (0 + (i : Int) + 1))).fmod ((Ro ks).length : Int) < 2 ^ 63 := Int.lt_trans hj1 (by rw [Ro_len]; omega)
        have hm : ((d / (7 * (0 + (i : Int) + 1))).fmod ((Ro ks).length : Int)).toNat < ks.length := by
          rw [Ro_len] at hj0 hj1 ⊢
          omega
        have ty : ∀ xs, tyV K "list" (.ref D) (upd H D (.lst xs)) := fun xs => .inl ⟨rfl, _, SqL.of upd_same⟩
        refine ⟨_, rfl, ty _, _, rfl, D, _, _, _, _, rfl, rfl, upd_same, Int.le_trans (by decide) hj0, hj9, hs, Ro_at (List.getElem?_eq_getElem hm), ?_⟩
        generalize ((d / (7 * (0 + (i : Int) + 1))).fmod ((Ro ks).length : Int)).toNat = m at hm ⊢
        have e1 : (Ro ks).eraseIdx m = Ro (ks.eraseIdx m) := by
          rw [List.eraseIdx_eq_take_drop_succ, List.eraseIdx_eq_take_drop_succ]
          unfold Ro
          rw [List.map_append, List.map_take, List.map_drop]
        have e2 : (Ro ks).eraseIdx m ++ [V.ref ks[m].1] = Ro (ks.eraseIdx m ++ [ks[m]]) := by
          rw [e1]
          unfold Ro
          rw [List.map_append]
          rfl
        have n8 : ((Ro ks).eraseIdx m).length < sizeLine := by
          have := List.length_eraseIdx_le (Ro ks) m
          rw [Ro_len] at this
          exact small1000 (by omega)
        rw [upd_upd]
        refine ⟨_, rfl, ty _, _, rfl, D, _, _, rfl, rfl, upd_same, n8, ?_⟩
        exact ⟨_, _, _, ks.eraseIdx m ++ [ks[m]], rfl, by rw [upd_upd, e2], (perm_pop hm).trans hp⟩
      · rintro σ' H' ⟨v3, v4, v5, ks, rfl, rfl, hp⟩
        exact ⟨v3, v4, v5, ks, rfl, rfl, hp⟩
    · rintro σ' H' ⟨v3, v4, v5, ks, rfl, rfl, hp⟩
      exact ⟨_, rfl, k _ D ks (same_upd nD) (SqL.of upd_same) hp⟩
def cnw (v : V3) : V3 := (v.1.fdiv (dv v.1 v.2.1 v.2.2), v.2.1.fdiv (dv v.1 v.2.1 v.2.2), v.2.2.fdiv (dv v.1 v.2.1 v.2.2))
theorem cnw_ok {v : V3} (h : ¬ (v.1 = 0 ∧ v.2.1 = 0 ∧ v.2.2 = 0)) {n : Nat} (b : Vz n v) : Vz n (cnw v) ∧ ∃ ax, ax < 3 ∧ co3 (cnw v) ax ≠ 0 ∧ ∀ j < ax, co3 (cnw v) j = 0 := by
  have d0 := dv_ne h
  have e1 := Int.fdiv_mul_cancel (dv_dx v.1 v.2.1 v.2.2)
  have e2 := Int.fdiv_mul_cancel (dv_dy v.1 v.2.1 v.2.2)
  have e3 := Int.fdiv_mul_cancel (dv_dz v.1 v.2.1 v.2.2)
  unfold cnw
  generalize dv v.1 v.2.1 v.2.2 = d at d0 e1 e2 e3 ⊢
  have bd : ∀ {q x : Int}, q * d = x → Bz n x → Bz n q := fun {q x} e hx => by
    show q.natAbs < 2 ^ n
    have hx : x.natAbs < 2 ^ n := hx
    rw [← e, Int.natAbs_mul] at hx
    exact Nat.lt_of_le_of_lt (Nat.le_mul_of_pos_right _ (by omega)) hx
  refine ⟨⟨bd e1 b.1, bd e2 b.2.1, bd e3 b.2.2⟩, ?_⟩
  by_cases h1 : v.1.fdiv d = 0
  · by_cases h2 : v.2.1.fdiv d = 0
    · refine ⟨2, by decide, fun h3 => ?_, fun j hj => ?_⟩
      · have h3 : v.2.2.fdiv d = 0 := h3
        rw [h1, Int.zero_mul] at e1
        rw [h2, Int.zero_mul] at e2
        rw [h3, Int.zero_mul] at e3
        exact h ⟨e1.symm, e2.symm, e3.symm⟩
      · match j, hj with
        | 0, _ => exact h1
        | 1, _ => exact h2
    · exact ⟨1, by decide, h2, fun j hj => by
        obtain rfl : j = 0 := by omega
        exact h1⟩
  · exact ⟨0, by decide, h1, fun j hj => absurd hj (Nat.not_lt_zero _)⟩
theorem den_le {n d : Int} {k : Nat} (hd : d ≠ 0) (h : d.natAbs ≤ k) : (Rat.divInt n d).den ≤ k := by
  obtain ⟨p, q, e, l1, l2, _⟩ := rd2_le (n := n) hd
  rw [rat_rd hd] at e
  have e2 : ((Rat.divInt n d).den : Int) = q := by
    injection e with _ e
    injection e
  have : (Rat.divInt n d).den = q.natAbs := by rw [← e2]; rfl
  omega
theorem add_den (r : Rat) (z : Int) : (r + (z : Rat)).den ≤ r.den := by
  rw [add_div]
  have e : ((r.den : Int) * (((z : Rat).den : Nat) : Int)) = (r.den : Int) := by
    rw [show (z : Rat).den = 1 from rfl]
    exact Int.mul_one _
  rw [e]
  exact den_le (den_ne r) (by rw [Int.natAbs_natCast]; exact Nat.le_refl _)
theorem el_ok {s : Rat} {x y a b : Int} (h1 : Bd 6 s) (h2 : s.den ≤ 5) (hx : Bz 3 x) (hy : Bz 3 y) (ha : a = 0 ∨ a = 1) (hb : b = 0 ∨ b = 1) : Bd 20 (s + a * x + b * y) ∧ (s + a * x + b * y).den ≤ 5 := by
  have e : s + a * x + b * y = s + ((a * x + b * y : Int) : Rat) := by
    rw [Rat.intCast_add, Rat.intCast_mul, Rat.intCast_mul]
    grind
  have bz : Bz 10 (a * x + b * y) := by
    have hx : x.natAbs < 2 ^ 3 := hx
    have hy : y.natAbs < 2 ^ 3 := hy
    show (a * x + b * y).natAbs < 2 ^ 10
    rcases ha with rfl | rfl <;> rcases hb with rfl | rfl <;> omega
  rw [e]
  exact ⟨(h1.add (bd_int bz (by decide))).up (by decide), Nat.le_trans (add_den _ _) h2⟩
theorem pnt_ok {s0 s1 s2 : Rat} {u v : V3} {a b : Int} (h0 : Bd 6 s0 ∧ s0.den ≤ 5) (h1 : Bd 6 s1 ∧ s1.den ≤ 5) (h2 : Bd 6 s2 ∧ s2.den ≤ 5) (bu : Vz 3 u) (bv : Vz 3 v) (ha : a = 0 ∨ a = 1) (hb : b = 0 ∨ b = 1) :
    Pb3 20 (pnt s0 s1 s2 u v a b) ∧ ∀ r ∈ pnt s0 s1 s2 u v a b, r.den ≤ 5 := by
  have e0 := el_ok h0.1 h0.2 bu.1 bv.1 ha hb
  have e1 := el_ok h1.1 h1.2 bu.2.1 bv.2.1 ha hb
  have e2 := el_ok h2.1 h2.2 bu.2.2 bv.2.2 ha hb
  refine ⟨⟨rfl, fun r hr => ?_⟩, fun r hr => ?_⟩ <;>
    (unfold pnt at hr; simp only [List.mem_cons, List.not_mem_nil, or_false] at hr; rcases hr with rfl | rfl | rfl)
  · exact e0.1
  · exact e1.1
  · exact e2.1
  · exact e0.2
  · exact e1.2
  · exact e2.2
theorem pnt_u (s0 s1 s2 : Rat) (u v : V3) (b : Int) : [(pnt s0 s1 s2 u v 0 b).getD 0 0 + u.1, (pnt s0 s1 s2 u v 0 b).getD 1 0 + u.2.1, (pnt s0 s1 s2 u v 0 b).getD 2 0 + u.2.2] = pnt s0 s1 s2 u v 1 b := by
  have k : ∀ (s : Rat) (x y : Int), s + ((0 : Int) : Rat) * x + b * y + x = s + ((1 : Int) : Rat) * x + b * y := fun s x y => by
    rw [show ((0 : Int) : Rat) = 0 from rfl, show ((1 : Int) : Rat) = 1 from rfl]
    grind
  exact List.cons_eq_cons.mpr ⟨k _ _ _, List.cons_eq_cons.mpr ⟨k _ _ _, List.cons_eq_cons.mpr ⟨k _ _ _, rfl⟩⟩⟩
theorem pnt_v (s0 s1 s2 : Rat) (u v : V3) (a : Int) : [(pnt s0 s1 s2 u v a 0).getD 0 0 + v.1, (pnt s0 s1 s2 u v a 0).getD 1 0 + v.2.1, (pnt s0 s1 s2 u v a 0).getD 2 0 + v.2.2] = pnt s0 s1 s2 u v a 1 := by
  have k : ∀ (s : Rat) (x y : Int), s + a * x + ((0 : Int) : Rat) * y + y = s + a * x + ((1 : Int) : Rat) * y := fun s x y => by
    rw [show ((0 : Int) : Rat) = 0 from rfl, show ((1 : Int) : Rat) = 1 from rfl]
    grind
  exact List.cons_eq_cons.mpr ⟨k _ _ _, List.cons_eq_cons.mpr ⟨k _ _ _, List.cons_eq_cons.mpr ⟨k _ _ _, rfl⟩⟩⟩
theorem pnt_inj {s0 s1 s2 : Rat} {u v : V3} {a b c d : Int} (n0 : ¬ ((crs u v).1 = 0 ∧ (crs u v).2.1 = 0 ∧ (crs u v).2.2 = 0)) (h : pnt s0 s1 s2 u v a b = pnt s0 s1 s2 u v c d) : a = c ∧ b = d := by
  injection h with h0 h
  injection h with h1 h
  injection h with h2 _
  have k : ∀ {s : Rat} {x y : Int}, s + a * x + b * y = s + c * x + d * y → (a - c) * x + (b - d) * y = 0 := fun {s x y} e => by
    have e2 : ((a * x + b * y : Int) : Rat) = ((c * x + d * y : Int) : Rat) := by
      rw [Rat.intCast_add, Rat.intCast_add, Rat.intCast_mul, Rat.intCast_mul, Rat.intCast_mul, Rat.intCast_mul]
      grind
    have e3 : a * x + b * y = c * x + d * y := by exact_mod_cast e2
    grind
  have k0 := k h0
  have k1 := k h1
  have k2 := k h2
  have c0 : (crs u v).1 = u.2.1 * v.2.2 - u.2.2 * v.2.1 := rfl
  have c1 : (crs u v).2.1 = u.2.2 * v.1 - u.1 * v.2.2 := rfl
  have c2 : (crs u v).2.2 = u.1 * v.2.1 - u.2.1 * v.1 := rfl
  rw [c0, c1, c2] at n0
  have fin : ∀ {x y z w p q : Int}, p * x + q * z = 0 → p * y + q * w = 0 → p * (x * w - y * z) = 0 ∧ q * (x * w - y * z) = 0 := fun {x y z w p q} h1 h2 => by
    constructor <;> grind
  have f0 := fin k1 k2
  have f1 := fin k2 k0
  have f2 := fin k0 k1
  by_cases ha : a - c = 0
  · by_cases hb : b - d = 0
    · omega
    · have m : ∀ {x : Int}, (b - d) * x = 0 → x = 0 := fun g => (Int.mul_eq_zero.mp g).resolve_left hb
      exact (n0 ⟨m f0.2, m f1.2, m f2.2⟩).elim
  · have m : ∀ {x : Int}, (a - c) * x = 0 → x = 0 := fun g => (Int.mul_eq_zero.mp g).resolve_left ha
    exact (n0 ⟨m f0.1, m f1.1, m f2.1⟩).elim
theorem sq_ne {u v : V3} (n0 : ¬ ((crs u v).1 = 0 ∧ (crs u v).2.1 = 0 ∧ (crs u v).2.2 = 0)) : u.1 * u.1 + u.2.1 * u.2.1 + u.2.2 * u.2.2 ≠ 0 := by
  intro h
  have sq : ∀ x : Int, 0 ≤ x * x := fun x => by
    rcases Int.le_total 0 x with g | g
    · exact Int.mul_nonneg g g
    · exact Int.mul_nonneg_of_nonpos_of_nonpos g g
  have z : ∀ x : Int, x * x = 0 → x = 0 := fun x g => by
    rcases Int.mul_eq_zero.mp g with g | g <;> exact g
  have a0 := sq u.1
  have a1 := sq u.2.1
  have a2 := sq u.2.2
  have e0 := z u.1 (by omega)
  have e1 := z u.2.1 (by omega)
  have e2 := z u.2.2 (by omega)
  refine n0 ⟨?_, ?_, ?_⟩
  · show u.2.1 * v.2.2 - u.2.2 * v.2.1 = 0
    rw [e1, e2]
    omega
  · show u.2.2 * v.1 - u.1 * v.2.2 = 0
    rw [e0, e2]
    omega
  · show u.1 * v.2.1 - u.2.1 * v.1 = 0
    rw [e0, e1]
    omega
theorem pnt00 (s0 s1 s2 : Rat) (u v : V3) : pnt s0 s1 s2 u v 0 0 = [s0, s1, s2] := by
  have k : ∀ (s : Rat) (x y : Int), s + ((0 : Int) : Rat) * x + ((0 : Int) : Rat) * y = s := fun s x y => by
    rw [show ((0 : Int) : Rat) = 0 from rfl]
    grind
  exact List.cons_eq_cons.mpr ⟨k _ _ _, List.cons_eq_cons.mpr ⟨k _ _ _, List.cons_eq_cons.mpr ⟨k _ _ _, rfl⟩⟩⟩
theorem len_eq (s0 s1 s2 : Rat) (u : V3) (t : Int) (h : u.1 * u.1 + u.2.1 * u.2.1 + u.2.2 * u.2.2 ≠ 0) :
    (dot3 u.1 u.2.1 u.2.2 (s0 + ((u.1 * t : Int) : Rat)) (s1 + ((u.2.1 * t : Int) : Rat)) (s2 + ((u.2.2 * t : Int) : Rat)) - dot3 u.1 u.2.1 u.2.2 s0 s1 s2) / ((u.1 * u.1 + u.2.1 * u.2.1 + u.2.2 * u.2.2 : Int) : Rat) = (t : Rat) := by
  have hn : ((u.1 * u.1 + u.2.1 * u.2.1 + u.2.2 * u.2.2 : Int) : Rat) ≠ 0 := fun c => h (by exact_mod_cast c)
  have e : dot3 u.1 u.2.1 u.2.2 (s0 + ((u.1 * t : Int) : Rat)) (s1 + ((u.2.1 * t : Int) : Rat)) (s2 + ((u.2.2 * t : Int) : Rat)) - dot3 u.1 u.2.1 u.2.2 s0 s1 s2 = (t : Rat) * ((u.1 * u.1 + u.2.1 * u.2.1 + u.2.2 * u.2.2 : Int) : Rat) := by
    unfold dot3
    rw [Rat.intCast_add, Rat.intCast_add, Rat.intCast_mul, Rat.intCast_mul, Rat.intCast_mul, Rat.intCast_mul, Rat.intCast_mul, Rat.intCast_mul]
    grind
  rw [e, Rat.mul_div_cancel hn]
def spLaw (K : PySem.W.Frag) : Sp := fun vs H Q _ => ∃ (a : Addr) (ns : List Int), vs = [.ref a] ∧ SqL K H a (ns.map V.int) ∧ ns.length ≤ 63 ∧ ∀ H', Q (.bl true) H'
theorem okLaw {fLaw : Addr} {fdLaw : FuncData} (F : Fun K "law" "law" sLaw fLaw fdLaw) (T : Txt mg) {aZERO : Addr} (CT : Cons K mg aZERO) {CPartError CNought : Addr} (EX : Exns K mg CPartError CNought)
    {fLLawDirection : Addr} {fdLLawDirection : FuncData} (GLLawDirection : FnOk P w K mg base CX0 2 fLLawDirection fdLLawDirection ["cell", "most"] (spLLawDirection K)) (gLLawDirection : mg "_law_direction" = some (.ref fLLawDirection)) (kpLLawDirection : PySem.W.keepIn K (.ref fLLawDirection) = true) (bLLawDirection : Binds K fdLLawDirection ["cell", "most"] [])
    {fLLawRow : Addr} {fdLLawRow : FuncData} (GLLawRow : FnOk P w K mg base CX0 1 fLLawRow fdLLawRow ["cell", "size", "base"] (spLLawRow K)) (gLLawRow : mg "_law_row" = some (.ref fLLawRow)) (kpLLawRow : PySem.W.keepIn K (.ref fLLawRow) = true) (bLLawRow : Binds K fdLLawRow ["cell", "size", "base"] [])
    {fLLawCanonical : Addr} {fdLLawCanonical : FuncData} (GLLawCanonical : FnOk P w K mg base CX0 2 fLLawCanonical fdLLawCanonical ["direction"] (spLLawCanonical K)) (gLLawCanonical : mg "_law_canonical" = some (.ref fLLawCanonical)) (kpLLawCanonical : PySem.W.keepIn K (.ref fLLawCanonical) = true) (bLLawCanonical : Binds K fdLLawCanonical ["direction"] [])
    {fLLawFraction : Addr} {fdLLawFraction : FuncData} (GLLawFraction : FnOk P w K mg base CX0 1 fLLawFraction fdLLawFraction ["number", "divisor"] (spLLawFraction K)) (gLLawFraction : mg "_law_fraction" = some (.ref fLLawFraction)) (kpLLawFraction : PySem.W.keepIn K (.ref fLLawFraction) = true) (bLLawFraction : Binds K fdLLawFraction ["number", "divisor"] [])
    {fAreaOf : Addr} {fdAreaOf : FuncData} (GAreaOf : FnOk P w K mg base CX0 5 fAreaOf fdAreaOf ["polygons", "normal"] (spAreaOf K)) (gAreaOf : mg "area_of" = some (.ref fAreaOf)) (kpAreaOf : PySem.W.keepIn K (.ref fAreaOf) = true) (bAreaOf : Binds K fdAreaOf ["polygons", "normal"] [])
    {fLLawMoved : Addr} {fdLLawMoved : FuncData} (GLLawMoved : FnOk P w K mg base CX0 3 fLLawMoved fdLLawMoved ["point", "direction"] (spLLawMoved K)) (gLLawMoved : mg "_law_moved" = some (.ref fLLawMoved)) (kpLLawMoved : PySem.W.keepIn K (.ref fLLawMoved) = true) (bLLawMoved : Binds K fdLLawMoved ["point", "direction"] [])
    {fLLawCell : Addr} {fdLLawCell : FuncData} (GLLawCell : FnOk P w K mg base CX0 1 fLLawCell fdLLawCell ["script", "k"] (spLLawCell K)) (gLLawCell : mg "_law_cell" = some (.ref fLLawCell)) (kpLLawCell : PySem.W.keepIn K (.ref fLLawCell) = true) (bLLawCell : Binds K fdLLawCell ["script", "k"] [])
    {fLLawTimes : Addr} {fdLLawTimes : FuncData} (GLLawTimes : FnOk P w K mg base CX0 2 fLLawTimes fdLLawTimes ["a", "b"] (spLLawTimes K)) (gLLawTimes : mg "_law_times" = some (.ref fLLawTimes)) (kpLLawTimes : PySem.W.keepIn K (.ref fLLawTimes) = true) (bLLawTimes : Binds K fdLLawTimes ["a", "b"] [])
    {fLLawTurned : Addr} {fdLLawTurned : FuncData} (GLLawTurned : FnOk P w K mg base CX0 1 fLLawTurned fdLLawTurned ["points", "draw"] (spLLawTurned K)) (gLLawTurned : mg "_law_turned" = some (.ref fLLawTurned)) (kpLLawTurned : PySem.W.keepIn K (.ref fLLawTurned) = true) (bLLawTurned : Binds K fdLLawTurned ["points", "draw"] [])
    {fLLawIsFraction : Addr} {fdLLawIsFraction : FuncData} (GLLawIsFraction : FnOk P w K mg base CX0 2 fLLawIsFraction fdLLawIsFraction ["actual"] (spLLawIsFraction K)) (gLLawIsFraction : mg "_law_is_fraction" = some (.ref fLLawIsFraction)) (kpLLawIsFraction : PySem.W.keepIn K (.ref fLLawIsFraction) = true) (bLLawIsFraction : Binds K fdLLawIsFraction ["actual"] [])
    {fLengthOf : Addr} {fdLengthOf : FuncData} (GLengthOf : FnOk P w K mg base CX0 3 fLengthOf fdLengthOf ["direction", "start", "end"] (spLengthOf K)) (gLengthOf : mg "length_of" = some (.ref fLengthOf)) (kpLengthOf : PySem.W.keepIn K (.ref fLengthOf) = true) (bLengthOf : Binds K fdLengthOf ["direction", "start", "end"] []) :
    FnOk P w K mg base CX0 6 fLaw fdLaw ["script"] (spLaw K) := by
  refine F.ok scLaw (fun vs H Q E h => ?_) (fun cdv A outer s H vs Q E hr h => ?_)
  · obtain ⟨S, ns, rfl, hS0, hlen, fin⟩ := h
    rfl
  · obtain ⟨S, ns, rfl, hS0, hlen, fin⟩ := h
    refine ⟨_, (pss_cons (ps_set (i := 1) scLaw.nd rfl (Or.inl rfl) (pe_call GLLawDirection (hr.mono (by decide)) (by rfl) gLLawDirection kpLLawDirection bLLawDirection .nil pass0 (pa_cons (pe_call GLLawCell (hr.mono (by decide)) (by rfl) gLLawCell kpLLawCell bLLawCell .nil pass0 (pa_cons (pv 0) (pa_cons pe_int pa_nil))) (pa_cons pe_int pa_nil))))
      (pss_cons (ps_set (i := 2) scLaw.nd rfl (Or.inl rfl) (pe_call GLLawDirection (hr.mono (by decide)) (by rfl) gLLawDirection kpLLawDirection bLLawDirection .nil pass0 (pa_cons (pe_call GLLawCell (hr.mono (by decide)) (by rfl) gLLawCell kpLLawCell bLLawCell .nil pass0 (pa_cons (pv 0) (pa_cons pe_int pa_nil))) (pa_cons pe_int pa_nil))))
      (pss_cons (ps_set (i := 3) scLaw.nd rfl (Or.inr rfl) (pe_call GLLawRow (hr.mono (by decide)) (by rfl) gLLawRow kpLLawRow bLLawRow .nil pass0 (pa_cons (pe_call GLLawCell (hr.mono (by decide)) (by rfl) gLLawCell kpLLawCell bLLawCell .nil pass0 (pa_cons (pv 0) (pa_cons pe_int pa_nil))) (pa_cons pe_int (pa_cons pe_int pa_nil)))))
      (pss_cons (ps_set (i := 4) scLaw.nd rfl (Or.inl rfl) (pe_tup (pa_cons (pe_op op_sub (pe_op op_mul (pe_ix ix_tup (pv 1) pe_int (fun _ _ => rfl)) (pe_ix ix_tup (pv 2) pe_int (fun _ _ => rfl))) (pe_op op_mul (pe_ix ix_tup (pv 1) pe_int (fun _ _ => rfl)) (pe_ix ix_tup (pv 2) pe_int (fun _ _ => rfl)))) (pa_cons (pe_op op_sub (pe_op op_mul (pe_ix ix_tup (pv 1) pe_int (fun _ _ => rfl)) (pe_ix ix_tup (pv 2) pe_int (fun _ _ => rfl))) (pe_op op_mul (pe_ix ix_tup (pv 1) pe_int (fun _ _ => rfl)) (pe_ix ix_tup (pv 2) pe_int (fun _ _ => rfl)))) (pa_cons (pe_op op_sub (pe_op op_mul (pe_ix ix_tup (pv 1) pe_int (fun _ _ => rfl)) (pe_ix ix_tup (pv 2) pe_int (fun _ _ => rfl))) (pe_op op_mul (pe_ix ix_tup (pv 1) pe_int (fun _ _ => rfl)) (pe_ix ix_tup (pv 2) pe_int (fun _ _ => rfl)))) pa_nil)))))
      (C8.pss_cut (ps_if (pt_cmpR (op_eqD hr.units) (pv 4) (pe_tup (pa_cons pe_int (pa_cons pe_int (pa_cons pe_int pa_nil)))) (nomark _))
        (pss_cons (ps_set (i := 4) scLaw.nd rfl (Or.inl rfl) (pe_tup (pa_cons pe_int (pa_cons pe_int (pa_cons pe_int pa_nil)))))
        (pss_cons (ps_set (i := 1) scLaw.nd rfl (Or.inl rfl) (pe_tup (pa_cons pe_int (pa_cons pe_int (pa_cons pe_int pa_nil)))))
        (pss_one (ps_set (i := 2) scLaw.nd rfl (Or.inl rfl) (pe_tup (pa_cons pe_int (pa_cons pe_int (pa_cons pe_int pa_nil))))))))
        pss_nil)
      (pss_cons (ps_set (i := 5) scLaw.nd rfl (Or.inr rfl) (pe_call GLLawCanonical (hr.mono (by decide)) (by rfl) gLLawCanonical kpLLawCanonical bLLawCanonical .nil pass0 (pa_cons (pv 4) pa_nil)))
      (pss_cons (ps_set (i := 6) scLaw.nd rfl (Or.inl rfl) (pe_callTy call_tuple_of (by rfl) T.tuple (by decide +kernel) (pa_cons (pe_lc (own := [("k", 14)]) (by rfl) scLaw.nd (pi_range1 rfl T.range (pa_cons pe_int pa_nil)) (blkOk_by (own := [("k", 14)]) (N := ["script", "first", "second", "draw", "across", "normal", "start", "triangle", "both", "axis", "due", "found", "steps", "stop", "k"]) (sc := defScope sLaw) (by decide +kernel)) (fun _ _ _ _ _ => (pg_name (i := 14) scLaw.nd rfl (Or.inl rfl))) (fun _ _ _ _ _ => pts_nil) (fun _ _ _ _ _ => (pe_call GLLawFraction (hr.mono (by decide)) (by rfl) gLLawFraction kpLLawFraction bLLawFraction .nil pass0 (pa_cons (pe_op op_sub (pe_op op_mod (pe_ix (show IxR _ (rIxL K) from ix_list) (pv 3) (pv 14) (fun _ _ => rfl)) pe_int) pe_int) (pa_cons (pe_op op_add pe_int (pe_op op_mod (pe_op op_fdiv (pe_ix (show IxR _ (rIxL K) from ix_list) (pv 3) (pv 14) (fun _ _ => rfl)) pe_int) pe_int)) pa_nil))))) pa_nil)))
      (pss_cons (ps_set (i := 7) scLaw.nd rfl (Or.inl rfl) (pe_lst (pa_cons (pv 6) (pa_cons (pe_call GLLawMoved (hr.mono (by decide)) (by rfl) gLLawMoved kpLLawMoved bLLawMoved .nil pass0 (pa_cons (pv 6) (pa_cons (pv 1) pa_nil))) (pa_cons (pe_call GLLawMoved (hr.mono (by decide)) (by rfl) gLLawMoved kpLLawMoved bLLawMoved .nil pass0 (pa_cons (pv 6) (pa_cons (pv 2) pa_nil))) pa_nil)))))
      (pss_cons (ps_set (i := 8) scLaw.nd rfl (Or.inl rfl) (pe_op op_cat (pv 7) (pe_lst (pa_cons (pe_call GLLawMoved (hr.mono (by decide)) (by rfl) gLLawMoved kpLLawMoved bLLawMoved .nil pass0 (pa_cons (pe_ix ix_list (pv 7) pe_int (fun _ _ => rfl)) (pa_cons (pv 2) pa_nil))) pa_nil))))
      (pss_cons (ps_set (i := 9) scLaw.nd rfl (Or.inl rfl) (pe_ix ix_list (pe_lc (own := [("k", 14)]) (by rfl) scLaw.nd (pi_range1 rfl T.range (pa_cons pe_int pa_nil)) (blkOk_by (own := [("k", 14)]) (N := ["script", "first", "second", "draw", "across", "normal", "start", "triangle", "both", "axis", "due", "found", "steps", "stop", "k"]) (sc := defScope sLaw) (by decide +kernel)) (fun _ _ _ _ _ => (pg_name (i := 14) scLaw.nd rfl (Or.inl rfl))) (fun _ _ _ _ _ => pts_one (pt_cmpR op_ne (pe_ix (show IxR _ (rIxT K) from ix_tup) (pv 5) (pv 14) (fun _ _ => rfl)) pe_int (nomark _))) (fun _ _ _ _ _ => (pv 14))) pe_int (fun _ _ => rfl)))
      (pss_cons (ps_set (i := 10) scLaw.nd rfl (Or.inl rfl) (pe_call GLLawFraction (hr.mono (by decide)) (by rfl) gLLawFraction kpLLawFraction bLLawFraction .nil pass0 (pa_cons (pe_callB call_abs (by rfl) T.abs (by decide +kernel) (pa_cons (pe_ix ix_tup (pv 4) (pv 9) (fun _ _ => rfl)) pa_nil)) (pa_cons (pe_op op_mul pe_int (pe_callB call_abs (by rfl) T.abs (by decide +kernel) (pa_cons (pe_ix ix_tup (pv 5) (pv 9) (fun _ _ => rfl)) pa_nil))) pa_nil))))
      (pss_cons (ps_set (i := 11) scLaw.nd rfl (Or.inl rfl) (pe_call GAreaOf hr (by rfl) gAreaOf kpAreaOf bAreaOf .nil pass0 (pa_cons (pe_lst (pa_cons (pe_call GLLawTurned (hr.mono (by decide)) (by rfl) gLLawTurned kpLLawTurned bLLawTurned .nil pass0 (pa_cons (pv 7) (pa_cons (pe_ix ix_list (pv 3) pe_int (fun _ _ => rfl)) pa_nil))) pa_nil)) (pa_cons (pv 5) pa_nil))))
      (pss_cons (ps_if (PW.pt (pw_or (pt_not (pt_val (pe_call GLLawIsFraction (hr.mono (by decide)) (by rfl) gLLawIsFraction kpLLawIsFraction bLLawIsFraction .nil pass0 (pa_cons (pv 11) pa_nil)))) (pw_or1 (pt_cmpR (op_neD hr.units) (pv 11) (pv 10) (nomark _)))))
        (pss_one (ps_ret pe_bl))
        pss_nil)
      (pss_cons (ps_set (i := 11) scLaw.nd rfl (Or.inl rfl) (pe_call GAreaOf hr (by rfl) gAreaOf kpAreaOf bAreaOf .nil pass0 (pa_cons (pe_lst (pa_cons (pe_call GLLawTurned (hr.mono (by decide)) (by rfl) gLLawTurned kpLLawTurned bLLawTurned .nil pass0 (pa_cons (pv 8) (pa_cons (pe_ix ix_list (pv 3) pe_int (fun _ _ => rfl)) pa_nil))) pa_nil)) (pa_cons (pv 5) pa_nil))))
      (pss_cons (ps_if (PW.pt (pw_or (pt_not (pt_val (pe_call GLLawIsFraction (hr.mono (by decide)) (by rfl) gLLawIsFraction kpLLawIsFraction bLLawIsFraction .nil pass0 (pa_cons (pv 11) pa_nil)))) (pw_or1 (pt_cmpR (op_neD hr.units) (pv 11) (pe_call GLLawTimes (hr.mono (by decide)) (by rfl) gLLawTimes kpLLawTimes bLLawTimes .nil pass0 (pa_cons (pv 10) (pa_cons (pe_tup (pa_cons pe_int (pa_cons pe_int pa_nil))) pa_nil))) (nomark _)))))
        (pss_one (ps_ret pe_bl))
        pss_nil)
      (pss_cons (ps_if (pt_cmpR (op_neD hr.units) (pe_call GAreaOf hr (by rfl) gAreaOf kpAreaOf bAreaOf .nil pass0 (pa_cons (pe_lst (pa_cons (pe_call GLLawTurned (hr.mono (by decide)) (by rfl) gLLawTurned kpLLawTurned bLLawTurned .nil pass0 (pa_cons (pv 8) (pa_cons (pe_ix ix_list (pv 3) pe_int (fun _ _ => rfl)) pa_nil))) (pa_cons (pe_call GLLawTurned (hr.mono (by decide)) (by rfl) gLLawTurned kpLLawTurned bLLawTurned .nil pass0 (pa_cons (pv 7) (pa_cons (pe_ix ix_list (pv 3) pe_int (fun _ _ => rfl)) pa_nil))) pa_nil))) (pa_cons (pv 5) pa_nil))) (pe_call GLLawTimes (hr.mono (by decide)) (by rfl) gLLawTimes kpLLawTimes bLLawTimes .nil pass0 (pa_cons (pv 10) (pa_cons (pe_tup (pa_cons pe_int (pa_cons pe_int pa_nil))) pa_nil))) (nomark _))
        (pss_one (ps_ret pe_bl))
        pss_nil)
      (pss_cons (ps_set (i := 12) scLaw.nd rfl (Or.inl rfl) (pe_op op_add pe_int (pe_op op_mod (pe_ix ix_list (pv 3) pe_int (fun _ _ => rfl)) pe_int)))
      (pss_cons (ps_set (i := 13) scLaw.nd rfl (Or.inl rfl) (pe_call GLLawMoved (hr.mono (by decide)) (by rfl) gLLawMoved kpLLawMoved bLLawMoved .nil pass0 (pa_cons (pv 6) (pa_cons (pe_tup (pa_cons (pe_op op_mul (pe_ix ix_tup (pv 1) pe_int (fun _ _ => rfl)) (pv 12)) (pa_cons (pe_op op_mul (pe_ix ix_tup (pv 1) pe_int (fun _ _ => rfl)) (pv 12)) (pa_cons (pe_op op_mul (pe_ix ix_tup (pv 1) pe_int (fun _ _ => rfl)) (pv 12)) pa_nil)))) pa_nil))))
      (pss_one (ps_ret (pe_and (pe_cmpR (op_eqD hr.units) (pe_call GLengthOf (hr.mono (by decide)) (by rfl) gLengthOf kpLengthOf bLengthOf .nil pass0 (pa_cons (pv 1) (pa_cons (pv 6) (pa_cons (pv 13) pa_nil)))) (pe_tup (pa_cons (pv 12) (pa_cons pe_int pa_nil))) (nomark _)) (pe_one (pe_cmpR (op_eqD hr.units) (pe_call GAreaOf hr (by rfl) gAreaOf kpAreaOf bAreaOf .nil pass0 (pa_cons (pe_lst pa_nil) (pa_cons (pv 5) pa_nil))) (pe_tup (pa_cons pe_int (pa_cons pe_int pa_nil))) (nomark _)))))))))))))))))))))))), ?_⟩
    have hS : SqL K H S (zs ns) := hS0
    refine ⟨_, rfl, S, ns, 0, rfl, hS, fun c0 _ => ?_⟩
    refine ⟨c0, 6, rfl, by decide, by decide, fun H1 f x1 y1 z1 s1 ef n1 p1 p2 p3 => ?_⟩
    refine ⟨_, rfl, S, ns, 1, rfl, s1.seq hS, fun c1 _ => ?_⟩
    refine ⟨c1, 6, rfl, by decide, by decide, fun H2 s x2 y2 z2 s2 es n2 p4 p5 p6 => ?_⟩
    refine ⟨_, rfl, S, ns, 2, rfl, (s1.trans s2).seq hS, fun c2 _ => ?_⟩
    refine ⟨c2, 100000, 5, rfl, by decide, by decide, by decide, fun H3 l rs s3 nl el hrs hr0 => ?_⟩
    have hl3 : SqL K H3 l (zs rs) := SqL.of el
    have hF : SqT K H3 f (zs [x1, y1, z1]) := SqT.of ((s2.trans s3) _ _ ef)
    have hG : SqT K H3 s (zs [x2, y2, z2]) := SqT.of (s3 _ _ es)
    have b1 : Bz 3 x1 := show x1.natAbs < 2 ^ 3 by omega
    have b2 : Bz 3 y1 := show y1.natAbs < 2 ^ 3 by omega
    have b3 : Bz 3 z1 := show z1.natAbs < 2 ^ 3 by omega
    have b4 : Bz 3 x2 := show x2.natAbs < 2 ^ 3 by omega
    have b5 : Bz 3 y2 := show y2.natAbs < 2 ^ 3 by omega
    have b6 : Bz 3 z2 := show z2.natAbs < 2 ^ 3 by omega
    have mm : ∀ {x y : Int}, Bz 3 x → CMul x y := fun {x y} h => by
      have : x.natAbs < 2 ^ 3 := h
      exact .inl ⟨by omega, by omega⟩
    have m1 : CMul y1 z2 := mm b2
    have m2 : CMul z1 y2 := mm b3
    have m3 : CMul z1 x2 := mm b3
    have m4 : CMul x1 z2 := mm b1
    have m5 : CMul x1 y2 := mm b1
    have m6 : CMul y1 x2 := mm b2
    walk_at "go"
    refine ⟨tn rfl, fun a na => ?_⟩
    generalize hUa : upd _ _ (HO.tup _) = H4
    have s4 := same_hu hUa na
    have eh4 := at_hu hUa
    have h4 := SqT.of (K := K) eh4
    clear hUa
    refine ⟨fun σ' H' => ∃ (f s a : Addr) (u v : V3), σ' = [some (.ref S), some (.ref f), some (.ref s), some (.ref l), some (.ref a), none, none, none, none, none, none, none, none, none, none] ∧ Same H3 H' ∧ Sv K H' f u ∧ Sv K H' s v ∧ Sv K H' a (crs u v) ∧ Vz 3 u ∧ Vz 3 v ∧ ¬ ((crs u v).1 = 0 ∧ (crs u v).2.1 = 0 ∧ (crs u v).2.2 = 0), ?_, ?_⟩
    · refine ⟨_, rfl, ?_⟩
      refine ⟨tn rfl, fun z0 nz0 => ?_⟩
      generalize hUz0 : upd _ _ (HO.tup _) = H5
      have s5 := same_hu hUz0 nz0
      have eh5 := at_hu hUz0
      have h5 := SqT.of (K := K) eh5
      clear hUz0
      have h4' : SqT K H5 a (zs (l3 (crs (x1, y1, z1) (x2, y2, z2)))) := same_tup s5 h4
      refine ⟨pdi (l3 (crs (x1, y1, z1) (x2, y2, z2))), pdi [0, 0, 0], (.tup h4' (dpi_all _) : Dp K H5 (.ref a) (pdi (l3 (crs (x1, y1, z1) (x2, y2, z2))))), (.tup h5 (dpi_all [0, 0, 0]) : Dp K H5 (.ref z0) (pdi [0, 0, 0])), shi_t _, shi_t _, ?_⟩
      rw [eqv_pdi]
      refine ⟨_, rfl, ?_⟩
      refine ite2 (fun g => ?_) (fun g => ?_)
      · refine ⟨tn rfl, fun a2 na2 => ?_⟩
        generalize hUa2 : upd _ _ (HO.tup _) = H6
        have s6 := same_hu hUa2 na2
        have eh6 := at_hu hUa2
        have h6 := SqT.of (K := K) eh6
        clear hUa2
        refine ⟨tn rfl, fun f2 nf2 => ?_⟩
        generalize hUf2 : upd _ _ (HO.tup _) = H7
        have s7 := same_hu hUf2 nf2
        have eh7 := at_hu hUf2
        have h7 := SqT.of (K := K) eh7
        clear hUf2
        refine ⟨tn rfl, fun g2 ng2 => ?_⟩
        generalize hUg2 : upd _ _ (HO.tup _) = H8
        have s8 := same_hu hUg2 ng2
        have eh8 := at_hu hUg2
        have h8 := SqT.of (K := K) eh8
        clear hUg2
        refine ⟨f2, g2, a2, (3, 0, 0), (1, 2, 0), rfl, s4.trans (s5.trans (s6.trans (s7.trans s8))), same_tup s8 h7, h8, same_tup (s7.trans s8) h6, ?_, ?_, by decide⟩
        · exact ⟨show (3 : Int).natAbs < 2 ^ 3 by decide, show (0 : Int).natAbs < 2 ^ 3 by decide, show (0 : Int).natAbs < 2 ^ 3 by decide⟩
        · exact ⟨show (1 : Int).natAbs < 2 ^ 3 by decide, show (2 : Int).natAbs < 2 ^ 3 by decide, show (0 : Int).natAbs < 2 ^ 3 by decide⟩
      · have g' : ¬ l3 (crs (x1, y1, z1) (x2, y2, z2)) = [0, 0, 0] := fun e => g (decide_eq_true e)
        refine ⟨f, s, a, (x1, y1, z1), (x2, y2, z2), rfl, s4.trans s5, same_tup (s4.trans s5) hF, same_tup (s4.trans s5) hG, h4', ⟨b1, b2, b3⟩, ⟨b4, b5, b6⟩, fun z => g' ?_⟩
        show [_, _, _] = [_, _, _]
        rw [z.1, z.2.1, z.2.2]
    rintro σ' H5 ⟨f', s', a', u, v, rfl, s5, gF, gG, gA, bu, bv, n0⟩
    have bc : Vz 7 (crs u v) := bu.crs bv
    have bc' : ∀ x : Int, Bz 7 x → x.natAbs < 1073741824 := fun x h => by
      have h : x.natAbs < 2 ^ 7 := h
      omega
    refine ⟨_, rfl, a', (crs u v).1, (crs u v).2.1, (crs u v).2.2, rfl, gA, n0, bc' _ bc.1, bc' _ bc.2.1, bc' _ bc.2.2, fun H6 n s6 en => ?_⟩
    obtain ⟨bn, ax, ax3, nax, nz⟩ := cnw_ok n0 bc
    have gN : Sv K H6 n (cnw (crs u v)) := SqT.of en
    have dr : ∀ j, j < 5 → (zs rs)[j]? = some (.int (rs.getD j 0)) := fun j hj => by
      rw [show zs rs = rs.map V.int from rfl, List.getElem?_map, List.getElem?_eq_getElem (by omega), List.getD_eq_getElem?_getD, List.getElem?_eq_getElem (by omega)]
      rfl
    have dp : ∀ j, j < 5 → 0 ≤ rs.getD j 0 ∧ rs.getD j 0 < 100000 := fun j hj => by
      rw [List.getD_eq_getElem?_getD, List.getElem?_eq_getElem (by omega)]
      exact hr0 _ (List.getElem_mem _)
    have hl6 := (s5.trans s6).seq hl3
    obtain ⟨oo, hoo⟩ : ∃ oo : Nat → Rat, ∀ i, oo i = Rat.divInt (rs.getD i 0 % 41 - 20) (1 + rs.getD i 0 / 41 % 5) := ⟨_, fun _ => rfl⟩
    have hem : ∀ i, 0 ≤ rs.getD i 0 % 41 ∧ rs.getD i 0 % 41 < 41 ∧ 0 ≤ rs.getD i 0 / 41 % 5 ∧ rs.getD i 0 / 41 % 5 < 5 := fun i =>
      ⟨Int.emod_nonneg _ (by decide), Int.emod_lt_of_pos _ (by decide), Int.emod_nonneg _ (by decide), Int.emod_lt_of_pos _ (by decide)⟩
    have boo : ∀ i, Bd 6 (oo i) := fun i => by
      obtain ⟨h1, h2, h3, h4⟩ := hem i
      rw [hoo]
      exact bd_of (by omega) (by have : (2 : Nat) ^ 6 = 64 := rfl; omega) (by have : (2 : Nat) ^ 6 = 64 := rfl; omega)
    have doo : ∀ i, (oo i).den ≤ 5 := fun i => by
      obtain ⟨h1, h2, h3, h4⟩ := hem i
      rw [hoo]
      exact den_le (by omega) (by omega)
    refine ⟨_, rfl, by decide, by decide, fun D hD => ?_⟩
    have cc : (1000 : Nat) < 2 ^ 4900 := Nat.lt_of_lt_of_le (by decide) (Nat.pow_le_pow_right (n := 2) (i := 10) (by decide) (by decide))
    refine lc_row (K := K) (walk_range (lo := 0) (n := 3)) [oo 0, oo 1, oo 2] rfl (by decide) hD (fun _ _ => trivial) ?_ ?_
    · rintro j r i Hy Hz kk hr s7 ⟨rfl, rfl⟩ put
      have hj3 : j < 3 := (List.getElem?_eq_some_iff.mp hr).1
      have er : r = oo j := by
        match j, hj3, hr with
        | 0, _, hr => exact (Option.some.inj hr).symm
        | 1, _, hr => exact (Option.some.inj hr).symm
        | 2, _, hr => exact (Option.some.inj hr).symm
      subst er
      have ez : (0 : Int) + ((j : Nat) : Int) = ((j : Nat) : Int) := Int.zero_add _
      have hat : atI (zs rs) ((0 : Int) + ((j : Nat) : Int)) = some (V.int (rs.getD j 0)) := by
        rw [ez]
        exact atI_nat (dr j (by omega))
      obtain ⟨h1, h2, h3, h4⟩ := hem j
      have hq := (dp j (by omega)).1
      refine ⟨rfl, _, rfl, _, rfl, l, _, _, _, rfl, rfl, s7.seq hl6, hat, _, _, rfl, rfl, (show (0 : Int) < 41 by decide), _, _, rfl, rfl, ?_⟩
      refine ⟨_, rfl, _, rfl, l, _, _, _, rfl, rfl, s7.seq hl6, hat, _, _, rfl, rfl, ⟨by decide, by decide⟩, _, _, rfl, rfl, (show (0 : Int) < 5 by decide), _, _, rfl, rfl, ?_⟩
      refine ⟨_, _, rfl, Nat.lt_of_le_of_lt (by omega) cc, Nat.lt_of_le_of_lt (by omega) cc, by omega, fun H8 t s8 e8 => put t H8 s8 ?_⟩
      rw [hoo]
      exact fx_rd (by omega) e8
    intro H7 w7 s7 e7 r7 m7
    refine ⟨D, _, rfl, .inl ⟨SqL.of e7, fun T0 nT0 => ?_⟩⟩
    have s8 := same_upd (o := .tup (fr w7)) nT0
    have fT0 : FT K (upd H7 T0 (.tup (fr w7))) T0 (pnt (oo 0) (oo 1) (oo 2) u v 0 0) := by
      refine ⟨w7, SqT.of upd_same, r7.same s8, ?_⟩
      rw [m7]
      unfold pnt
      have e0 : ((0 : Int) : Rat) = 0 := rfl
      rw [e0]
      refine List.cons_eq_cons.mpr ⟨?_, List.cons_eq_cons.mpr ⟨?_, List.cons_eq_cons.mpr ⟨?_, rfl⟩⟩⟩ <;> grind
    show gName 6 _ _ (upd H7 T0 (.tup (fr w7))) _
    generalize upd H7 T0 (.tup (fr w7)) = H8 at s8 fT0 ⊢
    have s58 := s6.trans (s7.trans s8)
    have bP : ∀ {a b : Int}, (a = 0 ∨ a = 1) → (b = 0 ∨ b = 1) → Pb3 20 (pnt (oo 0) (oo 1) (oo 2) u v a b) ∧ ∀ r ∈ pnt (oo 0) (oo 1) (oo 2) u v a b, r.den ≤ 5 := fun ha hb => pnt_ok ⟨boo 0, doo 0⟩ ⟨boo 1, doo 1⟩ ⟨boo 2, doo 2⟩ bu bv ha hb
    have o0 : (0 : Int) = 0 ∨ (0 : Int) = 1 := .inl rfl
    have o1 : (1 : Int) = 0 ∨ (1 : Int) = 1 := .inr rfl
    have s68 := s6.trans (s7.trans s8)
    refine ⟨_, rfl, _, rfl, _, rfl, T0, f', _, u, rfl, fT0, (bP o0 o0).1, same_tup s68 gF, bu.up (by decide), fun H9 T1 s9 fT1 => ?_⟩
    rw [pnt_u] at fT1
    refine ⟨_, rfl, _, rfl, T0, s', _, v, rfl, FT.up s9 fT0, (bP o0 o0).1, same_tup (s68.trans s9) gG, bv.up (by decide), fun H10 T2 s10 fT2 => ?_⟩
    rw [pnt_v] at fT2
    refine ⟨by show 3 ≤ sizeLine; decide, fun L1 nL1 => ?_⟩
    have s11 := same_upd (o := .lst [.ref T0, .ref T1, .ref T2]) nL1
    have eL1 : (upd H10 L1 (.lst [.ref T0, .ref T1, .ref T2])) L1 = some (.lst [.ref T0, .ref T1, .ref T2]) := upd_same
    show gName 7 _ _ (upd H10 L1 (.lst [.ref T0, .ref T1, .ref T2])) _
    generalize upd H10 L1 (.lst [.ref T0, .ref T1, .ref T2]) = H11 at s11 eL1 ⊢
    have hL1 : SqL K H11 L1 [.ref T0, .ref T1, .ref T2] := SqL.of eL1
    have gT1 : FT K H11 T1 (pnt (oo 0) (oo 1) (oo 2) u v 1 0) := FT.up (s10.trans s11) fT1
    refine ⟨_, rfl, _, rfl, L1, _, 1, _, rfl, rfl, hL1, atI_nat (j := 1) rfl, _, rfl, T1, s', _, v, rfl, gT1, (bP o1 o0).1, same_tup (s68.trans (s9.trans (s10.trans s11))) gG, bv.up (by decide), fun H12 T3 s12 fT3 => ?_⟩
    rw [pnt_v] at fT3
    refine ⟨by show 1 ≤ sizeLine; decide, fun L2 nL2 => ?_⟩
    have s13 := same_upd (o := .lst [.ref T3]) nL2
    have eL2 : (upd H12 L2 (.lst [.ref T3])) L2 = some (.lst [.ref T3]) := upd_same
    show rCat _ _ (upd H12 L2 (.lst [.ref T3])) _
    generalize upd H12 L2 (.lst [.ref T3]) = H13 at s13 eL2 ⊢
    refine ⟨L1, L2, _, _, rfl, rfl, (s12.trans s13) _ _ eL1, eL2, by show 4 ≤ sizeLine; decide, fun B nB => ?_⟩
    have s14 := same_upd (o := .lst [.ref T0, .ref T1, .ref T2, .ref T3]) nB
    have eB : (upd H13 B (.lst [.ref T0, .ref T1, .ref T2, .ref T3])) B = some (.lst [.ref T0, .ref T1, .ref T2, .ref T3]) := upd_same
    show gName 8 _ _ (upd H13 B (.lst [.ref T0, .ref T1, .ref T2, .ref T3])) _
    generalize upd H13 B (.lst [.ref T0, .ref T1, .ref T2, .ref T3]) = H14 at s14 eB ⊢
    have u3 := s12.trans (s13.trans s14)
    have g0 : FT K H14 T0 (pnt (oo 0) (oo 1) (oo 2) u v 0 0) := FT.up (s9.trans (s10.trans (s11.trans u3))) fT0
    have g1 : FT K H14 T1 (pnt (oo 0) (oo 1) (oo 2) u v 1 0) := FT.up u3 gT1
    have g2 : FT K H14 T2 (pnt (oo 0) (oo 1) (oo 2) u v 0 1) := FT.up (s11.trans u3) fT2
    have g3 : FT K H14 T3 (pnt (oo 0) (oo 1) (oo 2) u v 1 1) := FT.up (s13.trans s14) fT3
    have hL1' : SqL K H14 L1 (Ro [(T0, pnt (oo 0) (oo 1) (oo 2) u v 0 0), (T1, pnt (oo 0) (oo 1) (oo 2) u v 1 0), (T2, pnt (oo 0) (oo 1) (oo 2) u v 0 1)]) := u3.seq hL1
    have hB' : SqL K H14 B (Ro [(T0, pnt (oo 0) (oo 1) (oo 2) u v 0 0), (T1, pnt (oo 0) (oo 1) (oo 2) u v 1 0), (T2, pnt (oo 0) (oo 1) (oo 2) u v 0 1), (T3, pnt (oo 0) (oo 1) (oo 2) u v 1 1)]) := SqL.of eB
    have uA := s68.trans (s9.trans (s10.trans (s11.trans u3)))
    have uN := (s7.trans s8).trans (s9.trans (s10.trans (s11.trans u3)))
    have gN' : Sv K H14 n (cnw (crs u v)) := same_tup uN gN
    have gA' : Sv K H14 a' (crs u v) := same_tup uA gA
    have gF' : Sv K H14 f' u := same_tup uA gF
    have hl' : SqL K H14 l (zs rs) := uN.seq hl6
    clear hL1 gT1 fT0 fT1 fT2 fT3 eB eL1 eL2 nB nL1 nL2 s13 s14 s12 u3 uA uN s9 s10 s11 s68 gN gA gF gG hl6 r7 m7 e7 s7 s8 hl3 hS hS0 el hF hG h4
    generalize cnw (crs u v) = nn at *
    refine ⟨_, rfl, by decide, by decide, fun D9 hD9 => ?_⟩
    refine lc_vv (walk_range (lo := 0) (n := 3)) ((List.range 3).map fun (k : Nat) => if decide (co3 nn k ≠ 0) = true then some (V.int (k : Int)) else none) (by simp) (by decide) hD9 (fun _ _ => trivial) ?_ ?_
    · rintro j c x Hy Hz kk kn hc s3 ⟨rfl, rfl⟩ yk yn
      have hj3 : j < 3 := by
        have := (List.getElem?_eq_some_iff.mp hc).1
        simpa using this
      rw [List.getElem?_map, List.getElem?_range hj3] at hc
      refine ⟨rfl, _, rfl, _, rfl, n, _, _, _, rfl, rfl, same_tup s3 gN', by rw [Int.zero_add]; exact l3_at hj3, ?_⟩
      refine ⟨rfl, _, rfl, ?_⟩
      rw [dec_int]
      have ez : V.int (0 + ((j : Nat) : Int)) = V.int ((j : Nat) : Int) := by rw [Int.zero_add]
      refine ite2 (fun g => ?_) (fun g => ?_)
      · have g' : decide (co3 nn j ≠ 0) = true := by simpa using g
        exact ⟨_, rfl, yk _ (by rw [← Option.some.inj hc]; exact (if_pos g').trans (congrArg some ez.symm)) _ (Same.refl _)⟩
      · have g' : ¬ decide (co3 nn j ≠ 0) = true := by simpa using g
        exact yn (by rw [← Option.some.inj hc]; exact if_neg g') _ (Same.refl _)
    intro H15 s15 e15
    obtain ⟨rest, er⟩ := ax_first ax3 nax nz
    rw [er] at e15
    refine ⟨D9, _, 0, _, rfl, rfl, SqL.of e15, atI_nat (j := 0) rfl, ?_⟩
    have bC : Bz 7 (co3 (crs u v) ax) := by
      match ax, ax3 with
      | 0, _ => exact bc.1
      | 1, _ => exact bc.2.1
      | 2, _ => exact bc.2.2
    have bN : Bz 7 (co3 nn ax) := by
      match ax, ax3 with
      | 0, _ => exact bn.1
      | 1, _ => exact bn.2.1
      | 2, _ => exact bn.2.2
    have bC' : (co3 (crs u v) ax).natAbs < 2 ^ 7 := bC
    have bN' : (co3 nn ax).natAbs < 2 ^ 7 := bN
    have ab : ∀ x : Int, (if x < 0 then -x else x) = (x.natAbs : Int) := fun x => by split <;> omega
    refine ⟨_, rfl, _, rfl, a', _, _, _, rfl, rfl, same_tup s15 gA', l3_at ax3, _, rfl, ?_⟩
    refine ⟨_, rfl, _, rfl, n, _, _, _, rfl, rfl, same_tup s15 gN', l3_at ax3, _, rfl, ?_⟩
    rw [ab, ab]
    refine ⟨_, _, rfl, rfl, .inl ⟨by decide, by decide⟩, ?_⟩
    refine ⟨_, _, rfl, Nat.lt_of_le_of_lt (by omega) cc, Nat.lt_of_le_of_lt (by omega) cc, by omega, fun H16 du s16 e16 => ?_⟩
    have fD : Fx K H16 du (Rat.divInt ((co3 (crs u v) ax).natAbs : Int) (2 * ((co3 nn ax).natAbs : Int))) := fx_rd (by omega) e16
    have bA : Bd 10 (Rat.divInt ((co3 (crs u v) ax).natAbs : Int) (2 * ((co3 nn ax).natAbs : Int))) := bd_of (by omega) (by omega) (by omega)
    have tri : ∀ ps : List (List Rat), ps.Perm [pnt (oo 0) (oo 1) (oo 2) u v 0 0, pnt (oo 0) (oo 1) (oo 2) u v 1 0, pnt (oo 0) (oo 1) (oo 2) u v 0 1] → Rat.divInt (twc ax ps) (2 * ((ldv ps : Nat) : Int) * ((ldv ps : Nat) : Int) * ((co3 nn ax).natAbs : Int)) = Rat.divInt ((co3 (crs u v) ax).natAbs : Int) (2 * ((co3 nn ax).natAbs : Int)) := fun ps hp => by
      rw [twc_tri hp]
      have := area_div (C := co3 (crs u v) ax) (N := co3 nn ax) (d := ldv ps) ldv_pos nax 1
      rw [Int.one_mul, show ((1 : Int) : Rat) = 1 from rfl, Rat.mul_one] at this
      exact this
    have par : ∀ ps : List (List Rat), ps.Perm [pnt (oo 0) (oo 1) (oo 2) u v 0 0, pnt (oo 0) (oo 1) (oo 2) u v 1 0, pnt (oo 0) (oo 1) (oo 2) u v 0 1, pnt (oo 0) (oo 1) (oo 2) u v 1 1] → ps.Pairwise lt3 → Rat.divInt (twc ax ps) (2 * ((ldv ps : Nat) : Int) * ((ldv ps : Nat) : Int) * ((co3 nn ax).natAbs : Int)) = Rat.divInt ((co3 (crs u v) ax).natAbs : Int) (2 * ((co3 nn ax).natAbs : Int)) * ((2 : Int) : Rat) := fun ps hp hs => by
      rw [twc_par hp hs]
      exact area_div (C := co3 (crs u v) ax) (N := co3 nn ax) (d := ldv ps) ldv_pos nax 2
    have hnd : [pnt (oo 0) (oo 1) (oo 2) u v 0 0, pnt (oo 0) (oo 1) (oo 2) u v 1 0, pnt (oo 0) (oo 1) (oo 2) u v 0 1, pnt (oo 0) (oo 1) (oo 2) u v 1 1].Nodup := by
      have ne : ∀ {a b c d : Int}, ¬ (a = c ∧ b = d) → ¬ pnt (oo 0) (oo 1) (oo 2) u v a b = pnt (oo 0) (oo 1) (oo 2) u v c d := fun h g => h (pnt_inj n0 g)
      simp only [List.nodup_cons, List.mem_cons, List.not_mem_nil, or_false, not_or]
      exact ⟨⟨ne (by decide), ne (by decide), ne (by decide)⟩, ⟨ne (by decide), ne (by decide)⟩, ne (by decide), (fun h => h), List.nodup_nil⟩
    generalize Rat.divInt ((co3 (crs u v) ax).natAbs : Int) (2 * ((co3 nn ax).natAbs : Int)) = A at fD bA tri par
    have u16 := s15.trans s16
    replace g0 := FT.up u16 g0
    replace g1 := FT.up u16 g1
    replace g2 := FT.up u16 g2
    replace g3 := FT.up u16 g3
    replace hL1' := u16.seq hL1'
    replace hB' := u16.seq hB'
    replace gN' : Sv K H16 n nn := same_tup u16 gN'
    replace gF' : Sv K H16 f' u := same_tup u16 gF'
    replace hl' := u16.seq hl'
    clear s15 s16 u16 e15 e16 gA'
    obtain ⟨W3, hW3⟩ : ∃ W, W = [(T0, pnt (oo 0) (oo 1) (oo 2) u v 0 0), (T1, pnt (oo 0) (oo 1) (oo 2) u v 1 0), (T2, pnt (oo 0) (oo 1) (oo 2) u v 0 1)] := ⟨_, rfl⟩
    obtain ⟨W4, hW4⟩ : ∃ W, W = [(T0, pnt (oo 0) (oo 1) (oo 2) u v 0 0), (T1, pnt (oo 0) (oo 1) (oo 2) u v 1 0), (T2, pnt (oo 0) (oo 1) (oo 2) u v 0 1), (T3, pnt (oo 0) (oo 1) (oo 2) u v 1 1)] := ⟨_, rfl⟩
    rw [← hW3] at hL1'
    rw [← hW4] at hB'
    have n3 : W3.length = 3 := by rw [hW3]; rfl
    have n4 : W4.length = 4 := by rw [hW4]; rfl
    have in4 : ∀ x ∈ W4, FT K H16 x.1 x.2 ∧ Pb3 20 x.2 ∧ ∀ r ∈ x.2, r.den ≤ 5 := fun x hx => by
      rw [hW4] at hx
      simp only [List.mem_cons, List.not_mem_nil, or_false] at hx
      rcases hx with rfl | rfl | rfl | rfl
      · exact ⟨g0, bP o0 o0⟩
      · exact ⟨g1, bP o1 o0⟩
      · exact ⟨g2, bP o0 o1⟩
      · exact ⟨g3, bP o1 o1⟩
    have in3 : ∀ x ∈ W3, x ∈ W4 := fun x hx => by
      rw [hW3] at hx
      rw [hW4]
      simp only [List.mem_cons, List.not_mem_nil, or_false] at hx ⊢
      rcases hx with h | h | h
      · exact .inl h
      · exact .inr (.inl h)
      · exact .inr (.inr (.inl h))
    have nd4 : (W4.map (·.2)).Nodup := by rw [hW4]; exact hnd
    have nd3 : (W3.map (·.2)).Nodup := by
      rw [hW3]
      exact hnd.sublist (((List.Sublist.refl []).cons _ |>.cons_cons _).cons_cons _ |>.cons_cons _)
    have pgT : ∀ {Hx : Hp} {D : Addr} {ks : List (Addr × List Rat)}, Same H16 Hx → SqL K Hx D (Ro ks) → ks.Perm W3 → Pg K Hx nn ax D ks A := fun {Hx D ks} s h hp => by
      have nk := hp.length_eq
      refine ⟨h, fun x hx => FT.up s (in4 x (in3 x (hp.mem_iff.mp hx))).1, by omega, by omega, fun x hx => ?_, (hp.map (·.2)).nodup_iff.mpr nd3, bA.up (by decide), fun ps q1 _ => tri ps ?_⟩
      · obtain ⟨_, ⟨b1, b2⟩, b3⟩ := in4 x (in3 x (hp.mem_iff.mp hx))
        exact ⟨⟨b1, fun r hr => (b2 r hr).up (by decide)⟩, b3⟩
      · have q := q1.trans (hp.map (·.2))
        rw [hW3] at q
        exact q
    have pgP : ∀ {Hx : Hp} {D : Addr} {ks : List (Addr × List Rat)}, Same H16 Hx → SqL K Hx D (Ro ks) → ks.Perm W4 → Pg K Hx nn ax D ks (A * ((2 : Int) : Rat)) := fun {Hx D ks} s h hp => by
      have nk := hp.length_eq
      refine ⟨h, fun x hx => FT.up s (in4 x (hp.mem_iff.mp hx)).1, by omega, by omega, fun x hx => ?_, (hp.map (·.2)).nodup_iff.mpr nd4, (bA.mul (bd_int (n := 2) (k := 2) (show (2 : Int).natAbs < 2 ^ 2 by decide) (by decide))).up (by decide), fun ps q1 q2 => par ps ?_ q2⟩
      · obtain ⟨_, ⟨b1, b2⟩, b3⟩ := in4 x (hp.mem_iff.mp hx)
        exact ⟨⟨b1, fun r hr => (b2 r hr).up (by decide)⟩, b3⟩
      · have q := q1.trans (hp.map (·.2))
        rw [hW4] at q
        exact q
    have bn4 : Vz 40 nn := bn.up (by decide)
    have sA1 : ∀ a : Rat, arS [a] = a := fun a => Rat.zero_add a
    have sA2 : ∀ a b : Rat, arS [a, b] = a + b := fun a b => by
      show 0 + a + b = a + b
      rw [Rat.zero_add]
    refine ⟨_, rfl, _, rfl, l, _, 3, _, rfl, rfl, hl', atI_nat (dr 3 (by decide)), L1, W3, rs.getD 3 0, rfl, hL1', by omega, by omega, (dp 3 (by decide)).1, Int.lt_trans (dp 3 (by decide)).2 (by decide), fun H17 D1 k1 s17 h17 p17 => ?_⟩
    refine ⟨by show 1 ≤ sizeLine; decide, fun P1 nP1 => ?_⟩
    have s18 := same_upd (o := .lst [.ref D1]) nP1
    have e18 : (upd H17 P1 (.lst [.ref D1])) P1 = some (.lst [.ref D1]) := upd_same
    show tCons _ _ _ (upd H17 P1 (.lst [.ref D1])) _
    generalize upd H17 P1 (.lst [.ref D1]) = H18 at s18 e18 ⊢
    have u18 := s17.trans s18
    refine ⟨_, rfl, P1, n, [(D1, k1, A)], nn, ax, rfl, SqL.of e18, fun x hx => ?_, Nat.le_succ 1, same_tup u18 gN', bn4, ax3, nax, nz, fun H19 r1 s19 e19 => ?_⟩
    · rw [List.mem_singleton.mp hx]
      exact pgT u18 (s18.seq h17) p17
    have e19 : Fx K H19 r1 (arS [A]) := e19
    rw [sA1] at e19
    have u19 := u18.trans s19
    refine ⟨_, rfl, r1, A, rfl, e19, bA.up (by decide), fun H20 s20 => ?_⟩
    have u20 := u19.trans s20
    refine ⟨_, rfl, ?_⟩
    refine (if_neg Bool.false_ne_true).mpr ?_
    have qA : ∀ {Hx : Hp} {a b : Addr} {p q : Rat}, Fx K Hx a p → Fx K Hx b q → ∃ da db, Dp K Hx (.ref a) da ∧ Dp K Hx (.ref b) db ∧ True := fun h1 h2 => ⟨_, _, .tup h1 (dpi_all _), .tup h2 (dpi_all _), trivial⟩
    refine ⟨_, rfl, _, rfl, ?_⟩
    refine ⟨pdi [A.num, (A.den : Int)], pdi [A.num, (A.den : Int)], (.tup (e19.same s20) (dpi_all _) : Dp K H20 (.ref r1) (pdi [A.num, (A.den : Int)])), (.tup (fD.same u20) (dpi_all _) : Dp K H20 (.ref du) (pdi [A.num, (A.den : Int)])), shi_t _, shi_t _, ?_⟩
    rw [eqv_pdi, decide_eq_true rfl]
    refine ⟨_, rfl, ?_⟩
    refine (if_neg Bool.false_ne_true).mpr ?_
    refine ⟨_, rfl, _, rfl, l, _, 4, _, rfl, rfl, u20.seq hl', atI_nat (dr 4 (by decide)), B, W4, rs.getD 4 0, rfl, u20.seq hB', by omega, by omega, (dp 4 (by decide)).1, Int.lt_trans (dp 4 (by decide)).2 (by decide), fun H21 D2 k2 s21 h21 p21 => ?_⟩
    refine ⟨by show 1 ≤ sizeLine; decide, fun P2 nP2 => ?_⟩
    have s22 := same_upd (o := .lst [.ref D2]) nP2
    have e22 : (upd H21 P2 (.lst [.ref D2])) P2 = some (.lst [.ref D2]) := upd_same
    show tCons _ _ _ (upd H21 P2 (.lst [.ref D2])) _
    generalize upd H21 P2 (.lst [.ref D2]) = H22 at s22 e22 ⊢
    have u22 := u20.trans (s21.trans s22)
    refine ⟨_, rfl, P2, n, [(D2, k2, A * ((2 : Int) : Rat))], nn, ax, rfl, SqL.of e22, fun x hx => ?_, Nat.le_succ 1, same_tup u22 gN', bn4, ax3, nax, nz, fun H23 r2 s23 e23 => ?_⟩
    · rw [List.mem_singleton.mp hx]
      exact pgP u22 (s22.seq h21) p21
    have e23 : Fx K H23 r2 (arS [A * ((2 : Int) : Rat)]) := e23
    rw [sA1] at e23
    have b2i : ∀ z : Int, z.natAbs < 2 ^ 2 → Bd 2 ((z : Int) : Rat) := fun z hz => bd_int hz (by decide)
    have bA2 : Bd 12 (A * ((2 : Int) : Rat)) := bA.mul (b2i 2 (by decide))
    refine ⟨_, rfl, r2, _, rfl, e23, bA2.up (by decide), fun H24 s24 => ?_⟩
    refine ⟨_, rfl, ?_⟩
    refine (if_neg Bool.false_ne_true).mpr ?_
    refine ⟨_, rfl, _, rfl, ?_⟩
    have u24 := u22.trans (s23.trans s24)
    refine ⟨tn rfl, fun q2 nq2 => ?_⟩
    generalize hUq2 : upd _ _ (HO.tup _) = H25
    have s25 := same_hu hUq2 nq2
    have eh25 := at_hu hUq2
    have h25 := SqT.of (K := K) eh25
    clear hUq2
    refine ⟨du, q2, A, ((2 : Int) : Rat), 10, 2, rfl, fD.same (u24.trans s25), h25, bA, b2i 2 (by decide), by decide, fun H26 w2 s26 e26 => ?_⟩
    have e26 : Fx K H26 w2 (A * ((2 : Int) : Rat)) := e26
    refine ⟨pdi [(A * ((2 : Int) : Rat)).num, ((A * ((2 : Int) : Rat)).den : Int)], pdi [(A * ((2 : Int) : Rat)).num, ((A * ((2 : Int) : Rat)).den : Int)], (.tup (e23.same (s24.trans (s25.trans s26))) (dpi_all _) : Dp K H26 (.ref r2) (pdi [(A * ((2 : Int) : Rat)).num, ((A * ((2 : Int) : Rat)).den : Int)])), (.tup e26 (dpi_all _) : Dp K H26 (.ref w2) (pdi [(A * ((2 : Int) : Rat)).num, ((A * ((2 : Int) : Rat)).den : Int)])), shi_t _, shi_t _, ?_⟩
    rw [eqv_pdi, decide_eq_true rfl]
    refine ⟨_, rfl, ?_⟩
    refine (if_neg Bool.false_ne_true).mpr ?_
    have u26 := u24.trans (s25.trans s26)
    refine ⟨_, rfl, _, rfl, l, _, 3, _, rfl, rfl, u26.seq hl', atI_nat (dr 3 (by decide)), B, W4, rs.getD 3 0, rfl, u26.seq hB', by omega, by omega, (dp 3 (by decide)).1, Int.lt_trans (dp 3 (by decide)).2 (by decide), fun H27 D3 k3 s27 h27 p27 => ?_⟩
    have u27 := u26.trans s27
    refine ⟨_, rfl, _, rfl, l, _, 4, _, rfl, rfl, u27.seq hl', atI_nat (dr 4 (by decide)), L1, W3, rs.getD 4 0, rfl, u27.seq hL1', by omega, by omega, (dp 4 (by decide)).1, Int.lt_trans (dp 4 (by decide)).2 (by decide), fun H28 D4 k4 s28 h28 p28 => ?_⟩
    refine ⟨by show 2 ≤ sizeLine; decide, fun P3 nP3 => ?_⟩
    have s29 := same_upd (o := .lst [.ref D3, .ref D4]) nP3
    have e29 : (upd H28 P3 (.lst [.ref D3, .ref D4])) P3 = some (.lst [.ref D3, .ref D4]) := upd_same
    show tCons _ _ _ (upd H28 P3 (.lst [.ref D3, .ref D4])) _
    generalize upd H28 P3 (.lst [.ref D3, .ref D4]) = H29 at s29 e29 ⊢
    have u29 := u27.trans (s28.trans s29)
    refine ⟨_, rfl, P3, n, [(D3, k3, A * ((2 : Int) : Rat)), (D4, k4, A)], nn, ax, rfl, SqL.of e29, fun x hx => ?_, Nat.le_refl 2, same_tup u29 gN', bn4, ax3, nax, nz, fun H30 r3 s30 e30 => ?_⟩
    · rcases List.mem_cons.mp hx with h | h
      · rw [h]
        exact pgP u29 ((s28.trans s29).seq h27) p27
      · rw [List.mem_singleton.mp h]
        exact pgT u29 (s29.seq h28) p28
    have e30 : Fx K H30 r3 (arS [A * ((2 : Int) : Rat), A]) := e30
    have eA3 : A * ((2 : Int) : Rat) + A = A * ((3 : Int) : Rat) := by
      rw [show ((2 : Int) : Rat) = 2 from rfl, show ((3 : Int) : Rat) = 3 from rfl]
      grind
    rw [sA2, eA3] at e30
    have u30 := u29.trans s30
    refine ⟨_, rfl, ?_⟩
    refine ⟨tn rfl, fun q3 nq3 => ?_⟩
    generalize hUq3 : upd _ _ (HO.tup _) = H31
    have s31 := same_hu hUq3 nq3
    have eh31 := at_hu hUq3
    have h31 := SqT.of (K := K) eh31
    clear hUq3
    refine ⟨du, q3, A, ((3 : Int) : Rat), 10, 2, rfl, fD.same (u30.trans s31), h31, bA, b2i 3 (by decide), by decide, fun H32 w3 s32 e32 => ?_⟩
    have e32 : Fx K H32 w3 (A * ((3 : Int) : Rat)) := e32
    refine ⟨pdi [(A * ((3 : Int) : Rat)).num, ((A * ((3 : Int) : Rat)).den : Int)], pdi [(A * ((3 : Int) : Rat)).num, ((A * ((3 : Int) : Rat)).den : Int)], (.tup (e30.same (s31.trans s32)) (dpi_all _) : Dp K H32 (.ref r3) (pdi [(A * ((3 : Int) : Rat)).num, ((A * ((3 : Int) : Rat)).den : Int)])), (.tup e32 (dpi_all _) : Dp K H32 (.ref w3) (pdi [(A * ((3 : Int) : Rat)).num, ((A * ((3 : Int) : Rat)).den : Int)])), shi_t _, shi_t _, ?_⟩
    rw [eqv_pdi, decide_eq_true rfl]
    refine ⟨_, rfl, ?_⟩
    refine (if_neg Bool.false_ne_true).mpr ?_
    have u32 := u30.trans (s31.trans s32)
    obtain ⟨st, hst⟩ : ∃ st, st = 1 + rs.getD 0 0 % 9 := ⟨_, rfl⟩
    have st1 : 1 ≤ st ∧ st ≤ 9 := by
      have h1 := Int.emod_nonneg (rs.getD 0 0) (show (9 : Int) ≠ 0 by decide)
      have h2 := Int.emod_lt_of_pos (rs.getD 0 0) (show (0 : Int) < 9 by decide)
      omega
    refine ⟨_, rfl, l, _, 0, _, rfl, rfl, u32.seq hl', atI_nat (dr 0 (by decide)), ?_⟩
    refine ⟨_, _, rfl, rfl, (show (0 : Int) < 9 by decide), _, _, rfl, rfl, ?_⟩
    show gName 12 (V.int (1 + rs.getD 0 0 % 9)) _ H32 _
    rw [← hst]
    have gF32 : SqT K H32 f' (zs (l3 u)) := same_tup u32 gF'
    have cst : ∀ x : Int, CMul x st := fun x => .inr ⟨by omega, by omega⟩
    refine ⟨_, rfl, _, rfl, f', _, 0, _, rfl, rfl, gF32, atI_nat (j := 0) rfl, _, rfl, _, _, rfl, rfl, cst _, ?_⟩
    refine ⟨_, rfl, f', _, 1, _, rfl, rfl, gF32, atI_nat (j := 1) rfl, _, rfl, _, _, rfl, rfl, cst _, ?_⟩
    refine ⟨_, rfl, f', _, 2, _, rfl, rfl, gF32, atI_nat (j := 2) rfl, _, rfl, _, _, rfl, rfl, cst _, ?_⟩
    refine ⟨tn rfl, fun q4 nq4 => ?_⟩
    generalize hUq4 : upd _ _ (HO.tup _) = H33
    have s33 := same_hu hUq4 nq4
    have eh33 := at_hu hUq4
    have h33 := SqT.of (K := K) eh33
    clear hUq4
    have bst : ∀ x : Int, Bz 3 x → Bz 10 (x * st) := fun x hx => by
      have hx : x.natAbs < 2 ^ 3 := hx
      show (x * st).natAbs < 2 ^ 10
      rw [Int.natAbs_mul]
      calc x.natAbs * st.natAbs ≤ 8 * 9 := Nat.mul_le_mul (by omega) (by omega)
        _ < 2 ^ 10 := by decide
    have u33 := u32.trans s33
    rw [pnt00] at g0
    have b6 : ∀ {m : Nat}, 6 ≤ m → Pb3 m [oo 0, oo 1, oo 2] := fun hm => ⟨rfl, fun r hr => by
      simp only [List.mem_cons, List.not_mem_nil, or_false] at hr
      rcases hr with rfl | rfl | rfl <;> exact (boo _).up hm⟩
    refine ⟨T0, q4, [oo 0, oo 1, oo 2], (u.1 * st, u.2.1 * st, u.2.2 * st), rfl, FT.up u33 g0, b6 (by decide), h33, ⟨bst _ bu.1, bst _ bu.2.1, bst _ bu.2.2⟩, fun H34 T4 s34 fT4 => ?_⟩
    have fT4 : FT K H34 T4 [oo 0 + ((u.1 * st : Int) : Rat), oo 1 + ((u.2.1 * st : Int) : Rat), oo 2 + ((u.2.2 * st : Int) : Rat)] := fT4
    have u34 := u33.trans s34
    have b9 : Pb3 29 [oo 0 + ((u.1 * st : Int) : Rat), oo 1 + ((u.2.1 * st : Int) : Rat), oo 2 + ((u.2.2 * st : Int) : Rat)] := ⟨rfl, fun r hr => by
      simp only [List.mem_cons, List.not_mem_nil, or_false] at hr
      rcases hr with rfl | rfl | rfl
      · exact ((boo 0).add (bd_int (bst _ bu.1) (by decide))).up (by decide)
      · exact ((boo 1).add (bd_int (bst _ bu.2.1) (by decide))).up (by decide)
      · exact ((boo 2).add (bd_int (bst _ bu.2.2) (by decide))).up (by decide)⟩
    have us := sq_ne n0
    refine ⟨_, rfl, _, rfl, _, rfl, f', T0, T4, u, _, _, rfl, same_tup u34 gF', bu.up (by decide), FT.up u34 g0, fT4, b6 (by decide), b9, us, fun H35 r5 s35 e35 => ?_⟩
    have e35 : Fx K H35 r5 ((dot3 u.1 u.2.1 u.2.2 (oo 0 + ((u.1 * st : Int) : Rat)) (oo 1 + ((u.2.1 * st : Int) : Rat)) (oo 2 + ((u.2.2 * st : Int) : Rat)) - dot3 u.1 u.2.1 u.2.2 (oo 0) (oo 1) (oo 2)) / ((u.1 * u.1 + u.2.1 * u.2.1 + u.2.2 * u.2.2 : Int) : Rat)) := e35
    rw [len_eq _ _ _ _ _ us] at e35
    refine ⟨_, rfl, ?_⟩
    refine ⟨tn rfl, fun q6 nq6 => ?_⟩
    generalize hUq6 : upd _ _ (HO.tup _) = H36
    have s36 := same_hu hUq6 nq6
    have eh36 := at_hu hUq6
    have h36 := SqT.of (K := K) eh36
    clear hUq6
    have e36 : SqT K H36 r5 (zs [st, 1]) := e35.same s36
    refine ⟨pdi [st, 1], pdi [st, 1], (.tup e36 (dpi_all _) : Dp K H36 (.ref r5) (pdi [st, 1])), (.tup h36 (dpi_all [st, 1]) : Dp K H36 (.ref q6) (pdi [st, 1])), shi_t _, shi_t _, ?_⟩
    rw [eqv_pdi, decide_eq_true rfl]
    refine ⟨true, rfl, (if_pos rfl).mpr ?_⟩
    refine ⟨by show 0 ≤ sizeLine; decide, fun P9 nP9 => ?_⟩
    have s37 := same_upd (o := .lst []) nP9
    have e37 : (upd H36 P9 (.lst [])) P9 = some (.lst []) := upd_same
    show tCons _ _ _ (upd H36 P9 (.lst [])) _
    generalize upd H36 P9 (.lst []) = H37 at s37 e37 ⊢
    have u37 := u34.trans (s35.trans (s36.trans s37))
    refine ⟨_, rfl, P9, n, [], nn, ax, rfl, SqL.of e37, fun x hx => (List.not_mem_nil hx).elim, Nat.zero_le 2, same_tup u37 gN', bn4, ax3, nax, nz, fun H38 r6 s38 e38 => ?_⟩
    have e38 : SqT K H38 r6 (zs [0, 1]) := e38
    refine ⟨tn rfl, fun q7 nq7 => ?_⟩
    generalize hUq7 : upd _ _ (HO.tup _) = H39
    have s39 := same_hu hUq7 nq7
    have eh39 := at_hu hUq7
    have h39 := SqT.of (K := K) eh39
    clear hUq7
    refine ⟨pdi [0, 1], pdi [0, 1], (.tup (same_tup s39 e38) (dpi_all _) : Dp K H39 (.ref r6) (pdi [0, 1])), (.tup h39 (dpi_all [0, 1]) : Dp K H39 (.ref q7) (pdi [0, 1])), shi_t _, shi_t _, ?_⟩
    rw [eqv_pdi, decide_eq_true rfl]
    exact fin H39
end
theorem all_mk {l : PySem.W.OpenLaw} {w : World} {K : PySem.W.Frag} {h : Heap} {mg : Str → Option Value} {fa f1 f2 f3 f4 f5 f6 f7 f8 f9 f10 f11 f12 f13 f14 f15 f16 f17 f18 f19 f20 f21 f22 f23 f24 f25 f26 f27 f28 f29 f30 f31 aZERO CPartError CNought T1 : Addr} (X : K.In h) (G : h.Ns mainGlobals mg) (hfa : mg "law" = some (.ref fa))
    {od1 an1 od2 an2 od3 an3 od4 an4 od5 an5 od6 an6 od7 an7 od8 an8 od9 an9 od10 an10 od11 an11 od12 an12 od13 an13 od14 an14 od15 an15 od16 an16 od17 an17 od18 an18 od19 an19 od20 an20 od21 an21 od22 an22 od23 an23 od24 an24 od25 an25 od26 an26 od27 an27 od28 an28 od29 an29 od30 an30 od31 an31 : Option Addr} {sl1 sl2 sl3 sl4 sl5 sl6 sl7 sl8 sl9 sl10 sl11 sl12 sl13 sl14 sl15 sl16 sl17 sl18 sl19 sl20 sl21 sl22 sl23 sl24 sl25 sl26 sl27 sl28 sl29 sl30 sl31 : Array (Option Value)} {oc1 kV1 dc1 pm1 cd1 ct1 oc2 kV2 dc2 pm2 cd2 ct2 oc3 kV3 dc3 pm3 cd3 ct3 oc4 kV4 dc4 pm4 cd4 ct4 oc5 kV5 dc5 pm5 cd5 ct5 oc6 kV6 dc6 pm6 cd6 ct6 oc7 kV7 dc7 pm7 cd7 ct7 oc8 kV8 dc8 pm8 cd8 ct8 oc9 kV9 dc9 pm9 cd9 ct9 oc10 kV10 dc10 pm10 cd10 ct10 oc11 kV11 dc11 pm11 cd11 ct11 oc12 kV12 dc12 pm12 cd12 ct12 oc13 kV13 dc13 pm13 cd13 ct13 oc14 kV14 dc14 pm14 cd14 ct14 oc15 kV15 dc15 pm15 cd15 ct15 oc16 kV16 dc16 pm16 cd16 ct16 oc17 kV17 dc17 pm17 cd17 ct17 oc18 kV18 dc18 pm18 cd18 ct18 oc19 kV19 dc19 pm19 cd19 ct19 oc20 kV20 dc20 pm20 cd20 ct20 oc21 kV21 dc21 pm21 cd21 ct21 oc22 kV22 dc22 pm22 cd22 ct22 oc23 kV23 dc23 pm23 cd23 ct23 oc24 kV24 dc24 pm24 cd24 ct24 oc25 kV25 dc25 pm25 cd25 ct25 oc26 kV26 dc26 pm26 cd26 ct26 oc27 kV27 dc27 pm27 cd27 ct27 oc28 kV28 dc28 pm28 cd28 ct28 oc29 kV29 dc29 pm29 cd29 ct29 oc30 kV30 dc30 pm30 cd30 ct30 oc31 kV31 dc31 pm31 cd31 ct31 : Value}
    (a1 : PySem.W.nsIn K mainGlobals "fraction" = some (some (.ref f1))) (l1 : K.lookup f1 = some ⟨oc1, od1, .func (PySem.W.fnOf "fraction" "fraction" (defArgs sFraction) (defBody sFraction) (defScope sFraction) (.ref T1) kV1 dc1 pm1 an1 cd1 ct1), sl1⟩) {ocT1 : Value} {odT1 : Option Addr} {slT1 : Array (Option Value)} {nT1 : Nat} {tT1 : Tok} (lT1 : K.lookup T1 = some ⟨ocT1, odT1, .seq #[.int 1 tT1] nT1, slT1⟩) (c1 : PySem.W.codeIn K cd1 "fraction" = true) (k1 : PySem.W.keepIn K (.ref f1) = true)
    (a2 : PySem.W.nsIn K mainGlobals "plus" = some (some (.ref f2))) (l2 : K.lookup f2 = some ⟨oc2, od2, .func (PySem.W.fnOf "plus" "plus" (defArgs sPlus) (defBody sPlus) (defScope sPlus) .none kV2 dc2 pm2 an2 cd2 ct2), sl2⟩) (c2 : PySem.W.codeIn K cd2 "plus" = true) (k2 : PySem.W.keepIn K (.ref f2) = true)
    (a3 : PySem.W.nsIn K mainGlobals "minus" = some (some (.ref f3))) (l3 : K.lookup f3 = some ⟨oc3, od3, .func (PySem.W.fnOf "minus" "minus" (defArgs sMinus) (defBody sMinus) (defScope sMinus) .none kV3 dc3 pm3 an3 cd3 ct3), sl3⟩) (c3 : PySem.W.codeIn K cd3 "minus" = true) (k3 : PySem.W.keepIn K (.ref f3) = true)
    (a4 : PySem.W.nsIn K mainGlobals "over" = some (some (.ref f4))) (l4 : K.lookup f4 = some ⟨oc4, od4, .func (PySem.W.fnOf "over" "over" (defArgs sOver) (defBody sOver) (defScope sOver) .none kV4 dc4 pm4 an4 cd4 ct4), sl4⟩) (c4 : PySem.W.codeIn K cd4 "over" = true) (k4 : PySem.W.keepIn K (.ref f4) = true)
    (a5 : PySem.W.nsIn K mainGlobals "inner" = some (some (.ref f5))) (l5 : K.lookup f5 = some ⟨oc5, od5, .func (PySem.W.fnOf "inner" "inner" (defArgs sInner) (defBody sInner) (defScope sInner) .none kV5 dc5 pm5 an5 cd5 ct5), sl5⟩) (c5 : PySem.W.codeIn K cd5 "inner" = true) (k5 : PySem.W.keepIn K (.ref f5) = true)
    (a6 : PySem.W.nsIn K mainGlobals "reach_ratio" = some (some (.ref f6))) (l6 : K.lookup f6 = some ⟨oc6, od6, .func (PySem.W.fnOf "reach_ratio" "reach_ratio" (defArgs sReachRatio) (defBody sReachRatio) (defScope sReachRatio) .none kV6 dc6 pm6 an6 cd6 ct6), sl6⟩) (c6 : PySem.W.codeIn K cd6 "reach_ratio" = true) (k6 : PySem.W.keepIn K (.ref f6) = true)
    (a7 : PySem.W.nsIn K mainGlobals "reach" = some (some (.ref f7))) (l7 : K.lookup f7 = some ⟨oc7, od7, .func (PySem.W.fnOf "reach" "reach" (defArgs sReach) (defBody sReach) (defScope sReach) .none kV7 dc7 pm7 an7 cd7 ct7), sl7⟩) (c7 : PySem.W.codeIn K cd7 "reach" = true) (k7 : PySem.W.keepIn K (.ref f7) = true)
    (a8 : PySem.W.nsIn K mainGlobals "scale_for" = some (some (.ref f8))) (l8 : K.lookup f8 = some ⟨oc8, od8, .func (PySem.W.fnOf "scale_for" "scale_for" (defArgs sScaleFor) (defBody sScaleFor) (defScope sScaleFor) .none kV8 dc8 pm8 an8 cd8 ct8), sl8⟩) (c8 : PySem.W.codeIn K cd8 "scale_for" = true) (k8 : PySem.W.keepIn K (.ref f8) = true)
    (a9 : PySem.W.nsIn K mainGlobals "scale_for_points" = some (some (.ref f9))) (l9 : K.lookup f9 = some ⟨oc9, od9, .func (PySem.W.fnOf "scale_for_points" "scale_for_points" (defArgs sScaleForPoints) (defBody sScaleForPoints) (defScope sScaleForPoints) .none kV9 dc9 pm9 an9 cd9 ct9), sl9⟩) (c9 : PySem.W.codeIn K cd9 "scale_for_points" = true) (k9 : PySem.W.keepIn K (.ref f9) = true)
    (a10 : PySem.W.nsIn K mainGlobals "rank" = some (some (.ref f10))) (l10 : K.lookup f10 = some ⟨oc10, od10, .func (PySem.W.fnOf "rank" "rank" (defArgs sRank) (defBody sRank) (defScope sRank) .none kV10 dc10 pm10 an10 cd10 ct10), sl10⟩) (c10 : PySem.W.codeIn K cd10 "rank" = true) (k10 : PySem.W.keepIn K (.ref f10) = true)
    (a11 : PySem.W.nsIn K mainGlobals "point_rank" = some (some (.ref f11))) (l11 : K.lookup f11 = some ⟨oc11, od11, .func (PySem.W.fnOf "point_rank" "point_rank" (defArgs sPointRank) (defBody sPointRank) (defScope sPointRank) .none kV11 dc11 pm11 an11 cd11 ct11), sl11⟩) (c11 : PySem.W.codeIn K cd11 "point_rank" = true) (k11 : PySem.W.keepIn K (.ref f11) = true)
    (a12 : PySem.W.nsIn K mainGlobals "in_order" = some (some (.ref f12))) (l12 : K.lookup f12 = some ⟨oc12, od12, .func (PySem.W.fnOf "in_order" "in_order" (defArgs sInOrder) (defBody sInOrder) (defScope sInOrder) .none kV12 dc12 pm12 an12 cd12 ct12), sl12⟩) (c12 : PySem.W.codeIn K cd12 "in_order" = true) (k12 : PySem.W.keepIn K (.ref f12) = true)
    (a13 : PySem.W.nsIn K mainGlobals "on_one_divisor" = some (some (.ref f13))) (l13 : K.lookup f13 = some ⟨oc13, od13, .func (PySem.W.fnOf "on_one_divisor" "on_one_divisor" (defArgs sOnOneDivisor) (defBody sOnOneDivisor) (defScope sOnOneDivisor) .none kV13 dc13 pm13 an13 cd13 ct13), sl13⟩) (c13 : PySem.W.codeIn K cd13 "on_one_divisor" = true) (k13 : PySem.W.keepIn K (.ref f13) = true)
    (a14 : PySem.W.nsIn K mainGlobals "turn" = some (some (.ref f14))) (l14 : K.lookup f14 = some ⟨oc14, od14, .func (PySem.W.fnOf "turn" "turn" (defArgs sTurn) (defBody sTurn) (defScope sTurn) .none kV14 dc14 pm14 an14 cd14 ct14), sl14⟩) (c14 : PySem.W.codeIn K cd14 "turn" = true) (k14 : PySem.W.keepIn K (.ref f14) = true)
    (a15 : PySem.W.nsIn K mainGlobals "around" = some (some (.ref f15))) (l15 : K.lookup f15 = some ⟨oc15, od15, .func (PySem.W.fnOf "around" "around" (defArgs sAround) (defBody sAround) (defScope sAround) .none kV15 dc15 pm15 an15 cd15 ct15), sl15⟩) (c15 : PySem.W.codeIn K cd15 "around" = true) (k15 : PySem.W.keepIn K (.ref f15) = true)
    (a16 : PySem.W.nsIn K mainGlobals "polygon_area" = some (some (.ref f16))) (l16 : K.lookup f16 = some ⟨oc16, od16, .func (PySem.W.fnOf "polygon_area" "polygon_area" (defArgs sPolygonArea) (defBody sPolygonArea) (defScope sPolygonArea) .none kV16 dc16 pm16 an16 cd16 ct16), sl16⟩) (c16 : PySem.W.codeIn K cd16 "polygon_area" = true) (k16 : PySem.W.keepIn K (.ref f16) = true)
    (a17 : PySem.W.nsIn K mainGlobals "area_of" = some (some (.ref f17))) (l17 : K.lookup f17 = some ⟨oc17, od17, .func (PySem.W.fnOf "area_of" "area_of" (defArgs sAreaOf) (defBody sAreaOf) (defScope sAreaOf) .none kV17 dc17 pm17 an17 cd17 ct17), sl17⟩) (c17 : PySem.W.codeIn K cd17 "area_of" = true) (k17 : PySem.W.keepIn K (.ref f17) = true)
    (a18 : PySem.W.nsIn K mainGlobals "length_of" = some (some (.ref f18))) (l18 : K.lookup f18 = some ⟨oc18, od18, .func (PySem.W.fnOf "length_of" "length_of" (defArgs sLengthOf) (defBody sLengthOf) (defScope sLengthOf) .none kV18 dc18 pm18 an18 cd18 ct18), sl18⟩) (c18 : PySem.W.codeIn K cd18 "length_of" = true) (k18 : PySem.W.keepIn K (.ref f18) = true)
    (a19 : PySem.W.nsIn K mainGlobals "_law_is_integer" = some (some (.ref f19))) (l19 : K.lookup f19 = some ⟨oc19, od19, .func (PySem.W.fnOf "_law_is_integer" "_law_is_integer" (defArgs sLLawIsInteger) (defBody sLLawIsInteger) (defScope sLLawIsInteger) .none kV19 dc19 pm19 an19 cd19 ct19), sl19⟩) (c19 : PySem.W.codeIn K cd19 "_law_is_integer" = true) (k19 : PySem.W.keepIn K (.ref f19) = true)
    (a20 : PySem.W.nsIn K mainGlobals "_law_cell" = some (some (.ref f20))) (l20 : K.lookup f20 = some ⟨oc20, od20, .func (PySem.W.fnOf "_law_cell" "_law_cell" (defArgs sLLawCell) (defBody sLLawCell) (defScope sLLawCell) .none kV20 dc20 pm20 an20 cd20 ct20), sl20⟩) (c20 : PySem.W.codeIn K cd20 "_law_cell" = true) (k20 : PySem.W.keepIn K (.ref f20) = true)
    (a21 : PySem.W.nsIn K mainGlobals "_law_row" = some (some (.ref f21))) (l21 : K.lookup f21 = some ⟨oc21, od21, .func (PySem.W.fnOf "_law_row" "_law_row" (defArgs sLLawRow) (defBody sLLawRow) (defScope sLLawRow) .none kV21 dc21 pm21 an21 cd21 ct21), sl21⟩) (c21 : PySem.W.codeIn K cd21 "_law_row" = true) (k21 : PySem.W.keepIn K (.ref f21) = true)
    (a22 : PySem.W.nsIn K mainGlobals "_law_fraction" = some (some (.ref f22))) (l22 : K.lookup f22 = some ⟨oc22, od22, .func (PySem.W.fnOf "_law_fraction" "_law_fraction" (defArgs sLLawFraction) (defBody sLLawFraction) (defScope sLLawFraction) .none kV22 dc22 pm22 an22 cd22 ct22), sl22⟩) (c22 : PySem.W.codeIn K cd22 "_law_fraction" = true) (k22 : PySem.W.keepIn K (.ref f22) = true)
    (a23 : PySem.W.nsIn K mainGlobals "_law_plus" = some (some (.ref f23))) (l23 : K.lookup f23 = some ⟨oc23, od23, .func (PySem.W.fnOf "_law_plus" "_law_plus" (defArgs sLLawPlus) (defBody sLLawPlus) (defScope sLLawPlus) .none kV23 dc23 pm23 an23 cd23 ct23), sl23⟩) (c23 : PySem.W.codeIn K cd23 "_law_plus" = true) (k23 : PySem.W.keepIn K (.ref f23) = true)
    (a24 : PySem.W.nsIn K mainGlobals "_law_times" = some (some (.ref f24))) (l24 : K.lookup f24 = some ⟨oc24, od24, .func (PySem.W.fnOf "_law_times" "_law_times" (defArgs sLLawTimes) (defBody sLLawTimes) (defScope sLLawTimes) .none kV24 dc24 pm24 an24 cd24 ct24), sl24⟩) (c24 : PySem.W.codeIn K cd24 "_law_times" = true) (k24 : PySem.W.keepIn K (.ref f24) = true)
    (a25 : PySem.W.nsIn K mainGlobals "_law_is_fraction" = some (some (.ref f25))) (l25 : K.lookup f25 = some ⟨oc25, od25, .func (PySem.W.fnOf "_law_is_fraction" "_law_is_fraction" (defArgs sLLawIsFraction) (defBody sLLawIsFraction) (defScope sLLawIsFraction) .none kV25 dc25 pm25 an25 cd25 ct25), sl25⟩) (c25 : PySem.W.codeIn K cd25 "_law_is_fraction" = true) (k25 : PySem.W.keepIn K (.ref f25) = true)
    (a26 : PySem.W.nsIn K mainGlobals "_law_direction" = some (some (.ref f26))) (l26 : K.lookup f26 = some ⟨oc26, od26, .func (PySem.W.fnOf "_law_direction" "_law_direction" (defArgs sLLawDirection) (defBody sLLawDirection) (defScope sLLawDirection) .none kV26 dc26 pm26 an26 cd26 ct26), sl26⟩) (c26 : PySem.W.codeIn K cd26 "_law_direction" = true) (k26 : PySem.W.keepIn K (.ref f26) = true)
    (a27 : PySem.W.nsIn K mainGlobals "_law_common" = some (some (.ref f27))) (l27 : K.lookup f27 = some ⟨oc27, od27, .func (PySem.W.fnOf "_law_common" "_law_common" (defArgs sLLawCommon) (defBody sLLawCommon) (defScope sLLawCommon) .none kV27 dc27 pm27 an27 cd27 ct27), sl27⟩) (c27 : PySem.W.codeIn K cd27 "_law_common" = true) (k27 : PySem.W.keepIn K (.ref f27) = true)
    (a28 : PySem.W.nsIn K mainGlobals "_law_canonical" = some (some (.ref f28))) (l28 : K.lookup f28 = some ⟨oc28, od28, .func (PySem.W.fnOf "_law_canonical" "_law_canonical" (defArgs sLLawCanonical) (defBody sLLawCanonical) (defScope sLLawCanonical) .none kV28 dc28 pm28 an28 cd28 ct28), sl28⟩) (c28 : PySem.W.codeIn K cd28 "_law_canonical" = true) (k28 : PySem.W.keepIn K (.ref f28) = true)
    (a29 : PySem.W.nsIn K mainGlobals "_law_moved" = some (some (.ref f29))) (l29 : K.lookup f29 = some ⟨oc29, od29, .func (PySem.W.fnOf "_law_moved" "_law_moved" (defArgs sLLawMoved) (defBody sLLawMoved) (defScope sLLawMoved) .none kV29 dc29 pm29 an29 cd29 ct29), sl29⟩) (c29 : PySem.W.codeIn K cd29 "_law_moved" = true) (k29 : PySem.W.keepIn K (.ref f29) = true)
    (a30 : PySem.W.nsIn K mainGlobals "_law_turned" = some (some (.ref f30))) (l30 : K.lookup f30 = some ⟨oc30, od30, .func (PySem.W.fnOf "_law_turned" "_law_turned" (defArgs sLLawTurned) (defBody sLLawTurned) (defScope sLLawTurned) .none kV30 dc30 pm30 an30 cd30 ct30), sl30⟩) (c30 : PySem.W.codeIn K cd30 "_law_turned" = true) (k30 : PySem.W.keepIn K (.ref f30) = true)
    (a31 : PySem.W.nsIn K mainGlobals "law" = some (some (.ref f31))) (l31 : K.lookup f31 = some ⟨oc31, od31, .func (PySem.W.fnOf "law" "law" (defArgs sLaw) (defBody sLaw) (defScope sLaw) .none kV31 dc31 pm31 an31 cd31 ct31), sl31⟩) (c31 : PySem.W.codeIn K cd31 "law" = true) (k31 : PySem.W.keepIn K (.ref f31) = true)
    (z1 : PySem.W.nsIn K mainGlobals "abs" = some none)
    (z2 : PySem.W.nsIn K mainGlobals "bool" = some none)
    (z3 : PySem.W.nsIn K mainGlobals "int" = some none)
    (z4 : PySem.W.nsIn K mainGlobals "isinstance" = some none)
    (z5 : PySem.W.nsIn K mainGlobals "len" = some none)
    (z6 : PySem.W.nsIn K mainGlobals "list" = some none)
    (z7 : PySem.W.nsIn K mainGlobals "max" = some none)
    (z8 : PySem.W.nsIn K mainGlobals "range" = some none)
    (z9 : PySem.W.nsIn K mainGlobals "sorted" = some none)
    (z10 : PySem.W.nsIn K mainGlobals "sum" = some none)
    (z11 : PySem.W.nsIn K mainGlobals "tuple" = some none)
    (z12 : PySem.W.nsIn K mainGlobals "zip" = some none)
    (z13 : PySem.W.nsIn K mainGlobals "gcd" = some (some (.builtin "math.gcd")))
    (z14 : PySem.W.nsIn K mainGlobals "lcm" = some (some (.builtin "math.lcm")))
    (u0 : PySem.W.nsIn K mainGlobals "ZERO" = some (some (.ref aZERO))) {dw0 : Option Addr} {nw0 : Nat} {sw0 : Array (Option Value)} {tk0_0 tk0_1 : Tok} (w0 : K.lookup aZERO = some ⟨.type "tuple", dw0, .seq #[.int 0 tk0_0, .int 1 tk0_1] nw0, sw0⟩)
    (y0 : PySem.W.nsIn K mainGlobals "PartError" = some (some (.ref CPartError)))
    (y1 : PySem.W.nsIn K mainGlobals "Nought" = some (some (.ref CNought)))
    (y2 : PySem.W.excIn K CNought [.type "ValueError", .type "Exception", .type "BaseException", .type "object"] "ValueError.__new__" = true)
    (y3 : PySem.W.keepIn K (.ref CNought) = true)
    (y4 : PySem.W.subIn K (.ref CNought) (.type "BaseException") = some true)
    (y5 : PySem.W.typeIn K (.ref CNought) = some (.type "type"))
    (y6 : PySem.W.subIn K (.ref CPartError) (.type "BaseException") = some true)
    (y7 : PySem.W.isClsIn K CPartError = true)
    (y8 : PySem.W.typeIn K (.ref CPartError) = some (.type "type"))
    (y9 : PySem.W.subIn K (.ref CNought) (.ref CPartError) = some true)
    (y10 : PySem.W.subIn K (.ref CNought) (.ref CNought) = some true)
    (y11 : PySem.W.findIn K (.ref CNought) "__getattribute__" = some (some (.builtin "BaseException.__getattribute__")))
    (y12 : PySem.W.findIn K (.ref CNought) "__getattr__" = some none)
    (y13 : PySem.W.hasDictIn K CNought = true)
    (y14 : PySem.W.findIn K (.ref CNought) "__class__" = some (some (.builtin "object.__class__")))
    (y15 : PySem.W.specialIn K (.builtin "object.__class__") "__get__" = some (some (.builtin "getset_descriptor.__get__")))
    (y16 : PySem.W.takesIn K (.builtin "object.__class__") = some true)
    (y17 : PySem.W.mroIn K CNought (.type "object") = some true)
    : ∃ fd : FuncData, (∀ (s : Shared) (v : Value), BindsTo s fd ⟨[v], []⟩ [("script", v)]) ∧ ∀ base : Heap, K.In base → base.Ns mainGlobals mg → FnOk l.prog w K mg base CX0 6 fa fd ["script"] (spLaw K) := by
  have e := hfa.symm.trans (PySem.W.mg_of X G a31)
  cases e
  have T : Txt mg := ⟨PySem.W.mg_none_of X G z1, PySem.W.mg_none_of X G z2, PySem.W.mg_none_of X G z3, PySem.W.mg_none_of X G z4, PySem.W.mg_none_of X G z5, PySem.W.mg_none_of X G z6, PySem.W.mg_none_of X G z7, PySem.W.mg_none_of X G z8, PySem.W.mg_none_of X G z9, PySem.W.mg_none_of X G z10, PySem.W.mg_none_of X G z11, PySem.W.mg_none_of X G z12, PySem.W.mg_of X G z13, PySem.W.mg_of X G z14⟩
  have CT : Cons K mg aZERO := ⟨PySem.W.mg_of X G u0, fun H => .inr ⟨_, _, _, w0, rfl, rfl, by show 2 ≤ sizeLine; decide, (.cons ⟨_, rfl⟩ (.cons ⟨_, rfl⟩ .nil))⟩⟩
  have EX : Exns K mg CPartError CNought := ⟨PySem.W.mg_of X G y0, PySem.W.mg_of X G y1, y2, y3, y4, y5, y6, y7, y8, y9, y10, y11, y12, y13, y14, y15, y16, y17⟩
  have F1 : FunD K "fraction" "fraction" (defArgs sFraction) (defBody sFraction) (defScope sFraction) [.int 1] [] f1 _ := ⟨⟨oc1, od1, .ref T1, kV1, dc1, pm1, an1, cd1, ct1, sl1, rfl, l1, c1, .inr ⟨by decide, T1, _, [.int 1 tT1], nT1, rfl, lT1, rfl, .cons ⟨_, rfl⟩ .nil⟩, .inl rfl⟩, k1⟩
  have F2 := fun_mk (st := sPlus) l2 c2 k2
  have F3 := fun_mk (st := sMinus) l3 c3 k3
  have F4 := fun_mk (st := sOver) l4 c4 k4
  have F5 := fun_mk (st := sInner) l5 c5 k5
  have F6 := fun_mk (st := sReachRatio) l6 c6 k6
  have F7 := fun_mk (st := sReach) l7 c7 k7
  have F8 := fun_mk (st := sScaleFor) l8 c8 k8
  have F9 := fun_mk (st := sScaleForPoints) l9 c9 k9
  have F10 := fun_mk (st := sRank) l10 c10 k10
  have F11 := fun_mk (st := sPointRank) l11 c11 k11
  have F12 := fun_mk (st := sInOrder) l12 c12 k12
  have F13 := fun_mk (st := sOnOneDivisor) l13 c13 k13
  have F14 := fun_mk (st := sTurn) l14 c14 k14
  have F15 := fun_mk (st := sAround) l15 c15 k15
  have F16 := fun_mk (st := sPolygonArea) l16 c16 k16
  have F17 := fun_mk (st := sAreaOf) l17 c17 k17
  have F18 := fun_mk (st := sLengthOf) l18 c18 k18
  have F19 := fun_mk (st := sLLawIsInteger) l19 c19 k19
  have F20 := fun_mk (st := sLLawCell) l20 c20 k20
  have F21 := fun_mk (st := sLLawRow) l21 c21 k21
  have F22 := fun_mk (st := sLLawFraction) l22 c22 k22
  have F23 := fun_mk (st := sLLawPlus) l23 c23 k23
  have F24 := fun_mk (st := sLLawTimes) l24 c24 k24
  have F25 := fun_mk (st := sLLawIsFraction) l25 c25 k25
  have F26 := fun_mk (st := sLLawDirection) l26 c26 k26
  have F27 := fun_mk (st := sLLawCommon) l27 c27 k27
  have F28 := fun_mk (st := sLLawCanonical) l28 c28 k28
  have F29 := fun_mk (st := sLLawMoved) l29 c29 k29
  have F30 := fun_mk (st := sLLawTurned) l30 c30 k30
  have F31 := fun_mk (st := sLaw) l31 c31 k31
  obtain ⟨e1, ve1, b1⟩ := F1.binds1 (ps := ["number", "divisor"]) 2 1 (by decide) rfl (fun T kV doc pm an cdv ct us its hu hi => match us, its, hu, hi with | [_, _], [_], _, _ => ⟨_, rfl, by kernel_rfl⟩)
  cases ve1
  obtain ⟨d1, vd1, bd1⟩ := F1.binds1 (ps := ["number", "divisor"]) 1 0 (by decide) rfl (fun T kV doc pm an cdv ct us its hu hi => match us, its, hu, hi with | [_], [_], _, _ => ⟨_, rfl, by kernel_rfl⟩)
  have b2 := F2.binds (ps := ["a", "b"]) fun _ _ _ _ _ _ us hl => match us, hl with | [_, _], _ => rfl
  have b3 := F3.binds (ps := ["a", "b"]) fun _ _ _ _ _ _ us hl => match us, hl with | [_, _], _ => rfl
  have b4 := F4.binds (ps := ["a", "b"]) fun _ _ _ _ _ _ us hl => match us, hl with | [_, _], _ => rfl
  have b5 := F5.binds (ps := ["a", "b"]) fun _ _ _ _ _ _ us hl => match us, hl with | [_, _], _ => rfl
  have b6 := F6.binds (ps := ["normal", "point"]) fun _ _ _ _ _ _ us hl => match us, hl with | [_, _], _ => rfl
  have b7 := F7.binds (ps := ["normal", "point"]) fun _ _ _ _ _ _ us hl => match us, hl with | [_, _], _ => rfl
  have b8 := F8.binds (ps := ["parts"]) fun _ _ _ _ _ _ us hl => match us, hl with | [_], _ => rfl
  have b9 := F9.binds (ps := ["points"]) fun _ _ _ _ _ _ us hl => match us, hl with | [_], _ => rfl
  have b10 := F10.binds (ps := ["part", "scale"]) fun _ _ _ _ _ _ us hl => match us, hl with | [_, _], _ => rfl
  have b11 := F11.binds (ps := ["point", "scale"]) fun _ _ _ _ _ _ us hl => match us, hl with | [_, _], _ => rfl
  have b12 := F12.binds (ps := ["points"]) fun _ _ _ _ _ _ us hl => match us, hl with | [_], _ => rfl
  have b13 := F13.binds (ps := ["points"]) fun _ _ _ _ _ _ us hl => match us, hl with | [_], _ => rfl
  have b14 := F14.binds (ps := ["a", "b", "c"]) fun _ _ _ _ _ _ us hl => match us, hl with | [_, _, _], _ => rfl
  have b15 := F15.binds (ps := ["corners"]) fun _ _ _ _ _ _ us hl => match us, hl with | [_], _ => rfl
  have b16 := F16.binds (ps := ["corners", "normal"]) fun _ _ _ _ _ _ us hl => match us, hl with | [_, _], _ => rfl
  have b17 := F17.binds (ps := ["polygons", "normal"]) fun _ _ _ _ _ _ us hl => match us, hl with | [_, _], _ => rfl
  have b18 := F18.binds (ps := ["direction", "start", "end"]) fun _ _ _ _ _ _ us hl => match us, hl with | [_, _, _], _ => rfl
  have b19 := F19.binds (ps := ["actual"]) fun _ _ _ _ _ _ us hl => match us, hl with | [_], _ => rfl
  have b20 := F20.binds (ps := ["script", "k"]) fun _ _ _ _ _ _ us hl => match us, hl with | [_, _], _ => rfl
  have b21 := F21.binds (ps := ["cell", "size", "base"]) fun _ _ _ _ _ _ us hl => match us, hl with | [_, _, _], _ => rfl
  have b22 := F22.binds (ps := ["number", "divisor"]) fun _ _ _ _ _ _ us hl => match us, hl with | [_, _], _ => rfl
  have b23 := F23.binds (ps := ["a", "b"]) fun _ _ _ _ _ _ us hl => match us, hl with | [_, _], _ => rfl
  have b24 := F24.binds (ps := ["a", "b"]) fun _ _ _ _ _ _ us hl => match us, hl with | [_, _], _ => rfl
  have b25 := F25.binds (ps := ["actual"]) fun _ _ _ _ _ _ us hl => match us, hl with | [_], _ => rfl
  have b26 := F26.binds (ps := ["cell", "most"]) fun _ _ _ _ _ _ us hl => match us, hl with | [_, _], _ => rfl
  have b27 := F27.binds (ps := ["row"]) fun _ _ _ _ _ _ us hl => match us, hl with | [_], _ => rfl
  have b28 := F28.binds (ps := ["direction"]) fun _ _ _ _ _ _ us hl => match us, hl with | [_], _ => rfl
  have b29 := F29.binds (ps := ["point", "direction"]) fun _ _ _ _ _ _ us hl => match us, hl with | [_, _], _ => rfl
  have b30 := F30.binds (ps := ["points", "draw"]) fun _ _ _ _ _ _ us hl => match us, hl with | [_, _], _ => rfl
  refine ⟨PySem.W.fnOf "law" "law" (defArgs sLaw) (defBody sLaw) (defScope sLaw) .none kV31 dc31 pm31 an31 cd31 ct31, fun s v => .of_eq rfl, fun base _ _ => ?_⟩
  have G1 : FnOk l.prog w K mg base (L2.CX l.prog w) 1 f1 _ ["number", "divisor"] (spFraction K CNought) := okFraction F1 T CT EX 
  have G2 : FnOk l.prog w K mg base CX0 2 f2 _ ["a", "b"] (spPlus K) := okPlus F2 T CT EX G1 (PySem.W.mg_of X G a1) k1 b1 vd1 bd1
  have G3 : FnOk l.prog w K mg base CX0 2 f3 _ ["a", "b"] (spMinus K) := okMinus F3 T CT EX G1 (PySem.W.mg_of X G a1) k1 b1 vd1 bd1
  have G4 : FnOk l.prog w K mg base CX0 2 f4 _ ["a", "b"] (spOver K) := okOver F4 T CT EX G1 (PySem.W.mg_of X G a1) k1 b1 vd1 bd1
  have G5 : FnOk l.prog w K mg base CX0 1 f5 _ ["a", "b"] (spInner K) := okInner F5 T CT EX 
  have G6 : FnOk l.prog w K mg base CX0 1 f6 _ ["normal", "point"] (spReachRatio K) := okReachRatio F6 T CT EX 
  have G7 : FnOk l.prog w K mg base CX0 2 f7 _ ["normal", "point"] (spReach K) := okReach F7 T CT EX G6 (PySem.W.mg_of X G a6) k6 b6 G1 (PySem.W.mg_of X G a1) k1 b1 vd1 bd1
  have G8 : FnOk l.prog w K mg base CX0 1 f8 _ ["parts"] (spScaleFor K) := okScaleFor F8 T CT EX 
  have G9 : FnOk l.prog w K mg base CX0 2 f9 _ ["points"] (spScaleForPoints K) := okScaleForPoints F9 T CT EX G8 (PySem.W.mg_of X G a8) k8 b8
  have G10 : FnOk l.prog w K mg base CX0 1 f10 _ ["part", "scale"] (spRank K) := okRank F10 T CT EX 
  have G11 : FnOk l.prog w K mg base CX0 2 f11 _ ["point", "scale"] (spPointRank K) := okPointRank F11 T CT EX G10 (PySem.W.mg_of X G a10) k10 b10
  have G12 : FnOk l.prog w K mg base CX0 3 f12 _ ["points"] (spInOrder K) := okInOrder F12 T CT EX G9 (PySem.W.mg_of X G a9) k9 b9 G11 (PySem.W.mg_of X G a11) k11 b11
  have G13 : FnOk l.prog w K mg base CX0 1 f13 _ ["points"] (spOnOneDivisor K) := okOnOneDivisor F13 T CT EX 
  have G14 : FnOk l.prog w K mg base CX0 1 f14 _ ["a", "b", "c"] (spTurn K) := okTurn F14 T CT EX 
  have G15 : FnOk l.prog w K mg base CX0 2 f15 _ ["corners"] (spAround K) := okAround F15 T CT EX G14 (PySem.W.mg_of X G a14) k14 b14
  have G16 : FnOk l.prog w K mg base CX0 4 f16 _ ["corners", "normal"] (spPolygonArea K) := okPolygonArea F16 T CT EX G13 (PySem.W.mg_of X G a13) k13 b13 G15 (PySem.W.mg_of X G a15) k15 b15 G1 (PySem.W.mg_of X G a1) k1 b1 vd1 bd1 G12 (PySem.W.mg_of X G a12) k12 b12 G14 (PySem.W.mg_of X G a14) k14 b14
  have G17 : FnOk l.prog w K mg base CX0 5 f17 _ ["polygons", "normal"] (spAreaOf K) := okAreaOf F17 T CT EX G2 (PySem.W.mg_of X G a2) k2 b2 G16 (PySem.W.mg_of X G a16) k16 b16
  have G18 : FnOk l.prog w K mg base CX0 3 f18 _ ["direction", "start", "end"] (spLengthOf K) := okLengthOf F18 T CT EX G4 (PySem.W.mg_of X G a4) k4 b4 G3 (PySem.W.mg_of X G a3) k3 b3 G1 (PySem.W.mg_of X G a1) k1 b1 vd1 bd1 G7 (PySem.W.mg_of X G a7) k7 b7 G5 (PySem.W.mg_of X G a5) k5 b5
  have G19 : FnOk l.prog w K mg base CX0 1 f19 _ ["actual"] (spLLawIsInteger K) := okLLawIsInteger F19 T CT EX 
  have G20 : FnOk l.prog w K mg base CX0 1 f20 _ ["script", "k"] (spLLawCell K) := okLLawCell F20 T CT EX 
  have G21 : FnOk l.prog w K mg base CX0 1 f21 _ ["cell", "size", "base"] (spLLawRow K) := okLLawRow F21 T CT EX 
  have G22 : FnOk l.prog w K mg base CX0 1 f22 _ ["number", "divisor"] (spLLawFraction K) := okLLawFraction F22 T CT EX 
  have G23 : FnOk l.prog w K mg base CX0 2 f23 _ ["a", "b"] (spLLawPlus K) := okLLawPlus F23 T CT EX G22 (PySem.W.mg_of X G a22) k22 b22
  have G24 : FnOk l.prog w K mg base CX0 2 f24 _ ["a", "b"] (spLLawTimes K) := okLLawTimes F24 T CT EX G22 (PySem.W.mg_of X G a22) k22 b22
  have G25 : FnOk l.prog w K mg base CX0 2 f25 _ ["actual"] (spLLawIsFraction K) := okLLawIsFraction F25 T CT EX G22 (PySem.W.mg_of X G a22) k22 b22 G19 (PySem.W.mg_of X G a19) k19 b19
  have G26 : FnOk l.prog w K mg base CX0 2 f26 _ ["cell", "most"] (spLLawDirection K) := okLLawDirection F26 T CT EX G21 (PySem.W.mg_of X G a21) k21 b21
  have G27 : FnOk l.prog w K mg base CX0 1 f27 _ ["row"] (spLLawCommon K) := okLLawCommon F27 T CT EX 
  have G28 : FnOk l.prog w K mg base CX0 2 f28 _ ["direction"] (spLLawCanonical K) := okLLawCanonical F28 T CT EX G27 (PySem.W.mg_of X G a27) k27 b27
  have G29 : FnOk l.prog w K mg base CX0 3 f29 _ ["point", "direction"] (spLLawMoved K) := okLLawMoved F29 T CT EX G23 (PySem.W.mg_of X G a23) k23 b23
  have G30 : FnOk l.prog w K mg base CX0 1 f30 _ ["points", "draw"] (spLLawTurned K) := okLLawTurned F30 T CT EX 
  exact okLaw F31 T CT EX G26 (PySem.W.mg_of X G a26) k26 b26 G21 (PySem.W.mg_of X G a21) k21 b21 G28 (PySem.W.mg_of X G a28) k28 b28 G22 (PySem.W.mg_of X G a22) k22 b22 G17 (PySem.W.mg_of X G a17) k17 b17 G29 (PySem.W.mg_of X G a29) k29 b29 G20 (PySem.W.mg_of X G a20) k20 b20 G24 (PySem.W.mg_of X G a24) k24 b24 G30 (PySem.W.mg_of X G a30) k30 b30 G25 (PySem.W.mg_of X G a25) k25 b25 G18 (PySem.W.mg_of X G a18) k18 b18
end Tp
open PySem PySem.W PyProof.Rows
set_option maxHeartbeats 0 in
theorem PySem.Challenge.cw_truepart_k40_areas_of_polygons_holds : PySem.Challenge.rw_truepart_k40_areas_of_polygons.Holds := by
  w_on; o_law; k_head; (case hw => w_witness2)
  k_fill
  refine L2.walk_of (l := PySem.Challenge.rw_truepart_k40_areas_of_polygons) (n := 63) (k := 6) (x := "script") (CX := fun _ => L2.CX0) (sp := fun w => Tp.spLaw _) rfl (by decide) rfl ⟨rfl, by decide, by decide⟩ (fun w h Y => PySem.W.kIn_of Y) ?F (fun _ _ a ns hl _ hS => ⟨a, ns, rfl, hS, hl, fun _ => rfl⟩) (fun _ _ _ _ _ h => h)
  case F =>
    intro w mg fa h KX G hmg
    refine' Tp.all_mk KX G hmg ?a1 ?l1 ?lT1 ?c1 ?k1 ?a2 ?l2 ?c2 ?k2 ?a3 ?l3 ?c3 ?k3 ?a4 ?l4 ?c4 ?k4 ?a5 ?l5 ?c5 ?k5 ?a6 ?l6 ?c6 ?k6 ?a7 ?l7 ?c7 ?k7 ?a8 ?l8 ?c8 ?k8 ?a9 ?l9 ?c9 ?k9 ?a10 ?l10 ?c10 ?k10 ?a11 ?l11 ?c11 ?k11 ?a12 ?l12 ?c12 ?k12 ?a13 ?l13 ?c13 ?k13 ?a14 ?l14 ?c14 ?k14 ?a15 ?l15 ?c15 ?k15 ?a16 ?l16 ?c16 ?k16 ?a17 ?l17 ?c17 ?k17 ?a18 ?l18 ?c18 ?k18 ?a19 ?l19 ?c19 ?k19 ?a20 ?l20 ?c20 ?k20 ?a21 ?l21 ?c21 ?k21 ?a22 ?l22 ?c22 ?k22 ?a23 ?l23 ?c23 ?k23 ?a24 ?l24 ?c24 ?k24 ?a25 ?l25 ?c25 ?k25 ?a26 ?l26 ?c26 ?k26 ?a27 ?l27 ?c27 ?k27 ?a28 ?l28 ?c28 ?k28 ?a29 ?l29 ?c29 ?k29 ?a30 ?l30 ?c30 ?k30 ?a31 ?l31 ?c31 ?k31 ?z1 ?z2 ?z3 ?z4 ?z5 ?z6 ?z7 ?z8 ?z9 ?z10 ?z11 ?z12 ?z13 ?z14 ?u0 ?w0 ?y0 ?y1 ?y2 ?y3 ?y4 ?y5 ?y6 ?y7 ?y8 ?y9 ?y10 ?y11 ?y12 ?y13 ?y14 ?y15 ?y16 ?y17
    (case a1 => k_is)
    (case l1 => k_is)
    (case lT1 => k_is)
    (case c1 => k_is)
    (case k1 => k_is)
    (case a2 => k_is)
    (case l2 => k_is)
    (case c2 => k_is)
    (case k2 => k_is)
    (case a3 => k_is)
    (case l3 => k_is)
    (case c3 => k_is)
    (case k3 => k_is)
    (case a4 => k_is)
    (case l4 => k_is)
    (case c4 => k_is)
    (case k4 => k_is)
    (case a5 => k_is)
    (case l5 => k_is)
    (case c5 => k_is)
    (case k5 => k_is)
    (case a6 => k_is)
    (case l6 => k_is)
    (case c6 => k_is)
    (case k6 => k_is)
    (case a7 => k_is)
    (case l7 => k_is)
    (case c7 => k_is)
    (case k7 => k_is)
    (case a8 => k_is)
    (case l8 => k_is)
    (case c8 => k_is)
    (case k8 => k_is)
    (case a9 => k_is)
    (case l9 => k_is)
    (case c9 => k_is)
    (case k9 => k_is)
    (case a10 => k_is)
    (case l10 => k_is)
    (case c10 => k_is)
    (case k10 => k_is)
    (case a11 => k_is)
    (case l11 => k_is)
    (case c11 => k_is)
    (case k11 => k_is)
    (case a12 => k_is)
    (case l12 => k_is)
    (case c12 => k_is)
    (case k12 => k_is)
    (case a13 => k_is)
    (case l13 => k_is)
    (case c13 => k_is)
    (case k13 => k_is)
    (case a14 => k_is)
    (case l14 => k_is)
    (case c14 => k_is)
    (case k14 => k_is)
    (case a15 => k_is)
    (case l15 => k_is)
    (case c15 => k_is)
    (case k15 => k_is)
    (case a16 => k_is)
    (case l16 => k_is)
    (case c16 => k_is)
    (case k16 => k_is)
    (case a17 => k_is)
    (case l17 => k_is)
    (case c17 => k_is)
    (case k17 => k_is)
    (case a18 => k_is)
    (case l18 => k_is)
    (case c18 => k_is)
    (case k18 => k_is)
    (case a19 => k_is)
    (case l19 => k_is)
    (case c19 => k_is)
    (case k19 => k_is)
    (case a20 => k_is)
    (case l20 => k_is)
    (case c20 => k_is)
    (case k20 => k_is)
    (case a21 => k_is)
    (case l21 => k_is)
    (case c21 => k_is)
    (case k21 => k_is)
    (case a22 => k_is)
    (case l22 => k_is)
    (case c22 => k_is)
    (case k22 => k_is)
    (case a23 => k_is)
    (case l23 => k_is)
    (case c23 => k_is)
    (case k23 => k_is)
    (case a24 => k_is)
    (case l24 => k_is)
    (case c24 => k_is)
    (case k24 => k_is)
    (case a25 => k_is)
    (case l25 => k_is)
    (case c25 => k_is)
    (case k25 => k_is)
    (case a26 => k_is)
    (case l26 => k_is)
    (case c26 => k_is)
    (case k26 => k_is)
    (case a27 => k_is)
    (case l27 => k_is)
    (case c27 => k_is)
    (case k27 => k_is)
    (case a28 => k_is)
    (case l28 => k_is)
    (case c28 => k_is)
    (case k28 => k_is)
    (case a29 => k_is)
    (case l29 => k_is)
    (case c29 => k_is)
    (case k29 => k_is)
    (case a30 => k_is)
    (case l30 => k_is)
    (case c30 => k_is)
    (case k30 => k_is)
    (case a31 => k_is)
    (case l31 => k_is)
    (case c31 => k_is)
    (case k31 => k_is)
    (case z1 => k_is)
    (case z2 => k_is)
    (case z3 => k_is)
    (case z4 => k_is)
    (case z5 => k_is)
    (case z6 => k_is)
    (case z7 => k_is)
    (case z8 => k_is)
    (case z9 => k_is)
    (case z10 => k_is)
    (case z11 => k_is)
    (case z12 => k_is)
    (case z13 => k_is)
    (case z14 => k_is)
    (case u0 => k_is)
    (case w0 => k_is)
    (case y0 => k_is)
    (case y1 => k_is)
    (case y2 => k_exc)
    (case y3 => k_is)
    (case y4 => k_is)
    (case y5 => k_is)
    (case y6 => k_is)
    (case y7 => k_is)
    (case y8 => k_is)
    (case y9 => k_is)
    (case y10 => first | k_is | rfl)
    (case y11 => k_is)
    (case y12 => k_is)
    (case y13 => k_is)
    (case y14 => k_is)
    (case y15 => k_is)
    (case y16 => k_is)
    (case y17 => k_is)
#print axioms PySem.Challenge.cw_truepart_k40_areas_of_polygons_holds
