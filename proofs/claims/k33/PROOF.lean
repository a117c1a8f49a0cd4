import PyProof.Rows.All
import Wide.All
import OpenK.AllK
import Wide.FinOn
import HandS.ForMost
import HandS.Codes
import HandS.Gcd
import HandS.IsInst
import HandS.Wide
import HandS.ForExc
import HandS.ExcIs
import HandS.CallSlots
import HandS.Defaults
import HandS.TupMul
import HandS.Walk
import HandS.NoneIn
import HandS.Star
import PyProof.StrOps2
import KE.GoesMore
import KE.KTurns
import PySem.Challenge.RW_truepart_k33_halves_and_copies_in_space
set_option Elab.async false
set_option linter.all false
set_option maxHeartbeats 8000000
set_option maxRecDepth 100000
namespace Tp
open PySem L2
def top (i : Nat) : Stmt := PySem.Challenge.pw_truepart_k33_halves_and_copies_in_space.main.body.getD i (.Pass ⟨0, 0, 0, 0⟩)
abbrev sCommon : Stmt := top 5
abbrev sFraction : Stmt := top 6
abbrev sPlus : Stmt := top 7
abbrev sMinus : Stmt := top 8
abbrev sTimes : Stmt := top 9
abbrev sAdd : Stmt := top 11
abbrev sSubtract : Stmt := top 12
abbrev sScale : Stmt := top 13
abbrev sInner : Stmt := top 15
abbrev sPrimitive : Stmt := top 17
abbrev sSpread : Stmt := top 19
abbrev sSideOf : Stmt := top 20
abbrev sHalfTool : Stmt := top 21
abbrev sCopiedOrigin : Stmt := top 22
abbrev sShiftedTool : Stmt := top 23
abbrev sMirroredSide : Stmt := top 24
abbrev sMirroredTool : Stmt := top 25
abbrev sLLawNumber : Stmt := top 27
abbrev sLLawFraction : Stmt := top 29
abbrev sLLawSum : Stmt := top 30
abbrev sLLawTimes : Stmt := top 31
abbrev sLLawDot : Stmt := top 32
abbrev sLLawAt : Stmt := top 33
abbrev sLLawSide : Stmt := top 34
abbrev sLLawTest : Stmt := top 35
abbrev sLLawIn : Stmt := top 36
abbrev sLLawShared : Stmt := top 38
abbrev sLLawCanonical : Stmt := top 37
abbrev sLLawDirection : Stmt := top 39
abbrev sLLawValue : Stmt := top 40
abbrev sLLawMirrored : Stmt := top 41
abbrev sLaw : Stmt := top 42
theorem scCommon : FnScope ["a", "b"] ["a", "b"] (defScope sCommon) := ⟨rfl, rfl, rfl, by decide +kernel, rfl, by decide +kernel, by decide +kernel⟩
theorem scFraction : FnScope ["number", "divisor", "shared"] ["number", "divisor"] (defScope sFraction) := ⟨rfl, rfl, rfl, by decide +kernel, rfl, by decide +kernel, by decide +kernel⟩
theorem scPlus : FnScope ["a", "b"] ["a", "b"] (defScope sPlus) := ⟨rfl, rfl, rfl, by decide +kernel, rfl, by decide +kernel, by decide +kernel⟩
theorem scMinus : FnScope ["a", "b"] ["a", "b"] (defScope sMinus) := ⟨rfl, rfl, rfl, by decide +kernel, rfl, by decide +kernel, by decide +kernel⟩
theorem scTimes : FnScope ["a", "b"] ["a", "b"] (defScope sTimes) := ⟨rfl, rfl, rfl, by decide +kernel, rfl, by decide +kernel, by decide +kernel⟩
theorem scAdd : FnScope ["a", "b", "x", "y"] ["a", "b"] (defScope sAdd) := ⟨rfl, rfl, rfl, by decide +kernel, rfl, by decide +kernel, by decide +kernel⟩
theorem scSubtract : FnScope ["a", "b", "x", "y"] ["a", "b"] (defScope sSubtract) := ⟨rfl, rfl, rfl, by decide +kernel, rfl, by decide +kernel, by decide +kernel⟩
theorem scScale : FnScope ["factor", "a", "x"] ["factor", "a"] (defScope sScale) := ⟨rfl, rfl, rfl, by decide +kernel, rfl, by decide +kernel, by decide +kernel⟩
theorem scInner : FnScope ["a", "b"] ["a", "b"] (defScope sInner) := ⟨rfl, rfl, rfl, by decide +kernel, rfl, by decide +kernel, by decide +kernel⟩
theorem scPrimitive : FnScope ["a", "divisor", "part"] ["a"] (defScope sPrimitive) := ⟨rfl, rfl, rfl, by decide +kernel, rfl, by decide +kernel, by decide +kernel⟩
theorem scSpread : FnScope ["normal", "point", "x", "y", "z", "part", "found"] ["normal", "point"] (defScope sSpread) := ⟨rfl, rfl, rfl, by decide +kernel, rfl, by decide +kernel, by decide +kernel⟩
theorem scSideOf : FnScope ["origin", "direction", "offset", "above", "normal", "divisor"] ["origin", "direction", "offset", "above"] (defScope sSideOf) := ⟨rfl, rfl, rfl, by decide +kernel, rfl, by decide +kernel, by decide +kernel⟩
theorem scHalfTool : FnScope ["number", "feature", "offset"] ["number", "feature", "offset"] (defScope sHalfTool) := ⟨rfl, rfl, rfl, by decide +kernel, rfl, by decide +kernel, by decide +kernel⟩
theorem scCopiedOrigin : FnScope ["number", "k", "origin"] ["number", "k", "origin"] (defScope sCopiedOrigin) := ⟨rfl, rfl, rfl, by decide +kernel, rfl, by decide +kernel, by decide +kernel⟩
theorem scShiftedTool : FnScope ["number", "k", "tool", "shift", "op", "sides", "test", "found", "origin", "normal", "offset", "above", "moved"] ["number", "k", "tool", "shift"] (defScope sShiftedTool) := ⟨rfl, rfl, rfl, by decide +kernel, rfl, by decide +kernel, by decide +kernel⟩
theorem scMirroredSide : FnScope ["origin", "side", "direction", "at", "normal", "offset", "above", "size", "twice", "turned", "moved", "a", "b"] ["origin", "side", "direction", "at"] (defScope sMirroredSide) := ⟨rfl, rfl, rfl, by decide +kernel, rfl, by decide +kernel, by decide +kernel⟩
theorem scMirroredTool : FnScope ["number", "k", "tool", "direction", "at", "op", "sides", "test", "side"] ["number", "k", "tool", "direction", "at"] (defScope sMirroredTool) := ⟨rfl, rfl, rfl, by decide +kernel, rfl, by decide +kernel, by decide +kernel⟩
theorem scLLawNumber : FnScope ["script", "k", "cell", "first", "second"] ["script", "k"] (defScope sLLawNumber) := ⟨rfl, rfl, rfl, by decide +kernel, rfl, by decide +kernel, by decide +kernel⟩
theorem scLLawFraction : FnScope ["number", "divisor", "a", "b", "k", "rest"] ["number", "divisor"] (defScope sLLawFraction) := ⟨rfl, rfl, rfl, by decide +kernel, rfl, by decide +kernel, by decide +kernel⟩
theorem scLLawSum : FnScope ["a", "b"] ["a", "b"] (defScope sLLawSum) := ⟨rfl, rfl, rfl, by decide +kernel, rfl, by decide +kernel, by decide +kernel⟩
theorem scLLawTimes : FnScope ["a", "b"] ["a", "b"] (defScope sLLawTimes) := ⟨rfl, rfl, rfl, by decide +kernel, rfl, by decide +kernel, by decide +kernel⟩
theorem scLLawDot : FnScope ["normal", "point", "total", "k"] ["normal", "point"] (defScope sLLawDot) := ⟨rfl, rfl, rfl, by decide +kernel, rfl, by decide +kernel, by decide +kernel⟩
theorem scLLawAt : FnScope ["found", "w"] ["found", "w"] (defScope sLLawAt) := ⟨rfl, rfl, rfl, by decide +kernel, rfl, by decide +kernel, by decide +kernel⟩
theorem scLLawSide : FnScope ["one", "point", "w", "away"] ["one", "point", "w"] (defScope sLLawSide) := ⟨rfl, rfl, rfl, by decide +kernel, rfl, by decide +kernel, by decide +kernel⟩
theorem scLLawTest : FnScope ["test", "told"] ["test", "told"] (defScope sLLawTest) := ⟨rfl, rfl, rfl, by decide +kernel, rfl, by decide +kernel, by decide +kernel⟩
theorem scLLawIn : FnScope ["tool", "point", "w", "told", "one"] ["tool", "point", "w"] (defScope sLLawIn) := ⟨rfl, rfl, rfl, by decide +kernel, rfl, by decide +kernel, by decide +kernel⟩
theorem scLLawShared : FnScope ["a", "b", "k", "rest"] ["a", "b"] (defScope sLLawShared) := ⟨rfl, rfl, rfl, by decide +kernel, rfl, by decide +kernel, by decide +kernel⟩
theorem scLLawCanonical : FnScope ["tool", "one", "normal", "first", "size", "part"] ["tool"] (defScope sLLawCanonical) := ⟨rfl, rfl, rfl, by decide +kernel, rfl, by decide +kernel, by decide +kernel⟩
theorem scLLawDirection : FnScope ["draw", "row"] ["draw"] (defScope sLLawDirection) := ⟨rfl, rfl, rfl, by decide +kernel, rfl, by decide +kernel, by decide +kernel⟩
theorem scLLawValue : FnScope ["draw"] ["draw"] (defScope sLLawValue) := ⟨rfl, rfl, rfl, by decide +kernel, rfl, by decide +kernel, by decide +kernel⟩
theorem scLLawMirrored : FnScope ["point", "direction", "at", "size", "away", "back", "k"] ["point", "direction", "at"] (defScope sLLawMirrored) := ⟨rfl, rfl, rfl, by decide +kernel, rfl, by decide +kernel, by decide +kernel⟩
theorem scLaw : FnScope ["script", "k", "draw", "direction", "offset", "tool", "shift", "many", "moved", "way", "at", "turned", "j", "part", "w", "point", "away", "steps", "other", "one", "m"] ["script"] (defScope sLaw) := ⟨rfl, rfl, rfl, by decide +kernel, rfl, by decide +kernel, by decide +kernel⟩
structure Txt (mg : Str → Option Value) : Prop where
  bool : mg "bool" = none
  int : mg "int" = none
  isinstance : mg "isinstance" = none
  len : mg "len" = none
  range : mg "range" = none
  str : mg "str" = none
  tuple : mg "tuple" = none
  zip : mg "zip" = none
  gcd : mg "gcd" = some (.builtin "math.gcd")
section
variable {K : PySem.W.Frag} {C D : Addr} {c : Value} {r : Bool}
theorem exm_two (b : PySem.W.subIn K (.ref D) (.type "BaseException") = some true) (i : PySem.W.isClsIn K D = true) (t : PySem.W.typeIn K (.ref D) = some (.type "type")) (s : PySem.W.subIn K c (.ref D) = some r) : PySem.W.exmOne K c (.ref D) = some r := by
  have e1 : (PySem.W.subIn K (.ref D) (.type "BaseException") == some true) = true := by rw [b]; rfl
  have i' : (PySem.W.clsIn K D).isSome = true := i
  have e2 : ((PySem.W.clsIn K D).isSome && PySem.W.typeIn K (.ref D) == some (.type "type")) = true := by rw [i', t]; rfl
  unfold PySem.W.exmOne PySem.W.kitCls
  rw [if_pos e1]
  show (if _ then _ else _) = _
  rw [if_pos e2]
  exact s
theorem kit_self : PySem.W.kitOne K (.ref C) (.ref C) = some true := by
  unfold PySem.W.kitOne
  exact if_pos (beq_iff_eq.mpr rfl)
theorem kit_not (s0 : PySem.W.subIn K (.ref C) (.ref C) = some true) (i : PySem.W.isClsIn K D = true) (t : PySem.W.typeIn K (.ref D) = some (.type "type")) (s : PySem.W.subIn K (.ref C) (.ref D) = some false) : PySem.W.kitOne K (.ref C) (.ref D) = some false := by
  have i' : (PySem.W.clsIn K D).isSome = true := i
  have e2 : ((PySem.W.clsIn K D).isSome && PySem.W.typeIn K (.ref D) == some (.type "type")) = true := by rw [i', t]; rfl
  unfold PySem.W.kitOne PySem.W.kitCls
  rw [if_neg (fun z => ?_)]
  · show (if _ then _ else _) = _
    rw [if_pos e2]
    exact s
  · have e := Value.ref.inj (beq_iff_eq.mp z)
    subst e
    rw [s0] at s
    cases s
theorem kit_kind {T : String} (h : PySem.W.kitMeta T = true) (s : PySem.W.subIn K (.ref C) (.type T) = some r) : PySem.W.kitOne K (.ref C) (.type T) = some r := by
  unfold PySem.W.kitOne PySem.W.kitCls
  rw [if_neg (fun z => by have e := beq_iff_eq.mp z; cases e)]
  show (if _ then _ else _) = _
  rw [if_pos h]
  exact s
end

structure Exns (K : PySem.W.Frag) (mg : Str → Option Value) (CPartError CNought : Addr) : Prop where
  gPartError : mg "PartError" = some (.ref CPartError)
  gNought : mg "Nought" = some (.ref CNought)
  xNought : PySem.W.excIn K CNought [.type "ValueError", .type "Exception", .type "BaseException", .type "object"] "ValueError.__new__" = true
  kNought : PySem.W.keepIn K (.ref CNought) = true
  bNought : PySem.W.subIn K (.ref CNought) (.type "BaseException") = some true
  tNought : PySem.W.typeIn K (.ref CNought) = some (.type "type")
  cb : PySem.W.subIn K (.ref CPartError) (.type "BaseException") = some true
  ci : PySem.W.isClsIn K CPartError = true
  ct : PySem.W.typeIn K (.ref CPartError) = some (.type "type")
  cs : PySem.W.subIn K (.ref CNought) (.ref CPartError) = some true
  ss : PySem.W.subIn K (.ref CNought) (.ref CNought) = some true
  i1 : PySem.W.findIn K (.ref CNought) "__getattribute__" = some (some (.builtin "BaseException.__getattribute__"))
  i2 : PySem.W.findIn K (.ref CNought) "__getattr__" = some none
  i3 : PySem.W.hasDictIn K CNought = true
  i4 : PySem.W.findIn K (.ref CNought) "__class__" = some (some (.builtin "object.__class__"))
  i5 : PySem.W.specialIn K (.builtin "object.__class__") "__get__" = some (some (.builtin "getset_descriptor.__get__"))
  i6 : PySem.W.takesIn K (.builtin "object.__class__") = some true
  i7 : PySem.W.mroIn K CNought (.type "object") = some true
theorem Exns.iNought {K : PySem.W.Frag} {mg : Str → Option Value} {CPartError CNought : Addr} (EX : Exns K mg CPartError CNought) : ExcC K CNought := ⟨EX.i1, EX.i2, EX.bNought, EX.i3, EX.i4, EX.i5, EX.i6, EX.i7⟩
theorem Exns.eNought {K : PySem.W.Frag} {mg : Str → Option Value} {CPartError CNought : Addr} (EX : Exns K mg CPartError CNought) : PySem.W.exmOne K (.ref CNought) (.ref CPartError) = some true := exm_two EX.cb EX.ci EX.ct EX.cs
theorem Exns.nNought {K : PySem.W.Frag} {mg : Str → Option Value} {CPartError CNought : Addr} (EX : Exns K mg CPartError CNought) : PySem.W.kitOne K (.ref CNought) (.ref CNought) = some true := kit_self
local macro_rules | `(tactic| walk_at "rd") => `(tactic| repeat (first | refine ⟨_, rfl, ?_⟩ | refine ⟨rfl, ?_⟩ | refine ⟨_, _, rfl, rfl, ?_⟩ | refine Or.inl ⟨_, rfl, ?_⟩ | refine ⟨(by show (0 : Int) < _; decide), ?_⟩ | refine ⟨⟨by decide, by decide⟩, ?_⟩ | refine ⟨Or.inr ⟨by decide, by decide⟩, ?_⟩ | refine ⟨Or.inl ⟨by decide, by decide⟩, ?_⟩ | refine ⟨⟨by decide, by decide, by decide⟩, ?_⟩))
abbrev zs (l : List Int) : List V := l.map V.int
theorem same_upd {H : Hp} {p : Addr} {o : HO} (h : H p = none) : Same H (upd H p o) := fun b x e => by
  rw [upd_ne (ne_of_none e h)]
  exact e
theorem same_tup {K : PySem.W.Frag} {H H' : Hp} {a : Addr} {xs : List V} (e : Same H H') (h : SqT K H a xs) : SqT K H' a xs := by
  rcases h with (h | ⟨o, h⟩) | h
  · exact .inl (.inl (e _ _ h))
  · exact .inl (.inr ⟨o, e _ _ h⟩)
  · exact .inr h
theorem zs_get {l : List Int} {i : Nat} {v : V} (h : (zs l)[i]? = some v) : ∃ z, v = .int z ∧ l[i]? = some z := by
  rw [show zs l = l.map V.int from rfl, List.getElem?_map] at h
  cases e : l[i]? with
  | none =>
    rw [e] at h
    cases h
  | some z =>
    rw [e] at h
    exact ⟨z, (Option.some.inj h).symm, rfl⟩
theorem zs_snoc {l : List Int} {i : Nat} {z : Int} (f : Int → Int) (h : l[i]? = some z) : zs ((l.map f).take i) ++ [V.int (f z)] = zs ((l.map f).take (i + 1)) := by
  show ((l.map f).take i).map V.int ++ [V.int (f z)] = ((l.map f).take (i + 1)).map V.int
  rw [List.take_add_one, List.getElem?_map, h, List.map_append]
  rfl
theorem zs_len {l : List Int} (n : Nat) (h : l.length ≤ 1000) : (zs (l.take n)).length < sizeLine := by
  show ((l.take n).map V.int).length < sizeLine
  rw [List.length_map, List.length_take]
  exact small1000 (by omega)
theorem ne_of_bang {n m : Int} (h : (!decide (V.int n = V.int m)) = true) : n ≠ m := fun e => by
  rw [e, decide_eq_true rfl] at h
  cases h
theorem eq_of_nobang {n m : Int} (h : ¬ (!decide (V.int n = V.int m)) = true) : n = m := by
  by_cases e : n = m
  · exact e
  · exact absurd (by rw [decide_eq_false (fun z => e (V.int.inj z))]; rfl) h
theorem eq_of_dec {n m : Int} (h : decide (V.int n = V.int m) = true) : n = m := V.int.inj (of_decide_eq_true h)
theorem ne_of_nodec {n m : Int} (h : ¬ decide (V.int n = V.int m) = true) : n ≠ m := fun e => h (decide_eq_true (by rw [e]))

/-! Euclid by turns. -/
/-- one turn of the walk (a, b) -> (b, a % b), of naturals -/
theorem gcd_turn (a b : Nat) : Nat.gcd b (a % b) = Nat.gcd a b := by
  rw [Nat.gcd_comm b, ← Nat.gcd_rec, Nat.gcd_comm]
theorem prod_turn {a b : Nat} (h : b ≤ a) (hb : 0 < b) : 2 * (b * (a % b)) ≤ a * b := by
  have h1 : a % b < b := Nat.mod_lt _ hb
  have h2 : a = b * (a / b) + a % b := (Nat.div_add_mod a b).symm
  have h3 : 1 ≤ a / b := (Nat.one_le_div_iff hb).mpr h
  have h4 : b * 1 ≤ b * (a / b) := Nat.mul_le_mul_left b h3
  have h5 : 2 * (a % b) ≤ a := by omega
  calc 2 * (b * (a % b)) = b * (2 * (a % b)) := by rw [Nat.mul_left_comm]
    _ ≤ b * a := Nat.mul_le_mul_left b h5
    _ = a * b := Nat.mul_comm _ _
/-- what holds behind i turns from (a0, b0) -/
structure Eu (a0 b0 i a b : Nat) : Prop where
  g : Nat.gcd a b = Nat.gcd a0 b0
  p : a * b * 2 ^ i ≤ 2 * (a0 * b0)
  o : i = 0 ∨ b ≤ a
  z : i = 0 → a = a0 ∧ b = b0
theorem Eu.start (a b : Nat) : Eu a b 0 a b := ⟨rfl, by rw [Nat.pow_zero]; omega, .inl rfl, fun _ => ⟨rfl, rfl⟩⟩
theorem Eu.turn {a0 b0 i a b : Nat} (e : Eu a0 b0 i a b) (hb : 0 < b) : Eu a0 b0 (i + 1) b (a % b) := by
  refine ⟨(gcd_turn a b).trans e.g, ?_, .inr (Nat.le_of_lt (Nat.mod_lt _ hb)), fun z => by omega⟩
  rcases e.o with hi | hle
  · obtain ⟨rfl, rfl⟩ := e.z hi
    subst hi
    have h1 : b * (a % b) ≤ b * a := Nat.mul_le_mul_left b (Nat.mod_le a b)
    have h2 : b * a = a * b := Nat.mul_comm _ _
    rw [Nat.zero_add, Nat.pow_one]
    omega
  · have h1 := prod_turn hle hb
    have h2 := e.p
    have h3 : b * (a % b) * 2 ^ (i + 1) = 2 * (b * (a % b)) * 2 ^ i := by
      rw [Nat.pow_succ]
      rw [Nat.mul_comm (2 ^ i) 2, ← Nat.mul_assoc, Nat.mul_comm (b * (a % b)) 2]
    rw [h3]
    exact Nat.le_trans (Nat.mul_le_mul_right _ h1) h2
/-- too many turns: nothing is left -/
theorem Eu.stop {a0 b0 i a b : Nat} (e : Eu a0 b0 i a b) (hi : i ≠ 0) (h : 2 * (a0 * b0) < 2 ^ i) : b = 0 := by
  rcases Nat.eq_zero_or_pos b with h0 | h0
  · exact h0
  · have hle : b ≤ a := by
      rcases e.o with h1 | h1
      · exact absurd h1 hi
      · exact h1
    have h1 : 1 ≤ a * b := Nat.mul_pos (by omega) h0
    have h2 : 1 * 2 ^ i ≤ a * b * 2 ^ i := Nat.mul_le_mul_right _ h1
    have h3 := e.p
    omega
theorem Eu.end {a0 b0 i a : Nat} (e : Eu a0 b0 i a 0) : a = Nat.gcd a0 b0 := by
  rw [← e.g, Nat.gcd_zero_right]
/-- the greatest divisor of a row, as it is reckoned from the left -/
def gl (l : List Int) : Nat := l.foldl (fun g v => Nat.gcd v.natAbs g) 0
theorem gl_snoc (l : List Int) (v : Int) : gl (l ++ [v]) = Nat.gcd v.natAbs (gl l) := by
  unfold gl
  rw [List.foldl_append]
  rfl
theorem gl_lt {l : List Int} {v : Int} (h : gl l < 2 ^ 100) (hv : v.natAbs < 2 ^ 100) : gl (l ++ [v]) < 2 ^ 100 := by
  rw [gl_snoc]
  rcases Nat.eq_zero_or_pos v.natAbs with e | e
  · rw [e, Nat.gcd_zero_left]
    exact h
  · exact Nat.lt_of_le_of_lt (Nat.le_of_dvd e (Nat.gcd_dvd_left _ _)) hv
theorem take_snoc {l : List Int} {i : Nat} {z : Int} (h : l[i]? = some z) : l.take (i + 1) = l.take i ++ [z] := by
  rw [List.take_add_one, h]
  rfl
theorem eu_far {a b n : Nat} (hn : 201 ≤ n) (ha : a < 2 ^ 100) (hb : b < 2 ^ 100) : 2 * (a * b) < 2 ^ n := by
  have h1 : a * b < 2 ^ 100 * 2 ^ 100 := Nat.mul_lt_mul'' ha hb
  rw [← Nat.pow_add] at h1
  have h2 : (2 : Nat) * 2 ^ (100 + 100) = 2 ^ 201 := by decide +kernel
  have h3 : (2 : Nat) ^ 201 ≤ 2 ^ n := Nat.pow_le_pow_right (by decide) hn
  omega
theorem fmod_nat (a b : Nat) : (a : Int).fmod (b : Int) = ((a % b : Nat) : Int) := by
  rw [Int.fmod_eq_emod_of_nonneg _ (Int.natCast_nonneg _)]
  exact (Int.natCast_emod a b).symm

/-- // by any divisor other than 0, below 2 ^ 9000 in size -/
def CDivX (_ j : Int) : Prop := j ≠ 0 ∧ j.natAbs.log2 < 9000
theorem op_fdivX {X : Cx} : OpR X (binaryOp .FloorDiv) (rI CDivX fun i j => .int (i.fdiv j)) :=
  opI fun _ _ _ _ _ _ _ hc q =>
    PyProof.Rows.floordiv_int hc.1 q (.inl (PyProof.noPylong_of_log2 hc.2))
theorem wide_divx {i j : Int} {b : Nat} (h : j ≠ 0) (hb : j.natAbs < 2 ^ b) (h0 : 0 < b) (h9 : b ≤ 9000) : CDivX i j :=
  ⟨h, Nat.lt_of_lt_of_le (PySem.Flt.log2_lt_of h0 hb) h9⟩
/-- n noughts -/
def nou (n : Nat) : Str := ⟨(List.replicate n (Str.ofString "0").cps).foldl (· ++ ·) #[]⟩
theorem nou_len {n : Nat} (h : n ≤ 100) : (nou n).length ≤ sizeLine := by
  have : ∀ n : _root_.Fin 101, (nou n.val).length ≤ 100 := by decide +kernel
  have h1 := this ⟨n, by omega⟩
  rw [PySem.sizeLine_eq]
  exact Nat.le_trans h1 (by decide)
theorem op_nou {X : Cx} : OpR X (binaryOp .Mult) (fun x y H Q => ∃ n : Nat, x = .str "0" ∧ y = .int (n : Int) ∧ 1 ≤ n ∧ n ≤ 100 ∧ Q (.str (nou n)) H) := by
  intro pins s σ H x y v u Q I rx ry h
  obtain ⟨n, rfl, rfl, h1, h2, q⟩ := h
  obtain ⟨t, rfl⟩ := rx
  obtain ⟨t', rfl⟩ := ry
  have e1 : ¬ ((n : Int) < 1) := by omega
  have el : (Str.ofString "0").length = 1 := by decide +kernel
  refine PySem.P.mul_str ?_ ?_ ?_ ?_
  · rw [decide_eq_false (by omega), decide_eq_false (by omega)]
    rfl
  · intro _ _
    rw [el]
    have : (2 ^ 63 - 1 : Int) / n ≥ 1 := by
      have : (1 : Int) * n ≤ 2 ^ 63 - 1 := by omega
      exact (Int.le_ediv_iff_mul_le (by omega)).mpr this
    omega
  · intro _ _
    rw [el]
    unfold PySem.Builtin.Str.tooLong
    rw [PySem.sizeLine_eq]
    exact decide_eq_false (by omega)
  · rw [if_neg e1]
    by_cases hn : n = 1
    · subst hn
      have e2 : nou 1 = Str.ofString "0" := by decide +kernel
      rw [e2] at q
      exact ⟨.str (Str.ofString "0"), H, I, ⟨t, rfl⟩, q⟩
    · have : ((n : Int) == 1 || (Str.ofString "0").length == 0) = false := by
        rw [el]
        simp
        omega
      rw [this, if_neg Bool.false_ne_true]
      exact ⟨nou_len h2, .str (nou n), H, I.tok _, ⟨_, rfl⟩, q⟩
theorem suite_of {X : Cx} {a C : Addr} {oe : Obj} {pn : List (Addr × Obj)} {cls : Value} {d : Option Addr} {sts : List Stmt} {ts : TS} (hz : Zc cls d oe)
    (h : Zc (.ref C) none oe → PSs (X.suite a ((a, oe) :: pn)) sts ts) : PSs (X.suite a ((a, oe) :: pn)) sts (fun D σ H => (cls = .ref C ∧ d = none) ∧ ts D σ H) :=
  ⟨fun pins s σ H D I hq => by
    obtain ⟨⟨rfl, rfl⟩, q⟩ := hq
    exact (h hz).run pins s σ H D I q⟩
theorem ten_text : ∀ n : Nat, 1 ≤ n → n ≤ 20 → PySem.intText? (Str.ofString "1" ++ nou n) = some ((10 : Int) ^ n) ∧ (Str.ofString "1" ++ nou n).length ≤ 640 ∧ (nou n).length ≤ 100 := by
  intro n h1 h2
  have : ∀ n : _root_.Fin 21, 1 ≤ n.val → PySem.intText? (Str.ofString "1" ++ nou n.val) = some ((10 : Int) ^ n.val) ∧ (Str.ofString "1" ++ nou n.val).length ≤ 640 ∧ (nou n.val).length ≤ 100 := by decide +kernel
  exact this ⟨n, by omega⟩ h1

/-- the divisor by which fraction divides both -/
def sg (n d : Int) : Int := if d < 0 then -((Nat.gcd n.natAbs d.natAbs : Nat) : Int) else ((Nat.gcd n.natAbs d.natAbs : Nat) : Int)
theorem sg_abs (n d : Int) : (sg n d).natAbs = Nat.gcd n.natAbs d.natAbs := by
  unfold sg
  split
  · rw [Int.natAbs_neg, Int.natAbs_natCast]
  · rw [Int.natAbs_natCast]
theorem sg_ne {n d : Int} (h : d ≠ 0) : sg n d ≠ 0 := by
  intro e
  have h1 := sg_abs n d
  rw [e] at h1
  have h2 : Nat.gcd n.natAbs d.natAbs = 0 := h1.symm
  have h3 := Nat.gcd_eq_zero_iff.mp h2
  omega
theorem sg_dn (n d : Int) : sg n d ∣ n := by
  have h : ((Nat.gcd n.natAbs d.natAbs : Nat) : Int) ∣ n := Int.dvd_natAbs.mp (Int.natCast_dvd_natCast.mpr (Nat.gcd_dvd_left _ _))
  unfold sg
  split
  · exact Int.neg_dvd.mpr h
  · exact h
theorem sg_dd (n d : Int) : sg n d ∣ d := by
  have h : ((Nat.gcd n.natAbs d.natAbs : Nat) : Int) ∣ d := Int.dvd_natAbs.mp (Int.natCast_dvd_natCast.mpr (Nat.gcd_dvd_right _ _))
  unfold sg
  split
  · exact Int.neg_dvd.mpr h
  · exact h
theorem fdiv_back {d v : Int} (h : d ∣ v) : v.fdiv d * d = v := Int.fdiv_mul_cancel h
theorem part_le {f d v : Int} (e : f * d = v) (hd : d ≠ 0) : f.natAbs ≤ v.natAbs := by
  rw [← e, Int.natAbs_mul]
  exact Nat.le_mul_of_pos_right _ (by omega)
/-- what fraction yields -/
structure Fr (n d p q : Int) : Prop where
  hp : p * sg n d = n
  hq : q * sg n d = d
  q0 : 0 < q
  one : Nat.gcd p.natAbs q.natAbs = 1
theorem fr_of {n d : Int} (h : d ≠ 0) : Fr n d (n.fdiv (sg n d)) (d.fdiv (sg n d)) := by
  have e1 := fdiv_back (sg_dn n d)
  have e2 := fdiv_back (sg_dd n d)
  have hs := sg_ne (n := n) h
  refine ⟨e1, e2, ?_, ?_⟩
  · rcases Int.lt_or_le 0 (d.fdiv (sg n d)) with h1 | h1
    · exact h1
    · exfalso
      have hg : 0 < Nat.gcd n.natAbs d.natAbs := Nat.gcd_pos_of_pos_right _ (by omega)
      rcases Int.lt_or_le d 0 with h2 | h2
      · have h3 : sg n d < 0 := by
          unfold sg
          rw [if_pos h2]
          omega
        have h4 := Int.mul_nonneg_of_nonpos_of_nonpos h1 (Int.le_of_lt h3)
        omega
      · have h3 : 0 < sg n d := by
          unfold sg
          rw [if_neg (by omega)]
          omega
        have h4 := Int.mul_nonpos_of_nonpos_of_nonneg h1 (Int.le_of_lt h3)
        omega
  · have e3 : Nat.gcd n.natAbs d.natAbs = Nat.gcd (n.fdiv (sg n d)).natAbs (d.fdiv (sg n d)).natAbs * (sg n d).natAbs := by
      rw [← Nat.gcd_mul_right, ← Int.natAbs_mul, ← Int.natAbs_mul, e1, e2]
    rw [sg_abs] at e3
    have hg : 0 < Nat.gcd n.natAbs d.natAbs := Nat.gcd_pos_of_pos_right _ (by omega)
    exact (Nat.eq_of_mul_eq_mul_right hg (by rw [Nat.one_mul]; exact e3)).symm
theorem Fr.cross {n d p q : Int} (f : Fr n d p q) : p * d = n * q := by
  have h1 := f.hp
  have h2 := f.hq
  calc p * d = p * (q * sg n d) := by rw [h2]
    _ = (p * sg n d) * q := by rw [Int.mul_comm q, Int.mul_assoc]
    _ = n * q := by rw [h1]
theorem sg_one (n : Int) : sg n 1 = 1 := by
  unfold sg
  rw [if_neg (by decide)]
  show ((Nat.gcd n.natAbs 1 : Nat) : Int) = 1
  rw [Nat.gcd_one_right]
  rfl
theorem rd_one (n : Int) : [n.fdiv (sg n 1), (1 : Int).fdiv (sg n 1)] = [n, 1] := by rw [sg_one, Int.fdiv_one, Int.fdiv_one]

/-- in lowest terms -/
def rd2 (n d : Int) : List Int := [n.fdiv (sg n d), d.fdiv (sg n d)]
theorem low_uniq {p q r s : Int} (h1 : Nat.gcd p.natAbs q.natAbs = 1) (h2 : Nat.gcd r.natAbs s.natAbs = 1) (hq : 0 < q) (hs : 0 < s) (h : p * s = r * q) : p = r ∧ q = s := by
  have hn : p.natAbs * s.natAbs = r.natAbs * q.natAbs := by
    rw [← Int.natAbs_mul, ← Int.natAbs_mul, h]
  have d1 : q.natAbs ∣ s.natAbs := by
    have h3 : q.natAbs ∣ p.natAbs * s.natAbs := ⟨r.natAbs, by rw [hn, Nat.mul_comm]⟩
    exact Nat.Coprime.dvd_of_dvd_mul_left (show Nat.Coprime q.natAbs p.natAbs from (Nat.gcd_comm _ _).trans h1) h3
  have d2 : s.natAbs ∣ q.natAbs := by
    have h3 : s.natAbs ∣ r.natAbs * q.natAbs := ⟨p.natAbs, by rw [← hn, Nat.mul_comm]⟩
    exact Nat.Coprime.dvd_of_dvd_mul_left (show Nat.Coprime s.natAbs r.natAbs from (Nat.gcd_comm _ _).trans h2) h3
  have e : q.natAbs = s.natAbs := Nat.dvd_antisymm d1 d2
  have e2 : q = s := by omega
  subst e2
  exact ⟨Int.eq_of_mul_eq_mul_right (by omega) h, rfl⟩
theorem rd2_eq {n d n' d' : Int} (hd : 0 < d) (hd' : 0 < d') (h : n * d' = n' * d) : rd2 n d = rd2 n' d' := by
  have f := fr_of (n := n) (show d ≠ 0 by omega)
  have f' := fr_of (n := n') (show d' ≠ 0 by omega)
  have c1 := f.cross
  have c2 := f'.cross
  unfold rd2
  generalize n.fdiv (sg n d) = p at f c1
  generalize d.fdiv (sg n d) = q at f c1
  generalize n'.fdiv (sg n' d') = r at f' c2
  generalize d'.fdiv (sg n' d') = s at f' c2
  have e : p * s = r * q := by
    have h1 : (p * s) * (d * d') = (r * q) * (d * d') := by
      calc (p * s) * (d * d') = (p * d) * (s * d') := by
              rw [Int.mul_assoc, Int.mul_assoc, Int.mul_left_comm s d d']
        _ = (n * q) * (s * d') := by rw [c1]
        _ = (n * d') * (q * s) := by
              rw [Int.mul_assoc, Int.mul_assoc, Int.mul_comm s d', Int.mul_left_comm q d' s]
        _ = (n' * d) * (q * s) := by rw [h]
        _ = (n' * s) * (d * q) := by
              rw [Int.mul_assoc, Int.mul_assoc, Int.mul_comm q s, Int.mul_left_comm d s q]
        _ = (r * d') * (d * q) := by rw [c2]
        _ = (r * q) * (d * d') := by
              rw [Int.mul_assoc, Int.mul_assoc, Int.mul_comm d q, Int.mul_left_comm d' q d, Int.mul_comm d' d]
    exact Int.eq_of_mul_eq_mul_right (Int.mul_ne_zero (by omega) (by omega)) h1
  have u := low_uniq f.one f'.one f.q0 f'.q0 e
  rw [u.1, u.2]
theorem sg_zero_one : sg 0 1 = 1 := sg_one 0
theorem rd2_zero : rd2 0 1 = [0, 1] := by
  unfold rd2
  rw [sg_zero_one, Int.fdiv_one, Int.fdiv_one]
/-- the digits of a number are not too few -/
theorem lt_digits (n : Nat) : n < 2 ^ (4 * (toString (n : Int)).length + 4) := by
  have e : toString (n : Int) = Nat.repr n := rfl
  rw [e]
  have h : n < 10 ^ ((Nat.repr n).length + 1) := (Nat.length_repr_le_iff (Nat.succ_pos _)).mp (Nat.le_succ _)
  refine Nat.lt_of_lt_of_le h ?_
  have h2 : (10 : Nat) ^ ((Nat.repr n).length + 1) ≤ 16 ^ ((Nat.repr n).length + 1) := Nat.pow_le_pow_left (by decide) _
  have h3 : (16 : Nat) ^ ((Nat.repr n).length + 1) = 2 ^ (4 * (Nat.repr n).length + 4) := by
    rw [show (16 : Nat) = 2 ^ 4 from rfl, ← Nat.pow_mul]
    rfl
  omega
theorem eu_digits {a b t : Nat} (h : t = 4 * (toString (a : Int)).length + 4 * (toString (b : Int)).length + 60) : 2 * (a * b) < 2 ^ t := by
  subst h
  have h1 := lt_digits a
  have h2 := lt_digits b
  have h3 : a * b < 2 ^ (4 * (toString (a : Int)).length + 4) * 2 ^ (4 * (toString (b : Int)).length + 4) := Nat.mul_lt_mul'' h1 h2
  rw [← Nat.pow_add] at h3
  have h4 : 2 * (a * b) < 2 * 2 ^ (4 * (toString (a : Int)).length + 4 + (4 * (toString (b : Int)).length + 4)) := by omega
  rw [← Nat.pow_succ'] at h4
  exact Nat.lt_of_lt_of_le h4 (Nat.pow_le_pow_right (by decide) (by omega))
theorem args2 {x y : Int} (hx : 0 ≤ x) (hy : 0 ≤ y) : [V.int x, V.int y] ++ [] = [V.int ((x.natAbs : Nat) : Int), V.int ((y.natAbs : Nat) : Int)] := by
  have e1 : ((x.natAbs : Nat) : Int) = x := by omega
  have e2 : ((y.natAbs : Nat) : Int) = y := by omega
  rw [e1, e2]
  rfl
theorem mod_abs (x : Int) {b : Int} (h : 0 < b) : (x % b).natAbs ≤ b.natAbs := by
  have h1 := Int.emod_nonneg x (show b ≠ 0 by omega)
  have h2 := Int.emod_lt_of_pos x h
  omega
theorem mul_lt_abs {a b : Int} {A B : Nat} (ha : a.natAbs ≤ A) (hb : b.natAbs ≤ B) : (a * b).natAbs ≤ A * B := by
  rw [Int.natAbs_mul]
  exact Nat.mul_le_mul ha hb
def pd2 (x y : Int) : PyData := .tuple [.int x, .int y]
theorem dp2 {K : PySem.W.Frag} {H : Hp} {u : Addr} {x y : Int} (h : SqT K H u (zs [x, y])) : Dp K H (.ref u) (pd2 x y) :=
  .tup h (.cons (.int x) (.cons (.int y) .nil))
theorem eqv2 (x y : Int) : PyData.eqv (pd2 x y) (pd2 x y) = true := by
  unfold pd2
  simp [PyData.eqv, PyData.eqvAll]

def dv (x y z : Int) : Int := let g : Int := (Nat.gcd (Nat.gcd x.natAbs y.natAbs) z.natAbs : Nat)
  if HT.lexLt [x, y, z] [0, 0, 0] = true then -g else g
def g3 (x y z : Int) : Nat := Nat.gcd (Nat.gcd x.natAbs y.natAbs) z.natAbs
/-- the first one that is not 0 is below 0 -/
def dn (x y z : Int) : Bool := decide (x < 0) || (decide (x = 0) && (decide (y < 0) || (decide (y = 0) && decide (z < 0))))
theorem lex_dn (x y z : Int) : HT.lexLt [x, y, z] [0, 0, 0] = dn x y z := by
  rw [HT.lexLt_cons, HT.lexLt_cons, HT.lexLt_cons, HT.lexLt_nil_nil]
  unfold dn
  by_cases hx : x = 0
  · subst hx
    by_cases hy : y = 0
    · subst hy
      by_cases hz : z = 0
      · subst hz; decide
      · simp [hz]
    · simp [hy]
  · simp [hx]
theorem dv_eq (x y z : Int) : dv x y z = if dn x y z = true then -(g3 x y z : Int) else (g3 x y z : Int) := by
  unfold dv g3
  rw [lex_dn]
theorem dv_abs (x y z : Int) : (dv x y z).natAbs = g3 x y z := by
  rw [dv_eq]
  split
  · rw [Int.natAbs_neg, Int.natAbs_natCast]
  · rw [Int.natAbs_natCast]
theorem g3_pos {x y z : Int} (h : ¬ (x = 0 ∧ y = 0 ∧ z = 0)) : 0 < g3 x y z := by
  rcases Nat.eq_zero_or_pos (g3 x y z) with e | e
  · exfalso
    have h1 := Nat.gcd_eq_zero_iff.mp e
    have h2 := Nat.gcd_eq_zero_iff.mp h1.1
    omega
  · exact e
theorem dv_ne {x y z : Int} (h : ¬ (x = 0 ∧ y = 0 ∧ z = 0)) : dv x y z ≠ 0 := by
  intro e
  have h1 := dv_abs x y z
  have h2 := g3_pos h
  rw [e] at h1
  have : (0 : Int).natAbs = 0 := rfl
  omega
theorem g3_dx (x y z : Int) : (g3 x y z : Int) ∣ x := by
  refine Int.dvd_natAbs.mp (Int.natCast_dvd_natCast.mpr ?_)
  exact Nat.dvd_trans (Nat.gcd_dvd_left _ _) (Nat.gcd_dvd_left _ _)
theorem g3_dy (x y z : Int) : (g3 x y z : Int) ∣ y := by
  refine Int.dvd_natAbs.mp (Int.natCast_dvd_natCast.mpr ?_)
  exact Nat.dvd_trans (Nat.gcd_dvd_left _ _) (Nat.gcd_dvd_right _ _)
theorem g3_dz (x y z : Int) : (g3 x y z : Int) ∣ z := by
  refine Int.dvd_natAbs.mp (Int.natCast_dvd_natCast.mpr ?_)
  exact Nat.gcd_dvd_right _ _
theorem dv_dvd {x y z v : Int} (h : (g3 x y z : Int) ∣ v) : dv x y z ∣ v := by
  rw [dv_eq]
  split
  · exact Int.neg_dvd.mpr h
  · exact h
theorem dv_dx (x y z : Int) : dv x y z ∣ x := dv_dvd (g3_dx x y z)
theorem dv_dy (x y z : Int) : dv x y z ∣ y := dv_dvd (g3_dy x y z)
theorem dv_dz (x y z : Int) : dv x y z ∣ z := dv_dvd (g3_dz x y z)
theorem g3_le {x y z : Int} {n : Nat} (h : ¬ (x = 0 ∧ y = 0 ∧ z = 0)) (hx : x.natAbs ≤ n) (hy : y.natAbs ≤ n) (hz : z.natAbs ≤ n) : g3 x y z ≤ n := by
  by_cases h1 : x = 0
  · by_cases h2 : y = 0
    · have h3 : z ≠ 0 := fun e => h ⟨h1, h2, e⟩
      exact Nat.le_trans (Nat.le_of_dvd (by omega) (Nat.gcd_dvd_right _ _)) hz
    · exact Nat.le_trans (Nat.le_of_dvd (by omega) (Nat.dvd_trans (Nat.gcd_dvd_left _ _) (Nat.gcd_dvd_right _ _))) hy
  · exact Nat.le_trans (Nat.le_of_dvd (by omega) (Nat.dvd_trans (Nat.gcd_dvd_left _ _) (Nat.gcd_dvd_left _ _))) hx
theorem g3_mul (x y z t : Int) : g3 (x * t) (y * t) (z * t) = g3 x y z * t.natAbs := by
  unfold g3
  rw [Int.natAbs_mul, Int.natAbs_mul, Int.natAbs_mul, Nat.gcd_mul_right, Nat.gcd_mul_right]
/-- the parts have no divisor left -/
theorem g3_one {x y z a b c : Int} (h : ¬ (x = 0 ∧ y = 0 ∧ z = 0)) (ha : a * dv x y z = x) (hb : b * dv x y z = y) (hc : c * dv x y z = z) : g3 a b c = 1 := by
  have h1 : g3 x y z = g3 a b c * (dv x y z).natAbs := by
    have := g3_mul a b c (dv x y z)
    rw [ha, hb, hc] at this
    exact this
  rw [dv_abs] at h1
  have h2 := g3_pos h
  exact (Nat.eq_of_mul_eq_mul_right h2 (by rw [Nat.one_mul]; exact h1)).symm
theorem neg_mul_iff {v t : Int} (ht : 0 < t) : (v * t < 0 ↔ v < 0) ∧ (v * t = 0 ↔ v = 0) := by
  constructor
  · constructor
    · intro h
      rcases Int.lt_or_le v 0 with h1 | h1
      · exact h1
      · have := Int.mul_nonneg h1 (Int.le_of_lt ht)
        omega
    · exact fun h => Int.mul_neg_of_neg_of_pos h ht
  · constructor
    · intro h
      rcases Int.mul_eq_zero.mp h with h1 | h1
      · exact h1
      · omega
    · intro h
      rw [h, Int.zero_mul]
theorem dn_mul {x y z t : Int} (ht : 0 < t) : dn (x * t) (y * t) (z * t) = dn x y z := by
  unfold dn
  have hx := neg_mul_iff (v := x) ht
  have hy := neg_mul_iff (v := y) ht
  have hz := neg_mul_iff (v := z) ht
  simp only [hx, hy, hz]
theorem dn_neg {x y z : Int} (h : ¬ (x = 0 ∧ y = 0 ∧ z = 0)) : dn (-x) (-y) (-z) = !dn x y z := by
  unfold dn
  rcases Int.lt_trichotomy x 0 with hx | hx | hx
  · have h1 : ¬ (-x < 0) := by omega
    have h2 : ¬ (-x = 0) := by omega
    simp [hx, h1, h2]
    omega
  · subst hx
    rcases Int.lt_trichotomy y 0 with hy | hy | hy
    · have h1 : ¬ (-y < 0) := by omega
      have h2 : ¬ (-y = 0) := by omega
      simp [hy, h1, h2]
      omega
    · subst hy
      have hz : z ≠ 0 := fun e => h ⟨rfl, rfl, e⟩
      by_cases h1 : z < 0
      · have h2 : ¬ (-z < 0) := by omega
        simp [h1, h2]
        omega
      · have h2 : -z < 0 := by omega
        simp [h1, h2]
        omega
    · have h1 : -y < 0 := by omega
      have h2 : ¬ y < 0 := by omega
      have h3 : ¬ y = 0 := by omega
      simp [h1, h2, h3]
      omega
  · have h1 : -x < 0 := by omega
    have h2 : ¬ x < 0 := by omega
    have h3 : ¬ x = 0 := by omega
    simp [h1, h2, h3]
    omega
theorem dv_mul {x y z t : Int} (h : ¬ (x = 0 ∧ y = 0 ∧ z = 0)) (ht : t ≠ 0) : dv (x * t) (y * t) (z * t) = dv x y z * t := by
  rw [dv_eq, dv_eq, g3_mul]
  rcases Int.lt_or_gt_of_ne ht with h1 | h1
  · have e1 : ∀ v : Int, v * t = -v * -t := fun v => (Int.neg_mul_neg v t).symm
    have e2 : (t.natAbs : Int) = -t := by omega
    have h2 : ¬ (-x = 0 ∧ -y = 0 ∧ -z = 0) := by omega
    rw [e1 x, e1 y, e1 z, dn_mul (by omega), dn_neg h]
    cases dn x y z with
    | true => simp [e2, Int.neg_mul, Int.mul_neg]
    | false => simp [e2, Int.neg_mul, Int.mul_neg]
  · have e2 : (t.natAbs : Int) = t := by omega
    rw [dn_mul h1]
    cases dn x y z with
    | true => simp [e2, Int.neg_mul, Int.mul_neg]
    | false => simp [e2, Int.neg_mul, Int.mul_neg]
theorem fdiv_same {d v t : Int} (hd : d ≠ 0) (ht : t ≠ 0) (h : d ∣ v) : (v * t).fdiv (d * t) = v.fdiv d := by
  obtain ⟨k, rfl⟩ := h
  rw [Int.mul_assoc, Int.mul_comm k t, ← Int.mul_assoc, Int.mul_fdiv_cancel_left _ hd, Int.mul_fdiv_cancel_left]
  exact Int.mul_ne_zero hd ht

theorem zs_push {l : List Int} {n : Int} : zs l ++ [V.int n] = zs (l ++ [n]) := by
  show l.map V.int ++ [V.int n] = (l ++ [n]).map V.int
  rw [List.map_append]
  rfl
theorem zs_lt {l : List Int} (h : l.length ≤ 1000) : (zs l).length < sizeLine := by
  show (l.map V.int).length < sizeLine
  rw [List.length_map]
  exact small1000 h
theorem row_all {rs : List Int} {b : Int} (h : ∀ r ∈ rs, 0 ≤ r ∧ r < b) (x : Int) (hb : 0 < b) : ∀ r ∈ rs ++ [x % b], 0 ≤ r ∧ r < b := by
  intro r hr
  rcases List.mem_append.mp hr with h1 | h1
  · exact h r h1
  · rw [List.mem_singleton.mp h1]
    exact ⟨Int.emod_nonneg _ (by omega), Int.emod_lt_of_pos _ hb⟩
theorem ixN_in {n : Nat} {i : Int} (h0 : 0 ≤ i) (h : i < (n : Int)) : ixN n i = some i.toNat := by
  unfold ixN
  rw [if_pos h0, if_pos h]
theorem len3 {rs : List Int} (h : rs.length = 3) : ∃ a b c, rs = [a, b, c] := by
  match rs, h with
  | [a, b, c], _ => exact ⟨a, b, c, rfl⟩
theorem gl_three (x y z : Int) : gl [x, y, z] = g3 x y z := by
  show Nat.gcd z.natAbs (Nat.gcd y.natAbs (Nat.gcd x.natAbs 0)) = Nat.gcd (Nat.gcd x.natAbs y.natAbs) z.natAbs
  rw [Nat.gcd_zero_right, Nat.gcd_comm z.natAbs, Nat.gcd_comm y.natAbs]
def fs3 (x y z : Int) : Int := if x ≠ 0 then x else if y ≠ 0 then y else z
theorem fs3_get {x y z : Int} (h : ¬ (x = 0 ∧ y = 0 ∧ z = 0)) : (zs ([x, y, z].filter fun v => decide (v ≠ 0)))[0]? = some (.int (fs3 x y z)) := by
  unfold fs3
  by_cases hx : x = 0
  · by_cases hy : y = 0
    · have hz : z ≠ 0 := fun e => h ⟨hx, hy, e⟩
      simp [hx, hy, hz]
    · simp [hx, hy]
  · simp [hx]
theorem fs3_dn {x y z : Int} (h : ¬ (x = 0 ∧ y = 0 ∧ z = 0)) : decide (fs3 x y z < 0) = dn x y z := by
  unfold fs3 dn
  by_cases hx : x = 0
  · by_cases hy : y = 0
    · simp [hx, hy]
    · simp [hx, hy]
  · simp [hx]
theorem fil_snoc {l : List Int} {i : Nat} {z : Int} (h : l[i]? = some z) (hz : z ≠ 0) : zs ((l.take i).filter fun v => decide (v ≠ 0)) ++ [V.int z] = zs ((l.take (i + 1)).filter fun v => decide (v ≠ 0)) := by
  rw [take_snoc h, List.filter_append, zs_push]
  simp [hz]
theorem fil_same {l : List Int} {i : Nat} {z : Int} (h : l[i]? = some z) (hz : z = 0) : (l.take (i + 1)).filter (fun v => decide (v ≠ 0)) = (l.take i).filter fun v => decide (v ≠ 0) := by
  rw [take_snoc h, List.filter_append]
  simp [hz]
theorem fil_lt {l : List Int} (n : Nat) (h : l.length ≤ 1000) : (zs ((l.take n).filter fun v => decide (v ≠ 0))).length < sizeLine := by
  refine zs_lt ?_
  have h1 := List.length_filter_le (fun v : Int => decide (v ≠ 0)) (l.take n)
  rw [List.length_take] at h1
  omega
theorem zs_at {l : List Int} {i : Nat} {z : Int} (h : l[i]? = some z) : atI (zs l) (i : Int) = some (V.int z) := atI_nat (by
  rw [show zs l = l.map V.int from rfl, List.getElem?_map, h]
  rfl)
theorem parts_at {x y z d : Int} (hx : d ∣ x) (hy : d ∣ y) (hz : d ∣ z) {i : Nat} (hi : i < 3) : ∃ f v : Int, [x.fdiv d, y.fdiv d, z.fdiv d][i]? = some f ∧ [x, y, z][i]? = some v ∧ f * d = v := by
  obtain rfl | rfl | rfl : i = 0 ∨ i = 1 ∨ i = 2 := by omega
  · exact ⟨_, _, rfl, rfl, fdiv_back hx⟩
  · exact ⟨_, _, rfl, rfl, fdiv_back hy⟩
  · exact ⟨_, _, rfl, rfl, fdiv_back hz⟩
def pd3 (x y z : Int) : PyData := .tuple [.int x, .int y, .int z]
theorem dp3 {K : PySem.W.Frag} {H : Hp} {u : Addr} {x y z : Int} (h : SqT K H u (zs [x, y, z])) : Dp K H (.ref u) (pd3 x y z) :=
  .tup h (.cons (.int x) (.cons (.int y) (.cons (.int z) .nil)))
theorem eqv3 (x y z : Int) : PyData.eqv (pd3 x y z) (pd3 x y z) = true := by
  unfold pd3
  simp [PyData.eqv, PyData.eqvAll]

def sgn (i : Int) : Int := if i < 0 then -1 else if 0 < i then 1 else 0
theorem sgn_mul {a b : Int} (hb : 0 < b) : sgn (a * b) = sgn a := by
  have h := neg_mul_iff (v := a) hb
  have h2 : 0 < a * b ↔ 0 < a := by
    constructor
    · intro z
      have h3 : ¬ a < 0 := fun y => by
        have := h.1.mpr y
        omega
      have h4 : ¬ a = 0 := fun y => by
        have := h.2.mpr y
        omega
      omega
    · exact fun z => Int.mul_pos z hb
  unfold sgn
  by_cases h3 : a < 0
  · rw [if_pos h3, if_pos (h.1.mpr h3)]
  · rw [if_neg h3, if_neg (fun z => h3 (h.1.mp z))]
    by_cases h4 : 0 < a
    · rw [if_pos h4, if_pos (h2.mpr h4)]
    · rw [if_neg h4, if_neg (fun z => h4 (h2.mp z))]
theorem sg_pos {n d : Int} (h : 0 < d) : 0 < sg n d := by
  have hg : 0 < Nat.gcd n.natAbs d.natAbs := Nat.gcd_pos_of_pos_right _ (by omega)
  unfold sg
  rw [if_neg (by omega)]
  omega
/-- the sign of a fraction is that of its numerator, before and behind -/
theorem sgn_low {n d : Int} (h : 0 < d) : sgn (n.fdiv (sg n d)) = sgn n := by
  have h1 := fdiv_back (sg_dn n d)
  have h2 := sgn_mul (a := n.fdiv (sg n d)) (sg_pos (n := n) h)
  rw [h1] at h2
  exact h2.symm
theorem rd2_le {n d : Int} (hd : d ≠ 0) : ∃ p q, rd2 n d = [p, q] ∧ p.natAbs ≤ n.natAbs ∧ q.natAbs ≤ d.natAbs ∧ Fr n d p q :=
  have f := fr_of (n := n) hd
  ⟨_, _, rfl, part_le f.hp (sg_ne hd), part_le f.hq (sg_ne hd), f⟩
/-- a sum of two, each brought to lowest terms -/
theorem rd2_plus {a b c d p q r s : Int} (f : Fr a b p q) (g : Fr c d r s) (hb : 0 < b) (hd : 0 < d) : rd2 (p * s + r * q) (q * s) = rd2 (a * d + c * b) (b * d) := by
  have q0 := f.q0
  have s0 := g.q0
  have c1 := f.cross
  have c2 := g.cross
  exact rd2_eq (Int.mul_pos q0 s0) (Int.mul_pos hb hd) (by grind)
/-- what is in lowest terms stays -/
theorem low_of {p q : Int} (h : Nat.gcd p.natAbs q.natAbs = 1) (hq : 0 < q) : rd2 p q = [p, q] := by
  have f := fr_of (n := p) (show q ≠ 0 by omega)
  have c := f.cross
  have u := low_uniq f.one h f.q0 hq (by rw [f.cross])
  unfold rd2
  rw [u.1, u.2]
theorem fr_low {n d p q : Int} (f : Fr n d p q) : rd2 p q = [p, q] := low_of f.one f.q0
theorem eu_far2 {a b n : Nat} (hn : 3601 ≤ n) (ha : a < 2 ^ 1800) (hb : b < 2 ^ 1800) : 2 * (a * b) < 2 ^ n := by
  have h1 : a * b < 2 ^ 1800 * 2 ^ 1800 := Nat.mul_lt_mul'' ha hb
  rw [← Nat.pow_add] at h1
  have h2 : (2 : Nat) ^ 3601 ≤ 2 ^ n := Nat.pow_le_pow_right (by decide) hn
  rw [show (3601 : Nat) = 1 + (1800 + 1800) from rfl, Nat.pow_add] at h2
  generalize (2 : Nat) ^ (1800 + 1800) = B at *
  generalize (2 : Nat) ^ n = C at *
  omega
theorem rd2_eq0 {n d n' d' : Int} (hd : d ≠ 0) (hd' : d' ≠ 0) (h : n * d' = n' * d) : rd2 n d = rd2 n' d' := by
  have f := fr_of (n := n) hd
  have f' := fr_of (n := n') hd'
  have c1 := f.cross
  have c2 := f'.cross
  unfold rd2
  generalize n.fdiv (sg n d) = p at f c1
  generalize d.fdiv (sg n d) = q at f c1
  generalize n'.fdiv (sg n' d') = r at f' c2
  generalize d'.fdiv (sg n' d') = s at f' c2
  have e : p * s = r * q := by
    have h1 : (p * s) * (d * d') = (r * q) * (d * d') := by grind
    exact Int.eq_of_mul_eq_mul_right (Int.mul_ne_zero hd hd') h1
  have u := low_uniq f.one f'.one f.q0 f'.q0 e
  rw [u.1, u.2]

/-- a row of fractions: where each stands, its two numbers -/
structure Rows (K : PySem.W.Frag) (H : Hp) (ws : List (Addr × Int × Int)) : Prop where
  at_ : ∀ w ∈ ws, SqT K H w.1 (zs [w.2.1, w.2.2])
  b1 : ∀ w ∈ ws, w.2.1.natAbs < 2 ^ 40
  b2 : ∀ w ∈ ws, w.2.2.natAbs < 2 ^ 40
  b3 : ∀ w ∈ ws, 0 < w.2.2
  few : ws.length ≤ 9
theorem Rows.nil {K : PySem.W.Frag} {H : Hp} : Rows K H [] :=
  ⟨(fun _ h => nomatch h), (fun _ h => nomatch h), (fun _ h => nomatch h), (fun _ h => nomatch h), by decide⟩
def rf (ws : List (Addr × Int × Int)) : List V := ws.map fun w => V.ref w.1
theorem Rows.same {K : PySem.W.Frag} {H H' : Hp} {ws : List (Addr × Int × Int)} (r : Rows K H ws) (s : Same H H') : Rows K H' ws :=
  ⟨fun w hw => same_tup s (r.at_ w hw), r.b1, r.b2, r.b3, r.few⟩
theorem Rows.take {K : PySem.W.Frag} {H : Hp} {ws : List (Addr × Int × Int)} (r : Rows K H ws) (i : Nat) : Rows K H (ws.take i) :=
  ⟨fun w hw => r.at_ w (List.mem_of_mem_take hw), fun w hw => r.b1 w (List.mem_of_mem_take hw), fun w hw => r.b2 w (List.mem_of_mem_take hw), fun w hw => r.b3 w (List.mem_of_mem_take hw), by
    rw [List.length_take]
    have := r.few
    omega⟩
theorem rf_get {ws : List (Addr × Int × Int)} {i : Nat} {v : V} (h : (rf ws)[i]? = some v) : ∃ w, v = .ref w.1 ∧ ws[i]? = some w := by
  rw [show rf ws = ws.map fun w => V.ref w.1 from rfl, List.getElem?_map] at h
  cases e : ws[i]? with
  | none =>
    rw [e] at h
    cases h
  | some w =>
    rw [e] at h
    exact ⟨w, (Option.some.inj h).symm, rfl⟩
theorem rf_len (ws : List (Addr × Int × Int)) : (rf ws).length = ws.length := List.length_map _
theorem take_sn {α : Type} {l : List α} {i : Nat} {z : α} (h : l[i]? = some z) : l.take (i + 1) = l.take i ++ [z] := by
  rw [List.take_add_one, h]
  rfl
theorem tup_upd {K : PySem.W.Frag} {H : Hp} {a l : Addr} {xs ys : List V} {o : HO} (h : SqT K H a xs) (hl : H l = some (.lst ys)) : SqT K (upd H l o) a xs := by
  rcases h with (h | ⟨ob, h⟩) | h
  · refine .inl (.inl ?_)
    rw [upd_ne (ne_of h hl (by intro z; cases z))]
    exact h
  · refine .inl (.inr ⟨ob, ?_⟩)
    rw [upd_ne (ne_of h hl (by intro z; cases z))]
    exact h
  · exact .inr h
theorem tyx_tup {K : PySem.W.Frag} {H : Hp} {a : Addr} {xs : List V} (h : SqT K H a xs) : TyX K H (.ref a) (.type "tuple") := by
  rcases h with (h | ⟨ob, h⟩) | ⟨o, its, n, h, hc, _⟩
  · exact .base (.tup h)
  · exact .fTuple h
  · exact .kTuple h hc
theorem no_self {x : V} (h : (!decide (x = x)) = true) : False := by
  rw [decide_eq_true rfl] at h
  cases h

section ZipMixed
open PySem PySem.Spec PyProof.Rows
/-- a list or a tuple that stands still -/
def SqB (f : Bool) (K : PySem.W.Frag) (H : Hp) (q : Addr) (vs : List V) : Prop := bif f then SqT K H q vs else SqL K H q vs
def ItB (f : Bool) (h : Heap) (it q : Addr) (i : Nat) : Prop := bif f then h.IsTupleIter it q i else h.IsListIter it q i
def AtB (f : Bool) (h : Heap) (q : Addr) (us : Array Value) : Prop := bif f then h.IsTuple q us else h.IsList q us
def oB (f : Bool) (q : Addr) : Obj := bif f then { cls := .type "tuple_iterator", data := .fields #[.ref q, .int 0 0] } else { cls := .type "list_iterator", data := .fields #[.ref q, .int 0 0] }
theorem ItB.live {f : Bool} {h : Heap} {it q : Addr} {i : Nat} (s : ItB f h it q i) : ∃ o, h.get? it = some o ∧ ∀ v, o.data ≠ .cell v := by
  cases f
  · obtain ⟨o, e, _, d⟩ := s
    exact ⟨o, e, fun v z => by rw [d] at z; cases z⟩
  · obtain ⟨o, e, _, d⟩ := s
    exact ⟨o, e, fun v z => by rw [d] at z; cases z⟩
theorem ItB.keep {f : Bool} {h h' : Heap} {it q : Addr} {i : Nat} (s : ItB f h it q i) (k : ∀ o, h.get? it = some o → h'.get? it = some o) : ItB f h' it q i := by
  cases f
  · exact Heap.IsListIter.at s k
  · exact Heap.IsTupleIter.at s k
theorem SqB.at_ {X : Cx} {pins : List (Addr × Obj)} {σ : L2.St} {H : Hp} {s : Shared} {f : Bool} {q : Addr} {vs : List V} (I : Inv X pins σ H s) (h : SqB f X.K H q vs) :
    ∃ us : List Value, Vals vs us ∧ AtB f s.heap q us.toArray := by
  cases f
  · obtain ⟨us, rv, p, _⟩ := I.list h
    exact ⟨us, rv, p.isList⟩
  · obtain ⟨us, rv, p, _⟩ := I.tuple h
    exact ⟨us, rv, p⟩
theorem SqB.inj {X : Cx} {pins : List (Addr × Obj)} {σ : L2.St} {H : Hp} {s : Shared} {f : Bool} {q : Addr} {vs ws : List V} (I : Inv X pins σ H s) (h : SqB f X.K H q vs) (h2 : SqB f X.K H q ws) : vs = ws := by
  cases f
  · exact I.list_inj h h2
  · exact I.tuple_inj h h2
theorem drawsB {P : Program} {w : World} {A : Around} (hh : A.handled = none) (f : Bool) (it q : Addr) (hne : q ≠ it) (us : Array Value) :
    Draws P w A it [it, q] us.size (fun i v => us[i]? = some v) (fun i h => ItB f h it q i ∧ AtB f h q us) := by
  cases f
  · exact Draws.list hh it q hne us
  · exact Draws.tuple hh it q hne us
theorem beginsB (f : Bool) (q : Addr) (us : Array Value) : Begins (.ref q) (oB f q) fun h => AtB f h q us := by
  cases f
  · exact begins_list q us
  · exact begins_tuple q us
theorem AtB.lt {f : Bool} {h : Heap} {q : Addr} {us : Array Value} (p : AtB f h q us) : q < h.objs.size := by
  cases f
  · obtain ⟨o, e, _⟩ := p
    exact Heap.lt_size e
  · obtain ⟨o, e, _⟩ := p
    exact Heap.lt_size e
theorem oB_it {f : Bool} {h : Heap} {it q : Addr} (e : h.get? it = some (oB f q)) : ItB f h it q 0 := by
  cases f
  · exact ⟨_, e, rfl, rfl⟩
  · exact ⟨_, e, rfl, rfl⟩
theorem sep_of {z TI TO i1 i2 a b : Addr} (D : ZipApart z TI TO i1 i2 a b) : ZipSep2 z TI TO i1 i2 [i1, a] [i2, b] where
  TIz := D.TIz
  TOz := D.TOz
  TITO := D.TITO
  TIi1 := D.TIi1
  mem1 := by simp
  zf1 := by simp [D.i1z.symm, D.l1z.symm]
  Tf1 := by simp [D.TOi1, D.l1TO.symm]
  TIi2 := D.TIi2
  mem2 := by simp
  zf2 := by simp [D.i2z.symm, D.l2z.symm]
  Tf2 := by simp [D.TOi2, D.l2TO.symm]
  sep1_2 := by simp [D.i12, D.l2i1.symm]
  sep2_1 := by simp [D.i12.symm, D.l1i2.symm]
/-- the two as they stand at each turn, what they hold in new pairs -/
def ItzB (f g : Bool) (K : PySem.W.Frag) (a b : Addr) : It :=
  ⟨fun i H => ∃ (xs ys : List V) (x y : V), SqB f K H a xs ∧ SqB g K H b ys ∧ xs[i]? = some x ∧ ys[i]? = some y,
    fun i H v H' => ∃ T x y, v = .ref T ∧ H T = none ∧ H' = upd H T (.tup [x, y]) ∧ (∀ xs, SqB f K H a xs → xs[i]? = some x) ∧ ∀ ys, SqB g K H b ys → ys[i]? = some y,
    fun i H => ∃ xs ys : List V, SqB f K H a xs ∧ SqB g K H b ys ∧ i ≤ xs.length ∧ i ≤ ys.length ∧ (i = xs.length ∨ i = ys.length)⟩
theorem turn_zipB {P : Program} {w : World} {K : PySem.W.Frag} {elts : List Expr} {kk : Nat} {tpos : Pos} {a b z TI TO i1 i2 : Addr} (f g : Bool) (D : ZipApart z TI TO i1 i2 a b) :
    Turn P w K (.Tuple elts kk tpos) (ItzB f g K a b) [z, TI, TO, i1, i2] z (fun i h => IsZip h z TI TO .none ∧ IsPair h TI (.ref i1) (.ref i2) ∧ (∃ x y, IsPair h TO x y) ∧ ItB f h i1 a i ∧ ItB g h i2 b i) where
  mem := by simp
  obj := fun i h st c hc => by
    obtain ⟨hz, hTI, ⟨x, y, hTO⟩, h1, h2⟩ := st
    have e' : c = z ∨ c = TI ∨ c = TO ∨ c = i1 ∨ c = i2 := by simpa using hc
    rcases e' with rfl | rfl | rfl | rfl | rfl
    · exact ⟨_, hz, fun v q => nomatch q⟩
    · exact ⟨_, hTI, fun v q => nomatch q⟩
    · exact ⟨_, hTO, fun v q => nomatch q⟩
    · exact h1.live
    · exact h2.live
  keep := fun i h h' st k => by
    obtain ⟨hz, hTI, ⟨x, y, hTO⟩, h1, h2⟩ := st
    exact ⟨k z (by simp) _ hz, k TI (by simp) _ hTI, ⟨x, y, k TO (by simp) _ hTO⟩, h1.keep fun o q => k i1 (by simp) o q, h2.keep fun o q => k i2 (by simp) o q⟩
  item := by
    intro X hP hw hK hc i pins s σ H E I hf st hg
    subst hP hw hK
    obtain ⟨hz, hTI, ⟨x0, y0, hTO⟩, h1, h2⟩ := st
    obtain ⟨xs, ys, x, y, hqx, hqy, hx, hy⟩ := hg
    obtain ⟨us, rv, p⟩ := hqx.at_ I
    obtain ⟨us2, rv2, p2⟩ := hqy.at_ I
    obtain ⟨u, hu, ru⟩ := rv.get hx
    obtain ⟨u2, hu2, ru2⟩ := rv2.get hy
    have hzl : z < s.heap.objs.size := Heap.lt_size hz
    have lx : i < us.toArray.size := by
      have := (List.getElem?_eq_some_iff.mp hu).1
      simpa using this
    have ly : i < us2.toArray.size := by
      have := (List.getElem?_eq_some_iff.mp hu2).1
      simpa using this
    have hhd : X.A.in1.handled = none := I.ok.hd hc
    refine wpAny_pyNext_zipD2_item (sep_of D) (drawsB hhd f i1 a D.l1i1 us.toArray) (drawsB hhd g i2 b D.l2i2 us2.toArray) hz hTI hTO ⟨h1, p⟩ ⟨h2, p2⟩ lx ly fun v1 v2 h' tk e1 e2 z' TO' st1 st2 hT hsz hk => ?_
    have w1 : v1 = u := by
      have : us[i]? = some v1 := by simpa using e1
      rw [hu] at this
      exact (Option.some.inj this).symm
    have w2 : v2 = u2 := by
      have : us2[i]? = some v2 := by simpa using e2
      rw [hu2] at this
      exact (Option.some.inj this).symm
    subst w1 w2
    refine ⟨_, rfl, wpAny_letOwnedTupleGo_zip (s := { s with heap := h', toks := tk }) z' fun h'' z'' sb => ?_⟩
    have hT2 : h''.get? s.heap.objs.size = some { cls := .type "tuple", data := .seq #[v1, v2] } := (sb.2 _ (Nat.ne_of_gt hzl)).trans hT
    have new : ObjOk X.prog X.w (upd H s.heap.objs.size (.tup [x, y])) h'' s.heap.objs.size (.tup [x, y]) :=
      ⟨by show 2 ≤ sizeLine; decide, [v1, v2], .cons ru (.cons ru2 .nil), ⟨_, hT2, rfl, _, rfl⟩⟩
    have I1 : Inv X pins σ (upd H s.heap.objs.size (.tup [x, y])) { s with heap := h'', toks := tk } :=
      I.turnedNew (t' := tk) (ch := [z, TI, TO, i1, i2]) (fun c o hb q => (sb.2 c (fun q' => hb (by simp [q']))).trans (hk c o (fun q' => hb (by simp [q'])) (fun q' => hb (by simp [q'])) (fun q' => hb (by simp [q'])) (fun q' => hb (by simp [q'])) q)) hf (Nat.le_refl _) new
    refine ⟨.ref s.heap.objs.size, _, I1, rfl, ⟨_, x, y, rfl, I.hok.fresh (Nat.le_refl _), rfl, fun l hl => by rw [hl.inj I hqx]; exact hx, fun l hl => by rw [hl.inj I hqy]; exact hy⟩, ⟨z'', ?_, ⟨v1, v2, ?_⟩, ?_, ?_⟩, fun c hcm => ?_⟩
    · exact (sb.2 _ D.TIz).trans (hk _ _ D.TIz D.TITO D.TIi1 D.TIi2 hTI)
    · exact (sb.2 _ D.TOz).trans TO'
    · exact st1.1.keep fun o q => (sb.2 _ D.i1z).trans q
    · exact st2.1.keep fun o q => (sb.2 _ D.i2z).trans q
    · have hlt : c < s.heap.objs.size := by
        have e' : c = z ∨ c = TI ∨ c = TO ∨ c = i1 ∨ c = i2 := by simpa using hcm
        rcases e' with rfl | rfl | rfl | rfl | rfl
        · exact hzl
        · exact Heap.lt_size hTI
        · exact Heap.lt_size hTO
        · obtain ⟨_, e1, _⟩ := h1.live; exact Heap.lt_size e1
        · obtain ⟨_, e1, _⟩ := h2.live; exact Heap.lt_size e1
      rw [upd_ne (Nat.ne_of_lt hlt)]
      exact (hf c hcm).1
  done := by
    intro X hP hw hK hc i pins s σ H E I hf st hg
    subst hP hw hK
    obtain ⟨hz, hTI, ⟨x0, y0, hTO⟩, h1, h2⟩ := st
    obtain ⟨xs, ys, hqx, hqy, hend1, hend2, hend3⟩ := hg
    obtain ⟨us, rv, p⟩ := hqx.at_ I
    obtain ⟨us2, rv2, p2⟩ := hqy.at_ I
    have l1 := rv.length
    have l2 := rv2.length
    have hhd : X.A.in1.handled = none := I.ok.hd hc
    have z1 : us.toArray.size = us.length := by simp
    have z2 : us2.toArray.size = us2.length := by simp
    exact wpAny_pyNext_zipD2_end (sep_of D) (drawsB hhd f i1 a D.l1i1 us.toArray) (drawsB hhd g i2 b D.l2i2 us2.toArray) hz hTI hTO ⟨h1, p⟩ ⟨h2, p2⟩ (by omega) (by omega) (by omega) fun h' tk hk => ⟨rfl, I.turnedL (t' := tk) (ch := [z, TI, TO, i1, i2]) (fun c o hb q =>
      hk c o (fun q' => hb (by simp [q'])) (fun q' => hb (by simp [q'])) (fun q' => hb (by simp [q'])) (fun q' => hb (by simp [q'])) q) hf⟩
  self := fun A i s Q E st h => wpAny_pyIter_zip st.1 h
def iZipB (K : PySem.W.Frag) (ta : TA) : TI := fun σ H R => ta σ H fun vs H1 => ∃ (f g : Bool) (a b : Addr) (xs ys : List V), vs = [.ref a, .ref b] ∧ SqB f K H1 a xs ∧ SqB g K H1 b ys ∧ R (ItzB f g K a b) H1
theorem pi_zipB {X : Cx} {e e2 : Expr} {ta : TA} {p pos tpos : Pos} {elts : List Expr} {kk : Nat} (hg : Gl X "zip") (hm : X.mg "zip" = none) (ha : PA X [e, e2] ta)
    (hs : starEach [e, e2] X.env = (false, eval e X.env) :: starEach [e2] X.env := by rfl) (hpl : (backTo pos (starEach [e2] X.env)).any (·.1) = false := by rfl) :
    PI X (.Tuple elts kk tpos) (.Call (.Name "zip" p) [e, e2] [] pos) (iZipB X.K ta) := by
  refine ⟨fun pins s σ H R I h => ?_⟩
  refine Call_ (ld_blt I hg hm PyProof.Rows.boot_zip (PyProof.Rows.callWith_type1 (thn (ha.run pos pins s σ H _ I h) fun us s1 ⟨vs, H1, I1, r1, q1⟩ => ?_) hs hpl))
  obtain ⟨f, g, a, b, xs, ys, rfl, hqx, hqy, q⟩ := q1
  obtain ⟨u1, u2, rfl, r, r'⟩ := vals2 r1
  cases r
  cases r'
  obtain ⟨_, rv, p1⟩ := hqx.at_ I1
  obtain ⟨_, rv2, p2⟩ := hqy.at_ I1
  refine zip_begins2 (beginsB f a _) (beginsB g b _) p1 p2 fun h' hz hTI hTO h1 h2 hsz hk => wpAny_pyIter_zip hz ?_
  have I2 : Inv X pins σ H1 { s1 with heap := h' } := I1.kept (t' := s1.toks) hk
  refine ⟨s1.heap.objs.size + 4, [s1.heap.objs.size + 4, s1.heap.objs.size + 2, s1.heap.objs.size + 3, s1.heap.objs.size, s1.heap.objs.size + 1], _, _, H1, rfl, I2, turn_zipB f g (PySem.W.ktu_apart s1.heap.objs.size a b p1.lt p2.lt), ⟨hz, hTI, ⟨_, _, hTO⟩, oB_it h1, oB_it h2⟩, fun c hcm => ?_, q⟩
  have e' : c = s1.heap.objs.size + 4 ∨ c = s1.heap.objs.size + 2 ∨ c = s1.heap.objs.size + 3 ∨ c = s1.heap.objs.size ∨ c = s1.heap.objs.size + 1 := by simpa using hcm
  have hle : s1.heap.objs.size ≤ c := by
    rcases e' with z | z | z | z | z
    · rw [z]; exact Nat.le_add_right _ _
    · rw [z]; exact Nat.le_add_right _ _
    · rw [z]; exact Nat.le_add_right _ _
    · rw [z]; exact Nat.le_refl _
    · rw [z]; exact Nat.le_add_right _ _
  exact I1.fpOk hle (I1.hok.fresh hle)
theorem walk_zipB {f g : Bool} {K : PySem.W.Frag} {a b : Addr} {xs ys : List V} {n : Nat} (hn : n = min xs.length ys.length) : Walk (ItzB f g K a b) n (fun H => SqB f K H a xs ∧ SqB g K H b ys) (YPair (fun i => xs[i]?) (fun i => ys[i]?)) := by
  subst hn
  refine ⟨fun i _ hi q => ?_, fun _ q => ⟨xs, ys, q.1, q.2, by omega, by omega, by omega⟩, fun i H v H' _ q y => ?_⟩
  · have h1 : i < xs.length := by omega
    have h2 : i < ys.length := by omega
    exact ⟨xs, ys, xs[i], ys[i], q.1, q.2, by simp [h1], by simp [h2]⟩
  · obtain ⟨T, u, u2, h1, h2, h3, h4, h5⟩ := y
    exact ⟨T, u, u2, h1, h2, h3, h4 xs q.1, h5 ys q.2⟩
end ZipMixed

theorem rat_rd {n d : Int} (hd : d ≠ 0) : rd2 n d = [(Rat.divInt n d).num, ((Rat.divInt n d).den : Int)] := by
  have h0 : ((Rat.divInt n d).den : Int) ≠ 0 := by
    have := (Rat.divInt n d).den_nz
    omega
  have e : Rat.divInt n d = Rat.divInt (Rat.divInt n d).num ((Rat.divInt n d).den : Int) := (Rat.num_divInt_den _).symm
  have c := (Rat.divInt_eq_divInt_iff hd h0).mp e
  rw [rd2_eq0 hd h0 c]
  exact low_of (Rat.divInt n d).reduced (by have := (Rat.divInt n d).den_nz; omega)
/-- a fraction that stands at an address -/
def Fx (K : PySem.W.Frag) (H : Hp) (a : Addr) (r : Rat) : Prop := SqT K H a (zs [r.num, (r.den : Int)])
theorem Fx.same {K : PySem.W.Frag} {H H' : Hp} {a : Addr} {r : Rat} (h : Fx K H a r) (s : Same H H') : Fx K H' a r := same_tup s h
theorem fx_rd {K : PySem.W.Frag} {H : Hp} {a : Addr} {n d : Int} (hd : d ≠ 0) (h : H a = some (.tup (zs (rd2 n d)))) : Fx K H a (Rat.divInt n d) := by
  unfold Fx
  rw [← rat_rd hd]
  exact SqT.of h
theorem fx_at {K : PySem.W.Frag} {H : Hp} {a : Addr} {r : Rat} (h : H a = some (.tup (zs [r.num, (r.den : Int)]))) : Fx K H a r := SqT.of h
def Bd (n : Nat) (r : Rat) : Prop := r.num.natAbs < 2 ^ n ∧ r.den < 2 ^ n
theorem Bd.up {n m : Nat} {r : Rat} (h : Bd n r) (hm : n ≤ m) : Bd m r :=
  ⟨Nat.lt_of_lt_of_le h.1 (Nat.pow_le_pow_right (by decide) hm), Nat.lt_of_lt_of_le h.2 (Nat.pow_le_pow_right (by decide) hm)⟩
theorem Bd.den {n : Nat} {r : Rat} (h : Bd n r) : ((r.den : Nat) : Int).natAbs < 2 ^ n := h.2
theorem den_pos (r : Rat) : (0 : Int) < (r.den : Int) := by
  have := r.den_nz
  omega
theorem den_ne (r : Rat) : ((r.den : Nat) : Int) ≠ 0 := by
  have := den_pos r
  omega
theorem bd_of {n d : Int} {k : Nat} (hd : d ≠ 0) (h1 : n.natAbs < 2 ^ k) (h2 : d.natAbs < 2 ^ k) : Bd k (Rat.divInt n d) := by
  obtain ⟨p, q, e, l1, l2, _⟩ := rd2_le (n := n) hd
  rw [rat_rd hd] at e
  have e1 : (Rat.divInt n d).num = p := by injection e
  have e2 : ((Rat.divInt n d).den : Int) = q := by
    injection e with _ e
    injection e
  refine ⟨by rw [e1]; omega, ?_⟩
  have : (Rat.divInt n d).den = q.natAbs := by rw [← e2]; rfl
  omega
theorem add_div (r s : Rat) : r + s = Rat.divInt (r.num * s.den + s.num * r.den) (r.den * s.den) := by
  rw [Rat.add_def', Rat.divInt_eq_div, Rat.mkRat_eq_div]
  rfl
theorem sub_div (r s : Rat) : r - s = Rat.divInt (r.num * s.den - s.num * r.den) (r.den * s.den) := by
  rw [Rat.sub_def', Rat.divInt_eq_div, Rat.mkRat_eq_div]
  rfl
theorem mul_div (r s : Rat) : r * s = Rat.divInt (r.num * s.num) (r.den * s.den) := by
  rw [Rat.mul_def', Rat.divInt_eq_div, Rat.mkRat_eq_div]
  rfl
theorem dd_ne (r s : Rat) : ((r.den : Int) * (s.den : Int)) ≠ 0 := Int.mul_ne_zero (den_ne r) (den_ne s)
theorem pow_two_add (a b : Nat) : (2 : Nat) ^ (a + b + 1) = 2 * 2 ^ (a + b) := by
  rw [Nat.pow_succ, Nat.mul_comm]
theorem wl {x y : Int} {a b : Nat} (h : x.natAbs < 2 ^ a) (h2 : y.natAbs < 2 ^ b) : (x * y).natAbs < 2 ^ (a + b) := by
  rw [Int.natAbs_mul, Nat.pow_add]
  exact Nat.mul_lt_mul'' h h2
theorem Bd.mul {a b : Nat} {r s : Rat} (h : Bd a r) (h2 : Bd b s) : Bd (a + b) (r * s) := by
  rw [mul_div]
  exact bd_of (dd_ne r s) (wl h.1 h2.1) (wl h.den h2.den)
theorem Bd.add {a b : Nat} {r s : Rat} (h : Bd a r) (h2 : Bd b s) : Bd (a + b + 1) (r + s) := by
  rw [add_div]
  have e := pow_two_add a b
  have w1 := wl h.1 h2.den
  have w2 := wl h2.1 h.den
  have w3 := wl h.den h2.den
  rw [Nat.add_comm b a] at w2
  have := Int.natAbs_add_le (r.num * (s.den : Int)) (s.num * (r.den : Int))
  exact bd_of (dd_ne r s) (by omega) (by omega)
theorem Bd.sub {a b : Nat} {r s : Rat} (h : Bd a r) (h2 : Bd b s) : Bd (a + b + 1) (r - s) := by
  rw [sub_div]
  have e := pow_two_add a b
  have w1 := wl h.1 h2.den
  have w2 := wl h2.1 h.den
  have w3 := wl h.den h2.den
  rw [Nat.add_comm b a] at w2
  have := Int.natAbs_sub_le (r.num * (s.den : Int)) (s.num * (r.den : Int))
  exact bd_of (dd_ne r s) (by omega) (by omega)
theorem Bd.neg {a : Nat} {r : Rat} (h : Bd a r) : Bd a (-r) := by
  refine ⟨?_, ?_⟩
  · rw [Rat.neg_num, Int.natAbs_neg]
    exact h.1
  · rw [Rat.neg_den]
    exact h.2
theorem bd_zero : Bd 1 0 := ⟨by decide, by decide⟩
theorem bd_one : Bd 1 1 := ⟨by decide, by decide⟩
def pdr (r : Rat) : PyData := pd2 r.num (r.den : Int)
theorem dpr {K : PySem.W.Frag} {H : Hp} {a : Addr} {r : Rat} (h : Fx K H a r) : Dp K H (.ref a) (pdr r) := dp2 h
theorem eqvr (r s : Rat) : PyData.eqv (pdr r) (pdr s) = decide (r = s) := by
  unfold pdr pd2
  simp only [PyData.eqv, PyData.eqvAll, Bool.and_true]
  by_cases h : r = s
  · subst h
    simp
  · rw [decide_eq_false h]
    by_cases h1 : r.num = s.num
    · have h2 : ¬ r.den = s.den := fun z => h (Rat.ext h1 z)
      simp [h1]
      omega
    · simp [h1]
/-- a row of fractions: where each stands, what it is -/
def Rx (K : PySem.W.Frag) (H : Hp) (ws : List (Addr × Rat)) : Prop := ∀ w ∈ ws, Fx K H w.1 w.2
def fr (ws : List (Addr × Rat)) : List V := ws.map fun w => V.ref w.1
theorem Rx.same {K : PySem.W.Frag} {H H' : Hp} {ws : List (Addr × Rat)} (h : Rx K H ws) (s : Same H H') : Rx K H' ws := fun w hw => (h w hw).same s
theorem fr_len (ws : List (Addr × Rat)) : (fr ws).length = ws.length := List.length_map _
theorem fr_get {ws : List (Addr × Rat)} {i : Nat} {v : V} (h : (fr ws)[i]? = some v) : ∃ w, v = .ref w.1 ∧ ws[i]? = some w := by
  rw [show fr ws = ws.map fun w => V.ref w.1 from rfl, List.getElem?_map] at h
  cases e : ws[i]? with
  | none =>
    rw [e] at h
    cases h
  | some w =>
    rw [e] at h
    exact ⟨w, (Option.some.inj h).symm, rfl⟩
theorem fr_at {ws : List (Addr × Rat)} {i : Nat} {r : Rat} (h : (ws.map (·.2))[i]? = some r) : ∃ t, (fr ws)[i]? = some (.ref t) ∧ (t, r) ∈ ws := by
  rw [List.getElem?_map] at h
  cases e : ws[i]? with
  | none =>
    rw [e] at h
    cases h
  | some w =>
    rw [e] at h
    have : w.2 = r := Option.some.inj h
    subst this
    refine ⟨w.1, ?_, List.mem_of_getElem? e⟩
    rw [show fr ws = ws.map fun w => V.ref w.1 from rfl, List.getElem?_map, e]
    rfl
theorem dpAll {K : PySem.W.Frag} {H : Hp} : ∀ {ws : List (Addr × Rat)}, Rx K H ws → DpAll K H (fr ws) ((ws.map (·.2)).map pdr)
  | [], _ => .nil
  | w :: ws, h => .cons (dpr (h w List.mem_cons_self)) (dpAll fun x hx => h x (List.mem_cons_of_mem _ hx))
theorem eqvAllr : ∀ rs ss : List Rat, PyData.eqvAll (rs.map pdr) (ss.map pdr) = decide (rs = ss)
  | [], [] => rfl
  | [], _ :: _ => rfl
  | _ :: _, [] => rfl
  | r :: rs, s :: ss => by
    rw [List.map_cons, List.map_cons, PyData.eqvAll, eqvr, eqvAllr rs ss]
    by_cases h1 : r = s
    · by_cases h2 : rs = ss
      · simp [h1, h2]
      · simp [h1, h2]
    · simp [h1]
theorem shr (rs : List Rat) : PyData.canLayAll0 (rs.map pdr) = true ∧ PyData.depthAll (rs.map pdr) ≤ 1 := by
  induction rs with
  | nil => decide
  | cons r rs ih =>
    rw [List.map_cons, PyData.canLayAll0, PyData.depthAll, ih.1]
    exact ⟨rfl, Nat.max_le.mpr ⟨Nat.le_refl 1, ih.2⟩⟩
theorem shrl (rs : List Rat) : SeqAt.shaped (.list (rs.map pdr)) = true := by
  have h1 := (shr rs).1
  have h2 := (shr rs).2
  unfold SeqAt.shaped
  rw [PyData.canLay0, PyData.depth, h1, decide_eq_true (by omega)]
  rfl
theorem shrt (rs : List Rat) : SeqAt.shaped (.tuple (rs.map pdr)) = true := by
  have h1 := (shr rs).1
  have h2 := (shr rs).2
  unfold SeqAt.shaped
  rw [PyData.canLay0, PyData.depth, h1, decide_eq_true (by omega)]
  rfl
/-- a value along parameters: its base, its slopes -/
def Vx (K : PySem.W.Frag) (H : Hp) (t : Addr) (b : Rat) (ss : List Rat) : Prop := ∃ (p q : Addr) (ws : List (Addr × Rat)), SqT K H t [.ref p, .ref q] ∧ Fx K H p b ∧ SqT K H q (fr ws) ∧ Rx K H ws ∧ ws.map (·.2) = ss
theorem Vx.same {K : PySem.W.Frag} {H H' : Hp} {t : Addr} {b : Rat} {ss : List Rat} (h : Vx K H t b ss) (s : Same H H') : Vx K H' t b ss := by
  obtain ⟨p, q, ws, h1, h2, h3, h4, h5⟩ := h
  exact ⟨p, q, ws, same_tup s h1, h2.same s, same_tup s h3, h4.same s, h5⟩
def pdv (b : Rat) (ss : List Rat) : PyData := .tuple [pdr b, .tuple (ss.map pdr)]
theorem dpv {K : PySem.W.Frag} {H : Hp} {t : Addr} {b : Rat} {ss : List Rat} (h : Vx K H t b ss) : Dp K H (.ref t) (pdv b ss) := by
  obtain ⟨p, q, ws, h1, h2, h3, h4, rfl⟩ := h
  exact .tup h1 (.cons (dpr h2) (.cons (.tup h3 (dpAll h4)) .nil))
theorem eqvv (b c : Rat) (ss us : List Rat) : PyData.eqv (pdv b ss) (pdv c us) = decide (b = c ∧ ss = us) := by
  unfold pdv
  rw [PyData.eqv, PyData.eqvAll, PyData.eqvAll, PyData.eqvAll, eqvr, PyData.eqv, eqvAllr]
  by_cases h1 : b = c
  · by_cases h2 : ss = us
    · simp [h1, h2]
    · simp [h1, h2]
  · simp [h1]
theorem shv (b : Rat) (ss : List Rat) : SeqAt.shaped (pdv b ss) = true := by
  have h1 := (shr ss).1
  have h2 := (shr ss).2
  unfold SeqAt.shaped pdv
  simp only [PyData.canLay0, PyData.canLayAll0, PyData.depth, PyData.depthAll, h1, pdr, pd2]
  simp
  omega
theorem sh1 (r : Rat) : SeqAt.shaped (pdr r) = true := rfl
theorem over_tup {K : PySem.W.Frag} {H H' : Hp} {t D : Addr} {xs ys : List V} (h : SqT K H t xs) (hl : H D = some (.lst ys)) (s : ∀ b o, b ≠ D → H b = some o → H' b = some o) : SqT K H' t xs := by
  rcases h with (h | ⟨ob, h⟩) | h
  · exact .inl (.inl (s _ _ (ne_of h hl (by intro z; cases z)) h))
  · exact .inl (.inr ⟨ob, s _ _ (ne_of h hl (by intro z; cases z)) h⟩)
  · exact .inr h
/-- a comprehension whose elements are fractions: those of L -/
theorem lc_row {K : PySem.W.Frag} {J : It} {n : Nat} {G : Hp → Prop} {Y : Nat → Hp → V → Hp → Prop} (w : Walk J n G Y) (L : List Rat) (hL : L.length = n) (hz : n ≤ 1000)
    {g : TG} {te : TE} {vs : List Nat} {σ : L2.St} {H1 : Hp} {D : Addr} {Qd : Hp → Prop} (hD : H1 D = none) (hG : ∀ H, Same H1 H → G H)
    (hs : ∀ i r x H H' (k : V → Hp → Prop), L[i]? = some r → Same H1 H → Y i H x H' → (∀ t H4, Same H H4 → Fx K H4 t r → k (.ref t) H4) → g x (wipe σ vs) H' fun σ2 H2 => wipe σ2 vs = wipe σ vs ∧ te σ2 H2 k)
    (hd : ∀ H ws, Same H1 H → H D = some (.lst (fr ws)) → Rx K H ws → ws.map (·.2) = L → Qd H) :
    ∃ W : Nat → Nat → Hp → Prop, (∃ m, W 0 m (upd H1 D (.lst []))) ∧ ∀ i m H, W i m H →
      (J.stop i H ∧ Qd H) ∨ (J.go i H ∧ ∃ Nx : Hp → Prop, (∀ H', Nx H' → ∃ m', m' < m ∧ W (i + 1) m' H') ∧ ∀ x H', J.yld i H x H' → g x (wipe σ vs) H' fun σ2 H2 => wipe σ2 vs = wipe σ vs ∧ tYes σ2 H2 fun b H3 =>
        if b = true then te σ2 H3 fun y H4 => ∃ acc, H4 D = some (.lst acc) ∧ acc.length < sizeLine ∧ Nx (upd H4 D (.lst (acc ++ [y]))) else Nx H3) := by
  subst hL
  refine lc_it w (fun i H => Same H1 H ∧ ∃ ws, H D = some (.lst (fr ws)) ∧ Rx K H ws ∧ ws.map (·.2) = L.take i) ⟨same_upd hD, [], upd_same, (fun _ z => nomatch z), rfl⟩ (fun i H _ h => hG H h.1) ?_ ?_
  · rintro i x H H' hi ⟨s1, ws, e1, r1, m1⟩ y
    have hr : L[i]? = some L[i] := List.getElem?_eq_getElem hi
    have q := hs i L[i] x H H' (fun y H4 => ∃ acc, H4 D = some (.lst acc) ∧ acc.length < sizeLine ∧ (fun H => Same H1 H ∧ ∃ ws, H D = some (.lst (fr ws)) ∧ Rx K H ws ∧ ws.map (·.2) = L.take (i + 1)) (upd H4 D (.lst (acc ++ [y])))) hr s1 y (fun t H4 s4 f4 => ?_)
    · refine Eq.mp (congrArg (g x (wipe σ vs) H') ?_) q
      funext σ2 H2
      simp [tYes]
    · have e4 := s4 _ _ e1
      have hlen : ws.length = (L.take i).length := by rw [← m1, List.length_map]
      rw [List.length_take] at hlen
      refine ⟨fr ws, e4, ?_, fun b o e => ?_, ws ++ [(t, L[i])], ?_, fun v hv => ?_, ?_⟩
      · rw [fr_len]
        exact small1000 (by omega)
      · rw [upd_ne (ne_of_none e hD)]
        exact s4 _ _ (s1 _ _ e)
      · rw [upd_same, show fr (ws ++ [(t, L[i])]) = fr ws ++ [.ref t] from List.map_append]
      · rcases List.mem_append.mp hv with h | h
        · exact over_tup ((r1.same s4) v h) e4 fun b o hb e => by rw [upd_ne hb]; exact e
        · rw [List.mem_singleton.mp h]
          exact over_tup f4 e4 fun b o hb e => by rw [upd_ne hb]; exact e
      · rw [List.map_append, m1, List.take_add_one, hr]
        rfl
  · rintro H ⟨s1, ws, e1, r1, m1⟩
    rw [List.take_length] at m1
    exact hd H ws s1 e1 r1 m1
/-- a comprehension whose elements are plain values: those of L -/
theorem lc_val {J : It} {n : Nat} {G : Hp → Prop} {Y : Nat → Hp → V → Hp → Prop} (w : Walk J n G Y) (L : List V) (hL : L.length = n) (hz : n ≤ 1000)
    {g : TG} {te : TE} {vs : List Nat} {σ : L2.St} {H1 : Hp} {D : Addr} {Qd : Hp → Prop} (hD : H1 D = none) (hG : ∀ H, Same H1 H → G H)
    (hs : ∀ i r x H H' (k : V → Hp → Prop), L[i]? = some r → Same H1 H → Y i H x H' → (∀ H4, Same H H4 → k r H4) → g x (wipe σ vs) H' fun σ2 H2 => wipe σ2 vs = wipe σ vs ∧ te σ2 H2 k)
    (hd : ∀ H, Same H1 H → H D = some (.lst L) → Qd H) :
    ∃ W : Nat → Nat → Hp → Prop, (∃ m, W 0 m (upd H1 D (.lst []))) ∧ ∀ i m H, W i m H →
      (J.stop i H ∧ Qd H) ∨ (J.go i H ∧ ∃ Nx : Hp → Prop, (∀ H', Nx H' → ∃ m', m' < m ∧ W (i + 1) m' H') ∧ ∀ x H', J.yld i H x H' → g x (wipe σ vs) H' fun σ2 H2 => wipe σ2 vs = wipe σ vs ∧ tYes σ2 H2 fun b H3 =>
        if b = true then te σ2 H3 fun y H4 => ∃ acc, H4 D = some (.lst acc) ∧ acc.length < sizeLine ∧ Nx (upd H4 D (.lst (acc ++ [y]))) else Nx H3) := by
  subst hL
  refine lc_it w (fun i H => Same H1 H ∧ H D = some (.lst (L.take i))) ⟨same_upd hD, upd_same⟩ (fun i H _ h => hG H h.1) ?_ ?_
  · rintro i x H H' hi ⟨s1, e1⟩ y
    have hr : L[i]? = some L[i] := List.getElem?_eq_getElem hi
    have q := hs i L[i] x H H' (fun y H4 => ∃ acc, H4 D = some (.lst acc) ∧ acc.length < sizeLine ∧ (fun H => Same H1 H ∧ H D = some (.lst (L.take (i + 1)))) (upd H4 D (.lst (acc ++ [y])))) hr s1 y (fun H4 s4 => ?_)
    · refine Eq.mp (congrArg (g x (wipe σ vs) H') ?_) q
      funext σ2 H2
      simp [tYes]
    · have e4 := s4 _ _ e1
      refine ⟨L.take i, e4, ?_, fun b o e => ?_, ?_⟩
      · rw [List.length_take]
        exact small1000 (by omega)
      · rw [upd_ne (ne_of_none e hD)]
        exact s4 _ _ (s1 _ _ e)
      · rw [upd_same, List.take_add_one, hr]
        rfl
  · rintro H ⟨s1, e1⟩
    rw [List.take_length] at e1
    exact hd H s1 e1
def sumR (l : List Rat) : Rat := l.foldl (· + ·) 0
theorem foldl_sum (b : Rat) (l : List Rat) : l.foldl (· + ·) b = b + sumR l := by
  unfold sumR
  induction l generalizing b with
  | nil => exact (Rat.add_zero b).symm
  | cons x l ih =>
    rw [List.foldl_cons, List.foldl_cons, ih, ih (0 + x)]
    grind
theorem sum_bd {n : Nat} {l : List Rat} (h : ∀ r ∈ l, Bd n r) : ∀ i ≤ l.length, Bd (1 + (n + 1) * i) (sumR (l.take i)) := by
  intro i
  induction i with
  | zero =>
    intro _
    exact bd_zero
  | succ i ih =>
    intro hi
    have e : l[i]? = some l[i] := List.getElem?_eq_getElem (by omega)
    have b1 := ih (by omega)
    have b2 := h l[i] (List.getElem_mem _)
    have e2 : sumR (l.take (i + 1)) = sumR (l.take i) + l[i] := by
      unfold sumR
      rw [List.take_add_one, e, List.foldl_append]
      rfl
    rw [e2]
    refine (b1.add b2).up ?_
    rw [Nat.mul_succ]
    omega

def Bz (n : Nat) (x : Int) : Prop := x.natAbs < 2 ^ n
theorem Bz.up {n m : Nat} {x : Int} (h : Bz n x) (hm : n ≤ m) : Bz m x := Nat.lt_of_lt_of_le h (Nat.pow_le_pow_right (by decide) hm)
theorem Bz.mul {n m : Nat} {x y : Int} (h : Bz n x) (h2 : Bz m y) : Bz (n + m) (x * y) := wide_lt h h2
theorem Bz.neg {n : Nat} {x : Int} (h : Bz n x) : Bz n (-x) := by
  unfold Bz
  rw [Int.natAbs_neg]
  exact h
theorem Bz.add {n m : Nat} {x y : Int} (h : Bz n x) (h2 : Bz m y) : Bz (max n m + 1) (x + y) := by
  have a1 := h.up (Nat.le_max_left n m)
  have a2 := h2.up (Nat.le_max_right n m)
  unfold Bz at *
  rw [Nat.pow_succ]
  have := Int.natAbs_add_le x y
  omega
theorem Bz.sub {n m : Nat} {x y : Int} (h : Bz n x) (h2 : Bz m y) : Bz (max n m + 1) (x - y) := h.add h2.neg
theorem Bz.wide {n m : Nat} {x y : Int} (h : Bz n x) (h2 : Bz m y) (hn : n + m ≤ 900000) : CMulW x y :=
  wide_mul (h.up (Nat.le_succ n)) (h2.up (Nat.le_succ m)) (Nat.succ_pos _) (Nat.succ_pos _) (by omega)
theorem Bd.nz {n : Nat} {r : Rat} (h : Bd n r) : Bz n r.num := h.1
theorem Bd.dz {n : Nat} {r : Rat} (h : Bd n r) : Bz n (r.den : Int) := h.2
theorem bz_of {n : Nat} {x : Int} (h : x.natAbs < 2 ^ n) : Bz n x := h
theorem bz_lt {n : Nat} {x : Int} {b : Nat} (hb : b ≤ 2 ^ n) (h : x.natAbs < b) : Bz n x := Nat.lt_of_lt_of_le h hb
theorem bd_div {n d : Int} {k : Nat} (hd : d ≠ 0) (h1 : Bz k n) (h2 : Bz k d) : Bd k (Rat.divInt n d) := bd_of hd h1 h2
theorem tn {n : Nat} (h : Nat.ble n 1000 = true) : n ≤ sizeLine := Nat.le_trans (Nat.le_of_ble_eq_true h) (by decide)
theorem same_hu {H H' : Hp} {p : Addr} {o : HO} (h : upd H p o = H') (n : H p = none) : Same H H' := h ▸ same_upd n
theorem at_hu {H H' : Hp} {p : Addr} {o : HO} (h : upd H p o = H') : H' p = some o := h ▸ upd_same
theorem same_tr {H H1 H2 : Hp} (h2 : Same H1 H2) (h1 : Same H H1) : Same H H2 := h1.trans h2
theorem fx_up {K : PySem.W.Frag} {H H' : Hp} {a : Addr} {r : Rat} (s : Same H H') (h : Fx K H a r) : Fx K H' a r := h.same s
theorem vx_up {K : PySem.W.Frag} {H H' : Hp} {a : Addr} {r : Rat} {ss : List Rat} (s : Same H H') (h : Vx K H a r ss) : Vx K H' a r ss := h.same s
theorem seq_up {K : PySem.W.Frag} {H H' : Hp} {a : Addr} {xs : List V} (s : Same H H') (h : SqL K H a xs) : SqL K H' a xs := s.seq h
local macro_rules | `(tactic| walk_at "ss") => `(tactic| first | exact Same.refl _ | assumption | exact same_tr (by assumption) (by walk_at "ss"))
local macro_rules | `(tactic| walk_at "bz") => `(tactic| first | assumption | exact Bd.nz (by assumption) | exact Bd.dz (by assumption) | exact Bz.mul (by walk_at "bz") (by walk_at "bz") | exact Bz.add (by walk_at "bz") (by walk_at "bz") | exact Bz.sub (by walk_at "bz") (by walk_at "bz") | exact Bz.neg (by walk_at "bz") | exact bz_of (n := 1) (by decide) | exact bz_of (n := 4) (by decide)| exact bz_of (n := 8) (by decide)| exact bz_of (n := 20) (by decide))
local macro_rules | `(tactic| walk_at "sm0") => `(tactic| assumption)
local macro_rules | `(tactic| walk_at "sm1") => `(tactic| first | assumption | exact same_tup (by assumption) (by walk_at "sm0"))
local macro_rules | `(tactic| walk_at "sm2") => `(tactic| first | assumption | exact same_tup (by assumption) (by walk_at "sm1"))
local macro_rules | `(tactic| walk_at "sm3") => `(tactic| first | assumption | exact same_tup (by assumption) (by walk_at "sm2"))
local macro_rules | `(tactic| walk_at "sm4") => `(tactic| first | assumption | exact same_tup (by assumption) (by walk_at "sm3"))
local macro_rules | `(tactic| walk_at "sm5") => `(tactic| first | assumption | exact same_tup (by assumption) (by walk_at "sm4"))
local macro_rules | `(tactic| walk_at "sm6") => `(tactic| first | assumption | exact same_tup (by assumption) (by walk_at "sm5"))
local macro_rules | `(tactic| walk_at "sm7") => `(tactic| first | assumption | exact same_tup (by assumption) (by walk_at "sm6"))
local macro_rules | `(tactic| walk_at "sm") => `(tactic| walk_at "sm7")
local macro_rules | `(tactic| walk_at "sf0") => `(tactic| assumption)
local macro_rules | `(tactic| walk_at "sf1") => `(tactic| first | assumption | exact fx_up (by assumption) (by walk_at "sf0") | exact vx_up (by assumption) (by walk_at "sf0") | exact seq_up (by assumption) (by walk_at "sf0"))
local macro_rules | `(tactic| walk_at "sf2") => `(tactic| first | assumption | exact fx_up (by assumption) (by walk_at "sf1") | exact vx_up (by assumption) (by walk_at "sf1") | exact seq_up (by assumption) (by walk_at "sf1"))
local macro_rules | `(tactic| walk_at "sf3") => `(tactic| first | assumption | exact fx_up (by assumption) (by walk_at "sf2") | exact vx_up (by assumption) (by walk_at "sf2") | exact seq_up (by assumption) (by walk_at "sf2"))
local macro_rules | `(tactic| walk_at "sf4") => `(tactic| first | assumption | exact fx_up (by assumption) (by walk_at "sf3") | exact vx_up (by assumption) (by walk_at "sf3") | exact seq_up (by assumption) (by walk_at "sf3"))
local macro_rules | `(tactic| walk_at "sf5") => `(tactic| first | assumption | exact fx_up (by assumption) (by walk_at "sf4") | exact vx_up (by assumption) (by walk_at "sf4") | exact seq_up (by assumption) (by walk_at "sf4"))
local macro_rules | `(tactic| walk_at "sf6") => `(tactic| first | assumption | exact fx_up (by assumption) (by walk_at "sf5") | exact vx_up (by assumption) (by walk_at "sf5") | exact seq_up (by assumption) (by walk_at "sf5"))
local macro_rules | `(tactic| walk_at "sf7") => `(tactic| first | assumption | exact fx_up (by assumption) (by walk_at "sf6") | exact vx_up (by assumption) (by walk_at "sf6") | exact seq_up (by assumption) (by walk_at "sf6"))
local macro_rules | `(tactic| walk_at "sf") => `(tactic| walk_at "sf7")
local macro_rules | `(tactic| walk_at "go") => `(tactic| repeat (first | refine ⟨_, rfl, ?_⟩ | refine ⟨rfl, ?_⟩ | refine ⟨_, _, rfl, rfl, ?_⟩ | refine ⟨Bz.wide (by walk_at "bz") (by walk_at "bz") (by decide), ?_⟩ | refine ⟨_, _, _, _, rfl, rfl, (by walk_at "sm"), atI_nat (j := 0) (by rfl), ?_⟩ | refine ⟨_, _, _, _, rfl, rfl, (by walk_at "sm"), atI_nat (j := 1) (by rfl), ?_⟩ | refine ⟨_, _, _, _, rfl, rfl, (by walk_at "sm"), atI_nat (j := 2) (by rfl), ?_⟩ | refine ⟨_, _, _, _, rfl, rfl, (by walk_at "sm"), atI_nat (j := 3) (by rfl), ?_⟩ | refine ⟨_, _, rfl, (by walk_at "sm"), (by rfl), ?_⟩ | refine ⟨⟨by decide, by decide⟩, ?_⟩ | refine ⟨(by show (0 : Int) < _; decide), ?_⟩ | refine ⟨Or.inr ⟨by decide, by decide⟩, ?_⟩ | refine ⟨Or.inl ⟨by decide, by decide⟩, ?_⟩ | refine Or.inl ⟨_, rfl, ?_⟩ | refine And.intro (by assumption) ?_ | refine ⟨_, _, rfl, ?_⟩))
/-- a comprehension whose elements are things of a kind R that stands while nothing but the new list changes -/
theorem lc_obj {J : It} {n : Nat} {G : Hp → Prop} {Y : Nat → Hp → V → Hp → Prop} (w : Walk J n G Y) (R : Nat → Hp → V → Prop)
    (stab : ∀ {i H H' v D acc}, R i H v → H D = some (.lst acc) → (∀ b o, b ≠ D → H b = some o → H' b = some o) → R i H' v) (hz : n ≤ 1000)
    {g : TG} {te : TE} {vs : List Nat} {σ : L2.St} {H1 : Hp} {D : Addr} {Qd : Hp → Prop} (hD : H1 D = none) (hG : ∀ H, Same H1 H → G H)
    (hs : ∀ i x H H' (k : V → Hp → Prop), i < n → Same H1 H → Y i H x H' → (∀ v H4, Same H H4 → R i H4 v → k v H4) → g x (wipe σ vs) H' fun σ2 H2 => wipe σ2 vs = wipe σ vs ∧ te σ2 H2 k)
    (hd : ∀ H us, Same H1 H → H D = some (.lst us) → us.length = n → (∀ i v, us[i]? = some v → R i H v) → Qd H) :
    ∃ W : Nat → Nat → Hp → Prop, (∃ m, W 0 m (upd H1 D (.lst []))) ∧ ∀ i m H, W i m H →
      (J.stop i H ∧ Qd H) ∨ (J.go i H ∧ ∃ Nx : Hp → Prop, (∀ H', Nx H' → ∃ m', m' < m ∧ W (i + 1) m' H') ∧ ∀ x H', J.yld i H x H' → g x (wipe σ vs) H' fun σ2 H2 => wipe σ2 vs = wipe σ vs ∧ tYes σ2 H2 fun b H3 =>
        if b = true then te σ2 H3 fun y H4 => ∃ acc, H4 D = some (.lst acc) ∧ acc.length < sizeLine ∧ Nx (upd H4 D (.lst (acc ++ [y]))) else Nx H3) := by
  refine lc_it w (fun i H => Same H1 H ∧ ∃ us, H D = some (.lst us) ∧ us.length = i ∧ ∀ j v, us[j]? = some v → R j H v) ⟨same_upd hD, [], upd_same, rfl, (fun j v h => by simp at h)⟩ (fun i H _ h => hG H h.1) ?_ ?_
  · rintro i x H H' hi ⟨s1, us, e1, l1, r1⟩ y
    have q := hs i x H H' (fun y H4 => ∃ acc, H4 D = some (.lst acc) ∧ acc.length < sizeLine ∧ (fun H => Same H1 H ∧ ∃ us, H D = some (.lst us) ∧ us.length = i + 1 ∧ ∀ j v, us[j]? = some v → R j H v) (upd H4 D (.lst (acc ++ [y])))) hi s1 y (fun v H4 s4 f4 => ?_)
    · refine Eq.mp (congrArg (g x (wipe σ vs) H') ?_) q
      funext σ2 H2
      simp [tYes]
    · have e4 := s4 _ _ e1
      refine ⟨us, e4, small1000 (by omega), fun b o e => ?_, us ++ [v], upd_same, by rw [List.length_append, l1]; rfl, fun j u hu => ?_⟩
      · rw [upd_ne (ne_of_none e hD)]
        exact s4 _ _ (s1 _ _ e)
      · by_cases hj : j < i
        · rw [List.getElem?_append_left (by omega)] at hu
          have hf := stab (r1 j u hu) e1 (fun b o _ e => s4 b o e)
          exact stab hf e4 fun b o hb e => by rw [upd_ne hb]; exact e
        · have hj2 : j < (us ++ [v]).length := (List.getElem?_eq_some_iff.mp hu).1
          rw [List.length_append, l1] at hj2
          have hj3 : j = i := by
            simp at hj2
            omega
          subst hj3
          rw [List.getElem?_append_right (by omega), l1, Nat.sub_self] at hu
          obtain rfl : v = u := Option.some.inj hu
          exact stab f4 e4 fun b o hb e => by rw [upd_ne hb]; exact e
  · rintro H ⟨s1, us, e1, l1, r1⟩
    exact hd H us s1 e1 l1 r1
theorem over_fx {K : PySem.W.Frag} {H H' : Hp} {t D : Addr} {r : Rat} {ys : List V} (h : Fx K H t r) (hl : H D = some (.lst ys)) (s : ∀ b o, b ≠ D → H b = some o → H' b = some o) : Fx K H' t r := over_tup h hl s
theorem over_vx {K : PySem.W.Frag} {H H' : Hp} {t D : Addr} {b : Rat} {ss : List Rat} {ys : List V} (h : Vx K H t b ss) (hl : H D = some (.lst ys)) (s : ∀ b o, b ≠ D → H b = some o → H' b = some o) : Vx K H' t b ss := by
  obtain ⟨p, q, ws, h1, h2, h3, h4, h5⟩ := h
  exact ⟨p, q, ws, over_tup h1 hl s, over_tup h2 hl s, over_tup h3 hl s, fun w hw => over_tup (h4 w hw) hl s, h5⟩

theorem pss_no {X : Cx} {b : List Stmt} : PSs X b (fun _ _ _ => False) := ⟨fun _ _ _ _ _ _ h => h.elim⟩


section
variable {P : Program} {w : World} {K : PySem.W.Frag} {mg : Str → Option Value} {base : Heap}
def spCommon (K : PySem.W.Frag) : Sp := fun vs H Q _ => ∃ a b : Int, vs = [.int a, .int b] ∧ Q (.int ((Nat.gcd a.natAbs b.natAbs : Nat) : Int)) H
theorem okCommon {fCommon : Addr} {fdCommon : FuncData} (F : Fun K "common" "common" sCommon fCommon fdCommon) (T : Txt mg) {CPartError CNought : Addr} (EX : Exns K mg CPartError CNought) :
    FnOk P w K mg base CX0 1 fCommon fdCommon ["a", "b"] (spCommon K) := by
  refine F.ok scCommon (fun vs H Q E h => ?_) (fun cdv A outer s H vs Q E hr h => ?_)
  · obtain ⟨a, b, rfl, q⟩ := h
    rfl
  · obtain ⟨a, b, rfl, q⟩ := h
    refine ⟨_, (pss_one (ps_ret (pe_callBfun cr_gcd (by rfl) T.gcd (pa_cons (pv 0) (pa_cons (pv 1) pa_nil))))), ?_⟩
    exact ⟨_, rfl, _, rfl, a, b, rfl, q⟩
def spFraction (K : PySem.W.Frag) (CNought : Addr) : Sp := fun vs H Q E => ∃ n d : Int, vs = [.int n, .int d] ∧ Bz 2000 d ∧ (d = 0 → E (.ref CNought) none H) ∧ (d ≠ 0 → ∀ (H' : Hp) (t : Addr), Same H H' → Fx K H' t (Rat.divInt n d) → Q (.ref t) H')
theorem okFraction {fFraction : Addr} {fdFraction : FuncData} (F : FunD K "fraction" "fraction" (defArgs sFraction) (defBody sFraction) (defScope sFraction) [.int 1] [] fFraction fdFraction) (T : Txt mg) {CPartError CNought : Addr} (EX : Exns K mg CPartError CNought) :
    FnOk P w K mg base (L2.CX P w) 1 fFraction fdFraction ["number", "divisor"] (spFraction K CNought) := by
  refine F.ok scFraction (fun vs H Q E h => ?_) (fun cdv A outer s H vs Q E hr h => ?_)
  · obtain ⟨n, d, rfl, hb, he, q⟩ := h
    rfl
  · obtain ⟨n, d, rfl, hb, he, q⟩ := h
    refine ⟨_, (pss_cons (ps_if (pt_cmpR op_eq (pv 1) pe_int (nomark _))
        (pss_one (ps_ret (pe_tup (pa_cons (pv 0) (pa_cons pe_int pa_nil)))))
        pss_nil)
      (pss_cons (ps_if (pt_cmpR op_eq (pv 1) pe_int (nomark _))
        (pss_one (ps_raise rfl (takes_of rfl rfl rfl rfl) (pmk_own PySem.F.excBase_ValueError EX.xNought EX.gNought EX.kNought (raises_own EX.bNought EX.tNought) rfl)))
        pss_nil)
      (pss_cons (ps_set (i := 2) scFraction.nd rfl (Or.inl rfl) (pe_callBfun cr_gcd (by rfl) T.gcd (pa_cons (pv 0) (pa_cons (pv 1) pa_nil))))
      (C8.pss_cut (ps_if (pt_cmpR op_lt (pv 1) pe_int (nomark _))
        (pss_one (ps_set (i := 2) scFraction.nd rfl (Or.inl rfl) (pe_un un_neg (pv 2))))
        pss_nil)
      (pss_one (ps_ret (pe_tup (pa_cons (pe_op op_fdivX (pv 0) (pv 2)) (pa_cons (pe_op op_fdivX (pv 1) (pv 2)) pa_nil))))))))), ?_⟩
    walk_at "rd"
    refine ite2 (fun g1 => ?_) (fun g1 => ?_)
    · obtain rfl : d = 1 := eq_of_dec g1
      refine ⟨_, rfl, by show 2 ≤ sizeLine; decide, fun t ht => ?_⟩
      exact q (by decide) _ t (same_upd ht) (fx_rd (by decide) (by unfold rd2; rw [rd_one]; exact upd_same))
    walk_at "rd"
    refine ite2 (fun g => ?_) (fun g => ?_)
    · exact he (eq_of_dec g)
    · have hd := ne_of_nodec g
      refine ⟨_, rfl, _, rfl, n, d, rfl, ?_⟩
      refine ⟨fun σ' H' => σ' = [some (.int n), some (.int d), some (.int (sg n d))] ∧ H' = H, ?_, ?_⟩
      · walk_at "rd"
        refine ite2 (fun g2 => ?_) (fun g2 => ?_)
        · refine ⟨_, rfl, _, rfl, ?_, rfl⟩
          unfold sg
          rw [if_pos (of_decide_eq_true g2)]
          rfl
        · refine ⟨?_, rfl⟩
          unfold sg
          rw [if_neg (fun z => g2 (decide_eq_true z))]
          rfl
      · rintro σ' H' ⟨rfl, rfl⟩
        have hs := sg_ne (n := n) hd
        have hsb : (sg n d).natAbs < 2 ^ 2000 := by
          rw [sg_abs]
          exact Nat.lt_of_le_of_lt (Nat.le_of_dvd (by omega) (Nat.gcd_dvd_right _ _)) hb
        refine ⟨_, rfl, _, rfl, _, _, rfl, rfl, wide_divx hs hsb (by decide) (by decide), _, rfl, _, rfl, _, _, rfl, rfl, wide_divx hs hsb (by decide) (by decide), by show 2 ≤ sizeLine; decide, fun t ht => ?_⟩
        exact q hd _ t (same_upd ht) (fx_rd hd upd_same)
def spR2 (K : PySem.W.Frag) (op : Rat → Rat → Rat) : Sp := fun vs H Q _ => ∃ (a b : Addr) (r s : Rat), vs = [.ref a, .ref b] ∧ Fx K H a r ∧ Fx K H b s ∧ Bd 800 r ∧ Bd 800 s ∧
  ∀ (H' : Hp) (t : Addr), Same H H' → Fx K H' t (op r s) → Q (.ref t) H'
def spPlus (K : PySem.W.Frag) : Sp := spR2 K (fun r s => r + s)
theorem okPlus {fPlus : Addr} {fdPlus : FuncData} (F : Fun K "plus" "plus" sPlus fPlus fdPlus) (T : Txt mg) {CPartError CNought : Addr} (EX : Exns K mg CPartError CNought)
    {fFraction : Addr} {fdFraction : FuncData} (GFraction : FnOk P w K mg base (L2.CX P w) 1 fFraction fdFraction ["number", "divisor"] (spFraction K CNought)) (gFraction : mg "fraction" = some (.ref fFraction)) (kpFraction : PySem.W.keepIn K (.ref fFraction) = true) (bFraction : Binds K fdFraction ["number", "divisor"] []) {dsFraction : List Value} (vdFraction : Vals [.int 1] dsFraction) (bdFraction : Binds K fdFraction ["number", "divisor"] dsFraction) :
    FnOk P w K mg base CX0 2 fPlus fdPlus ["a", "b"] (spPlus K) := by
  refine F.ok scPlus (fun vs H Q E h => ?_) (fun cdv A outer s H vs Q E hr h => ?_)
  · obtain ⟨a, b, r, s, rfl, hA, hB, hr1, hs1, k⟩ := h
    rfl
  · obtain ⟨a, b, r, s, rfl, hA, hB, hr1, hs1, k⟩ := h
    refine ⟨_, (pss_one (ps_ret (pe_call GFraction hr (by rfl) gFraction kpFraction bFraction .nil passL (pa_cons (pe_op op_add (pe_op op_mulW (pe_ix ix_tup (pv 0) pe_int (fun _ _ => rfl)) (pe_ix ix_tup (pv 1) pe_int (fun _ _ => rfl))) (pe_op op_mulW (pe_ix ix_tup (pv 1) pe_int (fun _ _ => rfl)) (pe_ix ix_tup (pv 0) pe_int (fun _ _ => rfl)))) (pa_cons (pe_op op_mulW (pe_ix ix_tup (pv 0) pe_int (fun _ _ => rfl)) (pe_ix ix_tup (pv 1) pe_int (fun _ _ => rfl))) pa_nil))))), ?_⟩
    walk_at "go"
    exact ⟨Bz.up (by walk_at "bz") (by decide), fun h => absurd h (dd_ne r s), fun _ H' t s1 e1 => k H' t s1 (by show Fx K H' t (r + s); rw [add_div]; exact e1)⟩
def spMinus (K : PySem.W.Frag) : Sp := spR2 K (fun r s => r - s)
theorem okMinus {fMinus : Addr} {fdMinus : FuncData} (F : Fun K "minus" "minus" sMinus fMinus fdMinus) (T : Txt mg) {CPartError CNought : Addr} (EX : Exns K mg CPartError CNought)
    {fFraction : Addr} {fdFraction : FuncData} (GFraction : FnOk P w K mg base (L2.CX P w) 1 fFraction fdFraction ["number", "divisor"] (spFraction K CNought)) (gFraction : mg "fraction" = some (.ref fFraction)) (kpFraction : PySem.W.keepIn K (.ref fFraction) = true) (bFraction : Binds K fdFraction ["number", "divisor"] []) {dsFraction : List Value} (vdFraction : Vals [.int 1] dsFraction) (bdFraction : Binds K fdFraction ["number", "divisor"] dsFraction) :
    FnOk P w K mg base CX0 2 fMinus fdMinus ["a", "b"] (spMinus K) := by
  refine F.ok scMinus (fun vs H Q E h => ?_) (fun cdv A outer s H vs Q E hr h => ?_)
  · obtain ⟨a, b, r, s, rfl, hA, hB, hr1, hs1, k⟩ := h
    rfl
  · obtain ⟨a, b, r, s, rfl, hA, hB, hr1, hs1, k⟩ := h
    refine ⟨_, (pss_one (ps_ret (pe_call GFraction hr (by rfl) gFraction kpFraction bFraction .nil passL (pa_cons (pe_op op_sub (pe_op op_mulW (pe_ix ix_tup (pv 0) pe_int (fun _ _ => rfl)) (pe_ix ix_tup (pv 1) pe_int (fun _ _ => rfl))) (pe_op op_mulW (pe_ix ix_tup (pv 1) pe_int (fun _ _ => rfl)) (pe_ix ix_tup (pv 0) pe_int (fun _ _ => rfl)))) (pa_cons (pe_op op_mulW (pe_ix ix_tup (pv 0) pe_int (fun _ _ => rfl)) (pe_ix ix_tup (pv 1) pe_int (fun _ _ => rfl))) pa_nil))))), ?_⟩
    walk_at "go"
    exact ⟨Bz.up (by walk_at "bz") (by decide), fun h => absurd h (dd_ne r s), fun _ H' t s1 e1 => k H' t s1 (by show Fx K H' t (r - s); rw [sub_div]; exact e1)⟩
def spTimes (K : PySem.W.Frag) : Sp := spR2 K (fun r s => r * s)
theorem okTimes {fTimes : Addr} {fdTimes : FuncData} (F : Fun K "times" "times" sTimes fTimes fdTimes) (T : Txt mg) {CPartError CNought : Addr} (EX : Exns K mg CPartError CNought)
    {fFraction : Addr} {fdFraction : FuncData} (GFraction : FnOk P w K mg base (L2.CX P w) 1 fFraction fdFraction ["number", "divisor"] (spFraction K CNought)) (gFraction : mg "fraction" = some (.ref fFraction)) (kpFraction : PySem.W.keepIn K (.ref fFraction) = true) (bFraction : Binds K fdFraction ["number", "divisor"] []) {dsFraction : List Value} (vdFraction : Vals [.int 1] dsFraction) (bdFraction : Binds K fdFraction ["number", "divisor"] dsFraction) :
    FnOk P w K mg base CX0 2 fTimes fdTimes ["a", "b"] (spTimes K) := by
  refine F.ok scTimes (fun vs H Q E h => ?_) (fun cdv A outer s H vs Q E hr h => ?_)
  · obtain ⟨a, b, r, s, rfl, hA, hB, hr1, hs1, k⟩ := h
    rfl
  · obtain ⟨a, b, r, s, rfl, hA, hB, hr1, hs1, k⟩ := h
    refine ⟨_, (pss_one (ps_ret (pe_call GFraction hr (by rfl) gFraction kpFraction bFraction .nil passL (pa_cons (pe_op op_mulW (pe_ix ix_tup (pv 0) pe_int (fun _ _ => rfl)) (pe_ix ix_tup (pv 1) pe_int (fun _ _ => rfl))) (pa_cons (pe_op op_mulW (pe_ix ix_tup (pv 0) pe_int (fun _ _ => rfl)) (pe_ix ix_tup (pv 1) pe_int (fun _ _ => rfl))) pa_nil))))), ?_⟩
    walk_at "go"
    exact ⟨Bz.up (by walk_at "bz") (by decide), fun h => absurd h (dd_ne r s), fun _ H' t s1 e1 => k H' t s1 (by show Fx K H' t (r * s); rw [mul_div]; exact e1)⟩
def spV2 (K : PySem.W.Frag) (op : Rat → Rat → Rat) : Sp := fun vs H Q _ => ∃ (a b : Addr) (x y : Rat) (xs ys : List Rat), vs = [.ref a, .ref b] ∧ Vx K H a x xs ∧ Vx K H b y ys ∧ xs.length = ys.length ∧ xs.length ≤ 20 ∧ Bd 60 x ∧ Bd 60 y ∧ (∀ r ∈ xs, Bd 60 r) ∧ (∀ r ∈ ys, Bd 60 r) ∧
  ∀ (H' : Hp) (t : Addr), Same H H' → Vx K H' t (op x y) (List.zipWith op xs ys) → Q (.ref t) H'
def spAdd (K : PySem.W.Frag) : Sp := spV2 K (fun r s => r + s)
theorem okAdd {fAdd : Addr} {fdAdd : FuncData} (F : Fun K "add" "add" sAdd fAdd fdAdd) (T : Txt mg) {CPartError CNought : Addr} (EX : Exns K mg CPartError CNought)
    {fPlus : Addr} {fdPlus : FuncData} (GPlus : FnOk P w K mg base CX0 2 fPlus fdPlus ["a", "b"] (spPlus K)) (gPlus : mg "plus" = some (.ref fPlus)) (kpPlus : PySem.W.keepIn K (.ref fPlus) = true) (bPlus : Binds K fdPlus ["a", "b"] []) :
    FnOk P w K mg base CX0 3 fAdd fdAdd ["a", "b"] (spAdd K) := by
  refine F.ok scAdd (fun vs H Q E h => ?_) (fun cdv A outer s H vs Q E hr h => ?_)
  · obtain ⟨a, b, x, y, xs, ys, rfl, ⟨p, q, us, hA, hp, hq, hus, rfl⟩, ⟨p2, q2, vs, hB, hp2, hq2, hvs, rfl⟩, hlen, h20, bx, bY, bxs, bys, k⟩ := h
    rfl
  · obtain ⟨a, b, x, y, xs, ys, rfl, ⟨p, q, us, hA, hp, hq, hus, rfl⟩, ⟨p2, q2, vs, hB, hp2, hq2, hvs, rfl⟩, hlen, h20, bx, bY, bxs, bys, k⟩ := h
    refine ⟨_, (pss_one (ps_ret (pe_tup (pa_cons (pe_call GPlus hr (by rfl) gPlus kpPlus bPlus .nil pass0 (pa_cons (pe_ix ix_tup (pv 0) pe_int (fun _ _ => rfl)) (pa_cons (pe_ix ix_tup (pv 1) pe_int (fun _ _ => rfl)) pa_nil))) (pa_cons (pe_callTy call_tuple_of (by rfl) T.tuple (by decide +kernel) (pa_cons (pe_lc (own := [("x", 2), ("y", 3)]) (by rfl) scAdd.nd (pi_zipB (by rfl) T.zip (pa_cons (pe_ix ix_tup (pv 0) pe_int (fun _ _ => rfl)) (pa_cons (pe_ix ix_tup (pv 1) pe_int (fun _ _ => rfl)) pa_nil))) (blkOk_by (own := [("x", 2), ("y", 3)]) (N := ["a", "b", "x", "y"]) (sc := defScope sAdd) (by decide +kernel)) (fun _ _ _ _ _ => (show PG _ _ (gTup K 2 _) from (pg_tup rfl (pgs_cons (pg_name (i := 2) scAdd.nd rfl (Or.inl rfl)) (pgs_cons (pg_name (i := 3) scAdd.nd rfl (Or.inl rfl)) pgs_nil))))) (fun _ _ _ _ _ => pts_nil) (fun _ _ _ _ _ => (pe_call GPlus hr (by rfl) gPlus kpPlus bPlus .nil pass0 (pa_cons (pv 2) (pa_cons (pv 3) pa_nil))))) pa_nil)) pa_nil))))), ?_⟩
    refine ⟨.ref a, rfl, a, _, 0, _, rfl, rfl, hA, atI_nat (j := 0) rfl, .ref b, rfl, b, _, 0, _, rfl, rfl, hB, atI_nat (j := 0) rfl, p, p2, x, y, rfl, hp, hp2, bx.up (by decide), bY.up (by decide), fun H1 t1 s1 f1 => ?_⟩
    refine ⟨.ref a, rfl, a, _, 1, _, rfl, rfl, same_tup s1 hA, atI_nat (j := 1) rfl, .ref b, rfl, b, _, 1, _, rfl, rfl, same_tup s1 hB, atI_nat (j := 1) rfl, true, true, q, q2, fr us, fr vs, rfl, same_tup s1 hq, same_tup s1 hq2, fun D hD => ?_⟩
    rw [List.length_map, List.length_map] at hlen
    rw [List.length_map] at h20
    refine lc_row (K := K) (walk_zipB (f := true) (g := true) (xs := fr us) (ys := fr vs) rfl) (List.zipWith (· + ·) (us.map (·.2)) (vs.map (·.2))) (by simp [fr_len]) (by simp [fr_len]; omega) hD (fun H2 s2 => ⟨same_tup (s1.trans s2) hq, same_tup (s1.trans s2) hq2⟩) ?_ ?_
    · rintro i r v H2 H3 kk hr s2 ⟨T, u, u2, rfl, hT, rfl, g1, g2⟩ kk2
      obtain ⟨w, rfl, hw⟩ := fr_get g1
      obtain ⟨w2, rfl, hw2⟩ := fr_get g2
      rw [List.getElem?_zipWith, List.getElem?_map, List.getElem?_map, hw, hw2] at hr
      obtain rfl : w.2 + w2.2 = r := Option.some.inj hr
      have m1 : w ∈ us := List.mem_of_getElem? hw
      have m2 : w2 ∈ vs := List.mem_of_getElem? hw2
      have sT := same_upd (o := .tup [.ref w.1, .ref w2.1]) hT
      refine ⟨_, _, rfl, SqT.of upd_same, rfl, _, _, rfl, _, _, rfl, rfl, rfl, ?_⟩
      exact ⟨_, rfl, _, rfl, w.1, w2.1, w.2, w2.2, rfl, (hus w m1).same (s1.trans (s2.trans sT)), (hvs w2 m2).same (s1.trans (s2.trans sT)), (bxs _ (List.mem_map_of_mem m1)).up (by decide), (bys _ (List.mem_map_of_mem m2)).up (by decide), fun H4 t4 s4 f4 => kk2 t4 H4 (sT.trans s4) f4⟩
    · intro H2 ws s2 e2 r2 m2
      refine ⟨D, _, rfl, .inl ⟨SqL.of e2, fun t3 n3 => ?_⟩⟩
      have s3 := same_upd (o := .tup (fr ws)) n3
      refine ⟨by show 2 ≤ sizeLine; decide, fun t4 n4 => ?_⟩
      have s4 := same_upd (o := .tup [.ref t1, .ref t3]) n4
      exact k _ t4 (s1.trans (s2.trans (s3.trans s4))) ⟨t1, t3, ws, SqT.of upd_same, f1.same (s2.trans (s3.trans s4)), SqT.of (s4 _ _ upd_same), r2.same (s3.trans s4), m2⟩
def spSubtract (K : PySem.W.Frag) : Sp := spV2 K (fun r s => r - s)
theorem okSubtract {fSubtract : Addr} {fdSubtract : FuncData} (F : Fun K "subtract" "subtract" sSubtract fSubtract fdSubtract) (T : Txt mg) {CPartError CNought : Addr} (EX : Exns K mg CPartError CNought)
    {fMinus : Addr} {fdMinus : FuncData} (GMinus : FnOk P w K mg base CX0 2 fMinus fdMinus ["a", "b"] (spMinus K)) (gMinus : mg "minus" = some (.ref fMinus)) (kpMinus : PySem.W.keepIn K (.ref fMinus) = true) (bMinus : Binds K fdMinus ["a", "b"] []) :
    FnOk P w K mg base CX0 3 fSubtract fdSubtract ["a", "b"] (spSubtract K) := by
  refine F.ok scSubtract (fun vs H Q E h => ?_) (fun cdv A outer s H vs Q E hr h => ?_)
  · obtain ⟨a, b, x, y, xs, ys, rfl, ⟨p, q, us, hA, hp, hq, hus, rfl⟩, ⟨p2, q2, vs, hB, hp2, hq2, hvs, rfl⟩, hlen, h20, bx, bY, bxs, bys, k⟩ := h
    rfl
  · obtain ⟨a, b, x, y, xs, ys, rfl, ⟨p, q, us, hA, hp, hq, hus, rfl⟩, ⟨p2, q2, vs, hB, hp2, hq2, hvs, rfl⟩, hlen, h20, bx, bY, bxs, bys, k⟩ := h
    refine ⟨_, (pss_one (ps_ret (pe_tup (pa_cons (pe_call GMinus hr (by rfl) gMinus kpMinus bMinus .nil pass0 (pa_cons (pe_ix ix_tup (pv 0) pe_int (fun _ _ => rfl)) (pa_cons (pe_ix ix_tup (pv 1) pe_int (fun _ _ => rfl)) pa_nil))) (pa_cons (pe_callTy call_tuple_of (by rfl) T.tuple (by decide +kernel) (pa_cons (pe_lc (own := [("x", 2), ("y", 3)]) (by rfl) scSubtract.nd (pi_zipB (by rfl) T.zip (pa_cons (pe_ix ix_tup (pv 0) pe_int (fun _ _ => rfl)) (pa_cons (pe_ix ix_tup (pv 1) pe_int (fun _ _ => rfl)) pa_nil))) (blkOk_by (own := [("x", 2), ("y", 3)]) (N := ["a", "b", "x", "y"]) (sc := defScope sSubtract) (by decide +kernel)) (fun _ _ _ _ _ => (show PG _ _ (gTup K 2 _) from (pg_tup rfl (pgs_cons (pg_name (i := 2) scSubtract.nd rfl (Or.inl rfl)) (pgs_cons (pg_name (i := 3) scSubtract.nd rfl (Or.inl rfl)) pgs_nil))))) (fun _ _ _ _ _ => pts_nil) (fun _ _ _ _ _ => (pe_call GMinus hr (by rfl) gMinus kpMinus bMinus .nil pass0 (pa_cons (pv 2) (pa_cons (pv 3) pa_nil))))) pa_nil)) pa_nil))))), ?_⟩
    refine ⟨.ref a, rfl, a, _, 0, _, rfl, rfl, hA, atI_nat (j := 0) rfl, .ref b, rfl, b, _, 0, _, rfl, rfl, hB, atI_nat (j := 0) rfl, p, p2, x, y, rfl, hp, hp2, bx.up (by decide), bY.up (by decide), fun H1 t1 s1 f1 => ?_⟩
    refine ⟨.ref a, rfl, a, _, 1, _, rfl, rfl, same_tup s1 hA, atI_nat (j := 1) rfl, .ref b, rfl, b, _, 1, _, rfl, rfl, same_tup s1 hB, atI_nat (j := 1) rfl, true, true, q, q2, fr us, fr vs, rfl, same_tup s1 hq, same_tup s1 hq2, fun D hD => ?_⟩
    rw [List.length_map, List.length_map] at hlen
    rw [List.length_map] at h20
    refine lc_row (K := K) (walk_zipB (f := true) (g := true) (xs := fr us) (ys := fr vs) rfl) (List.zipWith (fun r s => r - s) (us.map (·.2)) (vs.map (·.2))) (by simp [fr_len]) (by simp [fr_len]; omega) hD (fun H2 s2 => ⟨same_tup (s1.trans s2) hq, same_tup (s1.trans s2) hq2⟩) ?_ ?_
    · rintro i r v H2 H3 kk hr s2 ⟨T, u, u2, rfl, hT, rfl, g1, g2⟩ kk2
      obtain ⟨w, rfl, hw⟩ := fr_get g1
      obtain ⟨w2, rfl, hw2⟩ := fr_get g2
      rw [List.getElem?_zipWith, List.getElem?_map, List.getElem?_map, hw, hw2] at hr
      obtain rfl : w.2 - w2.2 = r := Option.some.inj hr
      have m1 : w ∈ us := List.mem_of_getElem? hw
      have m2 : w2 ∈ vs := List.mem_of_getElem? hw2
      have sT := same_upd (o := .tup [.ref w.1, .ref w2.1]) hT
      refine ⟨_, _, rfl, SqT.of upd_same, rfl, _, _, rfl, _, _, rfl, rfl, rfl, ?_⟩
      exact ⟨_, rfl, _, rfl, w.1, w2.1, w.2, w2.2, rfl, (hus w m1).same (s1.trans (s2.trans sT)), (hvs w2 m2).same (s1.trans (s2.trans sT)), (bxs _ (List.mem_map_of_mem m1)).up (by decide), (bys _ (List.mem_map_of_mem m2)).up (by decide), fun H4 t4 s4 f4 => kk2 t4 H4 (sT.trans s4) f4⟩
    · intro H2 ws s2 e2 r2 m2
      refine ⟨D, _, rfl, .inl ⟨SqL.of e2, fun t3 n3 => ?_⟩⟩
      have s3 := same_upd (o := .tup (fr ws)) n3
      refine ⟨by show 2 ≤ sizeLine; decide, fun t4 n4 => ?_⟩
      have s4 := same_upd (o := .tup [.ref t1, .ref t3]) n4
      exact k _ t4 (s1.trans (s2.trans (s3.trans s4))) ⟨t1, t3, ws, SqT.of upd_same, f1.same (s2.trans (s3.trans s4)), SqT.of (s4 _ _ upd_same), r2.same (s3.trans s4), m2⟩
def spScale (K : PySem.W.Frag) : Sp := fun vs H Q _ => ∃ (f a : Addr) (r x : Rat) (xs : List Rat), vs = [.ref f, .ref a] ∧ Fx K H f r ∧ Vx K H a x xs ∧ xs.length ≤ 20 ∧ Bd 60 r ∧ Bd 60 x ∧ (∀ r ∈ xs, Bd 60 r) ∧ ∀ (H' : Hp) (t : Addr), Same H H' → Vx K H' t (r * x) (xs.map fun y => r * y) → Q (.ref t) H'
theorem okScale {fScale : Addr} {fdScale : FuncData} (F : Fun K "scale" "scale" sScale fScale fdScale) (T : Txt mg) {CPartError CNought : Addr} (EX : Exns K mg CPartError CNought)
    {fTimes : Addr} {fdTimes : FuncData} (GTimes : FnOk P w K mg base CX0 2 fTimes fdTimes ["a", "b"] (spTimes K)) (gTimes : mg "times" = some (.ref fTimes)) (kpTimes : PySem.W.keepIn K (.ref fTimes) = true) (bTimes : Binds K fdTimes ["a", "b"] []) :
    FnOk P w K mg base CX0 3 fScale fdScale ["factor", "a"] (spScale K) := by
  refine F.ok scScale (fun vs H Q E h => ?_) (fun cdv A outer s H vs Q E hr h => ?_)
  · obtain ⟨f, a, r, x, xs, rfl, hF, ⟨p, q, us, hA, hp, hq, hus, rfl⟩, h20, br, bx, bxs, k⟩ := h
    rfl
  · obtain ⟨f, a, r, x, xs, rfl, hF, ⟨p, q, us, hA, hp, hq, hus, rfl⟩, h20, br, bx, bxs, k⟩ := h
    refine ⟨_, (pss_one (ps_ret (pe_tup (pa_cons (pe_call GTimes hr (by rfl) gTimes kpTimes bTimes .nil pass0 (pa_cons (pv 0) (pa_cons (pe_ix ix_tup (pv 1) pe_int (fun _ _ => rfl)) pa_nil))) (pa_cons (pe_callTy call_tuple_of (by rfl) T.tuple (by decide +kernel) (pa_cons (pe_lc (own := [("x", 2)]) (by rfl) scScale.nd (pi_tup (pe_ix ix_tup (pv 1) pe_int (fun _ _ => rfl))) (blkOk_by (own := [("x", 2)]) (N := ["factor", "a", "x"]) (sc := defScope sScale) (by decide +kernel)) (fun _ _ _ _ _ => (pg_name (i := 2) scScale.nd rfl (Or.inl rfl))) (fun _ _ _ _ _ => pts_nil) (fun _ _ _ _ _ => (pe_call GTimes hr (by rfl) gTimes kpTimes bTimes .nil pass0 (pa_cons (pv 0) (pa_cons (pv 2) pa_nil))))) pa_nil)) pa_nil))))), ?_⟩
    refine ⟨_, rfl, .ref a, rfl, a, _, 0, _, rfl, rfl, hA, atI_nat (j := 0) rfl, f, p, r, x, rfl, hF, hp, br.up (by decide), bx.up (by decide), fun H1 t1 s1 f1 => ?_⟩
    refine ⟨.ref a, rfl, a, _, 1, _, rfl, rfl, same_tup s1 hA, atI_nat (j := 1) rfl, q, rfl, ⟨_, same_tup s1 hq⟩, fun D hD => ?_⟩
    rw [List.length_map] at h20
    refine lc_row (K := K) (walk_tup (xs := fr us)) ((us.map (·.2)).map fun y => r * y) (by simp [fr_len]) (by rw [fr_len]; omega) hD (fun H2 s2 => same_tup (s1.trans s2) hq) ?_ ?_
    · rintro i c v H2 H3 kk hr s2 ⟨rfl, g1⟩ kk2
      obtain ⟨w, rfl, hw⟩ := fr_get g1
      rw [List.getElem?_map, List.getElem?_map, hw] at hr
      obtain rfl : r * w.2 = c := Option.some.inj hr
      have m1 : w ∈ us := List.mem_of_getElem? hw
      exact ⟨rfl, _, rfl, _, rfl, f, w.1, r, w.2, rfl, hF.same (s1.trans s2), (hus w m1).same (s1.trans s2), br.up (by decide), (bxs _ (List.mem_map_of_mem m1)).up (by decide), fun H4 t4 s4 f4 => kk2 t4 H4 s4 f4⟩
    · intro H2 ws s2 e2 r2 m2
      refine ⟨D, _, rfl, .inl ⟨SqL.of e2, fun t3 n3 => ?_⟩⟩
      have s3 := same_upd (o := .tup (fr ws)) n3
      refine ⟨by show 2 ≤ sizeLine; decide, fun t4 n4 => ?_⟩
      have s4 := same_upd (o := .tup [.ref t1, .ref t3]) n4
      exact k _ t4 (s1.trans (s2.trans (s3.trans s4))) ⟨t1, t3, ws, SqT.of upd_same, f1.same (s2.trans (s3.trans s4)), SqT.of (s4 _ _ upd_same), r2.same (s3.trans s4), m2⟩
def spInner (K : PySem.W.Frag) : Sp := fun vs H Q _ => ∃ (a b : Addr) (x y z u v w : Int), vs = [.ref a, .ref b] ∧ SqT K H a (zs [x, y, z]) ∧ SqT K H b (zs [u, v, w]) ∧ Bz 1000 x ∧ Bz 1000 y ∧ Bz 1000 z ∧ Bz 1000 u ∧ Bz 1000 v ∧ Bz 1000 w ∧ Q (.int (x * u + y * v + z * w)) H
theorem okInner {fInner : Addr} {fdInner : FuncData} (F : Fun K "inner" "inner" sInner fInner fdInner) (T : Txt mg) {CPartError CNought : Addr} (EX : Exns K mg CPartError CNought) :
    FnOk P w K mg base CX0 1 fInner fdInner ["a", "b"] (spInner K) := by
  refine F.ok scInner (fun vs H Q E h => ?_) (fun cdv A outer s H vs Q E hr h => ?_)
  · obtain ⟨a, b, x, y, z, u, v, w, rfl, hA, hB, b1, b2, b3, b4, b5, b6, k⟩ := h
    rfl
  · obtain ⟨a, b, x, y, z, u, v, w, rfl, hA, hB, b1, b2, b3, b4, b5, b6, k⟩ := h
    refine ⟨_, (pss_one (ps_ret (pe_op op_add (pe_op op_add (pe_op op_mulW (pe_ix ix_tup (pv 0) pe_int (fun _ _ => rfl)) (pe_ix ix_tup (pv 1) pe_int (fun _ _ => rfl))) (pe_op op_mulW (pe_ix ix_tup (pv 0) pe_int (fun _ _ => rfl)) (pe_ix ix_tup (pv 1) pe_int (fun _ _ => rfl)))) (pe_op op_mulW (pe_ix ix_tup (pv 0) pe_int (fun _ _ => rfl)) (pe_ix ix_tup (pv 1) pe_int (fun _ _ => rfl)))))), ?_⟩
    walk_at "go"
    exact k
def spPrimitive (K : PySem.W.Frag) : Sp := fun vs H Q _ => ∃ (p : Addr) (x y z : Int), vs = [.ref p] ∧ SqT K H p (zs [x, y, z]) ∧ dv x y z ≠ 0 ∧ (dv x y z).natAbs < 1073741824 ∧
  ∀ (H' : Hp) (t u : Addr), Same H H' → H t = none → H u = none → H' t = some (.tup [.ref u, .int (dv x y z)]) → H' u = some (.tup (zs [x.fdiv (dv x y z), y.fdiv (dv x y z), z.fdiv (dv x y z)])) → Q (.ref t) H'
theorem okPrimitive {fPrimitive : Addr} {fdPrimitive : FuncData} (F : Fun K "primitive" "primitive" sPrimitive fPrimitive fdPrimitive) (T : Txt mg) {CPartError CNought : Addr} (EX : Exns K mg CPartError CNought)
    {fCommon : Addr} {fdCommon : FuncData} (GCommon : FnOk P w K mg base CX0 1 fCommon fdCommon ["a", "b"] (spCommon K)) (gCommon : mg "common" = some (.ref fCommon)) (kpCommon : PySem.W.keepIn K (.ref fCommon) = true) (bCommon : Binds K fdCommon ["a", "b"] []) :
    FnOk P w K mg base CX0 2 fPrimitive fdPrimitive ["a"] (spPrimitive K) := by
  refine F.ok scPrimitive (fun vs H Q E h => ?_) (fun cdv A outer s H vs Q E hr h => ?_)
  · obtain ⟨p, x, y, z, rfl, hS, hd0, hd1, q⟩ := h
    rfl
  · obtain ⟨p, x, y, z, rfl, hS, hd0, hd1, q⟩ := h
    refine ⟨_, (pss_cons (ps_set (i := 1) scPrimitive.nd rfl (Or.inr rfl) (pe_call GCommon hr (by rfl) gCommon kpCommon bCommon .nil pass0 (pa_cons (pe_call GCommon hr (by rfl) gCommon kpCommon bCommon .nil pass0 (pa_cons (pe_ix ix_tup (pv 0) pe_int (fun _ _ => rfl)) (pa_cons (pe_ix ix_tup (pv 0) pe_int (fun _ _ => rfl)) pa_nil))) (pa_cons (pe_ix ix_tup (pv 0) pe_int (fun _ _ => rfl)) pa_nil))))
      (C8.pss_cut (ps_if (pt_cmpR (op_ltT hr.units0) (pv 0) (pe_tup (pa_cons pe_int (pa_cons pe_int (pa_cons pe_int pa_nil)))) (nomark _))
        (pss_one (ps_set (i := 1) scPrimitive.nd rfl (Or.inr rfl) (pe_un un_neg (pv 1))))
        pss_nil)
      (pss_one (ps_ret (pe_tup (pa_cons (pe_callTy call_tuple_of (by rfl) T.tuple (by decide +kernel) (pa_cons (pe_lc (own := [("part", 2)]) (by rfl) scPrimitive.nd (pi_tup (pv 0)) (blkOk_by (own := [("part", 2)]) (N := ["a", "divisor", "part"]) (sc := defScope sPrimitive) (by decide +kernel)) (fun _ _ _ _ _ => (pg_name (i := 2) scPrimitive.nd rfl (Or.inl rfl))) (fun _ _ _ _ _ => pts_nil) (fun _ _ _ _ _ => (pe_op op_fdivN (pv 2) (pv 1)))) pa_nil)) (pa_cons (pv 1) pa_nil))))))), ?_⟩
    refine ⟨.ref p, rfl, p, _, _, _, rfl, rfl, hS, atI_nat (j := 0) rfl, .ref p, rfl, p, _, _, _, rfl, rfl, hS, atI_nat (j := 1) rfl, x, y, rfl, .ref p, rfl, p, _, _, _, rfl, rfl, hS, atI_nat (j := 2) rfl, _, z, rfl, ?_⟩
    refine ⟨fun σ' H' => σ' = [some (.ref p), some (.int (dv x y z)), none] ∧ Same H H', ?_, ?_⟩
    · refine ⟨.ref p, rfl, by decide, fun t ht => ?_⟩
      refine ⟨p, t, [x, y, z], [0, 0, 0], rfl, rfl, same_tup (same_upd ht) hS, SqT.of upd_same, _, rfl, ?_⟩
      cases e : HT.lexLt [x, y, z] [0, 0, 0] with
      | true =>
        refine iteT ⟨_, rfl, _, rfl, ?_, same_upd ht⟩
        unfold dv
        rw [if_pos e]
        rfl
      | false =>
        refine iteF ⟨?_, same_upd ht⟩
        unfold dv
        rw [if_neg (by rw [e]; exact Bool.false_ne_true)]
        rfl
    · rintro σ' H1 ⟨rfl, s1⟩
      refine ⟨.ref p, rfl, p, rfl, ⟨_, same_tup s1 hS⟩, fun D hD => ?_⟩
      have hD0 : ∀ {H2 : Hp}, Same H1 H2 → Same H H2 := fun s2 => s1.trans s2
      refine lc_tup (K := K) (a := p) (xs := zs [x, y, z]) (fun i H2 => Same H1 H2 ∧ H2 D = some (.lst (zs (([x, y, z].map fun v => v.fdiv (dv x y z)).take i)))) ⟨same_upd hD, upd_same⟩ (fun i H2 _ h => same_tup (hD0 h.1) hS) ?_ ?_
      · rintro i v H2 hi ⟨s2, e2⟩
        obtain ⟨n, rfl, hn⟩ := zs_get hi
        refine ⟨rfl, _, rfl, _, rfl, _, _, rfl, rfl, ⟨hd0, hd1⟩, _, e2, zs_len _ (by show 3 ≤ 1000; decide), fun b o e => ?_, ?_⟩
        · rw [upd_ne (ne_of_none e hD)]
          exact s2 b o e
        · rw [upd_same, zs_snoc (fun v => v.fdiv (dv x y z)) hn]
      · rintro H2 ⟨s2, e2⟩
        have e2' : H2 D = some (.lst (zs [x.fdiv (dv x y z), y.fdiv (dv x y z), z.fdiv (dv x y z)])) := e2
        refine ⟨D, _, rfl, .inl ⟨SqL.of e2', fun u hu => ⟨_, rfl, by show 2 ≤ sizeLine; decide, fun t ht => ?_⟩⟩⟩
        have s3 : Same H2 (upd H2 u (.tup (zs [x.fdiv (dv x y z), y.fdiv (dv x y z), z.fdiv (dv x y z)]))) := same_upd hu
        have s4 := same_upd (o := .tup [.ref u, .int (dv x y z)]) ht
        refine q _ t u ((hD0 s2).trans (s3.trans s4)) ((hD0 s2).trans s3 |>.free ht) ((hD0 s2).free hu) upd_same ?_
        rw [upd_ne (ne_of_none (upd_same (H := H2) (a := u)) ht)]
        exact upd_same
def vb (p : Rat × Rat) (b s : Rat) : Prop := p.1 = b ∧ p.2 = s
/-- three values -/
def Tr (K : PySem.W.Frag) (H : Hp) (t : Addr) (b1 s1 b2 s2 b3 s3 : Rat) : Prop := ∃ p q r : Addr, SqT K H t [.ref p, .ref q, .ref r] ∧ Vx K H p b1 [s1] ∧ Vx K H q b2 [s2] ∧ Vx K H r b3 [s3]
theorem Tr.same {K : PySem.W.Frag} {H H' : Hp} {t : Addr} {b1 s1 b2 s2 b3 s3 : Rat} (h : Tr K H t b1 s1 b2 s2 b3 s3) (e : Same H H') : Tr K H' t b1 s1 b2 s2 b3 s3 := by
  obtain ⟨p, q, r, h1, h2, h3, h4⟩ := h
  exact ⟨p, q, r, same_tup e h1, h2.same e, h3.same e, h4.same e⟩
/-- the i-th of three -/
def th {α : Type} (a b c : α) : Nat → α
  | 0 => a
  | 1 => b
  | _ => c
theorem th_get {α : Type} {a b c : α} {i : Nat} {u : α} (h : [a, b, c][i]? = some u) : i < 3 ∧ u = th a b c i := by
  have hi : i < 3 := (List.getElem?_eq_some_iff.mp h).1
  refine ⟨hi, ?_⟩
  obtain rfl | rfl | rfl : i = 0 ∨ i = 1 ∨ i = 2 := by omega
  all_goals exact (Option.some.inj h).symm
theorem th_all {α : Type} {P : α → Prop} {a b c : α} (h1 : P a) (h2 : P b) (h3 : P c) (i : Nat) : P (th a b c i) := by
  unfold th
  split
  · exact h1
  · exact h2
  · exact h3
theorem div_one (n : Int) : Rat.divInt n 1 = (n : Rat) := by
  exact (Rat.divInt_ofNat n 1).trans (Rat.mkRat_one n)
theorem bd_int {n : Int} {k : Nat} (h : Bz k n) (hk : 0 < k) : Bd k (n : Rat) :=
  ⟨h, by
    show 1 < 2 ^ k
    exact Nat.one_lt_two_pow (by omega)⟩
theorem one3 {xs : List V} (h : xs.length = 3) : ∃ a b c, xs = [a, b, c] := by
  match xs, h with
  | [a, b, c], _ => exact ⟨a, b, c, rfl⟩
theorem one1 {xs : List V} (h : xs.length = 1) : ∃ a, xs = [a] := by
  match xs, h with
  | [a], _ => exact ⟨a, rfl⟩
def spSpread (K : PySem.W.Frag) : Sp := fun vs H Q _ => ∃ (n t : Addr) (x y z : Int) (b1 s1 b2 s2 b3 s3 : Rat), vs = [.ref n, .ref t] ∧ SqT K H n (zs [x, y, z]) ∧ Tr K H t b1 s1 b2 s2 b3 s3 ∧ Bz 12 x ∧ Bz 12 y ∧ Bz 12 z ∧ Bd 10 b1 ∧ Bd 10 s1 ∧ Bd 10 b2 ∧ Bd 10 s2 ∧ Bd 10 b3 ∧ Bd 10 s3 ∧
  ∀ (H' : Hp) (t : Addr), Same H H' → Vx K H' t ((x : Rat) * b1 + (y : Rat) * b2 + (z : Rat) * b3) [(x : Rat) * s1 + (y : Rat) * s2 + (z : Rat) * s3] → Q (.ref t) H'
theorem okSpread {fSpread : Addr} {fdSpread : FuncData} (F : Fun K "spread" "spread" sSpread fSpread fdSpread) (T : Txt mg) {CPartError CNought : Addr} (EX : Exns K mg CPartError CNought)
    {fAdd : Addr} {fdAdd : FuncData} (GAdd : FnOk P w K mg base CX0 3 fAdd fdAdd ["a", "b"] (spAdd K)) (gAdd : mg "add" = some (.ref fAdd)) (kpAdd : PySem.W.keepIn K (.ref fAdd) = true) (bAdd : Binds K fdAdd ["a", "b"] [])
    {fScale : Addr} {fdScale : FuncData} (GScale : FnOk P w K mg base CX0 3 fScale fdScale ["factor", "a"] (spScale K)) (gScale : mg "scale" = some (.ref fScale)) (kpScale : PySem.W.keepIn K (.ref fScale) = true) (bScale : Binds K fdScale ["factor", "a"] [])
    {fFraction : Addr} {fdFraction : FuncData} (GFraction : FnOk P w K mg base (L2.CX P w) 1 fFraction fdFraction ["number", "divisor"] (spFraction K CNought)) (gFraction : mg "fraction" = some (.ref fFraction)) (kpFraction : PySem.W.keepIn K (.ref fFraction) = true) (bFraction : Binds K fdFraction ["number", "divisor"] []) {dsFraction : List Value} (vdFraction : Vals [.int 1] dsFraction) (bdFraction : Binds K fdFraction ["number", "divisor"] dsFraction) :
    FnOk P w K mg base CX0 4 fSpread fdSpread ["normal", "point"] (spSpread K) := by
  refine F.ok scSpread (fun vs H Q E h => ?_) (fun cdv A outer s H vs Q E hr h => ?_)
  · obtain ⟨n, t, x, y, z, b1, s1, b2, s2, b3, s3, rfl, hN, ⟨p, q, r, hT, hp, hq, hr3⟩, x1, x2, x3, c1, c2, c3, c4, c5, c6, k⟩ := h
    rfl
  · obtain ⟨n, t, x, y, z, b1, s1, b2, s2, b3, s3, rfl, hN, ⟨p, q, r, hT, hp, hq, hr3⟩, x1, x2, x3, c1, c2, c3, c4, c5, c6, k⟩ := h
    refine ⟨_, (pss_cons (ps_asg (pe_lc (own := [("part", 5), ("found", 6)]) (by rfl) scSpread.nd (pi_zipB (by rfl) T.zip (pa_cons (pv 0) (pa_cons (pv 1) pa_nil))) (blkOk_by (own := [("part", 5), ("found", 6)]) (N := ["normal", "point", "x", "y", "z", "part", "found"]) (sc := defScope sSpread) (by decide +kernel)) (fun _ _ _ _ _ => (show PG _ _ (gTup K 2 _) from (pg_tup rfl (pgs_cons (pg_name (i := 5) scSpread.nd rfl (Or.inl rfl)) (pgs_cons (pg_name (i := 6) scSpread.nd rfl (Or.inl rfl)) pgs_nil))))) (fun _ _ _ _ _ => pts_nil) (fun _ _ _ _ _ => (pe_call GScale hr (by rfl) gScale kpScale bScale .nil pass0 (pa_cons (pe_call GFraction (hr.mono (by decide)) (by rfl) gFraction kpFraction bdFraction vdFraction passL (pa_cons (pv 5) pa_nil)) (pa_cons (pv 6) pa_nil))))) (pg_unl rfl (pgs_cons (pg_name (i := 2) scSpread.nd rfl (Or.inl rfl)) (pgs_cons (pg_name (i := 3) scSpread.nd rfl (Or.inl rfl)) (pgs_cons (pg_name (i := 4) scSpread.nd rfl (Or.inl rfl)) pgs_nil)))))
      (pss_one (ps_ret (pe_call GAdd hr (by rfl) gAdd kpAdd bAdd .nil pass0 (pa_cons (pe_call GAdd hr (by rfl) gAdd kpAdd bAdd .nil pass0 (pa_cons (pv 2) (pa_cons (pv 3) pa_nil))) (pa_cons (pv 4) pa_nil)))))), ?_⟩
    refine ⟨_, rfl, _, rfl, true, true, n, t, _, _, rfl, hN, hT, fun D hD => ?_⟩
    refine lc_obj (walk_zipB (f := true) (g := true) (xs := zs [x, y, z]) (ys := [.ref p, .ref q, .ref r]) rfl) (fun i H v => ∃ a : Addr, v = .ref a ∧ Vx K H a ((th x y z i : Int) * th b1 b2 b3 i) [(th x y z i : Int) * th s1 s2 s3 i]) (fun {i H H' v D acc} h e s => by
      obtain ⟨a, h1, h2⟩ := h
      exact ⟨a, h1, over_vx h2 e s⟩) (by show 3 ≤ 1000; decide) hD (fun H2 s2 => ⟨same_tup s2 hN, same_tup s2 hT⟩) ?_ ?_
    · rintro i v H2 H3 kk hi s2' ⟨T, u, u2, rfl, hT', rfl, g1, g2⟩ kk2
      obtain ⟨zz, rfl, hz⟩ := zs_get g1
      obtain ⟨hi3, rfl⟩ := th_get hz
      obtain ⟨_, rfl⟩ := th_get g2
      have sT := same_upd (o := .tup [.int (th x y z i), th (.ref p) (.ref q) (.ref r) i]) hT'
      have bx : Bz 12 (th x y z i) := th_all (P := Bz 12) x1 x2 x3 i
      obtain ⟨a, ea, ha⟩ : ∃ a : Addr, th (V.ref p) (.ref q) (.ref r) i = .ref a ∧ Vx K H a (th b1 b2 b3 i) [th s1 s2 s3 i] := by
        obtain rfl | rfl | rfl : i = 0 ∨ i = 1 ∨ i = 2 := by omega
        · exact ⟨p, rfl, hp⟩
        · exact ⟨q, rfl, hq⟩
        · exact ⟨r, rfl, hr3⟩
      rw [ea] at sT ⊢
      generalize hU : upd H2 T (.tup [.int (th x y z i), .ref a]) = H4 at sT
      have eT : H4 T = some (.tup [.int (th x y z i), .ref a]) := at_hu hU
      refine ⟨_, _, rfl, SqT.of eT, rfl, _, _, rfl, _, _, rfl, rfl, rfl, ?_⟩
      walk_at "go"
      refine ⟨bz_of (n := 2000) (by show 1 < 2 ^ 2000; exact Nat.one_lt_two_pow (by decide)), fun h => absurd h (by decide), fun _ H5 t5 s5 f5 => ?_⟩
      rw [div_one] at f5
      walk_at "go"
      refine ⟨t5, a, _, _, [th s1 s2 s3 i], rfl, f5, ha.same (s2'.trans (sT.trans s5)), by show 1 ≤ 20; decide, (bd_int bx (by decide)).up (by decide), (th_all (P := Bd 10) c1 c3 c5 i).up (by decide), (fun r hr => by rw [List.mem_singleton.mp hr]; exact (th_all (P := Bd 10) c2 c4 c6 i).up (by decide)), fun H6 t6 s6 f6 => ?_⟩
      exact kk2 _ H6 (sT.trans (s5.trans s6)) ⟨t6, rfl, f6⟩
    · intro H2 us s2' e2 l2 r2
      obtain ⟨a, b, c, rfl⟩ := one3 (l2.trans rfl)
      obtain ⟨a, rfl, ha⟩ := r2 0 _ rfl
      obtain ⟨b, rfl, hb⟩ := r2 1 _ rfl
      obtain ⟨c, rfl, hc⟩ := r2 2 _ rfl
      refine ⟨D, _, rfl, SqL.of e2, rfl, _, _, rfl, _, _, rfl, _, _, rfl, rfl, ?_⟩
      walk_at "go"
      have m1 := fun {v c : Int} {b : Rat} (h : Bz 12 v) (h2 : Bd 10 b) => (bd_int h (by decide)).mul h2
      refine ⟨a, b, _, _, [_], [_], rfl, ha, hb, rfl, by show 1 ≤ 20; decide, ((bd_int x1 (by decide)).mul c1).up (by decide), ((bd_int x2 (by decide)).mul c3).up (by decide), (fun r hr => by rw [List.mem_singleton.mp hr]; exact ((bd_int x1 (by decide)).mul c2).up (by decide)), (fun r hr => by rw [List.mem_singleton.mp hr]; exact ((bd_int x2 (by decide)).mul c4).up (by decide)), fun H3 t3 s3' f3 => ?_⟩
      walk_at "go"
      refine ⟨t3, c, _, _, [_], [_], rfl, f3, hc.same s3', rfl, by show 1 ≤ 20; decide, (((bd_int x1 (by decide)).mul c1).add ((bd_int x2 (by decide)).mul c3)).up (by decide), ((bd_int x3 (by decide)).mul c5).up (by decide), (fun r hr => by rw [List.mem_singleton.mp hr]; exact (((bd_int x1 (by decide)).mul c2).add ((bd_int x2 (by decide)).mul c4)).up (by decide)), (fun r hr => by rw [List.mem_singleton.mp hr]; exact ((bd_int x3 (by decide)).mul c6).up (by decide)), fun H4 t4 s4 f4 => ?_⟩
      exact k H4 t4 (s2'.trans (s3'.trans s4)) f4
/-- a side: its origin w, its normal, its offset along one parameter, which half -/
def Sd (K : PySem.W.Frag) (H : Hp) (t : Addr) (w : V) (x y z : Int) (b s : Rat) (k : Bool) : Prop := ∃ n o : Addr, SqT K H t [w, .ref n, .ref o, .bl k] ∧ SqT K H n (zs [x, y, z]) ∧ Vx K H o b [s]
theorem Sd.same {K : PySem.W.Frag} {H H' : Hp} {t : Addr} {w : V} {x y z : Int} {b s : Rat} {k : Bool} (h : Sd K H t w x y z b s k) (e : Same H H') : Sd K H' t w x y z b s k := by
  obtain ⟨n, o, h1, h2, h3⟩ := h
  exact ⟨n, o, same_tup e h1, same_tup e h2, h3.same e⟩
theorem Sd.over {K : PySem.W.Frag} {H H' : Hp} {t D : Addr} {w : V} {x y z : Int} {b s : Rat} {k : Bool} {ys : List V} (h : Sd K H t w x y z b s k) (hl : H D = some (.lst ys)) (e : ∀ b o, b ≠ D → H b = some o → H' b = some o) : Sd K H' t w x y z b s k := by
  obtain ⟨n, o, h1, h2, h3⟩ := h
  exact ⟨n, o, over_tup h1 hl e, over_tup h2 hl e, over_vx h3 hl e⟩
/-- an origin -/
def Og (K : PySem.W.Frag) (H : Hp) (w : V) (m : Int) (ks : List Int) : Prop := ∃ a q : Addr, w = .ref a ∧ SqT K H a [.int m, .ref q, .str "half"] ∧ SqT K H q (zs ks)
theorem Og.same {K : PySem.W.Frag} {H H' : Hp} {w : V} {m : Int} {ks : List Int} (h : Og K H w m ks) (e : Same H H') : Og K H' w m ks := by
  obtain ⟨a, q, h1, h2, h3⟩ := h
  exact ⟨a, q, h1, same_tup e h2, same_tup e h3⟩
theorem Og.over {K : PySem.W.Frag} {H H' : Hp} {D : Addr} {w : V} {m : Int} {ks : List Int} {ys : List V} (h : Og K H w m ks) (hl : H D = some (.lst ys)) (e : ∀ b o, b ≠ D → H b = some o → H' b = some o) : Og K H' w m ks := by
  obtain ⟨a, q, h1, h2, h3⟩ := h
  exact ⟨a, q, h1, over_tup h2 hl e, over_tup h3 hl e⟩
/-- a tool with one side -/
def Tl (K : PySem.W.Frag) (H : Hp) (t : Addr) (m : Int) (ks : List Int) (x y z : Int) (b s : Rat) (k : Bool) : Prop := ∃ (l g sd : Addr) (w : V), SqT K H t [.str "cut", .ref l, .ref g] ∧ SqL K H l [.ref sd] ∧ SqT K H g [.str "side", .int 0] ∧ Sd K H sd w x y z b s k ∧ Og K H w m ks
theorem Tl.same {K : PySem.W.Frag} {H H' : Hp} {t : Addr} {m : Int} {ks : List Int} {x y z : Int} {b s : Rat} {k : Bool} (h : Tl K H t m ks x y z b s k) (e : Same H H') : Tl K H' t m ks x y z b s k := by
  obtain ⟨l, g, sd, w, h1, h2, h3, h4, h5⟩ := h
  exact ⟨l, g, sd, w, same_tup e h1, e.seq h2, same_tup e h3, h4.same e, h5.same e⟩
def eqb (a b : Bool) : Bool := decide (V.bl a = V.bl b)
def iv (d : Int) : Rat := Rat.divInt 1 d
def spSideOf (K : PySem.W.Frag) : Sp := fun vs H Q _ => ∃ (w : V) (n o : Addr) (x y z : Int) (b s : Rat) (k : Bool), vs = [w, .ref n, .ref o, .bl k] ∧ SqT K H n (zs [x, y, z]) ∧ Vx K H o b [s] ∧ dv x y z ≠ 0 ∧ (dv x y z).natAbs < 1073741824 ∧ Bd 60 b ∧ Bd 60 s ∧
  ∀ (H' : Hp) (t : Addr), Same H H' → Sd K H' t w (x.fdiv (dv x y z)) (y.fdiv (dv x y z)) (z.fdiv (dv x y z)) (iv (dv x y z) * b) (iv (dv x y z) * s) (eqb k (decide (0 < dv x y z))) → Q (.ref t) H'
theorem okSideOf {fSideOf : Addr} {fdSideOf : FuncData} (F : Fun K "side_of" "side_of" sSideOf fSideOf fdSideOf) (T : Txt mg) {CPartError CNought : Addr} (EX : Exns K mg CPartError CNought)
    {fPrimitive : Addr} {fdPrimitive : FuncData} (GPrimitive : FnOk P w K mg base CX0 2 fPrimitive fdPrimitive ["a"] (spPrimitive K)) (gPrimitive : mg "primitive" = some (.ref fPrimitive)) (kpPrimitive : PySem.W.keepIn K (.ref fPrimitive) = true) (bPrimitive : Binds K fdPrimitive ["a"] [])
    {fScale : Addr} {fdScale : FuncData} (GScale : FnOk P w K mg base CX0 3 fScale fdScale ["factor", "a"] (spScale K)) (gScale : mg "scale" = some (.ref fScale)) (kpScale : PySem.W.keepIn K (.ref fScale) = true) (bScale : Binds K fdScale ["factor", "a"] [])
    {fFraction : Addr} {fdFraction : FuncData} (GFraction : FnOk P w K mg base (L2.CX P w) 1 fFraction fdFraction ["number", "divisor"] (spFraction K CNought)) (gFraction : mg "fraction" = some (.ref fFraction)) (kpFraction : PySem.W.keepIn K (.ref fFraction) = true) (bFraction : Binds K fdFraction ["number", "divisor"] []) {dsFraction : List Value} (vdFraction : Vals [.int 1] dsFraction) (bdFraction : Binds K fdFraction ["number", "divisor"] dsFraction) :
    FnOk P w K mg base CX0 4 fSideOf fdSideOf ["origin", "direction", "offset", "above"] (spSideOf K) := by
  refine F.ok scSideOf (fun vs H Q E h => ?_) (fun cdv A outer s H vs Q E hr h => ?_)
  · obtain ⟨w, n, o, x, y, z, b, s, k, rfl, hN, hO, hd0, hd1, bb, bs, q⟩ := h
    rfl
  · obtain ⟨w, n, o, x, y, z, b, s, k, rfl, hN, hO, hd0, hd1, bb, bs, q⟩ := h
    refine ⟨_, (pss_cons (ps_asg (pe_call GPrimitive (hr.mono (by decide)) (by rfl) gPrimitive kpPrimitive bPrimitive .nil pass0 (pa_cons (pv 1) pa_nil)) (pg_tup rfl (pgs_cons (pg_name (i := 4) scSideOf.nd rfl (Or.inl rfl)) (pgs_cons (pg_name (i := 5) scSideOf.nd rfl (Or.inl rfl)) pgs_nil))))
      (pss_one (ps_ret (pe_tup (pa_cons (pv 0) (pa_cons (pv 4) (pa_cons (pe_call GScale hr (by rfl) gScale kpScale bScale .nil pass0 (pa_cons (pe_call GFraction (hr.mono (by decide)) (by rfl) gFraction kpFraction bFraction .nil passL (pa_cons pe_int (pa_cons (pv 5) pa_nil))) (pa_cons (pv 2) pa_nil))) (pa_cons (pe_cmpR op_eq (pv 3) (pe_cmpR op_gt (pv 5) pe_int (nomark _)) (nomark _)) pa_nil)))))))), ?_⟩
    walk_at "go"
    refine ⟨n, x, y, z, rfl, hN, hd0, hd1, fun H1 t u s1 _ _ et eu => ?_⟩
    have ht : SqT K H1 t [.ref u, .int (dv x y z)] := SqT.of et
    have hu : SqT K H1 u (zs [x.fdiv (dv x y z), y.fdiv (dv x y z), z.fdiv (dv x y z)]) := SqT.of eu
    have bD : Bz 30 (dv x y z) := hd1
    walk_at "go"
    refine ⟨bD.up (by decide), fun h => absurd h hd0, fun _ H2 t2 s2 f2 => ?_⟩
    walk_at "go"
    refine ⟨t2, o, _, b, [s], rfl, f2, hO.same (s1.trans s2), by show 1 ≤ 20; decide, (bd_div hd0 (bz_of (n := 30) (by decide)) bD).up (by decide), bb, (fun r hr => by rw [List.mem_singleton.mp hr]; exact bs), fun H3 t3 s3 f3 => ?_⟩
    walk_at "go"
    refine ⟨tn rfl, fun t4 nt4 => ?_⟩
    generalize hUt4 : upd _ _ (HO.tup _) = H4
    have s4 := same_hu hUt4 nt4
    have eh4 := at_hu hUt4
    have h4 := SqT.of (K := K) eh4
    clear hUt4
    exact q H4 t4 (s1.trans (s2.trans (s3.trans s4))) ⟨u, t3, h4, same_tup (s2.trans (s3.trans s4)) hu, f3.same s4⟩
theorem kv_op {n : V} : valV [((Sum.inr "op" : Key), V.str "cut"), (Sum.inr "direction", n), (Sum.inr "spot", .non)] (Sum.inr "op") = some (.str "cut") := rfl
theorem kv_dir {n : V} : valV [((Sum.inr "op" : Key), V.str "cut"), (Sum.inr "direction", n), (Sum.inr "spot", .non)] (Sum.inr "direction") = some n := rfl
def spHalfTool (K : PySem.W.Frag) : Sp := fun vs H Q _ => ∃ (m : Int) (f n o : Addr) (x y z : Int) (b s : Rat), vs = [.int m, .ref f, .ref o] ∧ H f = some (.dK [(Sum.inr "op", .str "cut"), (Sum.inr "direction", .ref n), (Sum.inr "spot", .non)]) ∧ SqT K H n (zs [x, y, z]) ∧ Vx K H o b [s] ∧ dv x y z ≠ 0 ∧ (dv x y z).natAbs < 1073741824 ∧ Bd 60 b ∧ Bd 60 s ∧
  ∀ (H' : Hp) (t : Addr), Same H H' → Tl K H' t m [] (x.fdiv (dv x y z)) (y.fdiv (dv x y z)) (z.fdiv (dv x y z)) (iv (dv x y z) * b) (iv (dv x y z) * s) (eqb true (decide (0 < dv x y z))) → Q (.ref t) H'
theorem okHalfTool {fHalfTool : Addr} {fdHalfTool : FuncData} (F : Fun K "half_tool" "half_tool" sHalfTool fHalfTool fdHalfTool) (T : Txt mg) {CPartError CNought : Addr} (EX : Exns K mg CPartError CNought)
    {fSideOf : Addr} {fdSideOf : FuncData} (GSideOf : FnOk P w K mg base CX0 4 fSideOf fdSideOf ["origin", "direction", "offset", "above"] (spSideOf K)) (gSideOf : mg "side_of" = some (.ref fSideOf)) (kpSideOf : PySem.W.keepIn K (.ref fSideOf) = true) (bSideOf : Binds K fdSideOf ["origin", "direction", "offset", "above"] []) :
    FnOk P w K mg base CX0 5 fHalfTool fdHalfTool ["number", "feature", "offset"] (spHalfTool K) := by
  refine F.ok scHalfTool (fun vs H Q E h => ?_) (fun cdv A outer s H vs Q E hr h => ?_)
  · obtain ⟨m, f, n, o, x, y, z, b, s, rfl, hF, hN, hO, hd0, hd1, bb, bs, q⟩ := h
    rfl
  · obtain ⟨m, f, n, o, x, y, z, b, s, rfl, hF, hN, hO, hd0, hd1, bb, bs, q⟩ := h
    refine ⟨_, (pss_one (ps_ret (pe_tup (pa_cons (pe_dget (hu_of hr) (pv 1) pe_str (fun _ _ => rfl)) (pa_cons (pe_lst (pa_cons (pe_call GSideOf hr (by rfl) gSideOf kpSideOf bSideOf .nil pass0 (pa_cons (pe_tup (pa_cons (pv 0) (pa_cons (pe_tup pa_nil) (pa_cons pe_str pa_nil)))) (pa_cons (pe_dget (hu_of hr) (pv 1) pe_str (fun _ _ => rfl)) (pa_cons (pv 2) (pa_cons pe_bl pa_nil))))) pa_nil)) (pa_cons (pe_tup (pa_cons pe_str (pa_cons pe_int pa_nil))) pa_nil)))))), ?_⟩
    refine ⟨_, rfl, f, _, rfl, (kv_op (n := .ref n)) ▸ DGet.k (k := Sum.inr "op") hF, ?_⟩
    walk_at "go"
    refine ⟨tn rfl, fun t1 nt1 => ?_⟩
    generalize hUt1 : upd _ _ (HO.tup _) = H1
    have s1 := same_hu hUt1 nt1
    have eh1 := at_hu hUt1
    have h1 := SqT.of (K := K) eh1
    clear hUt1
    walk_at "go"
    refine ⟨tn rfl, fun t2 nt2 => ?_⟩
    generalize hUt2 : upd _ _ (HO.tup _) = H2
    have s2 := same_hu hUt2 nt2
    have eh2 := at_hu hUt2
    have h2 := SqT.of (K := K) eh2
    clear hUt2
    refine ⟨_, rfl, f, _, rfl, (kv_dir (n := .ref n)) ▸ DGet.k (k := Sum.inr "direction") ((s1.trans s2) _ _ hF), ?_⟩
    walk_at "go"
    have s12 := s1.trans s2
    refine ⟨_, n, o, x, y, z, b, s, true, rfl, same_tup s12 hN, hO.same s12, hd0, hd1, bb, bs, fun H3 sd s3 hsd => ?_⟩
    refine ⟨tn rfl, fun l nl => ?_⟩
    generalize hUl : upd _ _ (HO.lst _) = H4
    have s4 := same_hu hUl nl
    have eh4 := at_hu hUl
    have h4 := SqL.of (K := K) eh4
    clear hUl
    walk_at "go"
    refine ⟨tn rfl, fun g ng => ?_⟩
    generalize hUg : upd _ _ (HO.tup _) = H5
    have s5 := same_hu hUg ng
    have eh5 := at_hu hUg
    have h5 := SqT.of (K := K) eh5
    clear hUg
    walk_at "go"
    refine ⟨tn rfl, fun t6 nt6 => ?_⟩
    generalize hUt6 : upd _ _ (HO.tup _) = H6
    have s6 := same_hu hUt6 nt6
    have eh6 := at_hu hUt6
    have h6 := SqT.of (K := K) eh6
    clear hUt6
    exact q H6 t6 (s12.trans (s3.trans (s4.trans (s5.trans s6)))) ⟨l, g, sd, _, h6, (s5.trans s6).seq h4, same_tup s6 h5, hsd.same (s4.trans (s5.trans s6)), ⟨t2, t1, rfl, same_tup (s3.trans (s4.trans (s5.trans s6))) h2, same_tup (s2.trans (s3.trans (s4.trans (s5.trans s6)))) h1⟩⟩
def spCopiedOrigin (K : PySem.W.Frag) : Sp := fun vs H Q _ => ∃ (m k m0 : Int) (ks : List Int) (w : V), vs = [.int m, .int k, w] ∧ Og K H w m0 ks ∧ ks.length ≤ 9 ∧ ∀ (H' : Hp) (t : Addr), Same H H' → Og K H' (.ref t) m (k :: ks) → Q (.ref t) H'
theorem okCopiedOrigin {fCopiedOrigin : Addr} {fdCopiedOrigin : FuncData} (F : Fun K "copied_origin" "copied_origin" sCopiedOrigin fCopiedOrigin fdCopiedOrigin) (T : Txt mg) {CPartError CNought : Addr} (EX : Exns K mg CPartError CNought) :
    FnOk P w K mg base CX0 1 fCopiedOrigin fdCopiedOrigin ["number", "k", "origin"] (spCopiedOrigin K) := by
  refine F.ok scCopiedOrigin (fun vs H Q E h => ?_) (fun cdv A outer s H vs Q E hr h => ?_)
  · obtain ⟨m, k, m0, ks, w, rfl, ⟨a, qa, rfl, hA, hQ⟩, hl, q⟩ := h
    rfl
  · obtain ⟨m, k, m0, ks, w, rfl, ⟨a, qa, rfl, hA, hQ⟩, hl, q⟩ := h
    refine ⟨_, (pss_one (ps_ret (pe_tup (pa_cons (pv 0) (pa_cons (pe_tup (pa_cons (pv 1) (StX.pa_star (pe_ix ix_tup (pv 2) pe_int (fun _ _ => rfl)) pa_nil))) (pa_cons (pe_ix ix_tup (pv 2) pe_int (fun _ _ => rfl)) pa_nil)))))), ?_⟩
    walk_at "go"
    refine ⟨qa, _, rfl, .inl hQ, ?_⟩
    walk_at "go"
    refine ⟨Nat.le_trans (show (V.int k :: (zs ks ++ [])).length ≤ 1000 by simp; omega) (by decide), fun t1 n1 => ?_⟩
    have s1 : Same H (upd H t1 (.tup (V.int k :: (zs ks ++ [])))) := same_upd n1
    have h1 : SqT K (upd H t1 (.tup (V.int k :: (zs ks ++ [])))) t1 (zs (k :: ks)) := SqT.of (by rw [upd_same, List.append_nil]; rfl)
    generalize upd H t1 (.tup (V.int k :: (zs ks ++ []))) = H1 at s1 h1
    walk_at "go"
    refine ⟨tn rfl, fun t2 nt2 => ?_⟩
    generalize hUt2 : upd _ _ (HO.tup _) = H2
    have s2 := same_hu hUt2 nt2
    have eh2 := at_hu hUt2
    have h2 := SqT.of (K := K) eh2
    clear hUt2
    exact q H2 t2 (s1.trans s2) ⟨t2, t1, rfl, h2, same_tup s2 h1⟩
def spShiftedTool (K : PySem.W.Frag) : Sp := fun vs H Q _ => ∃ (m k m0 : Int) (ks : List Int) (tl t : Addr) (x y z : Int) (b s b1 s1 b2 s2 b3 s3 : Rat) (ab : Bool), vs = [.int m, .int k, .ref tl, .ref t] ∧ Tl K H tl m0 ks x y z b s ab ∧ Tr K H t b1 s1 b2 s2 b3 s3 ∧ ks.length ≤ 9 ∧ Bz 3 x ∧ Bz 3 y ∧ Bz 3 z ∧ Bz 4 k ∧ Bd 12 b ∧ Bd 12 s ∧ Bd 4 b1 ∧ Bd 4 s1 ∧ Bd 4 b2 ∧ Bd 4 s2 ∧ Bd 4 b3 ∧ Bd 4 s3 ∧
  ∀ (H' : Hp) (t : Addr), Same H H' → Tl K H' t m (k :: ks) x y z (b + (k : Rat) * ((x : Rat) * b1 + (y : Rat) * b2 + (z : Rat) * b3)) (s + (k : Rat) * ((x : Rat) * s1 + (y : Rat) * s2 + (z : Rat) * s3)) ab → Q (.ref t) H'
theorem okShiftedTool {fShiftedTool : Addr} {fdShiftedTool : FuncData} (F : Fun K "shifted_tool" "shifted_tool" sShiftedTool fShiftedTool fdShiftedTool) (T : Txt mg) {CPartError CNought : Addr} (EX : Exns K mg CPartError CNought)
    {fAdd : Addr} {fdAdd : FuncData} (GAdd : FnOk P w K mg base CX0 3 fAdd fdAdd ["a", "b"] (spAdd K)) (gAdd : mg "add" = some (.ref fAdd)) (kpAdd : PySem.W.keepIn K (.ref fAdd) = true) (bAdd : Binds K fdAdd ["a", "b"] [])
    {fScale : Addr} {fdScale : FuncData} (GScale : FnOk P w K mg base CX0 3 fScale fdScale ["factor", "a"] (spScale K)) (gScale : mg "scale" = some (.ref fScale)) (kpScale : PySem.W.keepIn K (.ref fScale) = true) (bScale : Binds K fdScale ["factor", "a"] [])
    {fFraction : Addr} {fdFraction : FuncData} (GFraction : FnOk P w K mg base (L2.CX P w) 1 fFraction fdFraction ["number", "divisor"] (spFraction K CNought)) (gFraction : mg "fraction" = some (.ref fFraction)) (kpFraction : PySem.W.keepIn K (.ref fFraction) = true) (bFraction : Binds K fdFraction ["number", "divisor"] []) {dsFraction : List Value} (vdFraction : Vals [.int 1] dsFraction) (bdFraction : Binds K fdFraction ["number", "divisor"] dsFraction)
    {fSpread : Addr} {fdSpread : FuncData} (GSpread : FnOk P w K mg base CX0 4 fSpread fdSpread ["normal", "point"] (spSpread K)) (gSpread : mg "spread" = some (.ref fSpread)) (kpSpread : PySem.W.keepIn K (.ref fSpread) = true) (bSpread : Binds K fdSpread ["normal", "point"] [])
    {fCopiedOrigin : Addr} {fdCopiedOrigin : FuncData} (GCopiedOrigin : FnOk P w K mg base CX0 1 fCopiedOrigin fdCopiedOrigin ["number", "k", "origin"] (spCopiedOrigin K)) (gCopiedOrigin : mg "copied_origin" = some (.ref fCopiedOrigin)) (kpCopiedOrigin : PySem.W.keepIn K (.ref fCopiedOrigin) = true) (bCopiedOrigin : Binds K fdCopiedOrigin ["number", "k", "origin"] []) :
    FnOk P w K mg base CX0 5 fShiftedTool fdShiftedTool ["number", "k", "tool", "shift"] (spShiftedTool K) := by
  refine F.ok scShiftedTool (fun vs H Q E h => ?_) (fun cdv A outer s H vs Q E hr h => ?_)
  · obtain ⟨m, k, m0, ks, tl, t, x, y, z, b, s, b1, s1, b2, s2, b3, s3, ab, rfl, ⟨l, g, sd, w, hT, hL, hG, ⟨n, o, hS, hN, hO⟩, hW⟩, hR, hks, d1, d2, d3, bk, cb, cs, c1, c2, c3, c4, c5, c6, q⟩ := h
    rfl
  · obtain ⟨m, k, m0, ks, tl, t, x, y, z, b, s, b1, s1, b2, s2, b3, s3, ab, rfl, ⟨l, g, sd, w, hT, hL, hG, ⟨n, o, hS, hN, hO⟩, hW⟩, hR, hks, d1, d2, d3, bk, cb, cs, c1, c2, c3, c4, c5, c6, q⟩ := h
    refine ⟨_, (pss_cons (ps_asg (pv 2) (pg_tup rfl (pgs_cons (pg_name (i := 4) scShiftedTool.nd rfl (Or.inl rfl)) (pgs_cons (pg_name (i := 5) scShiftedTool.nd rfl (Or.inl rfl)) (pgs_cons (pg_name (i := 6) scShiftedTool.nd rfl (Or.inl rfl)) pgs_nil)))))
      (pss_cons (ps_set (i := 7) scShiftedTool.nd rfl (Or.inl rfl) (pe_lst pa_nil))
      (C8.pss_cut (ps_for PassesOwn.never rfl (pi_list (pv 5)) (pg_tup rfl (pgs_cons (pg_name (i := 8) scShiftedTool.nd rfl (Or.inl rfl)) (pgs_cons (pg_name (i := 9) scShiftedTool.nd rfl (Or.inl rfl)) (pgs_cons (pg_name (i := 10) scShiftedTool.nd rfl (Or.inl rfl)) (pgs_cons (pg_name (i := 11) scShiftedTool.nd rfl (Or.inl rfl)) pgs_nil)))))
        (pss_cons (ps_set (i := 12) scShiftedTool.nd rfl (Or.inl rfl) (pe_call GAdd (hr.mono (by decide)) (by rfl) gAdd kpAdd bAdd .nil pass0 (pa_cons (pv 10) (pa_cons (pe_call GScale (hr.mono (by decide)) (by rfl) gScale kpScale bScale .nil pass0 (pa_cons (pe_call GFraction (hr.mono (by decide)) (by rfl) gFraction kpFraction bdFraction vdFraction passL (pa_cons (pv 1) pa_nil)) (pa_cons (pe_call GSpread hr (by rfl) gSpread kpSpread bSpread .nil pass0 (pa_cons (pv 9) (pa_cons (pv 3) pa_nil))) pa_nil))) pa_nil))))
        (pss_one (ps_expr (pe_bm PySem.F.plainAttrs_list PySem.F.slot_list_append PySem.F.type_list_append mt_append (pv 7) (pa_cons (pe_tup (pa_cons (pe_call GCopiedOrigin (hr.mono (by decide)) (by rfl) gCopiedOrigin kpCopiedOrigin bCopiedOrigin .nil pass0 (pa_cons (pv 0) (pa_cons (pv 1) (pa_cons (pv 8) pa_nil)))) (pa_cons (pv 9) (pa_cons (pv 12) (pa_cons (pv 11) pa_nil))))) pa_nil))))))
      (pss_one (ps_ret (pe_tup (pa_cons (pv 4) (pa_cons (pv 7) (pa_cons (pv 6) pa_nil))))))))), ?_⟩
    walk_at "go"
    refine ⟨tn rfl, fun fo nfo => ?_⟩
    generalize hUfo : upd _ _ (HO.lst _) = H1
    have s1' := same_hu hUfo nfo
    have eh1 := at_hu hUfo
    have h1 := SqL.of (K := K) eh1
    clear hUfo
    have bs1 := (((bd_int d1 (by decide)).mul c1).add ((bd_int d2 (by decide)).mul c3)).add ((bd_int d3 (by decide)).mul c5)
    have bs2 := (((bd_int d1 (by decide)).mul c2).add ((bd_int d2 (by decide)).mul c4)).add ((bd_int d3 (by decide)).mul c6)
    have bk1 := bd_int bk (by decide)
    obtain ⟨nb, hnb⟩ : ∃ nb : Rat, nb = b + (k : Rat) * ((x : Rat) * b1 + (y : Rat) * b2 + (z : Rat) * b3) := ⟨_, rfl⟩
    obtain ⟨ns, hns⟩ : ∃ ns : Rat, ns = s + (k : Rat) * ((x : Rat) * s1 + (y : Rat) * s2 + (z : Rat) * s3) := ⟨_, rfl⟩
    rw [← hnb, ← hns] at q
    have fin : ∀ (σ' : L2.St) (H' : Hp), (∃ (sd' : Addr) (w' : V) (v8 v9 v10 v11 v12 : Option V), σ' = [some (.int m), some (.int k), some (.ref tl), some (.ref t), some (.str "cut"), some (.ref l), some (.ref g), some (.ref fo), v8, v9, v10, v11, v12] ∧ Same H H' ∧ H' fo = some (.lst [.ref sd']) ∧
      Sd K H' sd' w' x y z nb ns ab ∧ Og K H' w' m (k :: ks)) → True := fun _ _ _ => trivial
    refine ⟨fun σ' H' => ∃ (sd' : Addr) (w' : V) (v8 v9 v10 v11 v12 : Option V), σ' = [some (.int m), some (.int k), some (.ref tl), some (.ref t), some (.str "cut"), some (.ref l), some (.ref g), some (.ref fo), v8, v9, v10, v11, v12] ∧ Same H H' ∧ H' fo = some (.lst [.ref sd']) ∧
      Sd K H' sd' w' x y z nb ns ab ∧ Og K H' w' m (k :: ks), ?_, ?_⟩
    · refine ⟨_, rfl, l, rfl, ⟨_, s1'.seq hL⟩, for_list (K := K) (a := l) (xs := [.ref sd]) (fun i σ' H' => (i = 0 ∧ H' = H1 ∧ σ' = [some (.int m), some (.int k), some (.ref tl), some (.ref t), some (.str "cut"), some (.ref l), some (.ref g), some (.ref fo), none, none, none, none, none]) ∨
        (i = 1 ∧ ∃ (sd' : Addr) (w' : V) (v8 v9 v10 v11 v12 : Option V), σ' = [some (.int m), some (.int k), some (.ref tl), some (.ref t), some (.str "cut"), some (.ref l), some (.ref g), some (.ref fo), v8, v9, v10, v11, v12] ∧ Same H H' ∧ H' fo = some (.lst [.ref sd']) ∧
      Sd K H' sd' w' x y z nb ns ab ∧ Og K H' w' m (k :: ks))) (.inl ⟨rfl, rfl, rfl⟩) ?_ ?_ ?_⟩
      · rintro i σ' H' hi (⟨rfl, rfl, rfl⟩ | ⟨rfl, sd', w', v8, v9, v10, v11, v12, rfl, hkeep, e1, _⟩)
        · exact s1'.seq hL
        · exact hkeep.seq hL
      · rintro i v σ' H' hi (⟨rfl, rfl, rfl⟩ | ⟨rfl, _⟩)
        · obtain rfl : V.ref sd = v := Option.some.inj hi
          have hS1 := same_tup s1' hS
          walk_at "go"
          refine ⟨bz_of (n := 2000) (by show 1 < 2 ^ 2000; exact Nat.one_lt_two_pow (by decide)), fun h => absurd h (by decide), fun _ H2 t2 s2' f2 => ?_⟩
          rw [div_one] at f2
          walk_at "go"
          refine ⟨n, t, x, y, z, b1, s1, b2, s2, b3, s3, rfl, same_tup (s1'.trans s2') hN, hR.same (s1'.trans s2'), d1.up (by decide), d2.up (by decide), d3.up (by decide), c1.up (by decide), c2.up (by decide), c3.up (by decide), c4.up (by decide), c5.up (by decide), c6.up (by decide), fun H3 t3 s3' f3 => ?_⟩
          walk_at "go"
          refine ⟨t2, t3, _, _, [_], rfl, f2.same s3', f3, by show 1 ≤ 20; decide, bk1.up (by decide), bs1.up (by decide), (fun r hr => by rw [List.mem_singleton.mp hr]; exact bs2.up (by decide)), fun H4 t4 s4 f4 => ?_⟩
          walk_at "go"
          refine ⟨o, t4, _, _, [_], [_], rfl, hO.same (s1'.trans (s2'.trans (s3'.trans s4))), f4, rfl, by show 1 ≤ 20; decide, cb.up (by decide), (bk1.mul bs1).up (by decide), (fun r hr => by rw [List.mem_singleton.mp hr]; exact cs.up (by decide)), (fun r hr => by rw [List.mem_singleton.mp hr]; exact (bk1.mul bs2).up (by decide)), fun H5 t5 s5 f5 => ?_⟩
          walk_at "go"
          have s25 := s2'.trans (s3'.trans (s4.trans s5))
          have e5 := s25 _ _ eh1
          refine ⟨.inl ⟨rfl, _, SqL.of e5⟩, ?_⟩
          walk_at "go"
          refine ⟨m, k, m0, ks, w, rfl, hW.same (s1'.trans s25), hks, fun H6 t6 s6 h6 => ?_⟩
          walk_at "go"
          refine ⟨tn rfl, fun t7 nt7 => ?_⟩
          generalize hUt7 : upd _ _ (HO.tup _) = H7
          have s7 := same_hu hUt7 nt7
          have eh7 := at_hu hUt7
          have h7 := SqT.of (K := K) eh7
          clear hUt7
          have s57 := s6.trans s7
          have e7 := s57 _ _ e5
          refine ⟨fo, _, _, rfl, rfl, e7, small1000 (by show 0 ≤ 1000; decide), ?_⟩
          walk_at "go"
          have ov := fun (b : Addr) (o : HO) (hb : b ≠ fo) (e : H7 b = some o) => show upd H7 fo (.lst ([] ++ [.ref t7])) b = some o by rw [upd_ne hb]; exact e
          have hSd : Sd K H7 t7 (.ref t6) x y z nb ns ab := ⟨n, t5, h7, same_tup (s1'.trans (s25.trans s57)) hN, by rw [hnb, hns]; exact f5.same s57⟩
          exact .inr ⟨rfl, t7, .ref t6, _, _, _, _, _, rfl, (fun b o e => ov b o (ne_of_none e nfo) (s57 _ _ (s25 _ _ (s1' _ _ e)))), upd_same, hSd.over e7 ov, (h6.same s7).over e7 ov⟩
        · cases hi
      · rintro σ' H' (⟨h, _⟩ | ⟨_, h⟩)
        · cases h
        · exact h
    · rintro σ' H' ⟨sd', w', v8, v9, v10, v11, v12, rfl, hkeep, e1, hS', hW'⟩
      walk_at "go"
      refine ⟨tn rfl, fun t6 nt6 => ?_⟩
      generalize hUt6 : upd _ _ (HO.tup _) = H6
      have s6 := same_hu hUt6 nt6
      have eh6 := at_hu hUt6
      have h6 := SqT.of (K := K) eh6
      clear hUt6
      exact q H6 t6 (hkeep.trans s6) ⟨fo, g, sd', w', h6, SqL.of (s6 _ _ e1), same_tup (hkeep.trans s6) hG, hS'.same s6, hW'.same s6⟩
def sq3 (u v r : Int) : Int := u * u + v * v + r * r
def ip (u v r x y z : Int) : Int := x * u + y * v + z * r
def mx (u v r x y z : Int) : Int := sq3 u v r * x - 2 * ip u v r x y z * u
def my (u v r x y z : Int) : Int := sq3 u v r * y - 2 * ip u v r x y z * v
def mz (u v r x y z : Int) : Int := sq3 u v r * z - 2 * ip u v r x y z * r
def mdv (u v r x y z : Int) : Int := dv (mx u v r x y z) (my u v r x y z) (mz u v r x y z)
theorem Bz.lt {n : Nat} {x : Int} (h : Bz n x) {b : Nat} (hb : 2 ^ n ≤ b) : x.natAbs < b := Nat.lt_of_lt_of_le h hb
theorem dv_lt {x y z : Int} (h : ¬ (x = 0 ∧ y = 0 ∧ z = 0)) (h1 : Bz 30 x) (h2 : Bz 30 y) (h3 : Bz 30 z) : (dv x y z).natAbs < 1073741824 := by
  have e : (2 : Nat) ^ 30 = 1073741824 := by decide
  unfold Bz at *
  rw [dv_abs]
  have := g3_le (n := 1073741823) h (by omega) (by omega) (by omega)
  omega
def spMirroredSide (K : PySem.W.Frag) : Sp := fun vs H Q _ => ∃ (w w0 : V) (sd d at_ : Addr) (x y z u v r : Int) (b s ab as : Rat) (k : Bool), vs = [w, .ref sd, .ref d, .ref at_] ∧ Sd K H sd w0 x y z b s k ∧ SqT K H d (zs [u, v, r]) ∧ Vx K H at_ ab [as] ∧ Bz 2 x ∧ Bz 2 y ∧ Bz 2 z ∧ Bz 2 u ∧ Bz 2 v ∧ Bz 2 r ∧ Bd 33 b ∧ Bd 33 s ∧ Bd 10 ab ∧ Bd 10 as ∧ ¬ (mx u v r x y z = 0 ∧ my u v r x y z = 0 ∧ mz u v r x y z = 0) ∧
  ∀ (H' : Hp) (t : Addr), Same H H' → Sd K H' t w ((mx u v r x y z).fdiv (mdv u v r x y z)) ((my u v r x y z).fdiv (mdv u v r x y z)) ((mz u v r x y z).fdiv (mdv u v r x y z)) (iv (mdv u v r x y z) * (((sq3 u v r : Int) : Rat) * b - ((2 * ip u v r x y z : Int) : Rat) * ab)) (iv (mdv u v r x y z) * (((sq3 u v r : Int) : Rat) * s - ((2 * ip u v r x y z : Int) : Rat) * as)) (eqb k (decide (0 < mdv u v r x y z))) → Q (.ref t) H'
theorem okMirroredSide {fMirroredSide : Addr} {fdMirroredSide : FuncData} (F : Fun K "mirrored_side" "mirrored_side" sMirroredSide fMirroredSide fdMirroredSide) (T : Txt mg) {CPartError CNought : Addr} (EX : Exns K mg CPartError CNought)
    {fInner : Addr} {fdInner : FuncData} (GInner : FnOk P w K mg base CX0 1 fInner fdInner ["a", "b"] (spInner K)) (gInner : mg "inner" = some (.ref fInner)) (kpInner : PySem.W.keepIn K (.ref fInner) = true) (bInner : Binds K fdInner ["a", "b"] [])
    {fSubtract : Addr} {fdSubtract : FuncData} (GSubtract : FnOk P w K mg base CX0 3 fSubtract fdSubtract ["a", "b"] (spSubtract K)) (gSubtract : mg "subtract" = some (.ref fSubtract)) (kpSubtract : PySem.W.keepIn K (.ref fSubtract) = true) (bSubtract : Binds K fdSubtract ["a", "b"] [])
    {fSideOf : Addr} {fdSideOf : FuncData} (GSideOf : FnOk P w K mg base CX0 4 fSideOf fdSideOf ["origin", "direction", "offset", "above"] (spSideOf K)) (gSideOf : mg "side_of" = some (.ref fSideOf)) (kpSideOf : PySem.W.keepIn K (.ref fSideOf) = true) (bSideOf : Binds K fdSideOf ["origin", "direction", "offset", "above"] [])
    {fScale : Addr} {fdScale : FuncData} (GScale : FnOk P w K mg base CX0 3 fScale fdScale ["factor", "a"] (spScale K)) (gScale : mg "scale" = some (.ref fScale)) (kpScale : PySem.W.keepIn K (.ref fScale) = true) (bScale : Binds K fdScale ["factor", "a"] [])
    {fFraction : Addr} {fdFraction : FuncData} (GFraction : FnOk P w K mg base (L2.CX P w) 1 fFraction fdFraction ["number", "divisor"] (spFraction K CNought)) (gFraction : mg "fraction" = some (.ref fFraction)) (kpFraction : PySem.W.keepIn K (.ref fFraction) = true) (bFraction : Binds K fdFraction ["number", "divisor"] []) {dsFraction : List Value} (vdFraction : Vals [.int 1] dsFraction) (bdFraction : Binds K fdFraction ["number", "divisor"] dsFraction) :
    FnOk P w K mg base CX0 5 fMirroredSide fdMirroredSide ["origin", "side", "direction", "at"] (spMirroredSide K) := by
  refine F.ok scMirroredSide (fun vs H Q E h => ?_) (fun cdv A outer s H vs Q E hr h => ?_)
  · obtain ⟨w, w0, sd, d, at_, x, y, z, u, v, r, b, s, ab, as, k, rfl, ⟨n, o, hS, hN, hO⟩, hD, hA, x1, x2, x3, u1, u2, u3, bb, bs, ba, bas, hm, q⟩ := h
    rfl
  · obtain ⟨w, w0, sd, d, at_, x, y, z, u, v, r, b, s, ab, as, k, rfl, ⟨n, o, hS, hN, hO⟩, hD, hA, x1, x2, x3, u1, u2, u3, bb, bs, ba, bas, hm, q⟩ := h
    refine ⟨_, (pss_cons (ps_asg (pe_slice sl_tup (pv 1) (po_some pe_int) po_none) (pg_tup rfl (pgs_cons (pg_name (i := 4) scMirroredSide.nd rfl (Or.inl rfl)) (pgs_cons (pg_name (i := 5) scMirroredSide.nd rfl (Or.inl rfl)) (pgs_cons (pg_name (i := 6) scMirroredSide.nd rfl (Or.inl rfl)) pgs_nil)))))
      (pss_cons (ps_set (i := 7) scMirroredSide.nd rfl (Or.inr rfl) (pe_call GInner (hr.mono (by decide)) (by rfl) gInner kpInner bInner .nil pass0 (pa_cons (pv 2) (pa_cons (pv 2) pa_nil))))
      (pss_cons (ps_set (i := 8) scMirroredSide.nd rfl (Or.inr rfl) (pe_op op_mulW pe_int (pe_call GInner (hr.mono (by decide)) (by rfl) gInner kpInner bInner .nil pass0 (pa_cons (pv 4) (pa_cons (pv 2) pa_nil)))))
      (pss_cons (ps_set (i := 9) scMirroredSide.nd rfl (Or.inl rfl) (pe_callTy call_tuple_of (by rfl) T.tuple (by decide +kernel) (pa_cons (pe_lc (own := [("a", 11), ("b", 12)]) (by rfl) scMirroredSide.nd (pi_zipB (by rfl) T.zip (pa_cons (pv 4) (pa_cons (pv 2) pa_nil))) (blkOk_by (own := [("a", 11), ("b", 12)]) (N := ["origin", "side", "direction", "at", "normal", "offset", "above", "size", "twice", "turned", "moved", "a", "b"]) (sc := defScope sMirroredSide) (by decide +kernel)) (fun _ _ _ _ _ => (show PG _ _ (gTup K 2 _) from (pg_tup rfl (pgs_cons (pg_name (i := 11) scMirroredSide.nd rfl (Or.inl rfl)) (pgs_cons (pg_name (i := 12) scMirroredSide.nd rfl (Or.inl rfl)) pgs_nil))))) (fun _ _ _ _ _ => pts_nil) (fun _ _ _ _ _ => (pe_op op_sub (pe_op op_mulW (pv 7) (pv 11)) (pe_op op_mulW (pv 8) (pv 12))))) pa_nil)))
      (pss_cons (ps_set (i := 10) scMirroredSide.nd rfl (Or.inl rfl) (pe_call GSubtract (hr.mono (by decide)) (by rfl) gSubtract kpSubtract bSubtract .nil pass0 (pa_cons (pe_call GScale (hr.mono (by decide)) (by rfl) gScale kpScale bScale .nil pass0 (pa_cons (pe_call GFraction (hr.mono (by decide)) (by rfl) gFraction kpFraction bdFraction vdFraction passL (pa_cons (pv 7) pa_nil)) (pa_cons (pv 5) pa_nil))) (pa_cons (pe_call GScale (hr.mono (by decide)) (by rfl) gScale kpScale bScale .nil pass0 (pa_cons (pe_call GFraction (hr.mono (by decide)) (by rfl) gFraction kpFraction bdFraction vdFraction passL (pa_cons (pv 8) pa_nil)) (pa_cons (pv 3) pa_nil))) pa_nil))))
      (pss_one (ps_ret (pe_call GSideOf hr (by rfl) gSideOf kpSideOf bSideOf .nil pass0 (pa_cons (pv 0) (pa_cons (pv 9) (pa_cons (pv 10) (pa_cons (pv 6) pa_nil)))))))))))), ?_⟩
    have bsq : Bz 6 (sq3 u v r) := Bz.up (by unfold sq3; walk_at "bz") (by decide)
    have bip : Bz 6 (ip u v r x y z) := Bz.up (by unfold ip; walk_at "bz") (by decide)
    have b2 : Bz 10 (2 * ip u v r x y z) := Bz.up (by walk_at "bz") (by decide)
    walk_at "go"
    refine ⟨sd, _, rfl, hS, (fun h => absurd (show HT.sIx 4 0 (some 1) = 0 from h.1) (by decide)), fun t1 n1 => ?_⟩
    generalize hU1 : upd H t1 _ = H1
    have s1 := same_hu hU1 n1
    have h1 : SqT K H1 t1 [.ref n, .ref o, .bl k] := SqT.of (at_hu hU1)
    clear hU1
    walk_at "go"
    refine ⟨d, d, u, v, r, u, v, r, rfl, same_tup s1 hD, same_tup s1 hD, u1.up (by decide), u2.up (by decide), u3.up (by decide), u1.up (by decide), u2.up (by decide), u3.up (by decide), ?_⟩
    walk_at "go"
    refine ⟨n, d, x, y, z, u, v, r, rfl, same_tup s1 hN, same_tup s1 hD, x1.up (by decide), x2.up (by decide), x3.up (by decide), u1.up (by decide), u2.up (by decide), u3.up (by decide), ?_⟩
    rw [show u * u + v * v + r * r = sq3 u v r from rfl, show x * u + y * v + z * r = ip u v r x y z from rfl]
    generalize hsq : sq3 u v r = sq at *
    generalize hip : ip u v r x y z = it at *
    walk_at "go"
    refine ⟨true, true, n, d, _, _, rfl, same_tup s1 hN, same_tup s1 hD, fun D hDn => ?_⟩
    refine lc_val (walk_zipB (K := K) (f := true) (g := true) (a := n) (b := d) (xs := zs [x, y, z]) (ys := zs [u, v, r]) rfl) (zs [sq * x - 2 * it * u, sq * y - 2 * it * v, sq * z - 2 * it * r]) rfl (by show 3 ≤ 1000; decide) hDn (fun H2 s2 => ⟨same_tup (s1.trans s2) hN, same_tup (s1.trans s2) hD⟩) ?_ ?_
    · rintro i c v' H2 H3 kk hr0 s2 ⟨T, w1, w2, rfl, hT', rfl, g1, g2⟩ kk2
      obtain ⟨p, rfl, hp⟩ := zs_get g1
      obtain ⟨hi3, rfl⟩ := th_get hp
      obtain ⟨p2, rfl, hp2⟩ := zs_get g2
      obtain ⟨_, rfl⟩ := th_get hp2
      have e1 : c = .int (sq * th x y z i - 2 * it * th u v r i) := by
        obtain rfl | rfl | rfl : i = 0 ∨ i = 1 ∨ i = 2 := by omega
        all_goals exact (Option.some.inj hr0).symm
      subst e1
      have bx : Bz 2 (th x y z i) := th_all (P := Bz 2) x1 x2 x3 i
      have bu : Bz 2 (th u v r i) := th_all (P := Bz 2) u1 u2 u3 i
      generalize hU : upd H2 T _ = H4
      have sT := same_hu hU hT'
      refine ⟨_, _, rfl, SqT.of (at_hu hU), rfl, _, _, rfl, _, _, rfl, rfl, rfl, ?_⟩
      walk_at "go"
      exact kk2 _ sT
    · intro H2 s2 e2
      refine ⟨D, _, rfl, .inl ⟨SqL.of e2, fun t3 n3 => ?_⟩⟩
      generalize hU3 : upd H2 t3 _ = H3
      have s3 := same_hu hU3 n3
      have h3 : SqT K H3 t3 (zs [sq * x - 2 * it * u, sq * y - 2 * it * v, sq * z - 2 * it * r]) := SqT.of (at_hu hU3)
      clear hU3
      walk_at "go"
      refine ⟨bz_of (n := 2000) (by show 1 < 2 ^ 2000; exact Nat.one_lt_two_pow (by decide)), fun h => absurd h (by decide), fun _ H4 t4 s4 f4 => ?_⟩
      rw [div_one] at f4
      walk_at "go"
      have s14 := s1.trans (s2.trans (s3.trans s4))
      have bsq1 := bd_int bsq (by decide)
      have b21 := bd_int b2 (by decide)
      refine ⟨t4, o, _, _, [_], rfl, f4, hO.same s14, by show 1 ≤ 20; decide, bsq1.up (by decide), bb.up (by decide), (fun r hr => by rw [List.mem_singleton.mp hr]; exact bs.up (by decide)), fun H5 t5 s5 f5 => ?_⟩
      walk_at "go"
      refine ⟨bz_of (n := 2000) (by show 1 < 2 ^ 2000; exact Nat.one_lt_two_pow (by decide)), fun h => absurd h (by decide), fun _ H6 t6 s6 f6 => ?_⟩
      rw [div_one] at f6
      walk_at "go"
      have s16 := s14.trans (s5.trans s6)
      refine ⟨t6, at_, _, _, [_], rfl, f6, hA.same s16, by show 1 ≤ 20; decide, b21.up (by decide), ba.up (by decide), (fun r hr => by rw [List.mem_singleton.mp hr]; exact bas.up (by decide)), fun H7 t7 s7 f7 => ?_⟩
      walk_at "go"
      refine ⟨t5, t7, _, _, [_], [_], rfl, f5.same (s6.trans s7), f7, rfl, by show 1 ≤ 20; decide, (bsq1.mul bb).up (by decide), (b21.mul ba).up (by decide), (fun r hr => by rw [List.mem_singleton.mp hr]; exact (bsq1.mul bs).up (by decide)), (fun r hr => by rw [List.mem_singleton.mp hr]; exact (b21.mul bas).up (by decide)), fun H8 t8 s8 f8 => ?_⟩
      walk_at "go"
      have s38 := s4.trans (s5.trans (s6.trans (s7.trans s8)))
      subst hsq hip
      have y1 : Bz 17 (mx u v r x y z) := Bz.up (by unfold mx; walk_at "bz") (by decide)
      have y2 : Bz 17 (my u v r x y z) := Bz.up (by unfold my; walk_at "bz") (by decide)
      have y3 : Bz 17 (mz u v r x y z) := Bz.up (by unfold mz; walk_at "bz") (by decide)
      exact ⟨w, t3, t8, mx u v r x y z, my u v r x y z, mz u v r x y z, _, _, k, rfl, same_tup s38 h3, f8, dv_ne hm, dv_lt hm (y1.up (by decide)) (y2.up (by decide)) (y3.up (by decide)), ((bsq1.mul bb).sub (b21.mul ba)).up (by decide), ((bsq1.mul bs).sub (b21.mul bas)).up (by decide), fun H9 t9 s9 f9 => q H9 t9 (s16.trans (s7.trans (s8.trans s9))) f9⟩
def spMirroredTool (K : PySem.W.Frag) : Sp := fun vs H Q _ => ∃ (m k m0 : Int) (ks : List Int) (tl d at_ : Addr) (x y z u v r : Int) (b s ab as : Rat) (kk : Bool), vs = [.int m, .int k, .ref tl, .ref d, .ref at_] ∧ Tl K H tl m0 ks x y z b s kk ∧ ks.length ≤ 9 ∧ SqT K H d (zs [u, v, r]) ∧ Vx K H at_ ab [as] ∧ Bz 2 x ∧ Bz 2 y ∧ Bz 2 z ∧ Bz 2 u ∧ Bz 2 v ∧ Bz 2 r ∧ Bd 33 b ∧ Bd 33 s ∧ Bd 10 ab ∧ Bd 10 as ∧ ¬ (mx u v r x y z = 0 ∧ my u v r x y z = 0 ∧ mz u v r x y z = 0) ∧
  ∀ (H' : Hp) (t : Addr), Same H H' → Tl K H' t m (k :: ks) ((mx u v r x y z).fdiv (mdv u v r x y z)) ((my u v r x y z).fdiv (mdv u v r x y z)) ((mz u v r x y z).fdiv (mdv u v r x y z)) (iv (mdv u v r x y z) * (((sq3 u v r : Int) : Rat) * b - ((2 * ip u v r x y z : Int) : Rat) * ab)) (iv (mdv u v r x y z) * (((sq3 u v r : Int) : Rat) * s - ((2 * ip u v r x y z : Int) : Rat) * as)) (eqb kk (decide (0 < mdv u v r x y z))) → Q (.ref t) H'
theorem okMirroredTool {fMirroredTool : Addr} {fdMirroredTool : FuncData} (F : Fun K "mirrored_tool" "mirrored_tool" sMirroredTool fMirroredTool fdMirroredTool) (T : Txt mg) {CPartError CNought : Addr} (EX : Exns K mg CPartError CNought)
    {fMirroredSide : Addr} {fdMirroredSide : FuncData} (GMirroredSide : FnOk P w K mg base CX0 5 fMirroredSide fdMirroredSide ["origin", "side", "direction", "at"] (spMirroredSide K)) (gMirroredSide : mg "mirrored_side" = some (.ref fMirroredSide)) (kpMirroredSide : PySem.W.keepIn K (.ref fMirroredSide) = true) (bMirroredSide : Binds K fdMirroredSide ["origin", "side", "direction", "at"] [])
    {fCopiedOrigin : Addr} {fdCopiedOrigin : FuncData} (GCopiedOrigin : FnOk P w K mg base CX0 1 fCopiedOrigin fdCopiedOrigin ["number", "k", "origin"] (spCopiedOrigin K)) (gCopiedOrigin : mg "copied_origin" = some (.ref fCopiedOrigin)) (kpCopiedOrigin : PySem.W.keepIn K (.ref fCopiedOrigin) = true) (bCopiedOrigin : Binds K fdCopiedOrigin ["number", "k", "origin"] []) :
    FnOk P w K mg base CX0 6 fMirroredTool fdMirroredTool ["number", "k", "tool", "direction", "at"] (spMirroredTool K) := by
  refine F.ok scMirroredTool (fun vs H Q E h => ?_) (fun cdv A outer s H vs Q E hr h => ?_)
  · obtain ⟨m, k, m0, ks, tl, d, at_, x, y, z, u, v, r, b, s, ab, as, kk, rfl, ⟨l, g, sd, w, hT, hL, hG, hS, hW⟩, hks, hD, hA, x1, x2, x3, u1, u2, u3, bb, bs, ba, bas, hm, q⟩ := h
    rfl
  · obtain ⟨m, k, m0, ks, tl, d, at_, x, y, z, u, v, r, b, s, ab, as, kk, rfl, ⟨l, g, sd, w, hT, hL, hG, hS, hW⟩, hks, hD, hA, x1, x2, x3, u1, u2, u3, bb, bs, ba, bas, hm, q⟩ := h
    refine ⟨_, (pss_cons (ps_asg (pv 2) (pg_tup rfl (pgs_cons (pg_name (i := 5) scMirroredTool.nd rfl (Or.inl rfl)) (pgs_cons (pg_name (i := 6) scMirroredTool.nd rfl (Or.inl rfl)) (pgs_cons (pg_name (i := 7) scMirroredTool.nd rfl (Or.inl rfl)) pgs_nil)))))
      (pss_one (ps_ret (pe_tup (pa_cons (pv 5) (pa_cons (pe_lc (own := [("side", 8)]) (by rfl) scMirroredTool.nd (pi_list (pv 6)) (blkOk_by (own := [("side", 8)]) (N := ["number", "k", "tool", "direction", "at", "op", "sides", "test", "side"]) (sc := defScope sMirroredTool) (by decide +kernel)) (fun _ _ _ _ _ => (pg_name (i := 8) scMirroredTool.nd rfl (Or.inl rfl))) (fun _ _ _ _ _ => pts_nil) (fun _ _ _ _ _ => (pe_call GMirroredSide hr (by rfl) gMirroredSide kpMirroredSide bMirroredSide .nil pass0 (pa_cons (pe_call GCopiedOrigin (hr.mono (by decide)) (by rfl) gCopiedOrigin kpCopiedOrigin bCopiedOrigin .nil pass0 (pa_cons (pv 0) (pa_cons (pv 1) (pa_cons (pe_ix (show IxR _ (rIxT K) from ix_tup) (pv 8) pe_int (fun _ _ => rfl)) pa_nil)))) (pa_cons (pv 8) (pa_cons (pv 3) (pa_cons (pv 4) pa_nil))))))) (pa_cons (pv 7) pa_nil))))))), ?_⟩
    walk_at "go"
    refine ⟨⟨_, hL⟩, fun D hDn => ?_⟩
    obtain ⟨nb, hnb⟩ : ∃ nb : Rat, nb = (iv (mdv u v r x y z) * (((sq3 u v r : Int) : Rat) * b - ((2 * ip u v r x y z : Int) : Rat) * ab)) := ⟨_, rfl⟩
    obtain ⟨ns, hns⟩ : ∃ ns : Rat, ns = (iv (mdv u v r x y z) * (((sq3 u v r : Int) : Rat) * s - ((2 * ip u v r x y z : Int) : Rat) * as)) := ⟨_, rfl⟩
    rw [← hnb, ← hns] at q
    refine lc_obj (walk_list (K := K) (a := l) (xs := [.ref sd])) (fun i H v' => ∃ (a : Addr) (w' : V), v' = .ref a ∧ Sd K H a w' ((mx u v r x y z).fdiv (mdv u v r x y z)) ((my u v r x y z).fdiv (mdv u v r x y z)) ((mz u v r x y z).fdiv (mdv u v r x y z)) nb ns (eqb kk (decide (0 < mdv u v r x y z))) ∧ Og K H w' m (k :: ks)) (fun {i H H' v D acc} h e s => by
      obtain ⟨a, w', h1, h2, h3⟩ := h
      exact ⟨a, w', h1, h2.over e s, h3.over e s⟩) (by show 1 ≤ 1000; decide) hDn (fun H2 s2 => s2.seq hL) ?_ ?_
    · rintro i v' H2 H3 kk2 hi s2 ⟨rfl, g1⟩ kk3
      obtain rfl : i = 0 := by
        have : i < 1 := hi
        omega
      obtain rfl : V.ref sd = v' := Option.some.inj g1
      obtain ⟨n, o, hS1, hN, hO⟩ := id hS
      have hS2 := same_tup s2 hS1
      walk_at "go"
      refine ⟨m, k, m0, ks, w, rfl, hW.same s2, hks, fun H4 t4 s4 h4 => ?_⟩
      walk_at "go"
      have s24 := s2.trans s4
      refine ⟨.ref t4, w, sd, d, at_, x, y, z, u, v, r, b, s, ab, as, kk, rfl, hS.same s24, same_tup s24 hD, hA.same s24, x1, x2, x3, u1, u2, u3, bb, bs, ba, bas, hm, fun H5 t5 s5 h5 => ?_⟩
      rw [← hnb, ← hns] at h5
      exact kk3 _ H5 (s4.trans s5) ⟨t5, .ref t4, rfl, h5, h4.same s5⟩
    · intro H2 us s2 e2 l2 r2
      obtain ⟨a, rfl⟩ := one1 (l2.trans rfl)
      obtain ⟨a, w', rfl, ha, hw⟩ := r2 0 _ rfl
      walk_at "go"
      refine ⟨tn rfl, fun t3 nt3 => ?_⟩
      generalize hUt3 : upd _ _ (HO.tup _) = H3
      have s3 := same_hu hUt3 nt3
      have eh3 := at_hu hUt3
      have h3 := SqT.of (K := K) eh3
      clear hUt3
      exact q H3 t3 (s2.trans s3) ⟨D, g, a, w', h3, SqL.of (s3 _ _ e2), same_tup (s2.trans s3) hG, ha.same s3, hw.same s3⟩
def spLLawNumber (K : PySem.W.Frag) : Sp := fun vs H Q _ => ∃ (a : Addr) (ns : List Int) (k : Nat), vs = [.ref a, .int k] ∧ SqL K H a (zs ns) ∧ ∀ c : Int, Q (.int c) H
theorem okLLawNumber {fLLawNumber : Addr} {fdLLawNumber : FuncData} (F : Fun K "_law_number" "_law_number" sLLawNumber fLLawNumber fdLLawNumber) (T : Txt mg) {CPartError CNought : Addr} (EX : Exns K mg CPartError CNought) :
    FnOk P w K mg base CX0 1 fLLawNumber fdLLawNumber ["script", "k"] (spLLawNumber K) := by
  refine F.ok scLLawNumber (fun vs H Q E h => ?_) (fun cdv A outer s H vs Q E hr h => ?_)
  · obtain ⟨a, ns, k, rfl, hS, q⟩ := h
    rfl
  · obtain ⟨a, ns, k, rfl, hS, q⟩ := h
    refine ⟨_, (C8.pss_cut (ps_set (i := 2) scLLawNumber.nd rfl (Or.inl rfl) (pe_ifExp (pt_cmpR op_lt (pv 1) (pe_callB call_len_seq (by rfl) T.len PySem.boot_len (pa_cons (pv 0) pa_nil)) (nomark _)) (pe_ix ix_list (pv 0) (pv 1) (fun _ _ => rfl)) (pe_op op_add (pe_op op_mul pe_int (pv 1)) pe_int)))
      (C8.pss_cut (ps_if (pt_cmpR op_lt (pv 2) pe_int (nomark _))
        (pss_one (ps_set (i := 2) scLLawNumber.nd rfl (Or.inl rfl) (pe_op op_sub (pe_op op_mul (pe_un un_neg pe_int) (pv 2)) pe_int)))
        pss_nil)
      (pss_cons (ps_if (pt_cmpR op_lt (pv 2) (pe_op op_pow pe_int pe_int) (nomark _))
        (pss_cons (ps_set (i := 3) scLLawNumber.nd rfl (Or.inl rfl) (pe_op op_mod (pe_callTy call_int1 (by rfl) T.int (by decide +kernel) (pa_cons (pe_op op_add (pe_op op_add (pe_op op_mul (pv 2) pe_int) (pe_op op_mul (pv 1) pe_int)) pe_int) pa_nil)) pe_int))
        (pss_cons (ps_set (i := 4) scLLawNumber.nd rfl (Or.inl rfl) (pe_op op_mod (pe_callTy call_int1 (by rfl) T.int (by decide +kernel) (pa_cons (pe_op op_add (pe_op op_add (pe_op op_mul (pv 3) pe_int) (pe_op op_mul (pv 2) pe_int)) (pv 1)) pa_nil)) pe_int))
        (pss_one (ps_ret (pe_op op_add (pe_op op_mul (pv 3) pe_int) (pv 4))))))
        pss_nil)
      (pss_one (ps_ret (pv 2)))))), ?_⟩
    refine ⟨fun σ' H' => ∃ c : Int, σ' = [some (.ref a), some (.int k), some (.int c), none, none] ∧ H' = H, ?_, ?_⟩
    · refine ⟨_, rfl, .ref a, rfl, a, _, rfl, .inl hS, _, _, rfl, rfl, _, rfl, ite2 (fun hlt => ?_) (fun _ => ?_)⟩
      · have h1 := of_decide_eq_true hlt
        rw [show zs ns = ns.map V.int from rfl, List.length_map] at h1
        have h2 : k < ns.length := by omega
        have h3 : (zs ns)[k]? = some (.int ns[k]) := by
          rw [show zs ns = ns.map V.int from rfl, List.getElem?_map, List.getElem?_eq_getElem h2]
          rfl
        exact ⟨.ref a, rfl, _, rfl, a, _, _, _, rfl, rfl, hS, atI_nat h3, _, rfl, rfl⟩
      · walk_at "rd"
        exact rfl
    · rintro σ' H' ⟨c, rfl, rfl⟩
      refine ⟨fun σ' H2 => ∃ c : Int, σ' = [some (.ref a), some (.int k), some (.int c), none, none] ∧ H2 = H', ?_, ?_⟩
      · walk_at "rd"
        refine ite2 (fun _ => ?_) (fun _ => ⟨_, rfl, rfl⟩)
        walk_at "rd"
        exact rfl
      · rintro σ' H2 ⟨c, rfl, rfl⟩
        walk_at "rd"
        refine ite2 (fun _ => ?_) (fun _ => ⟨_, rfl, q _⟩)
        walk_at "rd"
        exact q _
def spLLawFraction (K : PySem.W.Frag) : Sp := fun vs H Q _ => ∃ n d : Int, vs = [.int n, .int d] ∧ n.natAbs < 2 ^ 1800 ∧ d.natAbs < 2 ^ 1800 ∧ d ≠ 0 ∧ ∀ (H' : Hp) (t : Addr), Same H H' → H' t = some (.tup (zs (rd2 n d))) → Q (.ref t) H'
theorem okLLawFraction {fLLawFraction : Addr} {fdLLawFraction : FuncData} (F : Fun K "_law_fraction" "_law_fraction" sLLawFraction fLLawFraction fdLLawFraction) (T : Txt mg) {CPartError CNought : Addr} (EX : Exns K mg CPartError CNought) :
    FnOk P w K mg base CX0 1 fLLawFraction fdLLawFraction ["number", "divisor"] (spLLawFraction K) := by
  refine F.ok scLLawFraction (fun vs H Q E h => ?_) (fun cdv A outer s H vs Q E hr h => ?_)
  · obtain ⟨n, d, rfl, bn, bd, hd, k⟩ := h
    rfl
  · obtain ⟨n, d, rfl, bn, bd, hd, k⟩ := h
    refine ⟨_, (C8.pss_cut (ps_set (i := 2) scLLawFraction.nd rfl (Or.inl rfl) (pe_ifExp (pt_cmpR op_ge (pv 0) pe_int (nomark _)) (pv 0) (pe_un un_neg (pv 0))))
      (C8.pss_cut (ps_set (i := 3) scLLawFraction.nd rfl (Or.inl rfl) (pe_ifExp (pt_cmpR op_ge (pv 1) pe_int (nomark _)) (pv 1) (pe_un un_neg (pv 1))))
      (C8.pss_cut (ps_for PassesOwn.never rfl (pi_range1 rfl T.range (pa_cons (pe_op op_add (pe_op op_add (pe_op op_mul pe_int (pe_callB call_len_str (by rfl) T.len PySem.boot_len (pa_cons (pe_callTy call_str_int (by rfl) T.str (by decide +kernel) (pa_cons (pv 2) pa_nil)) pa_nil))) (pe_op op_mul pe_int (pe_callB call_len_str (by rfl) T.len PySem.boot_len (pa_cons (pe_callTy call_str_int (by rfl) T.str (by decide +kernel) (pa_cons (pv 3) pa_nil)) pa_nil)))) pe_int) pa_nil)) (pg_name (i := 4) scLLawFraction.nd rfl (Or.inl rfl))
        (pss_cons (ps_if (pt_cmpR op_eq (pv 3) pe_int (nomark _))
          (pss_one ps_break)
          pss_nil)
        (pss_cons (ps_set (i := 5) scLLawFraction.nd rfl (Or.inl rfl) (pe_op op_modN (pe_callTy call_int1 (by rfl) T.int (by decide +kernel) (pa_cons (pv 2) pa_nil)) (pv 3)))
        (pss_cons (ps_set (i := 2) scLLawFraction.nd rfl (Or.inl rfl) (pv 3))
        (pss_one (ps_set (i := 3) scLLawFraction.nd rfl (Or.inl rfl) (pv 5)))))))
      (C8.pss_cut (ps_if (pt_cmpR op_lt (pv 1) pe_int (nomark _))
        (pss_one (ps_set (i := 2) scLLawFraction.nd rfl (Or.inl rfl) (pe_un un_neg (pv 2))))
        pss_nil)
      (pss_one (ps_ret (pe_tup (pa_cons (pe_op op_fdivX (pv 0) (pv 2)) (pa_cons (pe_op op_fdivX (pv 1) (pv 2)) pa_nil))))))))), ?_⟩
    refine ⟨fun σ' H' => σ' = [some (.int n), some (.int d), some (.int ((n.natAbs : Nat) : Int)), none, none, none] ∧ H' = H, ?_, ?_⟩
    · walk_at "rd"
      refine ite2 (fun g => ?_) (fun g => ?_)
      · have g0 : 0 ≤ n := of_decide_eq_true g
        have e0 : ((n.natAbs : Nat) : Int) = n := by omega
        rw [e0]
        exact ⟨_, rfl, rfl, rfl⟩
      · have g0 : ¬ 0 ≤ n := fun z => g (decide_eq_true z)
        have e0 : ((n.natAbs : Nat) : Int) = -n := by omega
        rw [e0]
        exact ⟨_, rfl, _, rfl, rfl, rfl⟩
    rintro σ' H1 ⟨rfl, rfl⟩
    refine ⟨fun σ' H' => σ' = [some (.int n), some (.int d), some (.int ((n.natAbs : Nat) : Int)), some (.int ((d.natAbs : Nat) : Int)), none, none] ∧ H' = H1, ?_, ?_⟩
    · walk_at "rd"
      refine ite2 (fun g => ?_) (fun g => ?_)
      · have g0 : 0 ≤ d := of_decide_eq_true g
        have e0 : ((d.natAbs : Nat) : Int) = d := by omega
        rw [e0]
        exact ⟨_, rfl, rfl, rfl⟩
      · have g0 : ¬ 0 ≤ d := fun z => g (decide_eq_true z)
        have e0 : ((d.natAbs : Nat) : Int) = -d := by omega
        rw [e0]
        exact ⟨_, rfl, _, rfl, rfl, rfl⟩
    rintro σ' H2 ⟨rfl, rfl⟩
    have l1 : ((n.natAbs : Nat) : Int).natAbs.log2 < 1920 := by
      rw [Int.natAbs_natCast]
      exact Nat.lt_of_lt_of_le (PySem.Flt.log2_lt_of (by decide) bn) (by decide)
    have l2 : ((d.natAbs : Nat) : Int).natAbs.log2 < 1920 := by
      rw [Int.natAbs_natCast]
      exact Nat.lt_of_lt_of_le (PySem.Flt.log2_lt_of (by decide) bd) (by decide)
    have z1 := PySem.int_text_length_le (k := 1920) (by decide) l1
    have z2 := PySem.int_text_length_le (k := 1920) (by decide) l2
    obtain ⟨N, hN⟩ : ∃ N : Nat, N = 4 * (toString ((n.natAbs : Nat) : Int)).length + 4 * (toString ((d.natAbs : Nat) : Int)).length + 60 := ⟨_, rfl⟩
    have eN : (4 : Int) * ((Str.ofString (toString ((n.natAbs : Nat) : Int))).length : Nat) + 4 * ((Str.ofString (toString ((d.natAbs : Nat) : Int))).length : Nat) + 60 = (N : Int) := by
      rw [PySem.ofString_length, PySem.ofString_length, hN]
      omega
    refine ⟨fun σ' H' => ∃ v3 v4 v5 : Option V, σ' = [some (.int n), some (.int d), some (.int ((Nat.gcd n.natAbs d.natAbs : Nat) : Int)), v3, v4, v5] ∧ H' = H2, ?_, ?_⟩
    · refine ⟨_, rfl, _, rfl, l1, _, rfl, PySem.int_text_fits l1, _, _, rfl, rfl, .inl (by constructor <;> decide), ?_⟩
      refine ⟨_, rfl, _, rfl, l2, _, rfl, PySem.int_text_fits l2, _, _, rfl, rfl, .inl (by constructor <;> decide), ?_⟩
      refine ⟨_, _, rfl, rfl, _, _, rfl, rfl, N, congrArg (fun z => [V.int z]) eN, by omega, by omega, ?_⟩
      refine for_range (n := N) (fun i σ' H' => ∃ (c e : Nat) (v4 v5 : Option V), σ' = [some (.int n), some (.int d), some (.int c), some (.int e), v4, v5] ∧ H' = H2 ∧ Eu n.natAbs d.natAbs i c e) ⟨_, _, none, none, rfl, rfl, Eu.start _ _⟩ ?_ ?_
      · rintro i σ' H' hi ⟨c, e, v4, v5, rfl, rfl, eu⟩
        walk_at "rd"
        refine ite2 (fun g => ?_) (fun g => ?_)
        · have he0 : e = 0 := by
            have := eq_of_dec g
            omega
          subst he0
          refine ⟨some (.int ((0 : Nat) : Int)), some (.int (0 + (i : Int))), v5, ?_, rfl⟩
          rw [← eu.end]
          rfl
        · have he0 : e ≠ 0 := fun z => g (decide_eq_true (by rw [z]; rfl))
          walk_at "rd"
          refine ⟨by omega, ?_⟩
          walk_at "rd"
          refine ⟨e, c % e, some (.int (0 + (i : Int))), some (.int ((c % e : Nat) : Int)), ?_, rfl, eu.turn (by omega)⟩
          rw [← fmod_nat c e]
          rfl
      · rintro σ' H' ⟨c, e, v4, v5, rfl, rfl, eu⟩
        have he0 : e = 0 := eu.stop (by omega) (eu_digits hN)
        subst he0
        refine ⟨some (.int ((0 : Nat) : Int)), v4, v5, ?_, rfl⟩
        rw [← eu.end]
    rintro σ' H3 ⟨v3, v4, v5, rfl, rfl⟩
    refine ⟨fun σ' H' => σ' = [some (.int n), some (.int d), some (.int (sg n d)), v3, v4, v5] ∧ H' = H3, ?_, ?_⟩
    · walk_at "rd"
      refine ite2 (fun g2 => ?_) (fun g2 => ?_)
      · refine ⟨_, rfl, _, rfl, ?_, rfl⟩
        unfold sg
        rw [if_pos (of_decide_eq_true g2)]
        rfl
      · refine ⟨?_, rfl⟩
        unfold sg
        rw [if_neg (fun z => g2 (decide_eq_true z))]
    rintro σ' H4 ⟨rfl, rfl⟩
    have hs := sg_ne (n := n) hd
    have hsb : (sg n d).natAbs < 2 ^ 1800 := by
      rw [sg_abs]
      exact Nat.lt_of_le_of_lt (Nat.le_of_dvd (by omega) (Nat.gcd_dvd_right _ _)) bd
    refine ⟨_, rfl, _, rfl, _, _, rfl, rfl, wide_divx hs hsb (by decide) (by decide), _, rfl, _, rfl, _, _, rfl, rfl, wide_divx hs hsb (by decide) (by decide), by show 2 ≤ sizeLine; decide, fun t ht => ?_⟩
    exact k _ t (same_upd ht) upd_same
theorem bz_one {n : Nat} (h : 0 < n) : Bz n 1 := Nat.one_lt_two_pow (by omega)
def spLLawSum (K : PySem.W.Frag) : Sp := spR2 K (fun r s => r + s)
theorem okLLawSum {fLLawSum : Addr} {fdLLawSum : FuncData} (F : Fun K "_law_sum" "_law_sum" sLLawSum fLLawSum fdLLawSum) (T : Txt mg) {CPartError CNought : Addr} (EX : Exns K mg CPartError CNought)
    {fLLawFraction : Addr} {fdLLawFraction : FuncData} (GLLawFraction : FnOk P w K mg base CX0 1 fLLawFraction fdLLawFraction ["number", "divisor"] (spLLawFraction K)) (gLLawFraction : mg "_law_fraction" = some (.ref fLLawFraction)) (kpLLawFraction : PySem.W.keepIn K (.ref fLLawFraction) = true) (bLLawFraction : Binds K fdLLawFraction ["number", "divisor"] []) :
    FnOk P w K mg base CX0 2 fLLawSum fdLLawSum ["a", "b"] (spLLawSum K) := by
  refine F.ok scLLawSum (fun vs H Q E h => ?_) (fun cdv A outer s H vs Q E hr h => ?_)
  · obtain ⟨a, b, r, s, rfl, hA, hB, hr1, hs1, k⟩ := h
    rfl
  · obtain ⟨a, b, r, s, rfl, hA, hB, hr1, hs1, k⟩ := h
    refine ⟨_, (pss_one (ps_ret (pe_call GLLawFraction hr (by rfl) gLLawFraction kpLLawFraction bLLawFraction .nil pass0 (pa_cons (pe_op op_add (pe_op op_mulW (pe_ix ix_tup (pv 0) pe_int (fun _ _ => rfl)) (pe_ix ix_tup (pv 1) pe_int (fun _ _ => rfl))) (pe_op op_mulW (pe_ix ix_tup (pv 1) pe_int (fun _ _ => rfl)) (pe_ix ix_tup (pv 0) pe_int (fun _ _ => rfl)))) (pa_cons (pe_op op_mulW (pe_ix ix_tup (pv 0) pe_int (fun _ _ => rfl)) (pe_ix ix_tup (pv 1) pe_int (fun _ _ => rfl))) pa_nil))))), ?_⟩
    walk_at "go"
    exact ⟨show Bz 1800 _ from Bz.up (by walk_at "bz") (by decide), show Bz 1800 _ from Bz.up (by walk_at "bz") (by decide), dd_ne r s, fun H' t s1 e1 => k H' t s1 (by show Fx K H' t (r + s); rw [add_div]; exact fx_rd (dd_ne r s) e1)⟩
def spLLawTimes (K : PySem.W.Frag) : Sp := spR2 K (fun r s => r * s)
theorem okLLawTimes {fLLawTimes : Addr} {fdLLawTimes : FuncData} (F : Fun K "_law_times" "_law_times" sLLawTimes fLLawTimes fdLLawTimes) (T : Txt mg) {CPartError CNought : Addr} (EX : Exns K mg CPartError CNought)
    {fLLawFraction : Addr} {fdLLawFraction : FuncData} (GLLawFraction : FnOk P w K mg base CX0 1 fLLawFraction fdLLawFraction ["number", "divisor"] (spLLawFraction K)) (gLLawFraction : mg "_law_fraction" = some (.ref fLLawFraction)) (kpLLawFraction : PySem.W.keepIn K (.ref fLLawFraction) = true) (bLLawFraction : Binds K fdLLawFraction ["number", "divisor"] []) :
    FnOk P w K mg base CX0 2 fLLawTimes fdLLawTimes ["a", "b"] (spLLawTimes K) := by
  refine F.ok scLLawTimes (fun vs H Q E h => ?_) (fun cdv A outer s H vs Q E hr h => ?_)
  · obtain ⟨a, b, r, s, rfl, hA, hB, hr1, hs1, k⟩ := h
    rfl
  · obtain ⟨a, b, r, s, rfl, hA, hB, hr1, hs1, k⟩ := h
    refine ⟨_, (pss_one (ps_ret (pe_call GLLawFraction hr (by rfl) gLLawFraction kpLLawFraction bLLawFraction .nil pass0 (pa_cons (pe_op op_mulW (pe_ix ix_tup (pv 0) pe_int (fun _ _ => rfl)) (pe_ix ix_tup (pv 1) pe_int (fun _ _ => rfl))) (pa_cons (pe_op op_mulW (pe_ix ix_tup (pv 0) pe_int (fun _ _ => rfl)) (pe_ix ix_tup (pv 1) pe_int (fun _ _ => rfl))) pa_nil))))), ?_⟩
    walk_at "go"
    exact ⟨show Bz 1800 _ from Bz.up (by walk_at "bz") (by decide), show Bz 1800 _ from Bz.up (by walk_at "bz") (by decide), dd_ne r s, fun H' t s1 e1 => k H' t s1 (by show Fx K H' t (r * s); rw [mul_div]; exact fx_rd (dd_ne r s) e1)⟩
def dacc (x y z : Int) (r1 r2 r3 : Rat) : Nat → Rat
  | 0 => 0
  | i + 1 => dacc x y z r1 r2 r3 i + ((th x y z i : Int) : Rat) * th r1 r2 r3 i
def dot3 (x y z : Int) (r1 r2 r3 : Rat) : Rat := (x : Rat) * r1 + (y : Rat) * r2 + (z : Rat) * r3
theorem dacc_end (x y z : Int) (r1 r2 r3 : Rat) : dacc x y z r1 r2 r3 3 = dot3 x y z r1 r2 r3 := by
  simp only [dacc, th, dot3]
  rw [Rat.zero_add]
theorem dacc_bd {x y z : Int} {r1 r2 r3 : Rat} (x1 : Bz 20 x) (x2 : Bz 20 y) (x3 : Bz 20 z) (h1 : Bd 100 r1) (h2 : Bd 100 r2) (h3 : Bd 100 r3) : ∀ i, Bd (1 + 121 * i) (dacc x y z r1 r2 r3 i) := by
  intro i
  induction i with
  | zero => exact bd_zero
  | succ i ih =>
    have m := (bd_int (th_all (P := Bz 20) x1 x2 x3 i) (by decide)).mul (th_all (P := Bd 100) h1 h2 h3 i)
    exact (ih.add m).up (by omega)
theorem fx_int {K : PySem.W.Frag} {H : Hp} {t : Addr} {n : Int} (h : SqT K H t (zs [n, 1])) : Fx K H t (n : Rat) := h
/-- three fractions, as a tuple or a list -/
def P3 (K : PySem.W.Frag) (H : Hp) (t : Addr) (r1 r2 r3 : Rat) : Prop := ∃ p q r : Addr, (SqT K H t [.ref p, .ref q, .ref r] ∨ SqL K H t [.ref p, .ref q, .ref r]) ∧ Fx K H p r1 ∧ Fx K H q r2 ∧ Fx K H r r3
theorem P3.same {K : PySem.W.Frag} {H H' : Hp} {t : Addr} {r1 r2 r3 : Rat} (h : P3 K H t r1 r2 r3) (e : Same H H') : P3 K H' t r1 r2 r3 := by
  obtain ⟨p, q, r, h1, h2, h3, h4⟩ := h
  exact ⟨p, q, r, h1.imp (same_tup e) (fun h => e.seq h), h2.same e, h3.same e, h4.same e⟩
theorem bd_sum3 {x y z : Int} {r1 r2 r3 : Rat} {n m : Nat} (hn : 0 < n) (x1 : Bz n x) (x2 : Bz n y) (x3 : Bz n z) (h1 : Bd m r1) (h2 : Bd m r2) (h3 : Bd m r3) : Bd (3 * (n + m) + 2) (dot3 x y z r1 r2 r3) :=
  ((((bd_int x1 hn).mul h1).add ((bd_int x2 hn).mul h2)).add ((bd_int x3 hn).mul h3)).up (by omega)
def spLLawDot (K : PySem.W.Frag) : Sp := fun vs H Q _ => ∃ (n t : Addr) (x y z : Int) (r1 r2 r3 : Rat), vs = [.ref n, .ref t] ∧ SqT K H n (zs [x, y, z]) ∧ P3 K H t r1 r2 r3 ∧ Bz 20 x ∧ Bz 20 y ∧ Bz 20 z ∧ Bd 100 r1 ∧ Bd 100 r2 ∧ Bd 100 r3 ∧
  ∀ (H' : Hp) (t : Addr), Same H H' → Fx K H' t (dot3 x y z r1 r2 r3) → Q (.ref t) H'
theorem okLLawDot {fLLawDot : Addr} {fdLLawDot : FuncData} (F : Fun K "_law_dot" "_law_dot" sLLawDot fLLawDot fdLLawDot) (T : Txt mg) {CPartError CNought : Addr} (EX : Exns K mg CPartError CNought)
    {fLLawSum : Addr} {fdLLawSum : FuncData} (GLLawSum : FnOk P w K mg base CX0 2 fLLawSum fdLLawSum ["a", "b"] (spLLawSum K)) (gLLawSum : mg "_law_sum" = some (.ref fLLawSum)) (kpLLawSum : PySem.W.keepIn K (.ref fLLawSum) = true) (bLLawSum : Binds K fdLLawSum ["a", "b"] [])
    {fLLawTimes : Addr} {fdLLawTimes : FuncData} (GLLawTimes : FnOk P w K mg base CX0 2 fLLawTimes fdLLawTimes ["a", "b"] (spLLawTimes K)) (gLLawTimes : mg "_law_times" = some (.ref fLLawTimes)) (kpLLawTimes : PySem.W.keepIn K (.ref fLLawTimes) = true) (bLLawTimes : Binds K fdLLawTimes ["a", "b"] []) :
    FnOk P w K mg base CX0 3 fLLawDot fdLLawDot ["normal", "point"] (spLLawDot K) := by
  refine F.ok scLLawDot (fun vs H Q E h => ?_) (fun cdv A outer s H vs Q E hr h => ?_)
  · obtain ⟨n, t, x, y, z, r1, r2, r3, rfl, hN, ⟨p, q, r, hT, hp, hq, hr3⟩, x1, x2, x3, c1, c2, c3, k⟩ := h
    rfl
  · obtain ⟨n, t, x, y, z, r1, r2, r3, rfl, hN, ⟨p, q, r, hT, hp, hq, hr3⟩, x1, x2, x3, c1, c2, c3, k⟩ := h
    refine ⟨_, (pss_cons (ps_set (i := 2) scLLawDot.nd rfl (Or.inl rfl) (pe_tup (pa_cons pe_int (pa_cons pe_int pa_nil))))
      (C8.pss_cut (ps_for PassesOwn.never rfl (pi_range1 rfl T.range (pa_cons pe_int pa_nil)) (pg_name (i := 3) scLLawDot.nd rfl (Or.inl rfl))
        (pss_one (ps_set (i := 2) scLLawDot.nd rfl (Or.inl rfl) (pe_call GLLawSum hr (by rfl) gLLawSum kpLLawSum bLLawSum .nil pass0 (pa_cons (pv 2) (pa_cons (pe_call GLLawTimes hr (by rfl) gLLawTimes kpLLawTimes bLLawTimes .nil pass0 (pa_cons (pe_tup (pa_cons (pe_ix ix_tup (pv 0) (pv 3) (fun _ _ => rfl)) (pa_cons pe_int pa_nil))) (pa_cons (pe_ix ix_seq (pv 1) (pv 3) (fun _ _ => rfl)) pa_nil))) pa_nil))))))
      (pss_one (ps_ret (pv 2))))), ?_⟩
    refine ⟨tn rfl, fun f0 nf0 => ?_⟩
    generalize hUf0 : upd _ _ (HO.tup _) = H1
    have s1 := same_hu hUf0 nf0
    have eh1 := at_hu hUf0
    have h1 := SqT.of (K := K) eh1
    clear hUf0
    refine ⟨fun σ' H' => ∃ (f : Addr) (v3 : Option V), σ' = [some (.ref n), some (.ref t), some (.ref f), v3] ∧ Same H H' ∧ Fx K H' f (dot3 x y z r1 r2 r3), ?_, ?_⟩
    · refine ⟨3, rfl, by decide, by decide, for_range (n := 3) (fun i σ' H' => ∃ (f : Addr) (v3 : Option V), σ' = [some (.ref n), some (.ref t), some (.ref f), v3] ∧ Same H H' ∧ Fx K H' f (dacc x y z r1 r2 r3 i)) ?_ ?_ ?_⟩
      · exact ⟨f0, none, rfl, s1, h1⟩
      · rintro i σ' H2 hi ⟨f, v3, rfl, s2, hf⟩
        have hi0 : (0 : Int) + (i : Int) = (i : Int) := by omega
        have bx : Bz 20 (th x y z i) := th_all (P := Bz 20) x1 x2 x3 i
        have br : Bd 100 (th r1 r2 r3 i) := th_all (P := Bd 100) c1 c2 c3 i
        have gx : (zs [x, y, z])[i]? = some (.int (th x y z i)) := by
          obtain rfl | rfl | rfl : i = 0 ∨ i = 1 ∨ i = 2 := by omega
          all_goals rfl
        obtain ⟨a, ga, ha⟩ : ∃ a : Addr, [V.ref p, .ref q, .ref r][i]? = some (.ref a) ∧ Fx K H a (th r1 r2 r3 i) := by
          obtain rfl | rfl | rfl : i = 0 ∨ i = 1 ∨ i = 2 := by omega
          · exact ⟨p, rfl, hp⟩
          · exact ⟨q, rfl, hq⟩
          · exact ⟨r, rfl, hr3⟩
        rw [hi0]
        refine ⟨_, rfl, _, rfl, _, rfl, n, _, _, _, rfl, rfl, same_tup s2 hN, atI_nat gx, ?_⟩
        refine ⟨tn rfl, fun m nm => ?_⟩
        generalize hUm : upd _ _ (HO.tup _) = H3
        have s3 := same_hu hUm nm
        have eh3 := at_hu hUm
        have h3 := SqT.of (K := K) eh3
        clear hUm
        refine ⟨_, rfl, _, rfl, ?_⟩
        have s23 := s2.trans s3
        have fin : spLLawTimes K [.ref m, .ref a] H3 (fun yy H4 => spLLawSum K [.ref f, yy] H4 (fun y' H5 => ∃ (f : Addr) (v3 : Option V), [some (.ref n), some (.ref t), some y', some (.int (i : Int))] = [some (.ref n), some (.ref t), some (.ref f), v3] ∧ Same H H5 ∧ Fx K H5 f (dacc x y z r1 r2 r3 (i + 1))) E0) E0 := by
          refine ⟨m, a, ((th x y z i : Int) : Rat), th r1 r2 r3 i, rfl, fx_int h3, ha.same s23, (bd_int bx (by decide)).up (by decide), br.up (by decide), fun H4 t4 s4 f4 => ?_⟩
          refine ⟨f, t4, _, _, rfl, hf.same (s3.trans s4), f4, (dacc_bd x1 x2 x3 c1 c2 c3 i).up (by omega), ((bd_int bx (by decide)).mul br).up (by decide), fun H5 t5 s5 f5 => ?_⟩
          exact ⟨t5, _, rfl, s23.trans (s4.trans s5), f5⟩
        rcases hT with hT | hT
        · exact .inr (.inl ⟨t, _, _, _, rfl, rfl, same_tup s23 hT, atI_nat ga, fin⟩)
        · exact .inl ⟨t, _, _, _, rfl, rfl, s23.seq hT, atI_nat ga, fin⟩
      · rintro σ' H2 ⟨f, v3, rfl, s2, hf⟩
        rw [dacc_end] at hf
        exact ⟨f, v3, rfl, s2, hf⟩
    rintro σ' H2 ⟨f, v3, rfl, s2, hf⟩
    exact ⟨_, rfl, k H2 f s2 hf⟩
theorem vx1 {K : PySem.W.Frag} {H : Hp} {t : Addr} {b s : Rat} (h : Vx K H t b [s]) : ∃ p q a : Addr, SqT K H t [.ref p, .ref q] ∧ Fx K H p b ∧ SqT K H q [.ref a] ∧ Fx K H a s := by
  obtain ⟨p, q, ws, h1, h2, h3, h4, h5⟩ := h
  match ws, h5 with
  | [(a, s')], h5 =>
    obtain rfl : s' = s := by injection h5
    exact ⟨p, q, a, h1, h2, h3, h4 (a, s') List.mem_cons_self⟩
def spLLawAt (K : PySem.W.Frag) : Sp := fun vs H Q _ => ∃ (a w : Addr) (b s r : Rat), vs = [.ref a, .ref w] ∧ Vx K H a b [s] ∧ Fx K H w r ∧ Bd 100 b ∧ Bd 100 s ∧ Bd 100 r ∧ ∀ (H' : Hp) (t : Addr), Same H H' → Fx K H' t (b + s * r) → Q (.ref t) H'
theorem okLLawAt {fLLawAt : Addr} {fdLLawAt : FuncData} (F : Fun K "_law_at" "_law_at" sLLawAt fLLawAt fdLLawAt) (T : Txt mg) {CPartError CNought : Addr} (EX : Exns K mg CPartError CNought)
    {fLLawSum : Addr} {fdLLawSum : FuncData} (GLLawSum : FnOk P w K mg base CX0 2 fLLawSum fdLLawSum ["a", "b"] (spLLawSum K)) (gLLawSum : mg "_law_sum" = some (.ref fLLawSum)) (kpLLawSum : PySem.W.keepIn K (.ref fLLawSum) = true) (bLLawSum : Binds K fdLLawSum ["a", "b"] [])
    {fLLawTimes : Addr} {fdLLawTimes : FuncData} (GLLawTimes : FnOk P w K mg base CX0 2 fLLawTimes fdLLawTimes ["a", "b"] (spLLawTimes K)) (gLLawTimes : mg "_law_times" = some (.ref fLLawTimes)) (kpLLawTimes : PySem.W.keepIn K (.ref fLLawTimes) = true) (bLLawTimes : Binds K fdLLawTimes ["a", "b"] []) :
    FnOk P w K mg base CX0 3 fLLawAt fdLLawAt ["found", "w"] (spLLawAt K) := by
  refine F.ok scLLawAt (fun vs H Q E h => ?_) (fun cdv A outer s H vs Q E hr h => ?_)
  · obtain ⟨a, w, b, s, r, rfl, hA, hW, c1, c2, c3, k⟩ := h
    rfl
  · obtain ⟨a, w, b, s, r, rfl, hA, hW, c1, c2, c3, k⟩ := h
    refine ⟨_, (pss_one (ps_ret (pe_call GLLawSum hr (by rfl) gLLawSum kpLLawSum bLLawSum .nil pass0 (pa_cons (pe_ix ix_tup (pv 0) pe_int (fun _ _ => rfl)) (pa_cons (pe_call GLLawTimes hr (by rfl) gLLawTimes kpLLawTimes bLLawTimes .nil pass0 (pa_cons (pe_ix ix_tup (pe_ix ix_tup (pv 0) pe_int (fun _ _ => rfl)) pe_int (fun _ _ => rfl)) (pa_cons (pv 1) pa_nil))) pa_nil))))), ?_⟩
    obtain ⟨p, q, e, h1, h2, h3, h4⟩ := vx1 hA
    walk_at "go"
    refine ⟨e, w, s, r, rfl, h4, hW, c2.up (by decide), c3.up (by decide), fun H1 t1 s1 f1 => ?_⟩
    walk_at "go"
    exact ⟨p, t1, b, _, rfl, h2.same s1, f1, c1.up (by decide), (c2.mul c3).up (by decide), fun H2 t2 s2 f2 => k H2 t2 (s1.trans s2) f2⟩
def sdv (q : Rat) (k : Bool) : V := if q.num = 0 then .non else .bl (eqb (decide (0 < q.num)) k)
def away (x y z : Int) (r1 r2 r3 a : Rat) : Rat := dot3 x y z r1 r2 r3 + ((-1 : Int) : Rat) * a
def spLLawSide (K : PySem.W.Frag) : Sp := fun vs H Q _ => ∃ (sd t w : Addr) (w0 : V) (x y z : Int) (r1 r2 r3 b s r : Rat) (k : Bool), vs = [.ref sd, .ref t, .ref w] ∧ Sd K H sd w0 x y z b s k ∧ P3 K H t r1 r2 r3 ∧ Fx K H w r ∧ Bz 20 x ∧ Bz 20 y ∧ Bz 20 z ∧ Bd 100 r1 ∧ Bd 100 r2 ∧ Bd 100 r3 ∧ Bd 100 b ∧ Bd 100 s ∧ Bd 100 r ∧
  ∀ H' : Hp, Same H H' → Q (sdv (away x y z r1 r2 r3 (b + s * r)) k) H'
theorem okLLawSide {fLLawSide : Addr} {fdLLawSide : FuncData} (F : Fun K "_law_side" "_law_side" sLLawSide fLLawSide fdLLawSide) (T : Txt mg) {CPartError CNought : Addr} (EX : Exns K mg CPartError CNought)
    {fLLawSum : Addr} {fdLLawSum : FuncData} (GLLawSum : FnOk P w K mg base CX0 2 fLLawSum fdLLawSum ["a", "b"] (spLLawSum K)) (gLLawSum : mg "_law_sum" = some (.ref fLLawSum)) (kpLLawSum : PySem.W.keepIn K (.ref fLLawSum) = true) (bLLawSum : Binds K fdLLawSum ["a", "b"] [])
    {fLLawDot : Addr} {fdLLawDot : FuncData} (GLLawDot : FnOk P w K mg base CX0 3 fLLawDot fdLLawDot ["normal", "point"] (spLLawDot K)) (gLLawDot : mg "_law_dot" = some (.ref fLLawDot)) (kpLLawDot : PySem.W.keepIn K (.ref fLLawDot) = true) (bLLawDot : Binds K fdLLawDot ["normal", "point"] [])
    {fLLawTimes : Addr} {fdLLawTimes : FuncData} (GLLawTimes : FnOk P w K mg base CX0 2 fLLawTimes fdLLawTimes ["a", "b"] (spLLawTimes K)) (gLLawTimes : mg "_law_times" = some (.ref fLLawTimes)) (kpLLawTimes : PySem.W.keepIn K (.ref fLLawTimes) = true) (bLLawTimes : Binds K fdLLawTimes ["a", "b"] [])
    {fLLawAt : Addr} {fdLLawAt : FuncData} (GLLawAt : FnOk P w K mg base CX0 3 fLLawAt fdLLawAt ["found", "w"] (spLLawAt K)) (gLLawAt : mg "_law_at" = some (.ref fLLawAt)) (kpLLawAt : PySem.W.keepIn K (.ref fLLawAt) = true) (bLLawAt : Binds K fdLLawAt ["found", "w"] []) :
    FnOk P w K mg base CX0 4 fLLawSide fdLLawSide ["one", "point", "w"] (spLLawSide K) := by
  refine F.ok scLLawSide (fun vs H Q E h => ?_) (fun cdv A outer s H vs Q E hr h => ?_)
  · obtain ⟨sd, t, w, w0, x, y, z, r1, r2, r3, b, s, r, k, rfl, ⟨n, o, hS, hN, hO⟩, hP, hW, x1, x2, x3, c1, c2, c3, c4, c5, c6, q⟩ := h
    rfl
  · obtain ⟨sd, t, w, w0, x, y, z, r1, r2, r3, b, s, r, k, rfl, ⟨n, o, hS, hN, hO⟩, hP, hW, x1, x2, x3, c1, c2, c3, c4, c5, c6, q⟩ := h
    refine ⟨_, (pss_cons (ps_set (i := 3) scLLawSide.nd rfl (Or.inl rfl) (pe_call GLLawSum (hr.mono (by decide)) (by rfl) gLLawSum kpLLawSum bLLawSum .nil pass0 (pa_cons (pe_call GLLawDot hr (by rfl) gLLawDot kpLLawDot bLLawDot .nil pass0 (pa_cons (pe_ix ix_tup (pv 0) pe_int (fun _ _ => rfl)) (pa_cons (pv 1) pa_nil))) (pa_cons (pe_call GLLawTimes (hr.mono (by decide)) (by rfl) gLLawTimes kpLLawTimes bLLawTimes .nil pass0 (pa_cons (pe_tup (pa_cons (pe_un un_neg pe_int) (pa_cons pe_int pa_nil))) (pa_cons (pe_call GLLawAt hr (by rfl) gLLawAt kpLLawAt bLLawAt .nil pass0 (pa_cons (pe_ix ix_tup (pv 0) pe_int (fun _ _ => rfl)) (pa_cons (pv 2) pa_nil))) pa_nil))) pa_nil))))
      (pss_cons (ps_if (pt_cmpR op_eq (pe_ix ix_tup (pv 3) pe_int (fun _ _ => rfl)) pe_int (nomark _))
        (pss_one (ps_ret pe_non))
        pss_nil)
      (pss_one (ps_ret (pe_cmpR op_eq (pe_cmpR op_gt (pe_ix ix_tup (pv 3) pe_int (fun _ _ => rfl)) pe_int (nomark _)) (pe_ix ix_tup (pv 0) pe_int (fun _ _ => rfl)) (nomark _)))))), ?_⟩
    walk_at "go"
    refine ⟨n, t, x, y, z, r1, r2, r3, rfl, hN, hP, x1, x2, x3, c1, c2, c3, fun H1 t1 s1 f1 => ?_⟩
    walk_at "go"
    refine ⟨tn rfl, fun t2 nt2 => ?_⟩
    generalize hUt2 : upd _ _ (HO.tup _) = H2
    have s2 := same_hu hUt2 nt2
    have eh2 := at_hu hUt2
    have h2 := SqT.of (K := K) eh2
    clear hUt2
    walk_at "go"
    have s12 := s1.trans s2
    refine ⟨o, w, b, s, r, rfl, hO.same s12, hW.same s12, c4, c5, c6, fun H3 t3 s3 f3 => ?_⟩
    have bd1 := c4.add (c5.mul c6)
    walk_at "go"
    refine ⟨t2, t3, ((-1 : Int) : Rat), _, rfl, (fx_int h2).same s3, f3, (bd_int (n := -1) (k := 8) (by unfold Bz; decide) (by decide)).up (by decide), bd1.up (by decide), fun H4 t4 s4 f4 => ?_⟩
    walk_at "go"
    have bd2 := bd_sum3 (by decide) x1 x2 x3 c1 c2 c3
    refine ⟨t1, t4, _, _, rfl, f1.same (s2.trans (s3.trans s4)), f4, bd2.up (by decide), ((bd_int (n := -1) (k := 8) (by unfold Bz; decide) (by decide)).mul bd1).up (by decide), fun H5 t5 s5 f5 => ?_⟩
    have q5 := q H5 (s12.trans (s3.trans (s4.trans s5)))
    have f6 : Fx K H5 t5 (away x y z r1 r2 r3 (b + s * r)) := f5
    generalize away x y z r1 r2 r3 (b + s * r) = aw at q5 f6
    unfold sdv at q5
    have hS5 := same_tup (s12.trans (s3.trans (s4.trans s5))) hS
    walk_at "go"
    refine ite2 (fun g => ?_) (fun g => ?_)
    · rw [if_pos (eq_of_dec g)] at q5
      exact q5
    · rw [if_neg (ne_of_nodec g)] at q5
      walk_at "go"
      exact q5
def spLLawTest (K : PySem.W.Frag) : Sp := fun vs H Q _ => ∃ (g l : Addr) (v : V), vs = [.ref g, .ref l] ∧ SqT K H g [.str "side", .int 0] ∧ SqL K H l [v] ∧ Q v H
theorem okLLawTest {fLLawTest : Addr} {fdLLawTest : FuncData} (F : Fun K "_law_test" "_law_test" sLLawTest fLLawTest fdLLawTest) (T : Txt mg) {CPartError CNought : Addr} (EX : Exns K mg CPartError CNought) :
    FnOk P w K mg base CX0 1 fLLawTest fdLLawTest ["test", "told"] (spLLawTest K) := by
  refine F.ok scLLawTest (fun vs H Q E h => ?_) (fun cdv A outer s H vs Q E hr h => ?_)
  · obtain ⟨g, l, v, rfl, hG, hL, q⟩ := h
    rfl
  · obtain ⟨g, l, v, rfl, hG, hL, q⟩ := h
    refine ⟨_, (pss_cons (ps_if (pt_cmpR op_eq (pe_ix ix_tup (pv 0) pe_int (fun _ _ => rfl)) pe_str (nomark _))
        pss_no
        pss_nil)
      (pss_cons (ps_if (pt_cmpR op_eq (pe_ix ix_tup (pv 0) pe_int (fun _ _ => rfl)) pe_str (nomark _))
        pss_no
        pss_nil)
      (pss_cons (ps_if (pt_cmpR op_eq (pe_ix ix_tup (pv 0) pe_int (fun _ _ => rfl)) pe_str (nomark _))
        pss_no
        pss_nil)
      (pss_one (ps_ret (pe_ix ix_list (pv 1) (pe_ix ix_tup (pv 0) pe_int (fun _ _ => rfl)) (fun _ _ => rfl))))))), ?_⟩
    walk_at "go"
    exact q
def spLLawIn (K : PySem.W.Frag) : Sp := fun vs H Q _ => ∃ (tl t w : Addr) (m : Int) (ks : List Int) (x y z : Int) (r1 r2 r3 b s r : Rat) (k : Bool), vs = [.ref tl, .ref t, .ref w] ∧ Tl K H tl m ks x y z b s k ∧ P3 K H t r1 r2 r3 ∧ Fx K H w r ∧ Bz 20 x ∧ Bz 20 y ∧ Bz 20 z ∧ Bd 100 r1 ∧ Bd 100 r2 ∧ Bd 100 r3 ∧ Bd 100 b ∧ Bd 100 s ∧ Bd 100 r ∧
  ∀ H' : Hp, Same H H' → Q (sdv (away x y z r1 r2 r3 (b + s * r)) k) H'
theorem okLLawIn {fLLawIn : Addr} {fdLLawIn : FuncData} (F : Fun K "_law_in" "_law_in" sLLawIn fLLawIn fdLLawIn) (T : Txt mg) {CPartError CNought : Addr} (EX : Exns K mg CPartError CNought)
    {fLLawTest : Addr} {fdLLawTest : FuncData} (GLLawTest : FnOk P w K mg base CX0 1 fLLawTest fdLLawTest ["test", "told"] (spLLawTest K)) (gLLawTest : mg "_law_test" = some (.ref fLLawTest)) (kpLLawTest : PySem.W.keepIn K (.ref fLLawTest) = true) (bLLawTest : Binds K fdLLawTest ["test", "told"] [])
    {fLLawSide : Addr} {fdLLawSide : FuncData} (GLLawSide : FnOk P w K mg base CX0 4 fLLawSide fdLLawSide ["one", "point", "w"] (spLLawSide K)) (gLLawSide : mg "_law_side" = some (.ref fLLawSide)) (kpLLawSide : PySem.W.keepIn K (.ref fLLawSide) = true) (bLLawSide : Binds K fdLLawSide ["one", "point", "w"] []) :
    FnOk P w K mg base CX0 5 fLLawIn fdLLawIn ["tool", "point", "w"] (spLLawIn K) := by
  refine F.ok scLLawIn (fun vs H Q E h => ?_) (fun cdv A outer s H vs Q E hr h => ?_)
  · obtain ⟨tl, t, w, m, ks, x, y, z, r1, r2, r3, b, s, r, k, rfl, ⟨l, g, sd, w0, hT, hL, hG, hS, hW0⟩, hP, hW, x1, x2, x3, c1, c2, c3, c4, c5, c6, q⟩ := h
    rfl
  · obtain ⟨tl, t, w, m, ks, x, y, z, r1, r2, r3, b, s, r, k, rfl, ⟨l, g, sd, w0, hT, hL, hG, hS, hW0⟩, hP, hW, x1, x2, x3, c1, c2, c3, c4, c5, c6, q⟩ := h
    refine ⟨_, (pss_cons (ps_setLc (i := 3) (own := [("one", 4)]) (by rfl) scLLawIn.nd rfl rfl (sw_true rfl rfl rfl (by decide +kernel)) (pi_list (pe_ix ix_tup (pv 0) pe_int (fun _ _ => rfl))) (blkOk_by (own := [("one", 4)]) (N := ["tool", "point", "w", "told", "one"]) (sc := defScope sLLawIn) (by decide +kernel)) (fun _ _ _ _ _ => (pg_name (i := 4) scLLawIn.nd rfl (Or.inl rfl))) (fun _ _ _ _ _ => pts_nil) (fun _ _ _ _ _ => (pe_call GLLawSide hr (by rfl) gLLawSide kpLLawSide bLLawSide .nil pass0 (pa_cons (pv 4) (pa_cons (pv 1) (pa_cons (pv 2) pa_nil))))))
      (pss_cons (ps_if (pt_cmpR op_in_seq pe_non (pv 3) (by rfl))
        (pss_one (ps_ret pe_non))
        pss_nil)
      (pss_one (ps_ret (pe_call GLLawTest (hr.mono (by decide)) (by rfl) gLLawTest kpLLawTest bLLawTest .nil pass0 (pa_cons (pe_ix ix_tup (pv 0) pe_int (fun _ _ => rfl)) (pa_cons (pv 3) pa_nil))))))), ?_⟩
    walk_at "go"
    refine ⟨⟨_, hL⟩, fun D hDn => ?_⟩
    refine lc_val (walk_list (K := K) (a := l) (xs := [.ref sd])) [sdv (away x y z r1 r2 r3 (b + s * r)) k] rfl (by show 1 ≤ 1000; decide) hDn (fun H2 s2 => s2.seq hL) ?_ ?_
    · rintro i c v' H2 H3 kk2 hc s2 ⟨rfl, g1⟩ kk3
      obtain rfl : i = 0 := by
        have : i < 1 := (List.getElem?_eq_some_iff.mp hc).1
        omega
      obtain rfl : V.ref sd = v' := Option.some.inj g1
      obtain rfl : sdv (away x y z r1 r2 r3 (b + s * r)) k = c := Option.some.inj hc
      walk_at "go"
      exact ⟨sd, t, w, w0, x, y, z, r1, r2, r3, b, s, r, k, rfl, hS.same s2, hP.same s2, hW.same s2, x1, x2, x3, c1, c2, c3, c4, c5, c6, fun H4 s4 => kk3 H4 s4⟩
    · intro H2 s2 e2
      have q2 := q H2 s2
      generalize away x y z r1 r2 r3 (b + s * r) = aw at q2 e2
      by_cases h0 : aw.num = 0
      · have es : sdv aw k = .non := by
          unfold sdv
          rw [if_pos h0]
        rw [es] at e2 q2
        walk_at "go"
        refine ⟨D, _, rfl, .inl (SqL.of e2), rfl, rfl, ?_⟩
        walk_at "go"
        exact q2
      · have es : ∃ c, sdv aw k = .bl c := by
          unfold sdv
          rw [if_neg h0]
          exact ⟨_, rfl⟩
        obtain ⟨c, es⟩ := es
        rw [es] at e2 q2
        walk_at "go"
        refine ⟨D, _, rfl, .inl (SqL.of e2), rfl, rfl, ?_⟩
        walk_at "go"
        exact ⟨g, D, .bl c, rfl, same_tup s2 hG, SqL.of e2, q2⟩
def spLLawShared (K : PySem.W.Frag) : Sp := fun vs H Q _ => ∃ a b : Nat, vs = [.int a, .int b] ∧ a < 2 ^ 30 ∧ b < 2 ^ 30 ∧ Q (.int ((Nat.gcd a b : Nat) : Int)) H
theorem okLLawShared {fLLawShared : Addr} {fdLLawShared : FuncData} (F : Fun K "_law_shared" "_law_shared" sLLawShared fLLawShared fdLLawShared) (T : Txt mg) {CPartError CNought : Addr} (EX : Exns K mg CPartError CNought) :
    FnOk P w K mg base CX0 1 fLLawShared fdLLawShared ["a", "b"] (spLLawShared K) := by
  refine F.ok scLLawShared (fun vs H Q E h => ?_) (fun cdv A outer s H vs Q E hr h => ?_)
  · obtain ⟨a, b, rfl, ha, hb, k⟩ := h
    rfl
  · obtain ⟨a, b, rfl, ha, hb, k⟩ := h
    refine ⟨_, (C8.pss_cut (ps_for PassesOwn.never rfl (pi_range1 rfl T.range (pa_cons pe_int pa_nil)) (pg_name (i := 2) scLLawShared.nd rfl (Or.inl rfl))
        (pss_cons (ps_if (pt_cmpR op_eq (pv 1) pe_int (nomark _))
          (pss_one ps_break)
          pss_nil)
        (pss_cons (ps_set (i := 3) scLLawShared.nd rfl (Or.inl rfl) (pe_op op_modN (pe_callTy call_int1 (by rfl) T.int (by decide +kernel) (pa_cons (pv 0) pa_nil)) (pv 1)))
        (pss_cons (ps_set (i := 0) scLLawShared.nd rfl (Or.inl rfl) (pv 1))
        (pss_one (ps_set (i := 1) scLLawShared.nd rfl (Or.inl rfl) (pv 3)))))))
      (pss_one (ps_ret (pv 0)))), ?_⟩
    refine ⟨fun σ' H' => ∃ v1 v2 v3 : Option V, σ' = [some (.int ((Nat.gcd a b : Nat) : Int)), v1, v2, v3] ∧ H' = H, ?_, ?_⟩
    · refine ⟨80, rfl, by decide, by decide, for_range (n := 80) (fun i σ' H' => ∃ (c e : Nat) (v2 v3 : Option V), σ' = [some (.int (c : Int)), some (.int (e : Int)), v2, v3] ∧ H' = H ∧ Eu a b i c e) ⟨_, _, none, none, rfl, rfl, Eu.start _ _⟩ ?_ ?_⟩
      · rintro i σ' H' hi ⟨c, e, v2, v3, rfl, rfl, eu⟩
        walk_at "rd"
        refine ite2 (fun g => ?_) (fun g => ?_)
        · have he0 : e = 0 := by
            have := eq_of_dec g
            omega
          subst he0
          refine ⟨some (.int ((0 : Nat) : Int)), some (.int (0 + (i : Int))), v3, ?_, rfl⟩
          rw [← eu.end]
          rfl
        · have he0 : e ≠ 0 := fun z => g (decide_eq_true (by rw [z]; rfl))
          walk_at "rd"
          refine ⟨by omega, _, rfl, _, rfl, e, c % e, some (.int (0 + (i : Int))), some (.int ((c % e : Nat) : Int)), ?_, rfl, eu.turn (by omega)⟩
          rw [← fmod_nat c e]
          rfl
      · rintro σ' H' ⟨c, e, v2, v3, rfl, rfl, eu⟩
        have he0 : e = 0 := eu.stop (by decide) (by
          have h1 : a * b < 2 ^ 30 * 2 ^ 30 := Nat.mul_lt_mul'' ha hb
          have h2 : 2 * (2 ^ 30 * 2 ^ 30) < 2 ^ 80 := by decide
          omega)
        subst he0
        refine ⟨some (.int ((0 : Nat) : Int)), v2, v3, ?_, rfl⟩
        rw [← eu.end]
    rintro σ' H' ⟨v1, v2, v3, rfl, rfl⟩
    exact ⟨_, rfl, k⟩
def gi (x y z : Int) : Nat → Nat
  | 0 => 0
  | i + 1 => Nat.gcd (gi x y z i) (th x y z i).natAbs
theorem gi_end (x y z : Int) : gi x y z 3 = g3 x y z := by
  simp only [gi, th, g3]
  rw [Nat.gcd_zero_left]
theorem gi_lt {x y z : Int} (h1 : Bz 30 x) (h2 : Bz 30 y) (h3 : Bz 30 z) : ∀ i, gi x y z i < 2 ^ 30 := by
  intro i
  induction i with
  | zero => exact Nat.two_pow_pos 30
  | succ i ih =>
    have hz : (th x y z i).natAbs < 2 ^ 30 := th_all (P := Bz 30) h1 h2 h3 i
    show Nat.gcd (gi x y z i) (th x y z i).natAbs < 2 ^ 30
    rcases Nat.eq_zero_or_pos (th x y z i).natAbs with e | e
    · rw [e, Nat.gcd_zero_right]
      exact ih
    · exact Nat.lt_of_le_of_lt (Nat.le_of_dvd e (Nat.gcd_dvd_right _ _)) hz
def spLLawCanonical (K : PySem.W.Frag) : Sp := fun vs H Q _ => ∃ (tl : Addr) (m : Int) (ks : List Int) (x y z : Int) (b s : Rat) (k : Bool), vs = [.ref tl] ∧ Tl K H tl m ks x y z b s k ∧ ¬ (x = 0 ∧ y = 0 ∧ z = 0) ∧ Bz 30 x ∧ Bz 30 y ∧ Bz 30 z ∧ g3 x y z = 1 ∧ dn x y z = false ∧ ∀ H' : Hp, Same H H' → Q (.bl true) H'
theorem okLLawCanonical {fLLawCanonical : Addr} {fdLLawCanonical : FuncData} (F : Fun K "_law_canonical" "_law_canonical" sLLawCanonical fLLawCanonical fdLLawCanonical) (T : Txt mg) {CPartError CNought : Addr} (EX : Exns K mg CPartError CNought)
    {fLLawShared : Addr} {fdLLawShared : FuncData} (GLLawShared : FnOk P w K mg base CX0 1 fLLawShared fdLLawShared ["a", "b"] (spLLawShared K)) (gLLawShared : mg "_law_shared" = some (.ref fLLawShared)) (kpLLawShared : PySem.W.keepIn K (.ref fLLawShared) = true) (bLLawShared : Binds K fdLLawShared ["a", "b"] []) :
    FnOk P w K mg base CX0 2 fLLawCanonical fdLLawCanonical ["tool"] (spLLawCanonical K) := by
  refine F.ok scLLawCanonical (fun vs H Q E h => ?_) (fun cdv A outer s H vs Q E hr h => ?_)
  · obtain ⟨tl, m, ks, x, y, z, b, s, k, rfl, ⟨l, g, sd, w0, hT, hL, hG, ⟨n, o, hS, hN, hO⟩, hW0⟩, hn, x1, x2, x3, hg, hd, q⟩ := h
    rfl
  · obtain ⟨tl, m, ks, x, y, z, b, s, k, rfl, ⟨l, g, sd, w0, hT, hL, hG, ⟨n, o, hS, hN, hO⟩, hW0⟩, hn, x1, x2, x3, hg, hd, q⟩ := h
    refine ⟨_, (C8.pss_cut (ps_for PassesOwn.never rfl (pi_list (pe_ix ix_tup (pv 0) pe_int (fun _ _ => rfl))) (pg_name (i := 1) scLLawCanonical.nd rfl (Or.inl rfl))
        (pss_cons (ps_set (i := 2) scLLawCanonical.nd rfl (Or.inl rfl) (pe_ix ix_tup (pv 1) pe_int (fun _ _ => rfl)))
        (pss_cons (ps_set (i := 3) scLLawCanonical.nd rfl (Or.inl rfl) (pe_ix ix_list (pe_lc (own := [("part", 5)]) (by rfl) scLLawCanonical.nd (pi_tup (pv 2)) (blkOk_by (own := [("part", 5)]) (N := ["tool", "one", "normal", "first", "size", "part"]) (sc := defScope sLLawCanonical) (by decide +kernel)) (fun _ _ _ _ _ => (pg_name (i := 5) scLLawCanonical.nd rfl (Or.inl rfl))) (fun _ _ _ _ _ => pts_one (pt_cmpR op_ne (pv 5) pe_int (nomark _))) (fun _ _ _ _ _ => (pv 5))) pe_int (fun _ _ => rfl)))
        (pss_cons (ps_set (i := 4) scLLawCanonical.nd rfl (Or.inl rfl) pe_int)
        (C8.pss_cut (ps_for PassesOwn.never rfl (pi_tup (pv 2)) (pg_name (i := 5) scLLawCanonical.nd rfl (Or.inl rfl))
          (pss_one (ps_set (i := 4) scLLawCanonical.nd rfl (Or.inl rfl) (pe_call GLLawShared hr (by rfl) gLLawShared kpLLawShared bLLawShared .nil pass0 (pa_cons (pv 4) (pa_cons (pe_ifExp (pt_cmpR op_ge (pv 5) pe_int (nomark _)) (pv 5) (pe_un un_neg (pv 5))) pa_nil))))))
        (pss_one (ps_if (PW.pt (pw_or (pt_cmpR op_lt (pv 3) pe_int (nomark _)) (pw_or (pt_cmpR op_ne (pv 4) pe_int (nomark _)) (pw_or (pt_not (pt_val (pe_callB call_isi (by rfl) T.isinstance (by decide +kernel) (pa_cons (pv 2) (pa_cons (pe_bltn (v := .ty "tuple") (by rfl) T.tuple (by decide +kernel) rfl) pa_nil))))) (pw_or1 (pt_not (pt_val (pe_callB call_isi (by rfl) T.isinstance (by decide +kernel) (pa_cons (pe_ix ix_tup (pv 1) pe_int (fun _ _ => rfl)) (pa_cons (pe_bltn (v := .ty "bool") (by rfl) T.bool (by decide +kernel) rfl) pa_nil))))))))))
          (pss_one (ps_ret pe_bl))
          pss_nil)))))))
      (pss_one (ps_ret pe_bl))), ?_⟩
    have fin : ∀ H', Same H H' → Q (.bl true) H' := q
    refine ⟨fun σ' H' => (∃ v1 v2 v3 v4 v5 : Option V, σ' = [some (.ref tl), v1, v2, v3, v4, v5]) ∧ Same H H', ?_, ?_⟩
    · walk_at "go"
      refine ⟨⟨_, hL⟩, for_list (K := K) (a := l) (xs := [.ref sd]) (fun i σ' H' => (∃ v1 v2 v3 v4 v5 : Option V, σ' = [some (.ref tl), v1, v2, v3, v4, v5]) ∧ Same H H') ⟨⟨_, _, _, _, _, rfl⟩, Same.refl _⟩ (fun i σ' H' _ h => h.2.seq hL) ?_ (fun σ' H' h => h)⟩
      rintro i v σ' H1 hi ⟨⟨v1, v2, v3, v4, v5, rfl⟩, s1⟩
      obtain rfl : i = 0 := by
        have : i < 1 := (List.getElem?_eq_some_iff.mp hi).1
        omega
      obtain rfl : V.ref sd = v := Option.some.inj hi
      have hS1 := same_tup s1 hS
      have hN1 := same_tup s1 hN
      walk_at "go"
      refine ⟨⟨_, hN1⟩, fun D hDn => ?_⟩
      refine lc_tup (K := K) (a := n) (xs := zs [x, y, z]) (fun i H2 => Same H1 H2 ∧ H2 D = some (.lst (zs (([x, y, z].take i).filter fun v => decide (v ≠ 0))))) ⟨same_upd hDn, upd_same⟩ (fun i H2 _ h => same_tup h.1 hN1) ?_ ?_
      · rintro i v H2 hi ⟨s2, e2⟩
        obtain ⟨zz, rfl, hz⟩ := zs_get hi
        refine ⟨rfl, ?_⟩
        walk_at "rd"
        refine ite2 (fun g => ?_) (fun g => ?_)
        · refine ⟨_, rfl, _, e2, fil_lt _ (by show 3 ≤ 1000; decide), fun b o e => ?_, ?_⟩
          · rw [upd_ne (ne_of_none e hDn)]
            exact s2 b o e
          · rw [upd_same, fil_snoc hz (ne_of_bang g)]
        · refine ⟨s2, ?_⟩
          rw [fil_same hz (eq_of_nobang g)]
          exact e2
      · rintro H2 ⟨s2, e2⟩
        have e2' : (zs (([x, y, z].take (zs [x, y, z]).length).filter fun v => decide (v ≠ 0))) = zs ([x, y, z].filter fun v => decide (v ≠ 0)) := rfl
        rw [e2'] at e2
        refine ⟨D, _, 0, _, rfl, rfl, SqL.of e2, atI_nat (j := 0) (fs3_get hn), ?_⟩
        have s12 := s1.trans s2
        have hN2 := same_tup s2 hN1
        have hS2 := same_tup s2 hS1
        refine ⟨fun σ' H' => (∃ v5 : Option V, σ' = [some (.ref tl), some (.ref sd), some (.ref n), some (.int (fs3 x y z)), some (.int ((g3 x y z : Nat) : Int)), v5]) ∧ H' = H2, ?_, ?_⟩
        · refine ⟨_, rfl, n, rfl, ⟨_, hN2⟩, for_tup (K := K) (a := n) (xs := zs [x, y, z]) (fun i σ' H' => (∃ v5 : Option V, σ' = [some (.ref tl), some (.ref sd), some (.ref n), some (.int (fs3 x y z)), some (.int ((gi x y z i : Nat) : Int)), v5]) ∧ H' = H2) ⟨⟨v5, rfl⟩, rfl⟩ ?_ ?_ ?_⟩
          · rintro i σ' H' _ ⟨_, rfl⟩
            exact hN2
          · rintro i v σ' H' hi ⟨⟨w5, rfl⟩, rfl⟩
            obtain ⟨zz, rfl, hz⟩ := zs_get hi
            obtain ⟨hi3, rfl⟩ := th_get hz
            have hb : (th x y z i).natAbs < 2 ^ 30 := th_all (P := Bz 30) x1 x2 x3 i
            have hb2 := gi_lt x1 x2 x3 i
            walk_at "rd"
            refine ite2 (fun g => ?_) (fun g => ?_)
            · have g0 : 0 ≤ th x y z i := of_decide_eq_true g
              refine ⟨_, rfl, gi x y z i, (th x y z i).natAbs, ?_, hb2, hb, ⟨_, rfl⟩, rfl⟩
              show [V.int _, V.int (th x y z i)] = _
              rw [show (((th x y z i).natAbs : Nat) : Int) = th x y z i by omega]
            · have g0 : ¬ 0 ≤ th x y z i := fun z => g (decide_eq_true z)
              refine ⟨_, rfl, _, rfl, gi x y z i, (th x y z i).natAbs, ?_, hb2, hb, ⟨_, rfl⟩, rfl⟩
              show [V.int _, V.int (-th x y z i)] = _
              rw [show (((th x y z i).natAbs : Nat) : Int) = -th x y z i by omega]
          · rintro σ' H' ⟨⟨w5, rfl⟩, rfl⟩
            refine ⟨⟨w5, ?_⟩, rfl⟩
            rw [show (zs [x, y, z]).length = 3 from rfl, gi_end]
        rintro σ' H' ⟨⟨w5, rfl⟩, rfl⟩
        walk_at "rd"
        rw [fs3_dn hn, hd]
        refine iteF ?_
        walk_at "rd"
        rw [hg]
        refine ite2 (fun g => absurd (by rfl) (ne_of_bang g)) (fun _ => ?_)
        refine ⟨.ref n, rfl, .ref n, .ty "tuple", .type "tuple", .type "tuple", true, rfl, .ty _, tyx_tup hN2, kit_ty (by decide +kernel), true, rfl, ?_⟩
        refine iteF ?_
        walk_at "go"
        refine ⟨.bl k, .ty "bool", .type "bool", .type "bool", true, rfl, .ty _, .base (.bl k), kit_ty (by decide +kernel), true, rfl, ?_⟩
        refine iteF ?_
        exact ⟨⟨_, _, _, _, _, rfl⟩, s12⟩
    · rintro σ' H' ⟨⟨v1, v2, v3, v4, v5, rfl⟩, s1⟩
      walk_at "go"
      exact fin H' s1
theorem eqv33 (x y z u v w : Int) : PyData.eqv (pd3 x y z) (pd3 u v w) = decide (x = u ∧ y = v ∧ z = w) := by
  unfold pd3
  simp only [PyData.eqv, PyData.eqvAll, Bool.and_true]
  by_cases h1 : x = u
  · by_cases h2 : y = v
    · by_cases h3 : z = w
      · simp [h1, h2, h3]
      · simp [h1, h2, h3]
    · simp [h1, h2]
  · simp [h1]
theorem mod7 (d : Int) : (d % 7 - 3).natAbs ≤ 3 := by
  have h1 := Int.emod_nonneg d (show (7 : Int) ≠ 0 by decide)
  have h2 := Int.emod_lt_of_pos d (show (0 : Int) < 7 by decide)
  omega
def spLLawDirection (K : PySem.W.Frag) : Sp := fun vs H Q _ => ∃ d : Int, vs = [.int d] ∧ ∀ (H' : Hp) (t : Addr) (x y z : Int), Same H H' → SqT K H' t (zs [x, y, z]) → ¬ (x = 0 ∧ y = 0 ∧ z = 0) → x.natAbs ≤ 3 → y.natAbs ≤ 3 → z.natAbs ≤ 3 → Q (.ref t) H'
theorem okLLawDirection {fLLawDirection : Addr} {fdLLawDirection : FuncData} (F : Fun K "_law_direction" "_law_direction" sLLawDirection fLLawDirection fdLLawDirection) (T : Txt mg) {CPartError CNought : Addr} (EX : Exns K mg CPartError CNought) :
    FnOk P w K mg base CX0 1 fLLawDirection fdLLawDirection ["draw"] (spLLawDirection K) := by
  refine F.ok scLLawDirection (fun vs H Q E h => ?_) (fun cdv A outer s H vs Q E hr h => ?_)
  · obtain ⟨d, rfl, k⟩ := h
    rfl
  · obtain ⟨d, rfl, k⟩ := h
    refine ⟨_, (pss_cons (ps_set (i := 1) scLLawDirection.nd rfl (Or.inl rfl) (pe_tup (pa_cons (pe_op op_sub (pe_op op_mod (pe_callTy call_int1 (by rfl) T.int (by decide +kernel) (pa_cons (pv 0) pa_nil)) pe_int) pe_int) (pa_cons (pe_op op_sub (pe_op op_mod (pe_callTy call_int1 (by rfl) T.int (by decide +kernel) (pa_cons (pe_op op_fdiv (pv 0) pe_int) pa_nil)) pe_int) pe_int) (pa_cons (pe_op op_sub (pe_op op_mod (pe_callTy call_int1 (by rfl) T.int (by decide +kernel) (pa_cons (pe_op op_fdiv (pv 0) pe_int) pa_nil)) pe_int) pe_int) pa_nil)))))
      (pss_one (ps_ret (pe_ifExp (pt_cmpR (op_eqD hr.units) (pv 1) (pe_tup (pa_cons pe_int (pa_cons pe_int (pa_cons pe_int pa_nil)))) (nomark _)) (pe_tup (pa_cons pe_int (pa_cons (pe_un un_neg pe_int) (pa_cons pe_int pa_nil)))) (pv 1))))), ?_⟩
    walk_at "go"
    refine ⟨tn rfl, fun t1 nt1 => ?_⟩
    generalize hUt1 : upd _ _ (HO.tup _) = H1
    have s1 := same_hu hUt1 nt1
    have eh1 := at_hu hUt1
    have h1 := SqT.of (K := K) eh1
    clear hUt1
    walk_at "go"
    refine ⟨tn rfl, fun t2 nt2 => ?_⟩
    generalize hUt2 : upd _ _ (HO.tup _) = H2
    have s2 := same_hu hUt2 nt2
    have eh2 := at_hu hUt2
    have h2 := SqT.of (K := K) eh2
    clear hUt2
    refine ⟨_, _, dp3 (same_tup s2 h1), dp3 (x := 0) (y := 0) (z := 0) h2, rfl, rfl, ?_⟩
    rw [eqv33]
    refine ⟨_, rfl, ?_⟩
    refine ite2 (fun g => ?_) (fun g => ?_)
    · walk_at "go"
      refine ⟨tn rfl, fun t3 nt3 => ?_⟩
      generalize hUt3 : upd _ _ (HO.tup _) = H3
      have s3 := same_hu hUt3 nt3
      have eh3 := at_hu hUt3
      have h3 := SqT.of (K := K) eh3
      clear hUt3
      exact k H3 t3 2 (-1) 0 (s1.trans (s2.trans s3)) h3 (by decide) (by decide) (by decide) (by decide)
    · have g0 : ¬ (d % 7 - 3 = 0 ∧ d / 7 % 7 - 3 = 0 ∧ d / 49 % 7 - 3 = 0) := fun h => g (decide_eq_true h)
      walk_at "go"
      exact k H2 t1 _ _ _ (s1.trans s2) (same_tup s2 h1) g0 (mod7 _) (mod7 _) (mod7 _)
theorem bd_small {n d : Int} {k : Nat} (hd : 0 < d) (h1 : n.natAbs < 2 ^ k) (h2 : d.natAbs < 2 ^ k) : Bd k (Rat.divInt n d) := bd_of (by omega) h1 h2
def spLLawValue (K : PySem.W.Frag) : Sp := fun vs H Q _ => ∃ d : Int, vs = [.int d] ∧ ∀ (H' : Hp) (t : Addr) (b s : Rat), Same H H' → Vx K H' t b [s] → Bd 3 b → Bd 2 s → Q (.ref t) H'
theorem okLLawValue {fLLawValue : Addr} {fdLLawValue : FuncData} (F : Fun K "_law_value" "_law_value" sLLawValue fLLawValue fdLLawValue) (T : Txt mg) {CPartError CNought : Addr} (EX : Exns K mg CPartError CNought)
    {fLLawFraction : Addr} {fdLLawFraction : FuncData} (GLLawFraction : FnOk P w K mg base CX0 1 fLLawFraction fdLLawFraction ["number", "divisor"] (spLLawFraction K)) (gLLawFraction : mg "_law_fraction" = some (.ref fLLawFraction)) (kpLLawFraction : PySem.W.keepIn K (.ref fLLawFraction) = true) (bLLawFraction : Binds K fdLLawFraction ["number", "divisor"] []) :
    FnOk P w K mg base CX0 2 fLLawValue fdLLawValue ["draw"] (spLLawValue K) := by
  refine F.ok scLLawValue (fun vs H Q E h => ?_) (fun cdv A outer s H vs Q E hr h => ?_)
  · obtain ⟨d, rfl, k⟩ := h
    rfl
  · obtain ⟨d, rfl, k⟩ := h
    refine ⟨_, (pss_one (ps_ret (pe_tup (pa_cons (pe_call GLLawFraction hr (by rfl) gLLawFraction kpLLawFraction bLLawFraction .nil pass0 (pa_cons (pe_op op_sub (pe_op op_mod (pe_callTy call_int1 (by rfl) T.int (by decide +kernel) (pa_cons (pv 0) pa_nil)) pe_int) pe_int) (pa_cons (pe_op op_add pe_int (pe_op op_mod (pe_callTy call_int1 (by rfl) T.int (by decide +kernel) (pa_cons (pe_op op_fdiv (pv 0) pe_int) pa_nil)) pe_int)) pa_nil))) (pa_cons (pe_tup (pa_cons (pe_call GLLawFraction hr (by rfl) gLLawFraction kpLLawFraction bLLawFraction .nil pass0 (pa_cons (pe_op op_sub (pe_op op_mod (pe_callTy call_int1 (by rfl) T.int (by decide +kernel) (pa_cons (pe_op op_fdiv (pv 0) pe_int) pa_nil)) pe_int) pe_int) (pa_cons pe_int pa_nil))) pa_nil)) pa_nil))))), ?_⟩
    have h1 := Int.emod_nonneg d (show (15 : Int) ≠ 0 by decide)
    have h2 := Int.emod_lt_of_pos d (show (0 : Int) < 15 by decide)
    have h3 := Int.emod_nonneg (d / 15) (show (3 : Int) ≠ 0 by decide)
    have h4 := Int.emod_lt_of_pos (d / 15) (show (0 : Int) < 3 by decide)
    have h5 := Int.emod_nonneg (d / 45) (show (5 : Int) ≠ 0 by decide)
    have h6 := Int.emod_lt_of_pos (d / 45) (show (0 : Int) < 5 by decide)
    have c : (1000 : Nat) < 2 ^ 1800 := Nat.lt_of_lt_of_le (by decide) (Nat.pow_le_pow_right (n := 2) (i := 10) (by decide) (by decide))
    walk_at "go"
    refine ⟨by omega, by omega, by omega, fun H1 t1 s1 e1 => ?_⟩
    walk_at "go"
    refine ⟨by omega, by omega, by omega, fun H2 t2 s2 e2 => ?_⟩
    walk_at "go"
    refine ⟨tn rfl, fun t3 nt3 => ?_⟩
    generalize hUt3 : upd _ _ (HO.tup _) = H3
    have s3 := same_hu hUt3 nt3
    have eh3 := at_hu hUt3
    have h3 := SqT.of (K := K) eh3
    clear hUt3
    walk_at "go"
    refine ⟨tn rfl, fun t4 nt4 => ?_⟩
    generalize hUt4 : upd _ _ (HO.tup _) = H4
    have s4 := same_hu hUt4 nt4
    have eh4 := at_hu hUt4
    have h4 := SqT.of (K := K) eh4
    clear hUt4
    refine k H4 t4 _ _ (s1.trans (s2.trans (s3.trans s4))) ⟨t1, t3, [(t2, Rat.divInt (d / 45 % 5 - 2) 1)], h4, (fx_rd (by omega) e1).same (s2.trans (s3.trans s4)), same_tup s4 h3, (fun w hw => by
      rw [List.mem_singleton.mp hw]
      exact (fx_rd (by omega) e2).same (s3.trans s4)), rfl⟩ (bd_small (by omega) (by omega) (by omega)) (bd_small (by omega) (by omega) (by omega))
def Px (K : PySem.W.Frag) (H : Hp) (t : Addr) (r1 r2 r3 : Rat) : Prop := ∃ p q r : Addr, SqT K H t [.ref p, .ref q, .ref r] ∧ Fx K H p r1 ∧ Fx K H q r2 ∧ Fx K H r r3
theorem Px.same {K : PySem.W.Frag} {H H' : Hp} {t : Addr} {r1 r2 r3 : Rat} (h : Px K H t r1 r2 r3) (e : Same H H') : Px K H' t r1 r2 r3 := by
  obtain ⟨p, q, r, h1, h2, h3, h4⟩ := h
  exact ⟨p, q, r, same_tup e h1, h2.same e, h3.same e, h4.same e⟩
theorem Px.p3 {K : PySem.W.Frag} {H : Hp} {t : Addr} {r1 r2 r3 : Rat} (h : Px K H t r1 r2 r3) : P3 K H t r1 r2 r3 := by
  obtain ⟨p, q, r, h1, h2, h3, h4⟩ := h
  exact ⟨p, q, r, .inl h1, h2, h3, h4⟩
theorem fx_inv {K : PySem.W.Frag} {H : Hp} {t : Addr} {n : Int} (h : SqT K H t (zs [1, n])) (hn : 0 < n) : Fx K H t (iv n) := by
  unfold Fx iv
  rw [← rat_rd (by omega), low_of (by rw [show (1 : Int).natAbs = 1 from rfl, Nat.gcd_one_left]) hn]
  exact h
def bk (u v w : Int) (r1 r2 r3 a : Rat) : Rat := ((-2 : Int) : Rat) * (away u v w r1 r2 r3 a * iv (sq3 u v w))
theorem sqn (u : Int) : 0 ≤ u * u := by
  rcases Int.le_total 0 u with h | h
  · exact Int.mul_nonneg h h
  · exact Int.mul_nonneg_of_nonpos_of_nonpos h h
theorem sq3_pos {u v w : Int} (h : ¬ (u = 0 ∧ v = 0 ∧ w = 0)) : 0 < sq3 u v w := by
  unfold sq3
  have h1 : 0 ≤ u * u := sqn u
  have h2 : 0 ≤ v * v := sqn v
  have h3 : 0 ≤ w * w := sqn w
  rcases Int.lt_or_le 0 (u * u + v * v + w * w) with g | g
  · exact g
  · exfalso
    refine h ⟨?_, ?_, ?_⟩
    · rcases Int.mul_eq_zero.mp (show u * u = 0 by omega) with e | e <;> exact e
    · rcases Int.mul_eq_zero.mp (show v * v = 0 by omega) with e | e <;> exact e
    · rcases Int.mul_eq_zero.mp (show w * w = 0 by omega) with e | e <;> exact e
theorem pt_row {K : PySem.W.Frag} {H : Hp} {ws : List (Addr × Rat)} {r1 r2 r3 : Rat} (h : Rx K H ws) (e : ws.map (·.2) = [r1, r2, r3]) : ∃ p q r : Addr, fr ws = [.ref p, .ref q, .ref r] ∧ Fx K H p r1 ∧ Fx K H q r2 ∧ Fx K H r r3 := by
  match ws, e with
  | [(p, s1), (q, s2), (r, s3)], e =>
    injection e with e1 e
    injection e with e2 e
    injection e with e3 _
    subst e1 e2 e3
    exact ⟨p, q, r, rfl, h (p, s1) (by simp), h (q, s2) (by simp), h (r, s3) (by simp)⟩
def spLLawMirrored (K : PySem.W.Frag) : Sp := fun vs H Q _ => ∃ (t d at_ : Addr) (u v w : Int) (r1 r2 r3 a : Rat), vs = [.ref t, .ref d, .ref at_] ∧ Px K H t r1 r2 r3 ∧ SqT K H d (zs [u, v, w]) ∧ Fx K H at_ a ∧ ¬ (u = 0 ∧ v = 0 ∧ w = 0) ∧ Bz 2 u ∧ Bz 2 v ∧ Bz 2 w ∧ Bd 17 r1 ∧ Bd 17 r2 ∧ Bd 17 r3 ∧ Bd 9 a ∧
  ∀ (H' : Hp) (t : Addr), Same H H' → Px K H' t (r1 + bk u v w r1 r2 r3 a * (u : Rat)) (r2 + bk u v w r1 r2 r3 a * (v : Rat)) (r3 + bk u v w r1 r2 r3 a * (w : Rat)) → Bd 98 (r1 + bk u v w r1 r2 r3 a * (u : Rat)) → Bd 98 (r2 + bk u v w r1 r2 r3 a * (v : Rat)) → Bd 98 (r3 + bk u v w r1 r2 r3 a * (w : Rat)) → Q (.ref t) H'
theorem okLLawMirrored {fLLawMirrored : Addr} {fdLLawMirrored : FuncData} (F : Fun K "_law_mirrored" "_law_mirrored" sLLawMirrored fLLawMirrored fdLLawMirrored) (T : Txt mg) {CPartError CNought : Addr} (EX : Exns K mg CPartError CNought)
    {fLLawSum : Addr} {fdLLawSum : FuncData} (GLLawSum : FnOk P w K mg base CX0 2 fLLawSum fdLLawSum ["a", "b"] (spLLawSum K)) (gLLawSum : mg "_law_sum" = some (.ref fLLawSum)) (kpLLawSum : PySem.W.keepIn K (.ref fLLawSum) = true) (bLLawSum : Binds K fdLLawSum ["a", "b"] [])
    {fLLawTimes : Addr} {fdLLawTimes : FuncData} (GLLawTimes : FnOk P w K mg base CX0 2 fLLawTimes fdLLawTimes ["a", "b"] (spLLawTimes K)) (gLLawTimes : mg "_law_times" = some (.ref fLLawTimes)) (kpLLawTimes : PySem.W.keepIn K (.ref fLLawTimes) = true) (bLLawTimes : Binds K fdLLawTimes ["a", "b"] [])
    {fLLawDot : Addr} {fdLLawDot : FuncData} (GLLawDot : FnOk P w K mg base CX0 3 fLLawDot fdLLawDot ["normal", "point"] (spLLawDot K)) (gLLawDot : mg "_law_dot" = some (.ref fLLawDot)) (kpLLawDot : PySem.W.keepIn K (.ref fLLawDot) = true) (bLLawDot : Binds K fdLLawDot ["normal", "point"] []) :
    FnOk P w K mg base CX0 4 fLLawMirrored fdLLawMirrored ["point", "direction", "at"] (spLLawMirrored K) := by
  refine F.ok scLLawMirrored (fun vs H Q E h => ?_) (fun cdv A outer s H vs Q E hr h => ?_)
  · obtain ⟨t, d, at_, u, v, w, r1, r2, r3, a, rfl, hP, hD, hA, hn, u1, u2, u3, c1, c2, c3, c4, q⟩ := h
    rfl
  · obtain ⟨t, d, at_, u, v, w, r1, r2, r3, a, rfl, hP, hD, hA, hn, u1, u2, u3, c1, c2, c3, c4, q⟩ := h
    refine ⟨_, (pss_cons (ps_set (i := 3) scLLawMirrored.nd rfl (Or.inl rfl) (pe_tup (pa_cons (pe_op op_add (pe_op op_add (pe_op op_mulW (pe_ix ix_tup (pv 1) pe_int (fun _ _ => rfl)) (pe_ix ix_tup (pv 1) pe_int (fun _ _ => rfl))) (pe_op op_mulW (pe_ix ix_tup (pv 1) pe_int (fun _ _ => rfl)) (pe_ix ix_tup (pv 1) pe_int (fun _ _ => rfl)))) (pe_op op_mulW (pe_ix ix_tup (pv 1) pe_int (fun _ _ => rfl)) (pe_ix ix_tup (pv 1) pe_int (fun _ _ => rfl)))) (pa_cons pe_int pa_nil))))
      (pss_cons (ps_set (i := 4) scLLawMirrored.nd rfl (Or.inl rfl) (pe_call GLLawSum (hr.mono (by decide)) (by rfl) gLLawSum kpLLawSum bLLawSum .nil pass0 (pa_cons (pe_call GLLawDot hr (by rfl) gLLawDot kpLLawDot bLLawDot .nil pass0 (pa_cons (pv 1) (pa_cons (pv 0) pa_nil))) (pa_cons (pe_call GLLawTimes (hr.mono (by decide)) (by rfl) gLLawTimes kpLLawTimes bLLawTimes .nil pass0 (pa_cons (pe_tup (pa_cons (pe_un un_neg pe_int) (pa_cons pe_int pa_nil))) (pa_cons (pv 2) pa_nil))) pa_nil))))
      (pss_cons (ps_set (i := 5) scLLawMirrored.nd rfl (Or.inr rfl) (pe_call GLLawTimes (hr.mono (by decide)) (by rfl) gLLawTimes kpLLawTimes bLLawTimes .nil pass0 (pa_cons (pe_tup (pa_cons (pe_un un_neg pe_int) (pa_cons pe_int pa_nil))) (pa_cons (pe_call GLLawTimes (hr.mono (by decide)) (by rfl) gLLawTimes kpLLawTimes bLLawTimes .nil pass0 (pa_cons (pv 4) (pa_cons (pe_tup (pa_cons pe_int (pa_cons (pe_ix ix_tup (pv 3) pe_int (fun _ _ => rfl)) pa_nil))) pa_nil))) pa_nil))))
      (pss_one (ps_ret (pe_callTy call_tuple_of (by rfl) T.tuple (by decide +kernel) (pa_cons (pe_lc (own := [("k", 6)]) (by rfl) scLLawMirrored.nd (pi_range1 rfl T.range (pa_cons pe_int pa_nil)) (blkOk_by (own := [("k", 6)]) (N := ["point", "direction", "at", "size", "away", "back", "k"]) (sc := defScope sLLawMirrored) (by decide +kernel)) (fun _ _ _ _ _ => (pg_name (i := 6) scLLawMirrored.nd rfl (Or.inl rfl))) (fun _ _ _ _ _ => pts_nil) (fun _ _ _ _ _ => (pe_call GLLawSum (hr.mono (by decide)) (by rfl) gLLawSum kpLLawSum bLLawSum .nil pass0 (pa_cons (pe_ix (show IxR _ (rIxT K) from ix_tup) (pv 0) (pv 6) (fun _ _ => rfl)) (pa_cons (pe_call GLLawTimes (hr.mono (by decide)) (by rfl) gLLawTimes kpLLawTimes bLLawTimes .nil pass0 (pa_cons (pv 5) (pa_cons (pe_tup (pa_cons (pe_ix (show IxR _ (rIxT K) from ix_tup) (pv 1) (pv 6) (fun _ _ => rfl)) (pa_cons pe_int pa_nil))) pa_nil))) pa_nil))))) pa_nil))))))), ?_⟩
    have hsp := sq3_pos hn
    have bsq : Bz 6 (sq3 u v w) := Bz.up (by unfold sq3; walk_at "bz") (by decide)
    walk_at "go"
    refine ⟨tn rfl, fun t1 nt1 => ?_⟩
    generalize hUt1 : upd _ _ (HO.tup _) = H1
    have s1 := same_hu hUt1 nt1
    have eh1 := at_hu hUt1
    have h1 := SqT.of (K := K) eh1
    clear hUt1
    walk_at "go"
    refine ⟨d, t, u, v, w, r1, r2, r3, rfl, same_tup s1 hD, hP.p3.same s1, u1.up (by decide), u2.up (by decide), u3.up (by decide), c1.up (by decide), c2.up (by decide), c3.up (by decide), fun H2 t2 s2 f2 => ?_⟩
    walk_at "go"
    refine ⟨tn rfl, fun t3 nt3 => ?_⟩
    generalize hUt3 : upd _ _ (HO.tup _) = H3
    have s3 := same_hu hUt3 nt3
    have eh3 := at_hu hUt3
    have h3 := SqT.of (K := K) eh3
    clear hUt3
    have bm1 : Bd 1 ((-1 : Int) : Rat) := bd_int (n := -1) (k := 1) (by unfold Bz; decide) (by decide)
    have bm2 : Bd 2 ((-2 : Int) : Rat) := bd_int (n := -2) (k := 2) (by unfold Bz; decide) (by decide)
    walk_at "go"
    refine ⟨t3, at_, ((-1 : Int) : Rat), a, rfl, fx_int h3, hA.same (s1.trans (s2.trans s3)), bm1.up (by decide), c4.up (by decide), fun H4 t4 s4 f4 => ?_⟩
    have bd2 := bd_sum3 (by decide) u1 u2 u3 c1 c2 c3
    have bd3 := bd2.add (bm1.mul c4)
    refine ⟨t2, t4, _, _, rfl, f2.same (s3.trans s4), f4, bd2.up (by decide), (bm1.mul c4).up (by decide), fun H5 t5 s5 f5 => ?_⟩
    have f6 : Fx K H5 t5 (away u v w r1 r2 r3 a) := f5
    have bd4 : Bd 70 (away u v w r1 r2 r3 a) := bd3.up (by decide)
    have s15 := s2.trans (s3.trans (s4.trans s5))
    have h15 := same_tup s15 h1
    walk_at "go"
    refine ⟨tn rfl, fun t7 nt7 => ?_⟩
    generalize hUt7 : upd _ _ (HO.tup _) = H7
    have s7 := same_hu hUt7 nt7
    have eh7 := at_hu hUt7
    have h7 := SqT.of (K := K) eh7
    clear hUt7
    walk_at "go"
    refine ⟨tn rfl, fun t8 nt8 => ?_⟩
    generalize hUt8 : upd _ _ (HO.tup _) = H8
    have s8 := same_hu hUt8 nt8
    have eh8 := at_hu hUt8
    have h8 := SqT.of (K := K) eh8
    clear hUt8
    have biv : Bd 6 (iv (sq3 u v w)) := (bd_div (by omega) (bz_one (n := 6) (by decide)) bsq)
    refine ⟨t5, t8, _, _, rfl, f6.same (s7.trans s8), fx_inv (n := sq3 u v w) h8 hsp, bd4.up (by decide), biv.up (by decide), fun H9 t9 s9 f9 => ?_⟩
    refine ⟨t7, t9, ((-2 : Int) : Rat), _, rfl, (fx_int h7).same (s8.trans s9), f9, bm2.up (by decide), (bd4.mul biv).up (by decide), fun H10 t10 s10 f10 => ?_⟩
    have f11 : Fx K H10 t10 (bk u v w r1 r2 r3 a) := f10
    have bbk : Bd 78 (bk u v w r1 r2 r3 a) := (bm2.mul (bd4.mul biv)).up (by decide)
    have s110 := s1.trans (s15.trans (s7.trans (s8.trans (s9.trans s10))))
    generalize bk u v w r1 r2 r3 a = B at q f11 bbk
    have hD10 := same_tup s110 hD
    obtain ⟨p1, p2, p3, hP1, hp1, hp2, hp3⟩ := hP.same s110
    refine ⟨_, rfl, by decide, by decide, fun D hDn => ?_⟩
    refine lc_row (K := K) walk_range [r1 + B * (u : Rat), r2 + B * (v : Rat), r3 + B * (w : Rat)] rfl (by show 3 ≤ 1000; decide) hDn (fun _ _ => trivial) ?_ ?_
    · rintro i c v' H11 H12 kk hr0 s11 ⟨rfl, rfl⟩ kk2
      have hi : i < 3 := (List.getElem?_eq_some_iff.mp hr0).1
      have hi0 : (0 : Int) + (i : Int) = (i : Int) := by omega
      have bu : Bz 2 (th u v w i) := th_all (P := Bz 2) u1 u2 u3 i
      have br : Bd 17 (th r1 r2 r3 i) := th_all (P := Bd 17) c1 c2 c3 i
      obtain ⟨e1, gx⟩ : c = th r1 r2 r3 i + B * ((th u v w i : Int) : Rat) ∧ (zs [u, v, w])[i]? = some (.int (th u v w i)) := by
        obtain rfl | rfl | rfl : i = 0 ∨ i = 1 ∨ i = 2 := by omega
        all_goals exact ⟨(Option.some.inj hr0).symm, rfl⟩
      subst e1
      obtain ⟨pa, ga, ha⟩ : ∃ pa : Addr, [V.ref p1, .ref p2, .ref p3][i]? = some (.ref pa) ∧ Fx K H10 pa (th r1 r2 r3 i) := by
        obtain rfl | rfl | rfl : i = 0 ∨ i = 1 ∨ i = 2 := by omega
        · exact ⟨p1, rfl, hp1⟩
        · exact ⟨p2, rfl, hp2⟩
        · exact ⟨p3, rfl, hp3⟩
      refine ⟨rfl, _, rfl, _, rfl, t, _, _, _, rfl, rfl, same_tup s11 hP1, by rw [hi0]; exact atI_nat ga, _, rfl, _, rfl, _, rfl, d, _, _, _, rfl, rfl, same_tup s11 hD10, by rw [hi0]; exact atI_nat gx, ?_⟩
      refine ⟨tn rfl, fun t13 nt13 => ?_⟩
      generalize hUt13 : upd _ _ (HO.tup _) = H13
      have s13 := same_hu hUt13 nt13
      have eh13 := at_hu hUt13
      have h13 := SqT.of (K := K) eh13
      clear hUt13
      refine ⟨t10, t13, B, ((th u v w i : Int) : Rat), rfl, f11.same (s11.trans s13), fx_int h13, bbk.up (by decide), (bd_int bu (by decide)).up (by decide), fun H14 t14 s14 f14 => ?_⟩
      exact ⟨pa, t14, _, _, rfl, ha.same (s11.trans (s13.trans s14)), f14, br.up (by decide), (bbk.mul (bd_int bu (by decide))).up (by decide), fun H15 t15 s15 f15 => kk2 t15 H15 (s13.trans (s14.trans s15)) f15⟩
    · intro H11 ws s11 e11 r11 m11
      refine ⟨D, _, rfl, .inl ⟨SqL.of e11, fun t12 n12 => ?_⟩⟩
      generalize hU : upd H11 t12 _ = H12
      have s12 := same_hu hU n12
      have h12 : SqT K H12 t12 (fr ws) := SqT.of (at_hu hU)
      clear hU
      obtain ⟨w1, w2, w3, ew, g1, g2, g3⟩ := pt_row (r11.same s12) m11
      rw [ew] at h12
      exact q H12 t12 (s110.trans (s11.trans s12)) ⟨w1, w2, w3, h12, g1, g2, g3⟩ ((c1.add (bbk.mul (bd_int u1 (by decide)))).up (by decide)) ((c2.add (bbk.mul (bd_int u2 (by decide)))).up (by decide)) ((c3.add (bbk.mul (bd_int u3 (by decide)))).up (by decide))
theorem rsgn {q q' D c : Rat} (hc : 0 < c) (hD : 0 < D) (e : q' * D = c * q) : 0 < q' ↔ 0 < q := by
  have h1 := fun h : 0 < q' => Rat.mul_pos h hD
  have h2 := fun h : 0 < q => Rat.mul_pos hc h
  have h3 := fun h : q' ≤ 0 => Rat.mul_nonneg (show 0 ≤ -q' by grind) (Rat.le_of_lt hD)
  have h4 := fun h : q ≤ 0 => Rat.mul_nonneg (Rat.le_of_lt hc) (show 0 ≤ -q by grind)
  constructor
  · intro h
    rcases Rat.le_total (a := q) (b := 0) with g | g
    · have a1 := h1 h
      have a4 := h4 g
      grind
    · grind
  · intro h
    rcases Rat.le_total (a := q') (b := 0) with g | g
    · have a2 := h2 h
      have a3 := h3 g
      grind
    · grind
theorem iv_mul {d : Int} (h : d ≠ 0) : iv d * (d : Rat) = 1 := by
  unfold iv
  rw [Rat.divInt_eq_div]
  have h1 : (d : Rat) ≠ 0 := fun z => h (by exact_mod_cast z)
  rw [show ((1 : Int) : Rat) = 1 from rfl]
  exact Rat.div_mul_cancel h1
theorem cast_back {d v : Int} (h : d ∣ v) : ((v.fdiv d : Int) : Rat) * (d : Rat) = (v : Rat) := by
  rw [← Rat.intCast_mul, fdiv_back h]
theorem rnum0 {q : Rat} : q.num = 0 ↔ q = 0 := Rat.num_eq_zero
theorem rnumP {q : Rat} : 0 < q.num ↔ 0 < q := by
  rw [Rat.lt_iff]
  simp
theorem eqb_eq (a b : Bool) : eqb a b = (a == b) := by
  unfold eqb
  cases a <;> cases b <;> simp
theorem rcast_pos {d : Int} : (0 : Rat) < (d : Rat) ↔ 0 < d := by
  rw [show (0 : Rat) = ((0 : Int) : Rat) from rfl]
  exact Rat.intCast_lt_intCast
theorem sdv_flip {q q' c : Rat} {D : Int} {k : Bool} (hc : 0 < c) (hD : D ≠ 0) (e : q' * (D : Rat) = c * q) : sdv q' (eqb k (decide (0 < D))) = sdv q k := by
  have hD' : (D : Rat) ≠ 0 := fun z => hD (by exact_mod_cast z)
  unfold sdv
  simp only [eqb_eq, rnum0, rnumP]
  by_cases hq : q = 0
  · have h0 : q' = 0 := by
      rw [hq, Rat.mul_zero] at e
      rcases Rat.mul_eq_zero.mp e with z | z
      · exact z
      · exact absurd z hD'
    rw [if_pos hq, if_pos h0]
  · have h0 : q' ≠ 0 := fun z => by
      rw [z, Rat.zero_mul] at e
      rcases Rat.mul_eq_zero.mp e.symm with z | z
      · exact Rat.ne_of_gt hc z
      · exact hq z
    rw [if_neg hq, if_neg h0]
    by_cases hp : 0 < D
    · have := rsgn hc (rcast_pos.mpr hp) e
      simp only [hp, this, decide_true]
      cases k <;> simp
    · have hn : (0 : Rat) < ((-D : Int) : Rat) := rcast_pos.mpr (by omega)
      have hs := rsgn (q := -q) (q' := q') hc hn (by rw [Rat.intCast_neg]; grind)
      have h2 : (0 < -q) ↔ ¬ (0 < q) := by
        constructor
        · intro h z
          grind
        · intro h
          grind
      simp only [hp, hs, h2, decide_false, decide_not]
      cases k <;> simp
theorem away_flip {x y z D X Y Z I b s r r1 r2 r3 : Rat} (hx : X * D = x) (hy : Y * D = y) (hz : Z * D = z) (hI : I * D = 1) :
    (X * r1 + Y * r2 + Z * r3 + -1 * (I * b + I * s * r)) * D = x * r1 + y * r2 + z * r3 + -1 * (b + s * r) := by
  grind
theorem away_shift {x y z b s w k b1 s1 b2 s2 b3 s3 r1 r2 r3 : Rat} :
    x * (r1 + k * (b1 + s1 * w)) + y * (r2 + k * (b2 + s2 * w)) + z * (r3 + k * (b3 + s3 * w)) + -1 * ((b + k * (x * b1 + y * b2 + z * b3)) + (s + k * (x * s1 + y * s2 + z * s3)) * w) = x * r1 + y * r2 + z * r3 + -1 * (b + s * w) := by
  grind
theorem away_mir {x y z u v w X Y Z D I J sq ip b s t ab as o1 o2 o3 : Rat} (hs : sq = u * u + v * v + w * w) (hi : ip = 2 * (x * u + y * v + z * w))
    (hx : X * D = sq * x - ip * u) (hy : Y * D = sq * y - ip * v) (hz : Z * D = sq * z - ip * w) (hI : I * D = 1) (hJ : J * sq = 1) (B : Rat) (hB : B = -2 * ((u * o1 + v * o2 + w * o3 + -1 * (ab + as * t)) * J)) :
    (X * (o1 + B * u) + Y * (o2 + B * v) + Z * (o3 + B * w) + -1 * (I * (sq * b - ip * ab) + I * (sq * s - ip * as) * t)) * D = sq * (x * o1 + y * o2 + z * o3 + -1 * (b + s * t)) := by
  have e1 : (X * (o1 + B * u) + Y * (o2 + B * v) + Z * (o3 + B * w) + -1 * (I * (sq * b - ip * ab) + I * (sq * s - ip * as) * t)) * D
      = X * D * (o1 + B * u) + Y * D * (o2 + B * v) + Z * D * (o3 + B * w) + -1 * (I * D * (sq * b - ip * ab) + I * D * (sq * s - ip * as) * t) := by grind
  rw [e1, hx, hy, hz, hI]
  have e2 : B * sq = -2 * (u * o1 + v * o2 + w * o3 + -1 * (ab + as * t)) := by
    rw [hB]
    grind
  have e3 : (sq * x - ip * u) * (o1 + B * u) + (sq * y - ip * v) * (o2 + B * v) + (sq * z - ip * w) * (o3 + B * w) + -1 * (1 * (sq * b - ip * ab) + 1 * (sq * s - ip * as) * t)
      = sq * (x * o1 + y * o2 + z * o3 + -1 * (b + s * t)) + (B * sq) * (x * u + y * v + z * w) - ip * (u * o1 + v * o2 + w * o3 + -1 * (ab + as * t)) - ip * B * (u * u + v * v + w * w) := by grind
  rw [e3, ← hs]
  have e4 : ip * B * sq = ip * (B * sq) := by grind
  rw [e4, e2, hi]
  grind
theorem mx_cast (x y z u v w : Int) : ((mx u v w x y z : Int) : Rat) = ((sq3 u v w : Int) : Rat) * (x : Rat) - ((2 * ip u v w x y z : Int) : Rat) * (u : Rat) ∧ ((my u v w x y z : Int) : Rat) = ((sq3 u v w : Int) : Rat) * (y : Rat) - ((2 * ip u v w x y z : Int) : Rat) * (v : Rat) ∧ ((mz u v w x y z : Int) : Rat) = ((sq3 u v w : Int) : Rat) * (z : Rat) - ((2 * ip u v w x y z : Int) : Rat) * (w : Rat) := by
  unfold mx my mz
  generalize 2 * ip u v w x y z = i2
  generalize sq3 u v w = sq
  refine ⟨?_, ?_, ?_⟩
  all_goals rw [Rat.intCast_sub, Rat.intCast_mul, Rat.intCast_mul]
theorem sq_cast (u v w : Int) : ((sq3 u v w : Int) : Rat) = (u : Rat) * u + (v : Rat) * v + (w : Rat) * w := by
  unfold sq3
  rw [Rat.intCast_add, Rat.intCast_add, Rat.intCast_mul, Rat.intCast_mul, Rat.intCast_mul]
theorem ip_cast (x y z u v w : Int) : ((2 * ip u v w x y z : Int) : Rat) = 2 * ((x : Rat) * u + (y : Rat) * v + (z : Rat) * w) := by
  unfold ip
  rw [Rat.intCast_mul, Rat.intCast_add, Rat.intCast_add, Rat.intCast_mul, Rat.intCast_mul, Rat.intCast_mul]
  rfl
theorem sqip_bd {x y z u v w : Int} (x1 : Bz 2 x) (x2 : Bz 2 y) (x3 : Bz 2 z) (u1 : Bz 2 u) (u2 : Bz 2 v) (u3 : Bz 2 w) : Bz 6 (sq3 u v w) ∧ Bz 10 (2 * ip u v w x y z) := by
  have bip : Bz 6 (ip u v w x y z) := Bz.up (by unfold ip; walk_at "bz") (by decide)
  exact ⟨Bz.up (by unfold sq3; walk_at "bz") (by decide), Bz.up (by walk_at "bz") (by decide)⟩
theorem can_dn {x y z : Int} (h : ¬ (x = 0 ∧ y = 0 ∧ z = 0)) : dn (x.fdiv (dv x y z)) (y.fdiv (dv x y z)) (z.fdiv (dv x y z)) = false ∧ g3 (x.fdiv (dv x y z)) (y.fdiv (dv x y z)) (z.fdiv (dv x y z)) = 1 ∧ ¬ (x.fdiv (dv x y z) = 0 ∧ y.fdiv (dv x y z) = 0 ∧ z.fdiv (dv x y z) = 0) := by
  have hd := dv_ne h
  have e1 := fdiv_back (dv_dx x y z)
  have e2 := fdiv_back (dv_dy x y z)
  have e3 := fdiv_back (dv_dz x y z)
  have hq := dv_eq x y z
  have hg := g3_pos h
  have one := g3_one h e1 e2 e3
  generalize x.fdiv (dv x y z) = a at *
  generalize y.fdiv (dv x y z) = b at *
  generalize z.fdiv (dv x y z) = c at *
  generalize dv x y z = d at *
  have hn : ¬ (a = 0 ∧ b = 0 ∧ c = 0) := fun ⟨ha, hb, hc⟩ => by
    subst ha hb hc
    simp at e1 e2 e3
    exact h ⟨e1.symm, e2.symm, e3.symm⟩
  refine ⟨?_, one, hn⟩
  rcases Int.lt_trichotomy d 0 with hneg | h0 | hpos
  · have e4 : dn x y z = true := by
      cases e : dn x y z with
      | true => rfl
      | false =>
        rw [e, if_neg Bool.false_ne_true] at hq
        omega
    have e5 := dn_mul (x := -a) (y := -b) (z := -c) (t := -d) (by omega)
    rw [Int.neg_mul_neg, Int.neg_mul_neg, Int.neg_mul_neg, e1, e2, e3, e4, dn_neg hn] at e5
    cases e : dn a b c with
    | true =>
      rw [e] at e5
      exact absurd e5 (by decide)
    | false => rfl
  · exact absurd h0 hd
  · have e4 : dn x y z = false := by
      cases e : dn x y z with
      | false => rfl
      | true =>
        rw [e, if_pos rfl] at hq
        omega
    have e5 := dn_mul (x := a) (y := b) (z := c) hpos
    rw [e1, e2, e3, e4] at e5
    exact e5.symm
theorem can_le {x y z : Int} (h : ¬ (x = 0 ∧ y = 0 ∧ z = 0)) : (x.fdiv (dv x y z)).natAbs ≤ x.natAbs ∧ (y.fdiv (dv x y z)).natAbs ≤ y.natAbs ∧ (z.fdiv (dv x y z)).natAbs ≤ z.natAbs := by
  have hd := dv_ne h
  exact ⟨part_le (fdiv_back (dv_dx x y z)) hd, part_le (fdiv_back (dv_dy x y z)) hd, part_le (fdiv_back (dv_dz x y z)) hd⟩
theorem mir_ne {x y z u v w : Int} (hn : ¬ (x = 0 ∧ y = 0 ∧ z = 0)) (hd : ¬ (u = 0 ∧ v = 0 ∧ w = 0)) : ¬ (mx u v w x y z = 0 ∧ my u v w x y z = 0 ∧ mz u v w x y z = 0) := by
  rintro ⟨h1, h2, h3⟩
  have hs := sq3_pos hd
  unfold mx my mz at *
  have hi : ip u v w x y z = x * u + y * v + z * w := rfl
  have hq : sq3 u v w = u * u + v * v + w * w := rfl
  generalize ip u v w x y z = ipp at *
  generalize sq3 u v w = sq at *
  have e : ipp * sq = 0 := by grind
  have e0 : ipp = 0 := by
    rcases Int.mul_eq_zero.mp e with z | z
    · exact z
    · omega
  rw [e0] at h1 h2 h3
  have ex : sq * x = 0 := by grind
  have ey : sq * y = 0 := by grind
  have ez : sq * z = 0 := by grind
  refine hn ⟨?_, ?_, ?_⟩
  · rcases Int.mul_eq_zero.mp ex with z | z <;> omega
  · rcases Int.mul_eq_zero.mp ey with z | z <;> omega
  · rcases Int.mul_eq_zero.mp ez with z | z <;> omega
theorem sh_zs (ks : List Int) : PyData.canLayAll0 (ks.map PyData.int) = true ∧ PyData.depthAll (ks.map PyData.int) ≤ 1 := by
  induction ks with
  | nil => decide
  | cons r rs ih =>
    rw [List.map_cons, PyData.canLayAll0, PyData.depthAll, ih.1]
    exact ⟨rfl, Nat.max_le.mpr ⟨by show 0 ≤ 1; decide, ih.2⟩⟩
theorem sh_og (m : Int) (ks : List Int) : SeqAt.shaped (.list [.tuple [.int m, .tuple (ks.map PyData.int), .str "half"]]) = true := by
  have h1 := (sh_zs ks).1
  have h2 := (sh_zs ks).2
  have h3 : (PyData.str "half").canLay0 = true := by decide +kernel
  unfold SeqAt.shaped
  simp only [PyData.canLay0, PyData.canLayAll0, PyData.depth, PyData.depthAll, h1] at h3 ⊢
  simp only [h3]
  simp
  omega
theorem eqv_og (m : Int) (ks : List Int) : PyData.eqv (.list [.tuple [.int m, .tuple (ks.map PyData.int), .str "half"]]) (.list [.tuple [.int m, .tuple (ks.map PyData.int), .str "half"]]) = true := by
  have h := sh_og m ks
  unfold SeqAt.shaped at h
  exact SeqAt.eqv_refl _ (by
    rw [Bool.and_eq_true] at h
    exact h.1)
theorem mx_bd {x y z u v w : Int} (x1 : Bz 2 x) (x2 : Bz 2 y) (x3 : Bz 2 z) (u1 : Bz 2 u) (u2 : Bz 2 v) (u3 : Bz 2 w) : Bz 17 (mx u v w x y z) ∧ Bz 17 (my u v w x y z) ∧ Bz 17 (mz u v w x y z) := by
  have bsq : Bz 6 (sq3 u v w) := Bz.up (by unfold sq3; walk_at "bz") (by decide)
  have bip : Bz 6 (ip u v w x y z) := Bz.up (by unfold ip; walk_at "bz") (by decide)
  exact ⟨Bz.up (by unfold mx; walk_at "bz") (by decide), Bz.up (by unfold my; walk_at "bz") (by decide), Bz.up (by unfold mz; walk_at "bz") (by decide)⟩
theorem mdv_bd {x y z : Int} (h : ¬ (x = 0 ∧ y = 0 ∧ z = 0)) (h1 : Bz 17 x) (h2 : Bz 17 y) (h3 : Bz 17 z) : Bz 17 (dv x y z) := by
  have e : (2 : Nat) ^ 17 = 131072 := by decide
  unfold Bz at *
  rw [dv_abs]
  have := g3_le (n := 131071) h (by omega) (by omega) (by omega)
  omega
theorem sdv_cases (q : Rat) (k : Bool) : sdv q k = .non ∨ ∃ c, sdv q k = .bl c := by
  unfold sdv
  split
  · exact .inl rfl
  · exact .inr ⟨_, rfl⟩
theorem dp_sdv (K : PySem.W.Frag) (q : Rat) (k : Bool) : ∃ d, (∀ H, Dp K H (sdv q k) d) ∧ SeqAt.shaped d = true ∧ PyData.eqv d d = true := by
  rcases sdv_cases q k with h | ⟨c, h⟩
  · rw [h]
    exact ⟨.none, fun _ => .non, rfl, rfl⟩
  · rw [h]
    exact ⟨.bool c, fun _ => .bl c, rfl, by cases c <;> rfl⟩
def pf (p : Int) (m : Nat) : Rat := Rat.divInt (p / (33 + 13 * (0 + (m : Int))) % 31 - 15) (1 + (0 + (m : Int)))
theorem pf_bd (p : Int) {m : Nat} (h : m < 3) : Bd 4 (pf p m) := by
  have h1 := Int.emod_nonneg (p / (33 + 13 * (0 + (m : Int)))) (show (31 : Int) ≠ 0 by decide)
  have h2 := Int.emod_lt_of_pos (p / (33 + 13 * (0 + (m : Int)))) (show (0 : Int) < 31 by decide)
  exact bd_small (by omega) (by omega) (by omega)
theorem iteF' {b : Bool} {p q : Prop} (h : b = false) (hq : q) : if b = true then p else q := by
  rw [h, if_neg Bool.false_ne_true]
  exact hq
theorem iteT' {b : Bool} {p q : Prop} (h : b = true) (hp : p) : if b = true then p else q := by
  rw [h, if_pos rfl]
  exact hp
def pog (m : Int) (ks : List Int) : PyData := .tuple [.int m, .tuple (ks.map PyData.int), .str "half"]
theorem dp_zs {K : PySem.W.Frag} {H : Hp} : ∀ ks : List Int, DpAll K H (zs ks) (ks.map PyData.int)
  | [] => .nil
  | k :: ks => .cons (.int k) (dp_zs ks)
theorem dp_og {K : PySem.W.Frag} {H : Hp} {w : V} {m : Int} {ks : List Int} (h : Og K H w m ks) : Dp K H w (pog m ks) := by
  obtain ⟨a, q, rfl, h1, h2⟩ := h
  exact .tup h1 (.cons (.int m) (.cons (.tup h2 (dp_zs ks)) (.cons (.str _) .nil)))
theorem same_dict {H H' : Hp} {p : Addr} {kvs : List (Key × V)} (n : H p = none) (h : upd (upd H p (.dK [])) p (.dK kvs) = H') : Same H H' := by
  subst h
  exact fun b o e => by
    rw [upd_ne (ne_of_none e n), upd_ne (ne_of_none e n)]
    exact e
def spLaw (K : PySem.W.Frag) : Sp := fun vs H Q _ => ∃ (a : Addr) (ns : List Int), vs = [.ref a] ∧ SqL K H a (ns.map V.int) ∧ ns.length ≤ 63 ∧ ∀ H', Q (.bl true) H'
theorem okLaw {fLaw : Addr} {fdLaw : FuncData} (F : Fun K "law" "law" sLaw fLaw fdLaw) (T : Txt mg) {CPartError CNought : Addr} (EX : Exns K mg CPartError CNought)
    {fLLawNumber : Addr} {fdLLawNumber : FuncData} (GLLawNumber : FnOk P w K mg base CX0 1 fLLawNumber fdLLawNumber ["script", "k"] (spLLawNumber K)) (gLLawNumber : mg "_law_number" = some (.ref fLLawNumber)) (kpLLawNumber : PySem.W.keepIn K (.ref fLLawNumber) = true) (bLLawNumber : Binds K fdLLawNumber ["script", "k"] [])
    {fLLawDirection : Addr} {fdLLawDirection : FuncData} (GLLawDirection : FnOk P w K mg base CX0 1 fLLawDirection fdLLawDirection ["draw"] (spLLawDirection K)) (gLLawDirection : mg "_law_direction" = some (.ref fLLawDirection)) (kpLLawDirection : PySem.W.keepIn K (.ref fLLawDirection) = true) (bLLawDirection : Binds K fdLLawDirection ["draw"] [])
    {fLLawValue : Addr} {fdLLawValue : FuncData} (GLLawValue : FnOk P w K mg base CX0 2 fLLawValue fdLLawValue ["draw"] (spLLawValue K)) (gLLawValue : mg "_law_value" = some (.ref fLLawValue)) (kpLLawValue : PySem.W.keepIn K (.ref fLLawValue) = true) (bLLawValue : Binds K fdLLawValue ["draw"] [])
    {fHalfTool : Addr} {fdHalfTool : FuncData} (GHalfTool : FnOk P w K mg base CX0 5 fHalfTool fdHalfTool ["number", "feature", "offset"] (spHalfTool K)) (gHalfTool : mg "half_tool" = some (.ref fHalfTool)) (kpHalfTool : PySem.W.keepIn K (.ref fHalfTool) = true) (bHalfTool : Binds K fdHalfTool ["number", "feature", "offset"] [])
    {fShiftedTool : Addr} {fdShiftedTool : FuncData} (GShiftedTool : FnOk P w K mg base CX0 5 fShiftedTool fdShiftedTool ["number", "k", "tool", "shift"] (spShiftedTool K)) (gShiftedTool : mg "shifted_tool" = some (.ref fShiftedTool)) (kpShiftedTool : PySem.W.keepIn K (.ref fShiftedTool) = true) (bShiftedTool : Binds K fdShiftedTool ["number", "k", "tool", "shift"] [])
    {fMirroredTool : Addr} {fdMirroredTool : FuncData} (GMirroredTool : FnOk P w K mg base CX0 6 fMirroredTool fdMirroredTool ["number", "k", "tool", "direction", "at"] (spMirroredTool K)) (gMirroredTool : mg "mirrored_tool" = some (.ref fMirroredTool)) (kpMirroredTool : PySem.W.keepIn K (.ref fMirroredTool) = true) (bMirroredTool : Binds K fdMirroredTool ["number", "k", "tool", "direction", "at"] [])
    {fLLawFraction : Addr} {fdLLawFraction : FuncData} (GLLawFraction : FnOk P w K mg base CX0 1 fLLawFraction fdLLawFraction ["number", "divisor"] (spLLawFraction K)) (gLLawFraction : mg "_law_fraction" = some (.ref fLLawFraction)) (kpLLawFraction : PySem.W.keepIn K (.ref fLLawFraction) = true) (bLLawFraction : Binds K fdLLawFraction ["number", "divisor"] [])
    {fLLawSum : Addr} {fdLLawSum : FuncData} (GLLawSum : FnOk P w K mg base CX0 2 fLLawSum fdLLawSum ["a", "b"] (spLLawSum K)) (gLLawSum : mg "_law_sum" = some (.ref fLLawSum)) (kpLLawSum : PySem.W.keepIn K (.ref fLLawSum) = true) (bLLawSum : Binds K fdLLawSum ["a", "b"] [])
    {fLLawCanonical : Addr} {fdLLawCanonical : FuncData} (GLLawCanonical : FnOk P w K mg base CX0 2 fLLawCanonical fdLLawCanonical ["tool"] (spLLawCanonical K)) (gLLawCanonical : mg "_law_canonical" = some (.ref fLLawCanonical)) (kpLLawCanonical : PySem.W.keepIn K (.ref fLLawCanonical) = true) (bLLawCanonical : Binds K fdLLawCanonical ["tool"] [])
    {fLLawDot : Addr} {fdLLawDot : FuncData} (GLLawDot : FnOk P w K mg base CX0 3 fLLawDot fdLLawDot ["normal", "point"] (spLLawDot K)) (gLLawDot : mg "_law_dot" = some (.ref fLLawDot)) (kpLLawDot : PySem.W.keepIn K (.ref fLLawDot) = true) (bLLawDot : Binds K fdLLawDot ["normal", "point"] [])
    {fLLawTimes : Addr} {fdLLawTimes : FuncData} (GLLawTimes : FnOk P w K mg base CX0 2 fLLawTimes fdLLawTimes ["a", "b"] (spLLawTimes K)) (gLLawTimes : mg "_law_times" = some (.ref fLLawTimes)) (kpLLawTimes : PySem.W.keepIn K (.ref fLLawTimes) = true) (bLLawTimes : Binds K fdLLawTimes ["a", "b"] [])
    {fLLawIn : Addr} {fdLLawIn : FuncData} (GLLawIn : FnOk P w K mg base CX0 5 fLLawIn fdLLawIn ["tool", "point", "w"] (spLLawIn K)) (gLLawIn : mg "_law_in" = some (.ref fLLawIn)) (kpLLawIn : PySem.W.keepIn K (.ref fLLawIn) = true) (bLLawIn : Binds K fdLLawIn ["tool", "point", "w"] [])
    {fLLawAt : Addr} {fdLLawAt : FuncData} (GLLawAt : FnOk P w K mg base CX0 3 fLLawAt fdLLawAt ["found", "w"] (spLLawAt K)) (gLLawAt : mg "_law_at" = some (.ref fLLawAt)) (kpLLawAt : PySem.W.keepIn K (.ref fLLawAt) = true) (bLLawAt : Binds K fdLLawAt ["found", "w"] [])
    {fLLawMirrored : Addr} {fdLLawMirrored : FuncData} (GLLawMirrored : FnOk P w K mg base CX0 4 fLLawMirrored fdLLawMirrored ["point", "direction", "at"] (spLLawMirrored K)) (gLLawMirrored : mg "_law_mirrored" = some (.ref fLLawMirrored)) (kpLLawMirrored : PySem.W.keepIn K (.ref fLLawMirrored) = true) (bLLawMirrored : Binds K fdLLawMirrored ["point", "direction", "at"] [])
    {fSpread : Addr} {fdSpread : FuncData} (GSpread : FnOk P w K mg base CX0 4 fSpread fdSpread ["normal", "point"] (spSpread K)) (gSpread : mg "spread" = some (.ref fSpread)) (kpSpread : PySem.W.keepIn K (.ref fSpread) = true) (bSpread : Binds K fdSpread ["normal", "point"] []) :
    FnOk P w K mg base CX0 7 fLaw fdLaw ["script"] (spLaw K) := by
  refine F.ok scLaw (fun vs H Q E h => ?_) (fun cdv A outer s H vs Q E hr h => ?_)
  · obtain ⟨S, ns, rfl, hS0, hlen, q⟩ := h
    rfl
  · obtain ⟨S, ns, rfl, hS0, hlen, q⟩ := h
    refine ⟨_, (C8.pss_cut (ps_for PassesOwn.never rfl (pi_range1 rfl T.range (pa_cons pe_int pa_nil)) (pg_name (i := 1) scLaw.nd rfl (Or.inl rfl))
        (pss_cons (ps_set (i := 2) scLaw.nd rfl (Or.inl rfl) (pe_call GLLawNumber (hr.mono (by decide)) (by rfl) gLLawNumber kpLLawNumber bLLawNumber .nil pass0 (pa_cons (pv 0) (pa_cons (pv 1) pa_nil))))
        (pss_cons (ps_set (i := 3) scLaw.nd rfl (Or.inl rfl) (pe_call GLLawDirection (hr.mono (by decide)) (by rfl) gLLawDirection kpLLawDirection bLLawDirection .nil pass0 (pa_cons (pv 2) pa_nil)))
        (pss_cons (ps_set (i := 4) scLaw.nd rfl (Or.inl rfl) (pe_call GLLawValue (hr.mono (by decide)) (by rfl) gLLawValue kpLLawValue bLLawValue .nil pass0 (pa_cons (pe_op op_fdiv (pv 2) pe_int) pa_nil)))
        (pss_cons (ps_set (i := 5) scLaw.nd rfl (Or.inl rfl) (pe_call GHalfTool (hr.mono (by decide)) (by rfl) gHalfTool kpHalfTool bHalfTool .nil pass0 (pa_cons pe_int (pa_cons (pe_disp (pps_cons pe_str pe_str (pps_cons pe_str (pv 3) (pps_cons pe_str pe_non pps_nil))) (by rfl) (by rfl) (fun z => by cases z) (by decide)) (pa_cons (pv 4) pa_nil)))))
        (pss_cons (ps_if (PW.pt (pw_or (pt_cmpR (op_neD hr.units) (pe_ix ix_tup (pv 5) pe_int (fun _ _ => rfl)) pe_str (nomark _)) (pw_or (pt_cmpR (op_neD hr.units) (pe_lc (own := [("one", 19)]) (by rfl) scLaw.nd (pi_list (pe_ix ix_tup (pv 5) pe_int (fun _ _ => rfl))) (blkOk_by (own := [("one", 19)]) (N := ["script", "k", "draw", "direction", "offset", "tool", "shift", "many", "moved", "way", "at", "turned", "j", "part", "w", "point", "away", "steps", "other", "one", "m"]) (sc := defScope sLaw) (by decide +kernel)) (fun _ _ _ _ _ => (pg_name (i := 19) scLaw.nd rfl (Or.inl rfl))) (fun _ _ _ _ _ => pts_nil) (fun _ _ _ _ _ => (pe_ix (show IxR _ (rIxT K) from ix_tup) (pv 19) pe_int (fun _ _ => rfl)))) (pe_lst (pa_cons (pe_tup (pa_cons pe_int (pa_cons (pe_tup pa_nil) (pa_cons pe_str pa_nil)))) pa_nil)) (nomark _)) (pw_or1 (pt_not (pt_val (pe_call GLLawCanonical (hr.mono (by decide)) (by rfl) gLLawCanonical kpLLawCanonical bLLawCanonical .nil pass0 (pa_cons (pv 5) pa_nil))))))))
          (pss_one (ps_ret pe_bl))
          pss_nil)
        (pss_cons (ps_set (i := 6) scLaw.nd rfl (Or.inl rfl) (pe_tup (pa_cons (pe_call GLLawValue (hr.mono (by decide)) (by rfl) gLLawValue kpLLawValue bLLawValue .nil pass0 (pa_cons (pe_op op_fdiv (pv 2) pe_int) pa_nil)) (pa_cons (pe_call GLLawValue (hr.mono (by decide)) (by rfl) gLLawValue kpLLawValue bLLawValue .nil pass0 (pa_cons (pe_op op_fdiv (pv 2) pe_int) pa_nil)) (pa_cons (pe_call GLLawValue (hr.mono (by decide)) (by rfl) gLLawValue kpLLawValue bLLawValue .nil pass0 (pa_cons (pe_op op_fdiv (pv 2) pe_int) pa_nil)) pa_nil)))))
        (pss_cons (ps_set (i := 7) scLaw.nd rfl (Or.inr rfl) (pe_op op_add pe_int (pe_op op_mod (pe_callTy call_int1 (by rfl) T.int (by decide +kernel) (pa_cons (pe_op op_fdiv (pv 2) pe_int) pa_nil)) pe_int)))
        (pss_cons (ps_set (i := 8) scLaw.nd rfl (Or.inl rfl) (pe_call GShiftedTool (hr.mono (by decide)) (by rfl) gShiftedTool kpShiftedTool bShiftedTool .nil pass0 (pa_cons pe_int (pa_cons (pv 7) (pa_cons (pv 5) (pa_cons (pv 6) pa_nil))))))
        (pss_cons (ps_set (i := 9) scLaw.nd rfl (Or.inl rfl) (pe_call GLLawDirection (hr.mono (by decide)) (by rfl) gLLawDirection kpLLawDirection bLLawDirection .nil pass0 (pa_cons (pe_op op_fdiv (pv 2) pe_int) pa_nil)))
        (pss_cons (ps_set (i := 10) scLaw.nd rfl (Or.inl rfl) (pe_call GLLawValue (hr.mono (by decide)) (by rfl) gLLawValue kpLLawValue bLLawValue .nil pass0 (pa_cons (pe_op op_fdiv (pv 2) pe_int) pa_nil)))
        (pss_cons (ps_set (i := 11) scLaw.nd rfl (Or.inl rfl) (pe_call GMirroredTool hr (by rfl) gMirroredTool kpMirroredTool bMirroredTool .nil pass0 (pa_cons pe_int (pa_cons pe_int (pa_cons (pv 8) (pa_cons (pv 9) (pa_cons (pv 10) pa_nil)))))))
        (pss_cons (ps_if (PW.pt (pw_or (pt_cmpR (op_neD hr.units) (pe_lc (own := [("one", 19)]) (by rfl) scLaw.nd (pi_list (pe_ix ix_tup (pv 8) pe_int (fun _ _ => rfl))) (blkOk_by (own := [("one", 19)]) (N := ["script", "k", "draw", "direction", "offset", "tool", "shift", "many", "moved", "way", "at", "turned", "j", "part", "w", "point", "away", "steps", "other", "one", "m"]) (sc := defScope sLaw) (by decide +kernel)) (fun _ _ _ _ _ => (pg_name (i := 19) scLaw.nd rfl (Or.inl rfl))) (fun _ _ _ _ _ => pts_nil) (fun _ _ _ _ _ => (pe_ix (show IxR _ (rIxT K) from ix_tup) (pv 19) pe_int (fun _ _ => rfl)))) (pe_lst (pa_cons (pe_tup (pa_cons pe_int (pa_cons (pe_tup (pa_cons (pv 7) pa_nil)) (pa_cons pe_str pa_nil)))) pa_nil)) (nomark _)) (pw_or1 (pt_not (pt_val (pe_call GLLawCanonical (hr.mono (by decide)) (by rfl) gLLawCanonical kpLLawCanonical bLLawCanonical .nil pass0 (pa_cons (pv 8) pa_nil)))))))
          (pss_one (ps_ret pe_bl))
          pss_nil)
        (pss_cons (ps_if (PW.pt (pw_or (pt_cmpR (op_neD hr.units) (pe_lc (own := [("one", 19)]) (by rfl) scLaw.nd (pi_list (pe_ix ix_tup (pv 11) pe_int (fun _ _ => rfl))) (blkOk_by (own := [("one", 19)]) (N := ["script", "k", "draw", "direction", "offset", "tool", "shift", "many", "moved", "way", "at", "turned", "j", "part", "w", "point", "away", "steps", "other", "one", "m"]) (sc := defScope sLaw) (by decide +kernel)) (fun _ _ _ _ _ => (pg_name (i := 19) scLaw.nd rfl (Or.inl rfl))) (fun _ _ _ _ _ => pts_nil) (fun _ _ _ _ _ => (pe_ix (show IxR _ (rIxT K) from ix_tup) (pv 19) pe_int (fun _ _ => rfl)))) (pe_lst (pa_cons (pe_tup (pa_cons pe_int (pa_cons (pe_tup (pa_cons pe_int (pa_cons (pv 7) pa_nil))) (pa_cons pe_str pa_nil)))) pa_nil)) (nomark _)) (pw_or1 (pt_not (pt_val (pe_call GLLawCanonical (hr.mono (by decide)) (by rfl) gLLawCanonical kpLLawCanonical bLLawCanonical .nil pass0 (pa_cons (pv 11) pa_nil)))))))
          (pss_one (ps_ret pe_bl))
          pss_nil)
        (pss_one (ps_for PassesOwn.never rfl (pi_range1 rfl T.range (pa_cons pe_int pa_nil)) (pg_name (i := 12) scLaw.nd rfl (Or.inl rfl))
          (pss_cons (ps_set (i := 13) scLaw.nd rfl (Or.inr rfl) (pe_op op_add (pe_call GLLawNumber (hr.mono (by decide)) (by rfl) gLLawNumber kpLLawNumber bLLawNumber .nil pass0 (pa_cons (pv 0) (pa_cons (pe_op op_add pe_int (pv 12)) pa_nil))) (pe_op op_fdiv (pv 2) (pe_op op_add pe_int (pv 12)))))
          (pss_cons (ps_set (i := 14) scLaw.nd rfl (Or.inr rfl) (pe_call GLLawFraction (hr.mono (by decide)) (by rfl) gLLawFraction kpLLawFraction bLLawFraction .nil pass0 (pa_cons (pe_op op_sub (pe_op op_mod (pe_callTy call_int1 (by rfl) T.int (by decide +kernel) (pa_cons (pv 13) pa_nil)) pe_int) pe_int) (pa_cons (pe_op op_add pe_int (pe_op op_mod (pe_callTy call_int1 (by rfl) T.int (by decide +kernel) (pa_cons (pe_op op_fdiv (pv 13) pe_int) pa_nil)) pe_int)) pa_nil))))
          (pss_cons (ps_set (i := 15) scLaw.nd rfl (Or.inr rfl) (pe_callTy call_tuple_of (by rfl) T.tuple (by decide +kernel) (pa_cons (pe_lc (own := [("m", 20)]) (by rfl) scLaw.nd (pi_range1 rfl T.range (pa_cons pe_int pa_nil)) (blkOk_by (own := [("m", 20)]) (N := ["script", "k", "draw", "direction", "offset", "tool", "shift", "many", "moved", "way", "at", "turned", "j", "part", "w", "point", "away", "steps", "other", "one", "m"]) (sc := defScope sLaw) (by decide +kernel)) (fun _ _ _ _ _ => (pg_name (i := 20) scLaw.nd rfl (Or.inl rfl))) (fun _ _ _ _ _ => pts_nil) (fun _ _ _ _ _ => (pe_call GLLawFraction (hr.mono (by decide)) (by rfl) gLLawFraction kpLLawFraction bLLawFraction .nil pass0 (pa_cons (pe_op op_sub (pe_op op_mod (pe_callTy call_int1 (by rfl) T.int (by decide +kernel) (pa_cons (pe_op op_fdiv (pv 13) (pe_op op_add pe_int (pe_op op_mul pe_int (pv 20)))) pa_nil)) pe_int) pe_int) (pa_cons (pe_op op_add pe_int (pv 20)) pa_nil))))) pa_nil)))
          (pss_cons (ps_set (i := 16) scLaw.nd rfl (Or.inl rfl) (pe_call GLLawSum (hr.mono (by decide)) (by rfl) gLLawSum kpLLawSum bLLawSum .nil pass0 (pa_cons (pe_call GLLawDot (hr.mono (by decide)) (by rfl) gLLawDot kpLLawDot bLLawDot .nil pass0 (pa_cons (pv 3) (pa_cons (pv 15) pa_nil))) (pa_cons (pe_call GLLawTimes (hr.mono (by decide)) (by rfl) gLLawTimes kpLLawTimes bLLawTimes .nil pass0 (pa_cons (pe_tup (pa_cons (pe_un un_neg pe_int) (pa_cons pe_int pa_nil))) (pa_cons (pe_call GLLawAt (hr.mono (by decide)) (by rfl) gLLawAt kpLLawAt bLLawAt .nil pass0 (pa_cons (pv 4) (pa_cons (pv 14) pa_nil))) pa_nil))) pa_nil))))
          (C8.pss_cut (ps_if (PW.pt (pw_and (pt_cmpR (op_neD hr.units) (pe_ix ix_tup (pv 16) pe_int (fun _ _ => rfl)) pe_int (nomark _)) (pw_and1 (pt_cmpR (op_neD hr.units) (pe_call GLLawIn (hr.mono (by decide)) (by rfl) gLLawIn kpLLawIn bLLawIn .nil pass0 (pa_cons (pv 5) (pa_cons (pv 15) (pa_cons (pv 14) pa_nil)))) (pe_cmpR op_gt (pe_ix ix_tup (pv 16) pe_int (fun _ _ => rfl)) pe_int (nomark _)) (nomark _)))))
            (pss_one (ps_ret pe_bl))
            pss_nil)
          (pss_cons (ps_set (i := 17) scLaw.nd rfl (Or.inr rfl) (pe_callTy call_tuple_of (by rfl) T.tuple (by decide +kernel) (pa_cons (pe_lc (own := [("one", 19)]) (by rfl) scLaw.nd (pi_tup (pv 6)) (blkOk_by (own := [("one", 19)]) (N := ["script", "k", "draw", "direction", "offset", "tool", "shift", "many", "moved", "way", "at", "turned", "j", "part", "w", "point", "away", "steps", "other", "one", "m"]) (sc := defScope sLaw) (by decide +kernel)) (fun _ _ _ _ _ => (pg_name (i := 19) scLaw.nd rfl (Or.inl rfl))) (fun _ _ _ _ _ => pts_nil) (fun _ _ _ _ _ => (pe_call GLLawTimes (hr.mono (by decide)) (by rfl) gLLawTimes kpLLawTimes bLLawTimes .nil pass0 (pa_cons (pe_tup (pa_cons (pv 7) (pa_cons pe_int pa_nil))) (pa_cons (pe_call GLLawAt (hr.mono (by decide)) (by rfl) gLLawAt kpLLawAt bLLawAt .nil pass0 (pa_cons (pv 19) (pa_cons (pv 14) pa_nil))) pa_nil))))) pa_nil)))
          (pss_cons (ps_set (i := 18) scLaw.nd rfl (Or.inl rfl) (pe_callTy call_tuple_of (by rfl) T.tuple (by decide +kernel) (pa_cons (pe_lc (own := [("m", 20)]) (by rfl) scLaw.nd (pi_range1 rfl T.range (pa_cons pe_int pa_nil)) (blkOk_by (own := [("m", 20)]) (N := ["script", "k", "draw", "direction", "offset", "tool", "shift", "many", "moved", "way", "at", "turned", "j", "part", "w", "point", "away", "steps", "other", "one", "m"]) (sc := defScope sLaw) (by decide +kernel)) (fun _ _ _ _ _ => (pg_name (i := 20) scLaw.nd rfl (Or.inl rfl))) (fun _ _ _ _ _ => pts_nil) (fun _ _ _ _ _ => (pe_call GLLawSum (hr.mono (by decide)) (by rfl) gLLawSum kpLLawSum bLLawSum .nil pass0 (pa_cons (pe_ix (show IxR _ (rIxT K) from ix_tup) (pv 15) (pv 20) (fun _ _ => rfl)) (pa_cons (pe_ix (show IxR _ (rIxT K) from ix_tup) (pv 17) (pv 20) (fun _ _ => rfl)) pa_nil))))) pa_nil)))
          (pss_cons (ps_if (pt_cmpR (op_neD hr.units) (pe_call GLLawIn (hr.mono (by decide)) (by rfl) gLLawIn kpLLawIn bLLawIn .nil pass0 (pa_cons (pv 5) (pa_cons (pv 15) (pa_cons (pv 14) pa_nil)))) (pe_call GLLawIn (hr.mono (by decide)) (by rfl) gLLawIn kpLLawIn bLLawIn .nil pass0 (pa_cons (pv 8) (pa_cons (pv 18) (pa_cons (pv 14) pa_nil)))) (nomark _))
            (pss_one (ps_ret pe_bl))
            pss_nil)
          (pss_cons (ps_if (pt_cmpR (op_neD hr.units) (pe_call GLLawIn (hr.mono (by decide)) (by rfl) gLLawIn kpLLawIn bLLawIn .nil pass0 (pa_cons (pv 8) (pa_cons (pv 18) (pa_cons (pv 14) pa_nil)))) (pe_call GLLawIn (hr.mono (by decide)) (by rfl) gLLawIn kpLLawIn bLLawIn .nil pass0 (pa_cons (pv 11) (pa_cons (pe_call GLLawMirrored (hr.mono (by decide)) (by rfl) gLLawMirrored kpLLawMirrored bLLawMirrored .nil pass0 (pa_cons (pv 18) (pa_cons (pv 9) (pa_cons (pe_call GLLawAt (hr.mono (by decide)) (by rfl) gLLawAt kpLLawAt bLLawAt .nil pass0 (pa_cons (pv 10) (pa_cons (pv 14) pa_nil))) pa_nil)))) (pa_cons (pv 14) pa_nil)))) (nomark _))
            (pss_one (ps_ret pe_bl))
            pss_nil)
          (pss_one (ps_if (pt_cmpR (op_neD hr.units) (pe_call GLLawAt (hr.mono (by decide)) (by rfl) gLLawAt kpLLawAt bLLawAt .nil pass0 (pa_cons (pe_call GSpread (hr.mono (by decide)) (by rfl) gSpread kpSpread bSpread .nil pass0 (pa_cons (pv 3) (pa_cons (pv 6) pa_nil))) (pa_cons (pv 14) pa_nil))) (pe_call GLLawDot (hr.mono (by decide)) (by rfl) gLLawDot kpLLawDot bLLawDot .nil pass0 (pa_cons (pv 3) (pa_cons (pe_lc (own := [("one", 19)]) (by rfl) scLaw.nd (pi_tup (pv 6)) (blkOk_by (own := [("one", 19)]) (N := ["script", "k", "draw", "direction", "offset", "tool", "shift", "many", "moved", "way", "at", "turned", "j", "part", "w", "point", "away", "steps", "other", "one", "m"]) (sc := defScope sLaw) (by decide +kernel)) (fun _ _ _ _ _ => (pg_name (i := 19) scLaw.nd rfl (Or.inl rfl))) (fun _ _ _ _ _ => pts_nil) (fun _ _ _ _ _ => (pe_call GLLawAt (hr.mono (by decide)) (by rfl) gLLawAt kpLLawAt bLLawAt .nil pass0 (pa_cons (pv 19) (pa_cons (pv 14) pa_nil))))) pa_nil))) (nomark _))
            (pss_one (ps_ret pe_bl))
            pss_nil)))))))))))))))))))))))))))
      (pss_one (ps_ret pe_bl))), ?_⟩
    have hS : SqL K H S (zs ns) := hS0
    refine ⟨fun σ' H' => ∃ v1 v2 v3 v4 v5 v6 v7 v8 v9 v10 v11 v12 v13 v14 v15 v16 v17 v18 : Option V, σ' = [some (.ref S), v1, v2, v3, v4, v5, v6, v7, v8, v9, v10, v11, v12, v13, v14, v15, v16, v17, v18, none, none], ?_, ?_⟩
    · refine ⟨12, rfl, by decide, by decide, for_range (n := 12) (fun i σ' H' => Same H H' ∧ ∃ v1 v2 v3 v4 v5 v6 v7 v8 v9 v10 v11 v12 v13 v14 v15 v16 v17 v18 : Option V, σ' = [some (.ref S), v1, v2, v3, v4, v5, v6, v7, v8, v9, v10, v11, v12, v13, v14, v15, v16, v17, v18, none, none]) ?_ ?_ ?_⟩
      · exact ⟨Same.refl _, none, none, none, none, none, none, none, none, none, none, none, none, none, none, none, none, none, none, rfl⟩
      · rintro i σ' H0 hi ⟨s0, v1, v2, v3, v4, v5, v6, v7, v8, v9, v10, v11, v12, v13, v14, v15, v16, v17, v18, rfl⟩
        have hi0 : (0 : Int) + (i : Int) = (i : Int) := by omega
        refine ⟨_, rfl, _, rfl, S, ns, i, by rw [hi0]; rfl, s0.seq hS, fun dr => ?_⟩
        walk_at "go"
        intro H1 td x y z s1 hd hn l1 l2 l3
        walk_at "go"
        intro H2 to b s s2 VO bb bs
        walk_at "go"
        intro f nf
        walk_at "go"
        refine ⟨upd_same, [(Sum.inr "op", .str "cut"), (Sum.inr "direction", .ref td), (Sum.inr "spot", .non)], rfl, by show 3 ≤ 15; decide, ?_⟩
        generalize hUf : upd _ f (HO.dK (mergeK _ _)) = H3
        have s3 := same_dict nf hUf
        have e3 : H3 f = some (.dK [(Sum.inr "op", .str "cut"), (Sum.inr "direction", .ref td), (Sum.inr "spot", .non)]) := at_hu hUf
        clear hUf
        --A
        walk_at "go"
        have hD0 := dv_ne hn
        have bx : Bz 2 x := bz_lt (b := 4) (by decide) (by omega)
        have bY : Bz 2 y := bz_lt (b := 4) (by decide) (by omega)
        have bz : Bz 2 z := bz_lt (b := 4) (by decide) (by omega)
        refine ⟨3, f, td, to, x, y, z, b, s, rfl, e3, same_tup (s2.trans s3) hd, VO.same s3, hD0, dv_lt hn (bx.up (by decide)) (bY.up (by decide)) (bz.up (by decide)), bb.up (by decide), bs.up (by decide), fun H4 tt s4 hT => ?_⟩
        obtain ⟨k1, k2, k3⟩ := can_dn hn
        obtain ⟨q1, q2, q3⟩ := can_le hn
        have cx := cast_back (dv_dx x y z)
        have cy := cast_back (dv_dy x y z)
        have cz := cast_back (dv_dz x y z)
        have civ := iv_mul hD0
        have bD : Bz 2 (dv x y z) := bz_lt (b := 4) (by decide) (by
          rw [dv_abs]
          have := g3_le (n := 3) hn l1 l2 l3
          omega)
        have biv : Bd 2 (iv (dv x y z)) := bd_div hD0 (bz_one (by decide)) bD
        have bX : Bz 2 (x.fdiv (dv x y z)) := bz_lt (b := 4) (by decide) (by omega)
        have bYY : Bz 2 (y.fdiv (dv x y z)) := bz_lt (b := 4) (by decide) (by omega)
        have bZ : Bz 2 (z.fdiv (dv x y z)) := bz_lt (b := 4) (by decide) (by omega)
        have bB : Bd 5 (iv (dv x y z) * b) := biv.mul bb
        have bS : Bd 5 (iv (dv x y z) * s) := (biv.mul bs).up (by decide)
        generalize x.fdiv (dv x y z) = X at *
        generalize y.fdiv (dv x y z) = Y at *
        generalize z.fdiv (dv x y z) = Z at *
        generalize dv x y z = D at *
        obtain ⟨la, ga, sda, wa, hTa, hLa, hGa, ⟨na, oa, hSa, hNa, hOa⟩, hWa⟩ := id hT
        walk_at "go"
        refine ⟨.str _, .str _, .str _, .str _, by decide +kernel, by decide +kernel, ?_⟩
        walk_at "go"
        refine ⟨⟨_, hLa⟩, fun Da nDa => ?_⟩
        refine lc_val (walk_list (K := K) (a := la) (xs := [.ref sda])) [wa] rfl (by show 1 ≤ 1000; decide) nDa (fun H2 s2 => s2.seq hLa) ?_ ?_
        · rintro j c v' H5 H6 kk2 hc s5 ⟨rfl, g1⟩ kk3
          obtain rfl : j = 0 := by
            have : j < 1 := (List.getElem?_eq_some_iff.mp hc).1
            omega
          obtain rfl : V.ref sda = v' := Option.some.inj g1
          obtain rfl : wa = c := Option.some.inj hc
          have hS5 := same_tup s5 hSa
          walk_at "go"
          exact kk3 _ (Same.refl _)
        intro Ha sa ea
        walk_at "go"
        refine ⟨tn rfl, fun taa ntaa => ?_⟩
        generalize hUtaa : upd _ _ (HO.tup _) = Ha1
        have sa1 := same_hu hUtaa ntaa
        have ehaa := at_hu hUtaa
        have haa := SqT.of (K := K) ehaa
        clear hUtaa
        walk_at "go"
        refine ⟨tn rfl, fun tba ntba => ?_⟩
        generalize hUtba : upd _ _ (HO.tup _) = Ha2
        have sa2 := same_hu hUtba ntba
        have ehba := at_hu hUtba
        have hba := SqT.of (K := K) ehba
        clear hUtba
        walk_at "go"
        refine ⟨tn rfl, fun tca ntca => ?_⟩
        generalize hUtca : upd _ _ (HO.lst _) = Ha3
        have sa3 := same_hu hUtca ntca
        have ehca := at_hu hUtca
        have hca := SqL.of (K := K) ehca
        clear hUtca
        have sxa := sa1.trans (sa2.trans sa3)
        refine ⟨.list [pog 3 []], .list [pog 3 []], .lst (SqL.of (sxa _ _ ea)) (.cons (dp_og (hWa.same (sa.trans sxa))) .nil), .lst hca (.cons (dp_og ⟨tba, taa, rfl, same_tup sa3 hba, same_tup (sa2.trans sa3) haa⟩) .nil), sh_og 3 [], sh_og 3 [], ?_⟩
        rw [show PyData.eqv (.list [pog 3 []]) (.list [pog 3 []]) = true from eqv_og 3 []]
        walk_at "go"
        have sya := sa.trans sxa
        refine ⟨tt, 3, [], X, Y, Z, _, _, _, rfl, hT.same sya, k3, bX.up (by decide), bYY.up (by decide), bZ.up (by decide), k2, k1, fun H8 s8 => ?_⟩
        walk_at "go"
        have t48 := sya.trans s8
        intro H9 p1 b1 s1' t9 VO1 bb1 bs1
        walk_at "go"
        intro H10 p2 b2 s2' t10 VO2 bb2 bs2
        walk_at "go"
        intro H11 p3 b3 s3' t11 VO3 bb3 bs3
        refine ⟨tn rfl, fun tsh ntsh => ?_⟩
        generalize hUtsh : upd _ _ (HO.tup _) = H12
        have t12 := same_hu hUtsh ntsh
        have ehsh := at_hu hUtsh
        have hsh := SqT.of (K := K) ehsh
        clear hUtsh
        walk_at "go"
        have t812 := t9.trans (t10.trans (t11.trans t12))
        have hm1 := Int.emod_nonneg (dr / 19) (show (4 : Int) ≠ 0 by decide)
        have hm2 := Int.emod_lt_of_pos (dr / 19) (show (0 : Int) < 4 by decide)
        have bmk : Bz 3 (1 + dr / 19 % 4) := bz_lt (b := 8) (by decide) (by omega)
        have hTr : Tr K H12 tsh b1 s1' b2 s2' b3 s3' := ⟨p1, p2, p3, hsh, VO1.same (t10.trans (t11.trans t12)), VO2.same (t11.trans t12), VO3.same t12⟩
        have hT12 := hT.same (t48.trans t812)
        refine ⟨5, (1 + dr / 19 % 4), 3, [], tt, tsh, X, Y, Z, _, _, b1, s1', b2, s2', b3, s3', _, rfl, hT12, hTr, by decide, bX.up (by decide), bYY.up (by decide), bZ.up (by decide), bmk.up (by decide), bB.up (by decide), bS.up (by decide), bb1.up (by decide), bs1.up (by decide), bb2.up (by decide), bs2.up (by decide), bb3.up (by decide), bs3.up (by decide), fun H13 tm t13 hM => ?_⟩
        have bM : Bd 33 (iv D * b + (((1 + dr / 19 % 4) : Int) : Rat) * ((X : Rat) * b1 + (Y : Rat) * b2 + (Z : Rat) * b3)) := (bB.add ((bd_int bmk (by decide)).mul ((((bd_int bX (by decide)).mul bb1).add ((bd_int bYY (by decide)).mul bb2)).add ((bd_int bZ (by decide)).mul bb3)))).up (by decide)
        have bMs : Bd 33 (iv D * s + (((1 + dr / 19 % 4) : Int) : Rat) * ((X : Rat) * s1' + (Y : Rat) * s2' + (Z : Rat) * s3')) := (bS.add ((bd_int bmk (by decide)).mul ((((bd_int bX (by decide)).mul bs1).add ((bd_int bYY (by decide)).mul bs2)).add ((bd_int bZ (by decide)).mul bs3)))).up (by decide)
        obtain ⟨bm, hbm⟩ : ∃ bm : Rat, bm = iv D * b + (((1 + dr / 19 % 4) : Int) : Rat) * ((X : Rat) * b1 + (Y : Rat) * b2 + (Z : Rat) * b3) := ⟨_, rfl⟩
        obtain ⟨sm, hsm⟩ : ∃ sm : Rat, sm = iv D * s + (((1 + dr / 19 % 4) : Int) : Rat) * ((X : Rat) * s1' + (Y : Rat) * s2' + (Z : Rat) * s3') := ⟨_, rfl⟩
        rw [← hbm] at bM hM
        rw [← hsm] at bMs hM
        walk_at "go"
        intro H14 tw u v w t14 hw hn2 l4 l5 l6
        walk_at "go"
        intro H15 ta ab as t15 VA bab bas
        have bu : Bz 2 u := bz_lt (b := 4) (by decide) (by omega)
        have bv : Bz 2 v := bz_lt (b := 4) (by decide) (by omega)
        have bw : Bz 2 w := bz_lt (b := 4) (by decide) (by omega)
        walk_at "go"
        have hM15 := hM.same (t14.trans t15)
        refine ⟨6, 1, 5, [(1 + dr / 19 % 4)], tm, tw, ta, X, Y, Z, u, v, w, _, _, ab, as, _, rfl, hM15, by show 1 ≤ 9; decide, same_tup t15 hw, VA, bX, bYY, bZ, bu, bv, bw, bM, bMs, bab.up (by decide), bas.up (by decide), mir_ne k3 hn2, fun H16 tu t16 hU => ?_⟩
        have hM16 := hM15.same t16
        have hT16 := hT12.same (t13.trans (t14.trans (t15.trans t16)))
        have hTr16 := hTr.same (t13.trans (t14.trans (t15.trans t16)))
        have VO16 := VO.same (s3.trans (s4.trans (t48.trans (t812.trans (t13.trans (t14.trans (t15.trans t16)))))))
        have hd16 := same_tup (s2.trans (s3.trans (s4.trans (t48.trans (t812.trans (t13.trans (t14.trans (t15.trans t16)))))))) hd
        have hw16 := same_tup (t15.trans t16) hw
        have VA16 := VA.same t16
        have z16 : Same H H16 := s0.trans (s1.trans (s2.trans (s3.trans (s4.trans (t48.trans (t812.trans (t13.trans (t14.trans (t15.trans t16)))))))))
        obtain ⟨lb, gb, sdb, wb, hTb, hLb, hGb, ⟨nb, ob, hSb, hNb, hOb⟩, hWb⟩ := id hM16
        walk_at "go"
        refine ⟨⟨_, hLb⟩, fun Db nDb => ?_⟩
        refine lc_val (walk_list (K := K) (a := lb) (xs := [.ref sdb])) [wb] rfl (by show 1 ≤ 1000; decide) nDb (fun H2 s2 => s2.seq hLb) ?_ ?_
        · rintro j c v' H5 H6 kk2 hc s5 ⟨rfl, g1⟩ kk3
          obtain rfl : j = 0 := by
            have : j < 1 := (List.getElem?_eq_some_iff.mp hc).1
            omega
          obtain rfl : V.ref sdb = v' := Option.some.inj g1
          obtain rfl : wb = c := Option.some.inj hc
          have hS5 := same_tup s5 hSb
          walk_at "go"
          exact kk3 _ (Same.refl _)
        intro Hb sb eb
        walk_at "go"
        refine ⟨tn rfl, fun tab ntab => ?_⟩
        generalize hUtab : upd _ _ (HO.tup _) = Hb1
        have sb1 := same_hu hUtab ntab
        have ehab := at_hu hUtab
        have hab := SqT.of (K := K) ehab
        clear hUtab
        walk_at "go"
        refine ⟨tn rfl, fun tbb ntbb => ?_⟩
        generalize hUtbb : upd _ _ (HO.tup _) = Hb2
        have sb2 := same_hu hUtbb ntbb
        have ehbb := at_hu hUtbb
        have hbb := SqT.of (K := K) ehbb
        clear hUtbb
        walk_at "go"
        refine ⟨tn rfl, fun tcb ntcb => ?_⟩
        generalize hUtcb : upd _ _ (HO.lst _) = Hb3
        have sb3 := same_hu hUtcb ntcb
        have ehcb := at_hu hUtcb
        have hcb := SqL.of (K := K) ehcb
        clear hUtcb
        have sxb := sb1.trans (sb2.trans sb3)
        refine ⟨.list [pog 5 [(1 + dr / 19 % 4)]], .list [pog 5 [(1 + dr / 19 % 4)]], .lst (SqL.of (sxb _ _ eb)) (.cons (dp_og (hWb.same (sb.trans sxb))) .nil), .lst hcb (.cons (dp_og ⟨tbb, tab, rfl, same_tup sb3 hbb, same_tup (sb2.trans sb3) hab⟩) .nil), sh_og 5 [(1 + dr / 19 % 4)], sh_og 5 [(1 + dr / 19 % 4)], ?_⟩
        rw [show PyData.eqv (.list [pog 5 [(1 + dr / 19 % 4)]]) (.list [pog 5 [(1 + dr / 19 % 4)]]) = true from eqv_og 5 [(1 + dr / 19 % 4)]]
        walk_at "go"
        have syb := sb.trans sxb
        refine ⟨tm, 5, [(1 + dr / 19 % 4)], X, Y, Z, _, _, _, rfl, hM16.same syb, k3, bX.up (by decide), bYY.up (by decide), bZ.up (by decide), k2, k1, fun H17 t17 => ?_⟩
        walk_at "go"
        have hU17 := hU.same (syb.trans t17)
        obtain ⟨lc, gc, sdc, wc, hTc, hLc, hGc, ⟨nc, oc, hSc, hNc, hOc⟩, hWc⟩ := id hU17
        walk_at "go"
        refine ⟨⟨_, hLc⟩, fun Dc nDc => ?_⟩
        refine lc_val (walk_list (K := K) (a := lc) (xs := [.ref sdc])) [wc] rfl (by show 1 ≤ 1000; decide) nDc (fun H2 s2 => s2.seq hLc) ?_ ?_
        · rintro j c v' H5 H6 kk2 hc s5 ⟨rfl, g1⟩ kk3
          obtain rfl : j = 0 := by
            have : j < 1 := (List.getElem?_eq_some_iff.mp hc).1
            omega
          obtain rfl : V.ref sdc = v' := Option.some.inj g1
          obtain rfl : wc = c := Option.some.inj hc
          have hS5 := same_tup s5 hSc
          walk_at "go"
          exact kk3 _ (Same.refl _)
        intro Hc sc ec
        walk_at "go"
        refine ⟨tn rfl, fun tac ntac => ?_⟩
        generalize hUtac : upd _ _ (HO.tup _) = Hc1
        have sc1 := same_hu hUtac ntac
        have ehac := at_hu hUtac
        have hac := SqT.of (K := K) ehac
        clear hUtac
        walk_at "go"
        refine ⟨tn rfl, fun tbc ntbc => ?_⟩
        generalize hUtbc : upd _ _ (HO.tup _) = Hc2
        have sc2 := same_hu hUtbc ntbc
        have ehbc := at_hu hUtbc
        have hbc := SqT.of (K := K) ehbc
        clear hUtbc
        walk_at "go"
        refine ⟨tn rfl, fun tcc ntcc => ?_⟩
        generalize hUtcc : upd _ _ (HO.lst _) = Hc3
        have sc3 := same_hu hUtcc ntcc
        have ehcc := at_hu hUtcc
        have hcc := SqL.of (K := K) ehcc
        clear hUtcc
        have sxc := sc1.trans (sc2.trans sc3)
        refine ⟨.list [pog 6 [1, (1 + dr / 19 % 4)]], .list [pog 6 [1, (1 + dr / 19 % 4)]], .lst (SqL.of (sxc _ _ ec)) (.cons (dp_og (hWc.same (sc.trans sxc))) .nil), .lst hcc (.cons (dp_og ⟨tbc, tac, rfl, same_tup sc3 hbc, same_tup (sc2.trans sc3) hac⟩) .nil), sh_og 6 [1, (1 + dr / 19 % 4)], sh_og 6 [1, (1 + dr / 19 % 4)], ?_⟩
        rw [show PyData.eqv (.list [pog 6 [1, (1 + dr / 19 % 4)]]) (.list [pog 6 [1, (1 + dr / 19 % 4)]]) = true from eqv_og 6 [1, (1 + dr / 19 % 4)]]
        walk_at "go"
        have syc := sc.trans sxc
        obtain ⟨j1, j2, j3⟩ := can_dn (mir_ne k3 hn2)
        obtain ⟨i1, i2, i3⟩ := can_le (mir_ne k3 hn2)
        obtain ⟨y1, y2, y3⟩ := mx_bd bX bYY bZ bu bv bw
        have hN0 : mdv u v w X Y Z ≠ 0 := dv_ne (mir_ne k3 hn2)
        have bN : Bz 30 (mdv u v w X Y Z) := dv_lt (mir_ne k3 hn2) (y1.up (by decide)) (y2.up (by decide)) (y3.up (by decide))
        have mX := cast_back (dv_dx (mx u v w X Y Z) (my u v w X Y Z) (mz u v w X Y Z))
        have mY := cast_back (dv_dy (mx u v w X Y Z) (my u v w X Y Z) (mz u v w X Y Z))
        have mZ := cast_back (dv_dz (mx u v w X Y Z) (my u v w X Y Z) (mz u v w X Y Z))
        have y4 : Bz 17 ((mx u v w X Y Z).fdiv (mdv u v w X Y Z)) := Nat.lt_of_le_of_lt i1 y1
        have y5 : Bz 17 ((my u v w X Y Z).fdiv (mdv u v w X Y Z)) := Nat.lt_of_le_of_lt i2 y2
        have y6 : Bz 17 ((mz u v w X Y Z).fdiv (mdv u v w X Y Z)) := Nat.lt_of_le_of_lt i3 y3
        have y7 : Bz 17 (mdv u v w X Y Z) := mdv_bd (mir_ne k3 hn2) y1 y2 y3
        replace mX : (((mx u v w X Y Z).fdiv (mdv u v w X Y Z) : Int) : Rat) * ((mdv u v w X Y Z : Int) : Rat) = ((mx u v w X Y Z : Int) : Rat) := mX
        replace mY : (((my u v w X Y Z).fdiv (mdv u v w X Y Z) : Int) : Rat) * ((mdv u v w X Y Z : Int) : Rat) = ((my u v w X Y Z : Int) : Rat) := mY
        replace mZ : (((mz u v w X Y Z).fdiv (mdv u v w X Y Z) : Int) : Rat) * ((mdv u v w X Y Z : Int) : Rat) = ((mz u v w X Y Z : Int) : Rat) := mZ
        have civ2 := iv_mul hN0
        refine ⟨tu, 6, [1, (1 + dr / 19 % 4)], (mx u v w X Y Z).fdiv (mdv u v w X Y Z), (my u v w X Y Z).fdiv (mdv u v w X Y Z), (mz u v w X Y Z).fdiv (mdv u v w X Y Z), _, _, _, rfl, hU17.same syc, j3, y4.up (by decide), y5.up (by decide), y6.up (by decide), j2, j1, fun H18 t18 => ?_⟩
        walk_at "go"
        have t1618 := syb.trans (t17.trans (syc.trans t18))
        have hT18 := hT16.same t1618
        have hM18 := hM16.same t1618
        have hU18 := hU.same t1618
        have hTr18 := hTr16.same t1618
        have VO18 := VO16.same t1618
        have VA18 := VA16.same t1618
        have hd18 := same_tup t1618 hd16
        have hw18 := same_tup t1618 hw16
        have z18 : Same H H18 := z16.trans t1618
        clear hT hM hU hTr VO VA hd hw hT12 hT16 hM15 hM16 hTr16 VO16 VA16 hd16 hw16 hU17 j1 j2 j3 i1 i2 i3
        refine ⟨by decide, by decide, for_range (n := 12) (fun j σ' H' => ∃ v12 v13 v14 v15 v16 v17 v18 : Option V, σ' = [some (.ref S), some (.int (0 + (i : Int))), some (.int dr), some (.ref td), some (.ref to), some (.ref tt), some (.ref tsh), some (.int (1 + dr / 19 % 4)), some (.ref tm), some (.ref tw), some (.ref ta), some (.ref tu), v12, v13, v14, v15, v16, v17, v18, none, none] ∧ Same H18 H') ⟨_, _, _, _, _, _, _, rfl, Same.refl _⟩ ?_ ?_⟩
        · rintro j σ' H20 hj ⟨v12, v13, v14, v15, v16, v17, v18, rfl, z20⟩
          --B
          have z1820 := z18.trans z20
          have hT20 := hT18.same z20
          have hM20 := hM18.same z20
          have hU20 := hU18.same z20
          have VO20 := VO18.same z20
          have VA20 := VA18.same z20
          have hd20 := same_tup z20 hd18
          have hw20 := same_tup z20 hw18
          have hTr20 := hTr18.same z20
          have cB : (1000 : Nat) < 2 ^ 1800 := Nat.lt_of_lt_of_le (by decide) (Nat.pow_le_pow_right (n := 2) (i := 10) (by decide) (by decide))
          walk_at "go"
          refine ⟨S, ns, 12 + j, ?_, z1820.seq hS, fun c => ?_⟩
          · show [V.ref S, V.int (12 + (0 + (j : Int)))] = _
            rw [show (12 : Int) + (0 + (j : Int)) = ((12 + j : Nat) : Int) by omega]
          walk_at "go"
          refine ⟨⟨by omega, by omega⟩, ?_⟩
          walk_at "go"
          have g1 := Int.emod_nonneg (c + dr / (31 + (0 + (j : Int)))) (show (11 : Int) ≠ 0 by decide)
          have g2 := Int.emod_lt_of_pos (c + dr / (31 + (0 + (j : Int)))) (show (0 : Int) < 11 by decide)
          have g3 := Int.emod_nonneg ((c + dr / (31 + (0 + (j : Int)))) / 11) (show (3 : Int) ≠ 0 by decide)
          have g4 := Int.emod_lt_of_pos ((c + dr / (31 + (0 + (j : Int)))) / 11) (show (0 : Int) < 3 by decide)
          refine ⟨show ((c + dr / (31 + (0 + (j : Int)))) % 11 - 5).natAbs < 2 ^ 1800 by omega, show (1 + (c + dr / (31 + (0 + (j : Int)))) / 11 % 3).natAbs < 2 ^ 1800 by omega, show 1 + (c + dr / (31 + (0 + (j : Int)))) / 11 % 3 ≠ 0 by omega, fun H21 wq s21 e21 => ?_⟩
          have fw0 : Fx K H21 wq (Rat.divInt ((c + dr / (31 + (0 + (j : Int)))) % 11 - 5) (1 + (c + dr / (31 + (0 + (j : Int)))) / 11 % 3)) := fx_rd (by omega) e21
          have bw0 : Bd 3 (Rat.divInt ((c + dr / (31 + (0 + (j : Int)))) % 11 - 5) (1 + (c + dr / (31 + (0 + (j : Int)))) / 11 % 3)) := bd_small (by omega) (by omega) (by omega)
          generalize Rat.divInt ((c + dr / (31 + (0 + (j : Int)))) % 11 - 5) (1 + (c + dr / (31 + (0 + (j : Int)))) / 11 % 3) = rr at fw0 bw0
          clear e21
          walk_at "go"
          refine ⟨by decide, by decide, fun D22 nD22 => ?_⟩
          refine lc_row (K := K) walk_range [pf (c + dr / (31 + (0 + (j : Int)))) 0, pf (c + dr / (31 + (0 + (j : Int)))) 1, pf (c + dr / (31 + (0 + (j : Int)))) 2] rfl (by show 3 ≤ 1000; decide) nD22 (fun _ _ => trivial) ?_ ?_
          · rintro i' c' v' H22 H23 kk hr0 s22 ⟨rfl, rfl⟩ kk2
            have hi3 : i' < 3 := (List.getElem?_eq_some_iff.mp hr0).1
            obtain rfl : c' = pf (c + dr / (31 + (0 + (j : Int)))) i' := by
              obtain rfl | rfl | rfl : i' = 0 ∨ i' = 1 ∨ i' = 2 := by omega
              all_goals exact (Option.some.inj hr0).symm
            have g5 := Int.emod_nonneg ((c + dr / (31 + (0 + (j : Int)))) / (33 + 13 * (0 + (i' : Int)))) (show (31 : Int) ≠ 0 by decide)
            have g6 := Int.emod_lt_of_pos ((c + dr / (31 + (0 + (j : Int)))) / (33 + 13 * (0 + (i' : Int)))) (show (0 : Int) < 31 by decide)
            walk_at "go"
            refine ⟨⟨by omega, by omega⟩, ?_⟩
            walk_at "go"
            refine ⟨show ((c + dr / (31 + (0 + (j : Int)))) / (33 + 13 * (0 + (i' : Int))) % 31 - 15).natAbs < 2 ^ 1800 by omega, show (1 + (0 + (i' : Int))).natAbs < 2 ^ 1800 by omega, show 1 + (0 + (i' : Int)) ≠ 0 by omega, fun H24 t24 s24 e24 => ?_⟩
            exact kk2 t24 H24 s24 (fx_rd (show 1 + (0 + (i' : Int)) ≠ 0 by omega) e24)
          intro H22 ws22 s22 e22 r22 m22
          refine ⟨D22, _, rfl, .inl ⟨SqL.of e22, fun tp np => ?_⟩⟩
          generalize hU23 : upd H22 tp _ = H23
          have s23 := same_hu hU23 np
          have h23 : SqT K H23 tp (fr ws22) := SqT.of (at_hu hU23)
          clear hU23
          obtain ⟨a1, a2, a3, ea, f1, f2, f3⟩ := pt_row (r22.same s23) m22
          rw [ea] at h23
          have hP : Px K H23 tp (pf (c + dr / (31 + (0 + (j : Int)))) 0) (pf (c + dr / (31 + (0 + (j : Int)))) 1) (pf (c + dr / (31 + (0 + (j : Int)))) 2) := ⟨a1, a2, a3, h23, f1, f2, f3⟩
          have c1 : Bd 4 (pf (c + dr / (31 + (0 + (j : Int)))) 0) := pf_bd _ (by decide)
          have c2 : Bd 4 (pf (c + dr / (31 + (0 + (j : Int)))) 1) := pf_bd _ (by decide)
          have c3 : Bd 4 (pf (c + dr / (31 + (0 + (j : Int)))) 2) := pf_bd _ (by decide)
          have s2023 : Same H20 H23 := s21.trans (s22.trans s23)
          have fw := fw0.same (s22.trans s23)
          generalize pf (c + dr / (31 + (0 + (j : Int)))) 0 = p1' at *
          generalize pf (c + dr / (31 + (0 + (j : Int)))) 1 = p2' at *
          generalize pf (c + dr / (31 + (0 + (j : Int)))) 2 = p3' at *
          clear m22 e22 r22 ea f1 f2 f3 h23 nD22 np fw0
          walk_at "go"
          refine ⟨td, tp, x, y, z, p1', p2', p3', rfl, same_tup s2023 hd20, hP.p3, bx.up (by decide), bY.up (by decide), bz.up (by decide), c1.up (by decide), c2.up (by decide), c3.up (by decide), fun H24 t24 s24 f24 => ?_⟩
          walk_at "go"
          refine ⟨tn rfl, fun t25 nt25 => ?_⟩
          generalize hUt25 : upd _ _ (HO.tup _) = H25
          have s25 := same_hu hUt25 nt25
          have eh25 := at_hu hUt25
          have h25 := SqT.of (K := K) eh25
          clear hUt25
          walk_at "go"
          have s2025 := s2023.trans (s24.trans s25)
          refine ⟨to, wq, b, s, rr, rfl, VO20.same s2025, fw.same (s24.trans s25), bb.up (by decide), bs.up (by decide), bw0.up (by decide), fun H26 t26 s26 f26 => ?_⟩
          have ba := bb.add (bs.mul bw0)
          have bm1 : Bd 1 ((-1 : Int) : Rat) := bd_int (n := -1) (k := 1) (by unfold Bz; decide) (by decide)
          refine ⟨t25, t26, ((-1 : Int) : Rat), _, rfl, (fx_int h25).same s26, f26, bm1.up (by decide), ba.up (by decide), fun H27 t27 s27 f27 => ?_⟩
          refine ⟨t24, t27, _, _, rfl, f24.same (s25.trans (s26.trans s27)), f27, (bd_sum3 (by decide) bx bY bz c1 c2 c3).up (by decide), (bm1.mul ba).up (by decide), fun H28 t28 s28 f28 => ?_⟩
          have f28' : Fx K H28 t28 (away x y z p1' p2' p3' (b + s * rr)) := f28
          have s2028 := s2025.trans (s26.trans (s27.trans s28))
          have key1 := sdv_flip (q := away x y z p1' p2' p3' (b + s * rr)) (q' := away X Y Z p1' p2' p3' (iv D * b + iv D * s * rr)) (c := 1) (k := true) (by decide) hD0 (by
            rw [Rat.one_mul]
            exact away_flip cx cy cz civ)
          have Ptool := hP.p3.same (s24.trans (s25.trans (s26.trans (s27.trans s28))))
          have fw28 := fw.same (s24.trans (s25.trans (s26.trans (s27.trans s28))))
          have hT28 := hT20.same s2028
          refine ⟨fun σ' H' => ∃ v13 v16 : Option V, σ' = [some (.ref S), some (.int (0 + (i : Int))), some (.int dr), some (.ref td), some (.ref to), some (.ref tt), some (.ref tsh), some (.int (1 + dr / 19 % 4)), some (.ref tm), some (.ref tw), some (.ref ta), some (.ref tu), some (.int (0 + (j : Int))), v13, some (.ref wq), some (.ref tp), v16, v17, v18, none, none] ∧ Same H28 H', ?_, ?_⟩
          · walk_at "go"
            refine ⟨.int _, .int _, .int _, .int _, rfl, rfl, ?_⟩
            refine ⟨_, rfl, ?_⟩
            by_cases h0 : (away x y z p1' p2' p3' (b + s * rr)).num = 0
            · refine iteF' (by rw [h0]; rfl) ?_
              exact ⟨_, _, rfl, Same.refl _⟩
            · refine iteT' (by
                rw [show PyData.eqv (.int (away x y z p1' p2' p3' (b + s * rr)).num) (.int 0) = false from by
                  simp [PyData.eqv, h0]]
                rfl) ?_
              walk_at "go"
              refine ⟨tt, tp, wq, 3, [], X, Y, Z, p1', p2', p3', iv D * b, iv D * s, rr, _, rfl, hT28, Ptool, fw28, bX.up (by decide), bYY.up (by decide), bZ.up (by decide), c1.up (by decide), c2.up (by decide), c3.up (by decide), bB.up (by decide), bS.up (by decide), bw0.up (by decide), fun H30 s30 => ?_⟩
              rw [key1, show sdv (away x y z p1' p2' p3' (b + s * rr)) true = .bl (decide (0 < (away x y z p1' p2' p3' (b + s * rr)).num)) from by
                unfold sdv
                rw [if_neg h0, eqb_eq]
                simp]
              have f30 := f28'.same s30
              walk_at "go"
              refine ⟨.bool _, .bool _, .bl _, .bl _, rfl, rfl, ?_⟩
              refine ⟨_, rfl, iteF' (by simp [PyData.eqv]) ?_⟩
              exact ⟨_, _, rfl, s30⟩
          rintro σ' H29 ⟨v13', v16', rfl, s29⟩
          have s2029 := s2028.trans s29
          have fw29 := fw28.same s29
          have P29 := Ptool.same s29
          obtain ⟨pa1, pa2, pa3, hPt, hPa1, hPa2, hPa3⟩ := hP.same (s24.trans (s25.trans (s26.trans (s27.trans (s28.trans s29)))))
          have Tr29 := hTr20.same s2029
          obtain ⟨e1, e2, e3, hTs, hV1, hV2, hV3⟩ := id Tr29
          have bst1 := (bd_int bmk (by decide)).mul (bb1.add (bs1.mul bw0))
          have bst2 := (bd_int bmk (by decide)).mul (bb2.add (bs2.mul bw0))
          have bst3 := (bd_int bmk (by decide)).mul (bb3.add (bs3.mul bw0))
          walk_at "go"
          refine ⟨⟨_, hTs⟩, fun D30 nD30 => ?_⟩
          refine lc_row (K := K) (walk_tup (a := tsh) (xs := [.ref e1, .ref e2, .ref e3])) [(((1 + dr / 19 % 4) : Int) : Rat) * (b1 + s1' * rr), (((1 + dr / 19 % 4) : Int) : Rat) * (b2 + s2' * rr), (((1 + dr / 19 % 4) : Int) : Rat) * (b3 + s3' * rr)] rfl (by show 3 ≤ 1000; decide) nD30 (fun H2 s2 => same_tup s2 hTs) ?_ ?_
          · rintro i' c' v' H30 H31 kk hr0 s30 ⟨rfl, ge⟩ kk2
            obtain ⟨hi3, rfl⟩ := th_get ge
            obtain ⟨ea, hea, hva⟩ : ∃ ea : Addr, th (V.ref e1) (.ref e2) (.ref e3) i' = .ref ea ∧ Vx K H29 ea (th b1 b2 b3 i') [th s1' s2' s3' i'] := by
              obtain rfl | rfl | rfl : i' = 0 ∨ i' = 1 ∨ i' = 2 := by omega
              · exact ⟨e1, rfl, hV1⟩
              · exact ⟨e2, rfl, hV2⟩
              · exact ⟨e3, rfl, hV3⟩
            obtain rfl : c' = (((1 + dr / 19 % 4) : Int) : Rat) * (th b1 b2 b3 i' + th s1' s2' s3' i' * rr) := by
              obtain rfl | rfl | rfl : i' = 0 ∨ i' = 1 ∨ i' = 2 := by omega
              all_goals exact (Option.some.inj hr0).symm
            rw [hea]
            have bbi : Bd 3 (th b1 b2 b3 i') := th_all (P := Bd 3) bb1 bb2 bb3 i'
            have bsi : Bd 2 (th s1' s2' s3' i') := th_all (P := Bd 2) bs1 bs2 bs3 i'
            walk_at "go"
            refine ⟨tn rfl, fun t32 nt32 => ?_⟩
            generalize hUt32 : upd _ _ (HO.tup _) = H32
            have s32 := same_hu hUt32 nt32
            have eh32 := at_hu hUt32
            have h32 := SqT.of (K := K) eh32
            clear hUt32
            walk_at "go"
            refine ⟨ea, wq, _, _, rr, rfl, hva.same (s30.trans s32), fw29.same (s30.trans s32), bbi.up (by decide), bsi.up (by decide), bw0.up (by decide), fun H33 t33 s33 f33 => ?_⟩
            exact ⟨t32, t33, (((1 + dr / 19 % 4) : Int) : Rat), _, rfl, (fx_int h32).same s33, f33, (bd_int bmk (by decide)).up (by decide), (bbi.add (bsi.mul bw0)).up (by decide), fun H34 t34 s34 f34 => kk2 t34 H34 (s32.trans (s33.trans s34)) f34⟩
          intro H30 ws30 s30 e30 r30 m30
          refine ⟨D30, _, rfl, .inl ⟨SqL.of e30, fun ts nts => ?_⟩⟩
          generalize hU31 : upd H30 ts _ = H31
          have s31 := same_hu hU31 nts
          have h31 : SqT K H31 ts (fr ws30) := SqT.of (at_hu hU31)
          clear hU31
          obtain ⟨d1, d2, d3, ed, g1, g2, g3⟩ := pt_row (r30.same s31) m30
          rw [ed] at h31
          obtain ⟨st1, hst1⟩ : ∃ q : Rat, q = (((1 + dr / 19 % 4) : Int) : Rat) * (b1 + s1' * rr) := ⟨_, rfl⟩
          obtain ⟨st2, hst2⟩ : ∃ q : Rat, q = (((1 + dr / 19 % 4) : Int) : Rat) * (b2 + s2' * rr) := ⟨_, rfl⟩
          obtain ⟨st3, hst3⟩ : ∃ q : Rat, q = (((1 + dr / 19 % 4) : Int) : Rat) * (b3 + s3' * rr) := ⟨_, rfl⟩
          rw [← hst1] at g1 bst1
          rw [← hst2] at g2 bst2
          rw [← hst3] at g3 bst3
          clear m30 e30 r30 ed nD30 nts
          have s2931 := s30.trans s31
          have P31 := same_tup s2931 hPt
          walk_at "go"
          refine ⟨by decide, by decide, fun D32 nD32 => ?_⟩
          refine lc_row (K := K) walk_range [p1' + st1, p2' + st2, p3' + st3] rfl (by show 3 ≤ 1000; decide) nD32 (fun _ _ => trivial) ?_ ?_
          · rintro i' c' v' H32 H33 kk hr0 s32 ⟨rfl, rfl⟩ kk2
            have hi3 : i' < 3 := (List.getElem?_eq_some_iff.mp hr0).1
            have hi0' : (0 : Int) + (i' : Int) = (i' : Int) := by omega
            obtain rfl : c' = th p1' p2' p3' i' + th st1 st2 st3 i' := by
              obtain rfl | rfl | rfl : i' = 0 ∨ i' = 1 ∨ i' = 2 := by omega
              all_goals exact (Option.some.inj hr0).symm
            obtain ⟨ea, gea, hva⟩ : ∃ ea : Addr, [V.ref pa1, .ref pa2, .ref pa3][i']? = some (.ref ea) ∧ Fx K H29 ea (th p1' p2' p3' i') := by
              obtain rfl | rfl | rfl : i' = 0 ∨ i' = 1 ∨ i' = 2 := by omega
              · exact ⟨pa1, rfl, hPa1⟩
              · exact ⟨pa2, rfl, hPa2⟩
              · exact ⟨pa3, rfl, hPa3⟩
            obtain ⟨da, gda, hda⟩ : ∃ da : Addr, [V.ref d1, .ref d2, .ref d3][i']? = some (.ref da) ∧ Fx K H31 da (th st1 st2 st3 i') := by
              obtain rfl | rfl | rfl : i' = 0 ∨ i' = 1 ∨ i' = 2 := by omega
              · exact ⟨d1, rfl, g1⟩
              · exact ⟨d2, rfl, g2⟩
              · exact ⟨d3, rfl, g3⟩
            have bpi : Bd 4 (th p1' p2' p3' i') := th_all (P := Bd 4) c1 c2 c3 i'
            have bsi : Bd 12 (th st1 st2 st3 i') := th_all (P := Bd 12) bst1 bst2 bst3 i'
            refine ⟨rfl, _, rfl, _, rfl, tp, _, _, _, rfl, rfl, same_tup s32 P31, by rw [hi0']; exact atI_nat gea, _, rfl, _, rfl, ts, _, _, _, rfl, rfl, same_tup s32 h31, by rw [hi0']; exact atI_nat gda, ?_⟩
            exact ⟨ea, da, _, _, rfl, hva.same (s2931.trans s32), hda.same s32, bpi.up (by decide), bsi.up (by decide), fun H34 t34 s34 f34 => kk2 t34 H34 s34 f34⟩
          intro H32 ws32 s32 e32 r32 m32
          refine ⟨D32, _, rfl, .inl ⟨SqL.of e32, fun tt2 ntt2 => ?_⟩⟩
          generalize hU33 : upd H32 tt2 _ = H33
          have s33 := same_hu hU33 ntt2
          have h33 : SqT K H33 tt2 (fr ws32) := SqT.of (at_hu hU33)
          clear hU33
          obtain ⟨d1', d2', d3', ed, g1', g2', g3'⟩ := pt_row (r32.same s33) m32
          rw [ed] at h33
          have O33 : Px K H33 tt2 (p1' + st1) (p2' + st2) (p3' + st3) := ⟨d1', d2', d3', h33, g1', g2', g3'⟩
          have bo1 := c1.add bst1
          have bo2 := c2.add bst2
          have bo3 := c3.add bst3
          clear m32 e32 r32 ed nD32 ntt2
          have key2 : away X Y Z (p1' + st1) (p2' + st2) (p3' + st3) (bm + sm * rr) = away X Y Z p1' p2' p3' (iv D * b + iv D * s * rr) := by
            rw [hst1, hst2, hst3, hbm, hsm]
            exact away_shift
          have s2933 := s2931.trans (s32.trans s33)
          have s2033 := s2029.trans s2933
          walk_at "go"
          refine ⟨tt, tp, wq, 3, [], X, Y, Z, p1', p2', p3', iv D * b, iv D * s, rr, _, rfl, hT20.same s2033, P29.same s2933, fw29.same s2933, bX.up (by decide), bYY.up (by decide), bZ.up (by decide), c1.up (by decide), c2.up (by decide), c3.up (by decide), bB.up (by decide), bS.up (by decide), bw0.up (by decide), fun H34 s34 => ?_⟩
          walk_at "go"
          refine ⟨tm, tt2, wq, 5, [(1 + dr / 19 % 4)], X, Y, Z, _, _, _, bm, sm, rr, _, rfl, hM20.same (s2033.trans s34), O33.p3.same s34, fw29.same (s2933.trans s34), bX.up (by decide), bYY.up (by decide), bZ.up (by decide), bo1.up (by decide), bo2.up (by decide), bo3.up (by decide), bM.up (by decide), bMs.up (by decide), bw0.up (by decide), fun H35 s35 => ?_⟩
          rw [key2]
          obtain ⟨pd, hpd, hsh, heq⟩ := dp_sdv K (away X Y Z p1' p2' p3' (iv D * b + iv D * s * rr)) (eqb true (decide (0 < D)))
          refine ⟨pd, pd, hpd _, hpd _, hsh, hsh, ?_⟩
          rw [heq]
          walk_at "go"
          have s2935 := s2933.trans (s34.trans s35)
          have s2035 := s2029.trans s2935
          have O35 := O33.same (s34.trans s35)
          refine ⟨tm, tt2, wq, 5, [(1 + dr / 19 % 4)], X, Y, Z, _, _, _, bm, sm, rr, _, rfl, hM20.same s2035, O35.p3, fw29.same s2935, bX.up (by decide), bYY.up (by decide), bZ.up (by decide), bo1.up (by decide), bo2.up (by decide), bo3.up (by decide), bM.up (by decide), bMs.up (by decide), bw0.up (by decide), fun H36 s36 => ?_⟩
          walk_at "go"
          refine ⟨ta, wq, ab, as, rr, rfl, VA20.same (s2035.trans s36), fw29.same (s2935.trans s36), bab.up (by decide), bas.up (by decide), bw0.up (by decide), fun H37 t37 s37 f37 => ?_⟩
          have s3537 := s36.trans s37
          walk_at "go"
          refine ⟨tt2, tw, t37, u, v, w, _, _, _, _, rfl, O35.same s3537, same_tup (s2035.trans s3537) hw20, f37, hn2, bu, bv, bw, bo1.up (by decide), bo2.up (by decide), bo3.up (by decide), (bab.add (bas.mul bw0)).up (by decide), fun H38 t38 s38 P38 m1 m2 m3 => ?_⟩
          have s3538 := s3537.trans s38
          obtain ⟨bsq, bip⟩ := sqip_bd bX bYY bZ bu bv bw
          have bN17 : Bd 17 (iv (mdv u v w X Y Z)) := bd_div hN0 (bz_one (by decide)) y7
          have bt1 := bN17.mul (((bd_int bsq (by decide)).mul bM).sub ((bd_int bip (by decide)).mul bab))
          have bt2 := bN17.mul (((bd_int bsq (by decide)).mul bMs).sub ((bd_int bip (by decide)).mul bas))
          walk_at "go"
          refine ⟨tu, t38, wq, 6, [1, (1 + dr / 19 % 4)], _, _, _, _, _, _, _, _, rr, _, rfl, hU20.same (s2035.trans s3538), P38.p3, fw29.same (s2935.trans s3538), y4.up (by decide), y5.up (by decide), y6.up (by decide), m1.up (by decide), m2.up (by decide), m3.up (by decide), bt1.up (by decide), bt2.up (by decide), bw0.up (by decide), fun H39 s39 => ?_⟩
          obtain ⟨mc1, mc2, mc3⟩ := mx_cast X Y Z u v w
          have hsq := sq3_pos hn2
          have key3 := sdv_flip (D := mdv u v w X Y Z) (q := away X Y Z (p1' + st1) (p2' + st2) (p3' + st3) (bm + sm * rr)) (c := ((sq3 u v w : Int) : Rat)) (k := eqb true (decide (0 < D))) (rcast_pos.mpr hsq) hN0
            (away_mir (sq_cast u v w) (ip_cast X Y Z u v w) (mX.trans mc1) (mY.trans mc2) (mZ.trans mc3) civ2 (iv_mul (by omega)) (bk u v w (p1' + st1) (p2' + st2) (p3' + st3) (ab + as * rr)) rfl)
          have key3' : sdv (away ((mx u v w X Y Z).fdiv (mdv u v w X Y Z)) ((my u v w X Y Z).fdiv (mdv u v w X Y Z)) ((mz u v w X Y Z).fdiv (mdv u v w X Y Z)) (p1' + st1 + bk u v w (p1' + st1) (p2' + st2) (p3' + st3) (ab + as * rr) * (u : Rat)) (p2' + st2 + bk u v w (p1' + st1) (p2' + st2) (p3' + st3) (ab + as * rr) * (v : Rat)) (p3' + st3 + bk u v w (p1' + st1) (p2' + st2) (p3' + st3) (ab + as * rr) * (w : Rat)) (iv (mdv u v w X Y Z) * (((sq3 u v w : Int) : Rat) * bm - ((2 * ip u v w X Y Z : Int) : Rat) * ab) + iv (mdv u v w X Y Z) * (((sq3 u v w : Int) : Rat) * sm - ((2 * ip u v w X Y Z : Int) : Rat) * as) * rr)) (eqb (eqb true (decide (0 < D))) (decide (0 < mdv u v w X Y Z))) = sdv (away X Y Z (p1' + st1) (p2' + st2) (p3' + st3) (bm + sm * rr)) (eqb true (decide (0 < D))) := key3
          rw [key3']
          obtain ⟨pd2, hpd2, hsh2, heq2⟩ := dp_sdv K (away X Y Z (p1' + st1) (p2' + st2) (p3' + st3) (bm + sm * rr)) (eqb true (decide (0 < D)))
          refine ⟨pd2, pd2, hpd2 _, hpd2 _, hsh2, hsh2, ?_⟩
          rw [heq2]
          walk_at "go"
          have s2939 := s2935.trans (s3538.trans s39)
          have s2039 := s2029.trans s2939
          refine ⟨td, tsh, x, y, z, b1, s1', b2, s2', b3, s3', rfl, same_tup s2039 hd20, Tr29.same s2939, bx.up (by decide), bY.up (by decide), bz.up (by decide), bb1.up (by decide), bs1.up (by decide), bb2.up (by decide), bs2.up (by decide), bb3.up (by decide), bs3.up (by decide), fun H40 t40 s40 f40 => ?_⟩
          have bx1 := bd_int bx (by decide)
          have by1 := bd_int bY (by decide)
          have bz1 := bd_int bz (by decide)
          walk_at "go"
          refine ⟨t40, wq, _, _, rr, rfl, f40, fw29.same (s2939.trans s40), (((bx1.mul bb1).add (by1.mul bb2)).add (bz1.mul bb3)).up (by decide), (((bx1.mul bs1).add (by1.mul bs2)).add (bz1.mul bs3)).up (by decide), bw0.up (by decide), fun H41 t41 s41 f41 => ?_⟩
          have s2941 := s2939.trans (s40.trans s41)
          obtain ⟨e1', e2', e3', hTs', hV1', hV2', hV3'⟩ := Tr29.same s2941
          have fw41 := fw29.same s2941
          walk_at "go"
          refine ⟨⟨_, hTs'⟩, fun D42 nD42 => ?_⟩
          refine lc_row (K := K) (walk_tup (a := tsh) (xs := [.ref e1', .ref e2', .ref e3'])) [b1 + s1' * rr, b2 + s2' * rr, b3 + s3' * rr] rfl (by show 3 ≤ 1000; decide) nD42 (fun H2 s2 => same_tup s2 hTs') ?_ ?_
          · rintro i' c' v' H42 H43 kk hr0 s42 ⟨rfl, ge⟩ kk2
            obtain ⟨hi3, rfl⟩ := th_get ge
            obtain ⟨ea, hea, hva⟩ : ∃ ea : Addr, th (V.ref e1') (.ref e2') (.ref e3') i' = .ref ea ∧ Vx K H41 ea (th b1 b2 b3 i') [th s1' s2' s3' i'] := by
              obtain rfl | rfl | rfl : i' = 0 ∨ i' = 1 ∨ i' = 2 := by omega
              · exact ⟨e1', rfl, hV1'⟩
              · exact ⟨e2', rfl, hV2'⟩
              · exact ⟨e3', rfl, hV3'⟩
            obtain rfl : c' = th b1 b2 b3 i' + th s1' s2' s3' i' * rr := by
              obtain rfl | rfl | rfl : i' = 0 ∨ i' = 1 ∨ i' = 2 := by omega
              all_goals exact (Option.some.inj hr0).symm
            rw [hea]
            have bbi : Bd 3 (th b1 b2 b3 i') := th_all (P := Bd 3) bb1 bb2 bb3 i'
            have bsi : Bd 2 (th s1' s2' s3' i') := th_all (P := Bd 2) bs1 bs2 bs3 i'
            walk_at "go"
            exact ⟨ea, wq, _, _, rr, rfl, hva.same s42, fw41.same s42, bbi.up (by decide), bsi.up (by decide), bw0.up (by decide), fun H44 t44 s44 f44 => kk2 t44 H44 s44 f44⟩
          intro H42 ws42 s42 e42 r42 m42
          obtain ⟨g1a, g2a, g3a, eg, q1a, q2a, q3a⟩ := pt_row r42 m42
          rw [eg] at e42
          walk_at "go"
          refine ⟨td, D42, x, y, z, _, _, _, rfl, same_tup (s2029.trans (s2941.trans s42)) hd20, ⟨g1a, g2a, g3a, .inr (SqL.of e42), q1a, q2a, q3a⟩, bx.up (by decide), bY.up (by decide), bz.up (by decide), (bb1.add (bs1.mul bw0)).up (by decide), (bb2.add (bs2.mul bw0)).up (by decide), (bb3.add (bs3.mul bw0)).up (by decide), fun H43 t43 s43 f43 => ?_⟩
          refine ⟨_, _, dpr (f41.same (s42.trans s43)), dpr f43, sh1 _, sh1 _, ?_⟩
          rw [eqvr, show ((x : Rat) * b1 + (y : Rat) * b2 + (z : Rat) * b3 + ((x : Rat) * s1' + (y : Rat) * s2' + (z : Rat) * s3') * rr) = dot3 x y z (b1 + s1' * rr) (b2 + s2' * rr) (b3 + s3' * rr) by unfold dot3; grind, decide_eq_true rfl]
          walk_at "go"
          exact ⟨_, _, _, _, _, _, _, rfl, z20.trans (s2029.trans (s2941.trans (s42.trans s43)))⟩
        · rintro σ' H' ⟨v12, v13, v14, v15, v16, v17, v18, rfl, s20⟩
          exact ⟨z18.trans s20, _, _, _, _, _, _, _, _, _, _, _, _, _, _, _, _, _, _, rfl⟩
      · rintro σ' H' ⟨_, h⟩
        exact h
    rintro σ' H' ⟨v1, v2, v3, v4, v5, v6, v7, v8, v9, v10, v11, v12, v13, v14, v15, v16, v17, v18, rfl⟩
    exact q H'
end
theorem all_mk {l : PySem.W.OpenLaw} {w : World} {K : PySem.W.Frag} {h : Heap} {mg : Str → Option Value} {fa f1 f2 f3 f4 f5 f6 f7 f8 f9 f10 f11 f12 f13 f14 f15 f16 f17 f18 f19 f20 f21 f22 f23 f24 f25 f26 f27 f28 f29 f30 f31 f32 CPartError CNought T2 : Addr} (X : K.In h) (G : h.Ns mainGlobals mg) (hfa : mg "law" = some (.ref fa))
    {od1 an1 od2 an2 od3 an3 od4 an4 od5 an5 od6 an6 od7 an7 od8 an8 od9 an9 od10 an10 od11 an11 od12 an12 od13 an13 od14 an14 od15 an15 od16 an16 od17 an17 od18 an18 od19 an19 od20 an20 od21 an21 od22 an22 od23 an23 od24 an24 od25 an25 od26 an26 od27 an27 od28 an28 od29 an29 od30 an30 od31 an31 od32 an32 : Option Addr} {sl1 sl2 sl3 sl4 sl5 sl6 sl7 sl8 sl9 sl10 sl11 sl12 sl13 sl14 sl15 sl16 sl17 sl18 sl19 sl20 sl21 sl22 sl23 sl24 sl25 sl26 sl27 sl28 sl29 sl30 sl31 sl32 : Array (Option Value)} {oc1 kV1 dc1 pm1 cd1 ct1 oc2 kV2 dc2 pm2 cd2 ct2 oc3 kV3 dc3 pm3 cd3 ct3 oc4 kV4 dc4 pm4 cd4 ct4 oc5 kV5 dc5 pm5 cd5 ct5 oc6 kV6 dc6 pm6 cd6 ct6 oc7 kV7 dc7 pm7 cd7 ct7 oc8 kV8 dc8 pm8 cd8 ct8 oc9 kV9 dc9 pm9 cd9 ct9 oc10 kV10 dc10 pm10 cd10 ct10 oc11 kV11 dc11 pm11 cd11 ct11 oc12 kV12 dc12 pm12 cd12 ct12 oc13 kV13 dc13 pm13 cd13 ct13 oc14 kV14 dc14 pm14 cd14 ct14 oc15 kV15 dc15 pm15 cd15 ct15 oc16 kV16 dc16 pm16 cd16 ct16 oc17 kV17 dc17 pm17 cd17 ct17 oc18 kV18 dc18 pm18 cd18 ct18 oc19 kV19 dc19 pm19 cd19 ct19 oc20 kV20 dc20 pm20 cd20 ct20 oc21 kV21 dc21 pm21 cd21 ct21 oc22 kV22 dc22 pm22 cd22 ct22 oc23 kV23 dc23 pm23 cd23 ct23 oc24 kV24 dc24 pm24 cd24 ct24 oc25 kV25 dc25 pm25 cd25 ct25 oc26 kV26 dc26 pm26 cd26 ct26 oc27 kV27 dc27 pm27 cd27 ct27 oc28 kV28 dc28 pm28 cd28 ct28 oc29 kV29 dc29 pm29 cd29 ct29 oc30 kV30 dc30 pm30 cd30 ct30 oc31 kV31 dc31 pm31 cd31 ct31 oc32 kV32 dc32 pm32 cd32 ct32 : Value}
    (a1 : PySem.W.nsIn K mainGlobals "common" = some (some (.ref f1))) (l1 : K.lookup f1 = some ⟨oc1, od1, .func (PySem.W.fnOf "common" "common" (defArgs sCommon) (defBody sCommon) (defScope sCommon) .none kV1 dc1 pm1 an1 cd1 ct1), sl1⟩) (c1 : PySem.W.codeIn K cd1 "common" = true) (k1 : PySem.W.keepIn K (.ref f1) = true)
    (a2 : PySem.W.nsIn K mainGlobals "fraction" = some (some (.ref f2))) (l2 : K.lookup f2 = some ⟨oc2, od2, .func (PySem.W.fnOf "fraction" "fraction" (defArgs sFraction) (defBody sFraction) (defScope sFraction) (.ref T2) kV2 dc2 pm2 an2 cd2 ct2), sl2⟩) {ocT2 : Value} {odT2 : Option Addr} {slT2 : Array (Option Value)} {nT2 : Nat} {tT2 : Tok} (lT2 : K.lookup T2 = some ⟨ocT2, odT2, .seq #[.int 1 tT2] nT2, slT2⟩) (c2 : PySem.W.codeIn K cd2 "fraction" = true) (k2 : PySem.W.keepIn K (.ref f2) = true)
    (a3 : PySem.W.nsIn K mainGlobals "plus" = some (some (.ref f3))) (l3 : K.lookup f3 = some ⟨oc3, od3, .func (PySem.W.fnOf "plus" "plus" (defArgs sPlus) (defBody sPlus) (defScope sPlus) .none kV3 dc3 pm3 an3 cd3 ct3), sl3⟩) (c3 : PySem.W.codeIn K cd3 "plus" = true) (k3 : PySem.W.keepIn K (.ref f3) = true)
    (a4 : PySem.W.nsIn K mainGlobals "minus" = some (some (.ref f4))) (l4 : K.lookup f4 = some ⟨oc4, od4, .func (PySem.W.fnOf "minus" "minus" (defArgs sMinus) (defBody sMinus) (defScope sMinus) .none kV4 dc4 pm4 an4 cd4 ct4), sl4⟩) (c4 : PySem.W.codeIn K cd4 "minus" = true) (k4 : PySem.W.keepIn K (.ref f4) = true)
    (a5 : PySem.W.nsIn K mainGlobals "times" = some (some (.ref f5))) (l5 : K.lookup f5 = some ⟨oc5, od5, .func (PySem.W.fnOf "times" "times" (defArgs sTimes) (defBody sTimes) (defScope sTimes) .none kV5 dc5 pm5 an5 cd5 ct5), sl5⟩) (c5 : PySem.W.codeIn K cd5 "times" = true) (k5 : PySem.W.keepIn K (.ref f5) = true)
    (a6 : PySem.W.nsIn K mainGlobals "add" = some (some (.ref f6))) (l6 : K.lookup f6 = some ⟨oc6, od6, .func (PySem.W.fnOf "add" "add" (defArgs sAdd) (defBody sAdd) (defScope sAdd) .none kV6 dc6 pm6 an6 cd6 ct6), sl6⟩) (c6 : PySem.W.codeIn K cd6 "add" = true) (k6 : PySem.W.keepIn K (.ref f6) = true)
    (a7 : PySem.W.nsIn K mainGlobals "subtract" = some (some (.ref f7))) (l7 : K.lookup f7 = some ⟨oc7, od7, .func (PySem.W.fnOf "subtract" "subtract" (defArgs sSubtract) (defBody sSubtract) (defScope sSubtract) .none kV7 dc7 pm7 an7 cd7 ct7), sl7⟩) (c7 : PySem.W.codeIn K cd7 "subtract" = true) (k7 : PySem.W.keepIn K (.ref f7) = true)
    (a8 : PySem.W.nsIn K mainGlobals "scale" = some (some (.ref f8))) (l8 : K.lookup f8 = some ⟨oc8, od8, .func (PySem.W.fnOf "scale" "scale" (defArgs sScale) (defBody sScale) (defScope sScale) .none kV8 dc8 pm8 an8 cd8 ct8), sl8⟩) (c8 : PySem.W.codeIn K cd8 "scale" = true) (k8 : PySem.W.keepIn K (.ref f8) = true)
    (a9 : PySem.W.nsIn K mainGlobals "inner" = some (some (.ref f9))) (l9 : K.lookup f9 = some ⟨oc9, od9, .func (PySem.W.fnOf "inner" "inner" (defArgs sInner) (defBody sInner) (defScope sInner) .none kV9 dc9 pm9 an9 cd9 ct9), sl9⟩) (c9 : PySem.W.codeIn K cd9 "inner" = true) (k9 : PySem.W.keepIn K (.ref f9) = true)
    (a10 : PySem.W.nsIn K mainGlobals "primitive" = some (some (.ref f10))) (l10 : K.lookup f10 = some ⟨oc10, od10, .func (PySem.W.fnOf "primitive" "primitive" (defArgs sPrimitive) (defBody sPrimitive) (defScope sPrimitive) .none kV10 dc10 pm10 an10 cd10 ct10), sl10⟩) (c10 : PySem.W.codeIn K cd10 "primitive" = true) (k10 : PySem.W.keepIn K (.ref f10) = true)
    (a11 : PySem.W.nsIn K mainGlobals "spread" = some (some (.ref f11))) (l11 : K.lookup f11 = some ⟨oc11, od11, .func (PySem.W.fnOf "spread" "spread" (defArgs sSpread) (defBody sSpread) (defScope sSpread) .none kV11 dc11 pm11 an11 cd11 ct11), sl11⟩) (c11 : PySem.W.codeIn K cd11 "spread" = true) (k11 : PySem.W.keepIn K (.ref f11) = true)
    (a12 : PySem.W.nsIn K mainGlobals "side_of" = some (some (.ref f12))) (l12 : K.lookup f12 = some ⟨oc12, od12, .func (PySem.W.fnOf "side_of" "side_of" (defArgs sSideOf) (defBody sSideOf) (defScope sSideOf) .none kV12 dc12 pm12 an12 cd12 ct12), sl12⟩) (c12 : PySem.W.codeIn K cd12 "side_of" = true) (k12 : PySem.W.keepIn K (.ref f12) = true)
    (a13 : PySem.W.nsIn K mainGlobals "half_tool" = some (some (.ref f13))) (l13 : K.lookup f13 = some ⟨oc13, od13, .func (PySem.W.fnOf "half_tool" "half_tool" (defArgs sHalfTool) (defBody sHalfTool) (defScope sHalfTool) .none kV13 dc13 pm13 an13 cd13 ct13), sl13⟩) (c13 : PySem.W.codeIn K cd13 "half_tool" = true) (k13 : PySem.W.keepIn K (.ref f13) = true)
    (a14 : PySem.W.nsIn K mainGlobals "copied_origin" = some (some (.ref f14))) (l14 : K.lookup f14 = some ⟨oc14, od14, .func (PySem.W.fnOf "copied_origin" "copied_origin" (defArgs sCopiedOrigin) (defBody sCopiedOrigin) (defScope sCopiedOrigin) .none kV14 dc14 pm14 an14 cd14 ct14), sl14⟩) (c14 : PySem.W.codeIn K cd14 "copied_origin" = true) (k14 : PySem.W.keepIn K (.ref f14) = true)
    (a15 : PySem.W.nsIn K mainGlobals "shifted_tool" = some (some (.ref f15))) (l15 : K.lookup f15 = some ⟨oc15, od15, .func (PySem.W.fnOf "shifted_tool" "shifted_tool" (defArgs sShiftedTool) (defBody sShiftedTool) (defScope sShiftedTool) .none kV15 dc15 pm15 an15 cd15 ct15), sl15⟩) (c15 : PySem.W.codeIn K cd15 "shifted_tool" = true) (k15 : PySem.W.keepIn K (.ref f15) = true)
    (a16 : PySem.W.nsIn K mainGlobals "mirrored_side" = some (some (.ref f16))) (l16 : K.lookup f16 = some ⟨oc16, od16, .func (PySem.W.fnOf "mirrored_side" "mirrored_side" (defArgs sMirroredSide) (defBody sMirroredSide) (defScope sMirroredSide) .none kV16 dc16 pm16 an16 cd16 ct16), sl16⟩) (c16 : PySem.W.codeIn K cd16 "mirrored_side" = true) (k16 : PySem.W.keepIn K (.ref f16) = true)
    (a17 : PySem.W.nsIn K mainGlobals "mirrored_tool" = some (some (.ref f17))) (l17 : K.lookup f17 = some ⟨oc17, od17, .func (PySem.W.fnOf "mirrored_tool" "mirrored_tool" (defArgs sMirroredTool) (defBody sMirroredTool) (defScope sMirroredTool) .none kV17 dc17 pm17 an17 cd17 ct17), sl17⟩) (c17 : PySem.W.codeIn K cd17 "mirrored_tool" = true) (k17 : PySem.W.keepIn K (.ref f17) = true)
    (a18 : PySem.W.nsIn K mainGlobals "_law_number" = some (some (.ref f18))) (l18 : K.lookup f18 = some ⟨oc18, od18, .func (PySem.W.fnOf "_law_number" "_law_number" (defArgs sLLawNumber) (defBody sLLawNumber) (defScope sLLawNumber) .none kV18 dc18 pm18 an18 cd18 ct18), sl18⟩) (c18 : PySem.W.codeIn K cd18 "_law_number" = true) (k18 : PySem.W.keepIn K (.ref f18) = true)
    (a19 : PySem.W.nsIn K mainGlobals "_law_fraction" = some (some (.ref f19))) (l19 : K.lookup f19 = some ⟨oc19, od19, .func (PySem.W.fnOf "_law_fraction" "_law_fraction" (defArgs sLLawFraction) (defBody sLLawFraction) (defScope sLLawFraction) .none kV19 dc19 pm19 an19 cd19 ct19), sl19⟩) (c19 : PySem.W.codeIn K cd19 "_law_fraction" = true) (k19 : PySem.W.keepIn K (.ref f19) = true)
    (a20 : PySem.W.nsIn K mainGlobals "_law_sum" = some (some (.ref f20))) (l20 : K.lookup f20 = some ⟨oc20, od20, .func (PySem.W.fnOf "_law_sum" "_law_sum" (defArgs sLLawSum) (defBody sLLawSum) (defScope sLLawSum) .none kV20 dc20 pm20 an20 cd20 ct20), sl20⟩) (c20 : PySem.W.codeIn K cd20 "_law_sum" = true) (k20 : PySem.W.keepIn K (.ref f20) = true)
    (a21 : PySem.W.nsIn K mainGlobals "_law_times" = some (some (.ref f21))) (l21 : K.lookup f21 = some ⟨oc21, od21, .func (PySem.W.fnOf "_law_times" "_law_times" (defArgs sLLawTimes) (defBody sLLawTimes) (defScope sLLawTimes) .none kV21 dc21 pm21 an21 cd21 ct21), sl21⟩) (c21 : PySem.W.codeIn K cd21 "_law_times" = true) (k21 : PySem.W.keepIn K (.ref f21) = true)
    (a22 : PySem.W.nsIn K mainGlobals "_law_dot" = some (some (.ref f22))) (l22 : K.lookup f22 = some ⟨oc22, od22, .func (PySem.W.fnOf "_law_dot" "_law_dot" (defArgs sLLawDot) (defBody sLLawDot) (defScope sLLawDot) .none kV22 dc22 pm22 an22 cd22 ct22), sl22⟩) (c22 : PySem.W.codeIn K cd22 "_law_dot" = true) (k22 : PySem.W.keepIn K (.ref f22) = true)
    (a23 : PySem.W.nsIn K mainGlobals "_law_at" = some (some (.ref f23))) (l23 : K.lookup f23 = some ⟨oc23, od23, .func (PySem.W.fnOf "_law_at" "_law_at" (defArgs sLLawAt) (defBody sLLawAt) (defScope sLLawAt) .none kV23 dc23 pm23 an23 cd23 ct23), sl23⟩) (c23 : PySem.W.codeIn K cd23 "_law_at" = true) (k23 : PySem.W.keepIn K (.ref f23) = true)
    (a24 : PySem.W.nsIn K mainGlobals "_law_side" = some (some (.ref f24))) (l24 : K.lookup f24 = some ⟨oc24, od24, .func (PySem.W.fnOf "_law_side" "_law_side" (defArgs sLLawSide) (defBody sLLawSide) (defScope sLLawSide) .none kV24 dc24 pm24 an24 cd24 ct24), sl24⟩) (c24 : PySem.W.codeIn K cd24 "_law_side" = true) (k24 : PySem.W.keepIn K (.ref f24) = true)
    (a25 : PySem.W.nsIn K mainGlobals "_law_test" = some (some (.ref f25))) (l25 : K.lookup f25 = some ⟨oc25, od25, .func (PySem.W.fnOf "_law_test" "_law_test" (defArgs sLLawTest) (defBody sLLawTest) (defScope sLLawTest) .none kV25 dc25 pm25 an25 cd25 ct25), sl25⟩) (c25 : PySem.W.codeIn K cd25 "_law_test" = true) (k25 : PySem.W.keepIn K (.ref f25) = true)
    (a26 : PySem.W.nsIn K mainGlobals "_law_in" = some (some (.ref f26))) (l26 : K.lookup f26 = some ⟨oc26, od26, .func (PySem.W.fnOf "_law_in" "_law_in" (defArgs sLLawIn) (defBody sLLawIn) (defScope sLLawIn) .none kV26 dc26 pm26 an26 cd26 ct26), sl26⟩) (c26 : PySem.W.codeIn K cd26 "_law_in" = true) (k26 : PySem.W.keepIn K (.ref f26) = true)
    (a27 : PySem.W.nsIn K mainGlobals "_law_shared" = some (some (.ref f27))) (l27 : K.lookup f27 = some ⟨oc27, od27, .func (PySem.W.fnOf "_law_shared" "_law_shared" (defArgs sLLawShared) (defBody sLLawShared) (defScope sLLawShared) .none kV27 dc27 pm27 an27 cd27 ct27), sl27⟩) (c27 : PySem.W.codeIn K cd27 "_law_shared" = true) (k27 : PySem.W.keepIn K (.ref f27) = true)
    (a28 : PySem.W.nsIn K mainGlobals "_law_canonical" = some (some (.ref f28))) (l28 : K.lookup f28 = some ⟨oc28, od28, .func (PySem.W.fnOf "_law_canonical" "_law_canonical" (defArgs sLLawCanonical) (defBody sLLawCanonical) (defScope sLLawCanonical) .none kV28 dc28 pm28 an28 cd28 ct28), sl28⟩) (c28 : PySem.W.codeIn K cd28 "_law_canonical" = true) (k28 : PySem.W.keepIn K (.ref f28) = true)
    (a29 : PySem.W.nsIn K mainGlobals "_law_direction" = some (some (.ref f29))) (l29 : K.lookup f29 = some ⟨oc29, od29, .func (PySem.W.fnOf "_law_direction" "_law_direction" (defArgs sLLawDirection) (defBody sLLawDirection) (defScope sLLawDirection) .none kV29 dc29 pm29 an29 cd29 ct29), sl29⟩) (c29 : PySem.W.codeIn K cd29 "_law_direction" = true) (k29 : PySem.W.keepIn K (.ref f29) = true)
    (a30 : PySem.W.nsIn K mainGlobals "_law_value" = some (some (.ref f30))) (l30 : K.lookup f30 = some ⟨oc30, od30, .func (PySem.W.fnOf "_law_value" "_law_value" (defArgs sLLawValue) (defBody sLLawValue) (defScope sLLawValue) .none kV30 dc30 pm30 an30 cd30 ct30), sl30⟩) (c30 : PySem.W.codeIn K cd30 "_law_value" = true) (k30 : PySem.W.keepIn K (.ref f30) = true)
    (a31 : PySem.W.nsIn K mainGlobals "_law_mirrored" = some (some (.ref f31))) (l31 : K.lookup f31 = some ⟨oc31, od31, .func (PySem.W.fnOf "_law_mirrored" "_law_mirrored" (defArgs sLLawMirrored) (defBody sLLawMirrored) (defScope sLLawMirrored) .none kV31 dc31 pm31 an31 cd31 ct31), sl31⟩) (c31 : PySem.W.codeIn K cd31 "_law_mirrored" = true) (k31 : PySem.W.keepIn K (.ref f31) = true)
    (a32 : PySem.W.nsIn K mainGlobals "law" = some (some (.ref f32))) (l32 : K.lookup f32 = some ⟨oc32, od32, .func (PySem.W.fnOf "law" "law" (defArgs sLaw) (defBody sLaw) (defScope sLaw) .none kV32 dc32 pm32 an32 cd32 ct32), sl32⟩) (c32 : PySem.W.codeIn K cd32 "law" = true) (k32 : PySem.W.keepIn K (.ref f32) = true)
    (z1 : PySem.W.nsIn K mainGlobals "bool" = some none)
    (z2 : PySem.W.nsIn K mainGlobals "int" = some none)
    (z3 : PySem.W.nsIn K mainGlobals "isinstance" = some none)
    (z4 : PySem.W.nsIn K mainGlobals "len" = some none)
    (z5 : PySem.W.nsIn K mainGlobals "range" = some none)
    (z6 : PySem.W.nsIn K mainGlobals "str" = some none)
    (z7 : PySem.W.nsIn K mainGlobals "tuple" = some none)
    (z8 : PySem.W.nsIn K mainGlobals "zip" = some none)
    (z9 : PySem.W.nsIn K mainGlobals "gcd" = some (some (.builtin "math.gcd")))
    (y0 : PySem.W.nsIn K mainGlobals "PartError" = some (some (.ref CPartError)))
    (y1 : PySem.W.nsIn K mainGlobals "Nought" = some (some (.ref CNought)))
    (y2 : PySem.W.excIn K CNought [.type "ValueError", .type "Exception", .type "BaseException", .type "object"] "ValueError.__new__" = true)
    (y3 : PySem.W.keepIn K (.ref CNought) = true)
    (y4 : PySem.W.subIn K (.ref CNought) (.type "BaseException") = some true)
    (y5 : PySem.W.typeIn K (.ref CNought) = some (.type "type"))
    (y6 : PySem.W.subIn K (.ref CPartError) (.type "BaseException") = some true)
    (y7 : PySem.W.isClsIn K CPartError = true)
    (y8 : PySem.W.typeIn K (.ref CPartError) = some (.type "type"))
    (y9 : PySem.W.subIn K (.ref CNought) (.ref CPartError) = some true)
    (y10 : PySem.W.subIn K (.ref CNought) (.ref CNought) = some true)
    (y11 : PySem.W.findIn K (.ref CNought) "__getattribute__" = some (some (.builtin "BaseException.__getattribute__")))
    (y12 : PySem.W.findIn K (.ref CNought) "__getattr__" = some none)
    (y13 : PySem.W.hasDictIn K CNought = true)
    (y14 : PySem.W.findIn K (.ref CNought) "__class__" = some (some (.builtin "object.__class__")))
    (y15 : PySem.W.specialIn K (.builtin "object.__class__") "__get__" = some (some (.builtin "getset_descriptor.__get__")))
    (y16 : PySem.W.takesIn K (.builtin "object.__class__") = some true)
    (y17 : PySem.W.mroIn K CNought (.type "object") = some true)
    : ∃ fd : FuncData, (∀ (s : Shared) (v : Value), BindsTo s fd ⟨[v], []⟩ [("script", v)]) ∧ ∀ base : Heap, K.In base → base.Ns mainGlobals mg → FnOk l.prog w K mg base CX0 7 fa fd ["script"] (spLaw K) := by
  have e := hfa.symm.trans (PySem.W.mg_of X G a32)
  cases e
  have T : Txt mg := ⟨PySem.W.mg_none_of X G z1, PySem.W.mg_none_of X G z2, PySem.W.mg_none_of X G z3, PySem.W.mg_none_of X G z4, PySem.W.mg_none_of X G z5, PySem.W.mg_none_of X G z6, PySem.W.mg_none_of X G z7, PySem.W.mg_none_of X G z8, PySem.W.mg_of X G z9⟩
  have EX : Exns K mg CPartError CNought := ⟨PySem.W.mg_of X G y0, PySem.W.mg_of X G y1, y2, y3, y4, y5, y6, y7, y8, y9, y10, y11, y12, y13, y14, y15, y16, y17⟩
  have F1 := fun_mk (st := sCommon) l1 c1 k1
  have F2 : FunD K "fraction" "fraction" (defArgs sFraction) (defBody sFraction) (defScope sFraction) [.int 1] [] f2 _ := ⟨⟨oc2, od2, .ref T2, kV2, dc2, pm2, an2, cd2, ct2, sl2, rfl, l2, c2, .inr ⟨by decide, T2, _, [.int 1 tT2], nT2, rfl, lT2, rfl, .cons ⟨_, rfl⟩ .nil⟩, .inl rfl⟩, k2⟩
  have F3 := fun_mk (st := sPlus) l3 c3 k3
  have F4 := fun_mk (st := sMinus) l4 c4 k4
  have F5 := fun_mk (st := sTimes) l5 c5 k5
  have F6 := fun_mk (st := sAdd) l6 c6 k6
  have F7 := fun_mk (st := sSubtract) l7 c7 k7
  have F8 := fun_mk (st := sScale) l8 c8 k8
  have F9 := fun_mk (st := sInner) l9 c9 k9
  have F10 := fun_mk (st := sPrimitive) l10 c10 k10
  have F11 := fun_mk (st := sSpread) l11 c11 k11
  have F12 := fun_mk (st := sSideOf) l12 c12 k12
  have F13 := fun_mk (st := sHalfTool) l13 c13 k13
  have F14 := fun_mk (st := sCopiedOrigin) l14 c14 k14
  have F15 := fun_mk (st := sShiftedTool) l15 c15 k15
  have F16 := fun_mk (st := sMirroredSide) l16 c16 k16
  have F17 := fun_mk (st := sMirroredTool) l17 c17 k17
  have F18 := fun_mk (st := sLLawNumber) l18 c18 k18
  have F19 := fun_mk (st := sLLawFraction) l19 c19 k19
  have F20 := fun_mk (st := sLLawSum) l20 c20 k20
  have F21 := fun_mk (st := sLLawTimes) l21 c21 k21
  have F22 := fun_mk (st := sLLawDot) l22 c22 k22
  have F23 := fun_mk (st := sLLawAt) l23 c23 k23
  have F24 := fun_mk (st := sLLawSide) l24 c24 k24
  have F25 := fun_mk (st := sLLawTest) l25 c25 k25
  have F26 := fun_mk (st := sLLawIn) l26 c26 k26
  have F27 := fun_mk (st := sLLawShared) l27 c27 k27
  have F28 := fun_mk (st := sLLawCanonical) l28 c28 k28
  have F29 := fun_mk (st := sLLawDirection) l29 c29 k29
  have F30 := fun_mk (st := sLLawValue) l30 c30 k30
  have F31 := fun_mk (st := sLLawMirrored) l31 c31 k31
  have F32 := fun_mk (st := sLaw) l32 c32 k32
  have b1 := F1.binds (ps := ["a", "b"]) fun _ _ _ _ _ _ us hl => match us, hl with | [_, _], _ => rfl
  obtain ⟨e2, ve2, b2⟩ := F2.binds1 (ps := ["number", "divisor"]) 2 1 (by decide) rfl (fun T kV doc pm an cdv ct us its hu hi => match us, its, hu, hi with | [_, _], [_], _, _ => ⟨_, rfl, by kernel_rfl⟩)
  cases ve2
  obtain ⟨d2, vd2, bd2⟩ := F2.binds1 (ps := ["number", "divisor"]) 1 0 (by decide) rfl (fun T kV doc pm an cdv ct us its hu hi => match us, its, hu, hi with | [_], [_], _, _ => ⟨_, rfl, by kernel_rfl⟩)
  have b3 := F3.binds (ps := ["a", "b"]) fun _ _ _ _ _ _ us hl => match us, hl with | [_, _], _ => rfl
  have b4 := F4.binds (ps := ["a", "b"]) fun _ _ _ _ _ _ us hl => match us, hl with | [_, _], _ => rfl
  have b5 := F5.binds (ps := ["a", "b"]) fun _ _ _ _ _ _ us hl => match us, hl with | [_, _], _ => rfl
  have b6 := F6.binds (ps := ["a", "b"]) fun _ _ _ _ _ _ us hl => match us, hl with | [_, _], _ => rfl
  have b7 := F7.binds (ps := ["a", "b"]) fun _ _ _ _ _ _ us hl => match us, hl with | [_, _], _ => rfl
  have b8 := F8.binds (ps := ["factor", "a"]) fun _ _ _ _ _ _ us hl => match us, hl with | [_, _], _ => rfl
  have b9 := F9.binds (ps := ["a", "b"]) fun _ _ _ _ _ _ us hl => match us, hl with | [_, _], _ => rfl
  have b10 := F10.binds (ps := ["a"]) fun _ _ _ _ _ _ us hl => match us, hl with | [_], _ => rfl
  have b11 := F11.binds (ps := ["normal", "point"]) fun _ _ _ _ _ _ us hl => match us, hl with | [_, _], _ => rfl
  have b12 := F12.binds (ps := ["origin", "direction", "offset", "above"]) fun _ _ _ _ _ _ us hl => match us, hl with | [_, _, _, _], _ => rfl
  have b13 := F13.binds (ps := ["number", "feature", "offset"]) fun _ _ _ _ _ _ us hl => match us, hl with | [_, _, _], _ => rfl
  have b14 := F14.binds (ps := ["number", "k", "origin"]) fun _ _ _ _ _ _ us hl => match us, hl with | [_, _, _], _ => rfl
  have b15 := F15.binds (ps := ["number", "k", "tool", "shift"]) fun _ _ _ _ _ _ us hl => match us, hl with | [_, _, _, _], _ => rfl
  have b16 := F16.binds (ps := ["origin", "side", "direction", "at"]) fun _ _ _ _ _ _ us hl => match us, hl with | [_, _, _, _], _ => rfl
  have b17 := F17.binds (ps := ["number", "k", "tool", "direction", "at"]) fun _ _ _ _ _ _ us hl => match us, hl with | [_, _, _, _, _], _ => rfl
  have b18 := F18.binds (ps := ["script", "k"]) fun _ _ _ _ _ _ us hl => match us, hl with | [_, _], _ => rfl
  have b19 := F19.binds (ps := ["number", "divisor"]) fun _ _ _ _ _ _ us hl => match us, hl with | [_, _], _ => rfl
  have b20 := F20.binds (ps := ["a", "b"]) fun _ _ _ _ _ _ us hl => match us, hl with | [_, _], _ => rfl
  have b21 := F21.binds (ps := ["a", "b"]) fun _ _ _ _ _ _ us hl => match us, hl with | [_, _], _ => rfl
  have b22 := F22.binds (ps := ["normal", "point"]) fun _ _ _ _ _ _ us hl => match us, hl with | [_, _], _ => rfl
  have b23 := F23.binds (ps := ["found", "w"]) fun _ _ _ _ _ _ us hl => match us, hl with | [_, _], _ => rfl
  have b24 := F24.binds (ps := ["one", "point", "w"]) fun _ _ _ _ _ _ us hl => match us, hl with | [_, _, _], _ => rfl
  have b25 := F25.binds (ps := ["test", "told"]) fun _ _ _ _ _ _ us hl => match us, hl with | [_, _], _ => rfl
  have b26 := F26.binds (ps := ["tool", "point", "w"]) fun _ _ _ _ _ _ us hl => match us, hl with | [_, _, _], _ => rfl
  have b27 := F27.binds (ps := ["a", "b"]) fun _ _ _ _ _ _ us hl => match us, hl with | [_, _], _ => rfl
  have b28 := F28.binds (ps := ["tool"]) fun _ _ _ _ _ _ us hl => match us, hl with | [_], _ => rfl
  have b29 := F29.binds (ps := ["draw"]) fun _ _ _ _ _ _ us hl => match us, hl with | [_], _ => rfl
  have b30 := F30.binds (ps := ["draw"]) fun _ _ _ _ _ _ us hl => match us, hl with | [_], _ => rfl
  have b31 := F31.binds (ps := ["point", "direction", "at"]) fun _ _ _ _ _ _ us hl => match us, hl with | [_, _, _], _ => rfl
  refine ⟨PySem.W.fnOf "law" "law" (defArgs sLaw) (defBody sLaw) (defScope sLaw) .none kV32 dc32 pm32 an32 cd32 ct32, fun s v => .of_eq rfl, fun base _ _ => ?_⟩
  have G1 : FnOk l.prog w K mg base CX0 1 f1 _ ["a", "b"] (spCommon K) := okCommon F1 T EX 
  have G2 : FnOk l.prog w K mg base (L2.CX l.prog w) 1 f2 _ ["number", "divisor"] (spFraction K CNought) := okFraction F2 T EX 
  have G3 : FnOk l.prog w K mg base CX0 2 f3 _ ["a", "b"] (spPlus K) := okPlus F3 T EX G2 (PySem.W.mg_of X G a2) k2 b2 vd2 bd2
  have G4 : FnOk l.prog w K mg base CX0 2 f4 _ ["a", "b"] (spMinus K) := okMinus F4 T EX G2 (PySem.W.mg_of X G a2) k2 b2 vd2 bd2
  have G5 : FnOk l.prog w K mg base CX0 2 f5 _ ["a", "b"] (spTimes K) := okTimes F5 T EX G2 (PySem.W.mg_of X G a2) k2 b2 vd2 bd2
  have G6 : FnOk l.prog w K mg base CX0 3 f6 _ ["a", "b"] (spAdd K) := okAdd F6 T EX G3 (PySem.W.mg_of X G a3) k3 b3
  have G7 : FnOk l.prog w K mg base CX0 3 f7 _ ["a", "b"] (spSubtract K) := okSubtract F7 T EX G4 (PySem.W.mg_of X G a4) k4 b4
  have G8 : FnOk l.prog w K mg base CX0 3 f8 _ ["factor", "a"] (spScale K) := okScale F8 T EX G5 (PySem.W.mg_of X G a5) k5 b5
  have G9 : FnOk l.prog w K mg base CX0 1 f9 _ ["a", "b"] (spInner K) := okInner F9 T EX 
  have G10 : FnOk l.prog w K mg base CX0 2 f10 _ ["a"] (spPrimitive K) := okPrimitive F10 T EX G1 (PySem.W.mg_of X G a1) k1 b1
  have G11 : FnOk l.prog w K mg base CX0 4 f11 _ ["normal", "point"] (spSpread K) := okSpread F11 T EX G6 (PySem.W.mg_of X G a6) k6 b6 G8 (PySem.W.mg_of X G a8) k8 b8 G2 (PySem.W.mg_of X G a2) k2 b2 vd2 bd2
  have G12 : FnOk l.prog w K mg base CX0 4 f12 _ ["origin", "direction", "offset", "above"] (spSideOf K) := okSideOf F12 T EX G10 (PySem.W.mg_of X G a10) k10 b10 G8 (PySem.W.mg_of X G a8) k8 b8 G2 (PySem.W.mg_of X G a2) k2 b2 vd2 bd2
  have G13 : FnOk l.prog w K mg base CX0 5 f13 _ ["number", "feature", "offset"] (spHalfTool K) := okHalfTool F13 T EX G12 (PySem.W.mg_of X G a12) k12 b12
  have G14 : FnOk l.prog w K mg base CX0 1 f14 _ ["number", "k", "origin"] (spCopiedOrigin K) := okCopiedOrigin F14 T EX 
  have G15 : FnOk l.prog w K mg base CX0 5 f15 _ ["number", "k", "tool", "shift"] (spShiftedTool K) := okShiftedTool F15 T EX G6 (PySem.W.mg_of X G a6) k6 b6 G8 (PySem.W.mg_of X G a8) k8 b8 G2 (PySem.W.mg_of X G a2) k2 b2 vd2 bd2 G11 (PySem.W.mg_of X G a11) k11 b11 G14 (PySem.W.mg_of X G a14) k14 b14
  have G16 : FnOk l.prog w K mg base CX0 5 f16 _ ["origin", "side", "direction", "at"] (spMirroredSide K) := okMirroredSide F16 T EX G9 (PySem.W.mg_of X G a9) k9 b9 G7 (PySem.W.mg_of X G a7) k7 b7 G12 (PySem.W.mg_of X G a12) k12 b12 G8 (PySem.W.mg_of X G a8) k8 b8 G2 (PySem.W.mg_of X G a2) k2 b2 vd2 bd2
  have G17 : FnOk l.prog w K mg base CX0 6 f17 _ ["number", "k", "tool", "direction", "at"] (spMirroredTool K) := okMirroredTool F17 T EX G16 (PySem.W.mg_of X G a16) k16 b16 G14 (PySem.W.mg_of X G a14) k14 b14
  have G18 : FnOk l.prog w K mg base CX0 1 f18 _ ["script", "k"] (spLLawNumber K) := okLLawNumber F18 T EX 
  have G19 : FnOk l.prog w K mg base CX0 1 f19 _ ["number", "divisor"] (spLLawFraction K) := okLLawFraction F19 T EX 
  have G20 : FnOk l.prog w K mg base CX0 2 f20 _ ["a", "b"] (spLLawSum K) := okLLawSum F20 T EX G19 (PySem.W.mg_of X G a19) k19 b19
  have G21 : FnOk l.prog w K mg base CX0 2 f21 _ ["a", "b"] (spLLawTimes K) := okLLawTimes F21 T EX G19 (PySem.W.mg_of X G a19) k19 b19
  have G22 : FnOk l.prog w K mg base CX0 3 f22 _ ["normal", "point"] (spLLawDot K) := okLLawDot F22 T EX G20 (PySem.W.mg_of X G a20) k20 b20 G21 (PySem.W.mg_of X G a21) k21 b21
  have G23 : FnOk l.prog w K mg base CX0 3 f23 _ ["found", "w"] (spLLawAt K) := okLLawAt F23 T EX G20 (PySem.W.mg_of X G a20) k20 b20 G21 (PySem.W.mg_of X G a21) k21 b21
  have G24 : FnOk l.prog w K mg base CX0 4 f24 _ ["one", "point", "w"] (spLLawSide K) := okLLawSide F24 T EX G20 (PySem.W.mg_of X G a20) k20 b20 G22 (PySem.W.mg_of X G a22) k22 b22 G21 (PySem.W.mg_of X G a21) k21 b21 G23 (PySem.W.mg_of X G a23) k23 b23
  have G25 : FnOk l.prog w K mg base CX0 1 f25 _ ["test", "told"] (spLLawTest K) := okLLawTest F25 T EX 
  have G26 : FnOk l.prog w K mg base CX0 5 f26 _ ["tool", "point", "w"] (spLLawIn K) := okLLawIn F26 T EX G25 (PySem.W.mg_of X G a25) k25 b25 G24 (PySem.W.mg_of X G a24) k24 b24
  have G27 : FnOk l.prog w K mg base CX0 1 f27 _ ["a", "b"] (spLLawShared K) := okLLawShared F27 T EX 
  have G28 : FnOk l.prog w K mg base CX0 2 f28 _ ["tool"] (spLLawCanonical K) := okLLawCanonical F28 T EX G27 (PySem.W.mg_of X G a27) k27 b27
  have G29 : FnOk l.prog w K mg base CX0 1 f29 _ ["draw"] (spLLawDirection K) := okLLawDirection F29 T EX 
  have G30 : FnOk l.prog w K mg base CX0 2 f30 _ ["draw"] (spLLawValue K) := okLLawValue F30 T EX G19 (PySem.W.mg_of X G a19) k19 b19
  have G31 : FnOk l.prog w K mg base CX0 4 f31 _ ["point", "direction", "at"] (spLLawMirrored K) := okLLawMirrored F31 T EX G20 (PySem.W.mg_of X G a20) k20 b20 G21 (PySem.W.mg_of X G a21) k21 b21 G22 (PySem.W.mg_of X G a22) k22 b22
  exact okLaw F32 T EX G18 (PySem.W.mg_of X G a18) k18 b18 G29 (PySem.W.mg_of X G a29) k29 b29 G30 (PySem.W.mg_of X G a30) k30 b30 G13 (PySem.W.mg_of X G a13) k13 b13 G15 (PySem.W.mg_of X G a15) k15 b15 G17 (PySem.W.mg_of X G a17) k17 b17 G19 (PySem.W.mg_of X G a19) k19 b19 G20 (PySem.W.mg_of X G a20) k20 b20 G28 (PySem.W.mg_of X G a28) k28 b28 G22 (PySem.W.mg_of X G a22) k22 b22 G21 (PySem.W.mg_of X G a21) k21 b21 G26 (PySem.W.mg_of X G a26) k26 b26 G23 (PySem.W.mg_of X G a23) k23 b23 G31 (PySem.W.mg_of X G a31) k31 b31 G11 (PySem.W.mg_of X G a11) k11 b11
end Tp
open PySem PySem.W PyProof.Rows
set_option maxHeartbeats 0 in
theorem PySem.Challenge.cw_truepart_k33_halves_and_copies_in_space_holds : PySem.Challenge.rw_truepart_k33_halves_and_copies_in_space.Holds := by
  w_on; o_law; k_head; (case hw => w_witness2)
  k_fill
  refine L2.walk_of (l := PySem.Challenge.rw_truepart_k33_halves_and_copies_in_space) (n := 63) (k := 7) (x := "script") (CX := fun _ => L2.CX0) (sp := fun w => Tp.spLaw _) rfl (by decide) rfl ⟨rfl, by decide, by decide⟩ (fun w h Y => PySem.W.kIn_of Y) ?F (fun _ _ a ns hl _ hS => ⟨a, ns, rfl, hS, hl, fun _ => rfl⟩) (fun _ _ _ _ _ h => h)
  case F =>
    intro w mg fa h KX G hmg
    refine' Tp.all_mk KX G hmg ?a1 ?l1 ?c1 ?k1 ?a2 ?l2 ?lT2 ?c2 ?k2 ?a3 ?l3 ?c3 ?k3 ?a4 ?l4 ?c4 ?k4 ?a5 ?l5 ?c5 ?k5 ?a6 ?l6 ?c6 ?k6 ?a7 ?l7 ?c7 ?k7 ?a8 ?l8 ?c8 ?k8 ?a9 ?l9 ?c9 ?k9 ?a10 ?l10 ?c10 ?k10 ?a11 ?l11 ?c11 ?k11 ?a12 ?l12 ?c12 ?k12 ?a13 ?l13 ?c13 ?k13 ?a14 ?l14 ?c14 ?k14 ?a15 ?l15 ?c15 ?k15 ?a16 ?l16 ?c16 ?k16 ?a17 ?l17 ?c17 ?k17 ?a18 ?l18 ?c18 ?k18 ?a19 ?l19 ?c19 ?k19 ?a20 ?l20 ?c20 ?k20 ?a21 ?l21 ?c21 ?k21 ?a22 ?l22 ?c22 ?k22 ?a23 ?l23 ?c23 ?k23 ?a24 ?l24 ?c24 ?k24 ?a25 ?l25 ?c25 ?k25 ?a26 ?l26 ?c26 ?k26 ?a27 ?l27 ?c27 ?k27 ?a28 ?l28 ?c28 ?k28 ?a29 ?l29 ?c29 ?k29 ?a30 ?l30 ?c30 ?k30 ?a31 ?l31 ?c31 ?k31 ?a32 ?l32 ?c32 ?k32 ?z1 ?z2 ?z3 ?z4 ?z5 ?z6 ?z7 ?z8 ?z9 ?y0 ?y1 ?y2 ?y3 ?y4 ?y5 ?y6 ?y7 ?y8 ?y9 ?y10 ?y11 ?y12 ?y13 ?y14 ?y15 ?y16 ?y17
    (case a1 => k_is)
    (case l1 => k_is)
    (case c1 => k_is)
    (case k1 => k_is)
    (case a2 => k_is)
    (case l2 => k_is)
    (case lT2 => k_is)
    (case c2 => k_is)
    (case k2 => k_is)
    (case a3 => k_is)
    (case l3 => k_is)
    (case c3 => k_is)
    (case k3 => k_is)
    (case a4 => k_is)
    (case l4 => k_is)
    (case c4 => k_is)
    (case k4 => k_is)
    (case a5 => k_is)
    (case l5 => k_is)
    (case c5 => k_is)
    (case k5 => k_is)
    (case a6 => k_is)
    (case l6 => k_is)
    (case c6 => k_is)
    (case k6 => k_is)
    (case a7 => k_is)
    (case l7 => k_is)
    (case c7 => k_is)
    (case k7 => k_is)
    (case a8 => k_is)
    (case l8 => k_is)
    (case c8 => k_is)
    (case k8 => k_is)
    (case a9 => k_is)
    (case l9 => k_is)
    (case c9 => k_is)
    (case k9 => k_is)
    (case a10 => k_is)
    (case l10 => k_is)
    (case c10 => k_is)
    (case k10 => k_is)
    (case a11 => k_is)
    (case l11 => k_is)
    (case c11 => k_is)
    (case k11 => k_is)
    (case a12 => k_is)
    (case l12 => k_is)
    (case c12 => k_is)
    (case k12 => k_is)
    (case a13 => k_is)
    (case l13 => k_is)
    (case c13 => k_is)
    (case k13 => k_is)
    (case a14 => k_is)
    (case l14 => k_is)
    (case c14 => k_is)
    (case k14 => k_is)
    (case a15 => k_is)
    (case l15 => k_is)
    (case c15 => k_is)
    (case k15 => k_is)
    (case a16 => k_is)
    (case l16 => k_is)
    (case c16 => k_is)
    (case k16 => k_is)
    (case a17 => k_is)
    (case l17 => k_is)
    (case c17 => k_is)
    (case k17 => k_is)
    (case a18 => k_is)
    (case l18 => k_is)
    (case c18 => k_is)
    (case k18 => k_is)
    (case a19 => k_is)
    (case l19 => k_is)
    (case c19 => k_is)
    (case k19 => k_is)
    (case a20 => k_is)
    (case l20 => k_is)
    (case c20 => k_is)
    (case k20 => k_is)
    (case a21 => k_is)
    (case l21 => k_is)
    (case c21 => k_is)
    (case k21 => k_is)
    (case a22 => k_is)
    (case l22 => k_is)
    (case c22 => k_is)
    (case k22 => k_is)
    (case a23 => k_is)
    (case l23 => k_is)
    (case c23 => k_is)
    (case k23 => k_is)
    (case a24 => k_is)
    (case l24 => k_is)
    (case c24 => k_is)
    (case k24 => k_is)
    (case a25 => k_is)
    (case l25 => k_is)
    (case c25 => k_is)
    (case k25 => k_is)
    (case a26 => k_is)
    (case l26 => k_is)
    (case c26 => k_is)
    (case k26 => k_is)
    (case a27 => k_is)
    (case l27 => k_is)
    (case c27 => k_is)
    (case k27 => k_is)
    (case a28 => k_is)
    (case l28 => k_is)
    (case c28 => k_is)
    (case k28 => k_is)
    (case a29 => k_is)
    (case l29 => k_is)
    (case c29 => k_is)
    (case k29 => k_is)
    (case a30 => k_is)
    (case l30 => k_is)
    (case c30 => k_is)
    (case k30 => k_is)
    (case a31 => k_is)
    (case l31 => k_is)
    (case c31 => k_is)
    (case k31 => k_is)
    (case a32 => k_is)
    (case l32 => k_is)
    (case c32 => k_is)
    (case k32 => k_is)
    (case z1 => k_is)
    (case z2 => k_is)
    (case z3 => k_is)
    (case z4 => k_is)
    (case z5 => k_is)
    (case z6 => k_is)
    (case z7 => k_is)
    (case z8 => k_is)
    (case z9 => k_is)
    (case y0 => k_is)
    (case y1 => k_is)
    (case y2 => k_exc)
    (case y3 => k_is)
    (case y4 => k_is)
    (case y5 => k_is)
    (case y6 => k_is)
    (case y7 => k_is)
    (case y8 => k_is)
    (case y9 => k_is)
    (case y10 => first | k_is | rfl)
    (case y11 => k_is)
    (case y12 => k_is)
    (case y13 => k_is)
    (case y14 => k_is)
    (case y15 => k_is)
    (case y16 => k_is)
    (case y17 => k_is)
#print axioms PySem.Challenge.cw_truepart_k33_halves_and_copies_in_space_holds
