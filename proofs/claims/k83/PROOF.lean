import PyProof.Rows.All
import Wide.All
import OpenK.AllK
import Wide.FinOn
import HandS.ForMost
import HandS.Codes
import HandS.Gcd
import HandS.IsInst
import HandS.Wide
import HandS.ForExc
import HandS.ExcIs
import HandS.CallSlots
import HandS.Defaults
import HandS.TupMul
import HandS.Walk
import PyProof.StrOps2
import KE.GoesMore
import KE.KTurns
import PySem.Challenge.RW_truepart_k83_papers_judged
set_option Elab.async false
set_option linter.all false
set_option maxHeartbeats 8000000
set_option maxRecDepth 100000
namespace Tp
open PySem L2
def top (i : Nat) : Stmt := PySem.Challenge.pw_truepart_k83_papers_judged.main.body.getD i (.Pass ⟨0, 0, 0, 0⟩)
abbrev sFraction : Stmt := top 6
abbrev sPlus : Stmt := top 7
abbrev sTimes : Stmt := top 8
abbrev sNegative : Stmt := top 9
abbrev sSign : Stmt := top 10
abbrev sTotal : Stmt := top 11
abbrev sSignOf : Stmt := top 13
abbrev sReachRatio : Stmt := top 14
abbrev sSide : Stmt := top 16
abbrev sSides : Stmt := top 17
abbrev sTurnedPlane : Stmt := top 19
abbrev sIsRefuted : Stmt := top 20
abbrev sJudge : Stmt := top 21
abbrev sLLawCell : Stmt := top 24
abbrev sLLawRow : Stmt := top 25
abbrev sLLawFraction : Stmt := top 26
abbrev sLLawPlus : Stmt := top 27
abbrev sLLawTimes : Stmt := top 28
abbrev sLLawSign : Stmt := top 29
abbrev sLLawAlong : Stmt := top 31
abbrev sLLawSide : Stmt := top 32
abbrev sLLawShut : Stmt := top 33
abbrev sLLawShuts : Stmt := top 34
abbrev sLLawShows : Stmt := top 35
abbrev sLaw : Stmt := top 36
theorem scFraction : FnScope ["number", "divisor", "shared"] ["number", "divisor"] (defScope sFraction) := ⟨rfl, rfl, rfl, by decide +kernel, rfl, by decide +kernel, by decide +kernel⟩
theorem scPlus : FnScope ["a", "b"] ["a", "b"] (defScope sPlus) := ⟨rfl, rfl, rfl, by decide +kernel, rfl, by decide +kernel, by decide +kernel⟩
theorem scTimes : FnScope ["a", "b"] ["a", "b"] (defScope sTimes) := ⟨rfl, rfl, rfl, by decide +kernel, rfl, by decide +kernel, by decide +kernel⟩
theorem scNegative : FnScope ["a"] ["a"] (defScope sNegative) := ⟨rfl, rfl, rfl, by decide +kernel, rfl, by decide +kernel, by decide +kernel⟩
theorem scSign : FnScope ["a"] ["a"] (defScope sSign) := ⟨rfl, rfl, rfl, by decide +kernel, rfl, by decide +kernel, by decide +kernel⟩
theorem scTotal : FnScope ["row", "found", "part"] ["row"] (defScope sTotal) := ⟨rfl, rfl, rfl, by decide +kernel, rfl, by decide +kernel, by decide +kernel⟩
theorem scSignOf : FnScope ["number"] ["number"] (defScope sSignOf) := ⟨rfl, rfl, rfl, by decide +kernel, rfl, by decide +kernel, by decide +kernel⟩
theorem scReachRatio : FnScope ["normal", "point", "x", "under_x", "y", "under_y", "z", "under_z", "number"] ["normal", "point"] (defScope sReachRatio) := ⟨rfl, rfl, rfl, by decide +kernel, rfl, by decide +kernel, by decide +kernel⟩
theorem scSide : FnScope ["wall", "point", "normal", "least", "under", "number", "divisor"] ["wall", "point"] (defScope sSide) := ⟨rfl, rfl, rfl, by decide +kernel, rfl, by decide +kernel, by decide +kernel⟩
theorem scSides : FnScope ["walls", "point", "wall"] ["walls", "point"] (defScope sSides) := ⟨rfl, rfl, rfl, by decide +kernel, rfl, by decide +kernel, by decide +kernel⟩
theorem scTurnedPlane : FnScope ["wall", "to", "normal", "offset", "part"] ["wall", "to"] (defScope sTurnedPlane) := ⟨rfl, rfl, rfl, by decide +kernel, rfl, by decide +kernel, by decide +kernel⟩
theorem scIsRefuted : FnScope ["walls", "signs", "multipliers", "rows", "axis", "whole", "many", "to", "wall", "normal", "_", "offset"] ["walls", "signs", "multipliers"] (defScope sIsRefuted) := ⟨rfl, rfl, rfl, by decide +kernel, rfl, by decide +kernel, by decide +kernel⟩
theorem scJudge : FnScope ["walls", "signs", "paper", "kind", "found"] ["walls", "signs", "paper"] (defScope sJudge) := ⟨rfl, rfl, rfl, by decide +kernel, rfl, by decide +kernel, by decide +kernel⟩
theorem scLLawCell : FnScope ["_law_script", "_law_k"] ["_law_script", "_law_k"] (defScope sLLawCell) := ⟨rfl, rfl, rfl, by decide +kernel, rfl, by decide +kernel, by decide +kernel⟩
theorem scLLawRow : FnScope ["_law_cell_here", "_law_size", "_law_base", "_law_row_here", "_law_number", "_law_k", "_law_mixed"] ["_law_cell_here", "_law_size", "_law_base"] (defScope sLLawRow) := ⟨rfl, rfl, rfl, by decide +kernel, rfl, by decide +kernel, by decide +kernel⟩
theorem scLLawFraction : FnScope ["_law_number", "_law_divisor", "_law_a", "_law_b", "_law_k"] ["_law_number", "_law_divisor"] (defScope sLLawFraction) := ⟨rfl, rfl, rfl, by decide +kernel, rfl, by decide +kernel, by decide +kernel⟩
theorem scLLawPlus : FnScope ["_law_a", "_law_b"] ["_law_a", "_law_b"] (defScope sLLawPlus) := ⟨rfl, rfl, rfl, by decide +kernel, rfl, by decide +kernel, by decide +kernel⟩
theorem scLLawTimes : FnScope ["_law_a", "_law_b"] ["_law_a", "_law_b"] (defScope sLLawTimes) := ⟨rfl, rfl, rfl, by decide +kernel, rfl, by decide +kernel, by decide +kernel⟩
theorem scLLawSign : FnScope ["_law_number"] ["_law_number"] (defScope sLLawSign) := ⟨rfl, rfl, rfl, by decide +kernel, rfl, by decide +kernel, by decide +kernel⟩
theorem scLLawAlong : FnScope ["_law_normal", "_law_point", "_law_found", "_law_k"] ["_law_normal", "_law_point"] (defScope sLLawAlong) := ⟨rfl, rfl, rfl, by decide +kernel, rfl, by decide +kernel, by decide +kernel⟩
theorem scLLawSide : FnScope ["_law_shut_here", "_law_point", "_law_found"] ["_law_shut_here", "_law_point"] (defScope sLLawSide) := ⟨rfl, rfl, rfl, by decide +kernel, rfl, by decide +kernel, by decide +kernel⟩
theorem scLLawShut : FnScope ["_law_cell_here", "_law_row_here", "_law_direction"] ["_law_cell_here"] (defScope sLLawShut) := ⟨rfl, rfl, rfl, by decide +kernel, rfl, by decide +kernel, by decide +kernel⟩
theorem scLLawShuts : FnScope ["_law_script", "_law_first", "_law_count", "_law_shuts_here", "_law_k"] ["_law_script", "_law_first", "_law_count"] (defScope sLLawShuts) := ⟨rfl, rfl, rfl, by decide +kernel, rfl, by decide +kernel, by decide +kernel⟩
theorem scLLawShows : FnScope ["_law_shuts_here", "_law_signs", "_law_multipliers", "_law_total", "_law_strict", "_law_k", "_law_factor", "_law_row_here", "_law_at"] ["_law_shuts_here", "_law_signs", "_law_multipliers"] (defScope sLLawShows) := ⟨rfl, rfl, rfl, by decide +kernel, rfl, by decide +kernel, by decide +kernel⟩
theorem scLaw : FnScope ["_law_script", "_law_shape", "_law_shuts_here", "_law_draw", "_law_point", "_law_signs", "_law_due", "_law_numbers", "_law_multipliers", "_law_pair", "_law_part", "_law_shut_here", "_law_k", "_law_number"] ["_law_script"] (defScope sLaw) := ⟨rfl, rfl, rfl, by decide +kernel, rfl, by decide +kernel, by decide +kernel⟩
structure Txt (mg : Str → Option Value) : Prop where
  abs : mg "abs" = none
  any : mg "any" = none
  int : mg "int" = none
  len : mg "len" = none
  list : mg "list" = none
  range : mg "range" = none
  tuple : mg "tuple" = none
  zip : mg "zip" = none
  gcd : mg "gcd" = some (.builtin "math.gcd")
structure Cons (K : PySem.W.Frag) (mg : Str → Option Value) (aZERO : Addr) : Prop where
  gZERO : mg "ZERO" = some (.ref aZERO)
  tZERO : ∀ H, SqT K H aZERO ([0, 1].map V.int)
section
variable {K : PySem.W.Frag} {C D : Addr} {c : Value} {r : Bool}
theorem exm_two (b : PySem.W.subIn K (.ref D) (.type "BaseException") = some true) (i : PySem.W.isClsIn K D = true) (t : PySem.W.typeIn K (.ref D) = some (.type "type")) (s : PySem.W.subIn K c (.ref D) = some r) : PySem.W.exmOne K c (.ref D) = some r := by
  have e1 : (PySem.W.subIn K (.ref D) (.type "BaseException") == some true) = true := by rw [b]; rfl
  have i' : (PySem.W.clsIn K D).isSome = true := i
  have e2 : ((PySem.W.clsIn K D).isSome && PySem.W.typeIn K (.ref D) == some (.type "type")) = true := by rw [i', t]; rfl
  unfold PySem.W.exmOne PySem.W.kitCls
  rw [if_pos e1]
  show (if _ then _ else _) = _
  rw [if_pos e2]
  exact s
theorem kit_self : PySem.W.kitOne K (.ref C) (.ref C) = some true := by
  unfold PySem.W.kitOne
  exact if_pos (beq_iff_eq.mpr rfl)
theorem kit_not (s0 : PySem.W.subIn K (.ref C) (.ref C) = some true) (i : PySem.W.isClsIn K D = true) (t : PySem.W.typeIn K (.ref D) = some (.type "type")) (s : PySem.W.subIn K (.ref C) (.ref D) = some false) : PySem.W.kitOne K (.ref C) (.ref D) = some false := by
  have i' : (PySem.W.clsIn K D).isSome = true := i
  have e2 : ((PySem.W.clsIn K D).isSome && PySem.W.typeIn K (.ref D) == some (.type "type")) = true := by rw [i', t]; rfl
  unfold PySem.W.kitOne PySem.W.kitCls
  rw [if_neg (fun z => ?_)]
  · show (if _ then _ else _) = _
    rw [if_pos e2]
    exact s
  · have e := Value.ref.inj (beq_iff_eq.mp z)
    subst e
    rw [s0] at s
    cases s
theorem kit_kind {T : String} (h : PySem.W.kitMeta T = true) (s : PySem.W.subIn K (.ref C) (.type T) = some r) : PySem.W.kitOne K (.ref C) (.type T) = some r := by
  unfold PySem.W.kitOne PySem.W.kitCls
  rw [if_neg (fun z => by have e := beq_iff_eq.mp z; cases e)]
  show (if _ then _ else _) = _
  rw [if_pos h]
  exact s
end

structure Exns (K : PySem.W.Frag) (mg : Str → Option Value) (CPartError CNought : Addr) : Prop where
  gPartError : mg "PartError" = some (.ref CPartError)
  gNought : mg "Nought" = some (.ref CNought)
  xNought : PySem.W.excIn K CNought [.type "ValueError", .type "Exception", .type "BaseException", .type "object"] "ValueError.__new__" = true
  kNought : PySem.W.keepIn K (.ref CNought) = true
  bNought : PySem.W.subIn K (.ref CNought) (.type "BaseException") = some true
  tNought : PySem.W.typeIn K (.ref CNought) = some (.type "type")
  cb : PySem.W.subIn K (.ref CPartError) (.type "BaseException") = some true
  ci : PySem.W.isClsIn K CPartError = true
  ct : PySem.W.typeIn K (.ref CPartError) = some (.type "type")
  cs : PySem.W.subIn K (.ref CNought) (.ref CPartError) = some true
  ss : PySem.W.subIn K (.ref CNought) (.ref CNought) = some true
  i1 : PySem.W.findIn K (.ref CNought) "__getattribute__" = some (some (.builtin "BaseException.__getattribute__"))
  i2 : PySem.W.findIn K (.ref CNought) "__getattr__" = some none
  i3 : PySem.W.hasDictIn K CNought = true
  i4 : PySem.W.findIn K (.ref CNought) "__class__" = some (some (.builtin "object.__class__"))
  i5 : PySem.W.specialIn K (.builtin "object.__class__") "__get__" = some (some (.builtin "getset_descriptor.__get__"))
  i6 : PySem.W.takesIn K (.builtin "object.__class__") = some true
  i7 : PySem.W.mroIn K CNought (.type "object") = some true
theorem Exns.iNought {K : PySem.W.Frag} {mg : Str → Option Value} {CPartError CNought : Addr} (EX : Exns K mg CPartError CNought) : ExcC K CNought := ⟨EX.i1, EX.i2, EX.bNought, EX.i3, EX.i4, EX.i5, EX.i6, EX.i7⟩
theorem Exns.eNought {K : PySem.W.Frag} {mg : Str → Option Value} {CPartError CNought : Addr} (EX : Exns K mg CPartError CNought) : PySem.W.exmOne K (.ref CNought) (.ref CPartError) = some true := exm_two EX.cb EX.ci EX.ct EX.cs
theorem Exns.nNought {K : PySem.W.Frag} {mg : Str → Option Value} {CPartError CNought : Addr} (EX : Exns K mg CPartError CNought) : PySem.W.kitOne K (.ref CNought) (.ref CNought) = some true := kit_self
local macro_rules | `(tactic| walk_at "rd") => `(tactic| repeat (first | refine ⟨_, rfl, ?_⟩ | refine ⟨rfl, ?_⟩ | refine ⟨_, _, rfl, rfl, ?_⟩ | refine Or.inl ⟨_, rfl, ?_⟩ | refine ⟨(by show (0 : Int) < _; decide), ?_⟩ | refine ⟨⟨by decide, by decide⟩, ?_⟩ | refine ⟨Or.inr ⟨by decide, by decide⟩, ?_⟩ | refine ⟨Or.inl ⟨by decide, by decide⟩, ?_⟩ | refine ⟨⟨by decide, by decide, by decide⟩, ?_⟩))
abbrev zs (l : List Int) : List V := l.map V.int
theorem same_upd {H : Hp} {p : Addr} {o : HO} (h : H p = none) : Same H (upd H p o) := fun b x e => by
  rw [upd_ne (ne_of_none e h)]
  exact e
theorem same_tup {K : PySem.W.Frag} {H H' : Hp} {a : Addr} {xs : List V} (e : Same H H') (h : SqT K H a xs) : SqT K H' a xs := by
  rcases h with (h | ⟨o, h⟩) | h
  · exact .inl (.inl (e _ _ h))
  · exact .inl (.inr ⟨o, e _ _ h⟩)
  · exact .inr h
theorem zs_get {l : List Int} {i : Nat} {v : V} (h : (zs l)[i]? = some v) : ∃ z, v = .int z ∧ l[i]? = some z := by
  rw [show zs l = l.map V.int from rfl, List.getElem?_map] at h
  cases e : l[i]? with
  | none =>
    rw [e] at h
    cases h
  | some z =>
    rw [e] at h
    exact ⟨z, (Option.some.inj h).symm, rfl⟩
theorem zs_snoc {l : List Int} {i : Nat} {z : Int} (f : Int → Int) (h : l[i]? = some z) : zs ((l.map f).take i) ++ [V.int (f z)] = zs ((l.map f).take (i + 1)) := by
  show ((l.map f).take i).map V.int ++ [V.int (f z)] = ((l.map f).take (i + 1)).map V.int
  rw [List.take_add_one, List.getElem?_map, h, List.map_append]
  rfl
theorem zs_len {l : List Int} (n : Nat) (h : l.length ≤ 1000) : (zs (l.take n)).length < sizeLine := by
  show ((l.take n).map V.int).length < sizeLine
  rw [List.length_map, List.length_take]
  exact small1000 (by omega)
theorem ne_of_bang {n m : Int} (h : (!decide (V.int n = V.int m)) = true) : n ≠ m := fun e => by
  rw [e, decide_eq_true rfl] at h
  cases h
theorem eq_of_nobang {n m : Int} (h : ¬ (!decide (V.int n = V.int m)) = true) : n = m := by
  by_cases e : n = m
  · exact e
  · exact absurd (by rw [decide_eq_false (fun z => e (V.int.inj z))]; rfl) h
theorem eq_of_dec {n m : Int} (h : decide (V.int n = V.int m) = true) : n = m := V.int.inj (of_decide_eq_true h)
theorem ne_of_nodec {n m : Int} (h : ¬ decide (V.int n = V.int m) = true) : n ≠ m := fun e => h (decide_eq_true (by rw [e]))

/-! Euclid by turns. -/
/-- one turn of the walk (a, b) -> (b, a % b), of naturals -/
theorem gcd_turn (a b : Nat) : Nat.gcd b (a % b) = Nat.gcd a b := by
  rw [Nat.gcd_comm b, ← Nat.gcd_rec, Nat.gcd_comm]
theorem prod_turn {a b : Nat} (h : b ≤ a) (hb : 0 < b) : 2 * (b * (a % b)) ≤ a * b := by
  have h1 : a % b < b := Nat.mod_lt _ hb
  have h2 : a = b * (a / b) + a % b := (Nat.div_add_mod a b).symm
  have h3 : 1 ≤ a / b := (Nat.one_le_div_iff hb).mpr h
  have h4 : b * 1 ≤ b * (a / b) := Nat.mul_le_mul_left b h3
  have h5 : 2 * (a % b) ≤ a := by omega
  calc 2 * (b * (a % b)) = b * (2 * (a % b)) := by rw [Nat.mul_left_comm]
    _ ≤ b * a := Nat.mul_le_mul_left b h5
    _ = a * b := Nat.mul_comm _ _
/-- what holds behind i turns from (a0, b0) -/
structure Eu (a0 b0 i a b : Nat) : Prop where
  g : Nat.gcd a b = Nat.gcd a0 b0
  p : a * b * 2 ^ i ≤ 2 * (a0 * b0)
  o : i = 0 ∨ b ≤ a
  z : i = 0 → a = a0 ∧ b = b0
theorem Eu.start (a b : Nat) : Eu a b 0 a b := ⟨rfl, by rw [Nat.pow_zero]; omega, .inl rfl, fun _ => ⟨rfl, rfl⟩⟩
theorem Eu.turn {a0 b0 i a b : Nat} (e : Eu a0 b0 i a b) (hb : 0 < b) : Eu a0 b0 (i + 1) b (a % b) := by
  refine ⟨(gcd_turn a b).trans e.g, ?_, .inr (Nat.le_of_lt (Nat.mod_lt _ hb)), fun z => by omega⟩
  rcases e.o with hi | hle
  · obtain ⟨rfl, rfl⟩ := e.z hi
    subst hi
    have h1 : b * (a % b) ≤ b * a := Nat.mul_le_mul_left b (Nat.mod_le a b)
    have h2 : b * a = a * b := Nat.mul_comm _ _
    rw [Nat.zero_add, Nat.pow_one]
    omega
  · have h1 := prod_turn hle hb
    have h2 := e.p
    have h3 : b * (a % b) * 2 ^ (i + 1) = 2 * (b * (a % b)) * 2 ^ i := by
      rw [Nat.pow_succ]
      rw [Nat.mul_comm (2 ^ i) 2, ← Nat.mul_assoc, Nat.mul_comm (b * (a % b)) 2]
    rw [h3]
    exact Nat.le_trans (Nat.mul_le_mul_right _ h1) h2
/-- too many turns: nothing is left -/
theorem Eu.stop {a0 b0 i a b : Nat} (e : Eu a0 b0 i a b) (hi : i ≠ 0) (h : 2 * (a0 * b0) < 2 ^ i) : b = 0 := by
  rcases Nat.eq_zero_or_pos b with h0 | h0
  · exact h0
  · have hle : b ≤ a := by
      rcases e.o with h1 | h1
      · exact absurd h1 hi
      · exact h1
    have h1 : 1 ≤ a * b := Nat.mul_pos (by omega) h0
    have h2 : 1 * 2 ^ i ≤ a * b * 2 ^ i := Nat.mul_le_mul_right _ h1
    have h3 := e.p
    omega
theorem Eu.end {a0 b0 i a : Nat} (e : Eu a0 b0 i a 0) : a = Nat.gcd a0 b0 := by
  rw [← e.g, Nat.gcd_zero_right]
/-- the greatest divisor of a row, as it is reckoned from the left -/
def gl (l : List Int) : Nat := l.foldl (fun g v => Nat.gcd v.natAbs g) 0
theorem gl_snoc (l : List Int) (v : Int) : gl (l ++ [v]) = Nat.gcd v.natAbs (gl l) := by
  unfold gl
  rw [List.foldl_append]
  rfl
theorem gl_lt {l : List Int} {v : Int} (h : gl l < 2 ^ 100) (hv : v.natAbs < 2 ^ 100) : gl (l ++ [v]) < 2 ^ 100 := by
  rw [gl_snoc]
  rcases Nat.eq_zero_or_pos v.natAbs with e | e
  · rw [e, Nat.gcd_zero_left]
    exact h
  · exact Nat.lt_of_le_of_lt (Nat.le_of_dvd e (Nat.gcd_dvd_left _ _)) hv
theorem take_snoc {l : List Int} {i : Nat} {z : Int} (h : l[i]? = some z) : l.take (i + 1) = l.take i ++ [z] := by
  rw [List.take_add_one, h]
  rfl
theorem eu_far {a b n : Nat} (hn : 201 ≤ n) (ha : a < 2 ^ 100) (hb : b < 2 ^ 100) : 2 * (a * b) < 2 ^ n := by
  have h1 : a * b < 2 ^ 100 * 2 ^ 100 := Nat.mul_lt_mul'' ha hb
  rw [← Nat.pow_add] at h1
  have h2 : (2 : Nat) * 2 ^ (100 + 100) = 2 ^ 201 := by decide +kernel
  have h3 : (2 : Nat) ^ 201 ≤ 2 ^ n := Nat.pow_le_pow_right (by decide) hn
  omega
theorem fmod_nat (a b : Nat) : (a : Int).fmod (b : Int) = ((a % b : Nat) : Int) := by
  rw [Int.fmod_eq_emod_of_nonneg _ (Int.natCast_nonneg _)]
  exact (Int.natCast_emod a b).symm

/-- // by any divisor other than 0, below 2 ^ 9000 in size -/
def CDivX (_ j : Int) : Prop := j ≠ 0 ∧ j.natAbs.log2 < 9000
theorem op_fdivX {X : Cx} : OpR X (binaryOp .FloorDiv) (rI CDivX fun i j => .int (i.fdiv j)) :=
  opI fun _ _ _ _ _ _ _ hc q =>
    PyProof.Rows.floordiv_int hc.1 q (.inl (PyProof.noPylong_of_log2 hc.2))
theorem wide_divx {i j : Int} {b : Nat} (h : j ≠ 0) (hb : j.natAbs < 2 ^ b) (h0 : 0 < b) (h9 : b ≤ 9000) : CDivX i j :=
  ⟨h, Nat.lt_of_lt_of_le (PySem.Flt.log2_lt_of h0 hb) h9⟩
/-- n noughts -/
def nou (n : Nat) : Str := ⟨(List.replicate n (Str.ofString "0").cps).foldl (· ++ ·) #[]⟩
theorem nou_len {n : Nat} (h : n ≤ 100) : (nou n).length ≤ sizeLine := by
  have : ∀ n : _root_.Fin 101, (nou n.val).length ≤ 100 := by decide +kernel
  have h1 := this ⟨n, by omega⟩
  rw [PySem.sizeLine_eq]
  exact Nat.le_trans h1 (by decide)
theorem op_nou {X : Cx} : OpR X (binaryOp .Mult) (fun x y H Q => ∃ n : Nat, x = .str "0" ∧ y = .int (n : Int) ∧ 1 ≤ n ∧ n ≤ 100 ∧ Q (.str (nou n)) H) := by
  intro pins s σ H x y v u Q I rx ry h
  obtain ⟨n, rfl, rfl, h1, h2, q⟩ := h
  obtain ⟨t, rfl⟩ := rx
  obtain ⟨t', rfl⟩ := ry
  have e1 : ¬ ((n : Int) < 1) := by omega
  have el : (Str.ofString "0").length = 1 := by decide +kernel
  refine PySem.P.mul_str ?_ ?_ ?_ ?_
  · rw [decide_eq_false (by omega), decide_eq_false (by omega)]
    rfl
  · intro _ _
    rw [el]
    have : (2 ^ 63 - 1 : Int) / n ≥ 1 := by
      have : (1 : Int) * n ≤ 2 ^ 63 - 1 := by omega
      exact (Int.le_ediv_iff_mul_le (by omega)).mpr this
    omega
  · intro _ _
    rw [el]
    unfold PySem.Builtin.Str.tooLong
    rw [PySem.sizeLine_eq]
    exact decide_eq_false (by omega)
  · rw [if_neg e1]
    by_cases hn : n = 1
    · subst hn
      have e2 : nou 1 = Str.ofString "0" := by decide +kernel
      rw [e2] at q
      exact ⟨.str (Str.ofString "0"), H, I, ⟨t, rfl⟩, q⟩
    · have : ((n : Int) == 1 || (Str.ofString "0").length == 0) = false := by
        rw [el]
        simp
        omega
      rw [this, if_neg Bool.false_ne_true]
      exact ⟨nou_len h2, .str (nou n), H, I.tok _, ⟨_, rfl⟩, q⟩
theorem suite_of {X : Cx} {a C : Addr} {oe : Obj} {pn : List (Addr × Obj)} {cls : Value} {d : Option Addr} {sts : List Stmt} {ts : TS} (hz : Zc cls d oe)
    (h : Zc (.ref C) none oe → PSs (X.suite a ((a, oe) :: pn)) sts ts) : PSs (X.suite a ((a, oe) :: pn)) sts (fun D σ H => (cls = .ref C ∧ d = none) ∧ ts D σ H) :=
  ⟨fun pins s σ H D I hq => by
    obtain ⟨⟨rfl, rfl⟩, q⟩ := hq
    exact (h hz).run pins s σ H D I q⟩
theorem ten_text : ∀ n : Nat, 1 ≤ n → n ≤ 20 → PySem.intText? (Str.ofString "1" ++ nou n) = some ((10 : Int) ^ n) ∧ (Str.ofString "1" ++ nou n).length ≤ 640 ∧ (nou n).length ≤ 100 := by
  intro n h1 h2
  have : ∀ n : _root_.Fin 21, 1 ≤ n.val → PySem.intText? (Str.ofString "1" ++ nou n.val) = some ((10 : Int) ^ n.val) ∧ (Str.ofString "1" ++ nou n.val).length ≤ 640 ∧ (nou n.val).length ≤ 100 := by decide +kernel
  exact this ⟨n, by omega⟩ h1

/-- the divisor by which fraction divides both -/
def sg (n d : Int) : Int := if d < 0 then -((Nat.gcd n.natAbs d.natAbs : Nat) : Int) else ((Nat.gcd n.natAbs d.natAbs : Nat) : Int)
theorem sg_abs (n d : Int) : (sg n d).natAbs = Nat.gcd n.natAbs d.natAbs := by
  unfold sg
  split
  · rw [Int.natAbs_neg, Int.natAbs_natCast]
  · rw [Int.natAbs_natCast]
theorem sg_ne {n d : Int} (h : d ≠ 0) : sg n d ≠ 0 := by
  intro e
  have h1 := sg_abs n d
  rw [e] at h1
  have h2 : Nat.gcd n.natAbs d.natAbs = 0 := h1.symm
  have h3 := Nat.gcd_eq_zero_iff.mp h2
  omega
theorem sg_dn (n d : Int) : sg n d ∣ n := by
  have h : ((Nat.gcd n.natAbs d.natAbs : Nat) : Int) ∣ n := Int.dvd_natAbs.mp (Int.natCast_dvd_natCast.mpr (Nat.gcd_dvd_left _ _))
  unfold sg
  split
  · exact Int.neg_dvd.mpr h
  · exact h
theorem sg_dd (n d : Int) : sg n d ∣ d := by
  have h : ((Nat.gcd n.natAbs d.natAbs : Nat) : Int) ∣ d := Int.dvd_natAbs.mp (Int.natCast_dvd_natCast.mpr (Nat.gcd_dvd_right _ _))
  unfold sg
  split
  · exact Int.neg_dvd.mpr h
  · exact h
theorem fdiv_back {d v : Int} (h : d ∣ v) : v.fdiv d * d = v := Int.fdiv_mul_cancel h
theorem part_le {f d v : Int} (e : f * d = v) (hd : d ≠ 0) : f.natAbs ≤ v.natAbs := by
  rw [← e, Int.natAbs_mul]
  exact Nat.le_mul_of_pos_right _ (by omega)
/-- what fraction yields -/
structure Fr (n d p q : Int) : Prop where
  hp : p * sg n d = n
  hq : q * sg n d = d
  q0 : 0 < q
  one : Nat.gcd p.natAbs q.natAbs = 1
theorem fr_of {n d : Int} (h : d ≠ 0) : Fr n d (n.fdiv (sg n d)) (d.fdiv (sg n d)) := by
  have e1 := fdiv_back (sg_dn n d)
  have e2 := fdiv_back (sg_dd n d)
  have hs := sg_ne (n := n) h
  refine ⟨e1, e2, ?_, ?_⟩
  · rcases Int.lt_or_le 0 (d.fdiv (sg n d)) with h1 | h1
    · exact h1
    · exfalso
      have hg : 0 < Nat.gcd n.natAbs d.natAbs := Nat.gcd_pos_of_pos_right _ (by omega)
      rcases Int.lt_or_le d 0 with h2 | h2
      · have h3 : sg n d < 0 := by
          unfold sg
          rw [if_pos h2]
          omega
        have h4 := Int.mul_nonneg_of_nonpos_of_nonpos h1 (Int.le_of_lt h3)
        omega
      · have h3 : 0 < sg n d := by
          unfold sg
          rw [if_neg (by omega)]
          omega
        have h4 := Int.mul_nonpos_of_nonpos_of_nonneg h1 (Int.le_of_lt h3)
        omega
  · have e3 : Nat.gcd n.natAbs d.natAbs = Nat.gcd (n.fdiv (sg n d)).natAbs (d.fdiv (sg n d)).natAbs * (sg n d).natAbs := by
      rw [← Nat.gcd_mul_right, ← Int.natAbs_mul, ← Int.natAbs_mul, e1, e2]
    rw [sg_abs] at e3
    have hg : 0 < Nat.gcd n.natAbs d.natAbs := Nat.gcd_pos_of_pos_right _ (by omega)
    exact (Nat.eq_of_mul_eq_mul_right hg (by rw [Nat.one_mul]; exact e3)).symm
theorem Fr.cross {n d p q : Int} (f : Fr n d p q) : p * d = n * q := by
  have h1 := f.hp
  have h2 := f.hq
  calc p * d = p * (q * sg n d) := by rw [h2]
    _ = (p * sg n d) * q := by rw [Int.mul_comm q, Int.mul_assoc]
    _ = n * q := by rw [h1]
theorem sg_one (n : Int) : sg n 1 = 1 := by
  unfold sg
  rw [if_neg (by decide)]
  show ((Nat.gcd n.natAbs 1 : Nat) : Int) = 1
  rw [Nat.gcd_one_right]
  rfl
theorem rd_one (n : Int) : [n.fdiv (sg n 1), (1 : Int).fdiv (sg n 1)] = [n, 1] := by rw [sg_one, Int.fdiv_one, Int.fdiv_one]

/-- in lowest terms -/
def rd2 (n d : Int) : List Int := [n.fdiv (sg n d), d.fdiv (sg n d)]
theorem low_uniq {p q r s : Int} (h1 : Nat.gcd p.natAbs q.natAbs = 1) (h2 : Nat.gcd r.natAbs s.natAbs = 1) (hq : 0 < q) (hs : 0 < s) (h : p * s = r * q) : p = r ∧ q = s := by
  have hn : p.natAbs * s.natAbs = r.natAbs * q.natAbs := by
    rw [← Int.natAbs_mul, ← Int.natAbs_mul, h]
  have d1 : q.natAbs ∣ s.natAbs := by
    have h3 : q.natAbs ∣ p.natAbs * s.natAbs := ⟨r.natAbs, by rw [hn, Nat.mul_comm]⟩
    exact Nat.Coprime.dvd_of_dvd_mul_left (show Nat.Coprime q.natAbs p.natAbs from (Nat.gcd_comm _ _).trans h1) h3
  have d2 : s.natAbs ∣ q.natAbs := by
    have h3 : s.natAbs ∣ r.natAbs * q.natAbs := ⟨p.natAbs, by rw [← hn, Nat.mul_comm]⟩
    exact Nat.Coprime.dvd_of_dvd_mul_left (show Nat.Coprime s.natAbs r.natAbs from (Nat.gcd_comm _ _).trans h2) h3
  have e : q.natAbs = s.natAbs := Nat.dvd_antisymm d1 d2
  have e2 : q = s := by omega
  subst e2
  exact ⟨Int.eq_of_mul_eq_mul_right (by omega) h, rfl⟩
theorem rd2_eq {n d n' d' : Int} (hd : 0 < d) (hd' : 0 < d') (h : n * d' = n' * d) : rd2 n d = rd2 n' d' := by
  have f := fr_of (n := n) (show d ≠ 0 by omega)
  have f' := fr_of (n := n') (show d' ≠ 0 by omega)
  have c1 := f.cross
  have c2 := f'.cross
  unfold rd2
  generalize n.fdiv (sg n d) = p at f c1
  generalize d.fdiv (sg n d) = q at f c1
  generalize n'.fdiv (sg n' d') = r at f' c2
  generalize d'.fdiv (sg n' d') = s at f' c2
  have e : p * s = r * q := by
    have h1 : (p * s) * (d * d') = (r * q) * (d * d') := by
      calc (p * s) * (d * d') = (p * d) * (s * d') := by
              rw [Int.mul_assoc, Int.mul_assoc, Int.mul_left_comm s d d']
        _ = (n * q) * (s * d') := by rw [c1]
        _ = (n * d') * (q * s) := by
              rw [Int.mul_assoc, Int.mul_assoc, Int.mul_comm s d', Int.mul_left_comm q d' s]
        _ = (n' * d) * (q * s) := by rw [h]
        _ = (n' * s) * (d * q) := by
              rw [Int.mul_assoc, Int.mul_assoc, Int.mul_comm q s, Int.mul_left_comm d s q]
        _ = (r * d') * (d * q) := by rw [c2]
        _ = (r * q) * (d * d') := by
              rw [Int.mul_assoc, Int.mul_assoc, Int.mul_comm d q, Int.mul_left_comm d' q d, Int.mul_comm d' d]
    exact Int.eq_of_mul_eq_mul_right (Int.mul_ne_zero (by omega) (by omega)) h1
  have u := low_uniq f.one f'.one f.q0 f'.q0 e
  rw [u.1, u.2]
theorem sg_zero_one : sg 0 1 = 1 := sg_one 0
theorem rd2_zero : rd2 0 1 = [0, 1] := by
  unfold rd2
  rw [sg_zero_one, Int.fdiv_one, Int.fdiv_one]
/-- the digits of a number are not too few -/
theorem lt_digits (n : Nat) : n < 2 ^ (4 * (toString (n : Int)).length + 4) := by
  have e : toString (n : Int) = Nat.repr n := rfl
  rw [e]
  have h : n < 10 ^ ((Nat.repr n).length + 1) := (Nat.length_repr_le_iff (Nat.succ_pos _)).mp (Nat.le_succ _)
  refine Nat.lt_of_lt_of_le h ?_
  have h2 : (10 : Nat) ^ ((Nat.repr n).length + 1) ≤ 16 ^ ((Nat.repr n).length + 1) := Nat.pow_le_pow_left (by decide) _
  have h3 : (16 : Nat) ^ ((Nat.repr n).length + 1) = 2 ^ (4 * (Nat.repr n).length + 4) := by
    rw [show (16 : Nat) = 2 ^ 4 from rfl, ← Nat.pow_mul]
    rfl
  omega
theorem eu_digits {a b t : Nat} (h : t = 4 * (toString (a : Int)).length + 4 * (toString (b : Int)).length + 60) : 2 * (a * b) < 2 ^ t := by
  subst h
  have h1 := lt_digits a
  have h2 := lt_digits b
  have h3 : a * b < 2 ^ (4 * (toString (a : Int)).length + 4) * 2 ^ (4 * (toString (b : Int)).length + 4) := Nat.mul_lt_mul'' h1 h2
  rw [← Nat.pow_add] at h3
  have h4 : 2 * (a * b) < 2 * 2 ^ (4 * (toString (a : Int)).length + 4 + (4 * (toString (b : Int)).length + 4)) := by omega
  rw [← Nat.pow_succ'] at h4
  exact Nat.lt_of_lt_of_le h4 (Nat.pow_le_pow_right (by decide) (by omega))
theorem args2 {x y : Int} (hx : 0 ≤ x) (hy : 0 ≤ y) : [V.int x, V.int y] ++ [] = [V.int ((x.natAbs : Nat) : Int), V.int ((y.natAbs : Nat) : Int)] := by
  have e1 : ((x.natAbs : Nat) : Int) = x := by omega
  have e2 : ((y.natAbs : Nat) : Int) = y := by omega
  rw [e1, e2]
  rfl
theorem mod_abs (x : Int) {b : Int} (h : 0 < b) : (x % b).natAbs ≤ b.natAbs := by
  have h1 := Int.emod_nonneg x (show b ≠ 0 by omega)
  have h2 := Int.emod_lt_of_pos x h
  omega
theorem mul_lt_abs {a b : Int} {A B : Nat} (ha : a.natAbs ≤ A) (hb : b.natAbs ≤ B) : (a * b).natAbs ≤ A * B := by
  rw [Int.natAbs_mul]
  exact Nat.mul_le_mul ha hb
def pd2 (x y : Int) : PyData := .tuple [.int x, .int y]
theorem dp2 {K : PySem.W.Frag} {H : Hp} {u : Addr} {x y : Int} (h : SqT K H u (zs [x, y])) : Dp K H (.ref u) (pd2 x y) :=
  .tup h (.cons (.int x) (.cons (.int y) .nil))
theorem eqv2 (x y : Int) : PyData.eqv (pd2 x y) (pd2 x y) = true := by
  unfold pd2
  simp [PyData.eqv, PyData.eqvAll]

def dv (x y z : Int) : Int := let g : Int := (Nat.gcd (Nat.gcd x.natAbs y.natAbs) z.natAbs : Nat)
  if HT.lexLt [x, y, z] [0, 0, 0] = true then -g else g
def g3 (x y z : Int) : Nat := Nat.gcd (Nat.gcd x.natAbs y.natAbs) z.natAbs
/-- the first one that is not 0 is below 0 -/
def dn (x y z : Int) : Bool := decide (x < 0) || (decide (x = 0) && (decide (y < 0) || (decide (y = 0) && decide (z < 0))))
theorem lex_dn (x y z : Int) : HT.lexLt [x, y, z] [0, 0, 0] = dn x y z := by
  rw [HT.lexLt_cons, HT.lexLt_cons, HT.lexLt_cons, HT.lexLt_nil_nil]
  unfold dn
  by_cases hx : x = 0
  · subst hx
    by_cases hy : y = 0
    · subst hy
      by_cases hz : z = 0
      · subst hz; decide
      · simp [hz]
    · simp [hy]
  · simp [hx]
theorem dv_eq (x y z : Int) : dv x y z = if dn x y z = true then -(g3 x y z : Int) else (g3 x y z : Int) := by
  unfold dv g3
  rw [lex_dn]
theorem dv_abs (x y z : Int) : (dv x y z).natAbs = g3 x y z := by
  rw [dv_eq]
  split
  · rw [Int.natAbs_neg, Int.natAbs_natCast]
  · rw [Int.natAbs_natCast]
theorem g3_pos {x y z : Int} (h : ¬ (x = 0 ∧ y = 0 ∧ z = 0)) : 0 < g3 x y z := by
  rcases Nat.eq_zero_or_pos (g3 x y z) with e | e
  · exfalso
    have h1 := Nat.gcd_eq_zero_iff.mp e
    have h2 := Nat.gcd_eq_zero_iff.mp h1.1
    omega
  · exact e
theorem dv_ne {x y z : Int} (h : ¬ (x = 0 ∧ y = 0 ∧ z = 0)) : dv x y z ≠ 0 := by
  intro e
  have h1 := dv_abs x y z
  have h2 := g3_pos h
  rw [e] at h1
  have : (0 : Int).natAbs = 0 := rfl
  omega
theorem g3_dx (x y z : Int) : (g3 x y z : Int) ∣ x := by
  refine Int.dvd_natAbs.mp (Int.natCast_dvd_natCast.mpr ?_)
  exact Nat.dvd_trans (Nat.gcd_dvd_left _ _) (Nat.gcd_dvd_left _ _)
theorem g3_dy (x y z : Int) : (g3 x y z : Int) ∣ y := by
  refine Int.dvd_natAbs.mp (Int.natCast_dvd_natCast.mpr ?_)
  exact Nat.dvd_trans (Nat.gcd_dvd_left _ _) (Nat.gcd_dvd_right _ _)
theorem g3_dz (x y z : Int) : (g3 x y z : Int) ∣ z := by
  refine Int.dvd_natAbs.mp (Int.natCast_dvd_natCast.mpr ?_)
  exact Nat.gcd_dvd_right _ _
theorem dv_dvd {x y z v : Int} (h : (g3 x y z : Int) ∣ v) : dv x y z ∣ v := by
  rw [dv_eq]
  split
  · exact Int.neg_dvd.mpr h
  · exact h
theorem dv_dx (x y z : Int) : dv x y z ∣ x := dv_dvd (g3_dx x y z)
theorem dv_dy (x y z : Int) : dv x y z ∣ y := dv_dvd (g3_dy x y z)
theorem dv_dz (x y z : Int) : dv x y z ∣ z := dv_dvd (g3_dz x y z)
theorem g3_le {x y z : Int} {n : Nat} (h : ¬ (x = 0 ∧ y = 0 ∧ z = 0)) (hx : x.natAbs ≤ n) (hy : y.natAbs ≤ n) (hz : z.natAbs ≤ n) : g3 x y z ≤ n := by
  by_cases h1 : x = 0
  · by_cases h2 : y = 0
    · have h3 : z ≠ 0 := fun e => h ⟨h1, h2, e⟩
      exact Nat.le_trans (Nat.le_of_dvd (by omega) (Nat.gcd_dvd_right _ _)) hz
    · exact Nat.le_trans (Nat.le_of_dvd (by omega) (Nat.dvd_trans (Nat.gcd_dvd_left _ _) (Nat.gcd_dvd_right _ _))) hy
  · exact Nat.le_trans (Nat.le_of_dvd (by omega) (Nat.dvd_trans (Nat.gcd_dvd_left _ _) (Nat.gcd_dvd_left _ _))) hx
theorem g3_mul (x y z t : Int) : g3 (x * t) (y * t) (z * t) = g3 x y z * t.natAbs := by
  unfold g3
  rw [Int.natAbs_mul, Int.natAbs_mul, Int.natAbs_mul, Nat.gcd_mul_right, Nat.gcd_mul_right]
/-- the parts have no divisor left -/
theorem g3_one {x y z a b c : Int} (h : ¬ (x = 0 ∧ y = 0 ∧ z = 0)) (ha : a * dv x y z = x) (hb : b * dv x y z = y) (hc : c * dv x y z = z) : g3 a b c = 1 := by
  have h1 : g3 x y z = g3 a b c * (dv x y z).natAbs := by
    have := g3_mul a b c (dv x y z)
    rw [ha, hb, hc] at this
    exact this
  rw [dv_abs] at h1
  have h2 := g3_pos h
  exact (Nat.eq_of_mul_eq_mul_right h2 (by rw [Nat.one_mul]; exact h1)).symm
theorem neg_mul_iff {v t : Int} (ht : 0 < t) : (v * t < 0 ↔ v < 0) ∧ (v * t = 0 ↔ v = 0) := by
  constructor
  · constructor
    · intro h
      rcases Int.lt_or_le v 0 with h1 | h1
      · exact h1
      · have := Int.mul_nonneg h1 (Int.le_of_lt ht)
        omega
    · exact fun h => Int.mul_neg_of_neg_of_pos h ht
  · constructor
    · intro h
      rcases Int.mul_eq_zero.mp h with h1 | h1
      · exact h1
      · omega
    · intro h
      rw [h, Int.zero_mul]
theorem dn_mul {x y z t : Int} (ht : 0 < t) : dn (x * t) (y * t) (z * t) = dn x y z := by
  unfold dn
  have hx := neg_mul_iff (v := x) ht
  have hy := neg_mul_iff (v := y) ht
  have hz := neg_mul_iff (v := z) ht
  simp only [hx, hy, hz]
theorem dn_neg {x y z : Int} (h : ¬ (x = 0 ∧ y = 0 ∧ z = 0)) : dn (-x) (-y) (-z) = !dn x y z := by
  unfold dn
  rcases Int.lt_trichotomy x 0 with hx | hx | hx
  · have h1 : ¬ (-x < 0) := by omega
    have h2 : ¬ (-x = 0) := by omega
    simp [hx, h1, h2]
    omega
  · subst hx
    rcases Int.lt_trichotomy y 0 with hy | hy | hy
    · have h1 : ¬ (-y < 0) := by omega
      have h2 : ¬ (-y = 0) := by omega
      simp [hy, h1, h2]
      omega
    · subst hy
      have hz : z ≠ 0 := fun e => h ⟨rfl, rfl, e⟩
      by_cases h1 : z < 0
      · have h2 : ¬ (-z < 0) := by omega
        simp [h1, h2]
        omega
      · have h2 : -z < 0 := by omega
        simp [h1, h2]
        omega
    · have h1 : -y < 0 := by omega
      have h2 : ¬ y < 0 := by omega
      have h3 : ¬ y = 0 := by omega
      simp [h1, h2, h3]
      omega
  · have h1 : -x < 0 := by omega
    have h2 : ¬ x < 0 := by omega
    have h3 : ¬ x = 0 := by omega
    simp [h1, h2, h3]
    omega
theorem dv_mul {x y z t : Int} (h : ¬ (x = 0 ∧ y = 0 ∧ z = 0)) (ht : t ≠ 0) : dv (x * t) (y * t) (z * t) = dv x y z * t := by
  rw [dv_eq, dv_eq, g3_mul]
  rcases Int.lt_or_gt_of_ne ht with h1 | h1
  · have e1 : ∀ v : Int, v * t = -v * -t := fun v => (Int.neg_mul_neg v t).symm
    have e2 : (t.natAbs : Int) = -t := by omega
    have h2 : ¬ (-x = 0 ∧ -y = 0 ∧ -z = 0) := by omega
    rw [e1 x, e1 y, e1 z, dn_mul (by omega), dn_neg h]
    cases dn x y z with
    | true => simp [e2, Int.neg_mul, Int.mul_neg]
    | false => simp [e2, Int.neg_mul, Int.mul_neg]
  · have e2 : (t.natAbs : Int) = t := by omega
    rw [dn_mul h1]
    cases dn x y z with
    | true => simp [e2, Int.neg_mul, Int.mul_neg]
    | false => simp [e2, Int.neg_mul, Int.mul_neg]
theorem fdiv_same {d v t : Int} (hd : d ≠ 0) (ht : t ≠ 0) (h : d ∣ v) : (v * t).fdiv (d * t) = v.fdiv d := by
  obtain ⟨k, rfl⟩ := h
  rw [Int.mul_assoc, Int.mul_comm k t, ← Int.mul_assoc, Int.mul_fdiv_cancel_left _ hd, Int.mul_fdiv_cancel_left]
  exact Int.mul_ne_zero hd ht

theorem zs_push {l : List Int} {n : Int} : zs l ++ [V.int n] = zs (l ++ [n]) := by
  show l.map V.int ++ [V.int n] = (l ++ [n]).map V.int
  rw [List.map_append]
  rfl
theorem zs_lt {l : List Int} (h : l.length ≤ 1000) : (zs l).length < sizeLine := by
  show (l.map V.int).length < sizeLine
  rw [List.length_map]
  exact small1000 h
theorem row_all {rs : List Int} {b : Int} (h : ∀ r ∈ rs, 0 ≤ r ∧ r < b) (x : Int) (hb : 0 < b) : ∀ r ∈ rs ++ [x % b], 0 ≤ r ∧ r < b := by
  intro r hr
  rcases List.mem_append.mp hr with h1 | h1
  · exact h r h1
  · rw [List.mem_singleton.mp h1]
    exact ⟨Int.emod_nonneg _ (by omega), Int.emod_lt_of_pos _ hb⟩
theorem ixN_in {n : Nat} {i : Int} (h0 : 0 ≤ i) (h : i < (n : Int)) : ixN n i = some i.toNat := by
  unfold ixN
  rw [if_pos h0, if_pos h]
theorem len3 {rs : List Int} (h : rs.length = 3) : ∃ a b c, rs = [a, b, c] := by
  match rs, h with
  | [a, b, c], _ => exact ⟨a, b, c, rfl⟩
theorem gl_three (x y z : Int) : gl [x, y, z] = g3 x y z := by
  show Nat.gcd z.natAbs (Nat.gcd y.natAbs (Nat.gcd x.natAbs 0)) = Nat.gcd (Nat.gcd x.natAbs y.natAbs) z.natAbs
  rw [Nat.gcd_zero_right, Nat.gcd_comm z.natAbs, Nat.gcd_comm y.natAbs]
def fs3 (x y z : Int) : Int := if x ≠ 0 then x else if y ≠ 0 then y else z
theorem fs3_get {x y z : Int} (h : ¬ (x = 0 ∧ y = 0 ∧ z = 0)) : (zs ([x, y, z].filter fun v => decide (v ≠ 0)))[0]? = some (.int (fs3 x y z)) := by
  unfold fs3
  by_cases hx : x = 0
  · by_cases hy : y = 0
    · have hz : z ≠ 0 := fun e => h ⟨hx, hy, e⟩
      simp [hx, hy, hz]
    · simp [hx, hy]
  · simp [hx]
theorem fs3_dn {x y z : Int} (h : ¬ (x = 0 ∧ y = 0 ∧ z = 0)) : decide (fs3 x y z < 0) = dn x y z := by
  unfold fs3 dn
  by_cases hx : x = 0
  · by_cases hy : y = 0
    · simp [hx, hy]
    · simp [hx, hy]
  · simp [hx]
theorem fil_snoc {l : List Int} {i : Nat} {z : Int} (h : l[i]? = some z) (hz : z ≠ 0) : zs ((l.take i).filter fun v => decide (v ≠ 0)) ++ [V.int z] = zs ((l.take (i + 1)).filter fun v => decide (v ≠ 0)) := by
  rw [take_snoc h, List.filter_append, zs_push]
  simp [hz]
theorem fil_same {l : List Int} {i : Nat} {z : Int} (h : l[i]? = some z) (hz : z = 0) : (l.take (i + 1)).filter (fun v => decide (v ≠ 0)) = (l.take i).filter fun v => decide (v ≠ 0) := by
  rw [take_snoc h, List.filter_append]
  simp [hz]
theorem fil_lt {l : List Int} (n : Nat) (h : l.length ≤ 1000) : (zs ((l.take n).filter fun v => decide (v ≠ 0))).length < sizeLine := by
  refine zs_lt ?_
  have h1 := List.length_filter_le (fun v : Int => decide (v ≠ 0)) (l.take n)
  rw [List.length_take] at h1
  omega
theorem zs_at {l : List Int} {i : Nat} {z : Int} (h : l[i]? = some z) : atI (zs l) (i : Int) = some (V.int z) := atI_nat (by
  rw [show zs l = l.map V.int from rfl, List.getElem?_map, h]
  rfl)
theorem parts_at {x y z d : Int} (hx : d ∣ x) (hy : d ∣ y) (hz : d ∣ z) {i : Nat} (hi : i < 3) : ∃ f v : Int, [x.fdiv d, y.fdiv d, z.fdiv d][i]? = some f ∧ [x, y, z][i]? = some v ∧ f * d = v := by
  obtain rfl | rfl | rfl : i = 0 ∨ i = 1 ∨ i = 2 := by omega
  · exact ⟨_, _, rfl, rfl, fdiv_back hx⟩
  · exact ⟨_, _, rfl, rfl, fdiv_back hy⟩
  · exact ⟨_, _, rfl, rfl, fdiv_back hz⟩
def pd3 (x y z : Int) : PyData := .tuple [.int x, .int y, .int z]
theorem dp3 {K : PySem.W.Frag} {H : Hp} {u : Addr} {x y z : Int} (h : SqT K H u (zs [x, y, z])) : Dp K H (.ref u) (pd3 x y z) :=
  .tup h (.cons (.int x) (.cons (.int y) (.cons (.int z) .nil)))
theorem eqv3 (x y z : Int) : PyData.eqv (pd3 x y z) (pd3 x y z) = true := by
  unfold pd3
  simp [PyData.eqv, PyData.eqvAll]

def sgn (i : Int) : Int := if i < 0 then -1 else if 0 < i then 1 else 0
theorem sgn_mul {a b : Int} (hb : 0 < b) : sgn (a * b) = sgn a := by
  have h := neg_mul_iff (v := a) hb
  have h2 : 0 < a * b ↔ 0 < a := by
    constructor
    · intro z
      have h3 : ¬ a < 0 := fun y => by
        have := h.1.mpr y
        omega
      have h4 : ¬ a = 0 := fun y => by
        have := h.2.mpr y
        omega
      omega
    · exact fun z => Int.mul_pos z hb
  unfold sgn
  by_cases h3 : a < 0
  · rw [if_pos h3, if_pos (h.1.mpr h3)]
  · rw [if_neg h3, if_neg (fun z => h3 (h.1.mp z))]
    by_cases h4 : 0 < a
    · rw [if_pos h4, if_pos (h2.mpr h4)]
    · rw [if_neg h4, if_neg (fun z => h4 (h2.mp z))]
theorem sg_pos {n d : Int} (h : 0 < d) : 0 < sg n d := by
  have hg : 0 < Nat.gcd n.natAbs d.natAbs := Nat.gcd_pos_of_pos_right _ (by omega)
  unfold sg
  rw [if_neg (by omega)]
  omega
/-- the sign of a fraction is that of its numerator, before and behind -/
theorem sgn_low {n d : Int} (h : 0 < d) : sgn (n.fdiv (sg n d)) = sgn n := by
  have h1 := fdiv_back (sg_dn n d)
  have h2 := sgn_mul (a := n.fdiv (sg n d)) (sg_pos (n := n) h)
  rw [h1] at h2
  exact h2.symm
theorem rd2_le {n d : Int} (hd : d ≠ 0) : ∃ p q, rd2 n d = [p, q] ∧ p.natAbs ≤ n.natAbs ∧ q.natAbs ≤ d.natAbs ∧ Fr n d p q :=
  have f := fr_of (n := n) hd
  ⟨_, _, rfl, part_le f.hp (sg_ne hd), part_le f.hq (sg_ne hd), f⟩
/-- a sum of two, each brought to lowest terms -/
theorem rd2_plus {a b c d p q r s : Int} (f : Fr a b p q) (g : Fr c d r s) (hb : 0 < b) (hd : 0 < d) : rd2 (p * s + r * q) (q * s) = rd2 (a * d + c * b) (b * d) := by
  have q0 := f.q0
  have s0 := g.q0
  have c1 := f.cross
  have c2 := g.cross
  exact rd2_eq (Int.mul_pos q0 s0) (Int.mul_pos hb hd) (by grind)
/-- what is in lowest terms stays -/
theorem low_of {p q : Int} (h : Nat.gcd p.natAbs q.natAbs = 1) (hq : 0 < q) : rd2 p q = [p, q] := by
  have f := fr_of (n := p) (show q ≠ 0 by omega)
  have c := f.cross
  have u := low_uniq f.one h f.q0 hq (by rw [f.cross])
  unfold rd2
  rw [u.1, u.2]
theorem fr_low {n d p q : Int} (f : Fr n d p q) : rd2 p q = [p, q] := low_of f.one f.q0
theorem eu_far2 {a b n : Nat} (hn : 3601 ≤ n) (ha : a < 2 ^ 1800) (hb : b < 2 ^ 1800) : 2 * (a * b) < 2 ^ n := by
  have h1 : a * b < 2 ^ 1800 * 2 ^ 1800 := Nat.mul_lt_mul'' ha hb
  rw [← Nat.pow_add] at h1
  have h2 : (2 : Nat) ^ 3601 ≤ 2 ^ n := Nat.pow_le_pow_right (by decide) hn
  rw [show (3601 : Nat) = 1 + (1800 + 1800) from rfl, Nat.pow_add] at h2
  generalize (2 : Nat) ^ (1800 + 1800) = B at *
  generalize (2 : Nat) ^ n = C at *
  omega
theorem rd2_eq0 {n d n' d' : Int} (hd : d ≠ 0) (hd' : d' ≠ 0) (h : n * d' = n' * d) : rd2 n d = rd2 n' d' := by
  have f := fr_of (n := n) hd
  have f' := fr_of (n := n') hd'
  have c1 := f.cross
  have c2 := f'.cross
  unfold rd2
  generalize n.fdiv (sg n d) = p at f c1
  generalize d.fdiv (sg n d) = q at f c1
  generalize n'.fdiv (sg n' d') = r at f' c2
  generalize d'.fdiv (sg n' d') = s at f' c2
  have e : p * s = r * q := by
    have h1 : (p * s) * (d * d') = (r * q) * (d * d') := by grind
    exact Int.eq_of_mul_eq_mul_right (Int.mul_ne_zero hd hd') h1
  have u := low_uniq f.one f'.one f.q0 f'.q0 e
  rw [u.1, u.2]

/-- a row of fractions: where each stands, its two numbers -/
structure Rows (K : PySem.W.Frag) (H : Hp) (ws : List (Addr × Int × Int)) : Prop where
  at_ : ∀ w ∈ ws, SqT K H w.1 (zs [w.2.1, w.2.2])
  b1 : ∀ w ∈ ws, w.2.1.natAbs < 2 ^ 40
  b2 : ∀ w ∈ ws, w.2.2.natAbs < 2 ^ 40
  b3 : ∀ w ∈ ws, 0 < w.2.2
  few : ws.length ≤ 9
theorem Rows.nil {K : PySem.W.Frag} {H : Hp} : Rows K H [] :=
  ⟨(fun _ h => nomatch h), (fun _ h => nomatch h), (fun _ h => nomatch h), (fun _ h => nomatch h), by decide⟩
def rf (ws : List (Addr × Int × Int)) : List V := ws.map fun w => V.ref w.1
theorem Rows.same {K : PySem.W.Frag} {H H' : Hp} {ws : List (Addr × Int × Int)} (r : Rows K H ws) (s : Same H H') : Rows K H' ws :=
  ⟨fun w hw => same_tup s (r.at_ w hw), r.b1, r.b2, r.b3, r.few⟩
theorem Rows.take {K : PySem.W.Frag} {H : Hp} {ws : List (Addr × Int × Int)} (r : Rows K H ws) (i : Nat) : Rows K H (ws.take i) :=
  ⟨fun w hw => r.at_ w (List.mem_of_mem_take hw), fun w hw => r.b1 w (List.mem_of_mem_take hw), fun w hw => r.b2 w (List.mem_of_mem_take hw), fun w hw => r.b3 w (List.mem_of_mem_take hw), by
    rw [List.length_take]
    have := r.few
    omega⟩
theorem rf_get {ws : List (Addr × Int × Int)} {i : Nat} {v : V} (h : (rf ws)[i]? = some v) : ∃ w, v = .ref w.1 ∧ ws[i]? = some w := by
  rw [show rf ws = ws.map fun w => V.ref w.1 from rfl, List.getElem?_map] at h
  cases e : ws[i]? with
  | none =>
    rw [e] at h
    cases h
  | some w =>
    rw [e] at h
    exact ⟨w, (Option.some.inj h).symm, rfl⟩
theorem rf_len (ws : List (Addr × Int × Int)) : (rf ws).length = ws.length := List.length_map _
theorem take_sn {α : Type} {l : List α} {i : Nat} {z : α} (h : l[i]? = some z) : l.take (i + 1) = l.take i ++ [z] := by
  rw [List.take_add_one, h]
  rfl
theorem tup_upd {K : PySem.W.Frag} {H : Hp} {a l : Addr} {xs ys : List V} {o : HO} (h : SqT K H a xs) (hl : H l = some (.lst ys)) : SqT K (upd H l o) a xs := by
  rcases h with (h | ⟨ob, h⟩) | h
  · refine .inl (.inl ?_)
    rw [upd_ne (ne_of h hl (by intro z; cases z))]
    exact h
  · refine .inl (.inr ⟨ob, ?_⟩)
    rw [upd_ne (ne_of h hl (by intro z; cases z))]
    exact h
  · exact .inr h
theorem tyx_tup {K : PySem.W.Frag} {H : Hp} {a : Addr} {xs : List V} (h : SqT K H a xs) : TyX K H (.ref a) (.type "tuple") := by
  rcases h with (h | ⟨ob, h⟩) | ⟨o, its, n, h, hc, _⟩
  · exact .base (.tup h)
  · exact .fTuple h
  · exact .kTuple h hc
theorem no_self {x : V} (h : (!decide (x = x)) = true) : False := by
  rw [decide_eq_true rfl] at h
  cases h

section ZipMixed
open PySem PySem.Spec PyProof.Rows
/-- a list or a tuple that stands still -/
def SqB (f : Bool) (K : PySem.W.Frag) (H : Hp) (q : Addr) (vs : List V) : Prop := bif f then SqT K H q vs else SqL K H q vs
def ItB (f : Bool) (h : Heap) (it q : Addr) (i : Nat) : Prop := bif f then h.IsTupleIter it q i else h.IsListIter it q i
def AtB (f : Bool) (h : Heap) (q : Addr) (us : Array Value) : Prop := bif f then h.IsTuple q us else h.IsList q us
def oB (f : Bool) (q : Addr) : Obj := bif f then { cls := .type "tuple_iterator", data := .fields #[.ref q, .int 0 0] } else { cls := .type "list_iterator", data := .fields #[.ref q, .int 0 0] }
theorem ItB.live {f : Bool} {h : Heap} {it q : Addr} {i : Nat} (s : ItB f h it q i) : ∃ o, h.get? it = some o ∧ ∀ v, o.data ≠ .cell v := by
  cases f
  · obtain ⟨o, e, _, d⟩ := s
    exact ⟨o, e, fun v z => by rw [d] at z; cases z⟩
  · obtain ⟨o, e, _, d⟩ := s
    exact ⟨o, e, fun v z => by rw [d] at z; cases z⟩
theorem ItB.keep {f : Bool} {h h' : Heap} {it q : Addr} {i : Nat} (s : ItB f h it q i) (k : ∀ o, h.get? it = some o → h'.get? it = some o) : ItB f h' it q i := by
  cases f
  · exact Heap.IsListIter.at s k
  · exact Heap.IsTupleIter.at s k
theorem SqB.at_ {X : Cx} {pins : List (Addr × Obj)} {σ : L2.St} {H : Hp} {s : Shared} {f : Bool} {q : Addr} {vs : List V} (I : Inv X pins σ H s) (h : SqB f X.K H q vs) :
    ∃ us : List Value, Vals vs us ∧ AtB f s.heap q us.toArray := by
  cases f
  · obtain ⟨us, rv, p, _⟩ := I.list h
    exact ⟨us, rv, p.isList⟩
  · obtain ⟨us, rv, p, _⟩ := I.tuple h
    exact ⟨us, rv, p⟩
theorem SqB.inj {X : Cx} {pins : List (Addr × Obj)} {σ : L2.St} {H : Hp} {s : Shared} {f : Bool} {q : Addr} {vs ws : List V} (I : Inv X pins σ H s) (h : SqB f X.K H q vs) (h2 : SqB f X.K H q ws) : vs = ws := by
  cases f
  · exact I.list_inj h h2
  · exact I.tuple_inj h h2
theorem drawsB {P : Program} {w : World} {A : Around} (hh : A.handled = none) (f : Bool) (it q : Addr) (hne : q ≠ it) (us : Array Value) :
    Draws P w A it [it, q] us.size (fun i v => us[i]? = some v) (fun i h => ItB f h it q i ∧ AtB f h q us) := by
  cases f
  · exact Draws.list hh it q hne us
  · exact Draws.tuple hh it q hne us
theorem beginsB (f : Bool) (q : Addr) (us : Array Value) : Begins (.ref q) (oB f q) fun h => AtB f h q us := by
  cases f
  · exact begins_list q us
  · exact begins_tuple q us
theorem AtB.lt {f : Bool} {h : Heap} {q : Addr} {us : Array Value} (p : AtB f h q us) : q < h.objs.size := by
  cases f
  · obtain ⟨o, e, _⟩ := p
    exact Heap.lt_size e
  · obtain ⟨o, e, _⟩ := p
    exact Heap.lt_size e
theorem oB_it {f : Bool} {h : Heap} {it q : Addr} (e : h.get? it = some (oB f q)) : ItB f h it q 0 := by
  cases f
  · exact ⟨_, e, rfl, rfl⟩
  · exact ⟨_, e, rfl, rfl⟩
theorem sep_of {z TI TO i1 i2 a b : Addr} (D : ZipApart z TI TO i1 i2 a b) : ZipSep2 z TI TO i1 i2 [i1, a] [i2, b] where
  TIz := D.TIz
  TOz := D.TOz
  TITO := D.TITO
  TIi1 := D.TIi1
  mem1 := by simp
  zf1 := by simp [D.i1z.symm, D.l1z.symm]
  Tf1 := by simp [D.TOi1, D.l1TO.symm]
  TIi2 := D.TIi2
  mem2 := by simp
  zf2 := by simp [D.i2z.symm, D.l2z.symm]
  Tf2 := by simp [D.TOi2, D.l2TO.symm]
  sep1_2 := by simp [D.i12, D.l2i1.symm]
  sep2_1 := by simp [D.i12.symm, D.l1i2.symm]
/-- the two as they stand at each turn, what they hold in new pairs -/
def ItzB (f g : Bool) (K : PySem.W.Frag) (a b : Addr) : It :=
  ⟨fun i H => ∃ (xs ys : List V) (x y : V), SqB f K H a xs ∧ SqB g K H b ys ∧ xs[i]? = some x ∧ ys[i]? = some y,
    fun i H v H' => ∃ T x y, v = .ref T ∧ H T = none ∧ H' = upd H T (.tup [x, y]) ∧ (∀ xs, SqB f K H a xs → xs[i]? = some x) ∧ ∀ ys, SqB g K H b ys → ys[i]? = some y,
    fun i H => ∃ xs ys : List V, SqB f K H a xs ∧ SqB g K H b ys ∧ i ≤ xs.length ∧ i ≤ ys.length ∧ (i = xs.length ∨ i = ys.length)⟩
theorem turn_zipB {P : Program} {w : World} {K : PySem.W.Frag} {elts : List Expr} {kk : Nat} {tpos : Pos} {a b z TI TO i1 i2 : Addr} (f g : Bool) (D : ZipApart z TI TO i1 i2 a b) :
    Turn P w K (.Tuple elts kk tpos) (ItzB f g K a b) [z, TI, TO, i1, i2] z (fun i h => IsZip h z TI TO .none ∧ IsPair h TI (.ref i1) (.ref i2) ∧ (∃ x y, IsPair h TO x y) ∧ ItB f h i1 a i ∧ ItB g h i2 b i) where
  mem := by simp
  obj := fun i h st c hc => by
    obtain ⟨hz, hTI, ⟨x, y, hTO⟩, h1, h2⟩ := st
    have e' : c = z ∨ c = TI ∨ c = TO ∨ c = i1 ∨ c = i2 := by simpa using hc
    rcases e' with rfl | rfl | rfl | rfl | rfl
    · exact ⟨_, hz, fun v q => nomatch q⟩
    · exact ⟨_, hTI, fun v q => nomatch q⟩
    · exact ⟨_, hTO, fun v q => nomatch q⟩
    · exact h1.live
    · exact h2.live
  keep := fun i h h' st k => by
    obtain ⟨hz, hTI, ⟨x, y, hTO⟩, h1, h2⟩ := st
    exact ⟨k z (by simp) _ hz, k TI (by simp) _ hTI, ⟨x, y, k TO (by simp) _ hTO⟩, h1.keep fun o q => k i1 (by simp) o q, h2.keep fun o q => k i2 (by simp) o q⟩
  item := by
    intro X hP hw hK hc i pins s σ H E I hf st hg
    subst hP hw hK
    obtain ⟨hz, hTI, ⟨x0, y0, hTO⟩, h1, h2⟩ := st
    obtain ⟨xs, ys, x, y, hqx, hqy, hx, hy⟩ := hg
    obtain ⟨us, rv, p⟩ := hqx.at_ I
    obtain ⟨us2, rv2, p2⟩ := hqy.at_ I
    obtain ⟨u, hu, ru⟩ := rv.get hx
    obtain ⟨u2, hu2, ru2⟩ := rv2.get hy
    have hzl : z < s.heap.objs.size := Heap.lt_size hz
    have lx : i < us.toArray.size := by
      have := (List.getElem?_eq_some_iff.mp hu).1
      simpa using this
    have ly : i < us2.toArray.size := by
      have := (List.getElem?_eq_some_iff.mp hu2).1
      simpa using this
    have hhd : X.A.in1.handled = none := I.ok.hd hc
    refine wpAny_pyNext_zipD2_item (sep_of D) (drawsB hhd f i1 a D.l1i1 us.toArray) (drawsB hhd g i2 b D.l2i2 us2.toArray) hz hTI hTO ⟨h1, p⟩ ⟨h2, p2⟩ lx ly fun v1 v2 h' tk e1 e2 z' TO' st1 st2 hT hsz hk => ?_
    have w1 : v1 = u := by
      have : us[i]? = some v1 := by simpa using e1
      rw [hu] at this
      exact (Option.some.inj this).symm
    have w2 : v2 = u2 := by
      have : us2[i]? = some v2 := by simpa using e2
      rw [hu2] at this
      exact (Option.some.inj this).symm
    subst w1 w2
    refine ⟨_, rfl, wpAny_letOwnedTupleGo_zip (s := { s with heap := h', toks := tk }) z' fun h'' z'' sb => ?_⟩
    have hT2 : h''.get? s.heap.objs.size = some { cls := .type "tuple", data := .seq #[v1, v2] } := (sb.2 _ (Nat.ne_of_gt hzl)).trans hT
    have new : ObjOk X.prog X.w (upd H s.heap.objs.size (.tup [x, y])) h'' s.heap.objs.size (.tup [x, y]) :=
      ⟨by show 2 ≤ sizeLine; decide, [v1, v2], .cons ru (.cons ru2 .nil), ⟨_, hT2, rfl, _, rfl⟩⟩
    have I1 : Inv X pins σ (upd H s.heap.objs.size (.tup [x, y])) { s with heap := h'', toks := tk } :=
      I.turnedNew (t' := tk) (ch := [z, TI, TO, i1, i2]) (fun c o hb q => (sb.2 c (fun q' => hb (by simp [q']))).trans (hk c o (fun q' => hb (by simp [q'])) (fun q' => hb (by simp [q'])) (fun q' => hb (by simp [q'])) (fun q' => hb (by simp [q'])) q)) hf (Nat.le_refl _) new
    refine ⟨.ref s.heap.objs.size, _, I1, rfl, ⟨_, x, y, rfl, I.hok.fresh (Nat.le_refl _), rfl, fun l hl => by rw [hl.inj I hqx]; exact hx, fun l hl => by rw [hl.inj I hqy]; exact hy⟩, ⟨z'', ?_, ⟨v1, v2, ?_⟩, ?_, ?_⟩, fun c hcm => ?_⟩
    · exact (sb.2 _ D.TIz).trans (hk _ _ D.TIz D.TITO D.TIi1 D.TIi2 hTI)
    · exact (sb.2 _ D.TOz).trans TO'
    · exact st1.1.keep fun o q => (sb.2 _ D.i1z).trans q
    · exact st2.1.keep fun o q => (sb.2 _ D.i2z).trans q
    · have hlt : c < s.heap.objs.size := by
        have e' : c = z ∨ c = TI ∨ c = TO ∨ c = i1 ∨ c = i2 := by simpa using hcm
        rcases e' with rfl | rfl | rfl | rfl | rfl
        · exact hzl
        · exact Heap.lt_size hTI
        · exact Heap.lt_size hTO
        · obtain ⟨_, e1, _⟩ := h1.live; exact Heap.lt_size e1
        · obtain ⟨_, e1, _⟩ := h2.live; exact Heap.lt_size e1
      rw [upd_ne (Nat.ne_of_lt hlt)]
      exact (hf c hcm).1
  done := by
    intro X hP hw hK hc i pins s σ H E I hf st hg
    subst hP hw hK
    obtain ⟨hz, hTI, ⟨x0, y0, hTO⟩, h1, h2⟩ := st
    obtain ⟨xs, ys, hqx, hqy, hend1, hend2, hend3⟩ := hg
    obtain ⟨us, rv, p⟩ := hqx.at_ I
    obtain ⟨us2, rv2, p2⟩ := hqy.at_ I
    have l1 := rv.length
    have l2 := rv2.length
    have hhd : X.A.in1.handled = none := I.ok.hd hc
    have z1 : us.toArray.size = us.length := by simp
    have z2 : us2.toArray.size = us2.length := by simp
    exact wpAny_pyNext_zipD2_end (sep_of D) (drawsB hhd f i1 a D.l1i1 us.toArray) (drawsB hhd g i2 b D.l2i2 us2.toArray) hz hTI hTO ⟨h1, p⟩ ⟨h2, p2⟩ (by omega) (by omega) (by omega) fun h' tk hk => ⟨rfl, I.turnedL (t' := tk) (ch := [z, TI, TO, i1, i2]) (fun c o hb q =>
      hk c o (fun q' => hb (by simp [q'])) (fun q' => hb (by simp [q'])) (fun q' => hb (by simp [q'])) (fun q' => hb (by simp [q'])) q) hf⟩
  self := fun A i s Q E st h => wpAny_pyIter_zip st.1 h
def iZipB (K : PySem.W.Frag) (ta : TA) : TI := fun σ H R => ta σ H fun vs H1 => ∃ (f g : Bool) (a b : Addr) (xs ys : List V), vs = [.ref a, .ref b] ∧ SqB f K H1 a xs ∧ SqB g K H1 b ys ∧ R (ItzB f g K a b) H1
theorem pi_zipB {X : Cx} {e e2 : Expr} {ta : TA} {p pos tpos : Pos} {elts : List Expr} {kk : Nat} (hg : Gl X "zip") (hm : X.mg "zip" = none) (ha : PA X [e, e2] ta)
    (hs : starEach [e, e2] X.env = (false, eval e X.env) :: starEach [e2] X.env := by rfl) (hpl : (backTo pos (starEach [e2] X.env)).any (·.1) = false := by rfl) :
    PI X (.Tuple elts kk tpos) (.Call (.Name "zip" p) [e, e2] [] pos) (iZipB X.K ta) := by
  refine ⟨fun pins s σ H R I h => ?_⟩
  refine Call_ (ld_blt I hg hm PyProof.Rows.boot_zip (PyProof.Rows.callWith_type1 (thn (ha.run pos pins s σ H _ I h) fun us s1 ⟨vs, H1, I1, r1, q1⟩ => ?_) hs hpl))
  obtain ⟨f, g, a, b, xs, ys, rfl, hqx, hqy, q⟩ := q1
  obtain ⟨u1, u2, rfl, r, r'⟩ := vals2 r1
  cases r
  cases r'
  obtain ⟨_, rv, p1⟩ := hqx.at_ I1
  obtain ⟨_, rv2, p2⟩ := hqy.at_ I1
  refine zip_begins2 (beginsB f a _) (beginsB g b _) p1 p2 fun h' hz hTI hTO h1 h2 hsz hk => wpAny_pyIter_zip hz ?_
  have I2 : Inv X pins σ H1 { s1 with heap := h' } := I1.kept (t' := s1.toks) hk
  refine ⟨s1.heap.objs.size + 4, [s1.heap.objs.size + 4, s1.heap.objs.size + 2, s1.heap.objs.size + 3, s1.heap.objs.size, s1.heap.objs.size + 1], _, _, H1, rfl, I2, turn_zipB f g (PySem.W.ktu_apart s1.heap.objs.size a b p1.lt p2.lt), ⟨hz, hTI, ⟨_, _, hTO⟩, oB_it h1, oB_it h2⟩, fun c hcm => ?_, q⟩
  have e' : c = s1.heap.objs.size + 4 ∨ c = s1.heap.objs.size + 2 ∨ c = s1.heap.objs.size + 3 ∨ c = s1.heap.objs.size ∨ c = s1.heap.objs.size + 1 := by simpa using hcm
  have hle : s1.heap.objs.size ≤ c := by
    rcases e' with z | z | z | z | z
    · rw [z]; exact Nat.le_add_right _ _
    · rw [z]; exact Nat.le_add_right _ _
    · rw [z]; exact Nat.le_add_right _ _
    · rw [z]; exact Nat.le_refl _
    · rw [z]; exact Nat.le_add_right _ _
  exact I1.fpOk hle (I1.hok.fresh hle)
theorem walk_zipB {f g : Bool} {K : PySem.W.Frag} {a b : Addr} {xs ys : List V} {n : Nat} (hn : n = min xs.length ys.length) : Walk (ItzB f g K a b) n (fun H => SqB f K H a xs ∧ SqB g K H b ys) (YPair (fun i => xs[i]?) (fun i => ys[i]?)) := by
  subst hn
  refine ⟨fun i _ hi q => ?_, fun _ q => ⟨xs, ys, q.1, q.2, by omega, by omega, by omega⟩, fun i H v H' _ q y => ?_⟩
  · have h1 : i < xs.length := by omega
    have h2 : i < ys.length := by omega
    exact ⟨xs, ys, xs[i], ys[i], q.1, q.2, by simp [h1], by simp [h2]⟩
  · obtain ⟨T, u, u2, h1, h2, h3, h4, h5⟩ := y
    exact ⟨T, u, u2, h1, h2, h3, h4 xs q.1, h5 ys q.2⟩
end ZipMixed

theorem rat_rd {n d : Int} (hd : d ≠ 0) : rd2 n d = [(Rat.divInt n d).num, ((Rat.divInt n d).den : Int)] := by
  have h0 : ((Rat.divInt n d).den : Int) ≠ 0 := by
    have := (Rat.divInt n d).den_nz
    omega
  have e : Rat.divInt n d = Rat.divInt (Rat.divInt n d).num ((Rat.divInt n d).den : Int) := (Rat.num_divInt_den _).symm
  have c := (Rat.divInt_eq_divInt_iff hd h0).mp e
  rw [rd2_eq0 hd h0 c]
  exact low_of (Rat.divInt n d).reduced (by have := (Rat.divInt n d).den_nz; omega)
/-- a fraction that stands at an address -/
def Fx (K : PySem.W.Frag) (H : Hp) (a : Addr) (r : Rat) : Prop := SqT K H a (zs [r.num, (r.den : Int)])
theorem Fx.same {K : PySem.W.Frag} {H H' : Hp} {a : Addr} {r : Rat} (h : Fx K H a r) (s : Same H H') : Fx K H' a r := same_tup s h
theorem fx_rd {K : PySem.W.Frag} {H : Hp} {a : Addr} {n d : Int} (hd : d ≠ 0) (h : H a = some (.tup (zs (rd2 n d)))) : Fx K H a (Rat.divInt n d) := by
  unfold Fx
  rw [← rat_rd hd]
  exact SqT.of h
theorem fx_at {K : PySem.W.Frag} {H : Hp} {a : Addr} {r : Rat} (h : H a = some (.tup (zs [r.num, (r.den : Int)]))) : Fx K H a r := SqT.of h
def Bd (n : Nat) (r : Rat) : Prop := r.num.natAbs < 2 ^ n ∧ r.den < 2 ^ n
theorem Bd.up {n m : Nat} {r : Rat} (h : Bd n r) (hm : n ≤ m) : Bd m r :=
  ⟨Nat.lt_of_lt_of_le h.1 (Nat.pow_le_pow_right (by decide) hm), Nat.lt_of_lt_of_le h.2 (Nat.pow_le_pow_right (by decide) hm)⟩
theorem Bd.den {n : Nat} {r : Rat} (h : Bd n r) : ((r.den : Nat) : Int).natAbs < 2 ^ n := h.2
theorem den_pos (r : Rat) : (0 : Int) < (r.den : Int) := by
  have := r.den_nz
  omega
theorem den_ne (r : Rat) : ((r.den : Nat) : Int) ≠ 0 := by
  have := den_pos r
  omega
theorem bd_of {n d : Int} {k : Nat} (hd : d ≠ 0) (h1 : n.natAbs < 2 ^ k) (h2 : d.natAbs < 2 ^ k) : Bd k (Rat.divInt n d) := by
  obtain ⟨p, q, e, l1, l2, _⟩ := rd2_le (n := n) hd
  rw [rat_rd hd] at e
  have e1 : (Rat.divInt n d).num = p := by injection e
  have e2 : ((Rat.divInt n d).den : Int) = q := by
    injection e with _ e
    injection e
  refine ⟨by rw [e1]; omega, ?_⟩
  have : (Rat.divInt n d).den = q.natAbs := by rw [← e2]; rfl
  omega
theorem add_div (r s : Rat) : r + s = Rat.divInt (r.num * s.den + s.num * r.den) (r.den * s.den) := by
  rw [Rat.add_def', Rat.divInt_eq_div, Rat.mkRat_eq_div]
  rfl
theorem sub_div (r s : Rat) : r - s = Rat.divInt (r.num * s.den - s.num * r.den) (r.den * s.den) := by
  rw [Rat.sub_def', Rat.divInt_eq_div, Rat.mkRat_eq_div]
  rfl
theorem mul_div (r s : Rat) : r * s = Rat.divInt (r.num * s.num) (r.den * s.den) := by
  rw [Rat.mul_def', Rat.divInt_eq_div, Rat.mkRat_eq_div]
  rfl
theorem dd_ne (r s : Rat) : ((r.den : Int) * (s.den : Int)) ≠ 0 := Int.mul_ne_zero (den_ne r) (den_ne s)
theorem pow_two_add (a b : Nat) : (2 : Nat) ^ (a + b + 1) = 2 * 2 ^ (a + b) := by
  rw [Nat.pow_succ, Nat.mul_comm]
theorem wl {x y : Int} {a b : Nat} (h : x.natAbs < 2 ^ a) (h2 : y.natAbs < 2 ^ b) : (x * y).natAbs < 2 ^ (a + b) := by
  rw [Int.natAbs_mul, Nat.pow_add]
  exact Nat.mul_lt_mul'' h h2
theorem Bd.mul {a b : Nat} {r s : Rat} (h : Bd a r) (h2 : Bd b s) : Bd (a + b) (r * s) := by
  rw [mul_div]
  exact bd_of (dd_ne r s) (wl h.1 h2.1) (wl h.den h2.den)
theorem Bd.add {a b : Nat} {r s : Rat} (h : Bd a r) (h2 : Bd b s) : Bd (a + b + 1) (r + s) := by
  rw [add_div]
  have e := pow_two_add a b
  have w1 := wl h.1 h2.den
  have w2 := wl h2.1 h.den
  have w3 := wl h.den h2.den
  rw [Nat.add_comm b a] at w2
  have := Int.natAbs_add_le (r.num * (s.den : Int)) (s.num * (r.den : Int))
  exact bd_of (dd_ne r s) (by omega) (by omega)
theorem Bd.sub {a b : Nat} {r s : Rat} (h : Bd a r) (h2 : Bd b s) : Bd (a + b + 1) (r - s) := by
  rw [sub_div]
  have e := pow_two_add a b
  have w1 := wl h.1 h2.den
  have w2 := wl h2.1 h.den
  have w3 := wl h.den h2.den
  rw [Nat.add_comm b a] at w2
  have := Int.natAbs_sub_le (r.num * (s.den : Int)) (s.num * (r.den : Int))
  exact bd_of (dd_ne r s) (by omega) (by omega)
theorem Bd.neg {a : Nat} {r : Rat} (h : Bd a r) : Bd a (-r) := by
  refine ⟨?_, ?_⟩
  · rw [Rat.neg_num, Int.natAbs_neg]
    exact h.1
  · rw [Rat.neg_den]
    exact h.2
theorem bd_zero : Bd 1 0 := ⟨by decide, by decide⟩
theorem bd_one : Bd 1 1 := ⟨by decide, by decide⟩
def pdr (r : Rat) : PyData := pd2 r.num (r.den : Int)
theorem dpr {K : PySem.W.Frag} {H : Hp} {a : Addr} {r : Rat} (h : Fx K H a r) : Dp K H (.ref a) (pdr r) := dp2 h
theorem eqvr (r s : Rat) : PyData.eqv (pdr r) (pdr s) = decide (r = s) := by
  unfold pdr pd2
  simp only [PyData.eqv, PyData.eqvAll, Bool.and_true]
  by_cases h : r = s
  · subst h
    simp
  · rw [decide_eq_false h]
    by_cases h1 : r.num = s.num
    · have h2 : ¬ r.den = s.den := fun z => h (Rat.ext h1 z)
      simp [h1]
      omega
    · simp [h1]
/-- a row of fractions: where each stands, what it is -/
def Rx (K : PySem.W.Frag) (H : Hp) (ws : List (Addr × Rat)) : Prop := ∀ w ∈ ws, Fx K H w.1 w.2
def fr (ws : List (Addr × Rat)) : List V := ws.map fun w => V.ref w.1
theorem Rx.same {K : PySem.W.Frag} {H H' : Hp} {ws : List (Addr × Rat)} (h : Rx K H ws) (s : Same H H') : Rx K H' ws := fun w hw => (h w hw).same s
theorem fr_len (ws : List (Addr × Rat)) : (fr ws).length = ws.length := List.length_map _
theorem fr_get {ws : List (Addr × Rat)} {i : Nat} {v : V} (h : (fr ws)[i]? = some v) : ∃ w, v = .ref w.1 ∧ ws[i]? = some w := by
  rw [show fr ws = ws.map fun w => V.ref w.1 from rfl, List.getElem?_map] at h
  cases e : ws[i]? with
  | none =>
    rw [e] at h
    cases h
  | some w =>
    rw [e] at h
    exact ⟨w, (Option.some.inj h).symm, rfl⟩
theorem fr_at {ws : List (Addr × Rat)} {i : Nat} {r : Rat} (h : (ws.map (·.2))[i]? = some r) : ∃ t, (fr ws)[i]? = some (.ref t) ∧ (t, r) ∈ ws := by
  rw [List.getElem?_map] at h
  cases e : ws[i]? with
  | none =>
    rw [e] at h
    cases h
  | some w =>
    rw [e] at h
    have : w.2 = r := Option.some.inj h
    subst this
    refine ⟨w.1, ?_, List.mem_of_getElem? e⟩
    rw [show fr ws = ws.map fun w => V.ref w.1 from rfl, List.getElem?_map, e]
    rfl
theorem dpAll {K : PySem.W.Frag} {H : Hp} : ∀ {ws : List (Addr × Rat)}, Rx K H ws → DpAll K H (fr ws) ((ws.map (·.2)).map pdr)
  | [], _ => .nil
  | w :: ws, h => .cons (dpr (h w List.mem_cons_self)) (dpAll fun x hx => h x (List.mem_cons_of_mem _ hx))
theorem eqvAllr : ∀ rs ss : List Rat, PyData.eqvAll (rs.map pdr) (ss.map pdr) = decide (rs = ss)
  | [], [] => rfl
  | [], _ :: _ => rfl
  | _ :: _, [] => rfl
  | r :: rs, s :: ss => by
    rw [List.map_cons, List.map_cons, PyData.eqvAll, eqvr, eqvAllr rs ss]
    by_cases h1 : r = s
    · by_cases h2 : rs = ss
      · simp [h1, h2]
      · simp [h1, h2]
    · simp [h1]
theorem shr (rs : List Rat) : PyData.canLayAll0 (rs.map pdr) = true ∧ PyData.depthAll (rs.map pdr) ≤ 1 := by
  induction rs with
  | nil => decide
  | cons r rs ih =>
    rw [List.map_cons, PyData.canLayAll0, PyData.depthAll, ih.1]
    exact ⟨rfl, Nat.max_le.mpr ⟨Nat.le_refl 1, ih.2⟩⟩
theorem shrl (rs : List Rat) : SeqAt.shaped (.list (rs.map pdr)) = true := by
  have h1 := (shr rs).1
  have h2 := (shr rs).2
  unfold SeqAt.shaped
  rw [PyData.canLay0, PyData.depth, h1, decide_eq_true (by omega)]
  rfl
theorem shrt (rs : List Rat) : SeqAt.shaped (.tuple (rs.map pdr)) = true := by
  have h1 := (shr rs).1
  have h2 := (shr rs).2
  unfold SeqAt.shaped
  rw [PyData.canLay0, PyData.depth, h1, decide_eq_true (by omega)]
  rfl
/-- a value along parameters: its base, its slopes -/
def Vx (K : PySem.W.Frag) (H : Hp) (t : Addr) (b : Rat) (ss : List Rat) : Prop := ∃ (p q : Addr) (ws : List (Addr × Rat)), SqT K H t [.ref p, .ref q] ∧ Fx K H p b ∧ SqT K H q (fr ws) ∧ Rx K H ws ∧ ws.map (·.2) = ss
theorem Vx.same {K : PySem.W.Frag} {H H' : Hp} {t : Addr} {b : Rat} {ss : List Rat} (h : Vx K H t b ss) (s : Same H H') : Vx K H' t b ss := by
  obtain ⟨p, q, ws, h1, h2, h3, h4, h5⟩ := h
  exact ⟨p, q, ws, same_tup s h1, h2.same s, same_tup s h3, h4.same s, h5⟩
def pdv (b : Rat) (ss : List Rat) : PyData := .tuple [pdr b, .tuple (ss.map pdr)]
theorem dpv {K : PySem.W.Frag} {H : Hp} {t : Addr} {b : Rat} {ss : List Rat} (h : Vx K H t b ss) : Dp K H (.ref t) (pdv b ss) := by
  obtain ⟨p, q, ws, h1, h2, h3, h4, rfl⟩ := h
  exact .tup h1 (.cons (dpr h2) (.cons (.tup h3 (dpAll h4)) .nil))
theorem eqvv (b c : Rat) (ss us : List Rat) : PyData.eqv (pdv b ss) (pdv c us) = decide (b = c ∧ ss = us) := by
  unfold pdv
  rw [PyData.eqv, PyData.eqvAll, PyData.eqvAll, PyData.eqvAll, eqvr, PyData.eqv, eqvAllr]
  by_cases h1 : b = c
  · by_cases h2 : ss = us
    · simp [h1, h2]
    · simp [h1, h2]
  · simp [h1]
theorem shv (b : Rat) (ss : List Rat) : SeqAt.shaped (pdv b ss) = true := by
  have h1 := (shr ss).1
  have h2 := (shr ss).2
  unfold SeqAt.shaped pdv
  simp only [PyData.canLay0, PyData.canLayAll0, PyData.depth, PyData.depthAll, h1, pdr, pd2]
  simp
  omega
theorem sh1 (r : Rat) : SeqAt.shaped (pdr r) = true := rfl
theorem over_tup {K : PySem.W.Frag} {H H' : Hp} {t D : Addr} {xs ys : List V} (h : SqT K H t xs) (hl : H D = some (.lst ys)) (s : ∀ b o, b ≠ D → H b = some o → H' b = some o) : SqT K H' t xs := by
  rcases h with (h | ⟨ob, h⟩) | h
  · exact .inl (.inl (s _ _ (ne_of h hl (by intro z; cases z)) h))
  · exact .inl (.inr ⟨ob, s _ _ (ne_of h hl (by intro z; cases z)) h⟩)
  · exact .inr h
/-- a comprehension whose elements are fractions: those of L -/
theorem lc_row {K : PySem.W.Frag} {J : It} {n : Nat} {G : Hp → Prop} {Y : Nat → Hp → V → Hp → Prop} (w : Walk J n G Y) (L : List Rat) (hL : L.length = n) (hz : n ≤ 1000)
    {g : TG} {te : TE} {vs : List Nat} {σ : L2.St} {H1 : Hp} {D : Addr} {Qd : Hp → Prop} (hD : H1 D = none) (hG : ∀ H, Same H1 H → G H)
    (hs : ∀ i r x H H' (k : V → Hp → Prop), L[i]? = some r → Same H1 H → Y i H x H' → (∀ t H4, Same H H4 → Fx K H4 t r → k (.ref t) H4) → g x (wipe σ vs) H' fun σ2 H2 => wipe σ2 vs = wipe σ vs ∧ te σ2 H2 k)
    (hd : ∀ H ws, Same H1 H → H D = some (.lst (fr ws)) → Rx K H ws → ws.map (·.2) = L → Qd H) :
    ∃ W : Nat → Nat → Hp → Prop, (∃ m, W 0 m (upd H1 D (.lst []))) ∧ ∀ i m H, W i m H →
      (J.stop i H ∧ Qd H) ∨ (J.go i H ∧ ∃ Nx : Hp → Prop, (∀ H', Nx H' → ∃ m', m' < m ∧ W (i + 1) m' H') ∧ ∀ x H', J.yld i H x H' → g x (wipe σ vs) H' fun σ2 H2 => wipe σ2 vs = wipe σ vs ∧ tYes σ2 H2 fun b H3 =>
        if b = true then te σ2 H3 fun y H4 => ∃ acc, H4 D = some (.lst acc) ∧ acc.length < sizeLine ∧ Nx (upd H4 D (.lst (acc ++ [y]))) else Nx H3) := by
  subst hL
  refine lc_it w (fun i H => Same H1 H ∧ ∃ ws, H D = some (.lst (fr ws)) ∧ Rx K H ws ∧ ws.map (·.2) = L.take i) ⟨same_upd hD, [], upd_same, (fun _ z => nomatch z), rfl⟩ (fun i H _ h => hG H h.1) ?_ ?_
  · rintro i x H H' hi ⟨s1, ws, e1, r1, m1⟩ y
    have hr : L[i]? = some L[i] := List.getElem?_eq_getElem hi
    have q := hs i L[i] x H H' (fun y H4 => ∃ acc, H4 D = some (.lst acc) ∧ acc.length < sizeLine ∧ (fun H => Same H1 H ∧ ∃ ws, H D = some (.lst (fr ws)) ∧ Rx K H ws ∧ ws.map (·.2) = L.take (i + 1)) (upd H4 D (.lst (acc ++ [y])))) hr s1 y (fun t H4 s4 f4 => ?_)
    · refine Eq.mp (congrArg (g x (wipe σ vs) H') ?_) q
      funext σ2 H2
      simp [tYes]
    · have e4 := s4 _ _ e1
      have hlen : ws.length = (L.take i).length := by rw [← m1, List.length_map]
      rw [List.length_take] at hlen
      refine ⟨fr ws, e4, ?_, fun b o e => ?_, ws ++ [(t, L[i])], ?_, fun v hv => ?_, ?_⟩
      · rw [fr_len]
        exact small1000 (by omega)
      · rw [upd_ne (ne_of_none e hD)]
        exact s4 _ _ (s1 _ _ e)
      · rw [upd_same, show fr (ws ++ [(t, L[i])]) = fr ws ++ [.ref t] from List.map_append]
      · rcases List.mem_append.mp hv with h | h
        · exact over_tup ((r1.same s4) v h) e4 fun b o hb e => by rw [upd_ne hb]; exact e
        · rw [List.mem_singleton.mp h]
          exact over_tup f4 e4 fun b o hb e => by rw [upd_ne hb]; exact e
      · rw [List.map_append, m1, List.take_add_one, hr]
        rfl
  · rintro H ⟨s1, ws, e1, r1, m1⟩
    rw [List.take_length] at m1
    exact hd H ws s1 e1 r1 m1
/-- a comprehension whose elements are plain values: those of L -/
theorem lc_val {J : It} {n : Nat} {G : Hp → Prop} {Y : Nat → Hp → V → Hp → Prop} (w : Walk J n G Y) (L : List V) (hL : L.length = n) (hz : n ≤ 1000)
    {g : TG} {te : TE} {vs : List Nat} {σ : L2.St} {H1 : Hp} {D : Addr} {Qd : Hp → Prop} (hD : H1 D = none) (hG : ∀ H, Same H1 H → G H)
    (hs : ∀ i r x H H' (k : V → Hp → Prop), L[i]? = some r → Same H1 H → Y i H x H' → (∀ H4, Same H H4 → k r H4) → g x (wipe σ vs) H' fun σ2 H2 => wipe σ2 vs = wipe σ vs ∧ te σ2 H2 k)
    (hd : ∀ H, Same H1 H → H D = some (.lst L) → Qd H) :
    ∃ W : Nat → Nat → Hp → Prop, (∃ m, W 0 m (upd H1 D (.lst []))) ∧ ∀ i m H, W i m H →
      (J.stop i H ∧ Qd H) ∨ (J.go i H ∧ ∃ Nx : Hp → Prop, (∀ H', Nx H' → ∃ m', m' < m ∧ W (i + 1) m' H') ∧ ∀ x H', J.yld i H x H' → g x (wipe σ vs) H' fun σ2 H2 => wipe σ2 vs = wipe σ vs ∧ tYes σ2 H2 fun b H3 =>
        if b = true then te σ2 H3 fun y H4 => ∃ acc, H4 D = some (.lst acc) ∧ acc.length < sizeLine ∧ Nx (upd H4 D (.lst (acc ++ [y]))) else Nx H3) := by
  subst hL
  refine lc_it w (fun i H => Same H1 H ∧ H D = some (.lst (L.take i))) ⟨same_upd hD, upd_same⟩ (fun i H _ h => hG H h.1) ?_ ?_
  · rintro i x H H' hi ⟨s1, e1⟩ y
    have hr : L[i]? = some L[i] := List.getElem?_eq_getElem hi
    have q := hs i L[i] x H H' (fun y H4 => ∃ acc, H4 D = some (.lst acc) ∧ acc.length < sizeLine ∧ (fun H => Same H1 H ∧ H D = some (.lst (L.take (i + 1)))) (upd H4 D (.lst (acc ++ [y])))) hr s1 y (fun H4 s4 => ?_)
    · refine Eq.mp (congrArg (g x (wipe σ vs) H') ?_) q
      funext σ2 H2
      simp [tYes]
    · have e4 := s4 _ _ e1
      refine ⟨L.take i, e4, ?_, fun b o e => ?_, ?_⟩
      · rw [List.length_take]
        exact small1000 (by omega)
      · rw [upd_ne (ne_of_none e hD)]
        exact s4 _ _ (s1 _ _ e)
      · rw [upd_same, List.take_add_one, hr]
        rfl
  · rintro H ⟨s1, e1⟩
    rw [List.take_length] at e1
    exact hd H s1 e1
def sumR (l : List Rat) : Rat := l.foldl (· + ·) 0
theorem foldl_sum (b : Rat) (l : List Rat) : l.foldl (· + ·) b = b + sumR l := by
  unfold sumR
  induction l generalizing b with
  | nil => exact (Rat.add_zero b).symm
  | cons x l ih =>
    rw [List.foldl_cons, List.foldl_cons, ih, ih (0 + x)]
    grind
theorem sum_bd {n : Nat} {l : List Rat} (h : ∀ r ∈ l, Bd n r) : ∀ i ≤ l.length, Bd (1 + (n + 1) * i) (sumR (l.take i)) := by
  intro i
  induction i with
  | zero =>
    intro _
    exact bd_zero
  | succ i ih =>
    intro hi
    have e : l[i]? = some l[i] := List.getElem?_eq_getElem (by omega)
    have b1 := ih (by omega)
    have b2 := h l[i] (List.getElem_mem _)
    have e2 : sumR (l.take (i + 1)) = sumR (l.take i) + l[i] := by
      unfold sumR
      rw [List.take_add_one, e, List.foldl_append]
      rfl
    rw [e2]
    refine (b1.add b2).up ?_
    rw [Nat.mul_succ]
    omega

section
open PySem PySem.Spec PyProof.Rows
/-- a tuple, once: itself -/
theorem mul_once (l : Addr) (its : Array Value) (n : Nat) (dt : Option Addr) (sl : Array (Option Value)) (u : Tok) :
    Meets (Builtin.«tuple.__mul__» ⟨[.ref l, .int 1 u], []⟩) (fun _ R s => s.heap.get? l = some { cls := .type "tuple", dict := dt, data := .seq its n, slots := sl } ∧ R (.ok (.ret (Value.ref l))) s) :=
  .of_wp fun prog w A R s h => by
    obtain ⟨hp, g, dw, tk, os⟩ := s; obtain ⟨hl, h⟩ := h
    have ix := AutoSeq1.idx_int
    wp_walk using wpAny_loadPart' hl
    exact ⟨_, rfl, h⟩
/-- a tuple, no times: an empty one -/
theorem mul_none (l : Addr) (its : Array Value) (n : Nat) (dt : Option Addr) (sl : Array (Option Value)) (u : Tok) (hi : its.isEmpty = false) :
    Meets (Builtin.«tuple.__mul__» ⟨[.ref l, .int 0 u], []⟩) (fun _ R s => s.heap.get? l = some { cls := .type "tuple", dict := dt, data := .seq its n, slots := sl } ∧
      R (.ok (.ret (Value.ref s.heap.objs.size))) { s with heap := s.heap.push { cls := Value.type "tuple", data := Data.seq #[] }, toks := s.toks }) :=
  .of_wp fun prog w A R s h => by
    obtain ⟨hp, g, dw, tk, os⟩ := s; obtain ⟨hl, h⟩ := h
    have ix := AutoSeq1.idx_int
    have c1 : (its.isEmpty || (0 : Int) == 1) = false := by rw [hi]; rfl
    wp_walk using wpAny_loadPart' hl
    repeat (first
      | (refine wpAny_ite_false (decide_eq_false (by rw [c1]; exact Bool.false_ne_true)) ?_; wp_walk using wpAny_loadPart' hl))
    exact ⟨_, rfl, h⟩
section
variable {X : Cx}
theorem op_mulOnce : OpR X (binaryOp .Mult) (fun x y H Q => ∃ l xs, x = .ref l ∧ y = .int 1 ∧ SqT X.K H l xs ∧ Q (.ref l) H) := by
  intro pins s σ H x y v u Q I rx ry hh
  obtain ⟨l, xs, rfl, rfl, hT, q⟩ := hh
  obtain rfl : v = .ref l := rx
  obtain ⟨tk1, rfl⟩ := ry
  obtain ⟨its, r, ⟨⟨kl, dt, da, sl⟩, ho, hc, n, hd⟩, _⟩ := I.tuple hT
  dsimp only at hc hd; subst hc hd
  exact wpAny_binaryOp_repeat_ref (T := "tuple") (U := "int") (by decide) ⟨_, ho, rfl⟩ (fun s' => typeIs_int s' 1 tk1) noFill_tuple_mul F.fills_int_mul F.slot_int_rmul repeat_tuple F.slot_int_index.lookup
    (call_meets F.slot_int_rmul (typeIs_int s 1 tk1) F.entry_int_rmul (F.args_int_rmul_2 _ _) (int_rmul_tuple 1 tk1 l its.toArray n dt sl)
      ⟨ho, rfl, ⟨_, ho, rfl⟩, call_meets F.slot_tuple_mul ⟨_, ho, rfl⟩ F.entry_tuple_mul (F.args_tuple_mul_2 _ _) (mul_once l its.toArray n dt sl tk1) ⟨ho, ⟨.ref l, H, I, rfl, q⟩⟩⟩)
theorem op_mulNone : OpR X (binaryOp .Mult) (fun x y H Q => ∃ l xs, x = .ref l ∧ y = .int 0 ∧ SqT X.K H l xs ∧ xs ≠ [] ∧ ∀ p, H p = none → Q (.ref p) (upd H p (.tup []))) := by
  intro pins s σ H x y v u Q I rx ry hh
  obtain ⟨l, xs, rfl, rfl, hT, hne, q⟩ := hh
  obtain rfl : v = .ref l := rx
  obtain ⟨tk1, rfl⟩ := ry
  obtain ⟨its, r, ⟨⟨kl, dt, da, sl⟩, ho, hc, n, hd⟩, _⟩ := I.tuple hT
  dsimp only at hc hd; subst hc hd
  have hi : its.toArray.isEmpty = false := by
    cases r with
    | nil => exact absurd rfl hne
    | cons _ _ => rfl
  exact wpAny_binaryOp_repeat_ref (T := "tuple") (U := "int") (by decide) ⟨_, ho, rfl⟩ (fun s' => typeIs_int s' 0 tk1) noFill_tuple_mul F.fills_int_mul F.slot_int_rmul repeat_tuple F.slot_int_index.lookup
    (call_meets F.slot_int_rmul (typeIs_int s 0 tk1) F.entry_int_rmul (F.args_int_rmul_2 _ _) (int_rmul_tuple 0 tk1 l its.toArray n dt sl)
      ⟨ho, rfl, ⟨_, ho, rfl⟩, call_meets F.slot_tuple_mul ⟨_, ho, rfl⟩ F.entry_tuple_mul (F.args_tuple_mul_2 _ _) (mul_none l its.toArray n dt sl tk1 hi) ⟨ho,
        ⟨.ref s.heap.objs.size, _, I.laid (t' := s.toks) (o := .tup []) (fun b ob e => Heap.get?_push_of_some _ e) (Nat.le_refl _) ⟨by show 0 ≤ sizeLine; decide, [], .nil, IsTup.new _ _⟩, rfl, q _ (I.hok.fresh (Nat.le_refl _))⟩⟩⟩)
end
end

def Bz (n : Nat) (x : Int) : Prop := x.natAbs < 2 ^ n
theorem Bz.up {n m : Nat} {x : Int} (h : Bz n x) (hm : n ≤ m) : Bz m x := Nat.lt_of_lt_of_le h (Nat.pow_le_pow_right (by decide) hm)
theorem Bz.mul {n m : Nat} {x y : Int} (h : Bz n x) (h2 : Bz m y) : Bz (n + m) (x * y) := wide_lt h h2
theorem Bz.neg {n : Nat} {x : Int} (h : Bz n x) : Bz n (-x) := by
  unfold Bz
  rw [Int.natAbs_neg]
  exact h
theorem Bz.add {n m : Nat} {x y : Int} (h : Bz n x) (h2 : Bz m y) : Bz (max n m + 1) (x + y) := by
  have a1 := h.up (Nat.le_max_left n m)
  have a2 := h2.up (Nat.le_max_right n m)
  unfold Bz at *
  rw [Nat.pow_succ]
  have := Int.natAbs_add_le x y
  omega
theorem Bz.sub {n m : Nat} {x y : Int} (h : Bz n x) (h2 : Bz m y) : Bz (max n m + 1) (x - y) := h.add h2.neg
theorem Bz.wide {n m : Nat} {x y : Int} (h : Bz n x) (h2 : Bz m y) (hn : n + m ≤ 900000) : CMulW x y :=
  wide_mul (h.up (Nat.le_succ n)) (h2.up (Nat.le_succ m)) (Nat.succ_pos _) (Nat.succ_pos _) (by omega)
theorem Bd.nz {n : Nat} {r : Rat} (h : Bd n r) : Bz n r.num := h.1
theorem Bd.dz {n : Nat} {r : Rat} (h : Bd n r) : Bz n (r.den : Int) := h.2
theorem bz_of {n : Nat} {x : Int} (h : x.natAbs < 2 ^ n) : Bz n x := h
theorem bz_lt {n : Nat} {x : Int} {b : Nat} (hb : b ≤ 2 ^ n) (h : x.natAbs < b) : Bz n x := Nat.lt_of_lt_of_le h hb
theorem bd_div {n d : Int} {k : Nat} (hd : d ≠ 0) (h1 : Bz k n) (h2 : Bz k d) : Bd k (Rat.divInt n d) := bd_of hd h1 h2
theorem tn {n : Nat} (h : Nat.ble n 1000 = true) : n ≤ sizeLine := Nat.le_trans (Nat.le_of_ble_eq_true h) (by decide)
theorem same_hu {H H' : Hp} {p : Addr} {o : HO} (h : upd H p o = H') (n : H p = none) : Same H H' := h ▸ same_upd n
theorem at_hu {H H' : Hp} {p : Addr} {o : HO} (h : upd H p o = H') : H' p = some o := h ▸ upd_same
theorem same_tr {H H1 H2 : Hp} (h2 : Same H1 H2) (h1 : Same H H1) : Same H H2 := h1.trans h2
theorem fx_up {K : PySem.W.Frag} {H H' : Hp} {a : Addr} {r : Rat} (s : Same H H') (h : Fx K H a r) : Fx K H' a r := h.same s
theorem vx_up {K : PySem.W.Frag} {H H' : Hp} {a : Addr} {r : Rat} {ss : List Rat} (s : Same H H') (h : Vx K H a r ss) : Vx K H' a r ss := h.same s
theorem seq_up {K : PySem.W.Frag} {H H' : Hp} {a : Addr} {xs : List V} (s : Same H H') (h : SqL K H a xs) : SqL K H' a xs := s.seq h
local macro_rules | `(tactic| walk_at "ss") => `(tactic| first | exact Same.refl _ | assumption | exact same_tr (by assumption) (by walk_at "ss"))
local macro_rules | `(tactic| walk_at "bz") => `(tactic| first | assumption | exact Bd.nz (by assumption) | exact Bd.dz (by assumption) | exact Bz.mul (by walk_at "bz") (by walk_at "bz") | exact Bz.add (by walk_at "bz") (by walk_at "bz") | exact Bz.sub (by walk_at "bz") (by walk_at "bz") | exact Bz.neg (by walk_at "bz") | exact bz_of (n := 1) (by decide) | exact bz_of (n := 4) (by decide)| exact bz_of (n := 8) (by decide)| exact bz_of (n := 20) (by decide))
local macro_rules | `(tactic| walk_at "sm0") => `(tactic| assumption)
local macro_rules | `(tactic| walk_at "sm1") => `(tactic| first | assumption | exact same_tup (by assumption) (by walk_at "sm0"))
local macro_rules | `(tactic| walk_at "sm2") => `(tactic| first | assumption | exact same_tup (by assumption) (by walk_at "sm1"))
local macro_rules | `(tactic| walk_at "sm3") => `(tactic| first | assumption | exact same_tup (by assumption) (by walk_at "sm2"))
local macro_rules | `(tactic| walk_at "sm4") => `(tactic| first | assumption | exact same_tup (by assumption) (by walk_at "sm3"))
local macro_rules | `(tactic| walk_at "sm5") => `(tactic| first | assumption | exact same_tup (by assumption) (by walk_at "sm4"))
local macro_rules | `(tactic| walk_at "sm6") => `(tactic| first | assumption | exact same_tup (by assumption) (by walk_at "sm5"))
local macro_rules | `(tactic| walk_at "sm7") => `(tactic| first | assumption | exact same_tup (by assumption) (by walk_at "sm6"))
local macro_rules | `(tactic| walk_at "sm") => `(tactic| walk_at "sm7")
local macro_rules | `(tactic| walk_at "sf0") => `(tactic| assumption)
local macro_rules | `(tactic| walk_at "sf1") => `(tactic| first | assumption | exact fx_up (by assumption) (by walk_at "sf0") | exact vx_up (by assumption) (by walk_at "sf0") | exact seq_up (by assumption) (by walk_at "sf0"))
local macro_rules | `(tactic| walk_at "sf2") => `(tactic| first | assumption | exact fx_up (by assumption) (by walk_at "sf1") | exact vx_up (by assumption) (by walk_at "sf1") | exact seq_up (by assumption) (by walk_at "sf1"))
local macro_rules | `(tactic| walk_at "sf3") => `(tactic| first | assumption | exact fx_up (by assumption) (by walk_at "sf2") | exact vx_up (by assumption) (by walk_at "sf2") | exact seq_up (by assumption) (by walk_at "sf2"))
local macro_rules | `(tactic| walk_at "sf4") => `(tactic| first | assumption | exact fx_up (by assumption) (by walk_at "sf3") | exact vx_up (by assumption) (by walk_at "sf3") | exact seq_up (by assumption) (by walk_at "sf3"))
local macro_rules | `(tactic| walk_at "sf5") => `(tactic| first | assumption | exact fx_up (by assumption) (by walk_at "sf4") | exact vx_up (by assumption) (by walk_at "sf4") | exact seq_up (by assumption) (by walk_at "sf4"))
local macro_rules | `(tactic| walk_at "sf6") => `(tactic| first | assumption | exact fx_up (by assumption) (by walk_at "sf5") | exact vx_up (by assumption) (by walk_at "sf5") | exact seq_up (by assumption) (by walk_at "sf5"))
local macro_rules | `(tactic| walk_at "sf7") => `(tactic| first | assumption | exact fx_up (by assumption) (by walk_at "sf6") | exact vx_up (by assumption) (by walk_at "sf6") | exact seq_up (by assumption) (by walk_at "sf6"))
local macro_rules | `(tactic| walk_at "sf") => `(tactic| walk_at "sf7")
local macro_rules | `(tactic| walk_at "go") => `(tactic| repeat (first | refine ⟨_, rfl, ?_⟩ | refine ⟨rfl, ?_⟩ | refine ⟨_, _, rfl, rfl, ?_⟩ | refine ⟨Bz.wide (by walk_at "bz") (by walk_at "bz") (by decide), ?_⟩ | refine ⟨_, _, _, _, rfl, rfl, (by walk_at "sm"), atI_nat (j := 0) (by rfl), ?_⟩ | refine ⟨_, _, _, _, rfl, rfl, (by walk_at "sm"), atI_nat (j := 1) (by rfl), ?_⟩ | refine ⟨_, _, _, _, rfl, rfl, (by walk_at "sm"), atI_nat (j := 2) (by rfl), ?_⟩ | refine ⟨_, _, _, _, rfl, rfl, (by walk_at "sm"), atI_nat (j := 3) (by rfl), ?_⟩ | refine ⟨_, _, rfl, (by walk_at "sm"), (by rfl), ?_⟩ | refine ⟨⟨by decide, by decide⟩, ?_⟩ | refine ⟨(by show (0 : Int) < _; decide), ?_⟩ | refine ⟨Or.inr ⟨by decide, by decide⟩, ?_⟩ | refine ⟨Or.inl ⟨by decide, by decide⟩, ?_⟩ | refine Or.inl ⟨_, rfl, ?_⟩ | refine And.intro (by assumption) ?_ | refine ⟨_, _, rfl, ?_⟩))
/-- a comprehension whose elements are things of a kind R that stands while nothing but the new list changes -/
theorem lc_obj {J : It} {n : Nat} {G : Hp → Prop} {Y : Nat → Hp → V → Hp → Prop} (w : Walk J n G Y) (R : Nat → Hp → V → Prop)
    (stab : ∀ {i H H' v D acc}, R i H v → H D = some (.lst acc) → (∀ b o, b ≠ D → H b = some o → H' b = some o) → R i H' v) (hz : n ≤ 1000)
    {g : TG} {te : TE} {vs : List Nat} {σ : L2.St} {H1 : Hp} {D : Addr} {Qd : Hp → Prop} (hD : H1 D = none) (hG : ∀ H, Same H1 H → G H)
    (hs : ∀ i x H H' (k : V → Hp → Prop), i < n → Same H1 H → Y i H x H' → (∀ v H4, Same H H4 → R i H4 v → k v H4) → g x (wipe σ vs) H' fun σ2 H2 => wipe σ2 vs = wipe σ vs ∧ te σ2 H2 k)
    (hd : ∀ H us, Same H1 H → H D = some (.lst us) → us.length = n → (∀ i v, us[i]? = some v → R i H v) → Qd H) :
    ∃ W : Nat → Nat → Hp → Prop, (∃ m, W 0 m (upd H1 D (.lst []))) ∧ ∀ i m H, W i m H →
      (J.stop i H ∧ Qd H) ∨ (J.go i H ∧ ∃ Nx : Hp → Prop, (∀ H', Nx H' → ∃ m', m' < m ∧ W (i + 1) m' H') ∧ ∀ x H', J.yld i H x H' → g x (wipe σ vs) H' fun σ2 H2 => wipe σ2 vs = wipe σ vs ∧ tYes σ2 H2 fun b H3 =>
        if b = true then te σ2 H3 fun y H4 => ∃ acc, H4 D = some (.lst acc) ∧ acc.length < sizeLine ∧ Nx (upd H4 D (.lst (acc ++ [y]))) else Nx H3) := by
  refine lc_it w (fun i H => Same H1 H ∧ ∃ us, H D = some (.lst us) ∧ us.length = i ∧ ∀ j v, us[j]? = some v → R j H v) ⟨same_upd hD, [], upd_same, rfl, (fun j v h => by simp at h)⟩ (fun i H _ h => hG H h.1) ?_ ?_
  · rintro i x H H' hi ⟨s1, us, e1, l1, r1⟩ y
    have q := hs i x H H' (fun y H4 => ∃ acc, H4 D = some (.lst acc) ∧ acc.length < sizeLine ∧ (fun H => Same H1 H ∧ ∃ us, H D = some (.lst us) ∧ us.length = i + 1 ∧ ∀ j v, us[j]? = some v → R j H v) (upd H4 D (.lst (acc ++ [y])))) hi s1 y (fun v H4 s4 f4 => ?_)
    · refine Eq.mp (congrArg (g x (wipe σ vs) H') ?_) q
      funext σ2 H2
      simp [tYes]
    · have e4 := s4 _ _ e1
      refine ⟨us, e4, small1000 (by omega), fun b o e => ?_, us ++ [v], upd_same, by rw [List.length_append, l1]; rfl, fun j u hu => ?_⟩
      · rw [upd_ne (ne_of_none e hD)]
        exact s4 _ _ (s1 _ _ e)
      · by_cases hj : j < i
        · rw [List.getElem?_append_left (by omega)] at hu
          have hf := stab (r1 j u hu) e1 (fun b o _ e => s4 b o e)
          exact stab hf e4 fun b o hb e => by rw [upd_ne hb]; exact e
        · have hj2 : j < (us ++ [v]).length := (List.getElem?_eq_some_iff.mp hu).1
          rw [List.length_append, l1] at hj2
          have hj3 : j = i := by
            simp at hj2
            omega
          subst hj3
          rw [List.getElem?_append_right (by omega), l1, Nat.sub_self] at hu
          obtain rfl : v = u := Option.some.inj hu
          exact stab f4 e4 fun b o hb e => by rw [upd_ne hb]; exact e
  · rintro H ⟨s1, us, e1, l1, r1⟩
    exact hd H us s1 e1 l1 r1
theorem over_fx {K : PySem.W.Frag} {H H' : Hp} {t D : Addr} {r : Rat} {ys : List V} (h : Fx K H t r) (hl : H D = some (.lst ys)) (s : ∀ b o, b ≠ D → H b = some o → H' b = some o) : Fx K H' t r := over_tup h hl s
theorem over_vx {K : PySem.W.Frag} {H H' : Hp} {t D : Addr} {b : Rat} {ss : List Rat} {ys : List V} (h : Vx K H t b ss) (hl : H D = some (.lst ys)) (s : ∀ b o, b ≠ D → H b = some o → H' b = some o) : Vx K H' t b ss := by
  obtain ⟨p, q, ws, h1, h2, h3, h4, h5⟩ := h
  exact ⟨p, q, ws, over_tup h1 hl s, over_tup h2 hl s, over_tup h3 hl s, fun w hw => over_tup (h4 w hw) hl s, h5⟩

theorem zw_get {xs us : List Rat} {i : Nat} (h : i < xs.length) (h2 : i < us.length) : (List.zipWith (fun r s => r * s) xs us)[i]? = some (xs[i] * us[i]) := by
  rw [List.getElem?_zipWith, List.getElem?_eq_getElem h, List.getElem?_eq_getElem h2]
theorem zw_bd {n : Nat} {xs us : List Rat} (h1 : ∀ r ∈ xs, Bd n r) (h2 : ∀ r ∈ us, Bd n r) : ∀ r ∈ List.zipWith (fun r s => r * s) xs us, Bd (n + n) r := by
  induction xs generalizing us with
  | nil =>
    intro r hr
    cases us <;> cases hr
  | cons x xs ih =>
    cases us with
    | nil =>
      intro r hr
      cases hr
    | cons u us =>
      intro r hr
      rw [List.zipWith_cons_cons] at hr
      rcases List.mem_cons.mp hr with rfl | h
      · exact (h1 x List.mem_cons_self).mul (h2 u List.mem_cons_self)
      · exact ih (fun r hr => h1 r (List.mem_cons_of_mem _ hr)) (fun r hr => h2 r (List.mem_cons_of_mem _ hr)) r h
theorem take_sum {l : List Rat} {i : Nat} {r : Rat} (h : l[i]? = some r) : sumR (l.take (i + 1)) = sumR (l.take i) + r := by
  unfold sumR
  rw [List.take_add_one, h, List.foldl_append]
  rfl
theorem eqvv_self (b : Rat) (ss : List Rat) : PyData.eqv (pdv b ss) (pdv b ss) = true := by
  rw [eqvv]
  exact decide_eq_true ⟨rfl, rfl⟩
theorem eqvr_self (b : Rat) : PyData.eqv (pdr b) (pdr b) = true := by
  rw [eqvr]
  exact decide_eq_true rfl
theorem eqvl_self (ss : List Rat) : PyData.eqv (.list (ss.map pdr)) (.list (ss.map pdr)) = true := by
  rw [PyData.eqv, eqvAllr]
  exact decide_eq_true rfl
theorem zw_some {op : Rat → Rat → Rat} {xs ys : List Rat} {i : Nat} {c : Rat} (h : (List.zipWith op xs ys)[i]? = some c) : ∃ x y, xs[i]? = some x ∧ ys[i]? = some y ∧ op x y = c := by
  rw [List.getElem?_zipWith] at h
  cases e1 : xs[i]? with
  | none =>
    rw [e1] at h
    cases h
  | some x =>
    cases e2 : ys[i]? with
    | none =>
      rw [e1, e2] at h
      cases h
    | some y =>
      rw [e1, e2] at h
      exact ⟨x, y, rfl, rfl, Option.some.inj h⟩
theorem sum_cons (x : Rat) (l : List Rat) : sumR (x :: l) = x + sumR l := by
  show (x :: l).foldl (· + ·) 0 = _
  rw [List.foldl_cons, foldl_sum, Rat.zero_add]
theorem zw_add (us : List Rat) : ∀ {xs ys : List Rat}, xs.length = us.length → ys.length = us.length → sumR (List.zipWith (fun r s => r * s) (List.zipWith (fun r s => r + s) xs ys) us) = sumR (List.zipWith (fun r s => r * s) xs us) + sumR (List.zipWith (fun r s => r * s) ys us) := by
  induction us with
  | nil =>
    intro xs ys h1 h2
    rw [List.zipWith_nil_right, List.zipWith_nil_right, List.zipWith_nil_right]
    exact (Rat.add_zero 0).symm
  | cons u us ih =>
    intro xs ys h1 h2
    cases xs with
    | nil => cases h1
    | cons x xs =>
      cases ys with
      | nil => cases h2
      | cons y ys =>
        rw [List.zipWith_cons_cons, List.zipWith_cons_cons, List.zipWith_cons_cons, List.zipWith_cons_cons, sum_cons, sum_cons, sum_cons, ih (by simpa using h1) (by simpa using h2)]
        grind
theorem zw_sub (xs ys : List Rat) : List.zipWith (fun r s => r + s) xs (ys.map fun y => -1 * y) = List.zipWith (fun r s => r - s) xs ys := by
  rw [List.zipWith_map_right]
  congr 1
  funext r s
  grind
theorem neg_map (ys : List Rat) : (ys.map fun y => -1 * y) = ys.map fun y => -y := by
  congr 1
  funext y
  grind
theorem ind_sum : ∀ (us : List Rat) (m : Nat) (f : Nat → Rat), (∀ i, i ≠ m → f i = 0) → f m = 1 → ∀ u, us[m]? = some u → sumR (List.zipWith (fun r s => r * s) ((List.range us.length).map f) us) = u := by
  have hz : ∀ (us : List Rat) (f : Nat → Rat), (∀ i, f i = 0) → sumR (List.zipWith (fun r s => r * s) ((List.range us.length).map f) us) = 0 := by
    intro us
    induction us with
    | nil => intro f _; rfl
    | cons u us ih =>
      intro f hf
      rw [List.length_cons, List.range_succ_eq_map, List.map_cons, List.zipWith_cons_cons, sum_cons, List.map_map, hf 0]
      rw [show (f ∘ Nat.succ) = fun i => f (i + 1) from rfl, ih (fun i => f (i + 1)) (fun i => hf (i + 1))]
      grind
  intro us
  induction us with
  | nil =>
    intro m f _ _ u h
    cases h
  | cons v us ih =>
    intro m f hf hm u h
    rw [List.length_cons, List.range_succ_eq_map, List.map_cons, List.zipWith_cons_cons, sum_cons, List.map_map, show (f ∘ Nat.succ) = fun i => f (i + 1) from rfl]
    cases m with
    | zero =>
      obtain rfl : v = u := Option.some.inj h
      rw [hm, hz us (fun i => f (i + 1)) (fun i => hf (i + 1) (by omega))]
      grind
    | succ m =>
      rw [ih m (fun i => f (i + 1)) (fun i hi => hf (i + 1) (by omega)) hm u h, hf 0 (by omega)]
      grind
theorem all_rep {xs : List Rat} {n : Nat} (h : xs.length = n) (x : Rat) : (decide (x = 0) && xs.all fun y => decide (y = 0)) = decide (x = 0 ∧ xs = List.replicate n 0) := by
  have e : (xs.all fun y => decide (y = 0)) = decide (xs = List.replicate n 0) := by
    rw [Bool.eq_iff_iff, List.all_eq_true, decide_eq_true_iff, List.eq_replicate_iff]
    constructor
    · exact fun g => ⟨h, fun b hb => of_decide_eq_true (g b hb)⟩
    · exact fun g b hb => decide_eq_true (g.2 b hb)
  rw [e]
  by_cases h1 : x = 0
  · by_cases h2 : xs = List.replicate n 0
    · simp [h1, h2]
    · simp [h1, h2]
  · simp [h1]
theorem at_bd {x : Rat} {xs us : List Rat} (bx : Bd 30 x) (h1 : ∀ r ∈ xs, Bd 30 r) (h2 : ∀ r ∈ us, Bd 30 r) (hl : xs.length ≤ 9) : Bd 800 (x + sumR (List.zipWith (fun r s => r * s) xs us)) := by
  have b := sum_bd (zw_bd h1 h2) _ (Nat.le_refl _)
  rw [List.take_length] at b
  exact (bx.add b).up (by rw [List.length_zipWith]; omega)
theorem fx_lit {K : PySem.W.Frag} {H : Hp} {a : Addr} {r : Rat} {p q : Int} (h : H a = some (.tup [.int p, .int q])) (h1 : r.num = p) (h2 : (r.den : Int) = q) : Fx K H a r := by
  subst h1 h2
  exact SqT.of h
theorem eqvbb (a b : Bool) : PyData.eqv (.bool a) (.bool b) = (a == b) := by simp [PyData.eqv]

theorem iteF' {b : Bool} {p q : Prop} (h : b = false) (hq : q) : if b = true then p else q := by
  rw [h, if_neg Bool.false_ne_true]
  exact hq
theorem iteT' {b : Bool} {p q : Prop} (h : b = true) (hp : p) : if b = true then p else q := by
  rw [h, if_pos rfl]
  exact hp

def Px (K : PySem.W.Frag) (H : Hp) (t : Addr) (r1 r2 r3 : Rat) : Prop := ∃ p q r : Addr, SqT K H t [.ref p, .ref q, .ref r] ∧ Fx K H p r1 ∧ Fx K H q r2 ∧ Fx K H r r3
theorem Px.same {K : PySem.W.Frag} {H H' : Hp} {t : Addr} {r1 r2 r3 : Rat} (h : Px K H t r1 r2 r3) (e : Same H H') : Px K H' t r1 r2 r3 := by
  obtain ⟨p, q, r, h1, h2, h3, h4⟩ := h
  exact ⟨p, q, r, same_tup e h1, h2.same e, h3.same e, h4.same e⟩
/-- the i-th of three -/
def th {α : Type} (a b c : α) : Nat → α
  | 0 => a
  | 1 => b
  | _ => c
theorem th_get {α : Type} {a b c : α} {i : Nat} {u : α} (h : [a, b, c][i]? = some u) : i < 3 ∧ u = th a b c i := by
  have hi : i < 3 := (List.getElem?_eq_some_iff.mp h).1
  refine ⟨hi, ?_⟩
  obtain rfl | rfl | rfl : i = 0 ∨ i = 1 ∨ i = 2 := by omega
  all_goals exact (Option.some.inj h).symm
theorem th_all {α : Type} {P : α → Prop} {a b c : α} (h1 : P a) (h2 : P b) (h3 : P c) (i : Nat) : P (th a b c i) := by
  unfold th
  split
  · exact h1
  · exact h2
  · exact h3
theorem div_one (n : Int) : Rat.divInt n 1 = (n : Rat) := by
  exact (Rat.divInt_ofNat n 1).trans (Rat.mkRat_one n)
theorem bd_int {n : Int} {k : Nat} (h : Bz k n) (hk : 0 < k) : Bd k (n : Rat) :=
  ⟨h, by
    show 1 < 2 ^ k
    exact Nat.one_lt_two_pow (by omega)⟩
theorem one3 {xs : List V} (h : xs.length = 3) : ∃ a b c, xs = [a, b, c] := by
  match xs, h with
  | [a, b, c], _ => exact ⟨a, b, c, rfl⟩
theorem one1 {xs : List V} (h : xs.length = 1) : ∃ a, xs = [a] := by
  match xs, h with
  | [a], _ => exact ⟨a, rfl⟩
/-- a point: its three fractions -/
structure Pt (K : PySem.W.Frag) (H : Hp) (t : Addr) (p1 q1 p2 q2 p3 q3 : Int) : Prop where
  ex : ∃ a b c : Addr, SqT K H t [.ref a, .ref b, .ref c] ∧ SqT K H a (zs [p1, q1]) ∧ SqT K H b (zs [p2, q2]) ∧ SqT K H c (zs [p3, q3])
  b1 : p1.natAbs < 2 ^ 100 ∧ p2.natAbs < 2 ^ 100 ∧ p3.natAbs < 2 ^ 100
  b2 : q1.natAbs < 2 ^ 100 ∧ q2.natAbs < 2 ^ 100 ∧ q3.natAbs < 2 ^ 100
  b3 : 0 < q1 ∧ 0 < q2 ∧ 0 < q3
theorem Pt.same {K : PySem.W.Frag} {H H' : Hp} {t : Addr} {p1 q1 p2 q2 p3 q3 : Int} (p : Pt K H t p1 q1 p2 q2 p3 q3) (s : Same H H') : Pt K H' t p1 q1 p2 q2 p3 q3 := by
  obtain ⟨a, b, c, h, h1, h2, h3⟩ := p.ex
  exact ⟨⟨a, b, c, same_tup s h, same_tup s h1, same_tup s h2, same_tup s h3⟩, p.b1, p.b2, p.b3⟩
/-- the product of a direction and a point, over one divisor -/
def rn (x y z p1 q1 p2 q2 p3 q3 : Int) : Int := x * p1 * q2 * q3 + y * p2 * q1 * q3 + z * p3 * q1 * q2
/-- a plane: its normal, its offset -/
structure Wl (K : PySem.W.Frag) (H : Hp) (w : Addr) (x y z p q : Int) : Prop where
  ex : ∃ u o : Addr, SqT K H w [.ref u, .ref o] ∧ SqT K H u (zs [x, y, z]) ∧ SqT K H o (zs [p, q])
theorem Wl.same {K : PySem.W.Frag} {H H' : Hp} {w : Addr} {x y z p q : Int} (h : Wl K H w x y z p q) (s : Same H H') : Wl K H' w x y z p q := by
  obtain ⟨u, o, h1, h2, h3⟩ := h.ex
  exact ⟨u, o, same_tup s h1, same_tup s h2, same_tup s h3⟩
/-- the side of a point: by its product brought to lowest terms -/
def sd (x y z p q p1 q1 p2 q2 p3 q3 : Int) : Int := sgn (rn x y z p1 q1 p2 q2 p3 q3 * q - p * (q1 * q2 * q3))
theorem sd_low {A B a b p q : Int} (f : Fr A B a b) (hB : 0 < B) (hq : 0 < q) : sgn ((a * q - p * b).fdiv (sg (a * q - p * b) (b * q))) = sgn (A * q - p * B) := by
  have b0 := f.q0
  rw [sgn_low (Int.mul_pos b0 hq)]
  have h1 : 0 < sg A B := sg_pos hB
  have e1 := f.hp
  have e2 := f.hq
  rw [← sgn_mul (a := a * q - p * b) h1]
  congr 1
  grind
theorem sd_low2 {A B a b p q : Int} (f : Fr A B a b) (hB : 0 < B) : sgn (a * q - p * b) = sgn (A * q - p * B) := by
  have h1 : 0 < sg A B := sg_pos hB
  have e1 := f.hp
  have e2 := f.hq
  rw [← sgn_mul (a := a * q - p * b) h1]
  congr 1
  grind
theorem rn_lt {x y z p1 q1 p2 q2 p3 q3 : Int} (bx : x.natAbs < 2 ^ 100) (bY : y.natAbs < 2 ^ 100) (bz : z.natAbs < 2 ^ 100) (h1 : p1.natAbs < 2 ^ 100 ∧ p2.natAbs < 2 ^ 100 ∧ p3.natAbs < 2 ^ 100) (h2 : q1.natAbs < 2 ^ 100 ∧ q2.natAbs < 2 ^ 100 ∧ q3.natAbs < 2 ^ 100) :
    (rn x y z p1 q1 p2 q2 p3 q3).natAbs < 2 ^ 402 ∧ (q1 * q2 * q3).natAbs < 2 ^ 402 := by
  obtain ⟨bp1, bp2, bp3⟩ := h1
  obtain ⟨bq1, bq2, bq3⟩ := h2
  have e1 := wide_lt (wide_lt (wide_lt bx bp1) bq2) bq3
  have e2 := wide_lt (wide_lt (wide_lt bY bp2) bq1) bq3
  have e3 := wide_lt (wide_lt (wide_lt bz bp3) bq1) bq2
  have d := wide_lt (wide_lt bq1 bq2) bq3
  have p : (2 : Nat) ^ 402 = 4 * 2 ^ (100 + 100 + 100 + 100) := by
    rw [show (402 : Nat) = 2 + (100 + 100 + 100 + 100) from rfl, Nat.pow_add]
  have pp2 : (2 : Nat) ^ (100 + 100 + 100) ≤ 2 ^ (100 + 100 + 100 + 100) := Nat.pow_le_pow_right (by decide) (by decide)
  have a1 := Int.natAbs_add_le (x * p1 * q2 * q3) (y * p2 * q1 * q3)
  have a2 := Int.natAbs_add_le (x * p1 * q2 * q3 + y * p2 * q1 * q3) (z * p3 * q1 * q2)
  unfold rn
  generalize (2 : Nat) ^ (100 + 100 + 100 + 100) = B at *
  omega
def dacc (x y z : Int) (r1 r2 r3 : Rat) : Nat → Rat
  | 0 => 0
  | i + 1 => dacc x y z r1 r2 r3 i + ((th x y z i : Int) : Rat) * th r1 r2 r3 i
def dot3 (x y z : Int) (r1 r2 r3 : Rat) : Rat := (x : Rat) * r1 + (y : Rat) * r2 + (z : Rat) * r3
theorem dacc_end (x y z : Int) (r1 r2 r3 : Rat) : dacc x y z r1 r2 r3 3 = dot3 x y z r1 r2 r3 := by
  simp only [dacc, th, dot3]
  rw [Rat.zero_add]
theorem dacc_bd {x y z : Int} {r1 r2 r3 : Rat} (x1 : Bz 20 x) (x2 : Bz 20 y) (x3 : Bz 20 z) (h1 : Bd 100 r1) (h2 : Bd 100 r2) (h3 : Bd 100 r3) : ∀ i, Bd (1 + 121 * i) (dacc x y z r1 r2 r3 i) := by
  intro i
  induction i with
  | zero => exact bd_zero
  | succ i ih =>
    have m := (bd_int (th_all (P := Bz 20) x1 x2 x3 i) (by decide)).mul (th_all (P := Bd 100) h1 h2 h3 i)
    exact (ih.add m).up (by omega)
theorem fx_int {K : PySem.W.Frag} {H : Hp} {t : Addr} {n : Int} (h : SqT K H t (zs [n, 1])) : Fx K H t (n : Rat) := h
/-- three fractions, as a tuple or a list -/
def P3 (K : PySem.W.Frag) (H : Hp) (t : Addr) (r1 r2 r3 : Rat) : Prop := ∃ p q r : Addr, (SqT K H t [.ref p, .ref q, .ref r] ∨ SqL K H t [.ref p, .ref q, .ref r]) ∧ Fx K H p r1 ∧ Fx K H q r2 ∧ Fx K H r r3
theorem P3.same {K : PySem.W.Frag} {H H' : Hp} {t : Addr} {r1 r2 r3 : Rat} (h : P3 K H t r1 r2 r3) (e : Same H H') : P3 K H' t r1 r2 r3 := by
  obtain ⟨p, q, r, h1, h2, h3, h4⟩ := h
  exact ⟨p, q, r, h1.imp (same_tup e) (fun h => e.seq h), h2.same e, h3.same e, h4.same e⟩
theorem bd_sum3 {x y z : Int} {r1 r2 r3 : Rat} {n m : Nat} (hn : 0 < n) (x1 : Bz n x) (x2 : Bz n y) (x3 : Bz n z) (h1 : Bd m r1) (h2 : Bd m r2) (h3 : Bd m r3) : Bd (3 * (n + m) + 2) (dot3 x y z r1 r2 r3) :=
  ((((bd_int x1 hn).mul h1).add ((bd_int x2 hn).mul h2)).add ((bd_int x3 hn).mul h3)).up (by omega)

theorem dot_div (x y z : Int) (r1 r2 r3 : Rat) : dot3 x y z r1 r2 r3 = Rat.divInt (rn x y z r1.num (r1.den : Int) r2.num (r2.den : Int) r3.num (r3.den : Int)) ((r1.den : Int) * (r2.den : Int) * (r3.den : Int)) := by
  have q : ∀ r : Rat, (r.num : Rat) / ((r.den : Int) : Rat) = r := fun r => by rw [← Rat.divInt_eq_div, Rat.num_divInt_den]
  have n : ∀ r : Rat, ((r.den : Int) : Rat) ≠ 0 := fun r z => den_ne r (Rat.intCast_inj.mp z)
  have h1 := q r1
  have h2 := q r2
  have h3 := q r3
  have d1 := n r1
  have d2 := n r2
  have d3 := n r3
  unfold dot3 rn
  rw [Rat.divInt_eq_div]
  simp only [Rat.intCast_add, Rat.intCast_mul]
  generalize (r1.num : Rat) = a1 at *
  generalize (r2.num : Rat) = a2 at *
  generalize (r3.num : Rat) = a3 at *
  generalize ((r1.den : Int) : Rat) = c1 at *
  generalize ((r2.den : Int) : Rat) = c2 at *
  generalize ((r3.den : Int) : Rat) = c3 at *
  subst h1 h2 h3
  grind
/-- the numbers of a plane -/
structure WI where
  x : Int
  y : Int
  z : Int
  r : Rat
def sdw (w : WI) (r1 r2 r3 : Rat) : Int := sd w.x w.y w.z w.r.num (w.r.den : Int) r1.num (r1.den : Int) r2.num (r2.den : Int) r3.num (r3.den : Int)
theorem sdw_dot (w : WI) (r1 r2 r3 : Rat) : sdw w r1 r2 r3 = sgn ((dot3 w.x w.y w.z r1 r2 r3).num * (w.r.den : Int) - w.r.num * ((dot3 w.x w.y w.z r1 r2 r3).den : Int)) := by
  have hd : (0 : Int) < (r1.den : Int) * (r2.den : Int) * (r3.den : Int) := Int.mul_pos (Int.mul_pos (den_pos r1) (den_pos r2)) (den_pos r3)
  obtain ⟨a, b, e, _, _, fr⟩ := rd2_le (n := rn w.x w.y w.z r1.num (r1.den : Int) r2.num (r2.den : Int) r3.num (r3.den : Int)) (d := (r1.den : Int) * (r2.den : Int) * (r3.den : Int)) (by omega)
  have e2 := rat_rd (n := rn w.x w.y w.z r1.num (r1.den : Int) r2.num (r2.den : Int) r3.num (r3.den : Int)) (d := (r1.den : Int) * (r2.den : Int) * (r3.den : Int)) (by omega)
  rw [← dot_div, e] at e2
  injection e2 with e3 e4
  injection e4 with e4
  rw [← e3, ← e4]
  unfold sdw sd
  exact (sd_low2 fr hd).symm
def WOk (K : PySem.W.Frag) (H : Hp) (t : Addr) (w : WI) : Prop := Wl K H t w.x w.y w.z w.r.num (w.r.den : Int)
def WBd (w : WI) : Prop := Bz 20 w.x ∧ Bz 20 w.y ∧ Bz 20 w.z ∧ Bd 20 w.r
def wr (ws : List (Addr × WI)) : List V := ws.map fun w => V.ref w.1
def WsX (K : PySem.W.Frag) (H : Hp) (ws : List (Addr × WI)) : Prop := ∀ w ∈ ws, WOk K H w.1 w.2
theorem WsX.same {K : PySem.W.Frag} {H H' : Hp} {ws : List (Addr × WI)} (h : WsX K H ws) (s : Same H H') : WsX K H' ws := fun w hw => Wl.same (h w hw) s
theorem wr_len (ws : List (Addr × WI)) : (wr ws).length = ws.length := List.length_map _
theorem wr_get {ws : List (Addr × WI)} {i : Nat} {v : V} (h : (wr ws)[i]? = some v) : ∃ w, v = .ref w.1 ∧ ws[i]? = some w := by
  rw [show wr ws = ws.map fun w => V.ref w.1 from rfl, List.getElem?_map] at h
  cases e : ws[i]? with
  | none =>
    rw [e] at h
    cases h
  | some w =>
    rw [e] at h
    exact ⟨w, (Option.some.inj h).symm, rfl⟩
theorem wr_at {ws : List (Addr × WI)} {i : Nat} {w : Addr × WI} (h : ws[i]? = some w) : (wr ws)[i]? = some (.ref w.1) := by
  rw [show wr ws = ws.map fun w => V.ref w.1 from rfl, List.getElem?_map, h]
  rfl
theorem Px.pt {K : PySem.W.Frag} {H : Hp} {t : Addr} {r1 r2 r3 : Rat} (h : Px K H t r1 r2 r3) (b1 : Bd 100 r1) (b2 : Bd 100 r2) (b3 : Bd 100 r3) : Pt K H t r1.num (r1.den : Int) r2.num (r2.den : Int) r3.num (r3.den : Int) :=
  ⟨h, ⟨b1.1, b2.1, b3.1⟩, ⟨b1.2, b2.2, b3.2⟩, ⟨den_pos r1, den_pos r2, den_pos r3⟩⟩
def tnI (s x : Int) : Int := if s < 0 then -x else x
def tnR (s : Int) (r : Rat) : Rat := if s < 0 then -r else r
def tnW (s : Int) (w : WI) : WI := ⟨tnI s w.x, tnI s w.y, tnI s w.z, tnR s w.r⟩
/-- whether two lists have at some place what is asked -/
def any2 (p : Rat → Int → Bool) (ms : List Rat) (sg : List Int) : Bool := (List.zipWith p ms sg).any id
def pN (m : Rat) (s : Int) : Bool := decide (s ≠ 0) && decide (sgn m.num < 0)
def pP (m : Rat) (s : Int) : Bool := decide (s ≠ 0) && decide (0 < sgn m.num)
/-- the sum of the parts, each times its multiplier -/
def tot (f : WI → Rat) (ws : List WI) (sg : List Int) (ms : List Rat) : Rat := sumR (List.zipWith (fun m q => m * q) ms (List.zipWith (fun w s => f (tnW s w)) ws sg))
def RP (ws : List WI) (sg : List Int) (ms : List Rat) : Bool :=
  decide (ms.length = ws.length) && (!any2 pN ms sg && (decide (tot (fun w => (w.x : Rat)) ws sg ms = 0) && (decide (tot (fun w => (w.y : Rat)) ws sg ms = 0) && (decide (tot (fun w => (w.z : Rat)) ws sg ms = 0) && (if any2 pP ms sg then decide (0 ≤ sgn (tot (fun w => w.r) ws sg ms).num) else decide (sgn (tot (fun w => w.r) ws sg ms).num ≠ 0))))))
def pdi (l : List Int) : PyData := .tuple (l.map PyData.int)
def pdil (l : List Int) : PyData := .list (l.map PyData.int)
theorem dpi_all {K : PySem.W.Frag} {H : Hp} : ∀ l : List Int, DpAll K H (zs l) (l.map PyData.int)
  | [] => .nil
  | x :: l => .cons (.int x) (dpi_all l)
theorem eqvi : ∀ l m : List Int, PyData.eqvAll (l.map PyData.int) (m.map PyData.int) = decide (l = m)
  | [], [] => rfl
  | [], _ :: _ => rfl
  | _ :: _, [] => rfl
  | x :: l, y :: m => by
    rw [List.map_cons, List.map_cons, PyData.eqvAll, eqvi l m, PyData.eqv]
    by_cases h1 : x = y
    · by_cases h2 : l = m
      · simp [h1, h2]
      · simp [h1, h2]
    · simp [h1]
theorem shi (l : List Int) : PyData.canLayAll0 (l.map PyData.int) = true ∧ PyData.depthAll (l.map PyData.int) = 0 := by
  induction l with
  | nil => decide
  | cons r rs ih =>
    rw [List.map_cons, PyData.canLayAll0, PyData.depthAll, ih.1, ih.2]
    exact ⟨rfl, rfl⟩
theorem shi_t (l : List Int) : SeqAt.shaped (pdi l) = true := by
  unfold SeqAt.shaped pdi
  rw [PyData.canLay0, PyData.depth, (shi l).1, (shi l).2]
  rfl
theorem shi_l (l : List Int) : SeqAt.shaped (pdil l) = true := by
  unfold SeqAt.shaped pdil
  rw [PyData.canLay0, PyData.depth, (shi l).1, (shi l).2]
  rfl

/-- a comprehension, perhaps with a condition, whose elements are Booleans -/
theorem lc_any {J : It} {n : Nat} {G : Hp → Prop} {Y : Nat → Hp → V → Hp → Prop} (w : Walk J n G Y) (L : List (Bool × Bool)) (hL : L.length = n) (hz : n ≤ 1000)
    {g : TG} {tt : TT} {te : TE} {vs : List Nat} {σ : L2.St} {H1 : Hp} {D : Addr} {Qd : Hp → Prop} (hD : H1 D = none) (hG : ∀ H, Same H1 H → G H)
    (hs : ∀ i c x H H' (kk : V → Hp → Prop) (kn : Hp → Prop), L[i]? = some c → Same H1 H → Y i H x H' → (c.1 = true → ∀ H4, Same H H4 → kk (.bl c.2) H4) → (c.1 = false → ∀ H4, Same H H4 → kn H4) → g x (wipe σ vs) H' fun σ2 H2 => wipe σ2 vs = wipe σ vs ∧ tt σ2 H2 fun b H3 => if b = true then te σ2 H3 kk else kn H3)
    (hd : ∀ H (bs : List Bool), Same H1 H → H D = some (.lst (bs.map V.bl)) → bs.any id = (L.map fun c => c.1 && c.2).any id → Qd H) :
    ∃ W : Nat → Nat → Hp → Prop, (∃ m, W 0 m (upd H1 D (.lst []))) ∧ ∀ i m H, W i m H →
      (J.stop i H ∧ Qd H) ∨ (J.go i H ∧ ∃ Nx : Hp → Prop, (∀ H', Nx H' → ∃ m', m' < m ∧ W (i + 1) m' H') ∧ ∀ x H', J.yld i H x H' → g x (wipe σ vs) H' fun σ2 H2 => wipe σ2 vs = wipe σ vs ∧ tt σ2 H2 fun b H3 =>
        if b = true then te σ2 H3 fun y H4 => ∃ acc, H4 D = some (.lst acc) ∧ acc.length < sizeLine ∧ Nx (upd H4 D (.lst (acc ++ [y]))) else Nx H3) := by
  subst hL
  refine lc_it w (fun i H => Same H1 H ∧ ∃ bs : List Bool, H D = some (.lst (bs.map V.bl)) ∧ bs.any id = ((L.map fun c => c.1 && c.2).take i).any id ∧ bs.length ≤ i) ⟨same_upd hD, [], upd_same, rfl, Nat.zero_le _⟩ (fun i H _ h => hG H h.1) ?_ ?_
  · rintro i x H H' hi ⟨s1, bs, e1, a1, l1⟩ y
    have hr : L[i]? = some L[i] := List.getElem?_eq_getElem hi
    have tk : ((L.map fun c => c.1 && c.2).take (i + 1)).any id = (((L.map fun c => c.1 && c.2).take i).any id || (L[i].1 && L[i].2)) := by
      rw [List.take_add_one, List.getElem?_map, hr, List.any_append]
      simp
    refine hs i L[i] x H H' _ _ hr s1 y (fun hc H4 s4 => ?_) (fun hc H4 s4 => ?_)
    · refine ⟨bs.map V.bl, s4 _ _ e1, ?_, fun b o e => ?_, bs ++ [L[i].2], ?_, ?_, ?_⟩
      · rw [List.length_map]
        exact small1000 (by omega)
      · rw [upd_ne (ne_of_none e hD)]
        exact s4 _ _ (s1 _ _ e)
      · rw [upd_same, List.map_append]
        rfl
      · rw [tk, List.any_append, a1, hc]
        simp
      · rw [List.length_append]
        exact Nat.succ_le_succ l1
    · refine ⟨s1.trans s4, bs, s4 _ _ e1, ?_, Nat.le_succ_of_le l1⟩
      rw [tk, a1, hc]
      simp
  · rintro H ⟨s1, bs, e1, a1, _⟩
    rw [List.take_of_length_le (by rw [List.length_map]; exact Nat.le_refl _)] at a1
    exact hd H bs s1 e1 a1

/-- a comprehension whose elements are things of a kind: those of L -/
theorem lc_rel {α : Type} (Rel : Hp → Addr → α → Prop) (up : ∀ {H H' t x}, Same H H' → Rel H t x → Rel H' t x) (over : ∀ {H H' t D x ys}, Rel H t x → H D = some (.lst ys) → (∀ b o, b ≠ D → H b = some o → H' b = some o) → Rel H' t x)
    {J : It} {n : Nat} {G : Hp → Prop} {Y : Nat → Hp → V → Hp → Prop} (w : Walk J n G Y) (L : List α) (hL : L.length = n) (hz : n ≤ 1000)
    {g : TG} {te : TE} {vs : List Nat} {σ : L2.St} {H1 : Hp} {D : Addr} {Qd : Hp → Prop} (hD : H1 D = none) (hG : ∀ H, Same H1 H → G H)
    (hs : ∀ i r x H H' (k : V → Hp → Prop), L[i]? = some r → Same H1 H → Y i H x H' → (∀ t H4, Same H H4 → Rel H4 t r → k (.ref t) H4) → g x (wipe σ vs) H' fun σ2 H2 => wipe σ2 vs = wipe σ vs ∧ te σ2 H2 k)
    (hd : ∀ H (ws : List (Addr × α)), Same H1 H → H D = some (.lst (ws.map fun w => .ref w.1)) → (∀ w ∈ ws, Rel H w.1 w.2) → ws.map (·.2) = L → Qd H) :
    ∃ W : Nat → Nat → Hp → Prop, (∃ m, W 0 m (upd H1 D (.lst []))) ∧ ∀ i m H, W i m H →
      (J.stop i H ∧ Qd H) ∨ (J.go i H ∧ ∃ Nx : Hp → Prop, (∀ H', Nx H' → ∃ m', m' < m ∧ W (i + 1) m' H') ∧ ∀ x H', J.yld i H x H' → g x (wipe σ vs) H' fun σ2 H2 => wipe σ2 vs = wipe σ vs ∧ tYes σ2 H2 fun b H3 =>
        if b = true then te σ2 H3 fun y H4 => ∃ acc, H4 D = some (.lst acc) ∧ acc.length < sizeLine ∧ Nx (upd H4 D (.lst (acc ++ [y]))) else Nx H3) := by
  subst hL
  refine lc_it w (fun i H => Same H1 H ∧ ∃ ws : List (Addr × α), H D = some (.lst (ws.map fun w => .ref w.1)) ∧ (∀ w ∈ ws, Rel H w.1 w.2) ∧ ws.map (·.2) = L.take i) ⟨same_upd hD, [], upd_same, (fun _ z => nomatch z), rfl⟩ (fun i H _ h => hG H h.1) ?_ ?_
  · rintro i x H H' hi ⟨s1, ws, e1, r1, m1⟩ y
    have hr : L[i]? = some L[i] := List.getElem?_eq_getElem hi
    have q := hs i L[i] x H H' (fun y H4 => ∃ acc, H4 D = some (.lst acc) ∧ acc.length < sizeLine ∧ (fun H => Same H1 H ∧ ∃ ws : List (Addr × α), H D = some (.lst (ws.map fun w => .ref w.1)) ∧ (∀ w ∈ ws, Rel H w.1 w.2) ∧ ws.map (·.2) = L.take (i + 1)) (upd H4 D (.lst (acc ++ [y])))) hr s1 y (fun t H4 s4 f4 => ?_)
    · refine Eq.mp (congrArg (g x (wipe σ vs) H') ?_) q
      funext σ2 H2
      simp [tYes]
    · have e4 := s4 _ _ e1
      have hlen : ws.length = (L.take i).length := by rw [← m1, List.length_map]
      rw [List.length_take] at hlen
      refine ⟨_, e4, ?_, fun b o e => ?_, ws ++ [(t, L[i])], ?_, fun v hv => ?_, ?_⟩
      · rw [List.length_map]
        exact small1000 (by omega)
      · rw [upd_ne (ne_of_none e hD)]
        exact s4 _ _ (s1 _ _ e)
      · rw [upd_same, List.map_append]
        rfl
      · rcases List.mem_append.mp hv with h | h
        · exact over (up s4 (r1 v h)) e4 fun b o hb e => by rw [upd_ne hb]; exact e
        · rw [List.mem_singleton.mp h]
          exact over f4 e4 fun b o hb e => by rw [upd_ne hb]; exact e
      · rw [List.map_append, m1, List.take_add_one, hr]
        rfl
  · rintro H ⟨s1, ws, e1, r1, m1⟩
    rw [List.take_length] at m1
    exact hd H ws s1 e1 r1 m1
theorem WOk.up {K : PySem.W.Frag} {H H' : Hp} {t : Addr} {w : WI} (s : Same H H') (h : WOk K H t w) : WOk K H' t w := Wl.same h s
theorem WOk.over {K : PySem.W.Frag} {H H' : Hp} {t D : Addr} {w : WI} {ys : List V} (h : WOk K H t w) (hl : H D = some (.lst ys)) (s : ∀ b o, b ≠ D → H b = some o → H' b = some o) : WOk K H' t w := by
  obtain ⟨u, o, h1, h2, h3⟩ := h
  exact ⟨u, o, over_tup h1 hl s, over_tup h2 hl s, over_tup h3 hl s⟩
theorem zw3 {ms : List (Addr × Rat)} {sg : List Int} {i : Nat} {β : Type} {F : Rat → Int → β} {c : β} (h : (List.zipWith F (ms.map (·.2)) sg)[i]? = some c) : ∃ (m : Addr × Rat) (s : Int), ms[i]? = some m ∧ sg[i]? = some s ∧ F m.2 s = c := by
  rw [List.getElem?_zipWith, List.getElem?_map] at h
  cases e1 : ms[i]? with
  | none =>
    rw [e1] at h
    cases h
  | some m =>
    cases e2 : sg[i]? with
    | none =>
      rw [e1, e2] at h
      cases h
    | some s =>
      rw [e1, e2] at h
      exact ⟨m, s, rfl, rfl, Option.some.inj h⟩
theorem zwG {α β γ : Type} {F : α → β → γ} {l : List α} {m : List β} {i : Nat} {c : γ} (h : (List.zipWith F l m)[i]? = some c) : ∃ a b, l[i]? = some a ∧ m[i]? = some b ∧ F a b = c := by
  rw [List.getElem?_zipWith] at h
  cases e1 : l[i]? with
  | none =>
    rw [e1] at h
    cases h
  | some a =>
    cases e2 : m[i]? with
    | none =>
      rw [e1, e2] at h
      cases h
    | some b =>
      rw [e1, e2] at h
      exact ⟨a, b, rfl, rfl, Option.some.inj h⟩
theorem any2_eq (f v : Rat → Int → Bool) (ms : List Rat) (sg : List Int) : ((List.zipWith (fun m s => (f m s, v m s)) ms sg).map fun c => c.1 && c.2) = List.zipWith (fun m s => f m s && v m s) ms sg := by
  rw [List.map_zipWith]
theorem atG {α : Type} {ws : List (Addr × α)} {i : Nat} {w : Addr × α} (h : ws[i]? = some w) : (ws.map fun w => V.ref w.1)[i]? = some (.ref w.1) := by
  rw [List.getElem?_map, h]
  rfl
theorem getG {α : Type} {ws : List (Addr × α)} {i : Nat} {v : V} (h : (ws.map fun w => V.ref w.1)[i]? = some v) : ∃ w, v = .ref w.1 ∧ ws[i]? = some w := by
  rw [List.getElem?_map] at h
  cases e : ws[i]? with
  | none =>
    rw [e] at h
    cases h
  | some w =>
    rw [e] at h
    exact ⟨w, (Option.some.inj h).symm, rfl⟩
/-- the part of a normal -/
def axf (i : Nat) (w : WI) : Rat := ((th w.x w.y w.z i : Int) : Rat)
theorem tn_bd {s : Int} {w : WI} (h : WBd w) : WBd (tnW s w) := by
  obtain ⟨h1, h2, h3, h4⟩ := h
  unfold tnW tnI tnR
  by_cases g : s < 0
  · rw [if_pos g, if_pos g, if_pos g, if_pos g]
    exact ⟨h1.neg, h2.neg, h3.neg, h4.neg⟩
  · rw [if_neg g, if_neg g, if_neg g, if_neg g]
    exact ⟨h1, h2, h3, h4⟩

theorem eqv_pdi (l m : List Int) : PyData.eqv (pdi l) (pdi m) = decide (l = m) := by
  unfold pdi
  rw [PyData.eqv, eqvi]
theorem eqv_pdil (l m : List Int) : PyData.eqv (pdil l) (pdil m) = decide (l = m) := by
  unfold pdil
  rw [PyData.eqv, eqvi]
theorem len4 {rs : List Int} (h : rs.length = 4) : ∃ a b c d, rs = [a, b, c, d] := by
  match rs, h with
  | [a, b, c, d], _ => exact ⟨a, b, c, d, rfl⟩
theorem wr_of {K : PySem.W.Frag} {H : Hp} : ∀ {us : List V}, (∀ (i : Nat) (v : V), us[i]? = some v → ∃ (t : Addr) (w : WI), v = .ref t ∧ WOk K H t w ∧ WBd w) → ∃ ws : List (Addr × WI), us = wr ws ∧ WsX K H ws ∧ ∀ w ∈ ws, WBd w.2
  | [], _ => ⟨[], rfl, (fun _ h => nomatch h), fun _ h => nomatch h⟩
  | u :: us, h => by
    obtain ⟨t, w, rfl, h1, h2⟩ := h 0 u rfl
    obtain ⟨ws, rfl, h3, h4⟩ := wr_of (us := us) fun i v hv => h (i + 1) v hv
    refine ⟨(t, w) :: ws, rfl, fun x hx => ?_, fun x hx => ?_⟩
    · rcases List.mem_cons.mp hx with rfl | hx
      · exact h1
      · exact h3 x hx
    · rcases List.mem_cons.mp hx with rfl | hx
      · exact h2
      · exact h4 x hx

theorem via {P C : Prop} (h : P → C) (p : P) : C := h p
def f4 : Nat → WI → Rat
  | 0, w => (w.x : Rat)
  | 1, w => (w.y : Rat)
  | 2, w => (w.z : Rat)
  | _, w => w.r
def Lc (c : Nat) (ws : List WI) (sg : List Int) (ms : List Rat) : List Rat := List.zipWith (fun m q => m * q) ms (List.zipWith (fun w s => f4 c (tnW s w)) ws sg)
def pt (c : Nat) (ws : List WI) (sg : List Int) (ms : List Rat) (i : Nat) : Rat := sumR ((Lc c ws sg ms).take i)
theorem tn_mul (s : Int) (m : Rat) (c : Nat) (w : WI) : tnR s m * f4 c w = m * f4 c (tnW s w) := by
  have hI : ∀ z : Int, ((tnI s z : Int) : Rat) = tnR s (z : Rat) := fun z => by
    unfold tnI tnR
    by_cases g : s < 0
    · rw [if_pos g, if_pos g, Rat.intCast_neg]
    · rw [if_neg g, if_neg g]
  have h : f4 c (tnW s w) = tnR s (f4 c w) := by
    unfold f4 tnW
    split
    · exact hI _
    · exact hI _
    · exact hI _
    · rfl
  rw [h]
  unfold tnR
  by_cases g : s < 0
  · rw [if_pos g, if_pos g]
    grind
  · rw [if_neg g, if_neg g]
theorem Lc_at {c i : Nat} {ws : List WI} {sg : List Int} {ms : List Rat} {w : WI} {s : Int} {m : Rat} (h1 : ws[i]? = some w) (h2 : sg[i]? = some s) (h3 : ms[i]? = some m) : (Lc c ws sg ms)[i]? = some (tnR s m * f4 c w) := by
  unfold Lc
  rw [List.getElem?_zipWith, List.getElem?_zipWith, h1, h2, h3, tn_mul]
theorem f4_bd {c : Nat} {w : WI} (h : WBd w) : Bd 20 (f4 c w) := by
  obtain ⟨h1, h2, h3, h4⟩ := h
  unfold f4
  split
  · exact bd_int h1 (by decide)
  · exact bd_int h2 (by decide)
  · exact bd_int h3 (by decide)
  · exact h4
theorem Lc_bd {c : Nat} {ws : List WI} {sg : List Int} {ms : List Rat} (h1 : ∀ w ∈ ws, WBd w) (h2 : ∀ m ∈ ms, Bd 10 m) : ∀ r ∈ Lc c ws sg ms, Bd 30 r := by
  intro r hr
  obtain ⟨i, hi⟩ := List.mem_iff_getElem?.mp hr
  obtain ⟨m, q, a1, a2, rfl⟩ := zwG hi
  obtain ⟨w, s, a3, a4, rfl⟩ := zwG a2
  exact (h2 m (List.mem_of_getElem? a1)).mul (f4_bd (tn_bd (h1 w (List.mem_of_getElem? a3))))
theorem tnR_bd {s : Int} {m : Rat} {n : Nat} (h : Bd n m) : Bd n (tnR s m) := by
  unfold tnR
  split
  · exact h.neg
  · exact h
theorem any_take {L : List Bool} {i : Nat} {b : Bool} (h : L[i]? = some b) : (L.take (i + 1)).any id = ((L.take i).any id || b) := by
  rw [List.take_add_one, h, List.any_append]
  simp
theorem pt_all {c : Nat} {ws : List WI} {sg : List Int} {ms : List Rat} {n : Nat} (h : (Lc c ws sg ms).length ≤ n) : pt c ws sg ms n = tot (f4 c) ws sg ms := by
  unfold pt
  rw [List.take_of_length_le h]
  rfl
theorem fx_neg {K : PySem.W.Frag} {H : Hp} {t : Addr} {r : Rat} (h : SqT K H t (zs [-r.num, (r.den : Int)])) : Fx K H t (-r) := by
  unfold Fx
  rw [Rat.neg_num, Rat.neg_den]
  exact h
theorem sgn_lt (z : Int) : decide (sgn z < 0) = decide (z < 0) := decide_eq_decide.mpr (by
  unfold sgn
  split
  · omega
  · split <;> omega)
theorem sgn_gt (z : Int) : decide (0 < sgn z) = decide (0 < z) := decide_eq_decide.mpr (by
  unfold sgn
  split
  · omega
  · split <;> omega)
theorem sgn_ge (z : Int) : decide (0 ≤ sgn z) = decide (0 ≤ z) := decide_eq_decide.mpr (by
  unfold sgn
  split
  · omega
  · split <;> omega)
theorem sgn_nz (z : Int) : decide (sgn z ≠ 0) = decide (z ≠ 0) := decide_eq_decide.mpr (by
  unfold sgn
  split
  · omega
  · split <;> omega)

theorem rp_pair (f : Rat) : RP [⟨1, 0, -2, 3⟩, ⟨1, 0, -2, f⟩] [1, -1] [1, 1] = decide (f.num ≤ 3 * (f.den : Int)) := by
  have t0 : tot (fun w => (w.x : Rat)) [⟨1, 0, -2, 3⟩, ⟨1, 0, -2, f⟩] [1, -1] [1, 1] = 0 := by
    show ((0 : Rat) + 1 * ((1 : Int) : Rat)) + 1 * ((-1 : Int) : Rat) = 0
    decide +kernel
  have t1 : tot (fun w => (w.y : Rat)) [⟨1, 0, -2, 3⟩, ⟨1, 0, -2, f⟩] [1, -1] [1, 1] = 0 := by
    show ((0 : Rat) + 1 * ((0 : Int) : Rat)) + 1 * ((0 : Int) : Rat) = 0
    decide +kernel
  have t2 : tot (fun w => (w.z : Rat)) [⟨1, 0, -2, 3⟩, ⟨1, 0, -2, f⟩] [1, -1] [1, 1] = 0 := by
    show ((0 : Rat) + 1 * ((-2 : Int) : Rat)) + 1 * ((2 : Int) : Rat) = 0
    decide +kernel
  have t3 : tot (fun w => w.r) [⟨1, 0, -2, 3⟩, ⟨1, 0, -2, f⟩] [1, -1] [1, 1] = 3 - f := by
    show ((0 : Rat) + 1 * 3) + 1 * (-f) = 3 - f
    grind
  have a1 : any2 pN [1, 1] [1, -1] = false := by decide
  have a2 : any2 pP [1, 1] [1, -1] = true := by decide
  unfold RP
  rw [t0, t1, t2, t3, a1, a2, sgn_ge]
  show decide (0 ≤ (3 - f).num) = decide (f.num ≤ 3 * (f.den : Int))
  refine decide_eq_decide.mpr ?_
  rw [Rat.num_nonneg]
  constructor
  · intro h
    have h2 : f ≤ 3 := by grind
    rw [Rat.le_iff] at h2
    have h3 : f.num * ((1 : Nat) : Int) ≤ 3 * (f.den : Int) := h2
    omega
  · intro h
    have h2 : f ≤ 3 := by
      rw [Rat.le_iff]
      show f.num * ((1 : Nat) : Int) ≤ 3 * (f.den : Int)
      omega
    grind


section
variable {P : Program} {w : World} {K : PySem.W.Frag} {mg : Str → Option Value} {base : Heap}
def spFraction (K : PySem.W.Frag) (CNought : Addr) : Sp := fun vs H Q E => ∃ n d : Int, vs = [.int n, .int d] ∧ Bz 2000 d ∧ (d = 0 → E (.ref CNought) none H) ∧ (d ≠ 0 → ∀ (H' : Hp) (t : Addr), Same H H' → Fx K H' t (Rat.divInt n d) → Q (.ref t) H')
theorem okFraction {fFraction : Addr} {fdFraction : FuncData} (F : FunD K "fraction" "fraction" (defArgs sFraction) (defBody sFraction) (defScope sFraction) [.int 1] [] fFraction fdFraction) (T : Txt mg) {aZERO : Addr} (CT : Cons K mg aZERO) {CPartError CNought : Addr} (EX : Exns K mg CPartError CNought) :
    FnOk P w K mg base (L2.CX P w) 1 fFraction fdFraction ["number", "divisor"] (spFraction K CNought) := by
  refine F.ok scFraction (fun vs H Q E h => ?_) (fun cdv A outer s H vs Q E hr h => ?_)
  · obtain ⟨n, d, rfl, hb, he, q⟩ := h
    rfl
  · obtain ⟨n, d, rfl, hb, he, q⟩ := h
    refine ⟨_, (pss_cons (ps_if (pt_cmpR op_eq (pv 1) pe_int (nomark _))
        (pss_one (ps_ret (pe_tup (pa_cons (pv 0) (pa_cons pe_int pa_nil)))))
        pss_nil)
      (pss_cons (ps_if (pt_cmpR op_eq (pv 1) pe_int (nomark _))
        (pss_one (ps_raise rfl (takes_of rfl rfl rfl rfl) (pmk_own PySem.F.excBase_ValueError EX.xNought EX.gNought EX.kNought (raises_own EX.bNought EX.tNought) rfl)))
        pss_nil)
      (pss_cons (ps_set (i := 2) scFraction.nd rfl (Or.inl rfl) (pe_callBfun cr_gcd (by rfl) T.gcd (pa_cons (pv 0) (pa_cons (pv 1) pa_nil))))
      (C8.pss_cut (ps_if (pt_cmpR op_lt (pv 1) pe_int (nomark _))
        (pss_one (ps_set (i := 2) scFraction.nd rfl (Or.inl rfl) (pe_un un_neg (pv 2))))
        pss_nil)
      (pss_one (ps_ret (pe_tup (pa_cons (pe_op op_fdivX (pv 0) (pv 2)) (pa_cons (pe_op op_fdivX (pv 1) (pv 2)) pa_nil))))))))), ?_⟩
    walk_at "rd"
    refine ite2 (fun g1 => ?_) (fun g1 => ?_)
    · obtain rfl : d = 1 := eq_of_dec g1
      refine ⟨_, rfl, by show 2 ≤ sizeLine; decide, fun t ht => ?_⟩
      exact q (by decide) _ t (same_upd ht) (fx_rd (by decide) (by unfold rd2; rw [rd_one]; exact upd_same))
    walk_at "rd"
    refine ite2 (fun g => ?_) (fun g => ?_)
    · exact he (eq_of_dec g)
    · have hd := ne_of_nodec g
      refine ⟨_, rfl, _, rfl, n, d, rfl, ?_⟩
      refine ⟨fun σ' H' => σ' = [some (.int n), some (.int d), some (.int (sg n d))] ∧ H' = H, ?_, ?_⟩
      · walk_at "rd"
        refine ite2 (fun g2 => ?_) (fun g2 => ?_)
        · refine ⟨_, rfl, _, rfl, ?_, rfl⟩
          unfold sg
          rw [if_pos (of_decide_eq_true g2)]
          rfl
        · refine ⟨?_, rfl⟩
          unfold sg
          rw [if_neg (fun z => g2 (decide_eq_true z))]
          rfl
      · rintro σ' H' ⟨rfl, rfl⟩
        have hs := sg_ne (n := n) hd
        have hsb : (sg n d).natAbs < 2 ^ 2000 := by
          rw [sg_abs]
          exact Nat.lt_of_le_of_lt (Nat.le_of_dvd (by omega) (Nat.gcd_dvd_right _ _)) hb
        refine ⟨_, rfl, _, rfl, _, _, rfl, rfl, wide_divx hs hsb (by decide) (by decide), _, rfl, _, rfl, _, _, rfl, rfl, wide_divx hs hsb (by decide) (by decide), by show 2 ≤ sizeLine; decide, fun t ht => ?_⟩
        exact q hd _ t (same_upd ht) (fx_rd hd upd_same)
def spR2 (K : PySem.W.Frag) (op : Rat → Rat → Rat) : Sp := fun vs H Q _ => ∃ (a b : Addr) (r s : Rat), vs = [.ref a, .ref b] ∧ Fx K H a r ∧ Fx K H b s ∧ Bd 800 r ∧ Bd 800 s ∧
  ∀ (H' : Hp) (t : Addr), Same H H' → Fx K H' t (op r s) → Q (.ref t) H'
def spPlus (K : PySem.W.Frag) : Sp := spR2 K (fun r s => r + s)
theorem okPlus {fPlus : Addr} {fdPlus : FuncData} (F : Fun K "plus" "plus" sPlus fPlus fdPlus) (T : Txt mg) {aZERO : Addr} (CT : Cons K mg aZERO) {CPartError CNought : Addr} (EX : Exns K mg CPartError CNought)
    {fFraction : Addr} {fdFraction : FuncData} (GFraction : FnOk P w K mg base (L2.CX P w) 1 fFraction fdFraction ["number", "divisor"] (spFraction K CNought)) (gFraction : mg "fraction" = some (.ref fFraction)) (kpFraction : PySem.W.keepIn K (.ref fFraction) = true) (bFraction : Binds K fdFraction ["number", "divisor"] []) {dsFraction : List Value} (vdFraction : Vals [.int 1] dsFraction) (bdFraction : Binds K fdFraction ["number", "divisor"] dsFraction) :
    FnOk P w K mg base CX0 2 fPlus fdPlus ["a", "b"] (spPlus K) := by
  refine F.ok scPlus (fun vs H Q E h => ?_) (fun cdv A outer s H vs Q E hr h => ?_)
  · obtain ⟨a, b, r, s, rfl, hA, hB, hr1, hs1, k⟩ := h
    rfl
  · obtain ⟨a, b, r, s, rfl, hA, hB, hr1, hs1, k⟩ := h
    refine ⟨_, (pss_one (ps_ret (pe_call GFraction hr (by rfl) gFraction kpFraction bFraction .nil passL (pa_cons (pe_op op_add (pe_op op_mulW (pe_ix ix_tup (pv 0) pe_int (fun _ _ => rfl)) (pe_ix ix_tup (pv 1) pe_int (fun _ _ => rfl))) (pe_op op_mulW (pe_ix ix_tup (pv 1) pe_int (fun _ _ => rfl)) (pe_ix ix_tup (pv 0) pe_int (fun _ _ => rfl)))) (pa_cons (pe_op op_mulW (pe_ix ix_tup (pv 0) pe_int (fun _ _ => rfl)) (pe_ix ix_tup (pv 1) pe_int (fun _ _ => rfl))) pa_nil))))), ?_⟩
    walk_at "go"
    exact ⟨Bz.up (by walk_at "bz") (by decide), fun h => absurd h (dd_ne r s), fun _ H' t s1 e1 => k H' t s1 (by show Fx K H' t (r + s); rw [add_div]; exact e1)⟩
def spTimes (K : PySem.W.Frag) : Sp := spR2 K (fun r s => r * s)
theorem okTimes {fTimes : Addr} {fdTimes : FuncData} (F : Fun K "times" "times" sTimes fTimes fdTimes) (T : Txt mg) {aZERO : Addr} (CT : Cons K mg aZERO) {CPartError CNought : Addr} (EX : Exns K mg CPartError CNought)
    {fFraction : Addr} {fdFraction : FuncData} (GFraction : FnOk P w K mg base (L2.CX P w) 1 fFraction fdFraction ["number", "divisor"] (spFraction K CNought)) (gFraction : mg "fraction" = some (.ref fFraction)) (kpFraction : PySem.W.keepIn K (.ref fFraction) = true) (bFraction : Binds K fdFraction ["number", "divisor"] []) {dsFraction : List Value} (vdFraction : Vals [.int 1] dsFraction) (bdFraction : Binds K fdFraction ["number", "divisor"] dsFraction) :
    FnOk P w K mg base CX0 2 fTimes fdTimes ["a", "b"] (spTimes K) := by
  refine F.ok scTimes (fun vs H Q E h => ?_) (fun cdv A outer s H vs Q E hr h => ?_)
  · obtain ⟨a, b, r, s, rfl, hA, hB, hr1, hs1, k⟩ := h
    rfl
  · obtain ⟨a, b, r, s, rfl, hA, hB, hr1, hs1, k⟩ := h
    refine ⟨_, (pss_one (ps_ret (pe_call GFraction hr (by rfl) gFraction kpFraction bFraction .nil passL (pa_cons (pe_op op_mulW (pe_ix ix_tup (pv 0) pe_int (fun _ _ => rfl)) (pe_ix ix_tup (pv 1) pe_int (fun _ _ => rfl))) (pa_cons (pe_op op_mulW (pe_ix ix_tup (pv 0) pe_int (fun _ _ => rfl)) (pe_ix ix_tup (pv 1) pe_int (fun _ _ => rfl))) pa_nil))))), ?_⟩
    walk_at "go"
    exact ⟨Bz.up (by walk_at "bz") (by decide), fun h => absurd h (dd_ne r s), fun _ H' t s1 e1 => k H' t s1 (by show Fx K H' t (r * s); rw [mul_div]; exact e1)⟩
def spNegative (K : PySem.W.Frag) : Sp := fun vs H Q _ => ∃ (a : Addr) (r : Rat), vs = [.ref a] ∧ Fx K H a r ∧ ∀ (H' : Hp) (t : Addr), Same H H' → Fx K H' t (-r) → Q (.ref t) H'
theorem okNegative {fNegative : Addr} {fdNegative : FuncData} (F : Fun K "negative" "negative" sNegative fNegative fdNegative) (T : Txt mg) {aZERO : Addr} (CT : Cons K mg aZERO) {CPartError CNought : Addr} (EX : Exns K mg CPartError CNought) :
    FnOk P w K mg base CX0 1 fNegative fdNegative ["a"] (spNegative K) := by
  refine F.ok scNegative (fun vs H Q E h => ?_) (fun cdv A outer s H vs Q E hr h => ?_)
  · obtain ⟨a, r, rfl, hA, k⟩ := h
    rfl
  · obtain ⟨a, r, rfl, hA, k⟩ := h
    refine ⟨_, (pss_one (ps_ret (pe_tup (pa_cons (pe_un un_neg (pe_ix ix_tup (pv 0) pe_int (fun _ _ => rfl))) (pa_cons (pe_ix ix_tup (pv 0) pe_int (fun _ _ => rfl)) pa_nil))))), ?_⟩
    refine ⟨.ref a, rfl, a, _, 0, _, rfl, rfl, hA, atI_nat (j := 0) rfl, _, rfl, .ref a, rfl, a, _, 1, _, rfl, rfl, hA, atI_nat (j := 1) rfl, by show 2 ≤ sizeLine; decide, fun t ht => k _ t (same_upd ht) ?_⟩
    unfold Fx
    rw [Rat.neg_num, Rat.neg_den]
    exact SqT.of upd_same
def spSign (K : PySem.W.Frag) : Sp := fun vs H Q _ => ∃ (a : Addr) (r : Rat), vs = [.ref a] ∧ Fx K H a r ∧ Q (.int (sgn r.num)) H
theorem okSign {fSign : Addr} {fdSign : FuncData} (F : Fun K "sign" "sign" sSign fSign fdSign) (T : Txt mg) {aZERO : Addr} (CT : Cons K mg aZERO) {CPartError CNought : Addr} (EX : Exns K mg CPartError CNought) :
    FnOk P w K mg base CX0 1 fSign fdSign ["a"] (spSign K) := by
  refine F.ok scSign (fun vs H Q E h => ?_) (fun cdv A outer s H vs Q E hr h => ?_)
  · obtain ⟨a, r, rfl, hA, k⟩ := h
    rfl
  · obtain ⟨a, r, rfl, hA, k⟩ := h
    refine ⟨_, (pss_cons (ps_if (pt_cmpR op_lt (pe_ix ix_tup (pv 0) pe_int (fun _ _ => rfl)) pe_int (nomark _))
        (pss_one (ps_ret (pe_un un_neg pe_int)))
        pss_nil)
      (pss_cons (ps_if (pt_cmpR op_gt (pe_ix ix_tup (pv 0) pe_int (fun _ _ => rfl)) pe_int (nomark _))
        (pss_one (ps_ret pe_int))
        pss_nil)
      (pss_one (ps_ret pe_int)))), ?_⟩
    unfold sgn at k
    refine ⟨.ref a, rfl, a, _, 0, _, rfl, rfl, hA, atI_nat (j := 0) rfl, _, _, rfl, rfl, _, rfl, ite2 (fun g => ?_) (fun g => ?_)⟩
    · rw [if_pos (of_decide_eq_true g)] at k
      exact ⟨_, rfl, k⟩
    · rw [if_neg (fun z => g (decide_eq_true z))] at k
      refine ⟨.ref a, rfl, a, _, 0, _, rfl, rfl, hA, atI_nat (j := 0) rfl, _, _, rfl, rfl, _, rfl, ite2 (fun g => ?_) (fun g => ?_)⟩
      · rw [if_pos (of_decide_eq_true g)] at k
        exact k
      · rw [if_neg (fun z => g (decide_eq_true z))] at k
        exact k
def spTotal (K : PySem.W.Frag) : Sp := fun vs H Q _ => ∃ (l : Addr) (ws : List (Addr × Rat)), vs = [.ref l] ∧ SqL K H l (fr ws) ∧ Rx K H ws ∧ (∀ w ∈ ws, Bd 60 w.2) ∧ ws.length ≤ 9 ∧ ∀ (H' : Hp) (t : Addr), Same H H' → Fx K H' t (sumR (ws.map (·.2))) → Q (.ref t) H'
theorem okTotal {fTotal : Addr} {fdTotal : FuncData} (F : Fun K "total" "total" sTotal fTotal fdTotal) (T : Txt mg) {aZERO : Addr} (CT : Cons K mg aZERO) {CPartError CNought : Addr} (EX : Exns K mg CPartError CNought)
    {fPlus : Addr} {fdPlus : FuncData} (GPlus : FnOk P w K mg base CX0 2 fPlus fdPlus ["a", "b"] (spPlus K)) (gPlus : mg "plus" = some (.ref fPlus)) (kpPlus : PySem.W.keepIn K (.ref fPlus) = true) (bPlus : Binds K fdPlus ["a", "b"] []) :
    FnOk P w K mg base CX0 3 fTotal fdTotal ["row"] (spTotal K) := by
  refine F.ok scTotal (fun vs H Q E h => ?_) (fun cdv A outer s H vs Q E hr h => ?_)
  · obtain ⟨l, ws, rfl, hL, hW, hb, hlen, k⟩ := h
    rfl
  · obtain ⟨l, ws, rfl, hL, hW, hb, hlen, k⟩ := h
    refine ⟨_, (pss_cons (ps_set (i := 1) scTotal.nd rfl (Or.inl rfl) (pe_glob (v := .ref aZERO) (by rfl) CT.gZERO rfl))
      (C8.pss_cut (ps_for PassesOwn.never rfl (pi_list (pv 0)) (pg_name (i := 2) scTotal.nd rfl (Or.inl rfl))
        (pss_one (ps_set (i := 1) scTotal.nd rfl (Or.inl rfl) (pe_call GPlus hr (by rfl) gPlus kpPlus bPlus .nil pass0 (pa_cons (pv 1) (pa_cons (pv 2) pa_nil))))))
      (pss_one (ps_ret (pv 1))))), ?_⟩
    have hb2 : ∀ r ∈ ws.map (·.2), Bd 60 r := fun r hr => by
      obtain ⟨w, h1, rfl⟩ := List.mem_map.mp hr
      exact hb w h1
    refine ⟨fun σ' H' => ∃ (t : Addr) (v2 : Option V), σ' = [some (.ref l), some (.ref t), v2] ∧ Same H H' ∧ Fx K H' t (sumR (ws.map (·.2))), ?_, ?_⟩
    · refine ⟨_, rfl, l, rfl, ⟨_, hL⟩, for_list (K := K) (a := l) (xs := fr ws) (fun i σ' H' => ∃ (t : Addr) (v2 : Option V), σ' = [some (.ref l), some (.ref t), v2] ∧ Same H H' ∧ Fx K H' t (sumR ((ws.map (·.2)).take i))) ?_ ?_ ?_ ?_⟩
      · exact ⟨aZERO, none, rfl, Same.refl _, CT.tZERO H⟩
      · rintro i σ' H' _ ⟨t, v2, rfl, s1, _⟩
        exact s1.seq hL
      · rintro i v σ' H' hi ⟨t, v2, rfl, s1, ht⟩
        obtain ⟨w, rfl, hw⟩ := fr_get hi
        have hm : w ∈ ws := List.mem_of_getElem? hw
        have hil : i < ws.length := (List.getElem?_eq_some_iff.mp hw).1
        have hb3 := sum_bd hb2 i (by rw [List.length_map]; omega)
        refine ⟨_, rfl, _, rfl, t, w.1, _, w.2, rfl, ht, (hW w hm).same s1, hb3.up (by omega), (hb w hm).up (by decide), fun H2 t2 s2 e2 => ?_⟩
        refine ⟨t2, some (.ref w.1), rfl, s1.trans s2, ?_⟩
        have e3 : sumR ((ws.map (·.2)).take (i + 1)) = sumR ((ws.map (·.2)).take i) + w.2 := by
          unfold sumR
          rw [List.take_add_one, List.getElem?_map, hw, List.foldl_append]
          rfl
        rw [e3]
        exact e2
      · rintro σ' H' ⟨t, v2, rfl, s1, ht⟩
        rw [fr_len, ← List.length_map (f := fun w : Addr × Rat => w.2), List.take_length] at ht
        exact ⟨t, v2, rfl, s1, ht⟩
    rintro σ' H' ⟨t, v2, rfl, s1, ht⟩
    exact ⟨_, rfl, k H' t s1 ht⟩
def spSignOf (K : PySem.W.Frag) : Sp := fun vs H Q _ => ∃ n : Int, vs = [.int n] ∧ Q (.int (sgn n)) H
theorem okSignOf {fSignOf : Addr} {fdSignOf : FuncData} (F : Fun K "sign_of" "sign_of" sSignOf fSignOf fdSignOf) (T : Txt mg) {aZERO : Addr} (CT : Cons K mg aZERO) {CPartError CNought : Addr} (EX : Exns K mg CPartError CNought) :
    FnOk P w K mg base CX0 1 fSignOf fdSignOf ["number"] (spSignOf K) := by
  refine F.ok scSignOf (fun vs H Q E h => ?_) (fun cdv A outer s H vs Q E hr h => ?_)
  · obtain ⟨n, rfl, k⟩ := h
    rfl
  · obtain ⟨n, rfl, k⟩ := h
    refine ⟨_, (pss_cons (ps_if (pt_cmpR op_lt (pv 0) pe_int (nomark _))
        (pss_one (ps_ret (pe_un un_neg pe_int)))
        pss_nil)
      (pss_one (ps_ret (pe_ifExp (pt_cmpR op_gt (pv 0) pe_int (nomark _)) pe_int pe_int)))), ?_⟩
    unfold sgn at k
    refine ⟨_, rfl, _, _, rfl, rfl, _, rfl, ite2 (fun g => ?_) (fun g => ?_)⟩
    · rw [if_pos (of_decide_eq_true g)] at k
      exact ⟨_, rfl, k⟩
    · rw [if_neg (fun z => g (decide_eq_true z))] at k
      refine ⟨_, rfl, _, _, rfl, rfl, _, rfl, ?_⟩
      by_cases h0 : 0 < n
      · rw [if_pos h0] at k
        exact iteT' (decide_eq_true h0) k
      · rw [if_neg h0] at k
        exact iteF' (decide_eq_false h0) k
def spReachRatio (K : PySem.W.Frag) : Sp := fun vs H Q _ => ∃ (n t : Addr) (x y z p1 q1 p2 q2 p3 q3 : Int), vs = [.ref n, .ref t] ∧ SqT K H n (zs [x, y, z]) ∧ x.natAbs < 2 ^ 100 ∧ y.natAbs < 2 ^ 100 ∧ z.natAbs < 2 ^ 100 ∧ Pt K H t p1 q1 p2 q2 p3 q3 ∧
  ∀ (H' : Hp) (r : Addr), Same H H' → H' r = some (.tup (zs [rn x y z p1 q1 p2 q2 p3 q3, q1 * q2 * q3])) → Q (.ref r) H'
theorem okReachRatio {fReachRatio : Addr} {fdReachRatio : FuncData} (F : Fun K "reach_ratio" "reach_ratio" sReachRatio fReachRatio fdReachRatio) (T : Txt mg) {aZERO : Addr} (CT : Cons K mg aZERO) {CPartError CNought : Addr} (EX : Exns K mg CPartError CNought) :
    FnOk P w K mg base CX0 1 fReachRatio fdReachRatio ["normal", "point"] (spReachRatio K) := by
  refine F.ok scReachRatio (fun vs H Q E h => ?_) (fun cdv A outer s H vs Q E hr h => ?_)
  · obtain ⟨n, t, x, y, z, p1, q1, p2, q2, p3, q3, rfl, hN, bx, bY, bz, hP, k⟩ := h
    rfl
  · obtain ⟨n, t, x, y, z, p1, q1, p2, q2, p3, q3, rfl, hN, bx, bY, bz, hP, k⟩ := h
    refine ⟨_, (pss_cons (ps_asg (pv 1) (pg_tup rfl (pgs_cons (pg_tup rfl (pgs_cons (pg_name (i := 2) scReachRatio.nd rfl (Or.inl rfl)) (pgs_cons (pg_name (i := 3) scReachRatio.nd rfl (Or.inl rfl)) pgs_nil))) (pgs_cons (pg_tup rfl (pgs_cons (pg_name (i := 4) scReachRatio.nd rfl (Or.inl rfl)) (pgs_cons (pg_name (i := 5) scReachRatio.nd rfl (Or.inl rfl)) pgs_nil))) (pgs_cons (pg_tup rfl (pgs_cons (pg_name (i := 6) scReachRatio.nd rfl (Or.inl rfl)) (pgs_cons (pg_name (i := 7) scReachRatio.nd rfl (Or.inl rfl)) pgs_nil))) pgs_nil)))))
      (pss_cons (ps_set (i := 8) scReachRatio.nd rfl (Or.inl rfl) (pe_op op_add (pe_op op_add (pe_op op_mulW (pe_op op_mulW (pe_op op_mulW (pe_ix ix_tup (pv 0) pe_int (fun _ _ => rfl)) (pv 2)) (pv 5)) (pv 7)) (pe_op op_mulW (pe_op op_mulW (pe_op op_mulW (pe_ix ix_tup (pv 0) pe_int (fun _ _ => rfl)) (pv 4)) (pv 3)) (pv 7))) (pe_op op_mulW (pe_op op_mulW (pe_op op_mulW (pe_ix ix_tup (pv 0) pe_int (fun _ _ => rfl)) (pv 6)) (pv 3)) (pv 5))))
      (pss_one (ps_ret (pe_tup (pa_cons (pv 8) (pa_cons (pe_op op_mulW (pe_op op_mulW (pv 3) (pv 5)) (pv 7)) pa_nil))))))), ?_⟩
    obtain ⟨⟨a, b, c, hT, h1, h2, h3⟩, ⟨bp1, bp2, bp3⟩, ⟨bq1, bq2, bq3⟩, c1, c2, c3⟩ := hP
    refine ⟨_, rfl, t, _, rfl, hT, rfl, _, _, rfl, a, _, rfl, h1, rfl, _, _, rfl, _, _, rfl, rfl, _, _, rfl, b, _, rfl, h2, rfl, _, _, rfl, _, _, rfl, rfl, _, _, rfl, c, _, rfl, h3, rfl, _, _, rfl, _, _, rfl, rfl, rfl, ?_⟩
    have e1 := wide_lt bx bp1
    have e2 := wide_lt e1 bq2
    have f1 := wide_lt bY bp2
    have f2 := wide_lt f1 bq1
    have g1 := wide_lt bz bp3
    have g2 := wide_lt g1 bq1
    have d1 := wide_lt bq1 bq2
    have d2 := wide_lt d1 bq3
    refine ⟨.ref n, rfl, n, _, 0, _, rfl, rfl, hN, atI_nat (j := 0) rfl, _, rfl, _, _, rfl, rfl, wide_mul bx bp1 (by decide) (by decide) (by decide), _, rfl, _, _, rfl, rfl, wide_mul e1 bq2 (by decide) (by decide) (by decide), _, rfl, _, _, rfl, rfl, wide_mul e2 bq3 (by decide) (by decide) (by decide), ?_⟩
    refine ⟨.ref n, rfl, n, _, 1, _, rfl, rfl, hN, atI_nat (j := 1) rfl, _, rfl, _, _, rfl, rfl, wide_mul bY bp2 (by decide) (by decide) (by decide), _, rfl, _, _, rfl, rfl, wide_mul f1 bq1 (by decide) (by decide) (by decide), _, rfl, _, _, rfl, rfl, wide_mul f2 bq3 (by decide) (by decide) (by decide), _, _, rfl, rfl, ?_⟩
    refine ⟨.ref n, rfl, n, _, 2, _, rfl, rfl, hN, atI_nat (j := 2) rfl, _, rfl, _, _, rfl, rfl, wide_mul bz bp3 (by decide) (by decide) (by decide), _, rfl, _, _, rfl, rfl, wide_mul g1 bq1 (by decide) (by decide) (by decide), _, rfl, _, _, rfl, rfl, wide_mul g2 bq2 (by decide) (by decide) (by decide), _, _, rfl, rfl, ?_⟩
    refine ⟨_, rfl, _, rfl, _, rfl, _, _, rfl, rfl, wide_mul bq1 bq2 (by decide) (by decide) (by decide), _, rfl, _, _, rfl, rfl, wide_mul d1 bq3 (by decide) (by decide) (by decide), by show 2 ≤ sizeLine; decide, fun r hr => k _ r (same_upd hr) upd_same⟩
def spSide (K : PySem.W.Frag) : Sp := fun vs H Q _ => ∃ (w t : Addr) (x y z p q p1 q1 p2 q2 p3 q3 : Int), vs = [.ref w, .ref t] ∧ Wl K H w x y z p q ∧ x.natAbs < 2 ^ 100 ∧ y.natAbs < 2 ^ 100 ∧ z.natAbs < 2 ^ 100 ∧ p.natAbs < 2 ^ 600 ∧ q.natAbs < 2 ^ 600 ∧ 0 < q ∧ Pt K H t p1 q1 p2 q2 p3 q3 ∧
  ∀ H' : Hp, Same H H' → Q (.int (sd x y z p q p1 q1 p2 q2 p3 q3)) H'
theorem okSide {fSide : Addr} {fdSide : FuncData} (F : Fun K "side" "side" sSide fSide fdSide) (T : Txt mg) {aZERO : Addr} (CT : Cons K mg aZERO) {CPartError CNought : Addr} (EX : Exns K mg CPartError CNought)
    {fReachRatio : Addr} {fdReachRatio : FuncData} (GReachRatio : FnOk P w K mg base CX0 1 fReachRatio fdReachRatio ["normal", "point"] (spReachRatio K)) (gReachRatio : mg "reach_ratio" = some (.ref fReachRatio)) (kpReachRatio : PySem.W.keepIn K (.ref fReachRatio) = true) (bReachRatio : Binds K fdReachRatio ["normal", "point"] [])
    {fSignOf : Addr} {fdSignOf : FuncData} (GSignOf : FnOk P w K mg base CX0 1 fSignOf fdSignOf ["number"] (spSignOf K)) (gSignOf : mg "sign_of" = some (.ref fSignOf)) (kpSignOf : PySem.W.keepIn K (.ref fSignOf) = true) (bSignOf : Binds K fdSignOf ["number"] []) :
    FnOk P w K mg base CX0 2 fSide fdSide ["wall", "point"] (spSide K) := by
  refine F.ok scSide (fun vs H Q E h => ?_) (fun cdv A outer s H vs Q E hr h => ?_)
  · obtain ⟨w, t, x, y, z, p, q, p1, q1, p2, q2, p3, q3, rfl, ⟨u, o, hW, hU, hO⟩, bx, bY, bz, bp, bq, q0, hP, k⟩ := h
    rfl
  · obtain ⟨w, t, x, y, z, p, q, p1, q1, p2, q2, p3, q3, rfl, ⟨u, o, hW, hU, hO⟩, bx, bY, bz, bp, bq, q0, hP, k⟩ := h
    refine ⟨_, (pss_cons (ps_asg (pv 0) (pg_tup rfl (pgs_cons (pg_name (i := 2) scSide.nd rfl (Or.inl rfl)) (pgs_cons (pg_tup rfl (pgs_cons (pg_name (i := 3) scSide.nd rfl (Or.inl rfl)) (pgs_cons (pg_name (i := 4) scSide.nd rfl (Or.inl rfl)) pgs_nil))) pgs_nil))))
      (pss_cons (ps_asg (pe_call GReachRatio hr (by rfl) gReachRatio kpReachRatio bReachRatio .nil pass0 (pa_cons (pv 2) (pa_cons (pv 1) pa_nil))) (pg_tup rfl (pgs_cons (pg_name (i := 5) scSide.nd rfl (Or.inl rfl)) (pgs_cons (pg_name (i := 6) scSide.nd rfl (Or.inl rfl)) pgs_nil))))
      (pss_one (ps_ret (pe_call GSignOf hr (by rfl) gSignOf kpSignOf bSignOf .nil pass0 (pa_cons (pe_op op_sub (pe_op op_mulW (pv 5) (pv 4)) (pe_op op_mulW (pv 3) (pv 6))) pa_nil)))))), ?_⟩
    obtain ⟨bn, bm⟩ := rn_lt bx bY bz hP.b1 hP.b2
    refine ⟨_, rfl, w, _, rfl, hW, rfl, _, _, rfl, _, _, rfl, o, _, rfl, hO, rfl, _, _, rfl, _, _, rfl, rfl, rfl, ?_⟩
    refine ⟨_, rfl, _, rfl, u, t, x, y, z, p1, q1, p2, q2, p3, q3, rfl, hU, bx, bY, bz, hP, fun H1 r s1 e1 => ?_⟩
    refine ⟨r, _, rfl, SqT.of e1, rfl, _, _, rfl, _, _, rfl, rfl, ?_⟩
    refine ⟨_, rfl, _, rfl, _, _, rfl, rfl, wide_mul bn bq (by decide) (by decide) (by decide), _, rfl, _, rfl, _, _, rfl, rfl, wide_mul bp bm (by decide) (by decide) (by decide), _, _, rfl, rfl, ?_⟩
    exact ⟨_, rfl, k H1 s1⟩
def spSides (K : PySem.W.Frag) : Sp := fun vs H Q _ => ∃ (l t : Addr) (ws : List (Addr × WI)) (r1 r2 r3 : Rat), vs = [.ref l, .ref t] ∧ SqL K H l (wr ws) ∧ WsX K H ws ∧ (∀ w ∈ ws, WBd w.2) ∧ Px K H t r1 r2 r3 ∧ Bd 20 r1 ∧ Bd 20 r2 ∧ Bd 20 r3 ∧ ws.length ≤ 10 ∧
  ∀ (H' : Hp) (r : Addr), Same H H' → SqT K H' r (zs (ws.map fun w => sdw w.2 r1 r2 r3)) → Q (.ref r) H'
theorem okSides {fSides : Addr} {fdSides : FuncData} (F : Fun K "sides" "sides" sSides fSides fdSides) (T : Txt mg) {aZERO : Addr} (CT : Cons K mg aZERO) {CPartError CNought : Addr} (EX : Exns K mg CPartError CNought)
    {fSide : Addr} {fdSide : FuncData} (GSide : FnOk P w K mg base CX0 2 fSide fdSide ["wall", "point"] (spSide K)) (gSide : mg "side" = some (.ref fSide)) (kpSide : PySem.W.keepIn K (.ref fSide) = true) (bSide : Binds K fdSide ["wall", "point"] []) :
    FnOk P w K mg base CX0 3 fSides fdSides ["walls", "point"] (spSides K) := by
  refine F.ok scSides (fun vs H Q E h => ?_) (fun cdv A outer s H vs Q E hr h => ?_)
  · obtain ⟨l, t, ws, r1, r2, r3, rfl, hL, hW, hB, hP, b1, b2, b3, hlen, k⟩ := h
    rfl
  · obtain ⟨l, t, ws, r1, r2, r3, rfl, hL, hW, hB, hP, b1, b2, b3, hlen, k⟩ := h
    refine ⟨_, (pss_one (ps_ret (pe_callTy call_tuple_of (by rfl) T.tuple (by decide +kernel) (pa_cons (pe_lc (own := [("wall", 2)]) (by rfl) scSides.nd (pi_list (pv 0)) (blkOk_by (own := [("wall", 2)]) (N := ["walls", "point", "wall"]) (sc := defScope sSides) (by decide +kernel)) (fun _ _ _ _ _ => (pg_name (i := 2) scSides.nd rfl (Or.inl rfl))) (fun _ _ _ _ _ => pts_nil) (fun _ _ _ _ _ => (pe_call GSide hr (by rfl) gSide kpSide bSide .nil pass0 (pa_cons (pv 2) (pa_cons (pv 1) pa_nil))))) pa_nil)))), ?_⟩
    have hPt := hP.pt (b1.up (by decide)) (b2.up (by decide)) (b3.up (by decide))
    refine ⟨.ref l, rfl, l, rfl, ⟨_, hL⟩, fun D hD => ?_⟩
    refine lc_list (K := K) (a := l) (xs := wr ws) (fun i H2 => Same H H2 ∧ H2 D = some (.lst (zs ((ws.map fun w => sdw w.2 r1 r2 r3).take i)))) ⟨same_upd hD, upd_same⟩ (fun i H2 _ h => h.1.seq hL) ?_ ?_
    · rintro i v H2 hi ⟨s2, e2⟩
      obtain ⟨w, rfl, hw⟩ := wr_get hi
      have hm : w ∈ ws := List.mem_of_getElem? hw
      have hil : i < ws.length := (List.getElem?_eq_some_iff.mp hw).1
      obtain ⟨x1, x2, x3, x4⟩ := hB w hm
      refine ⟨rfl, _, rfl, _, rfl, w.1, t, w.2.x, w.2.y, w.2.z, w.2.r.num, (w.2.r.den : Int), _, _, _, _, _, _, rfl, (hW w hm).same s2, (x1.up (by decide) : Bz 100 _), (x2.up (by decide) : Bz 100 _), (x3.up (by decide) : Bz 100 _), (x4.up (by decide) : Bd 600 _).1, (x4.up (by decide) : Bd 600 _).2, den_pos _, hPt.same s2, fun H3 s3 => ?_⟩
      refine ⟨_, s3 _ _ e2, zs_lt (by rw [List.length_take, List.length_map]; omega), fun b o e => ?_, ?_⟩
      · rw [upd_ne (ne_of_none e hD)]
        exact s3 b o (s2 b o e)
      · rw [upd_same, zs_push, List.take_add_one, List.getElem?_map, hw]
        rfl
    · rintro H2 ⟨s2, e2⟩
      rw [wr_len, List.take_of_length_le (by rw [List.length_map]; exact Nat.le_refl _)] at e2
      exact ⟨D, _, rfl, .inl ⟨SqL.of e2, fun u hu => k _ u (s2.trans (same_upd hu)) (SqT.of upd_same)⟩⟩
def spTurnedPlane (K : PySem.W.Frag) : Sp := fun vs H Q _ => ∃ (a : Addr) (w : WI) (s : Int), vs = [.ref a, .int s] ∧ WOk K H a w ∧ ∀ (H' : Hp) (t : Addr), Same H H' → WOk K H' t (tnW s w) → Q (.ref t) H'
theorem okTurnedPlane {fTurnedPlane : Addr} {fdTurnedPlane : FuncData} (F : Fun K "turned_plane" "turned_plane" sTurnedPlane fTurnedPlane fdTurnedPlane) (T : Txt mg) {aZERO : Addr} (CT : Cons K mg aZERO) {CPartError CNought : Addr} (EX : Exns K mg CPartError CNought)
    {fNegative : Addr} {fdNegative : FuncData} (GNegative : FnOk P w K mg base CX0 1 fNegative fdNegative ["a"] (spNegative K)) (gNegative : mg "negative" = some (.ref fNegative)) (kpNegative : PySem.W.keepIn K (.ref fNegative) = true) (bNegative : Binds K fdNegative ["a"] []) :
    FnOk P w K mg base CX0 2 fTurnedPlane fdTurnedPlane ["wall", "to"] (spTurnedPlane K) := by
  refine F.ok scTurnedPlane (fun vs H Q E h => ?_) (fun cdv A outer s H vs Q E hr h => ?_)
  · obtain ⟨a, w, s, rfl, ⟨u, o, hW, hU, hO⟩, k⟩ := h
    rfl
  · obtain ⟨a, w, s, rfl, ⟨u, o, hW, hU, hO⟩, k⟩ := h
    refine ⟨_, (pss_cons (ps_asg (pv 0) (pg_tup rfl (pgs_cons (pg_name (i := 2) scTurnedPlane.nd rfl (Or.inl rfl)) (pgs_cons (pg_name (i := 3) scTurnedPlane.nd rfl (Or.inl rfl)) pgs_nil))))
      (pss_cons (ps_if (pt_cmpR op_lt (pv 1) pe_int (nomark _))
        (pss_one (ps_ret (pe_tup (pa_cons (pe_callTy call_tuple_of (by rfl) T.tuple (by decide +kernel) (pa_cons (pe_lc (own := [("part", 4)]) (by rfl) scTurnedPlane.nd (pi_tup (pv 2)) (blkOk_by (own := [("part", 4)]) (N := ["wall", "to", "normal", "offset", "part"]) (sc := defScope sTurnedPlane) (by decide +kernel)) (fun _ _ _ _ _ => (pg_name (i := 4) scTurnedPlane.nd rfl (Or.inl rfl))) (fun _ _ _ _ _ => pts_nil) (fun _ _ _ _ _ => (pe_un un_neg (pv 4)))) pa_nil)) (pa_cons (pe_call GNegative hr (by rfl) gNegative kpNegative bNegative .nil pass0 (pa_cons (pv 3) pa_nil)) pa_nil)))))
        pss_nil)
      (pss_one (ps_ret (pe_tup (pa_cons (pv 2) (pa_cons (pv 3) pa_nil))))))), ?_⟩
    refine ⟨_, rfl, a, _, rfl, hW, rfl, _, _, rfl, _, _, rfl, rfl, ?_⟩
    refine ⟨_, rfl, _, _, rfl, rfl, _, rfl, ite2 (fun g => ?_) (fun g => ?_)⟩
    · have g0 := of_decide_eq_true g
      refine ⟨.ref u, rfl, u, rfl, ⟨_, hU⟩, fun D hD => ?_⟩
      refine lc_tup (K := K) (a := u) (xs := zs [w.x, w.y, w.z]) (fun i H2 => Same H H2 ∧ H2 D = some (.lst (zs (([w.x, w.y, w.z].map fun v => -v).take i)))) ⟨same_upd hD, upd_same⟩ (fun i H2 _ h => same_tup h.1 hU) ?_ ?_
      · rintro i v H2 hi ⟨s2, e2⟩
        obtain ⟨n, rfl, hn⟩ := zs_get hi
        refine ⟨rfl, _, rfl, _, rfl, _, e2, zs_len _ (by show 3 ≤ 1000; decide), fun b o e => ?_, ?_⟩
        · rw [upd_ne (ne_of_none e hD)]
          exact s2 b o e
        · rw [upd_same, zs_snoc (fun v => -v) hn]
      · rintro H2 ⟨s2, e2⟩
        have e3 : H2 D = some (.lst (zs [-w.x, -w.y, -w.z])) := e2
        refine ⟨D, _, rfl, .inl ⟨SqL.of e3, fun t1 n1 => ?_⟩⟩
        have s3 := same_upd (o := .tup (zs [-w.x, -w.y, -w.z])) n1
        refine ⟨_, rfl, o, w.r, rfl, same_tup (s2.trans s3) hO, fun H4 t4 s4 f4 => ?_⟩
        refine ⟨by show 2 ≤ sizeLine; decide, fun t5 n5 => ?_⟩
        refine k _ t5 (s2.trans (s3.trans (s4.trans (same_upd n5)))) ?_
        unfold tnW tnI tnR
        rw [if_pos g0, if_pos g0, if_pos g0, if_pos g0]
        exact ⟨t1, t4, SqT.of upd_same, SqT.of (same_upd n5 _ _ (s4 _ _ upd_same)), f4.same (same_upd n5)⟩
    · have g0 : ¬ s < 0 := fun z => g (decide_eq_true z)
      refine ⟨_, rfl, _, rfl, by show 2 ≤ sizeLine; decide, fun t ht => k _ t (same_upd ht) ?_⟩
      unfold tnW tnI tnR
      rw [if_neg g0, if_neg g0, if_neg g0, if_neg g0]
      exact ⟨u, o, SqT.of upd_same, same_tup (same_upd ht) hU, same_tup (same_upd ht) hO⟩
def spIsRefuted (K : PySem.W.Frag) : Sp := fun vs H Q _ => ∃ (lw ls lm : Addr) (ws : List (Addr × WI)) (sg : List Int) (ms : List (Addr × Rat)), vs = [.ref lw, .ref ls, .ref lm] ∧ SqL K H lw (wr ws) ∧ WsX K H ws ∧ (∀ w ∈ ws, WBd w.2) ∧ SqL K H ls (zs sg) ∧ SqL K H lm (fr ms) ∧ Rx K H ms ∧ (∀ m ∈ ms, Bd 10 m.2) ∧ sg.length = ws.length ∧ ws.length ≤ 9 ∧ ms.length ≤ 9 ∧
  ∀ H', Same H H' → Q (.bl (RP (ws.map (·.2)) sg (ms.map (·.2)))) H'
theorem okIsRefuted {fIsRefuted : Addr} {fdIsRefuted : FuncData} (F : Fun K "is_refuted" "is_refuted" sIsRefuted fIsRefuted fdIsRefuted) (T : Txt mg) {aZERO : Addr} (CT : Cons K mg aZERO) {CPartError CNought : Addr} (EX : Exns K mg CPartError CNought)
    {fSign : Addr} {fdSign : FuncData} (GSign : FnOk P w K mg base CX0 1 fSign fdSign ["a"] (spSign K)) (gSign : mg "sign" = some (.ref fSign)) (kpSign : PySem.W.keepIn K (.ref fSign) = true) (bSign : Binds K fdSign ["a"] [])
    {fTurnedPlane : Addr} {fdTurnedPlane : FuncData} (GTurnedPlane : FnOk P w K mg base CX0 2 fTurnedPlane fdTurnedPlane ["wall", "to"] (spTurnedPlane K)) (gTurnedPlane : mg "turned_plane" = some (.ref fTurnedPlane)) (kpTurnedPlane : PySem.W.keepIn K (.ref fTurnedPlane) = true) (bTurnedPlane : Binds K fdTurnedPlane ["wall", "to"] [])
    {fTotal : Addr} {fdTotal : FuncData} (GTotal : FnOk P w K mg base CX0 3 fTotal fdTotal ["row"] (spTotal K)) (gTotal : mg "total" = some (.ref fTotal)) (kpTotal : PySem.W.keepIn K (.ref fTotal) = true) (bTotal : Binds K fdTotal ["row"] [])
    {fTimes : Addr} {fdTimes : FuncData} (GTimes : FnOk P w K mg base CX0 2 fTimes fdTimes ["a", "b"] (spTimes K)) (gTimes : mg "times" = some (.ref fTimes)) (kpTimes : PySem.W.keepIn K (.ref fTimes) = true) (bTimes : Binds K fdTimes ["a", "b"] [])
    {fFraction : Addr} {fdFraction : FuncData} (GFraction : FnOk P w K mg base (L2.CX P w) 1 fFraction fdFraction ["number", "divisor"] (spFraction K CNought)) (gFraction : mg "fraction" = some (.ref fFraction)) (kpFraction : PySem.W.keepIn K (.ref fFraction) = true) (bFraction : Binds K fdFraction ["number", "divisor"] []) {dsFraction : List Value} (vdFraction : Vals [.int 1] dsFraction) (bdFraction : Binds K fdFraction ["number", "divisor"] dsFraction) :
    FnOk P w K mg base CX0 4 fIsRefuted fdIsRefuted ["walls", "signs", "multipliers"] (spIsRefuted K) := by
  refine F.ok scIsRefuted (fun vs H Q E h => ?_) (fun cdv A outer s H vs Q E hr h => ?_)
  · obtain ⟨lw, ls, lm, ws, sg, ms, rfl, hW, rW, bW, hG, hM, rM, bM, nG, n1, n2, k⟩ := h
    rfl
  · obtain ⟨lw, ls, lm, ws, sg, ms, rfl, hW, rW, bW, hG, hM, rM, bM, nG, n1, n2, k⟩ := h
    refine ⟨_, (pss_cons (ps_if (pt_cmpR op_ne (pe_callB call_len_seq (by rfl) T.len PySem.boot_len (pa_cons (pv 2) pa_nil)) (pe_callB call_len_seq (by rfl) T.len PySem.boot_len (pa_cons (pv 0) pa_nil)) (nomark _))
        (pss_one (ps_ret pe_bl))
        pss_nil)
      (pss_cons (ps_if (pt_val (pe_callB (cr_any rfl) (by rfl) T.any (by decide +kernel) (pa_cons (pe_lc (own := [("many", 6), ("to", 7)]) (by rfl) scIsRefuted.nd (pi_zipB (by rfl) T.zip (pa_cons (pv 2) (pa_cons (pv 1) pa_nil))) (blkOk_by (own := [("many", 6), ("to", 7)]) (N := ["walls", "signs", "multipliers", "rows", "axis", "whole", "many", "to", "wall", "normal", "_", "offset"]) (sc := defScope sIsRefuted) (by decide +kernel)) (fun _ _ _ _ _ => (show PG _ _ (gTup K 2 _) from (pg_tup rfl (pgs_cons (pg_name (i := 6) scIsRefuted.nd rfl (Or.inl rfl)) (pgs_cons (pg_name (i := 7) scIsRefuted.nd rfl (Or.inl rfl)) pgs_nil))))) (fun _ _ _ _ _ => pts_one (pt_cmpR op_ne (pv 7) pe_int (nomark _))) (fun _ _ _ _ _ => (pe_cmpR op_lt (pe_call GSign (hr.mono (by decide)) (by rfl) gSign kpSign bSign .nil pass0 (pa_cons (pv 6) pa_nil)) pe_int (nomark _)))) pa_nil)))
        (pss_one (ps_ret pe_bl))
        pss_nil)
      (pss_cons (ps_setLc (i := 3) (own := [("wall", 8), ("to", 7)]) (by rfl) scIsRefuted.nd rfl rfl (sw_true rfl rfl rfl (by decide +kernel)) (pi_zipB (by rfl) T.zip (pa_cons (pv 0) (pa_cons (pv 1) pa_nil))) (blkOk_by (own := [("wall", 8), ("to", 7)]) (N := ["walls", "signs", "multipliers", "rows", "axis", "whole", "many", "to", "wall", "normal", "_", "offset"]) (sc := defScope sIsRefuted) (by decide +kernel)) (fun _ _ _ _ _ => (show PG _ _ (gTup K 2 _) from (pg_tup rfl (pgs_cons (pg_name (i := 8) scIsRefuted.nd rfl (Or.inl rfl)) (pgs_cons (pg_name (i := 7) scIsRefuted.nd rfl (Or.inl rfl)) pgs_nil))))) (fun _ _ _ _ _ => pts_nil) (fun _ _ _ _ _ => (pe_call GTurnedPlane (hr.mono (by decide)) (by rfl) gTurnedPlane kpTurnedPlane bTurnedPlane .nil pass0 (pa_cons (pv 8) (pa_cons (pv 7) pa_nil)))))
      (C8.pss_cut (ps_for PassesOwn.never rfl (pi_range1 rfl T.range (pa_cons pe_int pa_nil)) (pg_name (i := 4) scIsRefuted.nd rfl (Or.inr rfl))
        (pss_one (ps_if (pt_cmpR (op_neD hr.units) (pe_call GTotal hr (by rfl) gTotal kpTotal bTotal .nil pass0 (pa_cons (pe_lc (own := [("many", 6), ("normal", 9), ("_", 10)]) (by rfl) scIsRefuted.nd (pi_zipB (by rfl) T.zip (pa_cons (pv 2) (pa_cons (pv 3) pa_nil))) (blkOk_by (own := [("many", 6), ("normal", 9), ("_", 10)]) (N := ["walls", "signs", "multipliers", "rows", "axis", "whole", "many", "to", "wall", "normal", "_", "offset"]) (sc := defScope sIsRefuted) (by decide +kernel)) (fun _ _ _ _ _ => (show PG _ _ (gTup K 2 _) from (pg_tup rfl (pgs_cons (pg_name (i := 6) scIsRefuted.nd rfl (Or.inl rfl)) (pgs_cons (show PG _ _ (gTup K 2 _) from (pg_tup rfl (pgs_cons (pg_name (i := 9) scIsRefuted.nd rfl (Or.inl rfl)) (pgs_cons (pg_name (i := 10) scIsRefuted.nd rfl (Or.inl rfl)) pgs_nil)))) pgs_nil))))) (fun _ _ _ _ _ => pts_nil) (fun _ _ _ _ _ => (pe_call GTimes (hr.mono (by decide)) (by rfl) gTimes kpTimes bTimes .nil pass0 (pa_cons (pv 6) (pa_cons (pe_call GFraction (hr.mono (by decide)) (by rfl) gFraction kpFraction bdFraction vdFraction passL (pa_cons (pe_ix (show IxR _ (rIxT K) from ix_tup) (pv 9) (pv 4) (fun _ _ => rfl)) pa_nil)) pa_nil))))) pa_nil)) (pe_glob (v := .ref aZERO) (by rfl) CT.gZERO rfl) (nomark _))
          (pss_one (ps_ret pe_bl))
          pss_nil)))
      (pss_cons (ps_set (i := 5) scIsRefuted.nd rfl (Or.inl rfl) (pe_call GSign (hr.mono (by decide)) (by rfl) gSign kpSign bSign .nil pass0 (pa_cons (pe_call GTotal hr (by rfl) gTotal kpTotal bTotal .nil pass0 (pa_cons (pe_lc (own := [("many", 6), ("_", 10), ("offset", 11)]) (by rfl) scIsRefuted.nd (pi_zipB (by rfl) T.zip (pa_cons (pv 2) (pa_cons (pv 3) pa_nil))) (blkOk_by (own := [("many", 6), ("_", 10), ("offset", 11)]) (N := ["walls", "signs", "multipliers", "rows", "axis", "whole", "many", "to", "wall", "normal", "_", "offset"]) (sc := defScope sIsRefuted) (by decide +kernel)) (fun _ _ _ _ _ => (show PG _ _ (gTup K 2 _) from (pg_tup rfl (pgs_cons (pg_name (i := 6) scIsRefuted.nd rfl (Or.inl rfl)) (pgs_cons (show PG _ _ (gTup K 2 _) from (pg_tup rfl (pgs_cons (pg_name (i := 10) scIsRefuted.nd rfl (Or.inl rfl)) (pgs_cons (pg_name (i := 11) scIsRefuted.nd rfl (Or.inl rfl)) pgs_nil)))) pgs_nil))))) (fun _ _ _ _ _ => pts_nil) (fun _ _ _ _ _ => (pe_call GTimes (hr.mono (by decide)) (by rfl) gTimes kpTimes bTimes .nil pass0 (pa_cons (pv 6) (pa_cons (pv 11) pa_nil))))) pa_nil)) pa_nil)))
      (pss_cons (ps_if (pt_val (pe_callB (cr_any rfl) (by rfl) T.any (by decide +kernel) (pa_cons (pe_lc (own := [("many", 6), ("to", 7)]) (by rfl) scIsRefuted.nd (pi_zipB (by rfl) T.zip (pa_cons (pv 2) (pa_cons (pv 1) pa_nil))) (blkOk_by (own := [("many", 6), ("to", 7)]) (N := ["walls", "signs", "multipliers", "rows", "axis", "whole", "many", "to", "wall", "normal", "_", "offset"]) (sc := defScope sIsRefuted) (by decide +kernel)) (fun _ _ _ _ _ => (show PG _ _ (gTup K 2 _) from (pg_tup rfl (pgs_cons (pg_name (i := 6) scIsRefuted.nd rfl (Or.inl rfl)) (pgs_cons (pg_name (i := 7) scIsRefuted.nd rfl (Or.inl rfl)) pgs_nil))))) (fun _ _ _ _ _ => pts_one (pt_cmpR op_ne (pv 7) pe_int (nomark _))) (fun _ _ _ _ _ => (pe_cmpR op_gt (pe_call GSign (hr.mono (by decide)) (by rfl) gSign kpSign bSign .nil pass0 (pa_cons (pv 6) pa_nil)) pe_int (nomark _)))) pa_nil)))
        (pss_one (ps_ret (pe_cmpR op_ge (pv 5) pe_int (nomark _))))
        pss_nil)
      (pss_one (ps_ret (pe_cmpR op_ne (pv 5) pe_int (nomark _)))))))))), ?_⟩
    refine ⟨.ref lm, rfl, lm, _, rfl, .inl hM, .ref lw, rfl, lw, _, rfl, .inl hW, rfl, _, rfl, ite2 (fun g => ?_) (fun g => ?_)⟩
    · have hn : ms.length ≠ ws.length := fun e => by
        rw [fr_len, wr_len, e] at g
        simp at g
      have hr : RP (ws.map (·.2)) sg (ms.map (·.2)) = false := by
        unfold RP
        rw [List.length_map, List.length_map, decide_eq_false hn]
        rfl
      rw [hr] at k
      exact k H (Same.refl _)
    have nM : ms.length = ws.length := by
      rw [fr_len, wr_len] at g
      simp at g
      omega
    clear g
    -- multipliers below 0
    refine ⟨_, rfl, _, rfl, false, false, lm, ls, fr ms, zs sg, rfl, hM, hG, fun D hD => ?_⟩
    refine lc_any (walk_zipB (f := false) (g := false) (xs := fr ms) (ys := zs sg) rfl) (List.zipWith (fun m s => (decide (s ≠ 0), decide (sgn m.num < 0))) (ms.map (·.2)) sg) (by simp [fr_len, zs]) (by simp [fr_len]; omega) hD (fun H2 s2 => ⟨s2.seq hM, s2.seq hG⟩) ?_ ?_
    · rintro i c v H2 H3 kk kn hc s2 ⟨T, u, u2, rfl, hT, rfl, g1, g2⟩ yk yn
      obtain ⟨w, rfl, hw⟩ := fr_get g1
      obtain ⟨s, rfl, hs⟩ := zs_get g2
      obtain ⟨m', s', h1, h2, rfl⟩ := zw3 hc
      rw [hw] at h1
      obtain rfl := Option.some.inj h1
      rw [hs] at h2
      obtain rfl := Option.some.inj h2
      have hm : w ∈ ms := List.mem_of_getElem? hw
      have sT := same_upd (o := .tup [.ref w.1, .int s]) hT
      refine ⟨_, _, rfl, SqT.of upd_same, rfl, _, _, rfl, _, _, rfl, rfl, rfl, ?_⟩
      refine ⟨_, rfl, rfl, _, rfl, ite2 (fun g => ?_) (fun g => ?_)⟩
      · have hne : s ≠ 0 := fun z => by
          rw [z] at g
          simp at g
        exact ⟨_, rfl, w.1, w.2, rfl, (rM w hm).same (s2.trans sT), _, _, rfl, rfl, yk (decide_eq_true hne) _ sT⟩
      · have h0 : s = 0 := by simpa using g
        exact yn (decide_eq_false (fun z => z h0)) _ sT
    intro H2 bs s2 e2 a2
    rw [any2_eq (fun _ s => decide (s ≠ 0)) (fun m _ => decide (sgn m.num < 0))] at a2
    refine ⟨D, bs, rfl, SqL.of e2, _, rfl, ite2 (fun g => ?_) (fun g => ?_)⟩
    · have hr : RP (ws.map (·.2)) sg (ms.map (·.2)) = false := by
        rw [a2] at g
        unfold RP any2
        rw [show (List.zipWith pN (ms.map (·.2)) sg).any id = true from g]
        simp
      rw [hr] at k
      exact k H2 s2
    have hneg : any2 pN (ms.map (·.2)) sg = false := by
      rw [a2] at g
      exact Bool.eq_false_iff.mpr g
    clear g a2
    -- the turned planes
    refine ⟨_, rfl, _, rfl, false, false, lw, ls, wr ws, zs sg, rfl, s2.seq hW, s2.seq hG, fun D3 hD3 => ?_⟩
    refine lc_rel (WOk K) (fun s h => WOk.up s h) (fun h e s => WOk.over h e s) (walk_zipB (f := false) (g := false) (xs := wr ws) (ys := zs sg) rfl) (List.zipWith (fun w s => tnW s w) (ws.map (·.2)) sg) (by simp [wr_len, zs]) (by simp [wr_len]; omega) hD3 (fun H3 s3 => ⟨s3.seq (s2.seq hW), s3.seq (s2.seq hG)⟩) ?_ ?_
    · rintro i c v H3 H4 kk hc s3 ⟨T, u, u2, rfl, hT, rfl, g1, g2⟩ yk
      obtain ⟨w, rfl, hw⟩ := wr_get g1
      obtain ⟨s, rfl, hs⟩ := zs_get g2
      obtain ⟨w', s', h1, h2, rfl⟩ := zwG hc
      rw [List.getElem?_map, hw] at h1
      obtain rfl := Option.some.inj h1
      rw [hs] at h2
      obtain rfl := Option.some.inj h2
      have hm : w ∈ ws := List.mem_of_getElem? hw
      have sT := same_upd (o := .tup [.ref w.1, .int s]) hT
      refine ⟨_, _, rfl, SqT.of upd_same, rfl, _, _, rfl, _, _, rfl, rfl, rfl, ?_⟩
      exact ⟨_, rfl, _, rfl, w.1, w.2, s, rfl, (rW w hm).same (s2.trans (s3.trans sT)), fun H5 t5 s5 f5 => yk t5 H5 (sT.trans s5) f5⟩
    intro H3 ts s3 e3 r3 m3
    have s23 := s2.trans s3
    have bT : ∀ w ∈ ts, WBd w.2 := fun w hw => by
      have h : w.2 ∈ ts.map (·.2) := List.mem_map_of_mem hw
      rw [m3] at h
      obtain ⟨i, hi⟩ := List.mem_iff_getElem?.mp h
      obtain ⟨a, b, h1, h2, h3⟩ := zwG hi
      rw [← h3]
      obtain ⟨x, hx, rfl⟩ := List.mem_map.mp (List.mem_of_getElem? h1)
      exact tn_bd (bW x hx)
    have nT : ts.length = ws.length := by
      have := congrArg List.length m3
      simp at this
      omega
    -- the sums of the parts of the normals
    refine ⟨fun σ' H' => ∃ v4 : Option V, σ' = [some (.ref lw), some (.ref ls), some (.ref lm), some (.ref D3), v4, none, none, none, none, none, none, none] ∧ Same H3 H' ∧ ∀ a, a < 3 → tot (axf a) (ws.map (·.2)) sg (ms.map (·.2)) = 0, ?_, ?_⟩
    · refine ⟨3, rfl, by decide, by decide, for_range (n := 3) (fun i σ' H' => ∃ v4 : Option V, σ' = [some (.ref lw), some (.ref ls), some (.ref lm), some (.ref D3), v4, none, none, none, none, none, none, none] ∧ Same H3 H' ∧ ∀ a, a < i → tot (axf a) (ws.map (·.2)) sg (ms.map (·.2)) = 0) ⟨none, rfl, Same.refl _, fun a h => absurd h (Nat.not_lt_zero a)⟩ ?_ (fun σ' H' h => h)⟩
      rintro i σ' H4 hi ⟨v4, rfl, s4, ha⟩
      have hi0 : (0 : Int) + (i : Int) = (i : Int) := by omega
      have s34 := s23.trans s4
      refine ⟨_, rfl, _, rfl, false, false, lm, D3, fr ms, wr ts, rfl, s34.seq hM, s4.seq (SqL.of e3), fun D5 hD5 => ?_⟩
      refine lc_row (K := K) (walk_zipB (f := false) (g := false) (xs := fr ms) (ys := wr ts) rfl) (List.zipWith (fun m q => m * q) (ms.map (·.2)) (List.zipWith (fun w s => axf i (tnW s w)) (ws.map (·.2)) sg)) (by simp [fr_len, wr_len]; omega) (by simp [fr_len]; omega) hD5 (fun H5 s5 => ⟨s5.seq (s34.seq hM), s5.seq (s4.seq (SqL.of e3))⟩) ?_ ?_
      · rintro j c v H5 H6 kk hc s5 ⟨T, u, u2, rfl, hT, rfl, g1, g2⟩ yk
        obtain ⟨m, rfl, hm1⟩ := fr_get g1
        obtain ⟨w, rfl, hw1⟩ := wr_get g2
        obtain ⟨m', q', h1, h2, rfl⟩ := zwG hc
        rw [List.getElem?_map, hm1] at h1
        obtain rfl := Option.some.inj h1
        have h3 : q' = axf i w.2 := by
          obtain ⟨a, b, h4, h5, rfl⟩ := zwG h2
          have h6 : (ts.map (·.2))[j]? = some (tnW b a) := by
            rw [m3, List.getElem?_zipWith, h4, h5]
          rw [List.getElem?_map, hw1] at h6
          rw [← Option.some.inj h6]
        subst h3
        have hmm : m ∈ ms := List.mem_of_getElem? hm1
        have hmw : w ∈ ts := List.mem_of_getElem? hw1
        have sT := same_upd (o := .tup [.ref m.1, .ref w.1]) hT
        have s5T := s5.trans sT
        obtain ⟨u, o, hw, hu, ho⟩ := WOk.up (s4.trans s5T) (r3 w hmw)
        obtain ⟨x1, x2, x3, x4⟩ := bT w hmw
        have gx : (zs [w.2.x, w.2.y, w.2.z])[i]? = some (.int (th w.2.x w.2.y w.2.z i)) := by
          obtain rfl | rfl | rfl : i = 0 ∨ i = 1 ∨ i = 2 := by omega
          all_goals rfl
        refine ⟨_, _, rfl, SqT.of upd_same, rfl, _, _, rfl, _, _, rfl, w.1, _, rfl, hw, rfl, _, _, rfl, _, _, rfl, rfl, rfl, rfl, ?_⟩
        refine ⟨_, rfl, _, rfl, _, rfl, u, _, _, _, rfl, rfl, hu, by rw [hi0]; exact atI_nat gx, th w.2.x w.2.y w.2.z i, 1, rfl, bz_of (n := 2000) (Nat.one_lt_two_pow (by decide)), fun h => absurd h (by decide), fun _ H7 t7 s7 f7 => ?_⟩
        rw [div_one] at f7
        exact ⟨m.1, t7, m.2, axf i w.2, rfl, (rM m hmm).same (s34.trans (s5T.trans s7)), f7, (bM m hmm).up (by decide), (bd_int (th_all (P := Bz 20) x1 x2 x3 i) (by decide)).up (by decide), fun H8 t8 s8 f8 => yk t8 H8 (sT.trans (s7.trans s8)) f8⟩
      intro H5 qs s5 e5 r5 m5
      have bq : ∀ w ∈ qs, Bd 60 w.2 := fun w hw => by
        have h : w.2 ∈ qs.map (·.2) := List.mem_map_of_mem hw
        rw [m5] at h
        obtain ⟨j, hj⟩ := List.mem_iff_getElem?.mp h
        obtain ⟨a, b, h1, h2, h3⟩ := zwG hj
        obtain ⟨c, d, h4, h5, h6⟩ := zwG h2
        obtain ⟨a', ha', rfl⟩ := List.mem_map.mp (List.mem_of_getElem? h1)
        obtain ⟨c', hc', rfl⟩ := List.mem_map.mp (List.mem_of_getElem? h4)
        obtain ⟨x1, x2, x3, x4⟩ := tn_bd (s := d) (bW c' hc')
        rw [← h3, ← h6]
        exact ((bM a' ha').mul (bd_int (th_all (P := Bz 20) x1 x2 x3 i) (by decide))).up (by decide)
      have nq : qs.length ≤ 9 := by
        have := congrArg List.length m5
        simp at this
        omega
      refine ⟨D5, qs, rfl, SqL.of e5, r5, bq, nq, fun H6 t6 s6 f6 => ?_⟩
      rw [m5] at f6
      have f7 : Fx K H6 t6 (tot (axf i) (ws.map (·.2)) sg (ms.map (·.2))) := f6
      refine ⟨pdr _, pdr 0, dpr f7, dpr (r := 0) (CT.tZERO H6), rfl, rfl, ?_⟩
      rw [eqvr]
      refine ⟨_, rfl, ite2 (fun g => ?_) (fun g => ?_)⟩
      · have hne : tot (axf i) (ws.map (·.2)) sg (ms.map (·.2)) ≠ 0 := fun z => by
          rw [decide_eq_true z] at g
          cases g
        have hr : RP (ws.map (·.2)) sg (ms.map (·.2)) = false := by
          unfold RP
          obtain rfl | rfl | rfl : i = 0 ∨ i = 1 ∨ i = 2 := by omega
          · rw [show decide (tot (fun w => (w.x : Rat)) (ws.map (·.2)) sg (ms.map (·.2)) = 0) = false from decide_eq_false hne]
            simp
          · rw [show decide (tot (fun w => (w.y : Rat)) (ws.map (·.2)) sg (ms.map (·.2)) = 0) = false from decide_eq_false hne]
            simp
          · rw [show decide (tot (fun w => (w.z : Rat)) (ws.map (·.2)) sg (ms.map (·.2)) = 0) = false from decide_eq_false hne]
            simp
        rw [hr] at k
        exact k _ (s34.trans (s5.trans s6))
      · have h0 : tot (axf i) (ws.map (·.2)) sg (ms.map (·.2)) = 0 := by simpa using g
        refine ⟨_, rfl, s4.trans (s5.trans s6), fun a h => ?_⟩
        rcases Nat.lt_or_ge a i with h1 | h1
        · exact ha a h1
        · obtain rfl : a = i := by omega
          exact h0
    rintro σ' H4 ⟨v4, rfl, s4, h0⟩
    have s34 := s23.trans s4
    -- the sum of the offsets
    refine ⟨_, rfl, _, rfl, false, false, lm, D3, fr ms, wr ts, rfl, s34.seq hM, s4.seq (SqL.of e3), fun D5 hD5 => ?_⟩
    refine lc_row (K := K) (walk_zipB (f := false) (g := false) (xs := fr ms) (ys := wr ts) rfl) (List.zipWith (fun m q => m * q) (ms.map (·.2)) (List.zipWith (fun w s => (tnW s w).r) (ws.map (·.2)) sg)) (by simp [fr_len, wr_len]; omega) (by simp [fr_len]; omega) hD5 (fun H5 s5 => ⟨s5.seq (s34.seq hM), s5.seq (s4.seq (SqL.of e3))⟩) ?_ ?_
    · rintro j c v H5 H6 kk hc s5 ⟨T, u, u2, rfl, hT, rfl, g1, g2⟩ yk
      obtain ⟨m, rfl, hm1⟩ := fr_get g1
      obtain ⟨w, rfl, hw1⟩ := wr_get g2
      obtain ⟨m', q', h1, h2, rfl⟩ := zwG hc
      rw [List.getElem?_map, hm1] at h1
      obtain rfl := Option.some.inj h1
      have h3 : q' = w.2.r := by
        obtain ⟨a, b, h4, h5, rfl⟩ := zwG h2
        have h6 : (ts.map (·.2))[j]? = some (tnW b a) := by
          rw [m3, List.getElem?_zipWith, h4, h5]
        rw [List.getElem?_map, hw1] at h6
        rw [← Option.some.inj h6]
      subst h3
      have hmm : m ∈ ms := List.mem_of_getElem? hm1
      have hmw : w ∈ ts := List.mem_of_getElem? hw1
      have sT := same_upd (o := .tup [.ref m.1, .ref w.1]) hT
      have s5T := s5.trans sT
      obtain ⟨u, o, hw, hu, ho⟩ := WOk.up (s4.trans s5T) (r3 w hmw)
      obtain ⟨x1, x2, x3, x4⟩ := bT w hmw
      refine ⟨_, _, rfl, SqT.of upd_same, rfl, _, _, rfl, _, _, rfl, w.1, _, rfl, hw, rfl, _, _, rfl, _, _, rfl, rfl, rfl, rfl, ?_⟩
      exact ⟨_, rfl, _, rfl, m.1, o, m.2, w.2.r, rfl, (rM m hmm).same (s34.trans s5T), ho, (bM m hmm).up (by decide), x4.up (by decide), fun H8 t8 s8 f8 => yk t8 H8 (sT.trans s8) f8⟩
    intro H5 qs s5 e5 r5 m5
    have bq : ∀ w ∈ qs, Bd 60 w.2 := fun w hw => by
      have h : w.2 ∈ qs.map (·.2) := List.mem_map_of_mem hw
      rw [m5] at h
      obtain ⟨j, hj⟩ := List.mem_iff_getElem?.mp h
      obtain ⟨a, b, h1, h2, h3⟩ := zwG hj
      obtain ⟨c, d, h4, h5, h6⟩ := zwG h2
      obtain ⟨a', ha', rfl⟩ := List.mem_map.mp (List.mem_of_getElem? h1)
      obtain ⟨c', hc', rfl⟩ := List.mem_map.mp (List.mem_of_getElem? h4)
      obtain ⟨x1, x2, x3, x4⟩ := tn_bd (s := d) (bW c' hc')
      rw [← h3, ← h6]
      exact ((bM a' ha').mul x4).up (by decide)
    have nq : qs.length ≤ 9 := by
      have := congrArg List.length m5
      simp at this
      omega
    refine ⟨D5, qs, rfl, SqL.of e5, r5, bq, nq, fun H6 t6 s6 f6 => ?_⟩
    rw [m5] at f6
    have f7 : Fx K H6 t6 (tot (fun w => w.r) (ws.map (·.2)) sg (ms.map (·.2))) := f6
    refine ⟨t6, _, rfl, f7, ?_⟩
    have s36 := s34.trans (s5.trans s6)
    -- multipliers above 0
    refine ⟨_, rfl, _, rfl, false, false, lm, ls, fr ms, zs sg, rfl, s36.seq hM, s36.seq hG, fun D7 hD7 => ?_⟩
    refine lc_any (walk_zipB (f := false) (g := false) (xs := fr ms) (ys := zs sg) rfl) (List.zipWith (fun m s => (decide (s ≠ 0), decide (0 < sgn m.num))) (ms.map (·.2)) sg) (by simp [fr_len, zs]) (by simp [fr_len]; omega) hD7 (fun H2 s2 => ⟨s2.seq (s36.seq hM), s2.seq (s36.seq hG)⟩) ?_ ?_
    · rintro i c v H7 H8 kk kn hc s7 ⟨T, u, u2, rfl, hT, rfl, g1, g2⟩ yk yn
      obtain ⟨w, rfl, hw⟩ := fr_get g1
      obtain ⟨s, rfl, hs⟩ := zs_get g2
      obtain ⟨m', s', h1, h2, rfl⟩ := zw3 hc
      rw [hw] at h1
      obtain rfl := Option.some.inj h1
      rw [hs] at h2
      obtain rfl := Option.some.inj h2
      have hm : w ∈ ms := List.mem_of_getElem? hw
      have sT := same_upd (o := .tup [.ref w.1, .int s]) hT
      refine ⟨_, _, rfl, SqT.of upd_same, rfl, _, _, rfl, _, _, rfl, rfl, rfl, ?_⟩
      refine ⟨_, rfl, rfl, _, rfl, ite2 (fun g => ?_) (fun g => ?_)⟩
      · have hne : s ≠ 0 := fun z => by
          rw [z] at g
          simp at g
        exact ⟨_, rfl, w.1, w.2, rfl, (rM w hm).same (s36.trans (s7.trans sT)), _, _, rfl, rfl, yk (decide_eq_true hne) _ sT⟩
      · have h0 : s = 0 := by simpa using g
        exact yn (decide_eq_false (fun z => z h0)) _ sT
    intro H7 bs2 s7 e7 a7
    rw [any2_eq (fun _ s => decide (s ≠ 0)) (fun m _ => decide (0 < sgn m.num))] at a7
    have hx := h0 0 (by decide)
    have hy := h0 1 (by decide)
    have hz := h0 2 (by decide)
    have hr : RP (ws.map (·.2)) sg (ms.map (·.2)) = (if any2 pP (ms.map (·.2)) sg then decide (0 ≤ sgn (tot (fun w => w.r) (ws.map (·.2)) sg (ms.map (·.2))).num) else decide (sgn (tot (fun w => w.r) (ws.map (·.2)) sg (ms.map (·.2))).num ≠ 0)) := by
      unfold RP
      rw [hneg, show decide (tot (fun w => (w.x : Rat)) (ws.map (·.2)) sg (ms.map (·.2)) = 0) = true from decide_eq_true hx, show decide (tot (fun w => (w.y : Rat)) (ws.map (·.2)) sg (ms.map (·.2)) = 0) = true from decide_eq_true hy, show decide (tot (fun w => (w.z : Rat)) (ws.map (·.2)) sg (ms.map (·.2)) = 0) = true from decide_eq_true hz, List.length_map, List.length_map, decide_eq_true nM]
      rfl
    rw [hr] at k
    refine ⟨D7, bs2, rfl, SqL.of e7, _, rfl, ite2 (fun g => ?_) (fun g => ?_)⟩
    · rw [a7] at g
      rw [if_pos (show any2 pP (ms.map (·.2)) sg = true from g)] at k
      exact ⟨_, rfl, _, _, rfl, rfl, k _ (s36.trans s7)⟩
    · rw [a7] at g
      rw [if_neg (show ¬ any2 pP (ms.map (·.2)) sg = true from g)] at k
      refine ⟨_, rfl, rfl, ?_⟩
      refine Eq.mp (congrArg (fun b => Q (.bl b) H7) ?_) (k _ (s36.trans s7))
      rw [Bool.eq_iff_iff]
      simp
def spJudge (K : PySem.W.Frag) : Sp := fun vs H Q _ => ∃ (lw ls p : Addr) (ws : List (Addr × WI)) (sg : List Int), vs = [.ref lw, .ref ls, .ref p] ∧ SqL K H lw (wr ws) ∧ WsX K H ws ∧ (∀ w ∈ ws, WBd w.2) ∧ SqL K H ls (zs sg) ∧ sg.length = ws.length ∧ ws.length ≤ 9 ∧
  ((∃ (t : Addr) (r1 r2 r3 : Rat), SqT K H p [.str "point", .ref t] ∧ Px K H t r1 r2 r3 ∧ Bd 20 r1 ∧ Bd 20 r2 ∧ Bd 20 r3 ∧ ∀ H', Same H H' → Q (.str (if (ws.map fun w => sdw w.2 r1 r2 r3) = sg then "there" else "nothing")) H') ∨
   (∃ (lm : Addr) (ms : List (Addr × Rat)), SqT K H p [.str "never", .ref lm] ∧ SqL K H lm (fr ms) ∧ Rx K H ms ∧ (∀ m ∈ ms, Bd 10 m.2) ∧ ms.length ≤ 9 ∧ ∀ H', Same H H' → Q (.str (if RP (ws.map (·.2)) sg (ms.map (·.2)) = true then "never" else "nothing")) H'))
theorem okJudge {fJudge : Addr} {fdJudge : FuncData} (F : Fun K "judge" "judge" sJudge fJudge fdJudge) (T : Txt mg) {aZERO : Addr} (CT : Cons K mg aZERO) {CPartError CNought : Addr} (EX : Exns K mg CPartError CNought)
    {fIsRefuted : Addr} {fdIsRefuted : FuncData} (GIsRefuted : FnOk P w K mg base CX0 4 fIsRefuted fdIsRefuted ["walls", "signs", "multipliers"] (spIsRefuted K)) (gIsRefuted : mg "is_refuted" = some (.ref fIsRefuted)) (kpIsRefuted : PySem.W.keepIn K (.ref fIsRefuted) = true) (bIsRefuted : Binds K fdIsRefuted ["walls", "signs", "multipliers"] [])
    {fSides : Addr} {fdSides : FuncData} (GSides : FnOk P w K mg base CX0 3 fSides fdSides ["walls", "point"] (spSides K)) (gSides : mg "sides" = some (.ref fSides)) (kpSides : PySem.W.keepIn K (.ref fSides) = true) (bSides : Binds K fdSides ["walls", "point"] []) :
    FnOk P w K mg base CX0 5 fJudge fdJudge ["walls", "signs", "paper"] (spJudge K) := by
  refine F.ok scJudge (fun vs H Q E h => ?_) (fun cdv A outer s H vs Q E hr h => ?_)
  · obtain ⟨lw, ls, p, ws, sg, rfl, hW, rW, bW, hG, nG, n1, h⟩ := h
    rfl
  · obtain ⟨lw, ls, p, ws, sg, rfl, hW, rW, bW, hG, nG, n1, h⟩ := h
    refine ⟨_, (pss_cons (ps_asg (pv 2) (pg_tup rfl (pgs_cons (pg_name (i := 3) scJudge.nd rfl (Or.inl rfl)) (pgs_cons (pg_name (i := 4) scJudge.nd rfl (Or.inl rfl)) pgs_nil))))
      (C8.pss_cut (ps_if (PW.pt (pw_and (pt_cmpR op_eq (pv 3) pe_str (nomark _)) (pw_and1 (pt_cmpR (op_eqD hr.units) (pe_call GSides (hr.mono (by decide)) (by rfl) gSides kpSides bSides .nil pass0 (pa_cons (pv 0) (pa_cons (pv 4) pa_nil))) (pe_callTy call_tuple_of (by rfl) T.tuple (by decide +kernel) (pa_cons (pv 1) pa_nil)) (nomark _)))))
        (pss_one (ps_ret pe_str))
        pss_nil)
      (C8.pss_cut (ps_if (PW.pt (pw_and (pt_cmpR op_eq (pv 3) pe_str (nomark _)) (pw_and1 (pt_val (pe_call GIsRefuted hr (by rfl) gIsRefuted kpIsRefuted bIsRefuted .nil pass0 (pa_cons (pv 0) (pa_cons (pv 1) (pa_cons (pv 4) pa_nil))))))))
        (pss_one (ps_ret pe_str))
        pss_nil)
      (pss_one (ps_ret pe_str))))), ?_⟩
    rcases h with ⟨t, r1, r2, r3, hp, hP, b1, b2, b3, k⟩ | ⟨lm, ms, hp, hM, rM, bM, n2, k⟩
    · refine ⟨_, rfl, p, _, rfl, hp, rfl, _, _, rfl, _, _, rfl, rfl, ?_⟩
      refine ⟨fun σ' H' => σ' = [some (.ref lw), some (.ref ls), some (.ref p), some (.str "point"), some (.ref t)] ∧ Same H H' ∧ ¬ (ws.map fun w => sdw w.2 r1 r2 r3) = sg, ?_, ?_⟩
      · refine ⟨_, rfl, rfl, _, rfl, iteT' (decide_eq_true rfl) ?_⟩
        refine ⟨_, rfl, _, rfl, lw, t, ws, r1, r2, r3, rfl, hW, rW, bW, hP, b1, b2, b3, by omega, fun H1 t1 s1 h1 => ?_⟩
        refine ⟨.ref ls, rfl, ls, _, rfl, .inl ⟨s1.seq hG, fun t2 n2 => ?_⟩⟩
        have s2 := same_upd (o := .tup (zs sg)) n2
        refine ⟨pdi _, pdi sg, .tup (same_tup s2 h1) (dpi_all _), .tup (SqT.of upd_same) (dpi_all _), shi_t _, shi_t _, ?_⟩
        rw [eqv_pdi]
        refine ⟨_, rfl, ite2 (fun g => ?_) (fun g => ?_)⟩
        · rw [if_pos (of_decide_eq_true g)] at k
          exact k _ (s1.trans s2)
        · exact ⟨rfl, s1.trans s2, fun z => g (decide_eq_true z)⟩
      · rintro σ' H1 ⟨rfl, s1, hne⟩
        refine ⟨fun σ' H' => H' = H1, ?_, ?_⟩
        · refine ⟨_, rfl, rfl, _, rfl, iteF' (by decide +kernel) ?_⟩
          refine iteF ?_
          exact rfl
        · rintro σ' H2 rfl
          rw [if_neg hne] at k
          exact k _ s1
    · refine ⟨_, rfl, p, _, rfl, hp, rfl, _, _, rfl, _, _, rfl, rfl, ?_⟩
      refine ⟨fun σ' H' => σ' = [some (.ref lw), some (.ref ls), some (.ref p), some (.str "never"), some (.ref lm)] ∧ H' = H, ?_, ?_⟩
      · refine ⟨_, rfl, rfl, _, rfl, iteF' (by decide +kernel) ?_⟩
        refine iteF ?_
        exact ⟨rfl, rfl⟩
      rintro σ' H1 ⟨rfl, rfl⟩
      refine ⟨fun σ' H' => Same H1 H' ∧ ¬ RP (ws.map (·.2)) sg (ms.map (·.2)) = true, ?_, ?_⟩
      · refine ⟨_, rfl, rfl, _, rfl, iteT' (decide_eq_true rfl) ?_⟩
        refine ⟨_, rfl, _, rfl, _, rfl, lw, ls, lm, ws, sg, ms, rfl, hW, rW, bW, hG, hM, rM, bM, nG, n1, n2, fun H2 s2 => ?_⟩
        refine ⟨_, rfl, ite2 (fun g => ?_) (fun g => ?_)⟩
        · rw [if_pos g] at k
          exact k _ s2
        · exact ⟨s2, g⟩
      · rintro σ' H2 ⟨s2, hne⟩
        rw [if_neg hne] at k
        exact k _ s2
def spLLawCell (K : PySem.W.Frag) : Sp := fun vs H Q _ => ∃ (a : Addr) (ns : List Int) (k : Nat), vs = [.ref a, .int k] ∧ SqL K H a (zs ns) ∧ ∀ c : Int, 0 ≤ c → Q (.int c) H
theorem okLLawCell {fLLawCell : Addr} {fdLLawCell : FuncData} (F : Fun K "_law_cell" "_law_cell" sLLawCell fLLawCell fdLLawCell) (T : Txt mg) {aZERO : Addr} (CT : Cons K mg aZERO) {CPartError CNought : Addr} (EX : Exns K mg CPartError CNought) :
    FnOk P w K mg base CX0 1 fLLawCell fdLLawCell ["_law_script", "_law_k"] (spLLawCell K) := by
  refine F.ok scLLawCell (fun vs H Q E h => ?_) (fun cdv A outer s H vs Q E hr h => ?_)
  · obtain ⟨a, ns, k, rfl, hS, q⟩ := h
    rfl
  · obtain ⟨a, ns, k, rfl, hS, q⟩ := h
    refine ⟨_, (pss_cons (ps_if (pt_cmpR op_lt (pv 1) (pe_callB call_len_seq (by rfl) T.len PySem.boot_len (pa_cons (pv 0) pa_nil)) (nomark _))
        (pss_one (ps_ret (pe_callB call_abs (by rfl) T.abs (by decide +kernel) (pa_cons (pe_callTy call_int1 (by rfl) T.int (by decide +kernel) (pa_cons (pe_ix ix_list (pv 0) (pv 1) (fun _ _ => rfl)) pa_nil)) pa_nil))))
        pss_nil)
      (pss_one (ps_ret pe_int))), ?_⟩
    refine ⟨_, rfl, .ref a, rfl, a, _, rfl, .inl hS, _, _, rfl, rfl, _, rfl, ite2 (fun hlt => ?_) (fun _ => ?_)⟩
    · have h1 := of_decide_eq_true hlt
      rw [show zs ns = ns.map V.int from rfl, List.length_map] at h1
      have h2 : k < ns.length := by omega
      have h3 : (zs ns)[k]? = some (.int ns[k]) := by
        rw [show zs ns = ns.map V.int from rfl, List.getElem?_map, List.getElem?_eq_getElem h2]
        rfl
      refine ⟨.ref a, rfl, _, rfl, a, _, _, _, rfl, rfl, hS, atI_nat h3, .inl ⟨_, rfl, _, rfl, q _ ?_⟩⟩
      split <;> omega
    · exact q 0 (by decide)
def spLLawRow (K : PySem.W.Frag) : Sp := fun vs H Q _ => ∃ (cell base : Int) (n : Nat), vs = [.int cell, .int n, .int base] ∧ 0 < base ∧ base < 1000000 ∧ n ≤ 1000 ∧
  ∀ (H' : Hp) (l : Addr) (rs : List Int), Same H H' → H l = none → H' l = some (.lst (zs rs)) → rs.length = n → (∀ r ∈ rs, 0 ≤ r ∧ r < base) → Q (.ref l) H'
theorem okLLawRow {fLLawRow : Addr} {fdLLawRow : FuncData} (F : Fun K "_law_row" "_law_row" sLLawRow fLLawRow fdLLawRow) (T : Txt mg) {aZERO : Addr} (CT : Cons K mg aZERO) {CPartError CNought : Addr} (EX : Exns K mg CPartError CNought) :
    FnOk P w K mg base CX0 1 fLLawRow fdLLawRow ["_law_cell_here", "_law_size", "_law_base"] (spLLawRow K) := by
  refine F.ok scLLawRow (fun vs H Q E h => ?_) (fun cdv A outer s H vs Q E hr h => ?_)
  · obtain ⟨cell, base, n, rfl, hb0, hb1, hn, q⟩ := h
    rfl
  · obtain ⟨cell, base, n, rfl, hb0, hb1, hn, q⟩ := h
    refine ⟨_, (pss_cons (ps_set (i := 3) scLLawRow.nd rfl (Or.inl rfl) (pe_lst pa_nil))
      (pss_cons (ps_set (i := 4) scLLawRow.nd rfl (Or.inl rfl) (pv 0))
      (C8.pss_cut (ps_for PassesOwn.never rfl (pi_range1 rfl T.range (pa_cons (pv 1) pa_nil)) (pg_name (i := 5) scLLawRow.nd rfl (Or.inl rfl))
        (pss_one (ps_if (pt_cmpR op_ge (pv 0) (pe_op op_pow pe_int pe_int) (nomark _))
          (pss_cons (ps_expr (pe_bm PySem.F.plainAttrs_list PySem.F.slot_list_append PySem.F.type_list_append mt_append (pv 3) (pa_cons (pe_op op_mod (pe_callTy call_int1 (by rfl) T.int (by decide +kernel) (pa_cons (pv 4) pa_nil)) (pv 2)) pa_nil)))
          (pss_one (ps_set (i := 4) scLLawRow.nd rfl (Or.inl rfl) (pe_op op_fdiv (pv 4) (pv 2)))))
          (pss_cons (ps_set (i := 6) scLLawRow.nd rfl (Or.inl rfl) (pe_op op_mod (pe_op op_add (pe_op op_add (pe_op op_mul (pe_op op_mod (pe_callTy call_int1 (by rfl) T.int (by decide +kernel) (pa_cons (pv 0) pa_nil)) pe_int) pe_int) (pe_op op_mul (pv 5) pe_int)) (pe_op op_fdiv (pv 0) pe_int)) pe_int))
          (pss_cons (ps_set (i := 6) scLLawRow.nd rfl (Or.inl rfl) (pe_op op_mod (pe_op op_add (pe_op op_add (pe_op op_mul (pv 6) pe_int) (pe_op op_mul (pv 5) pe_int)) pe_int) pe_int))
          (pss_one (ps_expr (pe_bm PySem.F.plainAttrs_list PySem.F.slot_list_append PySem.F.type_list_append mt_append (pv 3) (pa_cons (pe_op op_mod (pe_op op_fdiv (pv 6) pe_int) (pv 2)) pa_nil)))))))))
      (pss_one (ps_ret (pv 3)))))), ?_⟩
    refine ⟨Nat.zero_le _, fun l hl => ?_⟩
    have sl : Same H (upd H l (.lst [])) := same_upd hl
    walk_at "rd"
    refine ⟨fun σ' H' => ∃ (rs : List Int) (v4 v5 v6 : Option V), σ' = [some (.int cell), some (.int n), some (.int base), some (.ref l), v4, v5, v6] ∧ Same H H' ∧ H' l = some (.lst (zs rs)) ∧ rs.length = n ∧ ∀ r ∈ rs, 0 ≤ r ∧ r < base, ?_, ?_⟩
    · refine ⟨_, rfl, n, rfl, by omega, by omega, for_range (n := n) (fun i σ' H' => ∃ (rs : List Int) (number : Int) (v5 v6 : Option V), σ' = [some (.int cell), some (.int n), some (.int base), some (.ref l), some (.int number), v5, v6] ∧ Same H H' ∧ H' l = some (.lst (zs rs)) ∧ rs.length = i ∧ ∀ r ∈ rs, 0 ≤ r ∧ r < base) ?_ ?_ ?_⟩
      · exact ⟨[], cell, none, none, rfl, sl, upd_same, rfl, fun r h => nomatch h⟩
      · rintro i σ' H' hi ⟨rs, number, v5, v6, rfl, s1, e1, el, ea⟩
        have hlen : (zs rs).length < sizeLine := zs_lt (by omega)
        walk_at "rd"
        refine ite2 (fun _ => ?_) (fun _ => ?_)
        · walk_at "rd"
          refine ⟨.inl ⟨rfl, _, SqL.of e1⟩, ?_⟩
          walk_at "rd"
          refine ⟨hb0, l, _, _, rfl, rfl, e1, hlen, ?_⟩
          walk_at "rd"
          refine ⟨⟨hb0, by omega⟩, rs ++ [number % base], _, _, _, rfl, fun b o e => ?_, ?_, ?_, row_all ea _ hb0⟩
          · rw [upd_ne (ne_of_none e hl)]
            exact s1 b o e
          · rw [upd_same, zs_push]
          · rw [List.length_append, el]
            rfl
        · walk_at "rd"
          refine ⟨.inl ⟨rfl, _, SqL.of e1⟩, ?_⟩
          walk_at "rd"
          refine ⟨hb0, l, _, _, rfl, rfl, e1, hlen, ?_⟩
          refine ⟨_, _, _, _, rfl, fun b o e => ?_, by rw [upd_same, zs_push], ?_, row_all ea _ hb0⟩
          · rw [upd_ne (ne_of_none e hl)]
            exact s1 b o e
          · rw [List.length_append, el]
            rfl
      · rintro σ' H' ⟨rs, number, v5, v6, rfl, s1, e1, el, ea⟩
        exact ⟨rs, _, _, _, rfl, s1, e1, el, ea⟩
    · rintro σ' H' ⟨rs, v4, v5, v6, rfl, s1, e1, el, ea⟩
      exact ⟨_, rfl, q H' l rs s1 hl e1 el ea⟩
def spLLawFraction (K : PySem.W.Frag) : Sp := fun vs H Q _ => ∃ n d : Int, vs = [.int n, .int d] ∧ n.natAbs < 2 ^ 1800 ∧ d.natAbs < 2 ^ 1800 ∧ d ≠ 0 ∧ ∀ (H' : Hp) (t : Addr), Same H H' → H' t = some (.tup (zs (rd2 n d))) → Q (.ref t) H'
theorem okLLawFraction {fLLawFraction : Addr} {fdLLawFraction : FuncData} (F : Fun K "_law_fraction" "_law_fraction" sLLawFraction fLLawFraction fdLLawFraction) (T : Txt mg) {aZERO : Addr} (CT : Cons K mg aZERO) {CPartError CNought : Addr} (EX : Exns K mg CPartError CNought) :
    FnOk P w K mg base CX0 1 fLLawFraction fdLLawFraction ["_law_number", "_law_divisor"] (spLLawFraction K) := by
  refine F.ok scLLawFraction (fun vs H Q E h => ?_) (fun cdv A outer s H vs Q E hr h => ?_)
  · obtain ⟨n, d, rfl, bn, bd, hd, k⟩ := h
    rfl
  · obtain ⟨n, d, rfl, bn, bd, hd, k⟩ := h
    refine ⟨_, (pss_cons (ps_set (i := 2) scLLawFraction.nd rfl (Or.inl rfl) (pe_callB call_abs (by rfl) T.abs (by decide +kernel) (pa_cons (pv 0) pa_nil)))
      (pss_cons (ps_set (i := 3) scLLawFraction.nd rfl (Or.inl rfl) (pe_callB call_abs (by rfl) T.abs (by decide +kernel) (pa_cons (pv 1) pa_nil)))
      (C8.pss_cut (ps_for PassesOwn.never rfl (pi_range1 rfl T.range (pa_cons pe_int pa_nil)) (pg_name (i := 4) scLLawFraction.nd rfl (Or.inl rfl))
        (pss_cons (ps_if (pt_cmpR op_eq (pv 3) pe_int (nomark _))
          (pss_one ps_break)
          pss_nil)
        (pss_one (ps_par (i := 2) (j := 3) (by rfl) scLLawFraction.nd rfl rfl (by decide) rfl rfl (pa_cons (pv 3) (pa_cons (pe_op op_modN (pv 2) (pv 3)) pa_nil)) (by rfl)))))
      (C8.pss_cut (ps_if (pt_cmpR op_lt (pv 1) pe_int (nomark _))
        (pss_one (ps_set (i := 2) scLLawFraction.nd rfl (Or.inl rfl) (pe_un un_neg (pv 2))))
        pss_nil)
      (pss_one (ps_ret (pe_tup (pa_cons (pe_op op_fdivX (pv 0) (pv 2)) (pa_cons (pe_op op_fdivX (pv 1) (pv 2)) pa_nil))))))))), ?_⟩
    walk_at "rd"
    have ez : ∀ z : Int, (if z < 0 then -z else z) = ((z.natAbs : Nat) : Int) := fun z => by
      split <;> omega
    rw [ez n, ez d]
    refine ⟨fun σ' H' => ∃ v3 v4 : Option V, σ' = [some (.int n), some (.int d), some (.int ((Nat.gcd n.natAbs d.natAbs : Nat) : Int)), v3, v4] ∧ H' = H, ?_, ?_⟩
    · refine ⟨10000, rfl, by decide, by decide, for_range (n := 10000) (fun i σ' H' => ∃ (c e : Nat) (v4 : Option V), σ' = [some (.int n), some (.int d), some (.int c), some (.int e), v4] ∧ H' = H ∧ Eu n.natAbs d.natAbs i c e) ⟨_, _, none, rfl, rfl, Eu.start _ _⟩ ?_ ?_⟩
      · rintro i σ' H' hi ⟨c, e, v4, rfl, rfl, eu⟩
        walk_at "rd"
        refine ite2 (fun g => ?_) (fun g => ?_)
        · have he0 : e = 0 := by
            have := eq_of_dec g
            omega
          subst he0
          refine ⟨some (.int ((0 : Nat) : Int)), some (.int (0 + (i : Int))), ?_, rfl⟩
          rw [← eu.end]
          rfl
        · have he0 : e ≠ 0 := fun z => g (decide_eq_true (by rw [z]; rfl))
          walk_at "rd"
          refine ⟨by omega, _, _, rfl, e, c % e, some (.int (0 + (i : Int))), ?_, rfl, eu.turn (by omega)⟩
          rw [← fmod_nat c e]
          rfl
      · rintro σ' H' ⟨c, e, v4, rfl, rfl, eu⟩
        have he0 : e = 0 := eu.stop (by decide) (eu_far2 (by decide) bn bd)
        subst he0
        refine ⟨some (.int ((0 : Nat) : Int)), v4, ?_, rfl⟩
        rw [← eu.end]
    rintro σ' H3 ⟨v3, v4, rfl, rfl⟩
    refine ⟨fun σ' H' => σ' = [some (.int n), some (.int d), some (.int (sg n d)), v3, v4] ∧ H' = H3, ?_, ?_⟩
    · walk_at "rd"
      refine ite2 (fun g2 => ?_) (fun g2 => ?_)
      · refine ⟨_, rfl, _, rfl, ?_, rfl⟩
        unfold sg
        rw [if_pos (of_decide_eq_true g2)]
        rfl
      · refine ⟨?_, rfl⟩
        unfold sg
        rw [if_neg (fun z => g2 (decide_eq_true z))]
    rintro σ' H4 ⟨rfl, rfl⟩
    have hs := sg_ne (n := n) hd
    have hsb : (sg n d).natAbs < 2 ^ 1800 := by
      rw [sg_abs]
      exact Nat.lt_of_le_of_lt (Nat.le_of_dvd (by omega) (Nat.gcd_dvd_right _ _)) bd
    refine ⟨_, rfl, _, rfl, _, _, rfl, rfl, wide_divx hs hsb (by decide) (by decide), _, rfl, _, rfl, _, _, rfl, rfl, wide_divx hs hsb (by decide) (by decide), by show 2 ≤ sizeLine; decide, fun t ht => ?_⟩
    exact k _ t (same_upd ht) upd_same
def spLLawPlus (K : PySem.W.Frag) : Sp := spR2 K (fun r s => r + s)
theorem okLLawPlus {fLLawPlus : Addr} {fdLLawPlus : FuncData} (F : Fun K "_law_plus" "_law_plus" sLLawPlus fLLawPlus fdLLawPlus) (T : Txt mg) {aZERO : Addr} (CT : Cons K mg aZERO) {CPartError CNought : Addr} (EX : Exns K mg CPartError CNought)
    {fLLawFraction : Addr} {fdLLawFraction : FuncData} (GLLawFraction : FnOk P w K mg base CX0 1 fLLawFraction fdLLawFraction ["_law_number", "_law_divisor"] (spLLawFraction K)) (gLLawFraction : mg "_law_fraction" = some (.ref fLLawFraction)) (kpLLawFraction : PySem.W.keepIn K (.ref fLLawFraction) = true) (bLLawFraction : Binds K fdLLawFraction ["_law_number", "_law_divisor"] []) :
    FnOk P w K mg base CX0 2 fLLawPlus fdLLawPlus ["_law_a", "_law_b"] (spLLawPlus K) := by
  refine F.ok scLLawPlus (fun vs H Q E h => ?_) (fun cdv A outer s H vs Q E hr h => ?_)
  · obtain ⟨a, b, r, s, rfl, hA, hB, hr1, hs1, k⟩ := h
    rfl
  · obtain ⟨a, b, r, s, rfl, hA, hB, hr1, hs1, k⟩ := h
    refine ⟨_, (pss_one (ps_ret (pe_call GLLawFraction hr (by rfl) gLLawFraction kpLLawFraction bLLawFraction .nil pass0 (pa_cons (pe_op op_add (pe_op op_mulW (pe_ix ix_tup (pv 0) pe_int (fun _ _ => rfl)) (pe_ix ix_tup (pv 1) pe_int (fun _ _ => rfl))) (pe_op op_mulW (pe_ix ix_tup (pv 1) pe_int (fun _ _ => rfl)) (pe_ix ix_tup (pv 0) pe_int (fun _ _ => rfl)))) (pa_cons (pe_op op_mulW (pe_ix ix_tup (pv 0) pe_int (fun _ _ => rfl)) (pe_ix ix_tup (pv 1) pe_int (fun _ _ => rfl))) pa_nil))))), ?_⟩
    walk_at "go"
    exact ⟨show Bz 1800 _ from Bz.up (by walk_at "bz") (by decide), show Bz 1800 _ from Bz.up (by walk_at "bz") (by decide), dd_ne r s, fun H' t s1 e1 => k H' t s1 (by show Fx K H' t (r + s); rw [add_div]; exact fx_rd (dd_ne r s) e1)⟩
def spLLawTimes (K : PySem.W.Frag) : Sp := spR2 K (fun r s => r * s)
theorem okLLawTimes {fLLawTimes : Addr} {fdLLawTimes : FuncData} (F : Fun K "_law_times" "_law_times" sLLawTimes fLLawTimes fdLLawTimes) (T : Txt mg) {aZERO : Addr} (CT : Cons K mg aZERO) {CPartError CNought : Addr} (EX : Exns K mg CPartError CNought)
    {fLLawFraction : Addr} {fdLLawFraction : FuncData} (GLLawFraction : FnOk P w K mg base CX0 1 fLLawFraction fdLLawFraction ["_law_number", "_law_divisor"] (spLLawFraction K)) (gLLawFraction : mg "_law_fraction" = some (.ref fLLawFraction)) (kpLLawFraction : PySem.W.keepIn K (.ref fLLawFraction) = true) (bLLawFraction : Binds K fdLLawFraction ["_law_number", "_law_divisor"] []) :
    FnOk P w K mg base CX0 2 fLLawTimes fdLLawTimes ["_law_a", "_law_b"] (spLLawTimes K) := by
  refine F.ok scLLawTimes (fun vs H Q E h => ?_) (fun cdv A outer s H vs Q E hr h => ?_)
  · obtain ⟨a, b, r, s, rfl, hA, hB, hr1, hs1, k⟩ := h
    rfl
  · obtain ⟨a, b, r, s, rfl, hA, hB, hr1, hs1, k⟩ := h
    refine ⟨_, (pss_one (ps_ret (pe_call GLLawFraction hr (by rfl) gLLawFraction kpLLawFraction bLLawFraction .nil pass0 (pa_cons (pe_op op_mulW (pe_ix ix_tup (pv 0) pe_int (fun _ _ => rfl)) (pe_ix ix_tup (pv 1) pe_int (fun _ _ => rfl))) (pa_cons (pe_op op_mulW (pe_ix ix_tup (pv 0) pe_int (fun _ _ => rfl)) (pe_ix ix_tup (pv 1) pe_int (fun _ _ => rfl))) pa_nil))))), ?_⟩
    walk_at "go"
    exact ⟨show Bz 1800 _ from Bz.up (by walk_at "bz") (by decide), show Bz 1800 _ from Bz.up (by walk_at "bz") (by decide), dd_ne r s, fun H' t s1 e1 => k H' t s1 (by show Fx K H' t (r * s); rw [mul_div]; exact fx_rd (dd_ne r s) e1)⟩
def spLLawSign (K : PySem.W.Frag) : Sp := fun vs H Q _ => ∃ n : Int, vs = [.int n] ∧ Q (.int (sgn n)) H
theorem okLLawSign {fLLawSign : Addr} {fdLLawSign : FuncData} (F : Fun K "_law_sign" "_law_sign" sLLawSign fLLawSign fdLLawSign) (T : Txt mg) {aZERO : Addr} (CT : Cons K mg aZERO) {CPartError CNought : Addr} (EX : Exns K mg CPartError CNought) :
    FnOk P w K mg base CX0 1 fLLawSign fdLLawSign ["_law_number"] (spLLawSign K) := by
  refine F.ok scLLawSign (fun vs H Q E h => ?_) (fun cdv A outer s H vs Q E hr h => ?_)
  · obtain ⟨n, rfl, k⟩ := h
    rfl
  · obtain ⟨n, rfl, k⟩ := h
    refine ⟨_, (pss_cons (ps_if (pt_cmpR op_lt (pv 0) pe_int (nomark _))
        (pss_one (ps_ret (pe_un un_neg pe_int)))
        pss_nil)
      (pss_cons (ps_if (pt_cmpR op_gt (pv 0) pe_int (nomark _))
        (pss_one (ps_ret pe_int))
        pss_nil)
      (pss_one (ps_ret pe_int)))), ?_⟩
    unfold sgn at k
    refine ⟨_, rfl, _, _, rfl, rfl, _, rfl, ite2 (fun g => ?_) (fun g => ?_)⟩
    · rw [if_pos (of_decide_eq_true g)] at k
      exact ⟨_, rfl, k⟩
    · rw [if_neg (fun z => g (decide_eq_true z))] at k
      refine ⟨_, rfl, _, _, rfl, rfl, _, rfl, ite2 (fun g => ?_) (fun g => ?_)⟩
      · rw [if_pos (of_decide_eq_true g)] at k
        exact k
      · rw [if_neg (fun z => g (decide_eq_true z))] at k
        exact k
def spLLawAlong (K : PySem.W.Frag) : Sp := fun vs H Q _ => ∃ (n t : Addr) (x y z : Int) (r1 r2 r3 : Rat), vs = [.ref n, .ref t] ∧ SqT K H n (zs [x, y, z]) ∧ Px K H t r1 r2 r3 ∧ Bz 20 x ∧ Bz 20 y ∧ Bz 20 z ∧ Bd 100 r1 ∧ Bd 100 r2 ∧ Bd 100 r3 ∧
  ∀ (H' : Hp) (t : Addr), Same H H' → Fx K H' t (dot3 x y z r1 r2 r3) → Q (.ref t) H'
theorem okLLawAlong {fLLawAlong : Addr} {fdLLawAlong : FuncData} (F : Fun K "_law_along" "_law_along" sLLawAlong fLLawAlong fdLLawAlong) (T : Txt mg) {aZERO : Addr} (CT : Cons K mg aZERO) {CPartError CNought : Addr} (EX : Exns K mg CPartError CNought)
    {fLLawPlus : Addr} {fdLLawPlus : FuncData} (GLLawPlus : FnOk P w K mg base CX0 2 fLLawPlus fdLLawPlus ["_law_a", "_law_b"] (spLLawPlus K)) (gLLawPlus : mg "_law_plus" = some (.ref fLLawPlus)) (kpLLawPlus : PySem.W.keepIn K (.ref fLLawPlus) = true) (bLLawPlus : Binds K fdLLawPlus ["_law_a", "_law_b"] [])
    {fLLawTimes : Addr} {fdLLawTimes : FuncData} (GLLawTimes : FnOk P w K mg base CX0 2 fLLawTimes fdLLawTimes ["_law_a", "_law_b"] (spLLawTimes K)) (gLLawTimes : mg "_law_times" = some (.ref fLLawTimes)) (kpLLawTimes : PySem.W.keepIn K (.ref fLLawTimes) = true) (bLLawTimes : Binds K fdLLawTimes ["_law_a", "_law_b"] []) :
    FnOk P w K mg base CX0 3 fLLawAlong fdLLawAlong ["_law_normal", "_law_point"] (spLLawAlong K) := by
  refine F.ok scLLawAlong (fun vs H Q E h => ?_) (fun cdv A outer s H vs Q E hr h => ?_)
  · obtain ⟨n, t, x, y, z, r1, r2, r3, rfl, hN, ⟨p, q, r, hT, hp, hq, hr3⟩, x1, x2, x3, c1, c2, c3, k⟩ := h
    rfl
  · obtain ⟨n, t, x, y, z, r1, r2, r3, rfl, hN, ⟨p, q, r, hT, hp, hq, hr3⟩, x1, x2, x3, c1, c2, c3, k⟩ := h
    refine ⟨_, (pss_cons (ps_set (i := 2) scLLawAlong.nd rfl (Or.inl rfl) (pe_tup (pa_cons pe_int (pa_cons pe_int pa_nil))))
      (C8.pss_cut (ps_for PassesOwn.never rfl (pi_range1 rfl T.range (pa_cons pe_int pa_nil)) (pg_name (i := 3) scLLawAlong.nd rfl (Or.inl rfl))
        (pss_one (ps_set (i := 2) scLLawAlong.nd rfl (Or.inl rfl) (pe_call GLLawPlus hr (by rfl) gLLawPlus kpLLawPlus bLLawPlus .nil pass0 (pa_cons (pv 2) (pa_cons (pe_call GLLawTimes hr (by rfl) gLLawTimes kpLLawTimes bLLawTimes .nil pass0 (pa_cons (pe_tup (pa_cons (pe_ix ix_tup (pv 0) (pv 3) (fun _ _ => rfl)) (pa_cons pe_int pa_nil))) (pa_cons (pe_ix ix_tup (pv 1) (pv 3) (fun _ _ => rfl)) pa_nil))) pa_nil))))))
      (pss_one (ps_ret (pv 2))))), ?_⟩
    refine ⟨tn rfl, fun f0 nf0 => ?_⟩
    generalize hUf0 : upd _ _ (HO.tup _) = H1
    have s1 := same_hu hUf0 nf0
    have eh1 := at_hu hUf0
    have h1 := SqT.of (K := K) eh1
    clear hUf0
    refine ⟨fun σ' H' => ∃ (f : Addr) (v3 : Option V), σ' = [some (.ref n), some (.ref t), some (.ref f), v3] ∧ Same H H' ∧ Fx K H' f (dot3 x y z r1 r2 r3), ?_, ?_⟩
    · refine ⟨3, rfl, by decide, by decide, for_range (n := 3) (fun i σ' H' => ∃ (f : Addr) (v3 : Option V), σ' = [some (.ref n), some (.ref t), some (.ref f), v3] ∧ Same H H' ∧ Fx K H' f (dacc x y z r1 r2 r3 i)) ?_ ?_ ?_⟩
      · exact ⟨f0, none, rfl, s1, h1⟩
      · rintro i σ' H2 hi ⟨f, v3, rfl, s2, hf⟩
        have hi0 : (0 : Int) + (i : Int) = (i : Int) := by omega
        have bx : Bz 20 (th x y z i) := th_all (P := Bz 20) x1 x2 x3 i
        have br : Bd 100 (th r1 r2 r3 i) := th_all (P := Bd 100) c1 c2 c3 i
        have gx : (zs [x, y, z])[i]? = some (.int (th x y z i)) := by
          obtain rfl | rfl | rfl : i = 0 ∨ i = 1 ∨ i = 2 := by omega
          all_goals rfl
        obtain ⟨a, ga, ha⟩ : ∃ a : Addr, [V.ref p, .ref q, .ref r][i]? = some (.ref a) ∧ Fx K H a (th r1 r2 r3 i) := by
          obtain rfl | rfl | rfl : i = 0 ∨ i = 1 ∨ i = 2 := by omega
          · exact ⟨p, rfl, hp⟩
          · exact ⟨q, rfl, hq⟩
          · exact ⟨r, rfl, hr3⟩
        rw [hi0]
        refine ⟨_, rfl, _, rfl, _, rfl, n, _, _, _, rfl, rfl, same_tup s2 hN, atI_nat gx, ?_⟩
        refine ⟨tn rfl, fun m nm => ?_⟩
        generalize hUm : upd _ _ (HO.tup _) = H3
        have s3 := same_hu hUm nm
        have eh3 := at_hu hUm
        have h3 := SqT.of (K := K) eh3
        clear hUm
        refine ⟨_, rfl, _, rfl, ?_⟩
        have s23 := s2.trans s3
        refine ⟨t, _, _, _, rfl, rfl, same_tup s23 hT, atI_nat ga, ?_⟩
        refine ⟨m, a, ((th x y z i : Int) : Rat), th r1 r2 r3 i, rfl, fx_int h3, ha.same s23, (bd_int bx (by decide)).up (by decide), br.up (by decide), fun H4 t4 s4 f4 => ?_⟩
        refine ⟨f, t4, _, _, rfl, hf.same (s3.trans s4), f4, (dacc_bd x1 x2 x3 c1 c2 c3 i).up (by omega), ((bd_int bx (by decide)).mul br).up (by decide), fun H5 t5 s5 f5 => ?_⟩
        exact ⟨t5, _, rfl, s23.trans (s4.trans s5), f5⟩
      · rintro σ' H2 ⟨f, v3, rfl, s2, hf⟩
        rw [dacc_end] at hf
        exact ⟨f, v3, rfl, s2, hf⟩
    rintro σ' H2 ⟨f, v3, rfl, s2, hf⟩
    exact ⟨_, rfl, k H2 f s2 hf⟩
def spLLawSide (K : PySem.W.Frag) : Sp := fun vs H Q _ => ∃ (a t : Addr) (w : WI) (r1 r2 r3 : Rat), vs = [.ref a, .ref t] ∧ WOk K H a w ∧ WBd w ∧ Px K H t r1 r2 r3 ∧ Bd 20 r1 ∧ Bd 20 r2 ∧ Bd 20 r3 ∧ ∀ H', Same H H' → Q (.int (sdw w r1 r2 r3)) H'
theorem okLLawSide {fLLawSide : Addr} {fdLLawSide : FuncData} (F : Fun K "_law_side" "_law_side" sLLawSide fLLawSide fdLLawSide) (T : Txt mg) {aZERO : Addr} (CT : Cons K mg aZERO) {CPartError CNought : Addr} (EX : Exns K mg CPartError CNought)
    {fLLawAlong : Addr} {fdLLawAlong : FuncData} (GLLawAlong : FnOk P w K mg base CX0 3 fLLawAlong fdLLawAlong ["_law_normal", "_law_point"] (spLLawAlong K)) (gLLawAlong : mg "_law_along" = some (.ref fLLawAlong)) (kpLLawAlong : PySem.W.keepIn K (.ref fLLawAlong) = true) (bLLawAlong : Binds K fdLLawAlong ["_law_normal", "_law_point"] [])
    {fLLawSign : Addr} {fdLLawSign : FuncData} (GLLawSign : FnOk P w K mg base CX0 1 fLLawSign fdLLawSign ["_law_number"] (spLLawSign K)) (gLLawSign : mg "_law_sign" = some (.ref fLLawSign)) (kpLLawSign : PySem.W.keepIn K (.ref fLLawSign) = true) (bLLawSign : Binds K fdLLawSign ["_law_number"] []) :
    FnOk P w K mg base CX0 4 fLLawSide fdLLawSide ["_law_shut_here", "_law_point"] (spLLawSide K) := by
  refine F.ok scLLawSide (fun vs H Q E h => ?_) (fun cdv A outer s H vs Q E hr h => ?_)
  · obtain ⟨a, t, w, r1, r2, r3, rfl, ⟨u, o, hW, hU, hO⟩, ⟨x1, x2, x3, x4⟩, hP, b1, b2, b3, k⟩ := h
    rfl
  · obtain ⟨a, t, w, r1, r2, r3, rfl, ⟨u, o, hW, hU, hO⟩, ⟨x1, x2, x3, x4⟩, hP, b1, b2, b3, k⟩ := h
    refine ⟨_, (pss_cons (ps_set (i := 2) scLLawSide.nd rfl (Or.inl rfl) (pe_call GLLawAlong hr (by rfl) gLLawAlong kpLLawAlong bLLawAlong .nil pass0 (pa_cons (pe_ix ix_tup (pv 0) pe_int (fun _ _ => rfl)) (pa_cons (pv 1) pa_nil))))
      (pss_one (ps_ret (pe_call GLLawSign (hr.mono (by decide)) (by rfl) gLLawSign kpLLawSign bLLawSign .nil pass0 (pa_cons (pe_op op_sub (pe_op op_mulW (pe_ix ix_tup (pv 2) pe_int (fun _ _ => rfl)) (pe_ix ix_tup (pe_ix ix_tup (pv 0) pe_int (fun _ _ => rfl)) pe_int (fun _ _ => rfl))) (pe_op op_mulW (pe_ix ix_tup (pe_ix ix_tup (pv 0) pe_int (fun _ _ => rfl)) pe_int (fun _ _ => rfl)) (pe_ix ix_tup (pv 2) pe_int (fun _ _ => rfl)))) pa_nil))))), ?_⟩
    refine ⟨.ref a, rfl, a, _, 0, _, rfl, rfl, hW, atI_nat (j := 0) rfl, _, rfl, u, t, w.x, w.y, w.z, r1, r2, r3, rfl, hU, hP, x1, x2, x3, b1.up (by decide), b2.up (by decide), b3.up (by decide), fun H1 f s1 hf => ?_⟩
    have bD := bd_sum3 (by decide) x1 x2 x3 b1 b2 b3
    have hW1 := same_tup s1 hW
    have hO1 := same_tup s1 hO
    refine ⟨.ref f, rfl, f, _, 0, _, rfl, rfl, hf, atI_nat (j := 0) rfl, .ref a, rfl, a, _, 1, _, rfl, rfl, hW1, atI_nat (j := 1) rfl, o, _, _, _, rfl, rfl, hO1, atI_nat (j := 1) rfl, _, _, rfl, rfl, Bz.wide bD.nz x4.dz (by decide), .ref a, rfl, a, _, 1, _, rfl, rfl, hW1, atI_nat (j := 1) rfl, o, _, _, _, rfl, rfl, hO1, atI_nat (j := 0) rfl, .ref f, rfl, f, _, 1, _, rfl, rfl, hf, atI_nat (j := 1) rfl, _, _, rfl, rfl, Bz.wide x4.nz bD.dz (by decide), _, _, rfl, rfl, ?_⟩
    refine ⟨_, rfl, ?_⟩
    have k1 := k H1 s1
    rw [sdw_dot] at k1
    exact k1
def spLLawShut (K : PySem.W.Frag) : Sp := fun vs H Q _ => ∃ cell : Int, vs = [.int cell] ∧ ∀ (H' : Hp) (t : Addr) (w : WI), Same H H' → WOk K H' t w → WBd w → Q (.ref t) H'
theorem okLLawShut {fLLawShut : Addr} {fdLLawShut : FuncData} (F : Fun K "_law_shut" "_law_shut" sLLawShut fLLawShut fdLLawShut) (T : Txt mg) {aZERO : Addr} (CT : Cons K mg aZERO) {CPartError CNought : Addr} (EX : Exns K mg CPartError CNought)
    {fLLawRow : Addr} {fdLLawRow : FuncData} (GLLawRow : FnOk P w K mg base CX0 1 fLLawRow fdLLawRow ["_law_cell_here", "_law_size", "_law_base"] (spLLawRow K)) (gLLawRow : mg "_law_row" = some (.ref fLLawRow)) (kpLLawRow : PySem.W.keepIn K (.ref fLLawRow) = true) (bLLawRow : Binds K fdLLawRow ["_law_cell_here", "_law_size", "_law_base"] [])
    {fLLawFraction : Addr} {fdLLawFraction : FuncData} (GLLawFraction : FnOk P w K mg base CX0 1 fLLawFraction fdLLawFraction ["_law_number", "_law_divisor"] (spLLawFraction K)) (gLLawFraction : mg "_law_fraction" = some (.ref fLLawFraction)) (kpLLawFraction : PySem.W.keepIn K (.ref fLLawFraction) = true) (bLLawFraction : Binds K fdLLawFraction ["_law_number", "_law_divisor"] []) :
    FnOk P w K mg base CX0 2 fLLawShut fdLLawShut ["_law_cell_here"] (spLLawShut K) := by
  refine F.ok scLLawShut (fun vs H Q E h => ?_) (fun cdv A outer s H vs Q E hr h => ?_)
  · obtain ⟨cell, rfl, k⟩ := h
    rfl
  · obtain ⟨cell, rfl, k⟩ := h
    refine ⟨_, (pss_cons (ps_set (i := 1) scLLawShut.nd rfl (Or.inl rfl) (pe_call GLLawRow hr (by rfl) gLLawRow kpLLawRow bLLawRow .nil pass0 (pa_cons (pv 0) (pa_cons pe_int (pa_cons pe_int pa_nil)))))
      (pss_cons (ps_set (i := 2) scLLawShut.nd rfl (Or.inl rfl) (pe_tup (pa_cons (pe_op op_sub (pe_op op_mod (pe_ix ix_list (pv 1) pe_int (fun _ _ => rfl)) pe_int) pe_int) (pa_cons (pe_op op_sub (pe_op op_mod (pe_ix ix_list (pv 1) pe_int (fun _ _ => rfl)) pe_int) pe_int) (pa_cons (pe_op op_sub (pe_op op_mod (pe_ix ix_list (pv 1) pe_int (fun _ _ => rfl)) pe_int) pe_int) pa_nil)))))
      (C8.pss_cut (ps_if (pt_cmpR (op_eqD hr.units) (pv 2) (pe_tup (pa_cons pe_int (pa_cons pe_int (pa_cons pe_int pa_nil)))) (nomark _))
        (pss_one (ps_set (i := 2) scLLawShut.nd rfl (Or.inl rfl) (pe_tup (pa_cons pe_int (pa_cons pe_int (pa_cons pe_int pa_nil))))))
        pss_nil)
      (pss_one (ps_ret (pe_tup (pa_cons (pv 2) (pa_cons (pe_call GLLawFraction hr (by rfl) gLLawFraction kpLLawFraction bLLawFraction .nil pass0 (pa_cons (pe_op op_sub (pe_op op_mod (pe_ix ix_list (pv 1) pe_int (fun _ _ => rfl)) pe_int) pe_int) (pa_cons (pe_op op_add pe_int (pe_op op_mod (pe_op op_fdiv (pe_ix ix_list (pv 1) pe_int (fun _ _ => rfl)) pe_int) pe_int)) pa_nil))) pa_nil)))))))), ?_⟩
    refine ⟨_, rfl, cell, 1000, 4, rfl, by decide, by decide, by decide, fun H1 l rs s1 nl el hrs hr0 => ?_⟩
    obtain ⟨a, b, c, d, rfl⟩ := len4 hrs
    have hl1 : SqL K H1 l (zs [a, b, c, d]) := SqL.of el
    have a0 := Int.emod_nonneg a (show (7 : Int) ≠ 0 by decide)
    have a1 := Int.emod_lt_of_pos a (show (0 : Int) < 7 by decide)
    have b0 := Int.emod_nonneg b (show (7 : Int) ≠ 0 by decide)
    have b1 := Int.emod_lt_of_pos b (show (0 : Int) < 7 by decide)
    have c0 := Int.emod_nonneg c (show (7 : Int) ≠ 0 by decide)
    have c1 := Int.emod_lt_of_pos c (show (0 : Int) < 7 by decide)
    have d0 := Int.emod_nonneg d (show (13 : Int) ≠ 0 by decide)
    have d1 := Int.emod_lt_of_pos d (show (0 : Int) < 13 by decide)
    have e0 := Int.emod_nonneg (d / 13) (show (3 : Int) ≠ 0 by decide)
    have e1 := Int.emod_lt_of_pos (d / 13) (show (0 : Int) < 3 by decide)
    walk_at "go"
    refine ⟨tn rfl, fun t2 nt2 => ?_⟩
    generalize hUt2 : upd _ _ (HO.tup _) = H2
    have s2 := same_hu hUt2 nt2
    have eh2 := at_hu hUt2
    have h2 := SqT.of (K := K) eh2
    clear hUt2
    walk_at "go"
    refine ⟨fun σ' H' => ∃ (u : Addr) (x y z : Int), σ' = [some (.int cell), some (.ref l), some (.ref u)] ∧ Same H1 H' ∧ SqT K H' u (zs [x, y, z]) ∧ Bz 20 x ∧ Bz 20 y ∧ Bz 20 z, ?_, ?_⟩
    · walk_at "go"
      refine ⟨tn rfl, fun t3 nt3 => ?_⟩
      generalize hUt3 : upd _ _ (HO.tup _) = H3
      have s3 := same_hu hUt3 nt3
      have eh3 := at_hu hUt3
      have h3 := SqT.of (K := K) eh3
      clear hUt3
      refine ⟨pdi _, pdi [0, 0, 0], .tup (same_tup s3 h2) (dpi_all [_, _, _]), .tup h3 (dpi_all [_, _, _]), shi_t _, shi_t _, ?_⟩
      refine ⟨_, rfl, ite2 (fun g => ?_) (fun g => ?_)⟩
      · walk_at "go"
        refine ⟨tn rfl, fun t4 nt4 => ?_⟩
        generalize hUt4 : upd _ _ (HO.tup _) = H4
        have s4 := same_hu hUt4 nt4
        have eh4 := at_hu hUt4
        have h4 := SqT.of (K := K) eh4
        clear hUt4
        exact ⟨t4, 0, 1, 0, rfl, s2.trans (s3.trans s4), h4, bz_of (n := 20) (by decide), bz_of (n := 20) (by decide), bz_of (n := 20) (by decide)⟩
      · exact ⟨t2, _, _, _, rfl, s2.trans s3, same_tup s3 h2, bz_lt (b := 100) (by decide) (by omega), bz_lt (b := 100) (by decide) (by omega), bz_lt (b := 100) (by decide) (by omega)⟩
    rintro σ' H3 ⟨u, x, y, z, rfl, s3, hu, x1, x2, x3⟩
    have hl3 := s3.seq hl1
    have cc : (1000 : Nat) < 2 ^ 1800 := Nat.lt_of_lt_of_le (by decide) (Nat.pow_le_pow_right (n := 2) (i := 10) (by decide) (by decide))
    walk_at "go"
    refine ⟨by omega, by omega, by omega, fun H4 t4 s4 e4 => ?_⟩
    have f4 := fx_rd (K := K) (by omega) e4
    walk_at "go"
    refine ⟨tn rfl, fun t5 nt5 => ?_⟩
    generalize hUt5 : upd _ _ (HO.tup _) = H5
    have s5 := same_hu hUt5 nt5
    have eh5 := at_hu hUt5
    have h5 := SqT.of (K := K) eh5
    clear hUt5
    exact k H5 t5 ⟨x, y, z, _⟩ (s1.trans (s3.trans (s4.trans s5))) ⟨u, t4, h5, same_tup (s4.trans s5) hu, f4.same s5⟩ ⟨x1, x2, x3, bd_of (by omega) (by have : (2 : Nat) ^ 20 = 1048576 := rfl; omega) (by have : (2 : Nat) ^ 20 = 1048576 := rfl; omega)⟩
def spLLawShuts (K : PySem.W.Frag) : Sp := fun vs H Q _ => ∃ (a : Addr) (ns : List Int) (n : Nat), vs = [.ref a, .int 3, .int (n : Int)] ∧ SqL K H a (zs ns) ∧ 1 ≤ n ∧ n ≤ 5 ∧ ∀ (H' : Hp) (l : Addr) (ws : List (Addr × WI)), Same H H' → H' l = some (.lst (wr ws)) → WsX K H' ws → (∀ w ∈ ws, WBd w.2) → ws.length = n → Q (.ref l) H'
theorem okLLawShuts {fLLawShuts : Addr} {fdLLawShuts : FuncData} (F : Fun K "_law_shuts" "_law_shuts" sLLawShuts fLLawShuts fdLLawShuts) (T : Txt mg) {aZERO : Addr} (CT : Cons K mg aZERO) {CPartError CNought : Addr} (EX : Exns K mg CPartError CNought)
    {fLLawShut : Addr} {fdLLawShut : FuncData} (GLLawShut : FnOk P w K mg base CX0 2 fLLawShut fdLLawShut ["_law_cell_here"] (spLLawShut K)) (gLLawShut : mg "_law_shut" = some (.ref fLLawShut)) (kpLLawShut : PySem.W.keepIn K (.ref fLLawShut) = true) (bLLawShut : Binds K fdLLawShut ["_law_cell_here"] [])
    {fLLawCell : Addr} {fdLLawCell : FuncData} (GLLawCell : FnOk P w K mg base CX0 1 fLLawCell fdLLawCell ["_law_script", "_law_k"] (spLLawCell K)) (gLLawCell : mg "_law_cell" = some (.ref fLLawCell)) (kpLLawCell : PySem.W.keepIn K (.ref fLLawCell) = true) (bLLawCell : Binds K fdLLawCell ["_law_script", "_law_k"] []) :
    FnOk P w K mg base CX0 3 fLLawShuts fdLLawShuts ["_law_script", "_law_first", "_law_count"] (spLLawShuts K) := by
  refine F.ok scLLawShuts (fun vs H Q E h => ?_) (fun cdv A outer s H vs Q E hr h => ?_)
  · obtain ⟨a, ns, n, rfl, hS, h1, h5, k⟩ := h
    rfl
  · obtain ⟨a, ns, n, rfl, hS, h1, h5, k⟩ := h
    refine ⟨_, (pss_cons (ps_setLc (i := 3) (own := [("_law_k", 4)]) (by rfl) scLLawShuts.nd rfl rfl (sw_true rfl rfl rfl (by decide +kernel)) (pi_range1 rfl T.range (pa_cons (pv 2) pa_nil)) (blkOk_by (own := [("_law_k", 4)]) (N := ["_law_script", "_law_first", "_law_count", "_law_shuts_here", "_law_k"]) (sc := defScope sLLawShuts) (by decide +kernel)) (fun _ _ _ _ _ => (pg_name (i := 4) scLLawShuts.nd rfl (Or.inl rfl))) (fun _ _ _ _ _ => pts_nil) (fun _ _ _ _ _ => (pe_call GLLawShut hr (by rfl) gLLawShut kpLLawShut bLLawShut .nil pass0 (pa_cons (pe_call GLLawCell (hr.mono (by decide)) (by rfl) gLLawCell kpLLawCell bLLawCell .nil pass0 (pa_cons (pv 0) (pa_cons (pe_op op_add (pv 1) (pv 4)) pa_nil))) pa_nil))))
      (C8.pss_cut (ps_for PassesOwn.never rfl (pi_range2 rfl T.range (pa_cons pe_int (pa_cons (pv 2) pa_nil))) (pg_name (i := 4) scLLawShuts.nd rfl (Or.inl rfl))
        (pss_one (ps_if (pt_cmpR op_eq (pe_op op_mod (pe_op op_fdiv (pe_call GLLawCell (hr.mono (by decide)) (by rfl) gLLawCell kpLLawCell bLLawCell .nil pass0 (pa_cons (pv 0) (pa_cons (pe_op op_add (pv 1) (pv 4)) pa_nil))) pe_int) pe_int) pe_int (nomark _))
          (pss_one (ps_asg (pe_tup (pa_cons (pe_ix ix_tup (pe_ix ix_list (pv 3) (pe_op op_sub (pv 4) pe_int) (fun _ _ => rfl)) pe_int (fun _ _ => rfl)) (pa_cons (pe_ix ix_tup (pe_ix ix_list (pv 3) (pv 4) (fun _ _ => rfl)) pe_int (fun _ _ => rfl)) pa_nil))) (pg_sub (pv 3) (pv 4) set_list)))
          pss_nil)))
      (pss_one (ps_ret (pv 3))))), ?_⟩
    refine ⟨_, rfl, n, rfl, by omega, by omega, fun D hD => ?_⟩
    refine lc_obj walk_range (fun _ H v => ∃ (t : Addr) (w : WI), v = .ref t ∧ WOk K H t w ∧ WBd w) ?_ (by omega) hD (fun _ _ => trivial) ?_ ?_
    · rintro i H H' v D acc ⟨t, w, rfl, h1, h2⟩ e s
      exact ⟨t, w, rfl, WOk.over h1 e s, h2⟩
    · rintro i v H1 H2 kk hi s1 ⟨rfl, rfl⟩ yk
      refine ⟨rfl, _, rfl, _, rfl, _, rfl, _, _, rfl, rfl, a, ns, 3 + i, congrArg (fun z => [V.ref a, V.int z]) (show (3 : Int) + (0 + (i : Int)) = ((3 + i : Nat) : Int) by omega), s1.seq hS, fun c hc => ?_⟩
      exact ⟨c, rfl, fun H3 t w s h1 h2 => yk (.ref t) H3 s ⟨t, w, rfl, h1, h2⟩⟩
    · intro H1 us s1 e1 l1 r1
      obtain ⟨ws, rfl, rW, bW⟩ := wr_of r1
      rw [wr_len] at l1
      refine ⟨fun σ' H' => ∃ (v4 : Option V) (ws : List (Addr × WI)), σ' = [some (.ref a), some (.int 3), some (.int (n : Int)), some (.ref D), v4] ∧ Same H H' ∧ H' D = some (.lst (wr ws)) ∧ WsX K H' ws ∧ (∀ w ∈ ws, WBd w.2) ∧ ws.length = n, ?_, ?_⟩
      · refine ⟨_, rfl, 1, n, rfl, ⟨by decide, by decide, by omega, by omega⟩, ?_⟩
        refine for_range (lo := 1) (n := ((n : Int) - 1).toNat) (fun i σ' H' => ∃ (v4 : Option V) (ws : List (Addr × WI)), σ' = [some (.ref a), some (.int 3), some (.int (n : Int)), some (.ref D), v4] ∧ Same H H' ∧ H' D = some (.lst (wr ws)) ∧ WsX K H' ws ∧ (∀ w ∈ ws, WBd w.2) ∧ ws.length = n) ⟨none, ws, rfl, s1, e1, rW, bW, l1⟩ ?_ (fun _ _ h => h)
        rintro i σ' H2 hi ⟨v4, ws2, rfl, s2, e2, r2, b2, l2⟩
        have w0 : ws2[i]? = some ws2[i] := List.getElem?_eq_getElem (by omega)
        have w1 : ws2[1 + i]? = some ws2[1 + i] := List.getElem?_eq_getElem (by omega)
        have m0 : ws2[i] ∈ ws2 := List.getElem_mem _
        have m1 : ws2[1 + i] ∈ ws2 := List.getElem_mem _
        generalize ws2[i] = p0 at *
        generalize ws2[1 + i] = p1 at *
        have a0 := wr_at w0
        have a1 := wr_at w1
        obtain ⟨u0, o0, h0, hu0, ho0⟩ := r2 p0 m0
        obtain ⟨u1, o1, h1', hu1, ho1⟩ := r2 p1 m1
        obtain ⟨x1, x2, x3, x4⟩ := b2 p0 m0
        obtain ⟨y1, y2, y3, y4⟩ := b2 p1 m1
        refine ⟨_, rfl, _, rfl, _, rfl, _, _, rfl, rfl, a, ns, 3 + (1 + i), congrArg (fun z => [V.ref a, V.int z]) (show (3 : Int) + (1 + (i : Int)) = ((3 + (1 + i) : Nat) : Int) by omega), s2.seq hS, fun c hc => ?_⟩
        refine ⟨_, _, rfl, rfl, ⟨by decide, by decide⟩, _, _, rfl, rfl, by show (0 : Int) < 4; decide, rfl, _, rfl, ite2 (fun _ => ?_) (fun _ => ?_)⟩
        · refine ⟨_, rfl, _, rfl, _, _, rfl, rfl, D, _, _, _, rfl, rfl, SqL.of e2, by rw [show (1 : Int) + (i : Int) - 1 = (i : Int) by omega]; exact atI_nat a0, p0.1, _, 0, _, rfl, rfl, h0, atI_nat (j := 0) rfl, ?_⟩
          refine ⟨_, rfl, _, rfl, D, _, _, _, rfl, rfl, SqL.of e2, by rw [show (1 : Int) + (i : Int) = ((1 + i : Nat) : Int) by omega]; exact atI_nat a1, p1.1, _, 1, _, rfl, rfl, h1', atI_nat (j := 1) rfl, by show 2 ≤ sizeLine; decide, fun T nT => ?_⟩
          have sT := same_upd (o := .tup [.ref u0, .ref o1]) nT
          have eT : (upd H2 T (.tup [.ref u0, .ref o1])) T = some (.tup [.ref u0, .ref o1]) := upd_same
          generalize upd H2 T (.tup [.ref u0, .ref o1]) = H3 at *
          have eD := sT _ _ e2
          have st : ∀ b o, b ≠ D → H3 b = some o → (upd H3 D (.lst ((wr ws2).set (1 + i) (.ref T)))) b = some o := fun b o hb h => by rw [upd_ne hb]; exact h
          refine ⟨_, rfl, _, rfl, D, wr ws2, 1 + (i : Int), 1 + i, rfl, rfl, eD, ?_, ?_⟩
          · unfold ixN
            rw [wr_len, l2, if_pos (by omega), if_pos (by omega)]
            exact congrArg some (by omega)
          refine ⟨_, ws2.set (1 + i) (T, ⟨p0.2.x, p0.2.y, p0.2.z, p1.2.r⟩), rfl, fun b o e => ?_, ?_, fun w hw => ?_, fun w hw => ?_, by rw [List.length_set]; exact l2⟩
          · rw [upd_ne (ne_of_none e hD)]
            exact sT _ _ (s2 _ _ e)
          · rw [upd_same, show wr (ws2.set (1 + i) (T, ⟨p0.2.x, p0.2.y, p0.2.z, p1.2.r⟩)) = (wr ws2).set (1 + i) (.ref T) from List.map_set]
          · rcases List.mem_or_eq_of_mem_set hw with h | h
            · exact WOk.over (WOk.up sT (r2 w h)) eD st
            · rw [h]
              exact ⟨u0, o1, over_tup (SqT.of eT) eD st, over_tup (same_tup sT hu0) eD st, over_tup (same_tup sT ho1) eD st⟩
          · rcases List.mem_or_eq_of_mem_set hw with h | h
            · exact b2 w h
            · rw [h]
              exact ⟨x1, x2, x3, y4⟩
        · exact ⟨_, ws2, rfl, s2, e2, r2, b2, l2⟩
      · rintro σ' H2 ⟨v4, ws2, rfl, s2, e2, r2, b2, l2⟩
        exact ⟨_, rfl, k H2 D ws2 s2 e2 r2 b2 l2⟩
def spLLawShows (K : PySem.W.Frag) : Sp := fun vs H Q _ => ∃ (lw ls lm : Addr) (ws : List (Addr × WI)) (sg : List Int) (ms : List (Addr × Rat)), vs = [.ref lw, .ref ls, .ref lm] ∧ SqL K H lw (wr ws) ∧ WsX K H ws ∧ (∀ w ∈ ws, WBd w.2) ∧ SqL K H ls (zs sg) ∧ SqL K H lm (fr ms) ∧ Rx K H ms ∧ (∀ m ∈ ms, Bd 10 m.2) ∧ sg.length = ws.length ∧ ms.length = ws.length ∧ ws.length ≤ 9 ∧
  ∀ H', Same H H' → Q (.bl (RP (ws.map (·.2)) sg (ms.map (·.2)))) H'
theorem okLLawShows {fLLawShows : Addr} {fdLLawShows : FuncData} (F : Fun K "_law_shows" "_law_shows" sLLawShows fLLawShows fdLLawShows) (T : Txt mg) {aZERO : Addr} (CT : Cons K mg aZERO) {CPartError CNought : Addr} (EX : Exns K mg CPartError CNought)
    {fLLawPlus : Addr} {fdLLawPlus : FuncData} (GLLawPlus : FnOk P w K mg base CX0 2 fLLawPlus fdLLawPlus ["_law_a", "_law_b"] (spLLawPlus K)) (gLLawPlus : mg "_law_plus" = some (.ref fLLawPlus)) (kpLLawPlus : PySem.W.keepIn K (.ref fLLawPlus) = true) (bLLawPlus : Binds K fdLLawPlus ["_law_a", "_law_b"] [])
    {fLLawTimes : Addr} {fdLLawTimes : FuncData} (GLLawTimes : FnOk P w K mg base CX0 2 fLLawTimes fdLLawTimes ["_law_a", "_law_b"] (spLLawTimes K)) (gLLawTimes : mg "_law_times" = some (.ref fLLawTimes)) (kpLLawTimes : PySem.W.keepIn K (.ref fLLawTimes) = true) (bLLawTimes : Binds K fdLLawTimes ["_law_a", "_law_b"] []) :
    FnOk P w K mg base CX0 3 fLLawShows fdLLawShows ["_law_shuts_here", "_law_signs", "_law_multipliers"] (spLLawShows K) := by
  refine F.ok scLLawShows (fun vs H Q E h => ?_) (fun cdv A outer s H vs Q E hr h => ?_)
  · obtain ⟨lw, ls, lm, ws, sg, ms, rfl, hW, rW, bW, hG, hM, rM, bM, nG, nM, n1, k⟩ := h
    rfl
  · obtain ⟨lw, ls, lm, ws, sg, ms, rfl, hW, rW, bW, hG, hM, rM, bM, nG, nM, n1, k⟩ := h
    refine ⟨_, (pss_cons (ps_set (i := 3) scLLawShows.nd rfl (Or.inr rfl) (pe_lst (pa_cons (pe_tup (pa_cons pe_int (pa_cons pe_int pa_nil))) (pa_cons (pe_tup (pa_cons pe_int (pa_cons pe_int pa_nil))) (pa_cons (pe_tup (pa_cons pe_int (pa_cons pe_int pa_nil))) (pa_cons (pe_tup (pa_cons pe_int (pa_cons pe_int pa_nil))) pa_nil))))))
      (pss_cons (ps_set (i := 4) scLLawShows.nd rfl (Or.inl rfl) pe_bl)
      (C8.pss_cut (ps_for PassesOwn.never rfl (pi_range1 rfl T.range (pa_cons (pe_callB call_len_seq (by rfl) T.len PySem.boot_len (pa_cons (pv 0) pa_nil)) pa_nil)) (pg_name (i := 5) scLLawShows.nd rfl (Or.inl rfl))
        (pss_cons (ps_set (i := 6) scLLawShows.nd rfl (Or.inr rfl) (pe_ix ix_list (pv 2) (pv 5) (fun _ _ => rfl)))
        (pss_cons (ps_if (PW.pt (pw_and (pt_cmpR op_ne (pe_ix ix_list (pv 1) (pv 5) (fun _ _ => rfl)) pe_int (nomark _)) (pw_and1 (pt_cmpR op_lt (pe_ix ix_tup (pv 6) pe_int (fun _ _ => rfl)) pe_int (nomark _)))))
          (pss_one (ps_ret pe_bl))
          pss_nil)
        (C8.pss_cut (ps_if (PW.pt (pw_and (pt_cmpR op_ne (pe_ix ix_list (pv 1) (pv 5) (fun _ _ => rfl)) pe_int (nomark _)) (pw_and1 (pt_cmpR op_gt (pe_ix ix_tup (pv 6) pe_int (fun _ _ => rfl)) pe_int (nomark _)))))
          (pss_one (ps_set (i := 4) scLLawShows.nd rfl (Or.inl rfl) pe_bl))
          pss_nil)
        (C8.pss_cut (ps_if (pt_cmpR op_lt (pe_ix ix_list (pv 1) (pv 5) (fun _ _ => rfl)) pe_int (nomark _))
          (pss_one (ps_set (i := 6) scLLawShows.nd rfl (Or.inr rfl) (pe_tup (pa_cons (pe_un un_neg (pe_ix ix_tup (pv 6) pe_int (fun _ _ => rfl))) (pa_cons (pe_ix ix_tup (pv 6) pe_int (fun _ _ => rfl)) pa_nil)))))
          pss_nil)
        (pss_cons (ps_set (i := 7) scLLawShows.nd rfl (Or.inr rfl) (pe_lst (pa_cons (pe_tup (pa_cons (pe_ix ix_tup (pe_ix ix_tup (pe_ix ix_list (pv 0) (pv 5) (fun _ _ => rfl)) pe_int (fun _ _ => rfl)) pe_int (fun _ _ => rfl)) (pa_cons pe_int pa_nil))) (pa_cons (pe_tup (pa_cons (pe_ix ix_tup (pe_ix ix_tup (pe_ix ix_list (pv 0) (pv 5) (fun _ _ => rfl)) pe_int (fun _ _ => rfl)) pe_int (fun _ _ => rfl)) (pa_cons pe_int pa_nil))) (pa_cons (pe_tup (pa_cons (pe_ix ix_tup (pe_ix ix_tup (pe_ix ix_list (pv 0) (pv 5) (fun _ _ => rfl)) pe_int (fun _ _ => rfl)) pe_int (fun _ _ => rfl)) (pa_cons pe_int pa_nil))) (pa_cons (pe_ix ix_tup (pe_ix ix_list (pv 0) (pv 5) (fun _ _ => rfl)) pe_int (fun _ _ => rfl)) pa_nil))))))
        (pss_one (ps_set (i := 3) scLLawShows.nd rfl (Or.inr rfl) (pe_lc (own := [("_law_at", 8)]) (by rfl) scLLawShows.nd (pi_range1 rfl T.range (pa_cons pe_int pa_nil)) (blkOk_by (own := [("_law_at", 8)]) (N := ["_law_shuts_here", "_law_signs", "_law_multipliers", "_law_total", "_law_strict", "_law_k", "_law_factor", "_law_row_here", "_law_at"]) (sc := defScope sLLawShows) (by decide +kernel)) (fun _ _ _ _ _ => (pg_name (i := 8) scLLawShows.nd rfl (Or.inl rfl))) (fun _ _ _ _ _ => pts_nil) (fun _ _ _ _ _ => (pe_call GLLawPlus hr (by rfl) gLLawPlus kpLLawPlus bLLawPlus .nil pass0 (pa_cons (pe_ix (show IxR _ (rIxL K) from ix_list) (pv 3) (pv 8) (fun _ _ => rfl)) (pa_cons (pe_call GLLawTimes hr (by rfl) gLLawTimes kpLLawTimes bLLawTimes .nil pass0 (pa_cons (pv 6) (pa_cons (pe_ix (show IxR _ (rIxL K) from ix_list) (pv 7) (pv 8) (fun _ _ => rfl)) pa_nil))) pa_nil)))))))))))))
      (pss_cons (ps_if (pt_cmpR (op_neD hr.units) (pe_slice sl_list (pv 3) po_none (po_some pe_int)) (pe_lst (pa_cons (pe_tup (pa_cons pe_int (pa_cons pe_int pa_nil))) (pa_cons (pe_tup (pa_cons pe_int (pa_cons pe_int pa_nil))) (pa_cons (pe_tup (pa_cons pe_int (pa_cons pe_int pa_nil))) pa_nil)))) (nomark _))
        (pss_one (ps_ret pe_bl))
        pss_nil)
      (pss_cons (ps_if (pt_val (pv 4))
        (pss_one (ps_ret (pe_cmpR op_ge (pe_ix ix_tup (pe_ix ix_list (pv 3) pe_int (fun _ _ => rfl)) pe_int (fun _ _ => rfl)) pe_int (nomark _))))
        pss_nil)
      (pss_one (ps_ret (pe_cmpR op_ne (pe_ix ix_tup (pe_ix ix_list (pv 3) pe_int (fun _ _ => rfl)) pe_int (fun _ _ => rfl)) pe_int (nomark _))))))))), ?_⟩
    have nL : ∀ c, (Lc c (ws.map (·.2)) sg (ms.map (·.2))).length = ws.length := fun c => by
      unfold Lc
      simp
      omega
    have bL : ∀ c, ∀ r ∈ Lc c (ws.map (·.2)) sg (ms.map (·.2)), Bd 30 r := fun c => Lc_bd (fun w hw => by
      obtain ⟨x, hx, rfl⟩ := List.mem_map.mp hw
      exact bW x hx) (fun m hm => by
      obtain ⟨x, hx, rfl⟩ := List.mem_map.mp hm
      exact bM x hx)
    refine ⟨tn rfl, fun z0 nz0 => ?_⟩
    generalize hUz0 : upd _ _ (HO.tup _) = H0
    have s0 := same_hu hUz0 nz0
    have eh0 := at_hu hUz0
    have h0 := SqT.of (K := K) eh0
    clear hUz0
    refine ⟨tn rfl, fun z1 nz1 => ?_⟩
    generalize hUz1 : upd _ _ (HO.tup _) = H1
    have s1 := same_hu hUz1 nz1
    have eh1 := at_hu hUz1
    have h1 := SqT.of (K := K) eh1
    clear hUz1
    refine ⟨tn rfl, fun z2 nz2 => ?_⟩
    generalize hUz2 : upd _ _ (HO.tup _) = H2
    have s2 := same_hu hUz2 nz2
    have eh2 := at_hu hUz2
    have h2 := SqT.of (K := K) eh2
    clear hUz2
    refine ⟨tn rfl, fun z3 nz3 => ?_⟩
    generalize hUz3 : upd _ _ (HO.tup _) = H3
    have s3 := same_hu hUz3 nz3
    have eh3 := at_hu hUz3
    have h3 := SqT.of (K := K) eh3
    clear hUz3
    refine ⟨tn rfl, fun T0 nT0 => ?_⟩
    generalize hUT0 : upd _ _ (HO.lst _) = H4
    have s4 := same_hu hUT0 nT0
    have eh4 := at_hu hUT0
    have h4 := SqL.of (K := K) eh4
    clear hUT0
    have s04 : Same H H4 := s0.trans (s1.trans (s2.trans (s3.trans s4)))
    refine ⟨fun σ' H' => ∃ (T : Addr) (q : List (Addr × Rat)) (st : Bool) (v5 v6 v7 v8 : Option V), σ' = [some (.ref lw), some (.ref ls), some (.ref lm), some (.ref T), some (.bl st), v5, v6, v7, v8] ∧ Same H H' ∧ SqL K H' T (fr q) ∧ Rx K H' q ∧ q.map (·.2) = (List.range 4).map (fun c => pt c (ws.map (·.2)) sg (ms.map (·.2)) ws.length) ∧ ((List.zipWith pN (ms.map (·.2)) sg).take ws.length).any id = false ∧ ((List.zipWith pP (ms.map (·.2)) sg).take ws.length).any id = st, ?_, ?_⟩
    · refine ⟨_, rfl, lw, _, rfl, .inl (s04.seq hW), ws.length, by rw [wr_len], by omega, by omega, ?_⟩
      refine for_range (n := ws.length) (fun i σ' H' => ∃ (T : Addr) (q : List (Addr × Rat)) (st : Bool) (v5 v6 v7 v8 : Option V), σ' = [some (.ref lw), some (.ref ls), some (.ref lm), some (.ref T), some (.bl st), v5, v6, v7, v8] ∧ Same H H' ∧ SqL K H' T (fr q) ∧ Rx K H' q ∧ q.map (·.2) = (List.range 4).map (fun c => pt c (ws.map (·.2)) sg (ms.map (·.2)) i) ∧ ((List.zipWith pN (ms.map (·.2)) sg).take i).any id = false ∧ ((List.zipWith pP (ms.map (·.2)) sg).take i).any id = st) ?_ ?_ (fun _ _ h => h)
      · refine ⟨T0, [(z0, 0), (z1, 0), (z2, 0), (z3, 0)], false, _, _, _, _, rfl, s04, h4, ?_, ?_, rfl, rfl⟩
        · intro w hw
          simp only [List.mem_cons, List.not_mem_nil, or_false] at hw
          rcases hw with rfl | rfl | rfl | rfl
          · exact same_tup (s1.trans (s2.trans (s3.trans s4))) h0
          · exact same_tup (s2.trans (s3.trans s4)) h1
          · exact same_tup (s3.trans s4) h2
          · exact same_tup s4 h3
        · rfl
      rintro i σ' H5 hi ⟨T, q, st, v5, v6, v7, v8, rfl, s5, hT, rq, mq, hn, hp⟩
      have hi0 : (0 : Int) + (i : Int) = (i : Int) := by omega
      obtain ⟨w, ew⟩ : ∃ w, ws[i]? = some w := ⟨_, List.getElem?_eq_getElem hi⟩
      obtain ⟨s, es⟩ : ∃ s, sg[i]? = some s := ⟨_, List.getElem?_eq_getElem (by omega)⟩
      obtain ⟨m, em⟩ : ∃ m, ms[i]? = some m := ⟨_, List.getElem?_eq_getElem (by omega)⟩
      have mw : w ∈ ws := List.mem_of_getElem? ew
      have mm : m ∈ ms := List.mem_of_getElem? em
      have aw := wr_at ew
      have as : (zs sg)[i]? = some (.int s) := by
        rw [show zs sg = sg.map V.int from rfl, List.getElem?_map, es]
        rfl
      have am : (fr ms)[i]? = some (.ref m.1) := atG em
      have eN : (List.zipWith pN (ms.map (·.2)) sg)[i]? = some (pN m.2 s) := by
        rw [List.getElem?_zipWith, List.getElem?_map, em, es]
        rfl
      have eP : (List.zipWith pP (ms.map (·.2)) sg)[i]? = some (pP m.2 s) := by
        rw [List.getElem?_zipWith, List.getElem?_map, em, es]
        rfl
      have fm : Fx K H5 m.1 m.2 := (rM m mm).same s5
      refine ⟨_, rfl, _, rfl, lm, _, _, _, rfl, rfl, s5.seq hM, by rw [hi0]; exact atI_nat am, ?_⟩
      -- a multiplier below 0
      by_cases hpn : pN m.2 s = true
      · have hh := hpn
        unfold pN at hh
        rw [sgn_lt, Bool.and_eq_true] at hh
        have hs0 := of_decide_eq_true hh.1
        refine ⟨_, rfl, _, rfl, ls, _, _, _, rfl, rfl, s5.seq hG, by rw [hi0]; exact atI_nat as, rfl, _, rfl, iteT' (by simp [hs0]) ?_⟩
        refine ⟨_, rfl, m.1, _, 0, _, rfl, rfl, fm, atI_nat (j := 0) rfl, _, _, rfl, rfl, _, rfl, iteT' hh.2 ?_⟩
        have ha : any2 pN (ms.map (·.2)) sg = true := by
          unfold any2
          rw [List.any_eq_true]
          exact ⟨_, List.mem_of_getElem? eN, hpn⟩
        have hr : RP (ws.map (·.2)) sg (ms.map (·.2)) = false := by
          unfold RP
          rw [ha]
          simp
        rw [hr] at k
        exact k H5 s5
      have hpf : pN m.2 s = false := Bool.eq_false_iff.mpr hpn
      refine via (P := ?PP) (fun hX => ?_) ?_
      rotate_left
      · refine ⟨_, rfl, _, rfl, ls, _, _, _, rfl, rfl, s5.seq hG, by rw [hi0]; exact atI_nat as, rfl, _, rfl, ite2 (fun g => ?_) (fun g => ?_)⟩
        · refine ⟨_, rfl, m.1, _, 0, _, rfl, rfl, fm, atI_nat (j := 0) rfl, _, _, rfl, rfl, _, rfl, ite2 (fun g2 => ?_) (fun g2 => ?_)⟩
          · refine absurd ?_ hpn
            unfold pN
            rw [sgn_lt, g2, Bool.and_true]
            exact decide_eq_true (fun z => by rw [z] at g; simp at g)
          · exact hX
        · refine iteF ?_
          exact hX
      -- a multiplier above 0
      refine ⟨fun σ' H' => σ' = [some (.ref lw), some (.ref ls), some (.ref lm), some (.ref T), some (.bl (st || pP m.2 s)), some (.int (0 + (i : Int))), some (.ref m.1), v7, v8] ∧ H' = H5, ?_, ?_⟩
      · refine ⟨_, rfl, _, rfl, ls, _, _, _, rfl, rfl, s5.seq hG, by rw [hi0]; exact atI_nat as, rfl, _, rfl, ite2 (fun g => ?_) (fun g => ?_)⟩
        · have hs0 : s ≠ 0 := fun z => by
            rw [z] at g
            simp at g
          refine ⟨_, rfl, m.1, _, 0, _, rfl, rfl, fm, atI_nat (j := 0) rfl, _, _, rfl, rfl, _, rfl, ite2 (fun g2 => ?_) (fun g2 => ?_)⟩
          · have e : pP m.2 s = true := by
              unfold pP
              rw [sgn_gt, g2, Bool.and_true]
              exact decide_eq_true hs0
            rw [e, Bool.or_true]
            exact ⟨rfl, rfl⟩
          · have e : pP m.2 s = false := by
              unfold pP
              rw [sgn_gt, Bool.eq_false_iff.mpr g2, Bool.and_false]
            rw [e, Bool.or_false]
            exact ⟨rfl, rfl⟩
        · refine iteF ?_
          have hs0 : s = 0 := by simpa using g
          have e : pP m.2 s = false := by
            unfold pP
            rw [decide_eq_false (fun z => z hs0), Bool.false_and]
          rw [e, Bool.or_false]
          exact ⟨rfl, rfl⟩
      rintro σ' H6 ⟨rfl, rfl⟩
      -- a turned plane
      refine ⟨fun σ' H' => ∃ fa : Addr, σ' = [some (.ref lw), some (.ref ls), some (.ref lm), some (.ref T), some (.bl (st || pP m.2 s)), some (.int (0 + (i : Int))), some (.ref fa), v7, v8] ∧ Same H6 H' ∧ Fx K H' fa (tnR s m.2), ?_, ?_⟩
      · refine ⟨_, rfl, _, rfl, ls, _, _, _, rfl, rfl, s5.seq hG, by rw [hi0]; exact atI_nat as, _, _, rfl, rfl, _, rfl, ite2 (fun g => ?_) (fun g => ?_)⟩
        · refine ⟨_, rfl, m.1, _, 0, _, rfl, rfl, fm, atI_nat (j := 0) rfl, _, rfl, _, rfl, m.1, _, 1, _, rfl, rfl, fm, atI_nat (j := 1) rfl, by show 2 ≤ sizeLine; decide, fun t n => ?_⟩
          refine ⟨t, rfl, same_upd n, ?_⟩
          unfold tnR
          rw [if_pos (of_decide_eq_true g)]
          exact fx_neg (SqT.of upd_same)
        · refine ⟨m.1, rfl, Same.refl _, ?_⟩
          unfold tnR
          rw [if_neg (fun z => g (decide_eq_true z))]
          exact fm
      rintro σ' H7 ⟨fa, rfl, s7, ffa⟩
      have s57 := s5.trans s7
      obtain ⟨u, o, hw, hu, ho⟩ := WOk.up s57 (rW w mw)
      refine ⟨_, rfl, _, rfl, lw, _, _, _, rfl, rfl, s57.seq hW, by rw [hi0]; exact atI_nat aw, w.1, _, 0, _, rfl, rfl, hw, atI_nat (j := 0) rfl, u, _, 0, _, rfl, rfl, hu, atI_nat (j := 0) rfl, ?_⟩
      refine ⟨tn rfl, fun x1 nx1 => ?_⟩
      generalize hUx1 : upd _ _ (HO.tup _) = H8
      have s8 := same_hu hUx1 nx1
      have eh8 := at_hu hUx1
      have h8 := SqT.of (K := K) eh8
      clear hUx1
      refine ⟨_, rfl, _, rfl, lw, _, _, _, rfl, rfl, (s57.trans s8).seq hW, by rw [hi0]; exact atI_nat aw, w.1, _, 0, _, rfl, rfl, same_tup s8 hw, atI_nat (j := 0) rfl, u, _, 1, _, rfl, rfl, same_tup s8 hu, atI_nat (j := 1) rfl, ?_⟩
      refine ⟨tn rfl, fun x2 nx2 => ?_⟩
      generalize hUx2 : upd _ _ (HO.tup _) = H9
      have s9 := same_hu hUx2 nx2
      have eh9 := at_hu hUx2
      have h9 := SqT.of (K := K) eh9
      clear hUx2
      have s79 := s8.trans s9
      refine ⟨_, rfl, _, rfl, lw, _, _, _, rfl, rfl, (s57.trans s79).seq hW, by rw [hi0]; exact atI_nat aw, w.1, _, 0, _, rfl, rfl, same_tup s79 hw, atI_nat (j := 0) rfl, u, _, 2, _, rfl, rfl, same_tup s79 hu, atI_nat (j := 2) rfl, ?_⟩
      refine ⟨tn rfl, fun x3 nx3 => ?_⟩
      generalize hUx3 : upd _ _ (HO.tup _) = H10
      have s10 := same_hu hUx3 nx3
      have eh10 := at_hu hUx3
      have h10 := SqT.of (K := K) eh10
      clear hUx3
      have s710 := s79.trans s10
      refine ⟨_, rfl, _, rfl, lw, _, _, _, rfl, rfl, (s57.trans s710).seq hW, by rw [hi0]; exact atI_nat aw, w.1, _, 1, _, rfl, rfl, same_tup s710 hw, atI_nat (j := 1) rfl, ?_⟩
      refine ⟨tn rfl, fun R nR => ?_⟩
      generalize hUR : upd _ _ (HO.lst _) = H11
      have s11 := same_hu hUR nR
      have eh11 := at_hu hUR
      have h11 := SqL.of (K := K) eh11
      clear hUR
      have s711 := s710.trans s11
      refine ⟨4, rfl, by decide, by decide, fun D hD => ?_⟩
      refine lc_row (K := K) walk_range ((List.range 4).map fun c => pt c (ws.map (·.2)) sg (ms.map (·.2)) (i + 1)) (by simp) (by decide) hD (fun _ _ => trivial) ?_ ?_
      · rintro c r v H12 H13 kk hr s12 ⟨rfl, rfl⟩ yk
        rw [List.getElem?_map] at hr
        have hc : c < 4 := by
          rcases Nat.lt_or_ge c 4 with h | h
          · exact h
          · rw [List.getElem?_eq_none (by rw [List.length_range]; exact h)] at hr
            cases hr
        rw [List.getElem?_range hc] at hr
        obtain rfl : pt c (ws.map (·.2)) sg (ms.map (·.2)) (i + 1) = r := Option.some.inj hr
        have hc0 : (0 : Int) + (c : Int) = (c : Int) := by omega
        obtain ⟨qa, hqa, mqa⟩ := fr_at (ws := q) (i := c) (r := pt c (ws.map (·.2)) sg (ms.map (·.2)) i) (by rw [mq, List.getElem?_map, List.getElem?_range hc]; rfl)
        obtain ⟨ra, hra, fra⟩ : ∃ a : Addr, [V.ref x1, .ref x2, .ref x3, .ref o][c]? = some (.ref a) ∧ Fx K H13 a (f4 c w.2) := by
          obtain rfl | rfl | rfl | rfl : c = 0 ∨ c = 1 ∨ c = 2 ∨ c = 3 := by omega
          · exact ⟨x1, rfl, same_tup (s9.trans (s10.trans (s11.trans s12))) h8⟩
          · exact ⟨x2, rfl, same_tup (s10.trans (s11.trans s12)) h9⟩
          · exact ⟨x3, rfl, same_tup (s11.trans s12) h10⟩
          · exact ⟨o, rfl, same_tup (s711.trans s12) ho⟩
        have step : pt c (ws.map (·.2)) sg (ms.map (·.2)) (i + 1) = pt c (ws.map (·.2)) sg (ms.map (·.2)) i + tnR s m.2 * f4 c w.2 := by
          unfold pt
          exact take_sum (Lc_at (by rw [List.getElem?_map, ew]; rfl) es (by rw [List.getElem?_map, em]; rfl))
        have bp := sum_bd (bL c) i (by rw [nL]; omega)
        have bf := tnR_bd (s := s) (bM m mm)
        have b4 := f4_bd (c := c) (bW w mw)
        refine ⟨rfl, _, rfl, _, rfl, T, _, _, _, rfl, rfl, (s7.trans (s711.trans s12)).seq hT, by rw [hc0]; exact atI_nat hqa, _, rfl, _, rfl, _, rfl, R, _, _, _, rfl, rfl, s12.seq h11, by rw [hc0]; exact atI_nat hra, fa, ra, _, _, rfl, ffa.same (s711.trans s12), fra, bf.up (by decide), b4.up (by decide), fun H14 t14 s14 f14 => ?_⟩
        refine ⟨qa, t14, _, _, rfl, (rq _ mqa).same (s7.trans (s711.trans (s12.trans s14))), f14, (bp.up (by omega) : Bd 800 _), (bf.mul b4).up (by decide), fun H15 t15 s15 f15 => ?_⟩
        rw [step] at yk
        exact yk t15 H15 (s14.trans s15) f15
      intro H12 q2 s12 e12 r12 m12
      refine ⟨D, q2, _, _, _, _, _, rfl, s57.trans (s711.trans s12), SqL.of e12, r12, m12, ?_, ?_⟩
      · rw [any_take eN, hn, hpf]
        rfl
      · rw [any_take eP, hp]
    rintro σ' H5 ⟨T, q, st, v5, v6, v7, v8, rfl, s5, hT, rq, mq, hn, hp⟩
    obtain ⟨q0, q1, q2, q3, rfl⟩ : ∃ a b c d, q = [a, b, c, d] := by
      have h := congrArg List.length mq
      match q, h with
      | [a, b, c, d], _ => exact ⟨a, b, c, d, rfl⟩
    have mq2 : [q0.2, q1.2, q2.2, q3.2] = [pt 0 (ws.map (·.2)) sg (ms.map (·.2)) ws.length, pt 1 (ws.map (·.2)) sg (ms.map (·.2)) ws.length, pt 2 (ws.map (·.2)) sg (ms.map (·.2)) ws.length, pt 3 (ws.map (·.2)) sg (ms.map (·.2)) ws.length] := mq
    rw [pt_all (Nat.le_of_eq (nL 0)), pt_all (Nat.le_of_eq (nL 1)), pt_all (Nat.le_of_eq (nL 2)), pt_all (Nat.le_of_eq (nL 3))] at mq2
    injection mq2 with c0 mq2
    injection mq2 with c1 mq2
    injection mq2 with c2 mq2
    injection mq2 with c3 _
    have hneg : any2 pN (ms.map (·.2)) sg = false := by
      rw [List.take_of_length_le (by simp; omega)] at hn
      exact hn
    have hpos : any2 pP (ms.map (·.2)) sg = st := by
      rw [List.take_of_length_le (by simp; omega)] at hp
      exact hp
    have fq : ∀ w ∈ [q0, q1, q2, q3], Fx K H5 w.1 w.2 := rq
    refine ⟨_, rfl, ?_⟩
    walk_at "go"
    refine ⟨T, _, rfl, hT, fun p np => ?_⟩
    rw [show cutV (fr [q0, q1, q2, q3]) none (some 3) = fr [q0, q1, q2] from rfl]
    have s6 := same_upd (o := .lst (fr [q0, q1, q2])) np
    have e6 : (upd H5 p (.lst (fr [q0, q1, q2]))) p = some (.lst (fr [q0, q1, q2])) := upd_same
    generalize upd H5 p (.lst (fr [q0, q1, q2])) = H6 at *
    refine ⟨tn rfl, fun z4 nz4 => ?_⟩
    generalize hUz4 : upd _ _ (HO.tup _) = H7
    have s7 := same_hu hUz4 nz4
    have eh7 := at_hu hUz4
    have h7 := SqT.of (K := K) eh7
    clear hUz4
    refine ⟨tn rfl, fun z5 nz5 => ?_⟩
    generalize hUz5 : upd _ _ (HO.tup _) = H8
    have s8 := same_hu hUz5 nz5
    have eh8 := at_hu hUz5
    have h8 := SqT.of (K := K) eh8
    clear hUz5
    refine ⟨tn rfl, fun z6 nz6 => ?_⟩
    generalize hUz6 : upd _ _ (HO.tup _) = H9
    have s9 := same_hu hUz6 nz6
    have eh9 := at_hu hUz6
    have h9 := SqT.of (K := K) eh9
    clear hUz6
    refine ⟨tn rfl, fun Z nZ => ?_⟩
    generalize hUZ : upd _ _ (HO.lst _) = H10
    have s10 := same_hu hUZ nZ
    have eh10 := at_hu hUZ
    have h10 := SqL.of (K := K) eh10
    clear hUZ
    have s710 := s7.trans (s8.trans (s9.trans s10))
    have r1 : Rx K H10 [q0, q1, q2] := fun w hw => (rq w (by
      simp only [List.mem_cons, List.not_mem_nil, or_false] at hw ⊢
      rcases hw with rfl | rfl | rfl
      · exact .inl rfl
      · exact .inr (.inl rfl)
      · exact .inr (.inr (.inl rfl)))).same (s6.trans s710)
    have r2 : Rx K H10 [(z4, 0), (z5, 0), (z6, 0)] := by
      intro w hw
      simp only [List.mem_cons, List.not_mem_nil, or_false] at hw
      rcases hw with rfl | rfl | rfl
      · exact same_tup (s8.trans (s9.trans s10)) h7
      · exact same_tup (s9.trans s10) h8
      · exact same_tup s10 h9
    refine ⟨.list ([q0.2, q1.2, q2.2].map pdr), .list (([0, 0, 0] : List Rat).map pdr), .lst (SqL.of (s710 _ _ e6)) (dpAll r1), .lst h10 (dpAll r2), shrl _, shrl _, ?_⟩
    rw [PyData.eqv, eqvAllr]
    have s510 := s6.trans s710
    refine ⟨_, rfl, ite2 (fun g => ?_) (fun g => ?_)⟩
    · have hne : ¬ ([q0.2, q1.2, q2.2] = ([0, 0, 0] : List Rat)) := fun z => by
        rw [decide_eq_true z] at g
        cases g
      have hr : RP (ws.map (·.2)) sg (ms.map (·.2)) = false := by
        rw [c0, c1, c2] at hne
        unfold RP
        rw [Bool.eq_false_iff]
        intro h
        simp only [Bool.and_eq_true, decide_eq_true_eq] at h
        exact hne (by rw [show tot (f4 0) (ws.map (·.2)) sg (ms.map (·.2)) = 0 from h.2.2.1, show tot (f4 1) (ws.map (·.2)) sg (ms.map (·.2)) = 0 from h.2.2.2.1, show tot (f4 2) (ws.map (·.2)) sg (ms.map (·.2)) = 0 from h.2.2.2.2.1])
      rw [hr] at k
      exact k _ (s5.trans s510)
    have heq : [q0.2, q1.2, q2.2] = ([0, 0, 0] : List Rat) := by
      have := Bool.eq_false_iff.mpr g
      simpa using this
    injection heq with d0 heq
    injection heq with d1 heq
    injection heq with d2 _
    have hr : RP (ws.map (·.2)) sg (ms.map (·.2)) = (if st = true then decide (0 ≤ q3.2.num) else decide (q3.2.num ≠ 0)) := by
      unfold RP
      rw [hneg, show decide (tot (fun w => (w.x : Rat)) (ws.map (·.2)) sg (ms.map (·.2)) = 0) = true from decide_eq_true (show tot (f4 0) (ws.map (·.2)) sg (ms.map (·.2)) = 0 by rw [← c0, d0]), show decide (tot (fun w => (w.y : Rat)) (ws.map (·.2)) sg (ms.map (·.2)) = 0) = true from decide_eq_true (show tot (f4 1) (ws.map (·.2)) sg (ms.map (·.2)) = 0 by rw [← c1, d1]), show decide (tot (fun w => (w.z : Rat)) (ws.map (·.2)) sg (ms.map (·.2)) = 0) = true from decide_eq_true (show tot (f4 2) (ws.map (·.2)) sg (ms.map (·.2)) = 0 by rw [← c2, d2]), List.length_map, List.length_map, decide_eq_true nM, hpos, sgn_ge, sgn_nz, c3]
      rfl
    rw [hr] at k
    have f3 : Fx K H10 q3.1 q3.2 := (rq q3 (by simp)).same s510
    have hT3 := s510.seq hT
    refine ⟨_, rfl, st, rfl, ite2 (fun g2 => ?_) (fun g2 => ?_)⟩
    · rw [if_pos g2] at k
      exact ⟨_, rfl, T, _, 3, _, rfl, rfl, hT3, atI_nat (j := 3) rfl, q3.1, _, 0, _, rfl, rfl, f3, atI_nat (j := 0) rfl, _, _, rfl, rfl, k _ (s5.trans s510)⟩
    · rw [if_neg g2] at k
      refine ⟨_, rfl, T, _, 3, _, rfl, rfl, hT3, atI_nat (j := 3) rfl, q3.1, _, 0, _, rfl, rfl, f3, atI_nat (j := 0) rfl, rfl, ?_⟩
      refine Eq.mp (congrArg (fun b => Q (.bl b) H10) ?_) (k _ (s5.trans s510))
      rw [Bool.eq_iff_iff]
      simp
def spLaw (K : PySem.W.Frag) : Sp := fun vs H Q _ => ∃ (a : Addr) (ns : List Int), vs = [.ref a] ∧ SqL K H a (ns.map V.int) ∧ ns.length ≤ 63 ∧ ∀ H', Q (.bl true) H'
theorem okLaw {fLaw : Addr} {fdLaw : FuncData} (F : Fun K "law" "law" sLaw fLaw fdLaw) (T : Txt mg) {aZERO : Addr} (CT : Cons K mg aZERO) {CPartError CNought : Addr} (EX : Exns K mg CPartError CNought)
    {fLLawRow : Addr} {fdLLawRow : FuncData} (GLLawRow : FnOk P w K mg base CX0 1 fLLawRow fdLLawRow ["_law_cell_here", "_law_size", "_law_base"] (spLLawRow K)) (gLLawRow : mg "_law_row" = some (.ref fLLawRow)) (kpLLawRow : PySem.W.keepIn K (.ref fLLawRow) = true) (bLLawRow : Binds K fdLLawRow ["_law_cell_here", "_law_size", "_law_base"] [])
    {fLLawShuts : Addr} {fdLLawShuts : FuncData} (GLLawShuts : FnOk P w K mg base CX0 3 fLLawShuts fdLLawShuts ["_law_script", "_law_first", "_law_count"] (spLLawShuts K)) (gLLawShuts : mg "_law_shuts" = some (.ref fLLawShuts)) (kpLLawShuts : PySem.W.keepIn K (.ref fLLawShuts) = true) (bLLawShuts : Binds K fdLLawShuts ["_law_script", "_law_first", "_law_count"] [])
    {fLLawShows : Addr} {fdLLawShows : FuncData} (GLLawShows : FnOk P w K mg base CX0 3 fLLawShows fdLLawShows ["_law_shuts_here", "_law_signs", "_law_multipliers"] (spLLawShows K)) (gLLawShows : mg "_law_shows" = some (.ref fLLawShows)) (kpLLawShows : PySem.W.keepIn K (.ref fLLawShows) = true) (bLLawShows : Binds K fdLLawShows ["_law_shuts_here", "_law_signs", "_law_multipliers"] [])
    {fLLawCell : Addr} {fdLLawCell : FuncData} (GLLawCell : FnOk P w K mg base CX0 1 fLLawCell fdLLawCell ["_law_script", "_law_k"] (spLLawCell K)) (gLLawCell : mg "_law_cell" = some (.ref fLLawCell)) (kpLLawCell : PySem.W.keepIn K (.ref fLLawCell) = true) (bLLawCell : Binds K fdLLawCell ["_law_script", "_law_k"] [])
    {fLLawSide : Addr} {fdLLawSide : FuncData} (GLLawSide : FnOk P w K mg base CX0 4 fLLawSide fdLLawSide ["_law_shut_here", "_law_point"] (spLLawSide K)) (gLLawSide : mg "_law_side" = some (.ref fLLawSide)) (kpLLawSide : PySem.W.keepIn K (.ref fLLawSide) = true) (bLLawSide : Binds K fdLLawSide ["_law_shut_here", "_law_point"] [])
    {fJudge : Addr} {fdJudge : FuncData} (GJudge : FnOk P w K mg base CX0 5 fJudge fdJudge ["walls", "signs", "paper"] (spJudge K)) (gJudge : mg "judge" = some (.ref fJudge)) (kpJudge : PySem.W.keepIn K (.ref fJudge) = true) (bJudge : Binds K fdJudge ["walls", "signs", "paper"] [])
    {fLLawFraction : Addr} {fdLLawFraction : FuncData} (GLLawFraction : FnOk P w K mg base CX0 1 fLLawFraction fdLLawFraction ["_law_number", "_law_divisor"] (spLLawFraction K)) (gLLawFraction : mg "_law_fraction" = some (.ref fLLawFraction)) (kpLLawFraction : PySem.W.keepIn K (.ref fLLawFraction) = true) (bLLawFraction : Binds K fdLLawFraction ["_law_number", "_law_divisor"] []) :
    FnOk P w K mg base CX0 6 fLaw fdLaw ["_law_script"] (spLaw K) := by
  refine F.ok scLaw (fun vs H Q E h => ?_) (fun cdv A outer s H vs Q E hr h => ?_)
  · obtain ⟨S, ns, rfl, hS0, hlen, fin⟩ := h
    rfl
  · obtain ⟨S, ns, rfl, hS0, hlen, fin⟩ := h
    refine ⟨_, (pss_cons (ps_set (i := 1) scLaw.nd rfl (Or.inr rfl) (pe_call GLLawRow (hr.mono (by decide)) (by rfl) gLLawRow kpLLawRow bLLawRow .nil pass0 (pa_cons (pe_call GLLawCell (hr.mono (by decide)) (by rfl) gLLawCell kpLLawCell bLLawCell .nil pass0 (pa_cons (pv 0) (pa_cons pe_int pa_nil))) (pa_cons pe_int (pa_cons pe_int pa_nil)))))
      (pss_cons (ps_set (i := 2) scLaw.nd rfl (Or.inl rfl) (pe_call GLLawShuts (hr.mono (by decide)) (by rfl) gLLawShuts kpLLawShuts bLLawShuts .nil pass0 (pa_cons (pv 0) (pa_cons pe_int (pa_cons (pe_op op_add pe_int (pe_op op_mod (pe_ix ix_list (pv 1) pe_int (fun _ _ => rfl)) pe_int)) pa_nil)))))
      (pss_cons (ps_set (i := 3) scLaw.nd rfl (Or.inl rfl) (pe_call GLLawRow (hr.mono (by decide)) (by rfl) gLLawRow kpLLawRow bLLawRow .nil pass0 (pa_cons (pe_call GLLawCell (hr.mono (by decide)) (by rfl) gLLawCell kpLLawCell bLLawCell .nil pass0 (pa_cons (pv 0) (pa_cons pe_int pa_nil))) (pa_cons pe_int (pa_cons pe_int pa_nil)))))
      (pss_cons (ps_set (i := 4) scLaw.nd rfl (Or.inr rfl) (pe_callTy call_tuple_of (by rfl) T.tuple (by decide +kernel) (pa_cons (pe_lc (own := [("_law_part", 10)]) (by rfl) scLaw.nd (pi_list (pv 3)) (blkOk_by (own := [("_law_part", 10)]) (N := ["_law_script", "_law_shape", "_law_shuts_here", "_law_draw", "_law_point", "_law_signs", "_law_due", "_law_numbers", "_law_multipliers", "_law_pair", "_law_part", "_law_shut_here", "_law_k", "_law_number"]) (sc := defScope sLaw) (by decide +kernel)) (fun _ _ _ _ _ => (pg_name (i := 10) scLaw.nd rfl (Or.inl rfl))) (fun _ _ _ _ _ => pts_nil) (fun _ _ _ _ _ => (pe_call GLLawFraction (hr.mono (by decide)) (by rfl) gLLawFraction kpLLawFraction bLLawFraction .nil pass0 (pa_cons (pe_op op_sub (pe_op op_mod (pv 10) pe_int) pe_int) (pa_cons (pe_op op_add pe_int (pe_op op_mod (pe_op op_fdiv (pv 10) pe_int) pe_int)) pa_nil))))) pa_nil)))
      (pss_cons (ps_setLc (i := 5) (own := [("_law_shut_here", 11)]) (by rfl) scLaw.nd rfl rfl (sw_true rfl rfl rfl (by decide +kernel)) (pi_list (pv 2)) (blkOk_by (own := [("_law_shut_here", 11)]) (N := ["_law_script", "_law_shape", "_law_shuts_here", "_law_draw", "_law_point", "_law_signs", "_law_due", "_law_numbers", "_law_multipliers", "_law_pair", "_law_part", "_law_shut_here", "_law_k", "_law_number"]) (sc := defScope sLaw) (by decide +kernel)) (fun _ _ _ _ _ => (pg_name (i := 11) scLaw.nd rfl (Or.inl rfl))) (fun _ _ _ _ _ => pts_nil) (fun _ _ _ _ _ => (pe_call GLLawSide (hr.mono (by decide)) (by rfl) gLLawSide kpLLawSide bLLawSide .nil pass0 (pa_cons (pv 11) (pa_cons (pv 4) pa_nil)))))
      (C8.pss_cut (ps_if (pt_cmpR op_eq (pe_op op_mod (pe_ix ix_list (pv 1) pe_int (fun _ _ => rfl)) pe_int) pe_int (nomark _))
        (pss_one (ps_setLc (i := 5) (own := [("_law_k", 12)]) (by rfl) scLaw.nd rfl rfl (sw_true rfl rfl rfl (by decide +kernel)) (pi_range1 rfl T.range (pa_cons (pe_callB call_len_seq (by rfl) T.len PySem.boot_len (pa_cons (pv 2) pa_nil)) pa_nil)) (blkOk_by (own := [("_law_k", 12)]) (N := ["_law_script", "_law_shape", "_law_shuts_here", "_law_draw", "_law_point", "_law_signs", "_law_due", "_law_numbers", "_law_multipliers", "_law_pair", "_law_part", "_law_shut_here", "_law_k", "_law_number"]) (sc := defScope sLaw) (by decide +kernel)) (fun _ _ _ _ _ => (pg_name (i := 12) scLaw.nd rfl (Or.inl rfl))) (fun _ _ _ _ _ => pts_nil) (fun _ _ _ _ _ => (pe_op op_sub (pe_op op_mod (pe_ix (show IxR _ (rIxL K) from ix_list) (pv 1) (pe_op op_add pe_int (pv 12)) (fun _ _ => rfl)) pe_int) pe_int))))
        pss_nil)
      (pss_cons (ps_set (i := 6) scLaw.nd rfl (Or.inl rfl) pe_str)
      (C8.pss_cut (ps_if (pt_cmpR (op_eqD hr.units) (pe_lc (own := [("_law_shut_here", 11)]) (by rfl) scLaw.nd (pi_list (pv 2)) (blkOk_by (own := [("_law_shut_here", 11)]) (N := ["_law_script", "_law_shape", "_law_shuts_here", "_law_draw", "_law_point", "_law_signs", "_law_due", "_law_numbers", "_law_multipliers", "_law_pair", "_law_part", "_law_shut_here", "_law_k", "_law_number"]) (sc := defScope sLaw) (by decide +kernel)) (fun _ _ _ _ _ => (pg_name (i := 11) scLaw.nd rfl (Or.inl rfl))) (fun _ _ _ _ _ => pts_nil) (fun _ _ _ _ _ => (pe_call GLLawSide (hr.mono (by decide)) (by rfl) gLLawSide kpLLawSide bLLawSide .nil pass0 (pa_cons (pv 11) (pa_cons (pv 4) pa_nil))))) (pv 5) (nomark _))
        (pss_one (ps_set (i := 6) scLaw.nd rfl (Or.inl rfl) pe_str))
        pss_nil)
      (pss_cons (ps_if (pt_cmpR op_ne (pe_call GJudge hr (by rfl) gJudge kpJudge bJudge .nil pass0 (pa_cons (pe_callTy call_list_of (by rfl) T.list (by decide +kernel) (pa_cons (pv 2) pa_nil)) (pa_cons (pe_callTy call_list_of (by rfl) T.list (by decide +kernel) (pa_cons (pv 5) pa_nil)) (pa_cons (pe_tup (pa_cons pe_str (pa_cons (pv 4) pa_nil))) pa_nil)))) (pv 6) (nomark _))
        (pss_one (ps_ret pe_bl))
        pss_nil)
      (pss_cons (ps_set (i := 7) scLaw.nd rfl (Or.inl rfl) (pe_call GLLawRow (hr.mono (by decide)) (by rfl) gLLawRow kpLLawRow bLLawRow .nil pass0 (pa_cons (pe_call GLLawCell (hr.mono (by decide)) (by rfl) gLLawCell kpLLawCell bLLawCell .nil pass0 (pa_cons (pv 0) (pa_cons pe_int pa_nil))) (pa_cons (pe_callB call_len_seq (by rfl) T.len PySem.boot_len (pa_cons (pv 2) pa_nil)) (pa_cons pe_int pa_nil)))))
      (pss_cons (ps_setLc (i := 8) (own := [("_law_number", 13)]) (by rfl) scLaw.nd rfl rfl (sw_true rfl rfl rfl (by decide +kernel)) (pi_list (pv 7)) (blkOk_by (own := [("_law_number", 13)]) (N := ["_law_script", "_law_shape", "_law_shuts_here", "_law_draw", "_law_point", "_law_signs", "_law_due", "_law_numbers", "_law_multipliers", "_law_pair", "_law_part", "_law_shut_here", "_law_k", "_law_number"]) (sc := defScope sLaw) (by decide +kernel)) (fun _ _ _ _ _ => (pg_name (i := 13) scLaw.nd rfl (Or.inl rfl))) (fun _ _ _ _ _ => pts_nil) (fun _ _ _ _ _ => (pe_call GLLawFraction (hr.mono (by decide)) (by rfl) gLLawFraction kpLLawFraction bLLawFraction .nil pass0 (pa_cons (pe_op op_sub (pe_op op_mod (pv 13) pe_int) pe_int) (pa_cons (pe_op op_add pe_int (pe_op op_mod (pe_op op_fdiv (pv 13) pe_int) pe_int)) pa_nil)))))
      (C8.pss_cut (ps_if (pt_cmpR op_eq (pe_op op_mod (pe_ix ix_list (pv 1) pe_int (fun _ _ => rfl)) pe_int) pe_int (nomark _))
        (pss_one (ps_setLc (i := 8) (own := [("_law_number", 13)]) (by rfl) scLaw.nd rfl rfl (sw_true rfl rfl rfl (by decide +kernel)) (pi_list (pv 7)) (blkOk_by (own := [("_law_number", 13)]) (N := ["_law_script", "_law_shape", "_law_shuts_here", "_law_draw", "_law_point", "_law_signs", "_law_due", "_law_numbers", "_law_multipliers", "_law_pair", "_law_part", "_law_shut_here", "_law_k", "_law_number"]) (sc := defScope sLaw) (by decide +kernel)) (fun _ _ _ _ _ => (pg_name (i := 13) scLaw.nd rfl (Or.inl rfl))) (fun _ _ _ _ _ => pts_nil) (fun _ _ _ _ _ => (pe_tup (pa_cons (pe_op op_mod (pv 13) pe_int) (pa_cons pe_int pa_nil))))))
        pss_nil)
      (pss_cons (ps_set (i := 6) scLaw.nd rfl (Or.inl rfl) pe_str)
      (C8.pss_cut (ps_if (pt_val (pe_call GLLawShows (hr.mono (by decide)) (by rfl) gLLawShows kpLLawShows bLLawShows .nil pass0 (pa_cons (pv 2) (pa_cons (pv 5) (pa_cons (pv 8) pa_nil)))))
        (pss_one (ps_set (i := 6) scLaw.nd rfl (Or.inl rfl) pe_str))
        pss_nil)
      (pss_cons (ps_if (pt_cmpR op_ne (pe_call GJudge hr (by rfl) gJudge kpJudge bJudge .nil pass0 (pa_cons (pe_callTy call_list_of (by rfl) T.list (by decide +kernel) (pa_cons (pv 2) pa_nil)) (pa_cons (pe_callTy call_list_of (by rfl) T.list (by decide +kernel) (pa_cons (pv 5) pa_nil)) (pa_cons (pe_tup (pa_cons pe_str (pa_cons (pe_callTy call_list_of (by rfl) T.list (by decide +kernel) (pa_cons (pv 8) pa_nil)) pa_nil))) pa_nil)))) (pv 6) (nomark _))
        (pss_one (ps_ret pe_bl))
        pss_nil)
      (pss_cons (ps_if (pt_cmpR op_ne (pe_call GJudge hr (by rfl) gJudge kpJudge bJudge .nil pass0 (pa_cons (pe_callTy call_list_of (by rfl) T.list (by decide +kernel) (pa_cons (pv 2) pa_nil)) (pa_cons (pe_callTy call_list_of (by rfl) T.list (by decide +kernel) (pa_cons (pv 5) pa_nil)) (pa_cons (pe_tup (pa_cons pe_str (pa_cons (pe_op op_cat (pv 8) (pe_lst (pa_cons (pe_tup (pa_cons pe_int (pa_cons pe_int pa_nil))) pa_nil))) pa_nil))) pa_nil)))) pe_str (nomark _))
        (pss_one (ps_ret pe_bl))
        pss_nil)
      (pss_cons (ps_set (i := 9) scLaw.nd rfl (Or.inl rfl) (pe_lst (pa_cons (pe_tup (pa_cons (pe_tup (pa_cons pe_int (pa_cons pe_int (pa_cons (pe_un un_neg pe_int) pa_nil)))) (pa_cons (pe_tup (pa_cons pe_int (pa_cons pe_int pa_nil))) pa_nil))) (pa_cons (pe_tup (pa_cons (pe_tup (pa_cons pe_int (pa_cons pe_int (pa_cons (pe_un un_neg pe_int) pa_nil)))) (pa_cons (pe_call GLLawFraction (hr.mono (by decide)) (by rfl) gLLawFraction kpLLawFraction bLLawFraction .nil pass0 (pa_cons (pe_op op_sub (pe_op op_mod (pe_ix ix_list (pv 1) pe_int (fun _ _ => rfl)) pe_int) pe_int) (pa_cons (pe_op op_add pe_int (pe_op op_mod (pe_ix ix_list (pv 1) pe_int (fun _ _ => rfl)) pe_int)) pa_nil))) pa_nil))) pa_nil))))
      (pss_cons (ps_set (i := 6) scLaw.nd rfl (Or.inl rfl) pe_str)
      (C8.pss_cut (ps_if (pt_cmpR op_le (pe_ix ix_tup (pe_ix ix_tup (pe_ix ix_list (pv 9) pe_int (fun _ _ => rfl)) pe_int (fun _ _ => rfl)) pe_int (fun _ _ => rfl)) (pe_op op_mul pe_int (pe_ix ix_tup (pe_ix ix_tup (pe_ix ix_list (pv 9) pe_int (fun _ _ => rfl)) pe_int (fun _ _ => rfl)) pe_int (fun _ _ => rfl))) (nomark _))
        (pss_one (ps_set (i := 6) scLaw.nd rfl (Or.inl rfl) pe_str))
        pss_nil)
      (pss_one (ps_ret (pe_cmpR op_eq (pe_call GJudge hr (by rfl) gJudge kpJudge bJudge .nil pass0 (pa_cons (pv 9) (pa_cons (pe_lst (pa_cons pe_int (pa_cons (pe_un un_neg pe_int) pa_nil))) (pa_cons (pe_tup (pa_cons pe_str (pa_cons (pe_lst (pa_cons (pe_tup (pa_cons pe_int (pa_cons pe_int pa_nil))) (pa_cons (pe_tup (pa_cons pe_int (pa_cons pe_int pa_nil))) pa_nil))) pa_nil))) pa_nil)))) (pv 6) (nomark _))))))))))))))))))))))), ?_⟩
    have hS : SqL K H S (zs ns) := hS0
    refine ⟨_, rfl, S, ns, 0, rfl, hS, fun c0 hc0 => ?_⟩
    refine ⟨c0, 1000, 8, rfl, by decide, by decide, by decide, fun H1 l rs s1 nl el hrs hr0 => ?_⟩
    have hl1 : SqL K H1 l (zs rs) := SqL.of el
    have dr0 : ∀ j, j < 8 → (zs rs)[j]? = some (.int (rs.getD j 0)) := fun j hj => by
      rw [show zs rs = rs.map V.int from rfl, List.getElem?_map, List.getElem?_eq_getElem (by omega), List.getD_eq_getElem?_getD, List.getElem?_eq_getElem (by omega)]
      rfl
    have o0 := Int.emod_nonneg (rs.getD 0 0) (show (5 : Int) ≠ 0 by decide)
    have o1 := Int.emod_lt_of_pos (rs.getD 0 0) (show (0 : Int) < 5 by decide)
    obtain ⟨n, hn⟩ : ∃ n : Nat, 1 + rs.getD 0 0 % 5 = (n : Int) := ⟨(1 + rs.getD 0 0 % 5).toNat, by omega⟩
    have hn1 : 1 ≤ n := by omega
    have hn5 : n ≤ 5 := by omega
    refine ⟨_, rfl, .ref l, rfl, l, _, 0, _, rfl, rfl, hl1, atI_nat (dr0 0 (by omega)), _, _, rfl, rfl, by show (0 : Int) < 5; decide, _, _, rfl, rfl, S, ns, n, congrArg (fun z => [V.ref S, V.int 3, V.int z]) hn, s1.seq hS, hn1, hn5, fun H2 lw ws s2 e2 rW bW lws => ?_⟩
    clear o0 o1 hn
    have hW2 : SqL K H2 lw (wr ws) := SqL.of e2
    have s12 := s1.trans s2
    refine ⟨_, rfl, S, ns, 1, rfl, s12.seq hS, fun c1 hc1 => ?_⟩
    refine ⟨c1, 1000, 3, rfl, by decide, by decide, by decide, fun H3 ld ds s3 nd ed hds hd0 => ?_⟩
    have hD3 : SqL K H3 ld (zs ds) := SqL.of ed
    -- the point
    have frb : ∀ d : Int, Bd 4 (Rat.divInt (d % 13 - 6) (1 + d / 13 % 3)) := fun d => by
      have h1 := Int.emod_nonneg d (show (13 : Int) ≠ 0 by decide)
      have h2 := Int.emod_lt_of_pos d (show (0 : Int) < 13 by decide)
      have h3 := Int.emod_nonneg (d / 13) (show (3 : Int) ≠ 0 by decide)
      have h4 := Int.emod_lt_of_pos (d / 13) (show (0 : Int) < 3 by decide)
      exact bd_of (by omega) (by have : (2 : Nat) ^ 4 = 16 := rfl; omega) (by have : (2 : Nat) ^ 4 = 16 := rfl; omega)
    have cc : (1000 : Nat) < 2 ^ 1800 := Nat.lt_of_lt_of_le (by decide) (Nat.pow_le_pow_right (n := 2) (i := 10) (by decide) (by decide))
    refine ⟨_, rfl, ld, rfl, ⟨_, hD3⟩, fun D4 hD4 => ?_⟩
    refine lc_row (K := K) (walk_list (K := K) (a := ld) (xs := zs ds)) (ds.map fun d => Rat.divInt (d % 13 - 6) (1 + d / 13 % 3)) (by simp [zs]) (by simp [zs]; omega) hD4 (fun H s => s.seq hD3) ?_ ?_
    · rintro i c v H4 H5 kk hr s4 ⟨rfl, hv⟩ yk
      obtain ⟨d, rfl, hd⟩ := zs_get hv
      rw [List.getElem?_map, hd] at hr
      obtain rfl := Option.some.inj hr
      have h1 := Int.emod_nonneg d (show (13 : Int) ≠ 0 by decide)
      have h2 := Int.emod_lt_of_pos d (show (0 : Int) < 13 by decide)
      have h3 := Int.emod_nonneg (d / 13) (show (3 : Int) ≠ 0 by decide)
      have h4 := Int.emod_lt_of_pos (d / 13) (show (0 : Int) < 3 by decide)
      walk_at "go"
      exact ⟨by omega, by omega, by omega, fun H6 t6 s6 e6 => yk t6 H6 s6 (fx_rd (by omega) e6)⟩
    intro H4 ps s4 e4 r4 m4
    obtain ⟨p0, p1, p2, rfl⟩ : ∃ a b c, ps = [a, b, c] := by
      have h := congrArg List.length m4
      rw [List.length_map, List.length_map, hds] at h
      match ps, h with
      | [a, b, c], _ => exact ⟨a, b, c, rfl⟩
    have pb : ∀ w ∈ [p0, p1, p2], Bd 20 w.2 := fun w hw => by
      have h : w.2 ∈ [p0, p1, p2].map (·.2) := List.mem_map_of_mem hw
      rw [m4] at h
      obtain ⟨d, _, h⟩ := List.mem_map.mp h
      rw [← h]
      exact (frb d).up (by decide)
    refine ⟨D4, _, rfl, .inl ⟨SqL.of e4, fun tp np => ?_⟩⟩
    have s5 := same_upd (o := .tup (fr [p0, p1, p2])) np
    have hP5 : Px K (upd H4 tp (.tup (fr [p0, p1, p2]))) tp p0.2 p1.2 p2.2 := ⟨p0.1, p1.1, p2.1, SqT.of upd_same, (r4 p0 (by simp)).same s5, (r4 p1 (by simp)).same s5, (r4 p2 (by simp)).same s5⟩
    have b1 := pb p0 (by simp)
    have b2 := pb p1 (by simp)
    have b3 := pb p2 (by simp)
    generalize upd H4 tp (.tup (fr [p0, p1, p2])) = H5 at *
    clear pb m4 r4 e4
    generalize p0.2 = r1 at *
    generalize p1.2 = r2 at *
    generalize p2.2 = r3 at *
    have s25 := s3.trans (s4.trans s5)
    have hW5 := s25.seq hW2
    have rW5 := rW.same s25
    have hl5 := (s2.trans s25).seq hl1
    have hS5 := (s12.trans s25).seq hS
    -- the signs
    refine ⟨_, rfl, lw, rfl, ⟨_, hW5⟩, fun D6 hD6 => ?_⟩
    refine lc_val (walk_list (K := K) (a := lw) (xs := wr ws)) ((ws.map fun w => sdw w.2 r1 r2 r3).map V.int) (by simp [wr_len]) (by rw [wr_len]; omega) hD6 (fun H s => s.seq hW5) ?_ ?_
    · rintro i c v H6 H7 kk hr s6 ⟨rfl, hv⟩ yk
      obtain ⟨w, rfl, hw⟩ := wr_get hv
      rw [List.getElem?_map, List.getElem?_map, hw] at hr
      obtain rfl := Option.some.inj hr
      have hm := List.mem_of_getElem? hw
      exact ⟨rfl, _, rfl, _, rfl, w.1, tp, w.2, r1, r2, r3, rfl, (rW5 w hm).same s6, bW w hm, hP5.same s6, b1, b2, b3, fun H8 s8 => yk H8 s8⟩
    intro H6 s6 e6
    have e6' : H6 D6 = some (.lst (zs (ws.map fun w => sdw w.2 r1 r2 r3))) := e6
    refine ⟨fun σ' H' => ∃ (lsg : Addr) (sg : List Int), σ' = [some (.ref S), some (.ref l), some (.ref lw), some (.ref ld), some (.ref tp), some (.ref lsg), none, none, none, none, none, none, none, none] ∧ Same H6 H' ∧ SqL K H' lsg (zs sg) ∧ sg.length = n, ?_, ?_⟩
    · refine ⟨.ref l, rfl, l, _, 1, _, rfl, rfl, s6.seq hl5, atI_nat (dr0 1 (by omega)), _, _, rfl, rfl, by show (0 : Int) < 2; decide, rfl, _, rfl, ite2 (fun _ => ?_) (fun _ => ?_)⟩
      · refine ⟨_, rfl, lw, _, rfl, .inl (s6.seq hW5), n, by rw [wr_len, lws], by omega, by omega, fun D7 hD7 => ?_⟩
        refine lc_val walk_range (((List.range n).map fun k => rs.getD (2 + k) 0 % 3 - 1).map V.int) (by simp) (by omega) hD7 (fun _ _ => trivial) ?_ ?_
        · rintro i c v H7 H8 kk hr s7 ⟨rfl, rfl⟩ yk
          rw [List.getElem?_map, List.getElem?_map] at hr
          have hi : i < n := by
            rcases Nat.lt_or_ge i n with h | h
            · exact h
            · rw [List.getElem?_eq_none (by rw [List.length_range]; exact h)] at hr
              cases hr
          rw [List.getElem?_range hi] at hr
          obtain rfl := Option.some.inj hr
          refine ⟨rfl, _, rfl, _, rfl, _, _, rfl, rfl, l, _, _, _, rfl, rfl, (s6.trans s7).seq hl5, (by rw [show (2 : Int) + (0 + (i : Int)) = ((2 + i : Nat) : Int) by omega]; exact atI_nat (dr0 _ (by omega))), _, _, rfl, rfl, by show (0 : Int) < 3; decide, _, _, rfl, rfl, yk _ (Same.refl _)⟩
        · intro H7 s7 e7
          exact ⟨D7, (List.range n).map fun k => rs.getD (2 + k) 0 % 3 - 1, rfl, s7, SqL.of e7, by simp⟩
      · exact ⟨D6, _, rfl, Same.refl _, SqL.of e6', by rw [List.length_map, lws]⟩
    clear e6 e6'
    rintro σ' H7 ⟨lsg, sg, rfl, s7, hG7, lsg'⟩
    have s57 := s6.trans s7
    have hW7 := s57.seq hW5
    have rW7 := rW5.same s57
    have hl7 := s57.seq hl5
    have hP7 := hP5.same s57
    have hS7 := s57.seq hS5
    -- what is due of the point
    obtain ⟨due, hdue⟩ : ∃ due : Str, (if (ws.map fun w => sdw w.2 r1 r2 r3) = sg then ("there" : Str) else "nothing") = due := ⟨_, rfl⟩
    refine ⟨fun σ' H' => σ' = [some (.ref S), some (.ref l), some (.ref lw), some (.ref ld), some (.ref tp), some (.ref lsg), some (.str due), none, none, none, none, none, none, none] ∧ Same H7 H', ?_, ?_⟩
    · refine ⟨_, rfl, lw, rfl, ⟨_, hW7⟩, fun D8 hD8 => ?_⟩
      refine lc_val (walk_list (K := K) (a := lw) (xs := wr ws)) ((ws.map fun w => sdw w.2 r1 r2 r3).map V.int) (by simp [wr_len]) (by rw [wr_len]; omega) hD8 (fun H s => s.seq hW7) ?_ ?_
      · rintro i c v H8 H9 kk hr s8 ⟨rfl, hv⟩ yk
        obtain ⟨w, rfl, hw⟩ := wr_get hv
        rw [List.getElem?_map, List.getElem?_map, hw] at hr
        obtain rfl := Option.some.inj hr
        have hm := List.mem_of_getElem? hw
        exact ⟨rfl, _, rfl, _, rfl, w.1, tp, w.2, r1, r2, r3, rfl, (rW7 w hm).same s8, bW w hm, hP7.same s8, b1, b2, b3, fun H8 s8 => yk H8 s8⟩
      intro H8 s8 e8
      have d1 : Dp K H8 (.ref D8) (pdil (ws.map fun w => sdw w.2 r1 r2 r3)) := by
        generalize (ws.map fun w => sdw w.2 r1 r2 r3) = L at e8
        exact .lst (SqL.of e8) (dpi_all L)
      have d2 : Dp K H8 (.ref lsg) (pdil sg) := .lst (s8.seq hG7) (dpi_all sg)
      have z1 := shi_l (ws.map fun w => sdw w.2 r1 r2 r3)
      have z2 := shi_l sg
      refine ⟨.ref lsg, rfl, ?_⟩
      refine ⟨_, _, d1, d2, z1, z2, ?_⟩
      rw [eqv_pdil]
      refine ⟨_, rfl, ite2 (fun g => ?_) (fun g => ?_)⟩
      · rw [if_pos (of_decide_eq_true g)] at hdue
        rw [← hdue]
        exact ⟨rfl, s8⟩
      · rw [if_neg (fun z => g (decide_eq_true z))] at hdue
        rw [← hdue]
        exact ⟨rfl, s8⟩
    rintro σ' H8 ⟨rfl, s8⟩
    have hW8 := s8.seq hW7
    have rW8 := rW7.same s8
    have hl8 := s8.seq hl7
    have hP8 := hP7.same s8
    have hS8 := s8.seq hS7
    have hG8 := s8.seq hG7
    have nG : sg.length = ws.length := by omega
    have n9 : ws.length ≤ 9 := by omega
    -- judged by the point
    refine ⟨_, rfl, lw, _, rfl, .inl hW8, fun a1 na1 => ?_⟩
    have s9 := same_upd (o := .lst (wr ws)) na1
    have e9 : (upd H8 a1 (.lst (wr ws))) a1 = some (.lst (wr ws)) := upd_same
    generalize upd H8 a1 (.lst (wr ws)) = H9 at *
    refine ⟨_, rfl, lsg, _, rfl, .inl (s9.seq hG8), fun a2 na2 => ?_⟩
    have s10 := same_upd (o := .lst (zs sg)) na2
    have e10 : (upd H9 a2 (.lst (zs sg))) a2 = some (.lst (zs sg)) := upd_same
    generalize upd H9 a2 (.lst (zs sg)) = H10 at *
    refine ⟨_, rfl, by show 2 ≤ sizeLine; decide, fun a3 na3 => ?_⟩
    have s11 := same_upd (o := .tup [.str "point", .ref tp]) na3
    have e11 : (upd H10 a3 (.tup [.str "point", .ref tp])) a3 = some (.tup [.str "point", .ref tp]) := upd_same
    generalize upd H10 a3 (.tup [.str "point", .ref tp]) = H11 at *
    have s811 := s9.trans (s10.trans s11)
    refine ⟨a1, a2, a3, ws, sg, rfl, SqL.of (s11 _ _ (s10 _ _ e9)), rW8.same s811, bW, SqL.of (s11 _ _ e10), nG, n9, .inl ⟨tp, r1, r2, r3, SqT.of e11, hP8.same s811, b1, b2, b3, fun H12 s12' => ?_⟩⟩
    rw [hdue]
    refine ⟨_, rfl, rfl, _, rfl, ite2 (fun g => ?_) (fun _ => ?_)⟩
    · simp at g
    have s812 := s811.trans s12'
    have hW12 := s812.seq hW8
    have rW12 := rW8.same s812
    have hl12 := s812.seq hl8
    have hG12 := s812.seq hG8
    clear e9 e10 e11 na1 na2 na3 s9 s10 s11 s811 hdue hP8
    -- the multipliers
    refine ⟨_, rfl, S, ns, 2, rfl, s812.seq hS8, fun c2 hc2 => ?_⟩
    refine ⟨_, rfl, lw, _, rfl, .inl hW12, ?_⟩
    refine ⟨c2, 1000, n, by rw [wr_len, lws]; rfl, by decide, by decide, by omega, fun H13 lq qs s13 nq eq hqs hq0 => ?_⟩
    have hQ13 : SqL K H13 lq (zs qs) := SqL.of eq
    refine ⟨_, rfl, lq, rfl, ⟨_, hQ13⟩, fun D14 hD14 => ?_⟩
    have mfb : ∀ d : Int, Bd 4 (Rat.divInt (d % 6 - 2) (1 + d / 6 % 2)) := fun d => by
      have h1 := Int.emod_nonneg d (show (6 : Int) ≠ 0 by decide)
      have h2 := Int.emod_lt_of_pos d (show (0 : Int) < 6 by decide)
      have h3 := Int.emod_nonneg (d / 6) (show (2 : Int) ≠ 0 by decide)
      have h4 := Int.emod_lt_of_pos (d / 6) (show (0 : Int) < 2 by decide)
      exact bd_of (by omega) (by have : (2 : Nat) ^ 4 = 16 := rfl; omega) (by have : (2 : Nat) ^ 4 = 16 := rfl; omega)
    refine lc_row (K := K) (walk_list (K := K) (a := lq) (xs := zs qs)) (qs.map fun d => Rat.divInt (d % 6 - 2) (1 + d / 6 % 2)) (by simp [zs]) (by simp [zs]; omega) hD14 (fun H s => s.seq hQ13) ?_ ?_
    · rintro i c v H14 H15 kk hr s14 ⟨rfl, hv⟩ yk
      obtain ⟨d, rfl, hd⟩ := zs_get hv
      rw [List.getElem?_map, hd] at hr
      obtain rfl := Option.some.inj hr
      have h1 := Int.emod_nonneg d (show (6 : Int) ≠ 0 by decide)
      have h2 := Int.emod_lt_of_pos d (show (0 : Int) < 6 by decide)
      have h3 := Int.emod_nonneg (d / 6) (show (2 : Int) ≠ 0 by decide)
      have h4 := Int.emod_lt_of_pos (d / 6) (show (0 : Int) < 2 by decide)
      walk_at "go"
      exact ⟨by omega, by omega, by omega, fun H6 t6 s6 e6 => yk t6 H6 s6 (fx_rd (by omega) e6)⟩
    intro H14 ms0 s14 e14 r14 m14
    have s1214 := s13.trans s14
    have n0 : ms0.length = n := by
      have := congrArg List.length m14
      simp at this
      omega
    have bd0 : ∀ m ∈ ms0, Bd 10 m.2 := fun w hw => by
      have h : w.2 ∈ ms0.map (·.2) := List.mem_map_of_mem hw
      rw [m14] at h
      obtain ⟨d, _, h⟩ := List.mem_map.mp h
      rw [← h]
      exact (mfb d).up (by decide)
    refine ⟨fun σ' H' => ∃ (lm : Addr) (ms : List (Addr × Rat)), σ' = [some (.ref S), some (.ref l), some (.ref lw), some (.ref ld), some (.ref tp), some (.ref lsg), some (.str due), some (.ref lq), some (.ref lm), none, none, none, none, none] ∧ Same H14 H' ∧ H' lm = some (.lst (fr ms)) ∧ Rx K H' ms ∧ (∀ m ∈ ms, Bd 10 m.2) ∧ ms.length = n, ?_, ?_⟩
    · refine ⟨.ref l, rfl, l, _, 7, _, rfl, rfl, s1214.seq hl12, atI_nat (dr0 7 (by omega)), _, _, rfl, rfl, by show (0 : Int) < 2; decide, rfl, _, rfl, ite2 (fun _ => ?_) (fun _ => ?_)⟩
      · refine ⟨_, rfl, lq, rfl, ⟨_, s14.seq hQ13⟩, fun D15 hD15 => ?_⟩
        refine lc_row (K := K) (walk_list (K := K) (a := lq) (xs := zs qs)) (qs.map fun d => ((d % 2 : Int) : Rat)) (by simp [zs]) (by simp [zs]; omega) hD15 (fun H s => s.seq (s14.seq hQ13)) ?_ ?_
        · rintro i c v H15 H16 kk hr s15 ⟨rfl, hv⟩ yk
          obtain ⟨d, rfl, hd⟩ := zs_get hv
          rw [List.getElem?_map, hd] at hr
          obtain rfl := Option.some.inj hr
          refine ⟨rfl, _, rfl, _, _, rfl, rfl, by show (0 : Int) < 2; decide, by show 2 ≤ sizeLine; decide, fun t n => yk t _ (same_upd n) (fx_int (SqT.of upd_same))⟩
        · intro H15 ms s15 e15 r15 m15
          refine ⟨D15, ms, rfl, s15, e15, r15, fun w hw => ?_, ?_⟩
          · have h : w.2 ∈ ms.map (·.2) := List.mem_map_of_mem hw
            rw [m15] at h
            obtain ⟨d, _, h⟩ := List.mem_map.mp h
            rw [← h]
            have h1 := Int.emod_nonneg d (show (2 : Int) ≠ 0 by decide)
            have h2 := Int.emod_lt_of_pos d (show (0 : Int) < 2 by decide)
            exact bd_int (bz_lt (b := 100) (by decide) (by omega)) (by decide)
          · have := congrArg List.length m15
            simp at this
            omega
      · exact ⟨D14, ms0, rfl, Same.refl _, e14, r14, bd0, n0⟩
    clear e14 r14 m14 bd0 n0
    clear ms0
    rintro σ' H15 ⟨lm, ms, rfl, s15, eM15, rM15, bM, nM⟩
    have hM15 : SqL K H15 lm (fr ms) := SqL.of eM15
    have s1215 := s1214.trans s15
    have hW15 := s1215.seq hW12
    have rW15 := rW12.same s1215
    have hl15 := s1215.seq hl12
    have hG15 := s1215.seq hG12
    have nM' : ms.length = ws.length := by omega
    obtain ⟨due2, hdue2⟩ : ∃ due : Str, (if RP (ws.map (·.2)) sg (ms.map (·.2)) = true then ("never" : Str) else "nothing") = due := ⟨_, rfl⟩
    refine ⟨fun σ' H' => σ' = [some (.ref S), some (.ref l), some (.ref lw), some (.ref ld), some (.ref tp), some (.ref lsg), some (.str due2), some (.ref lq), some (.ref lm), none, none, none, none, none] ∧ Same H15 H', ?_, ?_⟩
    · refine ⟨_, rfl, _, rfl, _, rfl, lw, lsg, lm, ws, sg, ms, rfl, hW15, rW15, bW, hG15, hM15, rM15, bM, nG, nM', n9, fun H16 s16 => ?_⟩
      refine ⟨_, rfl, ite2 (fun g => ?_) (fun g => ?_)⟩
      · rw [if_pos g] at hdue2
        rw [← hdue2]
        exact ⟨rfl, s16⟩
      · rw [if_neg g] at hdue2
        rw [← hdue2]
        exact ⟨rfl, s16⟩
    rintro σ' H16 ⟨rfl, s16⟩
    have hW16 := s16.seq hW15
    have rW16 := rW15.same s16
    have hl16 := s16.seq hl15
    have hG16 := s16.seq hG15
    have hM16 := s16.seq hM15
    have rM16 := rM15.same s16
    -- judged by the multipliers
    refine ⟨_, rfl, lw, _, rfl, .inl hW16, fun a1 na1 => ?_⟩
    have s17 := same_upd (o := .lst (wr ws)) na1
    have e17 : (upd H16 a1 (.lst (wr ws))) a1 = some (.lst (wr ws)) := upd_same
    generalize upd H16 a1 (.lst (wr ws)) = H17 at *
    refine ⟨_, rfl, lsg, _, rfl, .inl (s17.seq hG16), fun a2 na2 => ?_⟩
    have s18 := same_upd (o := .lst (zs sg)) na2
    have e18 : (upd H17 a2 (.lst (zs sg))) a2 = some (.lst (zs sg)) := upd_same
    generalize upd H17 a2 (.lst (zs sg)) = H18 at *
    refine ⟨_, rfl, lm, _, rfl, .inl ((s17.trans s18).seq hM16), fun a3 na3 => ?_⟩
    have s19 := same_upd (o := .lst (fr ms)) na3
    have e19 : (upd H18 a3 (.lst (fr ms))) a3 = some (.lst (fr ms)) := upd_same
    generalize upd H18 a3 (.lst (fr ms)) = H19 at *
    refine ⟨by show 2 ≤ sizeLine; decide, fun a4 na4 => ?_⟩
    have s20 := same_upd (o := .tup [.str "never", .ref a3]) na4
    have e20 : (upd H19 a4 (.tup [.str "never", .ref a3])) a4 = some (.tup [.str "never", .ref a3]) := upd_same
    generalize upd H19 a4 (.tup [.str "never", .ref a3]) = H20 at *
    have s1620 := s17.trans (s18.trans (s19.trans s20))
    refine ⟨a1, a2, a4, ws, sg, rfl, SqL.of (s20 _ _ (s19 _ _ (s18 _ _ e17))), rW16.same s1620, bW, SqL.of (s20 _ _ (s19 _ _ e18)), nG, n9, .inr ⟨a3, ms, SqT.of e20, SqL.of (s20 _ _ e19), rM16.same s1620, bM, by omega, fun H21 s21 => ?_⟩⟩
    rw [hdue2]
    refine ⟨_, rfl, rfl, _, rfl, ite2 (fun g => ?_) (fun _ => ?_)⟩
    · simp at g
    have s1621 := s1620.trans s21
    have hW21 := s1621.seq hW16
    have rW21 := rW16.same s1621
    have hl21 := s1621.seq hl16
    have hG21 := s1621.seq hG16
    have hM21 := s1621.seq hM16
    have rM21 := rM16.same s1621
    clear e17 e18 e19 e20 na1 na2 na3 na4 s17 s18 s19 s20 s1620 hdue2
    clear a1 a2 a3 a4
    -- one multiplier too many
    refine ⟨_, rfl, lw, _, rfl, .inl hW21, fun a1 na1 => ?_⟩
    have s22 := same_upd (o := .lst (wr ws)) na1
    have e22 : (upd H21 a1 (.lst (wr ws))) a1 = some (.lst (wr ws)) := upd_same
    generalize upd H21 a1 (.lst (wr ws)) = H22 at *
    refine ⟨_, rfl, lsg, _, rfl, .inl (s22.seq hG21), fun a2 na2 => ?_⟩
    have s23 := same_upd (o := .lst (zs sg)) na2
    have e23 : (upd H22 a2 (.lst (zs sg))) a2 = some (.lst (zs sg)) := upd_same
    generalize upd H22 a2 (.lst (zs sg)) = H23 at *
    refine ⟨_, rfl, ?_⟩
    refine ⟨tn rfl, fun z0 nz0 => ?_⟩
    generalize hUz0 : upd _ _ (HO.tup _) = H24
    have s24 := same_hu hUz0 nz0
    have eh24 := at_hu hUz0
    have h24 := SqT.of (K := K) eh24
    clear hUz0
    refine ⟨tn rfl, fun Z nZ => ?_⟩
    generalize hUZ : upd _ _ (HO.lst _) = H25
    have s25' := same_hu hUZ nZ
    have eh25 := at_hu hUZ
    have h25 := SqL.of (K := K) eh25
    clear hUZ
    have eM25 : H25 lm = some (.lst (fr ms)) := s25' _ _ (s24 _ _ (s23 _ _ (s22 _ _ (s1621 _ _ (s16 _ _ eM15)))))
    refine ⟨lm, Z, fr ms, [.ref z0], rfl, rfl, eM25, eh25, ?_, fun a3 na3 => ?_⟩
    · rw [fr_len]
      exact Nat.le_of_lt (small1000 (by show ms.length + 1 ≤ 1000; omega))
    have s26 := same_upd (o := .lst (fr ms ++ [.ref z0])) na3
    have e26 : (upd H25 a3 (.lst (fr ms ++ [.ref z0]))) a3 = some (.lst (fr ms ++ [.ref z0])) := upd_same
    generalize upd H25 a3 (.lst (fr ms ++ [.ref z0])) = H26 at *
    rw [show fr ms ++ [V.ref z0] = fr (ms ++ [(z0, 0)]) from (List.map_append (f := fun w : Addr × Rat => V.ref w.1) (l₁ := ms) (l₂ := [(z0, 0)])).symm] at e26
    refine ⟨by show 2 ≤ sizeLine; decide, fun a4 na4 => ?_⟩
    have s27 := same_upd (o := .tup [.str "never", .ref a3]) na4
    have e27 : (upd H26 a4 (.tup [.str "never", .ref a3])) a4 = some (.tup [.str "never", .ref a3]) := upd_same
    generalize upd H26 a4 (.tup [.str "never", .ref a3]) = H27 at *
    have s2327 := s24.trans (s25'.trans (s26.trans s27))
    have s2127 := s22.trans (s23.trans s2327)
    refine ⟨a1, a2, a4, ws, sg, rfl, SqL.of (s2327 _ _ (s23 _ _ e22)), rW21.same s2127, bW, SqL.of (s2327 _ _ e23), nG, n9, .inr ⟨a3, ms ++ [(z0, 0)], SqT.of e27, SqL.of (s27 _ _ e26), ?_, ?_, ?_, fun H28 s28 => ?_⟩⟩
    · intro m hm
      rcases List.mem_append.mp hm with h | h
      · exact (rM21 m h).same s2127
      · rw [List.mem_singleton.mp h]
        exact same_tup (s25'.trans (s26.trans s27)) h24
    · intro m hm
      rcases List.mem_append.mp hm with h | h
      · exact bM m h
      · rw [List.mem_singleton.mp h]
        exact bd_zero.up (by decide)
    · rw [List.length_append]
      show ms.length + 1 ≤ 9
      omega
    have hr : RP (ws.map (·.2)) sg ((ms ++ [(z0, (0 : Rat))]).map fun x => x.2) = false := by
      unfold RP
      rw [List.length_map, List.length_map, List.length_append, decide_eq_false (show ¬ (ms.length + [(z0, (0 : Rat))].length = ws.length) by show ¬ (ms.length + 1 = ws.length); omega)]
      rfl
    rw [hr, if_neg Bool.false_ne_true]
    refine ⟨rfl, _, rfl, ite2 (fun g => ?_) (fun _ => ?_)⟩
    · simp at g
    have s2128 := s2127.trans s28
    have hl28 := s2128.seq hl21
    clear hr s26 s27 e26 e27 e22 e23 s22 s23 s24 s25' s2327 s2127 eM25
    -- two planes with the same normal
    have v0 := Int.emod_nonneg (rs.getD 2 0) (show (9 : Int) ≠ 0 by decide)
    have v1 := Int.emod_lt_of_pos (rs.getD 2 0) (show (0 : Int) < 9 by decide)
    have v2 := Int.emod_nonneg (rs.getD 3 0) (show (2 : Int) ≠ 0 by decide)
    have v3 := Int.emod_lt_of_pos (rs.getD 3 0) (show (0 : Int) < 2 by decide)
    refine ⟨2, rfl, ?_⟩
    refine ⟨tn rfl, fun u1 nu1 => ?_⟩
    generalize hUu1 : upd _ _ (HO.tup _) = H29
    have s29 := same_hu hUu1 nu1
    have eh29 := at_hu hUu1
    have h29 := SqT.of (K := K) eh29
    clear hUu1
    refine ⟨tn rfl, fun o1 no1 => ?_⟩
    generalize hUo1 : upd _ _ (HO.tup _) = H30
    have s30 := same_hu hUo1 no1
    have eh30 := at_hu hUo1
    have h30 := SqT.of (K := K) eh30
    clear hUo1
    refine ⟨tn rfl, fun w1 nw1 => ?_⟩
    generalize hUw1 : upd _ _ (HO.tup _) = H31
    have s31 := same_hu hUw1 nw1
    have eh31 := at_hu hUw1
    have h31 := SqT.of (K := K) eh31
    clear hUw1
    refine ⟨2, rfl, ?_⟩
    refine ⟨tn rfl, fun u2 nu2 => ?_⟩
    generalize hUu2 : upd _ _ (HO.tup _) = H32
    have s32 := same_hu hUu2 nu2
    have eh32 := at_hu hUu2
    have h32 := SqT.of (K := K) eh32
    clear hUu2
    have s2832 := s29.trans (s30.trans (s31.trans s32))
    refine ⟨.ref l, rfl, l, _, 2, _, rfl, rfl, s2832.seq hl28, atI_nat (dr0 2 (by omega)), _, _, rfl, rfl, by show (0 : Int) < 9; decide, _, _, rfl, rfl, .ref l, rfl, l, _, 3, _, rfl, rfl, s2832.seq hl28, atI_nat (dr0 3 (by omega)), _, _, rfl, rfl, by show (0 : Int) < 2; decide, _, _, rfl, rfl, ?_⟩
    refine ⟨_, _, rfl, by omega, by omega, by omega, fun H33 o2 s33 e33 => ?_⟩
    have f33 := fx_rd (K := K) (by omega) e33
    have bf33 : Bd 20 (Rat.divInt (rs.getD 2 0 % 9 - 1) (1 + rs.getD 3 0 % 2)) := bd_of (by omega) (by have : (2 : Nat) ^ 20 = 1048576 := rfl; omega) (by have : (2 : Nat) ^ 20 = 1048576 := rfl; omega)
    generalize Rat.divInt (rs.getD 2 0 % 9 - 1) (1 + rs.getD 3 0 % 2) = f at f33 bf33
    refine ⟨tn rfl, fun w2 nw2 => ?_⟩
    generalize hUw2 : upd _ _ (HO.tup _) = H34
    have s34 := same_hu hUw2 nw2
    have eh34 := at_hu hUw2
    have h34 := SqT.of (K := K) eh34
    clear hUw2
    refine ⟨tn rfl, fun pr npr => ?_⟩
    generalize hUpr : upd _ _ (HO.lst _) = H35
    have s35 := same_hu hUpr npr
    have eh35 := at_hu hUpr
    have h35 := SqL.of (K := K) eh35
    clear hUpr
    obtain ⟨due3, hdue3⟩ : ∃ due : Str, (if f.num ≤ 3 * (f.den : Int) then ("never" : Str) else "nothing") = due := ⟨_, rfl⟩
    have f35 : Fx K H35 o2 f := f33.same (s34.trans s35)
    have h34' := same_tup s35 h34
    refine ⟨fun σ' H' => σ' = [some (.ref S), some (.ref l), some (.ref lw), some (.ref ld), some (.ref tp), some (.ref lsg), some (.str due3), some (.ref lq), some (.ref lm), some (.ref pr), none, none, none, none] ∧ H' = H35, ?_, ?_⟩
    · refine ⟨.ref pr, rfl, pr, _, 1, _, rfl, rfl, h35, atI_nat (j := 1) rfl, w2, _, 1, _, rfl, rfl, h34', atI_nat (j := 1) rfl, o2, _, 0, _, rfl, rfl, f35, atI_nat (j := 0) rfl, .ref pr, rfl, pr, _, 1, _, rfl, rfl, h35, atI_nat (j := 1) rfl, w2, _, 1, _, rfl, rfl, h34', atI_nat (j := 1) rfl, o2, _, 1, _, rfl, rfl, f35, atI_nat (j := 1) rfl, ?_⟩
      refine ⟨_, _, rfl, rfl, .inl ⟨by decide, by decide⟩, _, _, rfl, rfl, _, rfl, ite2 (fun g => ?_) (fun g => ?_)⟩
      · rw [if_pos (of_decide_eq_true g)] at hdue3
        rw [← hdue3]
        exact ⟨rfl, rfl⟩
      · rw [if_neg (fun z => g (decide_eq_true z))] at hdue3
        rw [← hdue3]
        exact ⟨rfl, rfl⟩
    rintro σ' H36 ⟨rfl, rfl⟩
    refine ⟨_, rfl, 1, rfl, ?_⟩
    refine ⟨tn rfl, fun sl nsl => ?_⟩
    generalize hUsl : upd _ _ (HO.lst _) = H37
    have s37 := same_hu hUsl nsl
    have eh37 := at_hu hUsl
    have h37 := SqL.of (K := K) eh37
    clear hUsl
    refine ⟨tn rfl, fun t1 nt1 => ?_⟩
    generalize hUt1 : upd _ _ (HO.tup _) = H38
    have s38 := same_hu hUt1 nt1
    have eh38 := at_hu hUt1
    have h38 := SqT.of (K := K) eh38
    clear hUt1
    refine ⟨tn rfl, fun t2 nt2 => ?_⟩
    generalize hUt2 : upd _ _ (HO.tup _) = H39
    have s39 := same_hu hUt2 nt2
    have eh39 := at_hu hUt2
    have h39 := SqT.of (K := K) eh39
    clear hUt2
    refine ⟨tn rfl, fun ml nml => ?_⟩
    generalize hUml : upd _ _ (HO.lst _) = H40
    have s40 := same_hu hUml nml
    have eh40 := at_hu hUml
    have h40 := SqL.of (K := K) eh40
    clear hUml
    refine ⟨tn rfl, fun pp npp => ?_⟩
    generalize hUpp : upd _ _ (HO.tup _) = H41
    have s41 := same_hu hUpp npp
    have eh41 := at_hu hUpp
    have h41 := SqT.of (K := K) eh41
    clear hUpp
    have s3741 := s38.trans (s39.trans (s40.trans s41))
    have s3641 := s37.trans s3741
    refine ⟨pr, sl, pp, [(w1, ⟨1, 0, -2, 3⟩), (w2, ⟨1, 0, -2, f⟩)], [1, -1], rfl, s3641.seq h35, ?_, ?_, s3741.seq h37, rfl, (by show 2 ≤ 9; decide), .inr ⟨ml, [(t1, 1), (t2, 1)], h41, s41.seq h40, ?_, ?_, (by show 2 ≤ 9; decide), fun H42 s42 => ?_⟩⟩
    · intro w hw
      simp only [List.mem_cons, List.not_mem_nil, or_false] at hw
      rcases hw with rfl | rfl
      · have s3136 := s32.trans (s33.trans (s34.trans s35))
        exact WOk.up s3641 ⟨u1, o1, same_tup s3136 h31, same_tup (s30.trans (s31.trans s3136)) h29, same_tup (s31.trans s3136) h30⟩
      · exact WOk.up s3641 ⟨u2, o2, same_tup s35 h34, same_tup (s33.trans (s34.trans s35)) h32, f35⟩
    · intro w hw
      simp only [List.mem_cons, List.not_mem_nil, or_false] at hw
      rcases hw with rfl | rfl
      · exact ⟨(by show Bz 20 1; unfold Bz; decide), (by show Bz 20 0; unfold Bz; decide), (by show Bz 20 (-2); unfold Bz; decide), bd_int (n := 3) (bz_of (n := 20) (by decide)) (by decide)⟩
      · exact ⟨(by show Bz 20 1; unfold Bz; decide), (by show Bz 20 0; unfold Bz; decide), (by show Bz 20 (-2); unfold Bz; decide), bf33⟩
    · intro m hm
      simp only [List.mem_cons, List.not_mem_nil, or_false] at hm
      rcases hm with rfl | rfl
      · exact same_tup (s39.trans (s40.trans s41)) h38
      · exact same_tup (s40.trans s41) h39
    · intro m hm
      simp only [List.mem_cons, List.not_mem_nil, or_false] at hm
      rcases hm with rfl | rfl
      · exact bd_one.up (by decide)
      · exact bd_one.up (by decide)
    have hr : (if RP ([(w1, (⟨1, 0, -2, 3⟩ : WI)), (w2, ⟨1, 0, -2, f⟩)].map fun x => x.2) [1, -1] ([(t1, (1 : Rat)), (t2, 1)].map fun x => x.2) = true then ("never" : Str) else "nothing") = due3 := by
      rw [← hdue3, show RP ([(w1, (⟨1, 0, -2, 3⟩ : WI)), (w2, ⟨1, 0, -2, f⟩)].map fun x => x.2) [1, -1] ([(t1, (1 : Rat)), (t2, 1)].map fun x => x.2) = decide (f.num ≤ 3 * (f.den : Int)) from rp_pair f]
      by_cases h : f.num ≤ 3 * (f.den : Int)
      · rw [if_pos (decide_eq_true h), if_pos h]
      · rw [if_neg (fun z => h (of_decide_eq_true z)), if_neg h]
    rw [hr]
    refine ⟨_, rfl, rfl, ?_⟩
    rw [decide_eq_true rfl]
    exact fin _
end
theorem all_mk {l : PySem.W.OpenLaw} {w : World} {K : PySem.W.Frag} {h : Heap} {mg : Str → Option Value} {fa f1 f2 f3 f4 f5 f6 f7 f8 f9 f10 f11 f12 f13 f14 f15 f16 f17 f18 f19 f20 f21 f22 f23 f24 f25 aZERO CPartError CNought T1 : Addr} (X : K.In h) (G : h.Ns mainGlobals mg) (hfa : mg "law" = some (.ref fa))
    {od1 an1 od2 an2 od3 an3 od4 an4 od5 an5 od6 an6 od7 an7 od8 an8 od9 an9 od10 an10 od11 an11 od12 an12 od13 an13 od14 an14 od15 an15 od16 an16 od17 an17 od18 an18 od19 an19 od20 an20 od21 an21 od22 an22 od23 an23 od24 an24 od25 an25 : Option Addr} {sl1 sl2 sl3 sl4 sl5 sl6 sl7 sl8 sl9 sl10 sl11 sl12 sl13 sl14 sl15 sl16 sl17 sl18 sl19 sl20 sl21 sl22 sl23 sl24 sl25 : Array (Option Value)} {oc1 kV1 dc1 pm1 cd1 ct1 oc2 kV2 dc2 pm2 cd2 ct2 oc3 kV3 dc3 pm3 cd3 ct3 oc4 kV4 dc4 pm4 cd4 ct4 oc5 kV5 dc5 pm5 cd5 ct5 oc6 kV6 dc6 pm6 cd6 ct6 oc7 kV7 dc7 pm7 cd7 ct7 oc8 kV8 dc8 pm8 cd8 ct8 oc9 kV9 dc9 pm9 cd9 ct9 oc10 kV10 dc10 pm10 cd10 ct10 oc11 kV11 dc11 pm11 cd11 ct11 oc12 kV12 dc12 pm12 cd12 ct12 oc13 kV13 dc13 pm13 cd13 ct13 oc14 kV14 dc14 pm14 cd14 ct14 oc15 kV15 dc15 pm15 cd15 ct15 oc16 kV16 dc16 pm16 cd16 ct16 oc17 kV17 dc17 pm17 cd17 ct17 oc18 kV18 dc18 pm18 cd18 ct18 oc19 kV19 dc19 pm19 cd19 ct19 oc20 kV20 dc20 pm20 cd20 ct20 oc21 kV21 dc21 pm21 cd21 ct21 oc22 kV22 dc22 pm22 cd22 ct22 oc23 kV23 dc23 pm23 cd23 ct23 oc24 kV24 dc24 pm24 cd24 ct24 oc25 kV25 dc25 pm25 cd25 ct25 : Value}
    (a1 : PySem.W.nsIn K mainGlobals "fraction" = some (some (.ref f1))) (l1 : K.lookup f1 = some ⟨oc1, od1, .func (PySem.W.fnOf "fraction" "fraction" (defArgs sFraction) (defBody sFraction) (defScope sFraction) (.ref T1) kV1 dc1 pm1 an1 cd1 ct1), sl1⟩) {ocT1 : Value} {odT1 : Option Addr} {slT1 : Array (Option Value)} {nT1 : Nat} {tT1 : Tok} (lT1 : K.lookup T1 = some ⟨ocT1, odT1, .seq #[.int 1 tT1] nT1, slT1⟩) (c1 : PySem.W.codeIn K cd1 "fraction" = true) (k1 : PySem.W.keepIn K (.ref f1) = true)
    (a2 : PySem.W.nsIn K mainGlobals "plus" = some (some (.ref f2))) (l2 : K.lookup f2 = some ⟨oc2, od2, .func (PySem.W.fnOf "plus" "plus" (defArgs sPlus) (defBody sPlus) (defScope sPlus) .none kV2 dc2 pm2 an2 cd2 ct2), sl2⟩) (c2 : PySem.W.codeIn K cd2 "plus" = true) (k2 : PySem.W.keepIn K (.ref f2) = true)
    (a3 : PySem.W.nsIn K mainGlobals "times" = some (some (.ref f3))) (l3 : K.lookup f3 = some ⟨oc3, od3, .func (PySem.W.fnOf "times" "times" (defArgs sTimes) (defBody sTimes) (defScope sTimes) .none kV3 dc3 pm3 an3 cd3 ct3), sl3⟩) (c3 : PySem.W.codeIn K cd3 "times" = true) (k3 : PySem.W.keepIn K (.ref f3) = true)
    (a4 : PySem.W.nsIn K mainGlobals "negative" = some (some (.ref f4))) (l4 : K.lookup f4 = some ⟨oc4, od4, .func (PySem.W.fnOf "negative" "negative" (defArgs sNegative) (defBody sNegative) (defScope sNegative) .none kV4 dc4 pm4 an4 cd4 ct4), sl4⟩) (c4 : PySem.W.codeIn K cd4 "negative" = true) (k4 : PySem.W.keepIn K (.ref f4) = true)
    (a5 : PySem.W.nsIn K mainGlobals "sign" = some (some (.ref f5))) (l5 : K.lookup f5 = some ⟨oc5, od5, .func (PySem.W.fnOf "sign" "sign" (defArgs sSign) (defBody sSign) (defScope sSign) .none kV5 dc5 pm5 an5 cd5 ct5), sl5⟩) (c5 : PySem.W.codeIn K cd5 "sign" = true) (k5 : PySem.W.keepIn K (.ref f5) = true)
    (a6 : PySem.W.nsIn K mainGlobals "total" = some (some (.ref f6))) (l6 : K.lookup f6 = some ⟨oc6, od6, .func (PySem.W.fnOf "total" "total" (defArgs sTotal) (defBody sTotal) (defScope sTotal) .none kV6 dc6 pm6 an6 cd6 ct6), sl6⟩) (c6 : PySem.W.codeIn K cd6 "total" = true) (k6 : PySem.W.keepIn K (.ref f6) = true)
    (a7 : PySem.W.nsIn K mainGlobals "sign_of" = some (some (.ref f7))) (l7 : K.lookup f7 = some ⟨oc7, od7, .func (PySem.W.fnOf "sign_of" "sign_of" (defArgs sSignOf) (defBody sSignOf) (defScope sSignOf) .none kV7 dc7 pm7 an7 cd7 ct7), sl7⟩) (c7 : PySem.W.codeIn K cd7 "sign_of" = true) (k7 : PySem.W.keepIn K (.ref f7) = true)
    (a8 : PySem.W.nsIn K mainGlobals "reach_ratio" = some (some (.ref f8))) (l8 : K.lookup f8 = some ⟨oc8, od8, .func (PySem.W.fnOf "reach_ratio" "reach_ratio" (defArgs sReachRatio) (defBody sReachRatio) (defScope sReachRatio) .none kV8 dc8 pm8 an8 cd8 ct8), sl8⟩) (c8 : PySem.W.codeIn K cd8 "reach_ratio" = true) (k8 : PySem.W.keepIn K (.ref f8) = true)
    (a9 : PySem.W.nsIn K mainGlobals "side" = some (some (.ref f9))) (l9 : K.lookup f9 = some ⟨oc9, od9, .func (PySem.W.fnOf "side" "side" (defArgs sSide) (defBody sSide) (defScope sSide) .none kV9 dc9 pm9 an9 cd9 ct9), sl9⟩) (c9 : PySem.W.codeIn K cd9 "side" = true) (k9 : PySem.W.keepIn K (.ref f9) = true)
    (a10 : PySem.W.nsIn K mainGlobals "sides" = some (some (.ref f10))) (l10 : K.lookup f10 = some ⟨oc10, od10, .func (PySem.W.fnOf "sides" "sides" (defArgs sSides) (defBody sSides) (defScope sSides) .none kV10 dc10 pm10 an10 cd10 ct10), sl10⟩) (c10 : PySem.W.codeIn K cd10 "sides" = true) (k10 : PySem.W.keepIn K (.ref f10) = true)
    (a11 : PySem.W.nsIn K mainGlobals "turned_plane" = some (some (.ref f11))) (l11 : K.lookup f11 = some ⟨oc11, od11, .func (PySem.W.fnOf "turned_plane" "turned_plane" (defArgs sTurnedPlane) (defBody sTurnedPlane) (defScope sTurnedPlane) .none kV11 dc11 pm11 an11 cd11 ct11), sl11⟩) (c11 : PySem.W.codeIn K cd11 "turned_plane" = true) (k11 : PySem.W.keepIn K (.ref f11) = true)
    (a12 : PySem.W.nsIn K mainGlobals "is_refuted" = some (some (.ref f12))) (l12 : K.lookup f12 = some ⟨oc12, od12, .func (PySem.W.fnOf "is_refuted" "is_refuted" (defArgs sIsRefuted) (defBody sIsRefuted) (defScope sIsRefuted) .none kV12 dc12 pm12 an12 cd12 ct12), sl12⟩) (c12 : PySem.W.codeIn K cd12 "is_refuted" = true) (k12 : PySem.W.keepIn K (.ref f12) = true)
    (a13 : PySem.W.nsIn K mainGlobals "judge" = some (some (.ref f13))) (l13 : K.lookup f13 = some ⟨oc13, od13, .func (PySem.W.fnOf "judge" "judge" (defArgs sJudge) (defBody sJudge) (defScope sJudge) .none kV13 dc13 pm13 an13 cd13 ct13), sl13⟩) (c13 : PySem.W.codeIn K cd13 "judge" = true) (k13 : PySem.W.keepIn K (.ref f13) = true)
    (a14 : PySem.W.nsIn K mainGlobals "_law_cell" = some (some (.ref f14))) (l14 : K.lookup f14 = some ⟨oc14, od14, .func (PySem.W.fnOf "_law_cell" "_law_cell" (defArgs sLLawCell) (defBody sLLawCell) (defScope sLLawCell) .none kV14 dc14 pm14 an14 cd14 ct14), sl14⟩) (c14 : PySem.W.codeIn K cd14 "_law_cell" = true) (k14 : PySem.W.keepIn K (.ref f14) = true)
    (a15 : PySem.W.nsIn K mainGlobals "_law_row" = some (some (.ref f15))) (l15 : K.lookup f15 = some ⟨oc15, od15, .func (PySem.W.fnOf "_law_row" "_law_row" (defArgs sLLawRow) (defBody sLLawRow) (defScope sLLawRow) .none kV15 dc15 pm15 an15 cd15 ct15), sl15⟩) (c15 : PySem.W.codeIn K cd15 "_law_row" = true) (k15 : PySem.W.keepIn K (.ref f15) = true)
    (a16 : PySem.W.nsIn K mainGlobals "_law_fraction" = some (some (.ref f16))) (l16 : K.lookup f16 = some ⟨oc16, od16, .func (PySem.W.fnOf "_law_fraction" "_law_fraction" (defArgs sLLawFraction) (defBody sLLawFraction) (defScope sLLawFraction) .none kV16 dc16 pm16 an16 cd16 ct16), sl16⟩) (c16 : PySem.W.codeIn K cd16 "_law_fraction" = true) (k16 : PySem.W.keepIn K (.ref f16) = true)
    (a17 : PySem.W.nsIn K mainGlobals "_law_plus" = some (some (.ref f17))) (l17 : K.lookup f17 = some ⟨oc17, od17, .func (PySem.W.fnOf "_law_plus" "_law_plus" (defArgs sLLawPlus) (defBody sLLawPlus) (defScope sLLawPlus) .none kV17 dc17 pm17 an17 cd17 ct17), sl17⟩) (c17 : PySem.W.codeIn K cd17 "_law_plus" = true) (k17 : PySem.W.keepIn K (.ref f17) = true)
    (a18 : PySem.W.nsIn K mainGlobals "_law_times" = some (some (.ref f18))) (l18 : K.lookup f18 = some ⟨oc18, od18, .func (PySem.W.fnOf "_law_times" "_law_times" (defArgs sLLawTimes) (defBody sLLawTimes) (defScope sLLawTimes) .none kV18 dc18 pm18 an18 cd18 ct18), sl18⟩) (c18 : PySem.W.codeIn K cd18 "_law_times" = true) (k18 : PySem.W.keepIn K (.ref f18) = true)
    (a19 : PySem.W.nsIn K mainGlobals "_law_sign" = some (some (.ref f19))) (l19 : K.lookup f19 = some ⟨oc19, od19, .func (PySem.W.fnOf "_law_sign" "_law_sign" (defArgs sLLawSign) (defBody sLLawSign) (defScope sLLawSign) .none kV19 dc19 pm19 an19 cd19 ct19), sl19⟩) (c19 : PySem.W.codeIn K cd19 "_law_sign" = true) (k19 : PySem.W.keepIn K (.ref f19) = true)
    (a20 : PySem.W.nsIn K mainGlobals "_law_along" = some (some (.ref f20))) (l20 : K.lookup f20 = some ⟨oc20, od20, .func (PySem.W.fnOf "_law_along" "_law_along" (defArgs sLLawAlong) (defBody sLLawAlong) (defScope sLLawAlong) .none kV20 dc20 pm20 an20 cd20 ct20), sl20⟩) (c20 : PySem.W.codeIn K cd20 "_law_along" = true) (k20 : PySem.W.keepIn K (.ref f20) = true)
    (a21 : PySem.W.nsIn K mainGlobals "_law_side" = some (some (.ref f21))) (l21 : K.lookup f21 = some ⟨oc21, od21, .func (PySem.W.fnOf "_law_side" "_law_side" (defArgs sLLawSide) (defBody sLLawSide) (defScope sLLawSide) .none kV21 dc21 pm21 an21 cd21 ct21), sl21⟩) (c21 : PySem.W.codeIn K cd21 "_law_side" = true) (k21 : PySem.W.keepIn K (.ref f21) = true)
    (a22 : PySem.W.nsIn K mainGlobals "_law_shut" = some (some (.ref f22))) (l22 : K.lookup f22 = some ⟨oc22, od22, .func (PySem.W.fnOf "_law_shut" "_law_shut" (defArgs sLLawShut) (defBody sLLawShut) (defScope sLLawShut) .none kV22 dc22 pm22 an22 cd22 ct22), sl22⟩) (c22 : PySem.W.codeIn K cd22 "_law_shut" = true) (k22 : PySem.W.keepIn K (.ref f22) = true)
    (a23 : PySem.W.nsIn K mainGlobals "_law_shuts" = some (some (.ref f23))) (l23 : K.lookup f23 = some ⟨oc23, od23, .func (PySem.W.fnOf "_law_shuts" "_law_shuts" (defArgs sLLawShuts) (defBody sLLawShuts) (defScope sLLawShuts) .none kV23 dc23 pm23 an23 cd23 ct23), sl23⟩) (c23 : PySem.W.codeIn K cd23 "_law_shuts" = true) (k23 : PySem.W.keepIn K (.ref f23) = true)
    (a24 : PySem.W.nsIn K mainGlobals "_law_shows" = some (some (.ref f24))) (l24 : K.lookup f24 = some ⟨oc24, od24, .func (PySem.W.fnOf "_law_shows" "_law_shows" (defArgs sLLawShows) (defBody sLLawShows) (defScope sLLawShows) .none kV24 dc24 pm24 an24 cd24 ct24), sl24⟩) (c24 : PySem.W.codeIn K cd24 "_law_shows" = true) (k24 : PySem.W.keepIn K (.ref f24) = true)
    (a25 : PySem.W.nsIn K mainGlobals "law" = some (some (.ref f25))) (l25 : K.lookup f25 = some ⟨oc25, od25, .func (PySem.W.fnOf "law" "law" (defArgs sLaw) (defBody sLaw) (defScope sLaw) .none kV25 dc25 pm25 an25 cd25 ct25), sl25⟩) (c25 : PySem.W.codeIn K cd25 "law" = true) (k25 : PySem.W.keepIn K (.ref f25) = true)
    (z1 : PySem.W.nsIn K mainGlobals "abs" = some none)
    (z2 : PySem.W.nsIn K mainGlobals "any" = some none)
    (z3 : PySem.W.nsIn K mainGlobals "int" = some none)
    (z4 : PySem.W.nsIn K mainGlobals "len" = some none)
    (z5 : PySem.W.nsIn K mainGlobals "list" = some none)
    (z6 : PySem.W.nsIn K mainGlobals "range" = some none)
    (z7 : PySem.W.nsIn K mainGlobals "tuple" = some none)
    (z8 : PySem.W.nsIn K mainGlobals "zip" = some none)
    (z9 : PySem.W.nsIn K mainGlobals "gcd" = some (some (.builtin "math.gcd")))
    (u0 : PySem.W.nsIn K mainGlobals "ZERO" = some (some (.ref aZERO))) {dw0 : Option Addr} {nw0 : Nat} {sw0 : Array (Option Value)} {tk0_0 tk0_1 : Tok} (w0 : K.lookup aZERO = some ⟨.type "tuple", dw0, .seq #[.int 0 tk0_0, .int 1 tk0_1] nw0, sw0⟩)
    (y0 : PySem.W.nsIn K mainGlobals "PartError" = some (some (.ref CPartError)))
    (y1 : PySem.W.nsIn K mainGlobals "Nought" = some (some (.ref CNought)))
    (y2 : PySem.W.excIn K CNought [.type "ValueError", .type "Exception", .type "BaseException", .type "object"] "ValueError.__new__" = true)
    (y3 : PySem.W.keepIn K (.ref CNought) = true)
    (y4 : PySem.W.subIn K (.ref CNought) (.type "BaseException") = some true)
    (y5 : PySem.W.typeIn K (.ref CNought) = some (.type "type"))
    (y6 : PySem.W.subIn K (.ref CPartError) (.type "BaseException") = some true)
    (y7 : PySem.W.isClsIn K CPartError = true)
    (y8 : PySem.W.typeIn K (.ref CPartError) = some (.type "type"))
    (y9 : PySem.W.subIn K (.ref CNought) (.ref CPartError) = some true)
    (y10 : PySem.W.subIn K (.ref CNought) (.ref CNought) = some true)
    (y11 : PySem.W.findIn K (.ref CNought) "__getattribute__" = some (some (.builtin "BaseException.__getattribute__")))
    (y12 : PySem.W.findIn K (.ref CNought) "__getattr__" = some none)
    (y13 : PySem.W.hasDictIn K CNought = true)
    (y14 : PySem.W.findIn K (.ref CNought) "__class__" = some (some (.builtin "object.__class__")))
    (y15 : PySem.W.specialIn K (.builtin "object.__class__") "__get__" = some (some (.builtin "getset_descriptor.__get__")))
    (y16 : PySem.W.takesIn K (.builtin "object.__class__") = some true)
    (y17 : PySem.W.mroIn K CNought (.type "object") = some true)
    : ∃ fd : FuncData, (∀ (s : Shared) (v : Value), BindsTo s fd ⟨[v], []⟩ [("_law_script", v)]) ∧ ∀ base : Heap, K.In base → base.Ns mainGlobals mg → FnOk l.prog w K mg base CX0 6 fa fd ["_law_script"] (spLaw K) := by
  have e := hfa.symm.trans (PySem.W.mg_of X G a25)
  cases e
  have T : Txt mg := ⟨PySem.W.mg_none_of X G z1, PySem.W.mg_none_of X G z2, PySem.W.mg_none_of X G z3, PySem.W.mg_none_of X G z4, PySem.W.mg_none_of X G z5, PySem.W.mg_none_of X G z6, PySem.W.mg_none_of X G z7, PySem.W.mg_none_of X G z8, PySem.W.mg_of X G z9⟩
  have CT : Cons K mg aZERO := ⟨PySem.W.mg_of X G u0, fun H => .inr ⟨_, _, _, w0, rfl, rfl, by show 2 ≤ sizeLine; decide, (.cons ⟨_, rfl⟩ (.cons ⟨_, rfl⟩ .nil))⟩⟩
  have EX : Exns K mg CPartError CNought := ⟨PySem.W.mg_of X G y0, PySem.W.mg_of X G y1, y2, y3, y4, y5, y6, y7, y8, y9, y10, y11, y12, y13, y14, y15, y16, y17⟩
  have F1 : FunD K "fraction" "fraction" (defArgs sFraction) (defBody sFraction) (defScope sFraction) [.int 1] [] f1 _ := ⟨⟨oc1, od1, .ref T1, kV1, dc1, pm1, an1, cd1, ct1, sl1, rfl, l1, c1, .inr ⟨by decide, T1, _, [.int 1 tT1], nT1, rfl, lT1, rfl, .cons ⟨_, rfl⟩ .nil⟩, .inl rfl⟩, k1⟩
  have F2 := fun_mk (st := sPlus) l2 c2 k2
  have F3 := fun_mk (st := sTimes) l3 c3 k3
  have F4 := fun_mk (st := sNegative) l4 c4 k4
  have F5 := fun_mk (st := sSign) l5 c5 k5
  have F6 := fun_mk (st := sTotal) l6 c6 k6
  have F7 := fun_mk (st := sSignOf) l7 c7 k7
  have F8 := fun_mk (st := sReachRatio) l8 c8 k8
  have F9 := fun_mk (st := sSide) l9 c9 k9
  have F10 := fun_mk (st := sSides) l10 c10 k10
  have F11 := fun_mk (st := sTurnedPlane) l11 c11 k11
  have F12 := fun_mk (st := sIsRefuted) l12 c12 k12
  have F13 := fun_mk (st := sJudge) l13 c13 k13
  have F14 := fun_mk (st := sLLawCell) l14 c14 k14
  have F15 := fun_mk (st := sLLawRow) l15 c15 k15
  have F16 := fun_mk (st := sLLawFraction) l16 c16 k16
  have F17 := fun_mk (st := sLLawPlus) l17 c17 k17
  have F18 := fun_mk (st := sLLawTimes) l18 c18 k18
  have F19 := fun_mk (st := sLLawSign) l19 c19 k19
  have F20 := fun_mk (st := sLLawAlong) l20 c20 k20
  have F21 := fun_mk (st := sLLawSide) l21 c21 k21
  have F22 := fun_mk (st := sLLawShut) l22 c22 k22
  have F23 := fun_mk (st := sLLawShuts) l23 c23 k23
  have F24 := fun_mk (st := sLLawShows) l24 c24 k24
  have F25 := fun_mk (st := sLaw) l25 c25 k25
  obtain ⟨e1, ve1, b1⟩ := F1.binds1 (ps := ["number", "divisor"]) 2 1 (by decide) rfl (fun T kV doc pm an cdv ct us its hu hi => match us, its, hu, hi with | [_, _], [_], _, _ => ⟨_, rfl, by kernel_rfl⟩)
  cases ve1
  obtain ⟨d1, vd1, bd1⟩ := F1.binds1 (ps := ["number", "divisor"]) 1 0 (by decide) rfl (fun T kV doc pm an cdv ct us its hu hi => match us, its, hu, hi with | [_], [_], _, _ => ⟨_, rfl, by kernel_rfl⟩)
  have b2 := F2.binds (ps := ["a", "b"]) fun _ _ _ _ _ _ us hl => match us, hl with | [_, _], _ => rfl
  have b3 := F3.binds (ps := ["a", "b"]) fun _ _ _ _ _ _ us hl => match us, hl with | [_, _], _ => rfl
  have b4 := F4.binds (ps := ["a"]) fun _ _ _ _ _ _ us hl => match us, hl with | [_], _ => rfl
  have b5 := F5.binds (ps := ["a"]) fun _ _ _ _ _ _ us hl => match us, hl with | [_], _ => rfl
  have b6 := F6.binds (ps := ["row"]) fun _ _ _ _ _ _ us hl => match us, hl with | [_], _ => rfl
  have b7 := F7.binds (ps := ["number"]) fun _ _ _ _ _ _ us hl => match us, hl with | [_], _ => rfl
  have b8 := F8.binds (ps := ["normal", "point"]) fun _ _ _ _ _ _ us hl => match us, hl with | [_, _], _ => rfl
  have b9 := F9.binds (ps := ["wall", "point"]) fun _ _ _ _ _ _ us hl => match us, hl with | [_, _], _ => rfl
  have b10 := F10.binds (ps := ["walls", "point"]) fun _ _ _ _ _ _ us hl => match us, hl with | [_, _], _ => rfl
  have b11 := F11.binds (ps := ["wall", "to"]) fun _ _ _ _ _ _ us hl => match us, hl with | [_, _], _ => rfl
  have b12 := F12.binds (ps := ["walls", "signs", "multipliers"]) fun _ _ _ _ _ _ us hl => match us, hl with | [_, _, _], _ => rfl
  have b13 := F13.binds (ps := ["walls", "signs", "paper"]) fun _ _ _ _ _ _ us hl => match us, hl with | [_, _, _], _ => rfl
  have b14 := F14.binds (ps := ["_law_script", "_law_k"]) fun _ _ _ _ _ _ us hl => match us, hl with | [_, _], _ => rfl
  have b15 := F15.binds (ps := ["_law_cell_here", "_law_size", "_law_base"]) fun _ _ _ _ _ _ us hl => match us, hl with | [_, _, _], _ => rfl
  have b16 := F16.binds (ps := ["_law_number", "_law_divisor"]) fun _ _ _ _ _ _ us hl => match us, hl with | [_, _], _ => rfl
  have b17 := F17.binds (ps := ["_law_a", "_law_b"]) fun _ _ _ _ _ _ us hl => match us, hl with | [_, _], _ => rfl
  have b18 := F18.binds (ps := ["_law_a", "_law_b"]) fun _ _ _ _ _ _ us hl => match us, hl with | [_, _], _ => rfl
  have b19 := F19.binds (ps := ["_law_number"]) fun _ _ _ _ _ _ us hl => match us, hl with | [_], _ => rfl
  have b20 := F20.binds (ps := ["_law_normal", "_law_point"]) fun _ _ _ _ _ _ us hl => match us, hl with | [_, _], _ => rfl
  have b21 := F21.binds (ps := ["_law_shut_here", "_law_point"]) fun _ _ _ _ _ _ us hl => match us, hl with | [_, _], _ => rfl
  have b22 := F22.binds (ps := ["_law_cell_here"]) fun _ _ _ _ _ _ us hl => match us, hl with | [_], _ => rfl
  have b23 := F23.binds (ps := ["_law_script", "_law_first", "_law_count"]) fun _ _ _ _ _ _ us hl => match us, hl with | [_, _, _], _ => rfl
  have b24 := F24.binds (ps := ["_law_shuts_here", "_law_signs", "_law_multipliers"]) fun _ _ _ _ _ _ us hl => match us, hl with | [_, _, _], _ => rfl
  refine ⟨PySem.W.fnOf "law" "law" (defArgs sLaw) (defBody sLaw) (defScope sLaw) .none kV25 dc25 pm25 an25 cd25 ct25, fun s v => .of_eq rfl, fun base _ _ => ?_⟩
  have G1 : FnOk l.prog w K mg base (L2.CX l.prog w) 1 f1 _ ["number", "divisor"] (spFraction K CNought) := okFraction F1 T CT EX 
  have G2 : FnOk l.prog w K mg base CX0 2 f2 _ ["a", "b"] (spPlus K) := okPlus F2 T CT EX G1 (PySem.W.mg_of X G a1) k1 b1 vd1 bd1
  have G3 : FnOk l.prog w K mg base CX0 2 f3 _ ["a", "b"] (spTimes K) := okTimes F3 T CT EX G1 (PySem.W.mg_of X G a1) k1 b1 vd1 bd1
  have G4 : FnOk l.prog w K mg base CX0 1 f4 _ ["a"] (spNegative K) := okNegative F4 T CT EX 
  have G5 : FnOk l.prog w K mg base CX0 1 f5 _ ["a"] (spSign K) := okSign F5 T CT EX 
  have G6 : FnOk l.prog w K mg base CX0 3 f6 _ ["row"] (spTotal K) := okTotal F6 T CT EX G2 (PySem.W.mg_of X G a2) k2 b2
  have G7 : FnOk l.prog w K mg base CX0 1 f7 _ ["number"] (spSignOf K) := okSignOf F7 T CT EX 
  have G8 : FnOk l.prog w K mg base CX0 1 f8 _ ["normal", "point"] (spReachRatio K) := okReachRatio F8 T CT EX 
  have G9 : FnOk l.prog w K mg base CX0 2 f9 _ ["wall", "point"] (spSide K) := okSide F9 T CT EX G8 (PySem.W.mg_of X G a8) k8 b8 G7 (PySem.W.mg_of X G a7) k7 b7
  have G10 : FnOk l.prog w K mg base CX0 3 f10 _ ["walls", "point"] (spSides K) := okSides F10 T CT EX G9 (PySem.W.mg_of X G a9) k9 b9
  have G11 : FnOk l.prog w K mg base CX0 2 f11 _ ["wall", "to"] (spTurnedPlane K) := okTurnedPlane F11 T CT EX G4 (PySem.W.mg_of X G a4) k4 b4
  have G12 : FnOk l.prog w K mg base CX0 4 f12 _ ["walls", "signs", "multipliers"] (spIsRefuted K) := okIsRefuted F12 T CT EX G5 (PySem.W.mg_of X G a5) k5 b5 G11 (PySem.W.mg_of X G a11) k11 b11 G6 (PySem.W.mg_of X G a6) k6 b6 G3 (PySem.W.mg_of X G a3) k3 b3 G1 (PySem.W.mg_of X G a1) k1 b1 vd1 bd1
  have G13 : FnOk l.prog w K mg base CX0 5 f13 _ ["walls", "signs", "paper"] (spJudge K) := okJudge F13 T CT EX G12 (PySem.W.mg_of X G a12) k12 b12 G10 (PySem.W.mg_of X G a10) k10 b10
  have G14 : FnOk l.prog w K mg base CX0 1 f14 _ ["_law_script", "_law_k"] (spLLawCell K) := okLLawCell F14 T CT EX 
  have G15 : FnOk l.prog w K mg base CX0 1 f15 _ ["_law_cell_here", "_law_size", "_law_base"] (spLLawRow K) := okLLawRow F15 T CT EX 
  have G16 : FnOk l.prog w K mg base CX0 1 f16 _ ["_law_number", "_law_divisor"] (spLLawFraction K) := okLLawFraction F16 T CT EX 
  have G17 : FnOk l.prog w K mg base CX0 2 f17 _ ["_law_a", "_law_b"] (spLLawPlus K) := okLLawPlus F17 T CT EX G16 (PySem.W.mg_of X G a16) k16 b16
  have G18 : FnOk l.prog w K mg base CX0 2 f18 _ ["_law_a", "_law_b"] (spLLawTimes K) := okLLawTimes F18 T CT EX G16 (PySem.W.mg_of X G a16) k16 b16
  have G19 : FnOk l.prog w K mg base CX0 1 f19 _ ["_law_number"] (spLLawSign K) := okLLawSign F19 T CT EX 
  have G20 : FnOk l.prog w K mg base CX0 3 f20 _ ["_law_normal", "_law_point"] (spLLawAlong K) := okLLawAlong F20 T CT EX G17 (PySem.W.mg_of X G a17) k17 b17 G18 (PySem.W.mg_of X G a18) k18 b18
  have G21 : FnOk l.prog w K mg base CX0 4 f21 _ ["_law_shut_here", "_law_point"] (spLLawSide K) := okLLawSide F21 T CT EX G20 (PySem.W.mg_of X G a20) k20 b20 G19 (PySem.W.mg_of X G a19) k19 b19
  have G22 : FnOk l.prog w K mg base CX0 2 f22 _ ["_law_cell_here"] (spLLawShut K) := okLLawShut F22 T CT EX G15 (PySem.W.mg_of X G a15) k15 b15 G16 (PySem.W.mg_of X G a16) k16 b16
  have G23 : FnOk l.prog w K mg base CX0 3 f23 _ ["_law_script", "_law_first", "_law_count"] (spLLawShuts K) := okLLawShuts F23 T CT EX G22 (PySem.W.mg_of X G a22) k22 b22 G14 (PySem.W.mg_of X G a14) k14 b14
  have G24 : FnOk l.prog w K mg base CX0 3 f24 _ ["_law_shuts_here", "_law_signs", "_law_multipliers"] (spLLawShows K) := okLLawShows F24 T CT EX G17 (PySem.W.mg_of X G a17) k17 b17 G18 (PySem.W.mg_of X G a18) k18 b18
  exact okLaw F25 T CT EX G15 (PySem.W.mg_of X G a15) k15 b15 G23 (PySem.W.mg_of X G a23) k23 b23 G24 (PySem.W.mg_of X G a24) k24 b24 G14 (PySem.W.mg_of X G a14) k14 b14 G21 (PySem.W.mg_of X G a21) k21 b21 G13 (PySem.W.mg_of X G a13) k13 b13 G16 (PySem.W.mg_of X G a16) k16 b16
end Tp
open PySem PySem.W PyProof.Rows
set_option maxHeartbeats 0 in
theorem PySem.Challenge.cw_truepart_k83_papers_judged_holds : PySem.Challenge.rw_truepart_k83_papers_judged.Holds := by
  w_on; o_law; k_head; (case hw => w_witness2)
  k_fill
  refine L2.walk_of (l := PySem.Challenge.rw_truepart_k83_papers_judged) (n := 63) (k := 6) (x := "_law_script") (CX := fun _ => L2.CX0) (sp := fun w => Tp.spLaw _) rfl (by decide) rfl ⟨rfl, by decide, by decide⟩ (fun w h Y => PySem.W.kIn_of Y) ?F (fun _ _ a ns hl _ hS => ⟨a, ns, rfl, hS, hl, fun _ => rfl⟩) (fun _ _ _ _ _ h => h)
  case F =>
    intro w mg fa h KX G hmg
    refine' Tp.all_mk KX G hmg ?a1 ?l1 ?lT1 ?c1 ?k1 ?a2 ?l2 ?c2 ?k2 ?a3 ?l3 ?c3 ?k3 ?a4 ?l4 ?c4 ?k4 ?a5 ?l5 ?c5 ?k5 ?a6 ?l6 ?c6 ?k6 ?a7 ?l7 ?c7 ?k7 ?a8 ?l8 ?c8 ?k8 ?a9 ?l9 ?c9 ?k9 ?a10 ?l10 ?c10 ?k10 ?a11 ?l11 ?c11 ?k11 ?a12 ?l12 ?c12 ?k12 ?a13 ?l13 ?c13 ?k13 ?a14 ?l14 ?c14 ?k14 ?a15 ?l15 ?c15 ?k15 ?a16 ?l16 ?c16 ?k16 ?a17 ?l17 ?c17 ?k17 ?a18 ?l18 ?c18 ?k18 ?a19 ?l19 ?c19 ?k19 ?a20 ?l20 ?c20 ?k20 ?a21 ?l21 ?c21 ?k21 ?a22 ?l22 ?c22 ?k22 ?a23 ?l23 ?c23 ?k23 ?a24 ?l24 ?c24 ?k24 ?a25 ?l25 ?c25 ?k25 ?z1 ?z2 ?z3 ?z4 ?z5 ?z6 ?z7 ?z8 ?z9 ?u0 ?w0 ?y0 ?y1 ?y2 ?y3 ?y4 ?y5 ?y6 ?y7 ?y8 ?y9 ?y10 ?y11 ?y12 ?y13 ?y14 ?y15 ?y16 ?y17
    (case a1 => k_is)
    (case l1 => k_is)
    (case lT1 => k_is)
    (case c1 => k_is)
    (case k1 => k_is)
    (case a2 => k_is)
    (case l2 => k_is)
    (case c2 => k_is)
    (case k2 => k_is)
    (case a3 => k_is)
    (case l3 => k_is)
    (case c3 => k_is)
    (case k3 => k_is)
    (case a4 => k_is)
    (case l4 => k_is)
    (case c4 => k_is)
    (case k4 => k_is)
    (case a5 => k_is)
    (case l5 => k_is)
    (case c5 => k_is)
    (case k5 => k_is)
    (case a6 => k_is)
    (case l6 => k_is)
    (case c6 => k_is)
    (case k6 => k_is)
    (case a7 => k_is)
    (case l7 => k_is)
    (case c7 => k_is)
    (case k7 => k_is)
    (case a8 => k_is)
    (case l8 => k_is)
    (case c8 => k_is)
    (case k8 => k_is)
    (case a9 => k_is)
    (case l9 => k_is)
    (case c9 => k_is)
    (case k9 => k_is)
    (case a10 => k_is)
    (case l10 => k_is)
    (case c10 => k_is)
    (case k10 => k_is)
    (case a11 => k_is)
    (case l11 => k_is)
    (case c11 => k_is)
    (case k11 => k_is)
    (case a12 => k_is)
    (case l12 => k_is)
    (case c12 => k_is)
    (case k12 => k_is)
    (case a13 => k_is)
    (case l13 => k_is)
    (case c13 => k_is)
    (case k13 => k_is)
    (case a14 => k_is)
    (case l14 => k_is)
    (case c14 => k_is)
    (case k14 => k_is)
    (case a15 => k_is)
    (case l15 => k_is)
    (case c15 => k_is)
    (case k15 => k_is)
    (case a16 => k_is)
    (case l16 => k_is)
    (case c16 => k_is)
    (case k16 => k_is)
    (case a17 => k_is)
    (case l17 => k_is)
    (case c17 => k_is)
    (case k17 => k_is)
    (case a18 => k_is)
    (case l18 => k_is)
    (case c18 => k_is)
    (case k18 => k_is)
    (case a19 => k_is)
    (case l19 => k_is)
    (case c19 => k_is)
    (case k19 => k_is)
    (case a20 => k_is)
    (case l20 => k_is)
    (case c20 => k_is)
    (case k20 => k_is)
    (case a21 => k_is)
    (case l21 => k_is)
    (case c21 => k_is)
    (case k21 => k_is)
    (case a22 => k_is)
    (case l22 => k_is)
    (case c22 => k_is)
    (case k22 => k_is)
    (case a23 => k_is)
    (case l23 => k_is)
    (case c23 => k_is)
    (case k23 => k_is)
    (case a24 => k_is)
    (case l24 => k_is)
    (case c24 => k_is)
    (case k24 => k_is)
    (case a25 => k_is)
    (case l25 => k_is)
    (case c25 => k_is)
    (case k25 => k_is)
    (case z1 => k_is)
    (case z2 => k_is)
    (case z3 => k_is)
    (case z4 => k_is)
    (case z5 => k_is)
    (case z6 => k_is)
    (case z7 => k_is)
    (case z8 => k_is)
    (case z9 => k_is)
    (case u0 => k_is)
    (case w0 => k_is)
    (case y0 => k_is)
    (case y1 => k_is)
    (case y2 => k_exc)
    (case y3 => k_is)
    (case y4 => k_is)
    (case y5 => k_is)
    (case y6 => k_is)
    (case y7 => k_is)
    (case y8 => k_is)
    (case y9 => k_is)
    (case y10 => first | k_is | rfl)
    (case y11 => k_is)
    (case y12 => k_is)
    (case y13 => k_is)
    (case y14 => k_is)
    (case y15 => k_is)
    (case y16 => k_is)
    (case y17 => k_is)
#print axioms PySem.Challenge.cw_truepart_k83_papers_judged_holds
