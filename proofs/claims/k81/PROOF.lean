import PyProof.Rows.All
import Wide.All
import OpenK.AllK
import Wide.FinOn
import HandS.ForMost
import HandS.Codes
import HandS.Gcd
import HandS.IsInst
import HandS.Wide
import HandS.ForExc
import HandS.ExcIs
import HandS.CallSlots
import HandS.Defaults
import HandS.TupMul
import HandS.Star
import HandS.Walk
import HandS.Style
import HandS.More
import PyProof.StrOps2
import KE.KUnpackStar
import KE.GoesMore
import KE.KTurns
import PySem.Challenge.RW_truepart_k81_conflicts_of_equations
set_option Elab.async false
set_option linter.all false
set_option maxHeartbeats 8000000
set_option maxRecDepth 100000
namespace Tp
open PySem L2
def top (i : Nat) : Stmt := PySem.Challenge.pw_truepart_k81_conflicts_of_equations.main.body.getD i (.Pass ⟨0, 0, 0, 0⟩)
abbrev sFraction : Stmt := top 7
abbrev sMinus : Stmt := top 8
abbrev sTimes : Stmt := top 9
abbrev sOver : Stmt := top 10
abbrev sCleared : Stmt := top 12
abbrev sMarked : Stmt := top 13
abbrev sLeadOf : Stmt := top 14
abbrev sSettleRows : Stmt := top 15
abbrev sSettle : Stmt := top 17
abbrev sLLawIsInteger : Stmt := top 19
abbrev sLLawCell : Stmt := top 20
abbrev sLLawRow : Stmt := top 21
abbrev sLLawFraction : Stmt := top 22
abbrev sLLawPlus : Stmt := top 23
abbrev sLLawTimes : Stmt := top 24
abbrev sLLawOver : Stmt := top 29
abbrev sLLawRank : Stmt := top 30
abbrev sLLawEquations : Stmt := top 31
abbrev sLLawFirst : Stmt := top 32
abbrev sLLawTold : Stmt := top 33
abbrev sLaw : Stmt := top 34
theorem scFraction : FnScope ["number", "divisor", "shared"] ["number", "divisor"] (defScope sFraction) := ⟨rfl, rfl, rfl, by decide +kernel, rfl, by decide +kernel, by decide +kernel⟩
theorem scMinus : FnScope ["a", "b"] ["a", "b"] (defScope sMinus) := ⟨rfl, rfl, rfl, by decide +kernel, rfl, by decide +kernel, by decide +kernel⟩
theorem scTimes : FnScope ["a", "b"] ["a", "b"] (defScope sTimes) := ⟨rfl, rfl, rfl, by decide +kernel, rfl, by decide +kernel, by decide +kernel⟩
theorem scOver : FnScope ["a", "b"] ["a", "b"] (defScope sOver) := ⟨rfl, rfl, rfl, by decide +kernel, rfl, by decide +kernel, by decide +kernel⟩
theorem scCleared : FnScope ["row", "at", "base", "factor", "part", "other"] ["row", "at", "base"] (defScope sCleared) := ⟨rfl, rfl, rfl, by decide +kernel, rfl, by decide +kernel, by decide +kernel⟩
theorem scMarked : FnScope ["row", "at", "many", "k"] ["row", "at", "many"] (defScope sMarked) := ⟨rfl, rfl, rfl, by decide +kernel, rfl, by decide +kernel, by decide +kernel⟩
theorem scLeadOf : FnScope ["row", "many", "at"] ["row", "many"] (defScope sLeadOf) := ⟨rfl, rfl, rfl, by decide +kernel, rfl, by decide +kernel, by decide +kernel⟩
theorem scSettleRows : FnScope ["rows", "many", "kept", "place", "given", "row", "lead", "base", "at", "first", "marks", "part", "k", "mark"] ["rows", "many"] (defScope sSettleRows) := ⟨rfl, rfl, rfl, by decide +kernel, rfl, by decide +kernel, by decide +kernel⟩
theorem scSettle : FnScope ["rows", "many", "coefficients", "bound"] ["rows", "many"] (defScope sSettle) := ⟨rfl, rfl, rfl, by decide +kernel, rfl, by decide +kernel, by decide +kernel⟩
theorem scLLawIsInteger : FnScope ["actual"] ["actual"] (defScope sLLawIsInteger) := ⟨rfl, rfl, rfl, by decide +kernel, rfl, by decide +kernel, by decide +kernel⟩
theorem scLLawCell : FnScope ["script", "k"] ["script", "k"] (defScope sLLawCell) := ⟨rfl, rfl, rfl, by decide +kernel, rfl, by decide +kernel, by decide +kernel⟩
theorem scLLawRow : FnScope ["cell", "size", "base", "row", "number", "k", "mixed"] ["cell", "size", "base"] (defScope sLLawRow) := ⟨rfl, rfl, rfl, by decide +kernel, rfl, by decide +kernel, by decide +kernel⟩
theorem scLLawFraction : FnScope ["number", "divisor", "a", "b", "k"] ["number", "divisor"] (defScope sLLawFraction) := ⟨rfl, rfl, rfl, by decide +kernel, rfl, by decide +kernel, by decide +kernel⟩
theorem scLLawPlus : FnScope ["a", "b"] ["a", "b"] (defScope sLLawPlus) := ⟨rfl, rfl, rfl, by decide +kernel, rfl, by decide +kernel, by decide +kernel⟩
theorem scLLawTimes : FnScope ["a", "b"] ["a", "b"] (defScope sLLawTimes) := ⟨rfl, rfl, rfl, by decide +kernel, rfl, by decide +kernel, by decide +kernel⟩
theorem scLLawOver : FnScope ["a", "b"] ["a", "b"] (defScope sLLawOver) := ⟨rfl, rfl, rfl, by decide +kernel, rfl, by decide +kernel, by decide +kernel⟩
theorem scLLawRank : FnScope ["rows", "left", "found", "width", "column", "places", "row", "k", "factor", "at"] ["rows"] (defScope sLLawRank) := ⟨rfl, rfl, rfl, by decide +kernel, rfl, by decide +kernel, by decide +kernel⟩
theorem scLLawEquations : FnScope ["script", "first", "many", "count", "point", "rows", "k", "draw", "row", "other", "bound", "at", "part"] ["script", "first", "many", "count", "point"] (defScope sLLawEquations) := ⟨rfl, rfl, rfl, by decide +kernel, rfl, by decide +kernel, by decide +kernel⟩
theorem scLLawFirst : FnScope ["rows", "k", "ahead", "row"] ["rows"] (defScope sLLawFirst) := ⟨rfl, rfl, rfl, by decide +kernel, rfl, by decide +kernel, by decide +kernel⟩
theorem scLLawTold : FnScope ["rows", "found", "taken", "k", "at", "ahead", "row"] ["rows", "found"] (defScope sLLawTold) := ⟨rfl, rfl, rfl, by decide +kernel, rfl, by decide +kernel, by decide +kernel⟩
theorem scLaw : FnScope ["script", "shape", "many", "point", "rows", "moves", "k", "state", "found", "first", "draw", "row"] ["script"] (defScope sLaw) := ⟨rfl, rfl, rfl, by decide +kernel, rfl, by decide +kernel, by decide +kernel⟩
structure Txt (mg : Str → Option Value) : Prop where
  abs : mg "abs" = none
  any : mg "any" = none
  bool : mg "bool" = none
  enumerate : mg "enumerate" = none
  int : mg "int" = none
  isinstance : mg "isinstance" = none
  len : mg "len" = none
  list : mg "list" = none
  range : mg "range" = none
  zip : mg "zip" = none
  gcd : mg "gcd" = some (.builtin "math.gcd")
structure Cons (K : PySem.W.Frag) (mg : Str → Option Value) (aZERO : Addr) (aONE : Addr) : Prop where
  gZERO : mg "ZERO" = some (.ref aZERO)
  tZERO : ∀ H, SqT K H aZERO ([0, 1].map V.int)
  gONE : mg "ONE" = some (.ref aONE)
  tONE : ∀ H, SqT K H aONE ([1, 1].map V.int)
section
variable {K : PySem.W.Frag} {C D : Addr} {c : Value} {r : Bool}
theorem exm_two (b : PySem.W.subIn K (.ref D) (.type "BaseException") = some true) (i : PySem.W.isClsIn K D = true) (t : PySem.W.typeIn K (.ref D) = some (.type "type")) (s : PySem.W.subIn K c (.ref D) = some r) : PySem.W.exmOne K c (.ref D) = some r := by
  have e1 : (PySem.W.subIn K (.ref D) (.type "BaseException") == some true) = true := by rw [b]; rfl
  have i' : (PySem.W.clsIn K D).isSome = true := i
  have e2 : ((PySem.W.clsIn K D).isSome && PySem.W.typeIn K (.ref D) == some (.type "type")) = true := by rw [i', t]; rfl
  unfold PySem.W.exmOne PySem.W.kitCls
  rw [if_pos e1]
  show (if _ then _ else _) = _
  rw [if_pos e2]
  exact s
theorem kit_self : PySem.W.kitOne K (.ref C) (.ref C) = some true := by
  unfold PySem.W.kitOne
  exact if_pos (beq_iff_eq.mpr rfl)
theorem kit_not (s0 : PySem.W.subIn K (.ref C) (.ref C) = some true) (i : PySem.W.isClsIn K D = true) (t : PySem.W.typeIn K (.ref D) = some (.type "type")) (s : PySem.W.subIn K (.ref C) (.ref D) = some false) : PySem.W.kitOne K (.ref C) (.ref D) = some false := by
  have i' : (PySem.W.clsIn K D).isSome = true := i
  have e2 : ((PySem.W.clsIn K D).isSome && PySem.W.typeIn K (.ref D) == some (.type "type")) = true := by rw [i', t]; rfl
  unfold PySem.W.kitOne PySem.W.kitCls
  rw [if_neg (fun z => ?_)]
  · show (if _ then _ else _) = _
    rw [if_pos e2]
    exact s
  · have e := Value.ref.inj (beq_iff_eq.mp z)
    subst e
    rw [s0] at s
    cases s
theorem kit_kind {T : String} (h : PySem.W.kitMeta T = true) (s : PySem.W.subIn K (.ref C) (.type T) = some r) : PySem.W.kitOne K (.ref C) (.type T) = some r := by
  unfold PySem.W.kitOne PySem.W.kitCls
  rw [if_neg (fun z => by have e := beq_iff_eq.mp z; cases e)]
  show (if _ then _ else _) = _
  rw [if_pos h]
  exact s
end

structure Exns (K : PySem.W.Frag) (mg : Str → Option Value) (CPartError CNought : Addr) : Prop where
  gPartError : mg "PartError" = some (.ref CPartError)
  gNought : mg "Nought" = some (.ref CNought)
  xNought : PySem.W.excIn K CNought [.type "ValueError", .type "Exception", .type "BaseException", .type "object"] "ValueError.__new__" = true
  kNought : PySem.W.keepIn K (.ref CNought) = true
  bNought : PySem.W.subIn K (.ref CNought) (.type "BaseException") = some true
  tNought : PySem.W.typeIn K (.ref CNought) = some (.type "type")
  cb : PySem.W.subIn K (.ref CPartError) (.type "BaseException") = some true
  ci : PySem.W.isClsIn K CPartError = true
  ct : PySem.W.typeIn K (.ref CPartError) = some (.type "type")
  cs : PySem.W.subIn K (.ref CNought) (.ref CPartError) = some true
  ss : PySem.W.subIn K (.ref CNought) (.ref CNought) = some true
  i1 : PySem.W.findIn K (.ref CNought) "__getattribute__" = some (some (.builtin "BaseException.__getattribute__"))
  i2 : PySem.W.findIn K (.ref CNought) "__getattr__" = some none
  i3 : PySem.W.hasDictIn K CNought = true
  i4 : PySem.W.findIn K (.ref CNought) "__class__" = some (some (.builtin "object.__class__"))
  i5 : PySem.W.specialIn K (.builtin "object.__class__") "__get__" = some (some (.builtin "getset_descriptor.__get__"))
  i6 : PySem.W.takesIn K (.builtin "object.__class__") = some true
  i7 : PySem.W.mroIn K CNought (.type "object") = some true
theorem Exns.iNought {K : PySem.W.Frag} {mg : Str → Option Value} {CPartError CNought : Addr} (EX : Exns K mg CPartError CNought) : ExcC K CNought := ⟨EX.i1, EX.i2, EX.bNought, EX.i3, EX.i4, EX.i5, EX.i6, EX.i7⟩
theorem Exns.eNought {K : PySem.W.Frag} {mg : Str → Option Value} {CPartError CNought : Addr} (EX : Exns K mg CPartError CNought) : PySem.W.exmOne K (.ref CNought) (.ref CPartError) = some true := exm_two EX.cb EX.ci EX.ct EX.cs
theorem Exns.nNought {K : PySem.W.Frag} {mg : Str → Option Value} {CPartError CNought : Addr} (EX : Exns K mg CPartError CNought) : PySem.W.kitOne K (.ref CNought) (.ref CNought) = some true := kit_self
local macro_rules | `(tactic| walk_at "rd") => `(tactic| repeat (first | refine ⟨_, rfl, ?_⟩ | refine ⟨rfl, ?_⟩ | refine ⟨_, _, rfl, rfl, ?_⟩ | refine Or.inl ⟨_, rfl, ?_⟩ | refine ⟨(by show (0 : Int) < _; decide), ?_⟩ | refine ⟨⟨by decide, by decide⟩, ?_⟩ | refine ⟨Or.inr ⟨by decide, by decide⟩, ?_⟩ | refine ⟨Or.inl ⟨by decide, by decide⟩, ?_⟩ | refine ⟨⟨by decide, by decide, by decide⟩, ?_⟩))
abbrev zs (l : List Int) : List V := l.map V.int
theorem same_upd {H : Hp} {p : Addr} {o : HO} (h : H p = none) : Same H (upd H p o) := fun b x e => by
  rw [upd_ne (ne_of_none e h)]
  exact e
theorem same_tup {K : PySem.W.Frag} {H H' : Hp} {a : Addr} {xs : List V} (e : Same H H') (h : SqT K H a xs) : SqT K H' a xs := by
  rcases h with (h | ⟨o, h⟩) | h
  · exact .inl (.inl (e _ _ h))
  · exact .inl (.inr ⟨o, e _ _ h⟩)
  · exact .inr h
theorem zs_get {l : List Int} {i : Nat} {v : V} (h : (zs l)[i]? = some v) : ∃ z, v = .int z ∧ l[i]? = some z := by
  rw [show zs l = l.map V.int from rfl, List.getElem?_map] at h
  cases e : l[i]? with
  | none =>
    rw [e] at h
    cases h
  | some z =>
    rw [e] at h
    exact ⟨z, (Option.some.inj h).symm, rfl⟩
theorem zs_snoc {l : List Int} {i : Nat} {z : Int} (f : Int → Int) (h : l[i]? = some z) : zs ((l.map f).take i) ++ [V.int (f z)] = zs ((l.map f).take (i + 1)) := by
  show ((l.map f).take i).map V.int ++ [V.int (f z)] = ((l.map f).take (i + 1)).map V.int
  rw [List.take_add_one, List.getElem?_map, h, List.map_append]
  rfl
theorem zs_len {l : List Int} (n : Nat) (h : l.length ≤ 1000) : (zs (l.take n)).length < sizeLine := by
  show ((l.take n).map V.int).length < sizeLine
  rw [List.length_map, List.length_take]
  exact small1000 (by omega)
theorem ne_of_bang {n m : Int} (h : (!decide (V.int n = V.int m)) = true) : n ≠ m := fun e => by
  rw [e, decide_eq_true rfl] at h
  cases h
theorem eq_of_nobang {n m : Int} (h : ¬ (!decide (V.int n = V.int m)) = true) : n = m := by
  by_cases e : n = m
  · exact e
  · exact absurd (by rw [decide_eq_false (fun z => e (V.int.inj z))]; rfl) h
theorem eq_of_dec {n m : Int} (h : decide (V.int n = V.int m) = true) : n = m := V.int.inj (of_decide_eq_true h)
theorem ne_of_nodec {n m : Int} (h : ¬ decide (V.int n = V.int m) = true) : n ≠ m := fun e => h (decide_eq_true (by rw [e]))

/-! Euclid by turns. -/
/-- one turn of the walk (a, b) -> (b, a % b), of naturals -/
theorem gcd_turn (a b : Nat) : Nat.gcd b (a % b) = Nat.gcd a b := by
  rw [Nat.gcd_comm b, ← Nat.gcd_rec, Nat.gcd_comm]
theorem prod_turn {a b : Nat} (h : b ≤ a) (hb : 0 < b) : 2 * (b * (a % b)) ≤ a * b := by
  have h1 : a % b < b := Nat.mod_lt _ hb
  have h2 : a = b * (a / b) + a % b := (Nat.div_add_mod a b).symm
  have h3 : 1 ≤ a / b := (Nat.one_le_div_iff hb).mpr h
  have h4 : b * 1 ≤ b * (a / b) := Nat.mul_le_mul_left b h3
  have h5 : 2 * (a % b) ≤ a := by omega
  calc 2 * (b * (a % b)) = b * (2 * (a % b)) := by rw [Nat.mul_left_comm]
    _ ≤ b * a := Nat.mul_le_mul_left b h5
    _ = a * b := Nat.mul_comm _ _
/-- what holds behind i turns from (a0, b0) -/
structure Eu (a0 b0 i a b : Nat) : Prop where
  g : Nat.gcd a b = Nat.gcd a0 b0
  p : a * b * 2 ^ i ≤ 2 * (a0 * b0)
  o : i = 0 ∨ b ≤ a
  z : i = 0 → a = a0 ∧ b = b0
theorem Eu.start (a b : Nat) : Eu a b 0 a b := ⟨rfl, by rw [Nat.pow_zero]; omega, .inl rfl, fun _ => ⟨rfl, rfl⟩⟩
theorem Eu.turn {a0 b0 i a b : Nat} (e : Eu a0 b0 i a b) (hb : 0 < b) : Eu a0 b0 (i + 1) b (a % b) := by
  refine ⟨(gcd_turn a b).trans e.g, ?_, .inr (Nat.le_of_lt (Nat.mod_lt _ hb)), fun z => by omega⟩
  rcases e.o with hi | hle
  · obtain ⟨rfl, rfl⟩ := e.z hi
    subst hi
    have h1 : b * (a % b) ≤ b * a := Nat.mul_le_mul_left b (Nat.mod_le a b)
    have h2 : b * a = a * b := Nat.mul_comm _ _
    rw [Nat.zero_add, Nat.pow_one]
    omega
  · have h1 := prod_turn hle hb
    have h2 := e.p
    have h3 : b * (a % b) * 2 ^ (i + 1) = 2 * (b * (a % b)) * 2 ^ i := by
      rw [Nat.pow_succ]
      rw [Nat.mul_comm (2 ^ i) 2, ← Nat.mul_assoc, Nat.mul_comm (b * (a % b)) 2]
    rw [h3]
    exact Nat.le_trans (Nat.mul_le_mul_right _ h1) h2
/-- too many turns: nothing is left -/
theorem Eu.stop {a0 b0 i a b : Nat} (e : Eu a0 b0 i a b) (hi : i ≠ 0) (h : 2 * (a0 * b0) < 2 ^ i) : b = 0 := by
  rcases Nat.eq_zero_or_pos b with h0 | h0
  · exact h0
  · have hle : b ≤ a := by
      rcases e.o with h1 | h1
      · exact absurd h1 hi
      · exact h1
    have h1 : 1 ≤ a * b := Nat.mul_pos (by omega) h0
    have h2 : 1 * 2 ^ i ≤ a * b * 2 ^ i := Nat.mul_le_mul_right _ h1
    have h3 := e.p
    omega
theorem Eu.end {a0 b0 i a : Nat} (e : Eu a0 b0 i a 0) : a = Nat.gcd a0 b0 := by
  rw [← e.g, Nat.gcd_zero_right]
/-- the greatest divisor of a row, as it is reckoned from the left -/
def gl (l : List Int) : Nat := l.foldl (fun g v => Nat.gcd v.natAbs g) 0
theorem gl_snoc (l : List Int) (v : Int) : gl (l ++ [v]) = Nat.gcd v.natAbs (gl l) := by
  unfold gl
  rw [List.foldl_append]
  rfl
theorem gl_lt {l : List Int} {v : Int} (h : gl l < 2 ^ 100) (hv : v.natAbs < 2 ^ 100) : gl (l ++ [v]) < 2 ^ 100 := by
  rw [gl_snoc]
  rcases Nat.eq_zero_or_pos v.natAbs with e | e
  · rw [e, Nat.gcd_zero_left]
    exact h
  · exact Nat.lt_of_le_of_lt (Nat.le_of_dvd e (Nat.gcd_dvd_left _ _)) hv
theorem take_snoc {l : List Int} {i : Nat} {z : Int} (h : l[i]? = some z) : l.take (i + 1) = l.take i ++ [z] := by
  rw [List.take_add_one, h]
  rfl
theorem eu_far {a b n : Nat} (hn : 201 ≤ n) (ha : a < 2 ^ 100) (hb : b < 2 ^ 100) : 2 * (a * b) < 2 ^ n := by
  have h1 : a * b < 2 ^ 100 * 2 ^ 100 := Nat.mul_lt_mul'' ha hb
  rw [← Nat.pow_add] at h1
  have h2 : (2 : Nat) * 2 ^ (100 + 100) = 2 ^ 201 := by decide +kernel
  have h3 : (2 : Nat) ^ 201 ≤ 2 ^ n := Nat.pow_le_pow_right (by decide) hn
  omega
theorem fmod_nat (a b : Nat) : (a : Int).fmod (b : Int) = ((a % b : Nat) : Int) := by
  rw [Int.fmod_eq_emod_of_nonneg _ (Int.natCast_nonneg _)]
  exact (Int.natCast_emod a b).symm

/-- // by any divisor other than 0, below 2 ^ 9000 in size -/
def CDivX (_ j : Int) : Prop := j ≠ 0 ∧ j.natAbs.log2 < 9000
theorem op_fdivX {X : Cx} : OpR X (binaryOp .FloorDiv) (rI CDivX fun i j => .int (i.fdiv j)) :=
  opI fun _ _ _ _ _ _ _ hc q =>
    PyProof.Rows.floordiv_int hc.1 q (.inl (PyProof.noPylong_of_log2 hc.2))
theorem wide_divx {i j : Int} {b : Nat} (h : j ≠ 0) (hb : j.natAbs < 2 ^ b) (h0 : 0 < b) (h9 : b ≤ 9000) : CDivX i j :=
  ⟨h, Nat.lt_of_lt_of_le (PySem.Flt.log2_lt_of h0 hb) h9⟩
/-- n noughts -/
def nou (n : Nat) : Str := ⟨(List.replicate n (Str.ofString "0").cps).foldl (· ++ ·) #[]⟩
theorem nou_len {n : Nat} (h : n ≤ 100) : (nou n).length ≤ sizeLine := by
  have : ∀ n : _root_.Fin 101, (nou n.val).length ≤ 100 := by decide +kernel
  have h1 := this ⟨n, by omega⟩
  rw [PySem.sizeLine_eq]
  exact Nat.le_trans h1 (by decide)
theorem op_nou {X : Cx} : OpR X (binaryOp .Mult) (fun x y H Q => ∃ n : Nat, x = .str "0" ∧ y = .int (n : Int) ∧ 1 ≤ n ∧ n ≤ 100 ∧ Q (.str (nou n)) H) := by
  intro pins s σ H x y v u Q I rx ry h
  obtain ⟨n, rfl, rfl, h1, h2, q⟩ := h
  obtain ⟨t, rfl⟩ := rx
  obtain ⟨t', rfl⟩ := ry
  have e1 : ¬ ((n : Int) < 1) := by omega
  have el : (Str.ofString "0").length = 1 := by decide +kernel
  refine PySem.P.mul_str ?_ ?_ ?_ ?_
  · rw [decide_eq_false (by omega), decide_eq_false (by omega)]
    rfl
  · intro _ _
    rw [el]
    have : (2 ^ 63 - 1 : Int) / n ≥ 1 := by
      have : (1 : Int) * n ≤ 2 ^ 63 - 1 := by omega
      exact (Int.le_ediv_iff_mul_le (by omega)).mpr this
    omega
  · intro _ _
    rw [el]
    unfold PySem.Builtin.Str.tooLong
    rw [PySem.sizeLine_eq]
    exact decide_eq_false (by omega)
  · rw [if_neg e1]
    by_cases hn : n = 1
    · subst hn
      have e2 : nou 1 = Str.ofString "0" := by decide +kernel
      rw [e2] at q
      exact ⟨.str (Str.ofString "0"), H, I, ⟨t, rfl⟩, q⟩
    · have : ((n : Int) == 1 || (Str.ofString "0").length == 0) = false := by
        rw [el]
        simp
        omega
      rw [this, if_neg Bool.false_ne_true]
      exact ⟨nou_len h2, .str (nou n), H, I.tok _, ⟨_, rfl⟩, q⟩
theorem suite_of {X : Cx} {a C : Addr} {oe : Obj} {pn : List (Addr × Obj)} {cls : Value} {d : Option Addr} {sts : List Stmt} {ts : TS} (hz : Zc cls d oe)
    (h : Zc (.ref C) none oe → PSs (X.suite a ((a, oe) :: pn)) sts ts) : PSs (X.suite a ((a, oe) :: pn)) sts (fun D σ H => (cls = .ref C ∧ d = none) ∧ ts D σ H) :=
  ⟨fun pins s σ H D I hq => by
    obtain ⟨⟨rfl, rfl⟩, q⟩ := hq
    exact (h hz).run pins s σ H D I q⟩
theorem ten_text : ∀ n : Nat, 1 ≤ n → n ≤ 20 → PySem.intText? (Str.ofString "1" ++ nou n) = some ((10 : Int) ^ n) ∧ (Str.ofString "1" ++ nou n).length ≤ 640 ∧ (nou n).length ≤ 100 := by
  intro n h1 h2
  have : ∀ n : _root_.Fin 21, 1 ≤ n.val → PySem.intText? (Str.ofString "1" ++ nou n.val) = some ((10 : Int) ^ n.val) ∧ (Str.ofString "1" ++ nou n.val).length ≤ 640 ∧ (nou n.val).length ≤ 100 := by decide +kernel
  exact this ⟨n, by omega⟩ h1

/-- the divisor by which fraction divides both -/
def sg (n d : Int) : Int := if d < 0 then -((Nat.gcd n.natAbs d.natAbs : Nat) : Int) else ((Nat.gcd n.natAbs d.natAbs : Nat) : Int)
theorem sg_abs (n d : Int) : (sg n d).natAbs = Nat.gcd n.natAbs d.natAbs := by
  unfold sg
  split
  · rw [Int.natAbs_neg, Int.natAbs_natCast]
  · rw [Int.natAbs_natCast]
theorem sg_ne {n d : Int} (h : d ≠ 0) : sg n d ≠ 0 := by
  intro e
  have h1 := sg_abs n d
  rw [e] at h1
  have h2 : Nat.gcd n.natAbs d.natAbs = 0 := h1.symm
  have h3 := Nat.gcd_eq_zero_iff.mp h2
  omega
theorem sg_dn (n d : Int) : sg n d ∣ n := by
  have h : ((Nat.gcd n.natAbs d.natAbs : Nat) : Int) ∣ n := Int.dvd_natAbs.mp (Int.natCast_dvd_natCast.mpr (Nat.gcd_dvd_left _ _))
  unfold sg
  split
  · exact Int.neg_dvd.mpr h
  · exact h
theorem sg_dd (n d : Int) : sg n d ∣ d := by
  have h : ((Nat.gcd n.natAbs d.natAbs : Nat) : Int) ∣ d := Int.dvd_natAbs.mp (Int.natCast_dvd_natCast.mpr (Nat.gcd_dvd_right _ _))
  unfold sg
  split
  · exact Int.neg_dvd.mpr h
  · exact h
theorem fdiv_back {d v : Int} (h : d ∣ v) : v.fdiv d * d = v := Int.fdiv_mul_cancel h
theorem part_le {f d v : Int} (e : f * d = v) (hd : d ≠ 0) : f.natAbs ≤ v.natAbs := by
  rw [← e, Int.natAbs_mul]
  exact Nat.le_mul_of_pos_right _ (by omega)
/-- what fraction yields -/
structure Fr (n d p q : Int) : Prop where
  hp : p * sg n d = n
  hq : q * sg n d = d
  q0 : 0 < q
  one : Nat.gcd p.natAbs q.natAbs = 1
theorem fr_of {n d : Int} (h : d ≠ 0) : Fr n d (n.fdiv (sg n d)) (d.fdiv (sg n d)) := by
  have e1 := fdiv_back (sg_dn n d)
  have e2 := fdiv_back (sg_dd n d)
  have hs := sg_ne (n := n) h
  refine ⟨e1, e2, ?_, ?_⟩
  · rcases Int.lt_or_le 0 (d.fdiv (sg n d)) with h1 | h1
    · exact h1
    · exfalso
      have hg : 0 < Nat.gcd n.natAbs d.natAbs := Nat.gcd_pos_of_pos_right _ (by omega)
      rcases Int.lt_or_le d 0 with h2 | h2
      · have h3 : sg n d < 0 := by
          unfold sg
          rw [if_pos h2]
          omega
        have h4 := Int.mul_nonneg_of_nonpos_of_nonpos h1 (Int.le_of_lt h3)
        omega
      · have h3 : 0 < sg n d := by
          unfold sg
          rw [if_neg (by omega)]
          omega
        have h4 := Int.mul_nonpos_of_nonpos_of_nonneg h1 (Int.le_of_lt h3)
        omega
  · have e3 : Nat.gcd n.natAbs d.natAbs = Nat.gcd (n.fdiv (sg n d)).natAbs (d.fdiv (sg n d)).natAbs * (sg n d).natAbs := by
      rw [← Nat.gcd_mul_right, ← Int.natAbs_mul, ← Int.natAbs_mul, e1, e2]
    rw [sg_abs] at e3
    have hg : 0 < Nat.gcd n.natAbs d.natAbs := Nat.gcd_pos_of_pos_right _ (by omega)
    exact (Nat.eq_of_mul_eq_mul_right hg (by rw [Nat.one_mul]; exact e3)).symm
theorem Fr.cross {n d p q : Int} (f : Fr n d p q) : p * d = n * q := by
  have h1 := f.hp
  have h2 := f.hq
  calc p * d = p * (q * sg n d) := by rw [h2]
    _ = (p * sg n d) * q := by rw [Int.mul_comm q, Int.mul_assoc]
    _ = n * q := by rw [h1]
theorem sg_one (n : Int) : sg n 1 = 1 := by
  unfold sg
  rw [if_neg (by decide)]
  show ((Nat.gcd n.natAbs 1 : Nat) : Int) = 1
  rw [Nat.gcd_one_right]
  rfl
theorem rd_one (n : Int) : [n.fdiv (sg n 1), (1 : Int).fdiv (sg n 1)] = [n, 1] := by rw [sg_one, Int.fdiv_one, Int.fdiv_one]

/-- in lowest terms -/
def rd2 (n d : Int) : List Int := [n.fdiv (sg n d), d.fdiv (sg n d)]
theorem low_uniq {p q r s : Int} (h1 : Nat.gcd p.natAbs q.natAbs = 1) (h2 : Nat.gcd r.natAbs s.natAbs = 1) (hq : 0 < q) (hs : 0 < s) (h : p * s = r * q) : p = r ∧ q = s := by
  have hn : p.natAbs * s.natAbs = r.natAbs * q.natAbs := by
    rw [← Int.natAbs_mul, ← Int.natAbs_mul, h]
  have d1 : q.natAbs ∣ s.natAbs := by
    have h3 : q.natAbs ∣ p.natAbs * s.natAbs := ⟨r.natAbs, by rw [hn, Nat.mul_comm]⟩
    exact Nat.Coprime.dvd_of_dvd_mul_left (show Nat.Coprime q.natAbs p.natAbs from (Nat.gcd_comm _ _).trans h1) h3
  have d2 : s.natAbs ∣ q.natAbs := by
    have h3 : s.natAbs ∣ r.natAbs * q.natAbs := ⟨p.natAbs, by rw [← hn, Nat.mul_comm]⟩
    exact Nat.Coprime.dvd_of_dvd_mul_left (show Nat.Coprime s.natAbs r.natAbs from (Nat.gcd_comm _ _).trans h2) h3
  have e : q.natAbs = s.natAbs := Nat.dvd_antisymm d1 d2
  have e2 : q = s := by omega
  subst e2
  exact ⟨Int.eq_of_mul_eq_mul_right (by omega) h, rfl⟩
theorem rd2_eq {n d n' d' : Int} (hd : 0 < d) (hd' : 0 < d') (h : n * d' = n' * d) : rd2 n d = rd2 n' d' := by
  have f := fr_of (n := n) (show d ≠ 0 by omega)
  have f' := fr_of (n := n') (show d' ≠ 0 by omega)
  have c1 := f.cross
  have c2 := f'.cross
  unfold rd2
  generalize n.fdiv (sg n d) = p at f c1
  generalize d.fdiv (sg n d) = q at f c1
  generalize n'.fdiv (sg n' d') = r at f' c2
  generalize d'.fdiv (sg n' d') = s at f' c2
  have e : p * s = r * q := by
    have h1 : (p * s) * (d * d') = (r * q) * (d * d') := by
      calc (p * s) * (d * d') = (p * d) * (s * d') := by
              rw [Int.mul_assoc, Int.mul_assoc, Int.mul_left_comm s d d']
        _ = (n * q) * (s * d') := by rw [c1]
        _ = (n * d') * (q * s) := by
              rw [Int.mul_assoc, Int.mul_assoc, Int.mul_comm s d', Int.mul_left_comm q d' s]
        _ = (n' * d) * (q * s) := by rw [h]
        _ = (n' * s) * (d * q) := by
              rw [Int.mul_assoc, Int.mul_assoc, Int.mul_comm q s, Int.mul_left_comm d s q]
        _ = (r * d') * (d * q) := by rw [c2]
        _ = (r * q) * (d * d') := by
              rw [Int.mul_assoc, Int.mul_assoc, Int.mul_comm d q, Int.mul_left_comm d' q d, Int.mul_comm d' d]
    exact Int.eq_of_mul_eq_mul_right (Int.mul_ne_zero (by omega) (by omega)) h1
  have u := low_uniq f.one f'.one f.q0 f'.q0 e
  rw [u.1, u.2]
theorem sg_zero_one : sg 0 1 = 1 := sg_one 0
theorem rd2_zero : rd2 0 1 = [0, 1] := by
  unfold rd2
  rw [sg_zero_one, Int.fdiv_one, Int.fdiv_one]
/-- the digits of a number are not too few -/
theorem lt_digits (n : Nat) : n < 2 ^ (4 * (toString (n : Int)).length + 4) := by
  have e : toString (n : Int) = Nat.repr n := rfl
  rw [e]
  have h : n < 10 ^ ((Nat.repr n).length + 1) := (Nat.length_repr_le_iff (Nat.succ_pos _)).mp (Nat.le_succ _)
  refine Nat.lt_of_lt_of_le h ?_
  have h2 : (10 : Nat) ^ ((Nat.repr n).length + 1) ≤ 16 ^ ((Nat.repr n).length + 1) := Nat.pow_le_pow_left (by decide) _
  have h3 : (16 : Nat) ^ ((Nat.repr n).length + 1) = 2 ^ (4 * (Nat.repr n).length + 4) := by
    rw [show (16 : Nat) = 2 ^ 4 from rfl, ← Nat.pow_mul]
    rfl
  omega
theorem eu_digits {a b t : Nat} (h : t = 4 * (toString (a : Int)).length + 4 * (toString (b : Int)).length + 60) : 2 * (a * b) < 2 ^ t := by
  subst h
  have h1 := lt_digits a
  have h2 := lt_digits b
  have h3 : a * b < 2 ^ (4 * (toString (a : Int)).length + 4) * 2 ^ (4 * (toString (b : Int)).length + 4) := Nat.mul_lt_mul'' h1 h2
  rw [← Nat.pow_add] at h3
  have h4 : 2 * (a * b) < 2 * 2 ^ (4 * (toString (a : Int)).length + 4 + (4 * (toString (b : Int)).length + 4)) := by omega
  rw [← Nat.pow_succ'] at h4
  exact Nat.lt_of_lt_of_le h4 (Nat.pow_le_pow_right (by decide) (by omega))
theorem args2 {x y : Int} (hx : 0 ≤ x) (hy : 0 ≤ y) : [V.int x, V.int y] ++ [] = [V.int ((x.natAbs : Nat) : Int), V.int ((y.natAbs : Nat) : Int)] := by
  have e1 : ((x.natAbs : Nat) : Int) = x := by omega
  have e2 : ((y.natAbs : Nat) : Int) = y := by omega
  rw [e1, e2]
  rfl
theorem mod_abs (x : Int) {b : Int} (h : 0 < b) : (x % b).natAbs ≤ b.natAbs := by
  have h1 := Int.emod_nonneg x (show b ≠ 0 by omega)
  have h2 := Int.emod_lt_of_pos x h
  omega
theorem mul_lt_abs {a b : Int} {A B : Nat} (ha : a.natAbs ≤ A) (hb : b.natAbs ≤ B) : (a * b).natAbs ≤ A * B := by
  rw [Int.natAbs_mul]
  exact Nat.mul_le_mul ha hb
def pd2 (x y : Int) : PyData := .tuple [.int x, .int y]
theorem dp2 {K : PySem.W.Frag} {H : Hp} {u : Addr} {x y : Int} (h : SqT K H u (zs [x, y])) : Dp K H (.ref u) (pd2 x y) :=
  .tup h (.cons (.int x) (.cons (.int y) .nil))
theorem eqv2 (x y : Int) : PyData.eqv (pd2 x y) (pd2 x y) = true := by
  unfold pd2
  simp [PyData.eqv, PyData.eqvAll]

def dv (x y z : Int) : Int := let g : Int := (Nat.gcd (Nat.gcd x.natAbs y.natAbs) z.natAbs : Nat)
  if HT.lexLt [x, y, z] [0, 0, 0] = true then -g else g
def g3 (x y z : Int) : Nat := Nat.gcd (Nat.gcd x.natAbs y.natAbs) z.natAbs
/-- the first one that is not 0 is below 0 -/
def dn (x y z : Int) : Bool := decide (x < 0) || (decide (x = 0) && (decide (y < 0) || (decide (y = 0) && decide (z < 0))))
theorem lex_dn (x y z : Int) : HT.lexLt [x, y, z] [0, 0, 0] = dn x y z := by
  rw [HT.lexLt_cons, HT.lexLt_cons, HT.lexLt_cons, HT.lexLt_nil_nil]
  unfold dn
  by_cases hx : x = 0
  · subst hx
    by_cases hy : y = 0
    · subst hy
      by_cases hz : z = 0
      · subst hz; decide
      · simp [hz]
    · simp [hy]
  · simp [hx]
theorem dv_eq (x y z : Int) : dv x y z = if dn x y z = true then -(g3 x y z : Int) else (g3 x y z : Int) := by
  unfold dv g3
  rw [lex_dn]
theorem dv_abs (x y z : Int) : (dv x y z).natAbs = g3 x y z := by
  rw [dv_eq]
  split
  · rw [Int.natAbs_neg, Int.natAbs_natCast]
  · rw [Int.natAbs_natCast]
theorem g3_pos {x y z : Int} (h : ¬ (x = 0 ∧ y = 0 ∧ z = 0)) : 0 < g3 x y z := by
  rcases Nat.eq_zero_or_pos (g3 x y z) with e | e
  · exfalso
    have h1 := Nat.gcd_eq_zero_iff.mp e
    have h2 := Nat.gcd_eq_zero_iff.mp h1.1
    omega
  · exact e
theorem dv_ne {x y z : Int} (h : ¬ (x = 0 ∧ y = 0 ∧ z = 0)) : dv x y z ≠ 0 := by
  intro e
  have h1 := dv_abs x y z
  have h2 := g3_pos h
  rw [e] at h1
  have : (0 : Int).natAbs = 0 := rfl
  omega
theorem g3_dx (x y z : Int) : (g3 x y z : Int) ∣ x := by
  refine Int.dvd_natAbs.mp (Int.natCast_dvd_natCast.mpr ?_)
  exact Nat.dvd_trans (Nat.gcd_dvd_left _ _) (Nat.gcd_dvd_left _ _)
theorem g3_dy (x y z : Int) : (g3 x y z : Int) ∣ y := by
  refine Int.dvd_natAbs.mp (Int.natCast_dvd_natCast.mpr ?_)
  exact Nat.dvd_trans (Nat.gcd_dvd_left _ _) (Nat.gcd_dvd_right _ _)
theorem g3_dz (x y z : Int) : (g3 x y z : Int) ∣ z := by
  refine Int.dvd_natAbs.mp (Int.natCast_dvd_natCast.mpr ?_)
  exact Nat.gcd_dvd_right _ _
theorem dv_dvd {x y z v : Int} (h : (g3 x y z : Int) ∣ v) : dv x y z ∣ v := by
  rw [dv_eq]
  split
  · exact Int.neg_dvd.mpr h
  · exact h
theorem dv_dx (x y z : Int) : dv x y z ∣ x := dv_dvd (g3_dx x y z)
theorem dv_dy (x y z : Int) : dv x y z ∣ y := dv_dvd (g3_dy x y z)
theorem dv_dz (x y z : Int) : dv x y z ∣ z := dv_dvd (g3_dz x y z)
theorem g3_le {x y z : Int} {n : Nat} (h : ¬ (x = 0 ∧ y = 0 ∧ z = 0)) (hx : x.natAbs ≤ n) (hy : y.natAbs ≤ n) (hz : z.natAbs ≤ n) : g3 x y z ≤ n := by
  by_cases h1 : x = 0
  · by_cases h2 : y = 0
    · have h3 : z ≠ 0 := fun e => h ⟨h1, h2, e⟩
      exact Nat.le_trans (Nat.le_of_dvd (by omega) (Nat.gcd_dvd_right _ _)) hz
    · exact Nat.le_trans (Nat.le_of_dvd (by omega) (Nat.dvd_trans (Nat.gcd_dvd_left _ _) (Nat.gcd_dvd_right _ _))) hy
  · exact Nat.le_trans (Nat.le_of_dvd (by omega) (Nat.dvd_trans (Nat.gcd_dvd_left _ _) (Nat.gcd_dvd_left _ _))) hx
theorem g3_mul (x y z t : Int) : g3 (x * t) (y * t) (z * t) = g3 x y z * t.natAbs := by
  unfold g3
  rw [Int.natAbs_mul, Int.natAbs_mul, Int.natAbs_mul, Nat.gcd_mul_right, Nat.gcd_mul_right]
/-- the parts have no divisor left -/
theorem g3_one {x y z a b c : Int} (h : ¬ (x = 0 ∧ y = 0 ∧ z = 0)) (ha : a * dv x y z = x) (hb : b * dv x y z = y) (hc : c * dv x y z = z) : g3 a b c = 1 := by
  have h1 : g3 x y z = g3 a b c * (dv x y z).natAbs := by
    have := g3_mul a b c (dv x y z)
    rw [ha, hb, hc] at this
    exact this
  rw [dv_abs] at h1
  have h2 := g3_pos h
  exact (Nat.eq_of_mul_eq_mul_right h2 (by rw [Nat.one_mul]; exact h1)).symm
theorem neg_mul_iff {v t : Int} (ht : 0 < t) : (v * t < 0 ↔ v < 0) ∧ (v * t = 0 ↔ v = 0) := by
  constructor
  · constructor
    · intro h
      rcases Int.lt_or_le v 0 with h1 | h1
      · exact h1
      · have := Int.mul_nonneg h1 (Int.le_of_lt ht)
        omega
    · exact fun h => Int.mul_neg_of_neg_of_pos h ht
  · constructor
    · intro h
      rcases Int.mul_eq_zero.mp h with h1 | h1
      · exact h1
      · omega
    · intro h
      rw [h, Int.zero_mul]
theorem dn_mul {x y z t : Int} (ht : 0 < t) : dn (x * t) (y * t) (z * t) = dn x y z := by
  unfold dn
  have hx := neg_mul_iff (v := x) ht
  have hy := neg_mul_iff (v := y) ht
  have hz := neg_mul_iff (v := z) ht
  simp only [hx, hy, hz]
theorem dn_neg {x y z : Int} (h : ¬ (x = 0 ∧ y = 0 ∧ z = 0)) : dn (-x) (-y) (-z) = !dn x y z := by
  unfold dn
  rcases Int.lt_trichotomy x 0 with hx | hx | hx
  · have h1 : ¬ (-x < 0) := by omega
    have h2 : ¬ (-x = 0) := by omega
    simp [hx, h1, h2]
    omega
  · subst hx
    rcases Int.lt_trichotomy y 0 with hy | hy | hy
    · have h1 : ¬ (-y < 0) := by omega
      have h2 : ¬ (-y = 0) := by omega
      simp [hy, h1, h2]
      omega
    · subst hy
      have hz : z ≠ 0 := fun e => h ⟨rfl, rfl, e⟩
      by_cases h1 : z < 0
      · have h2 : ¬ (-z < 0) := by omega
        simp [h1, h2]
        omega
      · have h2 : -z < 0 := by omega
        simp [h1, h2]
        omega
    · have h1 : -y < 0 := by omega
      have h2 : ¬ y < 0 := by omega
      have h3 : ¬ y = 0 := by omega
      simp [h1, h2, h3]
      omega
  · have h1 : -x < 0 := by omega
    have h2 : ¬ x < 0 := by omega
    have h3 : ¬ x = 0 := by omega
    simp [h1, h2, h3]
    omega
theorem dv_mul {x y z t : Int} (h : ¬ (x = 0 ∧ y = 0 ∧ z = 0)) (ht : t ≠ 0) : dv (x * t) (y * t) (z * t) = dv x y z * t := by
  rw [dv_eq, dv_eq, g3_mul]
  rcases Int.lt_or_gt_of_ne ht with h1 | h1
  · have e1 : ∀ v : Int, v * t = -v * -t := fun v => (Int.neg_mul_neg v t).symm
    have e2 : (t.natAbs : Int) = -t := by omega
    have h2 : ¬ (-x = 0 ∧ -y = 0 ∧ -z = 0) := by omega
    rw [e1 x, e1 y, e1 z, dn_mul (by omega), dn_neg h]
    cases dn x y z with
    | true => simp [e2, Int.neg_mul, Int.mul_neg]
    | false => simp [e2, Int.neg_mul, Int.mul_neg]
  · have e2 : (t.natAbs : Int) = t := by omega
    rw [dn_mul h1]
    cases dn x y z with
    | true => simp [e2, Int.neg_mul, Int.mul_neg]
    | false => simp [e2, Int.neg_mul, Int.mul_neg]
theorem fdiv_same {d v t : Int} (hd : d ≠ 0) (ht : t ≠ 0) (h : d ∣ v) : (v * t).fdiv (d * t) = v.fdiv d := by
  obtain ⟨k, rfl⟩ := h
  rw [Int.mul_assoc, Int.mul_comm k t, ← Int.mul_assoc, Int.mul_fdiv_cancel_left _ hd, Int.mul_fdiv_cancel_left]
  exact Int.mul_ne_zero hd ht

theorem zs_push {l : List Int} {n : Int} : zs l ++ [V.int n] = zs (l ++ [n]) := by
  show l.map V.int ++ [V.int n] = (l ++ [n]).map V.int
  rw [List.map_append]
  rfl
theorem zs_lt {l : List Int} (h : l.length ≤ 1000) : (zs l).length < sizeLine := by
  show (l.map V.int).length < sizeLine
  rw [List.length_map]
  exact small1000 h
theorem row_all {rs : List Int} {b : Int} (h : ∀ r ∈ rs, 0 ≤ r ∧ r < b) (x : Int) (hb : 0 < b) : ∀ r ∈ rs ++ [x % b], 0 ≤ r ∧ r < b := by
  intro r hr
  rcases List.mem_append.mp hr with h1 | h1
  · exact h r h1
  · rw [List.mem_singleton.mp h1]
    exact ⟨Int.emod_nonneg _ (by omega), Int.emod_lt_of_pos _ hb⟩
theorem ixN_in {n : Nat} {i : Int} (h0 : 0 ≤ i) (h : i < (n : Int)) : ixN n i = some i.toNat := by
  unfold ixN
  rw [if_pos h0, if_pos h]
theorem len3 {rs : List Int} (h : rs.length = 3) : ∃ a b c, rs = [a, b, c] := by
  match rs, h with
  | [a, b, c], _ => exact ⟨a, b, c, rfl⟩
theorem gl_three (x y z : Int) : gl [x, y, z] = g3 x y z := by
  show Nat.gcd z.natAbs (Nat.gcd y.natAbs (Nat.gcd x.natAbs 0)) = Nat.gcd (Nat.gcd x.natAbs y.natAbs) z.natAbs
  rw [Nat.gcd_zero_right, Nat.gcd_comm z.natAbs, Nat.gcd_comm y.natAbs]
def fs3 (x y z : Int) : Int := if x ≠ 0 then x else if y ≠ 0 then y else z
theorem fs3_get {x y z : Int} (h : ¬ (x = 0 ∧ y = 0 ∧ z = 0)) : (zs ([x, y, z].filter fun v => decide (v ≠ 0)))[0]? = some (.int (fs3 x y z)) := by
  unfold fs3
  by_cases hx : x = 0
  · by_cases hy : y = 0
    · have hz : z ≠ 0 := fun e => h ⟨hx, hy, e⟩
      simp [hx, hy, hz]
    · simp [hx, hy]
  · simp [hx]
theorem fs3_dn {x y z : Int} (h : ¬ (x = 0 ∧ y = 0 ∧ z = 0)) : decide (fs3 x y z < 0) = dn x y z := by
  unfold fs3 dn
  by_cases hx : x = 0
  · by_cases hy : y = 0
    · simp [hx, hy]
    · simp [hx, hy]
  · simp [hx]
theorem fil_snoc {l : List Int} {i : Nat} {z : Int} (h : l[i]? = some z) (hz : z ≠ 0) : zs ((l.take i).filter fun v => decide (v ≠ 0)) ++ [V.int z] = zs ((l.take (i + 1)).filter fun v => decide (v ≠ 0)) := by
  rw [take_snoc h, List.filter_append, zs_push]
  simp [hz]
theorem fil_same {l : List Int} {i : Nat} {z : Int} (h : l[i]? = some z) (hz : z = 0) : (l.take (i + 1)).filter (fun v => decide (v ≠ 0)) = (l.take i).filter fun v => decide (v ≠ 0) := by
  rw [take_snoc h, List.filter_append]
  simp [hz]
theorem fil_lt {l : List Int} (n : Nat) (h : l.length ≤ 1000) : (zs ((l.take n).filter fun v => decide (v ≠ 0))).length < sizeLine := by
  refine zs_lt ?_
  have h1 := List.length_filter_le (fun v : Int => decide (v ≠ 0)) (l.take n)
  rw [List.length_take] at h1
  omega
theorem zs_at {l : List Int} {i : Nat} {z : Int} (h : l[i]? = some z) : atI (zs l) (i : Int) = some (V.int z) := atI_nat (by
  rw [show zs l = l.map V.int from rfl, List.getElem?_map, h]
  rfl)
theorem parts_at {x y z d : Int} (hx : d ∣ x) (hy : d ∣ y) (hz : d ∣ z) {i : Nat} (hi : i < 3) : ∃ f v : Int, [x.fdiv d, y.fdiv d, z.fdiv d][i]? = some f ∧ [x, y, z][i]? = some v ∧ f * d = v := by
  obtain rfl | rfl | rfl : i = 0 ∨ i = 1 ∨ i = 2 := by omega
  · exact ⟨_, _, rfl, rfl, fdiv_back hx⟩
  · exact ⟨_, _, rfl, rfl, fdiv_back hy⟩
  · exact ⟨_, _, rfl, rfl, fdiv_back hz⟩
def pd3 (x y z : Int) : PyData := .tuple [.int x, .int y, .int z]
theorem dp3 {K : PySem.W.Frag} {H : Hp} {u : Addr} {x y z : Int} (h : SqT K H u (zs [x, y, z])) : Dp K H (.ref u) (pd3 x y z) :=
  .tup h (.cons (.int x) (.cons (.int y) (.cons (.int z) .nil)))
theorem eqv3 (x y z : Int) : PyData.eqv (pd3 x y z) (pd3 x y z) = true := by
  unfold pd3
  simp [PyData.eqv, PyData.eqvAll]

def sgn (i : Int) : Int := if i < 0 then -1 else if 0 < i then 1 else 0
theorem sgn_mul {a b : Int} (hb : 0 < b) : sgn (a * b) = sgn a := by
  have h := neg_mul_iff (v := a) hb
  have h2 : 0 < a * b ↔ 0 < a := by
    constructor
    · intro z
      have h3 : ¬ a < 0 := fun y => by
        have := h.1.mpr y
        omega
      have h4 : ¬ a = 0 := fun y => by
        have := h.2.mpr y
        omega
      omega
    · exact fun z => Int.mul_pos z hb
  unfold sgn
  by_cases h3 : a < 0
  · rw [if_pos h3, if_pos (h.1.mpr h3)]
  · rw [if_neg h3, if_neg (fun z => h3 (h.1.mp z))]
    by_cases h4 : 0 < a
    · rw [if_pos h4, if_pos (h2.mpr h4)]
    · rw [if_neg h4, if_neg (fun z => h4 (h2.mp z))]
theorem sg_pos {n d : Int} (h : 0 < d) : 0 < sg n d := by
  have hg : 0 < Nat.gcd n.natAbs d.natAbs := Nat.gcd_pos_of_pos_right _ (by omega)
  unfold sg
  rw [if_neg (by omega)]
  omega
/-- the sign of a fraction is that of its numerator, before and behind -/
theorem sgn_low {n d : Int} (h : 0 < d) : sgn (n.fdiv (sg n d)) = sgn n := by
  have h1 := fdiv_back (sg_dn n d)
  have h2 := sgn_mul (a := n.fdiv (sg n d)) (sg_pos (n := n) h)
  rw [h1] at h2
  exact h2.symm
theorem rd2_le {n d : Int} (hd : d ≠ 0) : ∃ p q, rd2 n d = [p, q] ∧ p.natAbs ≤ n.natAbs ∧ q.natAbs ≤ d.natAbs ∧ Fr n d p q :=
  have f := fr_of (n := n) hd
  ⟨_, _, rfl, part_le f.hp (sg_ne hd), part_le f.hq (sg_ne hd), f⟩
/-- a sum of two, each brought to lowest terms -/
theorem rd2_plus {a b c d p q r s : Int} (f : Fr a b p q) (g : Fr c d r s) (hb : 0 < b) (hd : 0 < d) : rd2 (p * s + r * q) (q * s) = rd2 (a * d + c * b) (b * d) := by
  have q0 := f.q0
  have s0 := g.q0
  have c1 := f.cross
  have c2 := g.cross
  exact rd2_eq (Int.mul_pos q0 s0) (Int.mul_pos hb hd) (by grind)
/-- what is in lowest terms stays -/
theorem low_of {p q : Int} (h : Nat.gcd p.natAbs q.natAbs = 1) (hq : 0 < q) : rd2 p q = [p, q] := by
  have f := fr_of (n := p) (show q ≠ 0 by omega)
  have c := f.cross
  have u := low_uniq f.one h f.q0 hq (by rw [f.cross])
  unfold rd2
  rw [u.1, u.2]
theorem fr_low {n d p q : Int} (f : Fr n d p q) : rd2 p q = [p, q] := low_of f.one f.q0
theorem eu_far2 {a b n : Nat} (hn : 3601 ≤ n) (ha : a < 2 ^ 1800) (hb : b < 2 ^ 1800) : 2 * (a * b) < 2 ^ n := by
  have h1 : a * b < 2 ^ 1800 * 2 ^ 1800 := Nat.mul_lt_mul'' ha hb
  rw [← Nat.pow_add] at h1
  have h2 : (2 : Nat) ^ 3601 ≤ 2 ^ n := Nat.pow_le_pow_right (by decide) hn
  rw [show (3601 : Nat) = 1 + (1800 + 1800) from rfl, Nat.pow_add] at h2
  generalize (2 : Nat) ^ (1800 + 1800) = B at *
  generalize (2 : Nat) ^ n = C at *
  omega
theorem rd2_eq0 {n d n' d' : Int} (hd : d ≠ 0) (hd' : d' ≠ 0) (h : n * d' = n' * d) : rd2 n d = rd2 n' d' := by
  have f := fr_of (n := n) hd
  have f' := fr_of (n := n') hd'
  have c1 := f.cross
  have c2 := f'.cross
  unfold rd2
  generalize n.fdiv (sg n d) = p at f c1
  generalize d.fdiv (sg n d) = q at f c1
  generalize n'.fdiv (sg n' d') = r at f' c2
  generalize d'.fdiv (sg n' d') = s at f' c2
  have e : p * s = r * q := by
    have h1 : (p * s) * (d * d') = (r * q) * (d * d') := by grind
    exact Int.eq_of_mul_eq_mul_right (Int.mul_ne_zero hd hd') h1
  have u := low_uniq f.one f'.one f.q0 f'.q0 e
  rw [u.1, u.2]

/-- a row of fractions: where each stands, its two numbers -/
structure Rows (K : PySem.W.Frag) (H : Hp) (ws : List (Addr × Int × Int)) : Prop where
  at_ : ∀ w ∈ ws, SqT K H w.1 (zs [w.2.1, w.2.2])
  b1 : ∀ w ∈ ws, w.2.1.natAbs < 2 ^ 40
  b2 : ∀ w ∈ ws, w.2.2.natAbs < 2 ^ 40
  b3 : ∀ w ∈ ws, 0 < w.2.2
  few : ws.length ≤ 9
theorem Rows.nil {K : PySem.W.Frag} {H : Hp} : Rows K H [] :=
  ⟨(fun _ h => nomatch h), (fun _ h => nomatch h), (fun _ h => nomatch h), (fun _ h => nomatch h), by decide⟩
def rf (ws : List (Addr × Int × Int)) : List V := ws.map fun w => V.ref w.1
theorem Rows.same {K : PySem.W.Frag} {H H' : Hp} {ws : List (Addr × Int × Int)} (r : Rows K H ws) (s : Same H H') : Rows K H' ws :=
  ⟨fun w hw => same_tup s (r.at_ w hw), r.b1, r.b2, r.b3, r.few⟩
theorem Rows.take {K : PySem.W.Frag} {H : Hp} {ws : List (Addr × Int × Int)} (r : Rows K H ws) (i : Nat) : Rows K H (ws.take i) :=
  ⟨fun w hw => r.at_ w (List.mem_of_mem_take hw), fun w hw => r.b1 w (List.mem_of_mem_take hw), fun w hw => r.b2 w (List.mem_of_mem_take hw), fun w hw => r.b3 w (List.mem_of_mem_take hw), by
    rw [List.length_take]
    have := r.few
    omega⟩
theorem rf_get {ws : List (Addr × Int × Int)} {i : Nat} {v : V} (h : (rf ws)[i]? = some v) : ∃ w, v = .ref w.1 ∧ ws[i]? = some w := by
  rw [show rf ws = ws.map fun w => V.ref w.1 from rfl, List.getElem?_map] at h
  cases e : ws[i]? with
  | none =>
    rw [e] at h
    cases h
  | some w =>
    rw [e] at h
    exact ⟨w, (Option.some.inj h).symm, rfl⟩
theorem rf_len (ws : List (Addr × Int × Int)) : (rf ws).length = ws.length := List.length_map _
theorem take_sn {α : Type} {l : List α} {i : Nat} {z : α} (h : l[i]? = some z) : l.take (i + 1) = l.take i ++ [z] := by
  rw [List.take_add_one, h]
  rfl
theorem tup_upd {K : PySem.W.Frag} {H : Hp} {a l : Addr} {xs ys : List V} {o : HO} (h : SqT K H a xs) (hl : H l = some (.lst ys)) : SqT K (upd H l o) a xs := by
  rcases h with (h | ⟨ob, h⟩) | h
  · refine .inl (.inl ?_)
    rw [upd_ne (ne_of h hl (by intro z; cases z))]
    exact h
  · refine .inl (.inr ⟨ob, ?_⟩)
    rw [upd_ne (ne_of h hl (by intro z; cases z))]
    exact h
  · exact .inr h
theorem tyx_tup {K : PySem.W.Frag} {H : Hp} {a : Addr} {xs : List V} (h : SqT K H a xs) : TyX K H (.ref a) (.type "tuple") := by
  rcases h with (h | ⟨ob, h⟩) | ⟨o, its, n, h, hc, _⟩
  · exact .base (.tup h)
  · exact .fTuple h
  · exact .kTuple h hc
theorem no_self {x : V} (h : (!decide (x = x)) = true) : False := by
  rw [decide_eq_true rfl] at h
  cases h

section ZipMixed
open PySem PySem.Spec PyProof.Rows
/-- a list or a tuple that stands still -/
def SqB (f : Bool) (K : PySem.W.Frag) (H : Hp) (q : Addr) (vs : List V) : Prop := bif f then SqT K H q vs else SqL K H q vs
def ItB (f : Bool) (h : Heap) (it q : Addr) (i : Nat) : Prop := bif f then h.IsTupleIter it q i else h.IsListIter it q i
def AtB (f : Bool) (h : Heap) (q : Addr) (us : Array Value) : Prop := bif f then h.IsTuple q us else h.IsList q us
def oB (f : Bool) (q : Addr) : Obj := bif f then { cls := .type "tuple_iterator", data := .fields #[.ref q, .int 0 0] } else { cls := .type "list_iterator", data := .fields #[.ref q, .int 0 0] }
theorem ItB.live {f : Bool} {h : Heap} {it q : Addr} {i : Nat} (s : ItB f h it q i) : ∃ o, h.get? it = some o ∧ ∀ v, o.data ≠ .cell v := by
  cases f
  · obtain ⟨o, e, _, d⟩ := s
    exact ⟨o, e, fun v z => by rw [d] at z; cases z⟩
  · obtain ⟨o, e, _, d⟩ := s
    exact ⟨o, e, fun v z => by rw [d] at z; cases z⟩
theorem ItB.keep {f : Bool} {h h' : Heap} {it q : Addr} {i : Nat} (s : ItB f h it q i) (k : ∀ o, h.get? it = some o → h'.get? it = some o) : ItB f h' it q i := by
  cases f
  · exact Heap.IsListIter.at s k
  · exact Heap.IsTupleIter.at s k
theorem SqB.at_ {X : Cx} {pins : List (Addr × Obj)} {σ : L2.St} {H : Hp} {s : Shared} {f : Bool} {q : Addr} {vs : List V} (I : Inv X pins σ H s) (h : SqB f X.K H q vs) :
    ∃ us : List Value, Vals vs us ∧ AtB f s.heap q us.toArray := by
  cases f
  · obtain ⟨us, rv, p, _⟩ := I.list h
    exact ⟨us, rv, p.isList⟩
  · obtain ⟨us, rv, p, _⟩ := I.tuple h
    exact ⟨us, rv, p⟩
theorem SqB.inj {X : Cx} {pins : List (Addr × Obj)} {σ : L2.St} {H : Hp} {s : Shared} {f : Bool} {q : Addr} {vs ws : List V} (I : Inv X pins σ H s) (h : SqB f X.K H q vs) (h2 : SqB f X.K H q ws) : vs = ws := by
  cases f
  · exact I.list_inj h h2
  · exact I.tuple_inj h h2
theorem drawsB {P : Program} {w : World} {A : Around} (hh : A.handled = none) (f : Bool) (it q : Addr) (hne : q ≠ it) (us : Array Value) :
    Draws P w A it [it, q] us.size (fun i v => us[i]? = some v) (fun i h => ItB f h it q i ∧ AtB f h q us) := by
  cases f
  · exact Draws.list hh it q hne us
  · exact Draws.tuple hh it q hne us
theorem beginsB (f : Bool) (q : Addr) (us : Array Value) : Begins (.ref q) (oB f q) fun h => AtB f h q us := by
  cases f
  · exact begins_list q us
  · exact begins_tuple q us
theorem AtB.lt {f : Bool} {h : Heap} {q : Addr} {us : Array Value} (p : AtB f h q us) : q < h.objs.size := by
  cases f
  · obtain ⟨o, e, _⟩ := p
    exact Heap.lt_size e
  · obtain ⟨o, e, _⟩ := p
    exact Heap.lt_size e
theorem oB_it {f : Bool} {h : Heap} {it q : Addr} (e : h.get? it = some (oB f q)) : ItB f h it q 0 := by
  cases f
  · exact ⟨_, e, rfl, rfl⟩
  · exact ⟨_, e, rfl, rfl⟩
theorem sep_of {z TI TO i1 i2 a b : Addr} (D : ZipApart z TI TO i1 i2 a b) : ZipSep2 z TI TO i1 i2 [i1, a] [i2, b] where
  TIz := D.TIz
  TOz := D.TOz
  TITO := D.TITO
  TIi1 := D.TIi1
  mem1 := by simp
  zf1 := by simp [D.i1z.symm, D.l1z.symm]
  Tf1 := by simp [D.TOi1, D.l1TO.symm]
  TIi2 := D.TIi2
  mem2 := by simp
  zf2 := by simp [D.i2z.symm, D.l2z.symm]
  Tf2 := by simp [D.TOi2, D.l2TO.symm]
  sep1_2 := by simp [D.i12, D.l2i1.symm]
  sep2_1 := by simp [D.i12.symm, D.l1i2.symm]
/-- the two as they stand at each turn, what they hold in new pairs -/
def ItzB (f g : Bool) (K : PySem.W.Frag) (a b : Addr) : It :=
  ⟨fun i H => ∃ (xs ys : List V) (x y : V), SqB f K H a xs ∧ SqB g K H b ys ∧ xs[i]? = some x ∧ ys[i]? = some y,
    fun i H v H' => ∃ T x y, v = .ref T ∧ H T = none ∧ H' = upd H T (.tup [x, y]) ∧ (∀ xs, SqB f K H a xs → xs[i]? = some x) ∧ ∀ ys, SqB g K H b ys → ys[i]? = some y,
    fun i H => ∃ xs ys : List V, SqB f K H a xs ∧ SqB g K H b ys ∧ i ≤ xs.length ∧ i ≤ ys.length ∧ (i = xs.length ∨ i = ys.length)⟩
theorem turn_zipB {P : Program} {w : World} {K : PySem.W.Frag} {elts : List Expr} {kk : Nat} {tpos : Pos} {a b z TI TO i1 i2 : Addr} (f g : Bool) (D : ZipApart z TI TO i1 i2 a b) :
    Turn P w K (.Tuple elts kk tpos) (ItzB f g K a b) [z, TI, TO, i1, i2] z (fun i h => IsZip h z TI TO .none ∧ IsPair h TI (.ref i1) (.ref i2) ∧ (∃ x y, IsPair h TO x y) ∧ ItB f h i1 a i ∧ ItB g h i2 b i) where
  mem := by simp
  obj := fun i h st c hc => by
    obtain ⟨hz, hTI, ⟨x, y, hTO⟩, h1, h2⟩ := st
    have e' : c = z ∨ c = TI ∨ c = TO ∨ c = i1 ∨ c = i2 := by simpa using hc
    rcases e' with rfl | rfl | rfl | rfl | rfl
    · exact ⟨_, hz, fun v q => nomatch q⟩
    · exact ⟨_, hTI, fun v q => nomatch q⟩
    · exact ⟨_, hTO, fun v q => nomatch q⟩
    · exact h1.live
    · exact h2.live
  keep := fun i h h' st k => by
    obtain ⟨hz, hTI, ⟨x, y, hTO⟩, h1, h2⟩ := st
    exact ⟨k z (by simp) _ hz, k TI (by simp) _ hTI, ⟨x, y, k TO (by simp) _ hTO⟩, h1.keep fun o q => k i1 (by simp) o q, h2.keep fun o q => k i2 (by simp) o q⟩
  item := by
    intro X hP hw hK hc i pins s σ H E I hf st hg
    subst hP hw hK
    obtain ⟨hz, hTI, ⟨x0, y0, hTO⟩, h1, h2⟩ := st
    obtain ⟨xs, ys, x, y, hqx, hqy, hx, hy⟩ := hg
    obtain ⟨us, rv, p⟩ := hqx.at_ I
    obtain ⟨us2, rv2, p2⟩ := hqy.at_ I
    obtain ⟨u, hu, ru⟩ := rv.get hx
    obtain ⟨u2, hu2, ru2⟩ := rv2.get hy
    have hzl : z < s.heap.objs.size := Heap.lt_size hz
    have lx : i < us.toArray.size := by
      have := (List.getElem?_eq_some_iff.mp hu).1
      simpa using this
    have ly : i < us2.toArray.size := by
      have := (List.getElem?_eq_some_iff.mp hu2).1
      simpa using this
    have hhd : X.A.in1.handled = none := I.ok.hd hc
    refine wpAny_pyNext_zipD2_item (sep_of D) (drawsB hhd f i1 a D.l1i1 us.toArray) (drawsB hhd g i2 b D.l2i2 us2.toArray) hz hTI hTO ⟨h1, p⟩ ⟨h2, p2⟩ lx ly fun v1 v2 h' tk e1 e2 z' TO' st1 st2 hT hsz hk => ?_
    have w1 : v1 = u := by
      have : us[i]? = some v1 := by simpa using e1
      rw [hu] at this
      exact (Option.some.inj this).symm
    have w2 : v2 = u2 := by
      have : us2[i]? = some v2 := by simpa using e2
      rw [hu2] at this
      exact (Option.some.inj this).symm
    subst w1 w2
    refine ⟨_, rfl, wpAny_letOwnedTupleGo_zip (s := { s with heap := h', toks := tk }) z' fun h'' z'' sb => ?_⟩
    have hT2 : h''.get? s.heap.objs.size = some { cls := .type "tuple", data := .seq #[v1, v2] } := (sb.2 _ (Nat.ne_of_gt hzl)).trans hT
    have new : ObjOk X.prog X.w (upd H s.heap.objs.size (.tup [x, y])) h'' s.heap.objs.size (.tup [x, y]) :=
      ⟨by show 2 ≤ sizeLine; decide, [v1, v2], .cons ru (.cons ru2 .nil), ⟨_, hT2, rfl, _, rfl⟩⟩
    have I1 : Inv X pins σ (upd H s.heap.objs.size (.tup [x, y])) { s with heap := h'', toks := tk } :=
      I.turnedNew (t' := tk) (ch := [z, TI, TO, i1, i2]) (fun c o hb q => (sb.2 c (fun q' => hb (by simp [q']))).trans (hk c o (fun q' => hb (by simp [q'])) (fun q' => hb (by simp [q'])) (fun q' => hb (by simp [q'])) (fun q' => hb (by simp [q'])) q)) hf (Nat.le_refl _) new
    refine ⟨.ref s.heap.objs.size, _, I1, rfl, ⟨_, x, y, rfl, I.hok.fresh (Nat.le_refl _), rfl, fun l hl => by rw [hl.inj I hqx]; exact hx, fun l hl => by rw [hl.inj I hqy]; exact hy⟩, ⟨z'', ?_, ⟨v1, v2, ?_⟩, ?_, ?_⟩, fun c hcm => ?_⟩
    · exact (sb.2 _ D.TIz).trans (hk _ _ D.TIz D.TITO D.TIi1 D.TIi2 hTI)
    · exact (sb.2 _ D.TOz).trans TO'
    · exact st1.1.keep fun o q => (sb.2 _ D.i1z).trans q
    · exact st2.1.keep fun o q => (sb.2 _ D.i2z).trans q
    · have hlt : c < s.heap.objs.size := by
        have e' : c = z ∨ c = TI ∨ c = TO ∨ c = i1 ∨ c = i2 := by simpa using hcm
        rcases e' with rfl | rfl | rfl | rfl | rfl
        · exact hzl
        · exact Heap.lt_size hTI
        · exact Heap.lt_size hTO
        · obtain ⟨_, e1, _⟩ := h1.live; exact Heap.lt_size e1
        · obtain ⟨_, e1, _⟩ := h2.live; exact Heap.lt_size e1
      rw [upd_ne (Nat.ne_of_lt hlt)]
      exact (hf c hcm).1
  done := by
    intro X hP hw hK hc i pins s σ H E I hf st hg
    subst hP hw hK
    obtain ⟨hz, hTI, ⟨x0, y0, hTO⟩, h1, h2⟩ := st
    obtain ⟨xs, ys, hqx, hqy, hend1, hend2, hend3⟩ := hg
    obtain ⟨us, rv, p⟩ := hqx.at_ I
    obtain ⟨us2, rv2, p2⟩ := hqy.at_ I
    have l1 := rv.length
    have l2 := rv2.length
    have hhd : X.A.in1.handled = none := I.ok.hd hc
    have z1 : us.toArray.size = us.length := by simp
    have z2 : us2.toArray.size = us2.length := by simp
    exact wpAny_pyNext_zipD2_end (sep_of D) (drawsB hhd f i1 a D.l1i1 us.toArray) (drawsB hhd g i2 b D.l2i2 us2.toArray) hz hTI hTO ⟨h1, p⟩ ⟨h2, p2⟩ (by omega) (by omega) (by omega) fun h' tk hk => ⟨rfl, I.turnedL (t' := tk) (ch := [z, TI, TO, i1, i2]) (fun c o hb q =>
      hk c o (fun q' => hb (by simp [q'])) (fun q' => hb (by simp [q'])) (fun q' => hb (by simp [q'])) (fun q' => hb (by simp [q'])) q) hf⟩
  self := fun A i s Q E st h => wpAny_pyIter_zip st.1 h
def iZipB (K : PySem.W.Frag) (ta : TA) : TI := fun σ H R => ta σ H fun vs H1 => ∃ (f g : Bool) (a b : Addr) (xs ys : List V), vs = [.ref a, .ref b] ∧ SqB f K H1 a xs ∧ SqB g K H1 b ys ∧ R (ItzB f g K a b) H1
theorem pi_zipB {X : Cx} {e e2 : Expr} {ta : TA} {p pos tpos : Pos} {elts : List Expr} {kk : Nat} (hg : Gl X "zip") (hm : X.mg "zip" = none) (ha : PA X [e, e2] ta)
    (hs : starEach [e, e2] X.env = (false, eval e X.env) :: starEach [e2] X.env := by rfl) (hpl : (backTo pos (starEach [e2] X.env)).any (·.1) = false := by rfl) :
    PI X (.Tuple elts kk tpos) (.Call (.Name "zip" p) [e, e2] [] pos) (iZipB X.K ta) := by
  refine ⟨fun pins s σ H R I h => ?_⟩
  refine Call_ (ld_blt I hg hm PyProof.Rows.boot_zip (PyProof.Rows.callWith_type1 (thn (ha.run pos pins s σ H _ I h) fun us s1 ⟨vs, H1, I1, r1, q1⟩ => ?_) hs hpl))
  obtain ⟨f, g, a, b, xs, ys, rfl, hqx, hqy, q⟩ := q1
  obtain ⟨u1, u2, rfl, r, r'⟩ := vals2 r1
  cases r
  cases r'
  obtain ⟨_, rv, p1⟩ := hqx.at_ I1
  obtain ⟨_, rv2, p2⟩ := hqy.at_ I1
  refine zip_begins2 (beginsB f a _) (beginsB g b _) p1 p2 fun h' hz hTI hTO h1 h2 hsz hk => wpAny_pyIter_zip hz ?_
  have I2 : Inv X pins σ H1 { s1 with heap := h' } := I1.kept (t' := s1.toks) hk
  refine ⟨s1.heap.objs.size + 4, [s1.heap.objs.size + 4, s1.heap.objs.size + 2, s1.heap.objs.size + 3, s1.heap.objs.size, s1.heap.objs.size + 1], _, _, H1, rfl, I2, turn_zipB f g (PySem.W.ktu_apart s1.heap.objs.size a b p1.lt p2.lt), ⟨hz, hTI, ⟨_, _, hTO⟩, oB_it h1, oB_it h2⟩, fun c hcm => ?_, q⟩
  have e' : c = s1.heap.objs.size + 4 ∨ c = s1.heap.objs.size + 2 ∨ c = s1.heap.objs.size + 3 ∨ c = s1.heap.objs.size ∨ c = s1.heap.objs.size + 1 := by simpa using hcm
  have hle : s1.heap.objs.size ≤ c := by
    rcases e' with z | z | z | z | z
    · rw [z]; exact Nat.le_add_right _ _
    · rw [z]; exact Nat.le_add_right _ _
    · rw [z]; exact Nat.le_add_right _ _
    · rw [z]; exact Nat.le_refl _
    · rw [z]; exact Nat.le_add_right _ _
  exact I1.fpOk hle (I1.hok.fresh hle)
theorem walk_zipB {f g : Bool} {K : PySem.W.Frag} {a b : Addr} {xs ys : List V} {n : Nat} (hn : n = min xs.length ys.length) : Walk (ItzB f g K a b) n (fun H => SqB f K H a xs ∧ SqB g K H b ys) (YPair (fun i => xs[i]?) (fun i => ys[i]?)) := by
  subst hn
  refine ⟨fun i _ hi q => ?_, fun _ q => ⟨xs, ys, q.1, q.2, by omega, by omega, by omega⟩, fun i H v H' _ q y => ?_⟩
  · have h1 : i < xs.length := by omega
    have h2 : i < ys.length := by omega
    exact ⟨xs, ys, xs[i], ys[i], q.1, q.2, by simp [h1], by simp [h2]⟩
  · obtain ⟨T, u, u2, h1, h2, h3, h4, h5⟩ := y
    exact ⟨T, u, u2, h1, h2, h3, h4 xs q.1, h5 ys q.2⟩
end ZipMixed

theorem rat_rd {n d : Int} (hd : d ≠ 0) : rd2 n d = [(Rat.divInt n d).num, ((Rat.divInt n d).den : Int)] := by
  have h0 : ((Rat.divInt n d).den : Int) ≠ 0 := by
    have := (Rat.divInt n d).den_nz
    omega
  have e : Rat.divInt n d = Rat.divInt (Rat.divInt n d).num ((Rat.divInt n d).den : Int) := (Rat.num_divInt_den _).symm
  have c := (Rat.divInt_eq_divInt_iff hd h0).mp e
  rw [rd2_eq0 hd h0 c]
  exact low_of (Rat.divInt n d).reduced (by have := (Rat.divInt n d).den_nz; omega)
/-- a fraction that stands at an address -/
def Fx (K : PySem.W.Frag) (H : Hp) (a : Addr) (r : Rat) : Prop := SqT K H a (zs [r.num, (r.den : Int)])
theorem Fx.same {K : PySem.W.Frag} {H H' : Hp} {a : Addr} {r : Rat} (h : Fx K H a r) (s : Same H H') : Fx K H' a r := same_tup s h
theorem fx_rd {K : PySem.W.Frag} {H : Hp} {a : Addr} {n d : Int} (hd : d ≠ 0) (h : H a = some (.tup (zs (rd2 n d)))) : Fx K H a (Rat.divInt n d) := by
  unfold Fx
  rw [← rat_rd hd]
  exact SqT.of h
theorem fx_at {K : PySem.W.Frag} {H : Hp} {a : Addr} {r : Rat} (h : H a = some (.tup (zs [r.num, (r.den : Int)]))) : Fx K H a r := SqT.of h
def Bd (n : Nat) (r : Rat) : Prop := r.num.natAbs < 2 ^ n ∧ r.den < 2 ^ n
theorem Bd.up {n m : Nat} {r : Rat} (h : Bd n r) (hm : n ≤ m) : Bd m r :=
  ⟨Nat.lt_of_lt_of_le h.1 (Nat.pow_le_pow_right (by decide) hm), Nat.lt_of_lt_of_le h.2 (Nat.pow_le_pow_right (by decide) hm)⟩
theorem Bd.den {n : Nat} {r : Rat} (h : Bd n r) : ((r.den : Nat) : Int).natAbs < 2 ^ n := h.2
theorem den_pos (r : Rat) : (0 : Int) < (r.den : Int) := by
  have := r.den_nz
  omega
theorem den_ne (r : Rat) : ((r.den : Nat) : Int) ≠ 0 := by
  have := den_pos r
  omega
theorem bd_of {n d : Int} {k : Nat} (hd : d ≠ 0) (h1 : n.natAbs < 2 ^ k) (h2 : d.natAbs < 2 ^ k) : Bd k (Rat.divInt n d) := by
  obtain ⟨p, q, e, l1, l2, _⟩ := rd2_le (n := n) hd
  rw [rat_rd hd] at e
  have e1 : (Rat.divInt n d).num = p := by injection e
  have e2 : ((Rat.divInt n d).den : Int) = q := by
    injection e with _ e
    injection e
  refine ⟨by rw [e1]; omega, ?_⟩
  have : (Rat.divInt n d).den = q.natAbs := by rw [← e2]; rfl
  omega
theorem add_div (r s : Rat) : r + s = Rat.divInt (r.num * s.den + s.num * r.den) (r.den * s.den) := by
  rw [Rat.add_def', Rat.divInt_eq_div, Rat.mkRat_eq_div]
  rfl
theorem sub_div (r s : Rat) : r - s = Rat.divInt (r.num * s.den - s.num * r.den) (r.den * s.den) := by
  rw [Rat.sub_def', Rat.divInt_eq_div, Rat.mkRat_eq_div]
  rfl
theorem mul_div (r s : Rat) : r * s = Rat.divInt (r.num * s.num) (r.den * s.den) := by
  rw [Rat.mul_def', Rat.divInt_eq_div, Rat.mkRat_eq_div]
  rfl
theorem dd_ne (r s : Rat) : ((r.den : Int) * (s.den : Int)) ≠ 0 := Int.mul_ne_zero (den_ne r) (den_ne s)
theorem pow_two_add (a b : Nat) : (2 : Nat) ^ (a + b + 1) = 2 * 2 ^ (a + b) := by
  rw [Nat.pow_succ, Nat.mul_comm]
theorem wl {x y : Int} {a b : Nat} (h : x.natAbs < 2 ^ a) (h2 : y.natAbs < 2 ^ b) : (x * y).natAbs < 2 ^ (a + b) := by
  rw [Int.natAbs_mul, Nat.pow_add]
  exact Nat.mul_lt_mul'' h h2
theorem Bd.mul {a b : Nat} {r s : Rat} (h : Bd a r) (h2 : Bd b s) : Bd (a + b) (r * s) := by
  rw [mul_div]
  exact bd_of (dd_ne r s) (wl h.1 h2.1) (wl h.den h2.den)
theorem Bd.add {a b : Nat} {r s : Rat} (h : Bd a r) (h2 : Bd b s) : Bd (a + b + 1) (r + s) := by
  rw [add_div]
  have e := pow_two_add a b
  have w1 := wl h.1 h2.den
  have w2 := wl h2.1 h.den
  have w3 := wl h.den h2.den
  rw [Nat.add_comm b a] at w2
  have := Int.natAbs_add_le (r.num * (s.den : Int)) (s.num * (r.den : Int))
  exact bd_of (dd_ne r s) (by omega) (by omega)
theorem Bd.sub {a b : Nat} {r s : Rat} (h : Bd a r) (h2 : Bd b s) : Bd (a + b + 1) (r - s) := by
  rw [sub_div]
  have e := pow_two_add a b
  have w1 := wl h.1 h2.den
  have w2 := wl h2.1 h.den
  have w3 := wl h.den h2.den
  rw [Nat.add_comm b a] at w2
  have := Int.natAbs_sub_le (r.num * (s.den : Int)) (s.num * (r.den : Int))
  exact bd_of (dd_ne r s) (by omega) (by omega)
theorem Bd.neg {a : Nat} {r : Rat} (h : Bd a r) : Bd a (-r) := by
  refine ⟨?_, ?_⟩
  · rw [Rat.neg_num, Int.natAbs_neg]
    exact h.1
  · rw [Rat.neg_den]
    exact h.2
theorem bd_zero : Bd 1 0 := ⟨by decide, by decide⟩
theorem bd_one : Bd 1 1 := ⟨by decide, by decide⟩
def pdr (r : Rat) : PyData := pd2 r.num (r.den : Int)
theorem dpr {K : PySem.W.Frag} {H : Hp} {a : Addr} {r : Rat} (h : Fx K H a r) : Dp K H (.ref a) (pdr r) := dp2 h
theorem eqvr (r s : Rat) : PyData.eqv (pdr r) (pdr s) = decide (r = s) := by
  unfold pdr pd2
  simp only [PyData.eqv, PyData.eqvAll, Bool.and_true]
  by_cases h : r = s
  · subst h
    simp
  · rw [decide_eq_false h]
    by_cases h1 : r.num = s.num
    · have h2 : ¬ r.den = s.den := fun z => h (Rat.ext h1 z)
      simp [h1]
      omega
    · simp [h1]
/-- a row of fractions: where each stands, what it is -/
def Rx (K : PySem.W.Frag) (H : Hp) (ws : List (Addr × Rat)) : Prop := ∀ w ∈ ws, Fx K H w.1 w.2
def fr (ws : List (Addr × Rat)) : List V := ws.map fun w => V.ref w.1
theorem Rx.same {K : PySem.W.Frag} {H H' : Hp} {ws : List (Addr × Rat)} (h : Rx K H ws) (s : Same H H') : Rx K H' ws := fun w hw => (h w hw).same s
theorem fr_len (ws : List (Addr × Rat)) : (fr ws).length = ws.length := List.length_map _
theorem fr_get {ws : List (Addr × Rat)} {i : Nat} {v : V} (h : (fr ws)[i]? = some v) : ∃ w, v = .ref w.1 ∧ ws[i]? = some w := by
  rw [show fr ws = ws.map fun w => V.ref w.1 from rfl, List.getElem?_map] at h
  cases e : ws[i]? with
  | none =>
    rw [e] at h
    cases h
  | some w =>
    rw [e] at h
    exact ⟨w, (Option.some.inj h).symm, rfl⟩
theorem fr_at {ws : List (Addr × Rat)} {i : Nat} {r : Rat} (h : (ws.map (·.2))[i]? = some r) : ∃ t, (fr ws)[i]? = some (.ref t) ∧ (t, r) ∈ ws := by
  rw [List.getElem?_map] at h
  cases e : ws[i]? with
  | none =>
    rw [e] at h
    cases h
  | some w =>
    rw [e] at h
    have : w.2 = r := Option.some.inj h
    subst this
    refine ⟨w.1, ?_, List.mem_of_getElem? e⟩
    rw [show fr ws = ws.map fun w => V.ref w.1 from rfl, List.getElem?_map, e]
    rfl
theorem dpAll {K : PySem.W.Frag} {H : Hp} : ∀ {ws : List (Addr × Rat)}, Rx K H ws → DpAll K H (fr ws) ((ws.map (·.2)).map pdr)
  | [], _ => .nil
  | w :: ws, h => .cons (dpr (h w List.mem_cons_self)) (dpAll fun x hx => h x (List.mem_cons_of_mem _ hx))
theorem eqvAllr : ∀ rs ss : List Rat, PyData.eqvAll (rs.map pdr) (ss.map pdr) = decide (rs = ss)
  | [], [] => rfl
  | [], _ :: _ => rfl
  | _ :: _, [] => rfl
  | r :: rs, s :: ss => by
    rw [List.map_cons, List.map_cons, PyData.eqvAll, eqvr, eqvAllr rs ss]
    by_cases h1 : r = s
    · by_cases h2 : rs = ss
      · simp [h1, h2]
      · simp [h1, h2]
    · simp [h1]
theorem shr (rs : List Rat) : PyData.canLayAll0 (rs.map pdr) = true ∧ PyData.depthAll (rs.map pdr) ≤ 1 := by
  induction rs with
  | nil => decide
  | cons r rs ih =>
    rw [List.map_cons, PyData.canLayAll0, PyData.depthAll, ih.1]
    exact ⟨rfl, Nat.max_le.mpr ⟨Nat.le_refl 1, ih.2⟩⟩
theorem shrl (rs : List Rat) : SeqAt.shaped (.list (rs.map pdr)) = true := by
  have h1 := (shr rs).1
  have h2 := (shr rs).2
  unfold SeqAt.shaped
  rw [PyData.canLay0, PyData.depth, h1, decide_eq_true (by omega)]
  rfl
theorem shrt (rs : List Rat) : SeqAt.shaped (.tuple (rs.map pdr)) = true := by
  have h1 := (shr rs).1
  have h2 := (shr rs).2
  unfold SeqAt.shaped
  rw [PyData.canLay0, PyData.depth, h1, decide_eq_true (by omega)]
  rfl
/-- a value along parameters: its base, its slopes -/
def Vx (K : PySem.W.Frag) (H : Hp) (t : Addr) (b : Rat) (ss : List Rat) : Prop := ∃ (p q : Addr) (ws : List (Addr × Rat)), SqT K H t [.ref p, .ref q] ∧ Fx K H p b ∧ SqT K H q (fr ws) ∧ Rx K H ws ∧ ws.map (·.2) = ss
theorem Vx.same {K : PySem.W.Frag} {H H' : Hp} {t : Addr} {b : Rat} {ss : List Rat} (h : Vx K H t b ss) (s : Same H H') : Vx K H' t b ss := by
  obtain ⟨p, q, ws, h1, h2, h3, h4, h5⟩ := h
  exact ⟨p, q, ws, same_tup s h1, h2.same s, same_tup s h3, h4.same s, h5⟩
def pdv (b : Rat) (ss : List Rat) : PyData := .tuple [pdr b, .tuple (ss.map pdr)]
theorem dpv {K : PySem.W.Frag} {H : Hp} {t : Addr} {b : Rat} {ss : List Rat} (h : Vx K H t b ss) : Dp K H (.ref t) (pdv b ss) := by
  obtain ⟨p, q, ws, h1, h2, h3, h4, rfl⟩ := h
  exact .tup h1 (.cons (dpr h2) (.cons (.tup h3 (dpAll h4)) .nil))
theorem eqvv (b c : Rat) (ss us : List Rat) : PyData.eqv (pdv b ss) (pdv c us) = decide (b = c ∧ ss = us) := by
  unfold pdv
  rw [PyData.eqv, PyData.eqvAll, PyData.eqvAll, PyData.eqvAll, eqvr, PyData.eqv, eqvAllr]
  by_cases h1 : b = c
  · by_cases h2 : ss = us
    · simp [h1, h2]
    · simp [h1, h2]
  · simp [h1]
theorem shv (b : Rat) (ss : List Rat) : SeqAt.shaped (pdv b ss) = true := by
  have h1 := (shr ss).1
  have h2 := (shr ss).2
  unfold SeqAt.shaped pdv
  simp only [PyData.canLay0, PyData.canLayAll0, PyData.depth, PyData.depthAll, h1, pdr, pd2]
  simp
  omega
theorem sh1 (r : Rat) : SeqAt.shaped (pdr r) = true := rfl
theorem over_tup {K : PySem.W.Frag} {H H' : Hp} {t D : Addr} {xs ys : List V} (h : SqT K H t xs) (hl : H D = some (.lst ys)) (s : ∀ b o, b ≠ D → H b = some o → H' b = some o) : SqT K H' t xs := by
  rcases h with (h | ⟨ob, h⟩) | h
  · exact .inl (.inl (s _ _ (ne_of h hl (by intro z; cases z)) h))
  · exact .inl (.inr ⟨ob, s _ _ (ne_of h hl (by intro z; cases z)) h⟩)
  · exact .inr h
/-- a comprehension whose elements are fractions: those of L -/
theorem lc_row {K : PySem.W.Frag} {J : It} {n : Nat} {G : Hp → Prop} {Y : Nat → Hp → V → Hp → Prop} (w : Walk J n G Y) (L : List Rat) (hL : L.length = n) (hz : n ≤ 1000)
    {g : TG} {te : TE} {vs : List Nat} {σ : L2.St} {H1 : Hp} {D : Addr} {Qd : Hp → Prop} (hD : H1 D = none) (hG : ∀ H, Same H1 H → G H)
    (hs : ∀ i r x H H' (k : V → Hp → Prop), L[i]? = some r → Same H1 H → Y i H x H' → (∀ t H4, Same H H4 → Fx K H4 t r → k (.ref t) H4) → g x (wipe σ vs) H' fun σ2 H2 => wipe σ2 vs = wipe σ vs ∧ te σ2 H2 k)
    (hd : ∀ H ws, Same H1 H → H D = some (.lst (fr ws)) → Rx K H ws → ws.map (·.2) = L → Qd H) :
    ∃ W : Nat → Nat → Hp → Prop, (∃ m, W 0 m (upd H1 D (.lst []))) ∧ ∀ i m H, W i m H →
      (J.stop i H ∧ Qd H) ∨ (J.go i H ∧ ∃ Nx : Hp → Prop, (∀ H', Nx H' → ∃ m', m' < m ∧ W (i + 1) m' H') ∧ ∀ x H', J.yld i H x H' → g x (wipe σ vs) H' fun σ2 H2 => wipe σ2 vs = wipe σ vs ∧ tYes σ2 H2 fun b H3 =>
        if b = true then te σ2 H3 fun y H4 => ∃ acc, H4 D = some (.lst acc) ∧ acc.length < sizeLine ∧ Nx (upd H4 D (.lst (acc ++ [y]))) else Nx H3) := by
  subst hL
  refine lc_it w (fun i H => Same H1 H ∧ ∃ ws, H D = some (.lst (fr ws)) ∧ Rx K H ws ∧ ws.map (·.2) = L.take i) ⟨same_upd hD, [], upd_same, (fun _ z => nomatch z), rfl⟩ (fun i H _ h => hG H h.1) ?_ ?_
  · rintro i x H H' hi ⟨s1, ws, e1, r1, m1⟩ y
    have hr : L[i]? = some L[i] := List.getElem?_eq_getElem hi
    have q := hs i L[i] x H H' (fun y H4 => ∃ acc, H4 D = some (.lst acc) ∧ acc.length < sizeLine ∧ (fun H => Same H1 H ∧ ∃ ws, H D = some (.lst (fr ws)) ∧ Rx K H ws ∧ ws.map (·.2) = L.take (i + 1)) (upd H4 D (.lst (acc ++ [y])))) hr s1 y (fun t H4 s4 f4 => ?_)
    · refine Eq.mp (congrArg (g x (wipe σ vs) H') ?_) q
      funext σ2 H2
      simp [tYes]
    · have e4 := s4 _ _ e1
      have hlen : ws.length = (L.take i).length := by rw [← m1, List.length_map]
      rw [List.length_take] at hlen
      refine ⟨fr ws, e4, ?_, fun b o e => ?_, ws ++ [(t, L[i])], ?_, fun v hv => ?_, ?_⟩
      · rw [fr_len]
        exact small1000 (by omega)
      · rw [upd_ne (ne_of_none e hD)]
        exact s4 _ _ (s1 _ _ e)
      · rw [upd_same, show fr (ws ++ [(t, L[i])]) = fr ws ++ [.ref t] from List.map_append]
      · rcases List.mem_append.mp hv with h | h
        · exact over_tup ((r1.same s4) v h) e4 fun b o hb e => by rw [upd_ne hb]; exact e
        · rw [List.mem_singleton.mp h]
          exact over_tup f4 e4 fun b o hb e => by rw [upd_ne hb]; exact e
      · rw [List.map_append, m1, List.take_add_one, hr]
        rfl
  · rintro H ⟨s1, ws, e1, r1, m1⟩
    rw [List.take_length] at m1
    exact hd H ws s1 e1 r1 m1
/-- a comprehension whose elements are plain values: those of L -/
theorem lc_val {J : It} {n : Nat} {G : Hp → Prop} {Y : Nat → Hp → V → Hp → Prop} (w : Walk J n G Y) (L : List V) (hL : L.length = n) (hz : n ≤ 1000)
    {g : TG} {te : TE} {vs : List Nat} {σ : L2.St} {H1 : Hp} {D : Addr} {Qd : Hp → Prop} (hD : H1 D = none) (hG : ∀ H, Same H1 H → G H)
    (hs : ∀ i r x H H' (k : V → Hp → Prop), L[i]? = some r → Same H1 H → Y i H x H' → (∀ H4, Same H H4 → k r H4) → g x (wipe σ vs) H' fun σ2 H2 => wipe σ2 vs = wipe σ vs ∧ te σ2 H2 k)
    (hd : ∀ H, Same H1 H → H D = some (.lst L) → Qd H) :
    ∃ W : Nat → Nat → Hp → Prop, (∃ m, W 0 m (upd H1 D (.lst []))) ∧ ∀ i m H, W i m H →
      (J.stop i H ∧ Qd H) ∨ (J.go i H ∧ ∃ Nx : Hp → Prop, (∀ H', Nx H' → ∃ m', m' < m ∧ W (i + 1) m' H') ∧ ∀ x H', J.yld i H x H' → g x (wipe σ vs) H' fun σ2 H2 => wipe σ2 vs = wipe σ vs ∧ tYes σ2 H2 fun b H3 =>
        if b = true then te σ2 H3 fun y H4 => ∃ acc, H4 D = some (.lst acc) ∧ acc.length < sizeLine ∧ Nx (upd H4 D (.lst (acc ++ [y]))) else Nx H3) := by
  subst hL
  refine lc_it w (fun i H => Same H1 H ∧ H D = some (.lst (L.take i))) ⟨same_upd hD, upd_same⟩ (fun i H _ h => hG H h.1) ?_ ?_
  · rintro i x H H' hi ⟨s1, e1⟩ y
    have hr : L[i]? = some L[i] := List.getElem?_eq_getElem hi
    have q := hs i L[i] x H H' (fun y H4 => ∃ acc, H4 D = some (.lst acc) ∧ acc.length < sizeLine ∧ (fun H => Same H1 H ∧ H D = some (.lst (L.take (i + 1)))) (upd H4 D (.lst (acc ++ [y])))) hr s1 y (fun H4 s4 => ?_)
    · refine Eq.mp (congrArg (g x (wipe σ vs) H') ?_) q
      funext σ2 H2
      simp [tYes]
    · have e4 := s4 _ _ e1
      refine ⟨L.take i, e4, ?_, fun b o e => ?_, ?_⟩
      · rw [List.length_take]
        exact small1000 (by omega)
      · rw [upd_ne (ne_of_none e hD)]
        exact s4 _ _ (s1 _ _ e)
      · rw [upd_same, List.take_add_one, hr]
        rfl
  · rintro H ⟨s1, e1⟩
    rw [List.take_length] at e1
    exact hd H s1 e1
def sumR (l : List Rat) : Rat := l.foldl (· + ·) 0
theorem foldl_sum (b : Rat) (l : List Rat) : l.foldl (· + ·) b = b + sumR l := by
  unfold sumR
  induction l generalizing b with
  | nil => exact (Rat.add_zero b).symm
  | cons x l ih =>
    rw [List.foldl_cons, List.foldl_cons, ih, ih (0 + x)]
    grind
theorem sum_bd {n : Nat} {l : List Rat} (h : ∀ r ∈ l, Bd n r) : ∀ i ≤ l.length, Bd (1 + (n + 1) * i) (sumR (l.take i)) := by
  intro i
  induction i with
  | zero =>
    intro _
    exact bd_zero
  | succ i ih =>
    intro hi
    have e : l[i]? = some l[i] := List.getElem?_eq_getElem (by omega)
    have b1 := ih (by omega)
    have b2 := h l[i] (List.getElem_mem _)
    have e2 : sumR (l.take (i + 1)) = sumR (l.take i) + l[i] := by
      unfold sumR
      rw [List.take_add_one, e, List.foldl_append]
      rfl
    rw [e2]
    refine (b1.add b2).up ?_
    rw [Nat.mul_succ]
    omega

section
open PySem PySem.Spec PyProof.Rows
/-- a tuple, once: itself -/
theorem mul_once (l : Addr) (its : Array Value) (n : Nat) (dt : Option Addr) (sl : Array (Option Value)) (u : Tok) :
    Meets (Builtin.«tuple.__mul__» ⟨[.ref l, .int 1 u], []⟩) (fun _ R s => s.heap.get? l = some { cls := .type "tuple", dict := dt, data := .seq its n, slots := sl } ∧ R (.ok (.ret (Value.ref l))) s) :=
  .of_wp fun prog w A R s h => by
    obtain ⟨hp, g, dw, tk, os⟩ := s; obtain ⟨hl, h⟩ := h
    have ix := AutoSeq1.idx_int
    wp_walk using wpAny_loadPart' hl
    exact ⟨_, rfl, h⟩
/-- a tuple, no times: an empty one -/
theorem mul_none (l : Addr) (its : Array Value) (n : Nat) (dt : Option Addr) (sl : Array (Option Value)) (u : Tok) (hi : its.isEmpty = false) :
    Meets (Builtin.«tuple.__mul__» ⟨[.ref l, .int 0 u], []⟩) (fun _ R s => s.heap.get? l = some { cls := .type "tuple", dict := dt, data := .seq its n, slots := sl } ∧
      R (.ok (.ret (Value.ref s.heap.objs.size))) { s with heap := s.heap.push { cls := Value.type "tuple", data := Data.seq #[] }, toks := s.toks }) :=
  .of_wp fun prog w A R s h => by
    obtain ⟨hp, g, dw, tk, os⟩ := s; obtain ⟨hl, h⟩ := h
    have ix := AutoSeq1.idx_int
    have c1 : (its.isEmpty || (0 : Int) == 1) = false := by rw [hi]; rfl
    wp_walk using wpAny_loadPart' hl
    repeat (first
      | (refine wpAny_ite_false (decide_eq_false (by rw [c1]; exact Bool.false_ne_true)) ?_; wp_walk using wpAny_loadPart' hl))
    exact ⟨_, rfl, h⟩
section
variable {X : Cx}
theorem op_mulOnce : OpR X (binaryOp .Mult) (fun x y H Q => ∃ l xs, x = .ref l ∧ y = .int 1 ∧ SqT X.K H l xs ∧ Q (.ref l) H) := by
  intro pins s σ H x y v u Q I rx ry hh
  obtain ⟨l, xs, rfl, rfl, hT, q⟩ := hh
  obtain rfl : v = .ref l := rx
  obtain ⟨tk1, rfl⟩ := ry
  obtain ⟨its, r, ⟨⟨kl, dt, da, sl⟩, ho, hc, n, hd⟩, _⟩ := I.tuple hT
  dsimp only at hc hd; subst hc hd
  exact wpAny_binaryOp_repeat_ref (T := "tuple") (U := "int") (by decide) ⟨_, ho, rfl⟩ (fun s' => typeIs_int s' 1 tk1) noFill_tuple_mul F.fills_int_mul F.slot_int_rmul repeat_tuple F.slot_int_index.lookup
    (call_meets F.slot_int_rmul (typeIs_int s 1 tk1) F.entry_int_rmul (F.args_int_rmul_2 _ _) (int_rmul_tuple 1 tk1 l its.toArray n dt sl)
      ⟨ho, rfl, ⟨_, ho, rfl⟩, call_meets F.slot_tuple_mul ⟨_, ho, rfl⟩ F.entry_tuple_mul (F.args_tuple_mul_2 _ _) (mul_once l its.toArray n dt sl tk1) ⟨ho, ⟨.ref l, H, I, rfl, q⟩⟩⟩)
theorem op_mulNone : OpR X (binaryOp .Mult) (fun x y H Q => ∃ l xs, x = .ref l ∧ y = .int 0 ∧ SqT X.K H l xs ∧ xs ≠ [] ∧ ∀ p, H p = none → Q (.ref p) (upd H p (.tup []))) := by
  intro pins s σ H x y v u Q I rx ry hh
  obtain ⟨l, xs, rfl, rfl, hT, hne, q⟩ := hh
  obtain rfl : v = .ref l := rx
  obtain ⟨tk1, rfl⟩ := ry
  obtain ⟨its, r, ⟨⟨kl, dt, da, sl⟩, ho, hc, n, hd⟩, _⟩ := I.tuple hT
  dsimp only at hc hd; subst hc hd
  have hi : its.toArray.isEmpty = false := by
    cases r with
    | nil => exact absurd rfl hne
    | cons _ _ => rfl
  exact wpAny_binaryOp_repeat_ref (T := "tuple") (U := "int") (by decide) ⟨_, ho, rfl⟩ (fun s' => typeIs_int s' 0 tk1) noFill_tuple_mul F.fills_int_mul F.slot_int_rmul repeat_tuple F.slot_int_index.lookup
    (call_meets F.slot_int_rmul (typeIs_int s 0 tk1) F.entry_int_rmul (F.args_int_rmul_2 _ _) (int_rmul_tuple 0 tk1 l its.toArray n dt sl)
      ⟨ho, rfl, ⟨_, ho, rfl⟩, call_meets F.slot_tuple_mul ⟨_, ho, rfl⟩ F.entry_tuple_mul (F.args_tuple_mul_2 _ _) (mul_none l its.toArray n dt sl tk1 hi) ⟨ho,
        ⟨.ref s.heap.objs.size, _, I.laid (t' := s.toks) (o := .tup []) (fun b ob e => Heap.get?_push_of_some _ e) (Nat.le_refl _) ⟨by show 0 ≤ sizeLine; decide, [], .nil, IsTup.new _ _⟩, rfl, q _ (I.hok.fresh (Nat.le_refl _))⟩⟩⟩)
end
end

def Bz (n : Nat) (x : Int) : Prop := x.natAbs < 2 ^ n
theorem Bz.up {n m : Nat} {x : Int} (h : Bz n x) (hm : n ≤ m) : Bz m x := Nat.lt_of_lt_of_le h (Nat.pow_le_pow_right (by decide) hm)
theorem Bz.mul {n m : Nat} {x y : Int} (h : Bz n x) (h2 : Bz m y) : Bz (n + m) (x * y) := wide_lt h h2
theorem Bz.neg {n : Nat} {x : Int} (h : Bz n x) : Bz n (-x) := by
  unfold Bz
  rw [Int.natAbs_neg]
  exact h
theorem Bz.add {n m : Nat} {x y : Int} (h : Bz n x) (h2 : Bz m y) : Bz (max n m + 1) (x + y) := by
  have a1 := h.up (Nat.le_max_left n m)
  have a2 := h2.up (Nat.le_max_right n m)
  unfold Bz at *
  rw [Nat.pow_succ]
  have := Int.natAbs_add_le x y
  omega
theorem Bz.sub {n m : Nat} {x y : Int} (h : Bz n x) (h2 : Bz m y) : Bz (max n m + 1) (x - y) := h.add h2.neg
theorem Bz.wide {n m : Nat} {x y : Int} (h : Bz n x) (h2 : Bz m y) (hn : n + m ≤ 900000) : CMulW x y :=
  wide_mul (h.up (Nat.le_succ n)) (h2.up (Nat.le_succ m)) (Nat.succ_pos _) (Nat.succ_pos _) (by omega)
theorem Bd.nz {n : Nat} {r : Rat} (h : Bd n r) : Bz n r.num := h.1
theorem Bd.dz {n : Nat} {r : Rat} (h : Bd n r) : Bz n (r.den : Int) := h.2
theorem bz_of {n : Nat} {x : Int} (h : x.natAbs < 2 ^ n) : Bz n x := h
theorem bz_lt {n : Nat} {x : Int} {b : Nat} (hb : b ≤ 2 ^ n) (h : x.natAbs < b) : Bz n x := Nat.lt_of_lt_of_le h hb
theorem bd_div {n d : Int} {k : Nat} (hd : d ≠ 0) (h1 : Bz k n) (h2 : Bz k d) : Bd k (Rat.divInt n d) := bd_of hd h1 h2
theorem tn {n : Nat} (h : Nat.ble n 1000 = true) : n ≤ sizeLine := Nat.le_trans (Nat.le_of_ble_eq_true h) (by decide)
theorem same_hu {H H' : Hp} {p : Addr} {o : HO} (h : upd H p o = H') (n : H p = none) : Same H H' := h ▸ same_upd n
theorem at_hu {H H' : Hp} {p : Addr} {o : HO} (h : upd H p o = H') : H' p = some o := h ▸ upd_same
theorem same_tr {H H1 H2 : Hp} (h2 : Same H1 H2) (h1 : Same H H1) : Same H H2 := h1.trans h2
theorem fx_up {K : PySem.W.Frag} {H H' : Hp} {a : Addr} {r : Rat} (s : Same H H') (h : Fx K H a r) : Fx K H' a r := h.same s
theorem vx_up {K : PySem.W.Frag} {H H' : Hp} {a : Addr} {r : Rat} {ss : List Rat} (s : Same H H') (h : Vx K H a r ss) : Vx K H' a r ss := h.same s
theorem seq_up {K : PySem.W.Frag} {H H' : Hp} {a : Addr} {xs : List V} (s : Same H H') (h : SqL K H a xs) : SqL K H' a xs := s.seq h
local macro_rules | `(tactic| walk_at "ss") => `(tactic| first | exact Same.refl _ | assumption | exact same_tr (by assumption) (by walk_at "ss"))
local macro_rules | `(tactic| walk_at "bz") => `(tactic| first | assumption | exact Bd.nz (by assumption) | exact Bd.dz (by assumption) | exact Bz.mul (by walk_at "bz") (by walk_at "bz") | exact Bz.add (by walk_at "bz") (by walk_at "bz") | exact Bz.sub (by walk_at "bz") (by walk_at "bz") | exact Bz.neg (by walk_at "bz") | exact bz_of (n := 1) (by decide) | exact bz_of (n := 4) (by decide)| exact bz_of (n := 8) (by decide)| exact bz_of (n := 20) (by decide))
local macro_rules | `(tactic| walk_at "sm0") => `(tactic| assumption)
local macro_rules | `(tactic| walk_at "sm1") => `(tactic| first | assumption | exact same_tup (by assumption) (by walk_at "sm0"))
local macro_rules | `(tactic| walk_at "sm2") => `(tactic| first | assumption | exact same_tup (by assumption) (by walk_at "sm1"))
local macro_rules | `(tactic| walk_at "sm3") => `(tactic| first | assumption | exact same_tup (by assumption) (by walk_at "sm2"))
local macro_rules | `(tactic| walk_at "sm4") => `(tactic| first | assumption | exact same_tup (by assumption) (by walk_at "sm3"))
local macro_rules | `(tactic| walk_at "sm5") => `(tactic| first | assumption | exact same_tup (by assumption) (by walk_at "sm4"))
local macro_rules | `(tactic| walk_at "sm6") => `(tactic| first | assumption | exact same_tup (by assumption) (by walk_at "sm5"))
local macro_rules | `(tactic| walk_at "sm7") => `(tactic| first | assumption | exact same_tup (by assumption) (by walk_at "sm6"))
local macro_rules | `(tactic| walk_at "sm") => `(tactic| walk_at "sm7")
local macro_rules | `(tactic| walk_at "sf0") => `(tactic| assumption)
local macro_rules | `(tactic| walk_at "sf1") => `(tactic| first | assumption | exact fx_up (by assumption) (by walk_at "sf0") | exact vx_up (by assumption) (by walk_at "sf0") | exact seq_up (by assumption) (by walk_at "sf0"))
local macro_rules | `(tactic| walk_at "sf2") => `(tactic| first | assumption | exact fx_up (by assumption) (by walk_at "sf1") | exact vx_up (by assumption) (by walk_at "sf1") | exact seq_up (by assumption) (by walk_at "sf1"))
local macro_rules | `(tactic| walk_at "sf3") => `(tactic| first | assumption | exact fx_up (by assumption) (by walk_at "sf2") | exact vx_up (by assumption) (by walk_at "sf2") | exact seq_up (by assumption) (by walk_at "sf2"))
local macro_rules | `(tactic| walk_at "sf4") => `(tactic| first | assumption | exact fx_up (by assumption) (by walk_at "sf3") | exact vx_up (by assumption) (by walk_at "sf3") | exact seq_up (by assumption) (by walk_at "sf3"))
local macro_rules | `(tactic| walk_at "sf5") => `(tactic| first | assumption | exact fx_up (by assumption) (by walk_at "sf4") | exact vx_up (by assumption) (by walk_at "sf4") | exact seq_up (by assumption) (by walk_at "sf4"))
local macro_rules | `(tactic| walk_at "sf6") => `(tactic| first | assumption | exact fx_up (by assumption) (by walk_at "sf5") | exact vx_up (by assumption) (by walk_at "sf5") | exact seq_up (by assumption) (by walk_at "sf5"))
local macro_rules | `(tactic| walk_at "sf7") => `(tactic| first | assumption | exact fx_up (by assumption) (by walk_at "sf6") | exact vx_up (by assumption) (by walk_at "sf6") | exact seq_up (by assumption) (by walk_at "sf6"))
local macro_rules | `(tactic| walk_at "sf") => `(tactic| walk_at "sf7")
local macro_rules | `(tactic| walk_at "go") => `(tactic| repeat (first | refine ⟨_, rfl, ?_⟩ | refine ⟨rfl, ?_⟩ | refine ⟨_, _, rfl, rfl, ?_⟩ | refine ⟨Bz.wide (by walk_at "bz") (by walk_at "bz") (by decide), ?_⟩ | refine ⟨_, _, _, _, rfl, rfl, (by walk_at "sm"), atI_nat (j := 0) (by rfl), ?_⟩ | refine ⟨_, _, _, _, rfl, rfl, (by walk_at "sm"), atI_nat (j := 1) (by rfl), ?_⟩ | refine ⟨_, _, _, _, rfl, rfl, (by walk_at "sm"), atI_nat (j := 2) (by rfl), ?_⟩ | refine ⟨_, _, _, _, rfl, rfl, (by walk_at "sm"), atI_nat (j := 3) (by rfl), ?_⟩ | refine ⟨_, _, rfl, (by walk_at "sm"), (by rfl), ?_⟩ | refine ⟨⟨by decide, by decide⟩, ?_⟩ | refine ⟨(by show (0 : Int) < _; decide), ?_⟩ | refine ⟨Or.inr ⟨by decide, by decide⟩, ?_⟩ | refine ⟨Or.inl ⟨by decide, by decide⟩, ?_⟩ | refine Or.inl ⟨_, rfl, ?_⟩ | refine And.intro (by assumption) ?_ | refine ⟨_, _, rfl, ?_⟩))
/-- a comprehension whose elements are things of a kind R that stands while nothing but the new list changes -/
theorem lc_obj {J : It} {n : Nat} {G : Hp → Prop} {Y : Nat → Hp → V → Hp → Prop} (w : Walk J n G Y) (R : Nat → Hp → V → Prop)
    (stab : ∀ {i H H' v D acc}, R i H v → H D = some (.lst acc) → (∀ b o, b ≠ D → H b = some o → H' b = some o) → R i H' v) (hz : n ≤ 1000)
    {g : TG} {te : TE} {vs : List Nat} {σ : L2.St} {H1 : Hp} {D : Addr} {Qd : Hp → Prop} (hD : H1 D = none) (hG : ∀ H, Same H1 H → G H)
    (hs : ∀ i x H H' (k : V → Hp → Prop), i < n → Same H1 H → Y i H x H' → (∀ v H4, Same H H4 → R i H4 v → k v H4) → g x (wipe σ vs) H' fun σ2 H2 => wipe σ2 vs = wipe σ vs ∧ te σ2 H2 k)
    (hd : ∀ H us, Same H1 H → H D = some (.lst us) → us.length = n → (∀ i v, us[i]? = some v → R i H v) → Qd H) :
    ∃ W : Nat → Nat → Hp → Prop, (∃ m, W 0 m (upd H1 D (.lst []))) ∧ ∀ i m H, W i m H →
      (J.stop i H ∧ Qd H) ∨ (J.go i H ∧ ∃ Nx : Hp → Prop, (∀ H', Nx H' → ∃ m', m' < m ∧ W (i + 1) m' H') ∧ ∀ x H', J.yld i H x H' → g x (wipe σ vs) H' fun σ2 H2 => wipe σ2 vs = wipe σ vs ∧ tYes σ2 H2 fun b H3 =>
        if b = true then te σ2 H3 fun y H4 => ∃ acc, H4 D = some (.lst acc) ∧ acc.length < sizeLine ∧ Nx (upd H4 D (.lst (acc ++ [y]))) else Nx H3) := by
  refine lc_it w (fun i H => Same H1 H ∧ ∃ us, H D = some (.lst us) ∧ us.length = i ∧ ∀ j v, us[j]? = some v → R j H v) ⟨same_upd hD, [], upd_same, rfl, (fun j v h => by simp at h)⟩ (fun i H _ h => hG H h.1) ?_ ?_
  · rintro i x H H' hi ⟨s1, us, e1, l1, r1⟩ y
    have q := hs i x H H' (fun y H4 => ∃ acc, H4 D = some (.lst acc) ∧ acc.length < sizeLine ∧ (fun H => Same H1 H ∧ ∃ us, H D = some (.lst us) ∧ us.length = i + 1 ∧ ∀ j v, us[j]? = some v → R j H v) (upd H4 D (.lst (acc ++ [y])))) hi s1 y (fun v H4 s4 f4 => ?_)
    · refine Eq.mp (congrArg (g x (wipe σ vs) H') ?_) q
      funext σ2 H2
      simp [tYes]
    · have e4 := s4 _ _ e1
      refine ⟨us, e4, small1000 (by omega), fun b o e => ?_, us ++ [v], upd_same, by rw [List.length_append, l1]; rfl, fun j u hu => ?_⟩
      · rw [upd_ne (ne_of_none e hD)]
        exact s4 _ _ (s1 _ _ e)
      · by_cases hj : j < i
        · rw [List.getElem?_append_left (by omega)] at hu
          have hf := stab (r1 j u hu) e1 (fun b o _ e => s4 b o e)
          exact stab hf e4 fun b o hb e => by rw [upd_ne hb]; exact e
        · have hj2 : j < (us ++ [v]).length := (List.getElem?_eq_some_iff.mp hu).1
          rw [List.length_append, l1] at hj2
          have hj3 : j = i := by
            simp at hj2
            omega
          subst hj3
          rw [List.getElem?_append_right (by omega), l1, Nat.sub_self] at hu
          obtain rfl : v = u := Option.some.inj hu
          exact stab f4 e4 fun b o hb e => by rw [upd_ne hb]; exact e
  · rintro H ⟨s1, us, e1, l1, r1⟩
    exact hd H us s1 e1 l1 r1
theorem over_fx {K : PySem.W.Frag} {H H' : Hp} {t D : Addr} {r : Rat} {ys : List V} (h : Fx K H t r) (hl : H D = some (.lst ys)) (s : ∀ b o, b ≠ D → H b = some o → H' b = some o) : Fx K H' t r := over_tup h hl s
theorem over_vx {K : PySem.W.Frag} {H H' : Hp} {t D : Addr} {b : Rat} {ss : List Rat} {ys : List V} (h : Vx K H t b ss) (hl : H D = some (.lst ys)) (s : ∀ b o, b ≠ D → H b = some o → H' b = some o) : Vx K H' t b ss := by
  obtain ⟨p, q, ws, h1, h2, h3, h4, h5⟩ := h
  exact ⟨p, q, ws, over_tup h1 hl s, over_tup h2 hl s, over_tup h3 hl s, fun w hw => over_tup (h4 w hw) hl s, h5⟩

theorem zw_get {xs us : List Rat} {i : Nat} (h : i < xs.length) (h2 : i < us.length) : (List.zipWith (fun r s => r * s) xs us)[i]? = some (xs[i] * us[i]) := by
  rw [List.getElem?_zipWith, List.getElem?_eq_getElem h, List.getElem?_eq_getElem h2]
theorem zw_bd {n : Nat} {xs us : List Rat} (h1 : ∀ r ∈ xs, Bd n r) (h2 : ∀ r ∈ us, Bd n r) : ∀ r ∈ List.zipWith (fun r s => r * s) xs us, Bd (n + n) r := by
  induction xs generalizing us with
  | nil =>
    intro r hr
    cases us <;> cases hr
  | cons x xs ih =>
    cases us with
    | nil =>
      intro r hr
      cases hr
    | cons u us =>
      intro r hr
      rw [List.zipWith_cons_cons] at hr
      rcases List.mem_cons.mp hr with rfl | h
      · exact (h1 x List.mem_cons_self).mul (h2 u List.mem_cons_self)
      · exact ih (fun r hr => h1 r (List.mem_cons_of_mem _ hr)) (fun r hr => h2 r (List.mem_cons_of_mem _ hr)) r h
theorem take_sum {l : List Rat} {i : Nat} {r : Rat} (h : l[i]? = some r) : sumR (l.take (i + 1)) = sumR (l.take i) + r := by
  unfold sumR
  rw [List.take_add_one, h, List.foldl_append]
  rfl
theorem eqvv_self (b : Rat) (ss : List Rat) : PyData.eqv (pdv b ss) (pdv b ss) = true := by
  rw [eqvv]
  exact decide_eq_true ⟨rfl, rfl⟩
theorem eqvr_self (b : Rat) : PyData.eqv (pdr b) (pdr b) = true := by
  rw [eqvr]
  exact decide_eq_true rfl
theorem eqvl_self (ss : List Rat) : PyData.eqv (.list (ss.map pdr)) (.list (ss.map pdr)) = true := by
  rw [PyData.eqv, eqvAllr]
  exact decide_eq_true rfl
theorem zw_some {op : Rat → Rat → Rat} {xs ys : List Rat} {i : Nat} {c : Rat} (h : (List.zipWith op xs ys)[i]? = some c) : ∃ x y, xs[i]? = some x ∧ ys[i]? = some y ∧ op x y = c := by
  rw [List.getElem?_zipWith] at h
  cases e1 : xs[i]? with
  | none =>
    rw [e1] at h
    cases h
  | some x =>
    cases e2 : ys[i]? with
    | none =>
      rw [e1, e2] at h
      cases h
    | some y =>
      rw [e1, e2] at h
      exact ⟨x, y, rfl, rfl, Option.some.inj h⟩
theorem sum_cons (x : Rat) (l : List Rat) : sumR (x :: l) = x + sumR l := by
  show (x :: l).foldl (· + ·) 0 = _
  rw [List.foldl_cons, foldl_sum, Rat.zero_add]
theorem zw_add (us : List Rat) : ∀ {xs ys : List Rat}, xs.length = us.length → ys.length = us.length → sumR (List.zipWith (fun r s => r * s) (List.zipWith (fun r s => r + s) xs ys) us) = sumR (List.zipWith (fun r s => r * s) xs us) + sumR (List.zipWith (fun r s => r * s) ys us) := by
  induction us with
  | nil =>
    intro xs ys h1 h2
    rw [List.zipWith_nil_right, List.zipWith_nil_right, List.zipWith_nil_right]
    exact (Rat.add_zero 0).symm
  | cons u us ih =>
    intro xs ys h1 h2
    cases xs with
    | nil => cases h1
    | cons x xs =>
      cases ys with
      | nil => cases h2
      | cons y ys =>
        rw [List.zipWith_cons_cons, List.zipWith_cons_cons, List.zipWith_cons_cons, List.zipWith_cons_cons, sum_cons, sum_cons, sum_cons, ih (by simpa using h1) (by simpa using h2)]
        grind
theorem zw_sub (xs ys : List Rat) : List.zipWith (fun r s => r + s) xs (ys.map fun y => -1 * y) = List.zipWith (fun r s => r - s) xs ys := by
  rw [List.zipWith_map_right]
  congr 1
  funext r s
  grind
theorem neg_map (ys : List Rat) : (ys.map fun y => -1 * y) = ys.map fun y => -y := by
  congr 1
  funext y
  grind
theorem ind_sum : ∀ (us : List Rat) (m : Nat) (f : Nat → Rat), (∀ i, i ≠ m → f i = 0) → f m = 1 → ∀ u, us[m]? = some u → sumR (List.zipWith (fun r s => r * s) ((List.range us.length).map f) us) = u := by
  have hz : ∀ (us : List Rat) (f : Nat → Rat), (∀ i, f i = 0) → sumR (List.zipWith (fun r s => r * s) ((List.range us.length).map f) us) = 0 := by
    intro us
    induction us with
    | nil => intro f _; rfl
    | cons u us ih =>
      intro f hf
      rw [List.length_cons, List.range_succ_eq_map, List.map_cons, List.zipWith_cons_cons, sum_cons, List.map_map, hf 0]
      rw [show (f ∘ Nat.succ) = fun i => f (i + 1) from rfl, ih (fun i => f (i + 1)) (fun i => hf (i + 1))]
      grind
  intro us
  induction us with
  | nil =>
    intro m f _ _ u h
    cases h
  | cons v us ih =>
    intro m f hf hm u h
    rw [List.length_cons, List.range_succ_eq_map, List.map_cons, List.zipWith_cons_cons, sum_cons, List.map_map, show (f ∘ Nat.succ) = fun i => f (i + 1) from rfl]
    cases m with
    | zero =>
      obtain rfl : v = u := Option.some.inj h
      rw [hm, hz us (fun i => f (i + 1)) (fun i => hf (i + 1) (by omega))]
      grind
    | succ m =>
      rw [ih m (fun i => f (i + 1)) (fun i hi => hf (i + 1) (by omega)) hm u h, hf 0 (by omega)]
      grind
theorem all_rep {xs : List Rat} {n : Nat} (h : xs.length = n) (x : Rat) : (decide (x = 0) && xs.all fun y => decide (y = 0)) = decide (x = 0 ∧ xs = List.replicate n 0) := by
  have e : (xs.all fun y => decide (y = 0)) = decide (xs = List.replicate n 0) := by
    rw [Bool.eq_iff_iff, List.all_eq_true, decide_eq_true_iff, List.eq_replicate_iff]
    constructor
    · exact fun g => ⟨h, fun b hb => of_decide_eq_true (g b hb)⟩
    · exact fun g b hb => decide_eq_true (g.2 b hb)
  rw [e]
  by_cases h1 : x = 0
  · by_cases h2 : xs = List.replicate n 0
    · simp [h1, h2]
    · simp [h1, h2]
  · simp [h1]
theorem at_bd {x : Rat} {xs us : List Rat} (bx : Bd 30 x) (h1 : ∀ r ∈ xs, Bd 30 r) (h2 : ∀ r ∈ us, Bd 30 r) (hl : xs.length ≤ 9) : Bd 800 (x + sumR (List.zipWith (fun r s => r * s) xs us)) := by
  have b := sum_bd (zw_bd h1 h2) _ (Nat.le_refl _)
  rw [List.take_length] at b
  exact (bx.add b).up (by rw [List.length_zipWith]; omega)
theorem fx_lit {K : PySem.W.Frag} {H : Hp} {a : Addr} {r : Rat} {p q : Int} (h : H a = some (.tup [.int p, .int q])) (h1 : r.num = p) (h2 : (r.den : Int) = q) : Fx K H a r := by
  subst h1 h2
  exact SqT.of h
theorem eqvbb (a b : Bool) : PyData.eqv (.bool a) (.bool b) = (a == b) := by simp [PyData.eqv]

theorem iteF' {b : Bool} {p q : Prop} (h : b = false) (hq : q) : if b = true then p else q := by
  rw [h, if_neg Bool.false_ne_true]
  exact hq
theorem iteT' {b : Bool} {p q : Prop} (h : b = true) (hp : p) : if b = true then p else q := by
  rw [h, if_pos rfl]
  exact hp

section
open PySem PySem.Spec PySem.Calls PyProof.Rows PySem.W
/-- a list taken apart, one of the targets with a star -/
theorem tp_parts {prog : Program} {w : World} {A : Around} {E : Value → Shared → Prop} {s : Shared} {a : Addr} {its : Array Value} {n i : Nat} {Q : List Value → Shared → Prop} (hl : s.heap.IsList a its) (hh : A.handled = none) (hi : i < n) (hn : n ≤ its.size + 1) (hz : its.size ≤ 16384)
    (h : ∀ (h' : Heap) tk, (∀ b o, s.heap.get? b = some o → h'.get? b = some o) → Q (its.toList.take i ++ [.ref h'.objs.size] ++ (its.toList.drop i).drop (its.size + 1 - n)) { s with heap := h'.push { cls := .type "list", data := .seq ((its.toList.drop i).take (its.size + 1 - n)).toArray }, toks := tk }) :
    wpAny (model prog w) A (unpackItems (.ref a) n (some i)) Q E s := by
  have far : a ≠ s.heap.objs.size := by
    obtain ⟨o, ho, _⟩ := hl
    exact Nat.ne_of_lt (Heap.lt_size ho)
  unfold unpackItems
  refine wpAny_bind ?_
  unfold notIterableAtAll
  refine wpAny_bind (wpAny_specialOf hl.typeIs slot_list_iter.lookup ?_)
  refine wpAny_pure ?_
  simp only [Bool.false_eq_true, if_false]
  refine wpAny_bind (wpAny_holding (wpAny_pyIter_list hl ?_))
  refine wpAny_bind (wpAny_holding (kun_draw far i 0 _ _ ⟨_, Heap.get?_push_size _ rfl, rfl, rfl⟩ (hl.push _) (by omega) fun h1 it1 sb => ?_))
  have l1 : h1.IsList a its := (hl.push _).extBut sb.extBut far
  rw [Nat.zero_add] at it1
  obtain ⟨oi, hoi, _⟩ := id it1
  obtain ⟨ol, hol, _⟩ := id l1
  rw [List.drop_zero]
  have f1 : (its.toList.take i).length = i := by
    rw [List.length_take, Array.length_toList]
    omega
  rw [if_neg (by rw [f1]; exact Nat.lt_irrefl _)]
  refine wpAny_bind (wpAny_holding (kun_collect (s := { s with heap := h1 }) (T := "list_iterator") (.inr (.inr (.inl rfl))) (Walks.list (A := A.in1) hh s.heap.objs.size a far its) (fun j u st => st.1.typeIs) (k := i) (by omega) ⟨it1, l1⟩ (Heap.lt_size hoi) (Heap.lt_size hol) (fun h2 tk hk => ?_) (by rw [sizeLine_eq]; exact Nat.le_trans hz (by decide))))
  have f2 : (its.toList.drop i).length = its.size - i := by
    rw [List.length_drop, Array.length_toList]
  have f3 : (its.toList.drop i).length - (n - 1 - i) = its.size + 1 - n := by
    rw [f2]
    omega
  show wpAny _ _ (if (its.toList.drop i).length < n - 1 - i then _ else _) _ _ _
  rw [if_neg (by rw [f2]; omega)]
  show wpAny _ _ (newList ((its.toList.drop i).take ((its.toList.drop i).length - (n - 1 - i))) >>= fun d => pure (its.toList.take i ++ [d] ++ (its.toList.drop i).drop ((its.toList.drop i).length - (n - 1 - i)))) _ _ _
  rw [f3]
  have old : ∀ b o, s.heap.get? b = some o → h2.get? b = some o := fun b o e => by
    have nb : b ≠ s.heap.objs.size := Nat.ne_of_lt (Heap.lt_size e)
    exact hk b o nb (sb.extBut b o nb (Heap.get?_push_of_some _ e))
  refine wpAny_bind (PySem.wpAny_newList (wpAny_pure (h h2 tk old)) ?_)
  rw [List.length_take, f2, sizeLine_eq]
  omega
end
section
open PySem PySem.Spec PyProof.Rows
variable {X : Cx} {pos : Pos}
theorem vals_take {vs : List V} {us : List Value} (r : Vals vs us) (n : Nat) : Vals (vs.take n) (us.take n) := by
  induction r generalizing n with
  | nil =>
    rw [List.take_nil, List.take_nil]
    exact .nil
  | cons h t ih =>
    cases n with
    | zero => exact .nil
    | succ n => exact .cons h (ih n)
theorem vals_drop {vs : List V} {us : List Value} (r : Vals vs us) (n : Nat) : Vals (vs.drop n) (us.drop n) := by
  induction r generalizing n with
  | nil =>
    rw [List.drop_nil, List.drop_nil]
    exact .nil
  | cons h t ih =>
    cases n with
    | zero => exact .cons h t
    | succ n => exact ih n
theorem vals_app {vs ws : List V} {us ys : List Value} (r : Vals vs us) (q : Vals ws ys) : Vals (vs ++ ws) (us ++ ys) := by
  induction r with
  | nil => exact q
  | cons h t ih => exact .cons h ih
theorem pgs_star {e : Expr} {p : Pos} {es : List Expr} {t : TG} {u : TGs} (h1 : PG X e t) (h2 : PGs X es u)
    (hs : (assignEach (.Starred e p :: es) X.env).map (·.2) = assign e X.env :: (assignEach es X.env).map (·.2) := by rfl) : PGs X (.Starred e p :: es) (gCons t u) := by
  refine ⟨fun pins s σ H vs us Q I r h => ?_⟩
  obtain ⟨v, vr, e1, h⟩ := h
  subst e1
  cases r with
  | cons r rr =>
    rw [hs]
    refine assignInOrder_cons (thn (h1.run pins s σ H _ _ _ I r h) fun _ s1 ⟨σ1, H1, I1, q1⟩ => ?_)
    exact h2.run pins s1 σ1 H1 _ _ Q I1 rr q1
/-- (a, *b, ..) = a list, the star at place i of n -/
def gStar (K : PySem.W.Frag) (n i : Nat) (t : TGs) : TG := fun v σ H Q => ∃ a xs, v = .ref a ∧ SqL K H a xs ∧ n ≤ xs.length + 1 ∧ xs.length ≤ 16384 ∧
  ∀ D, H D = none → t (xs.take i ++ [.ref D] ++ (xs.drop i).drop (xs.length + 1 - n)) σ (upd H D (.lst ((xs.drop i).take (xs.length + 1 - n)))) Q
theorem pg_star {es : List Expr} {k : Nat} {t : TGs} {n i : Nat} (hc : X.calm = true) (h : PGs X es t)
    (hn : (assignEach es X.env).length = n := by rfl) (hst : (assignEach es X.env).findIdx? (·.1) = some i := by rfl) (hi : i < n := by decide) : PG X (.Tuple es k pos) (gStar X.K n i t) := by
  refine ⟨fun pins s σ H v u Q I r hw => ?_⟩
  obtain ⟨a, xs, e1, hq, hl, hm, hw⟩ := hw
  subst e1
  cases r
  obtain ⟨its, rv, pl, hz⟩ := I.list hq
  have hlen := rv.length
  have hl' : s.heap.IsList a its.toArray := pl.isList
  rw [PyProof.Rows.assign_Tuple]
  refine wpAny_bind (wpAny_standAt ?_)
  unfold unpack
  rw [hn, hst]
  refine wpAny_bind (wpAny_holding (tp_parts hl' (I.ok.hd hc) hi (by rw [List.size_toArray]; omega) (by rw [List.size_toArray]; omega) fun h' tk hx => ?_))
  have I1 : Inv X pins σ H { s with heap := h', toks := tk } := I.kept (t' := tk) hx
  have ez : its.toArray.size = xs.length := by rw [List.size_toArray, hlen]
  rw [ez, show its.toArray.toList = its from rfl]
  have I2 := I1.laid (a := h'.objs.size) (o := .lst ((xs.drop i).take (xs.length + 1 - n))) (h' := h'.push { cls := .type "list", data := .seq ((its.drop i).take (xs.length + 1 - n)).toArray }) (t' := tk) (fun b o e => Heap.get?_push_of_some _ e) (Nat.le_refl _)
    ⟨by
      rw [List.length_take, List.length_drop, PySem.sizeLine_eq]
      omega, _, 0, vals_take (vals_drop rv i) _, Heap.get?_push_size _ rfl⟩
  refine h.run pins _ σ _ _ _ Q I2 ?_ (hw _ (I1.hok.fresh (Nat.le_refl _)))
  exact vals_app (vals_app (vals_take rv i) (.cons rfl .nil)) (vals_drop (vals_drop rv i) _)
end

def Px (K : PySem.W.Frag) (H : Hp) (t : Addr) (r1 r2 r3 : Rat) : Prop := ∃ p q r : Addr, SqT K H t [.ref p, .ref q, .ref r] ∧ Fx K H p r1 ∧ Fx K H q r2 ∧ Fx K H r r3
theorem Px.same {K : PySem.W.Frag} {H H' : Hp} {t : Addr} {r1 r2 r3 : Rat} (h : Px K H t r1 r2 r3) (e : Same H H') : Px K H' t r1 r2 r3 := by
  obtain ⟨p, q, r, h1, h2, h3, h4⟩ := h
  exact ⟨p, q, r, same_tup e h1, h2.same e, h3.same e, h4.same e⟩
/-- the i-th of three -/
def th {α : Type} (a b c : α) : Nat → α
  | 0 => a
  | 1 => b
  | _ => c
theorem th_get {α : Type} {a b c : α} {i : Nat} {u : α} (h : [a, b, c][i]? = some u) : i < 3 ∧ u = th a b c i := by
  have hi : i < 3 := (List.getElem?_eq_some_iff.mp h).1
  refine ⟨hi, ?_⟩
  obtain rfl | rfl | rfl : i = 0 ∨ i = 1 ∨ i = 2 := by omega
  all_goals exact (Option.some.inj h).symm
theorem th_all {α : Type} {P : α → Prop} {a b c : α} (h1 : P a) (h2 : P b) (h3 : P c) (i : Nat) : P (th a b c i) := by
  unfold th
  split
  · exact h1
  · exact h2
  · exact h3
theorem div_one (n : Int) : Rat.divInt n 1 = (n : Rat) := by
  exact (Rat.divInt_ofNat n 1).trans (Rat.mkRat_one n)
theorem bd_int {n : Int} {k : Nat} (h : Bz k n) (hk : 0 < k) : Bd k (n : Rat) :=
  ⟨h, by
    show 1 < 2 ^ k
    exact Nat.one_lt_two_pow (by omega)⟩
theorem one3 {xs : List V} (h : xs.length = 3) : ∃ a b c, xs = [a, b, c] := by
  match xs, h with
  | [a, b, c], _ => exact ⟨a, b, c, rfl⟩
theorem one1 {xs : List V} (h : xs.length = 1) : ∃ a, xs = [a] := by
  match xs, h with
  | [a], _ => exact ⟨a, rfl⟩
/-- a point: its three fractions -/
structure Pt (K : PySem.W.Frag) (H : Hp) (t : Addr) (p1 q1 p2 q2 p3 q3 : Int) : Prop where
  ex : ∃ a b c : Addr, SqT K H t [.ref a, .ref b, .ref c] ∧ SqT K H a (zs [p1, q1]) ∧ SqT K H b (zs [p2, q2]) ∧ SqT K H c (zs [p3, q3])
  b1 : p1.natAbs < 2 ^ 100 ∧ p2.natAbs < 2 ^ 100 ∧ p3.natAbs < 2 ^ 100
  b2 : q1.natAbs < 2 ^ 100 ∧ q2.natAbs < 2 ^ 100 ∧ q3.natAbs < 2 ^ 100
  b3 : 0 < q1 ∧ 0 < q2 ∧ 0 < q3
theorem Pt.same {K : PySem.W.Frag} {H H' : Hp} {t : Addr} {p1 q1 p2 q2 p3 q3 : Int} (p : Pt K H t p1 q1 p2 q2 p3 q3) (s : Same H H') : Pt K H' t p1 q1 p2 q2 p3 q3 := by
  obtain ⟨a, b, c, h, h1, h2, h3⟩ := p.ex
  exact ⟨⟨a, b, c, same_tup s h, same_tup s h1, same_tup s h2, same_tup s h3⟩, p.b1, p.b2, p.b3⟩
/-- the product of a direction and a point, over one divisor -/
def rn (x y z p1 q1 p2 q2 p3 q3 : Int) : Int := x * p1 * q2 * q3 + y * p2 * q1 * q3 + z * p3 * q1 * q2
/-- a plane: its normal, its offset -/
structure Wl (K : PySem.W.Frag) (H : Hp) (w : Addr) (x y z p q : Int) : Prop where
  ex : ∃ u o : Addr, SqT K H w [.ref u, .ref o] ∧ SqT K H u (zs [x, y, z]) ∧ SqT K H o (zs [p, q])
theorem Wl.same {K : PySem.W.Frag} {H H' : Hp} {w : Addr} {x y z p q : Int} (h : Wl K H w x y z p q) (s : Same H H') : Wl K H' w x y z p q := by
  obtain ⟨u, o, h1, h2, h3⟩ := h.ex
  exact ⟨u, o, same_tup s h1, same_tup s h2, same_tup s h3⟩
/-- the side of a point: by its product brought to lowest terms -/
def sd (x y z p q p1 q1 p2 q2 p3 q3 : Int) : Int := sgn (rn x y z p1 q1 p2 q2 p3 q3 * q - p * (q1 * q2 * q3))
theorem sd_low {A B a b p q : Int} (f : Fr A B a b) (hB : 0 < B) (hq : 0 < q) : sgn ((a * q - p * b).fdiv (sg (a * q - p * b) (b * q))) = sgn (A * q - p * B) := by
  have b0 := f.q0
  rw [sgn_low (Int.mul_pos b0 hq)]
  have h1 : 0 < sg A B := sg_pos hB
  have e1 := f.hp
  have e2 := f.hq
  rw [← sgn_mul (a := a * q - p * b) h1]
  congr 1
  grind
theorem sd_low2 {A B a b p q : Int} (f : Fr A B a b) (hB : 0 < B) : sgn (a * q - p * b) = sgn (A * q - p * B) := by
  have h1 : 0 < sg A B := sg_pos hB
  have e1 := f.hp
  have e2 := f.hq
  rw [← sgn_mul (a := a * q - p * b) h1]
  congr 1
  grind
theorem rn_lt {x y z p1 q1 p2 q2 p3 q3 : Int} (bx : x.natAbs < 2 ^ 100) (bY : y.natAbs < 2 ^ 100) (bz : z.natAbs < 2 ^ 100) (h1 : p1.natAbs < 2 ^ 100 ∧ p2.natAbs < 2 ^ 100 ∧ p3.natAbs < 2 ^ 100) (h2 : q1.natAbs < 2 ^ 100 ∧ q2.natAbs < 2 ^ 100 ∧ q3.natAbs < 2 ^ 100) :
    (rn x y z p1 q1 p2 q2 p3 q3).natAbs < 2 ^ 402 ∧ (q1 * q2 * q3).natAbs < 2 ^ 402 := by
  obtain ⟨bp1, bp2, bp3⟩ := h1
  obtain ⟨bq1, bq2, bq3⟩ := h2
  have e1 := wide_lt (wide_lt (wide_lt bx bp1) bq2) bq3
  have e2 := wide_lt (wide_lt (wide_lt bY bp2) bq1) bq3
  have e3 := wide_lt (wide_lt (wide_lt bz bp3) bq1) bq2
  have d := wide_lt (wide_lt bq1 bq2) bq3
  have p : (2 : Nat) ^ 402 = 4 * 2 ^ (100 + 100 + 100 + 100) := by
    rw [show (402 : Nat) = 2 + (100 + 100 + 100 + 100) from rfl, Nat.pow_add]
  have pp2 : (2 : Nat) ^ (100 + 100 + 100) ≤ 2 ^ (100 + 100 + 100 + 100) := Nat.pow_le_pow_right (by decide) (by decide)
  have a1 := Int.natAbs_add_le (x * p1 * q2 * q3) (y * p2 * q1 * q3)
  have a2 := Int.natAbs_add_le (x * p1 * q2 * q3 + y * p2 * q1 * q3) (z * p3 * q1 * q2)
  unfold rn
  generalize (2 : Nat) ^ (100 + 100 + 100 + 100) = B at *
  omega
def dacc (x y z : Int) (r1 r2 r3 : Rat) : Nat → Rat
  | 0 => 0
  | i + 1 => dacc x y z r1 r2 r3 i + ((th x y z i : Int) : Rat) * th r1 r2 r3 i
def dot3 (x y z : Int) (r1 r2 r3 : Rat) : Rat := (x : Rat) * r1 + (y : Rat) * r2 + (z : Rat) * r3
theorem dacc_end (x y z : Int) (r1 r2 r3 : Rat) : dacc x y z r1 r2 r3 3 = dot3 x y z r1 r2 r3 := by
  simp only [dacc, th, dot3]
  rw [Rat.zero_add]
theorem dacc_bd {x y z : Int} {r1 r2 r3 : Rat} (x1 : Bz 20 x) (x2 : Bz 20 y) (x3 : Bz 20 z) (h1 : Bd 100 r1) (h2 : Bd 100 r2) (h3 : Bd 100 r3) : ∀ i, Bd (1 + 121 * i) (dacc x y z r1 r2 r3 i) := by
  intro i
  induction i with
  | zero => exact bd_zero
  | succ i ih =>
    have m := (bd_int (th_all (P := Bz 20) x1 x2 x3 i) (by decide)).mul (th_all (P := Bd 100) h1 h2 h3 i)
    exact (ih.add m).up (by omega)
theorem fx_int {K : PySem.W.Frag} {H : Hp} {t : Addr} {n : Int} (h : SqT K H t (zs [n, 1])) : Fx K H t (n : Rat) := h
/-- three fractions, as a tuple or a list -/
def P3 (K : PySem.W.Frag) (H : Hp) (t : Addr) (r1 r2 r3 : Rat) : Prop := ∃ p q r : Addr, (SqT K H t [.ref p, .ref q, .ref r] ∨ SqL K H t [.ref p, .ref q, .ref r]) ∧ Fx K H p r1 ∧ Fx K H q r2 ∧ Fx K H r r3
theorem P3.same {K : PySem.W.Frag} {H H' : Hp} {t : Addr} {r1 r2 r3 : Rat} (h : P3 K H t r1 r2 r3) (e : Same H H') : P3 K H' t r1 r2 r3 := by
  obtain ⟨p, q, r, h1, h2, h3, h4⟩ := h
  exact ⟨p, q, r, h1.imp (same_tup e) (fun h => e.seq h), h2.same e, h3.same e, h4.same e⟩
theorem bd_sum3 {x y z : Int} {r1 r2 r3 : Rat} {n m : Nat} (hn : 0 < n) (x1 : Bz n x) (x2 : Bz n y) (x3 : Bz n z) (h1 : Bd m r1) (h2 : Bd m r2) (h3 : Bd m r3) : Bd (3 * (n + m) + 2) (dot3 x y z r1 r2 r3) :=
  ((((bd_int x1 hn).mul h1).add ((bd_int x2 hn).mul h2)).add ((bd_int x3 hn).mul h3)).up (by omega)

theorem dot_div (x y z : Int) (r1 r2 r3 : Rat) : dot3 x y z r1 r2 r3 = Rat.divInt (rn x y z r1.num (r1.den : Int) r2.num (r2.den : Int) r3.num (r3.den : Int)) ((r1.den : Int) * (r2.den : Int) * (r3.den : Int)) := by
  have q : ∀ r : Rat, (r.num : Rat) / ((r.den : Int) : Rat) = r := fun r => by rw [← Rat.divInt_eq_div, Rat.num_divInt_den]
  have n : ∀ r : Rat, ((r.den : Int) : Rat) ≠ 0 := fun r z => den_ne r (Rat.intCast_inj.mp z)
  have h1 := q r1
  have h2 := q r2
  have h3 := q r3
  have d1 := n r1
  have d2 := n r2
  have d3 := n r3
  unfold dot3 rn
  rw [Rat.divInt_eq_div]
  simp only [Rat.intCast_add, Rat.intCast_mul]
  generalize (r1.num : Rat) = a1 at *
  generalize (r2.num : Rat) = a2 at *
  generalize (r3.num : Rat) = a3 at *
  generalize ((r1.den : Int) : Rat) = c1 at *
  generalize ((r2.den : Int) : Rat) = c2 at *
  generalize ((r3.den : Int) : Rat) = c3 at *
  subst h1 h2 h3
  grind
/-- the numbers of a plane -/
structure WI where
  x : Int
  y : Int
  z : Int
  r : Rat
def sdw (w : WI) (r1 r2 r3 : Rat) : Int := sd w.x w.y w.z w.r.num (w.r.den : Int) r1.num (r1.den : Int) r2.num (r2.den : Int) r3.num (r3.den : Int)
theorem sdw_dot (w : WI) (r1 r2 r3 : Rat) : sdw w r1 r2 r3 = sgn ((dot3 w.x w.y w.z r1 r2 r3).num * (w.r.den : Int) - w.r.num * ((dot3 w.x w.y w.z r1 r2 r3).den : Int)) := by
  have hd : (0 : Int) < (r1.den : Int) * (r2.den : Int) * (r3.den : Int) := Int.mul_pos (Int.mul_pos (den_pos r1) (den_pos r2)) (den_pos r3)
  obtain ⟨a, b, e, _, _, fr⟩ := rd2_le (n := rn w.x w.y w.z r1.num (r1.den : Int) r2.num (r2.den : Int) r3.num (r3.den : Int)) (d := (r1.den : Int) * (r2.den : Int) * (r3.den : Int)) (by omega)
  have e2 := rat_rd (n := rn w.x w.y w.z r1.num (r1.den : Int) r2.num (r2.den : Int) r3.num (r3.den : Int)) (d := (r1.den : Int) * (r2.den : Int) * (r3.den : Int)) (by omega)
  rw [← dot_div, e] at e2
  injection e2 with e3 e4
  injection e4 with e4
  rw [← e3, ← e4]
  unfold sdw sd
  exact (sd_low2 fr hd).symm
def WOk (K : PySem.W.Frag) (H : Hp) (t : Addr) (w : WI) : Prop := Wl K H t w.x w.y w.z w.r.num (w.r.den : Int)
def WBd (w : WI) : Prop := Bz 20 w.x ∧ Bz 20 w.y ∧ Bz 20 w.z ∧ Bd 20 w.r
def wr (ws : List (Addr × WI)) : List V := ws.map fun w => V.ref w.1
def WsX (K : PySem.W.Frag) (H : Hp) (ws : List (Addr × WI)) : Prop := ∀ w ∈ ws, WOk K H w.1 w.2
theorem WsX.same {K : PySem.W.Frag} {H H' : Hp} {ws : List (Addr × WI)} (h : WsX K H ws) (s : Same H H') : WsX K H' ws := fun w hw => Wl.same (h w hw) s
theorem wr_len (ws : List (Addr × WI)) : (wr ws).length = ws.length := List.length_map _
theorem wr_get {ws : List (Addr × WI)} {i : Nat} {v : V} (h : (wr ws)[i]? = some v) : ∃ w, v = .ref w.1 ∧ ws[i]? = some w := by
  rw [show wr ws = ws.map fun w => V.ref w.1 from rfl, List.getElem?_map] at h
  cases e : ws[i]? with
  | none =>
    rw [e] at h
    cases h
  | some w =>
    rw [e] at h
    exact ⟨w, (Option.some.inj h).symm, rfl⟩
theorem wr_at {ws : List (Addr × WI)} {i : Nat} {w : Addr × WI} (h : ws[i]? = some w) : (wr ws)[i]? = some (.ref w.1) := by
  rw [show wr ws = ws.map fun w => V.ref w.1 from rfl, List.getElem?_map, h]
  rfl
theorem Px.pt {K : PySem.W.Frag} {H : Hp} {t : Addr} {r1 r2 r3 : Rat} (h : Px K H t r1 r2 r3) (b1 : Bd 100 r1) (b2 : Bd 100 r2) (b3 : Bd 100 r3) : Pt K H t r1.num (r1.den : Int) r2.num (r2.den : Int) r3.num (r3.den : Int) :=
  ⟨h, ⟨b1.1, b2.1, b3.1⟩, ⟨b1.2, b2.2, b3.2⟩, ⟨den_pos r1, den_pos r2, den_pos r3⟩⟩
def tnI (s x : Int) : Int := if s < 0 then -x else x
def tnR (s : Int) (r : Rat) : Rat := if s < 0 then -r else r
def tnW (s : Int) (w : WI) : WI := ⟨tnI s w.x, tnI s w.y, tnI s w.z, tnR s w.r⟩
/-- whether two lists have at some place what is asked -/
def any2 (p : Rat → Int → Bool) (ms : List Rat) (sg : List Int) : Bool := (List.zipWith p ms sg).any id
def pN (m : Rat) (s : Int) : Bool := decide (s ≠ 0) && decide (sgn m.num < 0)
def pP (m : Rat) (s : Int) : Bool := decide (s ≠ 0) && decide (0 < sgn m.num)
/-- the sum of the parts, each times its multiplier -/
def tot (f : WI → Rat) (ws : List WI) (sg : List Int) (ms : List Rat) : Rat := sumR (List.zipWith (fun m q => m * q) ms (List.zipWith (fun w s => f (tnW s w)) ws sg))
def RP (ws : List WI) (sg : List Int) (ms : List Rat) : Bool :=
  decide (ms.length = ws.length) && (!any2 pN ms sg && (decide (tot (fun w => (w.x : Rat)) ws sg ms = 0) && (decide (tot (fun w => (w.y : Rat)) ws sg ms = 0) && (decide (tot (fun w => (w.z : Rat)) ws sg ms = 0) && (if any2 pP ms sg then decide (0 ≤ sgn (tot (fun w => w.r) ws sg ms).num) else decide (sgn (tot (fun w => w.r) ws sg ms).num ≠ 0))))))
def pdi (l : List Int) : PyData := .tuple (l.map PyData.int)
def pdil (l : List Int) : PyData := .list (l.map PyData.int)
theorem dpi_all {K : PySem.W.Frag} {H : Hp} : ∀ l : List Int, DpAll K H (zs l) (l.map PyData.int)
  | [] => .nil
  | x :: l => .cons (.int x) (dpi_all l)
theorem eqvi : ∀ l m : List Int, PyData.eqvAll (l.map PyData.int) (m.map PyData.int) = decide (l = m)
  | [], [] => rfl
  | [], _ :: _ => rfl
  | _ :: _, [] => rfl
  | x :: l, y :: m => by
    rw [List.map_cons, List.map_cons, PyData.eqvAll, eqvi l m, PyData.eqv]
    by_cases h1 : x = y
    · by_cases h2 : l = m
      · simp [h1, h2]
      · simp [h1, h2]
    · simp [h1]
theorem shi (l : List Int) : PyData.canLayAll0 (l.map PyData.int) = true ∧ PyData.depthAll (l.map PyData.int) = 0 := by
  induction l with
  | nil => decide
  | cons r rs ih =>
    rw [List.map_cons, PyData.canLayAll0, PyData.depthAll, ih.1, ih.2]
    exact ⟨rfl, rfl⟩
theorem shi_t (l : List Int) : SeqAt.shaped (pdi l) = true := by
  unfold SeqAt.shaped pdi
  rw [PyData.canLay0, PyData.depth, (shi l).1, (shi l).2]
  rfl
theorem shi_l (l : List Int) : SeqAt.shaped (pdil l) = true := by
  unfold SeqAt.shaped pdil
  rw [PyData.canLay0, PyData.depth, (shi l).1, (shi l).2]
  rfl

/-- a comprehension, perhaps with a condition, whose elements are Booleans -/
theorem lc_any {J : It} {n : Nat} {G : Hp → Prop} {Y : Nat → Hp → V → Hp → Prop} (w : Walk J n G Y) (L : List (Bool × Bool)) (hL : L.length = n) (hz : n ≤ 1000)
    {g : TG} {tt : TT} {te : TE} {vs : List Nat} {σ : L2.St} {H1 : Hp} {D : Addr} {Qd : Hp → Prop} (hD : H1 D = none) (hG : ∀ H, Same H1 H → G H)
    (hs : ∀ i c x H H' (kk : V → Hp → Prop) (kn : Hp → Prop), L[i]? = some c → Same H1 H → Y i H x H' → (c.1 = true → ∀ H4, Same H H4 → kk (.bl c.2) H4) → (c.1 = false → ∀ H4, Same H H4 → kn H4) → g x (wipe σ vs) H' fun σ2 H2 => wipe σ2 vs = wipe σ vs ∧ tt σ2 H2 fun b H3 => if b = true then te σ2 H3 kk else kn H3)
    (hd : ∀ H (bs : List Bool), Same H1 H → H D = some (.lst (bs.map V.bl)) → bs.any id = (L.map fun c => c.1 && c.2).any id → Qd H) :
    ∃ W : Nat → Nat → Hp → Prop, (∃ m, W 0 m (upd H1 D (.lst []))) ∧ ∀ i m H, W i m H →
      (J.stop i H ∧ Qd H) ∨ (J.go i H ∧ ∃ Nx : Hp → Prop, (∀ H', Nx H' → ∃ m', m' < m ∧ W (i + 1) m' H') ∧ ∀ x H', J.yld i H x H' → g x (wipe σ vs) H' fun σ2 H2 => wipe σ2 vs = wipe σ vs ∧ tt σ2 H2 fun b H3 =>
        if b = true then te σ2 H3 fun y H4 => ∃ acc, H4 D = some (.lst acc) ∧ acc.length < sizeLine ∧ Nx (upd H4 D (.lst (acc ++ [y]))) else Nx H3) := by
  subst hL
  refine lc_it w (fun i H => Same H1 H ∧ ∃ bs : List Bool, H D = some (.lst (bs.map V.bl)) ∧ bs.any id = ((L.map fun c => c.1 && c.2).take i).any id ∧ bs.length ≤ i) ⟨same_upd hD, [], upd_same, rfl, Nat.zero_le _⟩ (fun i H _ h => hG H h.1) ?_ ?_
  · rintro i x H H' hi ⟨s1, bs, e1, a1, l1⟩ y
    have hr : L[i]? = some L[i] := List.getElem?_eq_getElem hi
    have tk : ((L.map fun c => c.1 && c.2).take (i + 1)).any id = (((L.map fun c => c.1 && c.2).take i).any id || (L[i].1 && L[i].2)) := by
      rw [List.take_add_one, List.getElem?_map, hr, List.any_append]
      simp
    refine hs i L[i] x H H' _ _ hr s1 y (fun hc H4 s4 => ?_) (fun hc H4 s4 => ?_)
    · refine ⟨bs.map V.bl, s4 _ _ e1, ?_, fun b o e => ?_, bs ++ [L[i].2], ?_, ?_, ?_⟩
      · rw [List.length_map]
        exact small1000 (by omega)
      · rw [upd_ne (ne_of_none e hD)]
        exact s4 _ _ (s1 _ _ e)
      · rw [upd_same, List.map_append]
        rfl
      · rw [tk, List.any_append, a1, hc]
        simp
      · rw [List.length_append]
        exact Nat.succ_le_succ l1
    · refine ⟨s1.trans s4, bs, s4 _ _ e1, ?_, Nat.le_succ_of_le l1⟩
      rw [tk, a1, hc]
      simp
  · rintro H ⟨s1, bs, e1, a1, _⟩
    rw [List.take_of_length_le (by rw [List.length_map]; exact Nat.le_refl _)] at a1
    exact hd H bs s1 e1 a1

/-- a comprehension whose elements are things of a kind: those of L -/
theorem lc_rel {α : Type} (Rel : Hp → Addr → α → Prop) (up : ∀ {H H' t x}, Same H H' → Rel H t x → Rel H' t x) (over : ∀ {H H' t D x ys}, Rel H t x → H D = some (.lst ys) → (∀ b o, b ≠ D → H b = some o → H' b = some o) → Rel H' t x)
    {J : It} {n : Nat} {G : Hp → Prop} {Y : Nat → Hp → V → Hp → Prop} (w : Walk J n G Y) (L : List α) (hL : L.length = n) (hz : n ≤ 1000)
    {g : TG} {te : TE} {vs : List Nat} {σ : L2.St} {H1 : Hp} {D : Addr} {Qd : Hp → Prop} (hD : H1 D = none) (hG : ∀ H, Same H1 H → G H)
    (hs : ∀ i r x H H' (k : V → Hp → Prop), L[i]? = some r → Same H1 H → Y i H x H' → (∀ t H4, Same H H4 → Rel H4 t r → k (.ref t) H4) → g x (wipe σ vs) H' fun σ2 H2 => wipe σ2 vs = wipe σ vs ∧ te σ2 H2 k)
    (hd : ∀ H (ws : List (Addr × α)), Same H1 H → H D = some (.lst (ws.map fun w => .ref w.1)) → (∀ w ∈ ws, Rel H w.1 w.2) → ws.map (·.2) = L → Qd H) :
    ∃ W : Nat → Nat → Hp → Prop, (∃ m, W 0 m (upd H1 D (.lst []))) ∧ ∀ i m H, W i m H →
      (J.stop i H ∧ Qd H) ∨ (J.go i H ∧ ∃ Nx : Hp → Prop, (∀ H', Nx H' → ∃ m', m' < m ∧ W (i + 1) m' H') ∧ ∀ x H', J.yld i H x H' → g x (wipe σ vs) H' fun σ2 H2 => wipe σ2 vs = wipe σ vs ∧ tYes σ2 H2 fun b H3 =>
        if b = true then te σ2 H3 fun y H4 => ∃ acc, H4 D = some (.lst acc) ∧ acc.length < sizeLine ∧ Nx (upd H4 D (.lst (acc ++ [y]))) else Nx H3) := by
  subst hL
  refine lc_it w (fun i H => Same H1 H ∧ ∃ ws : List (Addr × α), H D = some (.lst (ws.map fun w => .ref w.1)) ∧ (∀ w ∈ ws, Rel H w.1 w.2) ∧ ws.map (·.2) = L.take i) ⟨same_upd hD, [], upd_same, (fun _ z => nomatch z), rfl⟩ (fun i H _ h => hG H h.1) ?_ ?_
  · rintro i x H H' hi ⟨s1, ws, e1, r1, m1⟩ y
    have hr : L[i]? = some L[i] := List.getElem?_eq_getElem hi
    have q := hs i L[i] x H H' (fun y H4 => ∃ acc, H4 D = some (.lst acc) ∧ acc.length < sizeLine ∧ (fun H => Same H1 H ∧ ∃ ws : List (Addr × α), H D = some (.lst (ws.map fun w => .ref w.1)) ∧ (∀ w ∈ ws, Rel H w.1 w.2) ∧ ws.map (·.2) = L.take (i + 1)) (upd H4 D (.lst (acc ++ [y])))) hr s1 y (fun t H4 s4 f4 => ?_)
    · refine Eq.mp (congrArg (g x (wipe σ vs) H') ?_) q
      funext σ2 H2
      simp [tYes]
    · have e4 := s4 _ _ e1
      have hlen : ws.length = (L.take i).length := by rw [← m1, List.length_map]
      rw [List.length_take] at hlen
      refine ⟨_, e4, ?_, fun b o e => ?_, ws ++ [(t, L[i])], ?_, fun v hv => ?_, ?_⟩
      · rw [List.length_map]
        exact small1000 (by omega)
      · rw [upd_ne (ne_of_none e hD)]
        exact s4 _ _ (s1 _ _ e)
      · rw [upd_same, List.map_append]
        rfl
      · rcases List.mem_append.mp hv with h | h
        · exact over (up s4 (r1 v h)) e4 fun b o hb e => by rw [upd_ne hb]; exact e
        · rw [List.mem_singleton.mp h]
          exact over f4 e4 fun b o hb e => by rw [upd_ne hb]; exact e
      · rw [List.map_append, m1, List.take_add_one, hr]
        rfl
  · rintro H ⟨s1, ws, e1, r1, m1⟩
    rw [List.take_length] at m1
    exact hd H ws s1 e1 r1 m1
theorem WOk.up {K : PySem.W.Frag} {H H' : Hp} {t : Addr} {w : WI} (s : Same H H') (h : WOk K H t w) : WOk K H' t w := Wl.same h s
theorem WOk.over {K : PySem.W.Frag} {H H' : Hp} {t D : Addr} {w : WI} {ys : List V} (h : WOk K H t w) (hl : H D = some (.lst ys)) (s : ∀ b o, b ≠ D → H b = some o → H' b = some o) : WOk K H' t w := by
  obtain ⟨u, o, h1, h2, h3⟩ := h
  exact ⟨u, o, over_tup h1 hl s, over_tup h2 hl s, over_tup h3 hl s⟩
theorem zw3 {ms : List (Addr × Rat)} {sg : List Int} {i : Nat} {β : Type} {F : Rat → Int → β} {c : β} (h : (List.zipWith F (ms.map (·.2)) sg)[i]? = some c) : ∃ (m : Addr × Rat) (s : Int), ms[i]? = some m ∧ sg[i]? = some s ∧ F m.2 s = c := by
  rw [List.getElem?_zipWith, List.getElem?_map] at h
  cases e1 : ms[i]? with
  | none =>
    rw [e1] at h
    cases h
  | some m =>
    cases e2 : sg[i]? with
    | none =>
      rw [e1, e2] at h
      cases h
    | some s =>
      rw [e1, e2] at h
      exact ⟨m, s, rfl, rfl, Option.some.inj h⟩
theorem zwG {α β γ : Type} {F : α → β → γ} {l : List α} {m : List β} {i : Nat} {c : γ} (h : (List.zipWith F l m)[i]? = some c) : ∃ a b, l[i]? = some a ∧ m[i]? = some b ∧ F a b = c := by
  rw [List.getElem?_zipWith] at h
  cases e1 : l[i]? with
  | none =>
    rw [e1] at h
    cases h
  | some a =>
    cases e2 : m[i]? with
    | none =>
      rw [e1, e2] at h
      cases h
    | some b =>
      rw [e1, e2] at h
      exact ⟨a, b, rfl, rfl, Option.some.inj h⟩
theorem any2_eq (f v : Rat → Int → Bool) (ms : List Rat) (sg : List Int) : ((List.zipWith (fun m s => (f m s, v m s)) ms sg).map fun c => c.1 && c.2) = List.zipWith (fun m s => f m s && v m s) ms sg := by
  rw [List.map_zipWith]
theorem atG {α : Type} {ws : List (Addr × α)} {i : Nat} {w : Addr × α} (h : ws[i]? = some w) : (ws.map fun w => V.ref w.1)[i]? = some (.ref w.1) := by
  rw [List.getElem?_map, h]
  rfl
theorem getG {α : Type} {ws : List (Addr × α)} {i : Nat} {v : V} (h : (ws.map fun w => V.ref w.1)[i]? = some v) : ∃ w, v = .ref w.1 ∧ ws[i]? = some w := by
  rw [List.getElem?_map] at h
  cases e : ws[i]? with
  | none =>
    rw [e] at h
    cases h
  | some w =>
    rw [e] at h
    exact ⟨w, (Option.some.inj h).symm, rfl⟩
/-- the part of a normal -/
def axf (i : Nat) (w : WI) : Rat := ((th w.x w.y w.z i : Int) : Rat)
theorem tn_bd {s : Int} {w : WI} (h : WBd w) : WBd (tnW s w) := by
  obtain ⟨h1, h2, h3, h4⟩ := h
  unfold tnW tnI tnR
  by_cases g : s < 0
  · rw [if_pos g, if_pos g, if_pos g, if_pos g]
    exact ⟨h1.neg, h2.neg, h3.neg, h4.neg⟩
  · rw [if_neg g, if_neg g, if_neg g, if_neg g]
    exact ⟨h1, h2, h3, h4⟩

theorem eqv_pdi (l m : List Int) : PyData.eqv (pdi l) (pdi m) = decide (l = m) := by
  unfold pdi
  rw [PyData.eqv, eqvi]
theorem eqv_pdil (l m : List Int) : PyData.eqv (pdil l) (pdil m) = decide (l = m) := by
  unfold pdil
  rw [PyData.eqv, eqvi]
theorem len4 {rs : List Int} (h : rs.length = 4) : ∃ a b c d, rs = [a, b, c, d] := by
  match rs, h with
  | [a, b, c, d], _ => exact ⟨a, b, c, d, rfl⟩
theorem wr_of {K : PySem.W.Frag} {H : Hp} : ∀ {us : List V}, (∀ (i : Nat) (v : V), us[i]? = some v → ∃ (t : Addr) (w : WI), v = .ref t ∧ WOk K H t w ∧ WBd w) → ∃ ws : List (Addr × WI), us = wr ws ∧ WsX K H ws ∧ ∀ w ∈ ws, WBd w.2
  | [], _ => ⟨[], rfl, (fun _ h => nomatch h), fun _ h => nomatch h⟩
  | u :: us, h => by
    obtain ⟨t, w, rfl, h1, h2⟩ := h 0 u rfl
    obtain ⟨ws, rfl, h3, h4⟩ := wr_of (us := us) fun i v hv => h (i + 1) v hv
    refine ⟨(t, w) :: ws, rfl, fun x hx => ?_, fun x hx => ?_⟩
    · rcases List.mem_cons.mp hx with rfl | hx
      · exact h1
      · exact h3 x hx
    · rcases List.mem_cons.mp hx with rfl | hx
      · exact h2
      · exact h4 x hx

theorem via {P C : Prop} (h : P → C) (p : P) : C := h p
def f4 : Nat → WI → Rat
  | 0, w => (w.x : Rat)
  | 1, w => (w.y : Rat)
  | 2, w => (w.z : Rat)
  | _, w => w.r
def Lc (c : Nat) (ws : List WI) (sg : List Int) (ms : List Rat) : List Rat := List.zipWith (fun m q => m * q) ms (List.zipWith (fun w s => f4 c (tnW s w)) ws sg)
def pt (c : Nat) (ws : List WI) (sg : List Int) (ms : List Rat) (i : Nat) : Rat := sumR ((Lc c ws sg ms).take i)
theorem tn_mul (s : Int) (m : Rat) (c : Nat) (w : WI) : tnR s m * f4 c w = m * f4 c (tnW s w) := by
  have hI : ∀ z : Int, ((tnI s z : Int) : Rat) = tnR s (z : Rat) := fun z => by
    unfold tnI tnR
    by_cases g : s < 0
    · rw [if_pos g, if_pos g, Rat.intCast_neg]
    · rw [if_neg g, if_neg g]
  have h : f4 c (tnW s w) = tnR s (f4 c w) := by
    unfold f4 tnW
    split
    · exact hI _
    · exact hI _
    · exact hI _
    · rfl
  rw [h]
  unfold tnR
  by_cases g : s < 0
  · rw [if_pos g, if_pos g]
    grind
  · rw [if_neg g, if_neg g]
theorem Lc_at {c i : Nat} {ws : List WI} {sg : List Int} {ms : List Rat} {w : WI} {s : Int} {m : Rat} (h1 : ws[i]? = some w) (h2 : sg[i]? = some s) (h3 : ms[i]? = some m) : (Lc c ws sg ms)[i]? = some (tnR s m * f4 c w) := by
  unfold Lc
  rw [List.getElem?_zipWith, List.getElem?_zipWith, h1, h2, h3, tn_mul]
theorem f4_bd {c : Nat} {w : WI} (h : WBd w) : Bd 20 (f4 c w) := by
  obtain ⟨h1, h2, h3, h4⟩ := h
  unfold f4
  split
  · exact bd_int h1 (by decide)
  · exact bd_int h2 (by decide)
  · exact bd_int h3 (by decide)
  · exact h4
theorem Lc_bd {c : Nat} {ws : List WI} {sg : List Int} {ms : List Rat} (h1 : ∀ w ∈ ws, WBd w) (h2 : ∀ m ∈ ms, Bd 10 m) : ∀ r ∈ Lc c ws sg ms, Bd 30 r := by
  intro r hr
  obtain ⟨i, hi⟩ := List.mem_iff_getElem?.mp hr
  obtain ⟨m, q, a1, a2, rfl⟩ := zwG hi
  obtain ⟨w, s, a3, a4, rfl⟩ := zwG a2
  exact (h2 m (List.mem_of_getElem? a1)).mul (f4_bd (tn_bd (h1 w (List.mem_of_getElem? a3))))
theorem tnR_bd {s : Int} {m : Rat} {n : Nat} (h : Bd n m) : Bd n (tnR s m) := by
  unfold tnR
  split
  · exact h.neg
  · exact h
theorem any_take {L : List Bool} {i : Nat} {b : Bool} (h : L[i]? = some b) : (L.take (i + 1)).any id = ((L.take i).any id || b) := by
  rw [List.take_add_one, h, List.any_append]
  simp
theorem pt_all {c : Nat} {ws : List WI} {sg : List Int} {ms : List Rat} {n : Nat} (h : (Lc c ws sg ms).length ≤ n) : pt c ws sg ms n = tot (f4 c) ws sg ms := by
  unfold pt
  rw [List.take_of_length_le h]
  rfl
theorem fx_neg {K : PySem.W.Frag} {H : Hp} {t : Addr} {r : Rat} (h : SqT K H t (zs [-r.num, (r.den : Int)])) : Fx K H t (-r) := by
  unfold Fx
  rw [Rat.neg_num, Rat.neg_den]
  exact h
theorem sgn_lt (z : Int) : decide (sgn z < 0) = decide (z < 0) := decide_eq_decide.mpr (by
  unfold sgn
  split
  · omega
  · split <;> omega)
theorem sgn_gt (z : Int) : decide (0 < sgn z) = decide (0 < z) := decide_eq_decide.mpr (by
  unfold sgn
  split
  · omega
  · split <;> omega)
theorem sgn_ge (z : Int) : decide (0 ≤ sgn z) = decide (0 ≤ z) := decide_eq_decide.mpr (by
  unfold sgn
  split
  · omega
  · split <;> omega)
theorem sgn_nz (z : Int) : decide (sgn z ≠ 0) = decide (z ≠ 0) := decide_eq_decide.mpr (by
  unfold sgn
  split
  · omega
  · split <;> omega)

theorem rp_pair (f : Rat) : RP [⟨1, 0, -2, 3⟩, ⟨1, 0, -2, f⟩] [1, -1] [1, 1] = decide (f.num ≤ 3 * (f.den : Int)) := by
  have t0 : tot (fun w => (w.x : Rat)) [⟨1, 0, -2, 3⟩, ⟨1, 0, -2, f⟩] [1, -1] [1, 1] = 0 := by
    show ((0 : Rat) + 1 * ((1 : Int) : Rat)) + 1 * ((-1 : Int) : Rat) = 0
    decide +kernel
  have t1 : tot (fun w => (w.y : Rat)) [⟨1, 0, -2, 3⟩, ⟨1, 0, -2, f⟩] [1, -1] [1, 1] = 0 := by
    show ((0 : Rat) + 1 * ((0 : Int) : Rat)) + 1 * ((0 : Int) : Rat) = 0
    decide +kernel
  have t2 : tot (fun w => (w.z : Rat)) [⟨1, 0, -2, 3⟩, ⟨1, 0, -2, f⟩] [1, -1] [1, 1] = 0 := by
    show ((0 : Rat) + 1 * ((-2 : Int) : Rat)) + 1 * ((2 : Int) : Rat) = 0
    decide +kernel
  have t3 : tot (fun w => w.r) [⟨1, 0, -2, 3⟩, ⟨1, 0, -2, f⟩] [1, -1] [1, 1] = 3 - f := by
    show ((0 : Rat) + 1 * 3) + 1 * (-f) = 3 - f
    grind
  have a1 : any2 pN [1, 1] [1, -1] = false := by decide
  have a2 : any2 pP [1, 1] [1, -1] = true := by decide
  unfold RP
  rw [t0, t1, t2, t3, a1, a2, sgn_ge]
  show decide (0 ≤ (3 - f).num) = decide (f.num ≤ 3 * (f.den : Int))
  refine decide_eq_decide.mpr ?_
  rw [Rat.num_nonneg]
  constructor
  · intro h
    have h2 : f ≤ 3 := by grind
    rw [Rat.le_iff] at h2
    have h3 : f.num * ((1 : Nat) : Int) ≤ 3 * (f.den : Int) := h2
    omega
  · intro h
    have h2 : f ≤ 3 := by
      rw [Rat.le_iff]
      show f.num * ((1 : Nat) : Int) ≤ 3 * (f.den : Int)
      omega
    grind

section
/-- rows of numbers as functions -/
abbrev VF := Nat → Rat
/-- what rows span -/
inductive Spn (G : VF → Prop) : VF → Prop
  | zero : Spn G (fun _ => 0)
  | step {v g : VF} (c : Rat) : Spn G v → G g → Spn G (fun k => v k + c * g k)
theorem Spn.cong {G : VF → Prop} {v w : VF} (h : Spn G v) (e : ∀ k, v k = w k) : Spn G w := by
  have : v = w := funext e
  rw [← this]
  exact h
theorem Spn.gen {G : VF → Prop} {g : VF} (h : G g) : Spn G g := (Spn.step 1 Spn.zero h).cong fun k => by grind
theorem Spn.scale {G : VF → Prop} {v : VF} (a : Rat) (h : Spn G v) : Spn G fun k => a * v k := by
  induction h with
  | zero => exact Spn.zero.cong fun k => by grind
  | step c _ hg ih => exact (Spn.step (a * c) ih hg).cong fun k => by grind
theorem Spn.addv {G : VF → Prop} {v w : VF} (hv : Spn G v) (hw : Spn G w) : Spn G fun k => v k + w k := by
  induction hw with
  | zero => exact hv.cong fun k => by grind
  | step c _ hg ih => exact (Spn.step c ih hg).cong fun k => by grind
theorem Spn.mono {G G' : VF → Prop} (h : ∀ g, G g → Spn G' g) {v : VF} (hv : Spn G v) : Spn G' v := by
  induction hv with
  | zero => exact Spn.zero
  | step c _ hg ih => exact ih.addv ((h _ hg).scale c)
theorem Spn.map {G : VF → Prop} {T : VF → VF} (h0 : ∀ k, T (fun _ => 0) k = 0) (hT : ∀ (v g : VF) (c : Rat) k, T (fun k => v k + c * g k) k = T v k + c * T g k) {v : VF} (hv : Spn G v) : Spn (fun h => ∃ g, G g ∧ T g = h) (T v) := by
  induction hv with
  | zero => exact Spn.zero.cong fun k => (h0 k).symm
  | step c _ hg ih => exact (Spn.step c ih ⟨_, hg, rfl⟩).cong fun k => (hT _ _ _ k).symm
theorem Spn.vanish {G : VF → Prop} {v : VF} (hv : Spn G v) {k : Nat} (h : ∀ g, G g → g k = 0) : v k = 0 := by
  induction hv with
  | zero => rfl
  | step c _ hg ih =>
    show _ + c * _ = 0
    rw [ih, h _ hg]
    grind
/-- the first place that is not 0 -/
def Ld (v : VF) (c : Nat) : Prop := v c ≠ 0 ∧ ∀ k < c, v k = 0
theorem Ld.uniq {v : VF} {c d : Nat} (h : Ld v c) (h2 : Ld v d) : c = d := by
  rcases Nat.lt_trichotomy c d with g | g | g
  · exact absurd (h2.2 c g) h.1
  · exact g
  · exact absurd (h.2 d g) h2.1
def Ec (E : List (Nat × VF)) : Prop := E.Pairwise (fun p q => p.1 < q.1) ∧ ∀ p ∈ E, Ld p.2 p.1
abbrev inR (E : List (Nat × VF)) : VF → Prop := fun g => ∃ p ∈ E, p.2 = g
theorem spn_cons {p : Nat × VF} {E : List (Nat × VF)} {v : VF} (h : Spn (inR (p :: E)) v) : ∃ (a : Rat) (w : VF), Spn (inR E) w ∧ ∀ k, v k = a * p.2 k + w k := by
  induction h with
  | zero => exact ⟨0, _, Spn.zero, fun k => by grind⟩
  | step c _ hg ih =>
    obtain ⟨a, w, h1, h2⟩ := ih
    obtain ⟨q, hq, rfl⟩ := hg
    rcases List.mem_cons.mp hq with rfl | hq
    · exact ⟨a + c, w, h1, fun k => by dsimp only; rw [h2 k]; grind⟩
    · exact ⟨a, _, Spn.step c h1 ⟨q, hq, rfl⟩, fun k => by dsimp only; rw [h2 k]; grind⟩
theorem Ec.lead : ∀ {E : List (Nat × VF)}, Ec E → ∀ {v : VF}, Spn (inR E) v → (∀ k, v k = 0) ∨ ∃ p ∈ E, Ld v p.1
  | [], _, v, hv => .inl fun k => hv.vanish fun g hg => by
    obtain ⟨p, hp, _⟩ := hg
    cases hp
  | p :: E, h, v, hv => by
    obtain ⟨a, w, h1, h2⟩ := spn_cons hv
    have hp := List.pairwise_cons.mp h.1
    have hl := h.2 p List.mem_cons_self
    have hw : ∀ k ≤ p.1, w k = 0 := fun k hk => h1.vanish fun g hg => by
      obtain ⟨q, hq, rfl⟩ := hg
      have := hp.1 q hq
      exact (h.2 q (List.mem_cons_of_mem _ hq)).2 k (by omega)
    by_cases ha : a = 0
    · have e : Spn (inR E) v := h1.cong fun k => by rw [h2 k, ha]; grind
      rcases Ec.lead ⟨hp.2, fun q hq => h.2 q (List.mem_cons_of_mem _ hq)⟩ e with g | ⟨q, hq, hg⟩
      · exact .inl g
      · exact .inr ⟨q, List.mem_cons_of_mem _ hq, hg⟩
    · refine .inr ⟨p, List.mem_cons_self, ?_, fun k hk => ?_⟩
      · rw [h2, hw _ (Nat.le_refl _), Rat.add_zero]
        intro z
        rcases Rat.mul_eq_zero.mp z with z | z
        · exact ha z
        · exact hl.1 z
      · rw [h2, hw k (by omega), hl.2 k hk]
        grind
theorem nodup_le : ∀ {A B : List Nat}, A.Nodup → (∀ a ∈ A, a ∈ B) → A.length ≤ B.length
  | [], _, _, _ => Nat.zero_le _
  | a :: A, B, hA, h => by
    have h1 := List.nodup_cons.mp hA
    have hB := h a List.mem_cons_self
    have := nodup_le (A := A) (B := B.erase a) h1.2 fun x hx => by
      have hne : x ≠ a := fun e => by
        rw [e] at hx
        exact h1.1 hx
      exact (List.mem_erase_of_ne hne).mpr (h x (List.mem_cons_of_mem _ hx))
    rw [List.length_erase_of_mem hB] at this
    have hpos : 0 < B.length := List.length_pos_of_mem hB
    rw [List.length_cons]
    omega
theorem nodup_eq {A B : List Nat} (hA : A.Nodup) (h : ∀ a ∈ A, a ∈ B) (hl : A.length = B.length) : ∀ b ∈ B, b ∈ A := by
  intro b hb
  refine Classical.byContradiction fun hn => ?_
  have := nodup_le (A := A) (B := B.erase b) hA fun x hx => by
    have hne : x ≠ b := fun e => by
      rw [e] at hx
      exact hn hx
    exact (List.mem_erase_of_ne hne).mpr (h x hx)
  rw [List.length_erase_of_mem hb] at this
  have hpos : 0 < B.length := List.length_pos_of_mem hb
  omega
/-- the rank of what is spanned: the number of its leads -/
def RankIs (S : VF → Prop) (r : Nat) : Prop := ∃ E : List (Nat × VF), Ec E ∧ (∀ p ∈ E, S p.2) ∧ (∀ v c, S v → Ld v c → ∃ p ∈ E, p.1 = c) ∧ E.length = r
theorem Ec.nodup {E : List (Nat × VF)} (h : Ec E) : (E.map (·.1)).Nodup := by
  rw [List.nodup_iff_pairwise_ne, List.pairwise_map]
  exact h.1.imp fun h => Nat.ne_of_lt h
theorem rank_sub {S T : VF → Prop} {r s : Nat} (hS : RankIs S r) (hT : RankIs T s) (h : ∀ v, S v → T v) : ∃ A B : List Nat, A.Nodup ∧ B.Nodup ∧ A.length = r ∧ B.length = s ∧ (∀ a ∈ A, a ∈ B) ∧ (∀ v c, S v → Ld v c → c ∈ A) ∧ (∀ v c, T v → Ld v c → c ∈ B) ∧ (∀ a ∈ A, ∃ v, S v ∧ Ld v a) ∧ ∀ b ∈ B, ∃ v, T v ∧ Ld v b := by
  obtain ⟨E, e1, e2, e3, e4⟩ := hS
  obtain ⟨F, f1, f2, f3, f4⟩ := hT
  refine ⟨E.map (·.1), F.map (·.1), e1.nodup, f1.nodup, by rw [List.length_map, e4], by rw [List.length_map, f4], ?_, ?_, ?_, ?_, ?_⟩
  · intro a ha
    obtain ⟨p, hp, rfl⟩ := List.mem_map.mp ha
    obtain ⟨q, hq, e⟩ := f3 _ _ (h _ (e2 p hp)) (e1.2 p hp)
    exact List.mem_map.mpr ⟨q, hq, e⟩
  · intro v c hv hc
    obtain ⟨q, hq, e⟩ := e3 v c hv hc
    exact List.mem_map.mpr ⟨q, hq, e⟩
  · intro v c hv hc
    obtain ⟨q, hq, e⟩ := f3 v c hv hc
    exact List.mem_map.mpr ⟨q, hq, e⟩
  · intro a ha
    obtain ⟨p, hp, rfl⟩ := List.mem_map.mp ha
    exact ⟨_, e2 p hp, e1.2 p hp⟩
  · intro a ha
    obtain ⟨p, hp, rfl⟩ := List.mem_map.mp ha
    exact ⟨_, f2 p hp, f1.2 p hp⟩
theorem rank_le {S T : VF → Prop} {r s : Nat} (hS : RankIs S r) (hT : RankIs T s) (h : ∀ v, S v → T v) : r ≤ s := by
  obtain ⟨A, B, a1, _, rfl, rfl, h5, _⟩ := rank_sub hS hT h
  exact nodup_le a1 h5
theorem rank_eq {S T : VF → Prop} {r s : Nat} (hS : RankIs S r) (hT : RankIs T s) (h : ∀ v, S v → T v) (h2 : ∀ v, T v → S v) : r = s := Nat.le_antisymm (rank_le hS hT h) (rank_le hT hS h2)
/-- of the same rank, one in the other: the same -/
theorem rank_in {S T : VF → Prop} {r n : Nat} (cS : ∀ v w a, S v → S w → S fun k => v k + a * w k) (zS : S fun _ => 0) (cT : ∀ v w a, T v → T w → T fun k => v k + a * w k) (fT : ∀ v, T v → ∀ k ≥ n, v k = 0)
    (hS : RankIs S r) (hT : RankIs T r) (h : ∀ v, S v → T v) : ∀ v, T v → S v := by
  obtain ⟨A, B, a1, b1, la, lb, h5, h6, h7, h8, h9⟩ := rank_sub hS hT h
  have hBA := nodup_eq a1 h5 (by omega)
  have key : ∀ m v, T v → (∀ k < n - m, v k = 0) → S v := by
    intro m
    induction m with
    | zero =>
      intro v hv hz
      have : v = fun _ => 0 := funext fun k => by
        rcases Nat.lt_or_ge k n with g | g
        · exact hz k (by omega)
        · exact fT v hv k g
      rw [this]
      exact zS
    | succ m ih =>
      intro v hv hz
      by_cases hc : v (n - (m + 1)) = 0
      · refine ih v hv fun k hk => ?_
        rcases Nat.lt_or_ge k (n - (m + 1)) with g | g
        · exact hz k g
        · have : k = n - (m + 1) := by omega
          rw [this]
          exact hc
      · have hl : Ld v (n - (m + 1)) := ⟨hc, hz⟩
        obtain ⟨w, hw, hlw⟩ := h8 _ (hBA _ (h7 v _ hv hl))
        have h10 := ih (fun k => v k + -(v (n - (m + 1)) / w (n - (m + 1))) * w k) (cT _ _ _ hv (h w hw)) fun k hk => by
          rcases Nat.lt_or_ge k (n - (m + 1)) with g | g
          · rw [hz k g, hlw.2 k g]
            grind
          · have e : k = n - (m + 1) := by omega
            subst e
            have := hlw.1
            grind
        have h11 := cS _ _ (v (n - (m + 1)) / w (n - (m + 1))) h10 hw
        have : v = fun k => (v k + -(v (n - (m + 1)) / w (n - (m + 1))) * w k) + v (n - (m + 1)) / w (n - (m + 1)) * w k := funext fun k => by grind
        rw [this]
        exact h11
  intro v hv
  exact key n v hv fun k hk => by omega
theorem Spn.closed {G : VF → Prop} (v w : VF) (a : Rat) (hv : Spn G v) (hw : Spn G w) : Spn G fun k => v k + a * w k := hv.addv (hw.scale a)
/-- a row's first M numbers, as a function -/
def cf (M : Nat) (r : List Rat) : VF := fun k => if k < M then r.getD k 0 else 0
abbrev inL (M : Nat) (R : List (List Rat)) : VF → Prop := fun g => ∃ r ∈ R, cf M r = g
theorem cf_out {M : Nat} {R : List (List Rat)} {v : VF} (h : Spn (inL M R) v) : ∀ k ≥ M, v k = 0 := fun k hk => h.vanish fun g hg => by
  obtain ⟨r, _, rfl⟩ := hg
  exact if_neg (by omega)
/-- another row is in what rows span if and only if the rank stays -/
theorem rank_more {M : Nat} {R : List (List Rat)} {u : List Rat} {r s : Nat} (h1 : RankIs (Spn (inL M R)) r) (h2 : RankIs (Spn (inL M (R ++ [u]))) s) : s = r ↔ Spn (inL M R) (cf M u) := by
  have sub : ∀ v, Spn (inL M R) v → Spn (inL M (R ++ [u])) v := fun v hv => hv.mono fun g hg => by
    obtain ⟨x, hx, e⟩ := hg
    exact Spn.gen ⟨x, List.mem_append_left _ hx, e⟩
  constructor
  · intro e
    subst e
    exact rank_in (fun v w a => Spn.closed v w a) Spn.zero (fun v w a => Spn.closed v w a) (fun v hv => cf_out hv) h1 h2 sub _ (Spn.gen ⟨u, List.mem_append_right _ List.mem_cons_self, rfl⟩)
  · intro hu
    refine rank_eq h2 h1 (fun v hv => hv.mono fun g hg => ?_) sub
    obtain ⟨x, hx, rfl⟩ := hg
    rcases List.mem_append.mp hx with hx | hx
    · exact Spn.gen ⟨x, hx, rfl⟩
    · rw [List.mem_singleton.mp hx]
      exact hu
end

section
/-- one row cleared by another, at a place -/
def clr (l : Nat) (base row : List Rat) : List Rat := if row.getD l 0 = 0 then row else List.zipWith (fun x y => x - row.getD l 0 * y) row base
theorem clr_len {l : Nat} {base row : List Rat} (h : row.length = base.length) : (clr l base row).length = row.length := by
  unfold clr
  split
  · rfl
  · rw [List.length_zipWith]
    omega
theorem getD_zip {f : Rat → Rat → Rat} (h0 : f 0 0 = 0) : ∀ {a b : List Rat} (k : Nat), a.length = b.length → (List.zipWith f a b).getD k 0 = f (a.getD k 0) (b.getD k 0)
  | [], [], k, _ => by simp [h0]
  | x :: a, y :: b, 0, _ => rfl
  | x :: a, y :: b, k + 1, h => by
    rw [List.length_cons, List.length_cons] at h
    exact getD_zip h0 (a := a) (b := b) k (by omega)
theorem clr_at {l : Nat} {base row : List Rat} (h : row.length = base.length) (k : Nat) : (clr l base row).getD k 0 = row.getD k 0 - row.getD l 0 * base.getD k 0 := by
  unfold clr
  by_cases h0 : row.getD l 0 = 0
  · rw [if_pos h0, h0]
    grind
  · rw [if_neg h0, getD_zip (f := fun x y => x - row.getD l 0 * y) (by grind) k h]
theorem cf_clr {M l : Nat} {base row : List Rat} (h : row.length = base.length) (k : Nat) : cf M (clr l base row) k = cf M row k + -row.getD l 0 * cf M base k := by
  unfold cf
  by_cases hk : k < M
  · rw [if_pos hk, if_pos hk, if_pos hk, clr_at h]
    grind
  · rw [if_neg hk, if_neg hk, if_neg hk]
    grind
/-- a row cleared by all kept ones, one behind the other -/
def red (kept : List (Nat × List Rat)) (row : List Rat) : List Rat := kept.foldl (fun row p => clr p.1 p.2 row) row
/-- what is kept: leads that differ, below m; 1 at a row's own lead, 0 at the others' -/
structure KI (m W : Nat) (kept : List (Nat × List Rat)) : Prop where
  lt : ∀ p ∈ kept, p.1 < m
  len : ∀ p ∈ kept, p.2.length = W
  one : ∀ p ∈ kept, p.2.getD p.1 0 = 1
  apart : kept.Pairwise fun p q => p.1 ≠ q.1
  nought : ∀ p ∈ kept, ∀ q ∈ kept, p.1 ≠ q.1 → p.2.getD q.1 0 = 0
theorem KI.nodup {m W : Nat} {kept : List (Nat × List Rat)} (h : KI m W kept) : (kept.map (·.1)).Nodup := by
  rw [List.nodup_iff_pairwise_ne, List.pairwise_map]
  exact h.apart
theorem KI.few {m W : Nat} {kept : List (Nat × List Rat)} (h : KI m W kept) : kept.length ≤ m := by
  have := nodup_le (A := kept.map (·.1)) (B := List.range m) h.nodup fun a ha => by
    obtain ⟨p, hp, rfl⟩ := List.mem_map.mp ha
    exact List.mem_range.mpr (h.lt p hp)
  rw [List.length_map, List.length_range] at this
  exact this
theorem KI.same {m W : Nat} {kept : List (Nat × List Rat)} (h : KI m W kept) {p q : Nat × List Rat} (hp : p ∈ kept) (hq : q ∈ kept) (e : p.1 = q.1) : p = q := by
  have : ∀ {l : List (Nat × List Rat)}, l.Pairwise (fun p q => p.1 ≠ q.1) → p ∈ l → q ∈ l → p = q := by
    intro l
    induction l with
    | nil => exact fun _ h => nomatch h
    | cons x l ih =>
      intro hl h1 h2
      have hx := List.pairwise_cons.mp hl
      rcases List.mem_cons.mp h1 with e1 | m1
      · rcases List.mem_cons.mp h2 with e2 | m2
        · rw [e1, e2]
        · rw [e1] at e
          exact absurd e (hx.1 _ m2)
      · rcases List.mem_cons.mp h2 with e2 | m2
        · rw [e2] at e
          exact absurd e.symm (hx.1 _ m1)
        · exact ih hx.2 m1 m2
  exact this h.apart hp hq
theorem red_len {W : Nat} : ∀ {kept : List (Nat × List Rat)} {row : List Rat}, (∀ p ∈ kept, p.2.length = W) → row.length = W → (red kept row).length = W
  | [], _, _, h => h
  | p :: kept, row, h, hr => by
    have hp := h p List.mem_cons_self
    exact red_len (kept := kept) (fun q hq => h q (List.mem_cons_of_mem _ hq)) (by rw [clr_len (by omega)]; exact hr)
theorem red_spn {M W : Nat} : ∀ {kept : List (Nat × List Rat)} {row : List Rat}, (∀ p ∈ kept, p.2.length = W) → row.length = W → ∃ v, Spn (inL M (kept.map (·.2))) v ∧ ∀ k, cf M (red kept row) k = cf M row k + v k
  | [], row, _, _ => ⟨_, Spn.zero, fun k => by show cf M row k = _; grind⟩
  | p :: kept, row, h, hr => by
    have hp := h p List.mem_cons_self
    obtain ⟨v, h1, h2⟩ := red_spn (M := M) (kept := kept) (row := clr p.1 p.2 row) (fun q hq => h q (List.mem_cons_of_mem _ hq)) (by rw [clr_len (by omega)]; exact hr)
    refine ⟨fun k => v k + -row.getD p.1 0 * cf M p.2 k, Spn.step _ (h1.mono fun g hg => ?_) ⟨p.2, List.mem_map_of_mem List.mem_cons_self, rfl⟩, fun k => ?_⟩
    · obtain ⟨r, hr2, e⟩ := hg
      rw [List.map_cons]
      exact Spn.gen ⟨r, List.mem_cons_of_mem _ hr2, e⟩
    · show cf M (red kept (clr p.1 p.2 row)) k = _
      rw [h2 k, cf_clr (by omega)]
      grind
/-- a row cleared by all kept ones is 0 at their leads -/
theorem red_nought {m W : Nat} {kept : List (Nat × List Rat)} (h : KI m W kept) {row : List Rat} (hr : row.length = W) : ∀ p ∈ kept, (red kept row).getD p.1 0 = 0 := by
  have key : ∀ (todo done : List (Nat × List Rat)) (row : List Rat), (∀ p ∈ todo, p ∈ kept) → (∀ p ∈ done, p ∈ kept) → row.length = W → (∀ p ∈ done, row.getD p.1 0 = 0) → ∀ p, p ∈ todo ∨ p ∈ done → (red todo row).getD p.1 0 = 0 := by
    intro todo
    induction todo with
    | nil =>
      intro done row _ _ _ hz p hp
      rcases hp with hp | hp
      · cases hp
      · exact hz p hp
    | cons q todo ih =>
      intro done row ht hd hl hz p hp
      have hq := ht q List.mem_cons_self
      have hlq := h.len q hq
      have e : row.length = q.2.length := by omega
      refine ih (q :: done) (clr q.1 q.2 row) (fun x hx => ht x (List.mem_cons_of_mem _ hx)) (fun x hx => ?_) (by rw [clr_len e]; exact hl) (fun x hx => ?_) p ?_
      · rcases List.mem_cons.mp hx with rfl | hx
        · exact hq
        · exact hd x hx
      · rw [clr_at e]
        by_cases hxq : x.1 = q.1
        · rw [hxq, h.one q hq]
          grind
        · rcases List.mem_cons.mp hx with rfl | hx
          · exact absurd rfl hxq
          · rw [hz x hx, h.nought q hq x (hd x hx) (fun z => hxq z.symm)]
            grind
      · rcases hp with hp | hp
        · rcases List.mem_cons.mp hp with rfl | hp
          · exact .inr List.mem_cons_self
          · exact .inl hp
        · exact .inr (List.mem_cons_of_mem _ hp)
  exact fun p hp => key kept [] row (fun _ h => h) (fun _ h => nomatch h) hr (fun _ h => nomatch h) p (.inl hp)
/-- what is kept behind one more row, which has a lead -/
def kplus (kept : List (Nat × List Rat)) (a : Nat) (row : List Rat) : List (Nat × List Rat) := kept.map (fun p => (p.1, clr a row p.2)) ++ [(a, row)]
theorem KI.plus {m W : Nat} {kept : List (Nat × List Rat)} (h : KI m W kept) {a : Nat} {row : List Rat} (ha : a < m) (hl : row.length = W) (h1 : row.getD a 0 = 1) (h0 : ∀ p ∈ kept, row.getD p.1 0 = 0) : KI m W (kplus kept a row) := by
  have hne : ∀ p ∈ kept, p.1 ≠ a := fun p hp e => by
    have := h0 p hp
    rw [e, h1] at this
    exact absurd this (by decide)
  have el : ∀ p ∈ kept, p.2.length = row.length := fun p hp => by rw [h.len p hp, hl]
  have mem : ∀ x ∈ kplus kept a row, (∃ p ∈ kept, x = (p.1, clr a row p.2)) ∨ x = (a, row) := fun x hx => by
    rcases List.mem_append.mp hx with hx | hx
    · obtain ⟨p, hp, rfl⟩ := List.mem_map.mp hx
      exact .inl ⟨p, hp, rfl⟩
    · exact .inr (List.mem_singleton.mp hx)
  refine ⟨fun x hx => ?_, fun x hx => ?_, fun x hx => ?_, ?_, fun x hx y hy hxy => ?_⟩
  · rcases mem x hx with ⟨p, hp, rfl⟩ | rfl
    · exact h.lt p hp
    · exact ha
  · rcases mem x hx with ⟨p, hp, rfl⟩ | rfl
    · show (clr a row p.2).length = W
      rw [clr_len (el p hp)]
      exact h.len p hp
    · exact hl
  · rcases mem x hx with ⟨p, hp, rfl⟩ | rfl
    · show (clr a row p.2).getD p.1 0 = 1
      rw [clr_at (el p hp), h.one p hp, h0 p hp]
      grind
    · exact h1
  · unfold kplus
    rw [List.pairwise_append]
    refine ⟨?_, List.pairwise_singleton _ _, fun x hx y hy => ?_⟩
    · rw [List.pairwise_map]
      exact h.apart
    · obtain ⟨p, hp, rfl⟩ := List.mem_map.mp hx
      rw [List.mem_singleton.mp hy]
      exact hne p hp
  · rcases mem x hx with ⟨p, hp, rfl⟩ | rfl
    · rcases mem y hy with ⟨q, hq, rfl⟩ | rfl
      · show (clr a row p.2).getD q.1 0 = 0
        rw [clr_at (el p hp), h.nought p hp q hq hxy, h0 q hq]
        grind
      · show (clr a row p.2).getD a 0 = 0
        rw [clr_at (el p hp), h1]
        grind
    · rcases mem y hy with ⟨q, hq, rfl⟩ | rfl
      · exact h0 q hq
      · exact absurd rfl hxy
theorem kplus_spn {M W m : Nat} {kept : List (Nat × List Rat)} (h : KI m W kept) {a : Nat} {row : List Rat} (hl : row.length = W) : (∀ p ∈ kept, Spn (inL M ((kplus kept a row).map (·.2))) (cf M p.2)) ∧ Spn (inL M ((kplus kept a row).map (·.2))) (cf M row) ∧
    ∀ p ∈ kplus kept a row, Spn (inL M (kept.map (·.2) ++ [row])) (cf M p.2) := by
  have el : ∀ p ∈ kept, p.2.length = row.length := fun p hp => by rw [h.len p hp, hl]
  have r1 : Spn (inL M ((kplus kept a row).map (·.2))) (cf M row) := Spn.gen ⟨row, List.mem_map.mpr ⟨(a, row), List.mem_append_right _ List.mem_cons_self, rfl⟩, rfl⟩
  refine ⟨fun p hp => ?_, r1, fun x hx => ?_⟩
  · have g1 : Spn (inL M ((kplus kept a row).map (·.2))) (cf M (clr a row p.2)) := Spn.gen ⟨_, List.mem_map.mpr ⟨(p.1, clr a row p.2), List.mem_append_left _ (List.mem_map.mpr ⟨p, hp, rfl⟩), rfl⟩, rfl⟩
    exact (Spn.closed _ _ (p.2.getD a 0) g1 r1).cong fun k => by
      rw [cf_clr (el p hp)]
      grind
  · rcases List.mem_append.mp hx with hx | hx
    · obtain ⟨p, hp, rfl⟩ := List.mem_map.mp hx
      have g1 : Spn (inL M (kept.map (·.2) ++ [row])) (cf M p.2) := Spn.gen ⟨_, List.mem_append_left _ (List.mem_map_of_mem hp), rfl⟩
      have g2 : Spn (inL M (kept.map (·.2) ++ [row])) (cf M row) := Spn.gen ⟨_, List.mem_append_right _ List.mem_cons_self, rfl⟩
      exact (Spn.closed _ _ (-p.2.getD a 0) g1 g2).cong fun k => by rw [cf_clr (el p hp)]
    · rw [List.mem_singleton.mp hx]
      exact Spn.gen ⟨_, List.mem_append_right _ List.mem_cons_self, rfl⟩
/-- the sum of what kept rows give of a function, each as often as it says at the row's lead -/
def ksum (v : VF) : List (Nat × VF) → VF
  | [] => fun _ => 0
  | p :: l => fun k => v p.1 * p.2 k + ksum v l k
theorem ksum_add (v g : VF) (c : Rat) : ∀ (l : List (Nat × VF)) (k : Nat), ksum (fun j => v j + c * g j) l k = ksum v l k + c * ksum g l k
  | [], k => by show (0 : Rat) = 0 + c * 0; grind
  | p :: l, k => by
    show (v p.1 + c * g p.1) * p.2 k + ksum _ l k = (v p.1 * p.2 k + ksum v l k) + c * (g p.1 * p.2 k + ksum g l k)
    rw [ksum_add v g c l k]
    grind
theorem ksum_none {v : VF} : ∀ {l : List (Nat × VF)}, (∀ p ∈ l, v p.1 = 0) → ∀ k, ksum v l k = 0
  | [], _, _ => rfl
  | p :: l, h, k => by
    show v p.1 * p.2 k + ksum v l k = 0
    rw [h p List.mem_cons_self, ksum_none (fun q hq => h q (List.mem_cons_of_mem _ hq))]
    grind
theorem ksum_one {v : VF} {q : Nat × VF} : ∀ {l : List (Nat × VF)}, q ∈ l → l.Pairwise (fun p q => p.1 ≠ q.1) → v q.1 = 1 → (∀ p ∈ l, p.1 ≠ q.1 → v p.1 = 0) → ∀ k, ksum v l k = q.2 k
  | p :: l, hq, hp, h1, h0, k => by
    have hp2 := List.pairwise_cons.mp hp
    show v p.1 * p.2 k + ksum v l k = q.2 k
    rcases List.mem_cons.mp hq with rfl | hq
    · rw [h1, ksum_none (fun r hr => h0 r (List.mem_cons_of_mem _ hr) (hp2.1 r hr).symm)]
      grind
    · rw [h0 p List.mem_cons_self (hp2.1 q hq), ksum_one hq hp2.2 h1 (fun r hr => h0 r (List.mem_cons_of_mem _ hr))]
      grind
/-- what kept rows span is told by its numbers at the leads -/
theorem KI.told {m W M : Nat} {kept : List (Nat × List Rat)} (h : KI m W kept) (hM : m ≤ M) {v : VF} (hv : Spn (inL M (kept.map (·.2))) v) : ∀ k, v k = ksum v (kept.map fun p => (p.1, cf M p.2)) k := by
  have hp : (kept.map fun p => (p.1, cf M p.2)).Pairwise (fun p q => p.1 ≠ q.1) := by
    rw [List.pairwise_map]
    exact h.apart
  induction hv with
  | zero => exact fun k => (ksum_none (fun _ _ => rfl) k).symm
  | step c _ hg ih =>
    obtain ⟨r, hr, rfl⟩ := hg
    obtain ⟨p, hp1, rfl⟩ := List.mem_map.mp hr
    intro k
    have hlt := h.lt p hp1
    have e := ksum_one (v := cf M p.2) (q := (p.1, cf M p.2)) (List.mem_map.mpr ⟨p, hp1, rfl⟩) hp (by
      show cf M p.2 p.1 = 1
      unfold cf
      rw [if_pos (by omega), h.one p hp1]) (fun x hx hne => by
      obtain ⟨y, hy, rfl⟩ := List.mem_map.mp hx
      show cf M p.2 y.1 = 0
      unfold cf
      have := h.lt y hy
      rw [if_pos (by omega), h.nought p hp1 y hy (fun z => hne z.symm)]) k
    rw [ksum_add, ← ih k, e]
/-- a unit row is in what kept rows span if and only if it is one of them -/
theorem KI.unit {m W : Nat} {kept : List (Nat × List Rat)} (h : KI m W kept) {j : Nat} (hj : j < m) {u : VF} (hu : ∀ k, u k = if k = j then 1 else 0) :
    Spn (inL m (kept.map (·.2))) u ↔ ∃ p ∈ kept, p.1 = j ∧ ∀ k < m, k ≠ j → p.2.getD k 0 = 0 := by
  have hp : (kept.map fun p => (p.1, cf m p.2)).Pairwise (fun p q => p.1 ≠ q.1) := by
    rw [List.pairwise_map]
    exact h.apart
  constructor
  · intro hs
    have ht := h.told (Nat.le_refl m) hs
    by_cases hex : ∃ p ∈ kept, p.1 = j
    · obtain ⟨p, hp1, rfl⟩ := hex
      refine ⟨p, hp1, rfl, fun k hk hne => ?_⟩
      have e := ksum_one (v := u) (q := (p.1, cf m p.2)) (List.mem_map.mpr ⟨p, hp1, rfl⟩) hp (by rw [hu, if_pos rfl]) (fun x hx hne => by rw [hu, if_neg hne]) k
      rw [← ht k, hu, if_neg hne] at e
      have e2 : cf m p.2 k = 0 := e.symm
      unfold cf at e2
      rw [if_pos hk] at e2
      exact e2
    · exfalso
      have e := ksum_none (v := u) (l := kept.map fun p => (p.1, cf m p.2)) (fun x hx => by
        obtain ⟨y, hy, rfl⟩ := List.mem_map.mp hx
        rw [hu]
        exact if_neg fun z => hex ⟨y, hy, z⟩) j
      rw [← ht j, hu, if_pos rfl] at e
      exact absurd e (by decide)
  · rintro ⟨p, hp1, rfl, hz⟩
    have : Spn (inL m (kept.map (·.2))) (cf m p.2) := Spn.gen ⟨p.2, List.mem_map_of_mem hp1, rfl⟩
    refine this.cong fun k => ?_
    rw [hu]
    unfold cf
    by_cases hk : k < m
    · rw [if_pos hk]
      by_cases e : k = p.1
      · rw [if_pos e, e]
        exact h.one p hp1
      · rw [if_neg e]
        exact hz k hk e
    · rw [if_neg hk, if_neg (by omega)]
/-- a sum of the first n -/
def sN (f : Nat → Rat) : Nat → Rat
  | 0 => 0
  | n + 1 => sN f n + f n
theorem sN_add (f g : Nat → Rat) (c : Rat) : ∀ n, sN (fun k => f k + c * g k) n = sN f n + c * sN g n
  | 0 => by show (0 : Rat) = 0 + c * 0; grind
  | n + 1 => by
    show sN _ n + _ = (sN f n + f n) + c * (sN g n + g n)
    rw [sN_add f g c n]
    grind
theorem sN_cong {f g : Nat → Rat} : ∀ {n : Nat}, (∀ k < n, f k = g k) → sN f n = sN g n
  | 0, _ => rfl
  | n + 1, h => by
    show sN f n + f n = sN g n + g n
    rw [sN_cong fun k hk => h k (by omega), h n (by omega)]
theorem sN_none {f : Nat → Rat} : ∀ {n : Nat}, (∀ k < n, f k = 0) → sN f n = 0
  | 0, _ => rfl
  | n + 1, h => by
    show sN f n + f n = 0
    rw [sN_none fun k hk => h k (by omega), h n (by omega)]
    grind
theorem sN_one {f : Nat → Rat} {j : Nat} : ∀ {n : Nat}, j < n → (∀ k < n, k ≠ j → f k = 0) → sN f n = f j
  | n + 1, hj, h => by
    show sN f n + f n = f j
    by_cases e : j = n
    · subst e
      rw [sN_none fun k hk => h k (by omega) (by omega)]
      grind
    · rw [sN_one (n := n) (by omega) fun k hk => h k (by omega), h n (by omega) (by omega)]
      grind
/-- equations that hold at a point: so does what they span -/
theorem spn_holds {m : Nat} {pt : Nat → Rat} {G : VF → Prop} (h : ∀ g, G g → sN (fun k => g k * pt k) m = g m) {v : VF} (hv : Spn G v) : sN (fun k => v k * pt k) m = v m := by
  induction hv with
  | zero => exact sN_none fun k _ => by grind
  | step c _ hg ih =>
    rename_i v g _
    have e : (fun k => (v k + c * g k) * pt k) = fun k => (fun k => v k * pt k) k + c * (fun k => g k * pt k) k := funext fun k => by grind
    show sN (fun k => (v k + c * g k) * pt k) m = v m + c * g m
    rw [e, sN_add, ih, h _ hg]
end

section
/-- numbers over one divisor, all of n bits -/
def CB (n : Nat) (r : List Rat) : Prop := ∃ D : Nat, 0 < D ∧ D < 2 ^ n ∧ ∀ x ∈ r, ∃ N : Int, x * (D : Rat) = (N : Rat) ∧ N.natAbs < 2 ^ n
theorem CB.up {n m : Nat} {r : List Rat} (h : CB n r) (hm : n ≤ m) : CB m r := by
  obtain ⟨D, h0, h1, h2⟩ := h
  have hp : (2 : Nat) ^ n ≤ 2 ^ m := Nat.pow_le_pow_right (by decide) hm
  exact ⟨D, h0, Nat.lt_of_lt_of_le h1 hp, fun x hx => by
    obtain ⟨N, e, b⟩ := h2 x hx
    exact ⟨N, e, Nat.lt_of_lt_of_le b hp⟩⟩
theorem natCast_ne {D : Nat} (h : 0 < D) : (D : Rat) ≠ 0 := fun z => by
  have : (D : Rat) = ((0 : Nat) : Rat) := z
  have := Rat.natCast_inj.mp this
  omega
theorem CB.bd {n : Nat} {r : List Rat} (h : CB n r) {x : Rat} (hx : x ∈ r) : Bd n x := by
  obtain ⟨D, h0, h1, h2⟩ := h
  obtain ⟨N, e, b⟩ := h2 x hx
  have e1 : x = Rat.divInt N (D : Int) := by
    rw [Rat.divInt_eq_div]
    show x = (N : Rat) / (D : Rat)
    rw [← e]
    have := natCast_ne h0
    grind
  rw [e1]
  exact bd_of (by omega) b (by rw [Int.natAbs_natCast]; exact h1)
theorem getD_or {r : List Rat} {l : Nat} : r.getD l 0 = 0 ∨ r.getD l 0 ∈ r := by
  rw [List.getD_eq_getElem?_getD]
  cases h : r[l]? with
  | none => exact .inl rfl
  | some x => exact .inr (List.mem_of_getElem? h)
theorem CB.at {n : Nat} {r : List Rat} {D : Nat} (h : ∀ x ∈ r, ∃ N : Int, x * (D : Rat) = (N : Rat) ∧ N.natAbs < 2 ^ n) (l : Nat) : ∃ N : Int, r.getD l 0 * (D : Rat) = (N : Rat) ∧ N.natAbs < 2 ^ n := by
  rcases getD_or (r := r) (l := l) with e | e
  · exact ⟨0, by rw [e, Rat.zero_mul]; rfl, by show 0 < 2 ^ n; exact Nat.two_pow_pos n⟩
  · exact h _ e
theorem zip_mem {f : Rat → Rat → Rat} {a b : List Rat} {z : Rat} (h : z ∈ List.zipWith f a b) : ∃ x ∈ a, ∃ y ∈ b, f x y = z := by
  obtain ⟨i, hi⟩ := List.mem_iff_getElem?.mp h
  rw [List.getElem?_zipWith] at hi
  cases e1 : a[i]? with
  | none =>
    rw [e1] at hi
    cases hi
  | some c =>
    cases e2 : b[i]? with
    | none =>
      rw [e1, e2] at hi
      cases hi
    | some d =>
      rw [e1, e2] at hi
      exact ⟨c, List.mem_of_getElem? e1, d, List.mem_of_getElem? e2, Option.some.inj hi⟩
theorem two_wl {x y : Int} {a b : Nat} (h : x.natAbs < 2 ^ a) (h2 : y.natAbs < 2 ^ b) (z w : Int) (h3 : z.natAbs < 2 ^ a) (h4 : w.natAbs < 2 ^ b) : (x * y - z * w).natAbs < 2 ^ (a + b + 1) := by
  have w1 := wl h h2
  have w2 := wl h3 h4
  have := Int.natAbs_sub_le (x * y) (z * w)
  rw [Nat.pow_succ]
  omega
theorem CB.clr {n m l : Nat} {base row : List Rat} (h : CB n row) (h2 : CB m base) : CB (n + m + 1) (Tp.clr l base row) := by
  unfold Tp.clr
  split
  · exact h.up (by omega)
  obtain ⟨D, d0, d1, d2⟩ := h
  obtain ⟨E, e0, e1, e2⟩ := h2
  obtain ⟨F, f1, f2⟩ := CB.at d2 l
  refine ⟨D * E, Nat.mul_pos d0 e0, ?_, fun z hz => ?_⟩
  · have := Nat.mul_lt_mul'' d1 e1
    rw [← Nat.pow_add] at this
    exact Nat.lt_of_lt_of_le this (Nat.pow_le_pow_right (by decide) (by omega))
  · obtain ⟨x, hx, y, hy, rfl⟩ := zip_mem hz
    obtain ⟨N, n1, n2⟩ := d2 x hx
    obtain ⟨M, m1, m2⟩ := e2 y hy
    refine ⟨N * (E : Int) - F * M, ?_, two_wl n2 (by rw [Int.natAbs_natCast]; exact e1) _ _ f2 m2⟩
    rw [Rat.natCast_mul, Rat.intCast_sub, Rat.intCast_mul, Rat.intCast_mul, ← n1, ← f1, ← m1]
    show (x - row.getD l 0 * y) * ((D : Rat) * (E : Rat)) = x * D * (E : Rat) - row.getD l 0 * D * (y * E)
    grind
theorem CB.over {n : Nat} {r : List Rat} (h : CB n r) {f : Rat} (hf : f ∈ r) (f0 : f ≠ 0) : CB n (r.map fun x => x / f) := by
  obtain ⟨D, d0, d1, d2⟩ := h
  obtain ⟨F, f1, f2⟩ := d2 f hf
  have hD := natCast_ne d0
  have hF : F ≠ 0 := fun z => by
    subst z
    have z2 : f * (D : Rat) = 0 := f1
    rcases Rat.mul_eq_zero.mp z2 with g | g
    · exact f0 g
    · exact hD g
  refine ⟨F.natAbs, by omega, f2, fun z hz => ?_⟩
  obtain ⟨x, hx, rfl⟩ := List.mem_map.mp hz
  obtain ⟨N, n1, n2⟩ := d2 x hx
  rcases Int.natAbs_eq F with e | e
  · refine ⟨N, ?_, n2⟩
    have e3 : ((F.natAbs : Nat) : Rat) = f * D := by
      rw [f1, show ((F.natAbs : Nat) : Rat) = (((F.natAbs : Nat) : Int) : Rat) from rfl, ← e]
    rw [e3, ← n1]
    grind
  · refine ⟨-N, ?_, by rw [Int.natAbs_neg]; exact n2⟩
    have e3 : ((F.natAbs : Nat) : Rat) = -(f * D) := by
      rw [f1, ← Rat.intCast_neg, show ((F.natAbs : Nat) : Rat) = (((F.natAbs : Nat) : Int) : Rat) from rfl]
      congr 1
      omega
    rw [e3, Rat.intCast_neg, ← n1]
    grind
theorem CB.append {n : Nat} {r s : List Rat} (h : CB n r) (hs : ∀ x ∈ s, x = 0 ∨ x = 1) : CB n (r ++ s) := by
  obtain ⟨D, d0, d1, d2⟩ := h
  refine ⟨D, d0, d1, fun x hx => ?_⟩
  rcases List.mem_append.mp hx with h | h
  · exact d2 x h
  · rcases hs x h with rfl | rfl
    · exact ⟨0, by rw [Rat.zero_mul]; rfl, by show 0 < 2 ^ n; exact Nat.two_pow_pos n⟩
    · exact ⟨(D : Int), by rw [Rat.one_mul]; rfl, by rw [Int.natAbs_natCast]; exact d1⟩
/-- kept rows over one divisor, all of m bits -/
def JB (m : Nat) (kept : List (Nat × List Rat)) : Prop := ∃ D : Nat, 0 < D ∧ D < 2 ^ m ∧ ∀ p ∈ kept, ∀ x ∈ p.2, ∃ N : Int, x * (D : Rat) = (N : Rat) ∧ N.natAbs < 2 ^ m
/-- the bits of so many kept rows -/
def jb : Nat → Nat
  | 0 => 1
  | s + 1 => 2 * jb s + 13
theorem jb_up {s : Nat} : jb s ≤ jb (s + 1) := by
  show _ ≤ 2 * jb s + 13
  omega
theorem jb_le {s : Nat} (h : s ≤ 6) : jb s ≤ 900 := by
  have : ∀ s ≤ 6, jb s ≤ 900 := by decide
  exact this s h
/-- small given rows: times 12 whole, of 11 bits; whole and at most 2 ahead of place m -/
def Gs (m : Nat) (g : List Rat) : Prop := (∀ x ∈ g, ∃ N : Int, x * 12 = (N : Rat) ∧ N.natAbs < 2 ^ 11) ∧ ∀ k < m, ∃ F : Int, g.getD k 0 = (F : Rat) ∧ F.natAbs ≤ 2
theorem clr_up {D B l : Nat} {base row : List Rat} {m : Nat} (hb : ∀ y ∈ base, ∃ N : Int, y * (D : Rat) = (N : Rat) ∧ N.natAbs < 2 ^ m) (hr : ∀ x ∈ row, ∃ N : Int, x * ((12 * D : Nat) : Rat) = (N : Rat) ∧ N.natAbs < 2 ^ m * B) {F : Int} (hF : row.getD l 0 = (F : Rat)) (hF2 : F.natAbs ≤ 2) :
    ∀ x ∈ clr l base row, ∃ N : Int, x * ((12 * D : Nat) : Rat) = (N : Rat) ∧ N.natAbs < 2 ^ m * (B + 24) := by
  have hp : 0 < 2 ^ m := Nat.two_pow_pos m
  unfold clr
  intro z hz
  split at hz
  · obtain ⟨N, n1, n2⟩ := hr z hz
    exact ⟨N, n1, by rw [Nat.mul_add]; omega⟩
  · obtain ⟨x, hx, y, hy, rfl⟩ := zip_mem hz
    obtain ⟨N, n1, n2⟩ := hr x hx
    obtain ⟨M, m1, m2⟩ := hb y hy
    refine ⟨N - 12 * F * M, ?_, ?_⟩
    · rw [Rat.intCast_sub, Rat.intCast_mul, Rat.intCast_mul, ← n1, ← m1, ← hF, Rat.natCast_mul, show ((12 : Int) : Rat) = 12 from rfl, show ((12 : Nat) : Rat) = 12 from rfl]
      grind
    · have h1 : (12 * F * M).natAbs ≤ 24 * M.natAbs := by
        rw [Int.natAbs_mul, Int.natAbs_mul]
        exact Nat.mul_le_mul_right _ (by show 12 * F.natAbs ≤ 24; omega)
      have h2 := Int.natAbs_sub_le N (12 * F * M)
      rw [Nat.mul_add]
      omega
theorem red_jb {D m W mm : Nat} {kept : List (Nat × List Rat)} (hk : KI mm W kept) (hD : ∀ p ∈ kept, ∀ x ∈ p.2, ∃ N : Int, x * (D : Rat) = (N : Rat) ∧ N.natAbs < 2 ^ m) :
    ∀ (todo : List (Nat × List Rat)) (row : List Rat) (B : Nat), (∀ p ∈ todo, p ∈ kept) → todo.Pairwise (fun p q => p.1 ≠ q.1) → row.length = W → (∀ x ∈ row, ∃ N : Int, x * ((12 * D : Nat) : Rat) = (N : Rat) ∧ N.natAbs < 2 ^ m * B) → (∀ p ∈ todo, ∃ F : Int, row.getD p.1 0 = (F : Rat) ∧ F.natAbs ≤ 2) →
      ∀ x ∈ red todo row, ∃ N : Int, x * ((12 * D : Nat) : Rat) = (N : Rat) ∧ N.natAbs < 2 ^ m * (B + 24 * todo.length)
  | [], row, B, _, _, _, hr, _ => hr
  | p :: todo, row, B, ht, hpw, hl, hr, hF => by
    have hp := ht p List.mem_cons_self
    have hpw2 := List.pairwise_cons.mp hpw
    have el : row.length = p.2.length := by rw [hl, hk.len p hp]
    obtain ⟨F, f1, f2⟩ := hF p List.mem_cons_self
    have h1 := clr_up (hD p hp) hr f1 f2
    have := red_jb hk hD todo (clr p.1 p.2 row) (B + 24) (fun q hq => ht q (List.mem_cons_of_mem _ hq)) hpw2.2 (by rw [clr_len el]; exact hl) h1 (fun q hq => by
      obtain ⟨F2, g1, g2⟩ := hF q (List.mem_cons_of_mem _ hq)
      refine ⟨F2, ?_, g2⟩
      rw [clr_at el, hk.nought p hp q (ht q (List.mem_cons_of_mem _ hq)) (hpw2.1 q hq), g1]
      grind)
    intro x hx
    obtain ⟨N, n1, n2⟩ := this x hx
    refine ⟨N, n1, ?_⟩
    rw [List.length_cons, show B + 24 * (todo.length + 1) = B + 24 + 24 * todo.length by omega]
    exact n2
/-- one row cleared by another, as the check does it -/
def elm (n c : Nat) (row x : List Rat) : List Rat := (List.range n).map fun k => x.getD k 0 + -(x.getD c 0 / row.getD c 0) * row.getD k 0
theorem elm_len {n c : Nat} {row x : List Rat} : (elm n c row x).length = n := by
  unfold elm
  rw [List.length_map, List.length_range]
theorem elm_at {n c : Nat} {row x : List Rat} {k : Nat} (h : k < n) : (elm n c row x).getD k 0 = x.getD k 0 + -(x.getD c 0 / row.getD c 0) * row.getD k 0 := by
  unfold elm
  rw [List.getD_eq_getElem?_getD, List.getElem?_map, List.getElem?_range h]
  rfl
theorem cf_elm {n c : Nat} {row x : List Rat} (k : Nat) : cf n (elm n c row x) k = cf n x k + -(x.getD c 0 / row.getD c 0) * cf n row k := by
  unfold cf
  by_cases h : k < n
  · rw [if_pos h, if_pos h, if_pos h, elm_at h]
  · rw [if_neg h, if_neg h, if_neg h]
    grind
theorem CB.elm {b n c : Nat} {row x : List Rat} (h : CB b x) (h2 : CB b row) (h0 : row.getD c 0 ≠ 0) : CB (2 * b + 1) (Tp.elm n c row x) := by
  obtain ⟨D, d0, d1, d2⟩ := h
  obtain ⟨E, e0, e1, e2⟩ := h2
  obtain ⟨N0, n1, n2⟩ := CB.at d2 c
  obtain ⟨M0, m1, m2⟩ := CB.at e2 c
  have hE := natCast_ne e0
  have hM : M0 ≠ 0 := fun z => by
    subst z
    have z2 : row.getD c 0 * (E : Rat) = 0 := m1
    rcases Rat.mul_eq_zero.mp z2 with g | g
    · exact h0 g
    · exact hE g
  have hp : D * M0.natAbs < 2 ^ (2 * b + 1) := by
    have := Nat.mul_lt_mul'' d1 m2
    rw [← Nat.pow_add] at this
    exact Nat.lt_of_lt_of_le this (Nat.pow_le_pow_right (by decide) (by omega))
  refine ⟨D * M0.natAbs, Nat.mul_pos d0 (by omega), hp, fun z hz => ?_⟩
  obtain ⟨k, _, rfl⟩ := List.mem_map.mp hz
  obtain ⟨N, n3, n4⟩ := CB.at d2 k
  obtain ⟨M, m3, m4⟩ := CB.at e2 k
  have hb : ∀ s : Int, s.natAbs = 1 → (s * (N * M0 - N0 * M)).natAbs < 2 ^ (2 * b + 1) := fun s hs => by
    rw [Int.natAbs_mul, hs, Nat.one_mul]
    have := two_wl n4 m2 _ _ n2 m4
    rw [show b + b + 1 = 2 * b + 1 by omega] at this
    exact this
  rcases Int.natAbs_eq M0 with e | e
  · refine ⟨1 * (N * M0 - N0 * M), ?_, hb 1 rfl⟩
    have e3 : ((M0.natAbs : Nat) : Rat) = row.getD c 0 * E := by
      rw [m1, show ((M0.natAbs : Nat) : Rat) = (((M0.natAbs : Nat) : Int) : Rat) from rfl, ← e]
    rw [Rat.natCast_mul, e3, Int.one_mul, Rat.intCast_sub, Rat.intCast_mul, Rat.intCast_mul, ← n1, ← m1, ← n3, ← m3]
    grind
  · refine ⟨-1 * (N * M0 - N0 * M), ?_, hb (-1) rfl⟩
    have e3 : ((M0.natAbs : Nat) : Rat) = -(row.getD c 0 * E) := by
      rw [m1, ← Rat.intCast_neg, show ((M0.natAbs : Nat) : Rat) = (((M0.natAbs : Nat) : Int) : Rat) from rfl]
      congr 1
      omega
    rw [Rat.natCast_mul, e3, Rat.intCast_mul, Rat.intCast_sub, Rat.intCast_mul, Rat.intCast_mul, ← n1, ← m1, ← n3, ← m3, show ((-1 : Int) : Rat) = -1 from rfl]
    grind
/-- the check's elimination, ahead of column c, with f rows done -/
structure RI (n : Nat) (rows0 rows : List (List Rat)) (c f : Nat) : Prop where
  len : ∀ r ∈ rows, r.length = n
  cnt : rows.length = rows0.length
  spn : ∀ v, Spn (inL n rows0) v ↔ Spn (inL n rows) v
  few : f ≤ rows.length
  ech : ∃ E : List (Nat × VF), Ec E ∧ E.map (·.2) = (rows.take f).map (cf n) ∧ ∀ p ∈ E, p.1 < c
  low : ∀ r ∈ rows.drop f, ∀ k < c, r.getD k 0 = 0
theorem RI.start {n : Nat} {rows : List (List Rat)} (h : ∀ r ∈ rows, r.length = n) : RI n rows rows 0 0 :=
  ⟨h, rfl, fun _ => Iff.rfl, Nat.zero_le _, ⟨[], ⟨List.Pairwise.nil, fun _ h => nomatch h⟩, rfl, fun _ h => nomatch h⟩, fun _ _ _ h => absurd h (Nat.not_lt_zero _)⟩
theorem RI.skip {n c f : Nat} {rows0 rows : List (List Rat)} (h : RI n rows0 rows c f) (hz : ∀ r ∈ rows.drop f, r.getD c 0 = 0) : RI n rows0 rows (c + 1) f := by
  obtain ⟨E, e1, e2, e3⟩ := h.ech
  refine ⟨h.len, h.cnt, h.spn, h.few, ⟨E, e1, e2, fun p hp => by have := e3 p hp; omega⟩, fun r hr k hk => ?_⟩
  rcases Nat.lt_or_ge k c with g | g
  · exact h.low r hr k g
  · have : k = c := by omega
    rw [this]
    exact hz r hr
theorem RI.next {n c f : Nat} {rows0 A B C : List (List Rat)} {row : List Rat} (h : RI n rows0 (A ++ (B ++ row :: C)) c f) (hA : A.length = f) (hc : c < n) (h0 : row.getD c 0 ≠ 0) : RI n rows0 (A ++ row :: (B ++ C).map (elm n c row)) (c + 1) (f + 1) := by
  obtain ⟨E, e1, e2, e3⟩ := h.ech
  subst hA
  have hd : (A ++ (B ++ row :: C)).drop A.length = B ++ row :: C := List.drop_left
  have hlow := h.low
  rw [hd] at hlow
  rw [List.take_left] at e2
  have hrow : row ∈ B ++ row :: C := List.mem_append_right _ List.mem_cons_self
  have hBC : ∀ x ∈ B ++ C, x ∈ B ++ row :: C := fun x hx => by
    rcases List.mem_append.mp hx with g | g
    · exact List.mem_append_left _ g
    · exact List.mem_append_right _ (List.mem_cons_of_mem _ g)
  have hin : ∀ x ∈ A ++ (B ++ row :: C), x ∈ A ∨ x = row ∨ x ∈ B ++ C := fun x hx => by
    rcases List.mem_append.mp hx with g | g
    · exact .inl g
    · rcases List.mem_append.mp g with g | g
      · exact .inr (.inr (List.mem_append_left _ g))
      · rcases List.mem_cons.mp g with g | g
        · exact .inr (.inl g)
        · exact .inr (.inr (List.mem_append_right _ g))
  have ld : Ld (cf n row) c := by
    refine ⟨?_, fun k hk => ?_⟩
    · unfold cf
      rw [if_pos hc]
      exact h0
    · unfold cf
      rw [if_pos (by omega)]
      exact hlow row hrow k hk
  refine ⟨fun r hr => ?_, ?_, fun v => (h.spn v).trans ⟨fun hv => hv.mono fun g hg => ?_, fun hv => hv.mono fun g hg => ?_⟩, ?_, ⟨E ++ [(c, cf n row)], ⟨?_, ?_⟩, ?_, ?_⟩, ?_⟩
  · rcases List.mem_append.mp hr with g | g
    · exact h.len r (List.mem_append_left _ g)
    · rcases List.mem_cons.mp g with g | g
      · rw [g]
        exact h.len row (List.mem_append_right _ hrow)
      · obtain ⟨x, _, rfl⟩ := List.mem_map.mp g
        exact elm_len
  · rw [← h.cnt]
    simp only [List.length_append, List.length_cons, List.length_map]
    omega
  · obtain ⟨x, hx, rfl⟩ := hg
    have r1 : Spn (inL n (A ++ row :: (B ++ C).map (elm n c row))) (cf n row) := Spn.gen ⟨row, List.mem_append_right _ List.mem_cons_self, rfl⟩
    rcases hin x hx with g | g | g
    · exact Spn.gen ⟨x, List.mem_append_left _ g, rfl⟩
    · rw [g]
      exact r1
    · have r2 : Spn (inL n (A ++ row :: (B ++ C).map (elm n c row))) (cf n (elm n c row x)) := Spn.gen ⟨_, List.mem_append_right _ (List.mem_cons_of_mem _ (List.mem_map_of_mem g)), rfl⟩
      exact (Spn.closed _ _ (x.getD c 0 / row.getD c 0) r2 r1).cong fun k => by
        rw [cf_elm]
        grind
  · obtain ⟨x, hx, rfl⟩ := hg
    have r1 : Spn (inL n (A ++ (B ++ row :: C))) (cf n row) := Spn.gen ⟨row, List.mem_append_right _ hrow, rfl⟩
    rcases List.mem_append.mp hx with g | g
    · exact Spn.gen ⟨x, List.mem_append_left _ g, rfl⟩
    · rcases List.mem_cons.mp g with g | g
      · rw [g]
        exact r1
      · obtain ⟨y, hy, rfl⟩ := List.mem_map.mp g
        have r2 : Spn (inL n (A ++ (B ++ row :: C))) (cf n y) := Spn.gen ⟨y, List.mem_append_right _ (hBC y hy), rfl⟩
        exact (Spn.closed _ _ (-(y.getD c 0 / row.getD c 0)) r2 r1).cong fun k => by rw [cf_elm]
  · simp only [List.length_append, List.length_cons]
    omega
  · rw [List.pairwise_append]
    refine ⟨e1.1, List.pairwise_singleton _ _, fun p hp q hq => ?_⟩
    rw [List.mem_singleton.mp hq]
    exact e3 p hp
  · intro p hp
    rcases List.mem_append.mp hp with g | g
    · exact e1.2 p g
    · rw [List.mem_singleton.mp g]
      exact ld
  · rw [List.map_append, e2, show A ++ row :: (B ++ C).map (elm n c row) = (A ++ [row]) ++ (B ++ C).map (elm n c row) by simp, List.take_left' (by simp), List.map_append]
    rfl
  · intro p hp
    rcases List.mem_append.mp hp with g | g
    · have := e3 p g
      omega
    · rw [List.mem_singleton.mp g]
      exact Nat.lt_succ_self c
  · rw [show A ++ row :: (B ++ C).map (elm n c row) = (A ++ [row]) ++ (B ++ C).map (elm n c row) by simp, List.drop_left' (by simp)]
    intro r hr k hk
    obtain ⟨x, hx, rfl⟩ := List.mem_map.mp hr
    rw [elm_at (by omega)]
    rcases Nat.lt_or_ge k c with g | g
    · rw [hlow x (hBC x hx) k g, hlow row hrow k g]
      grind
    · have : k = c := by omega
      subst this
      grind
theorem RI.done {n f : Nat} {rows0 rows : List (List Rat)} (h : RI n rows0 rows n f) : RankIs (Spn (inL n rows0)) f := by
  obtain ⟨E, e1, e2, e3⟩ := h.ech
  have hlen : E.length = f := by
    have := congrArg List.length e2
    rw [List.length_map, List.length_map, List.length_take] at this
    have := h.few
    omega
  have hE : ∀ p ∈ E, ∃ r ∈ rows.take f, cf n r = p.2 := fun p hp => by
    have : p.2 ∈ (rows.take f).map (cf n) := by
      rw [← e2]
      exact List.mem_map_of_mem hp
    obtain ⟨r, hr, e⟩ := List.mem_map.mp this
    exact ⟨r, hr, e⟩
  refine ⟨E, e1, fun p hp => ?_, fun v c hv hc => ?_, hlen⟩
  · obtain ⟨r, hr, e⟩ := hE p hp
    rw [h.spn, ← e]
    exact Spn.gen ⟨r, List.mem_of_mem_take hr, rfl⟩
  · have hv2 : Spn (inR E) v := ((h.spn v).mp hv).mono fun g hg => by
      obtain ⟨r, hr, rfl⟩ := hg
      rw [← List.take_append_drop f rows] at hr
      rcases List.mem_append.mp hr with g | g
      · have : cf n r ∈ E.map (·.2) := by
          rw [e2]
          exact List.mem_map_of_mem g
        obtain ⟨p, hp, e⟩ := List.mem_map.mp this
        exact Spn.gen ⟨p, hp, e⟩
      · refine Spn.zero.cong fun k => ?_
        unfold cf
        split
        · rename_i hk
          exact (h.low r g k hk).symm
        · rfl
    rcases e1.lead hv2 with z | ⟨p, hp, hl⟩
    · exact absurd (z c) hc.1
    · exact ⟨p, hp, hl.uniq hc⟩
/-- a row with a mark behind it -/
def mrk (g : List Rat) (i n : Nat) : List Rat := g ++ (List.range n).map fun k => if k = i then (1 : Rat) else 0
theorem cf_mrk {M : Nat} {g : List Rat} (h : g.length = M) (i n : Nat) : cf M (mrk g i n) = cf M g := funext fun k => by
  unfold cf mrk
  by_cases hk : k < M
  · rw [if_pos hk, if_pos hk, List.getD_eq_getElem?_getD, List.getD_eq_getElem?_getD, List.getElem?_append_left (by omega)]
  · rw [if_neg hk, if_neg hk]
theorem mrk_gs {m : Nat} {g : List Rat} (h : Gs m g) (hl : m ≤ g.length) (i n : Nat) : Gs m (mrk g i n) := by
  refine ⟨fun x hx => ?_, fun k hk => ?_⟩
  · rcases List.mem_append.mp hx with hx | hx
    · exact h.1 x hx
    · obtain ⟨k, _, rfl⟩ := List.mem_map.mp hx
      split
      · exact ⟨12, by rw [Rat.one_mul]; rfl, by decide⟩
      · exact ⟨0, by rw [Rat.zero_mul]; rfl, by decide⟩
  · unfold mrk
    rw [List.getD_eq_getElem?_getD, List.getElem?_append_left (by omega), ← List.getD_eq_getElem?_getD]
    exact h.2 k hk
/-- what is kept behind some equations, without a conflict -/
structure SI (m W : Nat) (done : List (List Rat)) (kept : List (Nat × List Rat)) : Prop where
  ki : KI m W kept
  jb : JB (jb kept.length) kept
  s1 : ∀ p ∈ kept, Spn (inL (m + 1) done) (cf (m + 1) p.2)
  s2 : ∀ g ∈ done, Spn (inL (m + 1) (kept.map (·.2))) (cf (m + 1) g)
theorem SI.start {m W : Nat} : SI m W [] [] := ⟨⟨(fun _ h => nomatch h), (fun _ h => nomatch h), (fun _ h => nomatch h), List.Pairwise.nil, (fun _ h => nomatch h)⟩, ⟨1, Nat.one_pos, by decide, fun _ h => nomatch h⟩, (fun _ h => nomatch h), (fun _ h => nomatch h)⟩
theorem SI.row {m W i n : Nat} {done : List (List Rat)} {kept : List (Nat × List Rat)} (h : SI m W done kept) {g : List Rat} (hg : g.length = m + 1) (hW : m + 1 + n = W) :
    (red kept (mrk g i n)).length = W ∧ (∃ v, Spn (inL (m + 1) (kept.map (·.2))) v ∧ ∀ k, cf (m + 1) (red kept (mrk g i n)) k = cf (m + 1) g k + v k) ∧ ∀ p ∈ kept, (red kept (mrk g i n)).getD p.1 0 = 0 := by
  have hl : (mrk g i n).length = W := by
    unfold mrk
    rw [List.length_append, List.length_map, List.length_range]
    omega
  refine ⟨red_len h.ki.len hl, ?_, red_nought h.ki hl⟩
  obtain ⟨v, v1, v2⟩ := red_spn (M := m + 1) h.ki.len hl
  refine ⟨v, v1, fun k => ?_⟩
  rw [v2 k, cf_mrk hg]
theorem SI.some {m W i n : Nat} {done : List (List Rat)} {kept : List (Nat × List Rat)} (h : SI m W done kept) {g : List Rat} (hg : g.length = m + 1) (hW : m + 1 + n = W) (hb : Gs m g) (hk : kept.length ≤ 6) : ∃ D : Nat, 0 < D ∧ D < 2 ^ (Tp.jb kept.length) ∧ (∀ p ∈ kept, ∀ x ∈ p.2, ∃ N : Int, x * (D : Rat) = (N : Rat) ∧ N.natAbs < 2 ^ (Tp.jb kept.length)) ∧
    ∀ j ≤ kept.length, ∀ x ∈ red (kept.take j) (mrk g i n), ∃ N : Int, x * ((12 * D : Nat) : Rat) = (N : Rat) ∧ N.natAbs < 2 ^ (Tp.jb kept.length + 12) := by
  obtain ⟨D, d0, d1, d2⟩ := h.jb
  have hl : (mrk g i n).length = W := by
    unfold mrk
    rw [List.length_append, List.length_map, List.length_range]
    omega
  have hs := mrk_gs hb (by omega) i n
  refine ⟨D, d0, d1, d2, fun j hj x hx => ?_⟩
  obtain ⟨N, n1, n2⟩ := red_jb h.ki d2 (kept.take j) (mrk g i n) (2 ^ 11) (fun p hp => List.mem_of_mem_take hp) (h.ki.apart.sublist (List.take_sublist _ _)) hl (fun x hx => by
    obtain ⟨N, n1, n2⟩ := hs.1 x hx
    refine ⟨N * (D : Int), ?_, ?_⟩
    · rw [Rat.natCast_mul, Rat.intCast_mul, ← n1, show ((12 : Nat) : Rat) = 12 from rfl]
      show x * (12 * (D : Rat)) = x * 12 * (D : Rat)
      grind
    · rw [Int.natAbs_mul, Int.natAbs_natCast, Nat.mul_comm]
      exact Nat.mul_lt_mul'' d1 n2) (fun p hp => hs.2 p.1 (h.ki.lt p (List.mem_of_mem_take hp))) x hx
  refine ⟨N, n1, Nat.lt_of_lt_of_le n2 ?_⟩
  rw [Nat.pow_add]
  refine Nat.mul_le_mul_left _ ?_
  rw [List.length_take]
  have : (2 : Nat) ^ 12 = 4096 := rfl
  have : (2 : Nat) ^ 11 = 2048 := rfl
  omega
theorem bd_over {D n : Nat} {x : Rat} {N : Int} (h0 : 0 < D) (h1 : D < 2 ^ n) (e : x * (D : Rat) = (N : Rat)) (b : N.natAbs < 2 ^ n) : Bd n x := by
  have e1 : x = Rat.divInt N (D : Int) := by
    rw [Rat.divInt_eq_div]
    show x = (N : Rat) / (D : Rat)
    rw [← e]
    have := natCast_ne h0
    grind
  rw [e1]
  exact bd_of (by omega) b (by rw [Int.natAbs_natCast]; exact h1)
theorem SI.bits {m W i n : Nat} {done : List (List Rat)} {kept : List (Nat × List Rat)} (h : SI m W done kept) {g : List Rat} (hg : g.length = m + 1) (hW : m + 1 + n = W) (hb : Gs m g) (hk : kept.length ≤ 6) : (∀ p ∈ kept, ∀ x ∈ p.2, Bd 1000 x) ∧ ∀ j ≤ kept.length, ∀ x ∈ red (kept.take j) (mrk g i n), Bd 1000 x := by
  obtain ⟨D, d0, d1, d2, d3⟩ := h.some (i := i) hg hW hb hk
  have hj := jb_le hk
  refine ⟨fun p hp x hx => ?_, fun j hj2 x hx => ?_⟩
  · obtain ⟨N, n1, n2⟩ := d2 p hp x hx
    exact (bd_over d0 d1 n1 n2).up (by omega)
  · obtain ⟨N, n1, n2⟩ := d3 j hj2 x hx
    refine (bd_over (n := Tp.jb kept.length + 12) (by omega) ?_ n1 n2).up (by omega)
    rw [Nat.pow_add]
    have : (2 : Nat) ^ 12 = 4096 := rfl
    omega
theorem SI.holds {m W i n : Nat} {done : List (List Rat)} {kept : List (Nat × List Rat)} (h : SI m W done kept) {g : List Rat} (hg : g.length = m + 1) (hW : m + 1 + n = W) {pt : Nat → Rat} (hp : ∀ r ∈ done ++ [g], sN (fun k => cf (m + 1) r k * pt k) m = cf (m + 1) r m)
    (hz : ∀ k < m, (red kept (mrk g i n)).getD k 0 = 0) : (red kept (mrk g i n)).getD m 0 = 0 := by
  obtain ⟨_, ⟨v, v1, v2⟩, _⟩ := h.row (i := i) hg hW
  have hs : Spn (inL (m + 1) (done ++ [g])) (cf (m + 1) (red kept (mrk g i n))) := by
    have a1 : Spn (inL (m + 1) (done ++ [g])) (cf (m + 1) g) := Spn.gen ⟨g, List.mem_append_right _ List.mem_cons_self, rfl⟩
    have a2 : Spn (inL (m + 1) (done ++ [g])) v := v1.mono fun x hx => by
      obtain ⟨r, hr, rfl⟩ := hx
      obtain ⟨p, hp, rfl⟩ := List.mem_map.mp hr
      exact (h.s1 p hp).mono fun y hy => by
        obtain ⟨r, hr, rfl⟩ := hy
        exact Spn.gen ⟨r, List.mem_append_left _ hr, rfl⟩
    exact (a1.addv a2).cong fun k => (v2 k).symm
  have e := spn_holds (m := m) (pt := pt) (fun x hx => by
    obtain ⟨r, hr, rfl⟩ := hx
    exact hp r hr) hs
  rw [sN_none (fun k hk => by
    have : cf (m + 1) (red kept (mrk g i n)) k = 0 := by
      unfold cf
      rw [if_pos (by omega)]
      exact hz k hk
    rw [this]
    grind)] at e
  have e2 : cf (m + 1) (red kept (mrk g i n)) m = (red kept (mrk g i n)).getD m 0 := by
    unfold cf
    exact if_pos (by omega)
  rw [← e2]
  exact e.symm
theorem SI.drop {m W i n : Nat} {done : List (List Rat)} {kept : List (Nat × List Rat)} (h : SI m W done kept) {g : List Rat} (hg : g.length = m + 1) (hW : m + 1 + n = W) (hz : ∀ k < m + 1, (red kept (mrk g i n)).getD k 0 = 0) : SI m W (done ++ [g]) kept := by
  obtain ⟨_, ⟨v, v1, v2⟩, _⟩ := h.row (i := i) hg hW
  refine ⟨h.ki, h.jb, fun p hp => (h.s1 p hp).mono fun y hy => ?_, fun x hx => ?_⟩
  · obtain ⟨r, hr, rfl⟩ := hy
    exact Spn.gen ⟨r, List.mem_append_left _ hr, rfl⟩
  · rcases List.mem_append.mp hx with hx | hx
    · exact h.s2 x hx
    · rw [List.mem_singleton.mp hx]
      refine (v1.scale (-1)).cong fun k => ?_
      have e := v2 k
      have e0 : cf (m + 1) (red kept (mrk g i n)) k = 0 := by
        unfold cf
        split
        · exact hz k (by assumption)
        · rfl
      rw [e0] at e
      grind
theorem jb_next {D m : Nat} {kept : List (Nat × List Rat)} {r1 : List Rat} {f : Rat} (d0 : 0 < D) (d1 : D < 2 ^ m) (d2 : ∀ p ∈ kept, ∀ x ∈ p.2, ∃ N : Int, x * (D : Rat) = (N : Rat) ∧ N.natAbs < 2 ^ m) (d4 : ∀ x ∈ r1, ∃ N : Int, x * ((12 * D : Nat) : Rat) = (N : Rat) ∧ N.natAbs < 2 ^ (m + 12)) (hf : f ∈ r1) (f0 : f ≠ 0) : ∀ a, JB (2 * m + 13) (kplus kept a (r1.map fun x => x / f)) := by
  intro a
  obtain ⟨F, f1, f2⟩ := d4 f hf
  have hD := natCast_ne (D := 12 * D) (by omega)
  have hF : F ≠ 0 := fun z => by
    subst z
    have z2 : f * ((12 * D : Nat) : Rat) = 0 := f1
    rcases Rat.mul_eq_zero.mp z2 with g | g
    · exact f0 g
    · exact hD g
  obtain ⟨s, s1, s2⟩ : ∃ s : Int, s.natAbs = 1 ∧ ((F.natAbs : Nat) : Int) = s * F := by
    rcases Int.natAbs_eq F with e | e
    · exact ⟨1, rfl, by omega⟩
    · exact ⟨-1, rfl, by omega⟩
  have eF : ((F.natAbs : Nat) : Rat) = (s : Rat) * (f * ((12 * D : Nat) : Rat)) := by
    rw [f1, ← Rat.intCast_mul, ← s2]
    rfl
  have row2 : ∀ x ∈ r1.map (fun x => x / f), ∃ N : Int, x * ((F.natAbs : Nat) : Rat) = (N : Rat) ∧ N.natAbs < 2 ^ (m + 12) := fun z hz => by
    obtain ⟨x, hx, rfl⟩ := List.mem_map.mp hz
    obtain ⟨N, n1, n2⟩ := d4 x hx
    refine ⟨s * N, ?_, by rw [Int.natAbs_mul, s1, Nat.one_mul]; exact n2⟩
    rw [eF, Rat.intCast_mul, ← n1]
    grind
  generalize r1.map (fun x => x / f) = r2 at row2
  have hDF : D * F.natAbs < 2 ^ (2 * m + 13) := by
    have := Nat.mul_lt_mul'' d1 f2
    rw [← Nat.pow_add] at this
    exact Nat.lt_of_lt_of_le this (Nat.pow_le_pow_right (by decide) (by omega))
  refine ⟨D * F.natAbs, Nat.mul_pos d0 (by omega), hDF, fun q hq x hx => ?_⟩
  rcases List.mem_append.mp hq with hq | hq
  · obtain ⟨p, hp, rfl⟩ := List.mem_map.mp hq
    have hx : x ∈ clr a r2 p.2 := hx
    unfold clr at hx
    split at hx
    · obtain ⟨N, n1, n2⟩ := d2 p hp x hx
      refine ⟨N * (F.natAbs : Nat), ?_, ?_⟩
      · rw [Rat.natCast_mul, Rat.intCast_mul, ← n1]
        show x * ((D : Rat) * (F.natAbs : Rat)) = x * (D : Rat) * (F.natAbs : Rat)
        grind
      · rw [Int.natAbs_mul, Int.natAbs_natCast]
        have := Nat.mul_lt_mul'' n2 f2
        rw [← Nat.pow_add] at this
        exact Nat.lt_of_lt_of_le this (Nat.pow_le_pow_right (by decide) (by omega))
    · obtain ⟨y, hy, z, hz, rfl⟩ := zip_mem hx
      obtain ⟨N, n1, n2⟩ := d2 p hp y hy
      obtain ⟨A, a1, a2⟩ := CB.at (d2 p hp) a
      obtain ⟨M, m1, m2⟩ := row2 z hz
      refine ⟨N * (F.natAbs : Nat) - A * M, ?_, ?_⟩
      · rw [Rat.natCast_mul, Rat.intCast_sub, Rat.intCast_mul, Rat.intCast_mul, ← n1, ← a1, ← m1]
        show (y - p.2.getD a 0 * z) * ((D : Rat) * (F.natAbs : Rat)) = y * (D : Rat) * (F.natAbs : Rat) - p.2.getD a 0 * (D : Rat) * (z * (F.natAbs : Rat))
        grind
      · have := two_wl (a := m) (b := m + 12) n2 (y := ((F.natAbs : Nat) : Int)) (by rw [Int.natAbs_natCast]; exact f2) A M a2 m2
        rw [show m + (m + 12) + 1 = 2 * m + 13 by omega] at this
        exact this
  · rw [List.mem_singleton.mp hq] at hx
    obtain ⟨M, m1, m2⟩ := row2 x hx
    refine ⟨(D : Int) * M, ?_, ?_⟩
    · rw [Rat.natCast_mul, Rat.intCast_mul, ← m1]
      show x * ((D : Rat) * (F.natAbs : Rat)) = (D : Rat) * (x * (F.natAbs : Rat))
      grind
    · rw [Int.natAbs_mul, Int.natAbs_natCast]
      have := Nat.mul_lt_mul'' d1 m2
      rw [← Nat.pow_add] at this
      exact Nat.lt_of_lt_of_le this (Nat.pow_le_pow_right (by decide) (by omega))
theorem SI.plus {m W i n a : Nat} {done : List (List Rat)} {kept : List (Nat × List Rat)} (h : SI m W done kept) {g : List Rat} (hg : g.length = m + 1) (hW : m + 1 + n = W) (hb : Gs m g) (hk6 : kept.length ≤ 6) (ha : a < m) (h0 : (red kept (mrk g i n)).getD a 0 ≠ 0) :
    SI m W (done ++ [g]) (kplus kept a ((red kept (mrk g i n)).map fun x => x / (red kept (mrk g i n)).getD a 0)) := by
  obtain ⟨l1, ⟨v, v1, v2⟩, n1⟩ := h.row (i := i) hg hW
  obtain ⟨D, d0, d1, d2, d3⟩ := h.some (i := i) hg hW hb hk6
  have d4 := d3 kept.length (Nat.le_refl _)
  rw [List.take_length] at d4
  clear d3
  generalize red kept (mrk g i n) = r1 at *
  have hr2 : ∀ k, (r1.map fun x => x / r1.getD a 0).getD k 0 = r1.getD k 0 / r1.getD a 0 := fun k => by
    rw [List.getD_eq_getElem?_getD, List.getElem?_map, List.getD_eq_getElem?_getD (l := r1) (i := k)]
    cases r1[k]? with
    | none => show (0 : Rat) = 0 / _; grind
    | some x => rfl
  have mem : r1.getD a 0 ∈ r1 := by
    rcases getD_or (r := r1) (l := a) with e | e
    · exact absurd e h0
    · exact e
  have jn := jb_next d0 d1 d2 d4 mem h0
  have l2 : (r1.map fun x => x / r1.getD a 0).length = W := by rw [List.length_map]; exact l1
  have e1 : (r1.map fun x => x / r1.getD a 0).getD a 0 = 1 := by
    rw [hr2]
    grind
  have e0 : ∀ p ∈ kept, (r1.map fun x => x / r1.getD a 0).getD p.1 0 = 0 := fun p hp => by
    rw [hr2, n1 p hp]
    grind
  have cfr : ∀ k, cf (m + 1) (r1.map fun x => x / r1.getD a 0) k = (1 / r1.getD a 0) * cf (m + 1) r1 k := fun k => by
    unfold cf
    split
    · rw [hr2]
      grind
    · grind
  generalize (r1.map fun x => x / r1.getD a 0) = r2 at *
  obtain ⟨k1, k2, k3⟩ := kplus_spn (M := m + 1) h.ki (a := a) l2
  have kl : (kplus kept a r2).length = kept.length + 1 := by
    unfold kplus
    rw [List.length_append, List.length_map]
    rfl
  refine ⟨h.ki.plus ha l2 e1 e0, by rw [kl]; exact jn a, fun x hx => ?_, fun x hx => ?_⟩
  · refine (k3 x hx).mono fun y hy => ?_
    obtain ⟨r, hr, rfl⟩ := hy
    have dn : ∀ w, Spn (inL (m + 1) done) w → Spn (inL (m + 1) (done ++ [g])) w := fun w hw => hw.mono fun y hy => by
      obtain ⟨r, hr, rfl⟩ := hy
      exact Spn.gen ⟨r, List.mem_append_left _ hr, rfl⟩
    rcases List.mem_append.mp hr with hr | hr
    · obtain ⟨p, hp, rfl⟩ := List.mem_map.mp hr
      exact dn _ (h.s1 p hp)
    · rw [List.mem_singleton.mp hr]
      have a1 : Spn (inL (m + 1) (done ++ [g])) (cf (m + 1) g) := Spn.gen ⟨g, List.mem_append_right _ List.mem_cons_self, rfl⟩
      have a2 : Spn (inL (m + 1) (done ++ [g])) v := v1.mono fun x hx => by
        obtain ⟨r, hr, rfl⟩ := hx
        obtain ⟨p, hp, rfl⟩ := List.mem_map.mp hr
        exact dn _ (h.s1 p hp)
      exact ((a1.addv a2).scale (1 / r1.getD a 0)).cong fun k => by rw [cfr k, v2 k]
  · have up : ∀ w, Spn (inL (m + 1) (kept.map (·.2))) w → Spn (inL (m + 1) ((kplus kept a r2).map (·.2))) w := fun w hw => hw.mono fun y hy => by
      obtain ⟨r, hr, rfl⟩ := hy
      obtain ⟨p, hp, rfl⟩ := List.mem_map.mp hr
      exact k1 p hp
    rcases List.mem_append.mp hx with hx | hx
    · exact up _ (h.s2 x hx)
    · rw [List.mem_singleton.mp hx]
      refine (Spn.closed _ _ (-1) (k2.scale (r1.getD a 0)) (up _ v1)).cong fun k => ?_
      rw [cfr k, v2 k]
      grind
/-- the same rows, fewer columns -/
theorem spn_fewer {M N : Nat} (h : N ≤ M) {R : List (List Rat)} {v : VF} (hv : Spn (inL M R) v) : Spn (inL N R) fun k => if k < N then v k else 0 := by
  have h0 : ∀ k, (fun (w : VF) k => if k < N then w k else 0) (fun _ => 0) k = 0 := fun k => by
    show (if k < N then (0 : Rat) else 0) = 0
    split <;> rfl
  have := Spn.map (T := fun (w : VF) k => if k < N then w k else 0) h0 (fun w g c k => by
    show (if k < N then w k + c * g k else 0) = (if k < N then w k else 0) + c * (if k < N then g k else 0)
    split
    · rfl
    · grind) hv
  refine this.mono fun x hx => ?_
  obtain ⟨y, ⟨r, hr, rfl⟩, rfl⟩ := hx
  refine Spn.gen ⟨r, hr, funext fun k => ?_⟩
  show cf N r k = if k < N then cf M r k else 0
  unfold cf
  by_cases hk : k < N
  · rw [if_pos hk, if_pos hk, if_pos (by omega)]
  · rw [if_neg hk, if_neg hk]
theorem cf_fewer {M N : Nat} (h : N ≤ M) (r : List Rat) (k : Nat) : (if k < N then cf M r k else 0) = cf N r k := by
  unfold cf
  by_cases hk : k < N
  · rw [if_pos hk, if_pos hk, if_pos (by omega)]
  · rw [if_neg hk, if_neg hk]
theorem SI.same {m W : Nat} {done : List (List Rat)} {kept : List (Nat × List Rat)} (h : SI m W done kept) (v : VF) : Spn (inL m done) v ↔ Spn (inL m (kept.map (·.2))) v := by
  constructor
  · refine fun hv => hv.mono fun x hx => ?_
    obtain ⟨r, hr, rfl⟩ := hx
    exact (spn_fewer (Nat.le_succ m) (h.s2 r hr)).cong fun k => cf_fewer (Nat.le_succ m) r k
  · refine fun hv => hv.mono fun x hx => ?_
    obtain ⟨r, hr, rfl⟩ := hx
    obtain ⟨p, hp, rfl⟩ := List.mem_map.mp hr
    exact (spn_fewer (Nat.le_succ m) (h.s1 p hp)).cong fun k => cf_fewer (Nat.le_succ m) p.2 k
/-- what a kept unit row says: the point's part -/
theorem SI.worth {m W : Nat} {done : List (List Rat)} {kept : List (Nat × List Rat)} (h : SI m W done kept) {pt : Nat → Rat} (hp : ∀ r ∈ done, sN (fun k => cf (m + 1) r k * pt k) m = cf (m + 1) r m) {p : Nat × List Rat} (hk : p ∈ kept) (hz : ∀ k < m, k ≠ p.1 → p.2.getD k 0 = 0) : p.2.getD m 0 = pt p.1 := by
  have e := spn_holds (m := m) (pt := pt) (fun x hx => by
    obtain ⟨r, hr, rfl⟩ := hx
    exact hp r hr) (h.s1 p hk)
  have hlt := h.ki.lt p hk
  have c1 : ∀ k < m + 1, cf (m + 1) p.2 k = p.2.getD k 0 := fun k hk => if_pos hk
  rw [sN_one hlt (fun k hk hne => by
    rw [c1 k (by omega), hz k hk hne]
    grind), c1 _ (by omega), c1 _ (by omega), h.ki.one p hk] at e
  rw [← e]
  grind
end
theorem bd_quo {a b : Nat} {r s : Rat} (h : Bd a r) (h2 : Bd b s) (h0 : s ≠ 0) : Bd (a + b) (r / s) := by
  have h1 : (r.num : Rat) / ((r.den : Int) : Rat) = r := by rw [← Rat.divInt_eq_div, Rat.num_divInt_den]
  have h3 : (s.num : Rat) / ((s.den : Int) : Rat) = s := by rw [← Rat.divInt_eq_div, Rat.num_divInt_den]
  have d1 : ((r.den : Int) : Rat) ≠ 0 := fun z => den_ne r (Rat.intCast_inj.mp z)
  have d2 : ((s.den : Int) : Rat) ≠ 0 := fun z => den_ne s (Rat.intCast_inj.mp z)
  have e : r / s = Rat.divInt (r.num * s.den) (r.den * s.num) := by
    rw [Rat.divInt_eq_div, Rat.intCast_mul, Rat.intCast_mul]
    generalize (r.num : Rat) = a at *
    generalize (s.num : Rat) = b at *
    generalize ((r.den : Int) : Rat) = c at *
    generalize ((s.den : Int) : Rat) = d at *
    subst h1 h3
    by_cases hb : b = 0
    · subst hb
      grind
    · grind
  rw [e]
  have hn : s.num ≠ 0 := fun z => h0 (by rw [← Rat.num_divInt_den s, z]; simp)
  exact bd_of (Int.mul_ne_zero (den_ne r) hn) (wl h.1 h2.den) (wl h.den h2.1)

section
/-- a row of fractions in a list -/
def RowAt (K : PySem.W.Frag) (H : Hp) (u : Addr) (r : List Rat) : Prop := ∃ ws, H u = some (.lst (fr ws)) ∧ Rx K H ws ∧ ws.map (·.2) = r
theorem RowAt.up {K : PySem.W.Frag} {H H' : Hp} {u : Addr} {r : List Rat} (s : Same H H') (h : RowAt K H u r) : RowAt K H' u r := by
  obtain ⟨ws, h1, h2, h3⟩ := h
  exact ⟨ws, s _ _ h1, h2.same s, h3⟩
theorem over_list {K : PySem.W.Frag} {H H' : Hp} {t D : Addr} {xs : List V} (h : SqL K H t xs) (hne : t ≠ D) (s : ∀ b o, b ≠ D → H b = some o → H' b = some o) : SqL K H' t xs := by
  rcases h with (h | ⟨ob, h⟩) | h
  · exact .inl (.inl (s _ _ hne h))
  · exact .inl (.inr ⟨ob, s _ _ hne h⟩)
  · exact .inr h
theorem RowAt.over {K : PySem.W.Frag} {H H' : Hp} {u D : Addr} {r : List Rat} {ys : List V} (h : RowAt K H u r) (hne : u ≠ D) (hl : H D = some (.lst ys)) (s : ∀ b o, b ≠ D → H b = some o → H' b = some o) : RowAt K H' u r := by
  obtain ⟨ws, h1, h2, h3⟩ := h
  exact ⟨ws, s _ _ hne h1, fun w hw => over_tup (h2 w hw) hl s, h3⟩
theorem RowAt.get {K : PySem.W.Frag} {H : Hp} {r : List Rat} {ws : List (Addr × Rat)} (h2 : Rx K H ws) (h3 : ws.map (·.2) = r) {k : Nat} (hk : k < r.length) : ∃ a, (fr ws)[k]? = some (.ref a) ∧ Fx K H a (r.getD k 0) ∧ r.getD k 0 ∈ r := by
  subst h3
  have e : (ws.map (·.2))[k]? = some ((ws.map (·.2)).getD k 0) := by
    rw [List.getD_eq_getElem?_getD, List.getElem?_eq_getElem hk]
    rfl
  obtain ⟨a, a1, a2⟩ := fr_at e
  exact ⟨a, a1, h2 _ a2, List.mem_of_getElem? e⟩
/-- a pair of a number and a row -/
def PairAt (K : PySem.W.Frag) (D : Addr) (H : Hp) (t : Addr) (p : Nat × List Rat) : Prop := ∃ v, v ≠ D ∧ SqT K H t [.int (p.1 : Int), .ref v] ∧ RowAt K H v p.2
theorem PairAt.up {K : PySem.W.Frag} {D : Addr} {H H' : Hp} {t : Addr} {p : Nat × List Rat} (s : Same H H') (h : PairAt K D H t p) : PairAt K D H' t p := by
  obtain ⟨v, h0, h1, h2⟩ := h
  exact ⟨v, h0, same_tup s h1, h2.up s⟩
theorem PairAt.over {K : PySem.W.Frag} {D : Addr} {H H' : Hp} {t : Addr} {p : Nat × List Rat} {ys : List V} (h : PairAt K D H t p) (hl : H D = some (.lst ys)) (s : ∀ b o, b ≠ D → H b = some o → H' b = some o) : PairAt K D H' t p := by
  obtain ⟨v, h0, h1, h2⟩ := h
  exact ⟨v, h0, over_tup h1 hl s, h2.over h0 hl s⟩
/-- rows and pairs in lists: where each stands, what it is -/
def Ro {α : Type} (ws : List (Addr × α)) : List V := ws.map fun w => V.ref w.1
theorem Ro_len {α : Type} (ws : List (Addr × α)) : (Ro ws).length = ws.length := List.length_map _
theorem Ro_get {α : Type} {ws : List (Addr × α)} {i : Nat} {v : V} (h : (Ro ws)[i]? = some v) : ∃ w, v = .ref w.1 ∧ ws[i]? = some w := by
  rw [show Ro ws = ws.map fun w => V.ref w.1 from rfl, List.getElem?_map] at h
  cases e : ws[i]? with
  | none =>
    rw [e] at h
    cases h
  | some w =>
    rw [e] at h
    exact ⟨w, (Option.some.inj h).symm, rfl⟩
theorem Ro_at {α : Type} {ws : List (Addr × α)} {i : Nat} {w : Addr × α} (h : ws[i]? = some w) : (Ro ws)[i]? = some (.ref w.1) := by
  rw [show Ro ws = ws.map fun w => V.ref w.1 from rfl, List.getElem?_map, h]
  rfl
/-- a comprehension whose elements are things of a kind that may be lists: those of L -/
theorem lc_relD {α : Type} {J : It} {n : Nat} {G : Hp → Prop} {Y : Nat → Hp → V → Hp → Prop} (w : Walk J n G Y) (L : List α) (hL : L.length = n) (hz : n ≤ 1000)
    {g : TG} {te : TE} {vs : List Nat} {σ : L2.St} {H1 : Hp} {D : Addr} {Qd : Hp → Prop} (hD : H1 D = none) (Rel : Hp → Addr → α → Prop) (up : ∀ {H H' t x}, Same H H' → Rel H t x → Rel H' t x) (over : ∀ {H H' t x ys}, Rel H t x → H D = some (.lst ys) → (∀ b o, b ≠ D → H b = some o → H' b = some o) → Rel H' t x) (hG : ∀ H, Same H1 H → G H)
    (hs : ∀ i r x H H' (k : V → Hp → Prop), L[i]? = some r → Same H1 H → (∃ ys, H D = some (.lst ys)) → Y i H x H' → (∀ t H4, Same H H4 → Rel H4 t r → k (.ref t) H4) → g x (wipe σ vs) H' fun σ2 H2 => wipe σ2 vs = wipe σ vs ∧ te σ2 H2 k)
    (hd : ∀ H (ws : List (Addr × α)), Same H1 H → H D = some (.lst (Ro ws)) → (∀ w ∈ ws, Rel H w.1 w.2) → ws.map (·.2) = L → Qd H) :
    ∃ W : Nat → Nat → Hp → Prop, (∃ m, W 0 m (upd H1 D (.lst []))) ∧ ∀ i m H, W i m H →
      (J.stop i H ∧ Qd H) ∨ (J.go i H ∧ ∃ Nx : Hp → Prop, (∀ H', Nx H' → ∃ m', m' < m ∧ W (i + 1) m' H') ∧ ∀ x H', J.yld i H x H' → g x (wipe σ vs) H' fun σ2 H2 => wipe σ2 vs = wipe σ vs ∧ tYes σ2 H2 fun b H3 =>
        if b = true then te σ2 H3 fun y H4 => ∃ acc, H4 D = some (.lst acc) ∧ acc.length < sizeLine ∧ Nx (upd H4 D (.lst (acc ++ [y]))) else Nx H3) := by
  subst hL
  refine lc_it w (fun i H => Same H1 H ∧ ∃ ws : List (Addr × α), H D = some (.lst (Ro ws)) ∧ (∀ w ∈ ws, Rel H w.1 w.2) ∧ ws.map (·.2) = L.take i) ⟨same_upd hD, [], upd_same, (fun _ z => nomatch z), rfl⟩ (fun i H _ h => hG H h.1) ?_ ?_
  · rintro i x H H' hi ⟨s1, ws, e1, r1, m1⟩ y
    have hr : L[i]? = some L[i] := List.getElem?_eq_getElem hi
    have q := hs i L[i] x H H' (fun y H4 => ∃ acc, H4 D = some (.lst acc) ∧ acc.length < sizeLine ∧ (fun H => Same H1 H ∧ ∃ ws : List (Addr × α), H D = some (.lst (Ro ws)) ∧ (∀ w ∈ ws, Rel H w.1 w.2) ∧ ws.map (·.2) = L.take (i + 1)) (upd H4 D (.lst (acc ++ [y])))) hr s1 ⟨_, e1⟩ y (fun t H4 s4 f4 => ?_)
    · refine Eq.mp (congrArg (g x (wipe σ vs) H') ?_) q
      funext σ2 H2
      simp [tYes]
    · have e4 := s4 _ _ e1
      have hlen : ws.length = (L.take i).length := by rw [← m1, List.length_map]
      rw [List.length_take] at hlen
      refine ⟨_, e4, ?_, fun b o e => ?_, ws ++ [(t, L[i])], ?_, fun v hv => ?_, ?_⟩
      · rw [Ro_len]
        exact small1000 (by omega)
      · rw [upd_ne (ne_of_none e hD)]
        exact s4 _ _ (s1 _ _ e)
      · rw [upd_same]
        unfold Ro
        rw [List.map_append]
        rfl
      · rcases List.mem_append.mp hv with h | h
        · exact over (up s4 (r1 v h)) e4 fun b o hb e => by rw [upd_ne hb]; exact e
        · rw [List.mem_singleton.mp h]
          exact over f4 e4 fun b o hb e => by rw [upd_ne hb]; exact e
      · rw [List.map_append, m1, List.take_add_one, hr]
        rfl
  · rintro H ⟨s1, ws, e1, r1, m1⟩
    rw [List.take_length] at m1
    exact hd H ws s1 e1 r1 m1
end
abbrev rLenS (K : PySem.W.Frag) : List V → Hp → VK → Prop := fun xs H Q => ∃ p ys, xs = [V.ref p] ∧ (SqL K H p ys ∨ SqT K H p ys) ∧ Q (V.int (ys.length : Nat)) H
section
def PairA (K : PySem.W.Frag) (H : Hp) (t : Addr) (p : Nat × List Rat) : Prop := ∃ v, SqT K H t [.int (p.1 : Int), .ref v] ∧ RowAt K H v p.2
theorem PairA.up {K : PySem.W.Frag} {H H' : Hp} {t : Addr} {p : Nat × List Rat} (s : Same H H') (h : PairA K H t p) : PairA K H' t p := by
  obtain ⟨v, h1, h2⟩ := h
  exact ⟨v, same_tup s h1, h2.up s⟩
theorem PairAt.any {K : PySem.W.Frag} {D : Addr} {H : Hp} {t : Addr} {p : Nat × List Rat} (h : PairAt K D H t p) : PairA K H t p := by
  obtain ⟨v, _, h1, h2⟩ := h
  exact ⟨v, h1, h2⟩
def KeptAt (K : PySem.W.Frag) (H : Hp) (u : Addr) (kept : List (Nat × List Rat)) : Prop := ∃ ks : List (Addr × (Nat × List Rat)), SqL K H u (Ro ks) ∧ (∀ w ∈ ks, PairA K H w.1 w.2) ∧ ks.map (·.2) = kept
theorem KeptAt.up {K : PySem.W.Frag} {H H' : Hp} {u : Addr} {kept : List (Nat × List Rat)} (s : Same H H') (h : KeptAt K H u kept) : KeptAt K H' u kept := by
  obtain ⟨ks, h1, h2, h3⟩ := h
  exact ⟨ks, s.seq h1, fun w hw => (h2 w hw).up s, h3⟩
theorem red_snoc {kept : List (Nat × List Rat)} {j : Nat} {p : Nat × List Rat} {row : List Rat} (h : kept[j]? = some p) : red (kept.take (j + 1)) row = clr p.1 p.2 (red (kept.take j) row) := by
  unfold red
  rw [List.take_add_one, h, List.foldl_append]
  rfl
theorem map_at {α : Type} {ws : List (Addr × α)} {L : List α} (h : ws.map (·.2) = L) {i : Nat} {w : Addr × α} (hw : ws[i]? = some w) : L[i]? = some w.2 := by
  rw [← h, List.getElem?_map, hw]
  rfl
end
section
theorem RowAt.ne {K : PySem.W.Frag} {H : Hp} {u D : Addr} {r : List Rat} (h : RowAt K H u r) (hD : H D = none) : u ≠ D := fun e => by
  obtain ⟨ws, h1, _⟩ := h
  rw [e, hD] at h1
  cases h1
theorem cutV_part {xs : List V} {i n : Nat} (h : i + n ≤ xs.length) : cutV xs (some ((i : Nat) : Int)) (some ((i + n : Nat) : Int)) = (xs.drop i).take n := by
  unfold cutV
  rw [HT.sIx_nat, HT.sIx_nat, show min i xs.length = i by omega, show min (i + n) xs.length = i + n by omega, show i + n - i = n by omega]
theorem cutV_to {xs : List V} {n : Nat} (h : n ≤ xs.length) : cutV xs none (some ((n : Nat) : Int)) = xs.take n := by
  unfold cutV
  rw [HT.sIx_nat, HT.sIx_none, show min n xs.length = n by omega]
  show (xs.drop 0).take (n - 0) = xs.take n
  rw [List.drop_zero, Nat.sub_zero]
theorem cutV_from {xs : List V} {n : Nat} (h : n ≤ xs.length) : cutV xs (some ((n : Nat) : Int)) none = xs.drop n := by
  unfold cutV
  rw [HT.sIx_nat, HT.sIx_none, show min n xs.length = n by omega]
  show (xs.drop n).take (xs.length - n) = xs.drop n
  exact List.take_of_length_le (by rw [List.length_drop]; exact Nat.le_refl _)
theorem fr_take (ws : List (Addr × Rat)) (n : Nat) : fr (ws.take n) = (fr ws).take n := List.map_take
theorem fr_drop (ws : List (Addr × Rat)) (n : Nat) : fr (ws.drop n) = (fr ws).drop n := List.map_drop
theorem JB.bd {m : Nat} {kept : List (Nat × List Rat)} (h : JB m kept) {p : Nat × List Rat} (hp : p ∈ kept) : ∀ x ∈ p.2, Bd m x := fun x hx => by
  obtain ⟨D, d0, d1, d2⟩ := h
  obtain ⟨N, n1, n2⟩ := d2 p hp x hx
  exact bd_over d0 d1 n1 n2
end
/-- a comprehension, perhaps with a condition, whose elements are Booleans, all of them told -/
theorem lc_bl {J : It} {n : Nat} {G : Hp → Prop} {Y : Nat → Hp → V → Hp → Prop} (w : Walk J n G Y) (L : List (Option Bool)) (hL : L.length = n) (hz : n ≤ 1000)
    {g : TG} {tt : TT} {te : TE} {vs : List Nat} {σ : L2.St} {H1 : Hp} {D : Addr} {Qd : Hp → Prop} (hD : H1 D = none) (hG : ∀ H, Same H1 H → G H)
    (hs : ∀ i c x H H' (kk : V → Hp → Prop) (kn : Hp → Prop), L[i]? = some c → Same H1 H → Y i H x H' → (∀ b, c = some b → ∀ H4, Same H H4 → kk (.bl b) H4) → (c = none → ∀ H4, Same H H4 → kn H4) → g x (wipe σ vs) H' fun σ2 H2 => wipe σ2 vs = wipe σ vs ∧ tt σ2 H2 fun b H3 => if b = true then te σ2 H3 kk else kn H3)
    (hd : ∀ H, Same H1 H → H D = some (.lst ((L.filterMap id).map V.bl)) → Qd H) :
    ∃ W : Nat → Nat → Hp → Prop, (∃ m, W 0 m (upd H1 D (.lst []))) ∧ ∀ i m H, W i m H →
      (J.stop i H ∧ Qd H) ∨ (J.go i H ∧ ∃ Nx : Hp → Prop, (∀ H', Nx H' → ∃ m', m' < m ∧ W (i + 1) m' H') ∧ ∀ x H', J.yld i H x H' → g x (wipe σ vs) H' fun σ2 H2 => wipe σ2 vs = wipe σ vs ∧ tt σ2 H2 fun b H3 =>
        if b = true then te σ2 H3 fun y H4 => ∃ acc, H4 D = some (.lst acc) ∧ acc.length < sizeLine ∧ Nx (upd H4 D (.lst (acc ++ [y]))) else Nx H3) := by
  subst hL
  refine lc_it w (fun i H => Same H1 H ∧ H D = some (.lst (((L.take i).filterMap id).map V.bl)) ∧ ((L.take i).filterMap id).length ≤ i) ⟨same_upd hD, upd_same, Nat.le_refl _⟩ (fun i H _ h => hG H h.1) ?_ ?_
  · rintro i x H H' hi ⟨s1, e1, l1⟩ y
    have hr : L[i]? = some L[i] := List.getElem?_eq_getElem hi
    have tk : (L.take (i + 1)).filterMap id = (L.take i).filterMap id ++ [L[i]].filterMap id := by
      rw [List.take_add_one, hr, List.filterMap_append]
      rfl
    refine hs i L[i] x H H' _ _ hr s1 y (fun b hc H4 s4 => ?_) (fun hc H4 s4 => ?_)
    · refine ⟨_, s4 _ _ e1, ?_, fun b o e => ?_, ?_, ?_⟩
      · rw [List.length_map]
        exact small1000 (by omega)
      · rw [upd_ne (ne_of_none e hD)]
        exact s4 _ _ (s1 _ _ e)
      · rw [upd_same, tk, hc, List.map_append]
        rfl
      · rw [tk, hc, List.length_append]
        exact Nat.succ_le_succ l1
    · rw [tk, hc]
      refine ⟨s1.trans s4, ?_, ?_⟩
      · rw [show [(none : Option Bool)].filterMap id = [] from rfl, List.append_nil]
        exact s4 _ _ e1
      · rw [show [(none : Option Bool)].filterMap id = [] from rfl, List.append_nil]
        omega
  · rintro H ⟨s1, e1, _⟩
    rw [List.take_length] at e1
    exact hd H s1 e1
/-- an equation: its coefficients, its bound -/
def EqAt (K : PySem.W.Frag) (H : Hp) (t : Addr) (e : List Rat × Rat) : Prop := ∃ u v, SqT K H t [.ref u, .ref v] ∧ RowAt K H u e.1 ∧ Fx K H v e.2
theorem EqAt.up {K : PySem.W.Frag} {H H' : Hp} {t : Addr} {e : List Rat × Rat} (s : Same H H') (h : EqAt K H t e) : EqAt K H' t e := by
  obtain ⟨u, v, h1, h2, h3⟩ := h
  exact ⟨u, v, same_tup s h1, h2.up s, h3.same s⟩
abbrev rListOf (K : PySem.W.Frag) : List V → Hp → VK → Prop := fun xs H Q => ∃ p ys, xs = [V.ref p] ∧ (SqL K H p ys ∨ SqT K H p ys) ∧ ∀ (l : Addr), H l = none → Q (V.ref l) (upd H l (HO.lst ys))

section
/-- a comprehension, perhaps with a condition, whose elements are plain values, all of them told -/
theorem lc_vv {J : It} {n : Nat} {G : Hp → Prop} {Y : Nat → Hp → V → Hp → Prop} (w : Walk J n G Y) (L : List (Option V)) (hL : L.length = n) (hz : n ≤ 1000)
    {g : TG} {tt : TT} {te : TE} {vs : List Nat} {σ : L2.St} {H1 : Hp} {D : Addr} {Qd : Hp → Prop} (hD : H1 D = none) (hG : ∀ H, Same H1 H → G H)
    (hs : ∀ i c x H H' (kk : V → Hp → Prop) (kn : Hp → Prop), L[i]? = some c → Same H1 H → Y i H x H' → (∀ b, c = some b → ∀ H4, Same H H4 → kk b H4) → (c = none → ∀ H4, Same H H4 → kn H4) → g x (wipe σ vs) H' fun σ2 H2 => wipe σ2 vs = wipe σ vs ∧ tt σ2 H2 fun b H3 => if b = true then te σ2 H3 kk else kn H3)
    (hd : ∀ H, Same H1 H → H D = some (.lst (L.filterMap id)) → Qd H) :
    ∃ W : Nat → Nat → Hp → Prop, (∃ m, W 0 m (upd H1 D (.lst []))) ∧ ∀ i m H, W i m H →
      (J.stop i H ∧ Qd H) ∨ (J.go i H ∧ ∃ Nx : Hp → Prop, (∀ H', Nx H' → ∃ m', m' < m ∧ W (i + 1) m' H') ∧ ∀ x H', J.yld i H x H' → g x (wipe σ vs) H' fun σ2 H2 => wipe σ2 vs = wipe σ vs ∧ tt σ2 H2 fun b H3 =>
        if b = true then te σ2 H3 fun y H4 => ∃ acc, H4 D = some (.lst acc) ∧ acc.length < sizeLine ∧ Nx (upd H4 D (.lst (acc ++ [y]))) else Nx H3) := by
  subst hL
  refine lc_it w (fun i H => Same H1 H ∧ H D = some (.lst ((L.take i).filterMap id)) ∧ ((L.take i).filterMap id).length ≤ i) ⟨same_upd hD, upd_same, Nat.le_refl _⟩ (fun i H _ h => hG H h.1) ?_ ?_
  · rintro i x H H' hi ⟨s1, e1, l1⟩ y
    have hr : L[i]? = some L[i] := List.getElem?_eq_getElem hi
    have tk : (L.take (i + 1)).filterMap id = (L.take i).filterMap id ++ [L[i]].filterMap id := by
      rw [List.take_add_one, hr, List.filterMap_append]
      rfl
    refine hs i L[i] x H H' _ _ hr s1 y (fun b hc H4 s4 => ?_) (fun hc H4 s4 => ?_)
    · refine ⟨_, s4 _ _ e1, small1000 (by omega), fun b o e => ?_, ?_, ?_⟩
      · rw [upd_ne (ne_of_none e hD)]
        exact s4 _ _ (s1 _ _ e)
      · rw [upd_same, tk, hc]
        rfl
      · rw [tk, hc, List.length_append]
        exact Nat.succ_le_succ l1
    · rw [tk, hc]
      refine ⟨s1.trans s4, ?_, ?_⟩
      · rw [show [(none : Option V)].filterMap id = [] from rfl, List.append_nil]
        exact s4 _ _ e1
      · rw [show [(none : Option V)].filterMap id = [] from rfl, List.append_nil]
        omega
  · rintro H ⟨s1, e1, _⟩
    rw [List.take_length] at e1
    exact hd H s1 e1
def pdrr (R : List (List Rat)) : PyData := .list (R.map fun r => .list (r.map pdr))
theorem dp_row {K : PySem.W.Frag} {H : Hp} {u : Addr} {r : List Rat} (h : RowAt K H u r) : Dp K H (.ref u) (.list (r.map pdr)) := by
  obtain ⟨ws, h1, h2, rfl⟩ := h
  exact .lst (SqL.of h1) (dpAll h2)
theorem dp_rows {K : PySem.W.Frag} {H : Hp} : ∀ {ws : List (Addr × List Rat)}, (∀ w ∈ ws, RowAt K H w.1 w.2) → DpAll K H (Ro ws) ((ws.map (·.2)).map fun r => .list (r.map pdr))
  | [], _ => .nil
  | w :: ws, h => .cons (dp_row (h w List.mem_cons_self)) (dp_rows fun x hx => h x (List.mem_cons_of_mem _ hx))
theorem shrr (R : List (List Rat)) : PyData.canLayAll0 (R.map fun r => PyData.list (r.map pdr)) = true ∧ PyData.depthAll (R.map fun r => PyData.list (r.map pdr)) ≤ 2 := by
  induction R with
  | nil => decide
  | cons r R ih =>
    have h1 := (shr r).1
    have h2 := (shr r).2
    rw [List.map_cons, PyData.canLayAll0, PyData.depthAll, ih.1, PyData.canLay0, PyData.depth, h1]
    exact ⟨rfl, Nat.max_le.mpr ⟨by omega, ih.2⟩⟩
theorem shrrl (R : List (List Rat)) : SeqAt.shaped (pdrr R) = true := by
  have h1 := (shrr R).1
  have h2 := (shrr R).2
  unfold SeqAt.shaped pdrr
  rw [PyData.canLay0, PyData.depth, h1, decide_eq_true (by omega)]
  rfl
theorem eq_none (R : List (List Rat)) : PyData.eqv (pdrr R) (pdrr []) = decide (R = []) := by
  cases R with
  | nil => rfl
  | cons r R => rfl
def pdis (l : List Int) : PyData := .list (l.map PyData.int)
theorem dp_is {K : PySem.W.Frag} {H : Hp} : ∀ l : List Int, DpAll K H (l.map V.int) (l.map PyData.int)
  | [] => .nil
  | x :: l => .cons (.int x) (dp_is l)
theorem shis (l : List Int) : PyData.canLayAll0 (l.map PyData.int) = true ∧ PyData.depthAll (l.map PyData.int) ≤ 1 := by
  induction l with
  | nil => decide
  | cons r R ih =>
    rw [List.map_cons, PyData.canLayAll0, PyData.depthAll, ih.1]
    exact ⟨rfl, Nat.max_le.mpr ⟨Nat.zero_le 1, ih.2⟩⟩
theorem shisl (l : List Int) : SeqAt.shaped (pdis l) = true := by
  have h1 := (shis l).1
  have h2 := (shis l).2
  unfold SeqAt.shaped pdis
  rw [PyData.canLay0, PyData.depth, h1, decide_eq_true (by omega)]
  rfl
theorem eq_nois (l : List Int) : PyData.eqv (pdis l) (pdis []) = decide (l = []) := by
  cases l with
  | nil => rfl
  | cons r R => rfl
def lb : Nat → Nat
  | 0 => 3
  | c + 1 => 2 * lb c + 1
theorem lb_le {c : Nat} (h : c ≤ 6) : lb c ≤ 300 := by
  have : ∀ c ≤ 6, lb c ≤ 300 := by decide
  exact this c h
theorem split_at {α : Type} {l : List α} {f k : Nat} {x : α} (h : l[k]? = some x) (hf : f ≤ k) : ∃ A B C, l = A ++ (B ++ x :: C) ∧ A.length = f ∧ f + B.length = k := by
  have hk := (List.getElem?_eq_some_iff.mp h).1
  have hx : l[k] = x := (List.getElem?_eq_some_iff.mp h).2
  refine ⟨l.take f, (l.drop f).take (k - f), l.drop (k + 1), ?_, by rw [List.length_take]; omega, by rw [List.length_take, List.length_drop]; omega⟩
  have e1 : l.drop f = (l.drop f).take (k - f) ++ (l.drop f).drop (k - f) := (List.take_append_drop _ _).symm
  rw [List.drop_drop, show f + (k - f) = k by omega, List.drop_eq_getElem_cons hk, hx] at e1
  rw [← e1, List.take_append_drop]
theorem erase_mid {α : Type} {A B C : List α} {x : α} {k : Nat} (h : A.length + B.length = k) : (A ++ (B ++ x :: C)).eraseIdx k = A ++ (B ++ C) := by
  rw [← List.append_assoc, List.eraseIdx_append_of_length_le (by rw [List.length_append]; omega), List.length_append, h, Nat.sub_self, ← List.append_assoc]
  rfl
theorem set_mid {α : Type} {A B : List α} {x y : α} {k : Nat} (h : A.length = k) : (A ++ x :: B).set k y = A ++ y :: B := by
  subst h
  rw [List.set_append_right _ _ (Nat.le_refl _), Nat.sub_self]
  rfl
theorem get_mid {α : Type} {A B : List α} {x : α} {k : Nat} (h : A.length = k) : (A ++ x :: B)[k]? = some x := by
  subst h
  rw [List.getElem?_append_right (Nat.le_refl _), Nat.sub_self]
  rfl
end
/-- every object but one stays -/
def SameX (q : Addr) (H H' : Hp) : Prop := ∀ a o, a ≠ q → H a = some o → H' a = some o
theorem same_ofX {q : Addr} {H0 H1 H2 : Hp} (h : H0 q = none) (s : Same H0 H1) (x : SameX q H1 H2) : Same H0 H2 := fun a o e => x a o (fun z => by rw [z, h] at e; cases e) (s a o e)
theorem SameX.tr {q : Addr} {H H1 H2 : Hp} (h : SameX q H H1) (s : Same H1 H2) : SameX q H H2 := fun a o n e => s a o (h a o n e)
theorem SameX.set {q : Addr} {H H1 : Hp} {o : HO} (h : SameX q H H1) : SameX q H (upd H1 q o) := fun a o2 n e => by
  rw [upd_ne n]
  exact h a o2 n e
theorem rowD_set {K : PySem.W.Frag} {H : Hp} {t D : Addr} {r : List Rat} {xs ys : List V} (h : t ≠ D ∧ RowAt K H t r) (hl : H D = some (.lst xs)) : t ≠ D ∧ RowAt K (upd H D (.lst ys)) t r :=
  ⟨h.1, h.2.over h.1 hl fun b o hb e => by rw [upd_ne hb]; exact e⟩
theorem fx_lit0 {K : PySem.W.Frag} {H : Hp} {a : Addr} (h : H a = some (.tup [.int 0, .int 1])) : Fx K H a 0 := SqT.of h
def wat (ws : List (Addr × List Rat)) (k : Nat) : List Rat := match ws[k]? with
  | some w => w.2
  | none => []
theorem wat_eq {ws : List (Addr × List Rat)} {k : Nat} {w : Addr × List Rat} (h : ws[k]? = some w) : wat ws k = w.2 := by
  unfold wat
  rw [h]
theorem fm_ints (P : Nat → Prop) [DecidablePred P] (f : Nat) : ∀ l : List Nat, (l.map fun i => if P i then none else some (V.int ((f + i : Nat) : Int))).filterMap id = ((l.filter fun i => !decide (P i)).map fun i => ((f + i : Nat) : Int)).map V.int
  | [] => rfl
  | i :: l => by
    have ih := fm_ints P f l
    by_cases h : P i
    · rw [List.map_cons, if_pos h, List.filter_cons_of_neg (by simp [h])]
      exact ih
    · rw [List.map_cons, if_neg h, List.filter_cons_of_pos (by simp [h]), List.map_cons, List.map_cons, ← ih]
      rfl
theorem seqIndex_nat {k n : Nat} (h : k < n) : PySem.seqIndex? (k : Int) n = some k := by
  have e : (if (k : Int) < 0 then (k : Int) + (n : Int) else (k : Int)) = (k : Int) := if_neg (by omega)
  show (if (decide (0 ≤ (if (k : Int) < 0 then (k : Int) + (n : Int) else (k : Int))) && decide ((if (k : Int) < 0 then (k : Int) + (n : Int) else (k : Int)) < (n : Int))) = true then some (if (k : Int) < 0 then (k : Int) + (n : Int) else (k : Int)).toNat else none) = some k
  rw [e, decide_eq_true (show (0 : Int) ≤ (k : Int) by omega), decide_eq_true (show (k : Int) < (n : Int) by omega)]
  rfl
theorem ixN_nat {k n : Nat} (h : k < n) : ixN n (k : Int) = some k := by
  unfold ixN
  rw [if_pos (by omega), if_pos (by omega)]
  rfl
theorem lb_le4 {c : Nat} (h : c ≤ 4) : lb c ≤ 63 := by
  have : ∀ c ≤ 4, lb c ≤ 63 := by decide
  exact this c h
section
def pde (e : List Rat × Rat) : PyData := .tuple [.list (e.1.map pdr), pdr e.2]
def pdes (l : List (List Rat × Rat)) : PyData := .list (l.map pde)
theorem dp_es {K : PySem.W.Frag} {H : Hp} : ∀ {es : List (Addr × (List Rat × Rat))}, (∀ w ∈ es, EqAt K H w.1 w.2) → DpAll K H (Ro es) ((es.map (·.2)).map pde)
  | [], _ => .nil
  | w :: es, h => by
    obtain ⟨u, v, h1, h2, h3⟩ := h w List.mem_cons_self
    exact .cons (.tup h1 (.cons (dp_row h2) (.cons (dpr h3) .nil))) (dp_es fun x hx => h x (List.mem_cons_of_mem _ hx))
theorem shes (l : List (List Rat × Rat)) : PyData.canLayAll0 (l.map pde) = true ∧ PyData.depthAll (l.map pde) ≤ 3 := by
  induction l with
  | nil => decide
  | cons e l ih =>
    have h1 := (shr e.1).1
    have h2 := (shr e.1).2
    rw [List.map_cons, PyData.canLayAll0, PyData.depthAll, ih.1]
    refine ⟨?_, Nat.max_le.mpr ⟨?_, ih.2⟩⟩
    · unfold pde
      simp only [PyData.canLay0, PyData.canLayAll0, h1, pdr, pd2]
      rfl
    · unfold pde
      simp only [PyData.depth, PyData.depthAll, pdr, pd2]
      simp
      omega
theorem shesl (l : List (List Rat × Rat)) : SeqAt.shaped (pdes l) = true := by
  have h1 := (shes l).1
  have h2 := (shes l).2
  unfold SeqAt.shaped pdes
  rw [PyData.canLay0, PyData.depth, h1, decide_eq_true (by omega)]
  rfl
theorem eq_noes (l : List (List Rat × Rat)) : PyData.eqv (pdes l) (pdes []) = decide (l = []) := by
  cases l with
  | nil => rfl
  | cons r R => rfl
/-- an equation in a tuple whose list is not D -/
def EqD (K : PySem.W.Frag) (D : Addr) (H : Hp) (t : Addr) (e : List Rat × Rat) : Prop := ∃ u v, u ≠ D ∧ SqT K H t [.ref u, .ref v] ∧ RowAt K H u e.1 ∧ Fx K H v e.2
theorem EqD.up {K : PySem.W.Frag} {D : Addr} {H H' : Hp} {t : Addr} {e : List Rat × Rat} (s : Same H H') (h : EqD K D H t e) : EqD K D H' t e := by
  obtain ⟨u, v, h0, h1, h2, h3⟩ := h
  exact ⟨u, v, h0, same_tup s h1, h2.up s, h3.same s⟩
theorem EqD.over {K : PySem.W.Frag} {D : Addr} {H H' : Hp} {t : Addr} {e : List Rat × Rat} {ys : List V} (h : EqD K D H t e) (hl : H D = some (.lst ys)) (s : ∀ b o, b ≠ D → H b = some o → H' b = some o) : EqD K D H' t e := by
  obtain ⟨u, v, h0, h1, h2, h3⟩ := h
  exact ⟨u, v, h0, over_tup h1 hl s, h2.over h0 hl s, over_tup h3 hl s⟩
theorem EqD.any {K : PySem.W.Frag} {D : Addr} {H : Hp} {t : Addr} {e : List Rat × Rat} (h : EqD K D H t e) : EqAt K H t e := by
  obtain ⟨u, v, h0, h1, h2, h3⟩ := h
  exact ⟨u, v, h1, h2, h3⟩
/-- a drawn equation: small whole coefficients, its bound that of a point -/
def EqOk (m : Nat) (pts : List Rat) (e : List Rat × Rat) : Prop := e.1.length = m ∧ (∀ x ∈ e.1, ∃ F : Int, x = (F : Rat) ∧ F.natAbs ≤ 2) ∧ e.2 = sN (fun k => e.1.getD k 0 * pts.getD k 0) m
/-- a drawn point -/
def PtOk (m : Nat) (pts : List Rat) : Prop := pts.length = m ∧ ∀ x ∈ pts, (∃ N : Int, x * 12 = (N : Rat) ∧ N.natAbs ≤ 108) ∧ Bd 10 x
theorem sum12 {m : Nat} {cs pts : List Rat} (h1 : ∀ x ∈ cs, ∃ F : Int, x = (F : Rat) ∧ F.natAbs ≤ 2) (h2 : ∀ x ∈ pts, ∃ N : Int, x * 12 = (N : Rat) ∧ N.natAbs ≤ 108) : ∀ n, ∃ N : Int, sN (fun k => cs.getD k 0 * pts.getD k 0) n * 12 = (N : Rat) ∧ N.natAbs ≤ 216 * n := by
  intro n
  induction n with
  | zero => exact ⟨0, by show (0 : Rat) * 12 = _; rw [Rat.zero_mul]; rfl, Nat.zero_le _⟩
  | succ n ih =>
    obtain ⟨N, n1, n2⟩ := ih
    obtain ⟨F, f1, f2⟩ : ∃ F : Int, cs.getD n 0 = (F : Rat) ∧ F.natAbs ≤ 2 := by
      rcases getD_or (r := cs) (l := n) with e | e
      · exact ⟨0, by rw [e]; rfl, by decide⟩
      · exact h1 _ e
    obtain ⟨M, m1, m2⟩ : ∃ N : Int, pts.getD n 0 * 12 = (N : Rat) ∧ N.natAbs ≤ 108 := by
      rcases getD_or (r := pts) (l := n) with e | e
      · exact ⟨0, by rw [e, Rat.zero_mul]; rfl, by decide⟩
      · exact h2 _ e
    refine ⟨N + F * M, ?_, ?_⟩
    · show (sN (fun k => cs.getD k 0 * pts.getD k 0) n + cs.getD n 0 * pts.getD n 0) * 12 = _
      rw [Rat.intCast_add, Rat.intCast_mul, ← n1, ← f1, ← m1]
      grind
    · have a1 := Int.natAbs_add_le N (F * M)
      rw [Int.natAbs_mul] at a1
      have a2 := Nat.mul_le_mul f2 m2
      omega
theorem EqOk.gs {m : Nat} {pts : List Rat} {e : List Rat × Rat} (h : EqOk m pts e) (hp : PtOk m pts) (hm : m ≤ 5) : Gs m (e.1 ++ [e.2]) := by
  obtain ⟨h1, h2, h3⟩ := h
  refine ⟨fun x hx => ?_, fun k hk => ?_⟩
  · rcases List.mem_append.mp hx with g | g
    · obtain ⟨F, f1, f2⟩ := h2 x g
      refine ⟨F * 12, by rw [f1, Rat.intCast_mul]; rfl, ?_⟩
      rw [Int.natAbs_mul]
      show F.natAbs * 12 < 2048
      omega
    · rw [List.mem_singleton.mp g, h3]
      obtain ⟨N, n1, n2⟩ := sum12 (m := m) h2 (fun x hx => (hp.2 x hx).1) m
      exact ⟨N, n1, by show _ < 2048; omega⟩
  · rw [List.getD_eq_getElem?_getD, List.getElem?_append_left (by omega), ← List.getD_eq_getElem?_getD]
    rcases getD_or (r := e.1) (l := k) with g | g
    · exact ⟨0, by rw [g]; rfl, by decide⟩
    · exact h2 _ g
theorem cf_coef {m : Nat} {cs : List Rat} (h : cs.length = m) (b : Rat) (k : Nat) (hk : k < m) : cf (m + 1) (cs ++ [b]) k = cs.getD k 0 := by
  unfold cf
  rw [if_pos (by omega), List.getD_eq_getElem?_getD, List.getElem?_append_left (by omega), ← List.getD_eq_getElem?_getD]
theorem cf_short {m : Nat} {cs : List Rat} (h : cs.length = m) (b : Rat) : cf m (cs ++ [b]) = cf m cs := funext fun k => by
  unfold cf
  by_cases hk : k < m
  · rw [if_pos hk, if_pos hk, List.getD_eq_getElem?_getD, List.getElem?_append_left (by omega), ← List.getD_eq_getElem?_getD]
  · rw [if_neg hk, if_neg hk]
theorem EqOk.holds {m : Nat} {pts : List Rat} {e : List Rat × Rat} (h : EqOk m pts e) : sN (fun k => cf (m + 1) (e.1 ++ [e.2]) k * pts.getD k 0) m = e.2 := by
  rw [sN_cong (g := fun k => e.1.getD k 0 * pts.getD k 0) fun k hk => by rw [cf_coef h.1 e.2 k hk]]
  exact h.2.2.symm
theorem EqOk.cb {m : Nat} {pts : List Rat} {e : List Rat × Rat} (h : EqOk m pts e) : CB 3 e.1 := ⟨1, by decide, by decide, fun x hx => by
  obtain ⟨F, f1, f2⟩ := h.2.1 x hx
  exact ⟨F, by rw [f1]; exact Rat.mul_one _, by show _ < 8; omega⟩⟩
end
theorem fx_intE {K : PySem.W.Frag} {H : Hp} {a : Addr} {z : Int} (h : H a = some (.tup [.int z, .int 1])) : Fx K H a ((z : Int) : Rat) := SqT.of h
theorem zs_atD {rs : List Int} {k : Nat} (h : k < rs.length) : atI (zs rs) ((k : Nat) : Int) = some (.int (rs.getD k 0)) := atI_nat (by
  rw [show zs rs = rs.map V.int from rfl, List.getElem?_map, List.getElem?_eq_getElem h, List.getD_eq_getElem?_getD, List.getElem?_eq_getElem h]
  rfl)

/-- the number of a draw -/
def nmd12 (d : Int) : Rat := Rat.divInt (d % 19 - 9) (1 + d / 19 % 4)
theorem nmd12_ok (d : Int) : (∃ N : Int, nmd12 d * 12 = (N : Rat) ∧ N.natAbs ≤ 108) ∧ Bd 10 (nmd12 d) := by
  have h1 := Int.emod_nonneg d (show (19 : Int) ≠ 0 by decide)
  have h2 := Int.emod_lt_of_pos d (show (0 : Int) < 19 by decide)
  have h3 := Int.emod_nonneg (d / 19) (show (4 : Int) ≠ 0 by decide)
  have h4 := Int.emod_lt_of_pos (d / 19) (show (0 : Int) < 4 by decide)
  unfold nmd12
  have hn : (d % 19 - 9).natAbs ≤ 9 := by omega
  generalize d % 19 - 9 = n at hn ⊢
  clear h1 h2
  have key : ∀ q k : Int, q ≠ 0 → q * k = 12 → Rat.divInt n q * 12 = ((n * k : Int) : Rat) := fun q k hq e => by
    have hq' : (q : Rat) ≠ 0 := fun z => hq (by have := Rat.intCast_inj.mp (z.trans (Rat.intCast_zero).symm); exact this)
    rw [Rat.divInt_eq_div, Rat.intCast_mul, show (12 : Rat) = ((q * k : Int) : Rat) by rw [e]; rfl, Rat.intCast_mul]
    grind
  have big : (2 : Nat) ^ 10 = 1024 := rfl
  refine ⟨?_, bd_of (by omega) (by omega) (by omega)⟩
  obtain h | h | h | h : d / 19 % 4 = 0 ∨ d / 19 % 4 = 1 ∨ d / 19 % 4 = 2 ∨ d / 19 % 4 = 3 := by omega
  · rw [h]
    exact ⟨_, key 1 12 (by decide) (by decide), by rw [Int.natAbs_mul]; show n.natAbs * 12 ≤ 108; omega⟩
  · rw [h]
    exact ⟨_, key 2 6 (by decide) (by decide), by rw [Int.natAbs_mul]; show n.natAbs * 6 ≤ 108; omega⟩
  · rw [h]
    exact ⟨_, key 3 4 (by decide) (by decide), by rw [Int.natAbs_mul]; show n.natAbs * 4 ≤ 108; omega⟩
  · rw [h]
    exact ⟨_, key 4 3 (by decide) (by decide), by rw [Int.natAbs_mul]; show n.natAbs * 3 ≤ 108; omega⟩
theorem EqOk.last {m : Nat} {pts : List Rat} {e : List Rat × Rat} (h : EqOk m pts e) : cf (m + 1) (e.1 ++ [e.2]) m = e.2 := by
  unfold cf
  rw [if_pos (by omega), List.getD_eq_getElem?_getD, List.getElem?_append_right (by rw [h.1]; omega), h.1, Nat.sub_self]
  rfl
def unitL (m j : Nat) : List Rat := (List.range m).map fun i => if i = j then 1 else 0
theorem unitL_len (m j : Nat) : (unitL m j).length = m := by
  unfold unitL
  rw [List.length_map, List.length_range]
theorem unitL_cf {m j : Nat} (hj : j < m) (k : Nat) : cf m (unitL m j) k = if k = j then 1 else 0 := by
  unfold cf unitL
  by_cases hk : k < m
  · rw [if_pos hk, List.getD_eq_getElem?_getD, List.getElem?_map, List.getElem?_range hk]
    rfl
  · rw [if_neg hk, if_neg (by omega)]
theorem unitL_cb (m j : Nat) : CB 3 (unitL m j) := ⟨1, by decide, by decide, fun x hx => by
  obtain ⟨i, _, rfl⟩ := List.mem_map.mp hx
  split
  · exact ⟨1, Rat.mul_one _, by decide⟩
  · exact ⟨0, Rat.mul_one _, by decide⟩⟩
theorem eqs_rank {m : Nat} {pts : List Rat} {W : Nat} {L : List (List Rat × Rat)} {kept : List (Nat × List Rat)} (ho : ∀ e ∈ L, EqOk m pts e) (h : SI m W (L.map fun e => e.1 ++ [e.2]) kept) {f f2 j : Nat} (hj : j < m)
    (h1 : RankIs (Spn (inL m (L.map (·.1)))) f) (h2 : RankIs (Spn (inL m (L.map (·.1) ++ [unitL m j]))) f2) : f2 = f ↔ ∃ p ∈ kept, p.1 = j ∧ ∀ k < m, k ≠ j → p.2.getD k 0 = 0 := by
  rw [rank_more h1 h2, ← KI.unit h.ki hj (unitL_cf hj), ← h.same]
  have e : inL m (L.map (·.1)) = inL m (L.map fun e => e.1 ++ [e.2]) := funext fun g => propext ⟨fun ⟨r, hr, hg⟩ => by
    obtain ⟨w, hw, rfl⟩ := List.mem_map.mp hr
    exact ⟨_, List.mem_map_of_mem hw, by rw [cf_short (ho w hw).1]; exact hg⟩, fun ⟨r, hr, hg⟩ => by
    obtain ⟨w, hw, rfl⟩ := List.mem_map.mp hr
    exact ⟨_, List.mem_map_of_mem hw, by rw [← hg]; exact (cf_short (ho w hw).1 _).symm⟩⟩
  rw [e]
theorem eqs_worth {m : Nat} {pts : List Rat} {W : Nat} {L : List (List Rat × Rat)} {kept : List (Nat × List Rat)} (ho : ∀ e ∈ L, EqOk m pts e) (h : SI m W (L.map fun e => e.1 ++ [e.2]) kept) {p : Nat × List Rat} (hk : p ∈ kept) (hz : ∀ k < m, k ≠ p.1 → p.2.getD k 0 = 0) : p.2.getD m 0 = pts.getD p.1 0 :=
  h.worth (pt := fun k => pts.getD k 0) (fun r hr => by
    obtain ⟨e, he, rfl⟩ := List.mem_map.mp hr
    rw [(ho e he).last]
    exact (ho e he).holds) hk hz
theorem getD_take {l : List Rat} {k n : Nat} (h : k < n) : (l.take n).getD k 0 = l.getD k 0 := by
  rw [List.getD_eq_getElem?_getD, List.getD_eq_getElem?_getD, List.getElem?_take, if_pos h]

section
theorem Spn.pred {G : VF → Prop} {Z : VF → Prop} (z0 : Z fun _ => 0) (zc : ∀ v w a, Z v → Z w → Z fun k => v k + a * w k) (hg : ∀ g, G g → Z g) {v : VF} (hv : Spn G v) : Z v := by
  induction hv with
  | zero => exact z0
  | step c _ hg2 ih => exact zc _ _ c ih (hg _ hg2)
theorem spn_sN {S : VF → Prop} {μ : Nat → Rat} {g : Nat → VF} : ∀ {n : Nat}, (∀ k < n, μ k ≠ 0 → Spn S (g k)) → Spn S fun c => sN (fun k => μ k * g k c) n
  | 0, _ => Spn.zero
  | n + 1, h => by
    have ih := spn_sN (n := n) fun k hk => h k (by omega)
    by_cases h0 : μ n = 0
    · exact ih.cong fun c => by
        show _ = sN _ n + μ n * g n c
        rw [h0]
        grind
    · exact Spn.closed _ _ (μ n) ih (h n (by omega) h0)
theorem sN_split {f : Nat → Rat} {j n : Nat} (h : j < n) : sN f n = sN (fun k => if k = j then 0 else f k) n + f j := by
  have e := sN_add (fun k => if k = j then 0 else f k) (fun k => if k = j then f k else 0) 1 n
  rw [sN_one (f := fun k => if k = j then f k else 0) h fun k _ hne => if_neg hne] at e
  rw [sN_cong (f := f) (g := fun k => (if k = j then 0 else f k) + 1 * (if k = j then f k else 0)) fun k _ => by
    by_cases hk : k = j
    · rw [if_pos hk, if_pos hk]
      grind
    · rw [if_neg hk, if_neg hk]
      grind, e]
  show _ + 1 * (if j = j then f j else 0) = _
  rw [if_pos rfl]
  grind
/-- from a dependence one of its rows comes from the others -/
theorem dep_out {S : VF → Prop} {μ : Nat → Rat} {g : Nat → VF} {n j : Nat} (hj : j < n) (h0 : μ j ≠ 0) (hs : ∀ k < n, k ≠ j → μ k ≠ 0 → Spn S (g k)) (hz : ∀ c, sN (fun k => μ k * g k c) n = 0) : Spn S (g j) := by
  have a := spn_sN (S := S) (μ := fun k => if k = j then 0 else μ k) (g := g) (n := n) fun k hk h => by
    by_cases hkj : k = j
    · exact absurd (if_pos hkj) h
    · exact hs k hk hkj fun z => h (by show (if k = j then 0 else μ k) = 0; rw [if_neg hkj]; exact z)
  refine (a.scale (-1 / μ j)).cong fun c => ?_
  have e := hz c
  rw [sN_split hj] at e
  rw [sN_cong (f := fun k => (if k = j then 0 else μ k) * g k c) (g := fun k => if k = j then 0 else μ k * g k c) fun k _ => by
    by_cases hk : k = j
    · rw [if_pos hk, if_pos hk]
      grind
    · rw [if_neg hk, if_neg hk]]
  grind
/-- how many leads -/
theorem RankIs.list {S : VF → Prop} {r : Nat} (h : RankIs S r) : ∃ A : List Nat, A.Nodup ∧ A.length = r ∧ (∀ v c, S v → Ld v c → c ∈ A) ∧ ∀ a ∈ A, ∃ v, S v ∧ Ld v a := by
  obtain ⟨A, B, a1, _, a2, _, _, a3, _, a4, _⟩ := rank_sub h h fun _ hv => hv
  exact ⟨A, a1, a2, a3, a4⟩
theorem spn_lift {m : Nat} {R : List (List Rat)} {v : VF} (h : Spn (inL m R) v) : ∃ w, Spn (inL (m + 1) R) w ∧ ∀ k < m, w k = v k := by
  induction h with
  | zero => exact ⟨_, Spn.zero, fun _ _ => rfl⟩
  | step c _ hg ih =>
    obtain ⟨w, w1, w2⟩ := ih
    obtain ⟨r, hr, rfl⟩ := hg
    refine ⟨_, Spn.step c w1 ⟨r, hr, rfl⟩, fun k hk => ?_⟩
    show w k + c * cf (m + 1) r k = _ + c * cf m r k
    rw [w2 k hk]
    unfold cf
    rw [if_pos hk, if_pos (by omega)]
/-- with the bounds there is at most one lead more: that of a row that says something of nothing -/
theorem aug_cmp {m : Nat} {R : List (List Rat)} {a b : Nat} (h1 : RankIs (Spn (inL (m + 1) R)) a) (h2 : RankIs (Spn (inL m R)) b) : (b < a ↔ ∃ v, Spn (inL (m + 1) R) v ∧ Ld v m) ∧ b ≤ a ∧ a ≤ b + 1 := by
  obtain ⟨A, a1, rfl, a3, a4⟩ := h1.list
  obtain ⟨B, b1, rfl, b3, b4⟩ := h2.list
  have low : ∀ {v : VF} {c : Nat}, Ld v c → (∀ k ≥ m, v k = 0) → c < m := fun {v c} h g => by
    rcases Nat.lt_or_ge c m with l | l
    · exact l
    · exact absurd (g c l) h.1
  have ba : ∀ c ∈ B, c ∈ A ∧ c < m := fun c hc => by
    obtain ⟨v, v1, v2⟩ := b4 c hc
    have lc := low v2 (cf_out v1)
    obtain ⟨w, w1, w2⟩ := spn_lift v1
    exact ⟨a3 w c w1 ⟨by rw [w2 c lc]; exact v2.1, fun k hk => by rw [w2 k (by omega)]; exact v2.2 k hk⟩, lc⟩
  have ab : ∀ c ∈ A, c = m ∨ c ∈ B := fun c hc => by
    obtain ⟨v, v1, v2⟩ := a4 c hc
    rcases Nat.lt_trichotomy c m with l | l | l
    · refine .inr (b3 _ c (spn_fewer (Nat.le_succ m) v1) ⟨?_, fun k hk => ?_⟩)
      · show (if c < m then v c else 0) ≠ 0
        rw [if_pos l]
        exact v2.1
      · show (if k < m then v k else 0) = 0
        rw [v2.2 k hk]
        split <;> rfl
    · exact .inl l
    · exact absurd (cf_out v1 c (by omega)) v2.1
  have hab : A.length ≤ B.length + 1 := nodup_le (B := m :: B) a1 fun c hc => by
    rcases ab c hc with h | h
    · rw [h]; exact List.mem_cons_self
    · exact List.mem_cons_of_mem _ h
  refine ⟨⟨fun h => ?_, fun ⟨v, v1, v2⟩ => ?_⟩, nodup_le b1 fun c hc => (ba c hc).1, hab⟩
  · by_cases hm : m ∈ A
    · exact a4 m hm
    · have := nodup_le a1 fun c hc => (ab c hc).resolve_left fun z => hm (by rw [← z]; exact hc)
      omega
  · have hmA := a3 v m v1 v2
    have := nodup_le (A := m :: B) (List.nodup_cons.mpr ⟨fun z => Nat.lt_irrefl _ (ba m z).2, b1⟩) (B := A) fun c hc => by
      rcases List.mem_cons.mp hc with h | h
      · rw [h]; exact hmA
      · exact (ba c h).1
    exact this
/-- a row more, at most one lead more -/
theorem rank_succ {M : Nat} {R : List (List Rat)} {u : List Rat} {r s : Nat} (h1 : RankIs (Spn (inL M R)) r) (h2 : RankIs (Spn (inL M (R ++ [u]))) s) : s ≤ r + 1 := by
  obtain ⟨A, a1, rfl, a3, a4⟩ := h1.list
  obtain ⟨B, b1, rfl, b3, b4⟩ := h2.list
  have parts : ∀ v, Spn (inL M (R ++ [u])) v → ∃ (x : Rat) (w : VF), Spn (inL M R) w ∧ ∀ k, v k = x * cf M u k + w k := fun v hv => by
    refine Spn.pred (Z := fun v => ∃ (x : Rat) (w : VF), Spn (inL M R) w ∧ ∀ k, v k = x * cf M u k + w k) ⟨0, _, Spn.zero, fun k => by grind⟩ ?_ ?_ hv
    · rintro v w a ⟨x, v', v1, v2⟩ ⟨y, w', w1, w2⟩
      exact ⟨x + a * y, _, Spn.closed _ _ a v1 w1, fun k => by show v k + a * w k = _; rw [v2, w2]; grind⟩
    · rintro g ⟨t, ht, rfl⟩
      rcases List.mem_append.mp ht with h | h
      · exact ⟨0, _, Spn.gen ⟨t, h, rfl⟩, fun k => by grind⟩
      · rw [List.mem_singleton.mp h]
        exact ⟨1, _, Spn.zero, fun k => by grind⟩
  have one : ∀ c d, c ∈ B → d ∈ B → c ∉ A → d ∉ A → ¬ c < d := fun c d hc hd hcA hdA l => by
    obtain ⟨v, v1, v2⟩ := b4 c hc
    obtain ⟨w, w1, w2⟩ := b4 d hd
    obtain ⟨x, v', v3, v4⟩ := parts v v1
    obtain ⟨y, w', w3, w4⟩ := parts w w1
    have y0 : y ≠ 0 := fun z => hdA (a3 w' d w3 ⟨by have := w4 d; rw [z] at this; rw [show w' d = w d by grind]; exact w2.1, fun k hk => by have := w4 k; rw [z, w2.2 k hk] at this; grind⟩)
    refine hcA (a3 _ c (Spn.closed _ _ (-(x / y)) v3 w3) ⟨?_, fun k hk => ?_⟩)
    · have e1 := v4 c
      have e2 := w4 c
      rw [w2.2 c l] at e2
      have := v2.1
      show v' c + -(x / y) * w' c ≠ 0
      have : v' c + -(x / y) * w' c = v c := by grind
      rw [this]
      exact v2.1
    · have e1 := v4 k
      have e2 := w4 k
      rw [w2.2 k (by omega)] at e2
      rw [v2.2 k hk] at e1
      show v' k + -(x / y) * w' k = 0
      grind
  by_cases hall : ∀ b ∈ B, b ∈ A
  · have := nodup_le b1 hall
    omega
  · obtain ⟨d, hd⟩ := Classical.not_forall.mp hall
    obtain ⟨hdB, hdA⟩ := Classical.not_imp.mp hd
    exact nodup_le (B := d :: A) b1 fun c hc => by
      by_cases hcA : c ∈ A
      · exact List.mem_cons_of_mem _ hcA
      · rcases Nat.lt_trichotomy c d with l | l | l
        · exact absurd l (one c d hc hdB hcA hdA)
        · rw [l]; exact List.mem_cons_self
        · exact absurd l (one d c hdB hc hdA hcA)
theorem rank_ex {n : Nat} {R : List (List Rat)} (h : ∀ r ∈ R, r.length = n) : ∃ f, RankIs (Spn (inL n R)) f := by
  have step : ∀ c ≤ n, ∃ rows f, RI n R rows c f := by
    intro c
    induction c with
    | zero => exact fun _ => ⟨R, 0, RI.start h⟩
    | succ c ih =>
      intro hc
      obtain ⟨rows, f, hr⟩ := ih (by omega)
      by_cases hz : ∀ r ∈ rows.drop f, r.getD c 0 = 0
      · exact ⟨rows, f, hr.skip hz⟩
      · obtain ⟨r, hr2⟩ := Classical.not_forall.mp hz
        obtain ⟨hm, h0⟩ := Classical.not_imp.mp hr2
        obtain ⟨B, C, e⟩ := List.append_of_mem hm
        have e2 : rows = rows.take f ++ (B ++ r :: C) := by rw [← e, List.take_append_drop]
        have lA : (rows.take f).length = f := by rw [List.length_take]; have := hr.few; omega
        rw [e2] at hr
        exact ⟨_, _, hr.next lA (by omega) h0⟩
  obtain ⟨rows, f, hr⟩ := step n (Nat.le_refl n)
  exact ⟨f, hr.done⟩
end

section
theorem rank_nil {M r : Nat} (h : RankIs (Spn (inL M [])) r) : r = 0 := by
  obtain ⟨A, _, rfl, _, a4⟩ := h.list
  cases A with
  | nil => rfl
  | cons a A =>
    obtain ⟨v, v1, v2⟩ := a4 a List.mem_cons_self
    exact absurd (v1.vanish fun g hg => by
      obtain ⟨r, hr, _⟩ := hg
      cases hr) v2.1
/-- rows each of which does not come from those in front of it -/
theorem indep_rank {M : Nat} {R : Nat → List Rat} {T : List Nat} (hl : ∀ k ∈ T, (R k).length = M) (hp : T.Pairwise (· < ·)) (hn : ∀ k ∈ T, ¬ Spn (fun g => ∃ j < k, cf M (R j) = g) (cf M (R k))) {r : Nat} (h : RankIs (Spn (inL M (T.map R))) r) : r = T.length := by
  have key : ∀ j ≤ T.length, ∀ r, RankIs (Spn (inL M ((T.take j).map R))) r → r = j := by
    intro j
    induction j with
    | zero =>
      intro _ r h
      rw [List.take_zero] at h
      exact rank_nil h
    | succ j ih =>
      intro hj r h
      have e : T.take (j + 1) = T.take j ++ [T[j]] := by rw [List.take_add_one, List.getElem?_eq_getElem (by omega)]; rfl
      rw [e, List.map_append] at h
      obtain ⟨f, hf⟩ := rank_ex (n := M) (R := (T.take j).map R) fun x hx => by
        obtain ⟨k, hk, rfl⟩ := List.mem_map.mp hx
        exact hl k (List.mem_of_mem_take hk)
      have ef := ih (by omega) f hf
      have h1 := rank_succ hf h
      have h2 : f ≤ r := rank_le hf h fun v hv => hv.mono fun g hg => by
        obtain ⟨x, hx, e⟩ := hg
        exact Spn.gen ⟨x, List.mem_append_left _ hx, e⟩
      have h3 : r ≠ f := fun z => hn T[j] (List.getElem_mem (by omega)) (((rank_more hf h).mp z).mono fun g hg => by
        obtain ⟨x, hx, e2⟩ := hg
        obtain ⟨k, hk, rfl⟩ := List.mem_map.mp hx
        obtain ⟨q, hq, hk⟩ := List.mem_iff_getElem.mp hk
        rw [List.length_take] at hq
        rw [List.getElem_take] at hk
        refine Spn.gen ⟨k, ?_, e2⟩
        rw [← hk]
        exact List.pairwise_iff_getElem.mp hp q j (by omega) (by omega) (by omega))
      omega
  exact key T.length (Nat.le_refl _) r (by rw [List.take_length]; exact h)
/-- a row that does not come from those in front of it, by its coefficients -/
def PP (m : Nat) (G : List (List Rat)) (k : Nat) : Prop := ¬ Spn (inL m (G.take k)) (cf m (G.getD k []))
/-- a conflict: how much of each row makes a row that says something of nothing -/
structure Cft (m : Nat) (G : List (List Rat)) (i : Nat) (μ : Nat → Rat) : Prop where
  lt : i < G.length
  own : μ i ≠ 0
  su : ∀ k < G.length, μ k ≠ 0 → k = i ∨ (k < i ∧ PP m G k)
  co : ∀ c < m, sN (fun k => μ k * cf (m + 1) (G.getD k []) c) G.length = 0
  bo : sN (fun k => μ k * cf (m + 1) (G.getD k []) m) G.length ≠ 0
  calm : ∀ v, Spn (inL (m + 1) (G.take i)) v → ¬ Ld v m
def toldL (n : Nat) (μ : Nat → Rat) : List Nat := (List.range n).filter fun k => !decide (μ k = 0)
theorem told_mem {n : Nat} {μ : Nat → Rat} {k : Nat} : k ∈ toldL n μ ↔ k < n ∧ μ k ≠ 0 := by
  unfold toldL
  rw [List.mem_filter, List.mem_range]
  simp
theorem told_asc (n : Nat) (μ : Nat → Rat) : (toldL n μ).Pairwise (· < ·) := List.pairwise_lt_range.filter _
theorem Cft.last {m i : Nat} {G : List (List Rat)} {μ : Nat → Rat} (h : Cft m G i μ) : toldL G.length μ = toldL i μ ++ [i] := by
  unfold toldL
  have e : G.length = i + (1 + (G.length - i - 1)) := by have := h.lt; omega
  rw [e, List.range_add, List.filter_append, List.range_add, List.map_append, List.filter_append]
  have e1 : (List.map (fun x => i + x) (List.range 1)).filter (fun k => !decide (μ k = 0)) = [i] := by
    show List.filter _ [i + 0] = [i]
    rw [List.filter_cons_of_pos (by have := h.own; simp [this])]
    rfl
  have e2 : (List.map (fun x => i + x) (List.map (fun x => 1 + x) (List.range (G.length - i - 1)))).filter (fun k => !decide (μ k = 0)) = [] := by
    rw [List.filter_eq_nil_iff]
    intro k hk
    obtain ⟨a, ha, rfl⟩ := List.mem_map.mp hk
    obtain ⟨b, hb, rfl⟩ := List.mem_map.mp ha
    have hb2 := List.mem_range.mp hb
    have : μ (i + (1 + b)) = 0 := Classical.byContradiction fun z => by
      rcases h.su _ (by omega) z with g | ⟨g, _⟩ <;> omega
    simp [this]
  rw [e1, e2, List.append_nil]
theorem inL_take {M : Nat} {G : List (List Rat)} {k : Nat} (hk : k ≤ G.length) {v : VF} (h : Spn (fun g => ∃ j < k, cf M (G.getD j []) = g) v) : Spn (inL M (G.take k)) v := h.mono fun g hg => by
  obtain ⟨j, hj, e⟩ := hg
  refine Spn.gen ⟨G.getD j [], ?_, e⟩
  rw [List.getD_eq_getElem?_getD, List.getElem?_eq_getElem (by omega)]
  exact List.mem_iff_getElem.mpr ⟨j, by rw [List.length_take]; omega, by rw [List.getElem_take]; rfl⟩
end
section
/-- equations as rows with their bounds -/
abbrev auE (e : List Rat × Rat) : List Rat := e.1 ++ [e.2]
abbrev eqAt (L : List (List Rat × Rat)) (k : Nat) : List Rat × Rat := L.getD k ([], 0)
theorem au_at {L : List (List Rat × Rat)} {k : Nat} (h : k < L.length) : (L.map auE).getD k [] = auE (eqAt L k) := by
  rw [List.getD_eq_getElem?_getD, List.getElem?_map, List.getElem?_eq_getElem h]
  show L[k].1 ++ [L[k].2] = _
  unfold eqAt
  rw [List.getD_eq_getElem?_getD, List.getElem?_eq_getElem h]
  rfl
theorem eq_len {L : List (List Rat × Rat)} {m k : Nat} (hL : ∀ e ∈ L, e.1.length = m) (h : k < L.length) : (eqAt L k).1.length = m := by
  unfold eqAt
  rw [List.getD_eq_getElem?_getD, List.getElem?_eq_getElem h]
  exact hL _ (List.getElem_mem h)
theorem cf_au {m : Nat} {e : List Rat × Rat} (h : e.1.length = m) : cf m (auE e) = cf m e.1 := cf_short h e.2
/-- the coefficients alone span what they do with bounds behind them -/
theorem inL_co {m : Nat} {D : List (List Rat × Rat)} (h : ∀ e ∈ D, e.1.length = m) : inL m (D.map (·.1)) = inL m (D.map auE) := funext fun g => propext ⟨fun ⟨r, hr, hg⟩ => by
    obtain ⟨w, hw, rfl⟩ := List.mem_map.mp hr
    exact ⟨_, List.mem_map_of_mem hw, by rw [cf_au (h w hw)]; exact hg⟩, fun ⟨r, hr, hg⟩ => by
    obtain ⟨w, hw, rfl⟩ := List.mem_map.mp hr
    exact ⟨_, List.mem_map_of_mem hw, by rw [← hg]; exact (cf_au (h w hw)).symm⟩⟩
variable {m i : Nat} {L : List (List Rat × Rat)} {μ : Nat → Rat}
theorem Cft.pp (hL : ∀ e ∈ L, e.1.length = m) (h : Cft m (L.map auE) i μ) {k : Nat} (hk : k ∈ toldL i μ) : k < i ∧ k < L.length ∧ μ k ≠ 0 ∧ ¬ Spn (fun g => ∃ j < k, cf m (eqAt L j).1 = g) (cf m (eqAt L k).1) := by
  obtain ⟨k1, k2⟩ := told_mem.mp hk
  have hi := h.lt
  rw [List.length_map] at hi
  have hp := (h.su k (by rw [List.length_map]; omega) k2).resolve_left (by omega)
  refine ⟨k1, by omega, k2, fun hs => hp.2 ?_⟩
  rw [au_at (by omega), cf_au (eq_len hL (by omega))]
  refine inL_take (by rw [List.length_map]; omega) (hs.mono fun g hg => ?_)
  obtain ⟨j, hj, rfl⟩ := hg
  exact Spn.gen ⟨j, hj, by rw [au_at (by omega), cf_au (eq_len hL (by omega))]⟩
theorem Cft.zero (hL : ∀ e ∈ L, e.1.length = m) (h : Cft m (L.map auE) i μ) : ∀ c, sN (fun k => μ k * cf m (eqAt L k).1 c) L.length = 0 := fun c => by
  rcases Nat.lt_or_ge c m with l | l
  · have := h.co c l
    rw [List.length_map] at this
    rw [← this]
    refine sN_cong fun k hk => ?_
    rw [au_at hk, cf_coef (eq_len hL hk) _ c l]
    unfold cf
    rw [if_pos l]
  · exact sN_none fun k _ => by
      unfold cf
      rw [if_neg (by omega)]
      grind
/-- a told row comes from the other told ones -/
theorem Cft.from (hL : ∀ e ∈ L, e.1.length = m) (h : Cft m (L.map auE) i μ) {j : Nat} (hj : j < L.length) (h0 : μ j ≠ 0) {S : VF → Prop} (hs : ∀ k < L.length, k ≠ j → μ k ≠ 0 → Spn S (cf m (eqAt L k).1)) : Spn S (cf m (eqAt L j).1) := dep_out hj h0 hs (h.zero hL)
theorem Cft.rank0 (hL : ∀ e ∈ L, e.1.length = m) (h : Cft m (L.map auE) i μ) {r : Nat} (hr : RankIs (Spn (inL m ((toldL i μ).map fun k => (eqAt L k).1))) r) : r = (toldL i μ).length :=
  indep_rank (R := fun k => (eqAt L k).1) (fun k hk => eq_len hL (h.pp hL hk).2.1) (told_asc i μ) (fun k hk => (h.pp hL hk).2.2.2) hr
theorem told_len (h : Cft m (L.map auE) i μ) : toldL L.length μ = toldL i μ ++ [i] := by
  have := h.last
  rw [List.length_map] at this
  exact this
theorem Cft.rank_out (hL : ∀ e ∈ L, e.1.length = m) (h : Cft m (L.map auE) i μ) {T : List Nat} {j : Nat} (hj : j ∈ toldL L.length μ) (hT : ∀ k ∈ toldL L.length μ, k ≠ j → k ∈ T) (hT2 : ∀ k ∈ T, k ∈ toldL L.length μ) {r : Nat} (hr : RankIs (Spn (inL m (T.map fun k => (eqAt L k).1))) r) : r + 1 = (toldL L.length μ).length := by
  obtain ⟨f, hf⟩ := rank_ex (n := m) (R := (toldL i μ).map fun k => (eqAt L k).1) fun x hx => by
    obtain ⟨k, hk, rfl⟩ := List.mem_map.mp hx
    exact eq_len hL (h.pp hL hk).2.1
  have e := h.rank0 hL hf
  rw [told_len h, List.length_append]
  show r + 1 = _ + 1
  rw [← e]
  have hi := h.lt
  rw [List.length_map] at hi
  obtain ⟨j1, j2⟩ := told_mem.mp hj
  refine congrArg (· + 1) (rank_eq hr hf (fun v hv => hv.mono fun g hg => ?_) fun v hv => hv.mono fun g hg => ?_)
  · obtain ⟨x, hx, rfl⟩ := hg
    obtain ⟨k, hk, rfl⟩ := List.mem_map.mp hx
    have hk2 := hT2 k hk
    rw [told_len h] at hk2
    rcases List.mem_append.mp hk2 with g | g
    · exact Spn.gen ⟨_, List.mem_map_of_mem g, rfl⟩
    · rw [List.mem_singleton.mp g]
      refine h.from hL hi h.own fun q hq hne hq0 => Spn.gen ⟨_, List.mem_map_of_mem (told_mem.mpr ⟨?_, hq0⟩), rfl⟩
      rcases h.su q (by rw [List.length_map]; exact hq) hq0 with g | g
      · exact absurd g hne
      · exact g.1
  · obtain ⟨x, hx, rfl⟩ := hg
    obtain ⟨k, hk, rfl⟩ := List.mem_map.mp hx
    have hk1 := h.pp hL hk
    by_cases hkj : k = j
    · rw [hkj]
      exact h.from hL j1 j2 fun q hq hne hq0 => Spn.gen ⟨_, List.mem_map_of_mem (hT q (told_mem.mpr ⟨hq, hq0⟩) hne), rfl⟩
    · exact Spn.gen ⟨_, List.mem_map_of_mem (hT k (told_mem.mpr ⟨hk1.2.1, hk1.2.2.1⟩) hkj), rfl⟩
theorem Cft.rank_co (hL : ∀ e ∈ L, e.1.length = m) (h : Cft m (L.map auE) i μ) {r : Nat} (hr : RankIs (Spn (inL m ((toldL L.length μ).map fun k => (eqAt L k).1))) r) : r + 1 = (toldL L.length μ).length :=
  h.rank_out hL (j := i) (by rw [told_len h]; exact List.mem_append_right _ List.mem_cons_self) (fun k hk _ => hk) (fun k hk => hk) hr
theorem Cft.odd (h : Cft m (L.map auE) i μ) {D : List (List Rat)} (hD : ∀ k ∈ toldL L.length μ, auE (eqAt L k) ∈ D) : ∃ v, Spn (inL (m + 1) D) v ∧ Ld v m := by
  refine ⟨_, spn_sN (S := inL (m + 1) D) (μ := μ) (g := fun k => cf (m + 1) ((L.map auE).getD k [])) (n := (L.map auE).length) fun k hk h0 => ?_, h.bo, fun c hc => h.co c hc⟩
  rw [List.length_map] at hk
  show Spn _ (cf (m + 1) ((L.map auE).getD k []))
  rw [au_at hk]
  exact Spn.gen ⟨_, hD k (told_mem.mpr ⟨hk, h0⟩), rfl⟩
theorem Cft.rank_au (hL : ∀ e ∈ L, e.1.length = m) (h : Cft m (L.map auE) i μ) {r : Nat} (hr : RankIs (Spn (inL (m + 1) ((toldL L.length μ).map fun k => auE (eqAt L k)))) r) : r = (toldL L.length μ).length := by
  obtain ⟨f, hf⟩ := rank_ex (n := m) (R := (toldL L.length μ).map fun k => (eqAt L k).1) fun x hx => by
    obtain ⟨k, hk, rfl⟩ := List.mem_map.mp hx
    exact eq_len hL (told_mem.mp hk).1
  have e := h.rank_co hL hf
  have ec := inL_co (m := m) (D := (toldL L.length μ).map (eqAt L)) fun x hx => by
    obtain ⟨k, hk, rfl⟩ := List.mem_map.mp hx
    exact eq_len hL (told_mem.mp hk).1
  rw [List.map_map, List.map_map] at ec
  have hf2 : RankIs (Spn (inL m ((toldL L.length μ).map fun k => auE (eqAt L k)))) f := by
    have e2 : inL m ((toldL L.length μ).map fun k => auE (eqAt L k)) = inL m ((toldL L.length μ).map fun k => (eqAt L k).1) := ec.symm
    rw [e2]
    exact hf
  obtain ⟨c1, c2, c3⟩ := aug_cmp hr hf2
  have := c1.mpr (h.odd fun k hk => List.mem_map_of_mem hk)
  omega
/-- a told row but the last says something that those in front of it do not -/
theorem Cft.new (hL : ∀ e ∈ L, e.1.length = m) (h : Cft m (L.map auE) i μ) {k : Nat} (hk : k ∈ toldL i μ) {r s : Nat} (h1 : RankIs (Spn (inL (m + 1) ((L.take k).map auE))) r) (h2 : RankIs (Spn (inL (m + 1) ((L.take k).map auE ++ [auE (eqAt L k)]))) s) : s ≠ r := fun z => by
  obtain ⟨k1, k2, k3, k4⟩ := h.pp hL hk
  have hs := spn_fewer (Nat.le_succ m) ((rank_more h1 h2).mp z)
  refine k4 ((hs.cong fun c => ?_).mono fun g hg => ?_)
  · exact (cf_fewer (Nat.le_succ m) _ c).trans (by rw [cf_au (eq_len hL k2)])
  · obtain ⟨x, hx, rfl⟩ := hg
    obtain ⟨e, he, rfl⟩ := List.mem_map.mp hx
    obtain ⟨q, hq, e2⟩ := List.mem_iff_getElem.mp he
    rw [List.length_take] at hq
    rw [List.getElem_take] at e2
    refine Spn.gen ⟨q, by omega, ?_⟩
    have e3 : eqAt L q = e := by
      unfold eqAt
      rw [List.getD_eq_getElem?_getD, List.getElem?_eq_getElem (by omega), ← e2]
      rfl
    rw [cf_au (hL e (List.mem_of_mem_take he)), e3]
/-- no row of nothing among them: no rank more with the bounds -/
theorem calm_rank (hL : ∀ e ∈ L, e.1.length = m) {n k : Nat} (hk : k ≤ n) (hc : ∀ v, Spn (inL (m + 1) ((L.map auE).take n)) v → ¬ Ld v m) {a b : Nat} (h1 : RankIs (Spn (inL (m + 1) ((L.take k).map auE))) a) (h2 : RankIs (Spn (inL m ((L.take k).map (·.1)))) b) : ¬ b < a := fun g => by
  rw [inL_co fun e he => hL e (List.mem_of_mem_take he)] at h2
  obtain ⟨v, v1, v2⟩ := (aug_cmp h1 h2).1.mp g
  refine hc v (v1.mono fun g hg => ?_) v2
  obtain ⟨x, hx, rfl⟩ := hg
  rw [← List.map_take]
  obtain ⟨e, he, rfl⟩ := List.mem_map.mp hx
  refine Spn.gen ⟨_, List.mem_map_of_mem ?_, rfl⟩
  have : L.take k = (L.take n).take k := by rw [List.take_take, Nat.min_eq_left hk]
  rw [this] at he
  exact List.mem_of_mem_take he
theorem Cft.first (hL : ∀ e ∈ L, e.1.length = m) (h : Cft m (L.map auE) i μ) {a b : Nat} (h1 : RankIs (Spn (inL (m + 1) ((L.take (i + 1)).map auE))) a) (h2 : RankIs (Spn (inL m ((L.take (i + 1)).map (·.1)))) b) : b < a := by
  rw [inL_co fun e he => hL e (List.mem_of_mem_take he)] at h2
  refine (aug_cmp h1 h2).1.mpr (h.odd fun k hk => List.mem_map_of_mem ?_)
  have hk2 := hk
  rw [told_len h] at hk2
  have hki : k < i + 1 := by
    rcases List.mem_append.mp hk2 with g | g
    · have := (told_mem.mp g).1
      omega
    · rw [List.mem_singleton.mp g]
      omega
  have hkL := (told_mem.mp hk).1
  refine List.mem_iff_getElem.mpr ⟨k, by rw [List.length_take]; omega, ?_⟩
  rw [List.getElem_take]
  unfold eqAt
  rw [List.getD_eq_getElem?_getD, List.getElem?_eq_getElem hkL]
  rfl
end

section
/-- a row whose marks tell of what it is made -/
def MO (M n : Nat) (g : Nat → VF) (v : VF) : Prop := ∀ c < M, v c = sN (fun k => v (M + k) * g k c) n
theorem MO.zero {M n : Nat} {g : Nat → VF} : MO M n g fun _ => 0 := fun c _ => by
  rw [sN_none fun k _ => by grind]
theorem MO.lin {M n : Nat} {g : Nat → VF} (v w : VF) (a : Rat) (hv : MO M n g v) (hw : MO M n g w) : MO M n g fun k => v k + a * w k := fun c hc => by
  show v c + a * w c = sN (fun k => (v (M + k) + a * w (M + k)) * g k c) n
  rw [sN_cong (g := fun k => v (M + k) * g k c + a * (w (M + k) * g k c)) fun k _ => by grind, sN_add, ← hv c hc, ← hw c hc]
theorem MO.scale {M n : Nat} {g : Nat → VF} {v : VF} (a : Rat) (hv : MO M n g v) : MO M n g fun k => a * v k := by
  have := MO.lin (fun _ => 0) v a MO.zero hv
  intro c hc
  have e := this c hc
  have e2 : a * v c = 0 + a * v c := by grind
  show a * v c = _
  rw [e2]
  refine e.trans (sN_cong fun k _ => ?_)
  grind
abbrev gv (m : Nat) (G : List (List Rat)) (k : Nat) : VF := cf (m + 1) (G.getD k [])
structure MI (m n : Nat) (G : List (List Rat)) (i : Nat) (kept : List (Nat × List Rat)) : Prop where
  mo : ∀ p ∈ kept, MO (m + 1) n (gv m G) (cf (m + 1 + n) p.2)
  su : ∀ p ∈ kept, ∀ k < n, cf (m + 1 + n) p.2 (m + 1 + k) ≠ 0 → k < i ∧ PP m G k
theorem MI.start {m n : Nat} {G : List (List Rat)} : MI m n G 0 [] := ⟨(fun _ h => nomatch h), fun _ h => nomatch h⟩
theorem MI.up {m n i : Nat} {G : List (List Rat)} {kept : List (Nat × List Rat)} (h : MI m n G i kept) : MI m n G (i + 1) kept :=
  ⟨h.mo, fun p hp k hk h0 => ⟨by have := (h.su p hp k hk h0).1; omega, (h.su p hp k hk h0).2⟩⟩
theorem mrk_at {g : List Rat} {m i n : Nat} (hg : g.length = m + 1) : (∀ c < m + 1, cf (m + 1 + n) (mrk g i n) c = cf (m + 1) g c) ∧ ∀ k < n, cf (m + 1 + n) (mrk g i n) (m + 1 + k) = if k = i then 1 else 0 := by
  refine ⟨fun c hc => ?_, fun k hk => ?_⟩
  · have e := congrFun (cf_mrk hg i n) c
    unfold cf at e ⊢
    rw [if_pos hc, if_pos hc] at e
    rw [if_pos (by omega), if_pos hc]
    exact e
  · unfold cf mrk
    rw [if_pos (by omega), List.getD_eq_getElem?_getD, List.getElem?_append_right (by omega), hg, show m + 1 + k - (m + 1) = k by omega, List.getElem?_map, List.getElem?_range hk]
    rfl
theorem MI.row {m n i W : Nat} {G : List (List Rat)} {kept : List (Nat × List Rat)} (h : MI m n G i kept) (hS : SI m W (G.take i) kept) (hW : m + 1 + n = W) {g : List Rat} (hg : g.length = m + 1) (hgi : G[i]? = some g) (hin : i < n) :
    MO (m + 1) n (gv m G) (cf (m + 1 + n) (red kept (mrk g i n))) ∧ cf (m + 1 + n) (red kept (mrk g i n)) (m + 1 + i) = 1 ∧ ∀ k < n, cf (m + 1 + n) (red kept (mrk g i n)) (m + 1 + k) ≠ 0 → k = i ∨ (k < i ∧ PP m G k) := by
  have hl : (mrk g i n).length = W := by
    unfold mrk
    rw [List.length_append, List.length_map, List.length_range]
    omega
  obtain ⟨v, v1, v2⟩ := red_spn (M := m + 1 + n) hS.ki.len hl
  obtain ⟨a1, a2⟩ := mrk_at (n := n) (i := i) hg
  have hv : MO (m + 1) n (gv m G) v ∧ v (m + 1 + i) = 0 ∧ ∀ k < n, v (m + 1 + k) ≠ 0 → k < i ∧ PP m G k := by
    refine Spn.pred (Z := fun v => MO (m + 1) n (gv m G) v ∧ v (m + 1 + i) = 0 ∧ ∀ k < n, v (m + 1 + k) ≠ 0 → k < i ∧ PP m G k) ⟨MO.zero, rfl, fun _ _ z => absurd rfl z⟩ ?_ ?_ v1
    · rintro v w a ⟨x1, x2, x3⟩ ⟨y1, y2, y3⟩
      refine ⟨MO.lin v w a x1 y1, by show _ + a * _ = (0 : Rat); rw [x2, y2]; grind, fun k hk hz => ?_⟩
      by_cases h0 : v (m + 1 + k) = 0
      · refine y3 k hk fun h1 => hz ?_
        show _ + a * _ = (0 : Rat)
        rw [h0, h1]
        grind
      · exact x3 k hk h0
    · rintro x ⟨r, hr, rfl⟩
      obtain ⟨p, hp, rfl⟩ := List.mem_map.mp hr
      exact ⟨h.mo p hp, Classical.byContradiction fun z => Nat.lt_irrefl _ (h.su p hp i hin z).1, h.su p hp⟩
  have hm : MO (m + 1) n (gv m G) (cf (m + 1 + n) (mrk g i n)) := fun c hc => by
    rw [a1 c hc, sN_one hin fun k hk hne => by rw [a2 k hk, if_neg hne]; grind, a2 i hin, if_pos rfl]
    unfold gv
    rw [List.getD_eq_getElem?_getD, hgi]
    show _ = 1 * cf (m + 1) g c
    grind
  refine ⟨?_, ?_, fun k hk h0 => ?_⟩
  · have := MO.lin _ v 1 hm hv.1
    intro c hc
    have e := this c hc
    rw [v2 c, sN_cong (g := fun k => (cf (m + 1 + n) (mrk g i n) (m + 1 + k) + 1 * v (m + 1 + k)) * gv m G k c) fun k _ => by rw [v2]; grind, ← e]
    grind
  · rw [v2, hv.2.1, a2 i hin, if_pos rfl]
    grind
  · rw [v2, a2 k hk] at h0
    by_cases hki : k = i
    · exact .inl hki
    · rw [if_neg hki] at h0
      exact .inr (hv.2.2 k hk fun z => h0 (by rw [z]; grind))
/-- a row that is kept does not come from those in front of it -/
theorem SI.fresh {m n i W a : Nat} {G : List (List Rat)} {kept : List (Nat × List Rat)} (hS : SI m W (G.take i) kept) (hW : m + 1 + n = W) {g : List Rat} (hg : g.length = m + 1) (hgi : G[i]? = Option.some g) (ha : a < m) (h0 : (red kept (mrk g i n)).getD a 0 ≠ 0) : PP m G i := fun hs => by
  rw [List.getD_eq_getElem?_getD, hgi] at hs
  have hs : Spn (inL m (G.take i)) (cf m g) := hs
  rw [hS.same] at hs
  obtain ⟨l1, ⟨v, v1, v2⟩, n1⟩ := hS.row (i := i) hg hW
  have v3 := spn_fewer (Nat.le_succ m) v1
  have hr : Spn (inL m (kept.map (·.2))) (cf m (red kept (mrk g i n))) := (hs.addv v3).cong fun k => by
    show cf m g k + (if k < m then v k else 0) = _
    rw [← cf_fewer (Nat.le_succ m) (red kept (mrk g i n)) k, ← cf_fewer (Nat.le_succ m) g k, v2 k]
    split
    · rfl
    · grind
  have e := hS.ki.told (Nat.le_refl m) hr a
  rw [ksum_none (fun p hp => by
    obtain ⟨q, hq, rfl⟩ := List.mem_map.mp hp
    show cf m (red kept (mrk g i n)) q.1 = 0
    unfold cf
    rw [if_pos (hS.ki.lt q hq)]
    exact n1 q hq)] at e
  have e2 : cf m (red kept (mrk g i n)) a = (red kept (mrk g i n)).getD a 0 := if_pos ha
  exact h0 (e2.symm.trans e)
theorem MI.plus {m n i W a : Nat} {G : List (List Rat)} {kept : List (Nat × List Rat)} (h : MI m n G i kept) (hS : SI m W (G.take i) kept) (hW : m + 1 + n = W) {g : List Rat} (hg : g.length = m + 1) (hgi : G[i]? = some g) (hin : i < n) (ha : a < m) (h0 : (red kept (mrk g i n)).getD a 0 ≠ 0) :
    MI m n G (i + 1) (kplus kept a ((red kept (mrk g i n)).map fun x => x / (red kept (mrk g i n)).getD a 0)) := by
  obtain ⟨r1, _, r3⟩ := h.row hS hW hg hgi hin
  have hpp := hS.fresh (n := n) hW hg hgi ha h0
  obtain ⟨l1, _, _⟩ := hS.row (i := i) hg hW
  generalize red kept (mrk g i n) = rr at *
  have cfr : ∀ k, cf (m + 1 + n) (rr.map fun x => x / rr.getD a 0) k = (1 / rr.getD a 0) * cf (m + 1 + n) rr k := fun k => by
    unfold cf
    split
    · rw [List.getD_eq_getElem?_getD, List.getElem?_map, List.getD_eq_getElem?_getD (l := rr) (i := k)]
      cases rr[k]? with
      | none => show (0 : Rat) = _ * 0; grind
      | some x => show x / _ = _ * x; grind
    · grind
  have l2 : (rr.map fun x => x / rr.getD a 0).length = W := by rw [List.length_map]; exact l1
  have m2 : MO (m + 1) n (gv m G) (cf (m + 1 + n) (rr.map fun x => x / rr.getD a 0)) := by
    rw [show cf (m + 1 + n) (rr.map fun x => x / rr.getD a 0) = fun k => (1 / rr.getD a 0) * cf (m + 1 + n) rr k from funext cfr]
    exact r1.scale _
  have s2 : ∀ k < n, cf (m + 1 + n) (rr.map fun x => x / rr.getD a 0) (m + 1 + k) ≠ 0 → k < i + 1 ∧ PP m G k := fun k hk hz => by
    rw [cfr] at hz
    rcases r3 k hk (fun z => hz (by rw [z]; grind)) with e | ⟨e1, e2⟩
    · rw [e]; exact ⟨by omega, hpp⟩
    · exact ⟨by omega, e2⟩
  generalize (rr.map fun x => x / rr.getD a 0) = r2 at *
  refine ⟨fun q hq => ?_, fun q hq k hk hz => ?_⟩
  · rcases List.mem_append.mp hq with hq | hq
    · obtain ⟨p, hp, rfl⟩ := List.mem_map.mp hq
      show MO (m + 1) n (gv m G) (cf (m + 1 + n) (clr a r2 p.2))
      rw [show cf (m + 1 + n) (clr a r2 p.2) = fun k => cf (m + 1 + n) p.2 k + -p.2.getD a 0 * cf (m + 1 + n) r2 k from funext fun k => cf_clr (by rw [hS.ki.len p hp, l2]) k]
      exact MO.lin _ _ _ (h.mo p hp) m2
    · rw [List.mem_singleton.mp hq]
      exact m2
  · rcases List.mem_append.mp hq with hq | hq
    · obtain ⟨p, hp, rfl⟩ := List.mem_map.mp hq
      have hz : cf (m + 1 + n) (clr a r2 p.2) (m + 1 + k) ≠ 0 := hz
      rw [cf_clr (by rw [hS.ki.len p hp, l2])] at hz
      by_cases h1 : cf (m + 1 + n) p.2 (m + 1 + k) = 0
      · exact s2 k hk fun z => hz (by rw [h1, z]; grind)
      · have := h.su p hp k hk h1
        exact ⟨by omega, this.2⟩
    · rw [List.mem_singleton.mp hq] at hz
      exact s2 k hk hz
theorem SI.calm {m W : Nat} {done : List (List Rat)} {kept : List (Nat × List Rat)} (h : SI m W done kept) (v : VF) (hv : Spn (inL (m + 1) done) v) : ¬ Ld v m := fun hl => by
  have hv2 : Spn (inL (m + 1) (kept.map (·.2))) v := hv.mono fun g hg => by
    obtain ⟨r, hr, rfl⟩ := hg
    exact h.s2 r hr
  refine hl.1 ?_
  rw [h.ki.told (Nat.le_succ m) hv2 m]
  exact ksum_none (fun p hp => by
    obtain ⟨q, hq, rfl⟩ := List.mem_map.mp hp
    exact hl.2 q.1 (h.ki.lt q hq)) m
theorem MI.conflict {m n i W : Nat} {G : List (List Rat)} {kept : List (Nat × List Rat)} (h : MI m n G i kept) (hS : SI m W (G.take i) kept) (hW : m + 1 + n = W) (hn : n = G.length) {g : List Rat} (hg : g.length = m + 1) (hgi : G[i]? = some g) (hz : ∀ k < m, (red kept (mrk g i n)).getD k 0 = 0) (hb : (red kept (mrk g i n)).getD m 0 ≠ 0) :
    Cft m G i fun k => (red kept (mrk g i n)).getD (m + 1 + k) 0 := by
  have hi : i < G.length := (List.getElem?_eq_some_iff.mp hgi).1
  obtain ⟨r1, r2, r3⟩ := h.row hS hW hg hgi (by omega)
  generalize red kept (mrk g i n) = rr at *
  have cfe : ∀ k < m + 1 + n, cf (m + 1 + n) rr k = rr.getD k 0 := fun k hk => if_pos hk
  subst hn
  have sm : ∀ c < m + 1, rr.getD c 0 = sN (fun k => rr.getD (m + 1 + k) 0 * cf (m + 1) (G.getD k []) c) G.length := fun c hc => by
    rw [← cfe c (by omega), r1 c hc]
    exact sN_cong fun k hk => by rw [cfe _ (by omega)]
  refine ⟨hi, ?_, fun k hk h0 => r3 k hk (by rw [cfe _ (by omega)]; exact h0), fun c hc => ?_, ?_, hS.calm⟩
  · show rr.getD (m + 1 + i) 0 ≠ 0
    rw [← cfe _ (by omega), r2]
    decide
  · rw [← sm c (by omega)]
    exact hz c hc
  · rw [← sm m (by omega)]
    exact hb
end
def lbb : Nat → Nat
  | 0 => 11
  | c + 1 => 2 * lbb c + 1
theorem lbb_le4 {c : Nat} (h : c ≤ 4) : lbb c ≤ 191 := by
  have : ∀ c ≤ 4, lbb c ≤ 191 := by decide
  exact this c h
theorem cutV_but {A : List V} {x : V} : cutV (A ++ [x]) none (some (-1)) = A := by
  unfold cutV
  rw [HT.sIx_none]
  have e : HT.sIx (A ++ [x]).length (A ++ [x]).length (some (-1)) = A.length := by
    show (if (-1 : Int) < 0 then ((-1 : Int) + ((A ++ [x]).length : Int)).toNat else min (-1 : Int).toNat (A ++ [x]).length) = A.length
    rw [if_pos (by decide), List.length_append]
    show ((-1 : Int) + ((A.length + 1 : Nat) : Int)).toNat = A.length
    omega
  rw [e, Nat.sub_zero, List.drop_zero, List.take_left']
  rfl
section
/-- an equation, its bound perhaps moved -/
def EqMv (m : Nat) (e : List Rat × Rat) : Prop := e.1.length = m ∧ (∀ x ∈ e.1, ∃ F : Int, x = (F : Rat) ∧ F.natAbs ≤ 2) ∧ ∃ N : Int, e.2 * 12 = (N : Rat) ∧ N.natAbs ≤ 1100
theorem EqOk.mv {m : Nat} {pts : List Rat} {e : List Rat × Rat} (h : EqOk m pts e) (hp : PtOk m pts) (hm : m ≤ 4) : EqMv m e ∧ ∃ N : Int, e.2 * 12 = (N : Rat) ∧ N.natAbs ≤ 864 := by
  obtain ⟨N, n1, n2⟩ := sum12 (m := m) h.2.1 (fun x hx => (hp.2 x hx).1) m
  rw [← h.2.2] at n1
  exact ⟨⟨h.1, h.2.1, N, n1, by omega⟩, N, n1, by omega⟩
theorem EqMv.gs {m : Nat} {e : List Rat × Rat} (h : EqMv m e) : Gs m (auE e) := by
  obtain ⟨h1, h2, N, n1, n2⟩ := h
  refine ⟨fun x hx => ?_, fun k hk => ?_⟩
  · rcases List.mem_append.mp hx with g | g
    · obtain ⟨F, f1, f2⟩ := h2 x g
      refine ⟨F * 12, by rw [f1, Rat.intCast_mul]; rfl, ?_⟩
      rw [Int.natAbs_mul]
      show F.natAbs * 12 < 2048
      omega
    · rw [List.mem_singleton.mp g]
      exact ⟨N, n1, by show _ < 2048; omega⟩
  · have : (auE e).getD k 0 = e.1.getD k 0 := by
      rw [List.getD_eq_getElem?_getD, List.getElem?_append_left (by omega), ← List.getD_eq_getElem?_getD]
    rw [this]
    exact h2 _ (by
      rw [List.getD_eq_getElem?_getD, List.getElem?_eq_getElem (by omega)]
      exact List.getElem_mem _)
theorem EqMv.cb {m : Nat} {e : List Rat × Rat} (h : EqMv m e) : CB 11 (auE e) := by
  obtain ⟨h1, h2, N, n1, n2⟩ := h
  refine ⟨12, by decide, by decide, fun x hx => ?_⟩
  rcases List.mem_append.mp hx with g | g
  · obtain ⟨F, f1, f2⟩ := h2 x g
    refine ⟨F * 12, by rw [f1, Rat.intCast_mul]; rfl, ?_⟩
    rw [Int.natAbs_mul]
    show F.natAbs * 12 < 2048
    omega
  · rw [List.mem_singleton.mp g]
    exact ⟨N, n1, by show _ < 2048; omega⟩
theorem mv_bd {x : Rat} {N : Int} (h : x * 12 = (N : Rat)) (hN : N.natAbs ≤ 1100) : Bd 12 x := bd_over (D := 12) (by decide) (by decide) h (by show _ < 4096; omega)
theorem half12 (z : Int) : Rat.divInt z 2 * 12 = ((6 * z : Int) : Rat) := by
  rw [Rat.divInt_eq_div, Rat.intCast_mul]
  show (z : Rat) / 2 * 12 = 6 * (z : Rat)
  grind
theorem calm_sub {m n k : Nat} {L : List (List Rat × Rat)} (hk : k ≤ n) (hc : ∀ v, Spn (inL (m + 1) ((L.map auE).take n)) v → ¬ Ld v m) : ¬ ∃ v, Spn (inL (m + 1) ((L.take k).map auE)) v ∧ Ld v m := fun ⟨v, v1, v2⟩ => by
  refine hc v (v1.mono fun g hg => ?_) v2
  obtain ⟨x, hx, rfl⟩ := hg
  rw [← List.map_take]
  obtain ⟨e, he, rfl⟩ := List.mem_map.mp hx
  refine Spn.gen ⟨_, List.mem_map_of_mem ?_, rfl⟩
  have : L.take k = (L.take n).take k := by rw [List.take_take, Nat.min_eq_left hk]
  rw [this] at he
  exact List.mem_of_mem_take he
theorem Cft.nu {m i : Nat} {L : List (List Rat × Rat)} {μ : Nat → Rat} (h : Cft m (L.map auE) i μ) : ∃ v, Spn (inL (m + 1) ((L.take (i + 1)).map auE)) v ∧ Ld v m := by
  refine h.odd fun k hk => List.mem_map_of_mem ?_
  have hk2 := hk
  rw [told_len h] at hk2
  have hki : k < i + 1 := by
    rcases List.mem_append.mp hk2 with g | g
    · have := (told_mem.mp g).1
      omega
    · rw [List.mem_singleton.mp g]
      omega
  have hkL := (told_mem.mp hk).1
  refine List.mem_iff_getElem.mpr ⟨k, by rw [List.length_take]; omega, ?_⟩
  rw [List.getElem_take]
  unfold eqAt
  rw [List.getD_eq_getElem?_getD, List.getElem?_eq_getElem hkL]
  rfl
end


section
variable {P : Program} {w : World} {K : PySem.W.Frag} {mg : Str → Option Value} {base : Heap}
def spFraction (K : PySem.W.Frag) (CNought : Addr) : Sp := fun vs H Q E => ∃ n d : Int, vs = [.int n, .int d] ∧ Bz 8500 d ∧ (d = 0 → E (.ref CNought) none H) ∧ (d ≠ 0 → ∀ (H' : Hp) (t : Addr), Same H H' → Fx K H' t (Rat.divInt n d) → Q (.ref t) H')
theorem okFraction {fFraction : Addr} {fdFraction : FuncData} (F : FunD K "fraction" "fraction" (defArgs sFraction) (defBody sFraction) (defScope sFraction) [.int 1] [] fFraction fdFraction) (T : Txt mg) {aZERO : Addr} {aONE : Addr} (CT : Cons K mg aZERO aONE) {CPartError CNought : Addr} (EX : Exns K mg CPartError CNought) :
    FnOk P w K mg base (L2.CX P w) 1 fFraction fdFraction ["number", "divisor"] (spFraction K CNought) := by
  refine F.ok scFraction (fun vs H Q E h => ?_) (fun cdv A outer s H vs Q E hr h => ?_)
  · obtain ⟨n, d, rfl, hb, he, q⟩ := h
    rfl
  · obtain ⟨n, d, rfl, hb, he, q⟩ := h
    refine ⟨_, (pss_cons (ps_if (pt_cmpR op_eq (pv 1) pe_int (nomark _))
        (pss_one (ps_ret (pe_tup (pa_cons (pv 0) (pa_cons pe_int pa_nil)))))
        pss_nil)
      (pss_cons (ps_if (pt_cmpR op_eq (pv 1) pe_int (nomark _))
        (pss_one (ps_raise rfl (takes_of rfl rfl rfl rfl) (pmk_own PySem.F.excBase_ValueError EX.xNought EX.gNought EX.kNought (raises_own EX.bNought EX.tNought) rfl)))
        pss_nil)
      (pss_cons (ps_set (i := 2) scFraction.nd rfl (Or.inl rfl) (pe_callBfun cr_gcd (by rfl) T.gcd (pa_cons (pv 0) (pa_cons (pv 1) pa_nil))))
      (C8.pss_cut (ps_if (pt_cmpR op_lt (pv 1) pe_int (nomark _))
        (pss_one (ps_set (i := 2) scFraction.nd rfl (Or.inl rfl) (pe_un un_neg (pv 2))))
        pss_nil)
      (pss_one (ps_ret (pe_tup (pa_cons (pe_op op_fdivX (pv 0) (pv 2)) (pa_cons (pe_op op_fdivX (pv 1) (pv 2)) pa_nil))))))))), ?_⟩
    walk_at "rd"
    refine ite2 (fun g1 => ?_) (fun g1 => ?_)
    · obtain rfl : d = 1 := eq_of_dec g1
      refine ⟨_, rfl, by show 2 ≤ sizeLine; decide, fun t ht => ?_⟩
      exact q (by decide) _ t (same_upd ht) (fx_rd (by decide) (by unfold rd2; rw [rd_one]; exact upd_same))
    walk_at "rd"
    refine ite2 (fun g => ?_) (fun g => ?_)
    · exact he (eq_of_dec g)
    · have hd := ne_of_nodec g
      refine ⟨_, rfl, _, rfl, n, d, rfl, ?_⟩
      refine ⟨fun σ' H' => σ' = [some (.int n), some (.int d), some (.int (sg n d))] ∧ H' = H, ?_, ?_⟩
      · walk_at "rd"
        refine ite2 (fun g2 => ?_) (fun g2 => ?_)
        · refine ⟨_, rfl, _, rfl, ?_, rfl⟩
          unfold sg
          rw [if_pos (of_decide_eq_true g2)]
          rfl
        · refine ⟨?_, rfl⟩
          unfold sg
          rw [if_neg (fun z => g2 (decide_eq_true z))]
          rfl
      · rintro σ' H' ⟨rfl, rfl⟩
        have hs := sg_ne (n := n) hd
        have hsb : (sg n d).natAbs < 2 ^ 8500 := by
          rw [sg_abs]
          exact Nat.lt_of_le_of_lt (Nat.le_of_dvd (by omega) (Nat.gcd_dvd_right _ _)) hb
        refine ⟨_, rfl, _, rfl, _, _, rfl, rfl, wide_divx hs hsb (by decide) (by decide), _, rfl, _, rfl, _, _, rfl, rfl, wide_divx hs hsb (by decide) (by decide), by show 2 ≤ sizeLine; decide, fun t ht => ?_⟩
        exact q hd _ t (same_upd ht) (fx_rd hd upd_same)
def spR2 (K : PySem.W.Frag) (op : Rat → Rat → Rat) : Sp := fun vs H Q _ => ∃ (a b : Addr) (r s : Rat), vs = [.ref a, .ref b] ∧ Fx K H a r ∧ Fx K H b s ∧ Bd 800 r ∧ Bd 800 s ∧
  ∀ (H' : Hp) (t : Addr), Same H H' → Fx K H' t (op r s) → Q (.ref t) H'
def spW2 (K : PySem.W.Frag) (op : Rat → Rat → Rat) : Sp := fun vs H Q _ => ∃ (a b : Addr) (r s : Rat), vs = [.ref a, .ref b] ∧ Fx K H a r ∧ Fx K H b s ∧ Bd 4000 r ∧ Bd 4000 s ∧
  ∀ (H' : Hp) (t : Addr), Same H H' → Fx K H' t (op r s) → Q (.ref t) H'
def spMinus (K : PySem.W.Frag) : Sp := spW2 K (fun r s => r - s)
theorem okMinus {fMinus : Addr} {fdMinus : FuncData} (F : Fun K "minus" "minus" sMinus fMinus fdMinus) (T : Txt mg) {aZERO : Addr} {aONE : Addr} (CT : Cons K mg aZERO aONE) {CPartError CNought : Addr} (EX : Exns K mg CPartError CNought)
    {fFraction : Addr} {fdFraction : FuncData} (GFraction : FnOk P w K mg base (L2.CX P w) 1 fFraction fdFraction ["number", "divisor"] (spFraction K CNought)) (gFraction : mg "fraction" = some (.ref fFraction)) (kpFraction : PySem.W.keepIn K (.ref fFraction) = true) (bFraction : Binds K fdFraction ["number", "divisor"] []) {dsFraction : List Value} (vdFraction : Vals [.int 1] dsFraction) (bdFraction : Binds K fdFraction ["number", "divisor"] dsFraction) :
    FnOk P w K mg base CX0 2 fMinus fdMinus ["a", "b"] (spMinus K) := by
  refine F.ok scMinus (fun vs H Q E h => ?_) (fun cdv A outer s H vs Q E hr h => ?_)
  · obtain ⟨a, b, r, s, rfl, hA, hB, hr1, hs1, k⟩ := h
    rfl
  · obtain ⟨a, b, r, s, rfl, hA, hB, hr1, hs1, k⟩ := h
    refine ⟨_, (pss_one (ps_ret (pe_call GFraction hr (by rfl) gFraction kpFraction bFraction .nil passL (pa_cons (pe_op op_sub (pe_op op_mulW (pe_ix ix_tup (pv 0) pe_int (fun _ _ => rfl)) (pe_ix ix_tup (pv 1) pe_int (fun _ _ => rfl))) (pe_op op_mulW (pe_ix ix_tup (pv 1) pe_int (fun _ _ => rfl)) (pe_ix ix_tup (pv 0) pe_int (fun _ _ => rfl)))) (pa_cons (pe_op op_mulW (pe_ix ix_tup (pv 0) pe_int (fun _ _ => rfl)) (pe_ix ix_tup (pv 1) pe_int (fun _ _ => rfl))) pa_nil))))), ?_⟩
    walk_at "go"
    exact ⟨Bz.up (by walk_at "bz") (by decide), fun h => absurd h (dd_ne r s), fun _ H' t s1 e1 => k H' t s1 (by show Fx K H' t (r - s); rw [sub_div]; exact e1)⟩
def spTimes (K : PySem.W.Frag) : Sp := spW2 K (fun r s => r * s)
theorem okTimes {fTimes : Addr} {fdTimes : FuncData} (F : Fun K "times" "times" sTimes fTimes fdTimes) (T : Txt mg) {aZERO : Addr} {aONE : Addr} (CT : Cons K mg aZERO aONE) {CPartError CNought : Addr} (EX : Exns K mg CPartError CNought)
    {fFraction : Addr} {fdFraction : FuncData} (GFraction : FnOk P w K mg base (L2.CX P w) 1 fFraction fdFraction ["number", "divisor"] (spFraction K CNought)) (gFraction : mg "fraction" = some (.ref fFraction)) (kpFraction : PySem.W.keepIn K (.ref fFraction) = true) (bFraction : Binds K fdFraction ["number", "divisor"] []) {dsFraction : List Value} (vdFraction : Vals [.int 1] dsFraction) (bdFraction : Binds K fdFraction ["number", "divisor"] dsFraction) :
    FnOk P w K mg base CX0 2 fTimes fdTimes ["a", "b"] (spTimes K) := by
  refine F.ok scTimes (fun vs H Q E h => ?_) (fun cdv A outer s H vs Q E hr h => ?_)
  · obtain ⟨a, b, r, s, rfl, hA, hB, hr1, hs1, k⟩ := h
    rfl
  · obtain ⟨a, b, r, s, rfl, hA, hB, hr1, hs1, k⟩ := h
    refine ⟨_, (pss_one (ps_ret (pe_call GFraction hr (by rfl) gFraction kpFraction bFraction .nil passL (pa_cons (pe_op op_mulW (pe_ix ix_tup (pv 0) pe_int (fun _ _ => rfl)) (pe_ix ix_tup (pv 1) pe_int (fun _ _ => rfl))) (pa_cons (pe_op op_mulW (pe_ix ix_tup (pv 0) pe_int (fun _ _ => rfl)) (pe_ix ix_tup (pv 1) pe_int (fun _ _ => rfl))) pa_nil))))), ?_⟩
    walk_at "go"
    exact ⟨Bz.up (by walk_at "bz") (by decide), fun h => absurd h (dd_ne r s), fun _ H' t s1 e1 => k H' t s1 (by show Fx K H' t (r * s); rw [mul_div]; exact e1)⟩
theorem ov_div {r s : Rat} : r / s = Rat.divInt (r.num * s.den) (r.den * s.num) := by
  have h1 : (r.num : Rat) / ((r.den : Int) : Rat) = r := by rw [← Rat.divInt_eq_div, Rat.num_divInt_den]
  have h2 : (s.num : Rat) / ((s.den : Int) : Rat) = s := by rw [← Rat.divInt_eq_div, Rat.num_divInt_den]
  have d1 : ((r.den : Int) : Rat) ≠ 0 := fun z => den_ne r (Rat.intCast_inj.mp z)
  have d2 : ((s.den : Int) : Rat) ≠ 0 := fun z => den_ne s (Rat.intCast_inj.mp z)
  rw [Rat.divInt_eq_div, Rat.intCast_mul, Rat.intCast_mul]
  generalize (r.num : Rat) = a at *
  generalize (s.num : Rat) = b at *
  generalize ((r.den : Int) : Rat) = c at *
  generalize ((s.den : Int) : Rat) = d at *
  subst h1 h2
  by_cases hb : b = 0
  · subst hb
    grind
  · grind
theorem od_ne {r s : Rat} (h : s ≠ 0) : (r.den : Int) * s.num ≠ 0 := Int.mul_ne_zero (den_ne r) (fun z => h (by rw [← Rat.num_divInt_den s, z]; simp))
def spOver (K : PySem.W.Frag) : Sp := fun vs H Q E => ∃ (a b : Addr) (r s : Rat), vs = [.ref a, .ref b] ∧ Fx K H a r ∧ Fx K H b s ∧ Bd 4000 r ∧ Bd 4000 s ∧ s ≠ 0 ∧
  ∀ (H' : Hp) (t : Addr), Same H H' → Fx K H' t (r / s) → Q (.ref t) H'
theorem okOver {fOver : Addr} {fdOver : FuncData} (F : Fun K "over" "over" sOver fOver fdOver) (T : Txt mg) {aZERO : Addr} {aONE : Addr} (CT : Cons K mg aZERO aONE) {CPartError CNought : Addr} (EX : Exns K mg CPartError CNought)
    {fFraction : Addr} {fdFraction : FuncData} (GFraction : FnOk P w K mg base (L2.CX P w) 1 fFraction fdFraction ["number", "divisor"] (spFraction K CNought)) (gFraction : mg "fraction" = some (.ref fFraction)) (kpFraction : PySem.W.keepIn K (.ref fFraction) = true) (bFraction : Binds K fdFraction ["number", "divisor"] []) {dsFraction : List Value} (vdFraction : Vals [.int 1] dsFraction) (bdFraction : Binds K fdFraction ["number", "divisor"] dsFraction) :
    FnOk P w K mg base CX0 2 fOver fdOver ["a", "b"] (spOver K) := by
  refine F.ok scOver (fun vs H Q E h => ?_) (fun cdv A outer s H vs Q E hr h => ?_)
  · obtain ⟨a, b, r, s, rfl, hA, hB, hr1, hs1, h0, k⟩ := h
    rfl
  · obtain ⟨a, b, r, s, rfl, hA, hB, hr1, hs1, h0, k⟩ := h
    refine ⟨_, (pss_one (ps_ret (pe_call GFraction hr (by rfl) gFraction kpFraction bFraction .nil passL (pa_cons (pe_op op_mulW (pe_ix ix_tup (pv 0) pe_int (fun _ _ => rfl)) (pe_ix ix_tup (pv 1) pe_int (fun _ _ => rfl))) (pa_cons (pe_op op_mulW (pe_ix ix_tup (pv 0) pe_int (fun _ _ => rfl)) (pe_ix ix_tup (pv 1) pe_int (fun _ _ => rfl))) pa_nil))))), ?_⟩
    walk_at "go"
    exact ⟨Bz.up (by walk_at "bz") (by decide), fun h => absurd h (od_ne h0), fun _ H' t s1 e1 => k H' t s1 (by rw [ov_div]; exact e1)⟩
def spCleared (K : PySem.W.Frag) : Sp := fun vs H Q _ => ∃ (u b : Addr) (l : Nat) (row base : List Rat), vs = [.ref u, .int l, .ref b] ∧ RowAt K H u row ∧ RowAt K H b base ∧ row.length = base.length ∧ l < row.length ∧ row.length ≤ 20 ∧ (∀ x ∈ row, Bd 1000 x) ∧ (∀ x ∈ base, Bd 1000 x) ∧
  ∀ (H' : Hp) (t : Addr), Same H H' → RowAt K H' t (clr l base row) → (t = u ∨ H t = none) → Q (.ref t) H'
theorem okCleared {fCleared : Addr} {fdCleared : FuncData} (F : Fun K "cleared" "cleared" sCleared fCleared fdCleared) (T : Txt mg) {aZERO : Addr} {aONE : Addr} (CT : Cons K mg aZERO aONE) {CPartError CNought : Addr} (EX : Exns K mg CPartError CNought)
    {fMinus : Addr} {fdMinus : FuncData} (GMinus : FnOk P w K mg base CX0 2 fMinus fdMinus ["a", "b"] (spMinus K)) (gMinus : mg "minus" = some (.ref fMinus)) (kpMinus : PySem.W.keepIn K (.ref fMinus) = true) (bMinus : Binds K fdMinus ["a", "b"] [])
    {fTimes : Addr} {fdTimes : FuncData} (GTimes : FnOk P w K mg base CX0 2 fTimes fdTimes ["a", "b"] (spTimes K)) (gTimes : mg "times" = some (.ref fTimes)) (kpTimes : PySem.W.keepIn K (.ref fTimes) = true) (bTimes : Binds K fdTimes ["a", "b"] []) :
    FnOk P w K mg base CX0 3 fCleared fdCleared ["row", "at", "base"] (spCleared K) := by
  refine F.ok scCleared (fun vs H Q E h => ?_) (fun cdv A outer s H vs Q E hr h => ?_)
  · obtain ⟨u, b, l, row, base, rfl, ⟨ws, h1, h2, h3⟩, ⟨vs, g1, g2, g3⟩, hlen, hl, h20, b1, b2, k⟩ := h
    rfl
  · obtain ⟨u, b, l, row, base, rfl, ⟨ws, h1, h2, h3⟩, ⟨vs, g1, g2, g3⟩, hlen, hl, h20, b1, b2, k⟩ := h
    refine ⟨_, (pss_cons (ps_set (i := 3) scCleared.nd rfl (Or.inr rfl) (pe_ix ix_list (pv 0) (pv 1) (fun _ _ => rfl)))
      (pss_cons (ps_if (pt_cmpR (op_eqD hr.units) (pv 3) (pe_glob (v := .ref aZERO) (by rfl) CT.gZERO rfl) (nomark _))
        (pss_one (ps_ret (pv 0)))
        pss_nil)
      (pss_one (ps_ret (pe_lc (own := [("part", 4), ("other", 5)]) (by rfl) scCleared.nd (pi_zipB (by rfl) T.zip (pa_cons (pv 0) (pa_cons (pv 2) pa_nil))) (blkOk_by (own := [("part", 4), ("other", 5)]) (N := ["row", "at", "base", "factor", "part", "other"]) (sc := defScope sCleared) (by decide +kernel)) (fun _ _ _ _ _ => (show PG _ _ (gTup K 2 _) from (pg_tup rfl (pgs_cons (pg_name (i := 4) scCleared.nd rfl (Or.inl rfl)) (pgs_cons (pg_name (i := 5) scCleared.nd rfl (Or.inl rfl)) pgs_nil))))) (fun _ _ _ _ _ => pts_nil) (fun _ _ _ _ _ => (pe_call GMinus hr (by rfl) gMinus kpMinus bMinus .nil pass0 (pa_cons (pv 4) (pa_cons (pe_call GTimes hr (by rfl) gTimes kpTimes bTimes .nil pass0 (pa_cons (pv 3) (pa_cons (pv 5) pa_nil))) pa_nil))))))))), ?_⟩
    obtain ⟨a, a1, a2, a3⟩ := RowAt.get (K := K) h2 h3 hl
    have lw : ws.length = row.length := by rw [← h3, List.length_map]
    have lv : vs.length = base.length := by rw [← g3, List.length_map]
    have b0 := b1 _ a3
    unfold clr at k
    have F0 : Fx K H aZERO 0 := CT.tZERO H
    refine ⟨_, rfl, _, rfl, u, _, _, V.ref a, rfl, rfl, SqL.of h1, atI_nat a1, ?_⟩
    refine ⟨_, rfl, _, _, dpr a2, dpr F0, sh1 _, sh1 _, ?_⟩
    rw [eqvr]
    refine ⟨_, rfl, ?_⟩
    by_cases h0 : row.getD l 0 = 0
    · refine iteT' (decide_eq_true h0) ?_
      refine ⟨_, rfl, ?_⟩
      rw [if_pos h0] at k
      exact k H u (Same.refl _) ⟨ws, h1, h2, h3⟩ (.inl rfl)
    refine iteF' (decide_eq_false h0) ?_
    rw [if_neg h0] at k
    refine ⟨_, rfl, _, rfl, false, false, u, b, fr ws, fr vs, rfl, SqL.of h1, SqL.of g1, fun D hD => ?_⟩
    refine lc_row (K := K) (walk_zipB (f := false) (g := false) (xs := fr ws) (ys := fr vs) rfl) (List.zipWith (fun x y => x - row.getD l 0 * y) row base) (by rw [List.length_zipWith, fr_len, fr_len]; omega) (by rw [fr_len, fr_len]; omega) hD (fun H2 s2 => ⟨SqL.of (s2 _ _ h1), SqL.of (s2 _ _ g1)⟩) ?_ ?_
    · rintro i r v H2 H3 kk hr s2 ⟨T, w1, w2, rfl, hT, rfl, y1, y2⟩ kk2
      obtain ⟨w, rfl, hw⟩ := fr_get y1
      obtain ⟨w', rfl, hw'⟩ := fr_get y2
      rw [List.getElem?_zipWith, ← h3, ← g3, List.getElem?_map, List.getElem?_map, hw, hw', h3] at hr
      obtain rfl : w.2 - row.getD l 0 * w'.2 = r := Option.some.inj hr
      have m1 : w ∈ ws := List.mem_of_getElem? hw
      have m2 : w' ∈ vs := List.mem_of_getElem? hw'
      have sT := same_upd (o := .tup [.ref w.1, .ref w'.1]) hT
      have bw : Bd 1000 w.2 := b1 _ (by rw [← h3]; exact List.mem_map_of_mem m1)
      have bw' : Bd 1000 w'.2 := b2 _ (by rw [← g3]; exact List.mem_map_of_mem m2)
      refine ⟨_, _, rfl, SqT.of upd_same, rfl, _, _, rfl, _, _, rfl, rfl, rfl, ?_⟩
      refine ⟨_, rfl, _, rfl, _, rfl, a, w'.1, row.getD l 0, w'.2, rfl, a2.same (s2.trans sT), (g2 w' m2).same (s2.trans sT), b0.up (by decide), bw'.up (by decide), fun H5 t5 s5 f5 => ?_⟩
      exact ⟨w.1, t5, w.2, row.getD l 0 * w'.2, rfl, (h2 w m1).same (s2.trans (sT.trans s5)), f5, bw.up (by decide), (b0.mul bw').up (by decide), fun H6 t6 s6 f6 => kk2 t6 H6 (sT.trans (s5.trans s6)) f6⟩
    · intro H2 us s2 e2 r2 m2
      exact k H2 D s2 ⟨us, e2, r2, m2⟩ (.inr hD)
theorem none_back {H H' : Hp} {t : Addr} (s : Same H H') (h : H' t = none) : H t = none := by
  cases e : H t with
  | none => rfl
  | some o =>
    rw [s _ _ e] at h
    cases h
def spMarked (K : PySem.W.Frag) : Sp := fun vs H Q _ => ∃ (u : Addr) (i n : Nat) (row : List Rat), vs = [.ref u, .int i, .int n] ∧ RowAt K H u row ∧ row.length ≤ 20 ∧ n ≤ 10 ∧ ∀ (H' : Hp) (t : Addr), Same H H' → RowAt K H' t (mrk row i n) → H t = none → Q (.ref t) H'
theorem okMarked {fMarked : Addr} {fdMarked : FuncData} (F : Fun K "marked" "marked" sMarked fMarked fdMarked) (T : Txt mg) {aZERO : Addr} {aONE : Addr} (CT : Cons K mg aZERO aONE) {CPartError CNought : Addr} (EX : Exns K mg CPartError CNought) :
    FnOk P w K mg base CX0 1 fMarked fdMarked ["row", "at", "many"] (spMarked K) := by
  refine F.ok scMarked (fun vs H Q E h => ?_) (fun cdv A outer s H vs Q E hr h => ?_)
  · obtain ⟨u, i, n, row, rfl, ⟨ws, h1, h2, h3⟩, h20, hn, k⟩ := h
    rfl
  · obtain ⟨u, i, n, row, rfl, ⟨ws, h1, h2, h3⟩, h20, hn, k⟩ := h
    refine ⟨_, (pss_one (ps_ret (pe_op op_cat (pe_callTy call_list_of (by rfl) T.list (by decide +kernel) (pa_cons (pv 0) pa_nil)) (pe_lc (own := [("k", 3)]) (by rfl) scMarked.nd (pi_range1 rfl T.range (pa_cons (pv 2) pa_nil)) (blkOk_by (own := [("k", 3)]) (N := ["row", "at", "many", "k"]) (sc := defScope sMarked) (by decide +kernel)) (fun _ _ _ _ _ => (pg_name (i := 3) scMarked.nd rfl (Or.inl rfl))) (fun _ _ _ _ _ => pts_nil) (fun _ _ _ _ _ => (pe_ifExp (pt_cmpR op_eq (pv 3) (pv 1) (nomark _)) (pe_glob (v := .ref aONE) (by rfl) CT.gONE rfl) (pe_glob (v := .ref aZERO) (by rfl) CT.gZERO rfl))))))), ?_⟩
    have lw : ws.length = row.length := by rw [← h3, List.length_map]
    refine ⟨_, rfl, u, _, rfl, .inl (SqL.of h1), fun p np => ?_⟩
    have sp := same_upd (o := .lst (fr ws)) np
    have ep : (upd H p (.lst (fr ws))) p = some (.lst (fr ws)) := upd_same
    generalize upd H p (.lst (fr ws)) = H1 at sp ep ⊢
    refine ⟨_, rfl, n, rfl, by omega, by omega, fun D hD => ?_⟩
    refine lc_row (K := K) walk_range ((List.range n).map fun k => if k = i then (1 : Rat) else 0) (by simp) (by omega) hD (fun _ _ => trivial) ?_ ?_
    · rintro j c v H2 H3 kk hr s2 ⟨rfl, rfl⟩ kk2
      have hj : j < n := by
        have := (List.getElem?_eq_some_iff.mp hr).1
        rw [List.length_map, List.length_range] at this
        exact this
      rw [List.getElem?_map, List.getElem?_range hj] at hr
      obtain rfl : (if j = i then (1 : Rat) else 0) = c := Option.some.inj hr
      refine ⟨rfl, _, rfl, _, rfl, rfl, _, rfl, ite2 (fun g => ?_) (fun g => ?_)⟩
      · have e := eq_of_dec g
        exact kk2 aONE _ (Same.refl _) (by rw [if_pos (by omega)]; exact CT.tONE _)
      · have e := ne_of_nodec g
        exact kk2 aZERO _ (Same.refl _) (by rw [if_neg (by omega)]; exact CT.tZERO _)
    · intro H2 us s2 e2 r2 m2
      have lu : us.length = n := by
        have := congrArg List.length m2
        rw [List.length_map, List.length_map, List.length_range] at this
        exact this
      refine ⟨p, D, fr ws, fr us, rfl, rfl, s2 _ _ ep, e2, by rw [fr_len, fr_len]; exact Nat.le_of_lt (small1000 (by omega)), fun t nt => ?_⟩
      have st := same_upd (o := .lst (fr ws ++ fr us)) nt
      have s3 := sp.trans (s2.trans st)
      refine k _ t s3 ⟨ws ++ us, ?_, ?_, ?_⟩ (none_back (sp.trans s2) nt)
      · rw [show fr (ws ++ us) = fr ws ++ fr us from List.map_append]
        exact upd_same
      · intro w hw
        rcases List.mem_append.mp hw with h | h
        · exact (h2 w h).same s3
        · exact (r2 w h).same st
      · rw [List.map_append, h3, m2]
        rfl
def spLeadOf (K : PySem.W.Frag) : Sp := fun vs H Q _ => ∃ (u : Addr) (m : Nat) (row : List Rat), vs = [.ref u, .int m] ∧ RowAt K H u row ∧ m ≤ row.length ∧ row.length ≤ 20 ∧ (∀ a : Nat, a < m → row.getD a 0 ≠ 0 → (∀ k < a, row.getD k 0 = 0) → Q (.int a) H) ∧ ((∀ k < m, row.getD k 0 = 0) → Q .non H)
theorem okLeadOf {fLeadOf : Addr} {fdLeadOf : FuncData} (F : Fun K "lead_of" "lead_of" sLeadOf fLeadOf fdLeadOf) (T : Txt mg) {aZERO : Addr} {aONE : Addr} (CT : Cons K mg aZERO aONE) {CPartError CNought : Addr} (EX : Exns K mg CPartError CNought) :
    FnOk P w K mg base CX0 1 fLeadOf fdLeadOf ["row", "many"] (spLeadOf K) := by
  refine F.ok scLeadOf (fun vs H Q E h => ?_) (fun cdv A outer s H vs Q E hr h => ?_)
  · obtain ⟨u, m, row, rfl, ⟨ws, h1, h2, h3⟩, hm, h20, k1, k2⟩ := h
    rfl
  · obtain ⟨u, m, row, rfl, ⟨ws, h1, h2, h3⟩, hm, h20, k1, k2⟩ := h
    refine ⟨_, (C8.pss_cut (ps_for PassesOwn.never rfl (pi_range1 rfl T.range (pa_cons (pv 1) pa_nil)) (pg_name (i := 2) scLeadOf.nd rfl (Or.inl rfl))
        (pss_one (ps_if (pt_cmpR (op_neD hr.units) (pe_ix ix_list (pv 0) (pv 2) (fun _ _ => rfl)) (pe_glob (v := .ref aZERO) (by rfl) CT.gZERO rfl) (nomark _))
          (pss_one (ps_ret (pv 2)))
          pss_nil)))
      (pss_one (ps_ret pe_non))), ?_⟩
    refine ⟨fun σ' H' => H' = H ∧ ∀ k < m, row.getD k 0 = 0, ?_, ?_⟩
    · refine ⟨_, rfl, m, rfl, by omega, by omega, for_range (n := m) (fun i σ' H' => H' = H ∧ (∃ v2, σ' = [some (.ref u), some (.int (m : Nat)), v2]) ∧ ∀ k < i, row.getD k 0 = 0) ⟨rfl, ⟨_, rfl⟩, fun k hk => absurd hk (Nat.not_lt_zero k)⟩ ?_ ?_⟩
      · rintro i σ' H' hi ⟨rfl, ⟨v2, rfl⟩, hz⟩
        obtain ⟨a, a1, a2, a3⟩ := RowAt.get (K := K) h2 h3 (show i < row.length by omega)
        refine ⟨_, rfl, _, rfl, u, _, _, V.ref a, rfl, rfl, SqL.of h1, by rw [show (0 : Int) + (i : Int) = (i : Int) by omega]; exact atI_nat a1, ?_⟩
        refine ⟨_, _, dpr a2, dpr (show Fx K H' aZERO 0 from CT.tZERO H'), sh1 _, sh1 _, ?_⟩
        rw [eqvr]
        refine ⟨_, rfl, ?_⟩
        by_cases h0 : row.getD i 0 = 0
        · refine iteF' (by rw [decide_eq_true h0]; rfl) ?_
          refine ⟨rfl, ⟨_, rfl⟩, fun k hk => ?_⟩
          rcases Nat.lt_or_ge k i with g | g
          · exact hz k g
          · rw [show k = i by omega]
            exact h0
        · refine iteT' (by rw [decide_eq_false h0]; rfl) ?_
          have := k1 i hi h0 hz
          refine ⟨_, rfl, ?_⟩
          rw [show (0 : Int) + (i : Int) = (i : Int) by omega]
          exact this
      · rintro σ' H' ⟨rfl, _, hz⟩
        exact ⟨rfl, hz⟩
    rintro σ' H' ⟨rfl, hz⟩
    exact k2 hz
def RowsAt (K : PySem.W.Frag) (H : Hp) (l : Addr) (G : List (List Rat)) : Prop := ∃ gs : List (Addr × List Rat), SqL K H l (Ro gs) ∧ (∀ w ∈ gs, RowAt K H w.1 w.2) ∧ gs.map (·.2) = G
def spSettleRows (K : PySem.W.Frag) : Sp := fun vs H Q _ => ∃ (l : Addr) (m : Nat) (G : List (List Rat)), vs = [.ref l, .int m] ∧ RowsAt K H l G ∧ (∀ g ∈ G, g.length = m + 1 ∧ Gs m g) ∧ m ≤ 5 ∧ G.length ≤ 7 ∧
  (∀ (H' : Hp) (t u : Addr) (kept : List (Nat × List Rat)), Same H H' → SI m (m + 1 + G.length) G kept → SqT K H' t [.str "kept", .ref u] → Q (.ref t) H') ∧
  ∀ (H' : Hp) (t u : Addr) (i : Nat) (μ : Nat → Rat), Same H H' → Cft m G i μ → SqT K H' t [.str "conflict", .ref u] → H' u = some (.lst ((toldL G.length μ).map fun k => V.int (k : Nat))) → Q (.ref t) H'
theorem okSettleRows {fSettleRows : Addr} {fdSettleRows : FuncData} (F : Fun K "settle_rows" "settle_rows" sSettleRows fSettleRows fdSettleRows) (T : Txt mg) {aZERO : Addr} {aONE : Addr} (CT : Cons K mg aZERO aONE) {CPartError CNought : Addr} (EX : Exns K mg CPartError CNought)
    {fMarked : Addr} {fdMarked : FuncData} (GMarked : FnOk P w K mg base CX0 1 fMarked fdMarked ["row", "at", "many"] (spMarked K)) (gMarked : mg "marked" = some (.ref fMarked)) (kpMarked : PySem.W.keepIn K (.ref fMarked) = true) (bMarked : Binds K fdMarked ["row", "at", "many"] [])
    {fLeadOf : Addr} {fdLeadOf : FuncData} (GLeadOf : FnOk P w K mg base CX0 1 fLeadOf fdLeadOf ["row", "many"] (spLeadOf K)) (gLeadOf : mg "lead_of" = some (.ref fLeadOf)) (kpLeadOf : PySem.W.keepIn K (.ref fLeadOf) = true) (bLeadOf : Binds K fdLeadOf ["row", "many"] [])
    {fCleared : Addr} {fdCleared : FuncData} (GCleared : FnOk P w K mg base CX0 3 fCleared fdCleared ["row", "at", "base"] (spCleared K)) (gCleared : mg "cleared" = some (.ref fCleared)) (kpCleared : PySem.W.keepIn K (.ref fCleared) = true) (bCleared : Binds K fdCleared ["row", "at", "base"] [])
    {fOver : Addr} {fdOver : FuncData} (GOver : FnOk P w K mg base CX0 2 fOver fdOver ["a", "b"] (spOver K)) (gOver : mg "over" = some (.ref fOver)) (kpOver : PySem.W.keepIn K (.ref fOver) = true) (bOver : Binds K fdOver ["a", "b"] []) :
    FnOk P w K mg base CX0 4 fSettleRows fdSettleRows ["rows", "many"] (spSettleRows K) := by
  refine F.ok scSettleRows (fun vs H Q E h => ?_) (fun cdv A outer s H vs Q E hr h => ?_)
  · obtain ⟨l, m, G, rfl, ⟨gs, h1, h2, h3⟩, hG, hm, h7, k1, k2⟩ := h
    rfl
  · obtain ⟨l, m, G, rfl, ⟨gs, h1, h2, h3⟩, hG, hm, h7, k1, k2⟩ := h
    refine ⟨_, (pss_cons (ps_set (i := 2) scSettleRows.nd rfl (Or.inl rfl) (pe_lst pa_nil))
      (C8.pss_cut (ps_for PassesOwn.never rfl (pi_enum (by rfl) T.enumerate (pa_cons (pv 0) pa_nil)) (pg_tup rfl (pgs_cons (pg_name (i := 3) scSettleRows.nd rfl (Or.inl rfl)) (pgs_cons (pg_name (i := 4) scSettleRows.nd rfl (Or.inl rfl)) pgs_nil)))
        (pss_cons (ps_set (i := 5) scSettleRows.nd rfl (Or.inr rfl) (pe_call GMarked (hr.mono (by decide)) (by rfl) gMarked kpMarked bMarked .nil pass0 (pa_cons (pv 4) (pa_cons (pv 3) (pa_cons (pe_callB (show CallR _ (Value.builtin "len") (rLenS K) from call_len_seq) (by rfl) T.len PySem.boot_len (pa_cons (pv 0) pa_nil)) pa_nil)))))
        (C8.pss_cut (ps_for PassesOwn.never rfl (pi_list (pv 2)) (pg_tup rfl (pgs_cons (pg_name (i := 6) scSettleRows.nd rfl (Or.inl rfl)) (pgs_cons (pg_name (i := 7) scSettleRows.nd rfl (Or.inl rfl)) pgs_nil)))
          (pss_one (ps_set (i := 5) scSettleRows.nd rfl (Or.inr rfl) (pe_call GCleared hr (by rfl) gCleared kpCleared bCleared .nil pass0 (pa_cons (pv 5) (pa_cons (pv 6) (pa_cons (pv 7) pa_nil)))))))
        (pss_cons (ps_set (i := 8) scSettleRows.nd rfl (Or.inr rfl) (pe_call GLeadOf (hr.mono (by decide)) (by rfl) gLeadOf kpLeadOf bLeadOf .nil pass0 (pa_cons (pv 5) (pa_cons (pv 1) pa_nil))))
        (pss_one (ps_if (pt_cmpR op_notN (pv 8) pe_non (nomark _))
          (pss_cons (ps_set (i := 9) scSettleRows.nd rfl (Or.inr rfl) (pe_ix ix_list (pv 5) (pv 8) (fun _ _ => rfl)))
          (pss_cons (ps_set (i := 5) scSettleRows.nd rfl (Or.inr rfl) (pe_lc (own := [("part", 11)]) (by rfl) scSettleRows.nd (pi_list (pv 5)) (blkOk_by (own := [("part", 11)]) (N := ["rows", "many", "kept", "place", "given", "row", "lead", "base", "at", "first", "marks", "part", "k", "mark"]) (sc := defScope sSettleRows) (by decide +kernel)) (fun _ _ _ _ _ => (pg_name (i := 11) scSettleRows.nd rfl (Or.inl rfl))) (fun _ _ _ _ _ => pts_nil) (fun _ _ _ _ _ => (pe_call GOver (hr.mono (by decide)) (by rfl) gOver kpOver bOver .nil pass0 (pa_cons (pv 11) (pa_cons (pv 9) pa_nil))))))
          (pss_one (ps_set (i := 2) scSettleRows.nd rfl (Or.inl rfl) (pe_op op_cat (pe_lc (own := [("lead", 6), ("base", 7)]) (by rfl) scSettleRows.nd (pi_list (pv 2)) (blkOk_by (own := [("lead", 6), ("base", 7)]) (N := ["rows", "many", "kept", "place", "given", "row", "lead", "base", "at", "first", "marks", "part", "k", "mark"]) (sc := defScope sSettleRows) (by decide +kernel)) (fun _ _ _ _ _ => (show PG _ _ (gTup K 2 _) from (pg_tup rfl (pgs_cons (pg_name (i := 6) scSettleRows.nd rfl (Or.inl rfl)) (pgs_cons (pg_name (i := 7) scSettleRows.nd rfl (Or.inl rfl)) pgs_nil))))) (fun _ _ _ _ _ => pts_nil) (fun _ _ _ _ _ => (pe_tup (pa_cons (pv 6) (pa_cons (pe_call GCleared hr (by rfl) gCleared kpCleared bCleared .nil pass0 (pa_cons (pv 7) (pa_cons (pv 8) (pa_cons (pv 5) pa_nil)))) pa_nil))))) (pe_lst (pa_cons (pe_tup (pa_cons (pv 8) (pa_cons (pv 5) pa_nil))) pa_nil)))))))
          (pss_one (ps_if (pt_val (pe_callB (cr_any rfl) (by rfl) T.any (by decide +kernel) (pa_cons (pe_lc (own := [("part", 11)]) (by rfl) scSettleRows.nd (pi_list (pe_slice (show SlR _ (rSlL K) from sl_list) (pv 5) (po_some (pv 1)) (po_some (pe_callB (show CallR _ (Value.builtin "len") (rLenS K) from call_len_seq) (by rfl) T.len PySem.boot_len (pa_cons (pv 4) pa_nil))))) (blkOk_by (own := [("part", 11)]) (N := ["rows", "many", "kept", "place", "given", "row", "lead", "base", "at", "first", "marks", "part", "k", "mark"]) (sc := defScope sSettleRows) (by decide +kernel)) (fun _ _ _ _ _ => (pg_name (i := 11) scSettleRows.nd rfl (Or.inl rfl))) (fun _ _ _ _ _ => pts_nil) (fun _ _ _ _ _ => (pe_cmpR (show OpR _ _ (rNeD K) from op_neD hr.units) (pv 11) (pe_glob (v := .ref aZERO) (by rfl) CT.gZERO rfl) (nomark _)))) pa_nil)))
            (pss_cons (ps_set (i := 10) scSettleRows.nd rfl (Or.inl rfl) (pe_slice (show SlR _ (rSlL K) from sl_list) (pv 5) (po_some (pe_callB (show CallR _ (Value.builtin "len") (rLenS K) from call_len_seq) (by rfl) T.len PySem.boot_len (pa_cons (pv 4) pa_nil))) po_none))
            (pss_one (ps_ret (pe_tup (pa_cons pe_str (pa_cons (pe_lc (own := [("k", 12), ("mark", 13)]) (by rfl) scSettleRows.nd (pi_enum (by rfl) T.enumerate (pa_cons (pv 10) pa_nil)) (blkOk_by (own := [("k", 12), ("mark", 13)]) (N := ["rows", "many", "kept", "place", "given", "row", "lead", "base", "at", "first", "marks", "part", "k", "mark"]) (sc := defScope sSettleRows) (by decide +kernel)) (fun _ _ _ _ _ => (show PG _ _ (gTup K 2 _) from (pg_tup rfl (pgs_cons (pg_name (i := 12) scSettleRows.nd rfl (Or.inl rfl)) (pgs_cons (pg_name (i := 13) scSettleRows.nd rfl (Or.inl rfl)) pgs_nil))))) (fun _ _ _ _ _ => pts_one (pt_cmpR (show OpR _ _ (rNeD K) from op_neD hr.units) (pv 13) (pe_glob (v := .ref aZERO) (by rfl) CT.gZERO rfl) (nomark _))) (fun _ _ _ _ _ => (pv 12))) pa_nil))))))
            pss_nil))))))))
      (pss_one (ps_ret (pe_tup (pa_cons pe_str (pa_cons (pe_lc (own := [("lead", 6), ("row", 5)]) (by rfl) scSettleRows.nd (pi_list (pv 2)) (blkOk_by (own := [("lead", 6), ("row", 5)]) (N := ["rows", "many", "kept", "place", "given", "row", "lead", "base", "at", "first", "marks", "part", "k", "mark"]) (sc := defScope sSettleRows) (by decide +kernel)) (fun _ _ _ _ _ => (show PG _ _ (gTup K 2 _) from (pg_tup rfl (pgs_cons (pg_name (i := 6) scSettleRows.nd rfl (Or.inl rfl)) (pgs_cons (pg_name (i := 5) scSettleRows.nd rfl (Or.inl rfl)) pgs_nil))))) (fun _ _ _ _ _ => pts_nil) (fun _ _ _ _ _ => (pe_tup (pa_cons (pv 6) (pa_cons (pe_slice (show SlR _ (rSlL K) from sl_list) (pv 5) po_none (po_some (pe_op op_sub (pe_callB (show CallR _ (Value.builtin "len") (rLenS K) from call_len_seq) (by rfl) T.len PySem.boot_len (pa_cons (pv 5) pa_nil)) (pe_callB (show CallR _ (Value.builtin "len") (rLenS K) from call_len_seq) (by rfl) T.len PySem.boot_len (pa_cons (pv 0) pa_nil))))) pa_nil))))) pa_nil))))))), ?_⟩
    have lg : gs.length = G.length := by rw [← h3, List.length_map]
    obtain ⟨W, hW⟩ : ∃ W, W = m + 1 + G.length := ⟨_, rfl⟩
    rw [← hW] at k1
    refine ⟨by show 0 ≤ sizeLine; decide, fun kp0 nk0 => ?_⟩
    have sk0 := same_upd (o := .lst []) nk0
    have ek0 : (upd H kp0 (.lst [])) kp0 = some (.lst []) := upd_same
    generalize upd H kp0 (.lst []) = H0 at sk0 ek0 ⊢
    refine ⟨fun σ' H' => ∃ (kp : Addr) (kept : List (Nat × List Rat)) (v3 v4 v5 v6 v7 v8 v9 v10 : Option V), σ' = [some (.ref l), some (.int (m : Nat)), some (.ref kp), v3, v4, v5, v6, v7, v8, v9, v10, none, none, none] ∧ Same H H' ∧ SI m W G kept ∧ KeptAt K H' kp kept, ?_, ?_⟩
    · refine ⟨_, rfl, l, _, rfl, sk0.seq h1, for_it (walk_enum (K := K) (a := l) (xs := Ro gs)) (fun i σ' H' => ∃ (kp : Addr) (kept : List (Nat × List Rat)) (v3 v4 v5 v6 v7 v8 v9 v10 : Option V), σ' = [some (.ref l), some (.int (m : Nat)), some (.ref kp), v3, v4, v5, v6, v7, v8, v9, v10, none, none, none] ∧ Same H H' ∧ SI m W (G.take i) kept ∧ KeptAt K H' kp kept ∧ MI m G.length G i kept) ⟨kp0, [], _, _, _, _, _, _, _, _, rfl, sk0, SI.start, ⟨[], SqL.of ek0, (fun _ h => nomatch h), rfl⟩, MI.start⟩ ?_ ?_ ?_⟩
      · rintro i σ' H' _ ⟨kp, kept, v3, v4, v5, v6, v7, v8, v9, v10, rfl, s1, _, _, _⟩
        exact s1.seq h1
      · rintro i v σ' H1 H2 hi ⟨kp, kept, v3, v4, v5, v6, v7, v8, v9, v10, rfl, s1, hSI, hK, hMI⟩ ⟨T, x, y, rfl, hT, rfl, hx, hy⟩
        obtain rfl : V.int (i : Nat) = x := Option.some.inj hx
        obtain ⟨w, rfl, hw⟩ := Ro_get hy
        have hgi : G[i]? = some w.2 := map_at h3 hw
        have hiG : i < G.length := (List.getElem?_eq_some_iff.mp hgi).1
        obtain ⟨g1, g2⟩ := hG _ (List.mem_of_getElem? hgi)
        have hw1 := h2 w (List.mem_of_getElem? hw)
        obtain ⟨wa, g⟩ := w
        dsimp only at hgi g1 g2 hw1 ⊢
        have htake : G.take (i + 1) = G.take i ++ [g] := by
          rw [List.take_add_one, hgi]
          rfl
        have hk6 : kept.length ≤ 6 := Nat.le_trans hSI.ki.few (by omega)
        obtain ⟨bb1, bb2⟩ := hSI.bits (i := i) (n := G.length) g1 hW.symm g2 hk6
        obtain ⟨l1, _, n1⟩ := hSI.row (i := i) (n := G.length) g1 hW.symm
        have lm : (mrk g i G.length).length = W := by
          unfold mrk
          rw [List.length_append, List.length_map, List.length_range]
          omega
        have sT := same_upd (o := .tup [.int (i : Nat), .ref wa]) hT
        have eT : (upd H1 T (.tup [.int (i : Nat), .ref wa])) T = some (.tup [.int (i : Nat), .ref wa]) := upd_same
        generalize upd H1 T (.tup [.int (i : Nat), .ref wa]) = H2 at sT eT ⊢
        have s2 := s1.trans sT
        refine ⟨_, _, rfl, SqT.of eT, rfl, _, _, rfl, _, _, rfl, rfl, ?_⟩
        refine ⟨_, rfl, _, rfl, _, rfl, l, _, rfl, .inl (s2.seq h1), wa, i, G.length, g, by rw [Ro_len, lg]; rfl, hw1.up s2, by omega, by omega, fun H3 r0 s3 hr0 _ => ?_⟩
        have hK3 := hK.up (sT.trans s3)
        obtain ⟨ks, q1, q2, q3⟩ := hK3
        have lk : ks.length = kept.length := by rw [← q3, List.length_map]
        refine ⟨fun σ' H' => ∃ (r : Addr) (v6 v7 : Option V), σ' = [some (.ref l), some (.int (m : Nat)), some (.ref kp), some (.int (i : Nat)), some (.ref wa), some (.ref r), v6, v7, v8, v9, v10, none, none, none] ∧ Same H3 H' ∧ RowAt K H' r (red kept (mrk g i G.length)), ?_, ?_⟩
        · refine ⟨_, rfl, kp, rfl, ⟨_, q1⟩, for_list (K := K) (a := kp) (xs := Ro ks) (fun j σ' H' => ∃ (r : Addr) (v6 v7 : Option V), σ' = [some (.ref l), some (.int (m : Nat)), some (.ref kp), some (.int (i : Nat)), some (.ref wa), some (.ref r), v6, v7, v8, v9, v10, none, none, none] ∧ Same H3 H' ∧ RowAt K H' r (red (kept.take j) (mrk g i G.length))) ⟨r0, _, _, rfl, Same.refl _, hr0⟩ ?_ ?_ ?_⟩
          · rintro j σ' H' _ ⟨r, v6, v7, rfl, s4, _⟩
            exact s4.seq q1
          · rintro j v σ' H4 hj ⟨r, v6, v7, rfl, s4, hr⟩
            obtain ⟨w2, rfl, hw2⟩ := Ro_get hj
            have hkj : kept[j]? = some w2.2 := map_at q3 hw2
            have hjl : j < kept.length := (List.getElem?_eq_some_iff.mp hkj).1
            have mk2 := List.mem_of_getElem? hkj
            obtain ⟨b, u1, u2⟩ := (q2 w2 (List.mem_of_getElem? hw2)).up s4
            have lr : (red (kept.take j) (mrk g i G.length)).length = W := red_len (fun p hp => hSI.ki.len p (List.mem_of_mem_take hp)) lm
            have lb := hSI.ki.len _ mk2
            have ll := hSI.ki.lt _ mk2
            refine ⟨w2.1, _, rfl, u1, rfl, _, _, rfl, _, _, rfl, rfl, ?_⟩
            refine ⟨_, rfl, _, rfl, _, rfl, r, b, w2.2.1, _, w2.2.2, rfl, hr, u2, by omega, by omega, by omega, bb2 j (by omega), bb1 _ mk2, fun H5 t5 s5 hr5 _ => ?_⟩
            rw [red_snoc hkj]
            exact ⟨t5, _, _, rfl, s4.trans s5, hr5⟩
          · rintro σ' H4 ⟨r, v6, v7, rfl, s4, hr⟩
            rw [Ro_len, lk, List.take_length] at hr
            exact ⟨r, v6, v7, rfl, s4, hr⟩
        rintro σ' H4 ⟨r, v6, v7, rfl, s4, hr⟩
        have bb := bb2 kept.length (Nat.le_refl _)
        rw [List.take_length] at bb
        have s14 := s2.trans (s3.trans s4)
        refine ⟨_, rfl, _, rfl, r, m, _, rfl, hr, by omega, by omega, fun a ha ha0 _ => ?_, fun hz => ?_⟩
        · refine ⟨_, rfl, rfl, _, rfl, iteT' rfl ?_⟩
          have lr := l1
          generalize hrr : red kept (mrk g i G.length) = rr at *
          obtain ⟨ws, w1, w2, w3⟩ := hr
          obtain ⟨fa, fa1, fa2, fa3⟩ := RowAt.get (K := K) w2 w3 (show a < rr.length by omega)
          have bf := bb _ fa3
          refine ⟨_, rfl, _, rfl, r, _, _, V.ref fa, rfl, rfl, SqL.of w1, atI_nat fa1, ?_⟩
          refine ⟨_, rfl, r, rfl, ⟨_, SqL.of w1⟩, fun D hD => ?_⟩
          have lw : ws.length = rr.length := by rw [← w3, List.length_map]
          refine lc_row (K := K) (walk_list (K := K) (a := r) (xs := fr ws)) (rr.map fun x => x / rr.getD a 0) (by rw [List.length_map, fr_len]; omega) (by rw [fr_len]; omega) hD (fun H2 s2 => SqL.of (s2 _ _ w1)) ?_ ?_
          · rintro j c v H5 H6 kk hc s5 ⟨rfl, hg⟩ kk2
            obtain ⟨w', rfl, hw'⟩ := fr_get hg
            rw [← w3, List.getElem?_map, List.getElem?_map, hw', w3] at hc
            obtain rfl : w'.2 / rr.getD a 0 = c := Option.some.inj hc
            have m1 : w' ∈ ws := List.mem_of_getElem? hw'
            have bw : Bd 1000 w'.2 := bb _ (by rw [← w3]; exact List.mem_map_of_mem m1)
            exact ⟨rfl, _, rfl, _, rfl, w'.1, fa, w'.2, rr.getD a 0, rfl, (w2 w' m1).same s5, fa2.same s5, bw.up (by decide), bf.up (by decide), ha0, fun H7 t7 s7 f7 => kk2 t7 H7 s7 f7⟩
          intro H5 us s5 e5 r5 m5
          have hrow2 : RowAt K H5 D (rr.map fun x => x / rr.getD a 0) := ⟨us, e5, r5, m5⟩
          have hSI2 := hSI.plus (i := i) (n := G.length) g1 hW.symm g2 hk6 ha (by rw [hrr]; exact ha0)
          have hMI2 := hMI.plus (n := G.length) hSI hW.symm g1 hgi hiG ha (by rw [hrr]; exact ha0)
          rw [hrr] at hMI2
          rw [hrr, ← htake] at hSI2
          clear hrr
          have l2 : (rr.map fun x => x / rr.getD a 0).length = W := by rw [List.length_map]; exact lr
          generalize (rr.map fun x => x / rr.getD a 0) = r2 at hrow2 hSI2 l2 hMI2
          have kl : (kplus kept a r2).length = kept.length + 1 := by
            unfold kplus
            rw [List.length_append, List.length_map]
            rfl
          have kf := hSI2.ki.few
          have br2 : ∀ x ∈ r2, Bd 1000 x := fun x hx => (hSI2.jb.bd (p := (a, r2)) (List.mem_append_right _ List.mem_cons_self) x hx).up (Nat.le_trans (jb_le (by omega)) (by decide))
          have q1' := s5.seq (s4.seq q1)
          refine ⟨_, rfl, kp, rfl, ⟨_, q1'⟩, fun D2 hD2 => ?_⟩
          refine lc_relD (walk_list (K := K) (a := kp) (xs := Ro ks)) (kept.map fun p => (p.1, clr a r2 p.2)) (by rw [List.length_map, Ro_len, lk]) (by rw [Ro_len]; omega) hD2 (PairAt K D2) (fun s h => h.up s) (fun h hl s => h.over hl s) (fun H2 s2 => s2.seq q1') ?_ ?_
          · rintro j c v H6 H7 kk hc s6 ⟨ys, hys⟩ ⟨rfl, hg⟩ kk2
            obtain ⟨w2, rfl, hw2⟩ := Ro_get hg
            have hkj : kept[j]? = some w2.2 := map_at q3 hw2
            have mk2 := List.mem_of_getElem? hkj
            rw [List.getElem?_map, hkj] at hc
            obtain rfl : (w2.2.1, clr a r2 w2.2.2) = c := Option.some.inj hc
            have hb5 := (q2 w2 (List.mem_of_getElem? hw2)).up (s4.trans s5)
            obtain ⟨b, u1, u2⟩ := hb5
            have lb := hSI.ki.len _ mk2
            refine ⟨w2.1, _, rfl, same_tup s6 u1, rfl, _, _, rfl, _, _, rfl, rfl, rfl, ?_⟩
            refine ⟨_, rfl, _, rfl, _, rfl, _, rfl, b, D, a, w2.2.2, r2, rfl, u2.up s6, hrow2.up s6, by omega, by omega, by omega, bb1 _ mk2, br2, fun H8 t8 s8 hr8 ho => ?_⟩
            refine ⟨by show 2 ≤ sizeLine; decide, fun t9 n9 => ?_⟩
            have s9 := same_upd (o := .tup [.int (w2.2.1 : Int), .ref t8]) n9
            refine kk2 t9 _ (s8.trans s9) ⟨t8, ?_, SqT.of upd_same, hr8.up s9⟩
            rcases ho with rfl | ho
            · exact u2.ne hD2
            · intro e
              rw [e, hys] at ho
              cases ho
          intro H6 ks2 s6 e6 r6 m6
          refine ⟨_, rfl, _, rfl, by show 2 ≤ sizeLine; decide, fun t7 n7 => ?_⟩
          have s7 := same_upd (o := .tup [.int (a : Int), .ref D]) n7
          have e7 : (upd H6 t7 (.tup [.int (a : Int), .ref D])) t7 = some (.tup [.int (a : Int), .ref D]) := upd_same
          generalize upd H6 t7 (.tup [.int (a : Int), .ref D]) = H7 at s7 e7 ⊢
          refine ⟨by show 1 ≤ sizeLine; decide, fun L8 n8 => ?_⟩
          have s8 := same_upd (o := .lst [.ref t7]) n8
          have e8 : (upd H7 L8 (.lst [.ref t7])) L8 = some (.lst [.ref t7]) := upd_same
          generalize upd H7 L8 (.lst [.ref t7]) = H8 at s8 e8 ⊢
          have lk2 : ks2.length = kept.length := by
            have := congrArg List.length m6
            rw [List.length_map, List.length_map] at this
            exact this
          refine ⟨D2, L8, Ro ks2, [.ref t7], rfl, rfl, s8 _ _ (s7 _ _ e6), e8, by rw [Ro_len]; exact Nat.le_of_lt (small1000 (by show _ + 1 ≤ 1000; omega)), fun P9 n9 => ?_⟩
          have s9 := same_upd (o := .lst (Ro ks2 ++ [.ref t7])) n9
          have s69 := s7.trans (s8.trans s9)
          refine ⟨P9, kplus kept a r2, _, _, _, _, _, _, _, _, rfl, s14.trans (s5.trans (s6.trans s69)), hSI2, ⟨ks2 ++ [(t7, (a, r2))], ?_, ?_, ?_⟩, hMI2⟩
          · rw [show Ro (ks2 ++ [(t7, (a, r2))]) = Ro ks2 ++ [.ref t7] from List.map_append]
            exact SqL.of upd_same
          · intro w hw
            rcases List.mem_append.mp hw with h | h
            · exact (r6 w h).any.up s69
            · rw [List.mem_singleton.mp h]
              exact ⟨D, same_tup (s8.trans s9) (SqT.of e7), hrow2.up (s6.trans s69)⟩
          · rw [List.map_append, m6]
            rfl
        · refine ⟨_, rfl, rfl, _, rfl, iteF' rfl ?_⟩
          obtain ⟨ws, w1, w2, w3⟩ := hr
          have lw : ws.length = W := by rw [← l1, ← w3, List.length_map]
          obtain ⟨ga, gw1, gw2, gw3⟩ := hw1.up s14
          have lga : ga.length = m + 1 := by rw [← g1, ← gw3, List.length_map]
          have hm1 : m < ws.length := by omega
          refine ⟨_, rfl, _, rfl, _, rfl, _, rfl, wa, _, rfl, .inl (SqL.of gw1), ?_⟩
          refine ⟨_, rfl, r, fr ws, rfl, SqL.of w1, fun p5 n5 => ?_⟩
          have ecut : cutV (fr ws) (some ((m : Nat) : Int)) (some ((fr ga).length : Int)) = fr ((ws.drop m).take 1) := by
            rw [fr_len, lga, cutV_part (by rw [fr_len]; omega), fr_take, fr_drop]
          rw [ecut]
          have hws1 : (ws.drop m).take 1 = [ws[m]] := by
            rw [List.drop_eq_getElem_cons hm1]
            rfl
          rw [hws1]
          have hv0 : (red kept (mrk g i G.length)).getD m 0 = ws[m].2 := by
            rw [← w3, List.getD_eq_getElem?_getD, List.getElem?_map, List.getElem?_eq_getElem hm1]
            rfl
          have s5 := same_upd (o := .lst (fr [ws[m]])) n5
          have e5 : (upd H4 p5 (.lst (fr [ws[m]]))) p5 = some (.lst (fr [ws[m]])) := upd_same
          generalize upd H4 p5 (.lst (fr [ws[m]])) = H5 at s5 e5 ⊢
          refine ⟨p5, rfl, ⟨_, SqL.of e5⟩, fun D hD => ?_⟩
          refine lc_val (walk_list (K := K) (a := p5) (xs := fr [ws[m]])) [V.bl (!decide (ws[m].2 = 0))] rfl (by show 1 ≤ 1000; decide) hD (fun H2 s2 => SqL.of (s2 _ _ e5)) ?_ ?_
          · rintro j c v H6 H7 kk hc s6 ⟨rfl, hg⟩ kk2
            obtain ⟨w', rfl, hw'⟩ := fr_get hg
            have hj0 : j = 0 := by
              have := (List.getElem?_eq_some_iff.mp hw').1
              simp at this
              exact this
            subst hj0
            obtain rfl : ws[m] = w' := Option.some.inj hw'
            obtain rfl : V.bl (!decide (ws[m].2 = 0)) = c := Option.some.inj hc
            refine ⟨rfl, _, rfl, _, _, dpr ((w2 _ (List.getElem_mem hm1)).same (s5.trans s6)), dpr (show Fx K H7 aZERO 0 from CT.tZERO H7), sh1 _, sh1 _, ?_⟩
            rw [eqvr]
            exact kk2 _ (Same.refl _)
          intro H6 s6 e6
          have s16 := s14.trans (s5.trans s6)
          refine ⟨D, [!decide (ws[m].2 = 0)], rfl, SqL.of e6, _, rfl, ?_⟩
          by_cases hb0 : ws[m].2 = 0
          · refine iteF' (by rw [decide_eq_true hb0]; rfl) ?_
            have hSI2 := hSI.drop (i := i) (n := G.length) g1 hW.symm (fun k hk => by
              rcases Nat.lt_or_ge k m with g | g
              · exact hz k g
              · rw [show k = m by omega, hv0]
                exact hb0)
            rw [← htake] at hSI2
            exact ⟨kp, kept, _, _, _, _, _, _, _, _, rfl, s16, hSI2, hK.up (sT.trans (s3.trans (s4.trans (s5.trans s6)))), hMI.up⟩
          · refine iteT' (by rw [decide_eq_false hb0]; rfl) ?_
            have hC := hMI.conflict (n := G.length) hSI hW.symm rfl g1 hgi hz (by rw [hv0]; exact hb0)
            obtain ⟨μ, hμ⟩ : ∃ μ : Nat → Rat, μ = fun k => (red kept (mrk g i G.length)).getD (m + 1 + k) 0 := ⟨_, rfl⟩
            rw [← hμ] at hC
            have s46 := s5.trans s6
            refine ⟨_, rfl, _, rfl, wa, _, rfl, .inl (SqL.of (s46 _ _ gw1)), ?_⟩
            refine ⟨_, rfl, r, fr ws, rfl, SqL.of (s46 _ _ w1), fun p7 n7 => ?_⟩
            have ecut7 : cutV (fr ws) (some ((fr ga).length : Int)) none = fr (ws.drop (m + 1)) := by
              rw [fr_len, lga, cutV_from (by rw [fr_len]; omega), fr_drop]
            rw [ecut7]
            have s7 := same_upd (o := .lst (fr (ws.drop (m + 1)))) n7
            have e7 : (upd H6 p7 (.lst (fr (ws.drop (m + 1))))) p7 = some (.lst (fr (ws.drop (m + 1)))) := upd_same
            generalize upd H6 p7 (.lst (fr (ws.drop (m + 1)))) = H7 at s7 e7 ⊢
            have s47 := s46.trans s7
            have ldr : (ws.drop (m + 1)).length = G.length := by rw [List.length_drop]; omega
            refine ⟨_, rfl, p7, fr (ws.drop (m + 1)), rfl, SqL.of e7, fun D8 n8 => ?_⟩
            obtain ⟨L, hL⟩ : ∃ L : List (Option V), L = (List.range G.length).map fun k => if μ k = 0 then none else some (V.int ((0 + k : Nat) : Int)) := ⟨_, rfl⟩
            refine lc_vv (walk_enum (K := K) (a := p7) (xs := fr (ws.drop (m + 1)))) L (by rw [hL, List.length_map, List.length_range, fr_len, ldr]) (by rw [fr_len]; omega) n8 (fun H2 s2 => SqL.of (s2 _ _ e7)) ?_ ?_
            · rintro i2 c x H9 H10 kk kn hc s9 ⟨T2, x1, y1, rfl, hT2, rfl, hx2, hy2⟩ hk hkn
              obtain rfl : V.int (i2 : Nat) = x1 := Option.some.inj hx2
              obtain ⟨w', rfl, hw'⟩ := fr_get hy2
              have hi2 : i2 < G.length := by
                have := (List.getElem?_eq_some_iff.mp hw').1
                omega
              have hw3 : ws[m + 1 + i2]? = some w' := by
                rw [List.getElem?_drop] at hw'
                exact hw'
              have hr2 : μ i2 = w'.2 := by
                rw [hμ]
                show (red kept (mrk g i G.length)).getD (m + 1 + i2) 0 = w'.2
                rw [← w3, List.getD_eq_getElem?_getD, List.getElem?_map, hw3]
                rfl
              rw [hL, List.getElem?_map, List.getElem?_range hi2] at hc
              have hc2 : (if μ i2 = 0 then none else some (V.int ((0 + i2 : Nat) : Int))) = c := Option.some.inj hc
              have sT2 := same_upd (o := .tup [.int (i2 : Nat), .ref w'.1]) hT2
              have eT2 : (upd H9 T2 (.tup [.int (i2 : Nat), .ref w'.1])) T2 = some (.tup [.int (i2 : Nat), .ref w'.1]) := upd_same
              generalize upd H9 T2 (.tup [.int (i2 : Nat), .ref w'.1]) = H11 at sT2 eT2 ⊢
              have fw : Fx K H11 w'.1 w'.2 := (w2 _ (List.mem_of_getElem? hw3)).same (s47.trans (s9.trans sT2))
              refine ⟨_, _, rfl, SqT.of eT2, rfl, _, _, rfl, _, _, rfl, rfl, rfl, ?_⟩
              refine ⟨_, rfl, _, _, dpr fw, dpr (show Fx K H11 aZERO 0 from CT.tZERO H11), sh1 _, sh1 _, ?_⟩
              rw [eqvr]
              refine ⟨_, rfl, ?_⟩
              by_cases h0 : w'.2 = 0
              · rw [if_pos (hr2.trans h0)] at hc2
                refine iteF' (by rw [decide_eq_true h0]; rfl) ?_
                exact hkn hc2.symm _ sT2
              · rw [if_neg (fun z => h0 (hr2.symm.trans z)), Nat.zero_add] at hc2
                refine iteT' (by rw [decide_eq_false h0]; rfl) ?_
                exact ⟨_, rfl, hk _ hc2.symm _ sT2⟩
            intro H8 s8 e8
            rw [hL, fm_ints (fun k => μ k = 0) 0] at e8
            refine ⟨by show 2 ≤ sizeLine; decide, fun t9 n9 => ?_⟩
            have s9 := same_upd (o := .tup [.str "conflict", .ref D8]) n9
            refine k2 _ t9 D8 i μ (s14.trans (s47.trans (s8.trans s9))) hC (SqT.of upd_same) ?_
            rw [s9 _ _ e8, List.map_map]
            refine congrArg (fun x => some (HO.lst x)) (List.map_congr_left fun k _ => ?_)
            show V.int ((0 + k : Nat) : Int) = V.int (k : Nat)
            rw [Nat.zero_add]
      · rintro σ' H' ⟨kp, kept, v3, v4, v5, v6, v7, v8, v9, v10, rfl, s1, hSI, hK, _⟩
        rw [Ro_len, lg, List.take_length] at hSI
        exact ⟨kp, kept, _, _, _, _, _, _, _, _, rfl, s1, hSI, hK⟩
    rintro σ' H1 ⟨kp, kept, v3, v4, v5, v6, v7, v8, v9, v10, rfl, s1, hSI, hK⟩
    obtain ⟨ks, q1, q2, q3⟩ := hK
    have lk : ks.length = kept.length := by rw [← q3, List.length_map]
    have kf := hSI.ki.few
    refine ⟨_, rfl, kp, rfl, ⟨_, q1⟩, fun D hD => ?_⟩
    refine lc_relD (walk_list (K := K) (a := kp) (xs := Ro ks)) (kept.map fun p => (p.1, p.2.take (m + 1))) (by rw [List.length_map, Ro_len, lk]) (by rw [Ro_len]; omega) hD (PairAt K D) (fun s h => h.up s) (fun h hl s => h.over hl s) (fun H2 s2 => s2.seq q1) ?_ ?_
    · rintro j c v H6 H7 kk hc s6 ⟨ys, hys⟩ ⟨rfl, hg⟩ kk2
      obtain ⟨w2, rfl, hw2⟩ := Ro_get hg
      have hkj : kept[j]? = some w2.2 := map_at q3 hw2
      have mk2 := List.mem_of_getElem? hkj
      rw [List.getElem?_map, hkj] at hc
      obtain rfl : (w2.2.1, w2.2.2.take (m + 1)) = c := Option.some.inj hc
      have lb := hSI.ki.len _ mk2
      obtain ⟨b, u1, ws, w1, w2', w3⟩ := (q2 w2 (List.mem_of_getElem? hw2)).up s6
      have lw : ws.length = W := by rw [← lb, ← w3, List.length_map]
      refine ⟨w2.1, _, rfl, u1, rfl, _, _, rfl, _, _, rfl, rfl, rfl, ?_⟩
      refine ⟨_, rfl, _, rfl, _, rfl, b, _, rfl, .inl (SqL.of w1), _, rfl, l, _, rfl, .inl (s6.seq (s1.seq h1)), _, _, rfl, rfl, ?_⟩
      refine ⟨_, rfl, b, fr ws, rfl, SqL.of w1, fun t8 n8 => ?_⟩
      have ecut : cutV (fr ws) none (some (((fr ws).length : Int) - ((Ro gs).length : Int))) = fr (ws.take (m + 1)) := by
        rw [fr_len, Ro_len, lw, lg, show ((W : Nat) : Int) - ((G.length : Nat) : Int) = ((m + 1 : Nat) : Int) by omega, cutV_to (by rw [fr_len]; omega), fr_take]
      dsimp only
      rw [ecut]
      have s8 := same_upd (o := .lst (fr (ws.take (m + 1)))) n8
      have e8 : (upd H7 t8 (.lst (fr (ws.take (m + 1))))) t8 = some (.lst (fr (ws.take (m + 1)))) := upd_same
      have hne : t8 ≠ D := fun e => by
        rw [e, hys] at n8
        cases n8
      generalize upd H7 t8 (.lst (fr (ws.take (m + 1)))) = H8 at s8 e8 ⊢
      refine ⟨by show 2 ≤ sizeLine; decide, fun t9 n9 => ?_⟩
      have s9 := same_upd (o := .tup [.int (w2.2.1 : Int), .ref t8]) n9
      exact kk2 t9 _ (s8.trans s9) ⟨t8, hne, SqT.of upd_same, ws.take (m + 1), s9 _ _ e8, fun w hw => (w2' w (List.mem_of_mem_take hw)).same (s8.trans s9), by rw [List.map_take, w3]⟩
    intro H6 ks2 s6 e6 r6 m6
    refine ⟨by show 2 ≤ sizeLine; decide, fun t7 n7 => ?_⟩
    have s7 := same_upd (o := .tup [.str "kept", .ref D]) n7
    exact k1 _ t7 D kept (s1.trans (s6.trans s7)) hSI (SqT.of upd_same)
def spSettle (K : PySem.W.Frag) : Sp := fun vs H Q _ => ∃ (l : Addr) (m : Nat) (es : List (Addr × (List Rat × Rat))), vs = [.ref l, .int m] ∧ SqL K H l (Ro es) ∧ (∀ w ∈ es, EqAt K H w.1 w.2) ∧ (∀ w ∈ es, w.2.1.length = m ∧ Gs m (auE w.2)) ∧ m ≤ 5 ∧ es.length ≤ 7 ∧
  (∀ (H' : Hp) (t u : Addr) (kept : List (Nat × List Rat)), Same H H' → SI m (m + 1 + es.length) ((es.map (·.2)).map auE) kept → SqT K H' t [.str "kept", .ref u] → Q (.ref t) H') ∧
  ∀ (H' : Hp) (t u : Addr) (i : Nat) (μ : Nat → Rat), Same H H' → Cft m ((es.map (·.2)).map auE) i μ → SqT K H' t [.str "conflict", .ref u] → H' u = some (.lst ((toldL es.length μ).map fun k => V.int (k : Nat))) → Q (.ref t) H'
theorem okSettle {fSettle : Addr} {fdSettle : FuncData} (F : Fun K "settle" "settle" sSettle fSettle fdSettle) (T : Txt mg) {aZERO : Addr} {aONE : Addr} (CT : Cons K mg aZERO aONE) {CPartError CNought : Addr} (EX : Exns K mg CPartError CNought)
    {fSettleRows : Addr} {fdSettleRows : FuncData} (GSettleRows : FnOk P w K mg base CX0 4 fSettleRows fdSettleRows ["rows", "many"] (spSettleRows K)) (gSettleRows : mg "settle_rows" = some (.ref fSettleRows)) (kpSettleRows : PySem.W.keepIn K (.ref fSettleRows) = true) (bSettleRows : Binds K fdSettleRows ["rows", "many"] []) :
    FnOk P w K mg base CX0 5 fSettle fdSettle ["rows", "many"] (spSettle K) := by
  refine F.ok scSettle (fun vs H Q E h => ?_) (fun cdv A outer s H vs Q E hr h => ?_)
  · obtain ⟨l, m, es, rfl, h1, h2, h3, hm, h7, k1, k2⟩ := h
    rfl
  · obtain ⟨l, m, es, rfl, h1, h2, h3, hm, h7, k1, k2⟩ := h
    refine ⟨_, (pss_one (ps_ret (pe_call GSettleRows hr (by rfl) gSettleRows kpSettleRows bSettleRows .nil pass0 (pa_cons (pe_lc (own := [("coefficients", 2), ("bound", 3)]) (by rfl) scSettle.nd (pi_list (pv 0)) (blkOk_by (own := [("coefficients", 2), ("bound", 3)]) (N := ["rows", "many", "coefficients", "bound"]) (sc := defScope sSettle) (by decide +kernel)) (fun _ _ _ _ _ => (show PG _ _ (gTup K 2 _) from (pg_tup rfl (pgs_cons (pg_name (i := 2) scSettle.nd rfl (Or.inl rfl)) (pgs_cons (pg_name (i := 3) scSettle.nd rfl (Or.inl rfl)) pgs_nil))))) (fun _ _ _ _ _ => pts_nil) (fun _ _ _ _ _ => (pe_lst (show PA _ _ (StX.tStar K _ _) from StX.pa_star (pv 2) (pa_cons (pv 3) pa_nil))))) (pa_cons (pv 1) pa_nil))))), ?_⟩
    refine ⟨_, rfl, l, rfl, ⟨_, h1⟩, fun D hD => ?_⟩
    refine lc_relD (walk_list (K := K) (a := l) (xs := Ro es)) ((es.map (·.2)).map auE) (by rw [List.length_map, List.length_map, Ro_len]) (by rw [Ro_len]; omega) hD (fun H t g => t ≠ D ∧ RowAt K H t g) (fun s h => ⟨h.1, h.2.up s⟩) (fun h hl s => ⟨h.1, h.2.over h.1 hl s⟩) (fun H2 s2 => s2.seq h1) ?_ ?_
    · rintro j c v H6 H7 kk hc s6 ⟨ys, hys⟩ ⟨rfl, hg⟩ kk2
      obtain ⟨w, rfl, hw⟩ := Ro_get hg
      have mw := List.mem_of_getElem? hw
      rw [List.getElem?_map, List.getElem?_map, hw] at hc
      obtain rfl : w.2.1 ++ [w.2.2] = c := Option.some.inj hc
      obtain ⟨u, v, u1, ⟨ws, w1, w2, w3⟩, u3⟩ := (h2 w mw).up s6
      refine ⟨w.1, _, rfl, u1, rfl, _, _, rfl, _, _, rfl, rfl, rfl, ?_⟩
      refine ⟨_, rfl, u, fr ws, rfl, .inr (SqL.of w1), _, rfl, ?_⟩
      have lw : ws.length = m := by rw [← (h3 w mw).1, ← w3, List.length_map]
      refine ⟨by rw [List.length_append, fr_len]; exact Nat.le_of_lt (small1000 (by show _ + 1 ≤ 1000; omega)), fun t8 n8 => ?_⟩
      have s8 := same_upd (o := .lst (fr ws ++ [.ref v])) n8
      refine kk2 t8 _ s8 ⟨fun e => ?_, ws ++ [(v, w.2.2)], ?_, ?_, ?_⟩
      · rw [e, hys] at n8
        cases n8
      · rw [show fr (ws ++ [(v, w.2.2)]) = fr ws ++ [.ref v] from List.map_append]
        exact upd_same
      · intro x hx
        rcases List.mem_append.mp hx with h | h
        · exact (w2 x h).same s8
        · rw [List.mem_singleton.mp h]
          exact u3.same s8
      · rw [List.map_append, w3]
        rfl
    intro H6 gs s6 e6 r6 m6
    have hlen : ((es.map (·.2)).map auE).length = es.length := by rw [List.length_map, List.length_map]
    refine ⟨_, rfl, D, m, (es.map (·.2)).map auE, rfl, ⟨gs, SqL.of e6, fun w hw => (r6 w hw).2, m6⟩, fun g hg => ?_, hm, by omega, fun H7 t7 u7 kept s7 hSI a1 => ?_, fun H7 t7 u7 i μ s7 hC a1 a2 => ?_⟩
    · obtain ⟨e, he, rfl⟩ := List.mem_map.mp hg
      obtain ⟨w, hw, rfl⟩ := List.mem_map.mp he
      obtain ⟨b1, b2⟩ := h3 w hw
      exact ⟨by rw [List.length_append, b1]; rfl, b2⟩
    · rw [hlen] at hSI
      exact k1 H7 t7 u7 kept (s6.trans s7) hSI a1
    · rw [hlen] at a2
      exact k2 H7 t7 u7 i μ (s6.trans s7) hC a1 a2
def spLLawIsInteger (K : PySem.W.Frag) : Sp := fun vs H Q _ => ∃ n : Int, vs = [.int n] ∧ Q (.bl true) H
theorem okLLawIsInteger {fLLawIsInteger : Addr} {fdLLawIsInteger : FuncData} (F : Fun K "_law_is_integer" "_law_is_integer" sLLawIsInteger fLLawIsInteger fdLLawIsInteger) (T : Txt mg) {aZERO : Addr} {aONE : Addr} (CT : Cons K mg aZERO aONE) {CPartError CNought : Addr} (EX : Exns K mg CPartError CNought) :
    FnOk P w K mg base CX0 1 fLLawIsInteger fdLLawIsInteger ["actual"] (spLLawIsInteger K) := by
  refine F.ok scLLawIsInteger (fun vs H Q E h => ?_) (fun cdv A outer s H vs Q E hr h => ?_)
  · obtain ⟨n, rfl, q⟩ := h
    rfl
  · obtain ⟨n, rfl, q⟩ := h
    refine ⟨_, (pss_one (ps_ret (pe_and (pe_callB call_isi (by rfl) T.isinstance (by decide +kernel) (pa_cons (pv 0) (pa_cons (pe_bltn (v := .ty "int") (by rfl) T.int (by decide +kernel) rfl) pa_nil))) (pe_one (pe_not (pe_callB call_isi (by rfl) T.isinstance (by decide +kernel) (pa_cons (pv 0) (pa_cons (pe_bltn (v := .ty "bool") (by rfl) T.bool (by decide +kernel) rfl) pa_nil)))))))), ?_⟩
    refine ⟨.int n, rfl, .int n, .ty "int", .type "int", .type "int", true, rfl, (.ty _), .base (.int n), kit_ty (by decide +kernel), true, rfl, iteT ?_⟩
    exact ⟨.int n, rfl, .int n, .ty "bool", .type "int", .type "bool", false, rfl, (.ty _), .base (.int n), kit_ty (by decide +kernel), false, rfl, q⟩
def spLLawCell (K : PySem.W.Frag) : Sp := fun vs H Q _ => ∃ (a : Addr) (ns : List Int) (k : Nat), vs = [.ref a, .int k] ∧ SqL K H a (zs ns) ∧ ∀ c : Int, 0 ≤ c → Q (.int c) H
theorem okLLawCell {fLLawCell : Addr} {fdLLawCell : FuncData} (F : Fun K "_law_cell" "_law_cell" sLLawCell fLLawCell fdLLawCell) (T : Txt mg) {aZERO : Addr} {aONE : Addr} (CT : Cons K mg aZERO aONE) {CPartError CNought : Addr} (EX : Exns K mg CPartError CNought) :
    FnOk P w K mg base CX0 1 fLLawCell fdLLawCell ["script", "k"] (spLLawCell K) := by
  refine F.ok scLLawCell (fun vs H Q E h => ?_) (fun cdv A outer s H vs Q E hr h => ?_)
  · obtain ⟨a, ns, k, rfl, hS, q⟩ := h
    rfl
  · obtain ⟨a, ns, k, rfl, hS, q⟩ := h
    refine ⟨_, (pss_cons (ps_if (pt_cmpR op_lt (pv 1) (pe_callB call_len_seq (by rfl) T.len PySem.boot_len (pa_cons (pv 0) pa_nil)) (nomark _))
        (pss_one (ps_ret (pe_callB call_abs (by rfl) T.abs (by decide +kernel) (pa_cons (pe_callTy call_int1 (by rfl) T.int (by decide +kernel) (pa_cons (pe_ix ix_list (pv 0) (pv 1) (fun _ _ => rfl)) pa_nil)) pa_nil))))
        pss_nil)
      (pss_one (ps_ret pe_int))), ?_⟩
    refine ⟨_, rfl, .ref a, rfl, a, _, rfl, .inl hS, _, _, rfl, rfl, _, rfl, ite2 (fun hlt => ?_) (fun _ => ?_)⟩
    · have h1 := of_decide_eq_true hlt
      rw [show zs ns = ns.map V.int from rfl, List.length_map] at h1
      have h2 : k < ns.length := by omega
      have h3 : (zs ns)[k]? = some (.int ns[k]) := by
        rw [show zs ns = ns.map V.int from rfl, List.getElem?_map, List.getElem?_eq_getElem h2]
        rfl
      refine ⟨.ref a, rfl, _, rfl, a, _, _, _, rfl, rfl, hS, atI_nat h3, .inl ⟨_, rfl, _, rfl, q _ ?_⟩⟩
      split <;> omega
    · exact q 0 (by decide)
def spLLawRow (K : PySem.W.Frag) : Sp := fun vs H Q _ => ∃ (cell base : Int) (n : Nat), vs = [.int cell, .int n, .int base] ∧ 0 < base ∧ base < 1000000 ∧ n ≤ 1000 ∧
  ∀ (H' : Hp) (l : Addr) (rs : List Int), Same H H' → H l = none → H' l = some (.lst (zs rs)) → rs.length = n → (∀ r ∈ rs, 0 ≤ r ∧ r < base) → Q (.ref l) H'
theorem okLLawRow {fLLawRow : Addr} {fdLLawRow : FuncData} (F : Fun K "_law_row" "_law_row" sLLawRow fLLawRow fdLLawRow) (T : Txt mg) {aZERO : Addr} {aONE : Addr} (CT : Cons K mg aZERO aONE) {CPartError CNought : Addr} (EX : Exns K mg CPartError CNought) :
    FnOk P w K mg base CX0 1 fLLawRow fdLLawRow ["cell", "size", "base"] (spLLawRow K) := by
  refine F.ok scLLawRow (fun vs H Q E h => ?_) (fun cdv A outer s H vs Q E hr h => ?_)
  · obtain ⟨cell, base, n, rfl, hb0, hb1, hn, q⟩ := h
    rfl
  · obtain ⟨cell, base, n, rfl, hb0, hb1, hn, q⟩ := h
    refine ⟨_, (pss_cons (ps_set (i := 3) scLLawRow.nd rfl (Or.inl rfl) (pe_lst pa_nil))
      (pss_cons (ps_set (i := 4) scLLawRow.nd rfl (Or.inl rfl) (pv 0))
      (C8.pss_cut (ps_for PassesOwn.never rfl (pi_range1 rfl T.range (pa_cons (pv 1) pa_nil)) (pg_name (i := 5) scLLawRow.nd rfl (Or.inl rfl))
        (pss_one (ps_if (pt_cmpR op_ge (pv 0) (pe_op op_pow pe_int pe_int) (nomark _))
          (pss_cons (ps_expr (pe_bm PySem.F.plainAttrs_list PySem.F.slot_list_append PySem.F.type_list_append mt_append (pv 3) (pa_cons (pe_op op_mod (pe_callTy call_int1 (by rfl) T.int (by decide +kernel) (pa_cons (pv 4) pa_nil)) (pv 2)) pa_nil)))
          (pss_one (ps_set (i := 4) scLLawRow.nd rfl (Or.inl rfl) (pe_op op_fdiv (pv 4) (pv 2)))))
          (pss_cons (ps_set (i := 6) scLLawRow.nd rfl (Or.inl rfl) (pe_op op_mod (pe_op op_add (pe_op op_add (pe_op op_mul (pe_op op_mod (pe_callTy call_int1 (by rfl) T.int (by decide +kernel) (pa_cons (pv 0) pa_nil)) pe_int) pe_int) (pe_op op_mul (pv 5) pe_int)) (pe_op op_fdiv (pv 0) pe_int)) pe_int))
          (pss_cons (ps_set (i := 6) scLLawRow.nd rfl (Or.inl rfl) (pe_op op_mod (pe_op op_add (pe_op op_add (pe_op op_mul (pv 6) pe_int) (pe_op op_mul (pv 5) pe_int)) pe_int) pe_int))
          (pss_one (ps_expr (pe_bm PySem.F.plainAttrs_list PySem.F.slot_list_append PySem.F.type_list_append mt_append (pv 3) (pa_cons (pe_op op_mod (pe_op op_fdiv (pv 6) pe_int) (pv 2)) pa_nil)))))))))
      (pss_one (ps_ret (pv 3)))))), ?_⟩
    refine ⟨Nat.zero_le _, fun l hl => ?_⟩
    have sl : Same H (upd H l (.lst [])) := same_upd hl
    walk_at "rd"
    refine ⟨fun σ' H' => ∃ (rs : List Int) (v4 v5 v6 : Option V), σ' = [some (.int cell), some (.int n), some (.int base), some (.ref l), v4, v5, v6] ∧ Same H H' ∧ H' l = some (.lst (zs rs)) ∧ rs.length = n ∧ ∀ r ∈ rs, 0 ≤ r ∧ r < base, ?_, ?_⟩
    · refine ⟨_, rfl, n, rfl, by omega, by omega, for_range (n := n) (fun i σ' H' => ∃ (rs : List Int) (number : Int) (v5 v6 : Option V), σ' = [some (.int cell), some (.int n), some (.int base), some (.ref l), some (.int number), v5, v6] ∧ Same H H' ∧ H' l = some (.lst (zs rs)) ∧ rs.length = i ∧ ∀ r ∈ rs, 0 ≤ r ∧ r < base) ?_ ?_ ?_⟩
      · exact ⟨[], cell, none, none, rfl, sl, upd_same, rfl, fun r h => nomatch h⟩
      · rintro i σ' H' hi ⟨rs, number, v5, v6, rfl, s1, e1, el, ea⟩
        have hlen : (zs rs).length < sizeLine := zs_lt (by omega)
        walk_at "rd"
        refine ite2 (fun _ => ?_) (fun _ => ?_)
        · walk_at "rd"
          refine ⟨.inl ⟨rfl, _, SqL.of e1⟩, ?_⟩
          walk_at "rd"
          refine ⟨hb0, l, _, _, rfl, rfl, e1, hlen, ?_⟩
          walk_at "rd"
          refine ⟨⟨hb0, by omega⟩, rs ++ [number % base], _, _, _, rfl, fun b o e => ?_, ?_, ?_, row_all ea _ hb0⟩
          · rw [upd_ne (ne_of_none e hl)]
            exact s1 b o e
          · rw [upd_same, zs_push]
          · rw [List.length_append, el]
            rfl
        · walk_at "rd"
          refine ⟨.inl ⟨rfl, _, SqL.of e1⟩, ?_⟩
          walk_at "rd"
          refine ⟨hb0, l, _, _, rfl, rfl, e1, hlen, ?_⟩
          refine ⟨_, _, _, _, rfl, fun b o e => ?_, by rw [upd_same, zs_push], ?_, row_all ea _ hb0⟩
          · rw [upd_ne (ne_of_none e hl)]
            exact s1 b o e
          · rw [List.length_append, el]
            rfl
      · rintro σ' H' ⟨rs, number, v5, v6, rfl, s1, e1, el, ea⟩
        exact ⟨rs, _, _, _, rfl, s1, e1, el, ea⟩
    · rintro σ' H' ⟨rs, v4, v5, v6, rfl, s1, e1, el, ea⟩
      exact ⟨_, rfl, q H' l rs s1 hl e1 el ea⟩
def spLLawFraction (K : PySem.W.Frag) : Sp := fun vs H Q _ => ∃ n d : Int, vs = [.int n, .int d] ∧ n.natAbs < 2 ^ 1800 ∧ d.natAbs < 2 ^ 1800 ∧ d ≠ 0 ∧ ∀ (H' : Hp) (t : Addr), Same H H' → H' t = some (.tup (zs (rd2 n d))) → Q (.ref t) H'
theorem okLLawFraction {fLLawFraction : Addr} {fdLLawFraction : FuncData} (F : Fun K "_law_fraction" "_law_fraction" sLLawFraction fLLawFraction fdLLawFraction) (T : Txt mg) {aZERO : Addr} {aONE : Addr} (CT : Cons K mg aZERO aONE) {CPartError CNought : Addr} (EX : Exns K mg CPartError CNought) :
    FnOk P w K mg base CX0 1 fLLawFraction fdLLawFraction ["number", "divisor"] (spLLawFraction K) := by
  refine F.ok scLLawFraction (fun vs H Q E h => ?_) (fun cdv A outer s H vs Q E hr h => ?_)
  · obtain ⟨n, d, rfl, bn, bd, hd, k⟩ := h
    rfl
  · obtain ⟨n, d, rfl, bn, bd, hd, k⟩ := h
    refine ⟨_, (pss_cons (ps_set (i := 2) scLLawFraction.nd rfl (Or.inl rfl) (pe_callB call_abs (by rfl) T.abs (by decide +kernel) (pa_cons (pv 0) pa_nil)))
      (pss_cons (ps_set (i := 3) scLLawFraction.nd rfl (Or.inl rfl) (pe_callB call_abs (by rfl) T.abs (by decide +kernel) (pa_cons (pv 1) pa_nil)))
      (C8.pss_cut (ps_for PassesOwn.never rfl (pi_range1 rfl T.range (pa_cons pe_int pa_nil)) (pg_name (i := 4) scLLawFraction.nd rfl (Or.inl rfl))
        (pss_cons (ps_if (pt_cmpR op_eq (pv 3) pe_int (nomark _))
          (pss_one ps_break)
          pss_nil)
        (pss_one (ps_par (i := 2) (j := 3) (by rfl) scLLawFraction.nd rfl rfl (by decide) rfl rfl (pa_cons (pv 3) (pa_cons (pe_op op_modN (pv 2) (pv 3)) pa_nil)) (by rfl)))))
      (C8.pss_cut (ps_if (pt_cmpR op_lt (pv 1) pe_int (nomark _))
        (pss_one (ps_set (i := 2) scLLawFraction.nd rfl (Or.inl rfl) (pe_un un_neg (pv 2))))
        pss_nil)
      (pss_one (ps_ret (pe_tup (pa_cons (pe_op op_fdivX (pv 0) (pv 2)) (pa_cons (pe_op op_fdivX (pv 1) (pv 2)) pa_nil))))))))), ?_⟩
    walk_at "rd"
    have ez : ∀ z : Int, (if z < 0 then -z else z) = ((z.natAbs : Nat) : Int) := fun z => by
      split <;> omega
    rw [ez n, ez d]
    refine ⟨fun σ' H' => ∃ v3 v4 : Option V, σ' = [some (.int n), some (.int d), some (.int ((Nat.gcd n.natAbs d.natAbs : Nat) : Int)), v3, v4] ∧ H' = H, ?_, ?_⟩
    · refine ⟨10000, rfl, by decide, by decide, for_range (n := 10000) (fun i σ' H' => ∃ (c e : Nat) (v4 : Option V), σ' = [some (.int n), some (.int d), some (.int c), some (.int e), v4] ∧ H' = H ∧ Eu n.natAbs d.natAbs i c e) ⟨_, _, none, rfl, rfl, Eu.start _ _⟩ ?_ ?_⟩
      · rintro i σ' H' hi ⟨c, e, v4, rfl, rfl, eu⟩
        walk_at "rd"
        refine ite2 (fun g => ?_) (fun g => ?_)
        · have he0 : e = 0 := by
            have := eq_of_dec g
            omega
          subst he0
          refine ⟨some (.int ((0 : Nat) : Int)), some (.int (0 + (i : Int))), ?_, rfl⟩
          rw [← eu.end]
          rfl
        · have he0 : e ≠ 0 := fun z => g (decide_eq_true (by rw [z]; rfl))
          walk_at "rd"
          refine ⟨by omega, _, _, rfl, e, c % e, some (.int (0 + (i : Int))), ?_, rfl, eu.turn (by omega)⟩
          rw [← fmod_nat c e]
          rfl
      · rintro σ' H' ⟨c, e, v4, rfl, rfl, eu⟩
        have he0 : e = 0 := eu.stop (by decide) (eu_far2 (by decide) bn bd)
        subst he0
        refine ⟨some (.int ((0 : Nat) : Int)), v4, ?_, rfl⟩
        rw [← eu.end]
    rintro σ' H3 ⟨v3, v4, rfl, rfl⟩
    refine ⟨fun σ' H' => σ' = [some (.int n), some (.int d), some (.int (sg n d)), v3, v4] ∧ H' = H3, ?_, ?_⟩
    · walk_at "rd"
      refine ite2 (fun g2 => ?_) (fun g2 => ?_)
      · refine ⟨_, rfl, _, rfl, ?_, rfl⟩
        unfold sg
        rw [if_pos (of_decide_eq_true g2)]
        rfl
      · refine ⟨?_, rfl⟩
        unfold sg
        rw [if_neg (fun z => g2 (decide_eq_true z))]
    rintro σ' H4 ⟨rfl, rfl⟩
    have hs := sg_ne (n := n) hd
    have hsb : (sg n d).natAbs < 2 ^ 1800 := by
      rw [sg_abs]
      exact Nat.lt_of_le_of_lt (Nat.le_of_dvd (by omega) (Nat.gcd_dvd_right _ _)) bd
    refine ⟨_, rfl, _, rfl, _, _, rfl, rfl, wide_divx hs hsb (by decide) (by decide), _, rfl, _, rfl, _, _, rfl, rfl, wide_divx hs hsb (by decide) (by decide), by show 2 ≤ sizeLine; decide, fun t ht => ?_⟩
    exact k _ t (same_upd ht) upd_same
def spLLawPlus (K : PySem.W.Frag) : Sp := spR2 K (fun r s => r + s)
theorem okLLawPlus {fLLawPlus : Addr} {fdLLawPlus : FuncData} (F : Fun K "_law_plus" "_law_plus" sLLawPlus fLLawPlus fdLLawPlus) (T : Txt mg) {aZERO : Addr} {aONE : Addr} (CT : Cons K mg aZERO aONE) {CPartError CNought : Addr} (EX : Exns K mg CPartError CNought)
    {fLLawFraction : Addr} {fdLLawFraction : FuncData} (GLLawFraction : FnOk P w K mg base CX0 1 fLLawFraction fdLLawFraction ["number", "divisor"] (spLLawFraction K)) (gLLawFraction : mg "_law_fraction" = some (.ref fLLawFraction)) (kpLLawFraction : PySem.W.keepIn K (.ref fLLawFraction) = true) (bLLawFraction : Binds K fdLLawFraction ["number", "divisor"] []) :
    FnOk P w K mg base CX0 2 fLLawPlus fdLLawPlus ["a", "b"] (spLLawPlus K) := by
  refine F.ok scLLawPlus (fun vs H Q E h => ?_) (fun cdv A outer s H vs Q E hr h => ?_)
  · obtain ⟨a, b, r, s, rfl, hA, hB, hr1, hs1, k⟩ := h
    rfl
  · obtain ⟨a, b, r, s, rfl, hA, hB, hr1, hs1, k⟩ := h
    refine ⟨_, (pss_one (ps_ret (pe_call GLLawFraction hr (by rfl) gLLawFraction kpLLawFraction bLLawFraction .nil pass0 (pa_cons (pe_op op_add (pe_op op_mulW (pe_ix ix_tup (pv 0) pe_int (fun _ _ => rfl)) (pe_ix ix_tup (pv 1) pe_int (fun _ _ => rfl))) (pe_op op_mulW (pe_ix ix_tup (pv 1) pe_int (fun _ _ => rfl)) (pe_ix ix_tup (pv 0) pe_int (fun _ _ => rfl)))) (pa_cons (pe_op op_mulW (pe_ix ix_tup (pv 0) pe_int (fun _ _ => rfl)) (pe_ix ix_tup (pv 1) pe_int (fun _ _ => rfl))) pa_nil))))), ?_⟩
    walk_at "go"
    exact ⟨show Bz 1800 _ from Bz.up (by walk_at "bz") (by decide), show Bz 1800 _ from Bz.up (by walk_at "bz") (by decide), dd_ne r s, fun H' t s1 e1 => k H' t s1 (by show Fx K H' t (r + s); rw [add_div]; exact fx_rd (dd_ne r s) e1)⟩
def spLLawTimes (K : PySem.W.Frag) : Sp := spR2 K (fun r s => r * s)
theorem okLLawTimes {fLLawTimes : Addr} {fdLLawTimes : FuncData} (F : Fun K "_law_times" "_law_times" sLLawTimes fLLawTimes fdLLawTimes) (T : Txt mg) {aZERO : Addr} {aONE : Addr} (CT : Cons K mg aZERO aONE) {CPartError CNought : Addr} (EX : Exns K mg CPartError CNought)
    {fLLawFraction : Addr} {fdLLawFraction : FuncData} (GLLawFraction : FnOk P w K mg base CX0 1 fLLawFraction fdLLawFraction ["number", "divisor"] (spLLawFraction K)) (gLLawFraction : mg "_law_fraction" = some (.ref fLLawFraction)) (kpLLawFraction : PySem.W.keepIn K (.ref fLLawFraction) = true) (bLLawFraction : Binds K fdLLawFraction ["number", "divisor"] []) :
    FnOk P w K mg base CX0 2 fLLawTimes fdLLawTimes ["a", "b"] (spLLawTimes K) := by
  refine F.ok scLLawTimes (fun vs H Q E h => ?_) (fun cdv A outer s H vs Q E hr h => ?_)
  · obtain ⟨a, b, r, s, rfl, hA, hB, hr1, hs1, k⟩ := h
    rfl
  · obtain ⟨a, b, r, s, rfl, hA, hB, hr1, hs1, k⟩ := h
    refine ⟨_, (pss_one (ps_ret (pe_call GLLawFraction hr (by rfl) gLLawFraction kpLLawFraction bLLawFraction .nil pass0 (pa_cons (pe_op op_mulW (pe_ix ix_tup (pv 0) pe_int (fun _ _ => rfl)) (pe_ix ix_tup (pv 1) pe_int (fun _ _ => rfl))) (pa_cons (pe_op op_mulW (pe_ix ix_tup (pv 0) pe_int (fun _ _ => rfl)) (pe_ix ix_tup (pv 1) pe_int (fun _ _ => rfl))) pa_nil))))), ?_⟩
    walk_at "go"
    exact ⟨show Bz 1800 _ from Bz.up (by walk_at "bz") (by decide), show Bz 1800 _ from Bz.up (by walk_at "bz") (by decide), dd_ne r s, fun H' t s1 e1 => k H' t s1 (by show Fx K H' t (r * s); rw [mul_div]; exact fx_rd (dd_ne r s) e1)⟩
def spLLawOver (K : PySem.W.Frag) : Sp := fun vs H Q E => ∃ (a b : Addr) (r s : Rat), vs = [.ref a, .ref b] ∧ Fx K H a r ∧ Fx K H b s ∧ Bd 800 r ∧ Bd 800 s ∧ s ≠ 0 ∧
  ∀ (H' : Hp) (t : Addr), Same H H' → Fx K H' t (r / s) → Q (.ref t) H'
theorem okLLawOver {fLLawOver : Addr} {fdLLawOver : FuncData} (F : Fun K "_law_over" "_law_over" sLLawOver fLLawOver fdLLawOver) (T : Txt mg) {aZERO : Addr} {aONE : Addr} (CT : Cons K mg aZERO aONE) {CPartError CNought : Addr} (EX : Exns K mg CPartError CNought)
    {fLLawFraction : Addr} {fdLLawFraction : FuncData} (GLLawFraction : FnOk P w K mg base CX0 1 fLLawFraction fdLLawFraction ["number", "divisor"] (spLLawFraction K)) (gLLawFraction : mg "_law_fraction" = some (.ref fLLawFraction)) (kpLLawFraction : PySem.W.keepIn K (.ref fLLawFraction) = true) (bLLawFraction : Binds K fdLLawFraction ["number", "divisor"] []) :
    FnOk P w K mg base CX0 2 fLLawOver fdLLawOver ["a", "b"] (spLLawOver K) := by
  refine F.ok scLLawOver (fun vs H Q E h => ?_) (fun cdv A outer s H vs Q E hr h => ?_)
  · obtain ⟨a, b, r, s, rfl, hA, hB, hr1, hs1, h0, k⟩ := h
    rfl
  · obtain ⟨a, b, r, s, rfl, hA, hB, hr1, hs1, h0, k⟩ := h
    refine ⟨_, (pss_one (ps_ret (pe_call GLLawFraction hr (by rfl) gLLawFraction kpLLawFraction bLLawFraction .nil pass0 (pa_cons (pe_op op_mulW (pe_ix ix_tup (pv 0) pe_int (fun _ _ => rfl)) (pe_ix ix_tup (pv 1) pe_int (fun _ _ => rfl))) (pa_cons (pe_op op_mulW (pe_ix ix_tup (pv 0) pe_int (fun _ _ => rfl)) (pe_ix ix_tup (pv 1) pe_int (fun _ _ => rfl))) pa_nil))))), ?_⟩
    walk_at "go"
    exact ⟨show Bz 1800 _ from Bz.up (by walk_at "bz") (by decide), show Bz 1800 _ from Bz.up (by walk_at "bz") (by decide), od_ne h0, fun H' t s1 e1 => k H' t s1 (by rw [ov_div]; exact fx_rd (od_ne h0) e1)⟩
def spLLawRank (K : PySem.W.Frag) : Sp := fun vs H Q _ => ∃ (u : Addr) (n : Nat) (R : List (List Rat)), vs = [.ref u] ∧ RowsAt K H u R ∧ R.length ≤ 8 ∧ n ≤ 5 ∧ (∀ r ∈ R, r.length = n ∧ CB 11 r) ∧ ∀ (H' : Hp) (f : Nat), Same H H' → RankIs (Spn (inL n R)) f → Q (.int f) H'
theorem okLLawRank {fLLawRank : Addr} {fdLLawRank : FuncData} (F : Fun K "_law_rank" "_law_rank" sLLawRank fLLawRank fdLLawRank) (T : Txt mg) {aZERO : Addr} {aONE : Addr} (CT : Cons K mg aZERO aONE) {CPartError CNought : Addr} (EX : Exns K mg CPartError CNought)
    {fLLawOver : Addr} {fdLLawOver : FuncData} (GLLawOver : FnOk P w K mg base CX0 2 fLLawOver fdLLawOver ["a", "b"] (spLLawOver K)) (gLLawOver : mg "_law_over" = some (.ref fLLawOver)) (kpLLawOver : PySem.W.keepIn K (.ref fLLawOver) = true) (bLLawOver : Binds K fdLLawOver ["a", "b"] [])
    {fLLawPlus : Addr} {fdLLawPlus : FuncData} (GLLawPlus : FnOk P w K mg base CX0 2 fLLawPlus fdLLawPlus ["a", "b"] (spLLawPlus K)) (gLLawPlus : mg "_law_plus" = some (.ref fLLawPlus)) (kpLLawPlus : PySem.W.keepIn K (.ref fLLawPlus) = true) (bLLawPlus : Binds K fdLLawPlus ["a", "b"] [])
    {fLLawTimes : Addr} {fdLLawTimes : FuncData} (GLLawTimes : FnOk P w K mg base CX0 2 fLLawTimes fdLLawTimes ["a", "b"] (spLLawTimes K)) (gLLawTimes : mg "_law_times" = some (.ref fLLawTimes)) (kpLLawTimes : PySem.W.keepIn K (.ref fLLawTimes) = true) (bLLawTimes : Binds K fdLLawTimes ["a", "b"] []) :
    FnOk P w K mg base CX0 3 fLLawRank fdLLawRank ["rows"] (spLLawRank K) := by
  refine F.ok scLLawRank (fun vs H Q E h => ?_) (fun cdv A outer s H vs Q E hr h => ?_)
  · obtain ⟨u, n, R, rfl, ⟨gs, h1, h2, h3⟩, h8, hn, hR, k⟩ := h
    rfl
  · obtain ⟨u, n, R, rfl, ⟨gs, h1, h2, h3⟩, h8, hn, hR, k⟩ := h
    refine ⟨_, (pss_cons (ps_set (i := 1) scLLawRank.nd rfl (Or.inr rfl) (pe_lc (own := [("row", 6)]) (by rfl) scLLawRank.nd (pi_list (pv 0)) (blkOk_by (own := [("row", 6)]) (N := ["rows", "left", "found", "width", "column", "places", "row", "k", "factor", "at"]) (sc := defScope sLLawRank) (by decide +kernel)) (fun _ _ _ _ _ => (pg_name (i := 6) scLLawRank.nd rfl (Or.inl rfl))) (fun _ _ _ _ _ => pts_nil) (fun _ _ _ _ _ => (pe_callTy (show CallR _ (Value.type "list") (rListOf K) from call_list_of) (by rfl) T.list (by decide +kernel) (pa_cons (pv 6) pa_nil)))))
      (pss_cons (ps_set (i := 2) scLLawRank.nd rfl (Or.inl rfl) pe_int)
      (pss_cons (ps_set (i := 3) scLLawRank.nd rfl (Or.inl rfl) pe_int)
      (C8.pss_cut (ps_if (pt_cmpR (op_neD hr.units) (pv 1) (pe_lst pa_nil) (nomark _))
        (pss_one (ps_set (i := 3) scLLawRank.nd rfl (Or.inl rfl) (pe_callB call_len_seq (by rfl) T.len PySem.boot_len (pa_cons (pe_ix ix_list (pv 1) pe_int (fun _ _ => rfl)) pa_nil))))
        pss_nil)
      (C8.pss_cut (ps_for PassesOwn.never rfl (pi_range1 rfl T.range (pa_cons (pv 3) pa_nil)) (pg_name (i := 4) scLLawRank.nd rfl (Or.inr rfl))
        (pss_cons (ps_setLc (i := 5) (own := [("k", 7)]) (by rfl) scLLawRank.nd rfl rfl (sw_true rfl rfl rfl (by decide +kernel)) (pi_range2 rfl T.range (pa_cons (pv 2) (pa_cons (pe_callB call_len_seq (by rfl) T.len PySem.boot_len (pa_cons (pv 1) pa_nil)) pa_nil))) (blkOk_by (own := [("k", 7)]) (N := ["rows", "left", "found", "width", "column", "places", "row", "k", "factor", "at"]) (sc := defScope sLLawRank) (by decide +kernel)) (fun _ _ _ _ _ => (pg_name (i := 7) scLLawRank.nd rfl (Or.inl rfl))) (fun _ _ _ _ _ => pts_one (pt_cmpR (show OpR _ _ (rNeD K) from op_neD hr.units) (pe_ix (show IxR _ (rIxL K) from ix_list) (pe_ix (show IxR _ (rIxL K) from ix_list) (pv 1) (pv 7) (fun _ _ => rfl)) (pv 4) (fun _ _ => rfl)) (pe_tup (pa_cons pe_int (pa_cons pe_int pa_nil))) (nomark _))) (fun _ _ _ _ _ => (pv 7)))
        (pss_cons (ps_if (pt_cmpR (op_eqD hr.units) (pv 5) (pe_lst pa_nil) (nomark _))
          (pss_one ps_continue)
          pss_nil)
        (pss_cons (ps_set (i := 6) scLLawRank.nd rfl (Or.inr rfl) (pe_bm PySem.F.plainAttrs_list PySem.F.slot_list_pop PySem.F.type_list_pop mt_popAt (pv 1) (pa_cons (pe_ix ix_list (pv 5) pe_int (fun _ _ => rfl)) pa_nil)))
        (pss_cons (ps_expr (pe_bm PySem.F.plainAttrs_list PySem.F.slot_list_insert PySem.F.type_list_insert mt_insert (pv 1) (pa_cons (pv 2) (pa_cons (pv 6) pa_nil))))
        (C8.pss_cut (ps_for PassesOwn.never rfl (pi_range2 rfl T.range (pa_cons (pe_op op_add (pv 2) pe_int) (pa_cons (pe_callB call_len_seq (by rfl) T.len PySem.boot_len (pa_cons (pv 1) pa_nil)) pa_nil))) (pg_name (i := 7) scLLawRank.nd rfl (Or.inr rfl))
          (pss_cons (ps_set (i := 8) scLLawRank.nd rfl (Or.inr rfl) (pe_call GLLawOver hr (by rfl) gLLawOver kpLLawOver bLLawOver .nil pass0 (pa_cons (pe_ix ix_list (pe_ix ix_list (pv 1) (pv 7) (fun _ _ => rfl)) (pv 4) (fun _ _ => rfl)) (pa_cons (pe_ix ix_list (pv 6) (pv 4) (fun _ _ => rfl)) pa_nil))))
          (pss_cons (ps_set (i := 8) scLLawRank.nd rfl (Or.inr rfl) (pe_tup (pa_cons (pe_un un_neg (pe_ix ix_tup (pv 8) pe_int (fun _ _ => rfl))) (pa_cons (pe_ix ix_tup (pv 8) pe_int (fun _ _ => rfl)) pa_nil))))
          (pss_one (ps_asg (pe_lc (own := [("at", 9)]) (by rfl) scLLawRank.nd (pi_range1 rfl T.range (pa_cons (pv 3) pa_nil)) (blkOk_by (own := [("at", 9)]) (N := ["rows", "left", "found", "width", "column", "places", "row", "k", "factor", "at"]) (sc := defScope sLLawRank) (by decide +kernel)) (fun _ _ _ _ _ => (pg_name (i := 9) scLLawRank.nd rfl (Or.inl rfl))) (fun _ _ _ _ _ => pts_nil) (fun _ _ _ _ _ => (pe_call GLLawPlus hr (by rfl) gLLawPlus kpLLawPlus bLLawPlus .nil pass0 (pa_cons (pe_ix (show IxR _ (rIxL K) from ix_list) (pe_ix (show IxR _ (rIxL K) from ix_list) (pv 1) (pv 7) (fun _ _ => rfl)) (pv 9) (fun _ _ => rfl)) (pa_cons (pe_call GLLawTimes hr (by rfl) gLLawTimes kpLLawTimes bLLawTimes .nil pass0 (pa_cons (pv 8) (pa_cons (pe_ix (show IxR _ (rIxL K) from ix_list) (pv 6) (pv 9) (fun _ _ => rfl)) pa_nil))) pa_nil))))) (pg_sub (pv 1) (pv 7) set_list))))))
        (pss_one (ps_set (i := 2) scLLawRank.nd rfl (Or.inl rfl) (pe_op op_add (pv 2) pe_int)))))))))
      (pss_one (ps_ret (pv 2)))))))), ?_⟩
    have lg : gs.length = R.length := by rw [← h3, List.length_map]
    refine ⟨_, rfl, u, rfl, ⟨_, h1⟩, fun D hD => ?_⟩
    refine lc_relD (walk_list (K := K) (a := u) (xs := Ro gs)) R (by rw [Ro_len, lg]) (by rw [Ro_len]; omega) hD (fun H t g => t ≠ D ∧ RowAt K H t g) (fun s h => ⟨h.1, h.2.up s⟩) (fun h hl s => ⟨h.1, h.2.over h.1 hl s⟩) (fun H2 s2 => s2.seq h1) ?_ ?_
    · rintro j c v H6 H7 kk hc s6 ⟨ys, hys⟩ ⟨rfl, hg⟩ kk2
      obtain ⟨w, rfl, hw⟩ := Ro_get hg
      have hcj := map_at h3 hw
      rw [hc] at hcj
      obtain rfl := Option.some.inj hcj
      obtain ⟨ws, w1, w2, w3⟩ := (h2 w (List.mem_of_getElem? hw)).up s6
      refine ⟨rfl, _, rfl, w.1, _, rfl, .inl (SqL.of w1), fun t8 n8 => ?_⟩
      have s8 := same_upd (o := .lst (fr ws)) n8
      refine kk2 t8 _ s8 ⟨fun e => ?_, ws, upd_same, fun x hx => (w2 x hx).same s8, w3⟩
      rw [e, hys] at n8
      cases n8
    intro H1 ws0 s1 e1 r1 m1
    have lw0 : ws0.length = R.length := by rw [← m1, List.length_map]
    obtain ⟨n', hn', hn0⟩ : ∃ n' : Nat, (n' = if R = [] then 0 else n) ∧ n' ≤ n := ⟨_, rfl, by split <;> omega⟩
    refine ⟨fun σ' H' => Same H1 H' ∧ σ' = [some (.ref u), some (.ref D), some (.int 0), some (.int (n' : Nat)), none, none, none, none, none, none], ?_, ?_⟩
    · refine ⟨_, rfl, by show 0 ≤ sizeLine; decide, fun L8 n8 => ?_⟩
      have s8 := same_upd (o := .lst []) n8
      have e8 : (upd H1 L8 (.lst [])) L8 = some (.lst []) := upd_same
      generalize upd H1 L8 (.lst []) = H8 at s8 e8 ⊢
      refine ⟨pdrr (ws0.map fun w : Addr × List Rat => w.2), pdrr [], .lst (SqL.of (s8 _ _ e1)) (dp_rows fun w hw => ((r1 w hw).2).up s8), .lst (SqL.of e8) .nil, shrrl _, shrrl _, ?_⟩
      rw [eq_none, m1]
      refine ⟨_, rfl, ?_⟩
      by_cases hR0 : R = []
      · refine iteF' (by rw [decide_eq_true hR0]; rfl) ?_
        refine ⟨s8, ?_⟩
        rw [hn', if_pos hR0]
        rfl
      · refine iteT' (by rw [decide_eq_false hR0]; rfl) ?_
        obtain ⟨w, ws1, rfl⟩ : ∃ w ws1, ws0 = w :: ws1 := by
          cases ws0 with
          | nil => exact absurd m1.symm hR0
          | cons a b => exact ⟨a, b, rfl⟩
        obtain ⟨us, u1, u2, u3⟩ := ((r1 w List.mem_cons_self).2).up s8
        refine ⟨_, rfl, D, _, 0, _, rfl, rfl, SqL.of (s8 _ _ e1), atI_nat (j := 0) rfl, w.1, _, rfl, .inl (SqL.of u1), ?_⟩
        refine ⟨s8, ?_⟩
        have hl := (hR w.2 (by rw [← m1]; exact List.mem_cons_self)).1
        rw [hn', if_neg hR0, fr_len, show us.length = n by rw [← hl, ← u3, List.length_map]]
        rfl
    rintro σ' H2 ⟨s2, rfl⟩
    have e2 := s2 _ _ e1
    have fin : ∀ (H' : Hp) (f : Nat), SameX D H2 H' → RankIs (Spn (inL n R)) f → Q (.int f) H' := fun H' f sx hf => k H' f (same_ofX hD (s1.trans s2) sx) hf
    have rt : ∀ w ∈ ws0, w.1 ≠ D ∧ RowAt K H2 w.1 w.2 := fun w hw => ⟨(r1 w hw).1, (r1 w hw).2.up s2⟩
    refine ⟨fun σ' H' => ∃ (f : Nat) (v4 v5 v6 v7 v8 : Option V), σ' = [some (.ref u), some (.ref D), some (.int (f : Nat)), some (.int (n' : Nat)), v4, v5, v6, v7, v8, none] ∧ SameX D H2 H' ∧ RankIs (Spn (inL n R)) f, ?_, ?_⟩
    · refine ⟨_, rfl, n', rfl, by omega, by omega, for_range (n := n') (fun c σ' H' => ∃ (f : Nat) (v4 v5 v6 v7 v8 : Option V) (ws : List (Addr × List Rat)), σ' = [some (.ref u), some (.ref D), some (.int (f : Nat)), some (.int (n' : Nat)), v4, v5, v6, v7, v8, none] ∧ SameX D H2 H' ∧ H' D = some (.lst (Ro ws)) ∧ (∀ w ∈ ws, w.1 ≠ D ∧ RowAt K H' w.1 w.2) ∧ RI n R (ws.map (·.2)) c f ∧ ∀ w ∈ ws, CB (lbb c) w.2) ⟨0, _, _, _, _, _, ws0, rfl, fun _ _ _ h => h, e2, rt, ?_, fun w hw => ?_⟩ ?_ ?_⟩
      · rw [m1]
        exact RI.start fun r hr => (hR r hr).1
      · exact (hR w.2 (by rw [← m1]; exact List.mem_map_of_mem hw)).2
      · rintro c σ' H3 hc ⟨f, v4, v5, v6, v7, v8, ws, rfl, sx, e3, r3, hRI, hCB⟩
        have hcn : c < n := by omega
        have lws : ws.length = R.length := by rw [← hRI.cnt, List.length_map]
        have hfw : f ≤ ws.length := by have := hRI.few; rw [List.length_map] at this; exact this
        have hc0 : (0 : Int) + (c : Int) = (c : Int) := by omega
        have rl : ∀ w ∈ ws, w.2.length = n := fun w hw => hRI.len _ (List.mem_map_of_mem hw)
        have lbc := lbb_le4 (c := c) (by omega)
        obtain ⟨L, hL⟩ : ∃ L : List (Option V), L = (List.range (ws.length - f)).map fun i => if (wat ws (f + i)).getD c 0 = 0 then none else some (V.int ((f + i : Nat) : Int)) := ⟨_, rfl⟩
        have hLi : ∀ i w, ws[f + i]? = some w → i < ws.length - f → L[i]? = some (if w.2.getD c 0 = 0 then none else some (V.int ((f + i : Nat) : Int))) := fun i w hw hi => by
          rw [hL, List.getElem?_map, List.getElem?_range hi]
          show some (if (wat ws (f + i)).getD c 0 = 0 then none else some (V.int ((f + i : Nat) : Int))) = _
          rw [wat_eq hw]
        refine ⟨_, rfl, _, rfl, D, _, rfl, .inl (SqL.of e3), _, _, rfl, ⟨by omega, by omega, by omega, by rw [Ro_len]; omega⟩, fun D5 hD5 => ?_⟩
        rw [Ro_len, show (((ws.length : Nat) : Int) - ((f : Nat) : Int)).toNat = ws.length - f by omega]
        have hDD : D5 ≠ D := fun e => by
          rw [e, e3] at hD5
          cases hD5
        refine lc_vv (walk_range (lo := (f : Int)) (n := ws.length - f)) L (by rw [hL, List.length_map, List.length_range]) (by omega) hD5 (fun _ _ => trivial) ?_ ?_
        · rintro i o v H6 H7 kk kn ho s6 ⟨rfl, rfl⟩ hk hkn
          have hi : i < ws.length - f := by
            have := (List.getElem?_eq_some_iff.mp ho).1
            rw [hL, List.length_map, List.length_range] at this
            exact this
          have hwi : ws[f + i]? = some ws[f + i] := List.getElem?_eq_getElem (by omega)
          generalize ws[f + i] = w at hwi
          rw [hLi i w hwi hi] at ho
          have ho2 := Option.some.inj ho
          have mw := List.mem_of_getElem? hwi
          obtain ⟨us, u1, u2, u3⟩ := (r3 w mw).2.up s6
          obtain ⟨fa, fa1, fa2, fa3⟩ := RowAt.get (K := K) u2 u3 (show c < w.2.length by rw [rl w mw]; exact hcn)
          have hfi : ((f : Int) + (i : Int)) = ((f + i : Nat) : Int) := by omega
          refine ⟨rfl, ?_⟩
          refine ⟨_, rfl, _, rfl, D, _, _, V.ref w.1, rfl, rfl, SqL.of (s6 _ _ e3), by rw [hfi]; exact atI_nat (Ro_at hwi), _, rfl, w.1, _, _, V.ref fa, rfl, rfl, SqL.of u1, by rw [hc0]; exact atI_nat fa1, ?_⟩
          refine ⟨by show 2 ≤ sizeLine; decide, fun t8 n8 => ?_⟩
          have s8 := same_upd (o := .tup [.int 0, .int 1]) n8
          have F8 : Fx K (upd H7 t8 (.tup [.int 0, .int 1])) t8 0 := fx_lit0 upd_same
          generalize upd H7 t8 (.tup [.int 0, .int 1]) = H8 at s8 F8 ⊢
          refine ⟨_, _, dpr (fa2.same s8), dpr F8, sh1 _, sh1 _, ?_⟩
          rw [eqvr]
          refine ⟨_, rfl, ?_⟩
          by_cases h0 : w.2.getD c 0 = 0
          · rw [if_pos h0] at ho2
            refine iteF' (by rw [decide_eq_true h0]; rfl) ?_
            exact hkn ho2.symm _ s8
          · rw [if_neg h0] at ho2
            refine iteT' (by rw [decide_eq_false h0]; rfl) ?_
            refine ⟨_, rfl, ?_⟩
            have := hk _ ho2.symm _ s8
            rw [← hfi] at this
            exact this
        intro H5 s5 e5
        rw [hL, fm_ints (fun i => (wat ws (f + i)).getD c 0 = 0) f] at e5
        have hmem : ∀ i, i ∈ (List.range (ws.length - f)).filter (fun i => !decide ((wat ws (f + i)).getD c 0 = 0)) ↔ i < ws.length - f ∧ (wat ws (f + i)).getD c 0 ≠ 0 := fun i => by
          rw [List.mem_filter, List.mem_range]
          simp
        generalize (List.range (ws.length - f)).filter (fun i => !decide ((wat ws (f + i)).getD c 0 = 0)) = js at e5 hmem
        have e5D := s5 _ _ e3
        refine ⟨_, rfl, by show 0 ≤ sizeLine; decide, fun L8 n8 => ?_⟩
        have s8 := same_upd (o := .lst []) n8
        have e8 : (upd H5 L8 (.lst [])) L8 = some (.lst []) := upd_same
        generalize upd H5 L8 (.lst []) = H8 at s8 e8 ⊢
        refine ⟨pdis (js.map fun i => ((f + i : Nat) : Int)), pdis [], .lst (SqL.of (s8 _ _ e5)) (dp_is _), .lst (SqL.of e8) .nil, shisl _, shisl _, ?_⟩
        rw [eq_nois]
        refine ⟨_, rfl, ?_⟩
        have s38 := s5.trans s8
        cases js with
        | nil =>
          refine iteT' (decide_eq_true rfl) ?_
          refine ⟨f, _, _, _, _, _, ws, rfl, sx.tr s38, s38 _ _ e3, fun w hw => ⟨(r3 w hw).1, (r3 w hw).2.up s38⟩, hRI.skip fun r hr => ?_, fun w hw => (hCB w hw).up (by show _ ≤ 2 * lbb c + 1; omega)⟩
          rw [← List.map_drop] at hr
          obtain ⟨w, hw, rfl⟩ := List.mem_map.mp hr
          obtain ⟨i, hi⟩ := List.mem_iff_getElem?.mp hw
          rw [List.getElem?_drop] at hi
          have hil : f + i < ws.length := (List.getElem?_eq_some_iff.mp hi).1
          refine Classical.byContradiction fun hne => ?_
          have := (hmem i).mpr ⟨by omega, by rw [wat_eq hi]; exact hne⟩
          cases this
        | cons i0 js =>
        obtain ⟨hi0, hne0⟩ := (hmem i0).mp List.mem_cons_self
        have hwk : ws[f + i0]? = some ws[f + i0] := List.getElem?_eq_getElem (by omega)
        generalize ws[f + i0] = w at hwk
        rw [wat_eq hwk] at hne0
        obtain ⟨A, B, C, hws, hA, hB⟩ := split_at hwk (Nat.le_add_right f i0)
        refine iteF' rfl ?_
        have e8D := s38 _ _ e3
        refine ⟨.ref D, rfl, .inl ⟨rfl, _, SqL.of e8D⟩, _, rfl, D5, _, 0, _, rfl, rfl, SqL.of (s8 _ _ e5), atI_nat (j := 0) rfl, ?_⟩
        refine ⟨D, Ro ws, ((f + i0 : Nat) : Int), f + i0, .ref w.1, rfl, rfl, e8D, by omega, by omega, by rw [Ro_len]; exact seqIndex_nat (by omega), Ro_at hwk, ?_⟩
        have eer : (Ro ws).eraseIdx (f + i0) = Ro (A ++ (B ++ C)) := by
          rw [hws]
          unfold Ro
          rw [List.map_append, List.map_append, List.map_cons, erase_mid (by rw [List.length_map, List.length_map]; omega), List.map_append, List.map_append]
        rw [eer]
        have hRne : R ≠ [] := fun e => by
          rw [e] at hn'
          rw [if_pos rfl] at hn'
          omega
        have hnn : n' = n := by rw [hn', if_neg hRne]
        have hsz : (A ++ (B ++ C)).length + 1 = ws.length := by
          rw [hws]
          simp only [List.length_append, List.length_cons]
          omega
        have r8 : ∀ w' ∈ ws, w'.1 ≠ D ∧ RowAt K H8 w'.1 w'.2 := fun w' h => ⟨(r3 w' h).1, (r3 w' h).2.up s38⟩
        have r9 : ∀ w' ∈ ws, w'.1 ≠ D ∧ RowAt K (upd H8 D (.lst (Ro (A ++ (B ++ C))))) w'.1 w'.2 := fun w' h => rowD_set (r8 w' h) e8D
        have e9 : (upd H8 D (.lst (Ro (A ++ (B ++ C))))) D = some (.lst (Ro (A ++ (B ++ C)))) := upd_same
        have sx9 : SameX D H2 (upd H8 D (.lst (Ro (A ++ (B ++ C))))) := (sx.tr s38).set
        generalize upd H8 D (.lst (Ro (A ++ (B ++ C)))) = H9 at r9 e9 sx9 ⊢
        refine ⟨.ref D, rfl, .inl ⟨rfl, _, SqL.of e9⟩, _, rfl, _, rfl, D, Ro (A ++ (B ++ C)), (f : Int), .ref w.1, rfl, rfl, e9, by rw [Ro_len]; exact small1000 (by omega), by omega, by omega, ?_⟩
        have ein : (Ro (A ++ (B ++ C))).take (f : Int).toNat ++ [V.ref w.1] ++ (Ro (A ++ (B ++ C))).drop (f : Int).toNat = Ro (A ++ w :: (B ++ C)) := by
          rw [Int.toNat_natCast, ← hA]
          unfold Ro
          rw [List.map_append, List.take_left' (List.length_map _), List.drop_left' (List.length_map _)]
          simp
        rw [ein]
        have r10 : ∀ w' ∈ ws, w'.1 ≠ D ∧ RowAt K (upd H9 D (.lst (Ro (A ++ w :: (B ++ C))))) w'.1 w'.2 := fun w' h => rowD_set (r9 w' h) e9
        have e10 : (upd H9 D (.lst (Ro (A ++ w :: (B ++ C))))) D = some (.lst (Ro (A ++ w :: (B ++ C)))) := upd_same
        have sx10 : SameX D H2 (upd H9 D (.lst (Ro (A ++ w :: (B ++ C))))) := sx9.set
        generalize upd H9 D (.lst (Ro (A ++ w :: (B ++ C)))) = H10 at r10 e10 sx10 ⊢
        have mA : ∀ x ∈ A, x ∈ ws := fun x hx => by rw [hws]; exact List.mem_append_left _ hx
        have mw : w ∈ ws := List.mem_of_getElem? hwk
        have mBC : ∀ x ∈ B ++ C, x ∈ ws := fun x hx => by
          rw [hws]
          rcases List.mem_append.mp hx with g | g
          · exact List.mem_append_right _ (List.mem_append_left _ g)
          · exact List.mem_append_right _ (List.mem_append_right _ (List.mem_cons_of_mem _ g))
        have hRI2 : RI n R ((A.map (·.2)) ++ w.2 :: ((B.map (·.2)) ++ (C.map (·.2))).map (elm n c w.2)) (c + 1) (f + 1) := by
          have h := hRI
          rw [hws, List.map_append, List.map_append, List.map_cons] at h
          exact h.next (by rw [List.length_map]; exact hA) hcn hne0
        have lBC : (B ++ C).length + f + 1 = ws.length := by
          simp only [List.length_append] at hsz ⊢
          omega
        generalize hBC : B ++ C = BC at e10 mBC lBC
        refine ⟨fun σ' H' => ∃ (v7 v8 : Option V) (ds : List (Addr × List Rat)), σ' = [some (.ref u), some (.ref D), some (.int (f : Nat)), some (.int (n' : Nat)), some (.int (0 + (c : Int))), some (.ref D5), some (.ref w.1), v7, v8, none] ∧ SameX D H10 H' ∧ H' D = some (.lst (Ro (A ++ w :: ds))) ∧ (∀ x ∈ ds, x.1 ≠ D ∧ RowAt K H' x.1 x.2) ∧ ds.map (·.2) = BC.map (fun x => elm n c w.2 x.2), ?_, ?_⟩
        · refine ⟨_, rfl, _, _, rfl, rfl, _, rfl, D, _, rfl, .inl (SqL.of e10), _, _, rfl, ⟨by omega, by omega, by omega, by rw [Ro_len, List.length_append, List.length_cons]; omega⟩, ?_⟩
          have enn : (((Ro (A ++ w :: BC)).length : Int) - ((f : Int) + 1)).toNat = BC.length := by
            rw [Ro_len, List.length_append, List.length_cons, hA]
            omega
          refine for_range (lo := (f : Int) + 1) (n := (((Ro (A ++ w :: BC)).length : Int) - ((f : Int) + 1)).toNat) (fun j σ' H' => ∃ (v7 v8 : Option V) (ds : List (Addr × List Rat)), σ' = [some (.ref u), some (.ref D), some (.int (f : Nat)), some (.int (n' : Nat)), some (.int (0 + (c : Int))), some (.ref D5), some (.ref w.1), v7, v8, none] ∧ SameX D H10 H' ∧ ds.length = j ∧ H' D = some (.lst (Ro ((A ++ w :: ds) ++ BC.drop j))) ∧ (∀ x ∈ ds, x.1 ≠ D ∧ RowAt K H' x.1 x.2) ∧ ds.map (·.2) = (BC.take j).map (fun x => elm n c w.2 x.2)) ⟨_, _, [], rfl, fun _ _ _ h => h, rfl, by rw [e10]; simp, (fun _ h => nomatch h), rfl⟩ ?_ ?_
          · rintro j σ' H11 hj ⟨v7, v8, ds, rfl, sx11, ld, e11, rd, md⟩
            rw [enn] at hj
            have hbj : BC[j]? = some BC[j] := List.getElem?_eq_getElem hj
            have hdj : BC.drop j = BC[j] :: BC.drop (j + 1) := List.drop_eq_getElem_cons hj
            generalize BC[j] = x at hbj hdj
            rw [hdj] at e11
            have mx := mBC x (List.mem_of_getElem? hbj)
            have old : ∀ y ∈ ws, y.1 ≠ D ∧ RowAt K H11 y.1 y.2 := fun y h => by
              obtain ⟨a1, us, a2, a3, a4⟩ := r10 y h
              exact ⟨a1, us, sx11 _ _ a1 a2, fun z hz => over_tup (a3 z hz) e10 sx11, a4⟩
            have lA : (A ++ w :: ds).length = f + 1 + j := by
              rw [List.length_append, List.length_cons, ld, hA]
              omega
            have hkx : ((f : Int) + 1 + (j : Int)) = ((f + 1 + j : Nat) : Int) := by omega
            have gx : (Ro ((A ++ w :: ds) ++ x :: BC.drop (j + 1)))[f + 1 + j]? = some (.ref x.1) := Ro_at (get_mid lA)
            obtain ⟨xs, x1, x2, x3⟩ := (old x mx).2
            obtain ⟨us, u1, u2, u3⟩ := (old w mw).2
            have lx := rl x mx
            have lw := rl w mw
            obtain ⟨fa, fa1, fa2, fa3⟩ := RowAt.get (K := K) x2 x3 (show c < x.2.length by omega)
            obtain ⟨fb, fb1, fb2, fb3⟩ := RowAt.get (K := K) u2 u3 (show c < w.2.length by omega)
            have bx : ∀ y ∈ x.2, Bd 191 y := fun y hy => ((hCB x mx).bd hy).up lbc
            have bw : ∀ y ∈ w.2, Bd 191 y := fun y hy => ((hCB w mw).bd hy).up lbc
            refine ⟨_, rfl, _, rfl, D, _, _, V.ref x.1, rfl, rfl, SqL.of e11, by rw [hkx]; exact atI_nat gx, _, rfl, x.1, _, _, V.ref fa, rfl, rfl, SqL.of x1, by rw [hc0]; exact atI_nat fa1, ?_⟩
            refine ⟨_, rfl, _, rfl, w.1, _, _, V.ref fb, rfl, rfl, SqL.of u1, by rw [hc0]; exact atI_nat fb1, ?_⟩
            refine ⟨fa, fb, x.2.getD c 0, w.2.getD c 0, rfl, fa2, fb2, (bx _ fa3).up (by decide), (bw _ fb3).up (by decide), hne0, fun H12 t12 s12 f12 => ?_⟩
            have bq := (bd_quo (bx _ fa3) (bw _ fb3) hne0).neg
            refine ⟨_, rfl, t12, _, 0, _, rfl, rfl, f12, atI_nat (j := 0) rfl, ?_⟩
            refine ⟨_, rfl, _, rfl, t12, _, 1, _, rfl, rfl, f12, atI_nat (j := 1) rfl, ?_⟩
            refine ⟨by show 2 ≤ sizeLine; decide, fun t13 n13 => ?_⟩
            have s13 := same_upd (o := .tup [.int (-(x.2.getD c 0 / w.2.getD c 0).num), .int ((x.2.getD c 0 / w.2.getD c 0).den : Int)]) n13
            have f13 : Fx K (upd H12 t13 (.tup [.int (-(x.2.getD c 0 / w.2.getD c 0).num), .int ((x.2.getD c 0 / w.2.getD c 0).den : Int)])) t13 (-(x.2.getD c 0 / w.2.getD c 0)) := by
              unfold Fx
              rw [Rat.neg_num, Rat.neg_den]
              exact SqT.of upd_same
            generalize upd H12 t13 (.tup [.int (-(x.2.getD c 0 / w.2.getD c 0).num), .int ((x.2.getD c 0 / w.2.getD c 0).den : Int)]) = H13 at s13 f13 ⊢
            have s1113 := s12.trans s13
            have e13 := s1113 _ _ e11
            generalize hq : -(x.2.getD c 0 / w.2.getD c 0) = q at f13 bq
            refine ⟨_, rfl, n', rfl, by omega, by omega, fun D14 hD14 => ?_⟩
            have hD14D : D14 ≠ D := fun e => by
              rw [e, e13] at hD14
              cases hD14
            refine lc_row (K := K) walk_range ((List.range n').map fun k => x.2.getD k 0 + q * w.2.getD k 0) (by simp) (by omega) hD14 (fun _ _ => trivial) ?_ ?_
            · rintro i o v H15 H16 kk ho s15 ⟨rfl, rfl⟩ kk2
              have hin : i < n' := by
                have := (List.getElem?_eq_some_iff.mp ho).1
                rw [List.length_map, List.length_range] at this
                exact this
              rw [List.getElem?_map, List.getElem?_range hin] at ho
              obtain rfl : x.2.getD i 0 + q * w.2.getD i 0 = o := Option.some.inj ho
              have hi0 : (0 : Int) + (i : Int) = (i : Int) := by omega
              have s1116 := s1113.trans s15
              obtain ⟨ga, ga1, ga2, ga3⟩ := RowAt.get (K := K) x2 x3 (show i < x.2.length by omega)
              obtain ⟨gb, gb1, gb2, gb3⟩ := RowAt.get (K := K) u2 u3 (show i < w.2.length by omega)
              refine ⟨rfl, ?_⟩
              refine ⟨_, rfl, _, rfl, D, _, _, V.ref x.1, rfl, rfl, SqL.of (s1116 _ _ e11), by rw [hkx]; exact atI_nat gx, _, rfl, x.1, _, _, V.ref ga, rfl, rfl, SqL.of (s1116 _ _ x1), by rw [hi0]; exact atI_nat ga1, ?_⟩
              refine ⟨_, rfl, _, rfl, _, rfl, w.1, _, _, V.ref gb, rfl, rfl, SqL.of (s1116 _ _ u1), by rw [hi0]; exact atI_nat gb1, ?_⟩
              refine ⟨t13, gb, q, w.2.getD i 0, rfl, f13.same s15, gb2.same s1116, bq.up (by decide), (bw _ gb3).up (by decide), fun H17 t17 s17 f17 => ?_⟩
              exact ⟨ga, t17, x.2.getD i 0, q * w.2.getD i 0, rfl, ga2.same (s1116.trans s17), f17, (bx _ ga3).up (by decide), (bq.mul (bw _ gb3)).up (by decide), fun H18 t18 s18 f18 => kk2 t18 H18 (s17.trans s18) f18⟩
            intro H15 vs s15 e15 r15 m15
            have s1115 := s1113.trans s15
            have e15D := s1115 _ _ e11
            have hrow : D14 ≠ D ∧ RowAt K H15 D14 (elm n c w.2 x.2) := ⟨hD14D, vs, e15, r15, by
              rw [m15, hnn]
              unfold elm
              rw [hq]⟩
            refine ⟨_, rfl, _, rfl, D, _, _, f + 1 + j, rfl, rfl, e15D, by rw [hkx, Ro_len]; exact ixN_nat (by rw [List.length_append, lA, List.length_cons]; omega), ?_⟩
            have eset : (Ro ((A ++ w :: ds) ++ x :: BC.drop (j + 1))).set (f + 1 + j) (V.ref D14) = Ro ((A ++ w :: (ds ++ [(D14, elm n c w.2 x.2)])) ++ BC.drop (j + 1)) := by
              unfold Ro
              rw [List.map_append, List.map_cons, set_mid (by rw [List.length_map]; exact lA)]
              simp
            rw [eset]
            refine ⟨_, _, ds ++ [(D14, elm n c w.2 x.2)], rfl, fun a o n e => ?_, by rw [List.length_append, ld]; rfl, upd_same, fun y hy => ?_, ?_⟩
            · rw [upd_ne n]
              exact s1115 _ _ (sx11 a o n e)
            · rcases List.mem_append.mp hy with g | g
              · exact rowD_set ⟨(rd y g).1, (rd y g).2.up s1115⟩ e15D
              · rw [List.mem_singleton.mp g]
                exact rowD_set hrow e15D
            · rw [List.map_append, md, List.take_add_one, hbj, List.map_append]
              rfl
          · rintro σ' H11 ⟨v7, v8, ds, rfl, sx11, ld, e11, rd, md⟩
            rw [enn, List.drop_length, List.append_nil] at e11
            rw [enn, List.take_length] at md
            exact ⟨v7, v8, ds, rfl, sx11, e11, rd, md⟩
        rintro σ' H11 ⟨v7, v8, ds, rfl, sx11, e11, rd, md⟩
        refine ⟨_, rfl, _, _, rfl, rfl, ?_⟩
        have old : ∀ x ∈ ws, x.1 ≠ D ∧ RowAt K H11 x.1 x.2 := fun x h => by
          obtain ⟨a1, us, a2, a3, a4⟩ := r10 x h
          refine ⟨a1, us, sx11 _ _ a1 a2, fun y hy => ?_, a4⟩
          exact over_tup (a3 y hy) e10 sx11
        have hup : ∀ x ∈ A ++ w :: ds, x.1 ≠ D ∧ RowAt K H11 x.1 x.2 := fun x hx => by
          rcases List.mem_append.mp hx with g | g
          · exact old x (mA x g)
          · rcases List.mem_cons.mp g with g | g
            · rw [g]
              exact old w mw
            · exact rd x g
        refine ⟨f + 1, _, _, _, _, _, A ++ w :: ds, rfl, fun a o n e => sx11 a o n (sx10 a o n e), e11, hup, ?_, fun x hx => ?_⟩
        · rw [List.map_append, List.map_cons, md, ← hBC]
          have e : (B ++ C).map (fun x : Addr × List Rat => elm n c w.2 x.2) = ((B.map (·.2)) ++ (C.map (·.2))).map (elm n c w.2) := by
            rw [← List.map_append, List.map_map]
            rfl
          rw [e]
          exact hRI2
        · have hcw := hCB w mw
          rcases List.mem_append.mp hx with g | g
          · exact (hCB x (mA x g)).up (by show _ ≤ 2 * lbb c + 1; omega)
          · rcases List.mem_cons.mp g with g | g
            · rw [g]
              exact hcw.up (by show _ ≤ 2 * lbb c + 1; omega)
            · have hx2 : x.2 ∈ BC.map (fun x => elm n c w.2 x.2) := by
                rw [← md]
                exact List.mem_map_of_mem g
              obtain ⟨y, hy, e⟩ := List.mem_map.mp hx2
              rw [← e]
              exact (hCB y (mBC y hy)).elm hcw hne0
      · rintro σ' H3 ⟨f, v4, v5, v6, v7, v8, ws, rfl, sx, e3, r3, hRI, hCB⟩
        refine ⟨f, _, _, _, _, _, rfl, sx, ?_⟩
        by_cases hR0 : R = []
        · subst hR0
          rw [if_pos rfl] at hn'
          subst hn'
          have hw0 : ws.map (·.2) = [] := List.length_eq_zero_iff.mp hRI.cnt
          have : RI n [] (ws.map (·.2)) n f := ⟨hRI.len, hRI.cnt, hRI.spn, hRI.few, by
            obtain ⟨E, e1, e2, e3⟩ := hRI.ech
            exact ⟨E, e1, e2, fun p hp => absurd (e3 p hp) (Nat.not_lt_zero _)⟩, fun r hr => by rw [hw0, List.drop_nil] at hr; cases hr⟩
          exact this.done
        · rw [if_neg hR0] at hn'
          subst hn'
          exact hRI.done
    rintro σ' H3 ⟨f, v4, v5, v6, v7, v8, rfl, sx, hf⟩
    exact ⟨_, rfl, fin H3 f sx hf⟩
def spLLawEquations (K : PySem.W.Frag) : Sp := fun vs H Q _ => ∃ (s : Addr) (ns : List Int) (a m n : Nat) (pl : Addr) (pts : List Rat), vs = [.ref s, .int a, .int m, .int n, .ref pl] ∧ SqL K H s (zs ns) ∧ RowAt K H pl pts ∧ PtOk m pts ∧ m ≤ 5 ∧ n ≤ 7 ∧
  ∀ (H' : Hp) (t : Addr) (es : List (Addr × (List Rat × Rat))), Same H H' → H' t = some (.lst (Ro es)) → (∀ w ∈ es, EqD K t H' w.1 w.2) → (∀ w ∈ es, EqOk m pts w.2) → es.length = n → Q (.ref t) H'
theorem okLLawEquations {fLLawEquations : Addr} {fdLLawEquations : FuncData} (F : Fun K "_law_equations" "_law_equations" sLLawEquations fLLawEquations fdLLawEquations) (T : Txt mg) {aZERO : Addr} {aONE : Addr} (CT : Cons K mg aZERO aONE) {CPartError CNought : Addr} (EX : Exns K mg CPartError CNought)
    {fLLawRow : Addr} {fdLLawRow : FuncData} (GLLawRow : FnOk P w K mg base CX0 1 fLLawRow fdLLawRow ["cell", "size", "base"] (spLLawRow K)) (gLLawRow : mg "_law_row" = some (.ref fLLawRow)) (kpLLawRow : PySem.W.keepIn K (.ref fLLawRow) = true) (bLLawRow : Binds K fdLLawRow ["cell", "size", "base"] [])
    {fLLawCell : Addr} {fdLLawCell : FuncData} (GLLawCell : FnOk P w K mg base CX0 1 fLLawCell fdLLawCell ["script", "k"] (spLLawCell K)) (gLLawCell : mg "_law_cell" = some (.ref fLLawCell)) (kpLLawCell : PySem.W.keepIn K (.ref fLLawCell) = true) (bLLawCell : Binds K fdLLawCell ["script", "k"] [])
    {fLLawPlus : Addr} {fdLLawPlus : FuncData} (GLLawPlus : FnOk P w K mg base CX0 2 fLLawPlus fdLLawPlus ["a", "b"] (spLLawPlus K)) (gLLawPlus : mg "_law_plus" = some (.ref fLLawPlus)) (kpLLawPlus : PySem.W.keepIn K (.ref fLLawPlus) = true) (bLLawPlus : Binds K fdLLawPlus ["a", "b"] [])
    {fLLawTimes : Addr} {fdLLawTimes : FuncData} (GLLawTimes : FnOk P w K mg base CX0 2 fLLawTimes fdLLawTimes ["a", "b"] (spLLawTimes K)) (gLLawTimes : mg "_law_times" = some (.ref fLLawTimes)) (kpLLawTimes : PySem.W.keepIn K (.ref fLLawTimes) = true) (bLLawTimes : Binds K fdLLawTimes ["a", "b"] []) :
    FnOk P w K mg base CX0 3 fLLawEquations fdLLawEquations ["script", "first", "many", "count", "point"] (spLLawEquations K) := by
  refine F.ok scLLawEquations (fun vs H Q E h => ?_) (fun cdv A outer s H vs Q E hr h => ?_)
  · obtain ⟨s, ns, a, m, n, pl, pts, rfl, hS, hP, hpt, hm, hn, k⟩ := h
    rfl
  · obtain ⟨s, ns, a, m, n, pl, pts, rfl, hS, hP, hpt, hm, hn, k⟩ := h
    refine ⟨_, (pss_cons (ps_set (i := 5) scLLawEquations.nd rfl (Or.inl rfl) (pe_lst pa_nil))
      (C8.pss_cut (ps_for PassesOwn.never rfl (pi_range1 rfl T.range (pa_cons (pv 3) pa_nil)) (pg_name (i := 6) scLLawEquations.nd rfl (Or.inl rfl))
        (pss_cons (ps_set (i := 7) scLLawEquations.nd rfl (Or.inr rfl) (pe_call GLLawRow (hr.mono (by decide)) (by rfl) gLLawRow kpLLawRow bLLawRow .nil pass0 (pa_cons (pe_call GLLawCell (hr.mono (by decide)) (by rfl) gLLawCell kpLLawCell bLLawCell .nil pass0 (pa_cons (pv 0) (pa_cons (pe_op op_add (pv 1) (pv 6)) pa_nil))) (pa_cons (pe_op op_add (pv 2) pe_int) (pa_cons pe_int pa_nil)))))
        (pss_cons (ps_setLc (i := 8) (own := [("at", 11)]) (by rfl) scLLawEquations.nd rfl rfl (sw_true rfl rfl rfl (by decide +kernel)) (pi_range1 rfl T.range (pa_cons (pv 2) pa_nil)) (blkOk_by (own := [("at", 11)]) (N := ["script", "first", "many", "count", "point", "rows", "k", "draw", "row", "other", "bound", "at", "part"]) (sc := defScope sLLawEquations) (by decide +kernel)) (fun _ _ _ _ _ => (pg_name (i := 11) scLLawEquations.nd rfl (Or.inl rfl))) (fun _ _ _ _ _ => pts_nil) (fun _ _ _ _ _ => (pe_tup (pa_cons (pe_op op_sub (pe_op op_mod (pe_ix (show IxR _ (rIxL K) from ix_list) (pv 7) (pv 11) (fun _ _ => rfl)) pe_int) pe_int) (pa_cons pe_int pa_nil)))))
        (C8.pss_cut (ps_if (PW.pt (pw_and (pt_cmpR (op_neD hr.units) (pv 5) (pe_lst pa_nil) (nomark _)) (pw_and1 (pt_cmpR op_eq (pe_op op_mod (pe_ix ix_list (pv 7) (pv 2) (fun _ _ => rfl)) pe_int) pe_int (nomark _)))))
          (pss_cons (ps_set (i := 9) scLLawEquations.nd rfl (Or.inl rfl) (pe_ix ix_tup (pe_ix ix_list (pv 5) (pe_op op_modN (pe_op op_fdiv (pe_ix ix_list (pv 7) (pv 2) (fun _ _ => rfl)) pe_int) (pe_callB call_len_seq (by rfl) T.len PySem.boot_len (pa_cons (pv 5) pa_nil))) (fun _ _ => rfl)) pe_int (fun _ _ => rfl)))
          (pss_one (ps_setLc (i := 8) (own := [("part", 12)]) (by rfl) scLLawEquations.nd rfl rfl (sw_true rfl rfl rfl (by decide +kernel)) (pi_list (pv 9)) (blkOk_by (own := [("part", 12)]) (N := ["script", "first", "many", "count", "point", "rows", "k", "draw", "row", "other", "bound", "at", "part"]) (sc := defScope sLLawEquations) (by decide +kernel)) (fun _ _ _ _ _ => (pg_name (i := 12) scLLawEquations.nd rfl (Or.inl rfl))) (fun _ _ _ _ _ => pts_nil) (fun _ _ _ _ _ => (pe_call GLLawTimes hr (by rfl) gLLawTimes kpLLawTimes bLLawTimes .nil pass0 (pa_cons (pe_tup (pa_cons (pe_op op_sub (pe_op op_mod (pe_ix (show IxR _ (rIxL K) from ix_list) (pv 7) (pe_op op_add (pv 2) pe_int) (fun _ _ => rfl)) pe_int) pe_int) (pa_cons pe_int pa_nil))) (pa_cons (pv 12) pa_nil)))))))
          pss_nil)
        (pss_cons (ps_set (i := 10) scLLawEquations.nd rfl (Or.inl rfl) (pe_tup (pa_cons pe_int (pa_cons pe_int pa_nil))))
        (C8.pss_cut (ps_for PassesOwn.never rfl (pi_range1 rfl T.range (pa_cons (pv 2) pa_nil)) (pg_name (i := 11) scLLawEquations.nd rfl (Or.inl rfl))
          (pss_one (ps_set (i := 10) scLLawEquations.nd rfl (Or.inl rfl) (pe_call GLLawPlus hr (by rfl) gLLawPlus kpLLawPlus bLLawPlus .nil pass0 (pa_cons (pv 10) (pa_cons (pe_call GLLawTimes hr (by rfl) gLLawTimes kpLLawTimes bLLawTimes .nil pass0 (pa_cons (pe_ix ix_list (pv 8) (pv 11) (fun _ _ => rfl)) (pa_cons (pe_ix ix_list (pv 4) (pv 11) (fun _ _ => rfl)) pa_nil))) pa_nil))))))
        (pss_one (ps_expr (pe_bm PySem.F.plainAttrs_list PySem.F.slot_list_append PySem.F.type_list_append mt_append (pv 5) (pa_cons (pe_tup (pa_cons (pv 8) (pa_cons (pv 10) pa_nil))) pa_nil))))))))))
      (pss_one (ps_ret (pv 5))))), ?_⟩
    have n3 : ∀ a b : Int, 0 < b → 0 ≤ a % b ∧ a % b < b := fun a b h => ⟨Int.emod_nonneg a (by omega), Int.emod_lt_of_pos a h⟩
    refine ⟨by show 0 ≤ sizeLine; decide, fun D nD => ?_⟩
    have sD := same_upd (o := .lst []) nD
    have eD : (upd H D (.lst [])) D = some (.lst []) := upd_same
    generalize upd H D (.lst []) = H0 at sD eD ⊢
    have hDs : ∀ {H1 H' : Hp} {t : Addr} {o : HO}, SameX D H0 H1 → H t = some o → H1 t = some o := fun sx e => sx _ _ (fun z => by rw [z, nD] at e; cases e) (sD _ _ e)
    refine ⟨fun σ' H' => ∃ (v6 v7 v8 v9 v10 v11 : Option V) (es : List (Addr × (List Rat × Rat))), σ' = [some (.ref s), some (.int (a : Nat)), some (.int (m : Nat)), some (.int (n : Nat)), some (.ref pl), some (.ref D), v6, v7, v8, v9, v10, v11, none] ∧ SameX D H0 H' ∧ H' D = some (.lst (Ro es)) ∧ (∀ w ∈ es, EqD K D H' w.1 w.2) ∧ (∀ w ∈ es, EqOk m pts w.2) ∧ es.length = n, ?_, ?_⟩
    · refine ⟨_, rfl, n, rfl, by omega, by omega, for_range (n := n) (fun i σ' H' => ∃ (v6 v7 v8 v9 v10 v11 : Option V) (es : List (Addr × (List Rat × Rat))), σ' = [some (.ref s), some (.int (a : Nat)), some (.int (m : Nat)), some (.int (n : Nat)), some (.ref pl), some (.ref D), v6, v7, v8, v9, v10, v11, none] ∧ SameX D H0 H' ∧ H' D = some (.lst (Ro es)) ∧ (∀ w ∈ es, EqD K D H' w.1 w.2) ∧ (∀ w ∈ es, EqOk m pts w.2) ∧ es.length = i) ⟨_, _, _, _, _, _, [], rfl, fun _ _ _ h => h, eD, (fun _ h => nomatch h), (fun _ h => nomatch h), rfl⟩ ?_ (fun _ _ h => h)⟩
      rintro i σ' H1 hi ⟨v6, v7, v8, v9, v10, v11, es, rfl, sx1, e1, r1, o1, l1⟩
      have hS1 : SqL K H1 s (zs ns) := (same_ofX nD sD sx1).seq hS
      have hP1 : RowAt K H1 pl pts := hP.up (same_ofX nD sD sx1)
      have hPD : pl ≠ D := hP.ne nD
      refine ⟨_, rfl, _, rfl, _, rfl, _, _, rfl, rfl, s, ns, a + i, ?_, hS1, fun cell _ => ?_⟩
      · show [V.ref s, V.int ((a : Int) + (0 + (i : Int)))] = [V.ref s, V.int ((a + i : Nat) : Int)]
        rw [show (a : Int) + (0 + (i : Int)) = ((a + i : Nat) : Int) by omega]
      refine ⟨_, rfl, _, _, rfl, rfl, cell, 1000, m + 2, ?_, by decide, by decide, by omega, fun H2 dl rs s2 _ e2 lr rr => ?_⟩
      · show [V.int cell, V.int ((m : Int) + 2), V.int 1000] = [V.int cell, V.int ((m + 2 : Nat) : Int), V.int 1000]
        rw [show (m : Int) + 2 = ((m + 2 : Nat) : Int) by omega]
      have sx2 := sx1.tr s2
      refine ⟨_, rfl, m, rfl, by omega, by omega, fun D3 nD3 => ?_⟩
      have hD3 : D3 ≠ D := fun e => by
        rw [e, s2 _ _ e1] at nD3
        cases nD3
      refine lc_row (K := K) walk_range ((List.range m).map fun k => ((rs.getD k 0 % 5 - 2 : Int) : Rat)) (by simp) (by omega) nD3 (fun _ _ => trivial) ?_ ?_
      · rintro j c v H4 H5 kk hc s4 ⟨rfl, rfl⟩ kk2
        have hj : j < m := by
          have := (List.getElem?_eq_some_iff.mp hc).1
          rw [List.length_map, List.length_range] at this
          exact this
        rw [List.getElem?_map, List.getElem?_range hj] at hc
        obtain rfl : ((rs.getD j 0 % 5 - 2 : Int) : Rat) = c := Option.some.inj hc
        refine ⟨rfl, ?_⟩
        refine ⟨_, rfl, _, rfl, dl, _, _, V.int (rs.getD j 0), rfl, rfl, SqL.of (s4 _ _ e2), by rw [show (0 : Int) + (j : Int) = (j : Int) by omega]; exact zs_atD (by omega), ?_⟩
        refine ⟨_, _, rfl, rfl, by show (0 : Int) < 5; decide, _, _, rfl, rfl, by show 2 ≤ sizeLine; decide, fun t nt => ?_⟩
        exact kk2 t _ (same_upd nt) (fx_intE upd_same)
      intro H3 ws s3 e3 r3 m3
      have sx3 := sx2.tr s3
      have hF0 : ∀ x ∈ (List.range m).map (fun k => ((rs.getD k 0 % 5 - 2 : Int) : Rat)), ∃ F : Int, x = (F : Rat) ∧ F.natAbs ≤ 2 := fun x hx => by
        obtain ⟨k, _, rfl⟩ := List.mem_map.mp hx
        have := n3 (rs.getD k 0) 5 (by decide)
        exact ⟨_, rfl, by omega⟩
      have row0 : RowAt K H3 D3 ((List.range m).map fun k => ((rs.getD k 0 % 5 - 2 : Int) : Rat)) := ⟨ws, e3, r3, m3⟩
      have len0 : ((List.range m).map fun k => ((rs.getD k 0 % 5 - 2 : Int) : Rat)).length = m := by rw [List.length_map, List.length_range]
      generalize ((List.range m).map fun k => ((rs.getD k 0 % 5 - 2 : Int) : Rat)) = cs0 at hF0 row0 len0
      have s23 := s2.trans s3
      have e3D := s23 _ _ e1
      have r3D : ∀ w ∈ es, EqD K D H3 w.1 w.2 := fun w hw => (r1 w hw).up s23
      have edl := s3 _ _ e2
      have dlD : dl ≠ D := fun e => by
        rw [e, s2 _ _ e1] at e2
        injection e2 with e2
        injection e2 with e2
        have l2 := congrArg List.length e2
        rw [Ro_len, List.length_map, lr] at l2
        have h0 : (zs rs)[0]? = some (.int (rs.getD 0 0)) := by
          rw [show zs rs = rs.map V.int from rfl, List.getElem?_map, List.getElem?_eq_getElem (show 0 < rs.length by omega), List.getD_eq_getElem?_getD, List.getElem?_eq_getElem (show 0 < rs.length by omega)]
          rfl
        rw [← e2] at h0
        obtain ⟨w, hw, _⟩ := Ro_get h0
        cases hw
      refine ⟨fun σ' H' => ∃ (v9 : Option V) (ra : Addr) (cs : List Rat), σ' = [some (.ref s), some (.int (a : Nat)), some (.int (m : Nat)), some (.int (n : Nat)), some (.ref pl), some (.ref D), some (.int (0 + (i : Int))), some (.ref dl), some (.ref ra), v9, v10, v11, none] ∧ Same H3 H' ∧ RowAt K H' ra cs ∧ ra ≠ D ∧ cs.length = m ∧ ∀ x ∈ cs, ∃ F : Int, x = (F : Rat) ∧ F.natAbs ≤ 2, ?_, ?_⟩
      · have keep : ∀ H', Same H3 H' → ∃ (v9' : Option V) (ra : Addr) (cs : List Rat), [some (V.ref s), some (.int (a : Nat)), some (.int (m : Nat)), some (.int (n : Nat)), some (.ref pl), some (.ref D), some (.int (0 + (i : Int))), some (.ref dl), some (.ref D3), v9, v10, v11, none] = [some (.ref s), some (.int (a : Nat)), some (.int (m : Nat)), some (.int (n : Nat)), some (.ref pl), some (.ref D), some (.int (0 + (i : Int))), some (.ref dl), some (.ref ra), v9', v10, v11, none] ∧ Same H3 H' ∧ RowAt K H' ra cs ∧ ra ≠ D ∧ cs.length = m ∧ ∀ x ∈ cs, ∃ F : Int, x = (F : Rat) ∧ F.natAbs ≤ 2 := fun H' sH => ⟨_, D3, cs0, rfl, sH, row0.up sH, hD3, len0, hF0⟩
        refine ⟨_, rfl, by show 0 ≤ sizeLine; decide, fun L8 n8 => ?_⟩
        have s8 := same_upd (o := .lst []) n8
        have e8 : (upd H3 L8 (.lst [])) L8 = some (.lst []) := upd_same
        generalize upd H3 L8 (.lst []) = H8 at s8 e8 ⊢
        refine ⟨pdes (es.map fun w : Addr × (List Rat × Rat) => w.2), pdes [], .lst (SqL.of (s8 _ _ e3D)) (dp_es (K := K) fun w hw => ((r3D w hw).up s8).any), .lst (SqL.of e8) .nil, shesl _, shesl _, ?_⟩
        rw [eq_noes]
        refine ⟨_, rfl, ?_⟩
        by_cases hes : es = []
        · refine iteF' (by rw [hes]; rfl) ?_
          exact keep H8 s8
        have hpos : 0 < es.length := List.length_pos_iff.mpr hes
        refine iteT' (by rw [decide_eq_false (fun z => hes (List.map_eq_nil_iff.mp z))]; rfl) ?_
        refine ⟨_, rfl, _, rfl, dl, _, _, V.int (rs.getD m 0), rfl, rfl, SqL.of (s8 _ _ edl), zs_atD (by omega), ?_⟩
        refine ⟨_, _, rfl, rfl, by show (0 : Int) < 4; decide, rfl, _, rfl, ite2 (fun g => ?_) (fun g => ?_)⟩
        rotate_left
        · exact keep H8 s8
        have ix0 := Int.fmod_nonneg_of_pos (rs.getD m 0 / 4) (b := (es.length : Int)) (by omega)
        have ix1 := Int.fmod_lt_of_pos (rs.getD m 0 / 4) (b := (es.length : Int)) (by omega)
        obtain ⟨jx, hjx⟩ : ∃ j : Nat, (rs.getD m 0 / 4).fmod (es.length : Int) = (j : Int) := ⟨((rs.getD m 0 / 4).fmod (es.length : Int)).toNat, by omega⟩
        have hjl : jx < es.length := by omega
        have hw : es[jx]? = some es[jx] := List.getElem?_eq_getElem hjl
        generalize es[jx] = w at hw
        obtain ⟨ou, ov, o0, o1', o2, o3⟩ := (r3D w (List.mem_of_getElem? hw)).up s8
        obtain ⟨c1, c2, _⟩ := o1 w (List.mem_of_getElem? hw)
        refine ⟨_, rfl, _, rfl, _, rfl, dl, _, _, V.int (rs.getD m 0), rfl, rfl, SqL.of (s8 _ _ edl), zs_atD (by omega), ?_⟩
        refine ⟨_, _, rfl, rfl, ⟨by decide, by decide⟩, _, rfl, D, _, rfl, .inl (SqL.of (s8 _ _ e3D)), _, _, rfl, rfl, by rw [Ro_len]; show (es.length : Int) ≠ 0; omega, ?_⟩
        refine ⟨D, _, _, V.ref w.1, rfl, rfl, SqL.of (s8 _ _ e3D), by rw [Ro_len, hjx]; exact atI_nat (Ro_at hw), ?_⟩
        refine ⟨w.1, _, 0, _, rfl, rfl, o1', atI_nat (j := 0) rfl, ?_⟩
        obtain ⟨us, u1, u2, u3⟩ := o2
        refine ⟨_, rfl, ou, rfl, ⟨_, SqL.of u1⟩, fun D9 nD9 => ?_⟩
        have hz := n3 (rs.getD (m + 1) 0) 3 (by decide)
        refine lc_row (K := K) (walk_list (K := K) (a := ou) (xs := fr us)) (w.2.1.map fun x => ((rs.getD (m + 1) 0 % 3 - 1 : Int) : Rat) * x) (by rw [List.length_map, fr_len, ← u3, List.length_map]) (by rw [fr_len, ← List.length_map (f := fun w : Addr × Rat => w.2), u3, c1]; omega) nD9 (fun H2 s2 => SqL.of (s2 _ _ u1)) ?_ ?_
        · rintro j c v H10 H11 kk hc s10 ⟨rfl, hg⟩ kk2
          obtain ⟨w', rfl, hw'⟩ := fr_get hg
          rw [← u3, List.getElem?_map, List.getElem?_map, hw'] at hc
          obtain rfl : ((rs.getD (m + 1) 0 % 3 - 1 : Int) : Rat) * w'.2 = c := Option.some.inj hc
          have m1 : w' ∈ us := List.mem_of_getElem? hw'
          obtain ⟨F, f1, f2⟩ := c2 w'.2 (by rw [← u3]; exact List.mem_map_of_mem m1)
          refine ⟨rfl, ?_⟩
          refine ⟨_, rfl, _, rfl, _, _, rfl, rfl, dl, _, _, V.int (rs.getD (m + 1) 0), rfl, rfl, SqL.of (s10 _ _ (s8 _ _ edl)), by rw [show (m : Int) + 1 = ((m + 1 : Nat) : Int) by omega]; exact zs_atD (by omega), ?_⟩
          refine ⟨_, _, rfl, rfl, by show (0 : Int) < 3; decide, _, _, rfl, rfl, by show 2 ≤ sizeLine; decide, fun t nt => ?_⟩
          have st := same_upd (o := .tup [.int (rs.getD (m + 1) 0 % 3 - 1), .int 1]) nt
          refine ⟨_, rfl, t, w'.1, ((rs.getD (m + 1) 0 % 3 - 1 : Int) : Rat), w'.2, rfl, fx_intE upd_same, (u2 w' m1).same (s10.trans st), ?_, ?_, fun H12 t12 s12 f12 => kk2 t12 H12 (st.trans s12) f12⟩
          · exact Bd.up (n := 4) ⟨by show (rs.getD (m + 1) 0 % 3 - 1 : Int).natAbs < 16; omega, by show 1 < 16; decide⟩ (by decide)
          · rw [f1]
            exact Bd.up (n := 4) ⟨by show F.natAbs < 16; omega, by show 1 < 16; decide⟩ (by decide)
        intro H9 vs s9 e9 r9 m9
        refine ⟨_, D9, _, rfl, s8.trans s9, ⟨vs, e9, r9, m9⟩, fun e => ?_, by rw [List.length_map, c1], fun x hx => ?_⟩
        · rw [e, s8 _ _ e3D] at nD9
          cases nD9
        · obtain ⟨y, hy, rfl⟩ := List.mem_map.mp hx
          obtain ⟨F, f1, f2⟩ := c2 y hy
          refine ⟨(rs.getD (m + 1) 0 % 3 - 1) * F, by rw [f1, Rat.intCast_mul], ?_⟩
          rw [Int.natAbs_mul]
          have : (rs.getD (m + 1) 0 % 3 - 1).natAbs ≤ 1 := by omega
          have := Nat.mul_le_mul this f2
          omega
      rintro σ' H4 ⟨v9', ra, cs, rfl, s4, hra, raD, lcs, hF⟩
      have s14 := s23.trans s4
      have hP4 := hP1.up s14
      obtain ⟨us, u1, u2, u3⟩ := hra
      obtain ⟨ps, p1, p2, p3⟩ := hP4
      have e4D := s14 _ _ e1
      refine ⟨by show 2 ≤ sizeLine; decide, fun t5 n5 => ?_⟩
      have s5 := same_upd (o := .tup [.int 0, .int 1]) n5
      have f5 : Fx K (upd H4 t5 (.tup [.int 0, .int 1])) t5 0 := fx_lit0 upd_same
      generalize upd H4 t5 (.tup [.int 0, .int 1]) = H5 at s5 f5 ⊢
      have hb12 := sum12 (m := m) hF fun x hx => (hpt.2 x hx).1
      refine ⟨fun σ' H' => ∃ (tb : Addr) (v11 : Option V), σ' = [some (.ref s), some (.int (a : Nat)), some (.int (m : Nat)), some (.int (n : Nat)), some (.ref pl), some (.ref D), some (.int (0 + (i : Int))), some (.ref dl), some (.ref ra), v9', some (.ref tb), v11, none] ∧ Same H5 H' ∧ Fx K H' tb (sN (fun k => cs.getD k 0 * pts.getD k 0) m), ?_, ?_⟩
      · refine ⟨_, rfl, m, rfl, by omega, by omega, for_range (n := m) (fun j σ' H' => ∃ (tb : Addr) (v11 : Option V), σ' = [some (.ref s), some (.int (a : Nat)), some (.int (m : Nat)), some (.int (n : Nat)), some (.ref pl), some (.ref D), some (.int (0 + (i : Int))), some (.ref dl), some (.ref ra), v9', some (.ref tb), v11, none] ∧ Same H5 H' ∧ Fx K H' tb (sN (fun k => cs.getD k 0 * pts.getD k 0) j)) ⟨t5, _, rfl, Same.refl _, f5⟩ ?_ (fun _ _ h => h)⟩
        rintro j σ' H6 hj ⟨tb, v11, rfl, s6, f6⟩
        have s46 := s5.trans s6
        have hj0 : (0 : Int) + (j : Int) = (j : Int) := by omega
        obtain ⟨ga, ga1, ga2, ga3⟩ := RowAt.get (K := K) u2 u3 (show j < cs.length by omega)
        obtain ⟨gb, gb1, gb2, gb3⟩ := RowAt.get (K := K) p2 p3 (show j < pts.length by have := hpt.1; omega)
        have ba : Bd 4 (cs.getD j 0) := by
          obtain ⟨F, f1, f2⟩ := hF _ ga3
          rw [f1]
          exact ⟨by show F.natAbs < 16; omega, by show 1 < 16; decide⟩
        have bb := (hpt.2 _ gb3).2
        have bs : Bd 12 (sN (fun k => cs.getD k 0 * pts.getD k 0) j) := by
          obtain ⟨N, n1, n2⟩ := hb12 j
          exact bd_over (D := 12) (by decide) (by decide) n1 (by show _ < 4096; omega)
        refine ⟨_, rfl, _, rfl, _, rfl, ra, _, _, V.ref ga, rfl, rfl, SqL.of (s46 _ _ u1), by rw [hj0]; exact atI_nat ga1, ?_⟩
        refine ⟨_, rfl, _, rfl, pl, _, _, V.ref gb, rfl, rfl, SqL.of (s46 _ _ p1), by rw [hj0]; exact atI_nat gb1, ?_⟩
        refine ⟨ga, gb, cs.getD j 0, pts.getD j 0, rfl, ga2.same s46, gb2.same s46, ba.up (by decide), bb.up (by decide), fun H7 t7 s7 f7 => ?_⟩
        refine ⟨tb, t7, _, _, rfl, f6.same s7, f7, bs.up (by decide), (ba.mul bb).up (by decide), fun H8 t8 s8 f8 => ?_⟩
        exact ⟨t8, _, rfl, s6.trans (s7.trans s8), f8⟩
      rintro σ' H6 ⟨tb, v11, rfl, s6, f6⟩
      have s46 := s5.trans s6
      have e6D := s46 _ _ e4D
      refine ⟨.ref D, rfl, .inl ⟨rfl, _, SqL.of e6D⟩, _, rfl, _, rfl, by show 2 ≤ sizeLine; decide, fun t7 n7 => ?_⟩
      have s7 := same_upd (o := .tup [.ref ra, .ref tb]) n7
      have e7 : (upd H6 t7 (.tup [.ref ra, .ref tb])) t7 = some (.tup [.ref ra, .ref tb]) := upd_same
      generalize upd H6 t7 (.tup [.ref ra, .ref tb]) = H7 at s7 e7 ⊢
      have e7D := s7 _ _ e6D
      refine ⟨D, _, _, rfl, rfl, e7D, by rw [Ro_len]; exact small1000 (by omega), ?_⟩
      have s17 := s14.trans (s46.trans s7)
      have keepD : ∀ {t' e'}, EqD K D H7 t' e' → EqD K D (upd H7 D (.lst (Ro es ++ [.ref t7]))) t' e' := fun h => h.over e7D fun b o hb e => by rw [upd_ne hb]; exact e
      refine ⟨_, _, _, _, _, _, es ++ [(t7, (cs, sN (fun k => cs.getD k 0 * pts.getD k 0) m))], rfl, (sx1.tr s17).set, ?_, fun w hw => ?_, fun w hw => ?_, by rw [List.length_append, l1]; rfl⟩
      · rw [upd_same]
        unfold Ro
        rw [List.map_append]
        rfl
      · rcases List.mem_append.mp hw with g | g
        · exact keepD ((r1 w g).up s17)
        · rw [List.mem_singleton.mp g]
          exact keepD ⟨ra, tb, raD, SqT.of e7, ⟨us, (s46.trans s7) _ _ u1, u2.same (s46.trans s7), u3⟩, f6.same s7⟩
      · rcases List.mem_append.mp hw with g | g
        · exact o1 w g
        · rw [List.mem_singleton.mp g]
          exact ⟨lcs, hF, rfl⟩
    rintro σ' H1 ⟨v6, v7, v8, v9, v10, v11, es, rfl, sx1, e1, r1, o1, l1⟩
    exact ⟨_, rfl, k H1 D es (same_ofX nD sD sx1) e1 r1 o1 l1⟩
/-- with the bounds of the first k + 1 equations there is a row of nothing that says something -/
def NU (m : Nat) (L : List (List Rat × Rat)) (k : Nat) : Prop := ∃ v, Spn (inL (m + 1) ((L.take (k + 1)).map auE)) v ∧ Ld v m
def spLLawFirst (K : PySem.W.Frag) : Sp := fun vs H Q _ => ∃ (u : Addr) (m : Nat) (es : List (Addr × (List Rat × Rat))), vs = [.ref u] ∧ SqL K H u (Ro es) ∧ (∀ w ∈ es, EqAt K H w.1 w.2) ∧ (∀ w ∈ es, w.2.1.length = m ∧ CB 11 (auE w.2)) ∧ m ≤ 4 ∧ es.length ≤ 7 ∧
  (∀ H', Same H H' → (∀ k < es.length, ¬ NU m (es.map (·.2)) k) → Q .non H') ∧ ∀ (H' : Hp) (i : Nat), Same H H' → i < es.length → NU m (es.map (·.2)) i → (∀ k < i, ¬ NU m (es.map (·.2)) k) → Q (.int (i : Nat)) H'
theorem okLLawFirst {fLLawFirst : Addr} {fdLLawFirst : FuncData} (F : Fun K "_law_first" "_law_first" sLLawFirst fLLawFirst fdLLawFirst) (T : Txt mg) {aZERO : Addr} {aONE : Addr} (CT : Cons K mg aZERO aONE) {CPartError CNought : Addr} (EX : Exns K mg CPartError CNought)
    {fLLawRank : Addr} {fdLLawRank : FuncData} (GLLawRank : FnOk P w K mg base CX0 3 fLLawRank fdLLawRank ["rows"] (spLLawRank K)) (gLLawRank : mg "_law_rank" = some (.ref fLLawRank)) (kpLLawRank : PySem.W.keepIn K (.ref fLLawRank) = true) (bLLawRank : Binds K fdLLawRank ["rows"] []) :
    FnOk P w K mg base CX0 4 fLLawFirst fdLLawFirst ["rows"] (spLLawFirst K) := by
  refine F.ok scLLawFirst (fun vs H Q E h => ?_) (fun cdv A outer s H vs Q E hr h => ?_)
  · obtain ⟨u, m, es, rfl, h1, h2, h3, hm, h7, k1, k2⟩ := h
    rfl
  · obtain ⟨u, m, es, rfl, h1, h2, h3, hm, h7, k1, k2⟩ := h
    refine ⟨_, (C8.pss_cut (ps_for PassesOwn.never rfl (pi_range1 rfl T.range (pa_cons (pe_callB call_len_seq (by rfl) T.len PySem.boot_len (pa_cons (pv 0) pa_nil)) pa_nil)) (pg_name (i := 1) scLLawFirst.nd rfl (Or.inl rfl))
        (pss_cons (ps_set (i := 2) scLLawFirst.nd rfl (Or.inl rfl) (pe_slice sl_list (pv 0) po_none (po_some (pe_op op_add (pv 1) pe_int))))
        (pss_one (ps_if (pt_cmpR op_gt (pe_call GLLawRank hr (by rfl) gLLawRank kpLLawRank bLLawRank .nil pass0 (pa_cons (pe_lc (own := [("row", 3)]) (by rfl) scLLawFirst.nd (pi_list (pv 2)) (blkOk_by (own := [("row", 3)]) (N := ["rows", "k", "ahead", "row"]) (sc := defScope sLLawFirst) (by decide +kernel)) (fun _ _ _ _ _ => (pg_name (i := 3) scLLawFirst.nd rfl (Or.inl rfl))) (fun _ _ _ _ _ => pts_nil) (fun _ _ _ _ _ => (pe_op op_cat (pe_ix (show IxR _ (rIxT K) from ix_tup) (pv 3) pe_int (fun _ _ => rfl)) (pe_lst (pa_cons (pe_ix (show IxR _ (rIxT K) from ix_tup) (pv 3) pe_int (fun _ _ => rfl)) pa_nil))))) pa_nil)) (pe_call GLLawRank hr (by rfl) gLLawRank kpLLawRank bLLawRank .nil pass0 (pa_cons (pe_lc (own := [("row", 3)]) (by rfl) scLLawFirst.nd (pi_list (pv 2)) (blkOk_by (own := [("row", 3)]) (N := ["rows", "k", "ahead", "row"]) (sc := defScope sLLawFirst) (by decide +kernel)) (fun _ _ _ _ _ => (pg_name (i := 3) scLLawFirst.nd rfl (Or.inl rfl))) (fun _ _ _ _ _ => pts_nil) (fun _ _ _ _ _ => (pe_ix (show IxR _ (rIxT K) from ix_tup) (pv 3) pe_int (fun _ _ => rfl)))) pa_nil)) (nomark _))
          (pss_one (ps_ret (pv 1)))
          pss_nil))))
      (pss_one (ps_ret pe_non))), ?_⟩
    obtain ⟨L, hLe⟩ : ∃ L, L = es.map (·.2) := ⟨_, rfl⟩
    rw [← hLe] at k1 k2
    have hLl : ∀ e ∈ L, e.1.length = m := fun e he => by
      rw [hLe] at he
      obtain ⟨w, hw, rfl⟩ := List.mem_map.mp he
      exact (h3 w hw).1
    refine ⟨fun σ' H' => Same H H' ∧ ∀ k < es.length, ¬ NU m L k, ?_, ?_⟩
    · refine ⟨_, rfl, u, _, rfl, .inl h1, es.length, by rw [Ro_len], by omega, by omega, for_range (n := es.length) (fun i σ' H' => Same H H' ∧ (∃ v1 v2 : Option V, σ' = [some (.ref u), v1, v2, none]) ∧ ∀ k < i, ¬ NU m L k) ⟨Same.refl _, ⟨_, _, rfl⟩, fun _ h => absurd h (Nat.not_lt_zero _)⟩ ?_ (fun _ _ h => ⟨h.1, h.2.2⟩)⟩
      rintro i σ' H1 hi ⟨s1, ⟨v1, v2, rfl⟩, hz⟩
      have hi0 : (0 : Int) + (i : Int) = (i : Int) := by omega
      rw [hi0]
      refine ⟨_, rfl, _, rfl, _, _, rfl, rfl, _, rfl, ?_⟩
      refine ⟨u, Ro es, rfl, s1.seq h1, fun p2 n2 => ?_⟩
      rw [show (i : Int) + 1 = ((i + 1 : Nat) : Int) by omega, cutV_to (by rw [Ro_len]; omega), show (Ro es).take (i + 1) = Ro (es.take (i + 1)) from List.map_take.symm]
      have s2 := same_upd (o := .lst (Ro (es.take (i + 1)))) n2
      have e2 : (upd H1 p2 (.lst (Ro (es.take (i + 1))))) p2 = some (.lst (Ro (es.take (i + 1)))) := upd_same
      generalize upd H1 p2 (.lst (Ro (es.take (i + 1)))) = H2 at s2 e2 ⊢
      have s12 := s1.trans s2
      obtain ⟨fs, hfs⟩ : ∃ fs, fs = es.take (i + 1) := ⟨_, rfl⟩
      have hfm : fs.map (·.2) = L.take (i + 1) := by rw [hfs, hLe, List.map_take]
      have fl : fs.length ≤ 7 := by rw [hfs, List.length_take]; omega
      have f2 : ∀ w ∈ fs, EqAt K H2 w.1 w.2 := fun w hw => (h2 w (List.mem_of_mem_take (by rw [← hfs]; exact hw))).up s12
      have f3 : ∀ w ∈ fs, w.2.1.length = m ∧ CB 11 (auE w.2) := fun w hw => h3 w (List.mem_of_mem_take (by rw [← hfs]; exact hw))
      rw [← hfs] at e2
      refine ⟨_, rfl, p2, rfl, ⟨_, SqL.of e2⟩, fun D3 nD3 => ?_⟩
      refine lc_relD (walk_list (K := K) (a := p2) (xs := Ro fs)) ((fs.map (·.2)).map auE) (by rw [List.length_map, List.length_map, Ro_len]) (by rw [Ro_len]; omega) nD3 (fun H t g => t ≠ D3 ∧ RowAt K H t g) (fun s h => ⟨h.1, h.2.up s⟩) (fun h hl s => ⟨h.1, h.2.over h.1 hl s⟩) (fun H2 s2 => s2.seq (SqL.of e2)) ?_ ?_
      · rintro jx cx vx Hx Hy kk hc sx ⟨ys, hys⟩ ⟨rfl, hg⟩ kk2
        obtain ⟨w, rfl, hw⟩ := Ro_get hg
        have mw := List.mem_of_getElem? hw
        rw [List.getElem?_map, List.getElem?_map, hw] at hc
        obtain rfl : auE w.2 = cx := Option.some.inj hc
        obtain ⟨ua, va, u1, ⟨wz, w1, w2, w3⟩, u3⟩ := EqAt.up sx (f2 w mw)
        have lwz : wz.length = m := by rw [← (f3 w mw).1, ← w3, List.length_map]
        refine ⟨rfl, ?_⟩
        refine ⟨_, rfl, w.1, _, 0, _, rfl, rfl, u1, atI_nat (j := 0) rfl, ?_⟩
        refine ⟨_, rfl, w.1, _, 1, _, rfl, rfl, u1, atI_nat (j := 1) rfl, by show 1 ≤ sizeLine; decide, fun t8 n8 => ?_⟩
        have s8 := same_upd (o := .lst [.ref va]) n8
        have e8 : (upd Hy t8 (.lst [.ref va])) t8 = some (.lst [.ref va]) := upd_same
        generalize upd Hy t8 (.lst [.ref va]) = Hz at s8 e8 ⊢
        refine ⟨ua, t8, fr wz, [.ref va], rfl, rfl, s8 _ _ w1, e8, Nat.le_of_lt (small1000 (by rw [fr_len]; show _ + 1 ≤ 1000; omega)), fun t9 n9 => ?_⟩
        have s9 := same_upd (o := .lst (fr wz ++ [.ref va])) n9
        refine kk2 t9 _ (s8.trans s9) ⟨fun z => ?_, wz ++ [(va, w.2.2)], ?_, fun x hx => ?_, ?_⟩
        · rw [z, s8 _ _ hys] at n9
          cases n9
        · rw [upd_same, show fr (wz ++ [(va, w.2.2)]) = fr wz ++ [.ref va] from List.map_append]
        · rcases List.mem_append.mp hx with h | h
          · exact (w2 x h).same (s8.trans s9)
          · rw [List.mem_singleton.mp h]
            exact u3.same (s8.trans s9)
        · rw [List.map_append, w3]
          rfl
      intro H3 g3 s3 e3 r3 m3
      refine ⟨D3, m + 1, (fs.map (·.2)).map auE, rfl, ⟨g3, SqL.of e3, fun w hw => (r3 w hw).2, m3⟩, by rw [List.length_map, List.length_map]; omega, by omega, fun x hx => ?_, fun H4 a s4 ha => ?_⟩
      · obtain ⟨y, hy, rfl⟩ := List.mem_map.mp hx
        obtain ⟨w, hw, rfl⟩ := List.mem_map.mp hy
        exact ⟨by rw [List.length_append, (f3 w hw).1]; rfl, (f3 w hw).2⟩
      have s24 := s3.trans s4
      have f24 : ∀ w ∈ fs, EqAt K H4 w.1 w.2 := fun w hw => (f2 w hw).up s24
      refine ⟨_, rfl, p2, rfl, ⟨_, SqL.of (s24 _ _ e2)⟩, fun D5 nD5 => ?_⟩
      refine lc_relD (walk_list (K := K) (a := p2) (xs := Ro fs)) ((fs.map (·.2)).map (·.1)) (by rw [List.length_map, List.length_map, Ro_len]) (by rw [Ro_len]; omega) nD5 (fun H t g => t ≠ D5 ∧ RowAt K H t g) (fun s h => ⟨h.1, h.2.up s⟩) (fun h hl s => ⟨h.1, h.2.over h.1 hl s⟩) (fun H2 s2 => s2.seq (SqL.of (s24 _ _ e2))) ?_ ?_
      · rintro jx cx vx Hx Hy kk hc sx ⟨ys, hys⟩ ⟨rfl, hg⟩ kk2
        obtain ⟨w, rfl, hw⟩ := Ro_get hg
        have mw := List.mem_of_getElem? hw
        rw [List.getElem?_map, List.getElem?_map, hw] at hc
        obtain rfl : w.2.1 = cx := Option.some.inj hc
        obtain ⟨ua, va, u1, u2, u3⟩ := f24 w mw
        refine ⟨rfl, ?_⟩
        refine ⟨_, rfl, w.1, _, 0, _, rfl, rfl, same_tup sx u1, atI_nat (j := 0) rfl, ?_⟩
        exact kk2 ua _ (Same.refl _) ⟨RowAt.ne u2 nD5, u2.up sx⟩
      intro H5 g5 s5 e5 r5 m5
      refine ⟨D5, m, (fs.map (·.2)).map (·.1), rfl, ⟨g5, SqL.of e5, fun w hw => (r5 w hw).2, m5⟩, by rw [List.length_map, List.length_map]; omega, by omega, fun x hx => ?_, fun H6 b s6 hb => ?_⟩
      · obtain ⟨y, hy, rfl⟩ := List.mem_map.mp hx
        obtain ⟨w, hw, rfl⟩ := List.mem_map.mp hy
        obtain ⟨Dz, z1, z2, z3⟩ := (f3 w hw).2
        exact ⟨(f3 w hw).1, Dz, z1, z2, fun x hx => z3 x (List.mem_append_left _ hx)⟩
      have s16 := s12.trans (s24.trans (s5.trans s6))
      rw [hfm] at ha hb
      have hb2 := hb
      rw [inL_co fun e he => hLl e (List.mem_of_mem_take he)] at hb2
      have hc := (aug_cmp ha hb2).1
      refine ⟨_, _, rfl, rfl, _, rfl, ite2 (fun g => ?_) (fun g => ?_)⟩
      · have g1 : b < a := Int.ofNat_lt.mp (of_decide_eq_true g)
        refine ⟨_, rfl, ?_⟩
        exact k2 H6 i s16 hi (hc.mp g1) hz
      · have g1 : ¬ b < a := fun z => g (decide_eq_true (Int.ofNat_lt.mpr z))
        refine ⟨s16, ⟨_, _, rfl⟩, fun k hk => ?_⟩
        rcases Nat.lt_or_ge k i with l | l
        · exact hz k l
        · rw [show k = i by omega]
          exact fun z => g1 (hc.mpr z)
    rintro σ' H' ⟨s1, hz⟩
    exact k1 H' s1 hz
def spLLawTold (K : PySem.W.Frag) : Sp := fun vs H Q _ => ∃ (u F : Addr) (m i : Nat) (μ : Nat → Rat) (es : List (Addr × (List Rat × Rat))), vs = [.ref u, .ref F] ∧ SqL K H u (Ro es) ∧ (∀ w ∈ es, EqAt K H w.1 w.2) ∧ (∀ w ∈ es, w.2.1.length = m ∧ CB 11 (auE w.2)) ∧ m ≤ 4 ∧ es.length ≤ 7 ∧
  Cft m ((es.map (·.2)).map auE) i μ ∧ SqL K H F ((toldL es.length μ).map fun k => V.int (k : Nat)) ∧ ∀ H', Same H H' → Q (.bl true) H'
theorem okLLawTold {fLLawTold : Addr} {fdLLawTold : FuncData} (F : Fun K "_law_told" "_law_told" sLLawTold fLLawTold fdLLawTold) (T : Txt mg) {aZERO : Addr} {aONE : Addr} (CT : Cons K mg aZERO aONE) {CPartError CNought : Addr} (EX : Exns K mg CPartError CNought)
    {fLLawRank : Addr} {fdLLawRank : FuncData} (GLLawRank : FnOk P w K mg base CX0 3 fLLawRank fdLLawRank ["rows"] (spLLawRank K)) (gLLawRank : mg "_law_rank" = some (.ref fLLawRank)) (kpLLawRank : PySem.W.keepIn K (.ref fLLawRank) = true) (bLLawRank : Binds K fdLLawRank ["rows"] []) :
    FnOk P w K mg base CX0 4 fLLawTold fdLLawTold ["rows", "found"] (spLLawTold K) := by
  refine F.ok scLLawTold (fun vs H Q E h => ?_) (fun cdv A outer s H vs Q E hr h => ?_)
  · obtain ⟨u, F, m, i, μ, es, rfl, h1, h2, h3, hm, h7, hC, hF, fin⟩ := h
    rfl
  · obtain ⟨u, F, m, i, μ, es, rfl, h1, h2, h3, hm, h7, hC, hF, fin⟩ := h
    refine ⟨_, (pss_cons (ps_setLc (i := 2) (own := [("at", 4)]) (by rfl) scLLawTold.nd rfl rfl (sw_true rfl rfl rfl (by decide +kernel)) (pi_list (pv 1)) (blkOk_by (own := [("at", 4)]) (N := ["rows", "found", "taken", "k", "at", "ahead", "row"]) (sc := defScope sLLawTold) (by decide +kernel)) (fun _ _ _ _ _ => (pg_name (i := 4) scLLawTold.nd rfl (Or.inl rfl))) (fun _ _ _ _ _ => pts_nil) (fun _ _ _ _ _ => (pe_ix (show IxR _ (rIxL K) from ix_list) (pv 0) (pv 4) (fun _ _ => rfl))))
      (pss_cons (ps_if (pt_cmpR op_ne (pe_call GLLawRank hr (by rfl) gLLawRank kpLLawRank bLLawRank .nil pass0 (pa_cons (pe_lc (own := [("row", 6)]) (by rfl) scLLawTold.nd (pi_list (pv 2)) (blkOk_by (own := [("row", 6)]) (N := ["rows", "found", "taken", "k", "at", "ahead", "row"]) (sc := defScope sLLawTold) (by decide +kernel)) (fun _ _ _ _ _ => (pg_name (i := 6) scLLawTold.nd rfl (Or.inl rfl))) (fun _ _ _ _ _ => pts_nil) (fun _ _ _ _ _ => (pe_ix (show IxR _ (rIxT K) from ix_tup) (pv 6) pe_int (fun _ _ => rfl)))) pa_nil)) (pe_op op_sub (pe_callB call_len_seq (by rfl) T.len PySem.boot_len (pa_cons (pv 2) pa_nil)) pe_int) (nomark _))
        (pss_one (ps_ret pe_bl))
        pss_nil)
      (pss_cons (ps_if (pt_cmpR op_ne (pe_call GLLawRank hr (by rfl) gLLawRank kpLLawRank bLLawRank .nil pass0 (pa_cons (pe_lc (own := [("row", 6)]) (by rfl) scLLawTold.nd (pi_list (pv 2)) (blkOk_by (own := [("row", 6)]) (N := ["rows", "found", "taken", "k", "at", "ahead", "row"]) (sc := defScope sLLawTold) (by decide +kernel)) (fun _ _ _ _ _ => (pg_name (i := 6) scLLawTold.nd rfl (Or.inl rfl))) (fun _ _ _ _ _ => pts_nil) (fun _ _ _ _ _ => (pe_op op_cat (pe_ix (show IxR _ (rIxT K) from ix_tup) (pv 6) pe_int (fun _ _ => rfl)) (pe_lst (pa_cons (pe_ix (show IxR _ (rIxT K) from ix_tup) (pv 6) pe_int (fun _ _ => rfl)) pa_nil))))) pa_nil)) (pe_callB call_len_seq (by rfl) T.len PySem.boot_len (pa_cons (pv 2) pa_nil)) (nomark _))
        (pss_one (ps_ret pe_bl))
        pss_nil)
      (C8.pss_cut (ps_for PassesOwn.never rfl (pi_range1 rfl T.range (pa_cons (pe_callB call_len_seq (by rfl) T.len PySem.boot_len (pa_cons (pv 2) pa_nil)) pa_nil)) (pg_name (i := 3) scLLawTold.nd rfl (Or.inl rfl))
        (pss_one (ps_if (pt_cmpR op_ne (pe_call GLLawRank hr (by rfl) gLLawRank kpLLawRank bLLawRank .nil pass0 (pa_cons (pe_lc (own := [("row", 6)]) (by rfl) scLLawTold.nd (pi_list (pe_op op_cat (pe_slice sl_list (pv 2) po_none (po_some (pv 3))) (pe_slice sl_list (pv 2) (po_some (pe_op op_add (pv 3) pe_int)) po_none))) (blkOk_by (own := [("row", 6)]) (N := ["rows", "found", "taken", "k", "at", "ahead", "row"]) (sc := defScope sLLawTold) (by decide +kernel)) (fun _ _ _ _ _ => (pg_name (i := 6) scLLawTold.nd rfl (Or.inl rfl))) (fun _ _ _ _ _ => pts_nil) (fun _ _ _ _ _ => (pe_ix (show IxR _ (rIxT K) from ix_tup) (pv 6) pe_int (fun _ _ => rfl)))) pa_nil)) (pe_op op_sub (pe_callB call_len_seq (by rfl) T.len PySem.boot_len (pa_cons (pv 2) pa_nil)) pe_int) (nomark _))
          (pss_one (ps_ret pe_bl))
          pss_nil)))
      (C8.pss_cut (ps_for PassesOwn.never rfl (pi_list (pe_slice sl_list (pv 1) po_none (po_some (pe_un un_neg pe_int)))) (pg_name (i := 4) scLLawTold.nd rfl (Or.inl rfl))
        (pss_cons (ps_setLc (i := 5) (own := [("row", 6)]) (by rfl) scLLawTold.nd rfl rfl (sw_true rfl rfl rfl (by decide +kernel)) (pi_list (pe_slice sl_list (pv 0) po_none (po_some (pv 4)))) (blkOk_by (own := [("row", 6)]) (N := ["rows", "found", "taken", "k", "at", "ahead", "row"]) (sc := defScope sLLawTold) (by decide +kernel)) (fun _ _ _ _ _ => (pg_name (i := 6) scLLawTold.nd rfl (Or.inl rfl))) (fun _ _ _ _ _ => pts_nil) (fun _ _ _ _ _ => (pe_op op_cat (pe_ix (show IxR _ (rIxT K) from ix_tup) (pv 6) pe_int (fun _ _ => rfl)) (pe_lst (pa_cons (pe_ix (show IxR _ (rIxT K) from ix_tup) (pv 6) pe_int (fun _ _ => rfl)) pa_nil)))))
        (pss_one (ps_if (pt_cmpR op_eq (pe_call GLLawRank hr (by rfl) gLLawRank kpLLawRank bLLawRank .nil pass0 (pa_cons (pe_op op_cat (pv 5) (pe_lst (pa_cons (pe_op op_cat (pe_ix ix_tup (pe_ix ix_list (pv 0) (pv 4) (fun _ _ => rfl)) pe_int (fun _ _ => rfl)) (pe_lst (pa_cons (pe_ix ix_tup (pe_ix ix_list (pv 0) (pv 4) (fun _ _ => rfl)) pe_int (fun _ _ => rfl)) pa_nil))) pa_nil))) pa_nil)) (pe_call GLLawRank hr (by rfl) gLLawRank kpLLawRank bLLawRank .nil pass0 (pa_cons (pv 5) pa_nil)) (nomark _))
          (pss_one (ps_ret pe_bl))
          pss_nil))))
      (pss_one (ps_ret pe_bl))))))), ?_⟩
    obtain ⟨L, hLe⟩ : ∃ L, L = es.map (·.2) := ⟨_, rfl⟩
    have hLn : L.length = es.length := by rw [hLe, List.length_map]
    rw [← hLe] at hC
    rw [← hLn] at hF
    have hLl : ∀ e ∈ L, e.1.length = m := fun e he => by
      rw [hLe] at he
      obtain ⟨w, hw, rfl⟩ := List.mem_map.mp he
      exact (h3 w hw).1
    have eqA : ∀ {k w}, es[k]? = some w → eqAt L k = w.2 := fun {k w} h => by
      unfold eqAt
      rw [List.getD_eq_getElem?_getD, hLe, List.getElem?_map, h]
      rfl
    have hlast := told_len hC
    have hT2 : ∀ k ∈ toldL L.length μ, k < es.length := fun k hk => by
      rw [← hLn]
      exact (told_mem.mp hk).1
    have lT : (toldL L.length μ).length ≤ 7 := by
      have := List.length_filter_le (fun k => !decide (μ k = 0)) (List.range L.length)
      rw [List.length_range] at this
      unfold toldL
      omega
    obtain ⟨T, hT⟩ : ∃ T, T = toldL L.length μ := ⟨_, rfl⟩
    rw [← hT] at hF hT2 lT
    refine ⟨_, rfl, F, rfl, ⟨_, hF⟩, fun D hD => ?_⟩
    refine lc_relD (walk_list (K := K) (a := F) (xs := T.map fun k => V.int (k : Nat))) (T.map (eqAt L)) (by rw [List.length_map, List.length_map]) (by rw [List.length_map]; omega) hD (EqD K D) (fun s h => h.up s) (fun h hl s => h.over hl s) (fun H2 s2 => s2.seq hF) ?_ ?_
    · rintro jx cx vx Hx Hy kk hc sx ⟨ys, hys⟩ ⟨rfl, hg⟩ kk2
      rw [List.getElem?_map] at hc hg
      cases hj : T[jx]? with
      | none => rw [hj] at hg; cases hg
      | some k =>
        rw [hj] at hc hg
        obtain rfl : V.int (k : Nat) = vx := Option.some.inj hg
        obtain rfl : eqAt L k = cx := Option.some.inj hc
        have hk := hT2 k (List.mem_of_getElem? hj)
        have hw : es[k]? = some es[k] := List.getElem?_eq_getElem hk
        generalize es[k] = w at hw
        have ew := eqA hw
        obtain ⟨ua, va, u1, u2, u3⟩ := h2 w (List.mem_of_getElem? hw)
        refine ⟨rfl, ?_⟩
        refine ⟨_, rfl, _, rfl, u, _, _, V.ref w.1, rfl, rfl, sx.seq h1, atI_nat (Ro_at hw), ?_⟩
        exact kk2 w.1 _ (Same.refl _) (by rw [ew]; exact ⟨ua, va, RowAt.ne u2 hD, same_tup sx u1, u2.up sx, u3.same sx⟩)
    intro H1 gs s1 e1 r1 m1
    have lg : gs.length = T.length := by rw [← List.length_map (f := (·.2)) (as := gs), m1, List.length_map]
    have g2 : ∀ w ∈ gs, EqAt K H1 w.1 w.2 := fun w hw => (r1 w hw).any
    have g3 : ∀ w ∈ gs, w.2.1.length = m ∧ CB 11 (auE w.2) := fun w hw => by
      have h : w.2 ∈ gs.map (·.2) := List.mem_map_of_mem hw
      rw [m1] at h
      obtain ⟨k, hk, e⟩ := List.mem_map.mp h
      have hk2 := hT2 k hk
      have hw : es[k]? = some es[k] := List.getElem?_eq_getElem hk2
      rw [← e, eqA hw]
      exact h3 _ (List.getElem_mem hk2)
    have e1s : SqL K H1 D (Ro gs) := SqL.of e1
    refine ⟨_, rfl, D, rfl, ⟨_, e1s⟩, fun D2 nD2 => ?_⟩
    refine lc_relD (walk_list (K := K) (a := D) (xs := Ro gs)) ((gs.map (·.2)).map (·.1)) (by rw [List.length_map, List.length_map, Ro_len]) (by rw [Ro_len]; omega) nD2 (fun H t g => t ≠ D2 ∧ RowAt K H t g) (fun s h => ⟨h.1, h.2.up s⟩) (fun h hl s => ⟨h.1, h.2.over h.1 hl s⟩) (fun H2 s2 => s2.seq (e1s)) ?_ ?_
    · rintro jx cx vx Hx Hy kk hc sx ⟨ys, hys⟩ ⟨rfl, hg⟩ kk2
      obtain ⟨w, rfl, hw⟩ := Ro_get hg
      have mw := List.mem_of_getElem? hw
      rw [List.getElem?_map, List.getElem?_map, hw] at hc
      obtain rfl : w.2.1 = cx := Option.some.inj hc
      obtain ⟨ua, va, u1, u2, u3⟩ := g2 w mw
      refine ⟨rfl, ?_⟩
      refine ⟨_, rfl, w.1, _, 0, _, rfl, rfl, same_tup sx u1, atI_nat (j := 0) rfl, ?_⟩
      exact kk2 ua _ (Same.refl _) ⟨RowAt.ne u2 nD2, u2.up sx⟩
    intro H2 q2 s2 e2 r2 n2
    refine ⟨D2, m, (gs.map (·.2)).map (·.1), rfl, ⟨q2, SqL.of e2, fun w hw => (r2 w hw).2, n2⟩, by rw [List.length_map, List.length_map]; omega, by omega, fun x hx => ?_, fun H3 f3 s3 hf3 => ?_⟩
    · obtain ⟨y, hy, rfl⟩ := List.mem_map.mp hx
      obtain ⟨w, hw, rfl⟩ := List.mem_map.mp hy
      obtain ⟨Dz, z1, z2, z3⟩ := (g3 w hw).2
      exact ⟨(g3 w hw).1, Dz, z1, z2, fun x hx => z3 x (List.mem_append_left _ hx)⟩
    rw [m1, List.map_map, hT] at hf3
    have x3 := hC.rank_co hLl hf3
    rw [← hT] at x3
    have s13 := s2.trans s3
    have nd : ∀ {a b : Int}, a = b → (!decide (V.int a = V.int b)) = false := fun h => by rw [h, decide_eq_true rfl]; rfl
    refine ⟨_, rfl, D, _, rfl, .inl (SqL.of (s13 _ _ e1)), _, _, rfl, rfl, rfl, _, rfl, iteF' (nd (by rw [Ro_len, lg]; omega)) ?_⟩
    have g23 : ∀ w ∈ gs, EqAt K H3 w.1 w.2 := fun w hw => (g2 w hw).up s13
    have e13s : SqL K H3 D (Ro gs) := SqL.of (s13 _ _ e1)
    refine ⟨_, rfl, D, rfl, ⟨_, e13s⟩, fun D4 nD4 => ?_⟩
    refine lc_relD (walk_list (K := K) (a := D) (xs := Ro gs)) ((gs.map (·.2)).map auE) (by rw [List.length_map, List.length_map, Ro_len]) (by rw [Ro_len]; omega) nD4 (fun H t g => t ≠ D4 ∧ RowAt K H t g) (fun s h => ⟨h.1, h.2.up s⟩) (fun h hl s => ⟨h.1, h.2.over h.1 hl s⟩) (fun H2 s2 => s2.seq (e13s)) ?_ ?_
    · rintro jx cx vx Hx Hy kk hc sx ⟨ys, hys⟩ ⟨rfl, hg⟩ kk2
      obtain ⟨w, rfl, hw⟩ := Ro_get hg
      have mw := List.mem_of_getElem? hw
      rw [List.getElem?_map, List.getElem?_map, hw] at hc
      obtain rfl : auE w.2 = cx := Option.some.inj hc
      obtain ⟨ua, va, u1, ⟨wz, w1, w2, w3⟩, u3⟩ := EqAt.up sx (g23 w mw)
      have lwz : wz.length = m := by rw [← (g3 w mw).1, ← w3, List.length_map]
      refine ⟨rfl, ?_⟩
      refine ⟨_, rfl, w.1, _, 0, _, rfl, rfl, u1, atI_nat (j := 0) rfl, ?_⟩
      refine ⟨_, rfl, w.1, _, 1, _, rfl, rfl, u1, atI_nat (j := 1) rfl, by show 1 ≤ sizeLine; decide, fun t8 n8 => ?_⟩
      have s8 := same_upd (o := .lst [.ref va]) n8
      have e8 : (upd Hy t8 (.lst [.ref va])) t8 = some (.lst [.ref va]) := upd_same
      generalize upd Hy t8 (.lst [.ref va]) = Hz at s8 e8 ⊢
      refine ⟨ua, t8, fr wz, [.ref va], rfl, rfl, s8 _ _ w1, e8, Nat.le_of_lt (small1000 (by rw [fr_len]; show _ + 1 ≤ 1000; omega)), fun t9 n9 => ?_⟩
      have s9 := same_upd (o := .lst (fr wz ++ [.ref va])) n9
      refine kk2 t9 _ (s8.trans s9) ⟨fun z => ?_, wz ++ [(va, w.2.2)], ?_, fun x hx => ?_, ?_⟩
      · rw [z, s8 _ _ hys] at n9
        cases n9
      · rw [upd_same, show fr (wz ++ [(va, w.2.2)]) = fr wz ++ [.ref va] from List.map_append]
      · rcases List.mem_append.mp hx with h | h
        · exact (w2 x h).same (s8.trans s9)
        · rw [List.mem_singleton.mp h]
          exact u3.same (s8.trans s9)
      · rw [List.map_append, w3]
        rfl
    intro H4 q4 s4 e4 r4 n4
    refine ⟨D4, m + 1, (gs.map (·.2)).map auE, rfl, ⟨q4, SqL.of e4, fun w hw => (r4 w hw).2, n4⟩, by rw [List.length_map, List.length_map]; omega, by omega, fun x hx => ?_, fun H5 f5 s5 hf5 => ?_⟩
    · obtain ⟨y, hy, rfl⟩ := List.mem_map.mp hx
      obtain ⟨w, hw, rfl⟩ := List.mem_map.mp hy
      exact ⟨by rw [List.length_append, (g3 w hw).1]; rfl, (g3 w hw).2⟩
    rw [m1, List.map_map, hT] at hf5
    have x5 := hC.rank_au hLl hf5
    rw [← hT] at x5
    have s15 := s13.trans (s4.trans s5)
    refine ⟨_, rfl, D, _, rfl, .inl (SqL.of (s15 _ _ e1)), rfl, _, rfl, iteF' (nd (by rw [Ro_len, lg]; omega)) ?_⟩
    refine ⟨fun σ' H' => Same H5 H' ∧ ∃ v3 : Option V, σ' = [some (.ref u), some (.ref F), some (.ref D), v3, none, none, none], ?_, ?_⟩
    · refine ⟨_, rfl, D, _, rfl, .inl (SqL.of (s15 _ _ e1)), T.length, by rw [Ro_len, lg], by omega, by omega, for_range (n := T.length) (fun i σ' H' => Same H5 H' ∧ ∃ v3 : Option V, σ' = [some (.ref u), some (.ref F), some (.ref D), v3, none, none, none]) ⟨Same.refl _, _, rfl⟩ ?_ (fun _ _ h => h)⟩
      rintro i2 σ' H6 hi2 ⟨s6, v3, rfl⟩
      have hi0 : (0 : Int) + (i2 : Int) = (i2 : Int) := by omega
      rw [hi0]
      have s16 := s15.trans s6
      have e6 := s16 _ _ e1
      refine ⟨_, rfl, _, rfl, _, rfl, ?_⟩
      refine ⟨D, Ro gs, rfl, SqL.of e6, fun p7 n7 => ?_⟩
      rw [cutV_to (by rw [Ro_len]; omega), show (Ro gs).take i2 = Ro (gs.take i2) from List.map_take.symm]
      have s7 := same_upd (o := .lst (Ro (gs.take i2))) n7
      have e7 : (upd H6 p7 (.lst (Ro (gs.take i2)))) p7 = some (.lst (Ro (gs.take i2))) := upd_same
      generalize upd H6 p7 (.lst (Ro (gs.take i2))) = H7 at s7 e7 ⊢
      refine ⟨_, rfl, _, rfl, _, _, rfl, rfl, _, rfl, ?_⟩
      refine ⟨D, Ro gs, rfl, SqL.of (s7 _ _ e6), fun p8 n8 => ?_⟩
      rw [show (i2 : Int) + 1 = ((i2 + 1 : Nat) : Int) by omega, cutV_from (by rw [Ro_len]; omega), show (Ro gs).drop (i2 + 1) = Ro (gs.drop (i2 + 1)) from List.map_drop.symm]
      have s8 := same_upd (o := .lst (Ro (gs.drop (i2 + 1)))) n8
      have e8 : (upd H7 p8 (.lst (Ro (gs.drop (i2 + 1))))) p8 = some (.lst (Ro (gs.drop (i2 + 1)))) := upd_same
      generalize upd H7 p8 (.lst (Ro (gs.drop (i2 + 1)))) = H8 at s8 e8 ⊢
      refine ⟨p7, p8, _, _, rfl, rfl, s8 _ _ e7, e8, Nat.le_of_lt (small1000 (by rw [Ro_len, Ro_len, List.length_take, List.length_drop]; omega)), fun p9 n9 => ?_⟩
      rw [show Ro (gs.take i2) ++ Ro (gs.drop (i2 + 1)) = Ro (gs.take i2 ++ gs.drop (i2 + 1)) from List.map_append.symm]
      obtain ⟨fs, hfs⟩ : ∃ fs, fs = gs.take i2 ++ gs.drop (i2 + 1) := ⟨_, rfl⟩
      rw [← hfs]
      have s9 := same_upd (o := .lst (Ro fs)) n9
      have e9 : (upd H8 p9 (.lst (Ro fs))) p9 = some (.lst (Ro fs)) := upd_same
      generalize upd H8 p9 (.lst (Ro fs)) = H9 at s9 e9 ⊢
      have s69 := s7.trans (s8.trans s9)
      have fin2 : ∀ w ∈ fs, w ∈ gs := fun w hw => by
        rw [hfs] at hw
        rcases List.mem_append.mp hw with h | h
        · exact List.mem_of_mem_take h
        · exact List.mem_of_mem_drop h
      have fl : fs.length ≤ 7 := by rw [hfs, List.length_append, List.length_take, List.length_drop]; omega
      have f29 : ∀ w ∈ fs, EqAt K H9 w.1 w.2 := fun w hw => (g2 w (fin2 w hw)).up (s16.trans s69)
      have f39 : ∀ w ∈ fs, w.2.1.length = m ∧ CB 11 (auE w.2) := fun w hw => g3 w (fin2 w hw)
      have hfm : fs.map (·.2) = (T.take i2 ++ T.drop (i2 + 1)).map (eqAt L) := by
        rw [hfs, List.map_append, List.map_take, List.map_drop, m1, List.map_append, List.map_take, List.map_drop]
      have e9s : SqL K H9 p9 (Ro fs) := SqL.of e9
      refine ⟨p9, rfl, ⟨_, e9s⟩, fun Da nDa => ?_⟩
      refine lc_relD (walk_list (K := K) (a := p9) (xs := Ro fs)) ((fs.map (·.2)).map (·.1)) (by rw [List.length_map, List.length_map, Ro_len]) (by rw [Ro_len]; omega) nDa (fun H t g => t ≠ Da ∧ RowAt K H t g) (fun s h => ⟨h.1, h.2.up s⟩) (fun h hl s => ⟨h.1, h.2.over h.1 hl s⟩) (fun H2 s2 => s2.seq (e9s)) ?_ ?_
      · rintro jx cx vx Hx Hy kk hc sx ⟨ys, hys⟩ ⟨rfl, hg⟩ kk2
        obtain ⟨w, rfl, hw⟩ := Ro_get hg
        have mw := List.mem_of_getElem? hw
        rw [List.getElem?_map, List.getElem?_map, hw] at hc
        obtain rfl : w.2.1 = cx := Option.some.inj hc
        obtain ⟨ua, va, u1, u2, u3⟩ := f29 w mw
        refine ⟨rfl, ?_⟩
        refine ⟨_, rfl, w.1, _, 0, _, rfl, rfl, same_tup sx u1, atI_nat (j := 0) rfl, ?_⟩
        exact kk2 ua _ (Same.refl _) ⟨RowAt.ne u2 nDa, u2.up sx⟩
      intro Ha qa sa ea ra na
      refine ⟨Da, m, (fs.map (·.2)).map (·.1), rfl, ⟨qa, SqL.of ea, fun w hw => (ra w hw).2, na⟩, by rw [List.length_map, List.length_map]; omega, by omega, fun x hx => ?_, fun Hb fb sb hfb => ?_⟩
      · obtain ⟨y, hy, rfl⟩ := List.mem_map.mp hx
        obtain ⟨w, hw, rfl⟩ := List.mem_map.mp hy
        obtain ⟨Dz, z1, z2, z3⟩ := (f39 w hw).2
        exact ⟨(f39 w hw).1, Dz, z1, z2, fun x hx => z3 x (List.mem_append_left _ hx)⟩
      rw [hfm, List.map_map] at hfb
      have hTi : T[i2]? = some T[i2] := List.getElem?_eq_getElem hi2
      have eT : T = T.take i2 ++ T[i2] :: T.drop (i2 + 1) := by
        rw [← List.drop_eq_getElem_cons hi2, List.take_append_drop]
      have xb := hC.rank_out hLl (j := T[i2]) (T := T.take i2 ++ T.drop (i2 + 1)) (by rw [← hT]; exact List.getElem_mem hi2) (fun k hk hne => by
        rw [← hT, eT] at hk
        rcases List.mem_append.mp hk with h | h
        · exact List.mem_append_left _ h
        · rcases List.mem_cons.mp h with h | h
          · exact absurd h hne
          · exact List.mem_append_right _ h) (fun k hk => by
        rw [← hT]
        rcases List.mem_append.mp hk with h | h
        · exact List.mem_of_mem_take h
        · exact List.mem_of_mem_drop h) hfb
      rw [← hT] at xb
      have s6b := s69.trans (sa.trans sb)
      refine ⟨_, rfl, D, _, rfl, .inl (SqL.of (s6b _ _ e6)), _, _, rfl, rfl, rfl, _, rfl, iteF' (nd (by rw [Ro_len, lg]; omega)) ?_⟩
      exact ⟨s6.trans s6b, _, rfl⟩
    rintro σ' H6 ⟨s6, v3, rfl⟩
    have s16 := s15.trans s6
    have eF : (T.map fun k => V.int (k : Nat)) = ((toldL i μ).map fun k => V.int (k : Nat)) ++ [V.int (i : Nat)] := by
      rw [hT, hlast, List.map_append]
      rfl
    rw [eF] at hF
    have s06 := s1.trans s16
    refine ⟨fun σ' H' => Same H6 H', ?_, ?_⟩
    · refine ⟨_, rfl, _, rfl, _, rfl, ?_⟩
      refine ⟨F, _, rfl, s06.seq hF, fun p7 n7 => ?_⟩
      rw [cutV_but]
      have s7 := same_upd (o := .lst ((toldL i μ).map fun k => V.int (k : Nat))) n7
      have e7 : (upd H6 p7 (.lst ((toldL i μ).map fun k => V.int (k : Nat)))) p7 = some (.lst ((toldL i μ).map fun k => V.int (k : Nat))) := upd_same
      generalize upd H6 p7 (.lst ((toldL i μ).map fun k => V.int (k : Nat))) = H7 at s7 e7 ⊢
      have s17 := s06.trans s7
      refine ⟨p7, rfl, ⟨_, SqL.of e7⟩, for_list (K := K) (a := p7) (xs := (toldL i μ).map fun k => V.int (k : Nat)) (fun j σ' H' => Same H7 H' ∧ ∃ v4 v5 : Option V, σ' = [some (.ref u), some (.ref F), some (.ref D), v3, v4, v5, none]) ⟨Same.refl _, _, _, rfl⟩ ?_ ?_ ?_⟩
      · rintro j σ' H' _ ⟨s8, _⟩
        exact SqL.of (s8 _ _ e7)
      · rintro j v σ' H8 hj ⟨s8, v4, v5, rfl⟩
        rw [List.getElem?_map] at hj
        cases hj2 : (toldL i μ)[j]? with
        | none => rw [hj2] at hj; cases hj
        | some k =>
        rw [hj2] at hj
        obtain rfl : V.int (k : Nat) = v := Option.some.inj hj
        have hk0 := List.mem_of_getElem? hj2
        have hkT : k ∈ T := by
          rw [hT, hlast]
          exact List.mem_append_left _ hk0
        have hk := hT2 k hkT
        have hw : es[k]? = some es[k] := List.getElem?_eq_getElem hk
        generalize es[k] = w at hw
        have mw := List.mem_of_getElem? hw
        have ew := eqA hw
        have s18 := s17.trans s8
        refine ⟨_, rfl, _, rfl, _, rfl, ?_⟩
        refine ⟨u, Ro es, rfl, s18.seq h1, fun p9 n9 => ?_⟩
        rw [cutV_to (by rw [Ro_len]; omega), show (Ro es).take k = Ro (es.take k) from List.map_take.symm]
        obtain ⟨fs, hfs⟩ : ∃ fs, fs = es.take k := ⟨_, rfl⟩
        rw [← hfs]
        have s9 := same_upd (o := .lst (Ro fs)) n9
        have e9 : (upd H8 p9 (.lst (Ro fs))) p9 = some (.lst (Ro fs)) := upd_same
        generalize upd H8 p9 (.lst (Ro fs)) = H9 at s9 e9 ⊢
        have s19 := s18.trans s9
        have hfm : fs.map (·.2) = L.take k := by rw [hfs, hLe, List.map_take]
        have fl : fs.length ≤ 6 := by rw [hfs, List.length_take]; omega
        have f29 : ∀ w ∈ fs, EqAt K H9 w.1 w.2 := fun w hw => (h2 w (List.mem_of_mem_take (by rw [← hfs]; exact hw))).up s19
        have f39 : ∀ w ∈ fs, w.2.1.length = m ∧ CB 11 (auE w.2) := fun w hw => h3 w (List.mem_of_mem_take (by rw [← hfs]; exact hw))
        have e9s : SqL K H9 p9 (Ro fs) := SqL.of e9
        refine ⟨p9, rfl, ⟨_, e9s⟩, fun Da nDa => ?_⟩
        refine lc_relD (walk_list (K := K) (a := p9) (xs := Ro fs)) ((fs.map (·.2)).map auE) (by rw [List.length_map, List.length_map, Ro_len]) (by rw [Ro_len]; omega) nDa (fun H t g => t ≠ Da ∧ RowAt K H t g) (fun s h => ⟨h.1, h.2.up s⟩) (fun h hl s => ⟨h.1, h.2.over h.1 hl s⟩) (fun H2 s2 => s2.seq (e9s)) ?_ ?_
        · rintro jx cx vx Hx Hy kk hc sx ⟨ys, hys⟩ ⟨rfl, hg⟩ kk2
          obtain ⟨w, rfl, hw⟩ := Ro_get hg
          have mw := List.mem_of_getElem? hw
          rw [List.getElem?_map, List.getElem?_map, hw] at hc
          obtain rfl : auE w.2 = cx := Option.some.inj hc
          obtain ⟨ua, va, u1, ⟨wz, w1, w2, w3⟩, u3⟩ := EqAt.up sx (f29 w mw)
          have lwz : wz.length = m := by rw [← (f39 w mw).1, ← w3, List.length_map]
          refine ⟨rfl, ?_⟩
          refine ⟨_, rfl, w.1, _, 0, _, rfl, rfl, u1, atI_nat (j := 0) rfl, ?_⟩
          refine ⟨_, rfl, w.1, _, 1, _, rfl, rfl, u1, atI_nat (j := 1) rfl, by show 1 ≤ sizeLine; decide, fun t8 n8 => ?_⟩
          have s8 := same_upd (o := .lst [.ref va]) n8
          have e8 : (upd Hy t8 (.lst [.ref va])) t8 = some (.lst [.ref va]) := upd_same
          generalize upd Hy t8 (.lst [.ref va]) = Hz at s8 e8 ⊢
          refine ⟨ua, t8, fr wz, [.ref va], rfl, rfl, s8 _ _ w1, e8, Nat.le_of_lt (small1000 (by rw [fr_len]; show _ + 1 ≤ 1000; omega)), fun t9 n9 => ?_⟩
          have s9 := same_upd (o := .lst (fr wz ++ [.ref va])) n9
          refine kk2 t9 _ (s8.trans s9) ⟨fun z => ?_, wz ++ [(va, w.2.2)], ?_, fun x hx => ?_, ?_⟩
          · rw [z, s8 _ _ hys] at n9
            cases n9
          · rw [upd_same, show fr (wz ++ [(va, w.2.2)]) = fr wz ++ [.ref va] from List.map_append]
          · rcases List.mem_append.mp hx with h | h
            · exact (w2 x h).same (s8.trans s9)
            · rw [List.mem_singleton.mp h]
              exact u3.same (s8.trans s9)
          · rw [List.map_append, w3]
            rfl
        intro Ha qa sa ea ra na
        have s1a := s19.trans sa
        have hRa : ∀ x ∈ (fs.map (·.2)).map auE, x.length = m + 1 ∧ CB 11 x := fun x hx => by
          obtain ⟨y, hy, rfl⟩ := List.mem_map.mp hx
          obtain ⟨w', hw', rfl⟩ := List.mem_map.mp hy
          exact ⟨by rw [List.length_append, (f39 w' hw').1]; rfl, (f39 w' hw').2⟩
        obtain ⟨b3, b4⟩ := h3 w mw
        obtain ⟨ua, va, u1, ⟨wz, w1, w2, w3⟩, u3⟩ := EqAt.up s1a (h2 w mw)
        have lwz : wz.length = m := by rw [← b3, ← w3, List.length_map]
        have hU : SqL K Ha u (Ro es) := s1a.seq h1
        refine ⟨_, rfl, ?_⟩
        refine ⟨_, rfl, _, rfl, u, _, _, V.ref w.1, rfl, rfl, hU, atI_nat (Ro_at hw), w.1, _, 0, _, rfl, rfl, u1, atI_nat (j := 0) rfl, ?_⟩
        refine ⟨_, rfl, _, rfl, u, _, _, V.ref w.1, rfl, rfl, hU, atI_nat (Ro_at hw), w.1, _, 1, _, rfl, rfl, u1, atI_nat (j := 1) rfl, by show 1 ≤ sizeLine; decide, fun t1 x1 => ?_⟩
        have z1 := same_upd (o := .lst [.ref va]) x1
        have y1 : (upd Ha t1 (.lst [.ref va])) t1 = some (.lst [.ref va]) := upd_same
        generalize upd Ha t1 (.lst [.ref va]) = Hb at z1 y1 ⊢
        refine ⟨ua, t1, fr wz, [.ref va], rfl, rfl, z1 _ _ w1, y1, Nat.le_of_lt (small1000 (by rw [fr_len]; show _ + 1 ≤ 1000; omega)), fun t2 x2 => ?_⟩
        have z2 := same_upd (o := .lst (fr wz ++ [.ref va])) x2
        have y2 : (upd Hb t2 (.lst (fr wz ++ [.ref va]))) t2 = some (.lst (fr (wz ++ [(va, w.2.2)]))) := by
          rw [upd_same, show fr (wz ++ [(va, w.2.2)]) = fr wz ++ [.ref va] from List.map_append]
        generalize upd Hb t2 (.lst (fr wz ++ [.ref va])) = Hc at z2 y2 ⊢
        refine ⟨by show 1 ≤ sizeLine; decide, fun t3 x3 => ?_⟩
        have z3 := same_upd (o := .lst [.ref t2]) x3
        have y3 : (upd Hc t3 (.lst [.ref t2])) t3 = some (.lst [.ref t2]) := upd_same
        generalize upd Hc t3 (.lst [.ref t2]) = Hd at z3 y3 ⊢
        have zc := z2.trans z3
        have zd := z1.trans zc
        have lqa : qa.length = fs.length := by
          have := congrArg List.length na
          rw [List.length_map, List.length_map, List.length_map] at this
          exact this
        refine ⟨Da, t3, Ro qa, [.ref t2], rfl, rfl, zd _ _ ea, y3, Nat.le_of_lt (small1000 (by rw [Ro_len]; show _ + 1 ≤ 1000; omega)), fun t4 x4 => ?_⟩
        have z4 := same_upd (o := .lst (Ro qa ++ [.ref t2])) x4
        have y4 : (upd Hd t4 (.lst (Ro qa ++ [.ref t2]))) t4 = some (.lst (Ro (qa ++ [(t2, auE w.2)]))) := by
          rw [upd_same, show Ro (qa ++ [(t2, auE w.2)]) = Ro qa ++ [.ref t2] from List.map_append]
        generalize upd Hd t4 (.lst (Ro qa ++ [.ref t2])) = He at z4 y4 ⊢
        have ze := zd.trans z4
        refine ⟨t4, m + 1, (fs.map (·.2)).map auE ++ [auE w.2], rfl, ⟨qa ++ [(t2, auE w.2)], SqL.of y4, fun x hx => ?_, by rw [List.map_append, na]; rfl⟩, by rw [List.length_append, List.length_map, List.length_map]; show _ + 1 ≤ 8; omega, by omega, fun x hx => ?_, fun Hf f6 s6f hf6 => ?_⟩
        · rcases List.mem_append.mp hx with h | h
          · exact ((ra x h).2).up ze
          · rw [List.mem_singleton.mp h]
            refine ⟨wz ++ [(va, w.2.2)], (z3.trans z4) _ _ y2, fun y hy => ?_, by rw [List.map_append, w3]; rfl⟩
            rcases List.mem_append.mp hy with h | h
            · exact (w2 y h).same ze
            · rw [List.mem_singleton.mp h]
              exact u3.same ze
        · rcases List.mem_append.mp hx with h | h
          · exact hRa x h
          · rw [List.mem_singleton.mp h]
            exact ⟨by rw [List.length_append, b3]; rfl, b4⟩
        have zf := ze.trans s6f
        refine ⟨_, rfl, Da, m + 1, (fs.map (·.2)).map auE, rfl, ⟨qa, SqL.of (zf _ _ ea), fun x hx => ((ra x hx).2).up zf, na⟩, by rw [List.length_map, List.length_map]; omega, by omega, hRa, fun Hg f7 s7g hf7 => ?_⟩
        rw [hfm] at hf6 hf7
        rw [← ew] at hf6
        have hne := hC.new hLl hk0 hf7 hf6
        refine ⟨rfl, _, rfl, iteF' (decide_eq_false fun z => hne (by injection z with z; omega)) ?_⟩
        exact ⟨s8.trans (s9.trans (sa.trans (zf.trans s7g))), _, _, rfl⟩
      · rintro σ' H' ⟨s8, _⟩
        exact s7.trans s8
    rintro σ' H7 s7
    exact fin H7 (s06.trans s7)
def spLaw (K : PySem.W.Frag) : Sp := fun vs H Q _ => ∃ (a : Addr) (ns : List Int), vs = [.ref a] ∧ SqL K H a (ns.map V.int) ∧ ns.length ≤ 63 ∧ ∀ H', Q (.bl true) H'
theorem okLaw {fLaw : Addr} {fdLaw : FuncData} (F : Fun K "law" "law" sLaw fLaw fdLaw) (T : Txt mg) {aZERO : Addr} {aONE : Addr} (CT : Cons K mg aZERO aONE) {CPartError CNought : Addr} (EX : Exns K mg CPartError CNought)
    {fLLawRow : Addr} {fdLLawRow : FuncData} (GLLawRow : FnOk P w K mg base CX0 1 fLLawRow fdLLawRow ["cell", "size", "base"] (spLLawRow K)) (gLLawRow : mg "_law_row" = some (.ref fLLawRow)) (kpLLawRow : PySem.W.keepIn K (.ref fLLawRow) = true) (bLLawRow : Binds K fdLLawRow ["cell", "size", "base"] [])
    {fLLawEquations : Addr} {fdLLawEquations : FuncData} (GLLawEquations : FnOk P w K mg base CX0 3 fLLawEquations fdLLawEquations ["script", "first", "many", "count", "point"] (spLLawEquations K)) (gLLawEquations : mg "_law_equations" = some (.ref fLLawEquations)) (kpLLawEquations : PySem.W.keepIn K (.ref fLLawEquations) = true) (bLLawEquations : Binds K fdLLawEquations ["script", "first", "many", "count", "point"] [])
    {fSettle : Addr} {fdSettle : FuncData} (GSettle : FnOk P w K mg base CX0 5 fSettle fdSettle ["rows", "many"] (spSettle K)) (gSettle : mg "settle" = some (.ref fSettle)) (kpSettle : PySem.W.keepIn K (.ref fSettle) = true) (bSettle : Binds K fdSettle ["rows", "many"] [])
    {fLLawFirst : Addr} {fdLLawFirst : FuncData} (GLLawFirst : FnOk P w K mg base CX0 4 fLLawFirst fdLLawFirst ["rows"] (spLLawFirst K)) (gLLawFirst : mg "_law_first" = some (.ref fLLawFirst)) (kpLLawFirst : PySem.W.keepIn K (.ref fLLawFirst) = true) (bLLawFirst : Binds K fdLLawFirst ["rows"] [])
    {fLLawCell : Addr} {fdLLawCell : FuncData} (GLLawCell : FnOk P w K mg base CX0 1 fLLawCell fdLLawCell ["script", "k"] (spLLawCell K)) (gLLawCell : mg "_law_cell" = some (.ref fLLawCell)) (kpLLawCell : PySem.W.keepIn K (.ref fLLawCell) = true) (bLLawCell : Binds K fdLLawCell ["script", "k"] [])
    {fLLawFraction : Addr} {fdLLawFraction : FuncData} (GLLawFraction : FnOk P w K mg base CX0 1 fLLawFraction fdLLawFraction ["number", "divisor"] (spLLawFraction K)) (gLLawFraction : mg "_law_fraction" = some (.ref fLLawFraction)) (kpLLawFraction : PySem.W.keepIn K (.ref fLLawFraction) = true) (bLLawFraction : Binds K fdLLawFraction ["number", "divisor"] [])
    {fLLawTold : Addr} {fdLLawTold : FuncData} (GLLawTold : FnOk P w K mg base CX0 4 fLLawTold fdLLawTold ["rows", "found"] (spLLawTold K)) (gLLawTold : mg "_law_told" = some (.ref fLLawTold)) (kpLLawTold : PySem.W.keepIn K (.ref fLLawTold) = true) (bLLawTold : Binds K fdLLawTold ["rows", "found"] [])
    {fLLawPlus : Addr} {fdLLawPlus : FuncData} (GLLawPlus : FnOk P w K mg base CX0 2 fLLawPlus fdLLawPlus ["a", "b"] (spLLawPlus K)) (gLLawPlus : mg "_law_plus" = some (.ref fLLawPlus)) (kpLLawPlus : PySem.W.keepIn K (.ref fLLawPlus) = true) (bLLawPlus : Binds K fdLLawPlus ["a", "b"] [])
    {fLLawIsInteger : Addr} {fdLLawIsInteger : FuncData} (GLLawIsInteger : FnOk P w K mg base CX0 1 fLLawIsInteger fdLLawIsInteger ["actual"] (spLLawIsInteger K)) (gLLawIsInteger : mg "_law_is_integer" = some (.ref fLLawIsInteger)) (kpLLawIsInteger : PySem.W.keepIn K (.ref fLLawIsInteger) = true) (bLLawIsInteger : Binds K fdLLawIsInteger ["actual"] []) :
    FnOk P w K mg base CX0 6 fLaw fdLaw ["script"] (spLaw K) := by
  refine F.ok scLaw (fun vs H Q E h => ?_) (fun cdv A outer s H vs Q E hr h => ?_)
  · obtain ⟨sc, ns, rfl, hS0, hnl, fin⟩ := h
    rfl
  · obtain ⟨sc, ns, rfl, hS0, hnl, fin⟩ := h
    refine ⟨_, (pss_cons (ps_set (i := 1) scLaw.nd rfl (Or.inl rfl) (pe_call GLLawRow (hr.mono (by decide)) (by rfl) gLLawRow kpLLawRow bLLawRow .nil pass0 (pa_cons (pe_call GLLawCell (hr.mono (by decide)) (by rfl) gLLawCell kpLLawCell bLLawCell .nil pass0 (pa_cons (pv 0) (pa_cons pe_int pa_nil))) (pa_cons pe_int (pa_cons pe_int pa_nil)))))
      (pss_cons (ps_set (i := 2) scLaw.nd rfl (Or.inl rfl) (pe_op op_add pe_int (pe_op op_mod (pe_ix ix_list (pv 1) pe_int (fun _ _ => rfl)) pe_int)))
      (pss_cons (ps_setLc (i := 3) (own := [("draw", 10)]) (by rfl) scLaw.nd rfl rfl (sw_true rfl rfl rfl (by decide +kernel)) (pi_list (pe_call GLLawRow (hr.mono (by decide)) (by rfl) gLLawRow kpLLawRow bLLawRow .nil pass0 (pa_cons (pe_call GLLawCell (hr.mono (by decide)) (by rfl) gLLawCell kpLLawCell bLLawCell .nil pass0 (pa_cons (pv 0) (pa_cons pe_int pa_nil))) (pa_cons (pv 2) (pa_cons pe_int pa_nil))))) (blkOk_by (own := [("draw", 10)]) (N := ["script", "shape", "many", "point", "rows", "moves", "k", "state", "found", "first", "draw", "row"]) (sc := defScope sLaw) (by decide +kernel)) (fun _ _ _ _ _ => (pg_name (i := 10) scLaw.nd rfl (Or.inl rfl))) (fun _ _ _ _ _ => pts_nil) (fun _ _ _ _ _ => (pe_call GLLawFraction (hr.mono (by decide)) (by rfl) gLLawFraction kpLLawFraction bLLawFraction .nil pass0 (pa_cons (pe_op op_sub (pe_op op_mod (pv 10) pe_int) pe_int) (pa_cons (pe_op op_add pe_int (pe_op op_mod (pe_op op_fdiv (pv 10) pe_int) pe_int)) pa_nil)))))
      (pss_cons (ps_set (i := 4) scLaw.nd rfl (Or.inl rfl) (pe_call GLLawEquations (hr.mono (by decide)) (by rfl) gLLawEquations kpLLawEquations bLLawEquations .nil pass0 (pa_cons (pv 0) (pa_cons pe_int (pa_cons (pv 2) (pa_cons (pe_op op_add pe_int (pe_op op_mod (pe_ix ix_list (pv 1) pe_int (fun _ _ => rfl)) pe_int)) (pa_cons (pv 3) pa_nil)))))))
      (pss_cons (ps_set (i := 5) scLaw.nd rfl (Or.inl rfl) (pe_call GLLawRow (hr.mono (by decide)) (by rfl) gLLawRow kpLLawRow bLLawRow .nil pass0 (pa_cons (pe_call GLLawCell (hr.mono (by decide)) (by rfl) gLLawCell kpLLawCell bLLawCell .nil pass0 (pa_cons (pv 0) (pa_cons pe_int pa_nil))) (pa_cons (pe_callB call_len_seq (by rfl) T.len PySem.boot_len (pa_cons (pv 4) pa_nil)) (pa_cons pe_int pa_nil)))))
      (C8.pss_cut (ps_for PassesOwn.never rfl (pi_range1 rfl T.range (pa_cons (pe_callB call_len_seq (by rfl) T.len PySem.boot_len (pa_cons (pv 4) pa_nil)) pa_nil)) (pg_name (i := 6) scLaw.nd rfl (Or.inl rfl))
        (pss_one (ps_if (pt_cmpR op_eq (pe_op op_mod (pe_ix ix_list (pv 5) (pv 6) (fun _ _ => rfl)) pe_int) pe_int (nomark _))
          (pss_one (ps_asg (pe_tup (pa_cons (pe_ix ix_tup (pe_ix ix_list (pv 4) (pv 6) (fun _ _ => rfl)) pe_int (fun _ _ => rfl)) (pa_cons (pe_call GLLawPlus (hr.mono (by decide)) (by rfl) gLLawPlus kpLLawPlus bLLawPlus .nil pass0 (pa_cons (pe_ix ix_tup (pe_ix ix_list (pv 4) (pv 6) (fun _ _ => rfl)) pe_int (fun _ _ => rfl)) (pa_cons (pe_call GLLawFraction (hr.mono (by decide)) (by rfl) gLLawFraction kpLLawFraction bLLawFraction .nil pass0 (pa_cons (pe_op op_sub (pe_op op_mod (pe_op op_fdiv (pe_ix ix_list (pv 5) (pv 6) (fun _ _ => rfl)) pe_int) pe_int) pe_int) (pa_cons pe_int pa_nil))) pa_nil))) pa_nil))) (pg_sub (pv 4) (pv 6) set_list)))
          pss_nil)))
      (pss_cons (ps_asg (pe_call GSettle hr (by rfl) gSettle kpSettle bSettle .nil pass0 (pa_cons (pe_lc (own := [("row", 11)]) (by rfl) scLaw.nd (pi_list (pv 4)) (blkOk_by (own := [("row", 11)]) (N := ["script", "shape", "many", "point", "rows", "moves", "k", "state", "found", "first", "draw", "row"]) (sc := defScope sLaw) (by decide +kernel)) (fun _ _ _ _ _ => (pg_name (i := 11) scLaw.nd rfl (Or.inl rfl))) (fun _ _ _ _ _ => pts_nil) (fun _ _ _ _ _ => (pe_tup (pa_cons (pe_callTy (show CallR _ (Value.type "list") (rListOf K) from call_list_of) (by rfl) T.list (by decide +kernel) (pa_cons (pe_ix (show IxR _ (rIxT K) from ix_tup) (pv 11) pe_int (fun _ _ => rfl)) pa_nil)) (pa_cons (pe_ix (show IxR _ (rIxT K) from ix_tup) (pv 11) pe_int (fun _ _ => rfl)) pa_nil))))) (pa_cons (pv 2) pa_nil))) (pg_tup rfl (pgs_cons (pg_name (i := 7) scLaw.nd rfl (Or.inl rfl)) (pgs_cons (pg_name (i := 8) scLaw.nd rfl (Or.inl rfl)) pgs_nil))))
      (pss_cons (ps_set (i := 9) scLaw.nd rfl (Or.inl rfl) (pe_call GLLawFirst (hr.mono (by decide)) (by rfl) gLLawFirst kpLLawFirst bLLawFirst .nil pass0 (pa_cons (pv 4) pa_nil)))
      (pss_cons (ps_if (pt_cmpR op_isN (pv 9) pe_non (nomark _))
        (pss_one (ps_ret (pe_cmpR op_eq (pv 7) pe_str (nomark _))))
        pss_nil)
      (pss_cons (ps_if (PW.pt (pw_or (pt_cmpR op_ne (pv 7) pe_str (nomark _)) (pw_or (pt_not (pt_val (pe_callB call_isi (by rfl) T.isinstance (by decide +kernel) (pa_cons (pv 8) (pa_cons (pe_bltn (v := .ty "list") (by rfl) T.list (by decide +kernel) rfl) pa_nil))))) (pw_or1 (pt_cmpR (op_eqD hr.units) (pv 8) (pe_lst pa_nil) (nomark _))))))
        (pss_one (ps_ret pe_bl))
        pss_nil)
      (C8.pss_cut (ps_for PassesOwn.never rfl (pi_range1 rfl T.range (pa_cons (pe_callB call_len_seq (by rfl) T.len PySem.boot_len (pa_cons (pv 8) pa_nil)) pa_nil)) (pg_name (i := 6) scLaw.nd rfl (Or.inl rfl))
        (pss_one (ps_if (PW.pt (pw_or (pt_not (pt_val (pe_call GLLawIsInteger (hr.mono (by decide)) (by rfl) gLLawIsInteger kpLLawIsInteger bLLawIsInteger .nil pass0 (pa_cons (pe_ix ix_list (pv 8) (pv 6) (fun _ _ => rfl)) pa_nil)))) (pw_or (pt_cmpR op_lt (pe_ix ix_list (pv 8) (pv 6) (fun _ _ => rfl)) pe_int (nomark _)) (pw_or (pt_cmpR op_gt (pe_ix ix_list (pv 8) (pv 6) (fun _ _ => rfl)) (pv 9) (nomark _)) (pw_or1 (PW.pt (pw_and (pt_cmpR op_gt (pv 6) pe_int (nomark _)) (pw_and1 (pt_cmpR op_le (pe_ix ix_list (pv 8) (pv 6) (fun _ _ => rfl)) (pe_ix ix_list (pv 8) (pe_op op_sub (pv 6) pe_int) (fun _ _ => rfl)) (nomark _))))))))))
          (pss_one (ps_ret pe_bl))
          pss_nil)))
      (pss_one (ps_ret (pe_and (pe_cmpR op_eq (pe_ix ix_list (pv 8) (pe_un un_neg pe_int) (fun _ _ => rfl)) (pv 9) (nomark _)) (pe_one (pe_call GLLawTold (hr.mono (by decide)) (by rfl) gLLawTold kpLLawTold bLLawTold .nil pass0 (pa_cons (pv 4) (pa_cons (pv 8) pa_nil)))))))))))))))))), ?_⟩
    have hS : SqL K H sc (zs ns) := hS0
    refine ⟨_, rfl, sc, ns, 0, rfl, hS, fun c0 hc0 => ?_⟩
    refine ⟨c0, 1000, 3, rfl, by decide, by decide, by omega, fun H1 sl ss s1 _ e1 lss hss => ?_⟩
    refine ⟨_, rfl, sl, _, 0, _, rfl, rfl, SqL.of e1, zs_atD (k := 0) (by omega), _, _, rfl, rfl, by show (0 : Int) < 4; decide, _, _, rfl, rfl, ?_⟩
    have o0 := Int.emod_nonneg (ss.getD 0 0) (show (4 : Int) ≠ 0 by decide)
    have o1 := Int.emod_lt_of_pos (ss.getD 0 0) (show (0 : Int) < 4 by decide)
    obtain ⟨m, hm⟩ : ∃ m : Nat, 1 + ss.getD 0 0 % 4 = (m : Int) := ⟨(1 + ss.getD 0 0 % 4).toNat, by omega⟩
    have hm5 : m ≤ 4 := by omega
    show gName 2 (V.int (1 + ss.getD 0 0 % 4)) _ _ _
    rw [hm]
    clear hm o0 o1
    refine ⟨_, rfl, sc, ns, 1, rfl, s1.seq hS, fun c1 hc1 => ?_⟩
    refine ⟨_, rfl, c1, 1000, m, rfl, by decide, by decide, by omega, fun H2 dl ds s2 _ e2 lds hds => ?_⟩
    have c1800 : (1000 : Nat) < 2 ^ 1800 := Nat.lt_of_lt_of_le (by decide) (Nat.pow_le_pow_right (n := 2) (i := 10) (by decide) (by decide))
    refine ⟨dl, rfl, ⟨_, SqL.of e2⟩, fun Dp nDp => ?_⟩
    refine lc_row (K := K) (walk_list (K := K) (a := dl) (xs := zs ds)) (ds.map nmd12) (by simp) (by simp; omega) nDp (fun H3 s3 => SqL.of (s3 _ _ e2)) ?_ ?_
    · rintro j c v H6 H7 kk hc s6 ⟨rfl, hg⟩ kk2
      obtain ⟨d, rfl, hd⟩ : ∃ d, v = .int d ∧ ds[j]? = some d := by
        rw [show zs ds = ds.map V.int from rfl, List.getElem?_map] at hg
        cases e : ds[j]? with
        | none => rw [e] at hg; cases hg
        | some d => rw [e] at hg; exact ⟨d, (Option.some.inj hg).symm, rfl⟩
      rw [List.getElem?_map, hd] at hc
      obtain rfl : nmd12 d = c := Option.some.inj hc
      have h1 := Int.emod_nonneg d (show (19 : Int) ≠ 0 by decide)
      have h2 := Int.emod_lt_of_pos d (show (0 : Int) < 19 by decide)
      have h3 := Int.emod_nonneg (d / 19) (show (4 : Int) ≠ 0 by decide)
      have h4 := Int.emod_lt_of_pos (d / 19) (show (0 : Int) < 4 by decide)
      refine ⟨rfl, _, rfl, _, _, rfl, rfl, by show (0 : Int) < 19; decide, _, _, rfl, rfl, _, rfl, _, _, rfl, rfl, (by constructor <;> decide), _, _, rfl, rfl, by show (0 : Int) < 4; decide, _, _, rfl, rfl, ?_⟩
      refine ⟨d % 19 - 9, 1 + d / 19 % 4, rfl, Nat.lt_trans (show _ < 1000 by omega) c1800, Nat.lt_trans (show _ < 1000 by omega) c1800, by omega, fun H8 t8 s8 e8 => ?_⟩
      exact kk2 t8 _ s8 (fx_rd (by omega) e8)
    intro H3 ps s3 e3 r3 m3
    have hpt : PtOk m (ds.map nmd12) := ⟨by rw [List.length_map]; exact lds, fun x hx => by
      obtain ⟨d, _, rfl⟩ := List.mem_map.mp hx
      exact nmd12_ok d⟩
    have hP : RowAt K H3 Dp (ds.map nmd12) := ⟨ps, e3, r3, m3⟩
    clear m3 r3
    generalize ds.map nmd12 = pts at hpt hP
    have s23 := s2.trans s3
    obtain ⟨n, hn, hn7⟩ : ∃ n : Nat, 1 + ss.getD 1 0 % 7 = (n : Int) ∧ n ≤ 7 := by
      have o0 := Int.emod_nonneg (ss.getD 1 0) (show (7 : Int) ≠ 0 by decide)
      have o1 := Int.emod_lt_of_pos (ss.getD 1 0) (show (0 : Int) < 7 by decide)
      exact ⟨(1 + ss.getD 1 0 % 7).toNat, by omega, by omega⟩
    refine ⟨_, rfl, _, rfl, _, rfl, sl, _, 1, _, rfl, rfl, SqL.of (s23 _ _ e1), zs_atD (k := 1) (by omega), _, _, rfl, rfl, by show (0 : Int) < 7; decide, _, _, rfl, rfl, _, rfl, ?_⟩
    refine ⟨sc, ns, 3, m, n, Dp, pts, by rw [← hn]; rfl, (s1.trans s23).seq hS, hP, hpt, by omega, hn7, fun H4 er es s4 e4 r4 o4 l4 => ?_⟩
    refine ⟨_, rfl, sc, ns, 2, rfl, (s1.trans (s23.trans s4)).seq hS, fun c2 hc2 => ?_⟩
    refine ⟨_, rfl, er, _, rfl, .inl (SqL.of e4), c2, 1000, n, by rw [Ro_len, l4]; rfl, by decide, by decide, by omega, fun H5 ml mv s5 nml e5 lmv hmv => ?_⟩
    have mlr : ml ≠ er := fun z => by
      rw [z, e4] at nml
      cases nml
    have e45 := s5 _ _ e4
    refine ⟨fun σ' H' => ∃ (v6 : Option V) (es' : List (Addr × (List Rat × Rat))), σ' = [some (.ref sc), some (.ref sl), some (.int (m : Nat)), some (.ref Dp), some (.ref er), some (.ref ml), v6, none, none, none, none, none] ∧ H' er = some (.lst (Ro es')) ∧ es'.length = n ∧ (∀ w ∈ es', EqD K er H' w.1 w.2) ∧ ∀ w ∈ es', EqMv m w.2, ?_, ?_⟩
    · refine ⟨_, rfl, er, _, rfl, .inl (SqL.of e45), n, by rw [Ro_len, l4], by omega, by omega, for_range (n := n) (fun i σ' H' => ∃ (v6 : Option V) (es' : List (Addr × (List Rat × Rat))), σ' = [some (.ref sc), some (.ref sl), some (.int (m : Nat)), some (.ref Dp), some (.ref er), some (.ref ml), v6, none, none, none, none, none] ∧ SameX er H5 H' ∧ H' er = some (.lst (Ro es')) ∧ es'.length = n ∧ (∀ w ∈ es', EqD K er H' w.1 w.2) ∧ (∀ w ∈ es', EqMv m w.2) ∧ ∀ q w, es'[q]? = some w → i ≤ q → ∃ N : Int, w.2.2 * 12 = (N : Rat) ∧ N.natAbs ≤ 864) ⟨_, es, rfl, fun _ _ _ h => h, e45, l4, fun w hw => (r4 w hw).up s5, fun w hw => ((o4 w hw).mv hpt hm5).1, fun q w hq _ => ((o4 w (List.mem_of_getElem? hq)).mv hpt hm5).2⟩ ?_ (fun _ _ ⟨v6, es', h1, _, h2, h3, h4, h5, _⟩ => ⟨v6, es', h1, h2, h3, h4, h5⟩)⟩
      rintro i σ' H6 hi ⟨v6, es', rfl, sx, e6, l6, r6, o6, u6⟩
      have hi0 : (0 : Int) + (i : Int) = (i : Int) := by omega
      rw [hi0]
      have eml : SqL K H6 ml (zs mv) := SqL.of (sx _ _ mlr e5)
      refine ⟨_, rfl, _, rfl, ml, _, _, _, rfl, rfl, eml, zs_atD (k := i) (by omega), _, _, rfl, rfl, by show (0 : Int) < 3; decide, rfl, _, rfl, ite2 (fun g => ?_) (fun g => ?_)⟩
      · have hwi : es'[i]? = some es'[i] := List.getElem?_eq_getElem (by omega)
        generalize es'[i] = w at hwi
        have mw := List.mem_of_getElem? hwi
        obtain ⟨ua, va, ud, u1, u2, u3⟩ := r6 w mw
        obtain ⟨N, n1, n2⟩ := u6 i w hwi (Nat.le_refl i)
        have q0 := Int.emod_nonneg (mv.getD i 0 / 3) (show (7 : Int) ≠ 0 by decide)
        have q1 := Int.emod_lt_of_pos (mv.getD i 0 / 3) (show (0 : Int) < 7 by decide)
        obtain ⟨z, hz⟩ : ∃ z : Int, z = mv.getD i 0 / 3 % 7 - 3 := ⟨_, rfl⟩
        have hz3 : z.natAbs ≤ 3 := by omega
        refine ⟨_, rfl, _, rfl, er, _, _, V.ref w.1, rfl, rfl, SqL.of e6, atI_nat (Ro_at hwi), w.1, _, 0, _, rfl, rfl, u1, atI_nat (j := 0) rfl, ?_⟩
        refine ⟨_, rfl, _, rfl, er, _, _, V.ref w.1, rfl, rfl, SqL.of e6, atI_nat (Ro_at hwi), w.1, _, 1, _, rfl, rfl, u1, atI_nat (j := 1) rfl, ?_⟩
        refine ⟨_, rfl, _, rfl, ml, _, _, _, rfl, rfl, eml, zs_atD (k := i) (by omega), _, _, rfl, rfl, (by constructor <;> decide), _, _, rfl, rfl, by show (0 : Int) < 7; decide, _, _, rfl, rfl, ?_⟩
        refine ⟨z, 2, by rw [hz]; rfl, Nat.lt_trans (show _ < 1000 by omega) c1800, Nat.lt_trans (show _ < 1000 by decide) c1800, by decide, fun H7 t7 s7 e7 => ?_⟩
        have f7 : Fx K H7 t7 (Rat.divInt z 2) := fx_rd (by decide) e7
        have h12 := half12 z
        refine ⟨va, t7, w.2.2, Rat.divInt z 2, rfl, u3.same s7, f7, (mv_bd n1 (by omega)).up (by decide), (mv_bd h12 (by rw [Int.natAbs_mul]; show 6 * _ ≤ 1100; omega)).up (by decide), fun H8 t8 s8 f8 => ?_⟩
        refine ⟨by show 2 ≤ sizeLine; decide, fun t9 n9 => ?_⟩
        have s9 := same_upd (o := .tup [.ref ua, .ref t8]) n9
        have e9 : (upd H8 t9 (.tup [.ref ua, .ref t8])) t9 = some (.tup [.ref ua, .ref t8]) := upd_same
        generalize upd H8 t9 (.tup [.ref ua, .ref t8]) = H9 at s9 e9 ⊢
        have s69 := s7.trans (s8.trans s9)
        have e69 := s69 _ _ e6
        refine ⟨_, rfl, _, rfl, er, _, _, i, rfl, rfl, e69, by rw [Ro_len]; exact ixN_nat (by omega), ?_⟩
        have eset : (Ro es').set i (V.ref t9) = Ro (es'.set i (t9, (w.2.1, w.2.2 + Rat.divInt z 2))) := by
          unfold Ro
          rw [List.map_set]
        rw [eset]
        have keepD : ∀ {t' e'}, EqD K er H9 t' e' → EqD K er (upd H9 er (.lst (Ro (es'.set i (t9, (w.2.1, w.2.2 + Rat.divInt z 2)))))) t' e' := fun h => h.over e69 fun b o hb e => by rw [upd_ne hb]; exact e
        refine ⟨_, es'.set i (t9, (w.2.1, w.2.2 + Rat.divInt z 2)), rfl, (sx.tr s69).set, upd_same, by rw [List.length_set]; exact l6, fun x hx => ?_, fun x hx => ?_, fun q x hq hlt => ?_⟩
        · rcases List.mem_or_eq_of_mem_set hx with h | h
          · exact keepD ((r6 x h).up s69)
          · rw [h]
            exact keepD ⟨ua, t8, ud, SqT.of e9, u2.up s69, f8.same s9⟩
        · rcases List.mem_or_eq_of_mem_set hx with h | h
          · exact o6 x h
          · rw [h]
            refine ⟨(o6 w mw).1, (o6 w mw).2.1, N + 6 * z, ?_, ?_⟩
            · show (w.2.2 + Rat.divInt z 2) * 12 = _
              rw [Rat.intCast_add, ← n1, ← h12]
              grind
            · omega
        · rw [List.getElem?_set_ne (by omega)] at hq
          exact u6 q x hq (by omega)
      · exact ⟨_, es', rfl, sx, e6, l6, r6, o6, fun q w hq hlt => u6 q w hq (by omega)⟩
    clear r4 o4 e4 e45 l4
    rintro σ' H6 ⟨v6, es', rfl, e6, l6, rE, oE⟩
    have e4 := e6
    refine ⟨_, rfl, er, rfl, ⟨_, SqL.of e6⟩, fun Dg nDg => ?_⟩
    refine lc_relD (walk_list (K := K) (a := er) (xs := Ro es')) (es'.map (·.2)) (by rw [List.length_map, Ro_len]) (by rw [Ro_len]; omega) nDg (EqD K Dg) (fun s h => h.up s) (fun h hl s => h.over hl s) (fun H2 s2 => SqL.of (s2 _ _ e6)) ?_ ?_
    · rintro j c v Hx Hy kk hc s6 ⟨ys, hys⟩ ⟨rfl, hg⟩ kk2
      obtain ⟨w, rfl, hw⟩ := Ro_get hg
      have mw := List.mem_of_getElem? hw
      rw [List.getElem?_map, hw] at hc
      obtain rfl : w.2 = c := Option.some.inj hc
      obtain ⟨u, v, u1, ⟨ws, w1, w2, w3⟩, u3⟩ := (rE w mw).any.up s6
      refine ⟨rfl, ?_⟩
      refine ⟨_, rfl, w.1, _, 0, _, rfl, rfl, u1, atI_nat (j := 0) rfl, u, _, rfl, .inl (SqL.of w1), fun l8 n8 => ?_⟩
      have s8 := same_upd (o := .lst (fr ws)) n8
      have e8 : (upd Hy l8 (.lst (fr ws))) l8 = some (.lst (fr ws)) := upd_same
      have lD : l8 ≠ Dg := fun e => by
        rw [e, hys] at n8
        cases n8
      generalize upd Hy l8 (.lst (fr ws)) = Hz at s8 e8 ⊢
      refine ⟨_, rfl, w.1, _, 1, _, rfl, rfl, same_tup s8 u1, atI_nat (j := 1) rfl, by show 2 ≤ sizeLine; decide, fun t9 n9 => ?_⟩
      have s9 := same_upd (o := .tup [.ref l8, .ref v]) n9
      exact kk2 t9 _ (s8.trans s9) ⟨l8, v, lD, SqT.of upd_same, ⟨ws, s9 _ _ e8, w2.same (s8.trans s9), w3⟩, u3.same (s8.trans s9)⟩
    intro H7 gs s7 e7 r7 m7
    have lg : gs.length = n := by rw [← l6, ← List.length_map (f := (·.2)) (as := es'), ← m7, List.length_map]
    have og : ∀ w ∈ gs, EqMv m w.2 := fun w hw => by
      have h : w.2 ∈ gs.map (·.2) := List.mem_map_of_mem hw
      rw [m7] at h
      obtain ⟨w', hw', e⟩ := List.mem_map.mp h
      rw [← e]
      exact oE w' hw'
    obtain ⟨L, hL⟩ : ∃ L, L = es'.map (·.2) := ⟨_, rfl⟩
    have hLn : L.length = n := by rw [hL, List.length_map, l6]
    have r6e : ∀ w ∈ es', EqAt K H6 w.1 w.2 := fun w hw => (rE w hw).any
    have f3 : ∀ w ∈ es', w.2.1.length = m ∧ CB 11 (auE w.2) := fun w hw => ⟨(oE w hw).1, (oE w hw).cb⟩
    refine ⟨_, rfl, Dg, m, gs, rfl, SqL.of e7, fun w hw => (r7 w hw).any, fun w hw => ⟨(og w hw).1, (og w hw).gs⟩, by omega, by omega, fun H8 t8 u8 kept s8 hSI a1 => ?_, fun H8 t8 u8 ic μ s8 hC a1 a2 => ?_⟩
    · rw [m7, ← hL] at hSI
      have s68 := s7.trans s8
      refine ⟨t8, _, rfl, a1, rfl, _, _, rfl, _, _, rfl, rfl, ?_⟩
      refine ⟨_, rfl, er, m, es', rfl, SqL.of (s68 _ _ e6), fun w hw => (r6e w hw).up s68, f3, hm5, by omega, fun H9 s9 _ => ?_, fun H9 i9 s9 hi9 hnu _ => ?_⟩
      · refine ⟨_, rfl, rfl, _, rfl, iteT' rfl ?_⟩
        refine ⟨_, rfl, rfl, ?_⟩
        rw [decide_eq_true rfl]
        exact fin _
      · refine absurd hnu ?_
        rw [← hL]
        exact calm_sub (n := L.length) (by omega) (fun v hv => hSI.calm v (by rw [← List.length_map (f := auE) (as := L), List.take_length] at hv; exact hv))
    · rw [m7, ← hL] at hC
      rw [lg, ← hLn] at a2
      have s68 := s7.trans s8
      have hic := hC.lt
      rw [List.length_map] at hic
      refine ⟨t8, _, rfl, a1, rfl, _, _, rfl, _, _, rfl, rfl, ?_⟩
      have nuI := hC.nu
      have nuN : ∀ k < ic, ¬ NU m L k := fun k hk => calm_sub (n := ic) (by omega) hC.calm
      refine ⟨_, rfl, er, m, es', rfl, SqL.of (s68 _ _ e6), fun w hw => (r6e w hw).up s68, f3, hm5, by omega, fun H9 s9 hno => ?_, fun H9 i9 s9 hi9 hnu hlo => ?_⟩
      · rw [← hL] at hno
        exact absurd nuI (hno ic (by omega))
      · rw [← hL] at hnu hlo
        obtain rfl : i9 = ic := by
          rcases Nat.lt_trichotomy i9 ic with l | l | l
          · exact absurd hnu (nuN i9 l)
          · exact l
          · exact absurd nuI (hlo ic l)
        clear hnu hlo
        obtain ⟨T, hT⟩ : ∃ T, T = toldL L.length μ := ⟨_, rfl⟩
        have hlast : T = toldL L.length μ := hT
        rw [told_len hC] at hlast
        rw [← hT] at a2
        have a29 := s9 _ _ a2
        have hTi : ∀ k ∈ T, k ≤ i9 := fun k hk => by
          rw [hlast] at hk
          rcases List.mem_append.mp hk with h | h
          · exact Nat.le_of_lt (told_mem.mp h).1
          · rw [List.mem_singleton.mp h]
            exact Nat.le_refl _
        have hTl : T.length ≤ 7 := by
          have := List.length_filter_le (fun k => !decide (μ k = 0)) (List.range L.length)
          rw [List.length_range] at this
          rw [hT]
          unfold toldL
          omega
        have hT0 : T ≠ [] := by
          rw [hlast]
          exact List.append_ne_nil_of_right_ne_nil _ (List.cons_ne_nil _ _)
        have hasc : T.Pairwise (· < ·) := by rw [hT]; exact told_asc _ _
        have atT : ∀ {j k}, T[j]? = some k → (T.map fun k => V.int (k : Nat))[j]? = some (V.int (k : Nat)) := fun {j k} h => by
          rw [List.getElem?_map, h]
          rfl
        refine ⟨_, rfl, rfl, _, rfl, iteF' rfl ?_⟩
        refine ⟨_, rfl, rfl, _, rfl, iteF' (by decide) ?_⟩
        refine ⟨_, rfl, _, _, _, _, true, rfl, .ty "list", (.base (.lst a29)), kit_ty (by decide +kernel), true, rfl, iteF' rfl ?_⟩
        refine ⟨_, rfl, by show 0 ≤ sizeLine; decide, fun La na => ?_⟩
        have sa := same_upd (o := .lst []) na
        have ea : (upd H9 La (.lst [])) La = some (.lst []) := upd_same
        generalize upd H9 La (.lst []) = Ha at sa ea ⊢
        refine ⟨pdis (T.map fun k : Nat => (k : Int)), pdis [], .lst (xs := (T.map fun k : Nat => (k : Int)).map V.int) (by rw [List.map_map]; exact SqL.of (sa _ _ a29)) (dp_is _), .lst (SqL.of ea) .nil, shisl _, shisl _, ?_⟩
        rw [eq_nois]
        refine ⟨_, rfl, iteF' (decide_eq_false fun z => hT0 (List.map_eq_nil_iff.mp z)) ?_⟩
        have aa : SqL K Ha u8 (T.map fun k => V.int (k : Nat)) := SqL.of (sa _ _ a29)
        have eer := (s68.trans (s9.trans sa)) _ _ e6
        refine ⟨fun σ' H' => ∃ v6' : Option V, σ' = [some (.ref sc), some (.ref sl), some (.int (m : Nat)), some (.ref Dp), some (.ref er), some (.ref ml), v6', some (.str (Str.ofString "conflict")), some (.ref u8), some (.int (i9 : Nat)), none, none] ∧ H' = Ha, ?_, ?_⟩
        · refine ⟨_, rfl, u8, _, rfl, .inl aa, T.length, by rw [List.length_map], by omega, by omega, for_range (n := T.length) (fun i σ' H' => ∃ v6' : Option V, σ' = [some (.ref sc), some (.ref sl), some (.int (m : Nat)), some (.ref Dp), some (.ref er), some (.ref ml), v6', some (.str (Str.ofString "conflict")), some (.ref u8), some (.int (i9 : Nat)), none, none] ∧ H' = Ha) ⟨_, rfl, rfl⟩ ?_ (fun _ _ h => h)⟩
          rintro j σ' H' hj ⟨v6', rfl, rfl⟩
          have hj0 : (0 : Int) + (j : Int) = (j : Int) := by omega
          rw [hj0]
          have hk : T[j]? = some T[j] := List.getElem?_eq_getElem hj
          generalize hke : T[j] = k at hk
          have hki := hTi k (List.mem_of_getElem? hk)
          refine ⟨_, rfl, _, rfl, u8, _, _, V.int (k : Nat), rfl, rfl, aa, atI_nat (atT hk), k, rfl, true, rfl, iteF' rfl ?_⟩
          refine ⟨_, rfl, _, rfl, u8, _, _, V.int (k : Nat), rfl, rfl, aa, atI_nat (atT hk), _, _, rfl, rfl, _, rfl, iteF' (decide_eq_false (by omega)) ?_⟩
          refine ⟨_, rfl, _, rfl, u8, _, _, V.int (k : Nat), rfl, rfl, aa, atI_nat (atT hk), _, rfl, _, _, rfl, rfl, _, rfl, iteF' (decide_eq_false (by omega)) ?_⟩
          refine ⟨_, rfl, _, _, rfl, rfl, _, rfl, ?_⟩
          by_cases h0 : j = 0
          · refine iteF' (decide_eq_false (by omega)) (iteF' rfl ?_)
            exact ⟨_, rfl, rfl⟩
          · refine iteT' (decide_eq_true (by omega)) ?_
            have hk1 : T[j - 1]? = some T[j - 1] := List.getElem?_eq_getElem (by omega)
            have hlt : T[j - 1] < T[j] := List.pairwise_iff_getElem.mp hasc (j - 1) j (by omega) (by omega) (by omega)
            rw [hke] at hlt
            generalize T[j - 1] = k0 at hk1 hlt
            refine ⟨_, rfl, _, rfl, u8, _, _, V.int (k : Nat), rfl, rfl, aa, atI_nat (atT hk), _, rfl, _, rfl, _, _, rfl, rfl, u8, _, _, V.int (k0 : Nat), rfl, rfl, aa, by rw [show (j : Int) - 1 = ((j - 1 : Nat) : Int) by omega]; exact atI_nat (atT hk1), _, _, rfl, rfl, _, rfl, iteF' (decide_eq_false (by omega)) ?_⟩
            exact ⟨_, rfl, rfl⟩
        rintro σ' H' ⟨v6', rfl, rfl⟩
        have elast : (T.map fun k => V.int (k : Nat)) = ((toldL i9 μ).map fun k => V.int (k : Nat)) ++ [V.int (i9 : Nat)] := by
          rw [hlast, List.map_append]
          rfl
        have aL := aa
        rw [elast] at aL
        refine ⟨_, rfl, _, rfl, u8, _, _, V.int (i9 : Nat), rfl, rfl, aL, atI_last _ _, _, rfl, rfl, _, rfl, iteT' (decide_eq_true rfl) ?_⟩
        refine ⟨_, rfl, _, rfl, er, u8, m, i9, μ, es', rfl, SqL.of eer, fun w hw => (r6e w hw).up (s68.trans (s9.trans sa)), f3, hm5, by omega, by rw [← hL]; exact hC, by rw [hT, hLn, ← l6] at aa; exact aa, fun H' s' => ?_⟩
        exact fin _
end
theorem all_mk {l : PySem.W.OpenLaw} {w : World} {K : PySem.W.Frag} {h : Heap} {mg : Str → Option Value} {fa f1 f2 f3 f4 f5 f6 f7 f8 f9 f10 f11 f12 f13 f14 f15 f16 f17 f18 f19 f20 f21 aZERO aONE CPartError CNought T1 : Addr} (X : K.In h) (G : h.Ns mainGlobals mg) (hfa : mg "law" = some (.ref fa))
    {od1 an1 od2 an2 od3 an3 od4 an4 od5 an5 od6 an6 od7 an7 od8 an8 od9 an9 od10 an10 od11 an11 od12 an12 od13 an13 od14 an14 od15 an15 od16 an16 od17 an17 od18 an18 od19 an19 od20 an20 od21 an21 : Option Addr} {sl1 sl2 sl3 sl4 sl5 sl6 sl7 sl8 sl9 sl10 sl11 sl12 sl13 sl14 sl15 sl16 sl17 sl18 sl19 sl20 sl21 : Array (Option Value)} {oc1 kV1 dc1 pm1 cd1 ct1 oc2 kV2 dc2 pm2 cd2 ct2 oc3 kV3 dc3 pm3 cd3 ct3 oc4 kV4 dc4 pm4 cd4 ct4 oc5 kV5 dc5 pm5 cd5 ct5 oc6 kV6 dc6 pm6 cd6 ct6 oc7 kV7 dc7 pm7 cd7 ct7 oc8 kV8 dc8 pm8 cd8 ct8 oc9 kV9 dc9 pm9 cd9 ct9 oc10 kV10 dc10 pm10 cd10 ct10 oc11 kV11 dc11 pm11 cd11 ct11 oc12 kV12 dc12 pm12 cd12 ct12 oc13 kV13 dc13 pm13 cd13 ct13 oc14 kV14 dc14 pm14 cd14 ct14 oc15 kV15 dc15 pm15 cd15 ct15 oc16 kV16 dc16 pm16 cd16 ct16 oc17 kV17 dc17 pm17 cd17 ct17 oc18 kV18 dc18 pm18 cd18 ct18 oc19 kV19 dc19 pm19 cd19 ct19 oc20 kV20 dc20 pm20 cd20 ct20 oc21 kV21 dc21 pm21 cd21 ct21 : Value}
    (a1 : PySem.W.nsIn K mainGlobals "fraction" = some (some (.ref f1))) (l1 : K.lookup f1 = some ⟨oc1, od1, .func (PySem.W.fnOf "fraction" "fraction" (defArgs sFraction) (defBody sFraction) (defScope sFraction) (.ref T1) kV1 dc1 pm1 an1 cd1 ct1), sl1⟩) {ocT1 : Value} {odT1 : Option Addr} {slT1 : Array (Option Value)} {nT1 : Nat} {tT1 : Tok} (lT1 : K.lookup T1 = some ⟨ocT1, odT1, .seq #[.int 1 tT1] nT1, slT1⟩) (c1 : PySem.W.codeIn K cd1 "fraction" = true) (k1 : PySem.W.keepIn K (.ref f1) = true)
    (a2 : PySem.W.nsIn K mainGlobals "minus" = some (some (.ref f2))) (l2 : K.lookup f2 = some ⟨oc2, od2, .func (PySem.W.fnOf "minus" "minus" (defArgs sMinus) (defBody sMinus) (defScope sMinus) .none kV2 dc2 pm2 an2 cd2 ct2), sl2⟩) (c2 : PySem.W.codeIn K cd2 "minus" = true) (k2 : PySem.W.keepIn K (.ref f2) = true)
    (a3 : PySem.W.nsIn K mainGlobals "times" = some (some (.ref f3))) (l3 : K.lookup f3 = some ⟨oc3, od3, .func (PySem.W.fnOf "times" "times" (defArgs sTimes) (defBody sTimes) (defScope sTimes) .none kV3 dc3 pm3 an3 cd3 ct3), sl3⟩) (c3 : PySem.W.codeIn K cd3 "times" = true) (k3 : PySem.W.keepIn K (.ref f3) = true)
    (a4 : PySem.W.nsIn K mainGlobals "over" = some (some (.ref f4))) (l4 : K.lookup f4 = some ⟨oc4, od4, .func (PySem.W.fnOf "over" "over" (defArgs sOver) (defBody sOver) (defScope sOver) .none kV4 dc4 pm4 an4 cd4 ct4), sl4⟩) (c4 : PySem.W.codeIn K cd4 "over" = true) (k4 : PySem.W.keepIn K (.ref f4) = true)
    (a5 : PySem.W.nsIn K mainGlobals "cleared" = some (some (.ref f5))) (l5 : K.lookup f5 = some ⟨oc5, od5, .func (PySem.W.fnOf "cleared" "cleared" (defArgs sCleared) (defBody sCleared) (defScope sCleared) .none kV5 dc5 pm5 an5 cd5 ct5), sl5⟩) (c5 : PySem.W.codeIn K cd5 "cleared" = true) (k5 : PySem.W.keepIn K (.ref f5) = true)
    (a6 : PySem.W.nsIn K mainGlobals "marked" = some (some (.ref f6))) (l6 : K.lookup f6 = some ⟨oc6, od6, .func (PySem.W.fnOf "marked" "marked" (defArgs sMarked) (defBody sMarked) (defScope sMarked) .none kV6 dc6 pm6 an6 cd6 ct6), sl6⟩) (c6 : PySem.W.codeIn K cd6 "marked" = true) (k6 : PySem.W.keepIn K (.ref f6) = true)
    (a7 : PySem.W.nsIn K mainGlobals "lead_of" = some (some (.ref f7))) (l7 : K.lookup f7 = some ⟨oc7, od7, .func (PySem.W.fnOf "lead_of" "lead_of" (defArgs sLeadOf) (defBody sLeadOf) (defScope sLeadOf) .none kV7 dc7 pm7 an7 cd7 ct7), sl7⟩) (c7 : PySem.W.codeIn K cd7 "lead_of" = true) (k7 : PySem.W.keepIn K (.ref f7) = true)
    (a8 : PySem.W.nsIn K mainGlobals "settle_rows" = some (some (.ref f8))) (l8 : K.lookup f8 = some ⟨oc8, od8, .func (PySem.W.fnOf "settle_rows" "settle_rows" (defArgs sSettleRows) (defBody sSettleRows) (defScope sSettleRows) .none kV8 dc8 pm8 an8 cd8 ct8), sl8⟩) (c8 : PySem.W.codeIn K cd8 "settle_rows" = true) (k8 : PySem.W.keepIn K (.ref f8) = true)
    (a9 : PySem.W.nsIn K mainGlobals "settle" = some (some (.ref f9))) (l9 : K.lookup f9 = some ⟨oc9, od9, .func (PySem.W.fnOf "settle" "settle" (defArgs sSettle) (defBody sSettle) (defScope sSettle) .none kV9 dc9 pm9 an9 cd9 ct9), sl9⟩) (c9 : PySem.W.codeIn K cd9 "settle" = true) (k9 : PySem.W.keepIn K (.ref f9) = true)
    (a10 : PySem.W.nsIn K mainGlobals "_law_is_integer" = some (some (.ref f10))) (l10 : K.lookup f10 = some ⟨oc10, od10, .func (PySem.W.fnOf "_law_is_integer" "_law_is_integer" (defArgs sLLawIsInteger) (defBody sLLawIsInteger) (defScope sLLawIsInteger) .none kV10 dc10 pm10 an10 cd10 ct10), sl10⟩) (c10 : PySem.W.codeIn K cd10 "_law_is_integer" = true) (k10 : PySem.W.keepIn K (.ref f10) = true)
    (a11 : PySem.W.nsIn K mainGlobals "_law_cell" = some (some (.ref f11))) (l11 : K.lookup f11 = some ⟨oc11, od11, .func (PySem.W.fnOf "_law_cell" "_law_cell" (defArgs sLLawCell) (defBody sLLawCell) (defScope sLLawCell) .none kV11 dc11 pm11 an11 cd11 ct11), sl11⟩) (c11 : PySem.W.codeIn K cd11 "_law_cell" = true) (k11 : PySem.W.keepIn K (.ref f11) = true)
    (a12 : PySem.W.nsIn K mainGlobals "_law_row" = some (some (.ref f12))) (l12 : K.lookup f12 = some ⟨oc12, od12, .func (PySem.W.fnOf "_law_row" "_law_row" (defArgs sLLawRow) (defBody sLLawRow) (defScope sLLawRow) .none kV12 dc12 pm12 an12 cd12 ct12), sl12⟩) (c12 : PySem.W.codeIn K cd12 "_law_row" = true) (k12 : PySem.W.keepIn K (.ref f12) = true)
    (a13 : PySem.W.nsIn K mainGlobals "_law_fraction" = some (some (.ref f13))) (l13 : K.lookup f13 = some ⟨oc13, od13, .func (PySem.W.fnOf "_law_fraction" "_law_fraction" (defArgs sLLawFraction) (defBody sLLawFraction) (defScope sLLawFraction) .none kV13 dc13 pm13 an13 cd13 ct13), sl13⟩) (c13 : PySem.W.codeIn K cd13 "_law_fraction" = true) (k13 : PySem.W.keepIn K (.ref f13) = true)
    (a14 : PySem.W.nsIn K mainGlobals "_law_plus" = some (some (.ref f14))) (l14 : K.lookup f14 = some ⟨oc14, od14, .func (PySem.W.fnOf "_law_plus" "_law_plus" (defArgs sLLawPlus) (defBody sLLawPlus) (defScope sLLawPlus) .none kV14 dc14 pm14 an14 cd14 ct14), sl14⟩) (c14 : PySem.W.codeIn K cd14 "_law_plus" = true) (k14 : PySem.W.keepIn K (.ref f14) = true)
    (a15 : PySem.W.nsIn K mainGlobals "_law_times" = some (some (.ref f15))) (l15 : K.lookup f15 = some ⟨oc15, od15, .func (PySem.W.fnOf "_law_times" "_law_times" (defArgs sLLawTimes) (defBody sLLawTimes) (defScope sLLawTimes) .none kV15 dc15 pm15 an15 cd15 ct15), sl15⟩) (c15 : PySem.W.codeIn K cd15 "_law_times" = true) (k15 : PySem.W.keepIn K (.ref f15) = true)
    (a16 : PySem.W.nsIn K mainGlobals "_law_over" = some (some (.ref f16))) (l16 : K.lookup f16 = some ⟨oc16, od16, .func (PySem.W.fnOf "_law_over" "_law_over" (defArgs sLLawOver) (defBody sLLawOver) (defScope sLLawOver) .none kV16 dc16 pm16 an16 cd16 ct16), sl16⟩) (c16 : PySem.W.codeIn K cd16 "_law_over" = true) (k16 : PySem.W.keepIn K (.ref f16) = true)
    (a17 : PySem.W.nsIn K mainGlobals "_law_rank" = some (some (.ref f17))) (l17 : K.lookup f17 = some ⟨oc17, od17, .func (PySem.W.fnOf "_law_rank" "_law_rank" (defArgs sLLawRank) (defBody sLLawRank) (defScope sLLawRank) .none kV17 dc17 pm17 an17 cd17 ct17), sl17⟩) (c17 : PySem.W.codeIn K cd17 "_law_rank" = true) (k17 : PySem.W.keepIn K (.ref f17) = true)
    (a18 : PySem.W.nsIn K mainGlobals "_law_equations" = some (some (.ref f18))) (l18 : K.lookup f18 = some ⟨oc18, od18, .func (PySem.W.fnOf "_law_equations" "_law_equations" (defArgs sLLawEquations) (defBody sLLawEquations) (defScope sLLawEquations) .none kV18 dc18 pm18 an18 cd18 ct18), sl18⟩) (c18 : PySem.W.codeIn K cd18 "_law_equations" = true) (k18 : PySem.W.keepIn K (.ref f18) = true)
    (a19 : PySem.W.nsIn K mainGlobals "_law_first" = some (some (.ref f19))) (l19 : K.lookup f19 = some ⟨oc19, od19, .func (PySem.W.fnOf "_law_first" "_law_first" (defArgs sLLawFirst) (defBody sLLawFirst) (defScope sLLawFirst) .none kV19 dc19 pm19 an19 cd19 ct19), sl19⟩) (c19 : PySem.W.codeIn K cd19 "_law_first" = true) (k19 : PySem.W.keepIn K (.ref f19) = true)
    (a20 : PySem.W.nsIn K mainGlobals "_law_told" = some (some (.ref f20))) (l20 : K.lookup f20 = some ⟨oc20, od20, .func (PySem.W.fnOf "_law_told" "_law_told" (defArgs sLLawTold) (defBody sLLawTold) (defScope sLLawTold) .none kV20 dc20 pm20 an20 cd20 ct20), sl20⟩) (c20 : PySem.W.codeIn K cd20 "_law_told" = true) (k20 : PySem.W.keepIn K (.ref f20) = true)
    (a21 : PySem.W.nsIn K mainGlobals "law" = some (some (.ref f21))) (l21 : K.lookup f21 = some ⟨oc21, od21, .func (PySem.W.fnOf "law" "law" (defArgs sLaw) (defBody sLaw) (defScope sLaw) .none kV21 dc21 pm21 an21 cd21 ct21), sl21⟩) (c21 : PySem.W.codeIn K cd21 "law" = true) (k21 : PySem.W.keepIn K (.ref f21) = true)
    (z1 : PySem.W.nsIn K mainGlobals "abs" = some none)
    (z2 : PySem.W.nsIn K mainGlobals "any" = some none)
    (z3 : PySem.W.nsIn K mainGlobals "bool" = some none)
    (z4 : PySem.W.nsIn K mainGlobals "enumerate" = some none)
    (z5 : PySem.W.nsIn K mainGlobals "int" = some none)
    (z6 : PySem.W.nsIn K mainGlobals "isinstance" = some none)
    (z7 : PySem.W.nsIn K mainGlobals "len" = some none)
    (z8 : PySem.W.nsIn K mainGlobals "list" = some none)
    (z9 : PySem.W.nsIn K mainGlobals "range" = some none)
    (z10 : PySem.W.nsIn K mainGlobals "zip" = some none)
    (z11 : PySem.W.nsIn K mainGlobals "gcd" = some (some (.builtin "math.gcd")))
    (u0 : PySem.W.nsIn K mainGlobals "ZERO" = some (some (.ref aZERO))) {dw0 : Option Addr} {nw0 : Nat} {sw0 : Array (Option Value)} {tk0_0 tk0_1 : Tok} (w0 : K.lookup aZERO = some ⟨.type "tuple", dw0, .seq #[.int 0 tk0_0, .int 1 tk0_1] nw0, sw0⟩)
    (u1 : PySem.W.nsIn K mainGlobals "ONE" = some (some (.ref aONE))) {dw1 : Option Addr} {nw1 : Nat} {sw1 : Array (Option Value)} {tk1_0 tk1_1 : Tok} (w1 : K.lookup aONE = some ⟨.type "tuple", dw1, .seq #[.int 1 tk1_0, .int 1 tk1_1] nw1, sw1⟩)
    (y0 : PySem.W.nsIn K mainGlobals "PartError" = some (some (.ref CPartError)))
    (y1 : PySem.W.nsIn K mainGlobals "Nought" = some (some (.ref CNought)))
    (y2 : PySem.W.excIn K CNought [.type "ValueError", .type "Exception", .type "BaseException", .type "object"] "ValueError.__new__" = true)
    (y3 : PySem.W.keepIn K (.ref CNought) = true)
    (y4 : PySem.W.subIn K (.ref CNought) (.type "BaseException") = some true)
    (y5 : PySem.W.typeIn K (.ref CNought) = some (.type "type"))
    (y6 : PySem.W.subIn K (.ref CPartError) (.type "BaseException") = some true)
    (y7 : PySem.W.isClsIn K CPartError = true)
    (y8 : PySem.W.typeIn K (.ref CPartError) = some (.type "type"))
    (y9 : PySem.W.subIn K (.ref CNought) (.ref CPartError) = some true)
    (y10 : PySem.W.subIn K (.ref CNought) (.ref CNought) = some true)
    (y11 : PySem.W.findIn K (.ref CNought) "__getattribute__" = some (some (.builtin "BaseException.__getattribute__")))
    (y12 : PySem.W.findIn K (.ref CNought) "__getattr__" = some none)
    (y13 : PySem.W.hasDictIn K CNought = true)
    (y14 : PySem.W.findIn K (.ref CNought) "__class__" = some (some (.builtin "object.__class__")))
    (y15 : PySem.W.specialIn K (.builtin "object.__class__") "__get__" = some (some (.builtin "getset_descriptor.__get__")))
    (y16 : PySem.W.takesIn K (.builtin "object.__class__") = some true)
    (y17 : PySem.W.mroIn K CNought (.type "object") = some true)
    : ∃ fd : FuncData, (∀ (s : Shared) (v : Value), BindsTo s fd ⟨[v], []⟩ [("script", v)]) ∧ ∀ base : Heap, K.In base → base.Ns mainGlobals mg → FnOk l.prog w K mg base CX0 6 fa fd ["script"] (spLaw K) := by
  have e := hfa.symm.trans (PySem.W.mg_of X G a21)
  cases e
  have T : Txt mg := ⟨PySem.W.mg_none_of X G z1, PySem.W.mg_none_of X G z2, PySem.W.mg_none_of X G z3, PySem.W.mg_none_of X G z4, PySem.W.mg_none_of X G z5, PySem.W.mg_none_of X G z6, PySem.W.mg_none_of X G z7, PySem.W.mg_none_of X G z8, PySem.W.mg_none_of X G z9, PySem.W.mg_none_of X G z10, PySem.W.mg_of X G z11⟩
  have CT : Cons K mg aZERO aONE := ⟨PySem.W.mg_of X G u0, fun H => .inr ⟨_, _, _, w0, rfl, rfl, by show 2 ≤ sizeLine; decide, (.cons ⟨_, rfl⟩ (.cons ⟨_, rfl⟩ .nil))⟩, PySem.W.mg_of X G u1, fun H => .inr ⟨_, _, _, w1, rfl, rfl, by show 2 ≤ sizeLine; decide, (.cons ⟨_, rfl⟩ (.cons ⟨_, rfl⟩ .nil))⟩⟩
  have EX : Exns K mg CPartError CNought := ⟨PySem.W.mg_of X G y0, PySem.W.mg_of X G y1, y2, y3, y4, y5, y6, y7, y8, y9, y10, y11, y12, y13, y14, y15, y16, y17⟩
  have F1 : FunD K "fraction" "fraction" (defArgs sFraction) (defBody sFraction) (defScope sFraction) [.int 1] [] f1 _ := ⟨⟨oc1, od1, .ref T1, kV1, dc1, pm1, an1, cd1, ct1, sl1, rfl, l1, c1, .inr ⟨by decide, T1, _, [.int 1 tT1], nT1, rfl, lT1, rfl, .cons ⟨_, rfl⟩ .nil⟩, .inl rfl⟩, k1⟩
  have F2 := fun_mk (st := sMinus) l2 c2 k2
  have F3 := fun_mk (st := sTimes) l3 c3 k3
  have F4 := fun_mk (st := sOver) l4 c4 k4
  have F5 := fun_mk (st := sCleared) l5 c5 k5
  have F6 := fun_mk (st := sMarked) l6 c6 k6
  have F7 := fun_mk (st := sLeadOf) l7 c7 k7
  have F8 := fun_mk (st := sSettleRows) l8 c8 k8
  have F9 := fun_mk (st := sSettle) l9 c9 k9
  have F10 := fun_mk (st := sLLawIsInteger) l10 c10 k10
  have F11 := fun_mk (st := sLLawCell) l11 c11 k11
  have F12 := fun_mk (st := sLLawRow) l12 c12 k12
  have F13 := fun_mk (st := sLLawFraction) l13 c13 k13
  have F14 := fun_mk (st := sLLawPlus) l14 c14 k14
  have F15 := fun_mk (st := sLLawTimes) l15 c15 k15
  have F16 := fun_mk (st := sLLawOver) l16 c16 k16
  have F17 := fun_mk (st := sLLawRank) l17 c17 k17
  have F18 := fun_mk (st := sLLawEquations) l18 c18 k18
  have F19 := fun_mk (st := sLLawFirst) l19 c19 k19
  have F20 := fun_mk (st := sLLawTold) l20 c20 k20
  have F21 := fun_mk (st := sLaw) l21 c21 k21
  obtain ⟨e1, ve1, b1⟩ := F1.binds1 (ps := ["number", "divisor"]) 2 1 (by decide) rfl (fun T kV doc pm an cdv ct us its hu hi => match us, its, hu, hi with | [_, _], [_], _, _ => ⟨_, rfl, by kernel_rfl⟩)
  cases ve1
  obtain ⟨d1, vd1, bd1⟩ := F1.binds1 (ps := ["number", "divisor"]) 1 0 (by decide) rfl (fun T kV doc pm an cdv ct us its hu hi => match us, its, hu, hi with | [_], [_], _, _ => ⟨_, rfl, by kernel_rfl⟩)
  have b2 := F2.binds (ps := ["a", "b"]) fun _ _ _ _ _ _ us hl => match us, hl with | [_, _], _ => rfl
  have b3 := F3.binds (ps := ["a", "b"]) fun _ _ _ _ _ _ us hl => match us, hl with | [_, _], _ => rfl
  have b4 := F4.binds (ps := ["a", "b"]) fun _ _ _ _ _ _ us hl => match us, hl with | [_, _], _ => rfl
  have b5 := F5.binds (ps := ["row", "at", "base"]) fun _ _ _ _ _ _ us hl => match us, hl with | [_, _, _], _ => rfl
  have b6 := F6.binds (ps := ["row", "at", "many"]) fun _ _ _ _ _ _ us hl => match us, hl with | [_, _, _], _ => rfl
  have b7 := F7.binds (ps := ["row", "many"]) fun _ _ _ _ _ _ us hl => match us, hl with | [_, _], _ => rfl
  have b8 := F8.binds (ps := ["rows", "many"]) fun _ _ _ _ _ _ us hl => match us, hl with | [_, _], _ => rfl
  have b9 := F9.binds (ps := ["rows", "many"]) fun _ _ _ _ _ _ us hl => match us, hl with | [_, _], _ => rfl
  have b10 := F10.binds (ps := ["actual"]) fun _ _ _ _ _ _ us hl => match us, hl with | [_], _ => rfl
  have b11 := F11.binds (ps := ["script", "k"]) fun _ _ _ _ _ _ us hl => match us, hl with | [_, _], _ => rfl
  have b12 := F12.binds (ps := ["cell", "size", "base"]) fun _ _ _ _ _ _ us hl => match us, hl with | [_, _, _], _ => rfl
  have b13 := F13.binds (ps := ["number", "divisor"]) fun _ _ _ _ _ _ us hl => match us, hl with | [_, _], _ => rfl
  have b14 := F14.binds (ps := ["a", "b"]) fun _ _ _ _ _ _ us hl => match us, hl with | [_, _], _ => rfl
  have b15 := F15.binds (ps := ["a", "b"]) fun _ _ _ _ _ _ us hl => match us, hl with | [_, _], _ => rfl
  have b16 := F16.binds (ps := ["a", "b"]) fun _ _ _ _ _ _ us hl => match us, hl with | [_, _], _ => rfl
  have b17 := F17.binds (ps := ["rows"]) fun _ _ _ _ _ _ us hl => match us, hl with | [_], _ => rfl
  have b18 := F18.binds (ps := ["script", "first", "many", "count", "point"]) fun _ _ _ _ _ _ us hl => match us, hl with | [_, _, _, _, _], _ => rfl
  have b19 := F19.binds (ps := ["rows"]) fun _ _ _ _ _ _ us hl => match us, hl with | [_], _ => rfl
  have b20 := F20.binds (ps := ["rows", "found"]) fun _ _ _ _ _ _ us hl => match us, hl with | [_, _], _ => rfl
  refine ⟨PySem.W.fnOf "law" "law" (defArgs sLaw) (defBody sLaw) (defScope sLaw) .none kV21 dc21 pm21 an21 cd21 ct21, fun s v => .of_eq rfl, fun base _ _ => ?_⟩
  have G1 : FnOk l.prog w K mg base (L2.CX l.prog w) 1 f1 _ ["number", "divisor"] (spFraction K CNought) := okFraction F1 T CT EX 
  have G2 : FnOk l.prog w K mg base CX0 2 f2 _ ["a", "b"] (spMinus K) := okMinus F2 T CT EX G1 (PySem.W.mg_of X G a1) k1 b1 vd1 bd1
  have G3 : FnOk l.prog w K mg base CX0 2 f3 _ ["a", "b"] (spTimes K) := okTimes F3 T CT EX G1 (PySem.W.mg_of X G a1) k1 b1 vd1 bd1
  have G4 : FnOk l.prog w K mg base CX0 2 f4 _ ["a", "b"] (spOver K) := okOver F4 T CT EX G1 (PySem.W.mg_of X G a1) k1 b1 vd1 bd1
  have G5 : FnOk l.prog w K mg base CX0 3 f5 _ ["row", "at", "base"] (spCleared K) := okCleared F5 T CT EX G2 (PySem.W.mg_of X G a2) k2 b2 G3 (PySem.W.mg_of X G a3) k3 b3
  have G6 : FnOk l.prog w K mg base CX0 1 f6 _ ["row", "at", "many"] (spMarked K) := okMarked F6 T CT EX 
  have G7 : FnOk l.prog w K mg base CX0 1 f7 _ ["row", "many"] (spLeadOf K) := okLeadOf F7 T CT EX 
  have G8 : FnOk l.prog w K mg base CX0 4 f8 _ ["rows", "many"] (spSettleRows K) := okSettleRows F8 T CT EX G6 (PySem.W.mg_of X G a6) k6 b6 G7 (PySem.W.mg_of X G a7) k7 b7 G5 (PySem.W.mg_of X G a5) k5 b5 G4 (PySem.W.mg_of X G a4) k4 b4
  have G9 : FnOk l.prog w K mg base CX0 5 f9 _ ["rows", "many"] (spSettle K) := okSettle F9 T CT EX G8 (PySem.W.mg_of X G a8) k8 b8
  have G10 : FnOk l.prog w K mg base CX0 1 f10 _ ["actual"] (spLLawIsInteger K) := okLLawIsInteger F10 T CT EX 
  have G11 : FnOk l.prog w K mg base CX0 1 f11 _ ["script", "k"] (spLLawCell K) := okLLawCell F11 T CT EX 
  have G12 : FnOk l.prog w K mg base CX0 1 f12 _ ["cell", "size", "base"] (spLLawRow K) := okLLawRow F12 T CT EX 
  have G13 : FnOk l.prog w K mg base CX0 1 f13 _ ["number", "divisor"] (spLLawFraction K) := okLLawFraction F13 T CT EX 
  have G14 : FnOk l.prog w K mg base CX0 2 f14 _ ["a", "b"] (spLLawPlus K) := okLLawPlus F14 T CT EX G13 (PySem.W.mg_of X G a13) k13 b13
  have G15 : FnOk l.prog w K mg base CX0 2 f15 _ ["a", "b"] (spLLawTimes K) := okLLawTimes F15 T CT EX G13 (PySem.W.mg_of X G a13) k13 b13
  have G16 : FnOk l.prog w K mg base CX0 2 f16 _ ["a", "b"] (spLLawOver K) := okLLawOver F16 T CT EX G13 (PySem.W.mg_of X G a13) k13 b13
  have G17 : FnOk l.prog w K mg base CX0 3 f17 _ ["rows"] (spLLawRank K) := okLLawRank F17 T CT EX G16 (PySem.W.mg_of X G a16) k16 b16 G14 (PySem.W.mg_of X G a14) k14 b14 G15 (PySem.W.mg_of X G a15) k15 b15
  have G18 : FnOk l.prog w K mg base CX0 3 f18 _ ["script", "first", "many", "count", "point"] (spLLawEquations K) := okLLawEquations F18 T CT EX G12 (PySem.W.mg_of X G a12) k12 b12 G11 (PySem.W.mg_of X G a11) k11 b11 G14 (PySem.W.mg_of X G a14) k14 b14 G15 (PySem.W.mg_of X G a15) k15 b15
  have G19 : FnOk l.prog w K mg base CX0 4 f19 _ ["rows"] (spLLawFirst K) := okLLawFirst F19 T CT EX G17 (PySem.W.mg_of X G a17) k17 b17
  have G20 : FnOk l.prog w K mg base CX0 4 f20 _ ["rows", "found"] (spLLawTold K) := okLLawTold F20 T CT EX G17 (PySem.W.mg_of X G a17) k17 b17
  exact okLaw F21 T CT EX G12 (PySem.W.mg_of X G a12) k12 b12 G18 (PySem.W.mg_of X G a18) k18 b18 G9 (PySem.W.mg_of X G a9) k9 b9 G19 (PySem.W.mg_of X G a19) k19 b19 G11 (PySem.W.mg_of X G a11) k11 b11 G13 (PySem.W.mg_of X G a13) k13 b13 G20 (PySem.W.mg_of X G a20) k20 b20 G14 (PySem.W.mg_of X G a14) k14 b14 G10 (PySem.W.mg_of X G a10) k10 b10
end Tp
open PySem PySem.W PyProof.Rows
set_option maxHeartbeats 0 in
theorem PySem.Challenge.cw_truepart_k81_conflicts_of_equations_holds : PySem.Challenge.rw_truepart_k81_conflicts_of_equations.Holds := by
  w_on; o_law; k_head; (case hw => w_witness2)
  k_fill
  refine L2.walk_of (l := PySem.Challenge.rw_truepart_k81_conflicts_of_equations) (n := 63) (k := 6) (x := "script") (CX := fun _ => L2.CX0) (sp := fun w => Tp.spLaw _) rfl (by decide) rfl ⟨rfl, by decide, by decide⟩ (fun w h Y => PySem.W.kIn_of Y) ?F (fun _ _ a ns hl _ hS => ⟨a, ns, rfl, hS, hl, fun _ => rfl⟩) (fun _ _ _ _ _ h => h)
  case F =>
    intro w mg fa h KX G hmg
    refine' Tp.all_mk KX G hmg ?a1 ?l1 ?lT1 ?c1 ?k1 ?a2 ?l2 ?c2 ?k2 ?a3 ?l3 ?c3 ?k3 ?a4 ?l4 ?c4 ?k4 ?a5 ?l5 ?c5 ?k5 ?a6 ?l6 ?c6 ?k6 ?a7 ?l7 ?c7 ?k7 ?a8 ?l8 ?c8 ?k8 ?a9 ?l9 ?c9 ?k9 ?a10 ?l10 ?c10 ?k10 ?a11 ?l11 ?c11 ?k11 ?a12 ?l12 ?c12 ?k12 ?a13 ?l13 ?c13 ?k13 ?a14 ?l14 ?c14 ?k14 ?a15 ?l15 ?c15 ?k15 ?a16 ?l16 ?c16 ?k16 ?a17 ?l17 ?c17 ?k17 ?a18 ?l18 ?c18 ?k18 ?a19 ?l19 ?c19 ?k19 ?a20 ?l20 ?c20 ?k20 ?a21 ?l21 ?c21 ?k21 ?z1 ?z2 ?z3 ?z4 ?z5 ?z6 ?z7 ?z8 ?z9 ?z10 ?z11 ?u0 ?w0 ?u1 ?w1 ?y0 ?y1 ?y2 ?y3 ?y4 ?y5 ?y6 ?y7 ?y8 ?y9 ?y10 ?y11 ?y12 ?y13 ?y14 ?y15 ?y16 ?y17
    (case a1 => k_is)
    (case l1 => k_is)
    (case lT1 => k_is)
    (case c1 => k_is)
    (case k1 => k_is)
    (case a2 => k_is)
    (case l2 => k_is)
    (case c2 => k_is)
    (case k2 => k_is)
    (case a3 => k_is)
    (case l3 => k_is)
    (case c3 => k_is)
    (case k3 => k_is)
    (case a4 => k_is)
    (case l4 => k_is)
    (case c4 => k_is)
    (case k4 => k_is)
    (case a5 => k_is)
    (case l5 => k_is)
    (case c5 => k_is)
    (case k5 => k_is)
    (case a6 => k_is)
    (case l6 => k_is)
    (case c6 => k_is)
    (case k6 => k_is)
    (case a7 => k_is)
    (case l7 => k_is)
    (case c7 => k_is)
    (case k7 => k_is)
    (case a8 => k_is)
    (case l8 => k_is)
    (case c8 => k_is)
    (case k8 => k_is)
    (case a9 => k_is)
    (case l9 => k_is)
    (case c9 => k_is)
    (case k9 => k_is)
    (case a10 => k_is)
    (case l10 => k_is)
    (case c10 => k_is)
    (case k10 => k_is)
    (case a11 => k_is)
    (case l11 => k_is)
    (case c11 => k_is)
    (case k11 => k_is)
    (case a12 => k_is)
    (case l12 => k_is)
    (case c12 => k_is)
    (case k12 => k_is)
    (case a13 => k_is)
    (case l13 => k_is)
    (case c13 => k_is)
    (case k13 => k_is)
    (case a14 => k_is)
    (case l14 => k_is)
    (case c14 => k_is)
    (case k14 => k_is)
    (case a15 => k_is)
    (case l15 => k_is)
    (case c15 => k_is)
    (case k15 => k_is)
    (case a16 => k_is)
    (case l16 => k_is)
    (case c16 => k_is)
    (case k16 => k_is)
    (case a17 => k_is)
    (case l17 => k_is)
    (case c17 => k_is)
    (case k17 => k_is)
    (case a18 => k_is)
    (case l18 => k_is)
    (case c18 => k_is)
    (case k18 => k_is)
    (case a19 => k_is)
    (case l19 => k_is)
    (case c19 => k_is)
    (case k19 => k_is)
    (case a20 => k_is)
    (case l20 => k_is)
    (case c20 => k_is)
    (case k20 => k_is)
    (case a21 => k_is)
    (case l21 => k_is)
    (case c21 => k_is)
    (case k21 => k_is)
    (case z1 => k_is)
    (case z2 => k_is)
    (case z3 => k_is)
    (case z4 => k_is)
    (case z5 => k_is)
    (case z6 => k_is)
    (case z7 => k_is)
    (case z8 => k_is)
    (case z9 => k_is)
    (case z10 => k_is)
    (case z11 => k_is)
    (case u0 => k_is)
    (case w0 => k_is)
    (case u1 => k_is)
    (case w1 => k_is)
    (case y0 => k_is)
    (case y1 => k_is)
    (case y2 => k_exc)
    (case y3 => k_is)
    (case y4 => k_is)
    (case y5 => k_is)
    (case y6 => k_is)
    (case y7 => k_is)
    (case y8 => k_is)
    (case y9 => k_is)
    (case y10 => first | k_is | rfl)
    (case y11 => k_is)
    (case y12 => k_is)
    (case y13 => k_is)
    (case y14 => k_is)
    (case y15 => k_is)
    (case y16 => k_is)
    (case y17 => k_is)
#print axioms PySem.Challenge.cw_truepart_k81_conflicts_of_equations_holds
