import PyProof.Rows.All
import Wide.All
import OpenK.AllK
import Wide.FinOn
import HandS.ForMost
import HandS.Codes
import HandS.Gcd
import HandS.IsInst
import HandS.Wide
import HandS.ForExc
import HandS.ExcIs
import HandS.CallSlots
import HandS.Defaults
import HandS.TupMul
import HandS.Walk
import PyProof.StrOps2
import KE.GoesMore
import KE.KTurns
import PySem.Challenge.RW_truepart_k04_values_along_parameters
set_option Elab.async false
set_option linter.all false
set_option maxHeartbeats 8000000
set_option maxRecDepth 100000
namespace Tp
open PySem L2
def top (i : Nat) : Stmt := PySem.Challenge.pw_truepart_k04_values_along_parameters.main.body.getD i (.Pass ⟨0, 0, 0, 0⟩)
abbrev sFraction : Stmt := top 7
abbrev sPlus : Stmt := top 8
abbrev sMinus : Stmt := top 9
abbrev sTimes : Stmt := top 10
abbrev sNegative : Stmt := top 11
abbrev sTotal : Stmt := top 12
abbrev sConstant : Stmt := top 14
abbrev sParameter : Stmt := top 15
abbrev sAdd : Stmt := top 16
abbrev sSubtract : Stmt := top 17
abbrev sScale : Stmt := top 18
abbrev sOpposite : Stmt := top 19
abbrev sIsNought : Stmt := top 20
abbrev sValue : Stmt := top 21
abbrev sLLawNumber : Stmt := top 23
abbrev sLLawFraction : Stmt := top 25
abbrev sLLawSmall : Stmt := top 26
abbrev sLLawPlus : Stmt := top 27
abbrev sLLawTimes : Stmt := top 28
abbrev sLLawValue : Stmt := top 29
abbrev sLLawAt : Stmt := top 30
abbrev sLaw : Stmt := top 31
theorem scFraction : FnScope ["number", "divisor", "shared"] ["number", "divisor"] (defScope sFraction) := ⟨rfl, rfl, rfl, by decide +kernel, rfl, by decide +kernel, by decide +kernel⟩
theorem scPlus : FnScope ["a", "b"] ["a", "b"] (defScope sPlus) := ⟨rfl, rfl, rfl, by decide +kernel, rfl, by decide +kernel, by decide +kernel⟩
theorem scMinus : FnScope ["a", "b"] ["a", "b"] (defScope sMinus) := ⟨rfl, rfl, rfl, by decide +kernel, rfl, by decide +kernel, by decide +kernel⟩
theorem scTimes : FnScope ["a", "b"] ["a", "b"] (defScope sTimes) := ⟨rfl, rfl, rfl, by decide +kernel, rfl, by decide +kernel, by decide +kernel⟩
theorem scNegative : FnScope ["a"] ["a"] (defScope sNegative) := ⟨rfl, rfl, rfl, by decide +kernel, rfl, by decide +kernel, by decide +kernel⟩
theorem scTotal : FnScope ["row", "found", "part"] ["row"] (defScope sTotal) := ⟨rfl, rfl, rfl, by decide +kernel, rfl, by decide +kernel, by decide +kernel⟩
theorem scConstant : FnScope ["base", "many"] ["base", "many"] (defScope sConstant) := ⟨rfl, rfl, rfl, by decide +kernel, rfl, by decide +kernel, by decide +kernel⟩
theorem scParameter : FnScope ["at", "many", "k"] ["at", "many"] (defScope sParameter) := ⟨rfl, rfl, rfl, by decide +kernel, rfl, by decide +kernel, by decide +kernel⟩
theorem scAdd : FnScope ["a", "b", "x", "y"] ["a", "b"] (defScope sAdd) := ⟨rfl, rfl, rfl, by decide +kernel, rfl, by decide +kernel, by decide +kernel⟩
theorem scSubtract : FnScope ["a", "b", "x", "y"] ["a", "b"] (defScope sSubtract) := ⟨rfl, rfl, rfl, by decide +kernel, rfl, by decide +kernel, by decide +kernel⟩
theorem scScale : FnScope ["factor", "a", "x"] ["factor", "a"] (defScope sScale) := ⟨rfl, rfl, rfl, by decide +kernel, rfl, by decide +kernel, by decide +kernel⟩
theorem scOpposite : FnScope ["a", "x"] ["a"] (defScope sOpposite) := ⟨rfl, rfl, rfl, by decide +kernel, rfl, by decide +kernel, by decide +kernel⟩
theorem scIsNought : FnScope ["a", "x"] ["a"] (defScope sIsNought) := ⟨rfl, rfl, rfl, by decide +kernel, rfl, by decide +kernel, by decide +kernel⟩
theorem scValue : FnScope ["a", "setting", "x", "y"] ["a", "setting"] (defScope sValue) := ⟨rfl, rfl, rfl, by decide +kernel, rfl, by decide +kernel, by decide +kernel⟩
theorem scLLawNumber : FnScope ["script", "k", "cell", "first", "second"] ["script", "k"] (defScope sLLawNumber) := ⟨rfl, rfl, rfl, by decide +kernel, rfl, by decide +kernel, by decide +kernel⟩
theorem scLLawFraction : FnScope ["number", "divisor", "a", "b", "k", "rest"] ["number", "divisor"] (defScope sLLawFraction) := ⟨rfl, rfl, rfl, by decide +kernel, rfl, by decide +kernel, by decide +kernel⟩
theorem scLLawSmall : FnScope ["draw"] ["draw"] (defScope sLLawSmall) := ⟨rfl, rfl, rfl, by decide +kernel, rfl, by decide +kernel, by decide +kernel⟩
theorem scLLawPlus : FnScope ["a", "b"] ["a", "b"] (defScope sLLawPlus) := ⟨rfl, rfl, rfl, by decide +kernel, rfl, by decide +kernel, by decide +kernel⟩
theorem scLLawTimes : FnScope ["a", "b"] ["a", "b"] (defScope sLLawTimes) := ⟨rfl, rfl, rfl, by decide +kernel, rfl, by decide +kernel, by decide +kernel⟩
theorem scLLawValue : FnScope ["draw", "many", "k"] ["draw", "many"] (defScope sLLawValue) := ⟨rfl, rfl, rfl, by decide +kernel, rfl, by decide +kernel, by decide +kernel⟩
theorem scLLawAt : FnScope ["found", "setting", "total_v", "k"] ["found", "setting"] (defScope sLLawAt) := ⟨rfl, rfl, rfl, by decide +kernel, rfl, by decide +kernel, by decide +kernel⟩
theorem scLaw : FnScope ["script", "k", "draw", "many", "a", "b", "factor", "setting", "given", "due", "turned", "j", "one"] ["script"] (defScope sLaw) := ⟨rfl, rfl, rfl, by decide +kernel, rfl, by decide +kernel, by decide +kernel⟩
structure Txt (mg : Str → Option Value) : Prop where
  all : mg "all" = none
  bool : mg "bool" = none
  int : mg "int" = none
  isinstance : mg "isinstance" = none
  len : mg "len" = none
  list : mg "list" = none
  range : mg "range" = none
  str : mg "str" = none
  tuple : mg "tuple" = none
  zip : mg "zip" = none
  gcd : mg "gcd" = some (.builtin "math.gcd")
structure Cons (K : PySem.W.Frag) (mg : Str → Option Value) (aZERO : Addr) (aONE : Addr) : Prop where
  gZERO : mg "ZERO" = some (.ref aZERO)
  tZERO : ∀ H, SqT K H aZERO ([0, 1].map V.int)
  gONE : mg "ONE" = some (.ref aONE)
  tONE : ∀ H, SqT K H aONE ([1, 1].map V.int)
section
variable {K : PySem.W.Frag} {C D : Addr} {c : Value} {r : Bool}
theorem exm_two (b : PySem.W.subIn K (.ref D) (.type "BaseException") = some true) (i : PySem.W.isClsIn K D = true) (t : PySem.W.typeIn K (.ref D) = some (.type "type")) (s : PySem.W.subIn K c (.ref D) = some r) : PySem.W.exmOne K c (.ref D) = some r := by
  have e1 : (PySem.W.subIn K (.ref D) (.type "BaseException") == some true) = true := by rw [b]; rfl
  have i' : (PySem.W.clsIn K D).isSome = true := i
  have e2 : ((PySem.W.clsIn K D).isSome && PySem.W.typeIn K (.ref D) == some (.type "type")) = true := by rw [i', t]; rfl
  unfold PySem.W.exmOne PySem.W.kitCls
  rw [if_pos e1]
  show (if _ then _ else _) = _
  rw [if_pos e2]
  exact s
theorem kit_self : PySem.W.kitOne K (.ref C) (.ref C) = some true := by
  unfold PySem.W.kitOne
  exact if_pos (beq_iff_eq.mpr rfl)
theorem kit_not (s0 : PySem.W.subIn K (.ref C) (.ref C) = some true) (i : PySem.W.isClsIn K D = true) (t : PySem.W.typeIn K (.ref D) = some (.type "type")) (s : PySem.W.subIn K (.ref C) (.ref D) = some false) : PySem.W.kitOne K (.ref C) (.ref D) = some false := by
  have i' : (PySem.W.clsIn K D).isSome = true := i
  have e2 : ((PySem.W.clsIn K D).isSome && PySem.W.typeIn K (.ref D) == some (.type "type")) = true := by rw [i', t]; rfl
  unfold PySem.W.kitOne PySem.W.kitCls
  rw [if_neg (fun z => ?_)]
  · show (if _ then _ else _) = _
    rw [if_pos e2]
    exact s
  · have e := Value.ref.inj (beq_iff_eq.mp z)
    subst e
    rw [s0] at s
    cases s
theorem kit_kind {T : String} (h : PySem.W.kitMeta T = true) (s : PySem.W.subIn K (.ref C) (.type T) = some r) : PySem.W.kitOne K (.ref C) (.type T) = some r := by
  unfold PySem.W.kitOne PySem.W.kitCls
  rw [if_neg (fun z => by have e := beq_iff_eq.mp z; cases e)]
  show (if _ then _ else _) = _
  rw [if_pos h]
  exact s
end

structure Exns (K : PySem.W.Frag) (mg : Str → Option Value) (CPartError CNought : Addr) : Prop where
  gPartError : mg "PartError" = some (.ref CPartError)
  gNought : mg "Nought" = some (.ref CNought)
  xNought : PySem.W.excIn K CNought [.type "ValueError", .type "Exception", .type "BaseException", .type "object"] "ValueError.__new__" = true
  kNought : PySem.W.keepIn K (.ref CNought) = true
  bNought : PySem.W.subIn K (.ref CNought) (.type "BaseException") = some true
  tNought : PySem.W.typeIn K (.ref CNought) = some (.type "type")
  cb : PySem.W.subIn K (.ref CPartError) (.type "BaseException") = some true
  ci : PySem.W.isClsIn K CPartError = true
  ct : PySem.W.typeIn K (.ref CPartError) = some (.type "type")
  cs : PySem.W.subIn K (.ref CNought) (.ref CPartError) = some true
  ss : PySem.W.subIn K (.ref CNought) (.ref CNought) = some true
  i1 : PySem.W.findIn K (.ref CNought) "__getattribute__" = some (some (.builtin "BaseException.__getattribute__"))
  i2 : PySem.W.findIn K (.ref CNought) "__getattr__" = some none
  i3 : PySem.W.hasDictIn K CNought = true
  i4 : PySem.W.findIn K (.ref CNought) "__class__" = some (some (.builtin "object.__class__"))
  i5 : PySem.W.specialIn K (.builtin "object.__class__") "__get__" = some (some (.builtin "getset_descriptor.__get__"))
  i6 : PySem.W.takesIn K (.builtin "object.__class__") = some true
  i7 : PySem.W.mroIn K CNought (.type "object") = some true
theorem Exns.iNought {K : PySem.W.Frag} {mg : Str → Option Value} {CPartError CNought : Addr} (EX : Exns K mg CPartError CNought) : ExcC K CNought := ⟨EX.i1, EX.i2, EX.bNought, EX.i3, EX.i4, EX.i5, EX.i6, EX.i7⟩
theorem Exns.eNought {K : PySem.W.Frag} {mg : Str → Option Value} {CPartError CNought : Addr} (EX : Exns K mg CPartError CNought) : PySem.W.exmOne K (.ref CNought) (.ref CPartError) = some true := exm_two EX.cb EX.ci EX.ct EX.cs
theorem Exns.nNought {K : PySem.W.Frag} {mg : Str → Option Value} {CPartError CNought : Addr} (EX : Exns K mg CPartError CNought) : PySem.W.kitOne K (.ref CNought) (.ref CNought) = some true := kit_self
local macro_rules | `(tactic| walk_at "rd") => `(tactic| repeat (first | refine ⟨_, rfl, ?_⟩ | refine ⟨rfl, ?_⟩ | refine ⟨_, _, rfl, rfl, ?_⟩ | refine Or.inl ⟨_, rfl, ?_⟩ | refine ⟨(by show (0 : Int) < _; decide), ?_⟩ | refine ⟨⟨by decide, by decide⟩, ?_⟩ | refine ⟨Or.inr ⟨by decide, by decide⟩, ?_⟩ | refine ⟨Or.inl ⟨by decide, by decide⟩, ?_⟩ | refine ⟨⟨by decide, by decide, by decide⟩, ?_⟩))
abbrev zs (l : List Int) : List V := l.map V.int
theorem same_upd {H : Hp} {p : Addr} {o : HO} (h : H p = none) : Same H (upd H p o) := fun b x e => by
  rw [upd_ne (ne_of_none e h)]
  exact e
theorem same_tup {K : PySem.W.Frag} {H H' : Hp} {a : Addr} {xs : List V} (e : Same H H') (h : SqT K H a xs) : SqT K H' a xs := by
  rcases h with (h | ⟨o, h⟩) | h
  · exact .inl (.inl (e _ _ h))
  · exact .inl (.inr ⟨o, e _ _ h⟩)
  · exact .inr h
theorem zs_get {l : List Int} {i : Nat} {v : V} (h : (zs l)[i]? = some v) : ∃ z, v = .int z ∧ l[i]? = some z := by
  rw [show zs l = l.map V.int from rfl, List.getElem?_map] at h
  cases e : l[i]? with
  | none =>
    rw [e] at h
    cases h
  | some z =>
    rw [e] at h
    exact ⟨z, (Option.some.inj h).symm, rfl⟩
theorem zs_snoc {l : List Int} {i : Nat} {z : Int} (f : Int → Int) (h : l[i]? = some z) : zs ((l.map f).take i) ++ [V.int (f z)] = zs ((l.map f).take (i + 1)) := by
  show ((l.map f).take i).map V.int ++ [V.int (f z)] = ((l.map f).take (i + 1)).map V.int
  rw [List.take_add_one, List.getElem?_map, h, List.map_append]
  rfl
theorem zs_len {l : List Int} (n : Nat) (h : l.length ≤ 1000) : (zs (l.take n)).length < sizeLine := by
  show ((l.take n).map V.int).length < sizeLine
  rw [List.length_map, List.length_take]
  exact small1000 (by omega)
theorem ne_of_bang {n m : Int} (h : (!decide (V.int n = V.int m)) = true) : n ≠ m := fun e => by
  rw [e, decide_eq_true rfl] at h
  cases h
theorem eq_of_nobang {n m : Int} (h : ¬ (!decide (V.int n = V.int m)) = true) : n = m := by
  by_cases e : n = m
  · exact e
  · exact absurd (by rw [decide_eq_false (fun z => e (V.int.inj z))]; rfl) h
theorem eq_of_dec {n m : Int} (h : decide (V.int n = V.int m) = true) : n = m := V.int.inj (of_decide_eq_true h)
theorem ne_of_nodec {n m : Int} (h : ¬ decide (V.int n = V.int m) = true) : n ≠ m := fun e => h (decide_eq_true (by rw [e]))

/-! Euclid by turns. -/
/-- one turn of the walk (a, b) -> (b, a % b), of naturals -/
theorem gcd_turn (a b : Nat) : Nat.gcd b (a % b) = Nat.gcd a b := by
  rw [Nat.gcd_comm b, ← Nat.gcd_rec, Nat.gcd_comm]
theorem prod_turn {a b : Nat} (h : b ≤ a) (hb : 0 < b) : 2 * (b * (a % b)) ≤ a * b := by
  have h1 : a % b < b := Nat.mod_lt _ hb
  have h2 : a = b * (a / b) + a % b := (Nat.div_add_mod a b).symm
  have h3 : 1 ≤ a / b := (Nat.one_le_div_iff hb).mpr h
  have h4 : b * 1 ≤ b * (a / b) := Nat.mul_le_mul_left b h3
  have h5 : 2 * (a % b) ≤ a := by omega
  calc 2 * (b * (a % b)) = b * (2 * (a % b)) := by rw [Nat.mul_left_comm]
    _ ≤ b * a := Nat.mul_le_mul_left b h5
    _ = a * b := Nat.mul_comm _ _
/-- what holds behind i turns from (a0, b0) -/
structure Eu (a0 b0 i a b : Nat) : Prop where
  g : Nat.gcd a b = Nat.gcd a0 b0
  p : a * b * 2 ^ i ≤ 2 * (a0 * b0)
  o : i = 0 ∨ b ≤ a
  z : i = 0 → a = a0 ∧ b = b0
theorem Eu.start (a b : Nat) : Eu a b 0 a b := ⟨rfl, by rw [Nat.pow_zero]; omega, .inl rfl, fun _ => ⟨rfl, rfl⟩⟩
theorem Eu.turn {a0 b0 i a b : Nat} (e : Eu a0 b0 i a b) (hb : 0 < b) : Eu a0 b0 (i + 1) b (a % b) := by
  refine ⟨(gcd_turn a b).trans e.g, ?_, .inr (Nat.le_of_lt (Nat.mod_lt _ hb)), fun z => by omega⟩
  rcases e.o with hi | hle
  · obtain ⟨rfl, rfl⟩ := e.z hi
    subst hi
    have h1 : b * (a % b) ≤ b * a := Nat.mul_le_mul_left b (Nat.mod_le a b)
    have h2 : b * a = a * b := Nat.mul_comm _ _
    rw [Nat.zero_add, Nat.pow_one]
    omega
  · have h1 := prod_turn hle hb
    have h2 := e.p
    have h3 : b * (a % b) * 2 ^ (i + 1) = 2 * (b * (a % b)) * 2 ^ i := by
      rw [Nat.pow_succ]
      rw [Nat.mul_comm (2 ^ i) 2, ← Nat.mul_assoc, Nat.mul_comm (b * (a % b)) 2]
    rw [h3]
    exact Nat.le_trans (Nat.mul_le_mul_right _ h1) h2
/-- too many turns: nothing is left -/
theorem Eu.stop {a0 b0 i a b : Nat} (e : Eu a0 b0 i a b) (hi : i ≠ 0) (h : 2 * (a0 * b0) < 2 ^ i) : b = 0 := by
  rcases Nat.eq_zero_or_pos b with h0 | h0
  · exact h0
  · have hle : b ≤ a := by
      rcases e.o with h1 | h1
      · exact absurd h1 hi
      · exact h1
    have h1 : 1 ≤ a * b := Nat.mul_pos (by omega) h0
    have h2 : 1 * 2 ^ i ≤ a * b * 2 ^ i := Nat.mul_le_mul_right _ h1
    have h3 := e.p
    omega
theorem Eu.end {a0 b0 i a : Nat} (e : Eu a0 b0 i a 0) : a = Nat.gcd a0 b0 := by
  rw [← e.g, Nat.gcd_zero_right]
/-- the greatest divisor of a row, as it is reckoned from the left -/
def gl (l : List Int) : Nat := l.foldl (fun g v => Nat.gcd v.natAbs g) 0
theorem gl_snoc (l : List Int) (v : Int) : gl (l ++ [v]) = Nat.gcd v.natAbs (gl l) := by
  unfold gl
  rw [List.foldl_append]
  rfl
theorem gl_lt {l : List Int} {v : Int} (h : gl l < 2 ^ 100) (hv : v.natAbs < 2 ^ 100) : gl (l ++ [v]) < 2 ^ 100 := by
  rw [gl_snoc]
  rcases Nat.eq_zero_or_pos v.natAbs with e | e
  · rw [e, Nat.gcd_zero_left]
    exact h
  · exact Nat.lt_of_le_of_lt (Nat.le_of_dvd e (Nat.gcd_dvd_left _ _)) hv
theorem take_snoc {l : List Int} {i : Nat} {z : Int} (h : l[i]? = some z) : l.take (i + 1) = l.take i ++ [z] := by
  rw [List.take_add_one, h]
  rfl
theorem eu_far {a b n : Nat} (hn : 201 ≤ n) (ha : a < 2 ^ 100) (hb : b < 2 ^ 100) : 2 * (a * b) < 2 ^ n := by
  have h1 : a * b < 2 ^ 100 * 2 ^ 100 := Nat.mul_lt_mul'' ha hb
  rw [← Nat.pow_add] at h1
  have h2 : (2 : Nat) * 2 ^ (100 + 100) = 2 ^ 201 := by decide +kernel
  have h3 : (2 : Nat) ^ 201 ≤ 2 ^ n := Nat.pow_le_pow_right (by decide) hn
  omega
theorem fmod_nat (a b : Nat) : (a : Int).fmod (b : Int) = ((a % b : Nat) : Int) := by
  rw [Int.fmod_eq_emod_of_nonneg _ (Int.natCast_nonneg _)]
  exact (Int.natCast_emod a b).symm

/-- // by any divisor other than 0, below 2 ^ 9000 in size -/
def CDivX (_ j : Int) : Prop := j ≠ 0 ∧ j.natAbs.log2 < 9000
theorem op_fdivX {X : Cx} : OpR X (binaryOp .FloorDiv) (rI CDivX fun i j => .int (i.fdiv j)) :=
  opI fun _ _ _ _ _ _ _ hc q =>
    PyProof.Rows.floordiv_int hc.1 q (.inl (PyProof.noPylong_of_log2 hc.2))
theorem wide_divx {i j : Int} {b : Nat} (h : j ≠ 0) (hb : j.natAbs < 2 ^ b) (h0 : 0 < b) (h9 : b ≤ 9000) : CDivX i j :=
  ⟨h, Nat.lt_of_lt_of_le (PySem.Flt.log2_lt_of h0 hb) h9⟩
/-- n noughts -/
def nou (n : Nat) : Str := ⟨(List.replicate n (Str.ofString "0").cps).foldl (· ++ ·) #[]⟩
theorem nou_len {n : Nat} (h : n ≤ 100) : (nou n).length ≤ sizeLine := by
  have : ∀ n : _root_.Fin 101, (nou n.val).length ≤ 100 := by decide +kernel
  have h1 := this ⟨n, by omega⟩
  rw [PySem.sizeLine_eq]
  exact Nat.le_trans h1 (by decide)
theorem op_nou {X : Cx} : OpR X (binaryOp .Mult) (fun x y H Q => ∃ n : Nat, x = .str "0" ∧ y = .int (n : Int) ∧ 1 ≤ n ∧ n ≤ 100 ∧ Q (.str (nou n)) H) := by
  intro pins s σ H x y v u Q I rx ry h
  obtain ⟨n, rfl, rfl, h1, h2, q⟩ := h
  obtain ⟨t, rfl⟩ := rx
  obtain ⟨t', rfl⟩ := ry
  have e1 : ¬ ((n : Int) < 1) := by omega
  have el : (Str.ofString "0").length = 1 := by decide +kernel
  refine PySem.P.mul_str ?_ ?_ ?_ ?_
  · rw [decide_eq_false (by omega), decide_eq_false (by omega)]
    rfl
  · intro _ _
    rw [el]
    have : (2 ^ 63 - 1 : Int) / n ≥ 1 := by
      have : (1 : Int) * n ≤ 2 ^ 63 - 1 := by omega
      exact (Int.le_ediv_iff_mul_le (by omega)).mpr this
    omega
  · intro _ _
    rw [el]
    unfold PySem.Builtin.Str.tooLong
    rw [PySem.sizeLine_eq]
    exact decide_eq_false (by omega)
  · rw [if_neg e1]
    by_cases hn : n = 1
    · subst hn
      have e2 : nou 1 = Str.ofString "0" := by decide +kernel
      rw [e2] at q
      exact ⟨.str (Str.ofString "0"), H, I, ⟨t, rfl⟩, q⟩
    · have : ((n : Int) == 1 || (Str.ofString "0").length == 0) = false := by
        rw [el]
        simp
        omega
      rw [this, if_neg Bool.false_ne_true]
      exact ⟨nou_len h2, .str (nou n), H, I.tok _, ⟨_, rfl⟩, q⟩
theorem suite_of {X : Cx} {a C : Addr} {oe : Obj} {pn : List (Addr × Obj)} {cls : Value} {d : Option Addr} {sts : List Stmt} {ts : TS} (hz : Zc cls d oe)
    (h : Zc (.ref C) none oe → PSs (X.suite a ((a, oe) :: pn)) sts ts) : PSs (X.suite a ((a, oe) :: pn)) sts (fun D σ H => (cls = .ref C ∧ d = none) ∧ ts D σ H) :=
  ⟨fun pins s σ H D I hq => by
    obtain ⟨⟨rfl, rfl⟩, q⟩ := hq
    exact (h hz).run pins s σ H D I q⟩
theorem ten_text : ∀ n : Nat, 1 ≤ n → n ≤ 20 → PySem.intText? (Str.ofString "1" ++ nou n) = some ((10 : Int) ^ n) ∧ (Str.ofString "1" ++ nou n).length ≤ 640 ∧ (nou n).length ≤ 100 := by
  intro n h1 h2
  have : ∀ n : _root_.Fin 21, 1 ≤ n.val → PySem.intText? (Str.ofString "1" ++ nou n.val) = some ((10 : Int) ^ n.val) ∧ (Str.ofString "1" ++ nou n.val).length ≤ 640 ∧ (nou n.val).length ≤ 100 := by decide +kernel
  exact this ⟨n, by omega⟩ h1

/-- the divisor by which fraction divides both -/
def sg (n d : Int) : Int := if d < 0 then -((Nat.gcd n.natAbs d.natAbs : Nat) : Int) else ((Nat.gcd n.natAbs d.natAbs : Nat) : Int)
theorem sg_abs (n d : Int) : (sg n d).natAbs = Nat.gcd n.natAbs d.natAbs := by
  unfold sg
  split
  · rw [Int.natAbs_neg, Int.natAbs_natCast]
  · rw [Int.natAbs_natCast]
theorem sg_ne {n d : Int} (h : d ≠ 0) : sg n d ≠ 0 := by
  intro e
  have h1 := sg_abs n d
  rw [e] at h1
  have h2 : Nat.gcd n.natAbs d.natAbs = 0 := h1.symm
  have h3 := Nat.gcd_eq_zero_iff.mp h2
  omega
theorem sg_dn (n d : Int) : sg n d ∣ n := by
  have h : ((Nat.gcd n.natAbs d.natAbs : Nat) : Int) ∣ n := Int.dvd_natAbs.mp (Int.natCast_dvd_natCast.mpr (Nat.gcd_dvd_left _ _))
  unfold sg
  split
  · exact Int.neg_dvd.mpr h
  · exact h
theorem sg_dd (n d : Int) : sg n d ∣ d := by
  have h : ((Nat.gcd n.natAbs d.natAbs : Nat) : Int) ∣ d := Int.dvd_natAbs.mp (Int.natCast_dvd_natCast.mpr (Nat.gcd_dvd_right _ _))
  unfold sg
  split
  · exact Int.neg_dvd.mpr h
  · exact h
theorem fdiv_back {d v : Int} (h : d ∣ v) : v.fdiv d * d = v := Int.fdiv_mul_cancel h
theorem part_le {f d v : Int} (e : f * d = v) (hd : d ≠ 0) : f.natAbs ≤ v.natAbs := by
  rw [← e, Int.natAbs_mul]
  exact Nat.le_mul_of_pos_right _ (by omega)
/-- what fraction yields -/
structure Fr (n d p q : Int) : Prop where
  hp : p * sg n d = n
  hq : q * sg n d = d
  q0 : 0 < q
  one : Nat.gcd p.natAbs q.natAbs = 1
theorem fr_of {n d : Int} (h : d ≠ 0) : Fr n d (n.fdiv (sg n d)) (d.fdiv (sg n d)) := by
  have e1 := fdiv_back (sg_dn n d)
  have e2 := fdiv_back (sg_dd n d)
  have hs := sg_ne (n := n) h
  refine ⟨e1, e2, ?_, ?_⟩
  · rcases Int.lt_or_le 0 (d.fdiv (sg n d)) with h1 | h1
    · exact h1
    · exfalso
      have hg : 0 < Nat.gcd n.natAbs d.natAbs := Nat.gcd_pos_of_pos_right _ (by omega)
      rcases Int.lt_or_le d 0 with h2 | h2
      · have h3 : sg n d < 0 := by
          unfold sg
          rw [if_pos h2]
          omega
        have h4 := Int.mul_nonneg_of_nonpos_of_nonpos h1 (Int.le_of_lt h3)
        omega
      · have h3 : 0 < sg n d := by
          unfold sg
          rw [if_neg (by omega)]
          omega
        have h4 := Int.mul_nonpos_of_nonpos_of_nonneg h1 (Int.le_of_lt h3)
        omega
  · have e3 : Nat.gcd n.natAbs d.natAbs = Nat.gcd (n.fdiv (sg n d)).natAbs (d.fdiv (sg n d)).natAbs * (sg n d).natAbs := by
      rw [← Nat.gcd_mul_right, ← Int.natAbs_mul, ← Int.natAbs_mul, e1, e2]
    rw [sg_abs] at e3
    have hg : 0 < Nat.gcd n.natAbs d.natAbs := Nat.gcd_pos_of_pos_right _ (by omega)
    exact (Nat.eq_of_mul_eq_mul_right hg (by rw [Nat.one_mul]; exact e3)).symm
theorem Fr.cross {n d p q : Int} (f : Fr n d p q) : p * d = n * q := by
  have h1 := f.hp
  have h2 := f.hq
  calc p * d = p * (q * sg n d) := by rw [h2]
    _ = (p * sg n d) * q := by rw [Int.mul_comm q, Int.mul_assoc]
    _ = n * q := by rw [h1]
theorem sg_one (n : Int) : sg n 1 = 1 := by
  unfold sg
  rw [if_neg (by decide)]
  show ((Nat.gcd n.natAbs 1 : Nat) : Int) = 1
  rw [Nat.gcd_one_right]
  rfl
theorem rd_one (n : Int) : [n.fdiv (sg n 1), (1 : Int).fdiv (sg n 1)] = [n, 1] := by rw [sg_one, Int.fdiv_one, Int.fdiv_one]

/-- in lowest terms -/
def rd2 (n d : Int) : List Int := [n.fdiv (sg n d), d.fdiv (sg n d)]
theorem low_uniq {p q r s : Int} (h1 : Nat.gcd p.natAbs q.natAbs = 1) (h2 : Nat.gcd r.natAbs s.natAbs = 1) (hq : 0 < q) (hs : 0 < s) (h : p * s = r * q) : p = r ∧ q = s := by
  have hn : p.natAbs * s.natAbs = r.natAbs * q.natAbs := by
    rw [← Int.natAbs_mul, ← Int.natAbs_mul, h]
  have d1 : q.natAbs ∣ s.natAbs := by
    have h3 : q.natAbs ∣ p.natAbs * s.natAbs := ⟨r.natAbs, by rw [hn, Nat.mul_comm]⟩
    exact Nat.Coprime.dvd_of_dvd_mul_left (show Nat.Coprime q.natAbs p.natAbs from (Nat.gcd_comm _ _).trans h1) h3
  have d2 : s.natAbs ∣ q.natAbs := by
    have h3 : s.natAbs ∣ r.natAbs * q.natAbs := ⟨p.natAbs, by rw [← hn, Nat.mul_comm]⟩
    exact Nat.Coprime.dvd_of_dvd_mul_left (show Nat.Coprime s.natAbs r.natAbs from (Nat.gcd_comm _ _).trans h2) h3
  have e : q.natAbs = s.natAbs := Nat.dvd_antisymm d1 d2
  have e2 : q = s := by omega
  subst e2
  exact ⟨Int.eq_of_mul_eq_mul_right (by omega) h, rfl⟩
theorem rd2_eq {n d n' d' : Int} (hd : 0 < d) (hd' : 0 < d') (h : n * d' = n' * d) : rd2 n d = rd2 n' d' := by
  have f := fr_of (n := n) (show d ≠ 0 by omega)
  have f' := fr_of (n := n') (show d' ≠ 0 by omega)
  have c1 := f.cross
  have c2 := f'.cross
  unfold rd2
  generalize n.fdiv (sg n d) = p at f c1
  generalize d.fdiv (sg n d) = q at f c1
  generalize n'.fdiv (sg n' d') = r at f' c2
  generalize d'.fdiv (sg n' d') = s at f' c2
  have e : p * s = r * q := by
    have h1 : (p * s) * (d * d') = (r * q) * (d * d') := by
      calc (p * s) * (d * d') = (p * d) * (s * d') := by
              rw [Int.mul_assoc, Int.mul_assoc, Int.mul_left_comm s d d']
        _ = (n * q) * (s * d') := by rw [c1]
        _ = (n * d') * (q * s) := by
              rw [Int.mul_assoc, Int.mul_assoc, Int.mul_comm s d', Int.mul_left_comm q d' s]
        _ = (n' * d) * (q * s) := by rw [h]
        _ = (n' * s) * (d * q) := by
              rw [Int.mul_assoc, Int.mul_assoc, Int.mul_comm q s, Int.mul_left_comm d s q]
        _ = (r * d') * (d * q) := by rw [c2]
        _ = (r * q) * (d * d') := by
              rw [Int.mul_assoc, Int.mul_assoc, Int.mul_comm d q, Int.mul_left_comm d' q d, Int.mul_comm d' d]
    exact Int.eq_of_mul_eq_mul_right (Int.mul_ne_zero (by omega) (by omega)) h1
  have u := low_uniq f.one f'.one f.q0 f'.q0 e
  rw [u.1, u.2]
theorem sg_zero_one : sg 0 1 = 1 := sg_one 0
theorem rd2_zero : rd2 0 1 = [0, 1] := by
  unfold rd2
  rw [sg_zero_one, Int.fdiv_one, Int.fdiv_one]
/-- the digits of a number are not too few -/
theorem lt_digits (n : Nat) : n < 2 ^ (4 * (toString (n : Int)).length + 4) := by
  have e : toString (n : Int) = Nat.repr n := rfl
  rw [e]
  have h : n < 10 ^ ((Nat.repr n).length + 1) := (Nat.length_repr_le_iff (Nat.succ_pos _)).mp (Nat.le_succ _)
  refine Nat.lt_of_lt_of_le h ?_
  have h2 : (10 : Nat) ^ ((Nat.repr n).length + 1) ≤ 16 ^ ((Nat.repr n).length + 1) := Nat.pow_le_pow_left (by decide) _
  have h3 : (16 : Nat) ^ ((Nat.repr n).length + 1) = 2 ^ (4 * (Nat.repr n).length + 4) := by
    rw [show (16 : Nat) = 2 ^ 4 from rfl, ← Nat.pow_mul]
    rfl
  omega
theorem eu_digits {a b t : Nat} (h : t = 4 * (toString (a : Int)).length + 4 * (toString (b : Int)).length + 60) : 2 * (a * b) < 2 ^ t := by
  subst h
  have h1 := lt_digits a
  have h2 := lt_digits b
  have h3 : a * b < 2 ^ (4 * (toString (a : Int)).length + 4) * 2 ^ (4 * (toString (b : Int)).length + 4) := Nat.mul_lt_mul'' h1 h2
  rw [← Nat.pow_add] at h3
  have h4 : 2 * (a * b) < 2 * 2 ^ (4 * (toString (a : Int)).length + 4 + (4 * (toString (b : Int)).length + 4)) := by omega
  rw [← Nat.pow_succ'] at h4
  exact Nat.lt_of_lt_of_le h4 (Nat.pow_le_pow_right (by decide) (by omega))
theorem args2 {x y : Int} (hx : 0 ≤ x) (hy : 0 ≤ y) : [V.int x, V.int y] ++ [] = [V.int ((x.natAbs : Nat) : Int), V.int ((y.natAbs : Nat) : Int)] := by
  have e1 : ((x.natAbs : Nat) : Int) = x := by omega
  have e2 : ((y.natAbs : Nat) : Int) = y := by omega
  rw [e1, e2]
  rfl
theorem mod_abs (x : Int) {b : Int} (h : 0 < b) : (x % b).natAbs ≤ b.natAbs := by
  have h1 := Int.emod_nonneg x (show b ≠ 0 by omega)
  have h2 := Int.emod_lt_of_pos x h
  omega
theorem mul_lt_abs {a b : Int} {A B : Nat} (ha : a.natAbs ≤ A) (hb : b.natAbs ≤ B) : (a * b).natAbs ≤ A * B := by
  rw [Int.natAbs_mul]
  exact Nat.mul_le_mul ha hb
def pd2 (x y : Int) : PyData := .tuple [.int x, .int y]
theorem dp2 {K : PySem.W.Frag} {H : Hp} {u : Addr} {x y : Int} (h : SqT K H u (zs [x, y])) : Dp K H (.ref u) (pd2 x y) :=
  .tup h (.cons (.int x) (.cons (.int y) .nil))
theorem eqv2 (x y : Int) : PyData.eqv (pd2 x y) (pd2 x y) = true := by
  unfold pd2
  simp [PyData.eqv, PyData.eqvAll]

def dv (x y z : Int) : Int := let g : Int := (Nat.gcd (Nat.gcd x.natAbs y.natAbs) z.natAbs : Nat)
  if HT.lexLt [x, y, z] [0, 0, 0] = true then -g else g
def g3 (x y z : Int) : Nat := Nat.gcd (Nat.gcd x.natAbs y.natAbs) z.natAbs
/-- the first one that is not 0 is below 0 -/
def dn (x y z : Int) : Bool := decide (x < 0) || (decide (x = 0) && (decide (y < 0) || (decide (y = 0) && decide (z < 0))))
theorem lex_dn (x y z : Int) : HT.lexLt [x, y, z] [0, 0, 0] = dn x y z := by
  rw [HT.lexLt_cons, HT.lexLt_cons, HT.lexLt_cons, HT.lexLt_nil_nil]
  unfold dn
  by_cases hx : x = 0
  · subst hx
    by_cases hy : y = 0
    · subst hy
      by_cases hz : z = 0
      · subst hz; decide
      · simp [hz]
    · simp [hy]
  · simp [hx]
theorem dv_eq (x y z : Int) : dv x y z = if dn x y z = true then -(g3 x y z : Int) else (g3 x y z : Int) := by
  unfold dv g3
  rw [lex_dn]
theorem dv_abs (x y z : Int) : (dv x y z).natAbs = g3 x y z := by
  rw [dv_eq]
  split
  · rw [Int.natAbs_neg, Int.natAbs_natCast]
  · rw [Int.natAbs_natCast]
theorem g3_pos {x y z : Int} (h : ¬ (x = 0 ∧ y = 0 ∧ z = 0)) : 0 < g3 x y z := by
  rcases Nat.eq_zero_or_pos (g3 x y z) with e | e
  · exfalso
    have h1 := Nat.gcd_eq_zero_iff.mp e
    have h2 := Nat.gcd_eq_zero_iff.mp h1.1
    omega
  · exact e
theorem dv_ne {x y z : Int} (h : ¬ (x = 0 ∧ y = 0 ∧ z = 0)) : dv x y z ≠ 0 := by
  intro e
  have h1 := dv_abs x y z
  have h2 := g3_pos h
  rw [e] at h1
  have : (0 : Int).natAbs = 0 := rfl
  omega
theorem g3_dx (x y z : Int) : (g3 x y z : Int) ∣ x := by
  refine Int.dvd_natAbs.mp (Int.natCast_dvd_natCast.mpr ?_)
  exact Nat.dvd_trans (Nat.gcd_dvd_left _ _) (Nat.gcd_dvd_left _ _)
theorem g3_dy (x y z : Int) : (g3 x y z : Int) ∣ y := by
  refine Int.dvd_natAbs.mp (Int.natCast_dvd_natCast.mpr ?_)
  exact Nat.dvd_trans (Nat.gcd_dvd_left _ _) (Nat.gcd_dvd_right _ _)
theorem g3_dz (x y z : Int) : (g3 x y z : Int) ∣ z := by
  refine Int.dvd_natAbs.mp (Int.natCast_dvd_natCast.mpr ?_)
  exact Nat.gcd_dvd_right _ _
theorem dv_dvd {x y z v : Int} (h : (g3 x y z : Int) ∣ v) : dv x y z ∣ v := by
  rw [dv_eq]
  split
  · exact Int.neg_dvd.mpr h
  · exact h
theorem dv_dx (x y z : Int) : dv x y z ∣ x := dv_dvd (g3_dx x y z)
theorem dv_dy (x y z : Int) : dv x y z ∣ y := dv_dvd (g3_dy x y z)
theorem dv_dz (x y z : Int) : dv x y z ∣ z := dv_dvd (g3_dz x y z)
theorem g3_le {x y z : Int} {n : Nat} (h : ¬ (x = 0 ∧ y = 0 ∧ z = 0)) (hx : x.natAbs ≤ n) (hy : y.natAbs ≤ n) (hz : z.natAbs ≤ n) : g3 x y z ≤ n := by
  by_cases h1 : x = 0
  · by_cases h2 : y = 0
    · have h3 : z ≠ 0 := fun e => h ⟨h1, h2, e⟩
      exact Nat.le_trans (Nat.le_of_dvd (by omega) (Nat.gcd_dvd_right _ _)) hz
    · exact Nat.le_trans (Nat.le_of_dvd (by omega) (Nat.dvd_trans (Nat.gcd_dvd_left _ _) (Nat.gcd_dvd_right _ _))) hy
  · exact Nat.le_trans (Nat.le_of_dvd (by omega) (Nat.dvd_trans (Nat.gcd_dvd_left _ _) (Nat.gcd_dvd_left _ _))) hx
theorem g3_mul (x y z t : Int) : g3 (x * t) (y * t) (z * t) = g3 x y z * t.natAbs := by
  unfold g3
  rw [Int.natAbs_mul, Int.natAbs_mul, Int.natAbs_mul, Nat.gcd_mul_right, Nat.gcd_mul_right]
/-- the parts have no divisor left -/
theorem g3_one {x y z a b c : Int} (h : ¬ (x = 0 ∧ y = 0 ∧ z = 0)) (ha : a * dv x y z = x) (hb : b * dv x y z = y) (hc : c * dv x y z = z) : g3 a b c = 1 := by
  have h1 : g3 x y z = g3 a b c * (dv x y z).natAbs := by
    have := g3_mul a b c (dv x y z)
    rw [ha, hb, hc] at this
    exact this
  rw [dv_abs] at h1
  have h2 := g3_pos h
  exact (Nat.eq_of_mul_eq_mul_right h2 (by rw [Nat.one_mul]; exact h1)).symm
theorem neg_mul_iff {v t : Int} (ht : 0 < t) : (v * t < 0 ↔ v < 0) ∧ (v * t = 0 ↔ v = 0) := by
  constructor
  · constructor
    · intro h
      rcases Int.lt_or_le v 0 with h1 | h1
      · exact h1
      · have := Int.mul_nonneg h1 (Int.le_of_lt ht)
        omega
    · exact fun h => Int.mul_neg_of_neg_of_pos h ht
  · constructor
    · intro h
      rcases Int.mul_eq_zero.mp h with h1 | h1
      · exact h1
      · omega
    · intro h
      rw [h, Int.zero_mul]
theorem dn_mul {x y z t : Int} (ht : 0 < t) : dn (x * t) (y * t) (z * t) = dn x y z := by
  unfold dn
  have hx := neg_mul_iff (v := x) ht
  have hy := neg_mul_iff (v := y) ht
  have hz := neg_mul_iff (v := z) ht
  simp only [hx, hy, hz]
theorem dn_neg {x y z : Int} (h : ¬ (x = 0 ∧ y = 0 ∧ z = 0)) : dn (-x) (-y) (-z) = !dn x y z := by
  unfold dn
  rcases Int.lt_trichotomy x 0 with hx | hx | hx
  · have h1 : ¬ (-x < 0) := by omega
    have h2 : ¬ (-x = 0) := by omega
    simp [hx, h1, h2]
    omega
  · subst hx
    rcases Int.lt_trichotomy y 0 with hy | hy | hy
    · have h1 : ¬ (-y < 0) := by omega
      have h2 : ¬ (-y = 0) := by omega
      simp [hy, h1, h2]
      omega
    · subst hy
      have hz : z ≠ 0 := fun e => h ⟨rfl, rfl, e⟩
      by_cases h1 : z < 0
      · have h2 : ¬ (-z < 0) := by omega
        simp [h1, h2]
        omega
      · have h2 : -z < 0 := by omega
        simp [h1, h2]
        omega
    · have h1 : -y < 0 := by omega
      have h2 : ¬ y < 0 := by omega
      have h3 : ¬ y = 0 := by omega
      simp [h1, h2, h3]
      omega
  · have h1 : -x < 0 := by omega
    have h2 : ¬ x < 0 := by omega
    have h3 : ¬ x = 0 := by omega
    simp [h1, h2, h3]
    omega
theorem dv_mul {x y z t : Int} (h : ¬ (x = 0 ∧ y = 0 ∧ z = 0)) (ht : t ≠ 0) : dv (x * t) (y * t) (z * t) = dv x y z * t := by
  rw [dv_eq, dv_eq, g3_mul]
  rcases Int.lt_or_gt_of_ne ht with h1 | h1
  · have e1 : ∀ v : Int, v * t = -v * -t := fun v => (Int.neg_mul_neg v t).symm
    have e2 : (t.natAbs : Int) = -t := by omega
    have h2 : ¬ (-x = 0 ∧ -y = 0 ∧ -z = 0) := by omega
    rw [e1 x, e1 y, e1 z, dn_mul (by omega), dn_neg h]
    cases dn x y z with
    | true => simp [e2, Int.neg_mul, Int.mul_neg]
    | false => simp [e2, Int.neg_mul, Int.mul_neg]
  · have e2 : (t.natAbs : Int) = t := by omega
    rw [dn_mul h1]
    cases dn x y z with
    | true => simp [e2, Int.neg_mul, Int.mul_neg]
    | false => simp [e2, Int.neg_mul, Int.mul_neg]
theorem fdiv_same {d v t : Int} (hd : d ≠ 0) (ht : t ≠ 0) (h : d ∣ v) : (v * t).fdiv (d * t) = v.fdiv d := by
  obtain ⟨k, rfl⟩ := h
  rw [Int.mul_assoc, Int.mul_comm k t, ← Int.mul_assoc, Int.mul_fdiv_cancel_left _ hd, Int.mul_fdiv_cancel_left]
  exact Int.mul_ne_zero hd ht

theorem zs_push {l : List Int} {n : Int} : zs l ++ [V.int n] = zs (l ++ [n]) := by
  show l.map V.int ++ [V.int n] = (l ++ [n]).map V.int
  rw [List.map_append]
  rfl
theorem zs_lt {l : List Int} (h : l.length ≤ 1000) : (zs l).length < sizeLine := by
  show (l.map V.int).length < sizeLine
  rw [List.length_map]
  exact small1000 h
theorem row_all {rs : List Int} {b : Int} (h : ∀ r ∈ rs, 0 ≤ r ∧ r < b) (x : Int) (hb : 0 < b) : ∀ r ∈ rs ++ [x % b], 0 ≤ r ∧ r < b := by
  intro r hr
  rcases List.mem_append.mp hr with h1 | h1
  · exact h r h1
  · rw [List.mem_singleton.mp h1]
    exact ⟨Int.emod_nonneg _ (by omega), Int.emod_lt_of_pos _ hb⟩
theorem ixN_in {n : Nat} {i : Int} (h0 : 0 ≤ i) (h : i < (n : Int)) : ixN n i = some i.toNat := by
  unfold ixN
  rw [if_pos h0, if_pos h]
theorem len3 {rs : List Int} (h : rs.length = 3) : ∃ a b c, rs = [a, b, c] := by
  match rs, h with
  | [a, b, c], _ => exact ⟨a, b, c, rfl⟩
theorem gl_three (x y z : Int) : gl [x, y, z] = g3 x y z := by
  show Nat.gcd z.natAbs (Nat.gcd y.natAbs (Nat.gcd x.natAbs 0)) = Nat.gcd (Nat.gcd x.natAbs y.natAbs) z.natAbs
  rw [Nat.gcd_zero_right, Nat.gcd_comm z.natAbs, Nat.gcd_comm y.natAbs]
def fs3 (x y z : Int) : Int := if x ≠ 0 then x else if y ≠ 0 then y else z
theorem fs3_get {x y z : Int} (h : ¬ (x = 0 ∧ y = 0 ∧ z = 0)) : (zs ([x, y, z].filter fun v => decide (v ≠ 0)))[0]? = some (.int (fs3 x y z)) := by
  unfold fs3
  by_cases hx : x = 0
  · by_cases hy : y = 0
    · have hz : z ≠ 0 := fun e => h ⟨hx, hy, e⟩
      simp [hx, hy, hz]
    · simp [hx, hy]
  · simp [hx]
theorem fs3_dn {x y z : Int} (h : ¬ (x = 0 ∧ y = 0 ∧ z = 0)) : decide (fs3 x y z < 0) = dn x y z := by
  unfold fs3 dn
  by_cases hx : x = 0
  · by_cases hy : y = 0
    · simp [hx, hy]
    · simp [hx, hy]
  · simp [hx]
theorem fil_snoc {l : List Int} {i : Nat} {z : Int} (h : l[i]? = some z) (hz : z ≠ 0) : zs ((l.take i).filter fun v => decide (v ≠ 0)) ++ [V.int z] = zs ((l.take (i + 1)).filter fun v => decide (v ≠ 0)) := by
  rw [take_snoc h, List.filter_append, zs_push]
  simp [hz]
theorem fil_same {l : List Int} {i : Nat} {z : Int} (h : l[i]? = some z) (hz : z = 0) : (l.take (i + 1)).filter (fun v => decide (v ≠ 0)) = (l.take i).filter fun v => decide (v ≠ 0) := by
  rw [take_snoc h, List.filter_append]
  simp [hz]
theorem fil_lt {l : List Int} (n : Nat) (h : l.length ≤ 1000) : (zs ((l.take n).filter fun v => decide (v ≠ 0))).length < sizeLine := by
  refine zs_lt ?_
  have h1 := List.length_filter_le (fun v : Int => decide (v ≠ 0)) (l.take n)
  rw [List.length_take] at h1
  omega
theorem zs_at {l : List Int} {i : Nat} {z : Int} (h : l[i]? = some z) : atI (zs l) (i : Int) = some (V.int z) := atI_nat (by
  rw [show zs l = l.map V.int from rfl, List.getElem?_map, h]
  rfl)
theorem parts_at {x y z d : Int} (hx : d ∣ x) (hy : d ∣ y) (hz : d ∣ z) {i : Nat} (hi : i < 3) : ∃ f v : Int, [x.fdiv d, y.fdiv d, z.fdiv d][i]? = some f ∧ [x, y, z][i]? = some v ∧ f * d = v := by
  obtain rfl | rfl | rfl : i = 0 ∨ i = 1 ∨ i = 2 := by omega
  · exact ⟨_, _, rfl, rfl, fdiv_back hx⟩
  · exact ⟨_, _, rfl, rfl, fdiv_back hy⟩
  · exact ⟨_, _, rfl, rfl, fdiv_back hz⟩
def pd3 (x y z : Int) : PyData := .tuple [.int x, .int y, .int z]
theorem dp3 {K : PySem.W.Frag} {H : Hp} {u : Addr} {x y z : Int} (h : SqT K H u (zs [x, y, z])) : Dp K H (.ref u) (pd3 x y z) :=
  .tup h (.cons (.int x) (.cons (.int y) (.cons (.int z) .nil)))
theorem eqv3 (x y z : Int) : PyData.eqv (pd3 x y z) (pd3 x y z) = true := by
  unfold pd3
  simp [PyData.eqv, PyData.eqvAll]

def sgn (i : Int) : Int := if i < 0 then -1 else if 0 < i then 1 else 0
theorem sgn_mul {a b : Int} (hb : 0 < b) : sgn (a * b) = sgn a := by
  have h := neg_mul_iff (v := a) hb
  have h2 : 0 < a * b ↔ 0 < a := by
    constructor
    · intro z
      have h3 : ¬ a < 0 := fun y => by
        have := h.1.mpr y
        omega
      have h4 : ¬ a = 0 := fun y => by
        have := h.2.mpr y
        omega
      omega
    · exact fun z => Int.mul_pos z hb
  unfold sgn
  by_cases h3 : a < 0
  · rw [if_pos h3, if_pos (h.1.mpr h3)]
  · rw [if_neg h3, if_neg (fun z => h3 (h.1.mp z))]
    by_cases h4 : 0 < a
    · rw [if_pos h4, if_pos (h2.mpr h4)]
    · rw [if_neg h4, if_neg (fun z => h4 (h2.mp z))]
theorem sg_pos {n d : Int} (h : 0 < d) : 0 < sg n d := by
  have hg : 0 < Nat.gcd n.natAbs d.natAbs := Nat.gcd_pos_of_pos_right _ (by omega)
  unfold sg
  rw [if_neg (by omega)]
  omega
/-- the sign of a fraction is that of its numerator, before and behind -/
theorem sgn_low {n d : Int} (h : 0 < d) : sgn (n.fdiv (sg n d)) = sgn n := by
  have h1 := fdiv_back (sg_dn n d)
  have h2 := sgn_mul (a := n.fdiv (sg n d)) (sg_pos (n := n) h)
  rw [h1] at h2
  exact h2.symm
theorem rd2_le {n d : Int} (hd : d ≠ 0) : ∃ p q, rd2 n d = [p, q] ∧ p.natAbs ≤ n.natAbs ∧ q.natAbs ≤ d.natAbs ∧ Fr n d p q :=
  have f := fr_of (n := n) hd
  ⟨_, _, rfl, part_le f.hp (sg_ne hd), part_le f.hq (sg_ne hd), f⟩
/-- a sum of two, each brought to lowest terms -/
theorem rd2_plus {a b c d p q r s : Int} (f : Fr a b p q) (g : Fr c d r s) (hb : 0 < b) (hd : 0 < d) : rd2 (p * s + r * q) (q * s) = rd2 (a * d + c * b) (b * d) := by
  have q0 := f.q0
  have s0 := g.q0
  have c1 := f.cross
  have c2 := g.cross
  exact rd2_eq (Int.mul_pos q0 s0) (Int.mul_pos hb hd) (by grind)
/-- what is in lowest terms stays -/
theorem low_of {p q : Int} (h : Nat.gcd p.natAbs q.natAbs = 1) (hq : 0 < q) : rd2 p q = [p, q] := by
  have f := fr_of (n := p) (show q ≠ 0 by omega)
  have c := f.cross
  have u := low_uniq f.one h f.q0 hq (by rw [f.cross])
  unfold rd2
  rw [u.1, u.2]
theorem fr_low {n d p q : Int} (f : Fr n d p q) : rd2 p q = [p, q] := low_of f.one f.q0
theorem eu_far2 {a b n : Nat} (hn : 3601 ≤ n) (ha : a < 2 ^ 1800) (hb : b < 2 ^ 1800) : 2 * (a * b) < 2 ^ n := by
  have h1 : a * b < 2 ^ 1800 * 2 ^ 1800 := Nat.mul_lt_mul'' ha hb
  rw [← Nat.pow_add] at h1
  have h2 : (2 : Nat) ^ 3601 ≤ 2 ^ n := Nat.pow_le_pow_right (by decide) hn
  rw [show (3601 : Nat) = 1 + (1800 + 1800) from rfl, Nat.pow_add] at h2
  generalize (2 : Nat) ^ (1800 + 1800) = B at *
  generalize (2 : Nat) ^ n = C at *
  omega
theorem rd2_eq0 {n d n' d' : Int} (hd : d ≠ 0) (hd' : d' ≠ 0) (h : n * d' = n' * d) : rd2 n d = rd2 n' d' := by
  have f := fr_of (n := n) hd
  have f' := fr_of (n := n') hd'
  have c1 := f.cross
  have c2 := f'.cross
  unfold rd2
  generalize n.fdiv (sg n d) = p at f c1
  generalize d.fdiv (sg n d) = q at f c1
  generalize n'.fdiv (sg n' d') = r at f' c2
  generalize d'.fdiv (sg n' d') = s at f' c2
  have e : p * s = r * q := by
    have h1 : (p * s) * (d * d') = (r * q) * (d * d') := by grind
    exact Int.eq_of_mul_eq_mul_right (Int.mul_ne_zero hd hd') h1
  have u := low_uniq f.one f'.one f.q0 f'.q0 e
  rw [u.1, u.2]

/-- a row of fractions: where each stands, its two numbers -/
structure Rows (K : PySem.W.Frag) (H : Hp) (ws : List (Addr × Int × Int)) : Prop where
  at_ : ∀ w ∈ ws, SqT K H w.1 (zs [w.2.1, w.2.2])
  b1 : ∀ w ∈ ws, w.2.1.natAbs < 2 ^ 40
  b2 : ∀ w ∈ ws, w.2.2.natAbs < 2 ^ 40
  b3 : ∀ w ∈ ws, 0 < w.2.2
  few : ws.length ≤ 9
theorem Rows.nil {K : PySem.W.Frag} {H : Hp} : Rows K H [] :=
  ⟨(fun _ h => nomatch h), (fun _ h => nomatch h), (fun _ h => nomatch h), (fun _ h => nomatch h), by decide⟩
def rf (ws : List (Addr × Int × Int)) : List V := ws.map fun w => V.ref w.1
theorem Rows.same {K : PySem.W.Frag} {H H' : Hp} {ws : List (Addr × Int × Int)} (r : Rows K H ws) (s : Same H H') : Rows K H' ws :=
  ⟨fun w hw => same_tup s (r.at_ w hw), r.b1, r.b2, r.b3, r.few⟩
theorem Rows.take {K : PySem.W.Frag} {H : Hp} {ws : List (Addr × Int × Int)} (r : Rows K H ws) (i : Nat) : Rows K H (ws.take i) :=
  ⟨fun w hw => r.at_ w (List.mem_of_mem_take hw), fun w hw => r.b1 w (List.mem_of_mem_take hw), fun w hw => r.b2 w (List.mem_of_mem_take hw), fun w hw => r.b3 w (List.mem_of_mem_take hw), by
    rw [List.length_take]
    have := r.few
    omega⟩
theorem rf_get {ws : List (Addr × Int × Int)} {i : Nat} {v : V} (h : (rf ws)[i]? = some v) : ∃ w, v = .ref w.1 ∧ ws[i]? = some w := by
  rw [show rf ws = ws.map fun w => V.ref w.1 from rfl, List.getElem?_map] at h
  cases e : ws[i]? with
  | none =>
    rw [e] at h
    cases h
  | some w =>
    rw [e] at h
    exact ⟨w, (Option.some.inj h).symm, rfl⟩
theorem rf_len (ws : List (Addr × Int × Int)) : (rf ws).length = ws.length := List.length_map _
theorem take_sn {α : Type} {l : List α} {i : Nat} {z : α} (h : l[i]? = some z) : l.take (i + 1) = l.take i ++ [z] := by
  rw [List.take_add_one, h]
  rfl
theorem tup_upd {K : PySem.W.Frag} {H : Hp} {a l : Addr} {xs ys : List V} {o : HO} (h : SqT K H a xs) (hl : H l = some (.lst ys)) : SqT K (upd H l o) a xs := by
  rcases h with (h | ⟨ob, h⟩) | h
  · refine .inl (.inl ?_)
    rw [upd_ne (ne_of h hl (by intro z; cases z))]
    exact h
  · refine .inl (.inr ⟨ob, ?_⟩)
    rw [upd_ne (ne_of h hl (by intro z; cases z))]
    exact h
  · exact .inr h
theorem tyx_tup {K : PySem.W.Frag} {H : Hp} {a : Addr} {xs : List V} (h : SqT K H a xs) : TyX K H (.ref a) (.type "tuple") := by
  rcases h with (h | ⟨ob, h⟩) | ⟨o, its, n, h, hc, _⟩
  · exact .base (.tup h)
  · exact .fTuple h
  · exact .kTuple h hc
theorem no_self {x : V} (h : (!decide (x = x)) = true) : False := by
  rw [decide_eq_true rfl] at h
  cases h

section ZipMixed
open PySem PySem.Spec PyProof.Rows
/-- a list or a tuple that stands still -/
def SqB (f : Bool) (K : PySem.W.Frag) (H : Hp) (q : Addr) (vs : List V) : Prop := bif f then SqT K H q vs else SqL K H q vs
def ItB (f : Bool) (h : Heap) (it q : Addr) (i : Nat) : Prop := bif f then h.IsTupleIter it q i else h.IsListIter it q i
def AtB (f : Bool) (h : Heap) (q : Addr) (us : Array Value) : Prop := bif f then h.IsTuple q us else h.IsList q us
def oB (f : Bool) (q : Addr) : Obj := bif f then { cls := .type "tuple_iterator", data := .fields #[.ref q, .int 0 0] } else { cls := .type "list_iterator", data := .fields #[.ref q, .int 0 0] }
theorem ItB.live {f : Bool} {h : Heap} {it q : Addr} {i : Nat} (s : ItB f h it q i) : ∃ o, h.get? it = some o ∧ ∀ v, o.data ≠ .cell v := by
  cases f
  · obtain ⟨o, e, _, d⟩ := s
    exact ⟨o, e, fun v z => by rw [d] at z; cases z⟩
  · obtain ⟨o, e, _, d⟩ := s
    exact ⟨o, e, fun v z => by rw [d] at z; cases z⟩
theorem ItB.keep {f : Bool} {h h' : Heap} {it q : Addr} {i : Nat} (s : ItB f h it q i) (k : ∀ o, h.get? it = some o → h'.get? it = some o) : ItB f h' it q i := by
  cases f
  · exact Heap.IsListIter.at s k
  · exact Heap.IsTupleIter.at s k
theorem SqB.at_ {X : Cx} {pins : List (Addr × Obj)} {σ : L2.St} {H : Hp} {s : Shared} {f : Bool} {q : Addr} {vs : List V} (I : Inv X pins σ H s) (h : SqB f X.K H q vs) :
    ∃ us : List Value, Vals vs us ∧ AtB f s.heap q us.toArray := by
  cases f
  · obtain ⟨us, rv, p, _⟩ := I.list h
    exact ⟨us, rv, p.isList⟩
  · obtain ⟨us, rv, p, _⟩ := I.tuple h
    exact ⟨us, rv, p⟩
theorem SqB.inj {X : Cx} {pins : List (Addr × Obj)} {σ : L2.St} {H : Hp} {s : Shared} {f : Bool} {q : Addr} {vs ws : List V} (I : Inv X pins σ H s) (h : SqB f X.K H q vs) (h2 : SqB f X.K H q ws) : vs = ws := by
  cases f
  · exact I.list_inj h h2
  · exact I.tuple_inj h h2
theorem drawsB {P : Program} {w : World} {A : Around} (hh : A.handled = none) (f : Bool) (it q : Addr) (hne : q ≠ it) (us : Array Value) :
    Draws P w A it [it, q] us.size (fun i v => us[i]? = some v) (fun i h => ItB f h it q i ∧ AtB f h q us) := by
  cases f
  · exact Draws.list hh it q hne us
  · exact Draws.tuple hh it q hne us
theorem beginsB (f : Bool) (q : Addr) (us : Array Value) : Begins (.ref q) (oB f q) fun h => AtB f h q us := by
  cases f
  · exact begins_list q us
  · exact begins_tuple q us
theorem AtB.lt {f : Bool} {h : Heap} {q : Addr} {us : Array Value} (p : AtB f h q us) : q < h.objs.size := by
  cases f
  · obtain ⟨o, e, _⟩ := p
    exact Heap.lt_size e
  · obtain ⟨o, e, _⟩ := p
    exact Heap.lt_size e
theorem oB_it {f : Bool} {h : Heap} {it q : Addr} (e : h.get? it = some (oB f q)) : ItB f h it q 0 := by
  cases f
  · exact ⟨_, e, rfl, rfl⟩
  · exact ⟨_, e, rfl, rfl⟩
theorem sep_of {z TI TO i1 i2 a b : Addr} (D : ZipApart z TI TO i1 i2 a b) : ZipSep2 z TI TO i1 i2 [i1, a] [i2, b] where
  TIz := D.TIz
  TOz := D.TOz
  TITO := D.TITO
  TIi1 := D.TIi1
  mem1 := by simp
  zf1 := by simp [D.i1z.symm, D.l1z.symm]
  Tf1 := by simp [D.TOi1, D.l1TO.symm]
  TIi2 := D.TIi2
  mem2 := by simp
  zf2 := by simp [D.i2z.symm, D.l2z.symm]
  Tf2 := by simp [D.TOi2, D.l2TO.symm]
  sep1_2 := by simp [D.i12, D.l2i1.symm]
  sep2_1 := by simp [D.i12.symm, D.l1i2.symm]
/-- the two as they stand at each turn, what they hold in new pairs -/
def ItzB (f g : Bool) (K : PySem.W.Frag) (a b : Addr) : It :=
  ⟨fun i H => ∃ (xs ys : List V) (x y : V), SqB f K H a xs ∧ SqB g K H b ys ∧ xs[i]? = some x ∧ ys[i]? = some y,
    fun i H v H' => ∃ T x y, v = .ref T ∧ H T = none ∧ H' = upd H T (.tup [x, y]) ∧ (∀ xs, SqB f K H a xs → xs[i]? = some x) ∧ ∀ ys, SqB g K H b ys → ys[i]? = some y,
    fun i H => ∃ xs ys : List V, SqB f K H a xs ∧ SqB g K H b ys ∧ i ≤ xs.length ∧ i ≤ ys.length ∧ (i = xs.length ∨ i = ys.length)⟩
theorem turn_zipB {P : Program} {w : World} {K : PySem.W.Frag} {elts : List Expr} {kk : Nat} {tpos : Pos} {a b z TI TO i1 i2 : Addr} (f g : Bool) (D : ZipApart z TI TO i1 i2 a b) :
    Turn P w K (.Tuple elts kk tpos) (ItzB f g K a b) [z, TI, TO, i1, i2] z (fun i h => IsZip h z TI TO .none ∧ IsPair h TI (.ref i1) (.ref i2) ∧ (∃ x y, IsPair h TO x y) ∧ ItB f h i1 a i ∧ ItB g h i2 b i) where
  mem := by simp
  obj := fun i h st c hc => by
    obtain ⟨hz, hTI, ⟨x, y, hTO⟩, h1, h2⟩ := st
    have e' : c = z ∨ c = TI ∨ c = TO ∨ c = i1 ∨ c = i2 := by simpa using hc
    rcases e' with rfl | rfl | rfl | rfl | rfl
    · exact ⟨_, hz, fun v q => nomatch q⟩
    · exact ⟨_, hTI, fun v q => nomatch q⟩
    · exact ⟨_, hTO, fun v q => nomatch q⟩
    · exact h1.live
    · exact h2.live
  keep := fun i h h' st k => by
    obtain ⟨hz, hTI, ⟨x, y, hTO⟩, h1, h2⟩ := st
    exact ⟨k z (by simp) _ hz, k TI (by simp) _ hTI, ⟨x, y, k TO (by simp) _ hTO⟩, h1.keep fun o q => k i1 (by simp) o q, h2.keep fun o q => k i2 (by simp) o q⟩
  item := by
    intro X hP hw hK hc i pins s σ H E I hf st hg
    subst hP hw hK
    obtain ⟨hz, hTI, ⟨x0, y0, hTO⟩, h1, h2⟩ := st
    obtain ⟨xs, ys, x, y, hqx, hqy, hx, hy⟩ := hg
    obtain ⟨us, rv, p⟩ := hqx.at_ I
    obtain ⟨us2, rv2, p2⟩ := hqy.at_ I
    obtain ⟨u, hu, ru⟩ := rv.get hx
    obtain ⟨u2, hu2, ru2⟩ := rv2.get hy
    have hzl : z < s.heap.objs.size := Heap.lt_size hz
    have lx : i < us.toArray.size := by
      have := (List.getElem?_eq_some_iff.mp hu).1
      simpa using this
    have ly : i < us2.toArray.size := by
      have := (List.getElem?_eq_some_iff.mp hu2).1
      simpa using this
    have hhd : X.A.in1.handled = none := I.ok.hd hc
    refine wpAny_pyNext_zipD2_item (sep_of D) (drawsB hhd f i1 a D.l1i1 us.toArray) (drawsB hhd g i2 b D.l2i2 us2.toArray) hz hTI hTO ⟨h1, p⟩ ⟨h2, p2⟩ lx ly fun v1 v2 h' tk e1 e2 z' TO' st1 st2 hT hsz hk => ?_
    have w1 : v1 = u := by
      have : us[i]? = some v1 := by simpa using e1
      rw [hu] at this
      exact (Option.some.inj this).symm
    have w2 : v2 = u2 := by
      have : us2[i]? = some v2 := by simpa using e2
      rw [hu2] at this
      exact (Option.some.inj this).symm
    subst w1 w2
    refine ⟨_, rfl, wpAny_letOwnedTupleGo_zip (s := { s with heap := h', toks := tk }) z' fun h'' z'' sb => ?_⟩
    have hT2 : h''.get? s.heap.objs.size = some { cls := .type "tuple", data := .seq #[v1, v2] } := (sb.2 _ (Nat.ne_of_gt hzl)).trans hT
    have new : ObjOk X.prog X.w (upd H s.heap.objs.size (.tup [x, y])) h'' s.heap.objs.size (.tup [x, y]) :=
      ⟨by show 2 ≤ sizeLine; decide, [v1, v2], .cons ru (.cons ru2 .nil), ⟨_, hT2, rfl, _, rfl⟩⟩
    have I1 : Inv X pins σ (upd H s.heap.objs.size (.tup [x, y])) { s with heap := h'', toks := tk } :=
      I.turnedNew (t' := tk) (ch := [z, TI, TO, i1, i2]) (fun c o hb q => (sb.2 c (fun q' => hb (by simp [q']))).trans (hk c o (fun q' => hb (by simp [q'])) (fun q' => hb (by simp [q'])) (fun q' => hb (by simp [q'])) (fun q' => hb (by simp [q'])) q)) hf (Nat.le_refl _) new
    refine ⟨.ref s.heap.objs.size, _, I1, rfl, ⟨_, x, y, rfl, I.hok.fresh (Nat.le_refl _), rfl, fun l hl => by rw [hl.inj I hqx]; exact hx, fun l hl => by rw [hl.inj I hqy]; exact hy⟩, ⟨z'', ?_, ⟨v1, v2, ?_⟩, ?_, ?_⟩, fun c hcm => ?_⟩
    · exact (sb.2 _ D.TIz).trans (hk _ _ D.TIz D.TITO D.TIi1 D.TIi2 hTI)
    · exact (sb.2 _ D.TOz).trans TO'
    · exact st1.1.keep fun o q => (sb.2 _ D.i1z).trans q
    · exact st2.1.keep fun o q => (sb.2 _ D.i2z).trans q
    · have hlt : c < s.heap.objs.size := by
        have e' : c = z ∨ c = TI ∨ c = TO ∨ c = i1 ∨ c = i2 := by simpa using hcm
        rcases e' with rfl | rfl | rfl | rfl | rfl
        · exact hzl
        · exact Heap.lt_size hTI
        · exact Heap.lt_size hTO
        · obtain ⟨_, e1, _⟩ := h1.live; exact Heap.lt_size e1
        · obtain ⟨_, e1, _⟩ := h2.live; exact Heap.lt_size e1
      rw [upd_ne (Nat.ne_of_lt hlt)]
      exact (hf c hcm).1
  done := by
    intro X hP hw hK hc i pins s σ H E I hf st hg
    subst hP hw hK
    obtain ⟨hz, hTI, ⟨x0, y0, hTO⟩, h1, h2⟩ := st
    obtain ⟨xs, ys, hqx, hqy, hend1, hend2, hend3⟩ := hg
    obtain ⟨us, rv, p⟩ := hqx.at_ I
    obtain ⟨us2, rv2, p2⟩ := hqy.at_ I
    have l1 := rv.length
    have l2 := rv2.length
    have hhd : X.A.in1.handled = none := I.ok.hd hc
    have z1 : us.toArray.size = us.length := by simp
    have z2 : us2.toArray.size = us2.length := by simp
    exact wpAny_pyNext_zipD2_end (sep_of D) (drawsB hhd f i1 a D.l1i1 us.toArray) (drawsB hhd g i2 b D.l2i2 us2.toArray) hz hTI hTO ⟨h1, p⟩ ⟨h2, p2⟩ (by omega) (by omega) (by omega) fun h' tk hk => ⟨rfl, I.turnedL (t' := tk) (ch := [z, TI, TO, i1, i2]) (fun c o hb q =>
      hk c o (fun q' => hb (by simp [q'])) (fun q' => hb (by simp [q'])) (fun q' => hb (by simp [q'])) (fun q' => hb (by simp [q'])) q) hf⟩
  self := fun A i s Q E st h => wpAny_pyIter_zip st.1 h
def iZipB (K : PySem.W.Frag) (ta : TA) : TI := fun σ H R => ta σ H fun vs H1 => ∃ (f g : Bool) (a b : Addr) (xs ys : List V), vs = [.ref a, .ref b] ∧ SqB f K H1 a xs ∧ SqB g K H1 b ys ∧ R (ItzB f g K a b) H1
theorem pi_zipB {X : Cx} {e e2 : Expr} {ta : TA} {p pos tpos : Pos} {elts : List Expr} {kk : Nat} (hg : Gl X "zip") (hm : X.mg "zip" = none) (ha : PA X [e, e2] ta)
    (hs : starEach [e, e2] X.env = (false, eval e X.env) :: starEach [e2] X.env := by rfl) (hpl : (backTo pos (starEach [e2] X.env)).any (·.1) = false := by rfl) :
    PI X (.Tuple elts kk tpos) (.Call (.Name "zip" p) [e, e2] [] pos) (iZipB X.K ta) := by
  refine ⟨fun pins s σ H R I h => ?_⟩
  refine Call_ (ld_blt I hg hm PyProof.Rows.boot_zip (PyProof.Rows.callWith_type1 (thn (ha.run pos pins s σ H _ I h) fun us s1 ⟨vs, H1, I1, r1, q1⟩ => ?_) hs hpl))
  obtain ⟨f, g, a, b, xs, ys, rfl, hqx, hqy, q⟩ := q1
  obtain ⟨u1, u2, rfl, r, r'⟩ := vals2 r1
  cases r
  cases r'
  obtain ⟨_, rv, p1⟩ := hqx.at_ I1
  obtain ⟨_, rv2, p2⟩ := hqy.at_ I1
  refine zip_begins2 (beginsB f a _) (beginsB g b _) p1 p2 fun h' hz hTI hTO h1 h2 hsz hk => wpAny_pyIter_zip hz ?_
  have I2 : Inv X pins σ H1 { s1 with heap := h' } := I1.kept (t' := s1.toks) hk
  refine ⟨s1.heap.objs.size + 4, [s1.heap.objs.size + 4, s1.heap.objs.size + 2, s1.heap.objs.size + 3, s1.heap.objs.size, s1.heap.objs.size + 1], _, _, H1, rfl, I2, turn_zipB f g (PySem.W.ktu_apart s1.heap.objs.size a b p1.lt p2.lt), ⟨hz, hTI, ⟨_, _, hTO⟩, oB_it h1, oB_it h2⟩, fun c hcm => ?_, q⟩
  have e' : c = s1.heap.objs.size + 4 ∨ c = s1.heap.objs.size + 2 ∨ c = s1.heap.objs.size + 3 ∨ c = s1.heap.objs.size ∨ c = s1.heap.objs.size + 1 := by simpa using hcm
  have hle : s1.heap.objs.size ≤ c := by
    rcases e' with z | z | z | z | z
    · rw [z]; exact Nat.le_add_right _ _
    · rw [z]; exact Nat.le_add_right _ _
    · rw [z]; exact Nat.le_add_right _ _
    · rw [z]; exact Nat.le_refl _
    · rw [z]; exact Nat.le_add_right _ _
  exact I1.fpOk hle (I1.hok.fresh hle)
theorem walk_zipB {f g : Bool} {K : PySem.W.Frag} {a b : Addr} {xs ys : List V} {n : Nat} (hn : n = min xs.length ys.length) : Walk (ItzB f g K a b) n (fun H => SqB f K H a xs ∧ SqB g K H b ys) (YPair (fun i => xs[i]?) (fun i => ys[i]?)) := by
  subst hn
  refine ⟨fun i _ hi q => ?_, fun _ q => ⟨xs, ys, q.1, q.2, by omega, by omega, by omega⟩, fun i H v H' _ q y => ?_⟩
  · have h1 : i < xs.length := by omega
    have h2 : i < ys.length := by omega
    exact ⟨xs, ys, xs[i], ys[i], q.1, q.2, by simp [h1], by simp [h2]⟩
  · obtain ⟨T, u, u2, h1, h2, h3, h4, h5⟩ := y
    exact ⟨T, u, u2, h1, h2, h3, h4 xs q.1, h5 ys q.2⟩
end ZipMixed

theorem rat_rd {n d : Int} (hd : d ≠ 0) : rd2 n d = [(Rat.divInt n d).num, ((Rat.divInt n d).den : Int)] := by
  have h0 : ((Rat.divInt n d).den : Int) ≠ 0 := by
    have := (Rat.divInt n d).den_nz
    omega
  have e : Rat.divInt n d = Rat.divInt (Rat.divInt n d).num ((Rat.divInt n d).den : Int) := (Rat.num_divInt_den _).symm
  have c := (Rat.divInt_eq_divInt_iff hd h0).mp e
  rw [rd2_eq0 hd h0 c]
  exact low_of (Rat.divInt n d).reduced (by have := (Rat.divInt n d).den_nz; omega)
/-- a fraction that stands at an address -/
def Fx (K : PySem.W.Frag) (H : Hp) (a : Addr) (r : Rat) : Prop := SqT K H a (zs [r.num, (r.den : Int)])
theorem Fx.same {K : PySem.W.Frag} {H H' : Hp} {a : Addr} {r : Rat} (h : Fx K H a r) (s : Same H H') : Fx K H' a r := same_tup s h
theorem fx_rd {K : PySem.W.Frag} {H : Hp} {a : Addr} {n d : Int} (hd : d ≠ 0) (h : H a = some (.tup (zs (rd2 n d)))) : Fx K H a (Rat.divInt n d) := by
  unfold Fx
  rw [← rat_rd hd]
  exact SqT.of h
theorem fx_at {K : PySem.W.Frag} {H : Hp} {a : Addr} {r : Rat} (h : H a = some (.tup (zs [r.num, (r.den : Int)]))) : Fx K H a r := SqT.of h
def Bd (n : Nat) (r : Rat) : Prop := r.num.natAbs < 2 ^ n ∧ r.den < 2 ^ n
theorem Bd.up {n m : Nat} {r : Rat} (h : Bd n r) (hm : n ≤ m) : Bd m r :=
  ⟨Nat.lt_of_lt_of_le h.1 (Nat.pow_le_pow_right (by decide) hm), Nat.lt_of_lt_of_le h.2 (Nat.pow_le_pow_right (by decide) hm)⟩
theorem Bd.den {n : Nat} {r : Rat} (h : Bd n r) : ((r.den : Nat) : Int).natAbs < 2 ^ n := h.2
theorem den_pos (r : Rat) : (0 : Int) < (r.den : Int) := by
  have := r.den_nz
  omega
theorem den_ne (r : Rat) : ((r.den : Nat) : Int) ≠ 0 := by
  have := den_pos r
  omega
theorem bd_of {n d : Int} {k : Nat} (hd : d ≠ 0) (h1 : n.natAbs < 2 ^ k) (h2 : d.natAbs < 2 ^ k) : Bd k (Rat.divInt n d) := by
  obtain ⟨p, q, e, l1, l2, _⟩ := rd2_le (n := n) hd
  rw [rat_rd hd] at e
  have e1 : (Rat.divInt n d).num = p := by injection e
  have e2 : ((Rat.divInt n d).den : Int) = q := by
    injection e with _ e
    injection e
  refine ⟨by rw [e1]; omega, ?_⟩
  have : (Rat.divInt n d).den = q.natAbs := by rw [← e2]; rfl
  omega
theorem add_div (r s : Rat) : r + s = Rat.divInt (r.num * s.den + s.num * r.den) (r.den * s.den) := by
  rw [Rat.add_def', Rat.divInt_eq_div, Rat.mkRat_eq_div]
  rfl
theorem sub_div (r s : Rat) : r - s = Rat.divInt (r.num * s.den - s.num * r.den) (r.den * s.den) := by
  rw [Rat.sub_def', Rat.divInt_eq_div, Rat.mkRat_eq_div]
  rfl
theorem mul_div (r s : Rat) : r * s = Rat.divInt (r.num * s.num) (r.den * s.den) := by
  rw [Rat.mul_def', Rat.divInt_eq_div, Rat.mkRat_eq_div]
  rfl
theorem dd_ne (r s : Rat) : ((r.den : Int) * (s.den : Int)) ≠ 0 := Int.mul_ne_zero (den_ne r) (den_ne s)
theorem pow_two_add (a b : Nat) : (2 : Nat) ^ (a + b + 1) = 2 * 2 ^ (a + b) := by
  rw [Nat.pow_succ, Nat.mul_comm]
theorem wl {x y : Int} {a b : Nat} (h : x.natAbs < 2 ^ a) (h2 : y.natAbs < 2 ^ b) : (x * y).natAbs < 2 ^ (a + b) := by
  rw [Int.natAbs_mul, Nat.pow_add]
  exact Nat.mul_lt_mul'' h h2
theorem Bd.mul {a b : Nat} {r s : Rat} (h : Bd a r) (h2 : Bd b s) : Bd (a + b) (r * s) := by
  rw [mul_div]
  exact bd_of (dd_ne r s) (wl h.1 h2.1) (wl h.den h2.den)
theorem Bd.add {a b : Nat} {r s : Rat} (h : Bd a r) (h2 : Bd b s) : Bd (a + b + 1) (r + s) := by
  rw [add_div]
  have e := pow_two_add a b
  have w1 := wl h.1 h2.den
  have w2 := wl h2.1 h.den
  have w3 := wl h.den h2.den
  rw [Nat.add_comm b a] at w2
  have := Int.natAbs_add_le (r.num * (s.den : Int)) (s.num * (r.den : Int))
  exact bd_of (dd_ne r s) (by omega) (by omega)
theorem Bd.sub {a b : Nat} {r s : Rat} (h : Bd a r) (h2 : Bd b s) : Bd (a + b + 1) (r - s) := by
  rw [sub_div]
  have e := pow_two_add a b
  have w1 := wl h.1 h2.den
  have w2 := wl h2.1 h.den
  have w3 := wl h.den h2.den
  rw [Nat.add_comm b a] at w2
  have := Int.natAbs_sub_le (r.num * (s.den : Int)) (s.num * (r.den : Int))
  exact bd_of (dd_ne r s) (by omega) (by omega)
theorem Bd.neg {a : Nat} {r : Rat} (h : Bd a r) : Bd a (-r) := by
  refine ⟨?_, ?_⟩
  · rw [Rat.neg_num, Int.natAbs_neg]
    exact h.1
  · rw [Rat.neg_den]
    exact h.2
theorem bd_zero : Bd 1 0 := ⟨by decide, by decide⟩
theorem bd_one : Bd 1 1 := ⟨by decide, by decide⟩
def pdr (r : Rat) : PyData := pd2 r.num (r.den : Int)
theorem dpr {K : PySem.W.Frag} {H : Hp} {a : Addr} {r : Rat} (h : Fx K H a r) : Dp K H (.ref a) (pdr r) := dp2 h
theorem eqvr (r s : Rat) : PyData.eqv (pdr r) (pdr s) = decide (r = s) := by
  unfold pdr pd2
  simp only [PyData.eqv, PyData.eqvAll, Bool.and_true]
  by_cases h : r = s
  · subst h
    simp
  · rw [decide_eq_false h]
    by_cases h1 : r.num = s.num
    · have h2 : ¬ r.den = s.den := fun z => h (Rat.ext h1 z)
      simp [h1]
      omega
    · simp [h1]
/-- a row of fractions: where each stands, what it is -/
def Rx (K : PySem.W.Frag) (H : Hp) (ws : List (Addr × Rat)) : Prop := ∀ w ∈ ws, Fx K H w.1 w.2
def fr (ws : List (Addr × Rat)) : List V := ws.map fun w => V.ref w.1
theorem Rx.same {K : PySem.W.Frag} {H H' : Hp} {ws : List (Addr × Rat)} (h : Rx K H ws) (s : Same H H') : Rx K H' ws := fun w hw => (h w hw).same s
theorem fr_len (ws : List (Addr × Rat)) : (fr ws).length = ws.length := List.length_map _
theorem fr_get {ws : List (Addr × Rat)} {i : Nat} {v : V} (h : (fr ws)[i]? = some v) : ∃ w, v = .ref w.1 ∧ ws[i]? = some w := by
  rw [show fr ws = ws.map fun w => V.ref w.1 from rfl, List.getElem?_map] at h
  cases e : ws[i]? with
  | none =>
    rw [e] at h
    cases h
  | some w =>
    rw [e] at h
    exact ⟨w, (Option.some.inj h).symm, rfl⟩
theorem fr_at {ws : List (Addr × Rat)} {i : Nat} {r : Rat} (h : (ws.map (·.2))[i]? = some r) : ∃ t, (fr ws)[i]? = some (.ref t) ∧ (t, r) ∈ ws := by
  rw [List.getElem?_map] at h
  cases e : ws[i]? with
  | none =>
    rw [e] at h
    cases h
  | some w =>
    rw [e] at h
    have : w.2 = r := Option.some.inj h
    subst this
    refine ⟨w.1, ?_, List.mem_of_getElem? e⟩
    rw [show fr ws = ws.map fun w => V.ref w.1 from rfl, List.getElem?_map, e]
    rfl
theorem dpAll {K : PySem.W.Frag} {H : Hp} : ∀ {ws : List (Addr × Rat)}, Rx K H ws → DpAll K H (fr ws) ((ws.map (·.2)).map pdr)
  | [], _ => .nil
  | w :: ws, h => .cons (dpr (h w List.mem_cons_self)) (dpAll fun x hx => h x (List.mem_cons_of_mem _ hx))
theorem eqvAllr : ∀ rs ss : List Rat, PyData.eqvAll (rs.map pdr) (ss.map pdr) = decide (rs = ss)
  | [], [] => rfl
  | [], _ :: _ => rfl
  | _ :: _, [] => rfl
  | r :: rs, s :: ss => by
    rw [List.map_cons, List.map_cons, PyData.eqvAll, eqvr, eqvAllr rs ss]
    by_cases h1 : r = s
    · by_cases h2 : rs = ss
      · simp [h1, h2]
      · simp [h1, h2]
    · simp [h1]
theorem shr (rs : List Rat) : PyData.canLayAll0 (rs.map pdr) = true ∧ PyData.depthAll (rs.map pdr) ≤ 1 := by
  induction rs with
  | nil => decide
  | cons r rs ih =>
    rw [List.map_cons, PyData.canLayAll0, PyData.depthAll, ih.1]
    exact ⟨rfl, Nat.max_le.mpr ⟨Nat.le_refl 1, ih.2⟩⟩
theorem shrl (rs : List Rat) : SeqAt.shaped (.list (rs.map pdr)) = true := by
  have h1 := (shr rs).1
  have h2 := (shr rs).2
  unfold SeqAt.shaped
  rw [PyData.canLay0, PyData.depth, h1, decide_eq_true (by omega)]
  rfl
theorem shrt (rs : List Rat) : SeqAt.shaped (.tuple (rs.map pdr)) = true := by
  have h1 := (shr rs).1
  have h2 := (shr rs).2
  unfold SeqAt.shaped
  rw [PyData.canLay0, PyData.depth, h1, decide_eq_true (by omega)]
  rfl
/-- a value along parameters: its base, its slopes -/
def Vx (K : PySem.W.Frag) (H : Hp) (t : Addr) (b : Rat) (ss : List Rat) : Prop := ∃ (p q : Addr) (ws : List (Addr × Rat)), SqT K H t [.ref p, .ref q] ∧ Fx K H p b ∧ SqT K H q (fr ws) ∧ Rx K H ws ∧ ws.map (·.2) = ss
theorem Vx.same {K : PySem.W.Frag} {H H' : Hp} {t : Addr} {b : Rat} {ss : List Rat} (h : Vx K H t b ss) (s : Same H H') : Vx K H' t b ss := by
  obtain ⟨p, q, ws, h1, h2, h3, h4, h5⟩ := h
  exact ⟨p, q, ws, same_tup s h1, h2.same s, same_tup s h3, h4.same s, h5⟩
def pdv (b : Rat) (ss : List Rat) : PyData := .tuple [pdr b, .tuple (ss.map pdr)]
theorem dpv {K : PySem.W.Frag} {H : Hp} {t : Addr} {b : Rat} {ss : List Rat} (h : Vx K H t b ss) : Dp K H (.ref t) (pdv b ss) := by
  obtain ⟨p, q, ws, h1, h2, h3, h4, rfl⟩ := h
  exact .tup h1 (.cons (dpr h2) (.cons (.tup h3 (dpAll h4)) .nil))
theorem eqvv (b c : Rat) (ss us : List Rat) : PyData.eqv (pdv b ss) (pdv c us) = decide (b = c ∧ ss = us) := by
  unfold pdv
  rw [PyData.eqv, PyData.eqvAll, PyData.eqvAll, PyData.eqvAll, eqvr, PyData.eqv, eqvAllr]
  by_cases h1 : b = c
  · by_cases h2 : ss = us
    · simp [h1, h2]
    · simp [h1, h2]
  · simp [h1]
theorem shv (b : Rat) (ss : List Rat) : SeqAt.shaped (pdv b ss) = true := by
  have h1 := (shr ss).1
  have h2 := (shr ss).2
  unfold SeqAt.shaped pdv
  simp only [PyData.canLay0, PyData.canLayAll0, PyData.depth, PyData.depthAll, h1, pdr, pd2]
  simp
  omega
theorem sh1 (r : Rat) : SeqAt.shaped (pdr r) = true := rfl
theorem over_tup {K : PySem.W.Frag} {H H' : Hp} {t D : Addr} {xs ys : List V} (h : SqT K H t xs) (hl : H D = some (.lst ys)) (s : ∀ b o, b ≠ D → H b = some o → H' b = some o) : SqT K H' t xs := by
  rcases h with (h | ⟨ob, h⟩) | h
  · exact .inl (.inl (s _ _ (ne_of h hl (by intro z; cases z)) h))
  · exact .inl (.inr ⟨ob, s _ _ (ne_of h hl (by intro z; cases z)) h⟩)
  · exact .inr h
/-- a comprehension whose elements are fractions: those of L -/
theorem lc_row {K : PySem.W.Frag} {J : It} {n : Nat} {G : Hp → Prop} {Y : Nat → Hp → V → Hp → Prop} (w : Walk J n G Y) (L : List Rat) (hL : L.length = n) (hz : n ≤ 1000)
    {g : TG} {te : TE} {vs : List Nat} {σ : L2.St} {H1 : Hp} {D : Addr} {Qd : Hp → Prop} (hD : H1 D = none) (hG : ∀ H, Same H1 H → G H)
    (hs : ∀ i r x H H' (k : V → Hp → Prop), L[i]? = some r → Same H1 H → Y i H x H' → (∀ t H4, Same H H4 → Fx K H4 t r → k (.ref t) H4) → g x (wipe σ vs) H' fun σ2 H2 => wipe σ2 vs = wipe σ vs ∧ te σ2 H2 k)
    (hd : ∀ H ws, Same H1 H → H D = some (.lst (fr ws)) → Rx K H ws → ws.map (·.2) = L → Qd H) :
    ∃ W : Nat → Nat → Hp → Prop, (∃ m, W 0 m (upd H1 D (.lst []))) ∧ ∀ i m H, W i m H →
      (J.stop i H ∧ Qd H) ∨ (J.go i H ∧ ∃ Nx : Hp → Prop, (∀ H', Nx H' → ∃ m', m' < m ∧ W (i + 1) m' H') ∧ ∀ x H', J.yld i H x H' → g x (wipe σ vs) H' fun σ2 H2 => wipe σ2 vs = wipe σ vs ∧ tYes σ2 H2 fun b H3 =>
        if b = true then te σ2 H3 fun y H4 => ∃ acc, H4 D = some (.lst acc) ∧ acc.length < sizeLine ∧ Nx (upd H4 D (.lst (acc ++ [y]))) else Nx H3) := by
  subst hL
  refine lc_it w (fun i H => Same H1 H ∧ ∃ ws, H D = some (.lst (fr ws)) ∧ Rx K H ws ∧ ws.map (·.2) = L.take i) ⟨same_upd hD, [], upd_same, (fun _ z => nomatch z), rfl⟩ (fun i H _ h => hG H h.1) ?_ ?_
  · rintro i x H H' hi ⟨s1, ws, e1, r1, m1⟩ y
    have hr : L[i]? = some L[i] := List.getElem?_eq_getElem hi
    have q := hs i L[i] x H H' (fun y H4 => ∃ acc, H4 D = some (.lst acc) ∧ acc.length < sizeLine ∧ (fun H => Same H1 H ∧ ∃ ws, H D = some (.lst (fr ws)) ∧ Rx K H ws ∧ ws.map (·.2) = L.take (i + 1)) (upd H4 D (.lst (acc ++ [y])))) hr s1 y (fun t H4 s4 f4 => ?_)
    · refine Eq.mp (congrArg (g x (wipe σ vs) H') ?_) q
      funext σ2 H2
      simp [tYes]
    · have e4 := s4 _ _ e1
      have hlen : ws.length = (L.take i).length := by rw [← m1, List.length_map]
      rw [List.length_take] at hlen
      refine ⟨fr ws, e4, ?_, fun b o e => ?_, ws ++ [(t, L[i])], ?_, fun v hv => ?_, ?_⟩
      · rw [fr_len]
        exact small1000 (by omega)
      · rw [upd_ne (ne_of_none e hD)]
        exact s4 _ _ (s1 _ _ e)
      · rw [upd_same, show fr (ws ++ [(t, L[i])]) = fr ws ++ [.ref t] from List.map_append]
      · rcases List.mem_append.mp hv with h | h
        · exact over_tup ((r1.same s4) v h) e4 fun b o hb e => by rw [upd_ne hb]; exact e
        · rw [List.mem_singleton.mp h]
          exact over_tup f4 e4 fun b o hb e => by rw [upd_ne hb]; exact e
      · rw [List.map_append, m1, List.take_add_one, hr]
        rfl
  · rintro H ⟨s1, ws, e1, r1, m1⟩
    rw [List.take_length] at m1
    exact hd H ws s1 e1 r1 m1
/-- a comprehension whose elements are plain values: those of L -/
theorem lc_val {J : It} {n : Nat} {G : Hp → Prop} {Y : Nat → Hp → V → Hp → Prop} (w : Walk J n G Y) (L : List V) (hL : L.length = n) (hz : n ≤ 1000)
    {g : TG} {te : TE} {vs : List Nat} {σ : L2.St} {H1 : Hp} {D : Addr} {Qd : Hp → Prop} (hD : H1 D = none) (hG : ∀ H, Same H1 H → G H)
    (hs : ∀ i r x H H' (k : V → Hp → Prop), L[i]? = some r → Same H1 H → Y i H x H' → (∀ H4, Same H H4 → k r H4) → g x (wipe σ vs) H' fun σ2 H2 => wipe σ2 vs = wipe σ vs ∧ te σ2 H2 k)
    (hd : ∀ H, Same H1 H → H D = some (.lst L) → Qd H) :
    ∃ W : Nat → Nat → Hp → Prop, (∃ m, W 0 m (upd H1 D (.lst []))) ∧ ∀ i m H, W i m H →
      (J.stop i H ∧ Qd H) ∨ (J.go i H ∧ ∃ Nx : Hp → Prop, (∀ H', Nx H' → ∃ m', m' < m ∧ W (i + 1) m' H') ∧ ∀ x H', J.yld i H x H' → g x (wipe σ vs) H' fun σ2 H2 => wipe σ2 vs = wipe σ vs ∧ tYes σ2 H2 fun b H3 =>
        if b = true then te σ2 H3 fun y H4 => ∃ acc, H4 D = some (.lst acc) ∧ acc.length < sizeLine ∧ Nx (upd H4 D (.lst (acc ++ [y]))) else Nx H3) := by
  subst hL
  refine lc_it w (fun i H => Same H1 H ∧ H D = some (.lst (L.take i))) ⟨same_upd hD, upd_same⟩ (fun i H _ h => hG H h.1) ?_ ?_
  · rintro i x H H' hi ⟨s1, e1⟩ y
    have hr : L[i]? = some L[i] := List.getElem?_eq_getElem hi
    have q := hs i L[i] x H H' (fun y H4 => ∃ acc, H4 D = some (.lst acc) ∧ acc.length < sizeLine ∧ (fun H => Same H1 H ∧ H D = some (.lst (L.take (i + 1)))) (upd H4 D (.lst (acc ++ [y])))) hr s1 y (fun H4 s4 => ?_)
    · refine Eq.mp (congrArg (g x (wipe σ vs) H') ?_) q
      funext σ2 H2
      simp [tYes]
    · have e4 := s4 _ _ e1
      refine ⟨L.take i, e4, ?_, fun b o e => ?_, ?_⟩
      · rw [List.length_take]
        exact small1000 (by omega)
      · rw [upd_ne (ne_of_none e hD)]
        exact s4 _ _ (s1 _ _ e)
      · rw [upd_same, List.take_add_one, hr]
        rfl
  · rintro H ⟨s1, e1⟩
    rw [List.take_length] at e1
    exact hd H s1 e1
def sumR (l : List Rat) : Rat := l.foldl (· + ·) 0
theorem foldl_sum (b : Rat) (l : List Rat) : l.foldl (· + ·) b = b + sumR l := by
  unfold sumR
  induction l generalizing b with
  | nil => exact (Rat.add_zero b).symm
  | cons x l ih =>
    rw [List.foldl_cons, List.foldl_cons, ih, ih (0 + x)]
    grind
theorem sum_bd {n : Nat} {l : List Rat} (h : ∀ r ∈ l, Bd n r) : ∀ i ≤ l.length, Bd (1 + (n + 1) * i) (sumR (l.take i)) := by
  intro i
  induction i with
  | zero =>
    intro _
    exact bd_zero
  | succ i ih =>
    intro hi
    have e : l[i]? = some l[i] := List.getElem?_eq_getElem (by omega)
    have b1 := ih (by omega)
    have b2 := h l[i] (List.getElem_mem _)
    have e2 : sumR (l.take (i + 1)) = sumR (l.take i) + l[i] := by
      unfold sumR
      rw [List.take_add_one, e, List.foldl_append]
      rfl
    rw [e2]
    refine (b1.add b2).up ?_
    rw [Nat.mul_succ]
    omega

section
open PySem PySem.Spec PyProof.Rows
/-- a tuple, once: itself -/
theorem mul_once (l : Addr) (its : Array Value) (n : Nat) (dt : Option Addr) (sl : Array (Option Value)) (u : Tok) :
    Meets (Builtin.«tuple.__mul__» ⟨[.ref l, .int 1 u], []⟩) (fun _ R s => s.heap.get? l = some { cls := .type "tuple", dict := dt, data := .seq its n, slots := sl } ∧ R (.ok (.ret (Value.ref l))) s) :=
  .of_wp fun prog w A R s h => by
    obtain ⟨hp, g, dw, tk, os⟩ := s; obtain ⟨hl, h⟩ := h
    have ix := AutoSeq1.idx_int
    wp_walk using wpAny_loadPart' hl
    exact ⟨_, rfl, h⟩
/-- a tuple, no times: an empty one -/
theorem mul_none (l : Addr) (its : Array Value) (n : Nat) (dt : Option Addr) (sl : Array (Option Value)) (u : Tok) (hi : its.isEmpty = false) :
    Meets (Builtin.«tuple.__mul__» ⟨[.ref l, .int 0 u], []⟩) (fun _ R s => s.heap.get? l = some { cls := .type "tuple", dict := dt, data := .seq its n, slots := sl } ∧
      R (.ok (.ret (Value.ref s.heap.objs.size))) { s with heap := s.heap.push { cls := Value.type "tuple", data := Data.seq #[] }, toks := s.toks }) :=
  .of_wp fun prog w A R s h => by
    obtain ⟨hp, g, dw, tk, os⟩ := s; obtain ⟨hl, h⟩ := h
    have ix := AutoSeq1.idx_int
    have c1 : (its.isEmpty || (0 : Int) == 1) = false := by rw [hi]; rfl
    wp_walk using wpAny_loadPart' hl
    repeat (first
      | (refine wpAny_ite_false (decide_eq_false (by rw [c1]; exact Bool.false_ne_true)) ?_; wp_walk using wpAny_loadPart' hl))
    exact ⟨_, rfl, h⟩
section
variable {X : Cx}
theorem op_mulOnce : OpR X (binaryOp .Mult) (fun x y H Q => ∃ l xs, x = .ref l ∧ y = .int 1 ∧ SqT X.K H l xs ∧ Q (.ref l) H) := by
  intro pins s σ H x y v u Q I rx ry hh
  obtain ⟨l, xs, rfl, rfl, hT, q⟩ := hh
  obtain rfl : v = .ref l := rx
  obtain ⟨tk1, rfl⟩ := ry
  obtain ⟨its, r, ⟨⟨kl, dt, da, sl⟩, ho, hc, n, hd⟩, _⟩ := I.tuple hT
  dsimp only at hc hd; subst hc hd
  exact wpAny_binaryOp_repeat_ref (T := "tuple") (U := "int") (by decide) ⟨_, ho, rfl⟩ (fun s' => typeIs_int s' 1 tk1) noFill_tuple_mul F.fills_int_mul F.slot_int_rmul repeat_tuple F.slot_int_index.lookup
    (call_meets F.slot_int_rmul (typeIs_int s 1 tk1) F.entry_int_rmul (F.args_int_rmul_2 _ _) (int_rmul_tuple 1 tk1 l its.toArray n dt sl)
      ⟨ho, rfl, ⟨_, ho, rfl⟩, call_meets F.slot_tuple_mul ⟨_, ho, rfl⟩ F.entry_tuple_mul (F.args_tuple_mul_2 _ _) (mul_once l its.toArray n dt sl tk1) ⟨ho, ⟨.ref l, H, I, rfl, q⟩⟩⟩)
theorem op_mulNone : OpR X (binaryOp .Mult) (fun x y H Q => ∃ l xs, x = .ref l ∧ y = .int 0 ∧ SqT X.K H l xs ∧ xs ≠ [] ∧ ∀ p, H p = none → Q (.ref p) (upd H p (.tup []))) := by
  intro pins s σ H x y v u Q I rx ry hh
  obtain ⟨l, xs, rfl, rfl, hT, hne, q⟩ := hh
  obtain rfl : v = .ref l := rx
  obtain ⟨tk1, rfl⟩ := ry
  obtain ⟨its, r, ⟨⟨kl, dt, da, sl⟩, ho, hc, n, hd⟩, _⟩ := I.tuple hT
  dsimp only at hc hd; subst hc hd
  have hi : its.toArray.isEmpty = false := by
    cases r with
    | nil => exact absurd rfl hne
    | cons _ _ => rfl
  exact wpAny_binaryOp_repeat_ref (T := "tuple") (U := "int") (by decide) ⟨_, ho, rfl⟩ (fun s' => typeIs_int s' 0 tk1) noFill_tuple_mul F.fills_int_mul F.slot_int_rmul repeat_tuple F.slot_int_index.lookup
    (call_meets F.slot_int_rmul (typeIs_int s 0 tk1) F.entry_int_rmul (F.args_int_rmul_2 _ _) (int_rmul_tuple 0 tk1 l its.toArray n dt sl)
      ⟨ho, rfl, ⟨_, ho, rfl⟩, call_meets F.slot_tuple_mul ⟨_, ho, rfl⟩ F.entry_tuple_mul (F.args_tuple_mul_2 _ _) (mul_none l its.toArray n dt sl tk1 hi) ⟨ho,
        ⟨.ref s.heap.objs.size, _, I.laid (t' := s.toks) (o := .tup []) (fun b ob e => Heap.get?_push_of_some _ e) (Nat.le_refl _) ⟨by show 0 ≤ sizeLine; decide, [], .nil, IsTup.new _ _⟩, rfl, q _ (I.hok.fresh (Nat.le_refl _))⟩⟩⟩)
end
end


section
variable {P : Program} {w : World} {K : PySem.W.Frag} {mg : Str → Option Value} {base : Heap}
def spR2 (K : PySem.W.Frag) (op : Rat → Rat → Rat) : Sp := fun vs H Q _ => ∃ (a b : Addr) (r s : Rat), vs = [.ref a, .ref b] ∧ Fx K H a r ∧ Fx K H b s ∧ Bd 800 r ∧ Bd 800 s ∧
  ∀ (H' : Hp) (t : Addr), Same H H' → Fx K H' t (op r s) → Q (.ref t) H'
def spFraction (K : PySem.W.Frag) (CNought : Addr) : Sp := fun vs H Q E => ∃ n d : Int, vs = [.int n, .int d] ∧ d.natAbs < 2 ^ 2000 ∧ (d = 0 → E (.ref CNought) none H) ∧
  (d ≠ 0 → ∀ (H' : Hp) (t : Addr), Same H H' → H' t = some (.tup (zs (rd2 n d))) → Q (.ref t) H')
theorem okFraction {fFraction : Addr} {fdFraction : FuncData} (F : FunD K "fraction" "fraction" (defArgs sFraction) (defBody sFraction) (defScope sFraction) [.int 1] [] fFraction fdFraction) (T : Txt mg) {aZERO : Addr} {aONE : Addr} (CT : Cons K mg aZERO aONE) {CPartError CNought : Addr} (EX : Exns K mg CPartError CNought) :
    FnOk P w K mg base (L2.CX P w) 1 fFraction fdFraction ["number", "divisor"] (spFraction K CNought) := by
  refine F.ok scFraction (fun vs H Q E h => ?_) (fun cdv A outer s H vs Q E hr h => ?_)
  · obtain ⟨n, d, rfl, hb, he, q⟩ := h
    rfl
  · obtain ⟨n, d, rfl, hb, he, q⟩ := h
    refine ⟨_, (pss_cons (ps_if (pt_cmpR op_eq (pv 1) pe_int (nomark _))
        (pss_one (ps_ret (pe_tup (pa_cons (pv 0) (pa_cons pe_int pa_nil)))))
        pss_nil)
      (pss_cons (ps_if (pt_cmpR op_eq (pv 1) pe_int (nomark _))
        (pss_one (ps_raise rfl (takes_of rfl rfl rfl rfl) (pmk_own PySem.F.excBase_ValueError EX.xNought EX.gNought EX.kNought (raises_own EX.bNought EX.tNought) rfl)))
        pss_nil)
      (pss_cons (ps_set (i := 2) scFraction.nd rfl (Or.inl rfl) (pe_callBfun cr_gcd (by rfl) T.gcd (pa_cons (pv 0) (pa_cons (pv 1) pa_nil))))
      (C8.pss_cut (ps_if (pt_cmpR op_lt (pv 1) pe_int (nomark _))
        (pss_one (ps_set (i := 2) scFraction.nd rfl (Or.inl rfl) (pe_un un_neg (pv 2))))
        pss_nil)
      (pss_one (ps_ret (pe_tup (pa_cons (pe_op op_fdivX (pv 0) (pv 2)) (pa_cons (pe_op op_fdivX (pv 1) (pv 2)) pa_nil))))))))), ?_⟩
    walk_at "rd"
    refine ite2 (fun g1 => ?_) (fun g1 => ?_)
    · obtain rfl : d = 1 := eq_of_dec g1
      refine ⟨_, rfl, by show 2 ≤ sizeLine; decide, fun t ht => ?_⟩
      exact q (by decide) _ t (same_upd ht) (by unfold rd2; rw [rd_one]; exact upd_same)
    walk_at "rd"
    refine ite2 (fun g => ?_) (fun g => ?_)
    · exact he (eq_of_dec g)
    · have hd := ne_of_nodec g
      refine ⟨_, rfl, _, rfl, n, d, rfl, ?_⟩
      refine ⟨fun σ' H' => σ' = [some (.int n), some (.int d), some (.int (sg n d))] ∧ H' = H, ?_, ?_⟩
      · walk_at "rd"
        refine ite2 (fun g2 => ?_) (fun g2 => ?_)
        · refine ⟨_, rfl, _, rfl, ?_, rfl⟩
          unfold sg
          rw [if_pos (of_decide_eq_true g2)]
          rfl
        · refine ⟨?_, rfl⟩
          unfold sg
          rw [if_neg (fun z => g2 (decide_eq_true z))]
          rfl
      · rintro σ' H' ⟨rfl, rfl⟩
        have hs := sg_ne (n := n) hd
        have hsb : (sg n d).natAbs < 2 ^ 2000 := by
          rw [sg_abs]
          exact Nat.lt_of_le_of_lt (Nat.le_of_dvd (by omega) (Nat.gcd_dvd_right _ _)) hb
        refine ⟨_, rfl, _, rfl, _, _, rfl, rfl, wide_divx hs hsb (by decide) (by decide), _, rfl, _, rfl, _, _, rfl, rfl, wide_divx hs hsb (by decide) (by decide), by show 2 ≤ sizeLine; decide, fun t ht => ?_⟩
        exact q hd _ t (same_upd ht) upd_same
def spPlus (K : PySem.W.Frag) : Sp := spR2 K (fun r s => r + s)
theorem okPlus {fPlus : Addr} {fdPlus : FuncData} (F : Fun K "plus" "plus" sPlus fPlus fdPlus) (T : Txt mg) {aZERO : Addr} {aONE : Addr} (CT : Cons K mg aZERO aONE) {CPartError CNought : Addr} (EX : Exns K mg CPartError CNought)
    {fFraction : Addr} {fdFraction : FuncData} (GFraction : FnOk P w K mg base (L2.CX P w) 1 fFraction fdFraction ["number", "divisor"] (spFraction K CNought)) (gFraction : mg "fraction" = some (.ref fFraction)) (kpFraction : PySem.W.keepIn K (.ref fFraction) = true) (bFraction : Binds K fdFraction ["number", "divisor"] []) {dsFraction : List Value} (vdFraction : Vals [.int 1] dsFraction) (bdFraction : Binds K fdFraction ["number", "divisor"] dsFraction) :
    FnOk P w K mg base CX0 2 fPlus fdPlus ["a", "b"] (spPlus K) := by
  refine F.ok scPlus (fun vs H Q E h => ?_) (fun cdv A outer s H vs Q E hr h => ?_)
  · obtain ⟨a, b, r, s, rfl, hA, hB, ⟨hp, hq⟩, ⟨hr', hs⟩, k⟩ := h
    rfl
  · obtain ⟨a, b, r, s, rfl, hA, hB, ⟨hp, hq⟩, ⟨hr', hs⟩, k⟩ := h
    refine ⟨_, (pss_one (ps_ret (pe_call GFraction hr (by rfl) gFraction kpFraction bFraction .nil passL (pa_cons (pe_op op_add (pe_op op_mulW (pe_ix ix_tup (pv 0) pe_int (fun _ _ => rfl)) (pe_ix ix_tup (pv 1) pe_int (fun _ _ => rfl))) (pe_op op_mulW (pe_ix ix_tup (pv 1) pe_int (fun _ _ => rfl)) (pe_ix ix_tup (pv 0) pe_int (fun _ _ => rfl)))) (pa_cons (pe_op op_mulW (pe_ix ix_tup (pv 0) pe_int (fun _ _ => rfl)) (pe_ix ix_tup (pv 1) pe_int (fun _ _ => rfl))) pa_nil))))), ?_⟩
    replace hq : ((r.den : Nat) : Int).natAbs < 2 ^ 800 := hq
    replace hs : ((s.den : Nat) : Int).natAbs < 2 ^ 800 := hs
    refine ⟨.ref a, rfl, a, _, 0, _, rfl, rfl, hA, atI_nat (j := 0) rfl, .ref b, rfl, b, _, 1, _, rfl, rfl, hB, atI_nat (j := 1) rfl, _, _, rfl, rfl, wide_mul hp hs (by decide) (by decide) (by decide), .ref b, rfl, b, _, 0, _, rfl, rfl, hB, atI_nat (j := 0) rfl, .ref a, rfl, a, _, 1, _, rfl, rfl, hA, atI_nat (j := 1) rfl, _, _, rfl, rfl, wide_mul hr' hq (by decide) (by decide) (by decide), _, _, rfl, rfl, .ref a, rfl, a, _, 1, _, rfl, rfl, hA, atI_nat (j := 1) rfl, .ref b, rfl, b, _, 1, _, rfl, rfl, hB, atI_nat (j := 1) rfl, _, _, rfl, rfl, wide_mul hq hs (by decide) (by decide) (by decide), _, _, rfl, by rw [Int.natAbs_mul]; exact Nat.lt_of_lt_of_le (Nat.mul_lt_mul'' hq hs) (by rw [← Nat.pow_add]; exact Nat.pow_le_pow_right (by decide) (by decide)), fun h => absurd h (dd_ne r s), fun _ H' t s1 e1 => k H' t s1 (by show Fx K H' t (r + s); rw [add_div]; exact fx_rd (dd_ne r s) e1)⟩
def spMinus (K : PySem.W.Frag) : Sp := spR2 K (fun r s => r - s)
theorem okMinus {fMinus : Addr} {fdMinus : FuncData} (F : Fun K "minus" "minus" sMinus fMinus fdMinus) (T : Txt mg) {aZERO : Addr} {aONE : Addr} (CT : Cons K mg aZERO aONE) {CPartError CNought : Addr} (EX : Exns K mg CPartError CNought)
    {fFraction : Addr} {fdFraction : FuncData} (GFraction : FnOk P w K mg base (L2.CX P w) 1 fFraction fdFraction ["number", "divisor"] (spFraction K CNought)) (gFraction : mg "fraction" = some (.ref fFraction)) (kpFraction : PySem.W.keepIn K (.ref fFraction) = true) (bFraction : Binds K fdFraction ["number", "divisor"] []) {dsFraction : List Value} (vdFraction : Vals [.int 1] dsFraction) (bdFraction : Binds K fdFraction ["number", "divisor"] dsFraction) :
    FnOk P w K mg base CX0 2 fMinus fdMinus ["a", "b"] (spMinus K) := by
  refine F.ok scMinus (fun vs H Q E h => ?_) (fun cdv A outer s H vs Q E hr h => ?_)
  · obtain ⟨a, b, r, s, rfl, hA, hB, ⟨hp, hq⟩, ⟨hr', hs⟩, k⟩ := h
    rfl
  · obtain ⟨a, b, r, s, rfl, hA, hB, ⟨hp, hq⟩, ⟨hr', hs⟩, k⟩ := h
    refine ⟨_, (pss_one (ps_ret (pe_call GFraction hr (by rfl) gFraction kpFraction bFraction .nil passL (pa_cons (pe_op op_sub (pe_op op_mulW (pe_ix ix_tup (pv 0) pe_int (fun _ _ => rfl)) (pe_ix ix_tup (pv 1) pe_int (fun _ _ => rfl))) (pe_op op_mulW (pe_ix ix_tup (pv 1) pe_int (fun _ _ => rfl)) (pe_ix ix_tup (pv 0) pe_int (fun _ _ => rfl)))) (pa_cons (pe_op op_mulW (pe_ix ix_tup (pv 0) pe_int (fun _ _ => rfl)) (pe_ix ix_tup (pv 1) pe_int (fun _ _ => rfl))) pa_nil))))), ?_⟩
    replace hq : ((r.den : Nat) : Int).natAbs < 2 ^ 800 := hq
    replace hs : ((s.den : Nat) : Int).natAbs < 2 ^ 800 := hs
    refine ⟨.ref a, rfl, a, _, 0, _, rfl, rfl, hA, atI_nat (j := 0) rfl, .ref b, rfl, b, _, 1, _, rfl, rfl, hB, atI_nat (j := 1) rfl, _, _, rfl, rfl, wide_mul hp hs (by decide) (by decide) (by decide), .ref b, rfl, b, _, 0, _, rfl, rfl, hB, atI_nat (j := 0) rfl, .ref a, rfl, a, _, 1, _, rfl, rfl, hA, atI_nat (j := 1) rfl, _, _, rfl, rfl, wide_mul hr' hq (by decide) (by decide) (by decide), _, _, rfl, rfl, .ref a, rfl, a, _, 1, _, rfl, rfl, hA, atI_nat (j := 1) rfl, .ref b, rfl, b, _, 1, _, rfl, rfl, hB, atI_nat (j := 1) rfl, _, _, rfl, rfl, wide_mul hq hs (by decide) (by decide) (by decide), _, _, rfl, by rw [Int.natAbs_mul]; exact Nat.lt_of_lt_of_le (Nat.mul_lt_mul'' hq hs) (by rw [← Nat.pow_add]; exact Nat.pow_le_pow_right (by decide) (by decide)), fun h => absurd h (dd_ne r s), fun _ H' t s1 e1 => k H' t s1 (by show Fx K H' t (r - s); rw [sub_div]; exact fx_rd (dd_ne r s) e1)⟩
def spTimes (K : PySem.W.Frag) : Sp := spR2 K (fun r s => r * s)
theorem okTimes {fTimes : Addr} {fdTimes : FuncData} (F : Fun K "times" "times" sTimes fTimes fdTimes) (T : Txt mg) {aZERO : Addr} {aONE : Addr} (CT : Cons K mg aZERO aONE) {CPartError CNought : Addr} (EX : Exns K mg CPartError CNought)
    {fFraction : Addr} {fdFraction : FuncData} (GFraction : FnOk P w K mg base (L2.CX P w) 1 fFraction fdFraction ["number", "divisor"] (spFraction K CNought)) (gFraction : mg "fraction" = some (.ref fFraction)) (kpFraction : PySem.W.keepIn K (.ref fFraction) = true) (bFraction : Binds K fdFraction ["number", "divisor"] []) {dsFraction : List Value} (vdFraction : Vals [.int 1] dsFraction) (bdFraction : Binds K fdFraction ["number", "divisor"] dsFraction) :
    FnOk P w K mg base CX0 2 fTimes fdTimes ["a", "b"] (spTimes K) := by
  refine F.ok scTimes (fun vs H Q E h => ?_) (fun cdv A outer s H vs Q E hr h => ?_)
  · obtain ⟨a, b, r, s, rfl, hA, hB, ⟨hp, hq⟩, ⟨hr', hs⟩, k⟩ := h
    rfl
  · obtain ⟨a, b, r, s, rfl, hA, hB, ⟨hp, hq⟩, ⟨hr', hs⟩, k⟩ := h
    refine ⟨_, (pss_one (ps_ret (pe_call GFraction hr (by rfl) gFraction kpFraction bFraction .nil passL (pa_cons (pe_op op_mulW (pe_ix ix_tup (pv 0) pe_int (fun _ _ => rfl)) (pe_ix ix_tup (pv 1) pe_int (fun _ _ => rfl))) (pa_cons (pe_op op_mulW (pe_ix ix_tup (pv 0) pe_int (fun _ _ => rfl)) (pe_ix ix_tup (pv 1) pe_int (fun _ _ => rfl))) pa_nil))))), ?_⟩
    replace hq : ((r.den : Nat) : Int).natAbs < 2 ^ 800 := hq
    replace hs : ((s.den : Nat) : Int).natAbs < 2 ^ 800 := hs
    refine ⟨.ref a, rfl, a, _, 0, _, rfl, rfl, hA, atI_nat (j := 0) rfl, .ref b, rfl, b, _, 0, _, rfl, rfl, hB, atI_nat (j := 0) rfl, _, _, rfl, rfl, wide_mul hp hr' (by decide) (by decide) (by decide), .ref a, rfl, a, _, 1, _, rfl, rfl, hA, atI_nat (j := 1) rfl, .ref b, rfl, b, _, 1, _, rfl, rfl, hB, atI_nat (j := 1) rfl, _, _, rfl, rfl, wide_mul hq hs (by decide) (by decide) (by decide), _, _, rfl, by rw [Int.natAbs_mul]; exact Nat.lt_of_lt_of_le (Nat.mul_lt_mul'' hq hs) (by rw [← Nat.pow_add]; exact Nat.pow_le_pow_right (by decide) (by decide)), fun h => absurd h (dd_ne r s), fun _ H' t s1 e1 => k H' t s1 (by show Fx K H' t (r * s); rw [mul_div]; exact fx_rd (dd_ne r s) e1)⟩
def spNegative (K : PySem.W.Frag) : Sp := fun vs H Q _ => ∃ (a : Addr) (r : Rat), vs = [.ref a] ∧ Fx K H a r ∧ ∀ (H' : Hp) (t : Addr), Same H H' → Fx K H' t (-r) → Q (.ref t) H'
theorem okNegative {fNegative : Addr} {fdNegative : FuncData} (F : Fun K "negative" "negative" sNegative fNegative fdNegative) (T : Txt mg) {aZERO : Addr} {aONE : Addr} (CT : Cons K mg aZERO aONE) {CPartError CNought : Addr} (EX : Exns K mg CPartError CNought) :
    FnOk P w K mg base CX0 1 fNegative fdNegative ["a"] (spNegative K) := by
  refine F.ok scNegative (fun vs H Q E h => ?_) (fun cdv A outer s H vs Q E hr h => ?_)
  · obtain ⟨a, r, rfl, hA, k⟩ := h
    rfl
  · obtain ⟨a, r, rfl, hA, k⟩ := h
    refine ⟨_, (pss_one (ps_ret (pe_tup (pa_cons (pe_un un_neg (pe_ix ix_tup (pv 0) pe_int (fun _ _ => rfl))) (pa_cons (pe_ix ix_tup (pv 0) pe_int (fun _ _ => rfl)) pa_nil))))), ?_⟩
    refine ⟨.ref a, rfl, a, _, 0, _, rfl, rfl, hA, atI_nat (j := 0) rfl, _, rfl, .ref a, rfl, a, _, 1, _, rfl, rfl, hA, atI_nat (j := 1) rfl, by show 2 ≤ sizeLine; decide, fun t ht => k _ t (same_upd ht) ?_⟩
    unfold Fx
    rw [Rat.neg_num, Rat.neg_den]
    exact SqT.of upd_same
def spTotal (K : PySem.W.Frag) : Sp := fun vs H Q _ => ∃ (l : Addr) (ws : List (Addr × Rat)), vs = [.ref l] ∧ SqL K H l (fr ws) ∧ Rx K H ws ∧ (∀ w ∈ ws, Bd 60 w.2) ∧ ws.length ≤ 9 ∧ ∀ (H' : Hp) (t : Addr), Same H H' → Fx K H' t (sumR (ws.map (·.2))) → Q (.ref t) H'
theorem okTotal {fTotal : Addr} {fdTotal : FuncData} (F : Fun K "total" "total" sTotal fTotal fdTotal) (T : Txt mg) {aZERO : Addr} {aONE : Addr} (CT : Cons K mg aZERO aONE) {CPartError CNought : Addr} (EX : Exns K mg CPartError CNought)
    {fPlus : Addr} {fdPlus : FuncData} (GPlus : FnOk P w K mg base CX0 2 fPlus fdPlus ["a", "b"] (spPlus K)) (gPlus : mg "plus" = some (.ref fPlus)) (kpPlus : PySem.W.keepIn K (.ref fPlus) = true) (bPlus : Binds K fdPlus ["a", "b"] []) :
    FnOk P w K mg base CX0 3 fTotal fdTotal ["row"] (spTotal K) := by
  refine F.ok scTotal (fun vs H Q E h => ?_) (fun cdv A outer s H vs Q E hr h => ?_)
  · obtain ⟨l, ws, rfl, hL, hW, hb, hlen, k⟩ := h
    rfl
  · obtain ⟨l, ws, rfl, hL, hW, hb, hlen, k⟩ := h
    refine ⟨_, (pss_cons (ps_set (i := 1) scTotal.nd rfl (Or.inl rfl) (pe_glob (v := .ref aZERO) (by rfl) CT.gZERO rfl))
      (C8.pss_cut (ps_for PassesOwn.never rfl (pi_list (pv 0)) (pg_name (i := 2) scTotal.nd rfl (Or.inl rfl))
        (pss_one (ps_set (i := 1) scTotal.nd rfl (Or.inl rfl) (pe_call GPlus hr (by rfl) gPlus kpPlus bPlus .nil pass0 (pa_cons (pv 1) (pa_cons (pv 2) pa_nil))))))
      (pss_one (ps_ret (pv 1))))), ?_⟩
    have hb2 : ∀ r ∈ ws.map (·.2), Bd 60 r := fun r hr => by
      obtain ⟨w, h1, rfl⟩ := List.mem_map.mp hr
      exact hb w h1
    refine ⟨fun σ' H' => ∃ (t : Addr) (v2 : Option V), σ' = [some (.ref l), some (.ref t), v2] ∧ Same H H' ∧ Fx K H' t (sumR (ws.map (·.2))), ?_, ?_⟩
    · refine ⟨_, rfl, l, rfl, ⟨_, hL⟩, for_list (K := K) (a := l) (xs := fr ws) (fun i σ' H' => ∃ (t : Addr) (v2 : Option V), σ' = [some (.ref l), some (.ref t), v2] ∧ Same H H' ∧ Fx K H' t (sumR ((ws.map (·.2)).take i))) ?_ ?_ ?_ ?_⟩
      · exact ⟨aZERO, none, rfl, Same.refl _, CT.tZERO H⟩
      · rintro i σ' H' _ ⟨t, v2, rfl, s1, _⟩
        exact s1.seq hL
      · rintro i v σ' H' hi ⟨t, v2, rfl, s1, ht⟩
        obtain ⟨w, rfl, hw⟩ := fr_get hi
        have hm : w ∈ ws := List.mem_of_getElem? hw
        have hil : i < ws.length := (List.getElem?_eq_some_iff.mp hw).1
        have hb3 := sum_bd hb2 i (by rw [List.length_map]; omega)
        refine ⟨_, rfl, _, rfl, t, w.1, _, w.2, rfl, ht, (hW w hm).same s1, hb3.up (by omega), (hb w hm).up (by decide), fun H2 t2 s2 e2 => ?_⟩
        refine ⟨t2, some (.ref w.1), rfl, s1.trans s2, ?_⟩
        have e3 : sumR ((ws.map (·.2)).take (i + 1)) = sumR ((ws.map (·.2)).take i) + w.2 := by
          unfold sumR
          rw [List.take_add_one, List.getElem?_map, hw, List.foldl_append]
          rfl
        rw [e3]
        exact e2
      · rintro σ' H' ⟨t, v2, rfl, s1, ht⟩
        rw [fr_len, ← List.length_map (f := fun w : Addr × Rat => w.2), List.take_length] at ht
        exact ⟨t, v2, rfl, s1, ht⟩
    rintro σ' H' ⟨t, v2, rfl, s1, ht⟩
    exact ⟨_, rfl, k H' t s1 ht⟩
def spConstant (K : PySem.W.Frag) : Sp := fun vs H Q _ => ∃ (b : Addr) (r : Rat) (n : Nat), vs = [.ref b, .int n] ∧ Fx K H b r ∧ n ≤ 9 ∧ ∀ (H' : Hp) (t : Addr), Same H H' → Vx K H' t r (List.replicate n 0) → Q (.ref t) H'
theorem okConstant {fConstant : Addr} {fdConstant : FuncData} (F : Fun K "constant" "constant" sConstant fConstant fdConstant) (T : Txt mg) {aZERO : Addr} {aONE : Addr} (CT : Cons K mg aZERO aONE) {CPartError CNought : Addr} (EX : Exns K mg CPartError CNought) :
    FnOk P w K mg base CX0 1 fConstant fdConstant ["base", "many"] (spConstant K) := by
  refine F.ok scConstant (fun vs H Q E h => ?_) (fun cdv A outer s H vs Q E hr h => ?_)
  · obtain ⟨b, r, n, rfl, hB, hn, k⟩ := h
    rfl
  · obtain ⟨b, r, n, rfl, hB, hn, k⟩ := h
    refine ⟨_, (pss_one (ps_ret (pe_tup (pa_cons (pv 0) (pa_cons (pe_op (op_mulNone.or (op_mulOnce.or op_repT)) (pe_tup (pa_cons (pe_glob (v := .ref aZERO) (by rfl) CT.gZERO rfl) pa_nil)) (pv 1)) pa_nil))))), ?_⟩
    refine ⟨_, rfl, by show 1 ≤ sizeLine; decide, fun t1 n1 => ?_⟩
    have s1 := same_upd (o := .tup [.ref aZERO]) n1
    have h1 : SqT K (upd H t1 (.tup [.ref aZERO])) t1 [.ref aZERO] := SqT.of upd_same
    have hz : ∀ H' : Hp, Fx K H' aZERO 0 := fun H' => CT.tZERO H'
    have rx : ∀ (H' : Hp) (m : Nat), Rx K H' (List.replicate m (aZERO, (0 : Rat))) := fun H' m w hw => by
      rw [List.eq_of_mem_replicate hw]
      exact hz H'
    have em : ∀ m : Nat, (List.replicate m (aZERO, (0 : Rat))).map (·.2) = List.replicate m 0 := fun m => by rw [List.map_replicate]
    have ef : ∀ m : Nat, fr (List.replicate m (aZERO, (0 : Rat))) = List.replicate m (.ref aZERO) := fun m => by
      unfold fr
      rw [List.map_replicate]
    generalize upd H t1 (.tup [.ref aZERO]) = H1 at s1 h1
    refine ⟨_, rfl, ?_⟩
    have fin : ∀ (H2 : Hp) (p : Addr), Same H1 H2 → SqT K H2 p (List.replicate n (.ref aZERO)) → ∀ t4, H2 t4 = none → Q (.ref t4) (upd H2 t4 (.tup [.ref b, .ref p])) := fun H2 p s2 hp t4 n4 => by
      have s4 := same_upd (o := .tup [.ref b, .ref p]) n4
      refine k _ t4 (s1.trans (s2.trans s4)) ⟨b, p, List.replicate n (aZERO, (0 : Rat)), SqT.of upd_same, hB.same (s1.trans (s2.trans s4)), ?_, rx _ _, em n⟩
      rw [ef]
      exact same_tup s4 hp
    obtain rfl | rfl | h2 : n = 0 ∨ n = 1 ∨ 2 ≤ n := by omega
    · exact .inl ⟨t1, _, rfl, rfl, h1, (fun z => nomatch z), fun p np => ⟨by show 2 ≤ sizeLine; decide, fin _ p (same_upd np) (SqT.of upd_same)⟩⟩
    · exact .inr (.inl ⟨t1, _, rfl, rfl, h1, by show 2 ≤ sizeLine; decide, fin _ t1 (Same.refl _) h1⟩)
    · refine .inr (.inr ⟨t1, n, _, rfl, rfl, h1, (fun z => nomatch z), by omega, by omega, by show 1 ≤ 1000; decide, fun p np => ⟨by show 2 ≤ sizeLine; decide, fin _ p (same_upd np) ?_⟩⟩)
      have e : (List.replicate (n : Int).toNat [V.ref aZERO]).flatten = List.replicate n (.ref aZERO) := by
        rw [Int.toNat_natCast]
        clear h2 fin hn k
        induction n with
        | zero => rfl
        | succ n ih => rw [List.replicate_succ, List.flatten_cons, ih, List.replicate_succ]; rfl
      rw [← e]
      exact SqT.of upd_same
def spParameter (K : PySem.W.Frag) : Sp := fun vs H Q _ => ∃ j n : Nat, vs = [.int j, .int n] ∧ n ≤ 9 ∧ ∀ (H' : Hp) (t : Addr), Same H H' → Vx K H' t 0 ((List.range n).map fun i => if i = j then 1 else 0) → Q (.ref t) H'
theorem okParameter {fParameter : Addr} {fdParameter : FuncData} (F : Fun K "parameter" "parameter" sParameter fParameter fdParameter) (T : Txt mg) {aZERO : Addr} {aONE : Addr} (CT : Cons K mg aZERO aONE) {CPartError CNought : Addr} (EX : Exns K mg CPartError CNought) :
    FnOk P w K mg base CX0 1 fParameter fdParameter ["at", "many"] (spParameter K) := by
  refine F.ok scParameter (fun vs H Q E h => ?_) (fun cdv A outer s H vs Q E hr h => ?_)
  · obtain ⟨j, n, rfl, hn, k⟩ := h
    rfl
  · obtain ⟨j, n, rfl, hn, k⟩ := h
    refine ⟨_, (pss_one (ps_ret (pe_tup (pa_cons (pe_glob (v := .ref aZERO) (by rfl) CT.gZERO rfl) (pa_cons (pe_callTy call_tuple_of (by rfl) T.tuple (by decide +kernel) (pa_cons (pe_lc (own := [("k", 2)]) (by rfl) scParameter.nd (pi_range1 rfl T.range (pa_cons (pv 1) pa_nil)) (blkOk_by (own := [("k", 2)]) (N := ["at", "many", "k"]) (sc := defScope sParameter) (by decide +kernel)) (fun _ _ _ _ _ => (pg_name (i := 2) scParameter.nd rfl (Or.inl rfl))) (fun _ _ _ _ _ => pts_nil) (fun _ _ _ _ _ => (pe_ifExp (pt_cmpR op_eq (pv 2) (pv 0) (nomark _)) (pe_glob (v := .ref aONE) (by rfl) CT.gONE rfl) (pe_glob (v := .ref aZERO) (by rfl) CT.gZERO rfl)))) pa_nil)) pa_nil))))), ?_⟩
    refine ⟨_, rfl, n, rfl, by omega, by omega, fun D hD => ?_⟩
    refine lc_row (K := K) walk_range ((List.range n).map fun i => if i = j then (1 : Rat) else 0) (by simp) (by omega) hD (fun _ _ => trivial) ?_ ?_
    · rintro i c v H2 H3 kk hr s2 ⟨rfl, rfl⟩ kk2
      rw [List.getElem?_map] at hr
      have hi : i < n := by
        rcases Nat.lt_or_ge i n with h | h
        · exact h
        · rw [List.getElem?_eq_none (by rw [List.length_range]; exact h)] at hr
          cases hr
      rw [List.getElem?_range hi] at hr
      obtain rfl : (if i = j then (1 : Rat) else 0) = c := Option.some.inj hr
      refine ⟨rfl, _, rfl, _, rfl, rfl, _, rfl, ite2 (fun g => ?_) (fun g => ?_)⟩
      · have e := eq_of_dec g
        exact kk2 aONE _ (Same.refl _) (by rw [if_pos (by omega)]; exact CT.tONE _)
      · have e := ne_of_nodec g
        exact kk2 aZERO _ (Same.refl _) (by rw [if_neg (by omega)]; exact CT.tZERO _)
    · intro H2 ws s2 e2 r2 m2
      refine ⟨D, _, rfl, .inl ⟨SqL.of e2, fun t3 n3 => ?_⟩⟩
      have s3 := same_upd (o := .tup (fr ws)) n3
      refine ⟨by show 2 ≤ sizeLine; decide, fun t4 n4 => ?_⟩
      have s4 := same_upd (o := .tup [.ref aZERO, .ref t3]) n4
      exact k _ t4 (s2.trans (s3.trans s4)) ⟨aZERO, t3, ws, SqT.of upd_same, CT.tZERO _, SqT.of (s4 _ _ upd_same), r2.same (s3.trans s4), m2⟩
def spV2 (K : PySem.W.Frag) (op : Rat → Rat → Rat) : Sp := fun vs H Q _ => ∃ (a b : Addr) (x y : Rat) (xs ys : List Rat), vs = [.ref a, .ref b] ∧ Vx K H a x xs ∧ Vx K H b y ys ∧ xs.length = ys.length ∧ xs.length ≤ 20 ∧ Bd 60 x ∧ Bd 60 y ∧ (∀ r ∈ xs, Bd 60 r) ∧ (∀ r ∈ ys, Bd 60 r) ∧
  ∀ (H' : Hp) (t : Addr), Same H H' → Vx K H' t (op x y) (List.zipWith op xs ys) → Q (.ref t) H'
def spAdd (K : PySem.W.Frag) : Sp := spV2 K (fun r s => r + s)
theorem okAdd {fAdd : Addr} {fdAdd : FuncData} (F : Fun K "add" "add" sAdd fAdd fdAdd) (T : Txt mg) {aZERO : Addr} {aONE : Addr} (CT : Cons K mg aZERO aONE) {CPartError CNought : Addr} (EX : Exns K mg CPartError CNought)
    {fPlus : Addr} {fdPlus : FuncData} (GPlus : FnOk P w K mg base CX0 2 fPlus fdPlus ["a", "b"] (spPlus K)) (gPlus : mg "plus" = some (.ref fPlus)) (kpPlus : PySem.W.keepIn K (.ref fPlus) = true) (bPlus : Binds K fdPlus ["a", "b"] []) :
    FnOk P w K mg base CX0 3 fAdd fdAdd ["a", "b"] (spAdd K) := by
  refine F.ok scAdd (fun vs H Q E h => ?_) (fun cdv A outer s H vs Q E hr h => ?_)
  · obtain ⟨a, b, x, y, xs, ys, rfl, ⟨p, q, us, hA, hp, hq, hus, rfl⟩, ⟨p2, q2, vs, hB, hp2, hq2, hvs, rfl⟩, hlen, h20, bx, bY, bxs, bys, k⟩ := h
    rfl
  · obtain ⟨a, b, x, y, xs, ys, rfl, ⟨p, q, us, hA, hp, hq, hus, rfl⟩, ⟨p2, q2, vs, hB, hp2, hq2, hvs, rfl⟩, hlen, h20, bx, bY, bxs, bys, k⟩ := h
    refine ⟨_, (pss_one (ps_ret (pe_tup (pa_cons (pe_call GPlus hr (by rfl) gPlus kpPlus bPlus .nil pass0 (pa_cons (pe_ix ix_tup (pv 0) pe_int (fun _ _ => rfl)) (pa_cons (pe_ix ix_tup (pv 1) pe_int (fun _ _ => rfl)) pa_nil))) (pa_cons (pe_callTy call_tuple_of (by rfl) T.tuple (by decide +kernel) (pa_cons (pe_lc (own := [("x", 2), ("y", 3)]) (by rfl) scAdd.nd (pi_zipB (by rfl) T.zip (pa_cons (pe_ix ix_tup (pv 0) pe_int (fun _ _ => rfl)) (pa_cons (pe_ix ix_tup (pv 1) pe_int (fun _ _ => rfl)) pa_nil))) (blkOk_by (own := [("x", 2), ("y", 3)]) (N := ["a", "b", "x", "y"]) (sc := defScope sAdd) (by decide +kernel)) (fun _ _ _ _ _ => (show PG _ _ (gTup K 2 _) from (pg_tup rfl (pgs_cons (pg_name (i := 2) scAdd.nd rfl (Or.inl rfl)) (pgs_cons (pg_name (i := 3) scAdd.nd rfl (Or.inl rfl)) pgs_nil))))) (fun _ _ _ _ _ => pts_nil) (fun _ _ _ _ _ => (pe_call GPlus hr (by rfl) gPlus kpPlus bPlus .nil pass0 (pa_cons (pv 2) (pa_cons (pv 3) pa_nil))))) pa_nil)) pa_nil))))), ?_⟩
    refine ⟨.ref a, rfl, a, _, 0, _, rfl, rfl, hA, atI_nat (j := 0) rfl, .ref b, rfl, b, _, 0, _, rfl, rfl, hB, atI_nat (j := 0) rfl, p, p2, x, y, rfl, hp, hp2, bx.up (by decide), bY.up (by decide), fun H1 t1 s1 f1 => ?_⟩
    refine ⟨.ref a, rfl, a, _, 1, _, rfl, rfl, same_tup s1 hA, atI_nat (j := 1) rfl, .ref b, rfl, b, _, 1, _, rfl, rfl, same_tup s1 hB, atI_nat (j := 1) rfl, true, true, q, q2, fr us, fr vs, rfl, same_tup s1 hq, same_tup s1 hq2, fun D hD => ?_⟩
    rw [List.length_map, List.length_map] at hlen
    rw [List.length_map] at h20
    refine lc_row (K := K) (walk_zipB (f := true) (g := true) (xs := fr us) (ys := fr vs) rfl) (List.zipWith (· + ·) (us.map (·.2)) (vs.map (·.2))) (by simp [fr_len]) (by simp [fr_len]; omega) hD (fun H2 s2 => ⟨same_tup (s1.trans s2) hq, same_tup (s1.trans s2) hq2⟩) ?_ ?_
    · rintro i r v H2 H3 kk hr s2 ⟨T, u, u2, rfl, hT, rfl, g1, g2⟩ kk2
      obtain ⟨w, rfl, hw⟩ := fr_get g1
      obtain ⟨w2, rfl, hw2⟩ := fr_get g2
      rw [List.getElem?_zipWith, List.getElem?_map, List.getElem?_map, hw, hw2] at hr
      obtain rfl : w.2 + w2.2 = r := Option.some.inj hr
      have m1 : w ∈ us := List.mem_of_getElem? hw
      have m2 : w2 ∈ vs := List.mem_of_getElem? hw2
      have sT := same_upd (o := .tup [.ref w.1, .ref w2.1]) hT
      refine ⟨_, _, rfl, SqT.of upd_same, rfl, _, _, rfl, _, _, rfl, rfl, rfl, ?_⟩
      exact ⟨_, rfl, _, rfl, w.1, w2.1, w.2, w2.2, rfl, (hus w m1).same (s1.trans (s2.trans sT)), (hvs w2 m2).same (s1.trans (s2.trans sT)), (bxs _ (List.mem_map_of_mem m1)).up (by decide), (bys _ (List.mem_map_of_mem m2)).up (by decide), fun H4 t4 s4 f4 => kk2 t4 H4 (sT.trans s4) f4⟩
    · intro H2 ws s2 e2 r2 m2
      refine ⟨D, _, rfl, .inl ⟨SqL.of e2, fun t3 n3 => ?_⟩⟩
      have s3 := same_upd (o := .tup (fr ws)) n3
      refine ⟨by show 2 ≤ sizeLine; decide, fun t4 n4 => ?_⟩
      have s4 := same_upd (o := .tup [.ref t1, .ref t3]) n4
      exact k _ t4 (s1.trans (s2.trans (s3.trans s4))) ⟨t1, t3, ws, SqT.of upd_same, f1.same (s2.trans (s3.trans s4)), SqT.of (s4 _ _ upd_same), r2.same (s3.trans s4), m2⟩
def spSubtract (K : PySem.W.Frag) : Sp := spV2 K (fun r s => r - s)
theorem okSubtract {fSubtract : Addr} {fdSubtract : FuncData} (F : Fun K "subtract" "subtract" sSubtract fSubtract fdSubtract) (T : Txt mg) {aZERO : Addr} {aONE : Addr} (CT : Cons K mg aZERO aONE) {CPartError CNought : Addr} (EX : Exns K mg CPartError CNought)
    {fMinus : Addr} {fdMinus : FuncData} (GMinus : FnOk P w K mg base CX0 2 fMinus fdMinus ["a", "b"] (spMinus K)) (gMinus : mg "minus" = some (.ref fMinus)) (kpMinus : PySem.W.keepIn K (.ref fMinus) = true) (bMinus : Binds K fdMinus ["a", "b"] []) :
    FnOk P w K mg base CX0 3 fSubtract fdSubtract ["a", "b"] (spSubtract K) := by
  refine F.ok scSubtract (fun vs H Q E h => ?_) (fun cdv A outer s H vs Q E hr h => ?_)
  · obtain ⟨a, b, x, y, xs, ys, rfl, ⟨p, q, us, hA, hp, hq, hus, rfl⟩, ⟨p2, q2, vs, hB, hp2, hq2, hvs, rfl⟩, hlen, h20, bx, bY, bxs, bys, k⟩ := h
    rfl
  · obtain ⟨a, b, x, y, xs, ys, rfl, ⟨p, q, us, hA, hp, hq, hus, rfl⟩, ⟨p2, q2, vs, hB, hp2, hq2, hvs, rfl⟩, hlen, h20, bx, bY, bxs, bys, k⟩ := h
    refine ⟨_, (pss_one (ps_ret (pe_tup (pa_cons (pe_call GMinus hr (by rfl) gMinus kpMinus bMinus .nil pass0 (pa_cons (pe_ix ix_tup (pv 0) pe_int (fun _ _ => rfl)) (pa_cons (pe_ix ix_tup (pv 1) pe_int (fun _ _ => rfl)) pa_nil))) (pa_cons (pe_callTy call_tuple_of (by rfl) T.tuple (by decide +kernel) (pa_cons (pe_lc (own := [("x", 2), ("y", 3)]) (by rfl) scSubtract.nd (pi_zipB (by rfl) T.zip (pa_cons (pe_ix ix_tup (pv 0) pe_int (fun _ _ => rfl)) (pa_cons (pe_ix ix_tup (pv 1) pe_int (fun _ _ => rfl)) pa_nil))) (blkOk_by (own := [("x", 2), ("y", 3)]) (N := ["a", "b", "x", "y"]) (sc := defScope sSubtract) (by decide +kernel)) (fun _ _ _ _ _ => (show PG _ _ (gTup K 2 _) from (pg_tup rfl (pgs_cons (pg_name (i := 2) scSubtract.nd rfl (Or.inl rfl)) (pgs_cons (pg_name (i := 3) scSubtract.nd rfl (Or.inl rfl)) pgs_nil))))) (fun _ _ _ _ _ => pts_nil) (fun _ _ _ _ _ => (pe_call GMinus hr (by rfl) gMinus kpMinus bMinus .nil pass0 (pa_cons (pv 2) (pa_cons (pv 3) pa_nil))))) pa_nil)) pa_nil))))), ?_⟩
    refine ⟨.ref a, rfl, a, _, 0, _, rfl, rfl, hA, atI_nat (j := 0) rfl, .ref b, rfl, b, _, 0, _, rfl, rfl, hB, atI_nat (j := 0) rfl, p, p2, x, y, rfl, hp, hp2, bx.up (by decide), bY.up (by decide), fun H1 t1 s1 f1 => ?_⟩
    refine ⟨.ref a, rfl, a, _, 1, _, rfl, rfl, same_tup s1 hA, atI_nat (j := 1) rfl, .ref b, rfl, b, _, 1, _, rfl, rfl, same_tup s1 hB, atI_nat (j := 1) rfl, true, true, q, q2, fr us, fr vs, rfl, same_tup s1 hq, same_tup s1 hq2, fun D hD => ?_⟩
    rw [List.length_map, List.length_map] at hlen
    rw [List.length_map] at h20
    refine lc_row (K := K) (walk_zipB (f := true) (g := true) (xs := fr us) (ys := fr vs) rfl) (List.zipWith (fun r s => r - s) (us.map (·.2)) (vs.map (·.2))) (by simp [fr_len]) (by simp [fr_len]; omega) hD (fun H2 s2 => ⟨same_tup (s1.trans s2) hq, same_tup (s1.trans s2) hq2⟩) ?_ ?_
    · rintro i r v H2 H3 kk hr s2 ⟨T, u, u2, rfl, hT, rfl, g1, g2⟩ kk2
      obtain ⟨w, rfl, hw⟩ := fr_get g1
      obtain ⟨w2, rfl, hw2⟩ := fr_get g2
      rw [List.getElem?_zipWith, List.getElem?_map, List.getElem?_map, hw, hw2] at hr
      obtain rfl : w.2 - w2.2 = r := Option.some.inj hr
      have m1 : w ∈ us := List.mem_of_getElem? hw
      have m2 : w2 ∈ vs := List.mem_of_getElem? hw2
      have sT := same_upd (o := .tup [.ref w.1, .ref w2.1]) hT
      refine ⟨_, _, rfl, SqT.of upd_same, rfl, _, _, rfl, _, _, rfl, rfl, rfl, ?_⟩
      exact ⟨_, rfl, _, rfl, w.1, w2.1, w.2, w2.2, rfl, (hus w m1).same (s1.trans (s2.trans sT)), (hvs w2 m2).same (s1.trans (s2.trans sT)), (bxs _ (List.mem_map_of_mem m1)).up (by decide), (bys _ (List.mem_map_of_mem m2)).up (by decide), fun H4 t4 s4 f4 => kk2 t4 H4 (sT.trans s4) f4⟩
    · intro H2 ws s2 e2 r2 m2
      refine ⟨D, _, rfl, .inl ⟨SqL.of e2, fun t3 n3 => ?_⟩⟩
      have s3 := same_upd (o := .tup (fr ws)) n3
      refine ⟨by show 2 ≤ sizeLine; decide, fun t4 n4 => ?_⟩
      have s4 := same_upd (o := .tup [.ref t1, .ref t3]) n4
      exact k _ t4 (s1.trans (s2.trans (s3.trans s4))) ⟨t1, t3, ws, SqT.of upd_same, f1.same (s2.trans (s3.trans s4)), SqT.of (s4 _ _ upd_same), r2.same (s3.trans s4), m2⟩
def spScale (K : PySem.W.Frag) : Sp := fun vs H Q _ => ∃ (f a : Addr) (r x : Rat) (xs : List Rat), vs = [.ref f, .ref a] ∧ Fx K H f r ∧ Vx K H a x xs ∧ xs.length ≤ 20 ∧ Bd 60 r ∧ Bd 60 x ∧ (∀ r ∈ xs, Bd 60 r) ∧ ∀ (H' : Hp) (t : Addr), Same H H' → Vx K H' t (r * x) (xs.map fun y => r * y) → Q (.ref t) H'
theorem okScale {fScale : Addr} {fdScale : FuncData} (F : Fun K "scale" "scale" sScale fScale fdScale) (T : Txt mg) {aZERO : Addr} {aONE : Addr} (CT : Cons K mg aZERO aONE) {CPartError CNought : Addr} (EX : Exns K mg CPartError CNought)
    {fTimes : Addr} {fdTimes : FuncData} (GTimes : FnOk P w K mg base CX0 2 fTimes fdTimes ["a", "b"] (spTimes K)) (gTimes : mg "times" = some (.ref fTimes)) (kpTimes : PySem.W.keepIn K (.ref fTimes) = true) (bTimes : Binds K fdTimes ["a", "b"] []) :
    FnOk P w K mg base CX0 3 fScale fdScale ["factor", "a"] (spScale K) := by
  refine F.ok scScale (fun vs H Q E h => ?_) (fun cdv A outer s H vs Q E hr h => ?_)
  · obtain ⟨f, a, r, x, xs, rfl, hF, ⟨p, q, us, hA, hp, hq, hus, rfl⟩, h20, br, bx, bxs, k⟩ := h
    rfl
  · obtain ⟨f, a, r, x, xs, rfl, hF, ⟨p, q, us, hA, hp, hq, hus, rfl⟩, h20, br, bx, bxs, k⟩ := h
    refine ⟨_, (pss_one (ps_ret (pe_tup (pa_cons (pe_call GTimes hr (by rfl) gTimes kpTimes bTimes .nil pass0 (pa_cons (pv 0) (pa_cons (pe_ix ix_tup (pv 1) pe_int (fun _ _ => rfl)) pa_nil))) (pa_cons (pe_callTy call_tuple_of (by rfl) T.tuple (by decide +kernel) (pa_cons (pe_lc (own := [("x", 2)]) (by rfl) scScale.nd (pi_tup (pe_ix ix_tup (pv 1) pe_int (fun _ _ => rfl))) (blkOk_by (own := [("x", 2)]) (N := ["factor", "a", "x"]) (sc := defScope sScale) (by decide +kernel)) (fun _ _ _ _ _ => (pg_name (i := 2) scScale.nd rfl (Or.inl rfl))) (fun _ _ _ _ _ => pts_nil) (fun _ _ _ _ _ => (pe_call GTimes hr (by rfl) gTimes kpTimes bTimes .nil pass0 (pa_cons (pv 0) (pa_cons (pv 2) pa_nil))))) pa_nil)) pa_nil))))), ?_⟩
    refine ⟨_, rfl, .ref a, rfl, a, _, 0, _, rfl, rfl, hA, atI_nat (j := 0) rfl, f, p, r, x, rfl, hF, hp, br.up (by decide), bx.up (by decide), fun H1 t1 s1 f1 => ?_⟩
    refine ⟨.ref a, rfl, a, _, 1, _, rfl, rfl, same_tup s1 hA, atI_nat (j := 1) rfl, q, rfl, ⟨_, same_tup s1 hq⟩, fun D hD => ?_⟩
    rw [List.length_map] at h20
    refine lc_row (K := K) (walk_tup (xs := fr us)) ((us.map (·.2)).map fun y => r * y) (by simp [fr_len]) (by rw [fr_len]; omega) hD (fun H2 s2 => same_tup (s1.trans s2) hq) ?_ ?_
    · rintro i c v H2 H3 kk hr s2 ⟨rfl, g1⟩ kk2
      obtain ⟨w, rfl, hw⟩ := fr_get g1
      rw [List.getElem?_map, List.getElem?_map, hw] at hr
      obtain rfl : r * w.2 = c := Option.some.inj hr
      have m1 : w ∈ us := List.mem_of_getElem? hw
      exact ⟨rfl, _, rfl, _, rfl, f, w.1, r, w.2, rfl, hF.same (s1.trans s2), (hus w m1).same (s1.trans s2), br.up (by decide), (bxs _ (List.mem_map_of_mem m1)).up (by decide), fun H4 t4 s4 f4 => kk2 t4 H4 s4 f4⟩
    · intro H2 ws s2 e2 r2 m2
      refine ⟨D, _, rfl, .inl ⟨SqL.of e2, fun t3 n3 => ?_⟩⟩
      have s3 := same_upd (o := .tup (fr ws)) n3
      refine ⟨by show 2 ≤ sizeLine; decide, fun t4 n4 => ?_⟩
      have s4 := same_upd (o := .tup [.ref t1, .ref t3]) n4
      exact k _ t4 (s1.trans (s2.trans (s3.trans s4))) ⟨t1, t3, ws, SqT.of upd_same, f1.same (s2.trans (s3.trans s4)), SqT.of (s4 _ _ upd_same), r2.same (s3.trans s4), m2⟩
def spOpposite (K : PySem.W.Frag) : Sp := fun vs H Q _ => ∃ (a : Addr) (x : Rat) (xs : List Rat), vs = [.ref a] ∧ Vx K H a x xs ∧ xs.length ≤ 20 ∧ ∀ (H' : Hp) (t : Addr), Same H H' → Vx K H' t (-x) (xs.map fun y => -y) → Q (.ref t) H'
theorem okOpposite {fOpposite : Addr} {fdOpposite : FuncData} (F : Fun K "opposite" "opposite" sOpposite fOpposite fdOpposite) (T : Txt mg) {aZERO : Addr} {aONE : Addr} (CT : Cons K mg aZERO aONE) {CPartError CNought : Addr} (EX : Exns K mg CPartError CNought)
    {fNegative : Addr} {fdNegative : FuncData} (GNegative : FnOk P w K mg base CX0 1 fNegative fdNegative ["a"] (spNegative K)) (gNegative : mg "negative" = some (.ref fNegative)) (kpNegative : PySem.W.keepIn K (.ref fNegative) = true) (bNegative : Binds K fdNegative ["a"] []) :
    FnOk P w K mg base CX0 2 fOpposite fdOpposite ["a"] (spOpposite K) := by
  refine F.ok scOpposite (fun vs H Q E h => ?_) (fun cdv A outer s H vs Q E hr h => ?_)
  · obtain ⟨a, x, xs, rfl, ⟨p, q, us, hA, hp, hq, hus, rfl⟩, h20, k⟩ := h
    rfl
  · obtain ⟨a, x, xs, rfl, ⟨p, q, us, hA, hp, hq, hus, rfl⟩, h20, k⟩ := h
    refine ⟨_, (pss_one (ps_ret (pe_tup (pa_cons (pe_call GNegative hr (by rfl) gNegative kpNegative bNegative .nil pass0 (pa_cons (pe_ix ix_tup (pv 0) pe_int (fun _ _ => rfl)) pa_nil)) (pa_cons (pe_callTy call_tuple_of (by rfl) T.tuple (by decide +kernel) (pa_cons (pe_lc (own := [("x", 1)]) (by rfl) scOpposite.nd (pi_tup (pe_ix ix_tup (pv 0) pe_int (fun _ _ => rfl))) (blkOk_by (own := [("x", 1)]) (N := ["a", "x"]) (sc := defScope sOpposite) (by decide +kernel)) (fun _ _ _ _ _ => (pg_name (i := 1) scOpposite.nd rfl (Or.inl rfl))) (fun _ _ _ _ _ => pts_nil) (fun _ _ _ _ _ => (pe_call GNegative hr (by rfl) gNegative kpNegative bNegative .nil pass0 (pa_cons (pv 1) pa_nil)))) pa_nil)) pa_nil))))), ?_⟩
    refine ⟨.ref a, rfl, a, _, 0, _, rfl, rfl, hA, atI_nat (j := 0) rfl, p, x, rfl, hp, fun H1 t1 s1 f1 => ?_⟩
    refine ⟨.ref a, rfl, a, _, 1, _, rfl, rfl, same_tup s1 hA, atI_nat (j := 1) rfl, q, rfl, ⟨_, same_tup s1 hq⟩, fun D hD => ?_⟩
    rw [List.length_map] at h20
    refine lc_row (K := K) (walk_tup (xs := fr us)) ((us.map (·.2)).map fun y => -y) (by simp [fr_len]) (by rw [fr_len]; omega) hD (fun H2 s2 => same_tup (s1.trans s2) hq) ?_ ?_
    · rintro i c v H2 H3 kk hr s2 ⟨rfl, g1⟩ kk2
      obtain ⟨w, rfl, hw⟩ := fr_get g1
      rw [List.getElem?_map, List.getElem?_map, hw] at hr
      obtain rfl : -w.2 = c := Option.some.inj hr
      have m1 : w ∈ us := List.mem_of_getElem? hw
      exact ⟨rfl, _, rfl, w.1, w.2, rfl, (hus w m1).same (s1.trans s2), fun H4 t4 s4 f4 => kk2 t4 H4 s4 f4⟩
    · intro H2 ws s2 e2 r2 m2
      refine ⟨D, _, rfl, .inl ⟨SqL.of e2, fun t3 n3 => ?_⟩⟩
      have s3 := same_upd (o := .tup (fr ws)) n3
      refine ⟨by show 2 ≤ sizeLine; decide, fun t4 n4 => ?_⟩
      have s4 := same_upd (o := .tup [.ref t1, .ref t3]) n4
      exact k _ t4 (s1.trans (s2.trans (s3.trans s4))) ⟨t1, t3, ws, SqT.of upd_same, f1.same (s2.trans (s3.trans s4)), SqT.of (s4 _ _ upd_same), r2.same (s3.trans s4), m2⟩
def spIsNought (K : PySem.W.Frag) : Sp := fun vs H Q _ => ∃ (a : Addr) (x : Rat) (xs : List Rat), vs = [.ref a] ∧ Vx K H a x xs ∧ xs.length ≤ 20 ∧ ∀ H' : Hp, Same H H' → Q (.bl (decide (x = 0) && xs.all fun y => decide (y = 0))) H'
theorem okIsNought {fIsNought : Addr} {fdIsNought : FuncData} (F : Fun K "is_nought" "is_nought" sIsNought fIsNought fdIsNought) (T : Txt mg) {aZERO : Addr} {aONE : Addr} (CT : Cons K mg aZERO aONE) {CPartError CNought : Addr} (EX : Exns K mg CPartError CNought) :
    FnOk P w K mg base CX0 1 fIsNought fdIsNought ["a"] (spIsNought K) := by
  refine F.ok scIsNought (fun vs H Q E h => ?_) (fun cdv A outer s H vs Q E hr h => ?_)
  · obtain ⟨a, x, xs, rfl, ⟨p, q, us, hA, hp, hq, hus, rfl⟩, h20, k⟩ := h
    rfl
  · obtain ⟨a, x, xs, rfl, ⟨p, q, us, hA, hp, hq, hus, rfl⟩, h20, k⟩ := h
    refine ⟨_, (pss_one (ps_ret (pe_and (pe_cmpR (show OpR _ _ (rEqD K) from op_eqD hr.units) (pe_ix ix_tup (pv 0) pe_int (fun _ _ => rfl)) (pe_glob (v := .ref aZERO) (by rfl) CT.gZERO rfl) (nomark _)) (pe_one (pe_callB (cr_all rfl) (by rfl) T.all (by decide +kernel) (pa_cons (pe_lc (own := [("x", 1)]) (by rfl) scIsNought.nd (pi_tup (pe_ix ix_tup (pv 0) pe_int (fun _ _ => rfl))) (blkOk_by (own := [("x", 1)]) (N := ["a", "x"]) (sc := defScope sIsNought) (by decide +kernel)) (fun _ _ _ _ _ => (pg_name (i := 1) scIsNought.nd rfl (Or.inl rfl))) (fun _ _ _ _ _ => pts_nil) (fun _ _ _ _ _ => (pe_cmpR (show OpR _ _ (rEqD K) from op_eqD hr.units) (pv 1) (pe_glob (v := .ref aZERO) (by rfl) CT.gZERO rfl) (nomark _)))) pa_nil)))))), ?_⟩
    refine ⟨.ref a, rfl, a, _, 0, _, rfl, rfl, hA, atI_nat (j := 0) rfl, _, _, dpr hp, dpr (r := 0) (CT.tZERO H), rfl, rfl, ?_⟩
    rw [eqvr]
    have fin : ∀ H', Same H H' → Q (.bl (decide (x = 0) && (us.map (·.2)).all fun y => decide (y = 0))) H' := k
    refine ⟨_, rfl, ?_⟩
    by_cases hx : x = 0
    · rw [decide_eq_true hx] at fin ⊢
      refine iteT ⟨.ref a, rfl, a, _, 1, _, rfl, rfl, hA, atI_nat (j := 1) rfl, q, rfl, ⟨_, hq⟩, fun D hD => ?_⟩
      rw [List.length_map] at h20
      refine lc_val (walk_tup (K := K) (a := q) (xs := fr us)) ((us.map fun w => decide (w.2 = 0)).map V.bl) (by simp [fr_len]) (by rw [fr_len]; omega) hD (fun H2 s2 => same_tup s2 hq) ?_ ?_
      · rintro i c v H2 H3 kk hr s2 ⟨rfl, g1⟩ kk2
        obtain ⟨w, rfl, hw⟩ := fr_get g1
        rw [List.getElem?_map, List.getElem?_map, hw] at hr
        obtain rfl : V.bl (decide (w.2 = 0)) = c := Option.some.inj hr
        have m1 : w ∈ us := List.mem_of_getElem? hw
        refine ⟨rfl, _, rfl, _, _, dpr ((hus w m1).same s2), dpr (r := 0) (CT.tZERO _), rfl, rfl, ?_⟩
        rw [eqvr]
        exact kk2 _ (Same.refl _)
      · intro H2 s2 e2
        refine ⟨D, _, rfl, SqL.of e2, ?_⟩
        have e3 : ((us.map fun w => decide (w.2 = 0)).all id) = ((us.map (·.2)).all fun y => decide (y = 0)) := by
          rw [List.all_map, List.all_map]
          rfl
        rw [e3]
        exact fin H2 s2
    · rw [decide_eq_false hx] at fin ⊢
      exact iteF (fin H (Same.refl _))
def spValue (K : PySem.W.Frag) : Sp := fun vs H Q _ => ∃ (a l : Addr) (x : Rat) (xs : List Rat) (us : List (Addr × Rat)), vs = [.ref a, .ref l] ∧ Vx K H a x xs ∧ SqL K H l (fr us) ∧ Rx K H us ∧ us.length = xs.length ∧ xs.length ≤ 9 ∧ Bd 30 x ∧ (∀ r ∈ xs, Bd 30 r) ∧ (∀ w ∈ us, Bd 30 w.2) ∧
  ∀ (H' : Hp) (t : Addr), Same H H' → Fx K H' t (x + sumR (List.zipWith (fun r s => r * s) xs (us.map (·.2)))) → Q (.ref t) H'
theorem okValue {fValue : Addr} {fdValue : FuncData} (F : Fun K "value" "value" sValue fValue fdValue) (T : Txt mg) {aZERO : Addr} {aONE : Addr} (CT : Cons K mg aZERO aONE) {CPartError CNought : Addr} (EX : Exns K mg CPartError CNought)
    {fPlus : Addr} {fdPlus : FuncData} (GPlus : FnOk P w K mg base CX0 2 fPlus fdPlus ["a", "b"] (spPlus K)) (gPlus : mg "plus" = some (.ref fPlus)) (kpPlus : PySem.W.keepIn K (.ref fPlus) = true) (bPlus : Binds K fdPlus ["a", "b"] [])
    {fTotal : Addr} {fdTotal : FuncData} (GTotal : FnOk P w K mg base CX0 3 fTotal fdTotal ["row"] (spTotal K)) (gTotal : mg "total" = some (.ref fTotal)) (kpTotal : PySem.W.keepIn K (.ref fTotal) = true) (bTotal : Binds K fdTotal ["row"] [])
    {fTimes : Addr} {fdTimes : FuncData} (GTimes : FnOk P w K mg base CX0 2 fTimes fdTimes ["a", "b"] (spTimes K)) (gTimes : mg "times" = some (.ref fTimes)) (kpTimes : PySem.W.keepIn K (.ref fTimes) = true) (bTimes : Binds K fdTimes ["a", "b"] []) :
    FnOk P w K mg base CX0 4 fValue fdValue ["a", "setting"] (spValue K) := by
  refine F.ok scValue (fun vs H Q E h => ?_) (fun cdv A outer s H vs Q E hr h => ?_)
  · obtain ⟨a, l, x, xs, vs, rfl, ⟨p, q, us, hA, hp, hq, hus, rfl⟩, hL, hvs, hlen, h9, bx, bxs, bvs, k⟩ := h
    rfl
  · obtain ⟨a, l, x, xs, vs, rfl, ⟨p, q, us, hA, hp, hq, hus, rfl⟩, hL, hvs, hlen, h9, bx, bxs, bvs, k⟩ := h
    refine ⟨_, (pss_one (ps_ret (pe_call GPlus (hr.mono (by decide)) (by rfl) gPlus kpPlus bPlus .nil pass0 (pa_cons (pe_ix ix_tup (pv 0) pe_int (fun _ _ => rfl)) (pa_cons (pe_call GTotal hr (by rfl) gTotal kpTotal bTotal .nil pass0 (pa_cons (pe_lc (own := [("x", 2), ("y", 3)]) (by rfl) scValue.nd (pi_zipB (by rfl) T.zip (pa_cons (pe_ix ix_tup (pv 0) pe_int (fun _ _ => rfl)) (pa_cons (pv 1) pa_nil))) (blkOk_by (own := [("x", 2), ("y", 3)]) (N := ["a", "setting", "x", "y"]) (sc := defScope sValue) (by decide +kernel)) (fun _ _ _ _ _ => (show PG _ _ (gTup K 2 _) from (pg_tup rfl (pgs_cons (pg_name (i := 2) scValue.nd rfl (Or.inl rfl)) (pgs_cons (pg_name (i := 3) scValue.nd rfl (Or.inl rfl)) pgs_nil))))) (fun _ _ _ _ _ => pts_nil) (fun _ _ _ _ _ => (pe_call GTimes (hr.mono (by decide)) (by rfl) gTimes kpTimes bTimes .nil pass0 (pa_cons (pv 2) (pa_cons (pv 3) pa_nil))))) pa_nil)) pa_nil))))), ?_⟩
    refine ⟨.ref a, rfl, a, _, 0, _, rfl, rfl, hA, atI_nat (j := 0) rfl, .ref a, rfl, a, _, 1, _, rfl, rfl, hA, atI_nat (j := 1) rfl, _, rfl, true, false, q, l, fr us, fr vs, rfl, hq, hL, fun D hD => ?_⟩
    rw [List.length_map] at hlen h9
    refine lc_row (K := K) (walk_zipB (f := true) (g := false) (xs := fr us) (ys := fr vs) rfl) (List.zipWith (fun r s => r * s) (us.map (·.2)) (vs.map (·.2))) (by simp [fr_len]) (by simp [fr_len]; omega) hD (fun H2 s2 => ⟨same_tup s2 hq, s2.seq hL⟩) ?_ ?_
    · rintro i r v H2 H3 kk hr s2 ⟨T, u, u2, rfl, hT, rfl, g1, g2⟩ kk2
      obtain ⟨w, rfl, hw⟩ := fr_get g1
      obtain ⟨w2, rfl, hw2⟩ := fr_get g2
      rw [List.getElem?_zipWith, List.getElem?_map, List.getElem?_map, hw, hw2] at hr
      obtain rfl : w.2 * w2.2 = r := Option.some.inj hr
      have m1 : w ∈ us := List.mem_of_getElem? hw
      have m2 : w2 ∈ vs := List.mem_of_getElem? hw2
      have sT := same_upd (o := .tup [.ref w.1, .ref w2.1]) hT
      refine ⟨_, _, rfl, SqT.of upd_same, rfl, _, _, rfl, _, _, rfl, rfl, rfl, ?_⟩
      exact ⟨_, rfl, _, rfl, w.1, w2.1, w.2, w2.2, rfl, (hus w m1).same (s2.trans sT), (hvs w2 m2).same (s2.trans sT), (bxs _ (List.mem_map_of_mem m1)).up (by decide), (bvs _ m2).up (by decide), fun H4 t4 s4 f4 => kk2 t4 H4 (sT.trans s4) f4⟩
    · intro H2 ws s2 e2 r2 m2
      have hb : ∀ w ∈ ws, Bd 60 w.2 := fun w hw => by
        have h1 : w.2 ∈ List.zipWith (fun r s => r * s) (us.map (·.2)) (vs.map (·.2)) := by
          rw [← m2]
          exact List.mem_map_of_mem hw
        obtain ⟨i, hi⟩ := List.mem_iff_getElem?.mp h1
        rw [List.getElem?_zipWith, List.getElem?_map, List.getElem?_map] at hi
        cases e1 : us[i]? with
        | none =>
          rw [e1] at hi
          cases hi
        | some c =>
          cases e3 : vs[i]? with
          | none =>
            rw [e1, e3] at hi
            cases hi
          | some d =>
            rw [e1, e3] at hi
            obtain hi : c.2 * d.2 = w.2 := Option.some.inj hi
            rw [← hi]
            exact (bxs _ (List.mem_map_of_mem (List.mem_of_getElem? e1))).mul (bvs _ (List.mem_of_getElem? e3))
      have hl : ws.length ≤ 9 := by
        have := congrArg List.length m2
        rw [List.length_map, List.length_zipWith, List.length_map] at this
        omega
      refine ⟨D, ws, rfl, SqL.of e2, r2, hb, hl, fun H3 t3 s3 f3 => ?_⟩
      have hb2 := sum_bd (n := 60) (l := ws.map (·.2)) (fun r hr => by
        obtain ⟨w, h1, rfl⟩ := List.mem_map.mp hr
        exact hb w h1) ws.length (by rw [List.length_map]; exact Nat.le_refl _)
      rw [← List.length_map (f := fun w : Addr × Rat => w.2), List.take_length, List.length_map] at hb2
      refine ⟨p, t3, x, _, rfl, hp.same (s2.trans s3), f3, bx.up (by decide), hb2.up (by omega), fun H4 t4 s4 f4 => ?_⟩
      rw [m2] at f4
      exact k H4 t4 (s2.trans (s3.trans s4)) f4
def spLLawNumber (K : PySem.W.Frag) : Sp := fun vs H Q _ => ∃ (a : Addr) (ns : List Int) (k : Nat), vs = [.ref a, .int k] ∧ SqL K H a (zs ns) ∧ ∀ c : Int, Q (.int c) H
theorem okLLawNumber {fLLawNumber : Addr} {fdLLawNumber : FuncData} (F : Fun K "_law_number" "_law_number" sLLawNumber fLLawNumber fdLLawNumber) (T : Txt mg) {aZERO : Addr} {aONE : Addr} (CT : Cons K mg aZERO aONE) {CPartError CNought : Addr} (EX : Exns K mg CPartError CNought) :
    FnOk P w K mg base CX0 1 fLLawNumber fdLLawNumber ["script", "k"] (spLLawNumber K) := by
  refine F.ok scLLawNumber (fun vs H Q E h => ?_) (fun cdv A outer s H vs Q E hr h => ?_)
  · obtain ⟨a, ns, k, rfl, hS, q⟩ := h
    rfl
  · obtain ⟨a, ns, k, rfl, hS, q⟩ := h
    refine ⟨_, (C8.pss_cut (ps_set (i := 2) scLLawNumber.nd rfl (Or.inl rfl) (pe_ifExp (pt_cmpR op_lt (pv 1) (pe_callB call_len_seq (by rfl) T.len PySem.boot_len (pa_cons (pv 0) pa_nil)) (nomark _)) (pe_ix ix_list (pv 0) (pv 1) (fun _ _ => rfl)) (pe_op op_add (pe_op op_mul pe_int (pv 1)) pe_int)))
      (C8.pss_cut (ps_if (pt_cmpR op_lt (pv 2) pe_int (nomark _))
        (pss_one (ps_set (i := 2) scLLawNumber.nd rfl (Or.inl rfl) (pe_op op_sub (pe_op op_mul (pe_un un_neg pe_int) (pv 2)) pe_int)))
        pss_nil)
      (pss_cons (ps_if (pt_cmpR op_lt (pv 2) (pe_op op_pow pe_int pe_int) (nomark _))
        (pss_cons (ps_set (i := 3) scLLawNumber.nd rfl (Or.inl rfl) (pe_op op_mod (pe_callTy call_int1 (by rfl) T.int (by decide +kernel) (pa_cons (pe_op op_add (pe_op op_add (pe_op op_mul (pv 2) pe_int) (pe_op op_mul (pv 1) pe_int)) pe_int) pa_nil)) pe_int))
        (pss_cons (ps_set (i := 4) scLLawNumber.nd rfl (Or.inl rfl) (pe_op op_mod (pe_callTy call_int1 (by rfl) T.int (by decide +kernel) (pa_cons (pe_op op_add (pe_op op_add (pe_op op_mul (pv 3) pe_int) (pe_op op_mul (pv 2) pe_int)) (pv 1)) pa_nil)) pe_int))
        (pss_one (ps_ret (pe_op op_add (pe_op op_mul (pv 3) pe_int) (pv 4))))))
        pss_nil)
      (pss_one (ps_ret (pv 2)))))), ?_⟩
    refine ⟨fun σ' H' => ∃ c : Int, σ' = [some (.ref a), some (.int k), some (.int c), none, none] ∧ H' = H, ?_, ?_⟩
    · refine ⟨_, rfl, .ref a, rfl, a, _, rfl, .inl hS, _, _, rfl, rfl, _, rfl, ite2 (fun hlt => ?_) (fun _ => ?_)⟩
      · have h1 := of_decide_eq_true hlt
        rw [show zs ns = ns.map V.int from rfl, List.length_map] at h1
        have h2 : k < ns.length := by omega
        have h3 : (zs ns)[k]? = some (.int ns[k]) := by
          rw [show zs ns = ns.map V.int from rfl, List.getElem?_map, List.getElem?_eq_getElem h2]
          rfl
        exact ⟨.ref a, rfl, _, rfl, a, _, _, _, rfl, rfl, hS, atI_nat h3, _, rfl, rfl⟩
      · walk_at "rd"
        exact rfl
    · rintro σ' H' ⟨c, rfl, rfl⟩
      refine ⟨fun σ' H2 => ∃ c : Int, σ' = [some (.ref a), some (.int k), some (.int c), none, none] ∧ H2 = H', ?_, ?_⟩
      · walk_at "rd"
        refine ite2 (fun _ => ?_) (fun _ => ⟨_, rfl, rfl⟩)
        walk_at "rd"
        exact rfl
      · rintro σ' H2 ⟨c, rfl, rfl⟩
        walk_at "rd"
        refine ite2 (fun _ => ?_) (fun _ => ⟨_, rfl, q _⟩)
        walk_at "rd"
        exact q _
def spLLawFraction (K : PySem.W.Frag) : Sp := fun vs H Q _ => ∃ n d : Int, vs = [.int n, .int d] ∧ n.natAbs < 2 ^ 1800 ∧ d.natAbs < 2 ^ 1800 ∧ d ≠ 0 ∧ ∀ (H' : Hp) (t : Addr), Same H H' → H' t = some (.tup (zs (rd2 n d))) → Q (.ref t) H'
theorem okLLawFraction {fLLawFraction : Addr} {fdLLawFraction : FuncData} (F : Fun K "_law_fraction" "_law_fraction" sLLawFraction fLLawFraction fdLLawFraction) (T : Txt mg) {aZERO : Addr} {aONE : Addr} (CT : Cons K mg aZERO aONE) {CPartError CNought : Addr} (EX : Exns K mg CPartError CNought) :
    FnOk P w K mg base CX0 1 fLLawFraction fdLLawFraction ["number", "divisor"] (spLLawFraction K) := by
  refine F.ok scLLawFraction (fun vs H Q E h => ?_) (fun cdv A outer s H vs Q E hr h => ?_)
  · obtain ⟨n, d, rfl, bn, bd, hd, k⟩ := h
    rfl
  · obtain ⟨n, d, rfl, bn, bd, hd, k⟩ := h
    refine ⟨_, (C8.pss_cut (ps_set (i := 2) scLLawFraction.nd rfl (Or.inl rfl) (pe_ifExp (pt_cmpR op_ge (pv 0) pe_int (nomark _)) (pv 0) (pe_un un_neg (pv 0))))
      (C8.pss_cut (ps_set (i := 3) scLLawFraction.nd rfl (Or.inl rfl) (pe_ifExp (pt_cmpR op_ge (pv 1) pe_int (nomark _)) (pv 1) (pe_un un_neg (pv 1))))
      (C8.pss_cut (ps_for PassesOwn.never rfl (pi_range1 rfl T.range (pa_cons (pe_op op_add (pe_op op_add (pe_op op_mul pe_int (pe_callB call_len_str (by rfl) T.len PySem.boot_len (pa_cons (pe_callTy call_str_int (by rfl) T.str (by decide +kernel) (pa_cons (pv 2) pa_nil)) pa_nil))) (pe_op op_mul pe_int (pe_callB call_len_str (by rfl) T.len PySem.boot_len (pa_cons (pe_callTy call_str_int (by rfl) T.str (by decide +kernel) (pa_cons (pv 3) pa_nil)) pa_nil)))) pe_int) pa_nil)) (pg_name (i := 4) scLLawFraction.nd rfl (Or.inl rfl))
        (pss_cons (ps_if (pt_cmpR op_eq (pv 3) pe_int (nomark _))
          (pss_one ps_break)
          pss_nil)
        (pss_cons (ps_set (i := 5) scLLawFraction.nd rfl (Or.inl rfl) (pe_op op_modN (pe_callTy call_int1 (by rfl) T.int (by decide +kernel) (pa_cons (pv 2) pa_nil)) (pv 3)))
        (pss_cons (ps_set (i := 2) scLLawFraction.nd rfl (Or.inl rfl) (pv 3))
        (pss_one (ps_set (i := 3) scLLawFraction.nd rfl (Or.inl rfl) (pv 5)))))))
      (C8.pss_cut (ps_if (pt_cmpR op_lt (pv 1) pe_int (nomark _))
        (pss_one (ps_set (i := 2) scLLawFraction.nd rfl (Or.inl rfl) (pe_un un_neg (pv 2))))
        pss_nil)
      (pss_one (ps_ret (pe_tup (pa_cons (pe_op op_fdivX (pv 0) (pv 2)) (pa_cons (pe_op op_fdivX (pv 1) (pv 2)) pa_nil))))))))), ?_⟩
    refine ⟨fun σ' H' => σ' = [some (.int n), some (.int d), some (.int ((n.natAbs : Nat) : Int)), none, none, none] ∧ H' = H, ?_, ?_⟩
    · walk_at "rd"
      refine ite2 (fun g => ?_) (fun g => ?_)
      · have g0 : 0 ≤ n := of_decide_eq_true g
        have e0 : ((n.natAbs : Nat) : Int) = n := by omega
        rw [e0]
        exact ⟨_, rfl, rfl, rfl⟩
      · have g0 : ¬ 0 ≤ n := fun z => g (decide_eq_true z)
        have e0 : ((n.natAbs : Nat) : Int) = -n := by omega
        rw [e0]
        exact ⟨_, rfl, _, rfl, rfl, rfl⟩
    rintro σ' H1 ⟨rfl, rfl⟩
    refine ⟨fun σ' H' => σ' = [some (.int n), some (.int d), some (.int ((n.natAbs : Nat) : Int)), some (.int ((d.natAbs : Nat) : Int)), none, none] ∧ H' = H1, ?_, ?_⟩
    · walk_at "rd"
      refine ite2 (fun g => ?_) (fun g => ?_)
      · have g0 : 0 ≤ d := of_decide_eq_true g
        have e0 : ((d.natAbs : Nat) : Int) = d := by omega
        rw [e0]
        exact ⟨_, rfl, rfl, rfl⟩
      · have g0 : ¬ 0 ≤ d := fun z => g (decide_eq_true z)
        have e0 : ((d.natAbs : Nat) : Int) = -d := by omega
        rw [e0]
        exact ⟨_, rfl, _, rfl, rfl, rfl⟩
    rintro σ' H2 ⟨rfl, rfl⟩
    have l1 : ((n.natAbs : Nat) : Int).natAbs.log2 < 1920 := by
      rw [Int.natAbs_natCast]
      exact Nat.lt_of_lt_of_le (PySem.Flt.log2_lt_of (by decide) bn) (by decide)
    have l2 : ((d.natAbs : Nat) : Int).natAbs.log2 < 1920 := by
      rw [Int.natAbs_natCast]
      exact Nat.lt_of_lt_of_le (PySem.Flt.log2_lt_of (by decide) bd) (by decide)
    have z1 := PySem.int_text_length_le (k := 1920) (by decide) l1
    have z2 := PySem.int_text_length_le (k := 1920) (by decide) l2
    obtain ⟨N, hN⟩ : ∃ N : Nat, N = 4 * (toString ((n.natAbs : Nat) : Int)).length + 4 * (toString ((d.natAbs : Nat) : Int)).length + 60 := ⟨_, rfl⟩
    have eN : (4 : Int) * ((Str.ofString (toString ((n.natAbs : Nat) : Int))).length : Nat) + 4 * ((Str.ofString (toString ((d.natAbs : Nat) : Int))).length : Nat) + 60 = (N : Int) := by
      rw [PySem.ofString_length, PySem.ofString_length, hN]
      omega
    refine ⟨fun σ' H' => ∃ v3 v4 v5 : Option V, σ' = [some (.int n), some (.int d), some (.int ((Nat.gcd n.natAbs d.natAbs : Nat) : Int)), v3, v4, v5] ∧ H' = H2, ?_, ?_⟩
    · refine ⟨_, rfl, _, rfl, l1, _, rfl, PySem.int_text_fits l1, _, _, rfl, rfl, .inl (by constructor <;> decide), ?_⟩
      refine ⟨_, rfl, _, rfl, l2, _, rfl, PySem.int_text_fits l2, _, _, rfl, rfl, .inl (by constructor <;> decide), ?_⟩
      refine ⟨_, _, rfl, rfl, _, _, rfl, rfl, N, congrArg (fun z => [V.int z]) eN, by omega, by omega, ?_⟩
      refine for_range (n := N) (fun i σ' H' => ∃ (c e : Nat) (v4 v5 : Option V), σ' = [some (.int n), some (.int d), some (.int c), some (.int e), v4, v5] ∧ H' = H2 ∧ Eu n.natAbs d.natAbs i c e) ⟨_, _, none, none, rfl, rfl, Eu.start _ _⟩ ?_ ?_
      · rintro i σ' H' hi ⟨c, e, v4, v5, rfl, rfl, eu⟩
        walk_at "rd"
        refine ite2 (fun g => ?_) (fun g => ?_)
        · have he0 : e = 0 := by
            have := eq_of_dec g
            omega
          subst he0
          refine ⟨some (.int ((0 : Nat) : Int)), some (.int (0 + (i : Int))), v5, ?_, rfl⟩
          rw [← eu.end]
          rfl
        · have he0 : e ≠ 0 := fun z => g (decide_eq_true (by rw [z]; rfl))
          walk_at "rd"
          refine ⟨by omega, ?_⟩
          walk_at "rd"
          refine ⟨e, c % e, some (.int (0 + (i : Int))), some (.int ((c % e : Nat) : Int)), ?_, rfl, eu.turn (by omega)⟩
          rw [← fmod_nat c e]
          rfl
      · rintro σ' H' ⟨c, e, v4, v5, rfl, rfl, eu⟩
        have he0 : e = 0 := eu.stop (by omega) (eu_digits hN)
        subst he0
        refine ⟨some (.int ((0 : Nat) : Int)), v4, v5, ?_, rfl⟩
        rw [← eu.end]
    rintro σ' H3 ⟨v3, v4, v5, rfl, rfl⟩
    refine ⟨fun σ' H' => σ' = [some (.int n), some (.int d), some (.int (sg n d)), v3, v4, v5] ∧ H' = H3, ?_, ?_⟩
    · walk_at "rd"
      refine ite2 (fun g2 => ?_) (fun g2 => ?_)
      · refine ⟨_, rfl, _, rfl, ?_, rfl⟩
        unfold sg
        rw [if_pos (of_decide_eq_true g2)]
        rfl
      · refine ⟨?_, rfl⟩
        unfold sg
        rw [if_neg (fun z => g2 (decide_eq_true z))]
    rintro σ' H4 ⟨rfl, rfl⟩
    have hs := sg_ne (n := n) hd
    have hsb : (sg n d).natAbs < 2 ^ 1800 := by
      rw [sg_abs]
      exact Nat.lt_of_le_of_lt (Nat.le_of_dvd (by omega) (Nat.gcd_dvd_right _ _)) bd
    refine ⟨_, rfl, _, rfl, _, _, rfl, rfl, wide_divx hs hsb (by decide) (by decide), _, rfl, _, rfl, _, _, rfl, rfl, wide_divx hs hsb (by decide) (by decide), by show 2 ≤ sizeLine; decide, fun t ht => ?_⟩
    exact k _ t (same_upd ht) upd_same
/-- the small fraction of a draw -/
def sml (d : Int) : Rat := Rat.divInt (d % 19 - 9) (1 + d / 19 % 5)
theorem sml_bd (d : Int) : Bd 10 (sml d) := by
  have h1 := Int.emod_nonneg d (show (19 : Int) ≠ 0 by decide)
  have h2 := Int.emod_lt_of_pos d (show (0 : Int) < 19 by decide)
  have h3 := Int.emod_nonneg (d / 19) (show (5 : Int) ≠ 0 by decide)
  have h4 := Int.emod_lt_of_pos (d / 19) (show (0 : Int) < 5 by decide)
  exact bd_of (by omega) (by have : (2 : Nat) ^ 10 = 1024 := rfl; omega) (by have : (2 : Nat) ^ 10 = 1024 := rfl; omega)
def spLLawSmall (K : PySem.W.Frag) : Sp := fun vs H Q _ => ∃ d : Int, vs = [.int d] ∧ ∀ (H' : Hp) (t : Addr), Same H H' → Fx K H' t (sml d) → Q (.ref t) H'
theorem okLLawSmall {fLLawSmall : Addr} {fdLLawSmall : FuncData} (F : Fun K "_law_small" "_law_small" sLLawSmall fLLawSmall fdLLawSmall) (T : Txt mg) {aZERO : Addr} {aONE : Addr} (CT : Cons K mg aZERO aONE) {CPartError CNought : Addr} (EX : Exns K mg CPartError CNought)
    {fLLawFraction : Addr} {fdLLawFraction : FuncData} (GLLawFraction : FnOk P w K mg base CX0 1 fLLawFraction fdLLawFraction ["number", "divisor"] (spLLawFraction K)) (gLLawFraction : mg "_law_fraction" = some (.ref fLLawFraction)) (kpLLawFraction : PySem.W.keepIn K (.ref fLLawFraction) = true) (bLLawFraction : Binds K fdLLawFraction ["number", "divisor"] []) :
    FnOk P w K mg base CX0 2 fLLawSmall fdLLawSmall ["draw"] (spLLawSmall K) := by
  refine F.ok scLLawSmall (fun vs H Q E h => ?_) (fun cdv A outer s H vs Q E hr h => ?_)
  · obtain ⟨d, rfl, k⟩ := h
    rfl
  · obtain ⟨d, rfl, k⟩ := h
    refine ⟨_, (pss_one (ps_ret (pe_call GLLawFraction hr (by rfl) gLLawFraction kpLLawFraction bLLawFraction .nil pass0 (pa_cons (pe_op op_sub (pe_op op_mod (pe_callTy call_int1 (by rfl) T.int (by decide +kernel) (pa_cons (pv 0) pa_nil)) pe_int) pe_int) (pa_cons (pe_op op_add pe_int (pe_op op_mod (pe_callTy call_int1 (by rfl) T.int (by decide +kernel) (pa_cons (pe_op op_fdiv (pv 0) pe_int) pa_nil)) pe_int)) pa_nil))))), ?_⟩
    have h1 := Int.emod_nonneg d (show (19 : Int) ≠ 0 by decide)
    have h2 := Int.emod_lt_of_pos d (show (0 : Int) < 19 by decide)
    have h3 := Int.emod_nonneg (d / 19) (show (5 : Int) ≠ 0 by decide)
    have h4 := Int.emod_lt_of_pos (d / 19) (show (0 : Int) < 5 by decide)
    have c : (1000 : Nat) < 2 ^ 1800 := Nat.lt_of_lt_of_le (by decide) (Nat.pow_le_pow_right (n := 2) (i := 10) (by decide) (by decide))
    walk_at "rd"
    exact ⟨d % 19 - 9, 1 + d / 19 % 5, rfl, by omega, by omega, by omega, fun H' t s1 e1 => k H' t s1 (fx_rd (by omega) e1)⟩
def spLLawPlus (K : PySem.W.Frag) : Sp := spR2 K (fun r s => r + s)
theorem okLLawPlus {fLLawPlus : Addr} {fdLLawPlus : FuncData} (F : Fun K "_law_plus" "_law_plus" sLLawPlus fLLawPlus fdLLawPlus) (T : Txt mg) {aZERO : Addr} {aONE : Addr} (CT : Cons K mg aZERO aONE) {CPartError CNought : Addr} (EX : Exns K mg CPartError CNought)
    {fLLawFraction : Addr} {fdLLawFraction : FuncData} (GLLawFraction : FnOk P w K mg base CX0 1 fLLawFraction fdLLawFraction ["number", "divisor"] (spLLawFraction K)) (gLLawFraction : mg "_law_fraction" = some (.ref fLLawFraction)) (kpLLawFraction : PySem.W.keepIn K (.ref fLLawFraction) = true) (bLLawFraction : Binds K fdLLawFraction ["number", "divisor"] []) :
    FnOk P w K mg base CX0 2 fLLawPlus fdLLawPlus ["a", "b"] (spLLawPlus K) := by
  refine F.ok scLLawPlus (fun vs H Q E h => ?_) (fun cdv A outer s H vs Q E hr h => ?_)
  · obtain ⟨a, b, r, s, rfl, hA, hB, hr1, hs1, k⟩ := h
    rfl
  · obtain ⟨a, b, r, s, rfl, hA, hB, hr1, hs1, k⟩ := h
    refine ⟨_, (pss_one (ps_ret (pe_call GLLawFraction hr (by rfl) gLLawFraction kpLLawFraction bLLawFraction .nil pass0 (pa_cons (pe_op op_add (pe_op op_mulW (pe_ix ix_tup (pv 0) pe_int (fun _ _ => rfl)) (pe_ix ix_tup (pv 1) pe_int (fun _ _ => rfl))) (pe_op op_mulW (pe_ix ix_tup (pv 1) pe_int (fun _ _ => rfl)) (pe_ix ix_tup (pv 0) pe_int (fun _ _ => rfl)))) (pa_cons (pe_op op_mulW (pe_ix ix_tup (pv 0) pe_int (fun _ _ => rfl)) (pe_ix ix_tup (pv 1) pe_int (fun _ _ => rfl))) pa_nil))))), ?_⟩
    have w1 := (hr1.add hs1)
    obtain ⟨hp, hq⟩ := hr1
    obtain ⟨hr', hs⟩ := hs1
    replace hq : ((r.den : Nat) : Int).natAbs < 2 ^ 800 := hq
    replace hs : ((s.den : Nat) : Int).natAbs < 2 ^ 800 := hs
    have w1 := wl hp hs
    have w2 := wl hr' hq
    have w3 := wl hq hs
    have w4 := Int.natAbs_add_le (r.num * (s.den : Int)) (s.num * (r.den : Int))
    have up : 2 * 2 ^ (800 + 800) ≤ 2 ^ 1800 := by
      rw [← Nat.pow_succ']
      exact Nat.pow_le_pow_right (by decide) (by decide)
    refine ⟨.ref a, rfl, a, _, 0, _, rfl, rfl, hA, atI_nat (j := 0) rfl, .ref b, rfl, b, _, 1, _, rfl, rfl, hB, atI_nat (j := 1) rfl, _, _, rfl, rfl, wide_mul hp hs (by decide) (by decide) (by decide), .ref b, rfl, b, _, 0, _, rfl, rfl, hB, atI_nat (j := 0) rfl, .ref a, rfl, a, _, 1, _, rfl, rfl, hA, atI_nat (j := 1) rfl, _, _, rfl, rfl, wide_mul hr' hq (by decide) (by decide) (by decide), _, _, rfl, rfl, .ref a, rfl, a, _, 1, _, rfl, rfl, hA, atI_nat (j := 1) rfl, .ref b, rfl, b, _, 1, _, rfl, rfl, hB, atI_nat (j := 1) rfl, _, _, rfl, rfl, wide_mul hq hs (by decide) (by decide) (by decide), _, _, rfl, ?_, ?_, dd_ne r s, fun H' t s1 e1 => k H' t s1 (by show Fx K H' t (r + s); rw [add_div]; exact fx_rd (dd_ne r s) e1)⟩
    · generalize (2 : Nat) ^ (800 + 800) = B at *
      generalize (2 : Nat) ^ 1800 = C at *
      omega
    · generalize (2 : Nat) ^ (800 + 800) = B at *
      generalize (2 : Nat) ^ 1800 = C at *
      omega
def spLLawTimes (K : PySem.W.Frag) : Sp := spR2 K (fun r s => r * s)
theorem okLLawTimes {fLLawTimes : Addr} {fdLLawTimes : FuncData} (F : Fun K "_law_times" "_law_times" sLLawTimes fLLawTimes fdLLawTimes) (T : Txt mg) {aZERO : Addr} {aONE : Addr} (CT : Cons K mg aZERO aONE) {CPartError CNought : Addr} (EX : Exns K mg CPartError CNought)
    {fLLawFraction : Addr} {fdLLawFraction : FuncData} (GLLawFraction : FnOk P w K mg base CX0 1 fLLawFraction fdLLawFraction ["number", "divisor"] (spLLawFraction K)) (gLLawFraction : mg "_law_fraction" = some (.ref fLLawFraction)) (kpLLawFraction : PySem.W.keepIn K (.ref fLLawFraction) = true) (bLLawFraction : Binds K fdLLawFraction ["number", "divisor"] []) :
    FnOk P w K mg base CX0 2 fLLawTimes fdLLawTimes ["a", "b"] (spLLawTimes K) := by
  refine F.ok scLLawTimes (fun vs H Q E h => ?_) (fun cdv A outer s H vs Q E hr h => ?_)
  · obtain ⟨a, b, r, s, rfl, hA, hB, ⟨hp, hq⟩, ⟨hr', hs⟩, k⟩ := h
    rfl
  · obtain ⟨a, b, r, s, rfl, hA, hB, ⟨hp, hq⟩, ⟨hr', hs⟩, k⟩ := h
    refine ⟨_, (pss_one (ps_ret (pe_call GLLawFraction hr (by rfl) gLLawFraction kpLLawFraction bLLawFraction .nil pass0 (pa_cons (pe_op op_mulW (pe_ix ix_tup (pv 0) pe_int (fun _ _ => rfl)) (pe_ix ix_tup (pv 1) pe_int (fun _ _ => rfl))) (pa_cons (pe_op op_mulW (pe_ix ix_tup (pv 0) pe_int (fun _ _ => rfl)) (pe_ix ix_tup (pv 1) pe_int (fun _ _ => rfl))) pa_nil))))), ?_⟩
    replace hq : ((r.den : Nat) : Int).natAbs < 2 ^ 800 := hq
    replace hs : ((s.den : Nat) : Int).natAbs < 2 ^ 800 := hs
    have up : (2 : Nat) ^ (800 + 800) ≤ 2 ^ 1800 := Nat.pow_le_pow_right (by decide) (by decide)
    exact ⟨.ref a, rfl, a, _, 0, _, rfl, rfl, hA, atI_nat (j := 0) rfl, .ref b, rfl, b, _, 0, _, rfl, rfl, hB, atI_nat (j := 0) rfl, _, _, rfl, rfl, wide_mul hp hr' (by decide) (by decide) (by decide), .ref a, rfl, a, _, 1, _, rfl, rfl, hA, atI_nat (j := 1) rfl, .ref b, rfl, b, _, 1, _, rfl, rfl, hB, atI_nat (j := 1) rfl, _, _, rfl, rfl, wide_mul hq hs (by decide) (by decide) (by decide), _, _, rfl, Nat.lt_of_lt_of_le (wl hp hr') up, Nat.lt_of_lt_of_le (wl hq hs) up, dd_ne r s, fun H' t s1 e1 => k H' t s1 (by show Fx K H' t (r * s); rw [mul_div]; exact fx_rd (dd_ne r s) e1)⟩
def spLLawValue (K : PySem.W.Frag) : Sp := fun vs H Q _ => ∃ (d : Int) (n : Nat), vs = [.int d, .int n] ∧ n ≤ 9 ∧ ∀ (H' : Hp) (t : Addr) (x : Rat) (xs : List Rat), Same H H' → Vx K H' t x xs → xs.length = n → Bd 10 x → (∀ r ∈ xs, Bd 10 r) → Q (.ref t) H'
theorem okLLawValue {fLLawValue : Addr} {fdLLawValue : FuncData} (F : Fun K "_law_value" "_law_value" sLLawValue fLLawValue fdLLawValue) (T : Txt mg) {aZERO : Addr} {aONE : Addr} (CT : Cons K mg aZERO aONE) {CPartError CNought : Addr} (EX : Exns K mg CPartError CNought)
    {fLLawSmall : Addr} {fdLLawSmall : FuncData} (GLLawSmall : FnOk P w K mg base CX0 2 fLLawSmall fdLLawSmall ["draw"] (spLLawSmall K)) (gLLawSmall : mg "_law_small" = some (.ref fLLawSmall)) (kpLLawSmall : PySem.W.keepIn K (.ref fLLawSmall) = true) (bLLawSmall : Binds K fdLLawSmall ["draw"] []) :
    FnOk P w K mg base CX0 3 fLLawValue fdLLawValue ["draw", "many"] (spLLawValue K) := by
  refine F.ok scLLawValue (fun vs H Q E h => ?_) (fun cdv A outer s H vs Q E hr h => ?_)
  · obtain ⟨d, n, rfl, hn, k⟩ := h
    rfl
  · obtain ⟨d, n, rfl, hn, k⟩ := h
    refine ⟨_, (pss_one (ps_ret (pe_tup (pa_cons (pe_call GLLawSmall hr (by rfl) gLLawSmall kpLLawSmall bLLawSmall .nil pass0 (pa_cons (pv 0) pa_nil)) (pa_cons (pe_callTy call_tuple_of (by rfl) T.tuple (by decide +kernel) (pa_cons (pe_lc (own := [("k", 2)]) (by rfl) scLLawValue.nd (pi_range1 rfl T.range (pa_cons (pv 1) pa_nil)) (blkOk_by (own := [("k", 2)]) (N := ["draw", "many", "k"]) (sc := defScope sLLawValue) (by decide +kernel)) (fun _ _ _ _ _ => (pg_name (i := 2) scLLawValue.nd rfl (Or.inl rfl))) (fun _ _ _ _ _ => pts_nil) (fun _ _ _ _ _ => (pe_call GLLawSmall hr (by rfl) gLLawSmall kpLLawSmall bLLawSmall .nil pass0 (pa_cons (pe_op op_fdiv (pv 0) (pe_op op_add pe_int (pe_op op_mul pe_int (pv 2)))) pa_nil)))) pa_nil)) pa_nil))))), ?_⟩
    refine ⟨_, rfl, d, rfl, fun H1 t1 s1 f1 => ?_⟩
    refine ⟨_, rfl, n, rfl, by omega, by omega, fun D hD => ?_⟩
    refine lc_row (K := K) walk_range ((List.range n).map fun (i : Nat) => sml (d / (97 + 89 * ((0 : Int) + (i : Int))))) (by simp) (by omega) hD (fun _ _ => trivial) ?_ ?_
    · rintro i c v H2 H3 kk hr s2 ⟨rfl, rfl⟩ kk2
      rw [List.getElem?_map] at hr
      have hi : i < n := by
        rcases Nat.lt_or_ge i n with h | h
        · exact h
        · rw [List.getElem?_eq_none (by rw [List.length_range]; exact h)] at hr
          cases hr
      rw [List.getElem?_range hi] at hr
      obtain rfl : sml (d / (97 + 89 * ((0 : Int) + (i : Int)))) = c := Option.some.inj hr
      walk_at "rd"
      exact ⟨⟨by omega, by omega⟩, _, rfl, fun H4 t4 s4 f4 => kk2 t4 H4 s4 f4⟩
    · intro H2 ws s2 e2 r2 m2
      refine ⟨D, _, rfl, .inl ⟨SqL.of e2, fun t3 n3 => ?_⟩⟩
      have s3 := same_upd (o := .tup (fr ws)) n3
      refine ⟨by show 2 ≤ sizeLine; decide, fun t4 n4 => ?_⟩
      have s4 := same_upd (o := .tup [.ref t1, .ref t3]) n4
      refine k _ t4 _ _ (s1.trans (s2.trans (s3.trans s4))) ⟨t1, t3, ws, SqT.of upd_same, f1.same (s2.trans (s3.trans s4)), SqT.of (s4 _ _ upd_same), r2.same (s3.trans s4), m2⟩ (by simp) (sml_bd d) (fun r hr => ?_)
      obtain ⟨i, _, rfl⟩ := List.mem_map.mp hr
      exact sml_bd _
theorem zw_get {xs us : List Rat} {i : Nat} (h : i < xs.length) (h2 : i < us.length) : (List.zipWith (fun r s => r * s) xs us)[i]? = some (xs[i] * us[i]) := by
  rw [List.getElem?_zipWith, List.getElem?_eq_getElem h, List.getElem?_eq_getElem h2]
theorem zw_bd {n : Nat} {xs us : List Rat} (h1 : ∀ r ∈ xs, Bd n r) (h2 : ∀ r ∈ us, Bd n r) : ∀ r ∈ List.zipWith (fun r s => r * s) xs us, Bd (n + n) r := by
  induction xs generalizing us with
  | nil =>
    intro r hr
    cases us <;> cases hr
  | cons x xs ih =>
    cases us with
    | nil =>
      intro r hr
      cases hr
    | cons u us =>
      intro r hr
      rw [List.zipWith_cons_cons] at hr
      rcases List.mem_cons.mp hr with rfl | h
      · exact (h1 x List.mem_cons_self).mul (h2 u List.mem_cons_self)
      · exact ih (fun r hr => h1 r (List.mem_cons_of_mem _ hr)) (fun r hr => h2 r (List.mem_cons_of_mem _ hr)) r h
theorem take_sum {l : List Rat} {i : Nat} {r : Rat} (h : l[i]? = some r) : sumR (l.take (i + 1)) = sumR (l.take i) + r := by
  unfold sumR
  rw [List.take_add_one, h, List.foldl_append]
  rfl
def spLLawAt (K : PySem.W.Frag) : Sp := fun vs H Q _ => ∃ (a l : Addr) (x : Rat) (xs : List Rat) (us : List (Addr × Rat)), vs = [.ref a, .ref l] ∧ Vx K H a x xs ∧ SqL K H l (fr us) ∧ Rx K H us ∧ us.length = xs.length ∧ xs.length ≤ 9 ∧ Bd 30 x ∧ (∀ r ∈ xs, Bd 30 r) ∧ (∀ r ∈ us.map (·.2), Bd 30 r) ∧
  ∀ (H' : Hp) (t : Addr), Same H H' → Fx K H' t (x + sumR (List.zipWith (fun r s => r * s) xs (us.map (·.2)))) → Q (.ref t) H'
theorem okLLawAt {fLLawAt : Addr} {fdLLawAt : FuncData} (F : Fun K "_law_at" "_law_at" sLLawAt fLLawAt fdLLawAt) (T : Txt mg) {aZERO : Addr} {aONE : Addr} (CT : Cons K mg aZERO aONE) {CPartError CNought : Addr} (EX : Exns K mg CPartError CNought)
    {fLLawPlus : Addr} {fdLLawPlus : FuncData} (GLLawPlus : FnOk P w K mg base CX0 2 fLLawPlus fdLLawPlus ["a", "b"] (spLLawPlus K)) (gLLawPlus : mg "_law_plus" = some (.ref fLLawPlus)) (kpLLawPlus : PySem.W.keepIn K (.ref fLLawPlus) = true) (bLLawPlus : Binds K fdLLawPlus ["a", "b"] [])
    {fLLawTimes : Addr} {fdLLawTimes : FuncData} (GLLawTimes : FnOk P w K mg base CX0 2 fLLawTimes fdLLawTimes ["a", "b"] (spLLawTimes K)) (gLLawTimes : mg "_law_times" = some (.ref fLLawTimes)) (kpLLawTimes : PySem.W.keepIn K (.ref fLLawTimes) = true) (bLLawTimes : Binds K fdLLawTimes ["a", "b"] []) :
    FnOk P w K mg base CX0 3 fLLawAt fdLLawAt ["found", "setting"] (spLLawAt K) := by
  refine F.ok scLLawAt (fun vs H Q E h => ?_) (fun cdv A outer s H vs Q E hr h => ?_)
  · obtain ⟨a, l, x, xs, vs, rfl, ⟨p, q, us, hA, hp, hq, hus, rfl⟩, hL, hvs, hlen, h9, bx, bxs, bvs, k⟩ := h
    rfl
  · obtain ⟨a, l, x, xs, vs, rfl, ⟨p, q, us, hA, hp, hq, hus, rfl⟩, hL, hvs, hlen, h9, bx, bxs, bvs, k⟩ := h
    refine ⟨_, (pss_cons (ps_set (i := 2) scLLawAt.nd rfl (Or.inl rfl) (pe_ix ix_tup (pv 0) pe_int (fun _ _ => rfl)))
      (C8.pss_cut (ps_for PassesOwn.never rfl (pi_range1 rfl T.range (pa_cons (pe_callB call_len_seq (by rfl) T.len PySem.boot_len (pa_cons (pv 1) pa_nil)) pa_nil)) (pg_name (i := 3) scLLawAt.nd rfl (Or.inl rfl))
        (pss_one (ps_set (i := 2) scLLawAt.nd rfl (Or.inl rfl) (pe_call GLLawPlus hr (by rfl) gLLawPlus kpLLawPlus bLLawPlus .nil pass0 (pa_cons (pv 2) (pa_cons (pe_call GLLawTimes hr (by rfl) gLLawTimes kpLLawTimes bLLawTimes .nil pass0 (pa_cons (pe_ix ix_tup (pe_ix ix_tup (pv 0) pe_int (fun _ _ => rfl)) (pv 3) (fun _ _ => rfl)) (pa_cons (pe_ix ix_list (pv 1) (pv 3) (fun _ _ => rfl)) pa_nil))) pa_nil))))))
      (pss_one (ps_ret (pv 2))))), ?_⟩
    have hlen' := hlen
    rw [List.length_map] at hlen h9
    have bz := zw_bd bxs bvs
    refine ⟨.ref a, rfl, a, _, 0, _, rfl, rfl, hA, atI_nat (j := 0) rfl, ?_⟩
    refine ⟨fun σ' H' => ∃ (t : Addr) (v3 : Option V), σ' = [some (.ref a), some (.ref l), some (.ref t), v3] ∧ Same H H' ∧ Fx K H' t (x + sumR (List.zipWith (fun r s => r * s) (us.map (·.2)) (vs.map (·.2)))), ?_, ?_⟩
    · refine ⟨.ref l, rfl, l, _, rfl, .inl hL, us.length, by rw [fr_len, hlen], by omega, by omega, ?_⟩
      refine for_range (n := us.length) (fun i σ' H' => ∃ (t : Addr) (v3 : Option V), σ' = [some (.ref a), some (.ref l), some (.ref t), v3] ∧ Same H H' ∧ Fx K H' t (x + sumR ((List.zipWith (fun r s => r * s) (us.map (·.2)) (vs.map (·.2))).take i))) ?_ ?_ ?_
      · refine ⟨p, none, rfl, Same.refl _, ?_⟩
        rw [List.take_zero, show sumR [] = 0 from rfl, Rat.add_zero]
        exact hp
      · rintro i σ' H' hi ⟨t, v3, rfl, s1, ht⟩
        have hi2 : i < vs.length := by omega
        have hw : us[i]? = some us[i] := List.getElem?_eq_getElem hi
        have hw2 : vs[i]? = some vs[i] := List.getElem?_eq_getElem hi2
        have m1 : us[i] ∈ us := List.getElem_mem _
        have m2 : vs[i] ∈ vs := List.getElem_mem _
        have hi0 : (0 : Int) + (i : Int) = (i : Int) := by omega
        have a1 : (fr us)[i]? = some (.ref us[i].1) := by
          rw [show fr us = us.map fun w => V.ref w.1 from rfl, List.getElem?_map, hw]
          rfl
        have a2 : (fr vs)[i]? = some (.ref vs[i].1) := by
          rw [show fr vs = vs.map fun w => V.ref w.1 from rfl, List.getElem?_map, hw2]
          rfl
        have zz : (List.zipWith (fun r s => r * s) (us.map (·.2)) (vs.map (·.2)))[i]? = some (us[i].2 * vs[i].2) := by
          rw [List.getElem?_zipWith, List.getElem?_map, List.getElem?_map, hw, hw2]
          rfl
        have b1 := sum_bd bz i (by rw [List.length_zipWith, List.length_map, List.length_map]; omega)
        have bu := bxs us[i].2 (List.mem_map_of_mem m1)
        have bv := bvs vs[i].2 (List.mem_map_of_mem m2)
        refine ⟨_, rfl, .ref a, rfl, a, _, 1, _, rfl, rfl, same_tup s1 hA, atI_nat (j := 1) rfl, ?_⟩
        rw [hi0]
        refine ⟨_, rfl, q, _, _, _, rfl, rfl, same_tup s1 hq, atI_nat a1, .ref l, rfl, _, rfl, l, _, _, _, rfl, rfl, s1.seq hL, atI_nat a2, us[i].1, vs[i].1, us[i].2, vs[i].2, rfl, (hus _ m1).same s1, (hvs _ m2).same s1, bu.up (by decide), bv.up (by decide), fun H2 t2 s2 f2 => ?_⟩
        refine ⟨t, t2, _, _, rfl, ht.same s2, f2, (bx.add b1).up (by omega), (bu.mul bv).up (by decide), fun H3 t3 s3 f3 => ?_⟩
        refine ⟨t3, _, rfl, s1.trans (s2.trans s3), ?_⟩
        rw [take_sum zz, ← Rat.add_assoc]
        exact f3
      · rintro σ' H' ⟨t, v3, rfl, s1, ht⟩
        refine ⟨t, v3, rfl, s1, ?_⟩
        rw [List.take_of_length_le (by rw [List.length_zipWith, List.length_map, List.length_map]; omega)] at ht
        exact ht
    rintro σ' H' ⟨t, v3, rfl, s1, ht⟩
    exact ⟨_, rfl, k H' t s1 ht⟩
theorem eqvv_self (b : Rat) (ss : List Rat) : PyData.eqv (pdv b ss) (pdv b ss) = true := by
  rw [eqvv]
  exact decide_eq_true ⟨rfl, rfl⟩
theorem eqvr_self (b : Rat) : PyData.eqv (pdr b) (pdr b) = true := by
  rw [eqvr]
  exact decide_eq_true rfl
theorem eqvl_self (ss : List Rat) : PyData.eqv (.list (ss.map pdr)) (.list (ss.map pdr)) = true := by
  rw [PyData.eqv, eqvAllr]
  exact decide_eq_true rfl
theorem zw_some {op : Rat → Rat → Rat} {xs ys : List Rat} {i : Nat} {c : Rat} (h : (List.zipWith op xs ys)[i]? = some c) : ∃ x y, xs[i]? = some x ∧ ys[i]? = some y ∧ op x y = c := by
  rw [List.getElem?_zipWith] at h
  cases e1 : xs[i]? with
  | none =>
    rw [e1] at h
    cases h
  | some x =>
    cases e2 : ys[i]? with
    | none =>
      rw [e1, e2] at h
      cases h
    | some y =>
      rw [e1, e2] at h
      exact ⟨x, y, rfl, rfl, Option.some.inj h⟩
theorem sum_cons (x : Rat) (l : List Rat) : sumR (x :: l) = x + sumR l := by
  show (x :: l).foldl (· + ·) 0 = _
  rw [List.foldl_cons, foldl_sum, Rat.zero_add]
theorem zw_add (us : List Rat) : ∀ {xs ys : List Rat}, xs.length = us.length → ys.length = us.length → sumR (List.zipWith (fun r s => r * s) (List.zipWith (fun r s => r + s) xs ys) us) = sumR (List.zipWith (fun r s => r * s) xs us) + sumR (List.zipWith (fun r s => r * s) ys us) := by
  induction us with
  | nil =>
    intro xs ys h1 h2
    rw [List.zipWith_nil_right, List.zipWith_nil_right, List.zipWith_nil_right]
    exact (Rat.add_zero 0).symm
  | cons u us ih =>
    intro xs ys h1 h2
    cases xs with
    | nil => cases h1
    | cons x xs =>
      cases ys with
      | nil => cases h2
      | cons y ys =>
        rw [List.zipWith_cons_cons, List.zipWith_cons_cons, List.zipWith_cons_cons, List.zipWith_cons_cons, sum_cons, sum_cons, sum_cons, ih (by simpa using h1) (by simpa using h2)]
        grind
theorem zw_sub (xs ys : List Rat) : List.zipWith (fun r s => r + s) xs (ys.map fun y => -1 * y) = List.zipWith (fun r s => r - s) xs ys := by
  rw [List.zipWith_map_right]
  congr 1
  funext r s
  grind
theorem neg_map (ys : List Rat) : (ys.map fun y => -1 * y) = ys.map fun y => -y := by
  congr 1
  funext y
  grind
theorem ind_sum : ∀ (us : List Rat) (m : Nat) (f : Nat → Rat), (∀ i, i ≠ m → f i = 0) → f m = 1 → ∀ u, us[m]? = some u → sumR (List.zipWith (fun r s => r * s) ((List.range us.length).map f) us) = u := by
  have hz : ∀ (us : List Rat) (f : Nat → Rat), (∀ i, f i = 0) → sumR (List.zipWith (fun r s => r * s) ((List.range us.length).map f) us) = 0 := by
    intro us
    induction us with
    | nil => intro f _; rfl
    | cons u us ih =>
      intro f hf
      rw [List.length_cons, List.range_succ_eq_map, List.map_cons, List.zipWith_cons_cons, sum_cons, List.map_map, hf 0]
      rw [show (f ∘ Nat.succ) = fun i => f (i + 1) from rfl, ih (fun i => f (i + 1)) (fun i => hf (i + 1))]
      grind
  intro us
  induction us with
  | nil =>
    intro m f _ _ u h
    cases h
  | cons v us ih =>
    intro m f hf hm u h
    rw [List.length_cons, List.range_succ_eq_map, List.map_cons, List.zipWith_cons_cons, sum_cons, List.map_map, show (f ∘ Nat.succ) = fun i => f (i + 1) from rfl]
    cases m with
    | zero =>
      obtain rfl : v = u := Option.some.inj h
      rw [hm, hz us (fun i => f (i + 1)) (fun i => hf (i + 1) (by omega))]
      grind
    | succ m =>
      rw [ih m (fun i => f (i + 1)) (fun i hi => hf (i + 1) (by omega)) hm u h, hf 0 (by omega)]
      grind
theorem all_rep {xs : List Rat} {n : Nat} (h : xs.length = n) (x : Rat) : (decide (x = 0) && xs.all fun y => decide (y = 0)) = decide (x = 0 ∧ xs = List.replicate n 0) := by
  have e : (xs.all fun y => decide (y = 0)) = decide (xs = List.replicate n 0) := by
    rw [Bool.eq_iff_iff, List.all_eq_true, decide_eq_true_iff, List.eq_replicate_iff]
    constructor
    · exact fun g => ⟨h, fun b hb => of_decide_eq_true (g b hb)⟩
    · exact fun g b hb => decide_eq_true (g.2 b hb)
  rw [e]
  by_cases h1 : x = 0
  · by_cases h2 : xs = List.replicate n 0
    · simp [h1, h2]
    · simp [h1, h2]
  · simp [h1]
theorem at_bd {x : Rat} {xs us : List Rat} (bx : Bd 30 x) (h1 : ∀ r ∈ xs, Bd 30 r) (h2 : ∀ r ∈ us, Bd 30 r) (hl : xs.length ≤ 9) : Bd 800 (x + sumR (List.zipWith (fun r s => r * s) xs us)) := by
  have b := sum_bd (zw_bd h1 h2) _ (Nat.le_refl _)
  rw [List.take_length] at b
  exact (bx.add b).up (by rw [List.length_zipWith]; omega)
theorem fx_lit {K : PySem.W.Frag} {H : Hp} {a : Addr} {r : Rat} {p q : Int} (h : H a = some (.tup [.int p, .int q])) (h1 : r.num = p) (h2 : (r.den : Int) = q) : Fx K H a r := by
  subst h1 h2
  exact SqT.of h
theorem eqvbb (a b : Bool) : PyData.eqv (.bool a) (.bool b) = (a == b) := by simp [PyData.eqv]
def spLaw (K : PySem.W.Frag) : Sp := fun vs H Q _ => ∃ (a : Addr) (ns : List Int), vs = [.ref a] ∧ SqL K H a (ns.map V.int) ∧ ns.length ≤ 63 ∧ ∀ H', Q (.bl true) H'
theorem okLaw {fLaw : Addr} {fdLaw : FuncData} (F : Fun K "law" "law" sLaw fLaw fdLaw) (T : Txt mg) {aZERO : Addr} {aONE : Addr} (CT : Cons K mg aZERO aONE) {CPartError CNought : Addr} (EX : Exns K mg CPartError CNought)
    {fLLawNumber : Addr} {fdLLawNumber : FuncData} (GLLawNumber : FnOk P w K mg base CX0 1 fLLawNumber fdLLawNumber ["script", "k"] (spLLawNumber K)) (gLLawNumber : mg "_law_number" = some (.ref fLLawNumber)) (kpLLawNumber : PySem.W.keepIn K (.ref fLLawNumber) = true) (bLLawNumber : Binds K fdLLawNumber ["script", "k"] [])
    {fLLawValue : Addr} {fdLLawValue : FuncData} (GLLawValue : FnOk P w K mg base CX0 3 fLLawValue fdLLawValue ["draw", "many"] (spLLawValue K)) (gLLawValue : mg "_law_value" = some (.ref fLLawValue)) (kpLLawValue : PySem.W.keepIn K (.ref fLLawValue) = true) (bLLawValue : Binds K fdLLawValue ["draw", "many"] [])
    {fLLawSmall : Addr} {fdLLawSmall : FuncData} (GLLawSmall : FnOk P w K mg base CX0 2 fLLawSmall fdLLawSmall ["draw"] (spLLawSmall K)) (gLLawSmall : mg "_law_small" = some (.ref fLLawSmall)) (kpLLawSmall : PySem.W.keepIn K (.ref fLLawSmall) = true) (bLLawSmall : Binds K fdLLawSmall ["draw"] [])
    {fLLawPlus : Addr} {fdLLawPlus : FuncData} (GLLawPlus : FnOk P w K mg base CX0 2 fLLawPlus fdLLawPlus ["a", "b"] (spLLawPlus K)) (gLLawPlus : mg "_law_plus" = some (.ref fLLawPlus)) (kpLLawPlus : PySem.W.keepIn K (.ref fLLawPlus) = true) (bLLawPlus : Binds K fdLLawPlus ["a", "b"] [])
    {fLLawTimes : Addr} {fdLLawTimes : FuncData} (GLLawTimes : FnOk P w K mg base CX0 2 fLLawTimes fdLLawTimes ["a", "b"] (spLLawTimes K)) (gLLawTimes : mg "_law_times" = some (.ref fLLawTimes)) (kpLLawTimes : PySem.W.keepIn K (.ref fLLawTimes) = true) (bLLawTimes : Binds K fdLLawTimes ["a", "b"] [])
    {fSubtract : Addr} {fdSubtract : FuncData} (GSubtract : FnOk P w K mg base CX0 3 fSubtract fdSubtract ["a", "b"] (spSubtract K)) (gSubtract : mg "subtract" = some (.ref fSubtract)) (kpSubtract : PySem.W.keepIn K (.ref fSubtract) = true) (bSubtract : Binds K fdSubtract ["a", "b"] [])
    {fAdd : Addr} {fdAdd : FuncData} (GAdd : FnOk P w K mg base CX0 3 fAdd fdAdd ["a", "b"] (spAdd K)) (gAdd : mg "add" = some (.ref fAdd)) (kpAdd : PySem.W.keepIn K (.ref fAdd) = true) (bAdd : Binds K fdAdd ["a", "b"] [])
    {fScale : Addr} {fdScale : FuncData} (GScale : FnOk P w K mg base CX0 3 fScale fdScale ["factor", "a"] (spScale K)) (gScale : mg "scale" = some (.ref fScale)) (kpScale : PySem.W.keepIn K (.ref fScale) = true) (bScale : Binds K fdScale ["factor", "a"] [])
    {fValue : Addr} {fdValue : FuncData} (GValue : FnOk P w K mg base CX0 4 fValue fdValue ["a", "setting"] (spValue K)) (gValue : mg "value" = some (.ref fValue)) (kpValue : PySem.W.keepIn K (.ref fValue) = true) (bValue : Binds K fdValue ["a", "setting"] [])
    {fConstant : Addr} {fdConstant : FuncData} (GConstant : FnOk P w K mg base CX0 1 fConstant fdConstant ["base", "many"] (spConstant K)) (gConstant : mg "constant" = some (.ref fConstant)) (kpConstant : PySem.W.keepIn K (.ref fConstant) = true) (bConstant : Binds K fdConstant ["base", "many"] [])
    {fOpposite : Addr} {fdOpposite : FuncData} (GOpposite : FnOk P w K mg base CX0 2 fOpposite fdOpposite ["a"] (spOpposite K)) (gOpposite : mg "opposite" = some (.ref fOpposite)) (kpOpposite : PySem.W.keepIn K (.ref fOpposite) = true) (bOpposite : Binds K fdOpposite ["a"] [])
    {fLLawAt : Addr} {fdLLawAt : FuncData} (GLLawAt : FnOk P w K mg base CX0 3 fLLawAt fdLLawAt ["found", "setting"] (spLLawAt K)) (gLLawAt : mg "_law_at" = some (.ref fLLawAt)) (kpLLawAt : PySem.W.keepIn K (.ref fLLawAt) = true) (bLLawAt : Binds K fdLLawAt ["found", "setting"] [])
    {fIsNought : Addr} {fdIsNought : FuncData} (GIsNought : FnOk P w K mg base CX0 1 fIsNought fdIsNought ["a"] (spIsNought K)) (gIsNought : mg "is_nought" = some (.ref fIsNought)) (kpIsNought : PySem.W.keepIn K (.ref fIsNought) = true) (bIsNought : Binds K fdIsNought ["a"] [])
    {fParameter : Addr} {fdParameter : FuncData} (GParameter : FnOk P w K mg base CX0 1 fParameter fdParameter ["at", "many"] (spParameter K)) (gParameter : mg "parameter" = some (.ref fParameter)) (kpParameter : PySem.W.keepIn K (.ref fParameter) = true) (bParameter : Binds K fdParameter ["at", "many"] []) :
    FnOk P w K mg base CX0 5 fLaw fdLaw ["script"] (spLaw K) := by
  refine F.ok scLaw (fun vs H Q E h => ?_) (fun cdv A outer s H vs Q E hr h => ?_)
  · obtain ⟨S, ns, rfl, hS0, hlen, fin⟩ := h
    rfl
  · obtain ⟨S, ns, rfl, hS0, hlen, fin⟩ := h
    refine ⟨_, (C8.pss_cut (ps_for PassesOwn.never rfl (pi_range1 rfl T.range (pa_cons pe_int pa_nil)) (pg_name (i := 1) scLaw.nd rfl (Or.inl rfl))
        (pss_cons (ps_set (i := 2) scLaw.nd rfl (Or.inr rfl) (pe_call GLLawNumber (hr.mono (by decide)) (by rfl) gLLawNumber kpLLawNumber bLLawNumber .nil pass0 (pa_cons (pv 0) (pa_cons (pv 1) pa_nil))))
        (pss_cons (ps_set (i := 3) scLaw.nd rfl (Or.inl rfl) (pe_op op_mod (pe_callTy call_int1 (by rfl) T.int (by decide +kernel) (pa_cons (pv 2) pa_nil)) pe_int))
        (pss_cons (ps_set (i := 4) scLaw.nd rfl (Or.inr rfl) (pe_call GLLawValue (hr.mono (by decide)) (by rfl) gLLawValue kpLLawValue bLLawValue .nil pass0 (pa_cons (pe_op op_fdiv (pv 2) pe_int) (pa_cons (pv 3) pa_nil))))
        (pss_cons (ps_set (i := 5) scLaw.nd rfl (Or.inr rfl) (pe_call GLLawValue (hr.mono (by decide)) (by rfl) gLLawValue kpLLawValue bLLawValue .nil pass0 (pa_cons (pe_op op_add (pe_op op_fdiv (pv 2) (pe_op op_pow pe_int pe_int)) (pe_op op_mul pe_int (pv 1))) (pa_cons (pv 3) pa_nil))))
        (pss_cons (ps_set (i := 6) scLaw.nd rfl (Or.inr rfl) (pe_call GLLawSmall (hr.mono (by decide)) (by rfl) gLLawSmall kpLLawSmall bLLawSmall .nil pass0 (pa_cons (pe_op op_fdiv (pv 2) pe_int) pa_nil)))
        (pss_cons (ps_setLc (i := 7) (own := [("j", 11)]) (by rfl) scLaw.nd rfl rfl (sw_true rfl rfl rfl (by decide +kernel)) (pi_range1 rfl T.range (pa_cons (pv 3) pa_nil)) (blkOk_by (own := [("j", 11)]) (N := ["script", "k", "draw", "many", "a", "b", "factor", "setting", "given", "due", "turned", "j", "one"]) (sc := defScope sLaw) (by decide +kernel)) (fun _ _ _ _ _ => (pg_name (i := 11) scLaw.nd rfl (Or.inl rfl))) (fun _ _ _ _ _ => pts_nil) (fun _ _ _ _ _ => (pe_call GLLawSmall (hr.mono (by decide)) (by rfl) gLLawSmall kpLLawSmall bLLawSmall .nil pass0 (pa_cons (pe_op op_fdiv (pv 2) (pe_op op_add pe_int (pe_op op_mul pe_int (pv 11)))) pa_nil))))
        (pss_cons (ps_set (i := 8) scLaw.nd rfl (Or.inl rfl) (pe_callTy call_list_of (by rfl) T.list (by decide +kernel) (pa_cons (pv 7) pa_nil)))
        (pss_cons (ps_set (i := 9) scLaw.nd rfl (Or.inl rfl) (pe_tup (pa_cons (pe_call GLLawPlus (hr.mono (by decide)) (by rfl) gLLawPlus kpLLawPlus bLLawPlus .nil pass0 (pa_cons (pe_ix ix_tup (pv 4) pe_int (fun _ _ => rfl)) (pa_cons (pe_ix ix_tup (pv 5) pe_int (fun _ _ => rfl)) pa_nil))) (pa_cons (pe_callTy call_tuple_of (by rfl) T.tuple (by decide +kernel) (pa_cons (pe_lc (own := [("j", 11)]) (by rfl) scLaw.nd (pi_range1 rfl T.range (pa_cons (pv 3) pa_nil)) (blkOk_by (own := [("j", 11)]) (N := ["script", "k", "draw", "many", "a", "b", "factor", "setting", "given", "due", "turned", "j", "one"]) (sc := defScope sLaw) (by decide +kernel)) (fun _ _ _ _ _ => (pg_name (i := 11) scLaw.nd rfl (Or.inl rfl))) (fun _ _ _ _ _ => pts_nil) (fun _ _ _ _ _ => (pe_call GLLawPlus (hr.mono (by decide)) (by rfl) gLLawPlus kpLLawPlus bLLawPlus .nil pass0 (pa_cons (pe_ix (show IxR _ (rIxT K) from ix_tup) (pe_ix (show IxR _ (rIxT K) from ix_tup) (pv 4) pe_int (fun _ _ => rfl)) (pv 11) (fun _ _ => rfl)) (pa_cons (pe_ix (show IxR _ (rIxT K) from ix_tup) (pe_ix (show IxR _ (rIxT K) from ix_tup) (pv 5) pe_int (fun _ _ => rfl)) (pv 11) (fun _ _ => rfl)) pa_nil))))) pa_nil)) pa_nil))))
        (pss_cons (ps_set (i := 10) scLaw.nd rfl (Or.inl rfl) (pe_tup (pa_cons (pe_call GLLawTimes (hr.mono (by decide)) (by rfl) gLLawTimes kpLLawTimes bLLawTimes .nil pass0 (pa_cons (pe_tup (pa_cons (pe_un un_neg pe_int) (pa_cons pe_int pa_nil))) (pa_cons (pe_ix ix_tup (pv 5) pe_int (fun _ _ => rfl)) pa_nil))) (pa_cons (pe_callTy call_tuple_of (by rfl) T.tuple (by decide +kernel) (pa_cons (pe_lc (own := [("one", 12)]) (by rfl) scLaw.nd (pi_tup (pe_ix ix_tup (pv 5) pe_int (fun _ _ => rfl))) (blkOk_by (own := [("one", 12)]) (N := ["script", "k", "draw", "many", "a", "b", "factor", "setting", "given", "due", "turned", "j", "one"]) (sc := defScope sLaw) (by decide +kernel)) (fun _ _ _ _ _ => (pg_name (i := 12) scLaw.nd rfl (Or.inl rfl))) (fun _ _ _ _ _ => pts_nil) (fun _ _ _ _ _ => (pe_call GLLawTimes (hr.mono (by decide)) (by rfl) gLLawTimes kpLLawTimes bLLawTimes .nil pass0 (pa_cons (pe_tup (pa_cons (pe_un un_neg pe_int) (pa_cons pe_int pa_nil))) (pa_cons (pv 12) pa_nil))))) pa_nil)) pa_nil))))
        (pss_cons (ps_if (PW.pt (pw_or (pt_cmpR (op_neD hr.units) (pe_call GAdd (hr.mono (by decide)) (by rfl) gAdd kpAdd bAdd .nil pass0 (pa_cons (pv 4) (pa_cons (pv 5) pa_nil))) (pv 9) (nomark _)) (pw_or1 (pt_cmpR (op_neD hr.units) (pe_call GOpposite (hr.mono (by decide)) (by rfl) gOpposite kpOpposite bOpposite .nil pass0 (pa_cons (pv 5) pa_nil)) (pv 10) (nomark _)))))
          (pss_one (ps_ret pe_bl))
          pss_nil)
        (pss_cons (ps_if (pt_cmpR (op_neD hr.units) (pe_call GSubtract (hr.mono (by decide)) (by rfl) gSubtract kpSubtract bSubtract .nil pass0 (pa_cons (pv 4) (pa_cons (pv 5) pa_nil))) (pe_call GAdd (hr.mono (by decide)) (by rfl) gAdd kpAdd bAdd .nil pass0 (pa_cons (pv 4) (pa_cons (pv 10) pa_nil))) (nomark _))
          (pss_one (ps_ret pe_bl))
          pss_nil)
        (pss_cons (ps_if (pt_cmpR (op_neD hr.units) (pe_call GScale (hr.mono (by decide)) (by rfl) gScale kpScale bScale .nil pass0 (pa_cons (pv 6) (pa_cons (pv 4) pa_nil))) (pe_tup (pa_cons (pe_call GLLawTimes (hr.mono (by decide)) (by rfl) gLLawTimes kpLLawTimes bLLawTimes .nil pass0 (pa_cons (pv 6) (pa_cons (pe_ix ix_tup (pv 4) pe_int (fun _ _ => rfl)) pa_nil))) (pa_cons (pe_callTy call_tuple_of (by rfl) T.tuple (by decide +kernel) (pa_cons (pe_lc (own := [("one", 12)]) (by rfl) scLaw.nd (pi_tup (pe_ix ix_tup (pv 4) pe_int (fun _ _ => rfl))) (blkOk_by (own := [("one", 12)]) (N := ["script", "k", "draw", "many", "a", "b", "factor", "setting", "given", "due", "turned", "j", "one"]) (sc := defScope sLaw) (by decide +kernel)) (fun _ _ _ _ _ => (pg_name (i := 12) scLaw.nd rfl (Or.inl rfl))) (fun _ _ _ _ _ => pts_nil) (fun _ _ _ _ _ => (pe_call GLLawTimes (hr.mono (by decide)) (by rfl) gLLawTimes kpLLawTimes bLLawTimes .nil pass0 (pa_cons (pv 6) (pa_cons (pv 12) pa_nil))))) pa_nil)) pa_nil))) (nomark _))
          (pss_one (ps_ret pe_bl))
          pss_nil)
        (pss_cons (ps_if (PW.pt (pw_or (pt_cmpR (op_neD hr.units) (pe_call GValue hr (by rfl) gValue kpValue bValue .nil pass0 (pa_cons (pv 4) (pa_cons (pv 7) pa_nil))) (pe_call GLLawAt (hr.mono (by decide)) (by rfl) gLLawAt kpLLawAt bLLawAt .nil pass0 (pa_cons (pv 4) (pa_cons (pv 8) pa_nil))) (nomark _)) (pw_or1 (pt_cmpR (op_neD hr.units) (pv 7) (pv 8) (nomark _)))))
          (pss_one (ps_ret pe_bl))
          pss_nil)
        (pss_cons (ps_if (pt_cmpR (op_neD hr.units) (pe_call GValue hr (by rfl) gValue kpValue bValue .nil pass0 (pa_cons (pe_call GAdd (hr.mono (by decide)) (by rfl) gAdd kpAdd bAdd .nil pass0 (pa_cons (pv 4) (pa_cons (pv 5) pa_nil))) (pa_cons (pv 7) pa_nil))) (pe_call GLLawPlus (hr.mono (by decide)) (by rfl) gLLawPlus kpLLawPlus bLLawPlus .nil pass0 (pa_cons (pe_call GLLawAt (hr.mono (by decide)) (by rfl) gLLawAt kpLLawAt bLLawAt .nil pass0 (pa_cons (pv 4) (pa_cons (pv 8) pa_nil))) (pa_cons (pe_call GLLawAt (hr.mono (by decide)) (by rfl) gLLawAt kpLLawAt bLLawAt .nil pass0 (pa_cons (pv 5) (pa_cons (pv 8) pa_nil))) pa_nil))) (nomark _))
          (pss_one (ps_ret pe_bl))
          pss_nil)
        (pss_cons (ps_if (pt_cmpR (op_neD hr.units) (pe_call GConstant (hr.mono (by decide)) (by rfl) gConstant kpConstant bConstant .nil pass0 (pa_cons (pv 6) (pa_cons (pv 3) pa_nil))) (pe_tup (pa_cons (pv 6) (pa_cons (pe_callTy call_tuple_of (by rfl) T.tuple (by decide +kernel) (pa_cons (pe_lc (own := [("j", 11)]) (by rfl) scLaw.nd (pi_range1 rfl T.range (pa_cons (pv 3) pa_nil)) (blkOk_by (own := [("j", 11)]) (N := ["script", "k", "draw", "many", "a", "b", "factor", "setting", "given", "due", "turned", "j", "one"]) (sc := defScope sLaw) (by decide +kernel)) (fun _ _ _ _ _ => (pg_name (i := 11) scLaw.nd rfl (Or.inl rfl))) (fun _ _ _ _ _ => pts_nil) (fun _ _ _ _ _ => (pe_tup (pa_cons pe_int (pa_cons pe_int pa_nil))))) pa_nil)) pa_nil))) (nomark _))
          (pss_one (ps_ret pe_bl))
          pss_nil)
        (pss_cons (ps_if (PW.pt (pw_or (pt_not (pt_val (pe_callB call_isi (by rfl) T.isinstance (by decide +kernel) (pa_cons (pe_call GIsNought (hr.mono (by decide)) (by rfl) gIsNought kpIsNought bIsNought .nil pass0 (pa_cons (pv 4) pa_nil)) (pa_cons (pe_bltn (v := .ty "bool") (by rfl) T.bool (by decide +kernel) rfl) pa_nil))))) (pw_or1 (pt_cmpR (op_neD hr.units) (pe_call GIsNought (hr.mono (by decide)) (by rfl) gIsNought kpIsNought bIsNought .nil pass0 (pa_cons (pv 4) pa_nil)) (pe_cmpR (op_eqD hr.units) (pv 4) (pe_call GConstant (hr.mono (by decide)) (by rfl) gConstant kpConstant bConstant .nil pass0 (pa_cons (pe_tup (pa_cons pe_int (pa_cons pe_int pa_nil))) (pa_cons (pv 3) pa_nil))) (nomark _)) (nomark _)))))
          (pss_one (ps_ret pe_bl))
          pss_nil)
        (pss_one (ps_for PassesOwn.never rfl (pi_range1 rfl T.range (pa_cons (pv 3) pa_nil)) (pg_name (i := 11) scLaw.nd rfl (Or.inl rfl))
          (pss_one (ps_if (PW.pt (pw_or (pt_cmpR (op_neD hr.units) (pe_call GValue hr (by rfl) gValue kpValue bValue .nil pass0 (pa_cons (pe_call GParameter (hr.mono (by decide)) (by rfl) gParameter kpParameter bParameter .nil pass0 (pa_cons (pv 11) (pa_cons (pv 3) pa_nil))) (pa_cons (pv 7) pa_nil))) (pe_ix ix_list (pv 8) (pv 11) (fun _ _ => rfl)) (nomark _)) (pw_or1 (pt_cmpR (op_neD hr.units) (pe_ix ix_tup (pe_ix ix_tup (pe_call GParameter (hr.mono (by decide)) (by rfl) gParameter kpParameter bParameter .nil pass0 (pa_cons (pv 11) (pa_cons (pv 3) pa_nil))) pe_int (fun _ _ => rfl)) (pv 11) (fun _ _ => rfl)) (pe_tup (pa_cons pe_int (pa_cons pe_int pa_nil))) (nomark _)))))
            (pss_one (ps_ret pe_bl))
            pss_nil)))))))))))))))))))))
      (pss_one (ps_ret pe_bl))), ?_⟩
    have hS : SqL K H S (zs ns) := hS0
    refine ⟨fun σ' H' => ∃ v1 v2 v3 v4 v5 v6 v7 v8 v9 v10 v11 : Option V, σ' = [some (.ref S), v1, v2, v3, v4, v5, v6, v7, v8, v9, v10, v11, none], ?_, ?_⟩
    · refine ⟨12, rfl, by decide, by decide, for_range (n := 12) (fun i σ' H' => Same H H' ∧ ∃ v1 v2 v3 v4 v5 v6 v7 v8 v9 v10 v11 : Option V, σ' = [some (.ref S), v1, v2, v3, v4, v5, v6, v7, v8, v9, v10, v11, none]) ?_ ?_ ?_⟩
      · exact ⟨Same.refl _, none, none, none, none, none, none, none, none, none, none, none, rfl⟩
      · rintro i σ' H0 hi ⟨s0, v1, v2, v3, v4, v5, v6, v7, v8, v9, v10, v11, rfl⟩
        have hi0 : (0 : Int) + (i : Int) = (i : Int) := by omega
        refine ⟨_, rfl, _, rfl, S, ns, i, by rw [hi0]; rfl, s0.seq hS, fun dr => ?_⟩
        refine ⟨_, rfl, .inl ⟨_, rfl, _, _, rfl, rfl, by show (0 : Int) < 5; decide, ?_⟩⟩
        obtain ⟨n, hn⟩ : ∃ n : Nat, dr % 5 = (n : Int) := ⟨(dr % 5).toNat, by have := Int.emod_nonneg dr (show (5 : Int) ≠ 0 by decide); omega⟩
        have hn5 : n ≤ 4 := by
          have := Int.emod_lt_of_pos dr (show (0 : Int) < 5 by decide)
          omega
        have hn9 : n ≤ 9 := by omega
        show gName 3 (V.int (dr % 5)) _ _ _
        rw [hn]
        walk_at "rd"
        refine ⟨_, n, rfl, hn9, fun H1 ta x xs s1 VA la bx bxs => ?_⟩
        walk_at "rd"
        refine ⟨_, n, rfl, hn9, fun H2 tb y ys s2 VB lb bY bys => ?_⟩
        walk_at "rd"
        intro H3 tf s3 F3
        -- the setting
        refine ⟨_, rfl, n, rfl, by omega, by omega, fun D hD => ?_⟩
        refine lc_row (K := K) walk_range ((List.range n).map fun (j : Nat) => sml (dr / (31 + 7 * ((0 : Int) + (j : Int))))) (by simp) (by omega) hD (fun _ _ => trivial) ?_ ?_
        · rintro j c v H4 H5 kk hr s4 ⟨rfl, rfl⟩ kk2
          rw [List.getElem?_map] at hr
          have hj : j < n := by
            rcases Nat.lt_or_ge j n with h | h
            · exact h
            · rw [List.getElem?_eq_none (by rw [List.length_range]; exact h)] at hr
              cases hr
          rw [List.getElem?_range hj] at hr
          obtain rfl : sml (dr / (31 + 7 * ((0 : Int) + (j : Int)))) = c := Option.some.inj hr
          walk_at "rd"
          exact ⟨⟨by omega, by omega⟩, _, rfl, fun H4 t4 s4 f4 => kk2 t4 H4 s4 f4⟩
        intro H4 vs s4 e4 r4 m4
        have bvs : ∀ r ∈ vs.map (·.2), Bd 30 r := fun r hr => by
          rw [m4] at hr
          obtain ⟨i, _, rfl⟩ := List.mem_map.mp hr
          exact (sml_bd _).up (by decide)
        have bvs2 : ∀ w ∈ vs, Bd 30 w.2 := fun w hw => bvs _ (List.mem_map_of_mem hw)
        have lv : vs.length = n := by
          have := congrArg List.length m4
          rw [List.length_map, List.length_map, List.length_range] at this
          exact this
        refine ⟨_, rfl, D, _, rfl, .inl (SqL.of e4), fun g ng => ?_⟩
        have s5 := same_upd (o := .lst (fr vs)) ng
        have eg : (upd H4 g (.lst (fr vs))) g = some (.lst (fr vs)) := upd_same
        generalize upd H4 g (.lst (fr vs)) = H5 at s5 eg
        have bx3 : Bd 30 x := bx.up (by decide)
        have bY3 : Bd 30 y := bY.up (by decide)
        have bxs3 : ∀ r ∈ xs, Bd 30 r := fun r hr => (bxs r hr).up (by decide)
        have bys3 : ∀ r ∈ ys, Bd 30 r := fun r hr => (bys r hr).up (by decide)
        have VA5 := VA.same (s2.trans (s3.trans (s4.trans s5)))
        have VB5 := VB.same (s3.trans (s4.trans s5))
        have F5 := F3.same (s4.trans s5)
        have eD5 := s5 _ _ e4
        have R5 := r4.same s5
        have s05 : Same H H5 := s0.trans (s1.trans (s2.trans (s3.trans (s4.trans s5))))
        clear VA VB F3 e4 r4 s0 s1 s2 s3 s4 s5
        -- what add owes
        obtain ⟨p, q, us, hA, hp, hq, hus, em⟩ := id VA5
        obtain ⟨p2, q2, us2, hB, hp2, hq2, hus2, em2⟩ := id VB5
        refine ⟨.ref ta, rfl, ta, _, 0, _, rfl, rfl, hA, atI_nat (j := 0) rfl, .ref tb, rfl, tb, _, 0, _, rfl, rfl, hB, atI_nat (j := 0) rfl, p, p2, x, y, rfl, hp, hp2, bx.up (by decide), bY.up (by decide), fun H6 t6 s6 f6 => ?_⟩
        refine ⟨_, rfl, n, rfl, by omega, by omega, fun D7 hD7 => ?_⟩
        refine lc_row (K := K) walk_range (List.zipWith (fun r s => r + s) xs ys) (by rw [List.length_zipWith]; omega) (by omega) hD7 (fun _ _ => trivial) ?_ ?_
        · rintro j c v H7 H8 kk hr s7 ⟨rfl, rfl⟩ kk2
          obtain ⟨x', y', hx', hy', rfl⟩ := zw_some hr
          have b1 := bxs x' (List.mem_of_getElem? hx')
          have b2 := bys y' (List.mem_of_getElem? hy')
          rw [← em] at hx'
          rw [← em2] at hy'
          obtain ⟨t, at1, mm1⟩ := fr_at hx'
          obtain ⟨t', at2, mm2⟩ := fr_at hy'
          have hj0 : (0 : Int) + (j : Int) = (j : Int) := by omega
          have sj := s6.trans s7
          have ax1 : atI (fr us) ((0 : Int) + (j : Int)) = some (V.ref t) := by
            rw [hj0]
            exact atI_nat at1
          have ax2 : atI (fr us2) ((0 : Int) + (j : Int)) = some (V.ref t') := by
            rw [hj0]
            exact atI_nat at2
          exact ⟨rfl, .ref ta, rfl, ta, _, 1, _, rfl, rfl, same_tup sj hA, atI_nat (j := 1) rfl, _, rfl, q, _, _, _, rfl, rfl, same_tup sj hq, ax1, .ref tb, rfl, tb, _, 1, _, rfl, rfl, same_tup sj hB, atI_nat (j := 1) rfl, _, rfl, q2, _, _, _, rfl, rfl, same_tup sj hq2, ax2, t, t', x', y', rfl, (hus _ mm1).same sj, (hus2 _ mm2).same sj, b1.up (by decide), b2.up (by decide), fun H4 t4 s4 f4 => kk2 t4 H4 s4 f4⟩
        intro H7 ws7 s7 e7 r7 m7
        refine ⟨D7, _, rfl, .inl ⟨SqL.of e7, fun t8 n8 => ?_⟩⟩
        have s8 := same_upd (o := .tup (fr ws7)) n8
        refine ⟨by show 2 ≤ sizeLine; decide, fun td n9 => ?_⟩
        have s9 := same_upd (o := .tup [.ref t6, .ref t8]) n9
        have VD9 : Vx K (upd (upd H7 t8 (.tup (fr ws7))) td (.tup [.ref t6, .ref t8])) td (x + y) (List.zipWith (fun r s => r + s) xs ys) :=
          ⟨t6, t8, ws7, SqT.of upd_same, f6.same (s7.trans (s8.trans s9)), SqT.of (s9 _ _ upd_same), r7.same (s8.trans s9), m7⟩
        have s59 := s6.trans (s7.trans (s8.trans s9))
        generalize (upd (upd H7 t8 (.tup (fr ws7))) td (.tup [.ref t6, .ref t8])) = H9 at VD9 s59
        have VA9 := VA5.same s59
        have VB9 := VB5.same s59
        clear s6 s7 s8 s9 f6 r7 e7 m7 n8 n9 hA hp hq hus hB hp2 hq2 hus2 em em2
        obtain ⟨p, q, us, hA, hp, hq, hus, em⟩ := id VA9
        obtain ⟨p2, q2, us2, hB, hp2, hq2, hus2, em2⟩ := id VB9
        -- what opposite owes
        refine ⟨_, rfl, by show 2 ≤ sizeLine; decide, fun m1 nm1 => ?_⟩
        have sm1 := same_upd (o := .tup [.int (-1), .int 1]) nm1
        have fm1 : Fx K (upd H9 m1 (.tup [.int (-1), .int 1])) m1 (-1) := fx_lit upd_same rfl rfl
        have bm1 : Bd 1 (-1) := ⟨by decide, by decide⟩
        generalize (upd H9 m1 (.tup [.int (-1), .int 1])) = H10 at sm1 fm1
        refine ⟨.ref tb, rfl, tb, _, 0, _, rfl, rfl, same_tup sm1 hB, atI_nat (j := 0) rfl, m1, p2, -1, y, rfl, fm1, hp2.same sm1, bm1.up (by decide), bY.up (by decide), fun H11 t11 s11 f11 => ?_⟩
        refine ⟨.ref tb, rfl, tb, _, 1, _, rfl, rfl, same_tup (sm1.trans s11) hB, atI_nat (j := 1) rfl, q2, rfl, ⟨_, same_tup (sm1.trans s11) hq2⟩, fun D12 hD12 => ?_⟩
        have lu2 : us2.length = n := by
          have := congrArg List.length em2
          rw [List.length_map] at this
          omega
        have lu1 : us.length = n := by
          have := congrArg List.length em
          rw [List.length_map] at this
          omega
        refine lc_row (K := K) (walk_tup (xs := fr us2)) (ys.map fun y => -1 * y) (by simp [fr_len]; omega) (by rw [fr_len]; omega) hD12 (fun H2 s2 => same_tup (sm1.trans (s11.trans s2)) hq2) ?_ ?_
        · rintro j c v H12 H13 kk hr s12 ⟨rfl, g1⟩ kk2
          obtain ⟨w, rfl, hw⟩ := fr_get g1
          rw [List.getElem?_map, ← em2, List.getElem?_map, hw] at hr
          obtain rfl : -1 * w.2 = c := Option.some.inj hr
          have mm : w ∈ us2 := List.mem_of_getElem? hw
          have b2 := bys w.2 (by rw [← em2]; exact List.mem_map_of_mem mm)
          refine ⟨rfl, _, rfl, by show 2 ≤ sizeLine; decide, fun m nm => ?_⟩
          have sm := same_upd (o := .tup [.int (-1), .int 1]) nm
          exact ⟨_, rfl, m, w.1, -1, w.2, rfl, fx_lit upd_same rfl rfl, (hus2 w mm).same (sm1.trans (s11.trans (s12.trans sm))), bm1.up (by decide), b2.up (by decide), fun H4 t4 s4 f4 => kk2 t4 H4 (sm.trans s4) f4⟩
        intro H12 ws12 s12 e12 r12 m12
        refine ⟨D12, _, rfl, .inl ⟨SqL.of e12, fun t13 n13 => ?_⟩⟩
        have s13 := same_upd (o := .tup (fr ws12)) n13
        refine ⟨by show 2 ≤ sizeLine; decide, fun tt n14 => ?_⟩
        have s14 := same_upd (o := .tup [.ref t11, .ref t13]) n14
        have VT : Vx K (upd (upd H12 t13 (.tup (fr ws12))) tt (.tup [.ref t11, .ref t13])) tt (-1 * y) (ys.map fun y => -1 * y) :=
          ⟨t11, t13, ws12, SqT.of upd_same, f11.same (s12.trans (s13.trans s14)), SqT.of (s14 _ _ upd_same), r12.same (s13.trans s14), m12⟩
        have s914 := sm1.trans (s11.trans (s12.trans (s13.trans s14)))
        generalize (upd (upd H12 t13 (.tup (fr ws12))) tt (.tup [.ref t11, .ref t13])) = H14 at VT s914
        clear sm1 fm1 s11 s12 s13 s14 f11 e12 r12 m12 n13 n14 nm1 hD12
        -- add, opposite
        have lxy : xs.length = ys.length := by omega
        have lx20 : xs.length ≤ 20 := by omega
        refine ⟨_, rfl, _, rfl, ta, tb, x, y, xs, ys, rfl, VA9.same s914, VB9.same s914, lxy, lx20, bx.up (by decide), bY.up (by decide), fun r hr => (bxs r hr).up (by decide), fun r hr => (bys r hr).up (by decide), fun H15 t15 s15 V15 => ?_⟩
        refine ⟨_, rfl, _, _, dpv V15, dpv ((VD9.same s914).same s15), shv _ _, shv _ _, _, rfl, ?_⟩
        rw [eqvv_self]
        refine iteF ?_
        refine ⟨_, rfl, tb, y, ys, rfl, VB9.same (s914.trans s15), by omega, fun H16 t16 s16 V16 => ?_⟩
        refine ⟨_, rfl, _, _, dpv V16, dpv (VT.same (s15.trans s16)), shv _ _, shv _ _, _, rfl, ?_⟩
        rw [neg_map, show -1 * y = -y by grind, eqvv_self]
        refine iteF ?_
        -- subtract
        have s916 := s914.trans (s15.trans s16)
        have VT16 := VT.same (s15.trans s16)
        refine ⟨_, rfl, _, rfl, ta, tb, x, y, xs, ys, rfl, VA9.same s916, VB9.same s916, lxy, lx20, bx.up (by decide), bY.up (by decide), fun r hr => (bxs r hr).up (by decide), fun r hr => (bys r hr).up (by decide), fun H17 t17 s17 V17 => ?_⟩
        refine ⟨_, rfl, _, rfl, ta, tt, x, -1 * y, xs, (ys.map fun y => -1 * y), rfl, VA9.same (s916.trans s17), VT16.same s17, by rw [List.length_map]; omega, lx20, bx.up (by decide), (bm1.mul bY).up (by decide), fun r hr => (bxs r hr).up (by decide), fun r hr => ?_, fun H18 t18 s18 V18 => ?_⟩
        · obtain ⟨w, hw, rfl⟩ := List.mem_map.mp hr
          exact (bm1.mul (bys w hw)).up (by decide)
        replace V18 : Vx K H18 t18 (x - y) (List.zipWith (fun r s => r - s) xs ys) := by
          rw [← zw_sub, show x - y = x + -1 * y by grind]
          exact V18
        refine ⟨_, _, dpv (V17.same s18), dpv V18, shv _ _, shv _ _, _, rfl, ?_⟩
        rw [eqvv_self]
        refine iteF ?_
        -- scale
        have s918 := s916.trans (s17.trans s18)
        have br : Bd 60 (sml (dr / 77)) := (sml_bd _).up (by decide)
        have F18 := F5.same (s59.trans s918)
        clear V15 V16 V17 V18 VT VT16 VD9
        refine ⟨_, rfl, _, rfl, tf, ta, _, x, xs, rfl, F18, VA9.same s918, lx20, br, bx.up (by decide), fun r hr => (bxs r hr).up (by decide), fun H19 t19 s19 V19 => ?_⟩
        have s919 := s918.trans s19
        refine ⟨_, rfl, .ref ta, rfl, ta, _, 0, _, rfl, rfl, same_tup s919 hA, atI_nat (j := 0) rfl, tf, p, _, x, rfl, F18.same s19, hp.same s919, br.up (by decide), bx.up (by decide), fun H20 t20 s20 f20 => ?_⟩
        refine ⟨.ref ta, rfl, ta, _, 1, _, rfl, rfl, same_tup (s919.trans s20) hA, atI_nat (j := 1) rfl, q, rfl, ⟨_, same_tup (s919.trans s20) hq⟩, fun D21 hD21 => ?_⟩
        refine lc_row (K := K) (walk_tup (xs := fr us)) (xs.map fun y => sml (dr / 77) * y) (by simp [fr_len]; omega) (by rw [fr_len]; omega) hD21 (fun H2 s2 => same_tup (s919.trans (s20.trans s2)) hq) ?_ ?_
        · rintro j c v H21 H22 kk hr s21 ⟨rfl, g1⟩ kk2
          obtain ⟨w, rfl, hw⟩ := fr_get g1
          rw [List.getElem?_map, ← em, List.getElem?_map, hw] at hr
          obtain rfl : sml (dr / 77) * w.2 = c := Option.some.inj hr
          have mm : w ∈ us := List.mem_of_getElem? hw
          have b2 := bxs w.2 (by rw [← em]; exact List.mem_map_of_mem mm)
          exact ⟨rfl, _, rfl, _, rfl, tf, w.1, _, w.2, rfl, F18.same (s19.trans (s20.trans s21)), (hus w mm).same (s919.trans (s20.trans s21)), br.up (by decide), b2.up (by decide), fun H4 t4 s4 f4 => kk2 t4 H4 s4 f4⟩
        intro H21 ws21 s21 e21 r21 m21
        refine ⟨D21, _, rfl, .inl ⟨SqL.of e21, fun t22 n22 => ?_⟩⟩
        have s22 := same_upd (o := .tup (fr ws21)) n22
        refine ⟨by show 2 ≤ sizeLine; decide, fun t23 n23 => ?_⟩
        have s23 := same_upd (o := .tup [.ref t20, .ref t22]) n23
        have V23 : Vx K (upd (upd H21 t22 (.tup (fr ws21))) t23 (.tup [.ref t20, .ref t22])) t23 (sml (dr / 77) * x) (xs.map fun y => sml (dr / 77) * y) :=
          ⟨t20, t22, ws21, SqT.of upd_same, f20.same (s21.trans (s22.trans s23)), SqT.of (s23 _ _ upd_same), r21.same (s22.trans s23), m21⟩
        have s1923 := s20.trans (s21.trans (s22.trans s23))
        generalize (upd (upd H21 t22 (.tup (fr ws21))) t23 (.tup [.ref t20, .ref t22])) = H23 at V23 s1923
        refine ⟨_, _, dpv (V19.same s1923), dpv V23, shv _ _, shv _ _, _, rfl, ?_⟩
        rw [eqvv_self]
        refine iteF ?_
        have s923 := s919.trans s1923
        have F23 := F18.same (s19.trans s1923)
        clear V19 V23 s19 s20 s21 s22 s23 f20 r21 e21 m21 n22 n23 hD21
        -- value
        have VA23 := VA9.same s923
        have s523 := s59.trans s923
        have eD23 := s523 _ _ eD5
        have eg23 := s523 _ _ eg
        have R23 := R5.same s523
        have lvx : vs.length = xs.length := by omega
        have lvy : vs.length = ys.length := by omega
        refine ⟨_, rfl, _, rfl, ta, D, x, xs, vs, rfl, VA23, SqL.of eD23, R23, lvx, by omega, bx3, bxs3, bvs2, fun H24 t24 s24 f24 => ?_⟩
        refine ⟨_, rfl, _, rfl, ta, g, x, xs, vs, rfl, VA23.same s24, SqL.of (s24 _ _ eg23), R23.same s24, lvx, by omega, bx3, bxs3, bvs, fun H25 t25 s25 f25 => ?_⟩
        refine ⟨_, _, dpr (f24.same s25), dpr f25, sh1 _, sh1 _, _, rfl, ?_⟩
        rw [eqvr_self]
        refine iteF ?_
        have s2325 := s24.trans s25
        refine ⟨_, rfl, _, rfl, _, _, .lst (SqL.of (s2325 _ _ eD23)) (dpAll (R23.same s2325)), .lst (SqL.of (s2325 _ _ eg23)) (dpAll (R23.same s2325)), shrl _, shrl _, _, rfl, ?_⟩
        rw [eqvl_self]
        refine iteF ?_
        -- value of a sum
        have VA25 := VA23.same s2325
        have VB25 := VB9.same (s923.trans s2325)
        have eD25 := s2325 _ _ eD23
        have eg25 := s2325 _ _ eg23
        have R25 := R23.same s2325
        refine ⟨_, rfl, _, rfl, ta, tb, x, y, xs, ys, rfl, VA25, VB25, lxy, lx20, bx.up (by decide), bY.up (by decide), fun r hr => (bxs r hr).up (by decide), fun r hr => (bys r hr).up (by decide), fun H26 t26 s26 V26 => ?_⟩
        refine ⟨_, rfl, t26, D, x + y, List.zipWith (fun r s => r + s) xs ys, vs, rfl, V26, SqL.of (s26 _ _ eD25), R25.same s26, by rw [List.length_zipWith]; omega, by rw [List.length_zipWith]; omega, (bx.add bY).up (by decide), fun r hr => ?_, bvs2, fun H27 t27 s27 f27 => ?_⟩
        · obtain ⟨j, hj⟩ := List.mem_iff_getElem?.mp hr
          obtain ⟨x', y', h1, h2, rfl⟩ := zw_some hj
          exact ((bxs x' (List.mem_of_getElem? h1)).add (bys y' (List.mem_of_getElem? h2))).up (by decide)
        have s2527 := s26.trans s27
        refine ⟨_, rfl, _, rfl, ta, g, x, xs, vs, rfl, VA25.same s2527, SqL.of (s2527 _ _ eg25), R25.same s2527, lvx, by omega, bx3, bxs3, bvs, fun H28 t28 s28 f28 => ?_⟩
        have s2528 := s2527.trans s28
        refine ⟨_, rfl, _, rfl, tb, g, y, ys, vs, rfl, VB25.same s2528, SqL.of (s2528 _ _ eg25), R25.same s2528, lvy, by omega, bY3, bys3, bvs, fun H29 t29 s29 f29 => ?_⟩
        refine ⟨t28, t29, _, _, rfl, f28.same s29, f29, at_bd bx3 bxs3 bvs (by omega), at_bd bY3 bys3 bvs (by omega), fun H30 t30 s30 f30 => ?_⟩
        rw [zw_add _ (by rw [List.length_map]; omega) (by rw [List.length_map]; omega)] at f27
        have ee : (x + sumR (List.zipWith (fun r s => r * s) xs (vs.map (·.2)))) + (y + sumR (List.zipWith (fun r s => r * s) ys (vs.map (·.2)))) = x + y + (sumR (List.zipWith (fun r s => r * s) xs (vs.map (·.2))) + sumR (List.zipWith (fun r s => r * s) ys (vs.map (·.2)))) := by grind
        replace f30 : Fx K H30 t30 (x + y + (sumR (List.zipWith (fun r s => r * s) xs (vs.map (·.2))) + sumR (List.zipWith (fun r s => r * s) ys (vs.map (·.2))))) := by
          rw [← ee]
          exact f30
        refine ⟨_, _, dpr (f27.same (s28.trans (s29.trans s30))), dpr f30, sh1 _, sh1 _, _, rfl, ?_⟩
        rw [eqvr_self]
        refine iteF ?_
        have s2530 := s2528.trans (s29.trans s30)
        have VA30 := VA25.same s2530
        have F30 := F23.same (s2325.trans s2530)
        have eD30 := s2530 _ _ eD25
        have eg30 := s2530 _ _ eg25
        have R30 := R25.same s2530
        have s030 := s05.trans (s523.trans (s2325.trans s2530))
        clear f24 f25 f27 f28 f29 f30 V26
        -- constant
        refine ⟨_, rfl, _, rfl, tf, _, n, rfl, F30, hn9, fun H31 t31 s31 V31 => ?_⟩
        refine ⟨_, rfl, _, rfl, n, rfl, by omega, by omega, fun D32 hD32 => ?_⟩
        refine lc_row (K := K) walk_range (List.replicate n 0) (by simp) (by omega) hD32 (fun _ _ => trivial) ?_ ?_
        · rintro j c v H32 H33 kk hr s32 ⟨rfl, rfl⟩ kk2
          have ec : c = 0 := by
            have := List.mem_of_getElem? hr
            exact List.eq_of_mem_replicate this
          subst ec
          exact ⟨rfl, by show 2 ≤ sizeLine; decide, fun m nm => kk2 m _ (same_upd nm) (fx_lit upd_same rfl rfl)⟩
        intro H32 ws32 s32 e32 r32 m32
        refine ⟨D32, _, rfl, .inl ⟨SqL.of e32, fun t33 n33 => ?_⟩⟩
        have s33 := same_upd (o := .tup (fr ws32)) n33
        refine ⟨by show 2 ≤ sizeLine; decide, fun t34 n34 => ?_⟩
        have s34 := same_upd (o := .tup [.ref tf, .ref t33]) n34
        have V34 : Vx K (upd (upd H32 t33 (.tup (fr ws32))) t34 (.tup [.ref tf, .ref t33])) t34 (sml (dr / 77)) (List.replicate n 0) :=
          ⟨tf, t33, ws32, SqT.of upd_same, F30.same (s31.trans (s32.trans (s33.trans s34))), SqT.of (s34 _ _ upd_same), r32.same (s33.trans s34), m32⟩
        have s3134 := s32.trans (s33.trans s34)
        generalize (upd (upd H32 t33 (.tup (fr ws32))) t34 (.tup [.ref tf, .ref t33])) = H34 at V34 s3134
        refine ⟨_, _, dpv (V31.same s3134), dpv V34, shv _ _, shv _ _, _, rfl, ?_⟩
        rw [eqvv_self]
        refine iteF ?_
        have s3034 := s31.trans s3134
        have VA34 := VA30.same s3034
        have F34 := F30.same s3034
        have eD34 := s3034 _ _ eD30
        have eg34 := s3034 _ _ eg30
        have R34 := R30.same s3034
        have s034 := s030.trans s3034
        clear V31 V34 s31 s32 s33 s34 e32 r32 m32 n33 n34 hD32
        -- is_nought
        refine ⟨_, rfl, ta, x, xs, rfl, VA34, lx20, fun H35 s35 => ?_⟩
        refine ⟨.bl _, .ty "bool", .type "bool", .type "bool", true, rfl, .ty _, .base (.bl _), kit_ty (by decide +kernel), true, rfl, iteF ?_⟩
        refine ⟨_, rfl, ta, x, xs, rfl, VA34.same s35, lx20, fun H36 s36 => ?_⟩
        refine ⟨_, rfl, by show 2 ≤ sizeLine; decide, fun m nm => ?_⟩
        have sm := same_upd (o := .tup [.int 0, .int 1]) nm
        refine ⟨_, rfl, m, 0, n, rfl, fx_lit upd_same rfl rfl, hn9, fun H38 t38 s38 V38 => ?_⟩
        have s3438 := s35.trans (s36.trans (sm.trans s38))
        refine ⟨_, _, dpv (VA34.same s3438), dpv V38, shv _ _, shv _ _, ?_⟩
        refine ⟨_, _, .bl _, .bl _, rfl, rfl, _, rfl, ?_⟩
        rw [eqvbb, eqvv, all_rep la, beq_self_eq_true]
        refine iteF ?_
        have s038 := s034.trans s3438
        have eD38 := s3438 _ _ eD34
        have eg38 := s3438 _ _ eg34
        have R38 := R34.same s3438
        -- parameter
        refine ⟨_, rfl, n, rfl, by omega, by omega, for_range (n := n) (fun j σ' H' => Same H38 H' ∧ ∃ v11 : Option V, σ' = [some (.ref S), some (.int (0 + (i : Int))), some (.int dr), some (.int (n : Int)), some (.ref ta), some (.ref tb), some (.ref tf), some (.ref D), some (.ref g), some (.ref td), some (.ref tt), v11, none]) ?_ ?_ ?_⟩
        · exact ⟨Same.refl _, v11, rfl⟩
        · rintro j σ' H39 hj ⟨s39, v11, rfl⟩
          have hj0 : (0 : Int) + (j : Int) = (j : Int) := by omega
          have hj2 : j < vs.length := by omega
          have gv : (fr vs)[j]? = some (.ref vs[j].1) := by
            rw [show fr vs = vs.map fun w => V.ref w.1 from rfl, List.getElem?_map, List.getElem?_eq_getElem hj2]
            rfl
          have ax : atI (fr vs) ((0 : Int) + (j : Int)) = some (V.ref vs[j].1) := by
            rw [hj0]
            exact atI_nat gv
          refine ⟨_, rfl, _, rfl, j, n, by rw [hj0]; rfl, hn9, fun H40 t40 s40 V40 => ?_⟩
          have s3840 := s39.trans s40
          refine ⟨_, rfl, t40, D, 0, ((List.range n).map fun i => if i = j then 1 else 0), vs, rfl, V40, SqL.of (s3840 _ _ eD38), R38.same s3840, by rw [List.length_map, List.length_range]; omega, by rw [List.length_map, List.length_range]; omega, bd_zero.up (by decide), fun r hr => ?_, bvs2, fun H41 t41 s41 f41 => ?_⟩
          · obtain ⟨i, _, rfl⟩ := List.mem_map.mp hr
            by_cases e : i = j
            · rw [if_pos e]
              exact bd_one.up (by decide)
            · rw [if_neg e]
              exact bd_zero.up (by decide)
          have s3841 := s3840.trans s41
          have gr : (vs.map (·.2))[j]? = some vs[j].2 := by
            rw [List.getElem?_map, List.getElem?_eq_getElem hj2]
            rfl
          have su := ind_sum (vs.map (·.2)) j (fun i => if i = j then (1 : Rat) else 0) (fun i h => if_neg h) (if_pos rfl) vs[j].2 gr
          rw [List.length_map, lv] at su
          rw [su, Rat.zero_add] at f41
          refine ⟨.ref g, rfl, _, rfl, g, _, _, _, rfl, rfl, SqL.of (s3841 _ _ eg38), ax, ?_⟩
          refine ⟨_, _, dpr f41, dpr ((R38.same s3841) _ (List.getElem_mem hj2)), sh1 _, sh1 _, _, rfl, ?_⟩
          rw [eqvr_self]
          refine iteF ?_
          refine ⟨_, rfl, _, rfl, j, n, by rw [hj0]; rfl, hn9, fun H42 t42 s42 V42 => ?_⟩
          obtain ⟨p', q', ws', hT', hp', hq', rx', em'⟩ := V42
          have gw : (ws'.map (·.2))[j]? = some 1 := by
            rw [em', List.getElem?_map, List.getElem?_range (by omega)]
            show some (if j = j then (1 : Rat) else 0) = some 1
            rw [if_pos rfl]
          obtain ⟨t', at', mm'⟩ := fr_at gw
          have ax' : atI (fr ws') ((0 : Int) + (j : Int)) = some (V.ref t') := by
            rw [hj0]
            exact atI_nat at'
          refine ⟨t42, _, 1, _, rfl, rfl, hT', atI_nat (j := 1) rfl, _, rfl, q', _, _, _, rfl, rfl, hq', ax', ?_⟩
          refine ⟨by show 2 ≤ sizeLine; decide, fun m43 n43 => ?_⟩
          have s43 := same_upd (o := .tup [.int 1, .int 1]) n43
          refine ⟨_, _, dpr ((rx' _ mm').same s43), dpr (r := 1) (fx_lit upd_same rfl rfl), sh1 _, sh1 _, _, rfl, ?_⟩
          rw [eqvr_self]
          exact iteF ⟨s3841.trans (s42.trans s43), _, rfl⟩
        · rintro σ' H39 ⟨s39, v11, rfl⟩
          exact ⟨s038.trans s39, _, _, _, _, _, _, _, _, _, _, _, rfl⟩
      · rintro σ' H' ⟨_, h⟩
        exact h
    rintro σ' H' ⟨v1, v2, v3, v4, v5, v6, v7, v8, v9, v10, v11, rfl⟩
    exact fin _
end
theorem all_mk {l : PySem.W.OpenLaw} {w : World} {K : PySem.W.Frag} {h : Heap} {mg : Str → Option Value} {fa f1 f2 f3 f4 f5 f6 f7 f8 f9 f10 f11 f12 f13 f14 f15 f16 f17 f18 f19 f20 f21 f22 aZERO aONE CPartError CNought T1 : Addr} (X : K.In h) (G : h.Ns mainGlobals mg) (hfa : mg "law" = some (.ref fa))
    {od1 an1 od2 an2 od3 an3 od4 an4 od5 an5 od6 an6 od7 an7 od8 an8 od9 an9 od10 an10 od11 an11 od12 an12 od13 an13 od14 an14 od15 an15 od16 an16 od17 an17 od18 an18 od19 an19 od20 an20 od21 an21 od22 an22 : Option Addr} {sl1 sl2 sl3 sl4 sl5 sl6 sl7 sl8 sl9 sl10 sl11 sl12 sl13 sl14 sl15 sl16 sl17 sl18 sl19 sl20 sl21 sl22 : Array (Option Value)} {oc1 kV1 dc1 pm1 cd1 ct1 oc2 kV2 dc2 pm2 cd2 ct2 oc3 kV3 dc3 pm3 cd3 ct3 oc4 kV4 dc4 pm4 cd4 ct4 oc5 kV5 dc5 pm5 cd5 ct5 oc6 kV6 dc6 pm6 cd6 ct6 oc7 kV7 dc7 pm7 cd7 ct7 oc8 kV8 dc8 pm8 cd8 ct8 oc9 kV9 dc9 pm9 cd9 ct9 oc10 kV10 dc10 pm10 cd10 ct10 oc11 kV11 dc11 pm11 cd11 ct11 oc12 kV12 dc12 pm12 cd12 ct12 oc13 kV13 dc13 pm13 cd13 ct13 oc14 kV14 dc14 pm14 cd14 ct14 oc15 kV15 dc15 pm15 cd15 ct15 oc16 kV16 dc16 pm16 cd16 ct16 oc17 kV17 dc17 pm17 cd17 ct17 oc18 kV18 dc18 pm18 cd18 ct18 oc19 kV19 dc19 pm19 cd19 ct19 oc20 kV20 dc20 pm20 cd20 ct20 oc21 kV21 dc21 pm21 cd21 ct21 oc22 kV22 dc22 pm22 cd22 ct22 : Value}
    (a1 : PySem.W.nsIn K mainGlobals "fraction" = some (some (.ref f1))) (l1 : K.lookup f1 = some ⟨oc1, od1, .func (PySem.W.fnOf "fraction" "fraction" (defArgs sFraction) (defBody sFraction) (defScope sFraction) (.ref T1) kV1 dc1 pm1 an1 cd1 ct1), sl1⟩) {ocT1 : Value} {odT1 : Option Addr} {slT1 : Array (Option Value)} {nT1 : Nat} {tT1 : Tok} (lT1 : K.lookup T1 = some ⟨ocT1, odT1, .seq #[.int 1 tT1] nT1, slT1⟩) (c1 : PySem.W.codeIn K cd1 "fraction" = true) (k1 : PySem.W.keepIn K (.ref f1) = true)
    (a2 : PySem.W.nsIn K mainGlobals "plus" = some (some (.ref f2))) (l2 : K.lookup f2 = some ⟨oc2, od2, .func (PySem.W.fnOf "plus" "plus" (defArgs sPlus) (defBody sPlus) (defScope sPlus) .none kV2 dc2 pm2 an2 cd2 ct2), sl2⟩) (c2 : PySem.W.codeIn K cd2 "plus" = true) (k2 : PySem.W.keepIn K (.ref f2) = true)
    (a3 : PySem.W.nsIn K mainGlobals "minus" = some (some (.ref f3))) (l3 : K.lookup f3 = some ⟨oc3, od3, .func (PySem.W.fnOf "minus" "minus" (defArgs sMinus) (defBody sMinus) (defScope sMinus) .none kV3 dc3 pm3 an3 cd3 ct3), sl3⟩) (c3 : PySem.W.codeIn K cd3 "minus" = true) (k3 : PySem.W.keepIn K (.ref f3) = true)
    (a4 : PySem.W.nsIn K mainGlobals "times" = some (some (.ref f4))) (l4 : K.lookup f4 = some ⟨oc4, od4, .func (PySem.W.fnOf "times" "times" (defArgs sTimes) (defBody sTimes) (defScope sTimes) .none kV4 dc4 pm4 an4 cd4 ct4), sl4⟩) (c4 : PySem.W.codeIn K cd4 "times" = true) (k4 : PySem.W.keepIn K (.ref f4) = true)
    (a5 : PySem.W.nsIn K mainGlobals "negative" = some (some (.ref f5))) (l5 : K.lookup f5 = some ⟨oc5, od5, .func (PySem.W.fnOf "negative" "negative" (defArgs sNegative) (defBody sNegative) (defScope sNegative) .none kV5 dc5 pm5 an5 cd5 ct5), sl5⟩) (c5 : PySem.W.codeIn K cd5 "negative" = true) (k5 : PySem.W.keepIn K (.ref f5) = true)
    (a6 : PySem.W.nsIn K mainGlobals "total" = some (some (.ref f6))) (l6 : K.lookup f6 = some ⟨oc6, od6, .func (PySem.W.fnOf "total" "total" (defArgs sTotal) (defBody sTotal) (defScope sTotal) .none kV6 dc6 pm6 an6 cd6 ct6), sl6⟩) (c6 : PySem.W.codeIn K cd6 "total" = true) (k6 : PySem.W.keepIn K (.ref f6) = true)
    (a7 : PySem.W.nsIn K mainGlobals "constant" = some (some (.ref f7))) (l7 : K.lookup f7 = some ⟨oc7, od7, .func (PySem.W.fnOf "constant" "constant" (defArgs sConstant) (defBody sConstant) (defScope sConstant) .none kV7 dc7 pm7 an7 cd7 ct7), sl7⟩) (c7 : PySem.W.codeIn K cd7 "constant" = true) (k7 : PySem.W.keepIn K (.ref f7) = true)
    (a8 : PySem.W.nsIn K mainGlobals "parameter" = some (some (.ref f8))) (l8 : K.lookup f8 = some ⟨oc8, od8, .func (PySem.W.fnOf "parameter" "parameter" (defArgs sParameter) (defBody sParameter) (defScope sParameter) .none kV8 dc8 pm8 an8 cd8 ct8), sl8⟩) (c8 : PySem.W.codeIn K cd8 "parameter" = true) (k8 : PySem.W.keepIn K (.ref f8) = true)
    (a9 : PySem.W.nsIn K mainGlobals "add" = some (some (.ref f9))) (l9 : K.lookup f9 = some ⟨oc9, od9, .func (PySem.W.fnOf "add" "add" (defArgs sAdd) (defBody sAdd) (defScope sAdd) .none kV9 dc9 pm9 an9 cd9 ct9), sl9⟩) (c9 : PySem.W.codeIn K cd9 "add" = true) (k9 : PySem.W.keepIn K (.ref f9) = true)
    (a10 : PySem.W.nsIn K mainGlobals "subtract" = some (some (.ref f10))) (l10 : K.lookup f10 = some ⟨oc10, od10, .func (PySem.W.fnOf "subtract" "subtract" (defArgs sSubtract) (defBody sSubtract) (defScope sSubtract) .none kV10 dc10 pm10 an10 cd10 ct10), sl10⟩) (c10 : PySem.W.codeIn K cd10 "subtract" = true) (k10 : PySem.W.keepIn K (.ref f10) = true)
    (a11 : PySem.W.nsIn K mainGlobals "scale" = some (some (.ref f11))) (l11 : K.lookup f11 = some ⟨oc11, od11, .func (PySem.W.fnOf "scale" "scale" (defArgs sScale) (defBody sScale) (defScope sScale) .none kV11 dc11 pm11 an11 cd11 ct11), sl11⟩) (c11 : PySem.W.codeIn K cd11 "scale" = true) (k11 : PySem.W.keepIn K (.ref f11) = true)
    (a12 : PySem.W.nsIn K mainGlobals "opposite" = some (some (.ref f12))) (l12 : K.lookup f12 = some ⟨oc12, od12, .func (PySem.W.fnOf "opposite" "opposite" (defArgs sOpposite) (defBody sOpposite) (defScope sOpposite) .none kV12 dc12 pm12 an12 cd12 ct12), sl12⟩) (c12 : PySem.W.codeIn K cd12 "opposite" = true) (k12 : PySem.W.keepIn K (.ref f12) = true)
    (a13 : PySem.W.nsIn K mainGlobals "is_nought" = some (some (.ref f13))) (l13 : K.lookup f13 = some ⟨oc13, od13, .func (PySem.W.fnOf "is_nought" "is_nought" (defArgs sIsNought) (defBody sIsNought) (defScope sIsNought) .none kV13 dc13 pm13 an13 cd13 ct13), sl13⟩) (c13 : PySem.W.codeIn K cd13 "is_nought" = true) (k13 : PySem.W.keepIn K (.ref f13) = true)
    (a14 : PySem.W.nsIn K mainGlobals "value" = some (some (.ref f14))) (l14 : K.lookup f14 = some ⟨oc14, od14, .func (PySem.W.fnOf "value" "value" (defArgs sValue) (defBody sValue) (defScope sValue) .none kV14 dc14 pm14 an14 cd14 ct14), sl14⟩) (c14 : PySem.W.codeIn K cd14 "value" = true) (k14 : PySem.W.keepIn K (.ref f14) = true)
    (a15 : PySem.W.nsIn K mainGlobals "_law_number" = some (some (.ref f15))) (l15 : K.lookup f15 = some ⟨oc15, od15, .func (PySem.W.fnOf "_law_number" "_law_number" (defArgs sLLawNumber) (defBody sLLawNumber) (defScope sLLawNumber) .none kV15 dc15 pm15 an15 cd15 ct15), sl15⟩) (c15 : PySem.W.codeIn K cd15 "_law_number" = true) (k15 : PySem.W.keepIn K (.ref f15) = true)
    (a16 : PySem.W.nsIn K mainGlobals "_law_fraction" = some (some (.ref f16))) (l16 : K.lookup f16 = some ⟨oc16, od16, .func (PySem.W.fnOf "_law_fraction" "_law_fraction" (defArgs sLLawFraction) (defBody sLLawFraction) (defScope sLLawFraction) .none kV16 dc16 pm16 an16 cd16 ct16), sl16⟩) (c16 : PySem.W.codeIn K cd16 "_law_fraction" = true) (k16 : PySem.W.keepIn K (.ref f16) = true)
    (a17 : PySem.W.nsIn K mainGlobals "_law_small" = some (some (.ref f17))) (l17 : K.lookup f17 = some ⟨oc17, od17, .func (PySem.W.fnOf "_law_small" "_law_small" (defArgs sLLawSmall) (defBody sLLawSmall) (defScope sLLawSmall) .none kV17 dc17 pm17 an17 cd17 ct17), sl17⟩) (c17 : PySem.W.codeIn K cd17 "_law_small" = true) (k17 : PySem.W.keepIn K (.ref f17) = true)
    (a18 : PySem.W.nsIn K mainGlobals "_law_plus" = some (some (.ref f18))) (l18 : K.lookup f18 = some ⟨oc18, od18, .func (PySem.W.fnOf "_law_plus" "_law_plus" (defArgs sLLawPlus) (defBody sLLawPlus) (defScope sLLawPlus) .none kV18 dc18 pm18 an18 cd18 ct18), sl18⟩) (c18 : PySem.W.codeIn K cd18 "_law_plus" = true) (k18 : PySem.W.keepIn K (.ref f18) = true)
    (a19 : PySem.W.nsIn K mainGlobals "_law_times" = some (some (.ref f19))) (l19 : K.lookup f19 = some ⟨oc19, od19, .func (PySem.W.fnOf "_law_times" "_law_times" (defArgs sLLawTimes) (defBody sLLawTimes) (defScope sLLawTimes) .none kV19 dc19 pm19 an19 cd19 ct19), sl19⟩) (c19 : PySem.W.codeIn K cd19 "_law_times" = true) (k19 : PySem.W.keepIn K (.ref f19) = true)
    (a20 : PySem.W.nsIn K mainGlobals "_law_value" = some (some (.ref f20))) (l20 : K.lookup f20 = some ⟨oc20, od20, .func (PySem.W.fnOf "_law_value" "_law_value" (defArgs sLLawValue) (defBody sLLawValue) (defScope sLLawValue) .none kV20 dc20 pm20 an20 cd20 ct20), sl20⟩) (c20 : PySem.W.codeIn K cd20 "_law_value" = true) (k20 : PySem.W.keepIn K (.ref f20) = true)
    (a21 : PySem.W.nsIn K mainGlobals "_law_at" = some (some (.ref f21))) (l21 : K.lookup f21 = some ⟨oc21, od21, .func (PySem.W.fnOf "_law_at" "_law_at" (defArgs sLLawAt) (defBody sLLawAt) (defScope sLLawAt) .none kV21 dc21 pm21 an21 cd21 ct21), sl21⟩) (c21 : PySem.W.codeIn K cd21 "_law_at" = true) (k21 : PySem.W.keepIn K (.ref f21) = true)
    (a22 : PySem.W.nsIn K mainGlobals "law" = some (some (.ref f22))) (l22 : K.lookup f22 = some ⟨oc22, od22, .func (PySem.W.fnOf "law" "law" (defArgs sLaw) (defBody sLaw) (defScope sLaw) .none kV22 dc22 pm22 an22 cd22 ct22), sl22⟩) (c22 : PySem.W.codeIn K cd22 "law" = true) (k22 : PySem.W.keepIn K (.ref f22) = true)
    (z1 : PySem.W.nsIn K mainGlobals "all" = some none)
    (z2 : PySem.W.nsIn K mainGlobals "bool" = some none)
    (z3 : PySem.W.nsIn K mainGlobals "int" = some none)
    (z4 : PySem.W.nsIn K mainGlobals "isinstance" = some none)
    (z5 : PySem.W.nsIn K mainGlobals "len" = some none)
    (z6 : PySem.W.nsIn K mainGlobals "list" = some none)
    (z7 : PySem.W.nsIn K mainGlobals "range" = some none)
    (z8 : PySem.W.nsIn K mainGlobals "str" = some none)
    (z9 : PySem.W.nsIn K mainGlobals "tuple" = some none)
    (z10 : PySem.W.nsIn K mainGlobals "zip" = some none)
    (z11 : PySem.W.nsIn K mainGlobals "gcd" = some (some (.builtin "math.gcd")))
    (u0 : PySem.W.nsIn K mainGlobals "ZERO" = some (some (.ref aZERO))) {dw0 : Option Addr} {nw0 : Nat} {sw0 : Array (Option Value)} {tk0_0 tk0_1 : Tok} (w0 : K.lookup aZERO = some ⟨.type "tuple", dw0, .seq #[.int 0 tk0_0, .int 1 tk0_1] nw0, sw0⟩)
    (u1 : PySem.W.nsIn K mainGlobals "ONE" = some (some (.ref aONE))) {dw1 : Option Addr} {nw1 : Nat} {sw1 : Array (Option Value)} {tk1_0 tk1_1 : Tok} (w1 : K.lookup aONE = some ⟨.type "tuple", dw1, .seq #[.int 1 tk1_0, .int 1 tk1_1] nw1, sw1⟩)
    (y0 : PySem.W.nsIn K mainGlobals "PartError" = some (some (.ref CPartError)))
    (y1 : PySem.W.nsIn K mainGlobals "Nought" = some (some (.ref CNought)))
    (y2 : PySem.W.excIn K CNought [.type "ValueError", .type "Exception", .type "BaseException", .type "object"] "ValueError.__new__" = true)
    (y3 : PySem.W.keepIn K (.ref CNought) = true)
    (y4 : PySem.W.subIn K (.ref CNought) (.type "BaseException") = some true)
    (y5 : PySem.W.typeIn K (.ref CNought) = some (.type "type"))
    (y6 : PySem.W.subIn K (.ref CPartError) (.type "BaseException") = some true)
    (y7 : PySem.W.isClsIn K CPartError = true)
    (y8 : PySem.W.typeIn K (.ref CPartError) = some (.type "type"))
    (y9 : PySem.W.subIn K (.ref CNought) (.ref CPartError) = some true)
    (y10 : PySem.W.subIn K (.ref CNought) (.ref CNought) = some true)
    (y11 : PySem.W.findIn K (.ref CNought) "__getattribute__" = some (some (.builtin "BaseException.__getattribute__")))
    (y12 : PySem.W.findIn K (.ref CNought) "__getattr__" = some none)
    (y13 : PySem.W.hasDictIn K CNought = true)
    (y14 : PySem.W.findIn K (.ref CNought) "__class__" = some (some (.builtin "object.__class__")))
    (y15 : PySem.W.specialIn K (.builtin "object.__class__") "__get__" = some (some (.builtin "getset_descriptor.__get__")))
    (y16 : PySem.W.takesIn K (.builtin "object.__class__") = some true)
    (y17 : PySem.W.mroIn K CNought (.type "object") = some true)
    : ∃ fd : FuncData, (∀ (s : Shared) (v : Value), BindsTo s fd ⟨[v], []⟩ [("script", v)]) ∧ ∀ base : Heap, K.In base → base.Ns mainGlobals mg → FnOk l.prog w K mg base CX0 5 fa fd ["script"] (spLaw K) := by
  have e := hfa.symm.trans (PySem.W.mg_of X G a22)
  cases e
  have T : Txt mg := ⟨PySem.W.mg_none_of X G z1, PySem.W.mg_none_of X G z2, PySem.W.mg_none_of X G z3, PySem.W.mg_none_of X G z4, PySem.W.mg_none_of X G z5, PySem.W.mg_none_of X G z6, PySem.W.mg_none_of X G z7, PySem.W.mg_none_of X G z8, PySem.W.mg_none_of X G z9, PySem.W.mg_none_of X G z10, PySem.W.mg_of X G z11⟩
  have CT : Cons K mg aZERO aONE := ⟨PySem.W.mg_of X G u0, fun H => .inr ⟨_, _, _, w0, rfl, rfl, by show 2 ≤ sizeLine; decide, (.cons ⟨_, rfl⟩ (.cons ⟨_, rfl⟩ .nil))⟩, PySem.W.mg_of X G u1, fun H => .inr ⟨_, _, _, w1, rfl, rfl, by show 2 ≤ sizeLine; decide, (.cons ⟨_, rfl⟩ (.cons ⟨_, rfl⟩ .nil))⟩⟩
  have EX : Exns K mg CPartError CNought := ⟨PySem.W.mg_of X G y0, PySem.W.mg_of X G y1, y2, y3, y4, y5, y6, y7, y8, y9, y10, y11, y12, y13, y14, y15, y16, y17⟩
  have F1 : FunD K "fraction" "fraction" (defArgs sFraction) (defBody sFraction) (defScope sFraction) [.int 1] [] f1 _ := ⟨⟨oc1, od1, .ref T1, kV1, dc1, pm1, an1, cd1, ct1, sl1, rfl, l1, c1, .inr ⟨by decide, T1, _, [.int 1 tT1], nT1, rfl, lT1, rfl, .cons ⟨_, rfl⟩ .nil⟩, .inl rfl⟩, k1⟩
  have F2 := fun_mk (st := sPlus) l2 c2 k2
  have F3 := fun_mk (st := sMinus) l3 c3 k3
  have F4 := fun_mk (st := sTimes) l4 c4 k4
  have F5 := fun_mk (st := sNegative) l5 c5 k5
  have F6 := fun_mk (st := sTotal) l6 c6 k6
  have F7 := fun_mk (st := sConstant) l7 c7 k7
  have F8 := fun_mk (st := sParameter) l8 c8 k8
  have F9 := fun_mk (st := sAdd) l9 c9 k9
  have F10 := fun_mk (st := sSubtract) l10 c10 k10
  have F11 := fun_mk (st := sScale) l11 c11 k11
  have F12 := fun_mk (st := sOpposite) l12 c12 k12
  have F13 := fun_mk (st := sIsNought) l13 c13 k13
  have F14 := fun_mk (st := sValue) l14 c14 k14
  have F15 := fun_mk (st := sLLawNumber) l15 c15 k15
  have F16 := fun_mk (st := sLLawFraction) l16 c16 k16
  have F17 := fun_mk (st := sLLawSmall) l17 c17 k17
  have F18 := fun_mk (st := sLLawPlus) l18 c18 k18
  have F19 := fun_mk (st := sLLawTimes) l19 c19 k19
  have F20 := fun_mk (st := sLLawValue) l20 c20 k20
  have F21 := fun_mk (st := sLLawAt) l21 c21 k21
  have F22 := fun_mk (st := sLaw) l22 c22 k22
  obtain ⟨e1, ve1, b1⟩ := F1.binds1 (ps := ["number", "divisor"]) 2 1 (by decide) rfl (fun T kV doc pm an cdv ct us its hu hi => match us, its, hu, hi with | [_, _], [_], _, _ => ⟨_, rfl, by kernel_rfl⟩)
  cases ve1
  obtain ⟨d1, vd1, bd1⟩ := F1.binds1 (ps := ["number", "divisor"]) 1 0 (by decide) rfl (fun T kV doc pm an cdv ct us its hu hi => match us, its, hu, hi with | [_], [_], _, _ => ⟨_, rfl, by kernel_rfl⟩)
  have b2 := F2.binds (ps := ["a", "b"]) fun _ _ _ _ _ _ us hl => match us, hl with | [_, _], _ => rfl
  have b3 := F3.binds (ps := ["a", "b"]) fun _ _ _ _ _ _ us hl => match us, hl with | [_, _], _ => rfl
  have b4 := F4.binds (ps := ["a", "b"]) fun _ _ _ _ _ _ us hl => match us, hl with | [_, _], _ => rfl
  have b5 := F5.binds (ps := ["a"]) fun _ _ _ _ _ _ us hl => match us, hl with | [_], _ => rfl
  have b6 := F6.binds (ps := ["row"]) fun _ _ _ _ _ _ us hl => match us, hl with | [_], _ => rfl
  have b7 := F7.binds (ps := ["base", "many"]) fun _ _ _ _ _ _ us hl => match us, hl with | [_, _], _ => rfl
  have b8 := F8.binds (ps := ["at", "many"]) fun _ _ _ _ _ _ us hl => match us, hl with | [_, _], _ => rfl
  have b9 := F9.binds (ps := ["a", "b"]) fun _ _ _ _ _ _ us hl => match us, hl with | [_, _], _ => rfl
  have b10 := F10.binds (ps := ["a", "b"]) fun _ _ _ _ _ _ us hl => match us, hl with | [_, _], _ => rfl
  have b11 := F11.binds (ps := ["factor", "a"]) fun _ _ _ _ _ _ us hl => match us, hl with | [_, _], _ => rfl
  have b12 := F12.binds (ps := ["a"]) fun _ _ _ _ _ _ us hl => match us, hl with | [_], _ => rfl
  have b13 := F13.binds (ps := ["a"]) fun _ _ _ _ _ _ us hl => match us, hl with | [_], _ => rfl
  have b14 := F14.binds (ps := ["a", "setting"]) fun _ _ _ _ _ _ us hl => match us, hl with | [_, _], _ => rfl
  have b15 := F15.binds (ps := ["script", "k"]) fun _ _ _ _ _ _ us hl => match us, hl with | [_, _], _ => rfl
  have b16 := F16.binds (ps := ["number", "divisor"]) fun _ _ _ _ _ _ us hl => match us, hl with | [_, _], _ => rfl
  have b17 := F17.binds (ps := ["draw"]) fun _ _ _ _ _ _ us hl => match us, hl with | [_], _ => rfl
  have b18 := F18.binds (ps := ["a", "b"]) fun _ _ _ _ _ _ us hl => match us, hl with | [_, _], _ => rfl
  have b19 := F19.binds (ps := ["a", "b"]) fun _ _ _ _ _ _ us hl => match us, hl with | [_, _], _ => rfl
  have b20 := F20.binds (ps := ["draw", "many"]) fun _ _ _ _ _ _ us hl => match us, hl with | [_, _], _ => rfl
  have b21 := F21.binds (ps := ["found", "setting"]) fun _ _ _ _ _ _ us hl => match us, hl with | [_, _], _ => rfl
  refine ⟨PySem.W.fnOf "law" "law" (defArgs sLaw) (defBody sLaw) (defScope sLaw) .none kV22 dc22 pm22 an22 cd22 ct22, fun s v => .of_eq rfl, fun base _ _ => ?_⟩
  have G1 : FnOk l.prog w K mg base (L2.CX l.prog w) 1 f1 _ ["number", "divisor"] (spFraction K CNought) := okFraction F1 T CT EX 
  have G2 : FnOk l.prog w K mg base CX0 2 f2 _ ["a", "b"] (spPlus K) := okPlus F2 T CT EX G1 (PySem.W.mg_of X G a1) k1 b1 vd1 bd1
  have G3 : FnOk l.prog w K mg base CX0 2 f3 _ ["a", "b"] (spMinus K) := okMinus F3 T CT EX G1 (PySem.W.mg_of X G a1) k1 b1 vd1 bd1
  have G4 : FnOk l.prog w K mg base CX0 2 f4 _ ["a", "b"] (spTimes K) := okTimes F4 T CT EX G1 (PySem.W.mg_of X G a1) k1 b1 vd1 bd1
  have G5 : FnOk l.prog w K mg base CX0 1 f5 _ ["a"] (spNegative K) := okNegative F5 T CT EX 
  have G6 : FnOk l.prog w K mg base CX0 3 f6 _ ["row"] (spTotal K) := okTotal F6 T CT EX G2 (PySem.W.mg_of X G a2) k2 b2
  have G7 : FnOk l.prog w K mg base CX0 1 f7 _ ["base", "many"] (spConstant K) := okConstant F7 T CT EX 
  have G8 : FnOk l.prog w K mg base CX0 1 f8 _ ["at", "many"] (spParameter K) := okParameter F8 T CT EX 
  have G9 : FnOk l.prog w K mg base CX0 3 f9 _ ["a", "b"] (spAdd K) := okAdd F9 T CT EX G2 (PySem.W.mg_of X G a2) k2 b2
  have G10 : FnOk l.prog w K mg base CX0 3 f10 _ ["a", "b"] (spSubtract K) := okSubtract F10 T CT EX G3 (PySem.W.mg_of X G a3) k3 b3
  have G11 : FnOk l.prog w K mg base CX0 3 f11 _ ["factor", "a"] (spScale K) := okScale F11 T CT EX G4 (PySem.W.mg_of X G a4) k4 b4
  have G12 : FnOk l.prog w K mg base CX0 2 f12 _ ["a"] (spOpposite K) := okOpposite F12 T CT EX G5 (PySem.W.mg_of X G a5) k5 b5
  have G13 : FnOk l.prog w K mg base CX0 1 f13 _ ["a"] (spIsNought K) := okIsNought F13 T CT EX 
  have G14 : FnOk l.prog w K mg base CX0 4 f14 _ ["a", "setting"] (spValue K) := okValue F14 T CT EX G2 (PySem.W.mg_of X G a2) k2 b2 G6 (PySem.W.mg_of X G a6) k6 b6 G4 (PySem.W.mg_of X G a4) k4 b4
  have G15 : FnOk l.prog w K mg base CX0 1 f15 _ ["script", "k"] (spLLawNumber K) := okLLawNumber F15 T CT EX 
  have G16 : FnOk l.prog w K mg base CX0 1 f16 _ ["number", "divisor"] (spLLawFraction K) := okLLawFraction F16 T CT EX 
  have G17 : FnOk l.prog w K mg base CX0 2 f17 _ ["draw"] (spLLawSmall K) := okLLawSmall F17 T CT EX G16 (PySem.W.mg_of X G a16) k16 b16
  have G18 : FnOk l.prog w K mg base CX0 2 f18 _ ["a", "b"] (spLLawPlus K) := okLLawPlus F18 T CT EX G16 (PySem.W.mg_of X G a16) k16 b16
  have G19 : FnOk l.prog w K mg base CX0 2 f19 _ ["a", "b"] (spLLawTimes K) := okLLawTimes F19 T CT EX G16 (PySem.W.mg_of X G a16) k16 b16
  have G20 : FnOk l.prog w K mg base CX0 3 f20 _ ["draw", "many"] (spLLawValue K) := okLLawValue F20 T CT EX G17 (PySem.W.mg_of X G a17) k17 b17
  have G21 : FnOk l.prog w K mg base CX0 3 f21 _ ["found", "setting"] (spLLawAt K) := okLLawAt F21 T CT EX G18 (PySem.W.mg_of X G a18) k18 b18 G19 (PySem.W.mg_of X G a19) k19 b19
  exact okLaw F22 T CT EX G15 (PySem.W.mg_of X G a15) k15 b15 G20 (PySem.W.mg_of X G a20) k20 b20 G17 (PySem.W.mg_of X G a17) k17 b17 G18 (PySem.W.mg_of X G a18) k18 b18 G19 (PySem.W.mg_of X G a19) k19 b19 G10 (PySem.W.mg_of X G a10) k10 b10 G9 (PySem.W.mg_of X G a9) k9 b9 G11 (PySem.W.mg_of X G a11) k11 b11 G14 (PySem.W.mg_of X G a14) k14 b14 G7 (PySem.W.mg_of X G a7) k7 b7 G12 (PySem.W.mg_of X G a12) k12 b12 G21 (PySem.W.mg_of X G a21) k21 b21 G13 (PySem.W.mg_of X G a13) k13 b13 G8 (PySem.W.mg_of X G a8) k8 b8
end Tp
open PySem PySem.W PyProof.Rows
set_option maxHeartbeats 0 in
theorem PySem.Challenge.cw_truepart_k04_values_along_parameters_holds : PySem.Challenge.rw_truepart_k04_values_along_parameters.Holds := by
  w_on; o_law; k_head; (case hw => w_witness2)
  k_fill
  refine L2.walk_of (l := PySem.Challenge.rw_truepart_k04_values_along_parameters) (n := 63) (k := 5) (x := "script") (CX := fun _ => L2.CX0) (sp := fun w => Tp.spLaw _) rfl (by decide) rfl ⟨rfl, by decide, by decide⟩ (fun w h Y => PySem.W.kIn_of Y) ?F (fun _ _ a ns hl _ hS => ⟨a, ns, rfl, hS, hl, fun _ => rfl⟩) (fun _ _ _ _ _ h => h)
  case F =>
    intro w mg fa h KX G hmg
    refine' Tp.all_mk KX G hmg ?a1 ?l1 ?lT1 ?c1 ?k1 ?a2 ?l2 ?c2 ?k2 ?a3 ?l3 ?c3 ?k3 ?a4 ?l4 ?c4 ?k4 ?a5 ?l5 ?c5 ?k5 ?a6 ?l6 ?c6 ?k6 ?a7 ?l7 ?c7 ?k7 ?a8 ?l8 ?c8 ?k8 ?a9 ?l9 ?c9 ?k9 ?a10 ?l10 ?c10 ?k10 ?a11 ?l11 ?c11 ?k11 ?a12 ?l12 ?c12 ?k12 ?a13 ?l13 ?c13 ?k13 ?a14 ?l14 ?c14 ?k14 ?a15 ?l15 ?c15 ?k15 ?a16 ?l16 ?c16 ?k16 ?a17 ?l17 ?c17 ?k17 ?a18 ?l18 ?c18 ?k18 ?a19 ?l19 ?c19 ?k19 ?a20 ?l20 ?c20 ?k20 ?a21 ?l21 ?c21 ?k21 ?a22 ?l22 ?c22 ?k22 ?z1 ?z2 ?z3 ?z4 ?z5 ?z6 ?z7 ?z8 ?z9 ?z10 ?z11 ?u0 ?w0 ?u1 ?w1 ?y0 ?y1 ?y2 ?y3 ?y4 ?y5 ?y6 ?y7 ?y8 ?y9 ?y10 ?y11 ?y12 ?y13 ?y14 ?y15 ?y16 ?y17
    (case a1 => k_is)
    (case l1 => k_is)
    (case lT1 => k_is)
    (case c1 => k_is)
    (case k1 => k_is)
    (case a2 => k_is)
    (case l2 => k_is)
    (case c2 => k_is)
    (case k2 => k_is)
    (case a3 => k_is)
    (case l3 => k_is)
    (case c3 => k_is)
    (case k3 => k_is)
    (case a4 => k_is)
    (case l4 => k_is)
    (case c4 => k_is)
    (case k4 => k_is)
    (case a5 => k_is)
    (case l5 => k_is)
    (case c5 => k_is)
    (case k5 => k_is)
    (case a6 => k_is)
    (case l6 => k_is)
    (case c6 => k_is)
    (case k6 => k_is)
    (case a7 => k_is)
    (case l7 => k_is)
    (case c7 => k_is)
    (case k7 => k_is)
    (case a8 => k_is)
    (case l8 => k_is)
    (case c8 => k_is)
    (case k8 => k_is)
    (case a9 => k_is)
    (case l9 => k_is)
    (case c9 => k_is)
    (case k9 => k_is)
    (case a10 => k_is)
    (case l10 => k_is)
    (case c10 => k_is)
    (case k10 => k_is)
    (case a11 => k_is)
    (case l11 => k_is)
    (case c11 => k_is)
    (case k11 => k_is)
    (case a12 => k_is)
    (case l12 => k_is)
    (case c12 => k_is)
    (case k12 => k_is)
    (case a13 => k_is)
    (case l13 => k_is)
    (case c13 => k_is)
    (case k13 => k_is)
    (case a14 => k_is)
    (case l14 => k_is)
    (case c14 => k_is)
    (case k14 => k_is)
    (case a15 => k_is)
    (case l15 => k_is)
    (case c15 => k_is)
    (case k15 => k_is)
    (case a16 => k_is)
    (case l16 => k_is)
    (case c16 => k_is)
    (case k16 => k_is)
    (case a17 => k_is)
    (case l17 => k_is)
    (case c17 => k_is)
    (case k17 => k_is)
    (case a18 => k_is)
    (case l18 => k_is)
    (case c18 => k_is)
    (case k18 => k_is)
    (case a19 => k_is)
    (case l19 => k_is)
    (case c19 => k_is)
    (case k19 => k_is)
    (case a20 => k_is)
    (case l20 => k_is)
    (case c20 => k_is)
    (case k20 => k_is)
    (case a21 => k_is)
    (case l21 => k_is)
    (case c21 => k_is)
    (case k21 => k_is)
    (case a22 => k_is)
    (case l22 => k_is)
    (case c22 => k_is)
    (case k22 => k_is)
    (case z1 => k_is)
    (case z2 => k_is)
    (case z3 => k_is)
    (case z4 => k_is)
    (case z5 => k_is)
    (case z6 => k_is)
    (case z7 => k_is)
    (case z8 => k_is)
    (case z9 => k_is)
    (case z10 => k_is)
    (case z11 => k_is)
    (case u0 => k_is)
    (case w0 => k_is)
    (case u1 => k_is)
    (case w1 => k_is)
    (case y0 => k_is)
    (case y1 => k_is)
    (case y2 => k_exc)
    (case y3 => k_is)
    (case y4 => k_is)
    (case y5 => k_is)
    (case y6 => k_is)
    (case y7 => k_is)
    (case y8 => k_is)
    (case y9 => k_is)
    (case y10 => first | k_is | rfl)
    (case y11 => k_is)
    (case y12 => k_is)
    (case y13 => k_is)
    (case y14 => k_is)
    (case y15 => k_is)
    (case y16 => k_is)
    (case y17 => k_is)
#print axioms PySem.Challenge.cw_truepart_k04_values_along_parameters_holds
