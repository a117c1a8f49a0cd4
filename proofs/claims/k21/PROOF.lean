import PyProof.Rows.All
import Wide.All
import OpenK.AllK
import Wide.FinOn
import HandS.ForMost
import HandS.Codes
import HandS.Gcd
import HandS.IsInst
import HandS.Wide
import HandS.ForExc
import HandS.ExcIs
import HandS.CallSlots
import HandS.Defaults
import PyProof.StrOps2
import PySem.Challenge.RW_truepart_k21_sides_of_points
set_option Elab.async false
set_option linter.all false
set_option maxHeartbeats 8000000
set_option maxRecDepth 100000
namespace Tp
open PySem L2
def top (i : Nat) : Stmt := PySem.Challenge.pw_truepart_k21_sides_of_points.main.body.getD i (.Pass ⟨0, 0, 0, 0⟩)
abbrev sCommon : Stmt := top 5
abbrev sFraction : Stmt := top 6
abbrev sOver : Stmt := top 7
abbrev sSignOf : Stmt := top 9
abbrev sReachRatio : Stmt := top 10
abbrev sReach : Stmt := top 11
abbrev sPrimitive : Stmt := top 13
abbrev sPlaneOf : Stmt := top 14
abbrev sPlane : Stmt := top 16
abbrev sAlong : Stmt := top 17
abbrev sSide : Stmt := top 18
abbrev sSides : Stmt := top 19
abbrev sLLawIsInteger : Stmt := top 21
abbrev sLLawCell : Stmt := top 22
abbrev sLLawRow : Stmt := top 23
abbrev sLLawFraction : Stmt := top 24
abbrev sLLawPlus : Stmt := top 25
abbrev sLLawTimes : Stmt := top 26
abbrev sLLawSign : Stmt := top 27
abbrev sLLawIsFraction : Stmt := top 28
abbrev sLLawAlong : Stmt := top 29
abbrev sLLawSide : Stmt := top 30
abbrev sLLawDirection : Stmt := top 31
abbrev sLLawCommon : Stmt := top 32
abbrev sLLawCanonical : Stmt := top 33
abbrev sLLawPoint : Stmt := top 34
abbrev sLaw : Stmt := top 35
theorem scCommon : FnScope ["a", "b"] ["a", "b"] (defScope sCommon) := ⟨rfl, rfl, rfl, by decide +kernel, rfl, by decide +kernel, by decide +kernel⟩
theorem scFraction : FnScope ["number", "divisor", "shared"] ["number", "divisor"] (defScope sFraction) := ⟨rfl, rfl, rfl, by decide +kernel, rfl, by decide +kernel, by decide +kernel⟩
theorem scOver : FnScope ["a", "b"] ["a", "b"] (defScope sOver) := ⟨rfl, rfl, rfl, by decide +kernel, rfl, by decide +kernel, by decide +kernel⟩
theorem scSignOf : FnScope ["number"] ["number"] (defScope sSignOf) := ⟨rfl, rfl, rfl, by decide +kernel, rfl, by decide +kernel, by decide +kernel⟩
theorem scReachRatio : FnScope ["normal", "point", "x", "under_x", "y", "under_y", "z", "under_z", "number"] ["normal", "point"] (defScope sReachRatio) := ⟨rfl, rfl, rfl, by decide +kernel, rfl, by decide +kernel, by decide +kernel⟩
theorem scReach : FnScope ["normal", "point", "number", "divisor"] ["normal", "point"] (defScope sReach) := ⟨rfl, rfl, rfl, by decide +kernel, rfl, by decide +kernel, by decide +kernel⟩
theorem scPrimitive : FnScope ["a", "divisor", "part"] ["a"] (defScope sPrimitive) := ⟨rfl, rfl, rfl, by decide +kernel, rfl, by decide +kernel, by decide +kernel⟩
theorem scPlaneOf : FnScope ["normal", "offset", "direction", "divisor"] ["normal", "offset"] (defScope sPlaneOf) := ⟨rfl, rfl, rfl, by decide +kernel, rfl, by decide +kernel, by decide +kernel⟩
theorem scPlane : FnScope ["direction", "offset"] ["direction", "offset"] (defScope sPlane) := ⟨rfl, rfl, rfl, by decide +kernel, rfl, by decide +kernel, by decide +kernel⟩
theorem scAlong : FnScope ["direction", "point"] ["direction", "point"] (defScope sAlong) := ⟨rfl, rfl, rfl, by decide +kernel, rfl, by decide +kernel, by decide +kernel⟩
theorem scSide : FnScope ["wall", "point", "normal", "least", "under", "number", "divisor"] ["wall", "point"] (defScope sSide) := ⟨rfl, rfl, rfl, by decide +kernel, rfl, by decide +kernel, by decide +kernel⟩
theorem scSides : FnScope ["walls", "point", "wall"] ["walls", "point"] (defScope sSides) := ⟨rfl, rfl, rfl, by decide +kernel, rfl, by decide +kernel, by decide +kernel⟩
theorem scLLawIsInteger : FnScope ["actual"] ["actual"] (defScope sLLawIsInteger) := ⟨rfl, rfl, rfl, by decide +kernel, rfl, by decide +kernel, by decide +kernel⟩
theorem scLLawCell : FnScope ["script", "k"] ["script", "k"] (defScope sLLawCell) := ⟨rfl, rfl, rfl, by decide +kernel, rfl, by decide +kernel, by decide +kernel⟩
theorem scLLawRow : FnScope ["cell", "size", "base", "row", "number", "k", "mixed"] ["cell", "size", "base"] (defScope sLLawRow) := ⟨rfl, rfl, rfl, by decide +kernel, rfl, by decide +kernel, by decide +kernel⟩
theorem scLLawFraction : FnScope ["number", "divisor", "a", "b", "k"] ["number", "divisor"] (defScope sLLawFraction) := ⟨rfl, rfl, rfl, by decide +kernel, rfl, by decide +kernel, by decide +kernel⟩
theorem scLLawPlus : FnScope ["a", "b"] ["a", "b"] (defScope sLLawPlus) := ⟨rfl, rfl, rfl, by decide +kernel, rfl, by decide +kernel, by decide +kernel⟩
theorem scLLawTimes : FnScope ["a", "b"] ["a", "b"] (defScope sLLawTimes) := ⟨rfl, rfl, rfl, by decide +kernel, rfl, by decide +kernel, by decide +kernel⟩
theorem scLLawSign : FnScope ["number"] ["number"] (defScope sLLawSign) := ⟨rfl, rfl, rfl, by decide +kernel, rfl, by decide +kernel, by decide +kernel⟩
theorem scLLawIsFraction : FnScope ["actual"] ["actual"] (defScope sLLawIsFraction) := ⟨rfl, rfl, rfl, by decide +kernel, rfl, by decide +kernel, by decide +kernel⟩
theorem scLLawAlong : FnScope ["normal", "point", "found", "k"] ["normal", "point"] (defScope sLLawAlong) := ⟨rfl, rfl, rfl, by decide +kernel, rfl, by decide +kernel, by decide +kernel⟩
theorem scLLawSide : FnScope ["wall", "point", "found"] ["wall", "point"] (defScope sLLawSide) := ⟨rfl, rfl, rfl, by decide +kernel, rfl, by decide +kernel, by decide +kernel⟩
theorem scLLawDirection : FnScope ["cell", "most", "row"] ["cell", "most"] (defScope sLLawDirection) := ⟨rfl, rfl, rfl, by decide +kernel, rfl, by decide +kernel, by decide +kernel⟩
theorem scLLawCommon : FnScope ["row", "found", "one", "a", "b", "k"] ["row"] (defScope sLLawCommon) := ⟨rfl, rfl, rfl, by decide +kernel, rfl, by decide +kernel, by decide +kernel⟩
theorem scLLawCanonical : FnScope ["direction", "by", "first", "part"] ["direction"] (defScope sLLawCanonical) := ⟨rfl, rfl, rfl, by decide +kernel, rfl, by decide +kernel, by decide +kernel⟩
theorem scLLawPoint : FnScope ["cell", "row", "k"] ["cell"] (defScope sLLawPoint) := ⟨rfl, rfl, rfl, by decide +kernel, rfl, by decide +kernel, by decide +kernel⟩
theorem scLaw : FnScope ["script", "direction", "point", "draw", "offset", "times", "wall", "length", "due", "found", "longer", "part"] ["script"] (defScope sLaw) := ⟨rfl, rfl, rfl, by decide +kernel, rfl, by decide +kernel, by decide +kernel⟩
structure Txt (mg : Str → Option Value) : Prop where
  abs : mg "abs" = none
  bool : mg "bool" = none
  int : mg "int" = none
  isinstance : mg "isinstance" = none
  len : mg "len" = none
  range : mg "range" = none
  tuple : mg "tuple" = none
  gcd : mg "gcd" = some (.builtin "math.gcd")
section
variable {K : PySem.W.Frag} {C D : Addr} {c : Value} {r : Bool}
theorem exm_two (b : PySem.W.subIn K (.ref D) (.type "BaseException") = some true) (i : PySem.W.isClsIn K D = true) (t : PySem.W.typeIn K (.ref D) = some (.type "type")) (s : PySem.W.subIn K c (.ref D) = some r) : PySem.W.exmOne K c (.ref D) = some r := by
  have e1 : (PySem.W.subIn K (.ref D) (.type "BaseException") == some true) = true := by rw [b]; rfl
  have i' : (PySem.W.clsIn K D).isSome = true := i
  have e2 : ((PySem.W.clsIn K D).isSome && PySem.W.typeIn K (.ref D) == some (.type "type")) = true := by rw [i', t]; rfl
  unfold PySem.W.exmOne PySem.W.kitCls
  rw [if_pos e1]
  show (if _ then _ else _) = _
  rw [if_pos e2]
  exact s
theorem kit_self : PySem.W.kitOne K (.ref C) (.ref C) = some true := by
  unfold PySem.W.kitOne
  exact if_pos (beq_iff_eq.mpr rfl)
theorem kit_not (s0 : PySem.W.subIn K (.ref C) (.ref C) = some true) (i : PySem.W.isClsIn K D = true) (t : PySem.W.typeIn K (.ref D) = some (.type "type")) (s : PySem.W.subIn K (.ref C) (.ref D) = some false) : PySem.W.kitOne K (.ref C) (.ref D) = some false := by
  have i' : (PySem.W.clsIn K D).isSome = true := i
  have e2 : ((PySem.W.clsIn K D).isSome && PySem.W.typeIn K (.ref D) == some (.type "type")) = true := by rw [i', t]; rfl
  unfold PySem.W.kitOne PySem.W.kitCls
  rw [if_neg (fun z => ?_)]
  · show (if _ then _ else _) = _
    rw [if_pos e2]
    exact s
  · have e := Value.ref.inj (beq_iff_eq.mp z)
    subst e
    rw [s0] at s
    cases s
theorem kit_kind {T : String} (h : PySem.W.kitMeta T = true) (s : PySem.W.subIn K (.ref C) (.type T) = some r) : PySem.W.kitOne K (.ref C) (.type T) = some r := by
  unfold PySem.W.kitOne PySem.W.kitCls
  rw [if_neg (fun z => by have e := beq_iff_eq.mp z; cases e)]
  show (if _ then _ else _) = _
  rw [if_pos h]
  exact s
end

structure Exns (K : PySem.W.Frag) (mg : Str → Option Value) (CPartError CNought : Addr) : Prop where
  gPartError : mg "PartError" = some (.ref CPartError)
  gNought : mg "Nought" = some (.ref CNought)
  xNought : PySem.W.excIn K CNought [.type "ValueError", .type "Exception", .type "BaseException", .type "object"] "ValueError.__new__" = true
  kNought : PySem.W.keepIn K (.ref CNought) = true
  bNought : PySem.W.subIn K (.ref CNought) (.type "BaseException") = some true
  tNought : PySem.W.typeIn K (.ref CNought) = some (.type "type")
  cb : PySem.W.subIn K (.ref CPartError) (.type "BaseException") = some true
  ci : PySem.W.isClsIn K CPartError = true
  ct : PySem.W.typeIn K (.ref CPartError) = some (.type "type")
  cs : PySem.W.subIn K (.ref CNought) (.ref CPartError) = some true
  ss : PySem.W.subIn K (.ref CNought) (.ref CNought) = some true
  i1 : PySem.W.findIn K (.ref CNought) "__getattribute__" = some (some (.builtin "BaseException.__getattribute__"))
  i2 : PySem.W.findIn K (.ref CNought) "__getattr__" = some none
  i3 : PySem.W.hasDictIn K CNought = true
  i4 : PySem.W.findIn K (.ref CNought) "__class__" = some (some (.builtin "object.__class__"))
  i5 : PySem.W.specialIn K (.builtin "object.__class__") "__get__" = some (some (.builtin "getset_descriptor.__get__"))
  i6 : PySem.W.takesIn K (.builtin "object.__class__") = some true
  i7 : PySem.W.mroIn K CNought (.type "object") = some true
theorem Exns.iNought {K : PySem.W.Frag} {mg : Str → Option Value} {CPartError CNought : Addr} (EX : Exns K mg CPartError CNought) : ExcC K CNought := ⟨EX.i1, EX.i2, EX.bNought, EX.i3, EX.i4, EX.i5, EX.i6, EX.i7⟩
theorem Exns.eNought {K : PySem.W.Frag} {mg : Str → Option Value} {CPartError CNought : Addr} (EX : Exns K mg CPartError CNought) : PySem.W.exmOne K (.ref CNought) (.ref CPartError) = some true := exm_two EX.cb EX.ci EX.ct EX.cs
theorem Exns.nNought {K : PySem.W.Frag} {mg : Str → Option Value} {CPartError CNought : Addr} (EX : Exns K mg CPartError CNought) : PySem.W.kitOne K (.ref CNought) (.ref CNought) = some true := kit_self
local macro_rules | `(tactic| walk_at "rd") => `(tactic| repeat (first | refine ⟨_, rfl, ?_⟩ | refine ⟨rfl, ?_⟩ | refine ⟨_, _, rfl, rfl, ?_⟩ | refine Or.inl ⟨_, rfl, ?_⟩ | refine ⟨(by show (0 : Int) < _; decide), ?_⟩ | refine ⟨⟨by decide, by decide⟩, ?_⟩ | refine ⟨Or.inr ⟨by decide, by decide⟩, ?_⟩ | refine ⟨Or.inl ⟨by decide, by decide⟩, ?_⟩ | refine ⟨⟨by decide, by decide, by decide⟩, ?_⟩))
abbrev zs (l : List Int) : List V := l.map V.int
theorem same_upd {H : Hp} {p : Addr} {o : HO} (h : H p = none) : Same H (upd H p o) := fun b x e => by
  rw [upd_ne (ne_of_none e h)]
  exact e
theorem same_tup {K : PySem.W.Frag} {H H' : Hp} {a : Addr} {xs : List V} (e : Same H H') (h : SqT K H a xs) : SqT K H' a xs := by
  rcases h with (h | ⟨o, h⟩) | h
  · exact .inl (.inl (e _ _ h))
  · exact .inl (.inr ⟨o, e _ _ h⟩)
  · exact .inr h
theorem zs_get {l : List Int} {i : Nat} {v : V} (h : (zs l)[i]? = some v) : ∃ z, v = .int z ∧ l[i]? = some z := by
  rw [show zs l = l.map V.int from rfl, List.getElem?_map] at h
  cases e : l[i]? with
  | none =>
    rw [e] at h
    cases h
  | some z =>
    rw [e] at h
    exact ⟨z, (Option.some.inj h).symm, rfl⟩
theorem zs_snoc {l : List Int} {i : Nat} {z : Int} (f : Int → Int) (h : l[i]? = some z) : zs ((l.map f).take i) ++ [V.int (f z)] = zs ((l.map f).take (i + 1)) := by
  show ((l.map f).take i).map V.int ++ [V.int (f z)] = ((l.map f).take (i + 1)).map V.int
  rw [List.take_add_one, List.getElem?_map, h, List.map_append]
  rfl
theorem zs_len {l : List Int} (n : Nat) (h : l.length ≤ 1000) : (zs (l.take n)).length < sizeLine := by
  show ((l.take n).map V.int).length < sizeLine
  rw [List.length_map, List.length_take]
  exact small1000 (by omega)
theorem ne_of_bang {n m : Int} (h : (!decide (V.int n = V.int m)) = true) : n ≠ m := fun e => by
  rw [e, decide_eq_true rfl] at h
  cases h
theorem eq_of_nobang {n m : Int} (h : ¬ (!decide (V.int n = V.int m)) = true) : n = m := by
  by_cases e : n = m
  · exact e
  · exact absurd (by rw [decide_eq_false (fun z => e (V.int.inj z))]; rfl) h
theorem eq_of_dec {n m : Int} (h : decide (V.int n = V.int m) = true) : n = m := V.int.inj (of_decide_eq_true h)
theorem ne_of_nodec {n m : Int} (h : ¬ decide (V.int n = V.int m) = true) : n ≠ m := fun e => h (decide_eq_true (by rw [e]))

/-! Euclid by turns. -/
/-- one turn of the walk (a, b) -> (b, a % b), of naturals -/
theorem gcd_turn (a b : Nat) : Nat.gcd b (a % b) = Nat.gcd a b := by
  rw [Nat.gcd_comm b, ← Nat.gcd_rec, Nat.gcd_comm]
theorem prod_turn {a b : Nat} (h : b ≤ a) (hb : 0 < b) : 2 * (b * (a % b)) ≤ a * b := by
  have h1 : a % b < b := Nat.mod_lt _ hb
  have h2 : a = b * (a / b) + a % b := (Nat.div_add_mod a b).symm
  have h3 : 1 ≤ a / b := (Nat.one_le_div_iff hb).mpr h
  have h4 : b * 1 ≤ b * (a / b) := Nat.mul_le_mul_left b h3
  have h5 : 2 * (a % b) ≤ a := by omega
  calc 2 * (b * (a % b)) = b * (2 * (a % b)) := by rw [Nat.mul_left_comm]
    _ ≤ b * a := Nat.mul_le_mul_left b h5
    _ = a * b := Nat.mul_comm _ _
/-- what holds behind i turns from (a0, b0) -/
structure Eu (a0 b0 i a b : Nat) : Prop where
  g : Nat.gcd a b = Nat.gcd a0 b0
  p : a * b * 2 ^ i ≤ 2 * (a0 * b0)
  o : i = 0 ∨ b ≤ a
  z : i = 0 → a = a0 ∧ b = b0
theorem Eu.start (a b : Nat) : Eu a b 0 a b := ⟨rfl, by rw [Nat.pow_zero]; omega, .inl rfl, fun _ => ⟨rfl, rfl⟩⟩
theorem Eu.turn {a0 b0 i a b : Nat} (e : Eu a0 b0 i a b) (hb : 0 < b) : Eu a0 b0 (i + 1) b (a % b) := by
  refine ⟨(gcd_turn a b).trans e.g, ?_, .inr (Nat.le_of_lt (Nat.mod_lt _ hb)), fun z => by omega⟩
  rcases e.o with hi | hle
  · obtain ⟨rfl, rfl⟩ := e.z hi
    subst hi
    have h1 : b * (a % b) ≤ b * a := Nat.mul_le_mul_left b (Nat.mod_le a b)
    have h2 : b * a = a * b := Nat.mul_comm _ _
    rw [Nat.zero_add, Nat.pow_one]
    omega
  · have h1 := prod_turn hle hb
    have h2 := e.p
    have h3 : b * (a % b) * 2 ^ (i + 1) = 2 * (b * (a % b)) * 2 ^ i := by
      rw [Nat.pow_succ]
      rw [Nat.mul_comm (2 ^ i) 2, ← Nat.mul_assoc, Nat.mul_comm (b * (a % b)) 2]
    rw [h3]
    exact Nat.le_trans (Nat.mul_le_mul_right _ h1) h2
/-- too many turns: nothing is left -/
theorem Eu.stop {a0 b0 i a b : Nat} (e : Eu a0 b0 i a b) (hi : i ≠ 0) (h : 2 * (a0 * b0) < 2 ^ i) : b = 0 := by
  rcases Nat.eq_zero_or_pos b with h0 | h0
  · exact h0
  · have hle : b ≤ a := by
      rcases e.o with h1 | h1
      · exact absurd h1 hi
      · exact h1
    have h1 : 1 ≤ a * b := Nat.mul_pos (by omega) h0
    have h2 : 1 * 2 ^ i ≤ a * b * 2 ^ i := Nat.mul_le_mul_right _ h1
    have h3 := e.p
    omega
theorem Eu.end {a0 b0 i a : Nat} (e : Eu a0 b0 i a 0) : a = Nat.gcd a0 b0 := by
  rw [← e.g, Nat.gcd_zero_right]
/-- the greatest divisor of a row, as it is reckoned from the left -/
def gl (l : List Int) : Nat := l.foldl (fun g v => Nat.gcd v.natAbs g) 0
theorem gl_snoc (l : List Int) (v : Int) : gl (l ++ [v]) = Nat.gcd v.natAbs (gl l) := by
  unfold gl
  rw [List.foldl_append]
  rfl
theorem gl_lt {l : List Int} {v : Int} (h : gl l < 2 ^ 100) (hv : v.natAbs < 2 ^ 100) : gl (l ++ [v]) < 2 ^ 100 := by
  rw [gl_snoc]
  rcases Nat.eq_zero_or_pos v.natAbs with e | e
  · rw [e, Nat.gcd_zero_left]
    exact h
  · exact Nat.lt_of_le_of_lt (Nat.le_of_dvd e (Nat.gcd_dvd_left _ _)) hv
theorem take_snoc {l : List Int} {i : Nat} {z : Int} (h : l[i]? = some z) : l.take (i + 1) = l.take i ++ [z] := by
  rw [List.take_add_one, h]
  rfl
theorem eu_far {a b n : Nat} (hn : 201 ≤ n) (ha : a < 2 ^ 100) (hb : b < 2 ^ 100) : 2 * (a * b) < 2 ^ n := by
  have h1 : a * b < 2 ^ 100 * 2 ^ 100 := Nat.mul_lt_mul'' ha hb
  rw [← Nat.pow_add] at h1
  have h2 : (2 : Nat) * 2 ^ (100 + 100) = 2 ^ 201 := by decide +kernel
  have h3 : (2 : Nat) ^ 201 ≤ 2 ^ n := Nat.pow_le_pow_right (by decide) hn
  omega
theorem fmod_nat (a b : Nat) : (a : Int).fmod (b : Int) = ((a % b : Nat) : Int) := by
  rw [Int.fmod_eq_emod_of_nonneg _ (Int.natCast_nonneg _)]
  exact (Int.natCast_emod a b).symm

/-- // by any divisor other than 0, below 2 ^ 9000 in size -/
def CDivX (_ j : Int) : Prop := j ≠ 0 ∧ j.natAbs.log2 < 9000
theorem op_fdivX {X : Cx} : OpR X (binaryOp .FloorDiv) (rI CDivX fun i j => .int (i.fdiv j)) :=
  opI fun _ _ _ _ _ _ _ hc q =>
    PyProof.Rows.floordiv_int hc.1 q (.inl (PyProof.noPylong_of_log2 hc.2))
theorem wide_divx {i j : Int} {b : Nat} (h : j ≠ 0) (hb : j.natAbs < 2 ^ b) (h0 : 0 < b) (h9 : b ≤ 9000) : CDivX i j :=
  ⟨h, Nat.lt_of_lt_of_le (PySem.Flt.log2_lt_of h0 hb) h9⟩
/-- n noughts -/
def nou (n : Nat) : Str := ⟨(List.replicate n (Str.ofString "0").cps).foldl (· ++ ·) #[]⟩
theorem nou_len {n : Nat} (h : n ≤ 100) : (nou n).length ≤ sizeLine := by
  have : ∀ n : _root_.Fin 101, (nou n.val).length ≤ 100 := by decide +kernel
  have h1 := this ⟨n, by omega⟩
  rw [PySem.sizeLine_eq]
  exact Nat.le_trans h1 (by decide)
theorem op_nou {X : Cx} : OpR X (binaryOp .Mult) (fun x y H Q => ∃ n : Nat, x = .str "0" ∧ y = .int (n : Int) ∧ 1 ≤ n ∧ n ≤ 100 ∧ Q (.str (nou n)) H) := by
  intro pins s σ H x y v u Q I rx ry h
  obtain ⟨n, rfl, rfl, h1, h2, q⟩ := h
  obtain ⟨t, rfl⟩ := rx
  obtain ⟨t', rfl⟩ := ry
  have e1 : ¬ ((n : Int) < 1) := by omega
  have el : (Str.ofString "0").length = 1 := by decide +kernel
  refine PySem.P.mul_str ?_ ?_ ?_ ?_
  · rw [decide_eq_false (by omega), decide_eq_false (by omega)]
    rfl
  · intro _ _
    rw [el]
    have : (2 ^ 63 - 1 : Int) / n ≥ 1 := by
      have : (1 : Int) * n ≤ 2 ^ 63 - 1 := by omega
      exact (Int.le_ediv_iff_mul_le (by omega)).mpr this
    omega
  · intro _ _
    rw [el]
    unfold PySem.Builtin.Str.tooLong
    rw [PySem.sizeLine_eq]
    exact decide_eq_false (by omega)
  · rw [if_neg e1]
    by_cases hn : n = 1
    · subst hn
      have e2 : nou 1 = Str.ofString "0" := by decide +kernel
      rw [e2] at q
      exact ⟨.str (Str.ofString "0"), H, I, ⟨t, rfl⟩, q⟩
    · have : ((n : Int) == 1 || (Str.ofString "0").length == 0) = false := by
        rw [el]
        simp
        omega
      rw [this, if_neg Bool.false_ne_true]
      exact ⟨nou_len h2, .str (nou n), H, I.tok _, ⟨_, rfl⟩, q⟩
theorem suite_of {X : Cx} {a C : Addr} {oe : Obj} {pn : List (Addr × Obj)} {cls : Value} {d : Option Addr} {sts : List Stmt} {ts : TS} (hz : Zc cls d oe)
    (h : Zc (.ref C) none oe → PSs (X.suite a ((a, oe) :: pn)) sts ts) : PSs (X.suite a ((a, oe) :: pn)) sts (fun D σ H => (cls = .ref C ∧ d = none) ∧ ts D σ H) :=
  ⟨fun pins s σ H D I hq => by
    obtain ⟨⟨rfl, rfl⟩, q⟩ := hq
    exact (h hz).run pins s σ H D I q⟩
theorem ten_text : ∀ n : Nat, 1 ≤ n → n ≤ 20 → PySem.intText? (Str.ofString "1" ++ nou n) = some ((10 : Int) ^ n) ∧ (Str.ofString "1" ++ nou n).length ≤ 640 ∧ (nou n).length ≤ 100 := by
  intro n h1 h2
  have : ∀ n : _root_.Fin 21, 1 ≤ n.val → PySem.intText? (Str.ofString "1" ++ nou n.val) = some ((10 : Int) ^ n.val) ∧ (Str.ofString "1" ++ nou n.val).length ≤ 640 ∧ (nou n.val).length ≤ 100 := by decide +kernel
  exact this ⟨n, by omega⟩ h1

/-- the divisor by which fraction divides both -/
def sg (n d : Int) : Int := if d < 0 then -((Nat.gcd n.natAbs d.natAbs : Nat) : Int) else ((Nat.gcd n.natAbs d.natAbs : Nat) : Int)
theorem sg_abs (n d : Int) : (sg n d).natAbs = Nat.gcd n.natAbs d.natAbs := by
  unfold sg
  split
  · rw [Int.natAbs_neg, Int.natAbs_natCast]
  · rw [Int.natAbs_natCast]
theorem sg_ne {n d : Int} (h : d ≠ 0) : sg n d ≠ 0 := by
  intro e
  have h1 := sg_abs n d
  rw [e] at h1
  have h2 : Nat.gcd n.natAbs d.natAbs = 0 := h1.symm
  have h3 := Nat.gcd_eq_zero_iff.mp h2
  omega
theorem sg_dn (n d : Int) : sg n d ∣ n := by
  have h : ((Nat.gcd n.natAbs d.natAbs : Nat) : Int) ∣ n := Int.dvd_natAbs.mp (Int.natCast_dvd_natCast.mpr (Nat.gcd_dvd_left _ _))
  unfold sg
  split
  · exact Int.neg_dvd.mpr h
  · exact h
theorem sg_dd (n d : Int) : sg n d ∣ d := by
  have h : ((Nat.gcd n.natAbs d.natAbs : Nat) : Int) ∣ d := Int.dvd_natAbs.mp (Int.natCast_dvd_natCast.mpr (Nat.gcd_dvd_right _ _))
  unfold sg
  split
  · exact Int.neg_dvd.mpr h
  · exact h
theorem fdiv_back {d v : Int} (h : d ∣ v) : v.fdiv d * d = v := Int.fdiv_mul_cancel h
theorem part_le {f d v : Int} (e : f * d = v) (hd : d ≠ 0) : f.natAbs ≤ v.natAbs := by
  rw [← e, Int.natAbs_mul]
  exact Nat.le_mul_of_pos_right _ (by omega)
/-- what fraction yields -/
structure Fr (n d p q : Int) : Prop where
  hp : p * sg n d = n
  hq : q * sg n d = d
  q0 : 0 < q
  one : Nat.gcd p.natAbs q.natAbs = 1
theorem fr_of {n d : Int} (h : d ≠ 0) : Fr n d (n.fdiv (sg n d)) (d.fdiv (sg n d)) := by
  have e1 := fdiv_back (sg_dn n d)
  have e2 := fdiv_back (sg_dd n d)
  have hs := sg_ne (n := n) h
  refine ⟨e1, e2, ?_, ?_⟩
  · rcases Int.lt_or_le 0 (d.fdiv (sg n d)) with h1 | h1
    · exact h1
    · exfalso
      have hg : 0 < Nat.gcd n.natAbs d.natAbs := Nat.gcd_pos_of_pos_right _ (by omega)
      rcases Int.lt_or_le d 0 with h2 | h2
      · have h3 : sg n d < 0 := by
          unfold sg
          rw [if_pos h2]
          omega
        have h4 := Int.mul_nonneg_of_nonpos_of_nonpos h1 (Int.le_of_lt h3)
        omega
      · have h3 : 0 < sg n d := by
          unfold sg
          rw [if_neg (by omega)]
          omega
        have h4 := Int.mul_nonpos_of_nonpos_of_nonneg h1 (Int.le_of_lt h3)
        omega
  · have e3 : Nat.gcd n.natAbs d.natAbs = Nat.gcd (n.fdiv (sg n d)).natAbs (d.fdiv (sg n d)).natAbs * (sg n d).natAbs := by
      rw [← Nat.gcd_mul_right, ← Int.natAbs_mul, ← Int.natAbs_mul, e1, e2]
    rw [sg_abs] at e3
    have hg : 0 < Nat.gcd n.natAbs d.natAbs := Nat.gcd_pos_of_pos_right _ (by omega)
    exact (Nat.eq_of_mul_eq_mul_right hg (by rw [Nat.one_mul]; exact e3)).symm
theorem Fr.cross {n d p q : Int} (f : Fr n d p q) : p * d = n * q := by
  have h1 := f.hp
  have h2 := f.hq
  calc p * d = p * (q * sg n d) := by rw [h2]
    _ = (p * sg n d) * q := by rw [Int.mul_comm q, Int.mul_assoc]
    _ = n * q := by rw [h1]
theorem sg_one (n : Int) : sg n 1 = 1 := by
  unfold sg
  rw [if_neg (by decide)]
  show ((Nat.gcd n.natAbs 1 : Nat) : Int) = 1
  rw [Nat.gcd_one_right]
  rfl
theorem rd_one (n : Int) : [n.fdiv (sg n 1), (1 : Int).fdiv (sg n 1)] = [n, 1] := by rw [sg_one, Int.fdiv_one, Int.fdiv_one]

/-- in lowest terms -/
def rd2 (n d : Int) : List Int := [n.fdiv (sg n d), d.fdiv (sg n d)]
theorem low_uniq {p q r s : Int} (h1 : Nat.gcd p.natAbs q.natAbs = 1) (h2 : Nat.gcd r.natAbs s.natAbs = 1) (hq : 0 < q) (hs : 0 < s) (h : p * s = r * q) : p = r ∧ q = s := by
  have hn : p.natAbs * s.natAbs = r.natAbs * q.natAbs := by
    rw [← Int.natAbs_mul, ← Int.natAbs_mul, h]
  have d1 : q.natAbs ∣ s.natAbs := by
    have h3 : q.natAbs ∣ p.natAbs * s.natAbs := ⟨r.natAbs, by rw [hn, Nat.mul_comm]⟩
    exact Nat.Coprime.dvd_of_dvd_mul_left (show Nat.Coprime q.natAbs p.natAbs from (Nat.gcd_comm _ _).trans h1) h3
  have d2 : s.natAbs ∣ q.natAbs := by
    have h3 : s.natAbs ∣ r.natAbs * q.natAbs := ⟨p.natAbs, by rw [← hn, Nat.mul_comm]⟩
    exact Nat.Coprime.dvd_of_dvd_mul_left (show Nat.Coprime s.natAbs r.natAbs from (Nat.gcd_comm _ _).trans h2) h3
  have e : q.natAbs = s.natAbs := Nat.dvd_antisymm d1 d2
  have e2 : q = s := by omega
  subst e2
  exact ⟨Int.eq_of_mul_eq_mul_right (by omega) h, rfl⟩
theorem rd2_eq {n d n' d' : Int} (hd : 0 < d) (hd' : 0 < d') (h : n * d' = n' * d) : rd2 n d = rd2 n' d' := by
  have f := fr_of (n := n) (show d ≠ 0 by omega)
  have f' := fr_of (n := n') (show d' ≠ 0 by omega)
  have c1 := f.cross
  have c2 := f'.cross
  unfold rd2
  generalize n.fdiv (sg n d) = p at f c1
  generalize d.fdiv (sg n d) = q at f c1
  generalize n'.fdiv (sg n' d') = r at f' c2
  generalize d'.fdiv (sg n' d') = s at f' c2
  have e : p * s = r * q := by
    have h1 : (p * s) * (d * d') = (r * q) * (d * d') := by
      calc (p * s) * (d * d') = (p * d) * (s * d') := by
              rw [Int.mul_assoc, Int.mul_assoc, Int.mul_left_comm s d d']
        _ = (n * q) * (s * d') := by rw [c1]
        _ = (n * d') * (q * s) := by
              rw [Int.mul_assoc, Int.mul_assoc, Int.mul_comm s d', Int.mul_left_comm q d' s]
        _ = (n' * d) * (q * s) := by rw [h]
        _ = (n' * s) * (d * q) := by
              rw [Int.mul_assoc, Int.mul_assoc, Int.mul_comm q s, Int.mul_left_comm d s q]
        _ = (r * d') * (d * q) := by rw [c2]
        _ = (r * q) * (d * d') := by
              rw [Int.mul_assoc, Int.mul_assoc, Int.mul_comm d q, Int.mul_left_comm d' q d, Int.mul_comm d' d]
    exact Int.eq_of_mul_eq_mul_right (Int.mul_ne_zero (by omega) (by omega)) h1
  have u := low_uniq f.one f'.one f.q0 f'.q0 e
  rw [u.1, u.2]
theorem sg_zero_one : sg 0 1 = 1 := sg_one 0
theorem rd2_zero : rd2 0 1 = [0, 1] := by
  unfold rd2
  rw [sg_zero_one, Int.fdiv_one, Int.fdiv_one]
/-- the digits of a number are not too few -/
theorem lt_digits (n : Nat) : n < 2 ^ (4 * (toString (n : Int)).length + 4) := by
  have e : toString (n : Int) = Nat.repr n := rfl
  rw [e]
  have h : n < 10 ^ ((Nat.repr n).length + 1) := (Nat.length_repr_le_iff (Nat.succ_pos _)).mp (Nat.le_succ _)
  refine Nat.lt_of_lt_of_le h ?_
  have h2 : (10 : Nat) ^ ((Nat.repr n).length + 1) ≤ 16 ^ ((Nat.repr n).length + 1) := Nat.pow_le_pow_left (by decide) _
  have h3 : (16 : Nat) ^ ((Nat.repr n).length + 1) = 2 ^ (4 * (Nat.repr n).length + 4) := by
    rw [show (16 : Nat) = 2 ^ 4 from rfl, ← Nat.pow_mul]
    rfl
  omega
theorem eu_digits {a b t : Nat} (h : t = 4 * (toString (a : Int)).length + 4 * (toString (b : Int)).length + 60) : 2 * (a * b) < 2 ^ t := by
  subst h
  have h1 := lt_digits a
  have h2 := lt_digits b
  have h3 : a * b < 2 ^ (4 * (toString (a : Int)).length + 4) * 2 ^ (4 * (toString (b : Int)).length + 4) := Nat.mul_lt_mul'' h1 h2
  rw [← Nat.pow_add] at h3
  have h4 : 2 * (a * b) < 2 * 2 ^ (4 * (toString (a : Int)).length + 4 + (4 * (toString (b : Int)).length + 4)) := by omega
  rw [← Nat.pow_succ'] at h4
  exact Nat.lt_of_lt_of_le h4 (Nat.pow_le_pow_right (by decide) (by omega))
theorem args2 {x y : Int} (hx : 0 ≤ x) (hy : 0 ≤ y) : [V.int x, V.int y] ++ [] = [V.int ((x.natAbs : Nat) : Int), V.int ((y.natAbs : Nat) : Int)] := by
  have e1 : ((x.natAbs : Nat) : Int) = x := by omega
  have e2 : ((y.natAbs : Nat) : Int) = y := by omega
  rw [e1, e2]
  rfl
theorem mod_abs (x : Int) {b : Int} (h : 0 < b) : (x % b).natAbs ≤ b.natAbs := by
  have h1 := Int.emod_nonneg x (show b ≠ 0 by omega)
  have h2 := Int.emod_lt_of_pos x h
  omega
theorem mul_lt_abs {a b : Int} {A B : Nat} (ha : a.natAbs ≤ A) (hb : b.natAbs ≤ B) : (a * b).natAbs ≤ A * B := by
  rw [Int.natAbs_mul]
  exact Nat.mul_le_mul ha hb
def pd2 (x y : Int) : PyData := .tuple [.int x, .int y]
theorem dp2 {K : PySem.W.Frag} {H : Hp} {u : Addr} {x y : Int} (h : SqT K H u (zs [x, y])) : Dp K H (.ref u) (pd2 x y) :=
  .tup h (.cons (.int x) (.cons (.int y) .nil))
theorem eqv2 (x y : Int) : PyData.eqv (pd2 x y) (pd2 x y) = true := by
  unfold pd2
  simp [PyData.eqv, PyData.eqvAll]

def dv (x y z : Int) : Int := let g : Int := (Nat.gcd (Nat.gcd x.natAbs y.natAbs) z.natAbs : Nat)
  if HT.lexLt [x, y, z] [0, 0, 0] = true then -g else g
def g3 (x y z : Int) : Nat := Nat.gcd (Nat.gcd x.natAbs y.natAbs) z.natAbs
/-- the first one that is not 0 is below 0 -/
def dn (x y z : Int) : Bool := decide (x < 0) || (decide (x = 0) && (decide (y < 0) || (decide (y = 0) && decide (z < 0))))
theorem lex_dn (x y z : Int) : HT.lexLt [x, y, z] [0, 0, 0] = dn x y z := by
  rw [HT.lexLt_cons, HT.lexLt_cons, HT.lexLt_cons, HT.lexLt_nil_nil]
  unfold dn
  by_cases hx : x = 0
  · subst hx
    by_cases hy : y = 0
    · subst hy
      by_cases hz : z = 0
      · subst hz; decide
      · simp [hz]
    · simp [hy]
  · simp [hx]
theorem dv_eq (x y z : Int) : dv x y z = if dn x y z = true then -(g3 x y z : Int) else (g3 x y z : Int) := by
  unfold dv g3
  rw [lex_dn]
theorem dv_abs (x y z : Int) : (dv x y z).natAbs = g3 x y z := by
  rw [dv_eq]
  split
  · rw [Int.natAbs_neg, Int.natAbs_natCast]
  · rw [Int.natAbs_natCast]
theorem g3_pos {x y z : Int} (h : ¬ (x = 0 ∧ y = 0 ∧ z = 0)) : 0 < g3 x y z := by
  rcases Nat.eq_zero_or_pos (g3 x y z) with e | e
  · exfalso
    have h1 := Nat.gcd_eq_zero_iff.mp e
    have h2 := Nat.gcd_eq_zero_iff.mp h1.1
    omega
  · exact e
theorem dv_ne {x y z : Int} (h : ¬ (x = 0 ∧ y = 0 ∧ z = 0)) : dv x y z ≠ 0 := by
  intro e
  have h1 := dv_abs x y z
  have h2 := g3_pos h
  rw [e] at h1
  have : (0 : Int).natAbs = 0 := rfl
  omega
theorem g3_dx (x y z : Int) : (g3 x y z : Int) ∣ x := by
  refine Int.dvd_natAbs.mp (Int.natCast_dvd_natCast.mpr ?_)
  exact Nat.dvd_trans (Nat.gcd_dvd_left _ _) (Nat.gcd_dvd_left _ _)
theorem g3_dy (x y z : Int) : (g3 x y z : Int) ∣ y := by
  refine Int.dvd_natAbs.mp (Int.natCast_dvd_natCast.mpr ?_)
  exact Nat.dvd_trans (Nat.gcd_dvd_left _ _) (Nat.gcd_dvd_right _ _)
theorem g3_dz (x y z : Int) : (g3 x y z : Int) ∣ z := by
  refine Int.dvd_natAbs.mp (Int.natCast_dvd_natCast.mpr ?_)
  exact Nat.gcd_dvd_right _ _
theorem dv_dvd {x y z v : Int} (h : (g3 x y z : Int) ∣ v) : dv x y z ∣ v := by
  rw [dv_eq]
  split
  · exact Int.neg_dvd.mpr h
  · exact h
theorem dv_dx (x y z : Int) : dv x y z ∣ x := dv_dvd (g3_dx x y z)
theorem dv_dy (x y z : Int) : dv x y z ∣ y := dv_dvd (g3_dy x y z)
theorem dv_dz (x y z : Int) : dv x y z ∣ z := dv_dvd (g3_dz x y z)
theorem g3_le {x y z : Int} {n : Nat} (h : ¬ (x = 0 ∧ y = 0 ∧ z = 0)) (hx : x.natAbs ≤ n) (hy : y.natAbs ≤ n) (hz : z.natAbs ≤ n) : g3 x y z ≤ n := by
  by_cases h1 : x = 0
  · by_cases h2 : y = 0
    · have h3 : z ≠ 0 := fun e => h ⟨h1, h2, e⟩
      exact Nat.le_trans (Nat.le_of_dvd (by omega) (Nat.gcd_dvd_right _ _)) hz
    · exact Nat.le_trans (Nat.le_of_dvd (by omega) (Nat.dvd_trans (Nat.gcd_dvd_left _ _) (Nat.gcd_dvd_right _ _))) hy
  · exact Nat.le_trans (Nat.le_of_dvd (by omega) (Nat.dvd_trans (Nat.gcd_dvd_left _ _) (Nat.gcd_dvd_left _ _))) hx
theorem g3_mul (x y z t : Int) : g3 (x * t) (y * t) (z * t) = g3 x y z * t.natAbs := by
  unfold g3
  rw [Int.natAbs_mul, Int.natAbs_mul, Int.natAbs_mul, Nat.gcd_mul_right, Nat.gcd_mul_right]
/-- the parts have no divisor left -/
theorem g3_one {x y z a b c : Int} (h : ¬ (x = 0 ∧ y = 0 ∧ z = 0)) (ha : a * dv x y z = x) (hb : b * dv x y z = y) (hc : c * dv x y z = z) : g3 a b c = 1 := by
  have h1 : g3 x y z = g3 a b c * (dv x y z).natAbs := by
    have := g3_mul a b c (dv x y z)
    rw [ha, hb, hc] at this
    exact this
  rw [dv_abs] at h1
  have h2 := g3_pos h
  exact (Nat.eq_of_mul_eq_mul_right h2 (by rw [Nat.one_mul]; exact h1)).symm
theorem neg_mul_iff {v t : Int} (ht : 0 < t) : (v * t < 0 ↔ v < 0) ∧ (v * t = 0 ↔ v = 0) := by
  constructor
  · constructor
    · intro h
      rcases Int.lt_or_le v 0 with h1 | h1
      · exact h1
      · have := Int.mul_nonneg h1 (Int.le_of_lt ht)
        omega
    · exact fun h => Int.mul_neg_of_neg_of_pos h ht
  · constructor
    · intro h
      rcases Int.mul_eq_zero.mp h with h1 | h1
      · exact h1
      · omega
    · intro h
      rw [h, Int.zero_mul]
theorem dn_mul {x y z t : Int} (ht : 0 < t) : dn (x * t) (y * t) (z * t) = dn x y z := by
  unfold dn
  have hx := neg_mul_iff (v := x) ht
  have hy := neg_mul_iff (v := y) ht
  have hz := neg_mul_iff (v := z) ht
  simp only [hx, hy, hz]
theorem dn_neg {x y z : Int} (h : ¬ (x = 0 ∧ y = 0 ∧ z = 0)) : dn (-x) (-y) (-z) = !dn x y z := by
  unfold dn
  rcases Int.lt_trichotomy x 0 with hx | hx | hx
  · have h1 : ¬ (-x < 0) := by omega
    have h2 : ¬ (-x = 0) := by omega
    simp [hx, h1, h2]
    omega
  · subst hx
    rcases Int.lt_trichotomy y 0 with hy | hy | hy
    · have h1 : ¬ (-y < 0) := by omega
      have h2 : ¬ (-y = 0) := by omega
      simp [hy, h1, h2]
      omega
    · subst hy
      have hz : z ≠ 0 := fun e => h ⟨rfl, rfl, e⟩
      by_cases h1 : z < 0
      · have h2 : ¬ (-z < 0) := by omega
        simp [h1, h2]
        omega
      · have h2 : -z < 0 := by omega
        simp [h1, h2]
        omega
    · have h1 : -y < 0 := by omega
      have h2 : ¬ y < 0 := by omega
      have h3 : ¬ y = 0 := by omega
      simp [h1, h2, h3]
      omega
  · have h1 : -x < 0 := by omega
    have h2 : ¬ x < 0 := by omega
    have h3 : ¬ x = 0 := by omega
    simp [h1, h2, h3]
    omega
theorem dv_mul {x y z t : Int} (h : ¬ (x = 0 ∧ y = 0 ∧ z = 0)) (ht : t ≠ 0) : dv (x * t) (y * t) (z * t) = dv x y z * t := by
  rw [dv_eq, dv_eq, g3_mul]
  rcases Int.lt_or_gt_of_ne ht with h1 | h1
  · have e1 : ∀ v : Int, v * t = -v * -t := fun v => (Int.neg_mul_neg v t).symm
    have e2 : (t.natAbs : Int) = -t := by omega
    have h2 : ¬ (-x = 0 ∧ -y = 0 ∧ -z = 0) := by omega
    rw [e1 x, e1 y, e1 z, dn_mul (by omega), dn_neg h]
    cases dn x y z with
    | true => simp [e2, Int.neg_mul, Int.mul_neg]
    | false => simp [e2, Int.neg_mul, Int.mul_neg]
  · have e2 : (t.natAbs : Int) = t := by omega
    rw [dn_mul h1]
    cases dn x y z with
    | true => simp [e2, Int.neg_mul, Int.mul_neg]
    | false => simp [e2, Int.neg_mul, Int.mul_neg]
theorem fdiv_same {d v t : Int} (hd : d ≠ 0) (ht : t ≠ 0) (h : d ∣ v) : (v * t).fdiv (d * t) = v.fdiv d := by
  obtain ⟨k, rfl⟩ := h
  rw [Int.mul_assoc, Int.mul_comm k t, ← Int.mul_assoc, Int.mul_fdiv_cancel_left _ hd, Int.mul_fdiv_cancel_left]
  exact Int.mul_ne_zero hd ht

theorem zs_push {l : List Int} {n : Int} : zs l ++ [V.int n] = zs (l ++ [n]) := by
  show l.map V.int ++ [V.int n] = (l ++ [n]).map V.int
  rw [List.map_append]
  rfl
theorem zs_lt {l : List Int} (h : l.length ≤ 1000) : (zs l).length < sizeLine := by
  show (l.map V.int).length < sizeLine
  rw [List.length_map]
  exact small1000 h
theorem row_all {rs : List Int} {b : Int} (h : ∀ r ∈ rs, 0 ≤ r ∧ r < b) (x : Int) (hb : 0 < b) : ∀ r ∈ rs ++ [x % b], 0 ≤ r ∧ r < b := by
  intro r hr
  rcases List.mem_append.mp hr with h1 | h1
  · exact h r h1
  · rw [List.mem_singleton.mp h1]
    exact ⟨Int.emod_nonneg _ (by omega), Int.emod_lt_of_pos _ hb⟩
theorem ixN_in {n : Nat} {i : Int} (h0 : 0 ≤ i) (h : i < (n : Int)) : ixN n i = some i.toNat := by
  unfold ixN
  rw [if_pos h0, if_pos h]
theorem len3 {rs : List Int} (h : rs.length = 3) : ∃ a b c, rs = [a, b, c] := by
  match rs, h with
  | [a, b, c], _ => exact ⟨a, b, c, rfl⟩
theorem gl_three (x y z : Int) : gl [x, y, z] = g3 x y z := by
  show Nat.gcd z.natAbs (Nat.gcd y.natAbs (Nat.gcd x.natAbs 0)) = Nat.gcd (Nat.gcd x.natAbs y.natAbs) z.natAbs
  rw [Nat.gcd_zero_right, Nat.gcd_comm z.natAbs, Nat.gcd_comm y.natAbs]
def fs3 (x y z : Int) : Int := if x ≠ 0 then x else if y ≠ 0 then y else z
theorem fs3_get {x y z : Int} (h : ¬ (x = 0 ∧ y = 0 ∧ z = 0)) : (zs ([x, y, z].filter fun v => decide (v ≠ 0)))[0]? = some (.int (fs3 x y z)) := by
  unfold fs3
  by_cases hx : x = 0
  · by_cases hy : y = 0
    · have hz : z ≠ 0 := fun e => h ⟨hx, hy, e⟩
      simp [hx, hy, hz]
    · simp [hx, hy]
  · simp [hx]
theorem fs3_dn {x y z : Int} (h : ¬ (x = 0 ∧ y = 0 ∧ z = 0)) : decide (fs3 x y z < 0) = dn x y z := by
  unfold fs3 dn
  by_cases hx : x = 0
  · by_cases hy : y = 0
    · simp [hx, hy]
    · simp [hx, hy]
  · simp [hx]
theorem fil_snoc {l : List Int} {i : Nat} {z : Int} (h : l[i]? = some z) (hz : z ≠ 0) : zs ((l.take i).filter fun v => decide (v ≠ 0)) ++ [V.int z] = zs ((l.take (i + 1)).filter fun v => decide (v ≠ 0)) := by
  rw [take_snoc h, List.filter_append, zs_push]
  simp [hz]
theorem fil_same {l : List Int} {i : Nat} {z : Int} (h : l[i]? = some z) (hz : z = 0) : (l.take (i + 1)).filter (fun v => decide (v ≠ 0)) = (l.take i).filter fun v => decide (v ≠ 0) := by
  rw [take_snoc h, List.filter_append]
  simp [hz]
theorem fil_lt {l : List Int} (n : Nat) (h : l.length ≤ 1000) : (zs ((l.take n).filter fun v => decide (v ≠ 0))).length < sizeLine := by
  refine zs_lt ?_
  have h1 := List.length_filter_le (fun v : Int => decide (v ≠ 0)) (l.take n)
  rw [List.length_take] at h1
  omega
theorem zs_at {l : List Int} {i : Nat} {z : Int} (h : l[i]? = some z) : atI (zs l) (i : Int) = some (V.int z) := atI_nat (by
  rw [show zs l = l.map V.int from rfl, List.getElem?_map, h]
  rfl)
theorem parts_at {x y z d : Int} (hx : d ∣ x) (hy : d ∣ y) (hz : d ∣ z) {i : Nat} (hi : i < 3) : ∃ f v : Int, [x.fdiv d, y.fdiv d, z.fdiv d][i]? = some f ∧ [x, y, z][i]? = some v ∧ f * d = v := by
  obtain rfl | rfl | rfl : i = 0 ∨ i = 1 ∨ i = 2 := by omega
  · exact ⟨_, _, rfl, rfl, fdiv_back hx⟩
  · exact ⟨_, _, rfl, rfl, fdiv_back hy⟩
  · exact ⟨_, _, rfl, rfl, fdiv_back hz⟩
def pd3 (x y z : Int) : PyData := .tuple [.int x, .int y, .int z]
theorem dp3 {K : PySem.W.Frag} {H : Hp} {u : Addr} {x y z : Int} (h : SqT K H u (zs [x, y, z])) : Dp K H (.ref u) (pd3 x y z) :=
  .tup h (.cons (.int x) (.cons (.int y) (.cons (.int z) .nil)))
theorem eqv3 (x y z : Int) : PyData.eqv (pd3 x y z) (pd3 x y z) = true := by
  unfold pd3
  simp [PyData.eqv, PyData.eqvAll]

def sgn (i : Int) : Int := if i < 0 then -1 else if 0 < i then 1 else 0
theorem sgn_mul {a b : Int} (hb : 0 < b) : sgn (a * b) = sgn a := by
  have h := neg_mul_iff (v := a) hb
  have h2 : 0 < a * b ↔ 0 < a := by
    constructor
    · intro z
      have h3 : ¬ a < 0 := fun y => by
        have := h.1.mpr y
        omega
      have h4 : ¬ a = 0 := fun y => by
        have := h.2.mpr y
        omega
      omega
    · exact fun z => Int.mul_pos z hb
  unfold sgn
  by_cases h3 : a < 0
  · rw [if_pos h3, if_pos (h.1.mpr h3)]
  · rw [if_neg h3, if_neg (fun z => h3 (h.1.mp z))]
    by_cases h4 : 0 < a
    · rw [if_pos h4, if_pos (h2.mpr h4)]
    · rw [if_neg h4, if_neg (fun z => h4 (h2.mp z))]
theorem sg_pos {n d : Int} (h : 0 < d) : 0 < sg n d := by
  have hg : 0 < Nat.gcd n.natAbs d.natAbs := Nat.gcd_pos_of_pos_right _ (by omega)
  unfold sg
  rw [if_neg (by omega)]
  omega
/-- the sign of a fraction is that of its numerator, before and behind -/
theorem sgn_low {n d : Int} (h : 0 < d) : sgn (n.fdiv (sg n d)) = sgn n := by
  have h1 := fdiv_back (sg_dn n d)
  have h2 := sgn_mul (a := n.fdiv (sg n d)) (sg_pos (n := n) h)
  rw [h1] at h2
  exact h2.symm
theorem rd2_le {n d : Int} (hd : d ≠ 0) : ∃ p q, rd2 n d = [p, q] ∧ p.natAbs ≤ n.natAbs ∧ q.natAbs ≤ d.natAbs ∧ Fr n d p q :=
  have f := fr_of (n := n) hd
  ⟨_, _, rfl, part_le f.hp (sg_ne hd), part_le f.hq (sg_ne hd), f⟩
/-- a sum of two, each brought to lowest terms -/
theorem rd2_plus {a b c d p q r s : Int} (f : Fr a b p q) (g : Fr c d r s) (hb : 0 < b) (hd : 0 < d) : rd2 (p * s + r * q) (q * s) = rd2 (a * d + c * b) (b * d) := by
  have q0 := f.q0
  have s0 := g.q0
  have c1 := f.cross
  have c2 := g.cross
  exact rd2_eq (Int.mul_pos q0 s0) (Int.mul_pos hb hd) (by grind)
/-- what is in lowest terms stays -/
theorem low_of {p q : Int} (h : Nat.gcd p.natAbs q.natAbs = 1) (hq : 0 < q) : rd2 p q = [p, q] := by
  have f := fr_of (n := p) (show q ≠ 0 by omega)
  have c := f.cross
  have u := low_uniq f.one h f.q0 hq (by rw [f.cross])
  unfold rd2
  rw [u.1, u.2]
theorem fr_low {n d p q : Int} (f : Fr n d p q) : rd2 p q = [p, q] := low_of f.one f.q0
theorem eu_far2 {a b n : Nat} (hn : 3601 ≤ n) (ha : a < 2 ^ 1800) (hb : b < 2 ^ 1800) : 2 * (a * b) < 2 ^ n := by
  have h1 : a * b < 2 ^ 1800 * 2 ^ 1800 := Nat.mul_lt_mul'' ha hb
  rw [← Nat.pow_add] at h1
  have h2 : (2 : Nat) ^ 3601 ≤ 2 ^ n := Nat.pow_le_pow_right (by decide) hn
  rw [show (3601 : Nat) = 1 + (1800 + 1800) from rfl, Nat.pow_add] at h2
  generalize (2 : Nat) ^ (1800 + 1800) = B at *
  generalize (2 : Nat) ^ n = C at *
  omega
theorem rd2_eq0 {n d n' d' : Int} (hd : d ≠ 0) (hd' : d' ≠ 0) (h : n * d' = n' * d) : rd2 n d = rd2 n' d' := by
  have f := fr_of (n := n) hd
  have f' := fr_of (n := n') hd'
  have c1 := f.cross
  have c2 := f'.cross
  unfold rd2
  generalize n.fdiv (sg n d) = p at f c1
  generalize d.fdiv (sg n d) = q at f c1
  generalize n'.fdiv (sg n' d') = r at f' c2
  generalize d'.fdiv (sg n' d') = s at f' c2
  have e : p * s = r * q := by
    have h1 : (p * s) * (d * d') = (r * q) * (d * d') := by grind
    exact Int.eq_of_mul_eq_mul_right (Int.mul_ne_zero hd hd') h1
  have u := low_uniq f.one f'.one f.q0 f'.q0 e
  rw [u.1, u.2]

/-- a row of fractions: where each stands, its two numbers -/
structure Rows (K : PySem.W.Frag) (H : Hp) (ws : List (Addr × Int × Int)) : Prop where
  at_ : ∀ w ∈ ws, SqT K H w.1 (zs [w.2.1, w.2.2])
  b1 : ∀ w ∈ ws, w.2.1.natAbs < 2 ^ 40
  b2 : ∀ w ∈ ws, w.2.2.natAbs < 2 ^ 40
  b3 : ∀ w ∈ ws, 0 < w.2.2
  few : ws.length ≤ 9
theorem Rows.nil {K : PySem.W.Frag} {H : Hp} : Rows K H [] :=
  ⟨(fun _ h => nomatch h), (fun _ h => nomatch h), (fun _ h => nomatch h), (fun _ h => nomatch h), by decide⟩
def rf (ws : List (Addr × Int × Int)) : List V := ws.map fun w => V.ref w.1
theorem Rows.same {K : PySem.W.Frag} {H H' : Hp} {ws : List (Addr × Int × Int)} (r : Rows K H ws) (s : Same H H') : Rows K H' ws :=
  ⟨fun w hw => same_tup s (r.at_ w hw), r.b1, r.b2, r.b3, r.few⟩
theorem Rows.take {K : PySem.W.Frag} {H : Hp} {ws : List (Addr × Int × Int)} (r : Rows K H ws) (i : Nat) : Rows K H (ws.take i) :=
  ⟨fun w hw => r.at_ w (List.mem_of_mem_take hw), fun w hw => r.b1 w (List.mem_of_mem_take hw), fun w hw => r.b2 w (List.mem_of_mem_take hw), fun w hw => r.b3 w (List.mem_of_mem_take hw), by
    rw [List.length_take]
    have := r.few
    omega⟩
theorem rf_get {ws : List (Addr × Int × Int)} {i : Nat} {v : V} (h : (rf ws)[i]? = some v) : ∃ w, v = .ref w.1 ∧ ws[i]? = some w := by
  rw [show rf ws = ws.map fun w => V.ref w.1 from rfl, List.getElem?_map] at h
  cases e : ws[i]? with
  | none =>
    rw [e] at h
    cases h
  | some w =>
    rw [e] at h
    exact ⟨w, (Option.some.inj h).symm, rfl⟩
theorem rf_len (ws : List (Addr × Int × Int)) : (rf ws).length = ws.length := List.length_map _
theorem take_sn {α : Type} {l : List α} {i : Nat} {z : α} (h : l[i]? = some z) : l.take (i + 1) = l.take i ++ [z] := by
  rw [List.take_add_one, h]
  rfl
theorem tup_upd {K : PySem.W.Frag} {H : Hp} {a l : Addr} {xs ys : List V} {o : HO} (h : SqT K H a xs) (hl : H l = some (.lst ys)) : SqT K (upd H l o) a xs := by
  rcases h with (h | ⟨ob, h⟩) | h
  · refine .inl (.inl ?_)
    rw [upd_ne (ne_of h hl (by intro z; cases z))]
    exact h
  · refine .inl (.inr ⟨ob, ?_⟩)
    rw [upd_ne (ne_of h hl (by intro z; cases z))]
    exact h
  · exact .inr h
theorem tyx_tup {K : PySem.W.Frag} {H : Hp} {a : Addr} {xs : List V} (h : SqT K H a xs) : TyX K H (.ref a) (.type "tuple") := by
  rcases h with (h | ⟨ob, h⟩) | ⟨o, its, n, h, hc, _⟩
  · exact .base (.tup h)
  · exact .fTuple h
  · exact .kTuple h hc
theorem no_self {x : V} (h : (!decide (x = x)) = true) : False := by
  rw [decide_eq_true rfl] at h
  cases h

theorem iteF' {b : Bool} {p q : Prop} (h : b = false) (hq : q) : if b = true then p else q := by
  rw [h, if_neg Bool.false_ne_true]
  exact hq
theorem iteT' {b : Bool} {p q : Prop} (h : b = true) (hp : p) : if b = true then p else q := by
  rw [h, if_pos rfl]
  exact hp


section
variable {P : Program} {w : World} {K : PySem.W.Frag} {mg : Str → Option Value} {base : Heap}
def spCommon (K : PySem.W.Frag) : Sp := fun vs H Q _ => ∃ a b : Int, vs = [.int a, .int b] ∧ Q (.int ((Nat.gcd a.natAbs b.natAbs : Nat) : Int)) H
theorem okCommon {fCommon : Addr} {fdCommon : FuncData} (F : Fun K "common" "common" sCommon fCommon fdCommon) (T : Txt mg) {CPartError CNought : Addr} (EX : Exns K mg CPartError CNought) :
    FnOk P w K mg base CX0 1 fCommon fdCommon ["a", "b"] (spCommon K) := by
  refine F.ok scCommon (fun vs H Q E h => ?_) (fun cdv A outer s H vs Q E hr h => ?_)
  · obtain ⟨a, b, rfl, q⟩ := h
    rfl
  · obtain ⟨a, b, rfl, q⟩ := h
    refine ⟨_, (pss_one (ps_ret (pe_callBfun cr_gcd (by rfl) T.gcd (pa_cons (pv 0) (pa_cons (pv 1) pa_nil))))), ?_⟩
    exact ⟨_, rfl, _, rfl, a, b, rfl, q⟩
def spOp2 (K : PySem.W.Frag) (N D : Int → Int → Int → Int → Int) : Sp := fun vs H Q _ => ∃ (a b : Addr) (p q r s : Int), vs = [.ref a, .ref b] ∧ SqT K H a (zs [p, q]) ∧ SqT K H b (zs [r, s]) ∧ p.natAbs < 2 ^ 800 ∧ q.natAbs < 2 ^ 800 ∧ r.natAbs < 2 ^ 800 ∧ s.natAbs < 2 ^ 800 ∧ D p q r s ≠ 0 ∧
  ∀ (H' : Hp) (t : Addr), Same H H' → H' t = some (.tup (zs (rd2 (N p q r s) (D p q r s)))) → Q (.ref t) H'
/-- a point: its three fractions -/
structure Pt (K : PySem.W.Frag) (H : Hp) (t : Addr) (p1 q1 p2 q2 p3 q3 : Int) : Prop where
  ex : ∃ a b c : Addr, SqT K H t [.ref a, .ref b, .ref c] ∧ SqT K H a (zs [p1, q1]) ∧ SqT K H b (zs [p2, q2]) ∧ SqT K H c (zs [p3, q3])
  b1 : p1.natAbs < 2 ^ 100 ∧ p2.natAbs < 2 ^ 100 ∧ p3.natAbs < 2 ^ 100
  b2 : q1.natAbs < 2 ^ 100 ∧ q2.natAbs < 2 ^ 100 ∧ q3.natAbs < 2 ^ 100
  b3 : 0 < q1 ∧ 0 < q2 ∧ 0 < q3
theorem Pt.same {K : PySem.W.Frag} {H H' : Hp} {t : Addr} {p1 q1 p2 q2 p3 q3 : Int} (p : Pt K H t p1 q1 p2 q2 p3 q3) (s : Same H H') : Pt K H' t p1 q1 p2 q2 p3 q3 := by
  obtain ⟨a, b, c, h, h1, h2, h3⟩ := p.ex
  exact ⟨⟨a, b, c, same_tup s h, same_tup s h1, same_tup s h2, same_tup s h3⟩, p.b1, p.b2, p.b3⟩
/-- the product of a direction and a point, over one divisor -/
def rn (x y z p1 q1 p2 q2 p3 q3 : Int) : Int := x * p1 * q2 * q3 + y * p2 * q1 * q3 + z * p3 * q1 * q2
/-- a plane: its normal, its offset -/
structure Wl (K : PySem.W.Frag) (H : Hp) (w : Addr) (x y z p q : Int) : Prop where
  ex : ∃ u o : Addr, SqT K H w [.ref u, .ref o] ∧ SqT K H u (zs [x, y, z]) ∧ SqT K H o (zs [p, q])
theorem Wl.same {K : PySem.W.Frag} {H H' : Hp} {w : Addr} {x y z p q : Int} (h : Wl K H w x y z p q) (s : Same H H') : Wl K H' w x y z p q := by
  obtain ⟨u, o, h1, h2, h3⟩ := h.ex
  exact ⟨u, o, same_tup s h1, same_tup s h2, same_tup s h3⟩
def spFraction (K : PySem.W.Frag) (CNought : Addr) : Sp := fun vs H Q E => ∃ n d : Int, vs = [.int n, .int d] ∧ d.natAbs < 2 ^ 2000 ∧ (d = 0 → E (.ref CNought) none H) ∧
  (d ≠ 0 → ∀ (H' : Hp) (t : Addr), Same H H' → H' t = some (.tup (zs (rd2 n d))) → Q (.ref t) H')
theorem okFraction {fFraction : Addr} {fdFraction : FuncData} (F : FunD K "fraction" "fraction" (defArgs sFraction) (defBody sFraction) (defScope sFraction) [.int 1] [] fFraction fdFraction) (T : Txt mg) {CPartError CNought : Addr} (EX : Exns K mg CPartError CNought) :
    FnOk P w K mg base (L2.CX P w) 1 fFraction fdFraction ["number", "divisor"] (spFraction K CNought) := by
  refine F.ok scFraction (fun vs H Q E h => ?_) (fun cdv A outer s H vs Q E hr h => ?_)
  · obtain ⟨n, d, rfl, hb, he, q⟩ := h
    rfl
  · obtain ⟨n, d, rfl, hb, he, q⟩ := h
    refine ⟨_, (pss_cons (ps_if (pt_cmpR op_eq (pv 1) pe_int (nomark _))
        (pss_one (ps_ret (pe_tup (pa_cons (pv 0) (pa_cons pe_int pa_nil)))))
        pss_nil)
      (pss_cons (ps_if (pt_cmpR op_eq (pv 1) pe_int (nomark _))
        (pss_one (ps_raise rfl (takes_of rfl rfl rfl rfl) (pmk_own PySem.F.excBase_ValueError EX.xNought EX.gNought EX.kNought (raises_own EX.bNought EX.tNought) rfl)))
        pss_nil)
      (pss_cons (ps_set (i := 2) scFraction.nd rfl (Or.inl rfl) (pe_callBfun cr_gcd (by rfl) T.gcd (pa_cons (pv 0) (pa_cons (pv 1) pa_nil))))
      (C8.pss_cut (ps_if (pt_cmpR op_lt (pv 1) pe_int (nomark _))
        (pss_one (ps_set (i := 2) scFraction.nd rfl (Or.inl rfl) (pe_un un_neg (pv 2))))
        pss_nil)
      (pss_one (ps_ret (pe_tup (pa_cons (pe_op op_fdivX (pv 0) (pv 2)) (pa_cons (pe_op op_fdivX (pv 1) (pv 2)) pa_nil))))))))), ?_⟩
    walk_at "rd"
    refine ite2 (fun g1 => ?_) (fun g1 => ?_)
    · obtain rfl : d = 1 := eq_of_dec g1
      refine ⟨_, rfl, by show 2 ≤ sizeLine; decide, fun t ht => ?_⟩
      exact q (by decide) _ t (same_upd ht) (by unfold rd2; rw [rd_one]; exact upd_same)
    walk_at "rd"
    refine ite2 (fun g => ?_) (fun g => ?_)
    · exact he (eq_of_dec g)
    · have hd := ne_of_nodec g
      refine ⟨_, rfl, _, rfl, n, d, rfl, ?_⟩
      refine ⟨fun σ' H' => σ' = [some (.int n), some (.int d), some (.int (sg n d))] ∧ H' = H, ?_, ?_⟩
      · walk_at "rd"
        refine ite2 (fun g2 => ?_) (fun g2 => ?_)
        · refine ⟨_, rfl, _, rfl, ?_, rfl⟩
          unfold sg
          rw [if_pos (of_decide_eq_true g2)]
          rfl
        · refine ⟨?_, rfl⟩
          unfold sg
          rw [if_neg (fun z => g2 (decide_eq_true z))]
          rfl
      · rintro σ' H' ⟨rfl, rfl⟩
        have hs := sg_ne (n := n) hd
        have hsb : (sg n d).natAbs < 2 ^ 2000 := by
          rw [sg_abs]
          exact Nat.lt_of_le_of_lt (Nat.le_of_dvd (by omega) (Nat.gcd_dvd_right _ _)) hb
        refine ⟨_, rfl, _, rfl, _, _, rfl, rfl, wide_divx hs hsb (by decide) (by decide), _, rfl, _, rfl, _, _, rfl, rfl, wide_divx hs hsb (by decide) (by decide), by show 2 ≤ sizeLine; decide, fun t ht => ?_⟩
        exact q hd _ t (same_upd ht) upd_same
def spOver (K : PySem.W.Frag) (CNought : Addr) : Sp := fun vs H Q E => ∃ (a b : Addr) (p q r s : Int), vs = [.ref a, .ref b] ∧ SqT K H a (zs [p, q]) ∧ SqT K H b (zs [r, s]) ∧ p.natAbs < 2 ^ 800 ∧ q.natAbs < 2 ^ 800 ∧ r.natAbs < 2 ^ 800 ∧ s.natAbs < 2 ^ 800 ∧
  (q * r = 0 → E (.ref CNought) none H) ∧ (q * r ≠ 0 → ∀ (H' : Hp) (t : Addr), Same H H' → H' t = some (.tup (zs (rd2 (p * s) (q * r)))) → Q (.ref t) H')
theorem okOver {fOver : Addr} {fdOver : FuncData} (F : Fun K "over" "over" sOver fOver fdOver) (T : Txt mg) {CPartError CNought : Addr} (EX : Exns K mg CPartError CNought)
    {fFraction : Addr} {fdFraction : FuncData} (GFraction : FnOk P w K mg base (L2.CX P w) 1 fFraction fdFraction ["number", "divisor"] (spFraction K CNought)) (gFraction : mg "fraction" = some (.ref fFraction)) (kpFraction : PySem.W.keepIn K (.ref fFraction) = true) (bFraction : Binds K fdFraction ["number", "divisor"] []) {dsFraction : List Value} (vdFraction : Vals [.int 1] dsFraction) (bdFraction : Binds K fdFraction ["number", "divisor"] dsFraction) :
    FnOk P w K mg base (L2.CX P w) 2 fOver fdOver ["a", "b"] (spOver K CNought) := by
  refine F.okX scOver (fun vs H Q E h => ?_) (fun cdv A outer s H vs Q E hr h => ?_)
  · obtain ⟨a, b, p, q, r, s, rfl, hA, hB, hp, hq, hr', hs, hE, k⟩ := h
    rfl
  · obtain ⟨a, b, p, q, r, s, rfl, hA, hB, hp, hq, hr', hs, hE, k⟩ := h
    refine ⟨_, (pss_one (ps_ret (pe_call GFraction hr (by rfl) gFraction kpFraction bFraction .nil (passes_call (takes_of rfl rfl rfl rfl) (fun _ _ _ _ h => h)) (pa_cons (pe_op op_mulW (pe_ix ix_tup (pv 0) pe_int (fun _ _ => rfl)) (pe_ix ix_tup (pv 1) pe_int (fun _ _ => rfl))) (pa_cons (pe_op op_mulW (pe_ix ix_tup (pv 0) pe_int (fun _ _ => rfl)) (pe_ix ix_tup (pv 1) pe_int (fun _ _ => rfl))) pa_nil))))), ?_⟩
    refine ⟨.ref a, rfl, a, _, 0, _, rfl, rfl, hA, atI_nat (j := 0) rfl, .ref b, rfl, b, _, 1, _, rfl, rfl, hB, atI_nat (j := 1) rfl, _, _, rfl, rfl, wide_mul hp hs (by decide) (by decide) (by decide), .ref a, rfl, a, _, 1, _, rfl, rfl, hA, atI_nat (j := 1) rfl, .ref b, rfl, b, _, 0, _, rfl, rfl, hB, atI_nat (j := 0) rfl, _, _, rfl, rfl, wide_mul hq hr' (by decide) (by decide) (by decide), _, _, rfl, by rw [Int.natAbs_mul]; exact Nat.lt_of_lt_of_le (Nat.mul_lt_mul'' hq hr') (by rw [← Nat.pow_add]; exact Nat.pow_le_pow_right (by decide) (by decide)), hE, k⟩
def spSignOf (K : PySem.W.Frag) : Sp := fun vs H Q _ => ∃ n : Int, vs = [.int n] ∧ Q (.int (sgn n)) H
theorem okSignOf {fSignOf : Addr} {fdSignOf : FuncData} (F : Fun K "sign_of" "sign_of" sSignOf fSignOf fdSignOf) (T : Txt mg) {CPartError CNought : Addr} (EX : Exns K mg CPartError CNought) :
    FnOk P w K mg base CX0 1 fSignOf fdSignOf ["number"] (spSignOf K) := by
  refine F.ok scSignOf (fun vs H Q E h => ?_) (fun cdv A outer s H vs Q E hr h => ?_)
  · obtain ⟨n, rfl, k⟩ := h
    rfl
  · obtain ⟨n, rfl, k⟩ := h
    refine ⟨_, (pss_cons (ps_if (pt_cmpR op_lt (pv 0) pe_int (nomark _))
        (pss_one (ps_ret (pe_un un_neg pe_int)))
        pss_nil)
      (pss_one (ps_ret (pe_ifExp (pt_cmpR op_gt (pv 0) pe_int (nomark _)) pe_int pe_int)))), ?_⟩
    unfold sgn at k
    refine ⟨_, rfl, _, _, rfl, rfl, _, rfl, ite2 (fun g => ?_) (fun g => ?_)⟩
    · rw [if_pos (of_decide_eq_true g)] at k
      exact ⟨_, rfl, k⟩
    · rw [if_neg (fun z => g (decide_eq_true z))] at k
      refine ⟨_, rfl, _, _, rfl, rfl, _, rfl, ?_⟩
      by_cases h0 : 0 < n
      · rw [if_pos h0] at k
        exact iteT' (decide_eq_true h0) k
      · rw [if_neg h0] at k
        exact iteF' (decide_eq_false h0) k
def spReachRatio (K : PySem.W.Frag) : Sp := fun vs H Q _ => ∃ (n t : Addr) (x y z p1 q1 p2 q2 p3 q3 : Int), vs = [.ref n, .ref t] ∧ SqT K H n (zs [x, y, z]) ∧ x.natAbs < 2 ^ 100 ∧ y.natAbs < 2 ^ 100 ∧ z.natAbs < 2 ^ 100 ∧ Pt K H t p1 q1 p2 q2 p3 q3 ∧
  ∀ (H' : Hp) (r : Addr), Same H H' → H' r = some (.tup (zs [rn x y z p1 q1 p2 q2 p3 q3, q1 * q2 * q3])) → Q (.ref r) H'
theorem okReachRatio {fReachRatio : Addr} {fdReachRatio : FuncData} (F : Fun K "reach_ratio" "reach_ratio" sReachRatio fReachRatio fdReachRatio) (T : Txt mg) {CPartError CNought : Addr} (EX : Exns K mg CPartError CNought) :
    FnOk P w K mg base CX0 1 fReachRatio fdReachRatio ["normal", "point"] (spReachRatio K) := by
  refine F.ok scReachRatio (fun vs H Q E h => ?_) (fun cdv A outer s H vs Q E hr h => ?_)
  · obtain ⟨n, t, x, y, z, p1, q1, p2, q2, p3, q3, rfl, hN, bx, bY, bz, hP, k⟩ := h
    rfl
  · obtain ⟨n, t, x, y, z, p1, q1, p2, q2, p3, q3, rfl, hN, bx, bY, bz, hP, k⟩ := h
    refine ⟨_, (pss_cons (ps_asg (pv 1) (pg_tup rfl (pgs_cons (pg_tup rfl (pgs_cons (pg_name (i := 2) scReachRatio.nd rfl (Or.inl rfl)) (pgs_cons (pg_name (i := 3) scReachRatio.nd rfl (Or.inl rfl)) pgs_nil))) (pgs_cons (pg_tup rfl (pgs_cons (pg_name (i := 4) scReachRatio.nd rfl (Or.inl rfl)) (pgs_cons (pg_name (i := 5) scReachRatio.nd rfl (Or.inl rfl)) pgs_nil))) (pgs_cons (pg_tup rfl (pgs_cons (pg_name (i := 6) scReachRatio.nd rfl (Or.inl rfl)) (pgs_cons (pg_name (i := 7) scReachRatio.nd rfl (Or.inl rfl)) pgs_nil))) pgs_nil)))))
      (pss_cons (ps_set (i := 8) scReachRatio.nd rfl (Or.inl rfl) (pe_op op_add (pe_op op_add (pe_op op_mulW (pe_op op_mulW (pe_op op_mulW (pe_ix ix_tup (pv 0) pe_int (fun _ _ => rfl)) (pv 2)) (pv 5)) (pv 7)) (pe_op op_mulW (pe_op op_mulW (pe_op op_mulW (pe_ix ix_tup (pv 0) pe_int (fun _ _ => rfl)) (pv 4)) (pv 3)) (pv 7))) (pe_op op_mulW (pe_op op_mulW (pe_op op_mulW (pe_ix ix_tup (pv 0) pe_int (fun _ _ => rfl)) (pv 6)) (pv 3)) (pv 5))))
      (pss_one (ps_ret (pe_tup (pa_cons (pv 8) (pa_cons (pe_op op_mulW (pe_op op_mulW (pv 3) (pv 5)) (pv 7)) pa_nil))))))), ?_⟩
    obtain ⟨⟨a, b, c, hT, h1, h2, h3⟩, ⟨bp1, bp2, bp3⟩, ⟨bq1, bq2, bq3⟩, c1, c2, c3⟩ := hP
    refine ⟨_, rfl, t, _, rfl, hT, rfl, _, _, rfl, a, _, rfl, h1, rfl, _, _, rfl, _, _, rfl, rfl, _, _, rfl, b, _, rfl, h2, rfl, _, _, rfl, _, _, rfl, rfl, _, _, rfl, c, _, rfl, h3, rfl, _, _, rfl, _, _, rfl, rfl, rfl, ?_⟩
    have e1 := wide_lt bx bp1
    have e2 := wide_lt e1 bq2
    have f1 := wide_lt bY bp2
    have f2 := wide_lt f1 bq1
    have g1 := wide_lt bz bp3
    have g2 := wide_lt g1 bq1
    have d1 := wide_lt bq1 bq2
    have d2 := wide_lt d1 bq3
    refine ⟨.ref n, rfl, n, _, 0, _, rfl, rfl, hN, atI_nat (j := 0) rfl, _, rfl, _, _, rfl, rfl, wide_mul bx bp1 (by decide) (by decide) (by decide), _, rfl, _, _, rfl, rfl, wide_mul e1 bq2 (by decide) (by decide) (by decide), _, rfl, _, _, rfl, rfl, wide_mul e2 bq3 (by decide) (by decide) (by decide), ?_⟩
    refine ⟨.ref n, rfl, n, _, 1, _, rfl, rfl, hN, atI_nat (j := 1) rfl, _, rfl, _, _, rfl, rfl, wide_mul bY bp2 (by decide) (by decide) (by decide), _, rfl, _, _, rfl, rfl, wide_mul f1 bq1 (by decide) (by decide) (by decide), _, rfl, _, _, rfl, rfl, wide_mul f2 bq3 (by decide) (by decide) (by decide), _, _, rfl, rfl, ?_⟩
    refine ⟨.ref n, rfl, n, _, 2, _, rfl, rfl, hN, atI_nat (j := 2) rfl, _, rfl, _, _, rfl, rfl, wide_mul bz bp3 (by decide) (by decide) (by decide), _, rfl, _, _, rfl, rfl, wide_mul g1 bq1 (by decide) (by decide) (by decide), _, rfl, _, _, rfl, rfl, wide_mul g2 bq2 (by decide) (by decide) (by decide), _, _, rfl, rfl, ?_⟩
    refine ⟨_, rfl, _, rfl, _, rfl, _, _, rfl, rfl, wide_mul bq1 bq2 (by decide) (by decide) (by decide), _, rfl, _, _, rfl, rfl, wide_mul d1 bq3 (by decide) (by decide) (by decide), by show 2 ≤ sizeLine; decide, fun r hr => k _ r (same_upd hr) upd_same⟩
def spReach (K : PySem.W.Frag) : Sp := fun vs H Q _ => ∃ (n t : Addr) (x y z p1 q1 p2 q2 p3 q3 : Int), vs = [.ref n, .ref t] ∧ SqT K H n (zs [x, y, z]) ∧ x.natAbs < 2 ^ 100 ∧ y.natAbs < 2 ^ 100 ∧ z.natAbs < 2 ^ 100 ∧ Pt K H t p1 q1 p2 q2 p3 q3 ∧
  ∀ (H' : Hp) (r : Addr), Same H H' → H' r = some (.tup (zs (rd2 (rn x y z p1 q1 p2 q2 p3 q3) (q1 * q2 * q3)))) → Q (.ref r) H'
theorem okReach {fReach : Addr} {fdReach : FuncData} (F : Fun K "reach" "reach" sReach fReach fdReach) (T : Txt mg) {CPartError CNought : Addr} (EX : Exns K mg CPartError CNought)
    {fReachRatio : Addr} {fdReachRatio : FuncData} (GReachRatio : FnOk P w K mg base CX0 1 fReachRatio fdReachRatio ["normal", "point"] (spReachRatio K)) (gReachRatio : mg "reach_ratio" = some (.ref fReachRatio)) (kpReachRatio : PySem.W.keepIn K (.ref fReachRatio) = true) (bReachRatio : Binds K fdReachRatio ["normal", "point"] [])
    {fFraction : Addr} {fdFraction : FuncData} (GFraction : FnOk P w K mg base (L2.CX P w) 1 fFraction fdFraction ["number", "divisor"] (spFraction K CNought)) (gFraction : mg "fraction" = some (.ref fFraction)) (kpFraction : PySem.W.keepIn K (.ref fFraction) = true) (bFraction : Binds K fdFraction ["number", "divisor"] []) {dsFraction : List Value} (vdFraction : Vals [.int 1] dsFraction) (bdFraction : Binds K fdFraction ["number", "divisor"] dsFraction) :
    FnOk P w K mg base CX0 2 fReach fdReach ["normal", "point"] (spReach K) := by
  refine F.ok scReach (fun vs H Q E h => ?_) (fun cdv A outer s H vs Q E hr h => ?_)
  · obtain ⟨n, t, x, y, z, p1, q1, p2, q2, p3, q3, rfl, hN, bx, bY, bz, hP, k⟩ := h
    rfl
  · obtain ⟨n, t, x, y, z, p1, q1, p2, q2, p3, q3, rfl, hN, bx, bY, bz, hP, k⟩ := h
    refine ⟨_, (pss_cons (ps_asg (pe_call GReachRatio hr (by rfl) gReachRatio kpReachRatio bReachRatio .nil pass0 (pa_cons (pv 0) (pa_cons (pv 1) pa_nil))) (pg_tup rfl (pgs_cons (pg_name (i := 2) scReach.nd rfl (Or.inl rfl)) (pgs_cons (pg_name (i := 3) scReach.nd rfl (Or.inl rfl)) pgs_nil))))
      (pss_one (ps_ret (pe_call GFraction hr (by rfl) gFraction kpFraction bFraction .nil passL (pa_cons (pv 2) (pa_cons (pv 3) pa_nil)))))), ?_⟩
    have b0 : 0 < q1 * q2 * q3 := Int.mul_pos (Int.mul_pos hP.b3.1 hP.b3.2.1) hP.b3.2.2
    have bm := wide_lt (wide_lt hP.b2.1 hP.b2.2.1) hP.b2.2.2
    refine ⟨_, rfl, _, rfl, n, t, x, y, z, p1, q1, p2, q2, p3, q3, rfl, hN, bx, bY, bz, hP, fun H1 r s1 e1 => ?_⟩
    refine ⟨r, _, rfl, SqT.of e1, rfl, _, _, rfl, _, _, rfl, rfl, ?_⟩
    exact ⟨_, rfl, _, rfl, _, _, rfl, Nat.lt_of_lt_of_le bm (Nat.pow_le_pow_right (by decide) (by decide)), fun h => absurd h (by omega), fun _ H' r2 s2 e => k H' r2 (s1.trans s2) e⟩
def spPrimitive (K : PySem.W.Frag) : Sp := fun vs H Q _ => ∃ (p : Addr) (x y z : Int), vs = [.ref p] ∧ SqT K H p (zs [x, y, z]) ∧ dv x y z ≠ 0 ∧ (dv x y z).natAbs < 1073741824 ∧
  ∀ (H' : Hp) (t u : Addr), Same H H' → H t = none → H u = none → H' t = some (.tup [.ref u, .int (dv x y z)]) → H' u = some (.tup (zs [x.fdiv (dv x y z), y.fdiv (dv x y z), z.fdiv (dv x y z)])) → Q (.ref t) H'
theorem okPrimitive {fPrimitive : Addr} {fdPrimitive : FuncData} (F : Fun K "primitive" "primitive" sPrimitive fPrimitive fdPrimitive) (T : Txt mg) {CPartError CNought : Addr} (EX : Exns K mg CPartError CNought)
    {fCommon : Addr} {fdCommon : FuncData} (GCommon : FnOk P w K mg base CX0 1 fCommon fdCommon ["a", "b"] (spCommon K)) (gCommon : mg "common" = some (.ref fCommon)) (kpCommon : PySem.W.keepIn K (.ref fCommon) = true) (bCommon : Binds K fdCommon ["a", "b"] []) :
    FnOk P w K mg base CX0 2 fPrimitive fdPrimitive ["a"] (spPrimitive K) := by
  refine F.ok scPrimitive (fun vs H Q E h => ?_) (fun cdv A outer s H vs Q E hr h => ?_)
  · obtain ⟨p, x, y, z, rfl, hS, hd0, hd1, q⟩ := h
    rfl
  · obtain ⟨p, x, y, z, rfl, hS, hd0, hd1, q⟩ := h
    refine ⟨_, (pss_cons (ps_set (i := 1) scPrimitive.nd rfl (Or.inr rfl) (pe_call GCommon hr (by rfl) gCommon kpCommon bCommon .nil pass0 (pa_cons (pe_call GCommon hr (by rfl) gCommon kpCommon bCommon .nil pass0 (pa_cons (pe_ix ix_tup (pv 0) pe_int (fun _ _ => rfl)) (pa_cons (pe_ix ix_tup (pv 0) pe_int (fun _ _ => rfl)) pa_nil))) (pa_cons (pe_ix ix_tup (pv 0) pe_int (fun _ _ => rfl)) pa_nil))))
      (C8.pss_cut (ps_if (pt_cmpR (op_ltT hr.units0) (pv 0) (pe_tup (pa_cons pe_int (pa_cons pe_int (pa_cons pe_int pa_nil)))) (nomark _))
        (pss_one (ps_set (i := 1) scPrimitive.nd rfl (Or.inr rfl) (pe_un un_neg (pv 1))))
        pss_nil)
      (pss_one (ps_ret (pe_tup (pa_cons (pe_callTy call_tuple_of (by rfl) T.tuple (by decide +kernel) (pa_cons (pe_lc (own := [("part", 2)]) (by rfl) scPrimitive.nd (pi_tup (pv 0)) (blkOk_by (own := [("part", 2)]) (N := ["a", "divisor", "part"]) (sc := defScope sPrimitive) (by decide +kernel)) (fun _ _ _ _ _ => (pg_name (i := 2) scPrimitive.nd rfl (Or.inl rfl))) (fun _ _ _ _ _ => pts_nil) (fun _ _ _ _ _ => (pe_op op_fdivN (pv 2) (pv 1)))) pa_nil)) (pa_cons (pv 1) pa_nil))))))), ?_⟩
    refine ⟨.ref p, rfl, p, _, _, _, rfl, rfl, hS, atI_nat (j := 0) rfl, .ref p, rfl, p, _, _, _, rfl, rfl, hS, atI_nat (j := 1) rfl, x, y, rfl, .ref p, rfl, p, _, _, _, rfl, rfl, hS, atI_nat (j := 2) rfl, _, z, rfl, ?_⟩
    refine ⟨fun σ' H' => σ' = [some (.ref p), some (.int (dv x y z)), none] ∧ Same H H', ?_, ?_⟩
    · refine ⟨.ref p, rfl, by decide, fun t ht => ?_⟩
      refine ⟨p, t, [x, y, z], [0, 0, 0], rfl, rfl, same_tup (same_upd ht) hS, SqT.of upd_same, _, rfl, ?_⟩
      cases e : HT.lexLt [x, y, z] [0, 0, 0] with
      | true =>
        refine iteT ⟨_, rfl, _, rfl, ?_, same_upd ht⟩
        unfold dv
        rw [if_pos e]
        rfl
      | false =>
        refine iteF ⟨?_, same_upd ht⟩
        unfold dv
        rw [if_neg (by rw [e]; exact Bool.false_ne_true)]
        rfl
    · rintro σ' H1 ⟨rfl, s1⟩
      refine ⟨.ref p, rfl, p, rfl, ⟨_, same_tup s1 hS⟩, fun D hD => ?_⟩
      have hD0 : ∀ {H2 : Hp}, Same H1 H2 → Same H H2 := fun s2 => s1.trans s2
      refine lc_tup (K := K) (a := p) (xs := zs [x, y, z]) (fun i H2 => Same H1 H2 ∧ H2 D = some (.lst (zs (([x, y, z].map fun v => v.fdiv (dv x y z)).take i)))) ⟨same_upd hD, upd_same⟩ (fun i H2 _ h => same_tup (hD0 h.1) hS) ?_ ?_
      · rintro i v H2 hi ⟨s2, e2⟩
        obtain ⟨n, rfl, hn⟩ := zs_get hi
        refine ⟨rfl, _, rfl, _, rfl, _, _, rfl, rfl, ⟨hd0, hd1⟩, _, e2, zs_len _ (by show 3 ≤ 1000; decide), fun b o e => ?_, ?_⟩
        · rw [upd_ne (ne_of_none e hD)]
          exact s2 b o e
        · rw [upd_same, zs_snoc (fun v => v.fdiv (dv x y z)) hn]
      · rintro H2 ⟨s2, e2⟩
        have e2' : H2 D = some (.lst (zs [x.fdiv (dv x y z), y.fdiv (dv x y z), z.fdiv (dv x y z)])) := e2
        refine ⟨D, _, rfl, .inl ⟨SqL.of e2', fun u hu => ⟨_, rfl, by show 2 ≤ sizeLine; decide, fun t ht => ?_⟩⟩⟩
        have s3 : Same H2 (upd H2 u (.tup (zs [x.fdiv (dv x y z), y.fdiv (dv x y z), z.fdiv (dv x y z)]))) := same_upd hu
        have s4 := same_upd (o := .tup [.ref u, .int (dv x y z)]) ht
        refine q _ t u ((hD0 s2).trans (s3.trans s4)) ((hD0 s2).trans s3 |>.free ht) ((hD0 s2).free hu) upd_same ?_
        rw [upd_ne (ne_of_none (upd_same (H := H2) (a := u)) ht)]
        exact upd_same
def spPlaneOf (K : PySem.W.Frag) : Sp := fun vs H Q _ => ∃ (n o : Addr) (x y z p q : Int), vs = [.ref n, .ref o] ∧ SqT K H n (zs [x, y, z]) ∧ SqT K H o (zs [p, q]) ∧ dv x y z ≠ 0 ∧ (dv x y z).natAbs < 1073741824 ∧ p.natAbs < 2 ^ 800 ∧ q.natAbs < 2 ^ 800 ∧ 0 < q ∧
  ∀ (H' : Hp) (t w u o' : Addr) (b : Bool), Same H H' → H' t = some (.tup [.ref w, .bl b]) → H' w = some (.tup [.ref u, .ref o']) → H' u = some (.tup (zs [x.fdiv (dv x y z), y.fdiv (dv x y z), z.fdiv (dv x y z)])) → H' o' = some (.tup (zs (rd2 (p * 1) (q * dv x y z)))) → Q (.ref t) H'
theorem okPlaneOf {fPlaneOf : Addr} {fdPlaneOf : FuncData} (F : Fun K "plane_of" "plane_of" sPlaneOf fPlaneOf fdPlaneOf) (T : Txt mg) {CPartError CNought : Addr} (EX : Exns K mg CPartError CNought)
    {fPrimitive : Addr} {fdPrimitive : FuncData} (GPrimitive : FnOk P w K mg base CX0 2 fPrimitive fdPrimitive ["a"] (spPrimitive K)) (gPrimitive : mg "primitive" = some (.ref fPrimitive)) (kpPrimitive : PySem.W.keepIn K (.ref fPrimitive) = true) (bPrimitive : Binds K fdPrimitive ["a"] [])
    {fOver : Addr} {fdOver : FuncData} (GOver : FnOk P w K mg base (L2.CX P w) 2 fOver fdOver ["a", "b"] (spOver K CNought)) (gOver : mg "over" = some (.ref fOver)) (kpOver : PySem.W.keepIn K (.ref fOver) = true) (bOver : Binds K fdOver ["a", "b"] [])
    {fFraction : Addr} {fdFraction : FuncData} (GFraction : FnOk P w K mg base (L2.CX P w) 1 fFraction fdFraction ["number", "divisor"] (spFraction K CNought)) (gFraction : mg "fraction" = some (.ref fFraction)) (kpFraction : PySem.W.keepIn K (.ref fFraction) = true) (bFraction : Binds K fdFraction ["number", "divisor"] []) {dsFraction : List Value} (vdFraction : Vals [.int 1] dsFraction) (bdFraction : Binds K fdFraction ["number", "divisor"] dsFraction) :
    FnOk P w K mg base CX0 3 fPlaneOf fdPlaneOf ["normal", "offset"] (spPlaneOf K) := by
  refine F.ok scPlaneOf (fun vs H Q E h => ?_) (fun cdv A outer s H vs Q E hr h => ?_)
  · obtain ⟨n, o, x, y, z, p, q, rfl, hN, hO, hd0, hd1, bp, bq, q0, k⟩ := h
    rfl
  · obtain ⟨n, o, x, y, z, p, q, rfl, hN, hO, hd0, hd1, bp, bq, q0, k⟩ := h
    refine ⟨_, (pss_cons (ps_asg (pe_call GPrimitive hr (by rfl) gPrimitive kpPrimitive bPrimitive .nil pass0 (pa_cons (pv 0) pa_nil)) (pg_tup rfl (pgs_cons (pg_name (i := 2) scPlaneOf.nd rfl (Or.inl rfl)) (pgs_cons (pg_name (i := 3) scPlaneOf.nd rfl (Or.inl rfl)) pgs_nil))))
      (pss_one (ps_ret (pe_tup (pa_cons (pe_tup (pa_cons (pv 2) (pa_cons (pe_call GOver hr (by rfl) gOver kpOver bOver .nil passL (pa_cons (pv 1) (pa_cons (pe_call GFraction (hr.mono (by decide)) (by rfl) gFraction kpFraction bdFraction vdFraction passL (pa_cons (pv 3) pa_nil)) pa_nil))) pa_nil))) (pa_cons (pe_cmpR op_gt (pv 3) pe_int (nomark _)) pa_nil)))))), ?_⟩
    refine ⟨_, rfl, n, x, y, z, rfl, hN, hd0, hd1, fun H1 t u s1 nt nu et eu => ?_⟩
    refine ⟨t, _, rfl, SqT.of et, rfl, _, _, rfl, _, _, rfl, rfl, ?_⟩
    have bdv : (dv x y z).natAbs < 2 ^ 800 := Nat.lt_of_lt_of_le hd1 (Nat.pow_le_pow_right (n := 2) (i := 30) (by decide) (by decide))
    have hO1 := same_tup s1 hO
    refine ⟨_, rfl, _, rfl, _, rfl, dv x y z, 1, rfl, by show 1 < 2 ^ 2000; exact Nat.one_lt_two_pow (by decide), fun h => absurd h (by decide), fun _ H2 t2 s2 e2 => ?_⟩
    rw [show rd2 (dv x y z) 1 = [dv x y z, 1] by unfold rd2; rw [sg_one, Int.fdiv_one, Int.fdiv_one]] at e2
    refine ⟨o, t2, p, q, dv x y z, 1, rfl, same_tup s2 hO1, SqT.of e2, bp, bq, bdv, by show 1 < 2 ^ 800; exact Nat.one_lt_two_pow (by decide), fun h => absurd h (Int.mul_ne_zero (by omega) hd0), fun _ H3 o' s3 e3 => ?_⟩
    refine ⟨by show 2 ≤ sizeLine; decide, fun w nw => ?_⟩
    refine ⟨_, rfl, _, _, rfl, rfl, by show 2 ≤ sizeLine; decide, fun t4 n4 => ?_⟩
    have s13 := s2.trans s3
    have s4 : Same H3 (upd H3 w (.tup [.ref u, .ref o'])) := same_upd nw
    have s5 := same_upd (o := .tup [.ref w, .bl (decide (0 < dv x y z))]) n4
    refine k _ t4 w u o' _ (s1.trans (s13.trans (s4.trans s5))) upd_same (s5 _ _ upd_same) (s5 _ _ (s4 _ _ (s13 _ _ eu))) (s5 _ _ (s4 _ _ e3))
def spPlane (K : PySem.W.Frag) : Sp := fun vs H Q _ => ∃ (n o : Addr) (x y z p q : Int), vs = [.ref n, .ref o] ∧ SqT K H n (zs [x, y, z]) ∧ SqT K H o (zs [p, q]) ∧ dv x y z ≠ 0 ∧ (dv x y z).natAbs < 1073741824 ∧ p.natAbs < 2 ^ 800 ∧ q.natAbs < 2 ^ 800 ∧ 0 < q ∧
  ∀ (H' : Hp) (w u o' : Addr), Same H H' → H' w = some (.tup [.ref u, .ref o']) → H' u = some (.tup (zs [x.fdiv (dv x y z), y.fdiv (dv x y z), z.fdiv (dv x y z)])) → H' o' = some (.tup (zs (rd2 (p * 1) (q * dv x y z)))) → Q (.ref w) H'
theorem okPlane {fPlane : Addr} {fdPlane : FuncData} (F : Fun K "plane" "plane" sPlane fPlane fdPlane) (T : Txt mg) {CPartError CNought : Addr} (EX : Exns K mg CPartError CNought)
    {fPlaneOf : Addr} {fdPlaneOf : FuncData} (GPlaneOf : FnOk P w K mg base CX0 3 fPlaneOf fdPlaneOf ["normal", "offset"] (spPlaneOf K)) (gPlaneOf : mg "plane_of" = some (.ref fPlaneOf)) (kpPlaneOf : PySem.W.keepIn K (.ref fPlaneOf) = true) (bPlaneOf : Binds K fdPlaneOf ["normal", "offset"] []) :
    FnOk P w K mg base CX0 4 fPlane fdPlane ["direction", "offset"] (spPlane K) := by
  refine F.ok scPlane (fun vs H Q E h => ?_) (fun cdv A outer s H vs Q E hr h => ?_)
  · obtain ⟨n, o, x, y, z, p, q, rfl, hN, hO, hd0, hd1, bp, bq, q0, k⟩ := h
    rfl
  · obtain ⟨n, o, x, y, z, p, q, rfl, hN, hO, hd0, hd1, bp, bq, q0, k⟩ := h
    refine ⟨_, (pss_one (ps_ret (pe_ix ix_tup (pe_call GPlaneOf hr (by rfl) gPlaneOf kpPlaneOf bPlaneOf .nil pass0 (pa_cons (pv 0) (pa_cons (pv 1) pa_nil))) pe_int (fun _ _ => rfl)))), ?_⟩
    refine ⟨_, rfl, _, rfl, n, o, x, y, z, p, q, rfl, hN, hO, hd0, hd1, bp, bq, q0, fun H' t w u o' b s1 e1 e2 e3 e4 => ?_⟩
    exact ⟨t, _, 0, _, rfl, rfl, SqT.of e1, atI_nat (j := 0) rfl, k H' w u o' s1 e2 e3 e4⟩
def spAlong (K : PySem.W.Frag) : Sp := fun vs H Q _ => ∃ (n t : Addr) (x y z p1 q1 p2 q2 p3 q3 : Int), vs = [.ref n, .ref t] ∧ SqT K H n (zs [x, y, z]) ∧ x.natAbs < 2 ^ 100 ∧ y.natAbs < 2 ^ 100 ∧ z.natAbs < 2 ^ 100 ∧ Pt K H t p1 q1 p2 q2 p3 q3 ∧
  ∀ (H' : Hp) (r : Addr), Same H H' → H' r = some (.tup (zs (rd2 (rn x y z p1 q1 p2 q2 p3 q3) (q1 * q2 * q3)))) → Q (.ref r) H'
theorem okAlong {fAlong : Addr} {fdAlong : FuncData} (F : Fun K "along" "along" sAlong fAlong fdAlong) (T : Txt mg) {CPartError CNought : Addr} (EX : Exns K mg CPartError CNought)
    {fReach : Addr} {fdReach : FuncData} (GReach : FnOk P w K mg base CX0 2 fReach fdReach ["normal", "point"] (spReach K)) (gReach : mg "reach" = some (.ref fReach)) (kpReach : PySem.W.keepIn K (.ref fReach) = true) (bReach : Binds K fdReach ["normal", "point"] []) :
    FnOk P w K mg base CX0 3 fAlong fdAlong ["direction", "point"] (spAlong K) := by
  refine F.ok scAlong (fun vs H Q E h => ?_) (fun cdv A outer s H vs Q E hr h => ?_)
  · obtain ⟨n, t, x, y, z, p1, q1, p2, q2, p3, q3, rfl, hN, bx, bY, bz, hP, k⟩ := h
    rfl
  · obtain ⟨n, t, x, y, z, p1, q1, p2, q2, p3, q3, rfl, hN, bx, bY, bz, hP, k⟩ := h
    refine ⟨_, (pss_one (ps_ret (pe_call GReach hr (by rfl) gReach kpReach bReach .nil pass0 (pa_cons (pv 0) (pa_cons (pv 1) pa_nil))))), ?_⟩
    exact ⟨_, rfl, _, rfl, n, t, x, y, z, p1, q1, p2, q2, p3, q3, rfl, hN, bx, bY, bz, hP, k⟩
/-- the side of a point: by its product brought to lowest terms -/
def sd (x y z p q p1 q1 p2 q2 p3 q3 : Int) : Int := sgn (rn x y z p1 q1 p2 q2 p3 q3 * q - p * (q1 * q2 * q3))
theorem sd_low {A B a b p q : Int} (f : Fr A B a b) (hB : 0 < B) (hq : 0 < q) : sgn ((a * q - p * b).fdiv (sg (a * q - p * b) (b * q))) = sgn (A * q - p * B) := by
  have b0 := f.q0
  rw [sgn_low (Int.mul_pos b0 hq)]
  have h1 : 0 < sg A B := sg_pos hB
  have e1 := f.hp
  have e2 := f.hq
  rw [← sgn_mul (a := a * q - p * b) h1]
  congr 1
  grind
theorem sd_low2 {A B a b p q : Int} (f : Fr A B a b) (hB : 0 < B) : sgn (a * q - p * b) = sgn (A * q - p * B) := by
  have h1 : 0 < sg A B := sg_pos hB
  have e1 := f.hp
  have e2 := f.hq
  rw [← sgn_mul (a := a * q - p * b) h1]
  congr 1
  grind
theorem rn_lt {x y z p1 q1 p2 q2 p3 q3 : Int} (bx : x.natAbs < 2 ^ 100) (bY : y.natAbs < 2 ^ 100) (bz : z.natAbs < 2 ^ 100) (h1 : p1.natAbs < 2 ^ 100 ∧ p2.natAbs < 2 ^ 100 ∧ p3.natAbs < 2 ^ 100) (h2 : q1.natAbs < 2 ^ 100 ∧ q2.natAbs < 2 ^ 100 ∧ q3.natAbs < 2 ^ 100) :
    (rn x y z p1 q1 p2 q2 p3 q3).natAbs < 2 ^ 402 ∧ (q1 * q2 * q3).natAbs < 2 ^ 402 := by
  obtain ⟨bp1, bp2, bp3⟩ := h1
  obtain ⟨bq1, bq2, bq3⟩ := h2
  have e1 := wide_lt (wide_lt (wide_lt bx bp1) bq2) bq3
  have e2 := wide_lt (wide_lt (wide_lt bY bp2) bq1) bq3
  have e3 := wide_lt (wide_lt (wide_lt bz bp3) bq1) bq2
  have d := wide_lt (wide_lt bq1 bq2) bq3
  have p : (2 : Nat) ^ 402 = 4 * 2 ^ (100 + 100 + 100 + 100) := by
    rw [show (402 : Nat) = 2 + (100 + 100 + 100 + 100) from rfl, Nat.pow_add]
  have pp2 : (2 : Nat) ^ (100 + 100 + 100) ≤ 2 ^ (100 + 100 + 100 + 100) := Nat.pow_le_pow_right (by decide) (by decide)
  have a1 := Int.natAbs_add_le (x * p1 * q2 * q3) (y * p2 * q1 * q3)
  have a2 := Int.natAbs_add_le (x * p1 * q2 * q3 + y * p2 * q1 * q3) (z * p3 * q1 * q2)
  unfold rn
  generalize (2 : Nat) ^ (100 + 100 + 100 + 100) = B at *
  omega
def spSide (K : PySem.W.Frag) : Sp := fun vs H Q _ => ∃ (w t : Addr) (x y z p q p1 q1 p2 q2 p3 q3 : Int), vs = [.ref w, .ref t] ∧ Wl K H w x y z p q ∧ x.natAbs < 2 ^ 100 ∧ y.natAbs < 2 ^ 100 ∧ z.natAbs < 2 ^ 100 ∧ p.natAbs < 2 ^ 600 ∧ q.natAbs < 2 ^ 600 ∧ 0 < q ∧ Pt K H t p1 q1 p2 q2 p3 q3 ∧
  ∀ H' : Hp, Same H H' → Q (.int (sd x y z p q p1 q1 p2 q2 p3 q3)) H'
theorem okSide {fSide : Addr} {fdSide : FuncData} (F : Fun K "side" "side" sSide fSide fdSide) (T : Txt mg) {CPartError CNought : Addr} (EX : Exns K mg CPartError CNought)
    {fReachRatio : Addr} {fdReachRatio : FuncData} (GReachRatio : FnOk P w K mg base CX0 1 fReachRatio fdReachRatio ["normal", "point"] (spReachRatio K)) (gReachRatio : mg "reach_ratio" = some (.ref fReachRatio)) (kpReachRatio : PySem.W.keepIn K (.ref fReachRatio) = true) (bReachRatio : Binds K fdReachRatio ["normal", "point"] [])
    {fSignOf : Addr} {fdSignOf : FuncData} (GSignOf : FnOk P w K mg base CX0 1 fSignOf fdSignOf ["number"] (spSignOf K)) (gSignOf : mg "sign_of" = some (.ref fSignOf)) (kpSignOf : PySem.W.keepIn K (.ref fSignOf) = true) (bSignOf : Binds K fdSignOf ["number"] []) :
    FnOk P w K mg base CX0 2 fSide fdSide ["wall", "point"] (spSide K) := by
  refine F.ok scSide (fun vs H Q E h => ?_) (fun cdv A outer s H vs Q E hr h => ?_)
  · obtain ⟨w, t, x, y, z, p, q, p1, q1, p2, q2, p3, q3, rfl, ⟨u, o, hW, hU, hO⟩, bx, bY, bz, bp, bq, q0, hP, k⟩ := h
    rfl
  · obtain ⟨w, t, x, y, z, p, q, p1, q1, p2, q2, p3, q3, rfl, ⟨u, o, hW, hU, hO⟩, bx, bY, bz, bp, bq, q0, hP, k⟩ := h
    refine ⟨_, (pss_cons (ps_asg (pv 0) (pg_tup rfl (pgs_cons (pg_name (i := 2) scSide.nd rfl (Or.inl rfl)) (pgs_cons (pg_tup rfl (pgs_cons (pg_name (i := 3) scSide.nd rfl (Or.inl rfl)) (pgs_cons (pg_name (i := 4) scSide.nd rfl (Or.inl rfl)) pgs_nil))) pgs_nil))))
      (pss_cons (ps_asg (pe_call GReachRatio hr (by rfl) gReachRatio kpReachRatio bReachRatio .nil pass0 (pa_cons (pv 2) (pa_cons (pv 1) pa_nil))) (pg_tup rfl (pgs_cons (pg_name (i := 5) scSide.nd rfl (Or.inl rfl)) (pgs_cons (pg_name (i := 6) scSide.nd rfl (Or.inl rfl)) pgs_nil))))
      (pss_one (ps_ret (pe_call GSignOf hr (by rfl) gSignOf kpSignOf bSignOf .nil pass0 (pa_cons (pe_op op_sub (pe_op op_mulW (pv 5) (pv 4)) (pe_op op_mulW (pv 3) (pv 6))) pa_nil)))))), ?_⟩
    obtain ⟨bn, bm⟩ := rn_lt bx bY bz hP.b1 hP.b2
    refine ⟨_, rfl, w, _, rfl, hW, rfl, _, _, rfl, _, _, rfl, o, _, rfl, hO, rfl, _, _, rfl, _, _, rfl, rfl, rfl, ?_⟩
    refine ⟨_, rfl, _, rfl, u, t, x, y, z, p1, q1, p2, q2, p3, q3, rfl, hU, bx, bY, bz, hP, fun H1 r s1 e1 => ?_⟩
    refine ⟨r, _, rfl, SqT.of e1, rfl, _, _, rfl, _, _, rfl, rfl, ?_⟩
    refine ⟨_, rfl, _, rfl, _, _, rfl, rfl, wide_mul bn bq (by decide) (by decide) (by decide), _, rfl, _, rfl, _, _, rfl, rfl, wide_mul bp bm (by decide) (by decide) (by decide), _, _, rfl, rfl, ?_⟩
    exact ⟨_, rfl, k H1 s1⟩
def spSides (K : PySem.W.Frag) : Sp := fun vs H Q _ => ∃ (l w t : Addr) (x y z p q p1 q1 p2 q2 p3 q3 : Int), vs = [.ref l, .ref t] ∧ SqL K H l [.ref w, .ref w] ∧ Wl K H w x y z p q ∧ x.natAbs < 2 ^ 100 ∧ y.natAbs < 2 ^ 100 ∧ z.natAbs < 2 ^ 100 ∧ p.natAbs < 2 ^ 600 ∧ q.natAbs < 2 ^ 600 ∧ 0 < q ∧ Pt K H t p1 q1 p2 q2 p3 q3 ∧
  ∀ (H' : Hp) (r : Addr), Same H H' → H' r = some (.tup (zs [sd x y z p q p1 q1 p2 q2 p3 q3, sd x y z p q p1 q1 p2 q2 p3 q3])) → Q (.ref r) H'
theorem okSides {fSides : Addr} {fdSides : FuncData} (F : Fun K "sides" "sides" sSides fSides fdSides) (T : Txt mg) {CPartError CNought : Addr} (EX : Exns K mg CPartError CNought)
    {fSide : Addr} {fdSide : FuncData} (GSide : FnOk P w K mg base CX0 2 fSide fdSide ["wall", "point"] (spSide K)) (gSide : mg "side" = some (.ref fSide)) (kpSide : PySem.W.keepIn K (.ref fSide) = true) (bSide : Binds K fdSide ["wall", "point"] []) :
    FnOk P w K mg base CX0 3 fSides fdSides ["walls", "point"] (spSides K) := by
  refine F.ok scSides (fun vs H Q E h => ?_) (fun cdv A outer s H vs Q E hr h => ?_)
  · obtain ⟨l, w, t, x, y, z, p, q, p1, q1, p2, q2, p3, q3, rfl, hL, hW, bx, bY, bz, bp, bq, q0, hP, k⟩ := h
    rfl
  · obtain ⟨l, w, t, x, y, z, p, q, p1, q1, p2, q2, p3, q3, rfl, hL, hW, bx, bY, bz, bp, bq, q0, hP, k⟩ := h
    refine ⟨_, (pss_one (ps_ret (pe_callTy call_tuple_of (by rfl) T.tuple (by decide +kernel) (pa_cons (pe_lc (own := [("wall", 2)]) (by rfl) scSides.nd (pi_list (pv 0)) (blkOk_by (own := [("wall", 2)]) (N := ["walls", "point", "wall"]) (sc := defScope sSides) (by decide +kernel)) (fun _ _ _ _ _ => (pg_name (i := 2) scSides.nd rfl (Or.inl rfl))) (fun _ _ _ _ _ => pts_nil) (fun _ _ _ _ _ => (pe_call GSide hr (by rfl) gSide kpSide bSide .nil pass0 (pa_cons (pv 2) (pa_cons (pv 1) pa_nil))))) pa_nil)))), ?_⟩
    generalize hs : sd x y z p q p1 q1 p2 q2 p3 q3 = s0 at k
    refine ⟨.ref l, rfl, l, rfl, ⟨_, hL⟩, fun D hD => ?_⟩
    refine lc_list (K := K) (a := l) (xs := [.ref w, .ref w]) (fun i H2 => Same H H2 ∧ H2 D = some (.lst (zs (List.replicate i s0)))) ⟨same_upd hD, upd_same⟩ (fun i H2 _ h => h.1.seq hL) ?_ ?_
    · rintro i v H2 hi ⟨s2, e2⟩
      have hil : i < 2 := (List.getElem?_eq_some_iff.mp hi).1
      obtain rfl : v = .ref w := by
        obtain rfl | rfl : i = 0 ∨ i = 1 := by omega
        · exact (Option.some.inj hi).symm
        · exact (Option.some.inj hi).symm
      refine ⟨rfl, _, rfl, _, rfl, w, t, x, y, z, p, q, p1, q1, p2, q2, p3, q3, rfl, hW.same s2, bx, bY, bz, bp, bq, q0, hP.same s2, fun H3 s3 => ?_⟩
      rw [hs]
      refine ⟨_, s3 _ _ e2, zs_lt (by rw [List.length_replicate]; omega), fun b o e => ?_, ?_⟩
      · rw [upd_ne (ne_of_none e hD)]
        exact s3 b o (s2 b o e)
      · rw [upd_same, zs_push, List.replicate_succ']
    · rintro H2 ⟨s2, e2⟩
      exact ⟨D, _, rfl, .inl ⟨SqL.of e2, fun u hu => k _ u (s2.trans (same_upd hu)) upd_same⟩⟩
def spLLawIsInteger (K : PySem.W.Frag) : Sp := fun vs H Q _ => ∃ n : Int, vs = [.int n] ∧ Q (.bl true) H
theorem okLLawIsInteger {fLLawIsInteger : Addr} {fdLLawIsInteger : FuncData} (F : Fun K "_law_is_integer" "_law_is_integer" sLLawIsInteger fLLawIsInteger fdLLawIsInteger) (T : Txt mg) {CPartError CNought : Addr} (EX : Exns K mg CPartError CNought) :
    FnOk P w K mg base CX0 1 fLLawIsInteger fdLLawIsInteger ["actual"] (spLLawIsInteger K) := by
  refine F.ok scLLawIsInteger (fun vs H Q E h => ?_) (fun cdv A outer s H vs Q E hr h => ?_)
  · obtain ⟨n, rfl, q⟩ := h
    rfl
  · obtain ⟨n, rfl, q⟩ := h
    refine ⟨_, (pss_one (ps_ret (pe_and (pe_callB call_isi (by rfl) T.isinstance (by decide +kernel) (pa_cons (pv 0) (pa_cons (pe_bltn (v := .ty "int") (by rfl) T.int (by decide +kernel) rfl) pa_nil))) (pe_one (pe_not (pe_callB call_isi (by rfl) T.isinstance (by decide +kernel) (pa_cons (pv 0) (pa_cons (pe_bltn (v := .ty "bool") (by rfl) T.bool (by decide +kernel) rfl) pa_nil)))))))), ?_⟩
    refine ⟨.int n, rfl, .int n, .ty "int", .type "int", .type "int", true, rfl, (.ty _), .base (.int n), kit_ty (by decide +kernel), true, rfl, iteT ?_⟩
    exact ⟨.int n, rfl, .int n, .ty "bool", .type "int", .type "bool", false, rfl, (.ty _), .base (.int n), kit_ty (by decide +kernel), false, rfl, q⟩
def spLLawCell (K : PySem.W.Frag) : Sp := fun vs H Q _ => ∃ (a : Addr) (ns : List Int) (k : Nat), vs = [.ref a, .int k] ∧ SqL K H a (zs ns) ∧ ∀ c : Int, 0 ≤ c → Q (.int c) H
theorem okLLawCell {fLLawCell : Addr} {fdLLawCell : FuncData} (F : Fun K "_law_cell" "_law_cell" sLLawCell fLLawCell fdLLawCell) (T : Txt mg) {CPartError CNought : Addr} (EX : Exns K mg CPartError CNought) :
    FnOk P w K mg base CX0 1 fLLawCell fdLLawCell ["script", "k"] (spLLawCell K) := by
  refine F.ok scLLawCell (fun vs H Q E h => ?_) (fun cdv A outer s H vs Q E hr h => ?_)
  · obtain ⟨a, ns, k, rfl, hS, q⟩ := h
    rfl
  · obtain ⟨a, ns, k, rfl, hS, q⟩ := h
    refine ⟨_, (pss_cons (ps_if (pt_cmpR op_lt (pv 1) (pe_callB call_len_seq (by rfl) T.len PySem.boot_len (pa_cons (pv 0) pa_nil)) (nomark _))
        (pss_one (ps_ret (pe_callB call_abs (by rfl) T.abs (by decide +kernel) (pa_cons (pe_callTy call_int1 (by rfl) T.int (by decide +kernel) (pa_cons (pe_ix ix_list (pv 0) (pv 1) (fun _ _ => rfl)) pa_nil)) pa_nil))))
        pss_nil)
      (pss_one (ps_ret pe_int))), ?_⟩
    refine ⟨_, rfl, .ref a, rfl, a, _, rfl, .inl hS, _, _, rfl, rfl, _, rfl, ite2 (fun hlt => ?_) (fun _ => ?_)⟩
    · have h1 := of_decide_eq_true hlt
      rw [show zs ns = ns.map V.int from rfl, List.length_map] at h1
      have h2 : k < ns.length := by omega
      have h3 : (zs ns)[k]? = some (.int ns[k]) := by
        rw [show zs ns = ns.map V.int from rfl, List.getElem?_map, List.getElem?_eq_getElem h2]
        rfl
      refine ⟨.ref a, rfl, _, rfl, a, _, _, _, rfl, rfl, hS, atI_nat h3, .inl ⟨_, rfl, _, rfl, q _ ?_⟩⟩
      split <;> omega
    · exact q 0 (by decide)
def spLLawRow (K : PySem.W.Frag) : Sp := fun vs H Q _ => ∃ (cell base : Int) (n : Nat), vs = [.int cell, .int n, .int base] ∧ 0 < base ∧ base < 1000000 ∧ n ≤ 1000 ∧
  ∀ (H' : Hp) (l : Addr) (rs : List Int), Same H H' → H l = none → H' l = some (.lst (zs rs)) → rs.length = n → (∀ r ∈ rs, 0 ≤ r ∧ r < base) → Q (.ref l) H'
theorem okLLawRow {fLLawRow : Addr} {fdLLawRow : FuncData} (F : Fun K "_law_row" "_law_row" sLLawRow fLLawRow fdLLawRow) (T : Txt mg) {CPartError CNought : Addr} (EX : Exns K mg CPartError CNought) :
    FnOk P w K mg base CX0 1 fLLawRow fdLLawRow ["cell", "size", "base"] (spLLawRow K) := by
  refine F.ok scLLawRow (fun vs H Q E h => ?_) (fun cdv A outer s H vs Q E hr h => ?_)
  · obtain ⟨cell, base, n, rfl, hb0, hb1, hn, q⟩ := h
    rfl
  · obtain ⟨cell, base, n, rfl, hb0, hb1, hn, q⟩ := h
    refine ⟨_, (pss_cons (ps_set (i := 3) scLLawRow.nd rfl (Or.inl rfl) (pe_lst pa_nil))
      (pss_cons (ps_set (i := 4) scLLawRow.nd rfl (Or.inl rfl) (pv 0))
      (C8.pss_cut (ps_for PassesOwn.never rfl (pi_range1 rfl T.range (pa_cons (pv 1) pa_nil)) (pg_name (i := 5) scLLawRow.nd rfl (Or.inl rfl))
        (pss_one (ps_if (pt_cmpR op_ge (pv 0) (pe_op op_pow pe_int pe_int) (nomark _))
          (pss_cons (ps_expr (pe_bm PySem.F.plainAttrs_list PySem.F.slot_list_append PySem.F.type_list_append mt_append (pv 3) (pa_cons (pe_op op_mod (pe_callTy call_int1 (by rfl) T.int (by decide +kernel) (pa_cons (pv 4) pa_nil)) (pv 2)) pa_nil)))
          (pss_one (ps_set (i := 4) scLLawRow.nd rfl (Or.inl rfl) (pe_op op_fdiv (pv 4) (pv 2)))))
          (pss_cons (ps_set (i := 6) scLLawRow.nd rfl (Or.inl rfl) (pe_op op_mod (pe_op op_add (pe_op op_add (pe_op op_mul (pe_op op_mod (pe_callTy call_int1 (by rfl) T.int (by decide +kernel) (pa_cons (pv 0) pa_nil)) pe_int) pe_int) (pe_op op_mul (pv 5) pe_int)) (pe_op op_fdiv (pv 0) pe_int)) pe_int))
          (pss_cons (ps_set (i := 6) scLLawRow.nd rfl (Or.inl rfl) (pe_op op_mod (pe_op op_add (pe_op op_add (pe_op op_mul (pv 6) pe_int) (pe_op op_mul (pv 5) pe_int)) pe_int) pe_int))
          (pss_one (ps_expr (pe_bm PySem.F.plainAttrs_list PySem.F.slot_list_append PySem.F.type_list_append mt_append (pv 3) (pa_cons (pe_op op_mod (pe_op op_fdiv (pv 6) pe_int) (pv 2)) pa_nil)))))))))
      (pss_one (ps_ret (pv 3)))))), ?_⟩
    refine ⟨Nat.zero_le _, fun l hl => ?_⟩
    have sl : Same H (upd H l (.lst [])) := same_upd hl
    walk_at "rd"
    refine ⟨fun σ' H' => ∃ (rs : List Int) (v4 v5 v6 : Option V), σ' = [some (.int cell), some (.int n), some (.int base), some (.ref l), v4, v5, v6] ∧ Same H H' ∧ H' l = some (.lst (zs rs)) ∧ rs.length = n ∧ ∀ r ∈ rs, 0 ≤ r ∧ r < base, ?_, ?_⟩
    · refine ⟨_, rfl, n, rfl, by omega, by omega, for_range (n := n) (fun i σ' H' => ∃ (rs : List Int) (number : Int) (v5 v6 : Option V), σ' = [some (.int cell), some (.int n), some (.int base), some (.ref l), some (.int number), v5, v6] ∧ Same H H' ∧ H' l = some (.lst (zs rs)) ∧ rs.length = i ∧ ∀ r ∈ rs, 0 ≤ r ∧ r < base) ?_ ?_ ?_⟩
      · exact ⟨[], cell, none, none, rfl, sl, upd_same, rfl, fun r h => nomatch h⟩
      · rintro i σ' H' hi ⟨rs, number, v5, v6, rfl, s1, e1, el, ea⟩
        have hlen : (zs rs).length < sizeLine := zs_lt (by omega)
        walk_at "rd"
        refine ite2 (fun _ => ?_) (fun _ => ?_)
        · walk_at "rd"
          refine ⟨.inl ⟨rfl, _, SqL.of e1⟩, ?_⟩
          walk_at "rd"
          refine ⟨hb0, l, _, _, rfl, rfl, e1, hlen, ?_⟩
          walk_at "rd"
          refine ⟨⟨hb0, by omega⟩, rs ++ [number % base], _, _, _, rfl, fun b o e => ?_, ?_, ?_, row_all ea _ hb0⟩
          · rw [upd_ne (ne_of_none e hl)]
            exact s1 b o e
          · rw [upd_same, zs_push]
          · rw [List.length_append, el]
            rfl
        · walk_at "rd"
          refine ⟨.inl ⟨rfl, _, SqL.of e1⟩, ?_⟩
          walk_at "rd"
          refine ⟨hb0, l, _, _, rfl, rfl, e1, hlen, ?_⟩
          refine ⟨_, _, _, _, rfl, fun b o e => ?_, by rw [upd_same, zs_push], ?_, row_all ea _ hb0⟩
          · rw [upd_ne (ne_of_none e hl)]
            exact s1 b o e
          · rw [List.length_append, el]
            rfl
      · rintro σ' H' ⟨rs, number, v5, v6, rfl, s1, e1, el, ea⟩
        exact ⟨rs, _, _, _, rfl, s1, e1, el, ea⟩
    · rintro σ' H' ⟨rs, v4, v5, v6, rfl, s1, e1, el, ea⟩
      exact ⟨_, rfl, q H' l rs s1 hl e1 el ea⟩
def spLLawFraction (K : PySem.W.Frag) : Sp := fun vs H Q _ => ∃ n d : Int, vs = [.int n, .int d] ∧ n.natAbs < 2 ^ 1800 ∧ d.natAbs < 2 ^ 1800 ∧ d ≠ 0 ∧ ∀ (H' : Hp) (t : Addr), Same H H' → H' t = some (.tup (zs (rd2 n d))) → Q (.ref t) H'
theorem okLLawFraction {fLLawFraction : Addr} {fdLLawFraction : FuncData} (F : Fun K "_law_fraction" "_law_fraction" sLLawFraction fLLawFraction fdLLawFraction) (T : Txt mg) {CPartError CNought : Addr} (EX : Exns K mg CPartError CNought) :
    FnOk P w K mg base CX0 1 fLLawFraction fdLLawFraction ["number", "divisor"] (spLLawFraction K) := by
  refine F.ok scLLawFraction (fun vs H Q E h => ?_) (fun cdv A outer s H vs Q E hr h => ?_)
  · obtain ⟨n, d, rfl, bn, bd, hd, k⟩ := h
    rfl
  · obtain ⟨n, d, rfl, bn, bd, hd, k⟩ := h
    refine ⟨_, (pss_cons (ps_set (i := 2) scLLawFraction.nd rfl (Or.inl rfl) (pe_callB call_abs (by rfl) T.abs (by decide +kernel) (pa_cons (pv 0) pa_nil)))
      (pss_cons (ps_set (i := 3) scLLawFraction.nd rfl (Or.inl rfl) (pe_callB call_abs (by rfl) T.abs (by decide +kernel) (pa_cons (pv 1) pa_nil)))
      (C8.pss_cut (ps_for PassesOwn.never rfl (pi_range1 rfl T.range (pa_cons pe_int pa_nil)) (pg_name (i := 4) scLLawFraction.nd rfl (Or.inl rfl))
        (pss_cons (ps_if (pt_cmpR op_eq (pv 3) pe_int (nomark _))
          (pss_one ps_break)
          pss_nil)
        (pss_one (ps_par (i := 2) (j := 3) (by rfl) scLLawFraction.nd rfl rfl (by decide) rfl rfl (pa_cons (pv 3) (pa_cons (pe_op op_modN (pv 2) (pv 3)) pa_nil)) (by rfl)))))
      (C8.pss_cut (ps_if (pt_cmpR op_lt (pv 1) pe_int (nomark _))
        (pss_one (ps_set (i := 2) scLLawFraction.nd rfl (Or.inl rfl) (pe_un un_neg (pv 2))))
        pss_nil)
      (pss_one (ps_ret (pe_tup (pa_cons (pe_op op_fdivX (pv 0) (pv 2)) (pa_cons (pe_op op_fdivX (pv 1) (pv 2)) pa_nil))))))))), ?_⟩
    walk_at "rd"
    have ez : ∀ z : Int, (if z < 0 then -z else z) = ((z.natAbs : Nat) : Int) := fun z => by
      split <;> omega
    rw [ez n, ez d]
    refine ⟨fun σ' H' => ∃ v3 v4 : Option V, σ' = [some (.int n), some (.int d), some (.int ((Nat.gcd n.natAbs d.natAbs : Nat) : Int)), v3, v4] ∧ H' = H, ?_, ?_⟩
    · refine ⟨10000, rfl, by decide, by decide, for_range (n := 10000) (fun i σ' H' => ∃ (c e : Nat) (v4 : Option V), σ' = [some (.int n), some (.int d), some (.int c), some (.int e), v4] ∧ H' = H ∧ Eu n.natAbs d.natAbs i c e) ⟨_, _, none, rfl, rfl, Eu.start _ _⟩ ?_ ?_⟩
      · rintro i σ' H' hi ⟨c, e, v4, rfl, rfl, eu⟩
        walk_at "rd"
        refine ite2 (fun g => ?_) (fun g => ?_)
        · have he0 : e = 0 := by
            have := eq_of_dec g
            omega
          subst he0
          refine ⟨some (.int ((0 : Nat) : Int)), some (.int (0 + (i : Int))), ?_, rfl⟩
          rw [← eu.end]
          rfl
        · have he0 : e ≠ 0 := fun z => g (decide_eq_true (by rw [z]; rfl))
          walk_at "rd"
          refine ⟨by omega, _, _, rfl, e, c % e, some (.int (0 + (i : Int))), ?_, rfl, eu.turn (by omega)⟩
          rw [← fmod_nat c e]
          rfl
      · rintro σ' H' ⟨c, e, v4, rfl, rfl, eu⟩
        have he0 : e = 0 := eu.stop (by decide) (eu_far2 (by decide) bn bd)
        subst he0
        refine ⟨some (.int ((0 : Nat) : Int)), v4, ?_, rfl⟩
        rw [← eu.end]
    rintro σ' H3 ⟨v3, v4, rfl, rfl⟩
    refine ⟨fun σ' H' => σ' = [some (.int n), some (.int d), some (.int (sg n d)), v3, v4] ∧ H' = H3, ?_, ?_⟩
    · walk_at "rd"
      refine ite2 (fun g2 => ?_) (fun g2 => ?_)
      · refine ⟨_, rfl, _, rfl, ?_, rfl⟩
        unfold sg
        rw [if_pos (of_decide_eq_true g2)]
        rfl
      · refine ⟨?_, rfl⟩
        unfold sg
        rw [if_neg (fun z => g2 (decide_eq_true z))]
    rintro σ' H4 ⟨rfl, rfl⟩
    have hs := sg_ne (n := n) hd
    have hsb : (sg n d).natAbs < 2 ^ 1800 := by
      rw [sg_abs]
      exact Nat.lt_of_le_of_lt (Nat.le_of_dvd (by omega) (Nat.gcd_dvd_right _ _)) bd
    refine ⟨_, rfl, _, rfl, _, _, rfl, rfl, wide_divx hs hsb (by decide) (by decide), _, rfl, _, rfl, _, _, rfl, rfl, wide_divx hs hsb (by decide) (by decide), by show 2 ≤ sizeLine; decide, fun t ht => ?_⟩
    exact k _ t (same_upd ht) upd_same
def spLLawPlus (K : PySem.W.Frag) : Sp := spOp2 K (fun p q r s => p * s + r * q) (fun p q r s => q * s)
theorem okLLawPlus {fLLawPlus : Addr} {fdLLawPlus : FuncData} (F : Fun K "_law_plus" "_law_plus" sLLawPlus fLLawPlus fdLLawPlus) (T : Txt mg) {CPartError CNought : Addr} (EX : Exns K mg CPartError CNought)
    {fLLawFraction : Addr} {fdLLawFraction : FuncData} (GLLawFraction : FnOk P w K mg base CX0 1 fLLawFraction fdLLawFraction ["number", "divisor"] (spLLawFraction K)) (gLLawFraction : mg "_law_fraction" = some (.ref fLLawFraction)) (kpLLawFraction : PySem.W.keepIn K (.ref fLLawFraction) = true) (bLLawFraction : Binds K fdLLawFraction ["number", "divisor"] []) :
    FnOk P w K mg base CX0 2 fLLawPlus fdLLawPlus ["a", "b"] (spLLawPlus K) := by
  refine F.ok scLLawPlus (fun vs H Q E h => ?_) (fun cdv A outer s H vs Q E hr h => ?_)
  · obtain ⟨a, b, p, q, r, s, rfl, hA, hB, hp, hq, hr', hs, hD, k⟩ := h
    rfl
  · obtain ⟨a, b, p, q, r, s, rfl, hA, hB, hp, hq, hr', hs, hD, k⟩ := h
    refine ⟨_, (pss_one (ps_ret (pe_call GLLawFraction hr (by rfl) gLLawFraction kpLLawFraction bLLawFraction .nil pass0 (pa_cons (pe_op op_add (pe_op op_mulW (pe_ix ix_tup (pv 0) pe_int (fun _ _ => rfl)) (pe_ix ix_tup (pv 1) pe_int (fun _ _ => rfl))) (pe_op op_mulW (pe_ix ix_tup (pv 1) pe_int (fun _ _ => rfl)) (pe_ix ix_tup (pv 0) pe_int (fun _ _ => rfl)))) (pa_cons (pe_op op_mulW (pe_ix ix_tup (pv 0) pe_int (fun _ _ => rfl)) (pe_ix ix_tup (pv 1) pe_int (fun _ _ => rfl))) pa_nil))))), ?_⟩
    have w1 : (p * s).natAbs < 2 ^ (800 + 800) := wide_lt hp hs
    have w2 : (r * q).natAbs < 2 ^ (800 + 800) := wide_lt hr' hq
    have w3 : (q * s).natAbs < 2 ^ (800 + 800) := wide_lt hq hs
    have hw : 2 * (2 : Nat) ^ (800 + 800) ≤ 2 ^ 1800 := by
      rw [← Nat.pow_succ']
      exact Nat.pow_le_pow_right (by decide) (by decide)
    have x1 := Int.natAbs_add_le (p * s) (r * q)
    have y1 : (p * s + r * q).natAbs < 2 ^ 1800 := by
      generalize (2 : Nat) ^ (800 + 800) = B at *
      generalize (2 : Nat) ^ 1800 = C at *
      omega
    have y2 : (q * s).natAbs < 2 ^ 1800 := by
      generalize (2 : Nat) ^ (800 + 800) = B at *
      generalize (2 : Nat) ^ 1800 = C at *
      omega
    exact ⟨.ref a, rfl, a, _, 0, _, rfl, rfl, hA, atI_nat (j := 0) rfl, .ref b, rfl, b, _, 1, _, rfl, rfl, hB, atI_nat (j := 1) rfl, _, _, rfl, rfl, wide_mul hp hs (by decide) (by decide) (by decide), .ref b, rfl, b, _, 0, _, rfl, rfl, hB, atI_nat (j := 0) rfl, .ref a, rfl, a, _, 1, _, rfl, rfl, hA, atI_nat (j := 1) rfl, _, _, rfl, rfl, wide_mul hr' hq (by decide) (by decide) (by decide), _, _, rfl, rfl, .ref a, rfl, a, _, 1, _, rfl, rfl, hA, atI_nat (j := 1) rfl, .ref b, rfl, b, _, 1, _, rfl, rfl, hB, atI_nat (j := 1) rfl, _, _, rfl, rfl, wide_mul hq hs (by decide) (by decide) (by decide), _, _, rfl, y1, y2, hD, fun H' t s1 e1 => k H' t s1 e1⟩
def spLLawTimes (K : PySem.W.Frag) : Sp := spOp2 K (fun p q r s => p * r) (fun p q r s => q * s)
theorem okLLawTimes {fLLawTimes : Addr} {fdLLawTimes : FuncData} (F : Fun K "_law_times" "_law_times" sLLawTimes fLLawTimes fdLLawTimes) (T : Txt mg) {CPartError CNought : Addr} (EX : Exns K mg CPartError CNought)
    {fLLawFraction : Addr} {fdLLawFraction : FuncData} (GLLawFraction : FnOk P w K mg base CX0 1 fLLawFraction fdLLawFraction ["number", "divisor"] (spLLawFraction K)) (gLLawFraction : mg "_law_fraction" = some (.ref fLLawFraction)) (kpLLawFraction : PySem.W.keepIn K (.ref fLLawFraction) = true) (bLLawFraction : Binds K fdLLawFraction ["number", "divisor"] []) :
    FnOk P w K mg base CX0 2 fLLawTimes fdLLawTimes ["a", "b"] (spLLawTimes K) := by
  refine F.ok scLLawTimes (fun vs H Q E h => ?_) (fun cdv A outer s H vs Q E hr h => ?_)
  · obtain ⟨a, b, p, q, r, s, rfl, hA, hB, hp, hq, hr', hs, hD, k⟩ := h
    rfl
  · obtain ⟨a, b, p, q, r, s, rfl, hA, hB, hp, hq, hr', hs, hD, k⟩ := h
    refine ⟨_, (pss_one (ps_ret (pe_call GLLawFraction hr (by rfl) gLLawFraction kpLLawFraction bLLawFraction .nil pass0 (pa_cons (pe_op op_mulW (pe_ix ix_tup (pv 0) pe_int (fun _ _ => rfl)) (pe_ix ix_tup (pv 1) pe_int (fun _ _ => rfl))) (pa_cons (pe_op op_mulW (pe_ix ix_tup (pv 0) pe_int (fun _ _ => rfl)) (pe_ix ix_tup (pv 1) pe_int (fun _ _ => rfl))) pa_nil))))), ?_⟩
    have w1 : (p * r).natAbs < 2 ^ (800 + 800) := wide_lt hp hr'
    have w3 : (q * s).natAbs < 2 ^ (800 + 800) := wide_lt hq hs
    have hw : (2 : Nat) ^ (800 + 800) ≤ 2 ^ 1800 := Nat.pow_le_pow_right (by decide) (by decide)
    exact ⟨.ref a, rfl, a, _, 0, _, rfl, rfl, hA, atI_nat (j := 0) rfl, .ref b, rfl, b, _, 0, _, rfl, rfl, hB, atI_nat (j := 0) rfl, _, _, rfl, rfl, wide_mul hp hr' (by decide) (by decide) (by decide), .ref a, rfl, a, _, 1, _, rfl, rfl, hA, atI_nat (j := 1) rfl, .ref b, rfl, b, _, 1, _, rfl, rfl, hB, atI_nat (j := 1) rfl, _, _, rfl, rfl, wide_mul hq hs (by decide) (by decide) (by decide), _, _, rfl, Nat.lt_of_lt_of_le w1 hw, Nat.lt_of_lt_of_le w3 hw, hD, fun H' t s1 e1 => k H' t s1 e1⟩
def spLLawSign (K : PySem.W.Frag) : Sp := fun vs H Q _ => ∃ n : Int, vs = [.int n] ∧ Q (.int (sgn n)) H
theorem okLLawSign {fLLawSign : Addr} {fdLLawSign : FuncData} (F : Fun K "_law_sign" "_law_sign" sLLawSign fLLawSign fdLLawSign) (T : Txt mg) {CPartError CNought : Addr} (EX : Exns K mg CPartError CNought) :
    FnOk P w K mg base CX0 1 fLLawSign fdLLawSign ["number"] (spLLawSign K) := by
  refine F.ok scLLawSign (fun vs H Q E h => ?_) (fun cdv A outer s H vs Q E hr h => ?_)
  · obtain ⟨n, rfl, k⟩ := h
    rfl
  · obtain ⟨n, rfl, k⟩ := h
    refine ⟨_, (pss_cons (ps_if (pt_cmpR op_lt (pv 0) pe_int (nomark _))
        (pss_one (ps_ret (pe_un un_neg pe_int)))
        pss_nil)
      (pss_cons (ps_if (pt_cmpR op_gt (pv 0) pe_int (nomark _))
        (pss_one (ps_ret pe_int))
        pss_nil)
      (pss_one (ps_ret pe_int)))), ?_⟩
    unfold sgn at k
    refine ⟨_, rfl, _, _, rfl, rfl, _, rfl, ite2 (fun g => ?_) (fun g => ?_)⟩
    · rw [if_pos (of_decide_eq_true g)] at k
      exact ⟨_, rfl, k⟩
    · rw [if_neg (fun z => g (decide_eq_true z))] at k
      refine ⟨_, rfl, _, _, rfl, rfl, _, rfl, ite2 (fun g => ?_) (fun g => ?_)⟩
      · rw [if_pos (of_decide_eq_true g)] at k
        exact k
      · rw [if_neg (fun z => g (decide_eq_true z))] at k
        exact k
def spLLawIsFraction (K : PySem.W.Frag) : Sp := fun vs H Q _ => ∃ (t : Addr) (p q : Int), vs = [.ref t] ∧ SqT K H t (zs [p, q]) ∧ Nat.gcd p.natAbs q.natAbs = 1 ∧ 0 < q ∧ p.natAbs < 2 ^ 1800 ∧ q.natAbs < 2 ^ 1800 ∧ ∀ H', Same H H' → Q (.bl true) H'
theorem okLLawIsFraction {fLLawIsFraction : Addr} {fdLLawIsFraction : FuncData} (F : Fun K "_law_is_fraction" "_law_is_fraction" sLLawIsFraction fLLawIsFraction fdLLawIsFraction) (T : Txt mg) {CPartError CNought : Addr} (EX : Exns K mg CPartError CNought)
    {fLLawFraction : Addr} {fdLLawFraction : FuncData} (GLLawFraction : FnOk P w K mg base CX0 1 fLLawFraction fdLLawFraction ["number", "divisor"] (spLLawFraction K)) (gLLawFraction : mg "_law_fraction" = some (.ref fLLawFraction)) (kpLLawFraction : PySem.W.keepIn K (.ref fLLawFraction) = true) (bLLawFraction : Binds K fdLLawFraction ["number", "divisor"] [])
    {fLLawIsInteger : Addr} {fdLLawIsInteger : FuncData} (GLLawIsInteger : FnOk P w K mg base CX0 1 fLLawIsInteger fdLLawIsInteger ["actual"] (spLLawIsInteger K)) (gLLawIsInteger : mg "_law_is_integer" = some (.ref fLLawIsInteger)) (kpLLawIsInteger : PySem.W.keepIn K (.ref fLLawIsInteger) = true) (bLLawIsInteger : Binds K fdLLawIsInteger ["actual"] []) :
    FnOk P w K mg base CX0 2 fLLawIsFraction fdLLawIsFraction ["actual"] (spLLawIsFraction K) := by
  refine F.ok scLLawIsFraction (fun vs H Q E h => ?_) (fun cdv A outer s H vs Q E hr h => ?_)
  · obtain ⟨t, p, q, rfl, hT, h1, q0, bp, bq, k⟩ := h
    rfl
  · obtain ⟨t, p, q, rfl, hT, h1, q0, bp, bq, k⟩ := h
    refine ⟨_, (pss_cons (ps_if (PW.pt (pw_or (pt_not (pt_val (pe_callB call_isi (by rfl) T.isinstance (by decide +kernel) (pa_cons (pv 0) (pa_cons (pe_bltn (v := .ty "tuple") (by rfl) T.tuple (by decide +kernel) rfl) pa_nil))))) (pw_or1 (pt_cmpR op_ne (pe_callB call_len_seq (by rfl) T.len PySem.boot_len (pa_cons (pv 0) pa_nil)) pe_int (nomark _)))))
        (pss_one (ps_ret pe_bl))
        pss_nil)
      (pss_cons (ps_if (PW.pt (pw_or (pt_not (pt_val (pe_call GLLawIsInteger hr (by rfl) gLLawIsInteger kpLLawIsInteger bLLawIsInteger .nil pass0 (pa_cons (pe_ix ix_tup (pv 0) pe_int (fun _ _ => rfl)) pa_nil)))) (pw_or (pt_not (pt_val (pe_call GLLawIsInteger hr (by rfl) gLLawIsInteger kpLLawIsInteger bLLawIsInteger .nil pass0 (pa_cons (pe_ix ix_tup (pv 0) pe_int (fun _ _ => rfl)) pa_nil)))) (pw_or1 (pt_cmpR op_lt (pe_ix ix_tup (pv 0) pe_int (fun _ _ => rfl)) pe_int (nomark _))))))
        (pss_one (ps_ret pe_bl))
        pss_nil)
      (pss_one (ps_ret (pe_cmpR (op_eqD hr.units) (pv 0) (pe_call GLLawFraction hr (by rfl) gLLawFraction kpLLawFraction bLLawFraction .nil pass0 (pa_cons (pe_ix ix_tup (pv 0) pe_int (fun _ _ => rfl)) (pa_cons (pe_ix ix_tup (pv 0) pe_int (fun _ _ => rfl)) pa_nil))) (nomark _)))))), ?_⟩
    refine ⟨.ref t, rfl, .ref t, .ty "tuple", .type "tuple", .type "tuple", true, rfl, .ty _, tyx_tup hT, kit_ty (by decide +kernel), true, rfl, ?_⟩
    refine iteF ⟨.ref t, rfl, t, _, rfl, .inr hT, rfl, _, rfl, ?_⟩
    refine ite2 (fun g => absurd rfl (ne_of_bang g)) (fun _ => ?_)
    refine ⟨.ref t, rfl, t, _, 0, _, rfl, rfl, hT, atI_nat (j := 0) rfl, p, rfl, true, rfl, iteF ?_⟩
    refine ⟨.ref t, rfl, t, _, 1, _, rfl, rfl, hT, atI_nat (j := 1) rfl, q, rfl, true, rfl, iteF ?_⟩
    refine ⟨.ref t, rfl, t, _, 1, _, rfl, rfl, hT, atI_nat (j := 1) rfl, _, _, rfl, rfl, _, rfl, ?_⟩
    refine ite2 (fun g => absurd (of_decide_eq_true g) (by omega)) (fun _ => ?_)
    refine ⟨_, rfl, .ref t, rfl, t, _, 0, _, rfl, rfl, hT, atI_nat (j := 0) rfl, .ref t, rfl, t, _, 1, _, rfl, rfl, hT, atI_nat (j := 1) rfl, p, q, rfl, bp, bq, by omega, fun H1 t1 s1 e1 => ?_⟩
    rw [low_of h1 q0] at e1
    refine ⟨_, _, dp2 (same_tup s1 hT), dp2 (SqT.of e1), rfl, rfl, ?_⟩
    rw [eqv2]
    exact k H1 s1
/-- the three parts by their number -/
def at3 (a b c : Int) : Nat → Int
  | 0 => a
  | 1 => b
  | _ => c
theorem at3_get (a b c : Int) {i : Nat} (h : i < 3) : [a, b, c][i]? = some (at3 a b c i) := by
  obtain rfl | rfl | rfl : i = 0 ∨ i = 1 ∨ i = 2 := by omega
  all_goals rfl
/-- the sum behind i turns -/
def ac (x y z p1 q1 p2 q2 p3 q3 : Int) : Nat → Int × Int
  | 0 => (0, 1)
  | i + 1 => ((ac x y z p1 q1 p2 q2 p3 q3 i).1 * (1 * at3 q1 q2 q3 i) + (at3 x y z i * at3 p1 p2 p3 i) * (ac x y z p1 q1 p2 q2 p3 q3 i).2, (ac x y z p1 q1 p2 q2 p3 q3 i).2 * (1 * at3 q1 q2 q3 i))
theorem ac_end (x y z p1 q1 p2 q2 p3 q3 : Int) : ac x y z p1 q1 p2 q2 p3 q3 3 = (rn x y z p1 q1 p2 q2 p3 q3, q1 * q2 * q3) := by
  simp only [ac, at3, rn]
  refine Prod.ext ?_ ?_
  · show _ = _
    grind
  · show _ = _
    grind
theorem at3_all {P : Int → Prop} {a b c : Int} (h : P a ∧ P b ∧ P c) (i : Nat) : P (at3 a b c i) := by
  unfold at3
  split
  · exact h.1
  · exact h.2.1
  · exact h.2.2
theorem ac_lt {x y z p1 q1 p2 q2 p3 q3 : Int} (bn : x.natAbs < 2 ^ 100 ∧ y.natAbs < 2 ^ 100 ∧ z.natAbs < 2 ^ 100) (bp : p1.natAbs < 2 ^ 100 ∧ p2.natAbs < 2 ^ 100 ∧ p3.natAbs < 2 ^ 100) (bq : q1.natAbs < 2 ^ 100 ∧ q2.natAbs < 2 ^ 100 ∧ q3.natAbs < 2 ^ 100) (b3 : 0 < q1 ∧ 0 < q2 ∧ 0 < q3) :
    ∀ i : Nat, (ac x y z p1 q1 p2 q2 p3 q3 i).1.natAbs ≤ 2 ^ (201 * i) ∧ (ac x y z p1 q1 p2 q2 p3 q3 i).2.natAbs ≤ 2 ^ (100 * i) ∧ 0 < (ac x y z p1 q1 p2 q2 p3 q3 i).2 := by
  intro i
  induction i with
  | zero =>
    show (0 : Int).natAbs ≤ 2 ^ (201 * 0) ∧ (1 : Int).natAbs ≤ 2 ^ (100 * 0) ∧ (0 : Int) < 1
    decide
  | succ i ih =>
    obtain ⟨h1, h2, h3⟩ := ih
    have c1 := at3_all (P := fun v => v.natAbs < 2 ^ 100) bn i
    have c2 := at3_all (P := fun v => v.natAbs < 2 ^ 100) bp i
    have c3 := at3_all (P := fun v => v.natAbs < 2 ^ 100) bq i
    have c4 := at3_all (P := fun v => 0 < v) b3 i
    have c1 : (at3 x y z i).natAbs < 2 ^ 100 := c1
    have c2 : (at3 p1 p2 p3 i).natAbs < 2 ^ 100 := c2
    have c3 : (at3 q1 q2 q3 i).natAbs < 2 ^ 100 := c3
    have c4 : 0 < at3 q1 q2 q3 i := c4
    show ((ac x y z p1 q1 p2 q2 p3 q3 i).1 * (1 * at3 q1 q2 q3 i) + (at3 x y z i * at3 p1 p2 p3 i) * (ac x y z p1 q1 p2 q2 p3 q3 i).2).natAbs ≤ _ ∧ ((ac x y z p1 q1 p2 q2 p3 q3 i).2 * (1 * at3 q1 q2 q3 i)).natAbs ≤ _ ∧ 0 < (ac x y z p1 q1 p2 q2 p3 q3 i).2 * (1 * at3 q1 q2 q3 i)
    rw [Int.one_mul]
    refine ⟨?_, ?_, Int.mul_pos h3 c4⟩
    · have m1 : ((ac x y z p1 q1 p2 q2 p3 q3 i).1 * at3 q1 q2 q3 i).natAbs ≤ 2 ^ (201 * i) * 2 ^ 100 := mul_lt_abs h1 (Nat.le_of_lt c3)
      have m0 : (at3 x y z i * at3 p1 p2 p3 i).natAbs ≤ 2 ^ 100 * 2 ^ 100 := mul_lt_abs (Nat.le_of_lt c1) (Nat.le_of_lt c2)
      have m2 : ((at3 x y z i * at3 p1 p2 p3 i) * (ac x y z p1 q1 p2 q2 p3 q3 i).2).natAbs ≤ 2 ^ 100 * 2 ^ 100 * 2 ^ (100 * i) := mul_lt_abs m0 h2
      have e1 : (2 : Nat) ^ (201 * i) * 2 ^ 100 ≤ 2 ^ (201 * i + 200) := by
        rw [← Nat.pow_add]
        exact Nat.pow_le_pow_right (by decide) (by omega)
      have e2 : (2 : Nat) ^ 100 * 2 ^ 100 * 2 ^ (100 * i) ≤ 2 ^ (201 * i + 200) := by
        rw [← Nat.pow_add, ← Nat.pow_add]
        exact Nat.pow_le_pow_right (by decide) (by omega)
      have e3 : (2 : Nat) ^ (201 * (i + 1)) = 2 * 2 ^ (201 * i + 200) := by
        rw [show 201 * (i + 1) = 201 * i + 200 + 1 by omega, Nat.pow_succ, Nat.mul_comm]
      have := Int.natAbs_add_le ((ac x y z p1 q1 p2 q2 p3 q3 i).1 * at3 q1 q2 q3 i) ((at3 x y z i * at3 p1 p2 p3 i) * (ac x y z p1 q1 p2 q2 p3 q3 i).2)
      omega
    · have m1 : ((ac x y z p1 q1 p2 q2 p3 q3 i).2 * at3 q1 q2 q3 i).natAbs ≤ 2 ^ (100 * i) * 2 ^ 100 := mul_lt_abs h2 (Nat.le_of_lt c3)
      rw [← Nat.pow_add] at m1
      exact m1
def spLLawAlong (K : PySem.W.Frag) : Sp := fun vs H Q _ => ∃ (n t : Addr) (x y z p1 q1 p2 q2 p3 q3 : Int), vs = [.ref n, .ref t] ∧ SqT K H n (zs [x, y, z]) ∧ x.natAbs < 2 ^ 100 ∧ y.natAbs < 2 ^ 100 ∧ z.natAbs < 2 ^ 100 ∧ Pt K H t p1 q1 p2 q2 p3 q3 ∧
  ∀ (H' : Hp) (r : Addr), Same H H' → H' r = some (.tup (zs (rd2 (rn x y z p1 q1 p2 q2 p3 q3) (q1 * q2 * q3)))) → Q (.ref r) H'
theorem okLLawAlong {fLLawAlong : Addr} {fdLLawAlong : FuncData} (F : Fun K "_law_along" "_law_along" sLLawAlong fLLawAlong fdLLawAlong) (T : Txt mg) {CPartError CNought : Addr} (EX : Exns K mg CPartError CNought)
    {fLLawPlus : Addr} {fdLLawPlus : FuncData} (GLLawPlus : FnOk P w K mg base CX0 2 fLLawPlus fdLLawPlus ["a", "b"] (spLLawPlus K)) (gLLawPlus : mg "_law_plus" = some (.ref fLLawPlus)) (kpLLawPlus : PySem.W.keepIn K (.ref fLLawPlus) = true) (bLLawPlus : Binds K fdLLawPlus ["a", "b"] [])
    {fLLawTimes : Addr} {fdLLawTimes : FuncData} (GLLawTimes : FnOk P w K mg base CX0 2 fLLawTimes fdLLawTimes ["a", "b"] (spLLawTimes K)) (gLLawTimes : mg "_law_times" = some (.ref fLLawTimes)) (kpLLawTimes : PySem.W.keepIn K (.ref fLLawTimes) = true) (bLLawTimes : Binds K fdLLawTimes ["a", "b"] []) :
    FnOk P w K mg base CX0 3 fLLawAlong fdLLawAlong ["normal", "point"] (spLLawAlong K) := by
  refine F.ok scLLawAlong (fun vs H Q E h => ?_) (fun cdv A outer s H vs Q E hr h => ?_)
  · obtain ⟨n, t, x, y, z, p1, q1, p2, q2, p3, q3, rfl, hN, bx, bY, bz, hP, k⟩ := h
    rfl
  · obtain ⟨n, t, x, y, z, p1, q1, p2, q2, p3, q3, rfl, hN, bx, bY, bz, hP, k⟩ := h
    refine ⟨_, (pss_cons (ps_set (i := 2) scLLawAlong.nd rfl (Or.inl rfl) (pe_tup (pa_cons pe_int (pa_cons pe_int pa_nil))))
      (C8.pss_cut (ps_for PassesOwn.never rfl (pi_range1 rfl T.range (pa_cons pe_int pa_nil)) (pg_name (i := 3) scLLawAlong.nd rfl (Or.inl rfl))
        (pss_one (ps_set (i := 2) scLLawAlong.nd rfl (Or.inl rfl) (pe_call GLLawPlus hr (by rfl) gLLawPlus kpLLawPlus bLLawPlus .nil pass0 (pa_cons (pv 2) (pa_cons (pe_call GLLawTimes hr (by rfl) gLLawTimes kpLLawTimes bLLawTimes .nil pass0 (pa_cons (pe_tup (pa_cons (pe_ix ix_tup (pv 0) (pv 3) (fun _ _ => rfl)) (pa_cons pe_int pa_nil))) (pa_cons (pe_ix ix_tup (pv 1) (pv 3) (fun _ _ => rfl)) pa_nil))) pa_nil))))))
      (pss_one (ps_ret (pv 2))))), ?_⟩
    obtain ⟨⟨a, b, c, hT, h1, h2, h3⟩, bp, bq, b3⟩ := id hP
    refine ⟨by show 2 ≤ sizeLine; decide, fun f0 nf => ?_⟩
    refine ⟨fun σ' H' => ∃ (r : Addr) (v3 : Option V), σ' = [some (.ref n), some (.ref t), some (.ref r), v3] ∧ Same H H' ∧ H' r = some (.tup (zs (rd2 (rn x y z p1 q1 p2 q2 p3 q3) (q1 * q2 * q3)))), ?_, ?_⟩
    · refine ⟨3, rfl, by decide, by decide, for_range (n := 3) (fun i σ' H' => ∃ (r : Addr) (v3 : Option V), σ' = [some (.ref n), some (.ref t), some (.ref r), v3] ∧ Same H H' ∧ H' r = some (.tup (zs (rd2 (ac x y z p1 q1 p2 q2 p3 q3 i).1 (ac x y z p1 q1 p2 q2 p3 q3 i).2)))) ?_ ?_ ?_⟩
      · refine ⟨f0, none, rfl, same_upd nf, ?_⟩
        show _ = some (HO.tup (zs (rd2 0 1)))
        rw [rd2_zero]
        exact upd_same
      · rintro i σ' H1 hi ⟨r, v3, rfl, s1, er⟩
        have hi0 : (0 : Int) + (i : Int) = (i : Int) := by omega
        obtain ⟨l1, l2, l3⟩ := ac_lt (x := x) (y := y) (z := z) ⟨bx, bY, bz⟩ bp bq b3 i
        obtain ⟨u, v, e, lu, lv, fr⟩ := rd2_le (n := (ac x y z p1 q1 p2 q2 p3 q3 i).1) (d := (ac x y z p1 q1 p2 q2 p3 q3 i).2) (by omega)
        rw [e] at er
        have g1 : (2 : Nat) ^ (201 * i) < 2 ^ 800 := Nat.pow_lt_pow_right (by decide) (by omega)
        have g2 : (2 : Nat) ^ (100 * i) < 2 ^ 800 := Nat.pow_lt_pow_right (by decide) (by omega)
        have v0 := fr.q0
        have up : (2 : Nat) ^ 100 ≤ 2 ^ 800 := Nat.pow_le_pow_right (by decide) (by decide)
        have c1 : (at3 x y z i).natAbs < 2 ^ 100 := at3_all (P := fun v => v.natAbs < 2 ^ 100) ⟨bx, bY, bz⟩ i
        have c2 : (at3 p1 p2 p3 i).natAbs < 2 ^ 100 := at3_all (P := fun v => v.natAbs < 2 ^ 100) bp i
        have c3 : (at3 q1 q2 q3 i).natAbs < 2 ^ 100 := at3_all (P := fun v => v.natAbs < 2 ^ 100) bq i
        have c4 : 0 < at3 q1 q2 q3 i := at3_all (P := fun v => 0 < v) b3 i
        obtain ⟨ai, hai, hpi⟩ : ∃ ai : Addr, [V.ref a, .ref b, .ref c][i]? = some (.ref ai) ∧ SqT K H ai (zs [at3 p1 p2 p3 i, at3 q1 q2 q3 i]) := by
          obtain rfl | rfl | rfl : i = 0 ∨ i = 1 ∨ i = 2 := by omega
          · exact ⟨a, rfl, h1⟩
          · exact ⟨b, rfl, h2⟩
          · exact ⟨c, rfl, h3⟩
        refine ⟨_, rfl, .ref n, rfl, .int (0 + (i : Int)), rfl, n, _, _, _, rfl, rfl, same_tup s1 hN, by rw [hi0]; exact zs_at (at3_get x y z hi), by show 2 ≤ sizeLine; decide, fun m nm => ?_⟩
        have s2 : Same H1 (upd H1 m (.tup (zs [at3 x y z i, 1]))) := same_upd nm
        have s12 := s1.trans s2
        refine ⟨.ref t, rfl, .int (0 + (i : Int)), rfl, t, _, _, _, rfl, rfl, same_tup s12 hT, by rw [hi0]; exact atI_nat hai, ?_⟩
        refine ⟨m, ai, at3 x y z i, 1, _, _, rfl, SqT.of upd_same, same_tup s12 hpi, by omega, by show 1 < 2 ^ 800; exact Nat.one_lt_two_pow (by decide), by omega, by omega, Int.mul_ne_zero (by decide) (by omega), fun H3 r3 s3 e3 => ?_⟩
        have q1pos : 0 < 1 * at3 q1 q2 q3 i := by omega
        obtain ⟨u', v', e', lu', lv', fr'⟩ := rd2_le (n := at3 x y z i * at3 p1 p2 p3 i) (d := 1 * at3 q1 q2 q3 i) (by omega)
        have e3' : H3 r3 = some (.tup (zs (rd2 (at3 x y z i * at3 p1 p2 p3 i) (1 * at3 q1 q2 q3 i)))) := e3
        rw [e'] at e3'
        have w1 : (at3 x y z i * at3 p1 p2 p3 i).natAbs < 2 ^ (100 + 100) := wide_lt c1 c2
        have w2 : (2 : Nat) ^ (100 + 100) ≤ 2 ^ 800 := Nat.pow_le_pow_right (by decide) (by decide)
        have v0' := fr'.q0
        have lv'' : v'.natAbs < 2 ^ 100 := by
          rw [Int.one_mul] at lv'
          omega
        refine ⟨r, r3, u, v, u', v', rfl, SqT.of (s3 _ _ (s2 _ _ er)), SqT.of e3', by omega, by omega, by omega, by omega, Int.mul_ne_zero (by omega) (by omega), fun H4 r4 s4 e4 => ?_⟩
        refine ⟨r4, some (.int (0 + (i : Int))), rfl, s12.trans (s3.trans s4), ?_⟩
        have e4' : H4 r4 = some (.tup (zs (rd2 (u * v' + u' * v) (v * v')))) := e4
        rw [rd2_plus fr fr' l3 q1pos] at e4'
        exact e4'
      · rintro σ' H' ⟨r, v3, rfl, s1, er⟩
        rw [ac_end] at er
        exact ⟨r, v3, rfl, s1, er⟩
    rintro σ' H' ⟨r, v3, rfl, s1, er⟩
    exact ⟨_, rfl, k H' r s1 er⟩
def spLLawSide (K : PySem.W.Frag) : Sp := fun vs H Q _ => ∃ (w t : Addr) (x y z p q p1 q1 p2 q2 p3 q3 : Int), vs = [.ref w, .ref t] ∧ Wl K H w x y z p q ∧ x.natAbs < 2 ^ 100 ∧ y.natAbs < 2 ^ 100 ∧ z.natAbs < 2 ^ 100 ∧ p.natAbs < 2 ^ 600 ∧ q.natAbs < 2 ^ 600 ∧ 0 < q ∧ Pt K H t p1 q1 p2 q2 p3 q3 ∧
  ∀ H' : Hp, Same H H' → Q (.int (sd x y z p q p1 q1 p2 q2 p3 q3)) H'
theorem okLLawSide {fLLawSide : Addr} {fdLLawSide : FuncData} (F : Fun K "_law_side" "_law_side" sLLawSide fLLawSide fdLLawSide) (T : Txt mg) {CPartError CNought : Addr} (EX : Exns K mg CPartError CNought)
    {fLLawAlong : Addr} {fdLLawAlong : FuncData} (GLLawAlong : FnOk P w K mg base CX0 3 fLLawAlong fdLLawAlong ["normal", "point"] (spLLawAlong K)) (gLLawAlong : mg "_law_along" = some (.ref fLLawAlong)) (kpLLawAlong : PySem.W.keepIn K (.ref fLLawAlong) = true) (bLLawAlong : Binds K fdLLawAlong ["normal", "point"] [])
    {fLLawSign : Addr} {fdLLawSign : FuncData} (GLLawSign : FnOk P w K mg base CX0 1 fLLawSign fdLLawSign ["number"] (spLLawSign K)) (gLLawSign : mg "_law_sign" = some (.ref fLLawSign)) (kpLLawSign : PySem.W.keepIn K (.ref fLLawSign) = true) (bLLawSign : Binds K fdLLawSign ["number"] []) :
    FnOk P w K mg base CX0 4 fLLawSide fdLLawSide ["wall", "point"] (spLLawSide K) := by
  refine F.ok scLLawSide (fun vs H Q E h => ?_) (fun cdv A outer s H vs Q E hr h => ?_)
  · obtain ⟨w, t, x, y, z, p, q, p1, q1, p2, q2, p3, q3, rfl, ⟨u, o, hW, hU, hO⟩, bx, bY, bz, bp, bq, q0, hP, k⟩ := h
    rfl
  · obtain ⟨w, t, x, y, z, p, q, p1, q1, p2, q2, p3, q3, rfl, ⟨u, o, hW, hU, hO⟩, bx, bY, bz, bp, bq, q0, hP, k⟩ := h
    refine ⟨_, (pss_cons (ps_set (i := 2) scLLawSide.nd rfl (Or.inl rfl) (pe_call GLLawAlong hr (by rfl) gLLawAlong kpLLawAlong bLLawAlong .nil pass0 (pa_cons (pe_ix ix_tup (pv 0) pe_int (fun _ _ => rfl)) (pa_cons (pv 1) pa_nil))))
      (pss_one (ps_ret (pe_call GLLawSign (hr.mono (by decide)) (by rfl) gLLawSign kpLLawSign bLLawSign .nil pass0 (pa_cons (pe_op op_sub (pe_op op_mulW (pe_ix ix_tup (pv 2) pe_int (fun _ _ => rfl)) (pe_ix ix_tup (pe_ix ix_tup (pv 0) pe_int (fun _ _ => rfl)) pe_int (fun _ _ => rfl))) (pe_op op_mulW (pe_ix ix_tup (pe_ix ix_tup (pv 0) pe_int (fun _ _ => rfl)) pe_int (fun _ _ => rfl)) (pe_ix ix_tup (pv 2) pe_int (fun _ _ => rfl)))) pa_nil))))), ?_⟩
    have b0 : 0 < q1 * q2 * q3 := Int.mul_pos (Int.mul_pos hP.b3.1 hP.b3.2.1) hP.b3.2.2
    obtain ⟨bn, bm⟩ := rn_lt bx bY bz hP.b1 hP.b2
    refine ⟨.ref w, rfl, w, _, 0, _, rfl, rfl, hW, atI_nat (j := 0) rfl, _, rfl, u, t, x, y, z, p1, q1, p2, q2, p3, q3, rfl, hU, bx, bY, bz, hP, fun H1 r s1 e1 => ?_⟩
    obtain ⟨a, b, er, la, lb, fr⟩ := rd2_le (n := rn x y z p1 q1 p2 q2 p3 q3) (d := q1 * q2 * q3) (by omega)
    rw [er] at e1
    have ba : a.natAbs < 2 ^ 402 := Nat.lt_of_le_of_lt la bn
    have bb : b.natAbs < 2 ^ 402 := Nat.lt_of_le_of_lt lb bm
    have hW1 := same_tup s1 hW
    have hO1 := same_tup s1 hO
    have hR := SqT.of (K := K) e1
    refine ⟨.ref r, rfl, r, _, 0, _, rfl, rfl, hR, atI_nat (j := 0) rfl, .ref w, rfl, w, _, 1, _, rfl, rfl, hW1, atI_nat (j := 1) rfl, o, _, _, _, rfl, rfl, hO1, atI_nat (j := 1) rfl, _, _, rfl, rfl, wide_mul ba bq (by decide) (by decide) (by decide), .ref w, rfl, w, _, 1, _, rfl, rfl, hW1, atI_nat (j := 1) rfl, o, _, _, _, rfl, rfl, hO1, atI_nat (j := 0) rfl, .ref r, rfl, r, _, 1, _, rfl, rfl, hR, atI_nat (j := 1) rfl, _, _, rfl, rfl, wide_mul bp bb (by decide) (by decide) (by decide), _, _, rfl, rfl, ?_⟩
    refine ⟨_, rfl, ?_⟩
    rw [sd_low2 fr b0]
    exact k H1 s1
def spLLawDirection (K : PySem.W.Frag) : Sp := fun vs H Q _ => ∃ (cell most : Int), vs = [.int cell, .int most] ∧ 0 < most ∧ most < 100000 ∧
  ∀ (H' : Hp) (t : Addr) (x y z : Int), Same H H' → H' t = some (.tup (zs [x, y, z])) → ¬ (x = 0 ∧ y = 0 ∧ z = 0) → (x.natAbs : Int) ≤ most + 1 → (y.natAbs : Int) ≤ most + 1 → (z.natAbs : Int) ≤ most + 1 → Q (.ref t) H'
theorem okLLawDirection {fLLawDirection : Addr} {fdLLawDirection : FuncData} (F : Fun K "_law_direction" "_law_direction" sLLawDirection fLLawDirection fdLLawDirection) (T : Txt mg) {CPartError CNought : Addr} (EX : Exns K mg CPartError CNought)
    {fLLawRow : Addr} {fdLLawRow : FuncData} (GLLawRow : FnOk P w K mg base CX0 1 fLLawRow fdLLawRow ["cell", "size", "base"] (spLLawRow K)) (gLLawRow : mg "_law_row" = some (.ref fLLawRow)) (kpLLawRow : PySem.W.keepIn K (.ref fLLawRow) = true) (bLLawRow : Binds K fdLLawRow ["cell", "size", "base"] []) :
    FnOk P w K mg base CX0 2 fLLawDirection fdLLawDirection ["cell", "most"] (spLLawDirection K) := by
  refine F.ok scLLawDirection (fun vs H Q E h => ?_) (fun cdv A outer s H vs Q E hr h => ?_)
  · obtain ⟨cell, most, rfl, h0, h1, q⟩ := h
    rfl
  · obtain ⟨cell, most, rfl, h0, h1, q⟩ := h
    refine ⟨_, (pss_cons (ps_set (i := 2) scLLawDirection.nd rfl (Or.inl rfl) (pe_call GLLawRow hr (by rfl) gLLawRow kpLLawRow bLLawRow .nil pass0 (pa_cons (pv 0) (pa_cons pe_int (pa_cons (pe_op op_add (pe_op op_mul pe_int (pv 1)) pe_int) pa_nil)))))
      (C8.pss_cut (ps_if (PW.pt (pw_and (pt_cmpR op_eq (pe_ix ix_list (pv 2) pe_int (fun _ _ => rfl)) (pv 1) (nomark _)) (pw_and (pt_cmpR op_eq (pe_ix ix_list (pv 2) pe_int (fun _ _ => rfl)) (pv 1) (nomark _)) (pw_and1 (pt_cmpR op_eq (pe_ix ix_list (pv 2) pe_int (fun _ _ => rfl)) (pv 1) (nomark _))))))
        (pss_one (ps_asg (pe_op op_add (pv 1) pe_int) (pg_sub (pv 2) (pe_op op_mod (pe_callTy call_int1 (by rfl) T.int (by decide +kernel) (pa_cons (pv 0) pa_nil)) pe_int) set_list)))
        pss_nil)
      (pss_one (ps_ret (pe_tup (pa_cons (pe_op op_sub (pe_ix ix_list (pv 2) pe_int (fun _ _ => rfl)) (pv 1)) (pa_cons (pe_op op_sub (pe_ix ix_list (pv 2) pe_int (fun _ _ => rfl)) (pv 1)) (pa_cons (pe_op op_sub (pe_ix ix_list (pv 2) pe_int (fun _ _ => rfl)) (pv 1)) pa_nil)))))))), ?_⟩
    walk_at "rd"
    refine ⟨cell, 2 * most + 1, 3, rfl, by omega, by omega, by decide, fun H1 l rs s1 hl el e3 ea => ?_⟩
    obtain ⟨a, b, c, rfl⟩ := len3 e3
    have ha := ea a (by simp)
    have hb := ea b (by simp)
    have hc := ea c (by simp)
    refine ⟨fun σ' H' => ∃ x y z : Int, σ' = [some (.int cell), some (.int most), some (.ref l)] ∧ Same H H' ∧ H' l = some (.lst (zs [x, y, z])) ∧ ¬ (x = most ∧ y = most ∧ z = most) ∧ 0 ≤ x ∧ x ≤ 2 * most + 1 ∧ 0 ≤ y ∧ y ≤ 2 * most + 1 ∧ 0 ≤ z ∧ z ≤ 2 * most + 1, ?_, ?_⟩
    · refine ⟨.ref l, rfl, l, _, 0, _, rfl, rfl, SqL.of el, atI_nat (j := 0) rfl, ?_⟩
      walk_at "rd"
      have no : ∀ (hh : ¬ (a = most ∧ b = most ∧ c = most)), ∃ x y z : Int, [some (V.int cell), some (.int most), some (.ref l)] = [some (.int cell), some (.int most), some (.ref l)] ∧ Same H H1 ∧ H1 l = some (.lst (zs [x, y, z])) ∧ ¬ (x = most ∧ y = most ∧ z = most) ∧ 0 ≤ x ∧ x ≤ 2 * most + 1 ∧ 0 ≤ y ∧ y ≤ 2 * most + 1 ∧ 0 ≤ z ∧ z ≤ 2 * most + 1 :=
        fun hh => ⟨a, b, c, rfl, s1, el, hh, by omega, by omega, by omega, by omega, by omega, by omega⟩
      refine ite2 (fun g => ?_) (fun g => iteF ?_)
      · refine ⟨.ref l, rfl, l, _, 1, _, rfl, rfl, SqL.of el, atI_nat (j := 1) rfl, ?_⟩
        walk_at "rd"
        refine ite2 (fun g2 => ?_) (fun g2 => iteF ?_)
        · refine ⟨.ref l, rfl, l, _, 2, _, rfl, rfl, SqL.of el, atI_nat (j := 2) rfl, ?_⟩
          walk_at "rd"
          refine ite2 (fun g3 => ?_) (fun g3 => ?_)
          · walk_at "rd"
            have k0 : 0 ≤ cell % 3 := Int.emod_nonneg _ (by decide)
            have k3 : cell % 3 < 3 := Int.emod_lt_of_pos _ (by decide)
            have ga : a = most := V.int.inj (of_decide_eq_true g)
            have gb : b = most := V.int.inj (of_decide_eq_true g2)
            have gc : c = most := V.int.inj (of_decide_eq_true g3)
            refine ⟨l, zs [a, b, c], cell % 3, (cell % 3).toNat, rfl, rfl, el, ixN_in k0 k3, ?_⟩
            have sm : Same H (upd H1 l (.lst ((zs [a, b, c]).set (cell % 3).toNat (.int (most + 1))))) := fun b o e => by
              rw [upd_ne (ne_of_none e hl)]
              exact s1 b o e
            obtain h | h | h : (cell % 3).toNat = 0 ∨ (cell % 3).toNat = 1 ∨ (cell % 3).toNat = 2 := by omega
            · rw [h] at sm ⊢
              exact ⟨most + 1, b, c, rfl, sm, upd_same, by omega, by omega, by omega, by omega, by omega, by omega, by omega⟩
            · rw [h] at sm ⊢
              exact ⟨a, most + 1, c, rfl, sm, upd_same, by omega, by omega, by omega, by omega, by omega, by omega, by omega⟩
            · rw [h] at sm ⊢
              exact ⟨a, b, most + 1, rfl, sm, upd_same, by omega, by omega, by omega, by omega, by omega, by omega, by omega⟩
          · exact no fun z => g3 (decide_eq_true (by rw [z.2.2]))
        · exact no fun z => g2 (decide_eq_true (by rw [z.2.1]))
      · exact no fun z => g (decide_eq_true (by rw [z.1]))
    · rintro σ' H2 ⟨x, y, z, rfl, s2, e2, hh, hx⟩
      refine ⟨.ref l, rfl, l, _, 0, _, rfl, rfl, SqL.of e2, atI_nat (j := 0) rfl, _, rfl, _, _, rfl, rfl, ?_⟩
      refine ⟨.ref l, rfl, l, _, 1, _, rfl, rfl, SqL.of e2, atI_nat (j := 1) rfl, _, rfl, _, _, rfl, rfl, ?_⟩
      refine ⟨.ref l, rfl, l, _, 2, _, rfl, rfl, SqL.of e2, atI_nat (j := 2) rfl, _, rfl, _, _, rfl, rfl, ?_⟩
      refine ⟨by show 3 ≤ sizeLine; decide, fun t ht => q _ t (x - most) (y - most) (z - most) (s2.trans (same_upd ht)) upd_same ?_ ?_ ?_ ?_⟩ <;> omega
def spLLawCommon (K : PySem.W.Frag) : Sp := fun vs H Q _ => ∃ (p : Addr) (l : List Int), vs = [.ref p] ∧ SqT K H p (zs l) ∧ l.length ≤ 1000 ∧ (∀ v ∈ l, v.natAbs < 2 ^ 100) ∧ Q (.int ((gl l : Nat) : Int)) H
theorem okLLawCommon {fLLawCommon : Addr} {fdLLawCommon : FuncData} (F : Fun K "_law_common" "_law_common" sLLawCommon fLLawCommon fdLLawCommon) (T : Txt mg) {CPartError CNought : Addr} (EX : Exns K mg CPartError CNought) :
    FnOk P w K mg base CX0 1 fLLawCommon fdLLawCommon ["row"] (spLLawCommon K) := by
  refine F.ok scLLawCommon (fun vs H Q E h => ?_) (fun cdv A outer s H vs Q E hr h => ?_)
  · obtain ⟨p, l, rfl, hS, hl, hv, q⟩ := h
    rfl
  · obtain ⟨p, l, rfl, hS, hl, hv, q⟩ := h
    refine ⟨_, (pss_cons (ps_set (i := 1) scLLawCommon.nd rfl (Or.inl rfl) pe_int)
      (C8.pss_cut (ps_for PassesOwn.never rfl (pi_tup (pv 0)) (pg_name (i := 2) scLLawCommon.nd rfl (Or.inl rfl))
        (pss_cons (ps_set (i := 3) scLLawCommon.nd rfl (Or.inl rfl) (pe_callB call_abs (by rfl) T.abs (by decide +kernel) (pa_cons (pv 2) pa_nil)))
        (pss_cons (ps_set (i := 4) scLLawCommon.nd rfl (Or.inl rfl) (pv 1))
        (C8.pss_cut (ps_for PassesOwn.never rfl (pi_range1 rfl T.range (pa_cons pe_int pa_nil)) (pg_name (i := 5) scLLawCommon.nd rfl (Or.inl rfl))
          (pss_cons (ps_if (pt_cmpR op_eq (pv 4) pe_int (nomark _))
            (pss_one ps_break)
            pss_nil)
          (pss_one (ps_par (i := 3) (j := 4) (by rfl) scLLawCommon.nd rfl rfl (by decide) rfl rfl (pa_cons (pv 4) (pa_cons (pe_op op_modN (pv 3) (pv 4)) pa_nil)) (by rfl)))))
        (pss_one (ps_set (i := 1) scLLawCommon.nd rfl (Or.inl rfl) (pv 3)))))))
      (pss_one (ps_ret (pv 1))))), ?_⟩
    refine ⟨fun σ' H' => ∃ v2 v3 v4 v5 : Option V, σ' = [some (.ref p), some (.int ((gl l : Nat) : Int)), v2, v3, v4, v5] ∧ H' = H, ?_, ?_⟩
    · refine ⟨_, rfl, p, rfl, ⟨_, hS⟩, for_tup (K := K) (a := p) (xs := zs l) (fun i σ' H' => ∃ v2 v3 v4 v5 : Option V, σ' = [some (.ref p), some (.int ((gl (l.take i) : Nat) : Int)), v2, v3, v4, v5] ∧ H' = H ∧ gl (l.take i) < 2 ^ 100) ?_ ?_ ?_ ?_⟩
      · exact ⟨none, none, none, none, rfl, rfl, by show (0 : Nat) < 2 ^ 100; decide⟩
      · rintro i σ' H' _ ⟨_, _, _, _, _, rfl, _⟩
        exact hS
      · rintro i v σ' H' hi ⟨v2, v3, v4, v5, rfl, rfl, hg⟩
        obtain ⟨z, rfl, hz⟩ := zs_get hi
        have hzz : z.natAbs < 2 ^ 100 := hv z (List.mem_of_getElem? hz)
        walk_at "rd"
        have ez : (if z < 0 then -z else z) = ((z.natAbs : Nat) : Int) := by
          split <;> omega
        rw [ez]
        refine ⟨fun σ2 H2 => ∃ v4 v5 : Option V, σ2 = [some (.ref p), some (.int ((gl (l.take i) : Nat) : Int)), some (.int z), some (.int ((gl (l.take (i + 1)) : Nat) : Int)), v4, v5] ∧ H2 = H', ?_, ?_⟩
        · refine ⟨10000, rfl, by decide, by decide, for_range (n := 10000) (fun j σ2 H2 => ∃ (a b : Nat) (v5 : Option V), σ2 = [some (.ref p), some (.int ((gl (l.take i) : Nat) : Int)), some (.int z), some (.int (a : Int)), some (.int (b : Int)), v5] ∧ H2 = H' ∧ Eu z.natAbs (gl (l.take i)) j a b) ?_ ?_ ?_⟩
          · exact ⟨_, _, v5, rfl, rfl, Eu.start _ _⟩
          · rintro j σ2 H2 hj ⟨a, b, w5, rfl, rfl, eu⟩
            walk_at "rd"
            refine ite2 (fun hb => ?_) (fun hb => ?_)
            · have hb0 : b = 0 := by
                have := V.int.inj (of_decide_eq_true hb)
                omega
              subst hb0
              refine ⟨some (.int ((0 : Nat) : Int)), some (.int (0 + (j : Int))), ?_, rfl⟩
              rw [take_snoc hz, gl_snoc, ← eu.end]
              rfl
            · have hb0 : b ≠ 0 := fun e => hb (decide_eq_true (by rw [e]; rfl))
              walk_at "rd"
              refine ⟨by omega, _, _, rfl, b, a % b, some (.int (0 + (j : Int))), ?_, rfl, eu.turn (by omega)⟩
              rw [← fmod_nat a b]
              rfl
          · rintro σ2 H2 ⟨a, b, w5, rfl, rfl, eu⟩
            have hb0 : b = 0 := eu.stop (by decide) (eu_far (by decide) hzz hg)
            subst hb0
            refine ⟨some (.int ((0 : Nat) : Int)), w5, ?_, rfl⟩
            rw [take_snoc hz, gl_snoc, ← eu.end]
        · rintro σ2 H2 ⟨w4, w5, rfl, rfl⟩
          refine ⟨_, rfl, _, _, _, _, rfl, rfl, ?_⟩
          rw [take_snoc hz]
          exact gl_lt hg hzz
      · rintro σ' H' ⟨v2, v3, v4, v5, rfl, rfl, _⟩
        refine ⟨v2, v3, v4, v5, ?_, rfl⟩
        rw [show (zs l).length = l.length from List.length_map _, List.take_length]
    · rintro σ' H' ⟨v2, v3, v4, v5, rfl, rfl⟩
      exact ⟨_, rfl, q⟩
def spLLawCanonical (K : PySem.W.Frag) : Sp := fun vs H Q _ => ∃ (p : Addr) (x y z : Int), vs = [.ref p] ∧ SqT K H p (zs [x, y, z]) ∧ ¬ (x = 0 ∧ y = 0 ∧ z = 0) ∧ x.natAbs < 1073741824 ∧ y.natAbs < 1073741824 ∧ z.natAbs < 1073741824 ∧
  ∀ (H' : Hp) (u : Addr), Same H H' → H' u = some (.tup (zs [x.fdiv (dv x y z), y.fdiv (dv x y z), z.fdiv (dv x y z)])) → Q (.ref u) H'
theorem okLLawCanonical {fLLawCanonical : Addr} {fdLLawCanonical : FuncData} (F : Fun K "_law_canonical" "_law_canonical" sLLawCanonical fLLawCanonical fdLLawCanonical) (T : Txt mg) {CPartError CNought : Addr} (EX : Exns K mg CPartError CNought)
    {fLLawCommon : Addr} {fdLLawCommon : FuncData} (GLLawCommon : FnOk P w K mg base CX0 1 fLLawCommon fdLLawCommon ["row"] (spLLawCommon K)) (gLLawCommon : mg "_law_common" = some (.ref fLLawCommon)) (kpLLawCommon : PySem.W.keepIn K (.ref fLLawCommon) = true) (bLLawCommon : Binds K fdLLawCommon ["row"] []) :
    FnOk P w K mg base CX0 2 fLLawCanonical fdLLawCanonical ["direction"] (spLLawCanonical K) := by
  refine F.ok scLLawCanonical (fun vs H Q E h => ?_) (fun cdv A outer s H vs Q E hr h => ?_)
  · obtain ⟨p, x, y, z, rfl, hS, hn, bx, bY, bz, q⟩ := h
    rfl
  · obtain ⟨p, x, y, z, rfl, hS, hn, bx, bY, bz, q⟩ := h
    refine ⟨_, (pss_cons (ps_set (i := 1) scLLawCanonical.nd rfl (Or.inl rfl) (pe_call GLLawCommon hr (by rfl) gLLawCommon kpLLawCommon bLLawCommon .nil pass0 (pa_cons (pv 0) pa_nil)))
      (pss_cons (ps_set (i := 2) scLLawCanonical.nd rfl (Or.inl rfl) (pe_ix ix_list (pe_lc (own := [("part", 3)]) (by rfl) scLLawCanonical.nd (pi_tup (pv 0)) (blkOk_by (own := [("part", 3)]) (N := ["direction", "by", "first", "part"]) (sc := defScope sLLawCanonical) (by decide +kernel)) (fun _ _ _ _ _ => (pg_name (i := 3) scLLawCanonical.nd rfl (Or.inl rfl))) (fun _ _ _ _ _ => pts_one (pt_cmpR op_ne (pv 3) pe_int (nomark _))) (fun _ _ _ _ _ => (pv 3))) pe_int (fun _ _ => rfl)))
      (C8.pss_cut (ps_if (pt_cmpR op_lt (pv 2) pe_int (nomark _))
        (pss_one (ps_set (i := 1) scLLawCanonical.nd rfl (Or.inl rfl) (pe_un un_neg (pv 1))))
        pss_nil)
      (pss_one (ps_ret (pe_tup (pa_cons (pe_op op_fdivN (pe_ix ix_tup (pv 0) pe_int (fun _ _ => rfl)) (pv 1)) (pa_cons (pe_op op_fdivN (pe_ix ix_tup (pv 0) pe_int (fun _ _ => rfl)) (pv 1)) (pa_cons (pe_op op_fdivN (pe_ix ix_tup (pv 0) pe_int (fun _ _ => rfl)) (pv 1)) pa_nil))))))))), ?_⟩
    have hv : ∀ v ∈ [x, y, z], v.natAbs < 2 ^ 100 := by
      have hb : (1073741824 : Nat) < 2 ^ 100 := by decide
      intro v hv
      simp only [List.mem_cons, List.not_mem_nil, or_false] at hv
      rcases hv with rfl | rfl | rfl <;> omega
    refine ⟨.ref p, rfl, p, [x, y, z], rfl, hS, by show 3 ≤ 1000; decide, hv, ?_⟩
    rw [gl_three]
    refine ⟨.ref p, rfl, p, rfl, ⟨_, hS⟩, fun D hD => ?_⟩
    refine lc_tup (K := K) (a := p) (xs := zs [x, y, z]) (fun i H2 => Same H H2 ∧ H2 D = some (.lst (zs (([x, y, z].take i).filter fun v => decide (v ≠ 0))))) ⟨same_upd hD, upd_same⟩ (fun i H2 _ h => same_tup h.1 hS) ?_ ?_
    · rintro i v H2 hi ⟨s2, e2⟩
      obtain ⟨n, rfl, hn⟩ := zs_get hi
      refine ⟨rfl, ?_⟩
      walk_at "rd"
      refine ite2 (fun g => ?_) (fun g => ?_)
      · refine ⟨_, rfl, _, e2, fil_lt _ (by show 3 ≤ 1000; decide), fun b o e => ?_, ?_⟩
        · rw [upd_ne (ne_of_none e hD)]
          exact s2 b o e
        · rw [upd_same, fil_snoc hn (ne_of_bang g)]
      · refine ⟨s2, ?_⟩
        rw [fil_same hn (eq_of_nobang g)]
        exact e2
    · rintro H2 ⟨s2, e2⟩
      have e2' : (zs (([x, y, z].take (zs [x, y, z]).length).filter fun v => decide (v ≠ 0))) = zs ([x, y, z].filter fun v => decide (v ≠ 0)) := rfl
      rw [e2'] at e2
      refine ⟨D, _, 0, _, rfl, rfl, SqL.of e2, atI_nat (j := 0) (fs3_get hn), ?_⟩
      refine ⟨fun σ3 H3 => ∃ v2 v3 : Option V, σ3 = [some (.ref p), some (.int (dv x y z)), v2, v3] ∧ H3 = H2, ?_, ?_⟩
      · walk_at "rd"
        rw [fs3_dn hn]
        have e3 := dv_eq x y z
        cases e : dn x y z with
        | true =>
          rw [e] at e3
          refine iteT ⟨_, rfl, _, rfl, some (.int (fs3 x y z)), none, ?_, rfl⟩
          rw [e3, if_pos rfl]
          rfl
        | false =>
          rw [e] at e3
          refine iteF ⟨some (.int (fs3 x y z)), none, ?_, rfl⟩
          rw [e3, if_neg Bool.false_ne_true]
          rfl
      · rintro σ3 H3 ⟨w2, w3, rfl, rfl⟩
        have hS3 := same_tup s2 hS
        have hd0 := dv_ne hn
        have hd1 : (dv x y z).natAbs < 1073741824 := by
          rw [dv_abs]
          have := g3_le (n := 1073741823) hn (by omega) (by omega) (by omega)
          omega
        refine ⟨.ref p, rfl, p, _, 0, _, rfl, rfl, hS3, atI_nat (j := 0) rfl, _, rfl, _, _, rfl, rfl, ⟨hd0, hd1⟩, ?_⟩
        refine ⟨.ref p, rfl, p, _, 1, _, rfl, rfl, hS3, atI_nat (j := 1) rfl, _, rfl, _, _, rfl, rfl, ⟨hd0, hd1⟩, ?_⟩
        refine ⟨.ref p, rfl, p, _, 2, _, rfl, rfl, hS3, atI_nat (j := 2) rfl, _, rfl, _, _, rfl, rfl, ⟨hd0, hd1⟩, ?_⟩
        exact ⟨by show 3 ≤ sizeLine; decide, fun t ht => q _ t (s2.trans (same_upd ht)) upd_same⟩
theorem ws3 {ws : List (Addr × Int × Int)} (h : ws.length = 3) : ∃ a b c, ws = [a, b, c] := by
  match ws, h with
  | [a, b, c], _ => exact ⟨a, b, c, rfl⟩
theorem pt_of {K : PySem.W.Frag} {H : Hp} {t : Addr} {a b c : Addr × Int × Int} (h : SqT K H t (rf [a, b, c])) (r : Rows K H [a, b, c]) : Pt K H t a.2.1 a.2.2 b.2.1 b.2.2 c.2.1 c.2.2 := by
  have up : (2 : Nat) ^ 40 ≤ 2 ^ 100 := by decide
  have ma : a ∈ [a, b, c] := by simp
  have mb : b ∈ [a, b, c] := by simp
  have mc : c ∈ [a, b, c] := by simp
  exact ⟨⟨a.1, b.1, c.1, h, r.at_ a ma, r.at_ b mb, r.at_ c mc⟩, ⟨Nat.lt_of_lt_of_le (r.b1 a ma) up, Nat.lt_of_lt_of_le (r.b1 b mb) up, Nat.lt_of_lt_of_le (r.b1 c mc) up⟩,
    ⟨Nat.lt_of_lt_of_le (r.b2 a ma) up, Nat.lt_of_lt_of_le (r.b2 b mb) up, Nat.lt_of_lt_of_le (r.b2 c mc) up⟩, ⟨r.b3 a ma, r.b3 b mb, r.b3 c mc⟩⟩
theorem Rows.snoc {K : PySem.W.Frag} {H H' : Hp} {D : Addr} {ws : List (Addr × Int × Int)} {o : HO} {xs : List V} {t : Addr} {p q : Int} (r : Rows K H ws) (s : Same H H') (hD : H' D = some (.lst xs)) (ht : SqT K H' t (zs [p, q])) (hp : p.natAbs < 2 ^ 40) (hq : q.natAbs < 2 ^ 40) (h0 : 0 < q) (hl : ws.length < 9) : Rows K (upd H' D o) (ws ++ [(t, p, q)]) := by
  refine ⟨fun w hw => ?_, fun w hw => ?_, fun w hw => ?_, fun w hw => ?_, ?_⟩
  · rcases List.mem_append.mp hw with h | h
    · exact tup_upd (same_tup s (r.at_ w h)) hD
    · rw [List.mem_singleton.mp h]
      exact tup_upd ht hD
  · rcases List.mem_append.mp hw with h | h
    · exact r.b1 w h
    · rw [List.mem_singleton.mp h]
      exact hp
  · rcases List.mem_append.mp hw with h | h
    · exact r.b2 w h
    · rw [List.mem_singleton.mp h]
      exact hq
  · rcases List.mem_append.mp hw with h | h
    · exact r.b3 w h
    · rw [List.mem_singleton.mp h]
      exact h0
  · rw [List.length_append, List.length_singleton]
    omega
def spLLawPoint (K : PySem.W.Frag) : Sp := fun vs H Q _ => ∃ cell : Int, vs = [.int cell] ∧ ∀ (H' : Hp) (t : Addr) (p1 q1 p2 q2 p3 q3 : Int), Same H H' → Pt K H' t p1 q1 p2 q2 p3 q3 → Q (.ref t) H'
theorem okLLawPoint {fLLawPoint : Addr} {fdLLawPoint : FuncData} (F : Fun K "_law_point" "_law_point" sLLawPoint fLLawPoint fdLLawPoint) (T : Txt mg) {CPartError CNought : Addr} (EX : Exns K mg CPartError CNought)
    {fLLawRow : Addr} {fdLLawRow : FuncData} (GLLawRow : FnOk P w K mg base CX0 1 fLLawRow fdLLawRow ["cell", "size", "base"] (spLLawRow K)) (gLLawRow : mg "_law_row" = some (.ref fLLawRow)) (kpLLawRow : PySem.W.keepIn K (.ref fLLawRow) = true) (bLLawRow : Binds K fdLLawRow ["cell", "size", "base"] [])
    {fLLawFraction : Addr} {fdLLawFraction : FuncData} (GLLawFraction : FnOk P w K mg base CX0 1 fLLawFraction fdLLawFraction ["number", "divisor"] (spLLawFraction K)) (gLLawFraction : mg "_law_fraction" = some (.ref fLLawFraction)) (kpLLawFraction : PySem.W.keepIn K (.ref fLLawFraction) = true) (bLLawFraction : Binds K fdLLawFraction ["number", "divisor"] []) :
    FnOk P w K mg base CX0 2 fLLawPoint fdLLawPoint ["cell"] (spLLawPoint K) := by
  refine F.ok scLLawPoint (fun vs H Q E h => ?_) (fun cdv A outer s H vs Q E hr h => ?_)
  · obtain ⟨cell, rfl, k⟩ := h
    rfl
  · obtain ⟨cell, rfl, k⟩ := h
    refine ⟨_, (pss_cons (ps_set (i := 1) scLLawPoint.nd rfl (Or.inr rfl) (pe_call GLLawRow hr (by rfl) gLLawRow kpLLawRow bLLawRow .nil pass0 (pa_cons (pv 0) (pa_cons pe_int (pa_cons pe_int pa_nil)))))
      (pss_one (ps_ret (pe_callTy call_tuple_of (by rfl) T.tuple (by decide +kernel) (pa_cons (pe_lc (own := [("k", 2)]) (by rfl) scLLawPoint.nd (pi_range1 rfl T.range (pa_cons pe_int pa_nil)) (blkOk_by (own := [("k", 2)]) (N := ["cell", "row", "k"]) (sc := defScope sLLawPoint) (by decide +kernel)) (fun _ _ _ _ _ => (pg_name (i := 2) scLLawPoint.nd rfl (Or.inl rfl))) (fun _ _ _ _ _ => pts_nil) (fun _ _ _ _ _ => (pe_call GLLawFraction hr (by rfl) gLLawFraction kpLLawFraction bLLawFraction .nil pass0 (pa_cons (pe_op op_sub (pe_op op_fdiv (pe_ix (show IxR _ (rIxL K) from ix_list) (pv 1) (pv 2) (fun _ _ => rfl)) pe_int) pe_int) (pa_cons (pe_op op_add pe_int (pe_op op_mod (pe_ix (show IxR _ (rIxL K) from ix_list) (pv 1) (pv 2) (fun _ _ => rfl)) pe_int)) pa_nil))))) pa_nil))))), ?_⟩
    refine ⟨_, rfl, cell, 1452, 6, rfl, by decide, by decide, by decide, fun H1 l rs s1 nl el e6 er => ?_⟩
    refine ⟨3, rfl, by decide, by decide, fun D hD => ?_⟩
    refine lc_range (lo := 0) (n := 3) (fun i H2 => ∃ ws : List (Addr × Int × Int), ws.length = i ∧ Same H1 H2 ∧ H2 D = some (.lst (rf ws)) ∧ Rows K H2 ws) ⟨[], rfl, same_upd hD, upd_same, Rows.nil⟩ ?_ ?_
    · rintro i H2 hi ⟨ws, hw, s2, e2, hW⟩
      have hi0 : (0 : Int) + (i : Int) = (i : Int) := by omega
      have hl2 : SqL K H2 l (zs rs) := SqL.of (s2 _ _ el)
      have hir : i < rs.length := by omega
      have hg : rs[i]? = some rs[i] := List.getElem?_eq_getElem hir
      have hb := er rs[i] (List.getElem_mem _)
      generalize rs[i] = r at hg hb
      refine ⟨rfl, .ref l, rfl, .int (0 + (i : Int)), rfl, l, _, _, _, rfl, rfl, hl2, by rw [hi0]; exact zs_at hg, _, _, rfl, rfl, ⟨by decide, by decide⟩, _, _, rfl, rfl, ?_⟩
      refine ⟨.ref l, rfl, .int (0 + (i : Int)), rfl, l, _, _, _, rfl, rfl, hl2, by rw [hi0]; exact zs_at hg, _, _, rfl, rfl, by show (0 : Int) < 12; decide, _, _, rfl, rfl, ?_⟩
      have u1 : (200 : Nat) < 2 ^ 40 := by decide
      have up : (2 : Nat) ^ 40 ≤ 2 ^ 1800 := Nat.pow_le_pow_right (by decide) (by decide)
      have d0 : 0 ≤ r % 12 := Int.emod_nonneg _ (by decide)
      have d1 : r % 12 < 12 := Int.emod_lt_of_pos _ (by decide)
      have n0 : 0 ≤ r / 12 := by omega
      have n1 : r / 12 ≤ 121 := by omega
      refine ⟨_, _, rfl, by omega, by omega, by omega, fun H3 t s3 e3 => ?_⟩
      obtain ⟨p, q, e, lp, lq, fr⟩ := rd2_le (n := r / 12 - 60) (d := 1 + r % 12) (by omega)
      rw [e] at e3
      have e2' := s3 _ _ e2
      refine ⟨_, e2', by rw [rf_len]; exact small1000 (by omega), ws ++ [(t, p, q)], by rw [List.length_append, hw]; rfl, fun b o e => ?_, ?_, hW.snoc s3 e2' (SqT.of e3) (by omega) (by omega) fr.q0 (by omega)⟩
      · rw [upd_ne (ne_of_none e hD)]
        exact s3 b o (s2 b o e)
      · rw [upd_same, show rf (ws ++ [(t, p, q)]) = rf ws ++ [.ref t] from List.map_append]
    · rintro H2 ⟨ws, hw, s2, e2, hW⟩
      obtain ⟨a, b, c, rfl⟩ := ws3 hw
      refine ⟨D, _, rfl, .inl ⟨SqL.of e2, fun u hu => ?_⟩⟩
      have su := same_upd (o := .tup (rf [a, b, c])) hu
      exact k _ u _ _ _ _ _ _ (s1.trans (s2.trans su)) (pt_of (SqT.of upd_same) (hW.same su))
theorem len4 {rs : List Int} (h : rs.length = 4) : ∃ a b c d, rs = [a, b, c, d] := by
  match rs, h with
  | [a, b, c, d], _ => exact ⟨a, b, c, d, rfl⟩
theorem cross_t {p q t P Q d : Int} (h : P * (q * 1) = p * t * Q) : P * 1 * (q * d) = p * 1 * (Q * (d * t)) := by grind
def pdw (x y z p q : Int) : PyData := .tuple [pd3 x y z, pd2 p q]
theorem dpw {K : PySem.W.Frag} {H : Hp} {w : Addr} {x y z p q : Int} (h : Wl K H w x y z p q) : Dp K H (.ref w) (pdw x y z p q) := by
  obtain ⟨u, o, h1, h2, h3⟩ := h.ex
  exact .tup h1 (.cons (dp3 h2) (.cons (dp2 h3) .nil))
theorem eqvw (x y z p q : Int) : PyData.eqv (pdw x y z p q) (pdw x y z p q) = true := by
  unfold pdw
  rw [PyData.eqv, PyData.eqvAll, PyData.eqvAll, PyData.eqvAll, eqv3, eqv2]
  rfl
def spLaw (K : PySem.W.Frag) : Sp := fun vs H Q _ => ∃ (a : Addr) (ns : List Int), vs = [.ref a] ∧ SqL K H a (ns.map V.int) ∧ ns.length ≤ 63 ∧ ∀ H', Q (.bl true) H'
theorem okLaw {fLaw : Addr} {fdLaw : FuncData} (F : Fun K "law" "law" sLaw fLaw fdLaw) (T : Txt mg) {CPartError CNought : Addr} (EX : Exns K mg CPartError CNought)
    {fLLawDirection : Addr} {fdLLawDirection : FuncData} (GLLawDirection : FnOk P w K mg base CX0 2 fLLawDirection fdLLawDirection ["cell", "most"] (spLLawDirection K)) (gLLawDirection : mg "_law_direction" = some (.ref fLLawDirection)) (kpLLawDirection : PySem.W.keepIn K (.ref fLLawDirection) = true) (bLLawDirection : Binds K fdLLawDirection ["cell", "most"] [])
    {fLLawPoint : Addr} {fdLLawPoint : FuncData} (GLLawPoint : FnOk P w K mg base CX0 2 fLLawPoint fdLLawPoint ["cell"] (spLLawPoint K)) (gLLawPoint : mg "_law_point" = some (.ref fLLawPoint)) (kpLLawPoint : PySem.W.keepIn K (.ref fLLawPoint) = true) (bLLawPoint : Binds K fdLLawPoint ["cell"] [])
    {fLLawRow : Addr} {fdLLawRow : FuncData} (GLLawRow : FnOk P w K mg base CX0 1 fLLawRow fdLLawRow ["cell", "size", "base"] (spLLawRow K)) (gLLawRow : mg "_law_row" = some (.ref fLLawRow)) (kpLLawRow : PySem.W.keepIn K (.ref fLLawRow) = true) (bLLawRow : Binds K fdLLawRow ["cell", "size", "base"] [])
    {fLLawFraction : Addr} {fdLLawFraction : FuncData} (GLLawFraction : FnOk P w K mg base CX0 1 fLLawFraction fdLLawFraction ["number", "divisor"] (spLLawFraction K)) (gLLawFraction : mg "_law_fraction" = some (.ref fLLawFraction)) (kpLLawFraction : PySem.W.keepIn K (.ref fLLawFraction) = true) (bLLawFraction : Binds K fdLLawFraction ["number", "divisor"] [])
    {fPlane : Addr} {fdPlane : FuncData} (GPlane : FnOk P w K mg base CX0 4 fPlane fdPlane ["direction", "offset"] (spPlane K)) (gPlane : mg "plane" = some (.ref fPlane)) (kpPlane : PySem.W.keepIn K (.ref fPlane) = true) (bPlane : Binds K fdPlane ["direction", "offset"] [])
    {fLLawCommon : Addr} {fdLLawCommon : FuncData} (GLLawCommon : FnOk P w K mg base CX0 1 fLLawCommon fdLLawCommon ["row"] (spLLawCommon K)) (gLLawCommon : mg "_law_common" = some (.ref fLLawCommon)) (kpLLawCommon : PySem.W.keepIn K (.ref fLLawCommon) = true) (bLLawCommon : Binds K fdLLawCommon ["row"] [])
    {fLLawSide : Addr} {fdLLawSide : FuncData} (GLLawSide : FnOk P w K mg base CX0 4 fLLawSide fdLLawSide ["wall", "point"] (spLLawSide K)) (gLLawSide : mg "_law_side" = some (.ref fLLawSide)) (kpLLawSide : PySem.W.keepIn K (.ref fLLawSide) = true) (bLLawSide : Binds K fdLLawSide ["wall", "point"] [])
    {fSide : Addr} {fdSide : FuncData} (GSide : FnOk P w K mg base CX0 2 fSide fdSide ["wall", "point"] (spSide K)) (gSide : mg "side" = some (.ref fSide)) (kpSide : PySem.W.keepIn K (.ref fSide) = true) (bSide : Binds K fdSide ["wall", "point"] [])
    {fLLawCell : Addr} {fdLLawCell : FuncData} (GLLawCell : FnOk P w K mg base CX0 1 fLLawCell fdLLawCell ["script", "k"] (spLLawCell K)) (gLLawCell : mg "_law_cell" = some (.ref fLLawCell)) (kpLLawCell : PySem.W.keepIn K (.ref fLLawCell) = true) (bLLawCell : Binds K fdLLawCell ["script", "k"] [])
    {fLLawAlong : Addr} {fdLLawAlong : FuncData} (GLLawAlong : FnOk P w K mg base CX0 3 fLLawAlong fdLLawAlong ["normal", "point"] (spLLawAlong K)) (gLLawAlong : mg "_law_along" = some (.ref fLLawAlong)) (kpLLawAlong : PySem.W.keepIn K (.ref fLLawAlong) = true) (bLLawAlong : Binds K fdLLawAlong ["normal", "point"] [])
    {fLLawTimes : Addr} {fdLLawTimes : FuncData} (GLLawTimes : FnOk P w K mg base CX0 2 fLLawTimes fdLLawTimes ["a", "b"] (spLLawTimes K)) (gLLawTimes : mg "_law_times" = some (.ref fLLawTimes)) (kpLLawTimes : PySem.W.keepIn K (.ref fLLawTimes) = true) (bLLawTimes : Binds K fdLLawTimes ["a", "b"] [])
    {fLLawCanonical : Addr} {fdLLawCanonical : FuncData} (GLLawCanonical : FnOk P w K mg base CX0 2 fLLawCanonical fdLLawCanonical ["direction"] (spLLawCanonical K)) (gLLawCanonical : mg "_law_canonical" = some (.ref fLLawCanonical)) (kpLLawCanonical : PySem.W.keepIn K (.ref fLLawCanonical) = true) (bLLawCanonical : Binds K fdLLawCanonical ["direction"] [])
    {fLLawIsFraction : Addr} {fdLLawIsFraction : FuncData} (GLLawIsFraction : FnOk P w K mg base CX0 2 fLLawIsFraction fdLLawIsFraction ["actual"] (spLLawIsFraction K)) (gLLawIsFraction : mg "_law_is_fraction" = some (.ref fLLawIsFraction)) (kpLLawIsFraction : PySem.W.keepIn K (.ref fLLawIsFraction) = true) (bLLawIsFraction : Binds K fdLLawIsFraction ["actual"] [])
    {fAlong : Addr} {fdAlong : FuncData} (GAlong : FnOk P w K mg base CX0 3 fAlong fdAlong ["direction", "point"] (spAlong K)) (gAlong : mg "along" = some (.ref fAlong)) (kpAlong : PySem.W.keepIn K (.ref fAlong) = true) (bAlong : Binds K fdAlong ["direction", "point"] [])
    {fLLawIsInteger : Addr} {fdLLawIsInteger : FuncData} (GLLawIsInteger : FnOk P w K mg base CX0 1 fLLawIsInteger fdLLawIsInteger ["actual"] (spLLawIsInteger K)) (gLLawIsInteger : mg "_law_is_integer" = some (.ref fLLawIsInteger)) (kpLLawIsInteger : PySem.W.keepIn K (.ref fLLawIsInteger) = true) (bLLawIsInteger : Binds K fdLLawIsInteger ["actual"] [])
    {fSides : Addr} {fdSides : FuncData} (GSides : FnOk P w K mg base CX0 3 fSides fdSides ["walls", "point"] (spSides K)) (gSides : mg "sides" = some (.ref fSides)) (kpSides : PySem.W.keepIn K (.ref fSides) = true) (bSides : Binds K fdSides ["walls", "point"] []) :
    FnOk P w K mg base CX0 5 fLaw fdLaw ["script"] (spLaw K) := by
  refine F.ok scLaw (fun vs H Q E h => ?_) (fun cdv A outer s H vs Q E hr h => ?_)
  · obtain ⟨a, ns, rfl, hS0, hlen, fin⟩ := h
    rfl
  · obtain ⟨a, ns, rfl, hS0, hlen, fin⟩ := h
    refine ⟨_, (pss_cons (ps_set (i := 1) scLaw.nd rfl (Or.inl rfl) (pe_call GLLawDirection (hr.mono (by decide)) (by rfl) gLLawDirection kpLLawDirection bLLawDirection .nil pass0 (pa_cons (pe_call GLLawCell (hr.mono (by decide)) (by rfl) gLLawCell kpLLawCell bLLawCell .nil pass0 (pa_cons (pv 0) (pa_cons pe_int pa_nil))) (pa_cons pe_int pa_nil))))
      (pss_cons (ps_set (i := 2) scLaw.nd rfl (Or.inl rfl) (pe_call GLLawPoint (hr.mono (by decide)) (by rfl) gLLawPoint kpLLawPoint bLLawPoint .nil pass0 (pa_cons (pe_call GLLawCell (hr.mono (by decide)) (by rfl) gLLawCell kpLLawCell bLLawCell .nil pass0 (pa_cons (pv 0) (pa_cons pe_int pa_nil))) pa_nil)))
      (pss_cons (ps_set (i := 3) scLaw.nd rfl (Or.inl rfl) (pe_call GLLawRow (hr.mono (by decide)) (by rfl) gLLawRow kpLLawRow bLLawRow .nil pass0 (pa_cons (pe_call GLLawCell (hr.mono (by decide)) (by rfl) gLLawCell kpLLawCell bLLawCell .nil pass0 (pa_cons (pv 0) (pa_cons pe_int pa_nil))) (pa_cons pe_int (pa_cons pe_int pa_nil)))))
      (pss_cons (ps_set (i := 4) scLaw.nd rfl (Or.inl rfl) (pe_call GLLawFraction (hr.mono (by decide)) (by rfl) gLLawFraction kpLLawFraction bLLawFraction .nil pass0 (pa_cons (pe_op op_sub (pe_op op_mod (pe_ix ix_list (pv 3) pe_int (fun _ _ => rfl)) pe_int) pe_int) (pa_cons (pe_op op_add pe_int (pe_op op_mod (pe_ix ix_list (pv 3) pe_int (fun _ _ => rfl)) pe_int)) pa_nil))))
      (C8.pss_cut (ps_if (pt_cmpR op_eq (pe_op op_mod (pe_ix ix_list (pv 3) pe_int (fun _ _ => rfl)) pe_int) pe_int (nomark _))
        (pss_one (ps_set (i := 4) scLaw.nd rfl (Or.inl rfl) (pe_call GLLawAlong (hr.mono (by decide)) (by rfl) gLLawAlong kpLLawAlong bLLawAlong .nil pass0 (pa_cons (pv 1) (pa_cons (pv 2) pa_nil)))))
        pss_nil)
      (pss_cons (ps_set (i := 5) scLaw.nd rfl (Or.inl rfl) (pe_op op_add pe_int (pe_op op_mod (pe_ix ix_list (pv 3) pe_int (fun _ _ => rfl)) pe_int)))
      (C8.pss_cut (ps_if (pt_cmpR op_eq (pe_op op_mod (pe_op op_fdiv (pe_ix ix_list (pv 3) pe_int (fun _ _ => rfl)) pe_int) pe_int) pe_int (nomark _))
        (pss_one (ps_set (i := 5) scLaw.nd rfl (Or.inl rfl) (pe_un un_neg (pv 5))))
        pss_nil)
      (pss_cons (ps_set (i := 6) scLaw.nd rfl (Or.inl rfl) (pe_call GPlane hr (by rfl) gPlane kpPlane bPlane .nil pass0 (pa_cons (pv 1) (pa_cons (pv 4) pa_nil))))
      (pss_cons (ps_if (PW.pt (pw_or (pt_not (pt_val (pe_callB call_isi (by rfl) T.isinstance (by decide +kernel) (pa_cons (pv 6) (pa_cons (pe_bltn (v := .ty "tuple") (by rfl) T.tuple (by decide +kernel) rfl) pa_nil))))) (pw_or (pt_cmpR op_ne (pe_callB call_len_seq (by rfl) T.len PySem.boot_len (pa_cons (pv 6) pa_nil)) pe_int (nomark _)) (pw_or (pt_cmpR (op_neD hr.units) (pe_ix ix_tup (pv 6) pe_int (fun _ _ => rfl)) (pe_call GLLawCanonical (hr.mono (by decide)) (by rfl) gLLawCanonical kpLLawCanonical bLLawCanonical .nil pass0 (pa_cons (pv 1) pa_nil)) (nomark _)) (pw_or1 (pt_not (pt_val (pe_call GLLawIsFraction (hr.mono (by decide)) (by rfl) gLLawIsFraction kpLLawIsFraction bLLawIsFraction .nil pass0 (pa_cons (pe_ix ix_tup (pv 6) pe_int (fun _ _ => rfl)) pa_nil)))))))))
        (pss_one (ps_ret pe_bl))
        pss_nil)
      (pss_cons (ps_set (i := 7) scLaw.nd rfl (Or.inl rfl) (pe_call GLLawCommon (hr.mono (by decide)) (by rfl) gLLawCommon kpLLawCommon bLLawCommon .nil pass0 (pa_cons (pv 1) pa_nil)))
      (C8.pss_cut (ps_if (pt_cmpR op_lt (pe_ix ix_list (pe_lc (own := [("part", 11)]) (by rfl) scLaw.nd (pi_tup (pv 1)) (blkOk_by (own := [("part", 11)]) (N := ["script", "direction", "point", "draw", "offset", "times", "wall", "length", "due", "found", "longer", "part"]) (sc := defScope sLaw) (by decide +kernel)) (fun _ _ _ _ _ => (pg_name (i := 11) scLaw.nd rfl (Or.inl rfl))) (fun _ _ _ _ _ => pts_one (pt_cmpR op_ne (pv 11) pe_int (nomark _))) (fun _ _ _ _ _ => (pv 11))) pe_int (fun _ _ => rfl)) pe_int (nomark _))
        (pss_one (ps_set (i := 7) scLaw.nd rfl (Or.inl rfl) (pe_un un_neg (pv 7))))
        pss_nil)
      (pss_cons (ps_if (pt_cmpR (op_neD hr.units) (pe_call GLLawTimes (hr.mono (by decide)) (by rfl) gLLawTimes kpLLawTimes bLLawTimes .nil pass0 (pa_cons (pe_ix ix_tup (pv 6) pe_int (fun _ _ => rfl)) (pa_cons (pe_tup (pa_cons (pv 7) (pa_cons pe_int pa_nil))) pa_nil))) (pv 4) (nomark _))
        (pss_one (ps_ret pe_bl))
        pss_nil)
      (pss_cons (ps_if (PW.pt (pw_or (pt_not (pt_val (pe_call GLLawIsFraction (hr.mono (by decide)) (by rfl) gLLawIsFraction kpLLawIsFraction bLLawIsFraction .nil pass0 (pa_cons (pe_call GAlong (hr.mono (by decide)) (by rfl) gAlong kpAlong bAlong .nil pass0 (pa_cons (pe_ix ix_tup (pv 6) pe_int (fun _ _ => rfl)) (pa_cons (pv 2) pa_nil))) pa_nil)))) (pw_or1 (pt_cmpR (op_neD hr.units) (pe_call GAlong (hr.mono (by decide)) (by rfl) gAlong kpAlong bAlong .nil pass0 (pa_cons (pe_ix ix_tup (pv 6) pe_int (fun _ _ => rfl)) (pa_cons (pv 2) pa_nil))) (pe_call GLLawAlong (hr.mono (by decide)) (by rfl) gLLawAlong kpLLawAlong bLLawAlong .nil pass0 (pa_cons (pe_ix ix_tup (pv 6) pe_int (fun _ _ => rfl)) (pa_cons (pv 2) pa_nil))) (nomark _)))))
        (pss_one (ps_ret pe_bl))
        pss_nil)
      (pss_cons (ps_set (i := 8) scLaw.nd rfl (Or.inl rfl) (pe_call GLLawSide hr (by rfl) gLLawSide kpLLawSide bLLawSide .nil pass0 (pa_cons (pv 6) (pa_cons (pv 2) pa_nil))))
      (pss_cons (ps_set (i := 9) scLaw.nd rfl (Or.inl rfl) (pe_call GSide (hr.mono (by decide)) (by rfl) gSide kpSide bSide .nil pass0 (pa_cons (pv 6) (pa_cons (pv 2) pa_nil))))
      (pss_cons (ps_if (PW.pt (pw_or (pt_not (pt_val (pe_call GLLawIsInteger (hr.mono (by decide)) (by rfl) gLLawIsInteger kpLLawIsInteger bLLawIsInteger .nil pass0 (pa_cons (pv 9) pa_nil)))) (pw_or (pt_cmpR op_ne (pv 9) (pv 8) (nomark _)) (pw_or1 (pt_cmpR (op_neD hr.units) (pe_call GSides (hr.mono (by decide)) (by rfl) gSides kpSides bSides .nil pass0 (pa_cons (pe_lst (pa_cons (pv 6) (pa_cons (pv 6) pa_nil))) (pa_cons (pv 2) pa_nil))) (pe_tup (pa_cons (pv 8) (pa_cons (pv 8) pa_nil))) (nomark _))))))
        (pss_one (ps_ret pe_bl))
        pss_nil)
      (pss_cons (ps_set (i := 10) scLaw.nd rfl (Or.inl rfl) (pe_tup (pa_cons (pe_op op_mul (pe_ix ix_tup (pv 1) pe_int (fun _ _ => rfl)) (pv 5)) (pa_cons (pe_op op_mul (pe_ix ix_tup (pv 1) pe_int (fun _ _ => rfl)) (pv 5)) (pa_cons (pe_op op_mul (pe_ix ix_tup (pv 1) pe_int (fun _ _ => rfl)) (pv 5)) pa_nil)))))
      (pss_one (ps_ret (pe_cmpR (op_eqD hr.units) (pe_call GPlane hr (by rfl) gPlane kpPlane bPlane .nil pass0 (pa_cons (pv 10) (pa_cons (pe_call GLLawTimes (hr.mono (by decide)) (by rfl) gLLawTimes kpLLawTimes bLLawTimes .nil pass0 (pa_cons (pv 4) (pa_cons (pe_tup (pa_cons (pv 5) (pa_cons pe_int pa_nil))) pa_nil))) pa_nil))) (pv 6) (nomark _))))))))))))))))))))), ?_⟩
    have hS : SqL K H a (zs ns) := hS0
    refine ⟨_, rfl, a, ns, 0, rfl, hS, fun c0 _ => ?_⟩
    refine ⟨c0, 9, rfl, by decide, by decide, fun H1 n x y z s1 en hn bx bY bz => ?_⟩
    refine ⟨_, rfl, a, ns, 1, rfl, s1.seq hS, fun c1 _ => ?_⟩
    refine ⟨c1, rfl, fun H2 t p1 q1 p2 q2 p3 q3 s2 hP => ?_⟩
    have s12 := s1.trans s2
    refine ⟨_, rfl, a, ns, 2, rfl, s12.seq hS, fun c2 _ => ?_⟩
    refine ⟨c2, 100000, 4, rfl, by decide, by decide, by decide, fun H3 l rs s3 nl el e4 er => ?_⟩
    obtain ⟨r0, r1, r2, r3, rfl⟩ := len4 e4
    have hl3 : SqL K H3 l (zs [r0, r1, r2, r3]) := SqL.of el
    have dn3 : SqT K H3 n (zs [x, y, z]) := SqT.of (s3 _ _ (s2 _ _ en))
    have hP3 := hP.same s3
    have x64 : -(2 ^ 64) < x ∧ x < 2 ^ 64 := by constructor <;> omega
    have y64 : -(2 ^ 64) < y ∧ y < 2 ^ 64 := by constructor <;> omega
    have z64 : -(2 ^ 64) < z ∧ z < 2 ^ 64 := by constructor <;> omega
    refine ⟨.ref l, rfl, l, _, 0, _, rfl, rfl, hl3, atI_nat (j := 0) rfl, _, _, rfl, rfl, by show (0 : Int) < 121; decide, _, _, rfl, rfl, .ref l, rfl, l, _, 1, _, rfl, rfl, hl3, atI_nat (j := 1) rfl, _, _, rfl, rfl, by show (0 : Int) < 12; decide, _, _, rfl, rfl, ?_⟩
    have o0 : 0 ≤ r0 % 121 := Int.emod_nonneg _ (by decide)
    have o1 : r0 % 121 < 121 := Int.emod_lt_of_pos _ (by decide)
    have o2 : 0 ≤ r1 % 12 := Int.emod_nonneg _ (by decide)
    have o3 : r1 % 12 < 12 := Int.emod_lt_of_pos _ (by decide)
    have big : (1000 : Nat) < 2 ^ 500 := by decide
    have big2 : (1000 : Nat) < 2 ^ 1800 := Nat.lt_of_lt_of_le big (Nat.pow_le_pow_right (by decide) (by decide))
    refine ⟨_, _, rfl, by omega, by omega, by omega, fun H4 o s4 e4 => ?_⟩
    have x100 : x.natAbs < 2 ^ 100 := by
      have : (1000 : Nat) < 2 ^ 100 := by decide
      omega
    have y100 : y.natAbs < 2 ^ 100 := by
      have : (1000 : Nat) < 2 ^ 100 := by decide
      omega
    have z100 : z.natAbs < 2 ^ 100 := by
      have : (1000 : Nat) < 2 ^ 100 := by decide
      omega
    -- the offset
    refine ⟨fun σ' H' => ∃ (o : Addr) (p q : Int), σ' = [some (.ref a), some (.ref n), some (.ref t), some (.ref l), some (.ref o), none, none, none, none, none, none, none] ∧ Same H4 H' ∧ H' o = some (.tup (zs [p, q])) ∧ Nat.gcd p.natAbs q.natAbs = 1 ∧ 0 < q ∧ p.natAbs < 2 ^ 500 ∧ q.natAbs < 2 ^ 500, ?_, ?_⟩
    · refine ⟨.ref l, rfl, l, _, 2, _, rfl, rfl, SqL.of (s4 _ _ el), atI_nat (j := 2) rfl, _, _, rfl, rfl, by show (0 : Int) < 3; decide, rfl, _, rfl, ite2 (fun _ => ?_) (fun _ => ?_)⟩
      · refine ⟨_, rfl, _, rfl, n, t, x, y, z, p1, q1, p2, q2, p3, q3, rfl, same_tup s4 dn3, x100, y100, z100, hP3.same s4, fun H5 r s5 e5 => ?_⟩
        have b0 : 0 < q1 * q2 * q3 := Int.mul_pos (Int.mul_pos hP.b3.1 hP.b3.2.1) hP.b3.2.2
        obtain ⟨bn, bm⟩ := rn_lt x100 y100 z100 hP.b1 hP.b2
        obtain ⟨p, q, e, lp, lq, fr⟩ := rd2_le (n := rn x y z p1 q1 p2 q2 p3 q3) (d := q1 * q2 * q3) (by omega)
        rw [e] at e5
        have up : (2 : Nat) ^ 402 ≤ 2 ^ 500 := Nat.pow_le_pow_right (by decide) (by decide)
        exact ⟨r, p, q, rfl, s5, e5, fr.one, fr.q0, by omega, by omega⟩
      · obtain ⟨p, q, e, lp, lq, fr⟩ := rd2_le (n := r0 % 121 - 60) (d := 1 + r1 % 12) (by omega)
        rw [e] at e4
        exact ⟨o, p, q, rfl, Same.refl _, e4, fr.one, fr.q0, by omega, by omega⟩
    rintro σ' H5 ⟨o, p, q, rfl, s5, eo, hlow, q0, bp, bq⟩
    have s35 := s4.trans s5
    have el5 := s35 _ _ el
    -- how often
    refine ⟨.ref l, rfl, l, _, 3, _, rfl, rfl, SqL.of el5, atI_nat (j := 3) rfl, _, _, rfl, rfl, by show (0 : Int) < 7; decide, _, _, rfl, rfl, ?_⟩
    have m0 : 0 ≤ r3 % 7 := Int.emod_nonneg _ (by decide)
    have m1 : r3 % 7 < 7 := Int.emod_lt_of_pos _ (by decide)
    refine ⟨fun σ' H' => ∃ tm : Int, σ' = [some (.ref a), some (.ref n), some (.ref t), some (.ref l), some (.ref o), some (.int tm), none, none, none, none, none, none] ∧ H' = H5 ∧ tm ≠ 0 ∧ tm.natAbs ≤ 7, ?_, ?_⟩
    · refine ⟨.ref l, rfl, l, _, 3, _, rfl, rfl, SqL.of el5, atI_nat (j := 3) rfl, _, _, rfl, rfl, ⟨by decide, by decide⟩, _, _, rfl, rfl, by show (0 : Int) < 2; decide, rfl, _, rfl, ite2 (fun _ => ?_) (fun _ => ?_)⟩
      · exact ⟨_, rfl, _, rfl, -(1 + r3 % 7), rfl, rfl, by omega, by omega⟩
      · exact ⟨1 + r3 % 7, rfl, rfl, by omega, by omega⟩
    rintro σ' H6 ⟨tm, rfl, rfl, t0, t7⟩
    -- the plane
    have hd0 := dv_ne hn
    have hd1 : g3 x y z ≤ 10 := g3_le hn (by omega) (by omega) (by omega)
    have hd2 : (dv x y z).natAbs < 1073741824 := by
      rw [dv_abs]
      omega
    have dn6 : SqT K H6 n (zs [x, y, z]) := same_tup s35 dn3
    have do6 : SqT K H6 o (zs [p, q]) := SqT.of eo
    have hP6 := hP3.same s35
    have b5 : (2 : Nat) ^ 500 ≤ 2 ^ 800 := Nat.pow_le_pow_right (by decide) (by decide)
    refine ⟨_, rfl, _, rfl, n, o, x, y, z, p, q, rfl, dn6, do6, hd0, hd2, Nat.lt_of_lt_of_le bp b5, Nat.lt_of_lt_of_le bq b5, q0, fun H7 w u o' s7 ew eu eo' => ?_⟩
    have dp0 : q * dv x y z ≠ 0 := Int.mul_ne_zero (by omega) hd0
    obtain ⟨p', q', e', lp', lq', fr'⟩ := rd2_le (n := p * 1) (d := q * dv x y z) dp0
    have eo2 := eo'
    rw [e'] at eo'
    have bp' : p'.natAbs < 2 ^ 500 := by
      rw [Int.mul_one] at lp'
      omega
    have bq' : q'.natAbs < 2 ^ 600 := by
      have : (q * dv x y z).natAbs < 2 ^ (500 + 30) := wide_lt bq (show (dv x y z).natAbs < 2 ^ 30 from hd2)
      have : (2 : Nat) ^ (500 + 30) ≤ 2 ^ 600 := Nat.pow_le_pow_right (by decide) (by decide)
      omega
    have bp6 : p'.natAbs < 2 ^ 600 := Nat.lt_of_lt_of_le bp' (Nat.pow_le_pow_right (by decide) (by decide))
    have q0' := fr'.q0
    have c600 : (2 : Nat) ^ 600 ≤ 2 ^ 1800 := Nat.pow_le_pow_right (by decide) (by decide)
    have hw7 : SqT K H7 w [.ref u, .ref o'] := SqT.of ew
    have f1 := fdiv_back (dv_dx x y z)
    have f2 := fdiv_back (dv_dy x y z)
    have f3 := fdiv_back (dv_dz x y z)
    have ux := part_le f1 hd0
    have uy := part_le f2 hd0
    have uz := part_le f3 hd0
    have hq1 : (fun t => x.fdiv t) (dv x y z) = x.fdiv (dv x y z) := rfl
    generalize gx : x.fdiv (dv x y z) = X at eu f1 ux
    generalize gy : y.fdiv (dv x y z) = Y at eu f2 uy
    generalize gz : z.fdiv (dv x y z) = Z at eu f3 uz
    have W7 : Wl K H7 w X Y Z p' q' := ⟨⟨u, o', hw7, SqT.of eu, SqT.of eo'⟩⟩
    refine ⟨.ref w, rfl, .ref w, .ty "tuple", .type "tuple", .type "tuple", true, rfl, .ty _, tyx_tup hw7, kit_ty (by decide +kernel), true, rfl, ?_⟩
    refine iteF ⟨.ref w, rfl, w, _, rfl, .inr hw7, rfl, _, rfl, ?_⟩
    refine ite2 (fun g => absurd rfl (ne_of_bang g)) (fun _ => ?_)
    have dn7 := same_tup s7 dn6
    refine ⟨.ref w, rfl, w, _, 0, _, rfl, rfl, hw7, atI_nat (j := 0) rfl, _, rfl, n, x, y, z, rfl, dn7, hn, by omega, by omega, by omega, fun H8 u8 s8 e8 => ?_⟩
    rw [gx, gy, gz] at e8
    refine ⟨_, _, dp3 (SqT.of (s8 _ _ eu)), dp3 (SqT.of e8), rfl, rfl, _, rfl, ?_⟩
    rw [eqv3]
    refine iteF ?_
    have hw8 := same_tup s8 hw7
    refine ⟨.ref w, rfl, w, _, 1, _, rfl, rfl, hw8, atI_nat (j := 1) rfl, o', p', q', rfl, SqT.of (s8 _ _ eo'), fr'.one, q0', by omega, by omega, fun H9 s9 => ?_⟩
    refine ⟨true, rfl, iteF ?_⟩
    have s79 := s8.trans s9
    have dn9 := same_tup s79 dn7
    -- the divisor again
    have x9 : ∀ v ∈ [x, y, z], v.natAbs < 2 ^ 100 := by
      intro v hv
      simp only [List.mem_cons, List.not_mem_nil, or_false] at hv
      rcases hv with rfl | rfl | rfl
      · exact x100
      · exact y100
      · exact z100
    refine ⟨_, rfl, n, [x, y, z], rfl, dn9, by show 3 ≤ 1000; decide, x9, ?_⟩
    rw [gl_three]
    refine ⟨fun σ' H' => σ' = [some (.ref a), some (.ref n), some (.ref t), some (.ref l), some (.ref o), some (.int tm), some (.ref w), some (.int (dv x y z)), none, none, none, none] ∧ Same H9 H', ?_, ?_⟩
    · refine ⟨_, rfl, n, rfl, ⟨_, dn9⟩, fun D hD => ?_⟩
      refine lc_tup (K := K) (a := n) (xs := zs [x, y, z]) (fun i H2 => Same H9 H2 ∧ H2 D = some (.lst (zs (([x, y, z].take i).filter fun v => decide (v ≠ 0))))) ⟨same_upd hD, upd_same⟩ (fun i H2 _ h => same_tup h.1 dn9) ?_ ?_
      · rintro i v H2 hi ⟨s2, e2⟩
        obtain ⟨m, rfl, hm⟩ := zs_get hi
        refine ⟨rfl, ?_⟩
        walk_at "rd"
        refine ite2 (fun g => ?_) (fun g => ?_)
        · refine ⟨_, rfl, _, e2, fil_lt _ (by show 3 ≤ 1000; decide), fun b o e => ?_, ?_⟩
          · rw [upd_ne (ne_of_none e hD)]
            exact s2 b o e
          · rw [upd_same, fil_snoc hm (ne_of_bang g)]
        · refine ⟨s2, ?_⟩
          rw [fil_same hm (eq_of_nobang g)]
          exact e2
      · rintro H2 ⟨s2, e2⟩
        have e2' : (zs (([x, y, z].take (zs [x, y, z]).length).filter fun v => decide (v ≠ 0))) = zs ([x, y, z].filter fun v => decide (v ≠ 0)) := rfl
        rw [e2'] at e2
        refine ⟨D, _, 0, _, rfl, rfl, SqL.of e2, atI_nat (j := 0) (fs3_get hn), _, _, rfl, rfl, _, rfl, ?_⟩
        rw [fs3_dn hn]
        have e3 := dv_eq x y z
        cases e : dn x y z with
        | true =>
          rw [e, if_pos rfl] at e3
          rw [e3]
          exact iteT ⟨_, rfl, _, rfl, rfl, s2⟩
        | false =>
          rw [e, if_neg Bool.false_ne_true] at e3
          rw [e3]
          exact iteF ⟨rfl, s2⟩
    rintro σ' H10 ⟨rfl, s10⟩
    have s7a := s79.trans s10
    have hw10 := same_tup s7a hw7
    have do10 : SqT K H10 o' (zs [p', q']) := same_tup s7a (SqT.of eo')
    -- the offset back
    refine ⟨.ref w, rfl, w, _, 1, _, rfl, rfl, hw10, atI_nat (j := 1) rfl, _, rfl, by show 2 ≤ sizeLine; decide, fun m nm => ?_⟩
    have sm : Same H10 (upd H10 m (.tup (zs [dv x y z, 1]))) := same_upd nm
    have one800 : (1 : Int).natAbs < 2 ^ 800 := Nat.one_lt_two_pow (by decide)
    have dv800 : (dv x y z).natAbs < 2 ^ 800 := Nat.lt_of_lt_of_le hd2 (Nat.pow_le_pow_right (n := 2) (i := 30) (by decide) (by decide))
    have c68 : (2 : Nat) ^ 600 ≤ 2 ^ 800 := Nat.pow_le_pow_right (by decide) (by decide)
    refine ⟨o', m, p', q', dv x y z, 1, rfl, same_tup sm do10, SqT.of upd_same, Nat.lt_of_lt_of_le bp6 c68, Nat.lt_of_lt_of_le bq' c68, dv800, one800, Int.mul_ne_zero (by omega) (by decide), fun H11 t11 s11 e11 => ?_⟩
    have e11' : H11 t11 = some (.tup (zs (rd2 (p' * dv x y z) (q' * 1)))) := e11
    rw [rd2_eq0 (n' := p) (d' := q) (by omega) (by omega) (by have := fr'.cross; grind), low_of hlow q0] at e11'
    have s7b := s7a.trans (sm.trans s11)
    have do11 : SqT K H11 o (zs [p, q]) := same_tup s7b (same_tup s7 do6)
    refine ⟨_, rfl, _, _, dp2 (SqT.of e11'), dp2 do11, rfl, rfl, _, rfl, ?_⟩
    rw [eqv2]
    refine iteF ?_
    have hP11 := hP6.same (s7.trans s7b)
    have hw11 := same_tup s7b hw7
    have du11 : SqT K H11 u (zs [X, Y, Z]) := SqT.of (s7b _ _ eu)
    -- along
    have X100 : X.natAbs < 2 ^ 100 := by omega
    have Y100 : Y.natAbs < 2 ^ 100 := by omega
    have Z100 : Z.natAbs < 2 ^ 100 := by omega
    have b0 : 0 < q1 * q2 * q3 := Int.mul_pos (Int.mul_pos hP.b3.1 hP.b3.2.1) hP.b3.2.2
    obtain ⟨bn, bm⟩ := rn_lt X100 Y100 Z100 hP.b1 hP.b2
    obtain ⟨A, B, eAB, lA, lB, frA⟩ := rd2_le (n := rn X Y Z p1 q1 p2 q2 p3 q3) (d := q1 * q2 * q3) (by omega)
    have c402 : (2 : Nat) ^ 402 ≤ 2 ^ 1800 := Nat.pow_le_pow_right (by decide) (by decide)
    refine ⟨.ref w, rfl, w, _, 0, _, rfl, rfl, hw11, atI_nat (j := 0) rfl, _, rfl, u, t, X, Y, Z, p1, q1, p2, q2, p3, q3, rfl, du11, X100, Y100, Z100, hP11, fun H12 r12 s12' e12 => ?_⟩
    rw [eAB] at e12
    refine ⟨r12, A, B, rfl, SqT.of e12, frA.one, frA.q0, by omega, by omega, fun H13 s13 => ?_⟩
    refine ⟨true, rfl, iteF ?_⟩
    have s1113 := s12'.trans s13
    have hw13 := same_tup s1113 hw11
    refine ⟨.ref w, rfl, w, _, 0, _, rfl, rfl, hw13, atI_nat (j := 0) rfl, _, rfl, u, t, X, Y, Z, p1, q1, p2, q2, p3, q3, rfl, same_tup s1113 du11, X100, Y100, Z100, hP11.same s1113, fun H14 r14 s14 e14 => ?_⟩
    have hw14 := same_tup s14 hw13
    refine ⟨.ref w, rfl, w, _, 0, _, rfl, rfl, hw14, atI_nat (j := 0) rfl, _, rfl, u, t, X, Y, Z, p1, q1, p2, q2, p3, q3, rfl, same_tup (s1113.trans s14) du11, X100, Y100, Z100, hP11.same (s1113.trans s14), fun H15 r15 s15 e15 => ?_⟩
    refine ⟨_, _, dp2 (SqT.of (s15 _ _ e14)), dp2 (SqT.of e15), rfl, rfl, _, rfl, ?_⟩
    rw [eqv2]
    refine iteF ?_
    have s1115 := s1113.trans (s14.trans s15)
    have W15 := W7.same (s7b.trans s1115)
    have hP15 := hP11.same s1115
    -- the side
    refine ⟨_, rfl, _, rfl, w, t, X, Y, Z, p', q', p1, q1, p2, q2, p3, q3, rfl, W15, X100, Y100, Z100, bp6, bq', q0', hP15, fun H16 s16 => ?_⟩
    refine ⟨_, rfl, _, rfl, w, t, X, Y, Z, p', q', p1, q1, p2, q2, p3, q3, rfl, W15.same s16, X100, Y100, Z100, bp6, bq', q0', hP15.same s16, fun H17 s17 => ?_⟩
    refine ⟨_, rfl, _, rfl, true, rfl, iteF ?_⟩
    refine ⟨_, rfl, _, rfl, rfl, _, rfl, ite2 (fun g => (no_self g).elim) (fun _ => ?_)⟩
    have s1517 := s16.trans s17
    refine ⟨_, rfl, _, rfl, by show 2 ≤ sizeLine; decide, fun wl nwl => ?_⟩
    have swl : Same H17 (upd H17 wl (.lst [.ref w, .ref w])) := same_upd nwl
    refine ⟨_, rfl, wl, w, t, X, Y, Z, p', q', p1, q1, p2, q2, p3, q3, rfl, SqL.of upd_same, W15.same (s1517.trans swl), X100, Y100, Z100, bp6, bq', q0', hP15.same (s1517.trans swl), fun H18 r18 s18 e18 => ?_⟩
    refine ⟨_, rfl, _, rfl, by show 2 ≤ sizeLine; decide, fun t19 n19 => ?_⟩
    refine ⟨_, _, dp2 (SqT.of (same_upd n19 _ _ e18)), dp2 (SqT.of upd_same), rfl, rfl, _, rfl, ?_⟩
    rw [eqv2]
    refine iteF ?_
    have s1119 := s1517.trans (swl.trans (s18.trans (same_upd (o := .tup [.int (sd X Y Z p' q' p1 q1 p2 q2 p3 q3), .int (sd X Y Z p' q' p1 q1 p2 q2 p3 q3)]) n19)))
    generalize upd H18 t19 (.tup [.int (sd X Y Z p' q' p1 q1 p2 q2 p3 q3), .int (sd X Y Z p' q' p1 q1 p2 q2 p3 q3)]) = H19 at s1119 ⊢
    have s919 := s10.trans (sm.trans (s11.trans (s1115.trans s1119)))
    have dn19 := same_tup s919 dn9
    have do19 : SqT K H19 o (zs [p, q]) := same_tup (s1115.trans s1119) do11
    -- the longer direction
    refine ⟨.ref n, rfl, n, _, 0, _, rfl, rfl, dn19, atI_nat (j := 0) rfl, _, rfl, _, _, rfl, rfl, .inl x64, ?_⟩
    refine ⟨.ref n, rfl, n, _, 1, _, rfl, rfl, dn19, atI_nat (j := 1) rfl, _, rfl, _, _, rfl, rfl, .inl y64, ?_⟩
    refine ⟨.ref n, rfl, n, _, 2, _, rfl, rfl, dn19, atI_nat (j := 2) rfl, _, rfl, _, _, rfl, rfl, .inl z64, ?_⟩
    refine ⟨by show 3 ≤ sizeLine; decide, fun lg nlg => ?_⟩
    have slg : Same H19 (upd H19 lg (.tup [.int (x * tm), .int (y * tm), .int (z * tm)])) := same_upd nlg
    have elg : (upd H19 lg (.tup [.int (x * tm), .int (y * tm), .int (z * tm)])) lg = some (.tup (zs [x * tm, y * tm, z * tm])) := upd_same
    have glg : (upd H19 lg (.tup [.int (x * tm), .int (y * tm), .int (z * tm)])) = (upd H19 lg (.tup [.int (x * tm), .int (y * tm), .int (z * tm)])) := rfl
    refine ⟨_, rfl, _, rfl, _, rfl, by show 2 ≤ sizeLine; decide, fun m2 nm2 => ?_⟩
    have sm2 := same_upd (o := .tup (zs [tm, 1])) nm2
    have tm800 : tm.natAbs < 2 ^ 800 := Nat.lt_of_le_of_lt (Nat.le_trans t7 (show 7 ≤ 1000 by decide)) (Nat.lt_of_lt_of_le big b5)
    refine ⟨o, m2, p, q, tm, 1, rfl, same_tup (slg.trans sm2) do19, SqT.of upd_same, Nat.lt_of_lt_of_le bp b5, Nat.lt_of_lt_of_le bq b5, tm800, one800, Int.mul_ne_zero (Int.ne_of_gt q0) (by decide), fun H21 t21 s21 e21 => ?_⟩
    have e21' : H21 t21 = some (.tup (zs (rd2 (p * tm) (q * 1)))) := e21
    obtain ⟨P2, Q2, eP, lP, lQ, frP⟩ := rd2_le (n := p * tm) (d := q * 1) (Int.mul_ne_zero (Int.ne_of_gt q0) (by decide))
    rw [eP] at e21'
    have hm := dv_mul (t := tm) hn t0
    have hd5 : dv (x * tm) (y * tm) (z * tm) ≠ 0 := by
      rw [hm]
      exact Int.mul_ne_zero hd0 t0
    have hd6 : (dv (x * tm) (y * tm) (z * tm)).natAbs < 1073741824 := by
      rw [hm, Int.natAbs_mul, dv_abs]
      exact Nat.lt_of_le_of_lt (Nat.mul_le_mul hd1 t7) (by decide)
    have bP2 : P2.natAbs < 2 ^ 800 := Nat.lt_of_le_of_lt lP (Nat.lt_of_lt_of_le (wide_lt bp (show tm.natAbs < 2 ^ 3 from Nat.lt_of_le_of_lt t7 (by decide))) (Nat.pow_le_pow_right (by decide) (by decide)))
    have bQ2 : Q2.natAbs < 2 ^ 800 := by
      rw [Int.mul_one] at lQ
      exact Nat.lt_of_le_of_lt lQ (Nat.lt_of_lt_of_le bq b5)
    have Q20 := frP.q0
    refine ⟨lg, t21, _, _, _, P2, Q2, rfl, SqT.of (s21 _ _ (sm2 _ _ elg)), SqT.of e21', hd5, hd6, bP2, bQ2, Q20, fun H22 w2 u2 o2 s22 ew2 eu2 eo2' => ?_⟩
    rw [hm, fdiv_same hd0 t0 (dv_dx x y z), fdiv_same hd0 t0 (dv_dy x y z), fdiv_same hd0 t0 (dv_dz x y z), gx, gy, gz] at eu2
    have frc := frP.cross
    rw [hm, rd2_eq0 (n' := p * 1) (d' := q * dv x y z) (Int.mul_ne_zero (Int.ne_of_gt Q20) (Int.mul_ne_zero hd0 t0)) dp0 (cross_t frc), e'] at eo2'
    have W22 : Wl K H22 w2 X Y Z p' q' := ⟨⟨u2, o2, SqT.of ew2, SqT.of eu2, SqT.of eo2'⟩⟩
    have W22' : Wl K H22 w X Y Z p' q' := W15.same (s1119.trans (slg.trans (sm2.trans (s21.trans s22))))
    refine ⟨_, rfl, _, _, dpw W22, dpw W22', rfl, rfl, ?_⟩
    rw [eqvw]
    exact fin _
end
theorem all_mk {l : PySem.W.OpenLaw} {w : World} {K : PySem.W.Frag} {h : Heap} {mg : Str → Option Value} {fa f1 f2 f3 f4 f5 f6 f7 f8 f9 f10 f11 f12 f13 f14 f15 f16 f17 f18 f19 f20 f21 f22 f23 f24 f25 f26 f27 CPartError CNought T2 : Addr} (X : K.In h) (G : h.Ns mainGlobals mg) (hfa : mg "law" = some (.ref fa))
    {od1 an1 od2 an2 od3 an3 od4 an4 od5 an5 od6 an6 od7 an7 od8 an8 od9 an9 od10 an10 od11 an11 od12 an12 od13 an13 od14 an14 od15 an15 od16 an16 od17 an17 od18 an18 od19 an19 od20 an20 od21 an21 od22 an22 od23 an23 od24 an24 od25 an25 od26 an26 od27 an27 : Option Addr} {sl1 sl2 sl3 sl4 sl5 sl6 sl7 sl8 sl9 sl10 sl11 sl12 sl13 sl14 sl15 sl16 sl17 sl18 sl19 sl20 sl21 sl22 sl23 sl24 sl25 sl26 sl27 : Array (Option Value)} {oc1 kV1 dc1 pm1 cd1 ct1 oc2 kV2 dc2 pm2 cd2 ct2 oc3 kV3 dc3 pm3 cd3 ct3 oc4 kV4 dc4 pm4 cd4 ct4 oc5 kV5 dc5 pm5 cd5 ct5 oc6 kV6 dc6 pm6 cd6 ct6 oc7 kV7 dc7 pm7 cd7 ct7 oc8 kV8 dc8 pm8 cd8 ct8 oc9 kV9 dc9 pm9 cd9 ct9 oc10 kV10 dc10 pm10 cd10 ct10 oc11 kV11 dc11 pm11 cd11 ct11 oc12 kV12 dc12 pm12 cd12 ct12 oc13 kV13 dc13 pm13 cd13 ct13 oc14 kV14 dc14 pm14 cd14 ct14 oc15 kV15 dc15 pm15 cd15 ct15 oc16 kV16 dc16 pm16 cd16 ct16 oc17 kV17 dc17 pm17 cd17 ct17 oc18 kV18 dc18 pm18 cd18 ct18 oc19 kV19 dc19 pm19 cd19 ct19 oc20 kV20 dc20 pm20 cd20 ct20 oc21 kV21 dc21 pm21 cd21 ct21 oc22 kV22 dc22 pm22 cd22 ct22 oc23 kV23 dc23 pm23 cd23 ct23 oc24 kV24 dc24 pm24 cd24 ct24 oc25 kV25 dc25 pm25 cd25 ct25 oc26 kV26 dc26 pm26 cd26 ct26 oc27 kV27 dc27 pm27 cd27 ct27 : Value}
    (a1 : PySem.W.nsIn K mainGlobals "common" = some (some (.ref f1))) (l1 : K.lookup f1 = some ⟨oc1, od1, .func (PySem.W.fnOf "common" "common" (defArgs sCommon) (defBody sCommon) (defScope sCommon) .none kV1 dc1 pm1 an1 cd1 ct1), sl1⟩) (c1 : PySem.W.codeIn K cd1 "common" = true) (k1 : PySem.W.keepIn K (.ref f1) = true)
    (a2 : PySem.W.nsIn K mainGlobals "fraction" = some (some (.ref f2))) (l2 : K.lookup f2 = some ⟨oc2, od2, .func (PySem.W.fnOf "fraction" "fraction" (defArgs sFraction) (defBody sFraction) (defScope sFraction) (.ref T2) kV2 dc2 pm2 an2 cd2 ct2), sl2⟩) {ocT2 : Value} {odT2 : Option Addr} {slT2 : Array (Option Value)} {nT2 : Nat} {tT2 : Tok} (lT2 : K.lookup T2 = some ⟨ocT2, odT2, .seq #[.int 1 tT2] nT2, slT2⟩) (c2 : PySem.W.codeIn K cd2 "fraction" = true) (k2 : PySem.W.keepIn K (.ref f2) = true)
    (a3 : PySem.W.nsIn K mainGlobals "over" = some (some (.ref f3))) (l3 : K.lookup f3 = some ⟨oc3, od3, .func (PySem.W.fnOf "over" "over" (defArgs sOver) (defBody sOver) (defScope sOver) .none kV3 dc3 pm3 an3 cd3 ct3), sl3⟩) (c3 : PySem.W.codeIn K cd3 "over" = true) (k3 : PySem.W.keepIn K (.ref f3) = true)
    (a4 : PySem.W.nsIn K mainGlobals "sign_of" = some (some (.ref f4))) (l4 : K.lookup f4 = some ⟨oc4, od4, .func (PySem.W.fnOf "sign_of" "sign_of" (defArgs sSignOf) (defBody sSignOf) (defScope sSignOf) .none kV4 dc4 pm4 an4 cd4 ct4), sl4⟩) (c4 : PySem.W.codeIn K cd4 "sign_of" = true) (k4 : PySem.W.keepIn K (.ref f4) = true)
    (a5 : PySem.W.nsIn K mainGlobals "reach_ratio" = some (some (.ref f5))) (l5 : K.lookup f5 = some ⟨oc5, od5, .func (PySem.W.fnOf "reach_ratio" "reach_ratio" (defArgs sReachRatio) (defBody sReachRatio) (defScope sReachRatio) .none kV5 dc5 pm5 an5 cd5 ct5), sl5⟩) (c5 : PySem.W.codeIn K cd5 "reach_ratio" = true) (k5 : PySem.W.keepIn K (.ref f5) = true)
    (a6 : PySem.W.nsIn K mainGlobals "reach" = some (some (.ref f6))) (l6 : K.lookup f6 = some ⟨oc6, od6, .func (PySem.W.fnOf "reach" "reach" (defArgs sReach) (defBody sReach) (defScope sReach) .none kV6 dc6 pm6 an6 cd6 ct6), sl6⟩) (c6 : PySem.W.codeIn K cd6 "reach" = true) (k6 : PySem.W.keepIn K (.ref f6) = true)
    (a7 : PySem.W.nsIn K mainGlobals "primitive" = some (some (.ref f7))) (l7 : K.lookup f7 = some ⟨oc7, od7, .func (PySem.W.fnOf "primitive" "primitive" (defArgs sPrimitive) (defBody sPrimitive) (defScope sPrimitive) .none kV7 dc7 pm7 an7 cd7 ct7), sl7⟩) (c7 : PySem.W.codeIn K cd7 "primitive" = true) (k7 : PySem.W.keepIn K (.ref f7) = true)
    (a8 : PySem.W.nsIn K mainGlobals "plane_of" = some (some (.ref f8))) (l8 : K.lookup f8 = some ⟨oc8, od8, .func (PySem.W.fnOf "plane_of" "plane_of" (defArgs sPlaneOf) (defBody sPlaneOf) (defScope sPlaneOf) .none kV8 dc8 pm8 an8 cd8 ct8), sl8⟩) (c8 : PySem.W.codeIn K cd8 "plane_of" = true) (k8 : PySem.W.keepIn K (.ref f8) = true)
    (a9 : PySem.W.nsIn K mainGlobals "plane" = some (some (.ref f9))) (l9 : K.lookup f9 = some ⟨oc9, od9, .func (PySem.W.fnOf "plane" "plane" (defArgs sPlane) (defBody sPlane) (defScope sPlane) .none kV9 dc9 pm9 an9 cd9 ct9), sl9⟩) (c9 : PySem.W.codeIn K cd9 "plane" = true) (k9 : PySem.W.keepIn K (.ref f9) = true)
    (a10 : PySem.W.nsIn K mainGlobals "along" = some (some (.ref f10))) (l10 : K.lookup f10 = some ⟨oc10, od10, .func (PySem.W.fnOf "along" "along" (defArgs sAlong) (defBody sAlong) (defScope sAlong) .none kV10 dc10 pm10 an10 cd10 ct10), sl10⟩) (c10 : PySem.W.codeIn K cd10 "along" = true) (k10 : PySem.W.keepIn K (.ref f10) = true)
    (a11 : PySem.W.nsIn K mainGlobals "side" = some (some (.ref f11))) (l11 : K.lookup f11 = some ⟨oc11, od11, .func (PySem.W.fnOf "side" "side" (defArgs sSide) (defBody sSide) (defScope sSide) .none kV11 dc11 pm11 an11 cd11 ct11), sl11⟩) (c11 : PySem.W.codeIn K cd11 "side" = true) (k11 : PySem.W.keepIn K (.ref f11) = true)
    (a12 : PySem.W.nsIn K mainGlobals "sides" = some (some (.ref f12))) (l12 : K.lookup f12 = some ⟨oc12, od12, .func (PySem.W.fnOf "sides" "sides" (defArgs sSides) (defBody sSides) (defScope sSides) .none kV12 dc12 pm12 an12 cd12 ct12), sl12⟩) (c12 : PySem.W.codeIn K cd12 "sides" = true) (k12 : PySem.W.keepIn K (.ref f12) = true)
    (a13 : PySem.W.nsIn K mainGlobals "_law_is_integer" = some (some (.ref f13))) (l13 : K.lookup f13 = some ⟨oc13, od13, .func (PySem.W.fnOf "_law_is_integer" "_law_is_integer" (defArgs sLLawIsInteger) (defBody sLLawIsInteger) (defScope sLLawIsInteger) .none kV13 dc13 pm13 an13 cd13 ct13), sl13⟩) (c13 : PySem.W.codeIn K cd13 "_law_is_integer" = true) (k13 : PySem.W.keepIn K (.ref f13) = true)
    (a14 : PySem.W.nsIn K mainGlobals "_law_cell" = some (some (.ref f14))) (l14 : K.lookup f14 = some ⟨oc14, od14, .func (PySem.W.fnOf "_law_cell" "_law_cell" (defArgs sLLawCell) (defBody sLLawCell) (defScope sLLawCell) .none kV14 dc14 pm14 an14 cd14 ct14), sl14⟩) (c14 : PySem.W.codeIn K cd14 "_law_cell" = true) (k14 : PySem.W.keepIn K (.ref f14) = true)
    (a15 : PySem.W.nsIn K mainGlobals "_law_row" = some (some (.ref f15))) (l15 : K.lookup f15 = some ⟨oc15, od15, .func (PySem.W.fnOf "_law_row" "_law_row" (defArgs sLLawRow) (defBody sLLawRow) (defScope sLLawRow) .none kV15 dc15 pm15 an15 cd15 ct15), sl15⟩) (c15 : PySem.W.codeIn K cd15 "_law_row" = true) (k15 : PySem.W.keepIn K (.ref f15) = true)
    (a16 : PySem.W.nsIn K mainGlobals "_law_fraction" = some (some (.ref f16))) (l16 : K.lookup f16 = some ⟨oc16, od16, .func (PySem.W.fnOf "_law_fraction" "_law_fraction" (defArgs sLLawFraction) (defBody sLLawFraction) (defScope sLLawFraction) .none kV16 dc16 pm16 an16 cd16 ct16), sl16⟩) (c16 : PySem.W.codeIn K cd16 "_law_fraction" = true) (k16 : PySem.W.keepIn K (.ref f16) = true)
    (a17 : PySem.W.nsIn K mainGlobals "_law_plus" = some (some (.ref f17))) (l17 : K.lookup f17 = some ⟨oc17, od17, .func (PySem.W.fnOf "_law_plus" "_law_plus" (defArgs sLLawPlus) (defBody sLLawPlus) (defScope sLLawPlus) .none kV17 dc17 pm17 an17 cd17 ct17), sl17⟩) (c17 : PySem.W.codeIn K cd17 "_law_plus" = true) (k17 : PySem.W.keepIn K (.ref f17) = true)
    (a18 : PySem.W.nsIn K mainGlobals "_law_times" = some (some (.ref f18))) (l18 : K.lookup f18 = some ⟨oc18, od18, .func (PySem.W.fnOf "_law_times" "_law_times" (defArgs sLLawTimes) (defBody sLLawTimes) (defScope sLLawTimes) .none kV18 dc18 pm18 an18 cd18 ct18), sl18⟩) (c18 : PySem.W.codeIn K cd18 "_law_times" = true) (k18 : PySem.W.keepIn K (.ref f18) = true)
    (a19 : PySem.W.nsIn K mainGlobals "_law_sign" = some (some (.ref f19))) (l19 : K.lookup f19 = some ⟨oc19, od19, .func (PySem.W.fnOf "_law_sign" "_law_sign" (defArgs sLLawSign) (defBody sLLawSign) (defScope sLLawSign) .none kV19 dc19 pm19 an19 cd19 ct19), sl19⟩) (c19 : PySem.W.codeIn K cd19 "_law_sign" = true) (k19 : PySem.W.keepIn K (.ref f19) = true)
    (a20 : PySem.W.nsIn K mainGlobals "_law_is_fraction" = some (some (.ref f20))) (l20 : K.lookup f20 = some ⟨oc20, od20, .func (PySem.W.fnOf "_law_is_fraction" "_law_is_fraction" (defArgs sLLawIsFraction) (defBody sLLawIsFraction) (defScope sLLawIsFraction) .none kV20 dc20 pm20 an20 cd20 ct20), sl20⟩) (c20 : PySem.W.codeIn K cd20 "_law_is_fraction" = true) (k20 : PySem.W.keepIn K (.ref f20) = true)
    (a21 : PySem.W.nsIn K mainGlobals "_law_along" = some (some (.ref f21))) (l21 : K.lookup f21 = some ⟨oc21, od21, .func (PySem.W.fnOf "_law_along" "_law_along" (defArgs sLLawAlong) (defBody sLLawAlong) (defScope sLLawAlong) .none kV21 dc21 pm21 an21 cd21 ct21), sl21⟩) (c21 : PySem.W.codeIn K cd21 "_law_along" = true) (k21 : PySem.W.keepIn K (.ref f21) = true)
    (a22 : PySem.W.nsIn K mainGlobals "_law_side" = some (some (.ref f22))) (l22 : K.lookup f22 = some ⟨oc22, od22, .func (PySem.W.fnOf "_law_side" "_law_side" (defArgs sLLawSide) (defBody sLLawSide) (defScope sLLawSide) .none kV22 dc22 pm22 an22 cd22 ct22), sl22⟩) (c22 : PySem.W.codeIn K cd22 "_law_side" = true) (k22 : PySem.W.keepIn K (.ref f22) = true)
    (a23 : PySem.W.nsIn K mainGlobals "_law_direction" = some (some (.ref f23))) (l23 : K.lookup f23 = some ⟨oc23, od23, .func (PySem.W.fnOf "_law_direction" "_law_direction" (defArgs sLLawDirection) (defBody sLLawDirection) (defScope sLLawDirection) .none kV23 dc23 pm23 an23 cd23 ct23), sl23⟩) (c23 : PySem.W.codeIn K cd23 "_law_direction" = true) (k23 : PySem.W.keepIn K (.ref f23) = true)
    (a24 : PySem.W.nsIn K mainGlobals "_law_common" = some (some (.ref f24))) (l24 : K.lookup f24 = some ⟨oc24, od24, .func (PySem.W.fnOf "_law_common" "_law_common" (defArgs sLLawCommon) (defBody sLLawCommon) (defScope sLLawCommon) .none kV24 dc24 pm24 an24 cd24 ct24), sl24⟩) (c24 : PySem.W.codeIn K cd24 "_law_common" = true) (k24 : PySem.W.keepIn K (.ref f24) = true)
    (a25 : PySem.W.nsIn K mainGlobals "_law_canonical" = some (some (.ref f25))) (l25 : K.lookup f25 = some ⟨oc25, od25, .func (PySem.W.fnOf "_law_canonical" "_law_canonical" (defArgs sLLawCanonical) (defBody sLLawCanonical) (defScope sLLawCanonical) .none kV25 dc25 pm25 an25 cd25 ct25), sl25⟩) (c25 : PySem.W.codeIn K cd25 "_law_canonical" = true) (k25 : PySem.W.keepIn K (.ref f25) = true)
    (a26 : PySem.W.nsIn K mainGlobals "_law_point" = some (some (.ref f26))) (l26 : K.lookup f26 = some ⟨oc26, od26, .func (PySem.W.fnOf "_law_point" "_law_point" (defArgs sLLawPoint) (defBody sLLawPoint) (defScope sLLawPoint) .none kV26 dc26 pm26 an26 cd26 ct26), sl26⟩) (c26 : PySem.W.codeIn K cd26 "_law_point" = true) (k26 : PySem.W.keepIn K (.ref f26) = true)
    (a27 : PySem.W.nsIn K mainGlobals "law" = some (some (.ref f27))) (l27 : K.lookup f27 = some ⟨oc27, od27, .func (PySem.W.fnOf "law" "law" (defArgs sLaw) (defBody sLaw) (defScope sLaw) .none kV27 dc27 pm27 an27 cd27 ct27), sl27⟩) (c27 : PySem.W.codeIn K cd27 "law" = true) (k27 : PySem.W.keepIn K (.ref f27) = true)
    (z1 : PySem.W.nsIn K mainGlobals "abs" = some none)
    (z2 : PySem.W.nsIn K mainGlobals "bool" = some none)
    (z3 : PySem.W.nsIn K mainGlobals "int" = some none)
    (z4 : PySem.W.nsIn K mainGlobals "isinstance" = some none)
    (z5 : PySem.W.nsIn K mainGlobals "len" = some none)
    (z6 : PySem.W.nsIn K mainGlobals "range" = some none)
    (z7 : PySem.W.nsIn K mainGlobals "tuple" = some none)
    (z8 : PySem.W.nsIn K mainGlobals "gcd" = some (some (.builtin "math.gcd")))
    (y0 : PySem.W.nsIn K mainGlobals "PartError" = some (some (.ref CPartError)))
    (y1 : PySem.W.nsIn K mainGlobals "Nought" = some (some (.ref CNought)))
    (y2 : PySem.W.excIn K CNought [.type "ValueError", .type "Exception", .type "BaseException", .type "object"] "ValueError.__new__" = true)
    (y3 : PySem.W.keepIn K (.ref CNought) = true)
    (y4 : PySem.W.subIn K (.ref CNought) (.type "BaseException") = some true)
    (y5 : PySem.W.typeIn K (.ref CNought) = some (.type "type"))
    (y6 : PySem.W.subIn K (.ref CPartError) (.type "BaseException") = some true)
    (y7 : PySem.W.isClsIn K CPartError = true)
    (y8 : PySem.W.typeIn K (.ref CPartError) = some (.type "type"))
    (y9 : PySem.W.subIn K (.ref CNought) (.ref CPartError) = some true)
    (y10 : PySem.W.subIn K (.ref CNought) (.ref CNought) = some true)
    (y11 : PySem.W.findIn K (.ref CNought) "__getattribute__" = some (some (.builtin "BaseException.__getattribute__")))
    (y12 : PySem.W.findIn K (.ref CNought) "__getattr__" = some none)
    (y13 : PySem.W.hasDictIn K CNought = true)
    (y14 : PySem.W.findIn K (.ref CNought) "__class__" = some (some (.builtin "object.__class__")))
    (y15 : PySem.W.specialIn K (.builtin "object.__class__") "__get__" = some (some (.builtin "getset_descriptor.__get__")))
    (y16 : PySem.W.takesIn K (.builtin "object.__class__") = some true)
    (y17 : PySem.W.mroIn K CNought (.type "object") = some true)
    : ∃ fd : FuncData, (∀ (s : Shared) (v : Value), BindsTo s fd ⟨[v], []⟩ [("script", v)]) ∧ ∀ base : Heap, K.In base → base.Ns mainGlobals mg → FnOk l.prog w K mg base CX0 5 fa fd ["script"] (spLaw K) := by
  have e := hfa.symm.trans (PySem.W.mg_of X G a27)
  cases e
  have T : Txt mg := ⟨PySem.W.mg_none_of X G z1, PySem.W.mg_none_of X G z2, PySem.W.mg_none_of X G z3, PySem.W.mg_none_of X G z4, PySem.W.mg_none_of X G z5, PySem.W.mg_none_of X G z6, PySem.W.mg_none_of X G z7, PySem.W.mg_of X G z8⟩
  have EX : Exns K mg CPartError CNought := ⟨PySem.W.mg_of X G y0, PySem.W.mg_of X G y1, y2, y3, y4, y5, y6, y7, y8, y9, y10, y11, y12, y13, y14, y15, y16, y17⟩
  have F1 := fun_mk (st := sCommon) l1 c1 k1
  have F2 : FunD K "fraction" "fraction" (defArgs sFraction) (defBody sFraction) (defScope sFraction) [.int 1] [] f2 _ := ⟨⟨oc2, od2, .ref T2, kV2, dc2, pm2, an2, cd2, ct2, sl2, rfl, l2, c2, .inr ⟨by decide, T2, _, [.int 1 tT2], nT2, rfl, lT2, rfl, .cons ⟨_, rfl⟩ .nil⟩, .inl rfl⟩, k2⟩
  have F3 := fun_mk (st := sOver) l3 c3 k3
  have F4 := fun_mk (st := sSignOf) l4 c4 k4
  have F5 := fun_mk (st := sReachRatio) l5 c5 k5
  have F6 := fun_mk (st := sReach) l6 c6 k6
  have F7 := fun_mk (st := sPrimitive) l7 c7 k7
  have F8 := fun_mk (st := sPlaneOf) l8 c8 k8
  have F9 := fun_mk (st := sPlane) l9 c9 k9
  have F10 := fun_mk (st := sAlong) l10 c10 k10
  have F11 := fun_mk (st := sSide) l11 c11 k11
  have F12 := fun_mk (st := sSides) l12 c12 k12
  have F13 := fun_mk (st := sLLawIsInteger) l13 c13 k13
  have F14 := fun_mk (st := sLLawCell) l14 c14 k14
  have F15 := fun_mk (st := sLLawRow) l15 c15 k15
  have F16 := fun_mk (st := sLLawFraction) l16 c16 k16
  have F17 := fun_mk (st := sLLawPlus) l17 c17 k17
  have F18 := fun_mk (st := sLLawTimes) l18 c18 k18
  have F19 := fun_mk (st := sLLawSign) l19 c19 k19
  have F20 := fun_mk (st := sLLawIsFraction) l20 c20 k20
  have F21 := fun_mk (st := sLLawAlong) l21 c21 k21
  have F22 := fun_mk (st := sLLawSide) l22 c22 k22
  have F23 := fun_mk (st := sLLawDirection) l23 c23 k23
  have F24 := fun_mk (st := sLLawCommon) l24 c24 k24
  have F25 := fun_mk (st := sLLawCanonical) l25 c25 k25
  have F26 := fun_mk (st := sLLawPoint) l26 c26 k26
  have F27 := fun_mk (st := sLaw) l27 c27 k27
  have b1 := F1.binds (ps := ["a", "b"]) fun _ _ _ _ _ _ us hl => match us, hl with | [_, _], _ => rfl
  obtain ⟨e2, ve2, b2⟩ := F2.binds1 (ps := ["number", "divisor"]) 2 1 (by decide) rfl (fun T kV doc pm an cdv ct us its hu hi => match us, its, hu, hi with | [_, _], [_], _, _ => ⟨_, rfl, by kernel_rfl⟩)
  cases ve2
  obtain ⟨d2, vd2, bd2⟩ := F2.binds1 (ps := ["number", "divisor"]) 1 0 (by decide) rfl (fun T kV doc pm an cdv ct us its hu hi => match us, its, hu, hi with | [_], [_], _, _ => ⟨_, rfl, by kernel_rfl⟩)
  have b3 := F3.binds (ps := ["a", "b"]) fun _ _ _ _ _ _ us hl => match us, hl with | [_, _], _ => rfl
  have b4 := F4.binds (ps := ["number"]) fun _ _ _ _ _ _ us hl => match us, hl with | [_], _ => rfl
  have b5 := F5.binds (ps := ["normal", "point"]) fun _ _ _ _ _ _ us hl => match us, hl with | [_, _], _ => rfl
  have b6 := F6.binds (ps := ["normal", "point"]) fun _ _ _ _ _ _ us hl => match us, hl with | [_, _], _ => rfl
  have b7 := F7.binds (ps := ["a"]) fun _ _ _ _ _ _ us hl => match us, hl with | [_], _ => rfl
  have b8 := F8.binds (ps := ["normal", "offset"]) fun _ _ _ _ _ _ us hl => match us, hl with | [_, _], _ => rfl
  have b9 := F9.binds (ps := ["direction", "offset"]) fun _ _ _ _ _ _ us hl => match us, hl with | [_, _], _ => rfl
  have b10 := F10.binds (ps := ["direction", "point"]) fun _ _ _ _ _ _ us hl => match us, hl with | [_, _], _ => rfl
  have b11 := F11.binds (ps := ["wall", "point"]) fun _ _ _ _ _ _ us hl => match us, hl with | [_, _], _ => rfl
  have b12 := F12.binds (ps := ["walls", "point"]) fun _ _ _ _ _ _ us hl => match us, hl with | [_, _], _ => rfl
  have b13 := F13.binds (ps := ["actual"]) fun _ _ _ _ _ _ us hl => match us, hl with | [_], _ => rfl
  have b14 := F14.binds (ps := ["script", "k"]) fun _ _ _ _ _ _ us hl => match us, hl with | [_, _], _ => rfl
  have b15 := F15.binds (ps := ["cell", "size", "base"]) fun _ _ _ _ _ _ us hl => match us, hl with | [_, _, _], _ => rfl
  have b16 := F16.binds (ps := ["number", "divisor"]) fun _ _ _ _ _ _ us hl => match us, hl with | [_, _], _ => rfl
  have b17 := F17.binds (ps := ["a", "b"]) fun _ _ _ _ _ _ us hl => match us, hl with | [_, _], _ => rfl
  have b18 := F18.binds (ps := ["a", "b"]) fun _ _ _ _ _ _ us hl => match us, hl with | [_, _], _ => rfl
  have b19 := F19.binds (ps := ["number"]) fun _ _ _ _ _ _ us hl => match us, hl with | [_], _ => rfl
  have b20 := F20.binds (ps := ["actual"]) fun _ _ _ _ _ _ us hl => match us, hl with | [_], _ => rfl
  have b21 := F21.binds (ps := ["normal", "point"]) fun _ _ _ _ _ _ us hl => match us, hl with | [_, _], _ => rfl
  have b22 := F22.binds (ps := ["wall", "point"]) fun _ _ _ _ _ _ us hl => match us, hl with | [_, _], _ => rfl
  have b23 := F23.binds (ps := ["cell", "most"]) fun _ _ _ _ _ _ us hl => match us, hl with | [_, _], _ => rfl
  have b24 := F24.binds (ps := ["row"]) fun _ _ _ _ _ _ us hl => match us, hl with | [_], _ => rfl
  have b25 := F25.binds (ps := ["direction"]) fun _ _ _ _ _ _ us hl => match us, hl with | [_], _ => rfl
  have b26 := F26.binds (ps := ["cell"]) fun _ _ _ _ _ _ us hl => match us, hl with | [_], _ => rfl
  refine ⟨PySem.W.fnOf "law" "law" (defArgs sLaw) (defBody sLaw) (defScope sLaw) .none kV27 dc27 pm27 an27 cd27 ct27, fun s v => .of_eq rfl, fun base _ _ => ?_⟩
  have G1 : FnOk l.prog w K mg base CX0 1 f1 _ ["a", "b"] (spCommon K) := okCommon F1 T EX 
  have G2 : FnOk l.prog w K mg base (L2.CX l.prog w) 1 f2 _ ["number", "divisor"] (spFraction K CNought) := okFraction F2 T EX 
  have G3 : FnOk l.prog w K mg base (L2.CX l.prog w) 2 f3 _ ["a", "b"] (spOver K CNought) := okOver F3 T EX G2 (PySem.W.mg_of X G a2) k2 b2 vd2 bd2
  have G4 : FnOk l.prog w K mg base CX0 1 f4 _ ["number"] (spSignOf K) := okSignOf F4 T EX 
  have G5 : FnOk l.prog w K mg base CX0 1 f5 _ ["normal", "point"] (spReachRatio K) := okReachRatio F5 T EX 
  have G6 : FnOk l.prog w K mg base CX0 2 f6 _ ["normal", "point"] (spReach K) := okReach F6 T EX G5 (PySem.W.mg_of X G a5) k5 b5 G2 (PySem.W.mg_of X G a2) k2 b2 vd2 bd2
  have G7 : FnOk l.prog w K mg base CX0 2 f7 _ ["a"] (spPrimitive K) := okPrimitive F7 T EX G1 (PySem.W.mg_of X G a1) k1 b1
  have G8 : FnOk l.prog w K mg base CX0 3 f8 _ ["normal", "offset"] (spPlaneOf K) := okPlaneOf F8 T EX G7 (PySem.W.mg_of X G a7) k7 b7 G3 (PySem.W.mg_of X G a3) k3 b3 G2 (PySem.W.mg_of X G a2) k2 b2 vd2 bd2
  have G9 : FnOk l.prog w K mg base CX0 4 f9 _ ["direction", "offset"] (spPlane K) := okPlane F9 T EX G8 (PySem.W.mg_of X G a8) k8 b8
  have G10 : FnOk l.prog w K mg base CX0 3 f10 _ ["direction", "point"] (spAlong K) := okAlong F10 T EX G6 (PySem.W.mg_of X G a6) k6 b6
  have G11 : FnOk l.prog w K mg base CX0 2 f11 _ ["wall", "point"] (spSide K) := okSide F11 T EX G5 (PySem.W.mg_of X G a5) k5 b5 G4 (PySem.W.mg_of X G a4) k4 b4
  have G12 : FnOk l.prog w K mg base CX0 3 f12 _ ["walls", "point"] (spSides K) := okSides F12 T EX G11 (PySem.W.mg_of X G a11) k11 b11
  have G13 : FnOk l.prog w K mg base CX0 1 f13 _ ["actual"] (spLLawIsInteger K) := okLLawIsInteger F13 T EX 
  have G14 : FnOk l.prog w K mg base CX0 1 f14 _ ["script", "k"] (spLLawCell K) := okLLawCell F14 T EX 
  have G15 : FnOk l.prog w K mg base CX0 1 f15 _ ["cell", "size", "base"] (spLLawRow K) := okLLawRow F15 T EX 
  have G16 : FnOk l.prog w K mg base CX0 1 f16 _ ["number", "divisor"] (spLLawFraction K) := okLLawFraction F16 T EX 
  have G17 : FnOk l.prog w K mg base CX0 2 f17 _ ["a", "b"] (spLLawPlus K) := okLLawPlus F17 T EX G16 (PySem.W.mg_of X G a16) k16 b16
  have G18 : FnOk l.prog w K mg base CX0 2 f18 _ ["a", "b"] (spLLawTimes K) := okLLawTimes F18 T EX G16 (PySem.W.mg_of X G a16) k16 b16
  have G19 : FnOk l.prog w K mg base CX0 1 f19 _ ["number"] (spLLawSign K) := okLLawSign F19 T EX 
  have G20 : FnOk l.prog w K mg base CX0 2 f20 _ ["actual"] (spLLawIsFraction K) := okLLawIsFraction F20 T EX G16 (PySem.W.mg_of X G a16) k16 b16 G13 (PySem.W.mg_of X G a13) k13 b13
  have G21 : FnOk l.prog w K mg base CX0 3 f21 _ ["normal", "point"] (spLLawAlong K) := okLLawAlong F21 T EX G17 (PySem.W.mg_of X G a17) k17 b17 G18 (PySem.W.mg_of X G a18) k18 b18
  have G22 : FnOk l.prog w K mg base CX0 4 f22 _ ["wall", "point"] (spLLawSide K) := okLLawSide F22 T EX G21 (PySem.W.mg_of X G a21) k21 b21 G19 (PySem.W.mg_of X G a19) k19 b19
  have G23 : FnOk l.prog w K mg base CX0 2 f23 _ ["cell", "most"] (spLLawDirection K) := okLLawDirection F23 T EX G15 (PySem.W.mg_of X G a15) k15 b15
  have G24 : FnOk l.prog w K mg base CX0 1 f24 _ ["row"] (spLLawCommon K) := okLLawCommon F24 T EX 
  have G25 : FnOk l.prog w K mg base CX0 2 f25 _ ["direction"] (spLLawCanonical K) := okLLawCanonical F25 T EX G24 (PySem.W.mg_of X G a24) k24 b24
  have G26 : FnOk l.prog w K mg base CX0 2 f26 _ ["cell"] (spLLawPoint K) := okLLawPoint F26 T EX G15 (PySem.W.mg_of X G a15) k15 b15 G16 (PySem.W.mg_of X G a16) k16 b16
  exact okLaw F27 T EX G23 (PySem.W.mg_of X G a23) k23 b23 G26 (PySem.W.mg_of X G a26) k26 b26 G15 (PySem.W.mg_of X G a15) k15 b15 G16 (PySem.W.mg_of X G a16) k16 b16 G9 (PySem.W.mg_of X G a9) k9 b9 G24 (PySem.W.mg_of X G a24) k24 b24 G22 (PySem.W.mg_of X G a22) k22 b22 G11 (PySem.W.mg_of X G a11) k11 b11 G14 (PySem.W.mg_of X G a14) k14 b14 G21 (PySem.W.mg_of X G a21) k21 b21 G18 (PySem.W.mg_of X G a18) k18 b18 G25 (PySem.W.mg_of X G a25) k25 b25 G20 (PySem.W.mg_of X G a20) k20 b20 G10 (PySem.W.mg_of X G a10) k10 b10 G13 (PySem.W.mg_of X G a13) k13 b13 G12 (PySem.W.mg_of X G a12) k12 b12
end Tp
open PySem PySem.W PyProof.Rows
set_option maxHeartbeats 0 in
theorem PySem.Challenge.cw_truepart_k21_sides_of_points_holds : PySem.Challenge.rw_truepart_k21_sides_of_points.Holds := by
  w_on; o_law; k_head; (case hw => w_witness2)
  k_fill
  refine L2.walk_of (l := PySem.Challenge.rw_truepart_k21_sides_of_points) (n := 63) (k := 5) (x := "script") (CX := fun _ => L2.CX0) (sp := fun w => Tp.spLaw _) rfl (by decide) rfl ⟨rfl, by decide, by decide⟩ (fun w h Y => PySem.W.kIn_of Y) ?F (fun _ _ a ns hl _ hS => ⟨a, ns, rfl, hS, hl, fun _ => rfl⟩) (fun _ _ _ _ _ h => h)
  case F =>
    intro w mg fa h KX G hmg
    refine' Tp.all_mk KX G hmg ?a1 ?l1 ?c1 ?k1 ?a2 ?l2 ?lT2 ?c2 ?k2 ?a3 ?l3 ?c3 ?k3 ?a4 ?l4 ?c4 ?k4 ?a5 ?l5 ?c5 ?k5 ?a6 ?l6 ?c6 ?k6 ?a7 ?l7 ?c7 ?k7 ?a8 ?l8 ?c8 ?k8 ?a9 ?l9 ?c9 ?k9 ?a10 ?l10 ?c10 ?k10 ?a11 ?l11 ?c11 ?k11 ?a12 ?l12 ?c12 ?k12 ?a13 ?l13 ?c13 ?k13 ?a14 ?l14 ?c14 ?k14 ?a15 ?l15 ?c15 ?k15 ?a16 ?l16 ?c16 ?k16 ?a17 ?l17 ?c17 ?k17 ?a18 ?l18 ?c18 ?k18 ?a19 ?l19 ?c19 ?k19 ?a20 ?l20 ?c20 ?k20 ?a21 ?l21 ?c21 ?k21 ?a22 ?l22 ?c22 ?k22 ?a23 ?l23 ?c23 ?k23 ?a24 ?l24 ?c24 ?k24 ?a25 ?l25 ?c25 ?k25 ?a26 ?l26 ?c26 ?k26 ?a27 ?l27 ?c27 ?k27 ?z1 ?z2 ?z3 ?z4 ?z5 ?z6 ?z7 ?z8 ?y0 ?y1 ?y2 ?y3 ?y4 ?y5 ?y6 ?y7 ?y8 ?y9 ?y10 ?y11 ?y12 ?y13 ?y14 ?y15 ?y16 ?y17
    (case a1 => k_is)
    (case l1 => k_is)
    (case c1 => k_is)
    (case k1 => k_is)
    (case a2 => k_is)
    (case l2 => k_is)
    (case lT2 => k_is)
    (case c2 => k_is)
    (case k2 => k_is)
    (case a3 => k_is)
    (case l3 => k_is)
    (case c3 => k_is)
    (case k3 => k_is)
    (case a4 => k_is)
    (case l4 => k_is)
    (case c4 => k_is)
    (case k4 => k_is)
    (case a5 => k_is)
    (case l5 => k_is)
    (case c5 => k_is)
    (case k5 => k_is)
    (case a6 => k_is)
    (case l6 => k_is)
    (case c6 => k_is)
    (case k6 => k_is)
    (case a7 => k_is)
    (case l7 => k_is)
    (case c7 => k_is)
    (case k7 => k_is)
    (case a8 => k_is)
    (case l8 => k_is)
    (case c8 => k_is)
    (case k8 => k_is)
    (case a9 => k_is)
    (case l9 => k_is)
    (case c9 => k_is)
    (case k9 => k_is)
    (case a10 => k_is)
    (case l10 => k_is)
    (case c10 => k_is)
    (case k10 => k_is)
    (case a11 => k_is)
    (case l11 => k_is)
    (case c11 => k_is)
    (case k11 => k_is)
    (case a12 => k_is)
    (case l12 => k_is)
    (case c12 => k_is)
    (case k12 => k_is)
    (case a13 => k_is)
    (case l13 => k_is)
    (case c13 => k_is)
    (case k13 => k_is)
    (case a14 => k_is)
    (case l14 => k_is)
    (case c14 => k_is)
    (case k14 => k_is)
    (case a15 => k_is)
    (case l15 => k_is)
    (case c15 => k_is)
    (case k15 => k_is)
    (case a16 => k_is)
    (case l16 => k_is)
    (case c16 => k_is)
    (case k16 => k_is)
    (case a17 => k_is)
    (case l17 => k_is)
    (case c17 => k_is)
    (case k17 => k_is)
    (case a18 => k_is)
    (case l18 => k_is)
    (case c18 => k_is)
    (case k18 => k_is)
    (case a19 => k_is)
    (case l19 => k_is)
    (case c19 => k_is)
    (case k19 => k_is)
    (case a20 => k_is)
    (case l20 => k_is)
    (case c20 => k_is)
    (case k20 => k_is)
    (case a21 => k_is)
    (case l21 => k_is)
    (case c21 => k_is)
    (case k21 => k_is)
    (case a22 => k_is)
    (case l22 => k_is)
    (case c22 => k_is)
    (case k22 => k_is)
    (case a23 => k_is)
    (case l23 => k_is)
    (case c23 => k_is)
    (case k23 => k_is)
    (case a24 => k_is)
    (case l24 => k_is)
    (case c24 => k_is)
    (case k24 => k_is)
    (case a25 => k_is)
    (case l25 => k_is)
    (case c25 => k_is)
    (case k25 => k_is)
    (case a26 => k_is)
    (case l26 => k_is)
    (case c26 => k_is)
    (case k26 => k_is)
    (case a27 => k_is)
    (case l27 => k_is)
    (case c27 => k_is)
    (case k27 => k_is)
    (case z1 => k_is)
    (case z2 => k_is)
    (case z3 => k_is)
    (case z4 => k_is)
    (case z5 => k_is)
    (case z6 => k_is)
    (case z7 => k_is)
    (case z8 => k_is)
    (case y0 => k_is)
    (case y1 => k_is)
    (case y2 => k_exc)
    (case y3 => k_is)
    (case y4 => k_is)
    (case y5 => k_is)
    (case y6 => k_is)
    (case y7 => k_is)
    (case y8 => k_is)
    (case y9 => k_is)
    (case y10 => first | k_is | rfl)
    (case y11 => k_is)
    (case y12 => k_is)
    (case y13 => k_is)
    (case y14 => k_is)
    (case y15 => k_is)
    (case y16 => k_is)
    (case y17 => k_is)
#print axioms PySem.Challenge.cw_truepart_k21_sides_of_points_holds
