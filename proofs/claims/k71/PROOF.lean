import PyProof.Rows.All
import Wide.All
import OpenK.AllK
import Wide.FinOn
import HandS.ForMost
import HandS.Codes
import HandS.Gcd
import HandS.IsInst
import HandS.Wide
import HandS.ForExc
import HandS.ExcIs
import HandS.CallSlots
import HandS.Defaults
import HandS.TupMul
import HandS.Walk
import PyProof.StrOps2
import KE.GoesMore
import KE.KTurns
import PySem.Challenge.RW_truepart_k71_roots_along_a_way
set_option Elab.async false
set_option linter.all false
set_option maxHeartbeats 8000000
set_option maxRecDepth 100000
namespace Tp
open PySem L2
def top (i : Nat) : Stmt := PySem.Challenge.pw_truepart_k71_roots_along_a_way.main.body.getD i (.Pass ⟨0, 0, 0, 0⟩)
abbrev sFraction : Stmt := top 6
abbrev sPlus : Stmt := top 7
abbrev sMinus : Stmt := top 8
abbrev sTimes : Stmt := top 9
abbrev sOver : Stmt := top 10
abbrev sTotal : Stmt := top 11
abbrev sValue : Stmt := top 13
abbrev sRoot : Stmt := top 15
abbrev sLLawIsInteger : Stmt := top 17
abbrev sLLawCell : Stmt := top 18
abbrev sLLawRow : Stmt := top 19
abbrev sLLawFraction : Stmt := top 20
abbrev sLLawPlus : Stmt := top 21
abbrev sLLawTimes : Stmt := top 22
abbrev sLLawIsFraction : Stmt := top 24
abbrev sLLawValue : Stmt := top 27
abbrev sLLawNumber : Stmt := top 28
abbrev sLaw : Stmt := top 29
theorem scFraction : FnScope ["number", "divisor", "shared"] ["number", "divisor"] (defScope sFraction) := ⟨rfl, rfl, rfl, by decide +kernel, rfl, by decide +kernel, by decide +kernel⟩
theorem scPlus : FnScope ["a", "b"] ["a", "b"] (defScope sPlus) := ⟨rfl, rfl, rfl, by decide +kernel, rfl, by decide +kernel, by decide +kernel⟩
theorem scMinus : FnScope ["a", "b"] ["a", "b"] (defScope sMinus) := ⟨rfl, rfl, rfl, by decide +kernel, rfl, by decide +kernel, by decide +kernel⟩
theorem scTimes : FnScope ["a", "b"] ["a", "b"] (defScope sTimes) := ⟨rfl, rfl, rfl, by decide +kernel, rfl, by decide +kernel, by decide +kernel⟩
theorem scOver : FnScope ["a", "b"] ["a", "b"] (defScope sOver) := ⟨rfl, rfl, rfl, by decide +kernel, rfl, by decide +kernel, by decide +kernel⟩
theorem scTotal : FnScope ["row", "found", "part"] ["row"] (defScope sTotal) := ⟨rfl, rfl, rfl, by decide +kernel, rfl, by decide +kernel, by decide +kernel⟩
theorem scValue : FnScope ["a", "setting", "x", "y"] ["a", "setting"] (defScope sValue) := ⟨rfl, rfl, rfl, by decide +kernel, rfl, by decide +kernel, by decide +kernel⟩
theorem scRoot : FnScope ["way", "worth", "first", "last"] ["way", "worth"] (defScope sRoot) := ⟨rfl, rfl, rfl, by decide +kernel, rfl, by decide +kernel, by decide +kernel⟩
theorem scLLawIsInteger : FnScope ["actual"] ["actual"] (defScope sLLawIsInteger) := ⟨rfl, rfl, rfl, by decide +kernel, rfl, by decide +kernel, by decide +kernel⟩
theorem scLLawCell : FnScope ["script", "k"] ["script", "k"] (defScope sLLawCell) := ⟨rfl, rfl, rfl, by decide +kernel, rfl, by decide +kernel, by decide +kernel⟩
theorem scLLawRow : FnScope ["cell", "size", "base", "row", "number", "k", "mixed"] ["cell", "size", "base"] (defScope sLLawRow) := ⟨rfl, rfl, rfl, by decide +kernel, rfl, by decide +kernel, by decide +kernel⟩
theorem scLLawFraction : FnScope ["number", "divisor", "a", "b", "k"] ["number", "divisor"] (defScope sLLawFraction) := ⟨rfl, rfl, rfl, by decide +kernel, rfl, by decide +kernel, by decide +kernel⟩
theorem scLLawPlus : FnScope ["a", "b"] ["a", "b"] (defScope sLLawPlus) := ⟨rfl, rfl, rfl, by decide +kernel, rfl, by decide +kernel, by decide +kernel⟩
theorem scLLawTimes : FnScope ["a", "b"] ["a", "b"] (defScope sLLawTimes) := ⟨rfl, rfl, rfl, by decide +kernel, rfl, by decide +kernel, by decide +kernel⟩
theorem scLLawIsFraction : FnScope ["actual"] ["actual"] (defScope sLLawIsFraction) := ⟨rfl, rfl, rfl, by decide +kernel, rfl, by decide +kernel, by decide +kernel⟩
theorem scLLawValue : FnScope ["worth", "setting", "found", "k"] ["worth", "setting"] (defScope sLLawValue) := ⟨rfl, rfl, rfl, by decide +kernel, rfl, by decide +kernel, by decide +kernel⟩
theorem scLLawNumber : FnScope ["draw"] ["draw"] (defScope sLLawNumber) := ⟨rfl, rfl, rfl, by decide +kernel, rfl, by decide +kernel, by decide +kernel⟩
theorem scLaw : FnScope ["script", "many", "draw", "worth", "start", "goal", "way", "found", "first", "last", "place", "k", "step"] ["script"] (defScope sLaw) := ⟨rfl, rfl, rfl, by decide +kernel, rfl, by decide +kernel, by decide +kernel⟩
structure Txt (mg : Str → Option Value) : Prop where
  abs : mg "abs" = none
  bool : mg "bool" = none
  int : mg "int" = none
  isinstance : mg "isinstance" = none
  len : mg "len" = none
  list : mg "list" = none
  range : mg "range" = none
  tuple : mg "tuple" = none
  zip : mg "zip" = none
  gcd : mg "gcd" = some (.builtin "math.gcd")
structure Cons (K : PySem.W.Frag) (mg : Str → Option Value) (aZERO : Addr) : Prop where
  gZERO : mg "ZERO" = some (.ref aZERO)
  tZERO : ∀ H, SqT K H aZERO ([0, 1].map V.int)
section
variable {K : PySem.W.Frag} {C D : Addr} {c : Value} {r : Bool}
theorem exm_two (b : PySem.W.subIn K (.ref D) (.type "BaseException") = some true) (i : PySem.W.isClsIn K D = true) (t : PySem.W.typeIn K (.ref D) = some (.type "type")) (s : PySem.W.subIn K c (.ref D) = some r) : PySem.W.exmOne K c (.ref D) = some r := by
  have e1 : (PySem.W.subIn K (.ref D) (.type "BaseException") == some true) = true := by rw [b]; rfl
  have i' : (PySem.W.clsIn K D).isSome = true := i
  have e2 : ((PySem.W.clsIn K D).isSome && PySem.W.typeIn K (.ref D) == some (.type "type")) = true := by rw [i', t]; rfl
  unfold PySem.W.exmOne PySem.W.kitCls
  rw [if_pos e1]
  show (if _ then _ else _) = _
  rw [if_pos e2]
  exact s
theorem kit_self : PySem.W.kitOne K (.ref C) (.ref C) = some true := by
  unfold PySem.W.kitOne
  exact if_pos (beq_iff_eq.mpr rfl)
theorem kit_not (s0 : PySem.W.subIn K (.ref C) (.ref C) = some true) (i : PySem.W.isClsIn K D = true) (t : PySem.W.typeIn K (.ref D) = some (.type "type")) (s : PySem.W.subIn K (.ref C) (.ref D) = some false) : PySem.W.kitOne K (.ref C) (.ref D) = some false := by
  have i' : (PySem.W.clsIn K D).isSome = true := i
  have e2 : ((PySem.W.clsIn K D).isSome && PySem.W.typeIn K (.ref D) == some (.type "type")) = true := by rw [i', t]; rfl
  unfold PySem.W.kitOne PySem.W.kitCls
  rw [if_neg (fun z => ?_)]
  · show (if _ then _ else _) = _
    rw [if_pos e2]
    exact s
  · have e := Value.ref.inj (beq_iff_eq.mp z)
    subst e
    rw [s0] at s
    cases s
theorem kit_kind {T : String} (h : PySem.W.kitMeta T = true) (s : PySem.W.subIn K (.ref C) (.type T) = some r) : PySem.W.kitOne K (.ref C) (.type T) = some r := by
  unfold PySem.W.kitOne PySem.W.kitCls
  rw [if_neg (fun z => by have e := beq_iff_eq.mp z; cases e)]
  show (if _ then _ else _) = _
  rw [if_pos h]
  exact s
end

structure Exns (K : PySem.W.Frag) (mg : Str → Option Value) (CPartError CNought : Addr) : Prop where
  gPartError : mg "PartError" = some (.ref CPartError)
  gNought : mg "Nought" = some (.ref CNought)
  xNought : PySem.W.excIn K CNought [.type "ValueError", .type "Exception", .type "BaseException", .type "object"] "ValueError.__new__" = true
  kNought : PySem.W.keepIn K (.ref CNought) = true
  bNought : PySem.W.subIn K (.ref CNought) (.type "BaseException") = some true
  tNought : PySem.W.typeIn K (.ref CNought) = some (.type "type")
  cb : PySem.W.subIn K (.ref CPartError) (.type "BaseException") = some true
  ci : PySem.W.isClsIn K CPartError = true
  ct : PySem.W.typeIn K (.ref CPartError) = some (.type "type")
  cs : PySem.W.subIn K (.ref CNought) (.ref CPartError) = some true
  ss : PySem.W.subIn K (.ref CNought) (.ref CNought) = some true
  i1 : PySem.W.findIn K (.ref CNought) "__getattribute__" = some (some (.builtin "BaseException.__getattribute__"))
  i2 : PySem.W.findIn K (.ref CNought) "__getattr__" = some none
  i3 : PySem.W.hasDictIn K CNought = true
  i4 : PySem.W.findIn K (.ref CNought) "__class__" = some (some (.builtin "object.__class__"))
  i5 : PySem.W.specialIn K (.builtin "object.__class__") "__get__" = some (some (.builtin "getset_descriptor.__get__"))
  i6 : PySem.W.takesIn K (.builtin "object.__class__") = some true
  i7 : PySem.W.mroIn K CNought (.type "object") = some true
theorem Exns.iNought {K : PySem.W.Frag} {mg : Str → Option Value} {CPartError CNought : Addr} (EX : Exns K mg CPartError CNought) : ExcC K CNought := ⟨EX.i1, EX.i2, EX.bNought, EX.i3, EX.i4, EX.i5, EX.i6, EX.i7⟩
theorem Exns.eNought {K : PySem.W.Frag} {mg : Str → Option Value} {CPartError CNought : Addr} (EX : Exns K mg CPartError CNought) : PySem.W.exmOne K (.ref CNought) (.ref CPartError) = some true := exm_two EX.cb EX.ci EX.ct EX.cs
theorem Exns.nNought {K : PySem.W.Frag} {mg : Str → Option Value} {CPartError CNought : Addr} (EX : Exns K mg CPartError CNought) : PySem.W.kitOne K (.ref CNought) (.ref CNought) = some true := kit_self
local macro_rules | `(tactic| walk_at "rd") => `(tactic| repeat (first | refine ⟨_, rfl, ?_⟩ | refine ⟨rfl, ?_⟩ | refine ⟨_, _, rfl, rfl, ?_⟩ | refine Or.inl ⟨_, rfl, ?_⟩ | refine ⟨(by show (0 : Int) < _; decide), ?_⟩ | refine ⟨⟨by decide, by decide⟩, ?_⟩ | refine ⟨Or.inr ⟨by decide, by decide⟩, ?_⟩ | refine ⟨Or.inl ⟨by decide, by decide⟩, ?_⟩ | refine ⟨⟨by decide, by decide, by decide⟩, ?_⟩))
abbrev zs (l : List Int) : List V := l.map V.int
theorem same_upd {H : Hp} {p : Addr} {o : HO} (h : H p = none) : Same H (upd H p o) := fun b x e => by
  rw [upd_ne (ne_of_none e h)]
  exact e
theorem same_tup {K : PySem.W.Frag} {H H' : Hp} {a : Addr} {xs : List V} (e : Same H H') (h : SqT K H a xs) : SqT K H' a xs := by
  rcases h with (h | ⟨o, h⟩) | h
  · exact .inl (.inl (e _ _ h))
  · exact .inl (.inr ⟨o, e _ _ h⟩)
  · exact .inr h
theorem zs_get {l : List Int} {i : Nat} {v : V} (h : (zs l)[i]? = some v) : ∃ z, v = .int z ∧ l[i]? = some z := by
  rw [show zs l = l.map V.int from rfl, List.getElem?_map] at h
  cases e : l[i]? with
  | none =>
    rw [e] at h
    cases h
  | some z =>
    rw [e] at h
    exact ⟨z, (Option.some.inj h).symm, rfl⟩
theorem zs_snoc {l : List Int} {i : Nat} {z : Int} (f : Int → Int) (h : l[i]? = some z) : zs ((l.map f).take i) ++ [V.int (f z)] = zs ((l.map f).take (i + 1)) := by
  show ((l.map f).take i).map V.int ++ [V.int (f z)] = ((l.map f).take (i + 1)).map V.int
  rw [List.take_add_one, List.getElem?_map, h, List.map_append]
  rfl
theorem zs_len {l : List Int} (n : Nat) (h : l.length ≤ 1000) : (zs (l.take n)).length < sizeLine := by
  show ((l.take n).map V.int).length < sizeLine
  rw [List.length_map, List.length_take]
  exact small1000 (by omega)
theorem ne_of_bang {n m : Int} (h : (!decide (V.int n = V.int m)) = true) : n ≠ m := fun e => by
  rw [e, decide_eq_true rfl] at h
  cases h
theorem eq_of_nobang {n m : Int} (h : ¬ (!decide (V.int n = V.int m)) = true) : n = m := by
  by_cases e : n = m
  · exact e
  · exact absurd (by rw [decide_eq_false (fun z => e (V.int.inj z))]; rfl) h
theorem eq_of_dec {n m : Int} (h : decide (V.int n = V.int m) = true) : n = m := V.int.inj (of_decide_eq_true h)
theorem ne_of_nodec {n m : Int} (h : ¬ decide (V.int n = V.int m) = true) : n ≠ m := fun e => h (decide_eq_true (by rw [e]))

/-! Euclid by turns. -/
/-- one turn of the walk (a, b) -> (b, a % b), of naturals -/
theorem gcd_turn (a b : Nat) : Nat.gcd b (a % b) = Nat.gcd a b := by
  rw [Nat.gcd_comm b, ← Nat.gcd_rec, Nat.gcd_comm]
theorem prod_turn {a b : Nat} (h : b ≤ a) (hb : 0 < b) : 2 * (b * (a % b)) ≤ a * b := by
  have h1 : a % b < b := Nat.mod_lt _ hb
  have h2 : a = b * (a / b) + a % b := (Nat.div_add_mod a b).symm
  have h3 : 1 ≤ a / b := (Nat.one_le_div_iff hb).mpr h
  have h4 : b * 1 ≤ b * (a / b) := Nat.mul_le_mul_left b h3
  have h5 : 2 * (a % b) ≤ a := by omega
  calc 2 * (b * (a % b)) = b * (2 * (a % b)) := by rw [Nat.mul_left_comm]
    _ ≤ b * a := Nat.mul_le_mul_left b h5
    _ = a * b := Nat.mul_comm _ _
/-- what holds behind i turns from (a0, b0) -/
structure Eu (a0 b0 i a b : Nat) : Prop where
  g : Nat.gcd a b = Nat.gcd a0 b0
  p : a * b * 2 ^ i ≤ 2 * (a0 * b0)
  o : i = 0 ∨ b ≤ a
  z : i = 0 → a = a0 ∧ b = b0
theorem Eu.start (a b : Nat) : Eu a b 0 a b := ⟨rfl, by rw [Nat.pow_zero]; omega, .inl rfl, fun _ => ⟨rfl, rfl⟩⟩
theorem Eu.turn {a0 b0 i a b : Nat} (e : Eu a0 b0 i a b) (hb : 0 < b) : Eu a0 b0 (i + 1) b (a % b) := by
  refine ⟨(gcd_turn a b).trans e.g, ?_, .inr (Nat.le_of_lt (Nat.mod_lt _ hb)), fun z => by omega⟩
  rcases e.o with hi | hle
  · obtain ⟨rfl, rfl⟩ := e.z hi
    subst hi
    have h1 : b * (a % b) ≤ b * a := Nat.mul_le_mul_left b (Nat.mod_le a b)
    have h2 : b * a = a * b := Nat.mul_comm _ _
    rw [Nat.zero_add, Nat.pow_one]
    omega
  · have h1 := prod_turn hle hb
    have h2 := e.p
    have h3 : b * (a % b) * 2 ^ (i + 1) = 2 * (b * (a % b)) * 2 ^ i := by
      rw [Nat.pow_succ]
      rw [Nat.mul_comm (2 ^ i) 2, ← Nat.mul_assoc, Nat.mul_comm (b * (a % b)) 2]
    rw [h3]
    exact Nat.le_trans (Nat.mul_le_mul_right _ h1) h2
/-- too many turns: nothing is left -/
theorem Eu.stop {a0 b0 i a b : Nat} (e : Eu a0 b0 i a b) (hi : i ≠ 0) (h : 2 * (a0 * b0) < 2 ^ i) : b = 0 := by
  rcases Nat.eq_zero_or_pos b with h0 | h0
  · exact h0
  · have hle : b ≤ a := by
      rcases e.o with h1 | h1
      · exact absurd h1 hi
      · exact h1
    have h1 : 1 ≤ a * b := Nat.mul_pos (by omega) h0
    have h2 : 1 * 2 ^ i ≤ a * b * 2 ^ i := Nat.mul_le_mul_right _ h1
    have h3 := e.p
    omega
theorem Eu.end {a0 b0 i a : Nat} (e : Eu a0 b0 i a 0) : a = Nat.gcd a0 b0 := by
  rw [← e.g, Nat.gcd_zero_right]
/-- the greatest divisor of a row, as it is reckoned from the left -/
def gl (l : List Int) : Nat := l.foldl (fun g v => Nat.gcd v.natAbs g) 0
theorem gl_snoc (l : List Int) (v : Int) : gl (l ++ [v]) = Nat.gcd v.natAbs (gl l) := by
  unfold gl
  rw [List.foldl_append]
  rfl
theorem gl_lt {l : List Int} {v : Int} (h : gl l < 2 ^ 100) (hv : v.natAbs < 2 ^ 100) : gl (l ++ [v]) < 2 ^ 100 := by
  rw [gl_snoc]
  rcases Nat.eq_zero_or_pos v.natAbs with e | e
  · rw [e, Nat.gcd_zero_left]
    exact h
  · exact Nat.lt_of_le_of_lt (Nat.le_of_dvd e (Nat.gcd_dvd_left _ _)) hv
theorem take_snoc {l : List Int} {i : Nat} {z : Int} (h : l[i]? = some z) : l.take (i + 1) = l.take i ++ [z] := by
  rw [List.take_add_one, h]
  rfl
theorem eu_far {a b n : Nat} (hn : 201 ≤ n) (ha : a < 2 ^ 100) (hb : b < 2 ^ 100) : 2 * (a * b) < 2 ^ n := by
  have h1 : a * b < 2 ^ 100 * 2 ^ 100 := Nat.mul_lt_mul'' ha hb
  rw [← Nat.pow_add] at h1
  have h2 : (2 : Nat) * 2 ^ (100 + 100) = 2 ^ 201 := by decide +kernel
  have h3 : (2 : Nat) ^ 201 ≤ 2 ^ n := Nat.pow_le_pow_right (by decide) hn
  omega
theorem fmod_nat (a b : Nat) : (a : Int).fmod (b : Int) = ((a % b : Nat) : Int) := by
  rw [Int.fmod_eq_emod_of_nonneg _ (Int.natCast_nonneg _)]
  exact (Int.natCast_emod a b).symm

/-- // by any divisor other than 0, below 2 ^ 9000 in size -/
def CDivX (_ j : Int) : Prop := j ≠ 0 ∧ j.natAbs.log2 < 9000
theorem op_fdivX {X : Cx} : OpR X (binaryOp .FloorDiv) (rI CDivX fun i j => .int (i.fdiv j)) :=
  opI fun _ _ _ _ _ _ _ hc q =>
    PyProof.Rows.floordiv_int hc.1 q (.inl (PyProof.noPylong_of_log2 hc.2))
theorem wide_divx {i j : Int} {b : Nat} (h : j ≠ 0) (hb : j.natAbs < 2 ^ b) (h0 : 0 < b) (h9 : b ≤ 9000) : CDivX i j :=
  ⟨h, Nat.lt_of_lt_of_le (PySem.Flt.log2_lt_of h0 hb) h9⟩
/-- n noughts -/
def nou (n : Nat) : Str := ⟨(List.replicate n (Str.ofString "0").cps).foldl (· ++ ·) #[]⟩
theorem nou_len {n : Nat} (h : n ≤ 100) : (nou n).length ≤ sizeLine := by
  have : ∀ n : _root_.Fin 101, (nou n.val).length ≤ 100 := by decide +kernel
  have h1 := this ⟨n, by omega⟩
  rw [PySem.sizeLine_eq]
  exact Nat.le_trans h1 (by decide)
theorem op_nou {X : Cx} : OpR X (binaryOp .Mult) (fun x y H Q => ∃ n : Nat, x = .str "0" ∧ y = .int (n : Int) ∧ 1 ≤ n ∧ n ≤ 100 ∧ Q (.str (nou n)) H) := by
  intro pins s σ H x y v u Q I rx ry h
  obtain ⟨n, rfl, rfl, h1, h2, q⟩ := h
  obtain ⟨t, rfl⟩ := rx
  obtain ⟨t', rfl⟩ := ry
  have e1 : ¬ ((n : Int) < 1) := by omega
  have el : (Str.ofString "0").length = 1 := by decide +kernel
  refine PySem.P.mul_str ?_ ?_ ?_ ?_
  · rw [decide_eq_false (by omega), decide_eq_false (by omega)]
    rfl
  · intro _ _
    rw [el]
    have : (2 ^ 63 - 1 : Int) / n ≥ 1 := by
      have : (1 : Int) * n ≤ 2 ^ 63 - 1 := by omega
      exact (Int.le_ediv_iff_mul_le (by omega)).mpr this
    omega
  · intro _ _
    rw [el]
    unfold PySem.Builtin.Str.tooLong
    rw [PySem.sizeLine_eq]
    exact decide_eq_false (by omega)
  · rw [if_neg e1]
    by_cases hn : n = 1
    · subst hn
      have e2 : nou 1 = Str.ofString "0" := by decide +kernel
      rw [e2] at q
      exact ⟨.str (Str.ofString "0"), H, I, ⟨t, rfl⟩, q⟩
    · have : ((n : Int) == 1 || (Str.ofString "0").length == 0) = false := by
        rw [el]
        simp
        omega
      rw [this, if_neg Bool.false_ne_true]
      exact ⟨nou_len h2, .str (nou n), H, I.tok _, ⟨_, rfl⟩, q⟩
theorem suite_of {X : Cx} {a C : Addr} {oe : Obj} {pn : List (Addr × Obj)} {cls : Value} {d : Option Addr} {sts : List Stmt} {ts : TS} (hz : Zc cls d oe)
    (h : Zc (.ref C) none oe → PSs (X.suite a ((a, oe) :: pn)) sts ts) : PSs (X.suite a ((a, oe) :: pn)) sts (fun D σ H => (cls = .ref C ∧ d = none) ∧ ts D σ H) :=
  ⟨fun pins s σ H D I hq => by
    obtain ⟨⟨rfl, rfl⟩, q⟩ := hq
    exact (h hz).run pins s σ H D I q⟩
theorem ten_text : ∀ n : Nat, 1 ≤ n → n ≤ 20 → PySem.intText? (Str.ofString "1" ++ nou n) = some ((10 : Int) ^ n) ∧ (Str.ofString "1" ++ nou n).length ≤ 640 ∧ (nou n).length ≤ 100 := by
  intro n h1 h2
  have : ∀ n : _root_.Fin 21, 1 ≤ n.val → PySem.intText? (Str.ofString "1" ++ nou n.val) = some ((10 : Int) ^ n.val) ∧ (Str.ofString "1" ++ nou n.val).length ≤ 640 ∧ (nou n.val).length ≤ 100 := by decide +kernel
  exact this ⟨n, by omega⟩ h1

/-- the divisor by which fraction divides both -/
def sg (n d : Int) : Int := if d < 0 then -((Nat.gcd n.natAbs d.natAbs : Nat) : Int) else ((Nat.gcd n.natAbs d.natAbs : Nat) : Int)
theorem sg_abs (n d : Int) : (sg n d).natAbs = Nat.gcd n.natAbs d.natAbs := by
  unfold sg
  split
  · rw [Int.natAbs_neg, Int.natAbs_natCast]
  · rw [Int.natAbs_natCast]
theorem sg_ne {n d : Int} (h : d ≠ 0) : sg n d ≠ 0 := by
  intro e
  have h1 := sg_abs n d
  rw [e] at h1
  have h2 : Nat.gcd n.natAbs d.natAbs = 0 := h1.symm
  have h3 := Nat.gcd_eq_zero_iff.mp h2
  omega
theorem sg_dn (n d : Int) : sg n d ∣ n := by
  have h : ((Nat.gcd n.natAbs d.natAbs : Nat) : Int) ∣ n := Int.dvd_natAbs.mp (Int.natCast_dvd_natCast.mpr (Nat.gcd_dvd_left _ _))
  unfold sg
  split
  · exact Int.neg_dvd.mpr h
  · exact h
theorem sg_dd (n d : Int) : sg n d ∣ d := by
  have h : ((Nat.gcd n.natAbs d.natAbs : Nat) : Int) ∣ d := Int.dvd_natAbs.mp (Int.natCast_dvd_natCast.mpr (Nat.gcd_dvd_right _ _))
  unfold sg
  split
  · exact Int.neg_dvd.mpr h
  · exact h
theorem fdiv_back {d v : Int} (h : d ∣ v) : v.fdiv d * d = v := Int.fdiv_mul_cancel h
theorem part_le {f d v : Int} (e : f * d = v) (hd : d ≠ 0) : f.natAbs ≤ v.natAbs := by
  rw [← e, Int.natAbs_mul]
  exact Nat.le_mul_of_pos_right _ (by omega)
/-- what fraction yields -/
structure Fr (n d p q : Int) : Prop where
  hp : p * sg n d = n
  hq : q * sg n d = d
  q0 : 0 < q
  one : Nat.gcd p.natAbs q.natAbs = 1
theorem fr_of {n d : Int} (h : d ≠ 0) : Fr n d (n.fdiv (sg n d)) (d.fdiv (sg n d)) := by
  have e1 := fdiv_back (sg_dn n d)
  have e2 := fdiv_back (sg_dd n d)
  have hs := sg_ne (n := n) h
  refine ⟨e1, e2, ?_, ?_⟩
  · rcases Int.lt_or_le 0 (d.fdiv (sg n d)) with h1 | h1
    · exact h1
    · exfalso
      have hg : 0 < Nat.gcd n.natAbs d.natAbs := Nat.gcd_pos_of_pos_right _ (by omega)
      rcases Int.lt_or_le d 0 with h2 | h2
      · have h3 : sg n d < 0 := by
          unfold sg
          rw [if_pos h2]
          omega
        have h4 := Int.mul_nonneg_of_nonpos_of_nonpos h1 (Int.le_of_lt h3)
        omega
      · have h3 : 0 < sg n d := by
          unfold sg
          rw [if_neg (by omega)]
          omega
        have h4 := Int.mul_nonpos_of_nonpos_of_nonneg h1 (Int.le_of_lt h3)
        omega
  · have e3 : Nat.gcd n.natAbs d.natAbs = Nat.gcd (n.fdiv (sg n d)).natAbs (d.fdiv (sg n d)).natAbs * (sg n d).natAbs := by
      rw [← Nat.gcd_mul_right, ← Int.natAbs_mul, ← Int.natAbs_mul, e1, e2]
    rw [sg_abs] at e3
    have hg : 0 < Nat.gcd n.natAbs d.natAbs := Nat.gcd_pos_of_pos_right _ (by omega)
    exact (Nat.eq_of_mul_eq_mul_right hg (by rw [Nat.one_mul]; exact e3)).symm
theorem Fr.cross {n d p q : Int} (f : Fr n d p q) : p * d = n * q := by
  have h1 := f.hp
  have h2 := f.hq
  calc p * d = p * (q * sg n d) := by rw [h2]
    _ = (p * sg n d) * q := by rw [Int.mul_comm q, Int.mul_assoc]
    _ = n * q := by rw [h1]
theorem sg_one (n : Int) : sg n 1 = 1 := by
  unfold sg
  rw [if_neg (by decide)]
  show ((Nat.gcd n.natAbs 1 : Nat) : Int) = 1
  rw [Nat.gcd_one_right]
  rfl
theorem rd_one (n : Int) : [n.fdiv (sg n 1), (1 : Int).fdiv (sg n 1)] = [n, 1] := by rw [sg_one, Int.fdiv_one, Int.fdiv_one]

/-- in lowest terms -/
def rd2 (n d : Int) : List Int := [n.fdiv (sg n d), d.fdiv (sg n d)]
theorem low_uniq {p q r s : Int} (h1 : Nat.gcd p.natAbs q.natAbs = 1) (h2 : Nat.gcd r.natAbs s.natAbs = 1) (hq : 0 < q) (hs : 0 < s) (h : p * s = r * q) : p = r ∧ q = s := by
  have hn : p.natAbs * s.natAbs = r.natAbs * q.natAbs := by
    rw [← Int.natAbs_mul, ← Int.natAbs_mul, h]
  have d1 : q.natAbs ∣ s.natAbs := by
    have h3 : q.natAbs ∣ p.natAbs * s.natAbs := ⟨r.natAbs, by rw [hn, Nat.mul_comm]⟩
    exact Nat.Coprime.dvd_of_dvd_mul_left (show Nat.Coprime q.natAbs p.natAbs from (Nat.gcd_comm _ _).trans h1) h3
  have d2 : s.natAbs ∣ q.natAbs := by
    have h3 : s.natAbs ∣ r.natAbs * q.natAbs := ⟨p.natAbs, by rw [← hn, Nat.mul_comm]⟩
    exact Nat.Coprime.dvd_of_dvd_mul_left (show Nat.Coprime s.natAbs r.natAbs from (Nat.gcd_comm _ _).trans h2) h3
  have e : q.natAbs = s.natAbs := Nat.dvd_antisymm d1 d2
  have e2 : q = s := by omega
  subst e2
  exact ⟨Int.eq_of_mul_eq_mul_right (by omega) h, rfl⟩
theorem rd2_eq {n d n' d' : Int} (hd : 0 < d) (hd' : 0 < d') (h : n * d' = n' * d) : rd2 n d = rd2 n' d' := by
  have f := fr_of (n := n) (show d ≠ 0 by omega)
  have f' := fr_of (n := n') (show d' ≠ 0 by omega)
  have c1 := f.cross
  have c2 := f'.cross
  unfold rd2
  generalize n.fdiv (sg n d) = p at f c1
  generalize d.fdiv (sg n d) = q at f c1
  generalize n'.fdiv (sg n' d') = r at f' c2
  generalize d'.fdiv (sg n' d') = s at f' c2
  have e : p * s = r * q := by
    have h1 : (p * s) * (d * d') = (r * q) * (d * d') := by
      calc (p * s) * (d * d') = (p * d) * (s * d') := by
              rw [Int.mul_assoc, Int.mul_assoc, Int.mul_left_comm s d d']
        _ = (n * q) * (s * d') := by rw [c1]
        _ = (n * d') * (q * s) := by
              rw [Int.mul_assoc, Int.mul_assoc, Int.mul_comm s d', Int.mul_left_comm q d' s]
        _ = (n' * d) * (q * s) := by rw [h]
        _ = (n' * s) * (d * q) := by
              rw [Int.mul_assoc, Int.mul_assoc, Int.mul_comm q s, Int.mul_left_comm d s q]
        _ = (r * d') * (d * q) := by rw [c2]
        _ = (r * q) * (d * d') := by
              rw [Int.mul_assoc, Int.mul_assoc, Int.mul_comm d q, Int.mul_left_comm d' q d, Int.mul_comm d' d]
    exact Int.eq_of_mul_eq_mul_right (Int.mul_ne_zero (by omega) (by omega)) h1
  have u := low_uniq f.one f'.one f.q0 f'.q0 e
  rw [u.1, u.2]
theorem sg_zero_one : sg 0 1 = 1 := sg_one 0
theorem rd2_zero : rd2 0 1 = [0, 1] := by
  unfold rd2
  rw [sg_zero_one, Int.fdiv_one, Int.fdiv_one]
/-- the digits of a number are not too few -/
theorem lt_digits (n : Nat) : n < 2 ^ (4 * (toString (n : Int)).length + 4) := by
  have e : toString (n : Int) = Nat.repr n := rfl
  rw [e]
  have h : n < 10 ^ ((Nat.repr n).length + 1) := (Nat.length_repr_le_iff (Nat.succ_pos _)).mp (Nat.le_succ _)
  refine Nat.lt_of_lt_of_le h ?_
  have h2 : (10 : Nat) ^ ((Nat.repr n).length + 1) ≤ 16 ^ ((Nat.repr n).length + 1) := Nat.pow_le_pow_left (by decide) _
  have h3 : (16 : Nat) ^ ((Nat.repr n).length + 1) = 2 ^ (4 * (Nat.repr n).length + 4) := by
    rw [show (16 : Nat) = 2 ^ 4 from rfl, ← Nat.pow_mul]
    rfl
  omega
theorem eu_digits {a b t : Nat} (h : t = 4 * (toString (a : Int)).length + 4 * (toString (b : Int)).length + 60) : 2 * (a * b) < 2 ^ t := by
  subst h
  have h1 := lt_digits a
  have h2 := lt_digits b
  have h3 : a * b < 2 ^ (4 * (toString (a : Int)).length + 4) * 2 ^ (4 * (toString (b : Int)).length + 4) := Nat.mul_lt_mul'' h1 h2
  rw [← Nat.pow_add] at h3
  have h4 : 2 * (a * b) < 2 * 2 ^ (4 * (toString (a : Int)).length + 4 + (4 * (toString (b : Int)).length + 4)) := by omega
  rw [← Nat.pow_succ'] at h4
  exact Nat.lt_of_lt_of_le h4 (Nat.pow_le_pow_right (by decide) (by omega))
theorem args2 {x y : Int} (hx : 0 ≤ x) (hy : 0 ≤ y) : [V.int x, V.int y] ++ [] = [V.int ((x.natAbs : Nat) : Int), V.int ((y.natAbs : Nat) : Int)] := by
  have e1 : ((x.natAbs : Nat) : Int) = x := by omega
  have e2 : ((y.natAbs : Nat) : Int) = y := by omega
  rw [e1, e2]
  rfl
theorem mod_abs (x : Int) {b : Int} (h : 0 < b) : (x % b).natAbs ≤ b.natAbs := by
  have h1 := Int.emod_nonneg x (show b ≠ 0 by omega)
  have h2 := Int.emod_lt_of_pos x h
  omega
theorem mul_lt_abs {a b : Int} {A B : Nat} (ha : a.natAbs ≤ A) (hb : b.natAbs ≤ B) : (a * b).natAbs ≤ A * B := by
  rw [Int.natAbs_mul]
  exact Nat.mul_le_mul ha hb
def pd2 (x y : Int) : PyData := .tuple [.int x, .int y]
theorem dp2 {K : PySem.W.Frag} {H : Hp} {u : Addr} {x y : Int} (h : SqT K H u (zs [x, y])) : Dp K H (.ref u) (pd2 x y) :=
  .tup h (.cons (.int x) (.cons (.int y) .nil))
theorem eqv2 (x y : Int) : PyData.eqv (pd2 x y) (pd2 x y) = true := by
  unfold pd2
  simp [PyData.eqv, PyData.eqvAll]

def dv (x y z : Int) : Int := let g : Int := (Nat.gcd (Nat.gcd x.natAbs y.natAbs) z.natAbs : Nat)
  if HT.lexLt [x, y, z] [0, 0, 0] = true then -g else g
def g3 (x y z : Int) : Nat := Nat.gcd (Nat.gcd x.natAbs y.natAbs) z.natAbs
/-- the first one that is not 0 is below 0 -/
def dn (x y z : Int) : Bool := decide (x < 0) || (decide (x = 0) && (decide (y < 0) || (decide (y = 0) && decide (z < 0))))
theorem lex_dn (x y z : Int) : HT.lexLt [x, y, z] [0, 0, 0] = dn x y z := by
  rw [HT.lexLt_cons, HT.lexLt_cons, HT.lexLt_cons, HT.lexLt_nil_nil]
  unfold dn
  by_cases hx : x = 0
  · subst hx
    by_cases hy : y = 0
    · subst hy
      by_cases hz : z = 0
      · subst hz; decide
      · simp [hz]
    · simp [hy]
  · simp [hx]
theorem dv_eq (x y z : Int) : dv x y z = if dn x y z = true then -(g3 x y z : Int) else (g3 x y z : Int) := by
  unfold dv g3
  rw [lex_dn]
theorem dv_abs (x y z : Int) : (dv x y z).natAbs = g3 x y z := by
  rw [dv_eq]
  split
  · rw [Int.natAbs_neg, Int.natAbs_natCast]
  · rw [Int.natAbs_natCast]
theorem g3_pos {x y z : Int} (h : ¬ (x = 0 ∧ y = 0 ∧ z = 0)) : 0 < g3 x y z := by
  rcases Nat.eq_zero_or_pos (g3 x y z) with e | e
  · exfalso
    have h1 := Nat.gcd_eq_zero_iff.mp e
    have h2 := Nat.gcd_eq_zero_iff.mp h1.1
    omega
  · exact e
theorem dv_ne {x y z : Int} (h : ¬ (x = 0 ∧ y = 0 ∧ z = 0)) : dv x y z ≠ 0 := by
  intro e
  have h1 := dv_abs x y z
  have h2 := g3_pos h
  rw [e] at h1
  have : (0 : Int).natAbs = 0 := rfl
  omega
theorem g3_dx (x y z : Int) : (g3 x y z : Int) ∣ x := by
  refine Int.dvd_natAbs.mp (Int.natCast_dvd_natCast.mpr ?_)
  exact Nat.dvd_trans (Nat.gcd_dvd_left _ _) (Nat.gcd_dvd_left _ _)
theorem g3_dy (x y z : Int) : (g3 x y z : Int) ∣ y := by
  refine Int.dvd_natAbs.mp (Int.natCast_dvd_natCast.mpr ?_)
  exact Nat.dvd_trans (Nat.gcd_dvd_left _ _) (Nat.gcd_dvd_right _ _)
theorem g3_dz (x y z : Int) : (g3 x y z : Int) ∣ z := by
  refine Int.dvd_natAbs.mp (Int.natCast_dvd_natCast.mpr ?_)
  exact Nat.gcd_dvd_right _ _
theorem dv_dvd {x y z v : Int} (h : (g3 x y z : Int) ∣ v) : dv x y z ∣ v := by
  rw [dv_eq]
  split
  · exact Int.neg_dvd.mpr h
  · exact h
theorem dv_dx (x y z : Int) : dv x y z ∣ x := dv_dvd (g3_dx x y z)
theorem dv_dy (x y z : Int) : dv x y z ∣ y := dv_dvd (g3_dy x y z)
theorem dv_dz (x y z : Int) : dv x y z ∣ z := dv_dvd (g3_dz x y z)
theorem g3_le {x y z : Int} {n : Nat} (h : ¬ (x = 0 ∧ y = 0 ∧ z = 0)) (hx : x.natAbs ≤ n) (hy : y.natAbs ≤ n) (hz : z.natAbs ≤ n) : g3 x y z ≤ n := by
  by_cases h1 : x = 0
  · by_cases h2 : y = 0
    · have h3 : z ≠ 0 := fun e => h ⟨h1, h2, e⟩
      exact Nat.le_trans (Nat.le_of_dvd (by omega) (Nat.gcd_dvd_right _ _)) hz
    · exact Nat.le_trans (Nat.le_of_dvd (by omega) (Nat.dvd_trans (Nat.gcd_dvd_left _ _) (Nat.gcd_dvd_right _ _))) hy
  · exact Nat.le_trans (Nat.le_of_dvd (by omega) (Nat.dvd_trans (Nat.gcd_dvd_left _ _) (Nat.gcd_dvd_left _ _))) hx
theorem g3_mul (x y z t : Int) : g3 (x * t) (y * t) (z * t) = g3 x y z * t.natAbs := by
  unfold g3
  rw [Int.natAbs_mul, Int.natAbs_mul, Int.natAbs_mul, Nat.gcd_mul_right, Nat.gcd_mul_right]
/-- the parts have no divisor left -/
theorem g3_one {x y z a b c : Int} (h : ¬ (x = 0 ∧ y = 0 ∧ z = 0)) (ha : a * dv x y z = x) (hb : b * dv x y z = y) (hc : c * dv x y z = z) : g3 a b c = 1 := by
  have h1 : g3 x y z = g3 a b c * (dv x y z).natAbs := by
    have := g3_mul a b c (dv x y z)
    rw [ha, hb, hc] at this
    exact this
  rw [dv_abs] at h1
  have h2 := g3_pos h
  exact (Nat.eq_of_mul_eq_mul_right h2 (by rw [Nat.one_mul]; exact h1)).symm
theorem neg_mul_iff {v t : Int} (ht : 0 < t) : (v * t < 0 ↔ v < 0) ∧ (v * t = 0 ↔ v = 0) := by
  constructor
  · constructor
    · intro h
      rcases Int.lt_or_le v 0 with h1 | h1
      · exact h1
      · have := Int.mul_nonneg h1 (Int.le_of_lt ht)
        omega
    · exact fun h => Int.mul_neg_of_neg_of_pos h ht
  · constructor
    · intro h
      rcases Int.mul_eq_zero.mp h with h1 | h1
      · exact h1
      · omega
    · intro h
      rw [h, Int.zero_mul]
theorem dn_mul {x y z t : Int} (ht : 0 < t) : dn (x * t) (y * t) (z * t) = dn x y z := by
  unfold dn
  have hx := neg_mul_iff (v := x) ht
  have hy := neg_mul_iff (v := y) ht
  have hz := neg_mul_iff (v := z) ht
  simp only [hx, hy, hz]
theorem dn_neg {x y z : Int} (h : ¬ (x = 0 ∧ y = 0 ∧ z = 0)) : dn (-x) (-y) (-z) = !dn x y z := by
  unfold dn
  rcases Int.lt_trichotomy x 0 with hx | hx | hx
  · have h1 : ¬ (-x < 0) := by omega
    have h2 : ¬ (-x = 0) := by omega
    simp [hx, h1, h2]
    omega
  · subst hx
    rcases Int.lt_trichotomy y 0 with hy | hy | hy
    · have h1 : ¬ (-y < 0) := by omega
      have h2 : ¬ (-y = 0) := by omega
      simp [hy, h1, h2]
      omega
    · subst hy
      have hz : z ≠ 0 := fun e => h ⟨rfl, rfl, e⟩
      by_cases h1 : z < 0
      · have h2 : ¬ (-z < 0) := by omega
        simp [h1, h2]
        omega
      · have h2 : -z < 0 := by omega
        simp [h1, h2]
        omega
    · have h1 : -y < 0 := by omega
      have h2 : ¬ y < 0 := by omega
      have h3 : ¬ y = 0 := by omega
      simp [h1, h2, h3]
      omega
  · have h1 : -x < 0 := by omega
    have h2 : ¬ x < 0 := by omega
    have h3 : ¬ x = 0 := by omega
    simp [h1, h2, h3]
    omega
theorem dv_mul {x y z t : Int} (h : ¬ (x = 0 ∧ y = 0 ∧ z = 0)) (ht : t ≠ 0) : dv (x * t) (y * t) (z * t) = dv x y z * t := by
  rw [dv_eq, dv_eq, g3_mul]
  rcases Int.lt_or_gt_of_ne ht with h1 | h1
  · have e1 : ∀ v : Int, v * t = -v * -t := fun v => (Int.neg_mul_neg v t).symm
    have e2 : (t.natAbs : Int) = -t := by omega
    have h2 : ¬ (-x = 0 ∧ -y = 0 ∧ -z = 0) := by omega
    rw [e1 x, e1 y, e1 z, dn_mul (by omega), dn_neg h]
    cases dn x y z with
    | true => simp [e2, Int.neg_mul, Int.mul_neg]
    | false => simp [e2, Int.neg_mul, Int.mul_neg]
  · have e2 : (t.natAbs : Int) = t := by omega
    rw [dn_mul h1]
    cases dn x y z with
    | true => simp [e2, Int.neg_mul, Int.mul_neg]
    | false => simp [e2, Int.neg_mul, Int.mul_neg]
theorem fdiv_same {d v t : Int} (hd : d ≠ 0) (ht : t ≠ 0) (h : d ∣ v) : (v * t).fdiv (d * t) = v.fdiv d := by
  obtain ⟨k, rfl⟩ := h
  rw [Int.mul_assoc, Int.mul_comm k t, ← Int.mul_assoc, Int.mul_fdiv_cancel_left _ hd, Int.mul_fdiv_cancel_left]
  exact Int.mul_ne_zero hd ht

theorem zs_push {l : List Int} {n : Int} : zs l ++ [V.int n] = zs (l ++ [n]) := by
  show l.map V.int ++ [V.int n] = (l ++ [n]).map V.int
  rw [List.map_append]
  rfl
theorem zs_lt {l : List Int} (h : l.length ≤ 1000) : (zs l).length < sizeLine := by
  show (l.map V.int).length < sizeLine
  rw [List.length_map]
  exact small1000 h
theorem row_all {rs : List Int} {b : Int} (h : ∀ r ∈ rs, 0 ≤ r ∧ r < b) (x : Int) (hb : 0 < b) : ∀ r ∈ rs ++ [x % b], 0 ≤ r ∧ r < b := by
  intro r hr
  rcases List.mem_append.mp hr with h1 | h1
  · exact h r h1
  · rw [List.mem_singleton.mp h1]
    exact ⟨Int.emod_nonneg _ (by omega), Int.emod_lt_of_pos _ hb⟩
theorem ixN_in {n : Nat} {i : Int} (h0 : 0 ≤ i) (h : i < (n : Int)) : ixN n i = some i.toNat := by
  unfold ixN
  rw [if_pos h0, if_pos h]
theorem len3 {rs : List Int} (h : rs.length = 3) : ∃ a b c, rs = [a, b, c] := by
  match rs, h with
  | [a, b, c], _ => exact ⟨a, b, c, rfl⟩
theorem gl_three (x y z : Int) : gl [x, y, z] = g3 x y z := by
  show Nat.gcd z.natAbs (Nat.gcd y.natAbs (Nat.gcd x.natAbs 0)) = Nat.gcd (Nat.gcd x.natAbs y.natAbs) z.natAbs
  rw [Nat.gcd_zero_right, Nat.gcd_comm z.natAbs, Nat.gcd_comm y.natAbs]
def fs3 (x y z : Int) : Int := if x ≠ 0 then x else if y ≠ 0 then y else z
theorem fs3_get {x y z : Int} (h : ¬ (x = 0 ∧ y = 0 ∧ z = 0)) : (zs ([x, y, z].filter fun v => decide (v ≠ 0)))[0]? = some (.int (fs3 x y z)) := by
  unfold fs3
  by_cases hx : x = 0
  · by_cases hy : y = 0
    · have hz : z ≠ 0 := fun e => h ⟨hx, hy, e⟩
      simp [hx, hy, hz]
    · simp [hx, hy]
  · simp [hx]
theorem fs3_dn {x y z : Int} (h : ¬ (x = 0 ∧ y = 0 ∧ z = 0)) : decide (fs3 x y z < 0) = dn x y z := by
  unfold fs3 dn
  by_cases hx : x = 0
  · by_cases hy : y = 0
    · simp [hx, hy]
    · simp [hx, hy]
  · simp [hx]
theorem fil_snoc {l : List Int} {i : Nat} {z : Int} (h : l[i]? = some z) (hz : z ≠ 0) : zs ((l.take i).filter fun v => decide (v ≠ 0)) ++ [V.int z] = zs ((l.take (i + 1)).filter fun v => decide (v ≠ 0)) := by
  rw [take_snoc h, List.filter_append, zs_push]
  simp [hz]
theorem fil_same {l : List Int} {i : Nat} {z : Int} (h : l[i]? = some z) (hz : z = 0) : (l.take (i + 1)).filter (fun v => decide (v ≠ 0)) = (l.take i).filter fun v => decide (v ≠ 0) := by
  rw [take_snoc h, List.filter_append]
  simp [hz]
theorem fil_lt {l : List Int} (n : Nat) (h : l.length ≤ 1000) : (zs ((l.take n).filter fun v => decide (v ≠ 0))).length < sizeLine := by
  refine zs_lt ?_
  have h1 := List.length_filter_le (fun v : Int => decide (v ≠ 0)) (l.take n)
  rw [List.length_take] at h1
  omega
theorem zs_at {l : List Int} {i : Nat} {z : Int} (h : l[i]? = some z) : atI (zs l) (i : Int) = some (V.int z) := atI_nat (by
  rw [show zs l = l.map V.int from rfl, List.getElem?_map, h]
  rfl)
theorem parts_at {x y z d : Int} (hx : d ∣ x) (hy : d ∣ y) (hz : d ∣ z) {i : Nat} (hi : i < 3) : ∃ f v : Int, [x.fdiv d, y.fdiv d, z.fdiv d][i]? = some f ∧ [x, y, z][i]? = some v ∧ f * d = v := by
  obtain rfl | rfl | rfl : i = 0 ∨ i = 1 ∨ i = 2 := by omega
  · exact ⟨_, _, rfl, rfl, fdiv_back hx⟩
  · exact ⟨_, _, rfl, rfl, fdiv_back hy⟩
  · exact ⟨_, _, rfl, rfl, fdiv_back hz⟩
def pd3 (x y z : Int) : PyData := .tuple [.int x, .int y, .int z]
theorem dp3 {K : PySem.W.Frag} {H : Hp} {u : Addr} {x y z : Int} (h : SqT K H u (zs [x, y, z])) : Dp K H (.ref u) (pd3 x y z) :=
  .tup h (.cons (.int x) (.cons (.int y) (.cons (.int z) .nil)))
theorem eqv3 (x y z : Int) : PyData.eqv (pd3 x y z) (pd3 x y z) = true := by
  unfold pd3
  simp [PyData.eqv, PyData.eqvAll]

def sgn (i : Int) : Int := if i < 0 then -1 else if 0 < i then 1 else 0
theorem sgn_mul {a b : Int} (hb : 0 < b) : sgn (a * b) = sgn a := by
  have h := neg_mul_iff (v := a) hb
  have h2 : 0 < a * b ↔ 0 < a := by
    constructor
    · intro z
      have h3 : ¬ a < 0 := fun y => by
        have := h.1.mpr y
        omega
      have h4 : ¬ a = 0 := fun y => by
        have := h.2.mpr y
        omega
      omega
    · exact fun z => Int.mul_pos z hb
  unfold sgn
  by_cases h3 : a < 0
  · rw [if_pos h3, if_pos (h.1.mpr h3)]
  · rw [if_neg h3, if_neg (fun z => h3 (h.1.mp z))]
    by_cases h4 : 0 < a
    · rw [if_pos h4, if_pos (h2.mpr h4)]
    · rw [if_neg h4, if_neg (fun z => h4 (h2.mp z))]
theorem sg_pos {n d : Int} (h : 0 < d) : 0 < sg n d := by
  have hg : 0 < Nat.gcd n.natAbs d.natAbs := Nat.gcd_pos_of_pos_right _ (by omega)
  unfold sg
  rw [if_neg (by omega)]
  omega
/-- the sign of a fraction is that of its numerator, before and behind -/
theorem sgn_low {n d : Int} (h : 0 < d) : sgn (n.fdiv (sg n d)) = sgn n := by
  have h1 := fdiv_back (sg_dn n d)
  have h2 := sgn_mul (a := n.fdiv (sg n d)) (sg_pos (n := n) h)
  rw [h1] at h2
  exact h2.symm
theorem rd2_le {n d : Int} (hd : d ≠ 0) : ∃ p q, rd2 n d = [p, q] ∧ p.natAbs ≤ n.natAbs ∧ q.natAbs ≤ d.natAbs ∧ Fr n d p q :=
  have f := fr_of (n := n) hd
  ⟨_, _, rfl, part_le f.hp (sg_ne hd), part_le f.hq (sg_ne hd), f⟩
/-- a sum of two, each brought to lowest terms -/
theorem rd2_plus {a b c d p q r s : Int} (f : Fr a b p q) (g : Fr c d r s) (hb : 0 < b) (hd : 0 < d) : rd2 (p * s + r * q) (q * s) = rd2 (a * d + c * b) (b * d) := by
  have q0 := f.q0
  have s0 := g.q0
  have c1 := f.cross
  have c2 := g.cross
  exact rd2_eq (Int.mul_pos q0 s0) (Int.mul_pos hb hd) (by grind)
/-- what is in lowest terms stays -/
theorem low_of {p q : Int} (h : Nat.gcd p.natAbs q.natAbs = 1) (hq : 0 < q) : rd2 p q = [p, q] := by
  have f := fr_of (n := p) (show q ≠ 0 by omega)
  have c := f.cross
  have u := low_uniq f.one h f.q0 hq (by rw [f.cross])
  unfold rd2
  rw [u.1, u.2]
theorem fr_low {n d p q : Int} (f : Fr n d p q) : rd2 p q = [p, q] := low_of f.one f.q0
theorem eu_far2 {a b n : Nat} (hn : 3601 ≤ n) (ha : a < 2 ^ 1800) (hb : b < 2 ^ 1800) : 2 * (a * b) < 2 ^ n := by
  have h1 : a * b < 2 ^ 1800 * 2 ^ 1800 := Nat.mul_lt_mul'' ha hb
  rw [← Nat.pow_add] at h1
  have h2 : (2 : Nat) ^ 3601 ≤ 2 ^ n := Nat.pow_le_pow_right (by decide) hn
  rw [show (3601 : Nat) = 1 + (1800 + 1800) from rfl, Nat.pow_add] at h2
  generalize (2 : Nat) ^ (1800 + 1800) = B at *
  generalize (2 : Nat) ^ n = C at *
  omega
theorem rd2_eq0 {n d n' d' : Int} (hd : d ≠ 0) (hd' : d' ≠ 0) (h : n * d' = n' * d) : rd2 n d = rd2 n' d' := by
  have f := fr_of (n := n) hd
  have f' := fr_of (n := n') hd'
  have c1 := f.cross
  have c2 := f'.cross
  unfold rd2
  generalize n.fdiv (sg n d) = p at f c1
  generalize d.fdiv (sg n d) = q at f c1
  generalize n'.fdiv (sg n' d') = r at f' c2
  generalize d'.fdiv (sg n' d') = s at f' c2
  have e : p * s = r * q := by
    have h1 : (p * s) * (d * d') = (r * q) * (d * d') := by grind
    exact Int.eq_of_mul_eq_mul_right (Int.mul_ne_zero hd hd') h1
  have u := low_uniq f.one f'.one f.q0 f'.q0 e
  rw [u.1, u.2]

/-- a row of fractions: where each stands, its two numbers -/
structure Rows (K : PySem.W.Frag) (H : Hp) (ws : List (Addr × Int × Int)) : Prop where
  at_ : ∀ w ∈ ws, SqT K H w.1 (zs [w.2.1, w.2.2])
  b1 : ∀ w ∈ ws, w.2.1.natAbs < 2 ^ 40
  b2 : ∀ w ∈ ws, w.2.2.natAbs < 2 ^ 40
  b3 : ∀ w ∈ ws, 0 < w.2.2
  few : ws.length ≤ 9
theorem Rows.nil {K : PySem.W.Frag} {H : Hp} : Rows K H [] :=
  ⟨(fun _ h => nomatch h), (fun _ h => nomatch h), (fun _ h => nomatch h), (fun _ h => nomatch h), by decide⟩
def rf (ws : List (Addr × Int × Int)) : List V := ws.map fun w => V.ref w.1
theorem Rows.same {K : PySem.W.Frag} {H H' : Hp} {ws : List (Addr × Int × Int)} (r : Rows K H ws) (s : Same H H') : Rows K H' ws :=
  ⟨fun w hw => same_tup s (r.at_ w hw), r.b1, r.b2, r.b3, r.few⟩
theorem Rows.take {K : PySem.W.Frag} {H : Hp} {ws : List (Addr × Int × Int)} (r : Rows K H ws) (i : Nat) : Rows K H (ws.take i) :=
  ⟨fun w hw => r.at_ w (List.mem_of_mem_take hw), fun w hw => r.b1 w (List.mem_of_mem_take hw), fun w hw => r.b2 w (List.mem_of_mem_take hw), fun w hw => r.b3 w (List.mem_of_mem_take hw), by
    rw [List.length_take]
    have := r.few
    omega⟩
theorem rf_get {ws : List (Addr × Int × Int)} {i : Nat} {v : V} (h : (rf ws)[i]? = some v) : ∃ w, v = .ref w.1 ∧ ws[i]? = some w := by
  rw [show rf ws = ws.map fun w => V.ref w.1 from rfl, List.getElem?_map] at h
  cases e : ws[i]? with
  | none =>
    rw [e] at h
    cases h
  | some w =>
    rw [e] at h
    exact ⟨w, (Option.some.inj h).symm, rfl⟩
theorem rf_len (ws : List (Addr × Int × Int)) : (rf ws).length = ws.length := List.length_map _
theorem take_sn {α : Type} {l : List α} {i : Nat} {z : α} (h : l[i]? = some z) : l.take (i + 1) = l.take i ++ [z] := by
  rw [List.take_add_one, h]
  rfl
theorem tup_upd {K : PySem.W.Frag} {H : Hp} {a l : Addr} {xs ys : List V} {o : HO} (h : SqT K H a xs) (hl : H l = some (.lst ys)) : SqT K (upd H l o) a xs := by
  rcases h with (h | ⟨ob, h⟩) | h
  · refine .inl (.inl ?_)
    rw [upd_ne (ne_of h hl (by intro z; cases z))]
    exact h
  · refine .inl (.inr ⟨ob, ?_⟩)
    rw [upd_ne (ne_of h hl (by intro z; cases z))]
    exact h
  · exact .inr h
theorem tyx_tup {K : PySem.W.Frag} {H : Hp} {a : Addr} {xs : List V} (h : SqT K H a xs) : TyX K H (.ref a) (.type "tuple") := by
  rcases h with (h | ⟨ob, h⟩) | ⟨o, its, n, h, hc, _⟩
  · exact .base (.tup h)
  · exact .fTuple h
  · exact .kTuple h hc
theorem no_self {x : V} (h : (!decide (x = x)) = true) : False := by
  rw [decide_eq_true rfl] at h
  cases h

section ZipMixed
open PySem PySem.Spec PyProof.Rows
/-- a list or a tuple that stands still -/
def SqB (f : Bool) (K : PySem.W.Frag) (H : Hp) (q : Addr) (vs : List V) : Prop := bif f then SqT K H q vs else SqL K H q vs
def ItB (f : Bool) (h : Heap) (it q : Addr) (i : Nat) : Prop := bif f then h.IsTupleIter it q i else h.IsListIter it q i
def AtB (f : Bool) (h : Heap) (q : Addr) (us : Array Value) : Prop := bif f then h.IsTuple q us else h.IsList q us
def oB (f : Bool) (q : Addr) : Obj := bif f then { cls := .type "tuple_iterator", data := .fields #[.ref q, .int 0 0] } else { cls := .type "list_iterator", data := .fields #[.ref q, .int 0 0] }
theorem ItB.live {f : Bool} {h : Heap} {it q : Addr} {i : Nat} (s : ItB f h it q i) : ∃ o, h.get? it = some o ∧ ∀ v, o.data ≠ .cell v := by
  cases f
  · obtain ⟨o, e, _, d⟩ := s
    exact ⟨o, e, fun v z => by rw [d] at z; cases z⟩
  · obtain ⟨o, e, _, d⟩ := s
    exact ⟨o, e, fun v z => by rw [d] at z; cases z⟩
theorem ItB.keep {f : Bool} {h h' : Heap} {it q : Addr} {i : Nat} (s : ItB f h it q i) (k : ∀ o, h.get? it = some o → h'.get? it = some o) : ItB f h' it q i := by
  cases f
  · exact Heap.IsListIter.at s k
  · exact Heap.IsTupleIter.at s k
theorem SqB.at_ {X : Cx} {pins : List (Addr × Obj)} {σ : L2.St} {H : Hp} {s : Shared} {f : Bool} {q : Addr} {vs : List V} (I : Inv X pins σ H s) (h : SqB f X.K H q vs) :
    ∃ us : List Value, Vals vs us ∧ AtB f s.heap q us.toArray := by
  cases f
  · obtain ⟨us, rv, p, _⟩ := I.list h
    exact ⟨us, rv, p.isList⟩
  · obtain ⟨us, rv, p, _⟩ := I.tuple h
    exact ⟨us, rv, p⟩
theorem SqB.inj {X : Cx} {pins : List (Addr × Obj)} {σ : L2.St} {H : Hp} {s : Shared} {f : Bool} {q : Addr} {vs ws : List V} (I : Inv X pins σ H s) (h : SqB f X.K H q vs) (h2 : SqB f X.K H q ws) : vs = ws := by
  cases f
  · exact I.list_inj h h2
  · exact I.tuple_inj h h2
theorem drawsB {P : Program} {w : World} {A : Around} (hh : A.handled = none) (f : Bool) (it q : Addr) (hne : q ≠ it) (us : Array Value) :
    Draws P w A it [it, q] us.size (fun i v => us[i]? = some v) (fun i h => ItB f h it q i ∧ AtB f h q us) := by
  cases f
  · exact Draws.list hh it q hne us
  · exact Draws.tuple hh it q hne us
theorem beginsB (f : Bool) (q : Addr) (us : Array Value) : Begins (.ref q) (oB f q) fun h => AtB f h q us := by
  cases f
  · exact begins_list q us
  · exact begins_tuple q us
theorem AtB.lt {f : Bool} {h : Heap} {q : Addr} {us : Array Value} (p : AtB f h q us) : q < h.objs.size := by
  cases f
  · obtain ⟨o, e, _⟩ := p
    exact Heap.lt_size e
  · obtain ⟨o, e, _⟩ := p
    exact Heap.lt_size e
theorem oB_it {f : Bool} {h : Heap} {it q : Addr} (e : h.get? it = some (oB f q)) : ItB f h it q 0 := by
  cases f
  · exact ⟨_, e, rfl, rfl⟩
  · exact ⟨_, e, rfl, rfl⟩
theorem sep_of {z TI TO i1 i2 a b : Addr} (D : ZipApart z TI TO i1 i2 a b) : ZipSep2 z TI TO i1 i2 [i1, a] [i2, b] where
  TIz := D.TIz
  TOz := D.TOz
  TITO := D.TITO
  TIi1 := D.TIi1
  mem1 := by simp
  zf1 := by simp [D.i1z.symm, D.l1z.symm]
  Tf1 := by simp [D.TOi1, D.l1TO.symm]
  TIi2 := D.TIi2
  mem2 := by simp
  zf2 := by simp [D.i2z.symm, D.l2z.symm]
  Tf2 := by simp [D.TOi2, D.l2TO.symm]
  sep1_2 := by simp [D.i12, D.l2i1.symm]
  sep2_1 := by simp [D.i12.symm, D.l1i2.symm]
/-- the two as they stand at each turn, what they hold in new pairs -/
def ItzB (f g : Bool) (K : PySem.W.Frag) (a b : Addr) : It :=
  ⟨fun i H => ∃ (xs ys : List V) (x y : V), SqB f K H a xs ∧ SqB g K H b ys ∧ xs[i]? = some x ∧ ys[i]? = some y,
    fun i H v H' => ∃ T x y, v = .ref T ∧ H T = none ∧ H' = upd H T (.tup [x, y]) ∧ (∀ xs, SqB f K H a xs → xs[i]? = some x) ∧ ∀ ys, SqB g K H b ys → ys[i]? = some y,
    fun i H => ∃ xs ys : List V, SqB f K H a xs ∧ SqB g K H b ys ∧ i ≤ xs.length ∧ i ≤ ys.length ∧ (i = xs.length ∨ i = ys.length)⟩
theorem turn_zipB {P : Program} {w : World} {K : PySem.W.Frag} {elts : List Expr} {kk : Nat} {tpos : Pos} {a b z TI TO i1 i2 : Addr} (f g : Bool) (D : ZipApart z TI TO i1 i2 a b) :
    Turn P w K (.Tuple elts kk tpos) (ItzB f g K a b) [z, TI, TO, i1, i2] z (fun i h => IsZip h z TI TO .none ∧ IsPair h TI (.ref i1) (.ref i2) ∧ (∃ x y, IsPair h TO x y) ∧ ItB f h i1 a i ∧ ItB g h i2 b i) where
  mem := by simp
  obj := fun i h st c hc => by
    obtain ⟨hz, hTI, ⟨x, y, hTO⟩, h1, h2⟩ := st
    have e' : c = z ∨ c = TI ∨ c = TO ∨ c = i1 ∨ c = i2 := by simpa using hc
    rcases e' with rfl | rfl | rfl | rfl | rfl
    · exact ⟨_, hz, fun v q => nomatch q⟩
    · exact ⟨_, hTI, fun v q => nomatch q⟩
    · exact ⟨_, hTO, fun v q => nomatch q⟩
    · exact h1.live
    · exact h2.live
  keep := fun i h h' st k => by
    obtain ⟨hz, hTI, ⟨x, y, hTO⟩, h1, h2⟩ := st
    exact ⟨k z (by simp) _ hz, k TI (by simp) _ hTI, ⟨x, y, k TO (by simp) _ hTO⟩, h1.keep fun o q => k i1 (by simp) o q, h2.keep fun o q => k i2 (by simp) o q⟩
  item := by
    intro X hP hw hK hc i pins s σ H E I hf st hg
    subst hP hw hK
    obtain ⟨hz, hTI, ⟨x0, y0, hTO⟩, h1, h2⟩ := st
    obtain ⟨xs, ys, x, y, hqx, hqy, hx, hy⟩ := hg
    obtain ⟨us, rv, p⟩ := hqx.at_ I
    obtain ⟨us2, rv2, p2⟩ := hqy.at_ I
    obtain ⟨u, hu, ru⟩ := rv.get hx
    obtain ⟨u2, hu2, ru2⟩ := rv2.get hy
    have hzl : z < s.heap.objs.size := Heap.lt_size hz
    have lx : i < us.toArray.size := by
      have := (List.getElem?_eq_some_iff.mp hu).1
      simpa using this
    have ly : i < us2.toArray.size := by
      have := (List.getElem?_eq_some_iff.mp hu2).1
      simpa using this
    have hhd : X.A.in1.handled = none := I.ok.hd hc
    refine wpAny_pyNext_zipD2_item (sep_of D) (drawsB hhd f i1 a D.l1i1 us.toArray) (drawsB hhd g i2 b D.l2i2 us2.toArray) hz hTI hTO ⟨h1, p⟩ ⟨h2, p2⟩ lx ly fun v1 v2 h' tk e1 e2 z' TO' st1 st2 hT hsz hk => ?_
    have w1 : v1 = u := by
      have : us[i]? = some v1 := by simpa using e1
      rw [hu] at this
      exact (Option.some.inj this).symm
    have w2 : v2 = u2 := by
      have : us2[i]? = some v2 := by simpa using e2
      rw [hu2] at this
      exact (Option.some.inj this).symm
    subst w1 w2
    refine ⟨_, rfl, wpAny_letOwnedTupleGo_zip (s := { s with heap := h', toks := tk }) z' fun h'' z'' sb => ?_⟩
    have hT2 : h''.get? s.heap.objs.size = some { cls := .type "tuple", data := .seq #[v1, v2] } := (sb.2 _ (Nat.ne_of_gt hzl)).trans hT
    have new : ObjOk X.prog X.w (upd H s.heap.objs.size (.tup [x, y])) h'' s.heap.objs.size (.tup [x, y]) :=
      ⟨by show 2 ≤ sizeLine; decide, [v1, v2], .cons ru (.cons ru2 .nil), ⟨_, hT2, rfl, _, rfl⟩⟩
    have I1 : Inv X pins σ (upd H s.heap.objs.size (.tup [x, y])) { s with heap := h'', toks := tk } :=
      I.turnedNew (t' := tk) (ch := [z, TI, TO, i1, i2]) (fun c o hb q => (sb.2 c (fun q' => hb (by simp [q']))).trans (hk c o (fun q' => hb (by simp [q'])) (fun q' => hb (by simp [q'])) (fun q' => hb (by simp [q'])) (fun q' => hb (by simp [q'])) q)) hf (Nat.le_refl _) new
    refine ⟨.ref s.heap.objs.size, _, I1, rfl, ⟨_, x, y, rfl, I.hok.fresh (Nat.le_refl _), rfl, fun l hl => by rw [hl.inj I hqx]; exact hx, fun l hl => by rw [hl.inj I hqy]; exact hy⟩, ⟨z'', ?_, ⟨v1, v2, ?_⟩, ?_, ?_⟩, fun c hcm => ?_⟩
    · exact (sb.2 _ D.TIz).trans (hk _ _ D.TIz D.TITO D.TIi1 D.TIi2 hTI)
    · exact (sb.2 _ D.TOz).trans TO'
    · exact st1.1.keep fun o q => (sb.2 _ D.i1z).trans q
    · exact st2.1.keep fun o q => (sb.2 _ D.i2z).trans q
    · have hlt : c < s.heap.objs.size := by
        have e' : c = z ∨ c = TI ∨ c = TO ∨ c = i1 ∨ c = i2 := by simpa using hcm
        rcases e' with rfl | rfl | rfl | rfl | rfl
        · exact hzl
        · exact Heap.lt_size hTI
        · exact Heap.lt_size hTO
        · obtain ⟨_, e1, _⟩ := h1.live; exact Heap.lt_size e1
        · obtain ⟨_, e1, _⟩ := h2.live; exact Heap.lt_size e1
      rw [upd_ne (Nat.ne_of_lt hlt)]
      exact (hf c hcm).1
  done := by
    intro X hP hw hK hc i pins s σ H E I hf st hg
    subst hP hw hK
    obtain ⟨hz, hTI, ⟨x0, y0, hTO⟩, h1, h2⟩ := st
    obtain ⟨xs, ys, hqx, hqy, hend1, hend2, hend3⟩ := hg
    obtain ⟨us, rv, p⟩ := hqx.at_ I
    obtain ⟨us2, rv2, p2⟩ := hqy.at_ I
    have l1 := rv.length
    have l2 := rv2.length
    have hhd : X.A.in1.handled = none := I.ok.hd hc
    have z1 : us.toArray.size = us.length := by simp
    have z2 : us2.toArray.size = us2.length := by simp
    exact wpAny_pyNext_zipD2_end (sep_of D) (drawsB hhd f i1 a D.l1i1 us.toArray) (drawsB hhd g i2 b D.l2i2 us2.toArray) hz hTI hTO ⟨h1, p⟩ ⟨h2, p2⟩ (by omega) (by omega) (by omega) fun h' tk hk => ⟨rfl, I.turnedL (t' := tk) (ch := [z, TI, TO, i1, i2]) (fun c o hb q =>
      hk c o (fun q' => hb (by simp [q'])) (fun q' => hb (by simp [q'])) (fun q' => hb (by simp [q'])) (fun q' => hb (by simp [q'])) q) hf⟩
  self := fun A i s Q E st h => wpAny_pyIter_zip st.1 h
def iZipB (K : PySem.W.Frag) (ta : TA) : TI := fun σ H R => ta σ H fun vs H1 => ∃ (f g : Bool) (a b : Addr) (xs ys : List V), vs = [.ref a, .ref b] ∧ SqB f K H1 a xs ∧ SqB g K H1 b ys ∧ R (ItzB f g K a b) H1
theorem pi_zipB {X : Cx} {e e2 : Expr} {ta : TA} {p pos tpos : Pos} {elts : List Expr} {kk : Nat} (hg : Gl X "zip") (hm : X.mg "zip" = none) (ha : PA X [e, e2] ta)
    (hs : starEach [e, e2] X.env = (false, eval e X.env) :: starEach [e2] X.env := by rfl) (hpl : (backTo pos (starEach [e2] X.env)).any (·.1) = false := by rfl) :
    PI X (.Tuple elts kk tpos) (.Call (.Name "zip" p) [e, e2] [] pos) (iZipB X.K ta) := by
  refine ⟨fun pins s σ H R I h => ?_⟩
  refine Call_ (ld_blt I hg hm PyProof.Rows.boot_zip (PyProof.Rows.callWith_type1 (thn (ha.run pos pins s σ H _ I h) fun us s1 ⟨vs, H1, I1, r1, q1⟩ => ?_) hs hpl))
  obtain ⟨f, g, a, b, xs, ys, rfl, hqx, hqy, q⟩ := q1
  obtain ⟨u1, u2, rfl, r, r'⟩ := vals2 r1
  cases r
  cases r'
  obtain ⟨_, rv, p1⟩ := hqx.at_ I1
  obtain ⟨_, rv2, p2⟩ := hqy.at_ I1
  refine zip_begins2 (beginsB f a _) (beginsB g b _) p1 p2 fun h' hz hTI hTO h1 h2 hsz hk => wpAny_pyIter_zip hz ?_
  have I2 : Inv X pins σ H1 { s1 with heap := h' } := I1.kept (t' := s1.toks) hk
  refine ⟨s1.heap.objs.size + 4, [s1.heap.objs.size + 4, s1.heap.objs.size + 2, s1.heap.objs.size + 3, s1.heap.objs.size, s1.heap.objs.size + 1], _, _, H1, rfl, I2, turn_zipB f g (PySem.W.ktu_apart s1.heap.objs.size a b p1.lt p2.lt), ⟨hz, hTI, ⟨_, _, hTO⟩, oB_it h1, oB_it h2⟩, fun c hcm => ?_, q⟩
  have e' : c = s1.heap.objs.size + 4 ∨ c = s1.heap.objs.size + 2 ∨ c = s1.heap.objs.size + 3 ∨ c = s1.heap.objs.size ∨ c = s1.heap.objs.size + 1 := by simpa using hcm
  have hle : s1.heap.objs.size ≤ c := by
    rcases e' with z | z | z | z | z
    · rw [z]; exact Nat.le_add_right _ _
    · rw [z]; exact Nat.le_add_right _ _
    · rw [z]; exact Nat.le_add_right _ _
    · rw [z]; exact Nat.le_refl _
    · rw [z]; exact Nat.le_add_right _ _
  exact I1.fpOk hle (I1.hok.fresh hle)
theorem walk_zipB {f g : Bool} {K : PySem.W.Frag} {a b : Addr} {xs ys : List V} {n : Nat} (hn : n = min xs.length ys.length) : Walk (ItzB f g K a b) n (fun H => SqB f K H a xs ∧ SqB g K H b ys) (YPair (fun i => xs[i]?) (fun i => ys[i]?)) := by
  subst hn
  refine ⟨fun i _ hi q => ?_, fun _ q => ⟨xs, ys, q.1, q.2, by omega, by omega, by omega⟩, fun i H v H' _ q y => ?_⟩
  · have h1 : i < xs.length := by omega
    have h2 : i < ys.length := by omega
    exact ⟨xs, ys, xs[i], ys[i], q.1, q.2, by simp [h1], by simp [h2]⟩
  · obtain ⟨T, u, u2, h1, h2, h3, h4, h5⟩ := y
    exact ⟨T, u, u2, h1, h2, h3, h4 xs q.1, h5 ys q.2⟩
end ZipMixed

theorem rat_rd {n d : Int} (hd : d ≠ 0) : rd2 n d = [(Rat.divInt n d).num, ((Rat.divInt n d).den : Int)] := by
  have h0 : ((Rat.divInt n d).den : Int) ≠ 0 := by
    have := (Rat.divInt n d).den_nz
    omega
  have e : Rat.divInt n d = Rat.divInt (Rat.divInt n d).num ((Rat.divInt n d).den : Int) := (Rat.num_divInt_den _).symm
  have c := (Rat.divInt_eq_divInt_iff hd h0).mp e
  rw [rd2_eq0 hd h0 c]
  exact low_of (Rat.divInt n d).reduced (by have := (Rat.divInt n d).den_nz; omega)
/-- a fraction that stands at an address -/
def Fx (K : PySem.W.Frag) (H : Hp) (a : Addr) (r : Rat) : Prop := SqT K H a (zs [r.num, (r.den : Int)])
theorem Fx.same {K : PySem.W.Frag} {H H' : Hp} {a : Addr} {r : Rat} (h : Fx K H a r) (s : Same H H') : Fx K H' a r := same_tup s h
theorem fx_rd {K : PySem.W.Frag} {H : Hp} {a : Addr} {n d : Int} (hd : d ≠ 0) (h : H a = some (.tup (zs (rd2 n d)))) : Fx K H a (Rat.divInt n d) := by
  unfold Fx
  rw [← rat_rd hd]
  exact SqT.of h
theorem fx_at {K : PySem.W.Frag} {H : Hp} {a : Addr} {r : Rat} (h : H a = some (.tup (zs [r.num, (r.den : Int)]))) : Fx K H a r := SqT.of h
def Bd (n : Nat) (r : Rat) : Prop := r.num.natAbs < 2 ^ n ∧ r.den < 2 ^ n
theorem Bd.up {n m : Nat} {r : Rat} (h : Bd n r) (hm : n ≤ m) : Bd m r :=
  ⟨Nat.lt_of_lt_of_le h.1 (Nat.pow_le_pow_right (by decide) hm), Nat.lt_of_lt_of_le h.2 (Nat.pow_le_pow_right (by decide) hm)⟩
theorem Bd.den {n : Nat} {r : Rat} (h : Bd n r) : ((r.den : Nat) : Int).natAbs < 2 ^ n := h.2
theorem den_pos (r : Rat) : (0 : Int) < (r.den : Int) := by
  have := r.den_nz
  omega
theorem den_ne (r : Rat) : ((r.den : Nat) : Int) ≠ 0 := by
  have := den_pos r
  omega
theorem bd_of {n d : Int} {k : Nat} (hd : d ≠ 0) (h1 : n.natAbs < 2 ^ k) (h2 : d.natAbs < 2 ^ k) : Bd k (Rat.divInt n d) := by
  obtain ⟨p, q, e, l1, l2, _⟩ := rd2_le (n := n) hd
  rw [rat_rd hd] at e
  have e1 : (Rat.divInt n d).num = p := by injection e
  have e2 : ((Rat.divInt n d).den : Int) = q := by
    injection e with _ e
    injection e
  refine ⟨by rw [e1]; omega, ?_⟩
  have : (Rat.divInt n d).den = q.natAbs := by rw [← e2]; rfl
  omega
theorem add_div (r s : Rat) : r + s = Rat.divInt (r.num * s.den + s.num * r.den) (r.den * s.den) := by
  rw [Rat.add_def', Rat.divInt_eq_div, Rat.mkRat_eq_div]
  rfl
theorem sub_div (r s : Rat) : r - s = Rat.divInt (r.num * s.den - s.num * r.den) (r.den * s.den) := by
  rw [Rat.sub_def', Rat.divInt_eq_div, Rat.mkRat_eq_div]
  rfl
theorem mul_div (r s : Rat) : r * s = Rat.divInt (r.num * s.num) (r.den * s.den) := by
  rw [Rat.mul_def', Rat.divInt_eq_div, Rat.mkRat_eq_div]
  rfl
theorem dd_ne (r s : Rat) : ((r.den : Int) * (s.den : Int)) ≠ 0 := Int.mul_ne_zero (den_ne r) (den_ne s)
theorem pow_two_add (a b : Nat) : (2 : Nat) ^ (a + b + 1) = 2 * 2 ^ (a + b) := by
  rw [Nat.pow_succ, Nat.mul_comm]
theorem wl {x y : Int} {a b : Nat} (h : x.natAbs < 2 ^ a) (h2 : y.natAbs < 2 ^ b) : (x * y).natAbs < 2 ^ (a + b) := by
  rw [Int.natAbs_mul, Nat.pow_add]
  exact Nat.mul_lt_mul'' h h2
theorem Bd.mul {a b : Nat} {r s : Rat} (h : Bd a r) (h2 : Bd b s) : Bd (a + b) (r * s) := by
  rw [mul_div]
  exact bd_of (dd_ne r s) (wl h.1 h2.1) (wl h.den h2.den)
theorem Bd.add {a b : Nat} {r s : Rat} (h : Bd a r) (h2 : Bd b s) : Bd (a + b + 1) (r + s) := by
  rw [add_div]
  have e := pow_two_add a b
  have w1 := wl h.1 h2.den
  have w2 := wl h2.1 h.den
  have w3 := wl h.den h2.den
  rw [Nat.add_comm b a] at w2
  have := Int.natAbs_add_le (r.num * (s.den : Int)) (s.num * (r.den : Int))
  exact bd_of (dd_ne r s) (by omega) (by omega)
theorem Bd.sub {a b : Nat} {r s : Rat} (h : Bd a r) (h2 : Bd b s) : Bd (a + b + 1) (r - s) := by
  rw [sub_div]
  have e := pow_two_add a b
  have w1 := wl h.1 h2.den
  have w2 := wl h2.1 h.den
  have w3 := wl h.den h2.den
  rw [Nat.add_comm b a] at w2
  have := Int.natAbs_sub_le (r.num * (s.den : Int)) (s.num * (r.den : Int))
  exact bd_of (dd_ne r s) (by omega) (by omega)
theorem Bd.neg {a : Nat} {r : Rat} (h : Bd a r) : Bd a (-r) := by
  refine ⟨?_, ?_⟩
  · rw [Rat.neg_num, Int.natAbs_neg]
    exact h.1
  · rw [Rat.neg_den]
    exact h.2
theorem bd_zero : Bd 1 0 := ⟨by decide, by decide⟩
theorem bd_one : Bd 1 1 := ⟨by decide, by decide⟩
def pdr (r : Rat) : PyData := pd2 r.num (r.den : Int)
theorem dpr {K : PySem.W.Frag} {H : Hp} {a : Addr} {r : Rat} (h : Fx K H a r) : Dp K H (.ref a) (pdr r) := dp2 h
theorem eqvr (r s : Rat) : PyData.eqv (pdr r) (pdr s) = decide (r = s) := by
  unfold pdr pd2
  simp only [PyData.eqv, PyData.eqvAll, Bool.and_true]
  by_cases h : r = s
  · subst h
    simp
  · rw [decide_eq_false h]
    by_cases h1 : r.num = s.num
    · have h2 : ¬ r.den = s.den := fun z => h (Rat.ext h1 z)
      simp [h1]
      omega
    · simp [h1]
/-- a row of fractions: where each stands, what it is -/
def Rx (K : PySem.W.Frag) (H : Hp) (ws : List (Addr × Rat)) : Prop := ∀ w ∈ ws, Fx K H w.1 w.2
def fr (ws : List (Addr × Rat)) : List V := ws.map fun w => V.ref w.1
theorem Rx.same {K : PySem.W.Frag} {H H' : Hp} {ws : List (Addr × Rat)} (h : Rx K H ws) (s : Same H H') : Rx K H' ws := fun w hw => (h w hw).same s
theorem fr_len (ws : List (Addr × Rat)) : (fr ws).length = ws.length := List.length_map _
theorem fr_get {ws : List (Addr × Rat)} {i : Nat} {v : V} (h : (fr ws)[i]? = some v) : ∃ w, v = .ref w.1 ∧ ws[i]? = some w := by
  rw [show fr ws = ws.map fun w => V.ref w.1 from rfl, List.getElem?_map] at h
  cases e : ws[i]? with
  | none =>
    rw [e] at h
    cases h
  | some w =>
    rw [e] at h
    exact ⟨w, (Option.some.inj h).symm, rfl⟩
theorem fr_at {ws : List (Addr × Rat)} {i : Nat} {r : Rat} (h : (ws.map (·.2))[i]? = some r) : ∃ t, (fr ws)[i]? = some (.ref t) ∧ (t, r) ∈ ws := by
  rw [List.getElem?_map] at h
  cases e : ws[i]? with
  | none =>
    rw [e] at h
    cases h
  | some w =>
    rw [e] at h
    have : w.2 = r := Option.some.inj h
    subst this
    refine ⟨w.1, ?_, List.mem_of_getElem? e⟩
    rw [show fr ws = ws.map fun w => V.ref w.1 from rfl, List.getElem?_map, e]
    rfl
theorem dpAll {K : PySem.W.Frag} {H : Hp} : ∀ {ws : List (Addr × Rat)}, Rx K H ws → DpAll K H (fr ws) ((ws.map (·.2)).map pdr)
  | [], _ => .nil
  | w :: ws, h => .cons (dpr (h w List.mem_cons_self)) (dpAll fun x hx => h x (List.mem_cons_of_mem _ hx))
theorem eqvAllr : ∀ rs ss : List Rat, PyData.eqvAll (rs.map pdr) (ss.map pdr) = decide (rs = ss)
  | [], [] => rfl
  | [], _ :: _ => rfl
  | _ :: _, [] => rfl
  | r :: rs, s :: ss => by
    rw [List.map_cons, List.map_cons, PyData.eqvAll, eqvr, eqvAllr rs ss]
    by_cases h1 : r = s
    · by_cases h2 : rs = ss
      · simp [h1, h2]
      · simp [h1, h2]
    · simp [h1]
theorem shr (rs : List Rat) : PyData.canLayAll0 (rs.map pdr) = true ∧ PyData.depthAll (rs.map pdr) ≤ 1 := by
  induction rs with
  | nil => decide
  | cons r rs ih =>
    rw [List.map_cons, PyData.canLayAll0, PyData.depthAll, ih.1]
    exact ⟨rfl, Nat.max_le.mpr ⟨Nat.le_refl 1, ih.2⟩⟩
theorem shrl (rs : List Rat) : SeqAt.shaped (.list (rs.map pdr)) = true := by
  have h1 := (shr rs).1
  have h2 := (shr rs).2
  unfold SeqAt.shaped
  rw [PyData.canLay0, PyData.depth, h1, decide_eq_true (by omega)]
  rfl
theorem shrt (rs : List Rat) : SeqAt.shaped (.tuple (rs.map pdr)) = true := by
  have h1 := (shr rs).1
  have h2 := (shr rs).2
  unfold SeqAt.shaped
  rw [PyData.canLay0, PyData.depth, h1, decide_eq_true (by omega)]
  rfl
/-- a value along parameters: its base, its slopes -/
def Vx (K : PySem.W.Frag) (H : Hp) (t : Addr) (b : Rat) (ss : List Rat) : Prop := ∃ (p q : Addr) (ws : List (Addr × Rat)), SqT K H t [.ref p, .ref q] ∧ Fx K H p b ∧ SqT K H q (fr ws) ∧ Rx K H ws ∧ ws.map (·.2) = ss
theorem Vx.same {K : PySem.W.Frag} {H H' : Hp} {t : Addr} {b : Rat} {ss : List Rat} (h : Vx K H t b ss) (s : Same H H') : Vx K H' t b ss := by
  obtain ⟨p, q, ws, h1, h2, h3, h4, h5⟩ := h
  exact ⟨p, q, ws, same_tup s h1, h2.same s, same_tup s h3, h4.same s, h5⟩
def pdv (b : Rat) (ss : List Rat) : PyData := .tuple [pdr b, .tuple (ss.map pdr)]
theorem dpv {K : PySem.W.Frag} {H : Hp} {t : Addr} {b : Rat} {ss : List Rat} (h : Vx K H t b ss) : Dp K H (.ref t) (pdv b ss) := by
  obtain ⟨p, q, ws, h1, h2, h3, h4, rfl⟩ := h
  exact .tup h1 (.cons (dpr h2) (.cons (.tup h3 (dpAll h4)) .nil))
theorem eqvv (b c : Rat) (ss us : List Rat) : PyData.eqv (pdv b ss) (pdv c us) = decide (b = c ∧ ss = us) := by
  unfold pdv
  rw [PyData.eqv, PyData.eqvAll, PyData.eqvAll, PyData.eqvAll, eqvr, PyData.eqv, eqvAllr]
  by_cases h1 : b = c
  · by_cases h2 : ss = us
    · simp [h1, h2]
    · simp [h1, h2]
  · simp [h1]
theorem shv (b : Rat) (ss : List Rat) : SeqAt.shaped (pdv b ss) = true := by
  have h1 := (shr ss).1
  have h2 := (shr ss).2
  unfold SeqAt.shaped pdv
  simp only [PyData.canLay0, PyData.canLayAll0, PyData.depth, PyData.depthAll, h1, pdr, pd2]
  simp
  omega
theorem sh1 (r : Rat) : SeqAt.shaped (pdr r) = true := rfl
theorem over_tup {K : PySem.W.Frag} {H H' : Hp} {t D : Addr} {xs ys : List V} (h : SqT K H t xs) (hl : H D = some (.lst ys)) (s : ∀ b o, b ≠ D → H b = some o → H' b = some o) : SqT K H' t xs := by
  rcases h with (h | ⟨ob, h⟩) | h
  · exact .inl (.inl (s _ _ (ne_of h hl (by intro z; cases z)) h))
  · exact .inl (.inr ⟨ob, s _ _ (ne_of h hl (by intro z; cases z)) h⟩)
  · exact .inr h
/-- a comprehension whose elements are fractions: those of L -/
theorem lc_row {K : PySem.W.Frag} {J : It} {n : Nat} {G : Hp → Prop} {Y : Nat → Hp → V → Hp → Prop} (w : Walk J n G Y) (L : List Rat) (hL : L.length = n) (hz : n ≤ 1000)
    {g : TG} {te : TE} {vs : List Nat} {σ : L2.St} {H1 : Hp} {D : Addr} {Qd : Hp → Prop} (hD : H1 D = none) (hG : ∀ H, Same H1 H → G H)
    (hs : ∀ i r x H H' (k : V → Hp → Prop), L[i]? = some r → Same H1 H → Y i H x H' → (∀ t H4, Same H H4 → Fx K H4 t r → k (.ref t) H4) → g x (wipe σ vs) H' fun σ2 H2 => wipe σ2 vs = wipe σ vs ∧ te σ2 H2 k)
    (hd : ∀ H ws, Same H1 H → H D = some (.lst (fr ws)) → Rx K H ws → ws.map (·.2) = L → Qd H) :
    ∃ W : Nat → Nat → Hp → Prop, (∃ m, W 0 m (upd H1 D (.lst []))) ∧ ∀ i m H, W i m H →
      (J.stop i H ∧ Qd H) ∨ (J.go i H ∧ ∃ Nx : Hp → Prop, (∀ H', Nx H' → ∃ m', m' < m ∧ W (i + 1) m' H') ∧ ∀ x H', J.yld i H x H' → g x (wipe σ vs) H' fun σ2 H2 => wipe σ2 vs = wipe σ vs ∧ tYes σ2 H2 fun b H3 =>
        if b = true then te σ2 H3 fun y H4 => ∃ acc, H4 D = some (.lst acc) ∧ acc.length < sizeLine ∧ Nx (upd H4 D (.lst (acc ++ [y]))) else Nx H3) := by
  subst hL
  refine lc_it w (fun i H => Same H1 H ∧ ∃ ws, H D = some (.lst (fr ws)) ∧ Rx K H ws ∧ ws.map (·.2) = L.take i) ⟨same_upd hD, [], upd_same, (fun _ z => nomatch z), rfl⟩ (fun i H _ h => hG H h.1) ?_ ?_
  · rintro i x H H' hi ⟨s1, ws, e1, r1, m1⟩ y
    have hr : L[i]? = some L[i] := List.getElem?_eq_getElem hi
    have q := hs i L[i] x H H' (fun y H4 => ∃ acc, H4 D = some (.lst acc) ∧ acc.length < sizeLine ∧ (fun H => Same H1 H ∧ ∃ ws, H D = some (.lst (fr ws)) ∧ Rx K H ws ∧ ws.map (·.2) = L.take (i + 1)) (upd H4 D (.lst (acc ++ [y])))) hr s1 y (fun t H4 s4 f4 => ?_)
    · refine Eq.mp (congrArg (g x (wipe σ vs) H') ?_) q
      funext σ2 H2
      simp [tYes]
    · have e4 := s4 _ _ e1
      have hlen : ws.length = (L.take i).length := by rw [← m1, List.length_map]
      rw [List.length_take] at hlen
      refine ⟨fr ws, e4, ?_, fun b o e => ?_, ws ++ [(t, L[i])], ?_, fun v hv => ?_, ?_⟩
      · rw [fr_len]
        exact small1000 (by omega)
      · rw [upd_ne (ne_of_none e hD)]
        exact s4 _ _ (s1 _ _ e)
      · rw [upd_same, show fr (ws ++ [(t, L[i])]) = fr ws ++ [.ref t] from List.map_append]
      · rcases List.mem_append.mp hv with h | h
        · exact over_tup ((r1.same s4) v h) e4 fun b o hb e => by rw [upd_ne hb]; exact e
        · rw [List.mem_singleton.mp h]
          exact over_tup f4 e4 fun b o hb e => by rw [upd_ne hb]; exact e
      · rw [List.map_append, m1, List.take_add_one, hr]
        rfl
  · rintro H ⟨s1, ws, e1, r1, m1⟩
    rw [List.take_length] at m1
    exact hd H ws s1 e1 r1 m1
/-- a comprehension whose elements are plain values: those of L -/
theorem lc_val {J : It} {n : Nat} {G : Hp → Prop} {Y : Nat → Hp → V → Hp → Prop} (w : Walk J n G Y) (L : List V) (hL : L.length = n) (hz : n ≤ 1000)
    {g : TG} {te : TE} {vs : List Nat} {σ : L2.St} {H1 : Hp} {D : Addr} {Qd : Hp → Prop} (hD : H1 D = none) (hG : ∀ H, Same H1 H → G H)
    (hs : ∀ i r x H H' (k : V → Hp → Prop), L[i]? = some r → Same H1 H → Y i H x H' → (∀ H4, Same H H4 → k r H4) → g x (wipe σ vs) H' fun σ2 H2 => wipe σ2 vs = wipe σ vs ∧ te σ2 H2 k)
    (hd : ∀ H, Same H1 H → H D = some (.lst L) → Qd H) :
    ∃ W : Nat → Nat → Hp → Prop, (∃ m, W 0 m (upd H1 D (.lst []))) ∧ ∀ i m H, W i m H →
      (J.stop i H ∧ Qd H) ∨ (J.go i H ∧ ∃ Nx : Hp → Prop, (∀ H', Nx H' → ∃ m', m' < m ∧ W (i + 1) m' H') ∧ ∀ x H', J.yld i H x H' → g x (wipe σ vs) H' fun σ2 H2 => wipe σ2 vs = wipe σ vs ∧ tYes σ2 H2 fun b H3 =>
        if b = true then te σ2 H3 fun y H4 => ∃ acc, H4 D = some (.lst acc) ∧ acc.length < sizeLine ∧ Nx (upd H4 D (.lst (acc ++ [y]))) else Nx H3) := by
  subst hL
  refine lc_it w (fun i H => Same H1 H ∧ H D = some (.lst (L.take i))) ⟨same_upd hD, upd_same⟩ (fun i H _ h => hG H h.1) ?_ ?_
  · rintro i x H H' hi ⟨s1, e1⟩ y
    have hr : L[i]? = some L[i] := List.getElem?_eq_getElem hi
    have q := hs i L[i] x H H' (fun y H4 => ∃ acc, H4 D = some (.lst acc) ∧ acc.length < sizeLine ∧ (fun H => Same H1 H ∧ H D = some (.lst (L.take (i + 1)))) (upd H4 D (.lst (acc ++ [y])))) hr s1 y (fun H4 s4 => ?_)
    · refine Eq.mp (congrArg (g x (wipe σ vs) H') ?_) q
      funext σ2 H2
      simp [tYes]
    · have e4 := s4 _ _ e1
      refine ⟨L.take i, e4, ?_, fun b o e => ?_, ?_⟩
      · rw [List.length_take]
        exact small1000 (by omega)
      · rw [upd_ne (ne_of_none e hD)]
        exact s4 _ _ (s1 _ _ e)
      · rw [upd_same, List.take_add_one, hr]
        rfl
  · rintro H ⟨s1, e1⟩
    rw [List.take_length] at e1
    exact hd H s1 e1
def sumR (l : List Rat) : Rat := l.foldl (· + ·) 0
theorem foldl_sum (b : Rat) (l : List Rat) : l.foldl (· + ·) b = b + sumR l := by
  unfold sumR
  induction l generalizing b with
  | nil => exact (Rat.add_zero b).symm
  | cons x l ih =>
    rw [List.foldl_cons, List.foldl_cons, ih, ih (0 + x)]
    grind
theorem sum_bd {n : Nat} {l : List Rat} (h : ∀ r ∈ l, Bd n r) : ∀ i ≤ l.length, Bd (1 + (n + 1) * i) (sumR (l.take i)) := by
  intro i
  induction i with
  | zero =>
    intro _
    exact bd_zero
  | succ i ih =>
    intro hi
    have e : l[i]? = some l[i] := List.getElem?_eq_getElem (by omega)
    have b1 := ih (by omega)
    have b2 := h l[i] (List.getElem_mem _)
    have e2 : sumR (l.take (i + 1)) = sumR (l.take i) + l[i] := by
      unfold sumR
      rw [List.take_add_one, e, List.foldl_append]
      rfl
    rw [e2]
    refine (b1.add b2).up ?_
    rw [Nat.mul_succ]
    omega

section
open PySem PySem.Spec PyProof.Rows
/-- a tuple, once: itself -/
theorem mul_once (l : Addr) (its : Array Value) (n : Nat) (dt : Option Addr) (sl : Array (Option Value)) (u : Tok) :
    Meets (Builtin.«tuple.__mul__» ⟨[.ref l, .int 1 u], []⟩) (fun _ R s => s.heap.get? l = some { cls := .type "tuple", dict := dt, data := .seq its n, slots := sl } ∧ R (.ok (.ret (Value.ref l))) s) :=
  .of_wp fun prog w A R s h => by
    obtain ⟨hp, g, dw, tk, os⟩ := s; obtain ⟨hl, h⟩ := h
    have ix := AutoSeq1.idx_int
    wp_walk using wpAny_loadPart' hl
    exact ⟨_, rfl, h⟩
/-- a tuple, no times: an empty one -/
theorem mul_none (l : Addr) (its : Array Value) (n : Nat) (dt : Option Addr) (sl : Array (Option Value)) (u : Tok) (hi : its.isEmpty = false) :
    Meets (Builtin.«tuple.__mul__» ⟨[.ref l, .int 0 u], []⟩) (fun _ R s => s.heap.get? l = some { cls := .type "tuple", dict := dt, data := .seq its n, slots := sl } ∧
      R (.ok (.ret (Value.ref s.heap.objs.size))) { s with heap := s.heap.push { cls := Value.type "tuple", data := Data.seq #[] }, toks := s.toks }) :=
  .of_wp fun prog w A R s h => by
    obtain ⟨hp, g, dw, tk, os⟩ := s; obtain ⟨hl, h⟩ := h
    have ix := AutoSeq1.idx_int
    have c1 : (its.isEmpty || (0 : Int) == 1) = false := by rw [hi]; rfl
    wp_walk using wpAny_loadPart' hl
    repeat (first
      | (refine wpAny_ite_false (decide_eq_false (by rw [c1]; exact Bool.false_ne_true)) ?_; wp_walk using wpAny_loadPart' hl))
    exact ⟨_, rfl, h⟩
section
variable {X : Cx}
theorem op_mulOnce : OpR X (binaryOp .Mult) (fun x y H Q => ∃ l xs, x = .ref l ∧ y = .int 1 ∧ SqT X.K H l xs ∧ Q (.ref l) H) := by
  intro pins s σ H x y v u Q I rx ry hh
  obtain ⟨l, xs, rfl, rfl, hT, q⟩ := hh
  obtain rfl : v = .ref l := rx
  obtain ⟨tk1, rfl⟩ := ry
  obtain ⟨its, r, ⟨⟨kl, dt, da, sl⟩, ho, hc, n, hd⟩, _⟩ := I.tuple hT
  dsimp only at hc hd; subst hc hd
  exact wpAny_binaryOp_repeat_ref (T := "tuple") (U := "int") (by decide) ⟨_, ho, rfl⟩ (fun s' => typeIs_int s' 1 tk1) noFill_tuple_mul F.fills_int_mul F.slot_int_rmul repeat_tuple F.slot_int_index.lookup
    (call_meets F.slot_int_rmul (typeIs_int s 1 tk1) F.entry_int_rmul (F.args_int_rmul_2 _ _) (int_rmul_tuple 1 tk1 l its.toArray n dt sl)
      ⟨ho, rfl, ⟨_, ho, rfl⟩, call_meets F.slot_tuple_mul ⟨_, ho, rfl⟩ F.entry_tuple_mul (F.args_tuple_mul_2 _ _) (mul_once l its.toArray n dt sl tk1) ⟨ho, ⟨.ref l, H, I, rfl, q⟩⟩⟩)
theorem op_mulNone : OpR X (binaryOp .Mult) (fun x y H Q => ∃ l xs, x = .ref l ∧ y = .int 0 ∧ SqT X.K H l xs ∧ xs ≠ [] ∧ ∀ p, H p = none → Q (.ref p) (upd H p (.tup []))) := by
  intro pins s σ H x y v u Q I rx ry hh
  obtain ⟨l, xs, rfl, rfl, hT, hne, q⟩ := hh
  obtain rfl : v = .ref l := rx
  obtain ⟨tk1, rfl⟩ := ry
  obtain ⟨its, r, ⟨⟨kl, dt, da, sl⟩, ho, hc, n, hd⟩, _⟩ := I.tuple hT
  dsimp only at hc hd; subst hc hd
  have hi : its.toArray.isEmpty = false := by
    cases r with
    | nil => exact absurd rfl hne
    | cons _ _ => rfl
  exact wpAny_binaryOp_repeat_ref (T := "tuple") (U := "int") (by decide) ⟨_, ho, rfl⟩ (fun s' => typeIs_int s' 0 tk1) noFill_tuple_mul F.fills_int_mul F.slot_int_rmul repeat_tuple F.slot_int_index.lookup
    (call_meets F.slot_int_rmul (typeIs_int s 0 tk1) F.entry_int_rmul (F.args_int_rmul_2 _ _) (int_rmul_tuple 0 tk1 l its.toArray n dt sl)
      ⟨ho, rfl, ⟨_, ho, rfl⟩, call_meets F.slot_tuple_mul ⟨_, ho, rfl⟩ F.entry_tuple_mul (F.args_tuple_mul_2 _ _) (mul_none l its.toArray n dt sl tk1 hi) ⟨ho,
        ⟨.ref s.heap.objs.size, _, I.laid (t' := s.toks) (o := .tup []) (fun b ob e => Heap.get?_push_of_some _ e) (Nat.le_refl _) ⟨by show 0 ≤ sizeLine; decide, [], .nil, IsTup.new _ _⟩, rfl, q _ (I.hok.fresh (Nat.le_refl _))⟩⟩⟩)
end
end

def Bz (n : Nat) (x : Int) : Prop := x.natAbs < 2 ^ n
theorem Bz.up {n m : Nat} {x : Int} (h : Bz n x) (hm : n ≤ m) : Bz m x := Nat.lt_of_lt_of_le h (Nat.pow_le_pow_right (by decide) hm)
theorem Bz.mul {n m : Nat} {x y : Int} (h : Bz n x) (h2 : Bz m y) : Bz (n + m) (x * y) := wide_lt h h2
theorem Bz.neg {n : Nat} {x : Int} (h : Bz n x) : Bz n (-x) := by
  unfold Bz
  rw [Int.natAbs_neg]
  exact h
theorem Bz.add {n m : Nat} {x y : Int} (h : Bz n x) (h2 : Bz m y) : Bz (max n m + 1) (x + y) := by
  have a1 := h.up (Nat.le_max_left n m)
  have a2 := h2.up (Nat.le_max_right n m)
  unfold Bz at *
  rw [Nat.pow_succ]
  have := Int.natAbs_add_le x y
  omega
theorem Bz.sub {n m : Nat} {x y : Int} (h : Bz n x) (h2 : Bz m y) : Bz (max n m + 1) (x - y) := h.add h2.neg
theorem Bz.wide {n m : Nat} {x y : Int} (h : Bz n x) (h2 : Bz m y) (hn : n + m ≤ 900000) : CMulW x y :=
  wide_mul (h.up (Nat.le_succ n)) (h2.up (Nat.le_succ m)) (Nat.succ_pos _) (Nat.succ_pos _) (by omega)
theorem Bd.nz {n : Nat} {r : Rat} (h : Bd n r) : Bz n r.num := h.1
theorem Bd.dz {n : Nat} {r : Rat} (h : Bd n r) : Bz n (r.den : Int) := h.2
theorem bz_of {n : Nat} {x : Int} (h : x.natAbs < 2 ^ n) : Bz n x := h
theorem bz_lt {n : Nat} {x : Int} {b : Nat} (hb : b ≤ 2 ^ n) (h : x.natAbs < b) : Bz n x := Nat.lt_of_lt_of_le h hb
theorem bd_div {n d : Int} {k : Nat} (hd : d ≠ 0) (h1 : Bz k n) (h2 : Bz k d) : Bd k (Rat.divInt n d) := bd_of hd h1 h2
theorem tn {n : Nat} (h : Nat.ble n 1000 = true) : n ≤ sizeLine := Nat.le_trans (Nat.le_of_ble_eq_true h) (by decide)
theorem same_hu {H H' : Hp} {p : Addr} {o : HO} (h : upd H p o = H') (n : H p = none) : Same H H' := h ▸ same_upd n
theorem at_hu {H H' : Hp} {p : Addr} {o : HO} (h : upd H p o = H') : H' p = some o := h ▸ upd_same
theorem same_tr {H H1 H2 : Hp} (h2 : Same H1 H2) (h1 : Same H H1) : Same H H2 := h1.trans h2
theorem fx_up {K : PySem.W.Frag} {H H' : Hp} {a : Addr} {r : Rat} (s : Same H H') (h : Fx K H a r) : Fx K H' a r := h.same s
theorem vx_up {K : PySem.W.Frag} {H H' : Hp} {a : Addr} {r : Rat} {ss : List Rat} (s : Same H H') (h : Vx K H a r ss) : Vx K H' a r ss := h.same s
theorem seq_up {K : PySem.W.Frag} {H H' : Hp} {a : Addr} {xs : List V} (s : Same H H') (h : SqL K H a xs) : SqL K H' a xs := s.seq h
local macro_rules | `(tactic| walk_at "ss") => `(tactic| first | exact Same.refl _ | assumption | exact same_tr (by assumption) (by walk_at "ss"))
local macro_rules | `(tactic| walk_at "bz") => `(tactic| first | assumption | exact Bd.nz (by assumption) | exact Bd.dz (by assumption) | exact Bz.mul (by walk_at "bz") (by walk_at "bz") | exact Bz.add (by walk_at "bz") (by walk_at "bz") | exact Bz.sub (by walk_at "bz") (by walk_at "bz") | exact Bz.neg (by walk_at "bz") | exact bz_of (n := 1) (by decide) | exact bz_of (n := 4) (by decide)| exact bz_of (n := 8) (by decide)| exact bz_of (n := 20) (by decide))
local macro_rules | `(tactic| walk_at "sm0") => `(tactic| assumption)
local macro_rules | `(tactic| walk_at "sm1") => `(tactic| first | assumption | exact same_tup (by assumption) (by walk_at "sm0"))
local macro_rules | `(tactic| walk_at "sm2") => `(tactic| first | assumption | exact same_tup (by assumption) (by walk_at "sm1"))
local macro_rules | `(tactic| walk_at "sm3") => `(tactic| first | assumption | exact same_tup (by assumption) (by walk_at "sm2"))
local macro_rules | `(tactic| walk_at "sm4") => `(tactic| first | assumption | exact same_tup (by assumption) (by walk_at "sm3"))
local macro_rules | `(tactic| walk_at "sm5") => `(tactic| first | assumption | exact same_tup (by assumption) (by walk_at "sm4"))
local macro_rules | `(tactic| walk_at "sm6") => `(tactic| first | assumption | exact same_tup (by assumption) (by walk_at "sm5"))
local macro_rules | `(tactic| walk_at "sm7") => `(tactic| first | assumption | exact same_tup (by assumption) (by walk_at "sm6"))
local macro_rules | `(tactic| walk_at "sm") => `(tactic| walk_at "sm7")
local macro_rules | `(tactic| walk_at "sf0") => `(tactic| assumption)
local macro_rules | `(tactic| walk_at "sf1") => `(tactic| first | assumption | exact fx_up (by assumption) (by walk_at "sf0") | exact vx_up (by assumption) (by walk_at "sf0") | exact seq_up (by assumption) (by walk_at "sf0"))
local macro_rules | `(tactic| walk_at "sf2") => `(tactic| first | assumption | exact fx_up (by assumption) (by walk_at "sf1") | exact vx_up (by assumption) (by walk_at "sf1") | exact seq_up (by assumption) (by walk_at "sf1"))
local macro_rules | `(tactic| walk_at "sf3") => `(tactic| first | assumption | exact fx_up (by assumption) (by walk_at "sf2") | exact vx_up (by assumption) (by walk_at "sf2") | exact seq_up (by assumption) (by walk_at "sf2"))
local macro_rules | `(tactic| walk_at "sf4") => `(tactic| first | assumption | exact fx_up (by assumption) (by walk_at "sf3") | exact vx_up (by assumption) (by walk_at "sf3") | exact seq_up (by assumption) (by walk_at "sf3"))
local macro_rules | `(tactic| walk_at "sf5") => `(tactic| first | assumption | exact fx_up (by assumption) (by walk_at "sf4") | exact vx_up (by assumption) (by walk_at "sf4") | exact seq_up (by assumption) (by walk_at "sf4"))
local macro_rules | `(tactic| walk_at "sf6") => `(tactic| first | assumption | exact fx_up (by assumption) (by walk_at "sf5") | exact vx_up (by assumption) (by walk_at "sf5") | exact seq_up (by assumption) (by walk_at "sf5"))
local macro_rules | `(tactic| walk_at "sf7") => `(tactic| first | assumption | exact fx_up (by assumption) (by walk_at "sf6") | exact vx_up (by assumption) (by walk_at "sf6") | exact seq_up (by assumption) (by walk_at "sf6"))
local macro_rules | `(tactic| walk_at "sf") => `(tactic| walk_at "sf7")
local macro_rules | `(tactic| walk_at "go") => `(tactic| repeat (first | refine ⟨_, rfl, ?_⟩ | refine ⟨rfl, ?_⟩ | refine ⟨_, _, rfl, rfl, ?_⟩ | refine ⟨Bz.wide (by walk_at "bz") (by walk_at "bz") (by decide), ?_⟩ | refine ⟨_, _, _, _, rfl, rfl, (by walk_at "sm"), atI_nat (j := 0) (by rfl), ?_⟩ | refine ⟨_, _, _, _, rfl, rfl, (by walk_at "sm"), atI_nat (j := 1) (by rfl), ?_⟩ | refine ⟨_, _, _, _, rfl, rfl, (by walk_at "sm"), atI_nat (j := 2) (by rfl), ?_⟩ | refine ⟨_, _, _, _, rfl, rfl, (by walk_at "sm"), atI_nat (j := 3) (by rfl), ?_⟩ | refine ⟨_, _, rfl, (by walk_at "sm"), (by rfl), ?_⟩ | refine ⟨⟨by decide, by decide⟩, ?_⟩ | refine ⟨(by show (0 : Int) < _; decide), ?_⟩ | refine ⟨Or.inr ⟨by decide, by decide⟩, ?_⟩ | refine ⟨Or.inl ⟨by decide, by decide⟩, ?_⟩ | refine Or.inl ⟨_, rfl, ?_⟩ | refine And.intro (by assumption) ?_ | refine ⟨_, _, rfl, ?_⟩))
/-- a comprehension whose elements are things of a kind R that stands while nothing but the new list changes -/
theorem lc_obj {J : It} {n : Nat} {G : Hp → Prop} {Y : Nat → Hp → V → Hp → Prop} (w : Walk J n G Y) (R : Nat → Hp → V → Prop)
    (stab : ∀ {i H H' v D acc}, R i H v → H D = some (.lst acc) → (∀ b o, b ≠ D → H b = some o → H' b = some o) → R i H' v) (hz : n ≤ 1000)
    {g : TG} {te : TE} {vs : List Nat} {σ : L2.St} {H1 : Hp} {D : Addr} {Qd : Hp → Prop} (hD : H1 D = none) (hG : ∀ H, Same H1 H → G H)
    (hs : ∀ i x H H' (k : V → Hp → Prop), i < n → Same H1 H → Y i H x H' → (∀ v H4, Same H H4 → R i H4 v → k v H4) → g x (wipe σ vs) H' fun σ2 H2 => wipe σ2 vs = wipe σ vs ∧ te σ2 H2 k)
    (hd : ∀ H us, Same H1 H → H D = some (.lst us) → us.length = n → (∀ i v, us[i]? = some v → R i H v) → Qd H) :
    ∃ W : Nat → Nat → Hp → Prop, (∃ m, W 0 m (upd H1 D (.lst []))) ∧ ∀ i m H, W i m H →
      (J.stop i H ∧ Qd H) ∨ (J.go i H ∧ ∃ Nx : Hp → Prop, (∀ H', Nx H' → ∃ m', m' < m ∧ W (i + 1) m' H') ∧ ∀ x H', J.yld i H x H' → g x (wipe σ vs) H' fun σ2 H2 => wipe σ2 vs = wipe σ vs ∧ tYes σ2 H2 fun b H3 =>
        if b = true then te σ2 H3 fun y H4 => ∃ acc, H4 D = some (.lst acc) ∧ acc.length < sizeLine ∧ Nx (upd H4 D (.lst (acc ++ [y]))) else Nx H3) := by
  refine lc_it w (fun i H => Same H1 H ∧ ∃ us, H D = some (.lst us) ∧ us.length = i ∧ ∀ j v, us[j]? = some v → R j H v) ⟨same_upd hD, [], upd_same, rfl, (fun j v h => by simp at h)⟩ (fun i H _ h => hG H h.1) ?_ ?_
  · rintro i x H H' hi ⟨s1, us, e1, l1, r1⟩ y
    have q := hs i x H H' (fun y H4 => ∃ acc, H4 D = some (.lst acc) ∧ acc.length < sizeLine ∧ (fun H => Same H1 H ∧ ∃ us, H D = some (.lst us) ∧ us.length = i + 1 ∧ ∀ j v, us[j]? = some v → R j H v) (upd H4 D (.lst (acc ++ [y])))) hi s1 y (fun v H4 s4 f4 => ?_)
    · refine Eq.mp (congrArg (g x (wipe σ vs) H') ?_) q
      funext σ2 H2
      simp [tYes]
    · have e4 := s4 _ _ e1
      refine ⟨us, e4, small1000 (by omega), fun b o e => ?_, us ++ [v], upd_same, by rw [List.length_append, l1]; rfl, fun j u hu => ?_⟩
      · rw [upd_ne (ne_of_none e hD)]
        exact s4 _ _ (s1 _ _ e)
      · by_cases hj : j < i
        · rw [List.getElem?_append_left (by omega)] at hu
          have hf := stab (r1 j u hu) e1 (fun b o _ e => s4 b o e)
          exact stab hf e4 fun b o hb e => by rw [upd_ne hb]; exact e
        · have hj2 : j < (us ++ [v]).length := (List.getElem?_eq_some_iff.mp hu).1
          rw [List.length_append, l1] at hj2
          have hj3 : j = i := by
            simp at hj2
            omega
          subst hj3
          rw [List.getElem?_append_right (by omega), l1, Nat.sub_self] at hu
          obtain rfl : v = u := Option.some.inj hu
          exact stab f4 e4 fun b o hb e => by rw [upd_ne hb]; exact e
  · rintro H ⟨s1, us, e1, l1, r1⟩
    exact hd H us s1 e1 l1 r1
theorem over_fx {K : PySem.W.Frag} {H H' : Hp} {t D : Addr} {r : Rat} {ys : List V} (h : Fx K H t r) (hl : H D = some (.lst ys)) (s : ∀ b o, b ≠ D → H b = some o → H' b = some o) : Fx K H' t r := over_tup h hl s
theorem over_vx {K : PySem.W.Frag} {H H' : Hp} {t D : Addr} {b : Rat} {ss : List Rat} {ys : List V} (h : Vx K H t b ss) (hl : H D = some (.lst ys)) (s : ∀ b o, b ≠ D → H b = some o → H' b = some o) : Vx K H' t b ss := by
  obtain ⟨p, q, ws, h1, h2, h3, h4, h5⟩ := h
  exact ⟨p, q, ws, over_tup h1 hl s, over_tup h2 hl s, over_tup h3 hl s, fun w hw => over_tup (h4 w hw) hl s, h5⟩

theorem zw_get {xs us : List Rat} {i : Nat} (h : i < xs.length) (h2 : i < us.length) : (List.zipWith (fun r s => r * s) xs us)[i]? = some (xs[i] * us[i]) := by
  rw [List.getElem?_zipWith, List.getElem?_eq_getElem h, List.getElem?_eq_getElem h2]
theorem zw_bd {n : Nat} {xs us : List Rat} (h1 : ∀ r ∈ xs, Bd n r) (h2 : ∀ r ∈ us, Bd n r) : ∀ r ∈ List.zipWith (fun r s => r * s) xs us, Bd (n + n) r := by
  induction xs generalizing us with
  | nil =>
    intro r hr
    cases us <;> cases hr
  | cons x xs ih =>
    cases us with
    | nil =>
      intro r hr
      cases hr
    | cons u us =>
      intro r hr
      rw [List.zipWith_cons_cons] at hr
      rcases List.mem_cons.mp hr with rfl | h
      · exact (h1 x List.mem_cons_self).mul (h2 u List.mem_cons_self)
      · exact ih (fun r hr => h1 r (List.mem_cons_of_mem _ hr)) (fun r hr => h2 r (List.mem_cons_of_mem _ hr)) r h
theorem take_sum {l : List Rat} {i : Nat} {r : Rat} (h : l[i]? = some r) : sumR (l.take (i + 1)) = sumR (l.take i) + r := by
  unfold sumR
  rw [List.take_add_one, h, List.foldl_append]
  rfl
theorem eqvv_self (b : Rat) (ss : List Rat) : PyData.eqv (pdv b ss) (pdv b ss) = true := by
  rw [eqvv]
  exact decide_eq_true ⟨rfl, rfl⟩
theorem eqvr_self (b : Rat) : PyData.eqv (pdr b) (pdr b) = true := by
  rw [eqvr]
  exact decide_eq_true rfl
theorem eqvl_self (ss : List Rat) : PyData.eqv (.list (ss.map pdr)) (.list (ss.map pdr)) = true := by
  rw [PyData.eqv, eqvAllr]
  exact decide_eq_true rfl
theorem zw_some {op : Rat → Rat → Rat} {xs ys : List Rat} {i : Nat} {c : Rat} (h : (List.zipWith op xs ys)[i]? = some c) : ∃ x y, xs[i]? = some x ∧ ys[i]? = some y ∧ op x y = c := by
  rw [List.getElem?_zipWith] at h
  cases e1 : xs[i]? with
  | none =>
    rw [e1] at h
    cases h
  | some x =>
    cases e2 : ys[i]? with
    | none =>
      rw [e1, e2] at h
      cases h
    | some y =>
      rw [e1, e2] at h
      exact ⟨x, y, rfl, rfl, Option.some.inj h⟩
theorem sum_cons (x : Rat) (l : List Rat) : sumR (x :: l) = x + sumR l := by
  show (x :: l).foldl (· + ·) 0 = _
  rw [List.foldl_cons, foldl_sum, Rat.zero_add]
theorem zw_add (us : List Rat) : ∀ {xs ys : List Rat}, xs.length = us.length → ys.length = us.length → sumR (List.zipWith (fun r s => r * s) (List.zipWith (fun r s => r + s) xs ys) us) = sumR (List.zipWith (fun r s => r * s) xs us) + sumR (List.zipWith (fun r s => r * s) ys us) := by
  induction us with
  | nil =>
    intro xs ys h1 h2
    rw [List.zipWith_nil_right, List.zipWith_nil_right, List.zipWith_nil_right]
    exact (Rat.add_zero 0).symm
  | cons u us ih =>
    intro xs ys h1 h2
    cases xs with
    | nil => cases h1
    | cons x xs =>
      cases ys with
      | nil => cases h2
      | cons y ys =>
        rw [List.zipWith_cons_cons, List.zipWith_cons_cons, List.zipWith_cons_cons, List.zipWith_cons_cons, sum_cons, sum_cons, sum_cons, ih (by simpa using h1) (by simpa using h2)]
        grind
theorem zw_sub (xs ys : List Rat) : List.zipWith (fun r s => r + s) xs (ys.map fun y => -1 * y) = List.zipWith (fun r s => r - s) xs ys := by
  rw [List.zipWith_map_right]
  congr 1
  funext r s
  grind
theorem neg_map (ys : List Rat) : (ys.map fun y => -1 * y) = ys.map fun y => -y := by
  congr 1
  funext y
  grind
theorem ind_sum : ∀ (us : List Rat) (m : Nat) (f : Nat → Rat), (∀ i, i ≠ m → f i = 0) → f m = 1 → ∀ u, us[m]? = some u → sumR (List.zipWith (fun r s => r * s) ((List.range us.length).map f) us) = u := by
  have hz : ∀ (us : List Rat) (f : Nat → Rat), (∀ i, f i = 0) → sumR (List.zipWith (fun r s => r * s) ((List.range us.length).map f) us) = 0 := by
    intro us
    induction us with
    | nil => intro f _; rfl
    | cons u us ih =>
      intro f hf
      rw [List.length_cons, List.range_succ_eq_map, List.map_cons, List.zipWith_cons_cons, sum_cons, List.map_map, hf 0]
      rw [show (f ∘ Nat.succ) = fun i => f (i + 1) from rfl, ih (fun i => f (i + 1)) (fun i => hf (i + 1))]
      grind
  intro us
  induction us with
  | nil =>
    intro m f _ _ u h
    cases h
  | cons v us ih =>
    intro m f hf hm u h
    rw [List.length_cons, List.range_succ_eq_map, List.map_cons, List.zipWith_cons_cons, sum_cons, List.map_map, show (f ∘ Nat.succ) = fun i => f (i + 1) from rfl]
    cases m with
    | zero =>
      obtain rfl : v = u := Option.some.inj h
      rw [hm, hz us (fun i => f (i + 1)) (fun i => hf (i + 1) (by omega))]
      grind
    | succ m =>
      rw [ih m (fun i => f (i + 1)) (fun i hi => hf (i + 1) (by omega)) hm u h, hf 0 (by omega)]
      grind
theorem all_rep {xs : List Rat} {n : Nat} (h : xs.length = n) (x : Rat) : (decide (x = 0) && xs.all fun y => decide (y = 0)) = decide (x = 0 ∧ xs = List.replicate n 0) := by
  have e : (xs.all fun y => decide (y = 0)) = decide (xs = List.replicate n 0) := by
    rw [Bool.eq_iff_iff, List.all_eq_true, decide_eq_true_iff, List.eq_replicate_iff]
    constructor
    · exact fun g => ⟨h, fun b hb => of_decide_eq_true (g b hb)⟩
    · exact fun g b hb => decide_eq_true (g.2 b hb)
  rw [e]
  by_cases h1 : x = 0
  · by_cases h2 : xs = List.replicate n 0
    · simp [h1, h2]
    · simp [h1, h2]
  · simp [h1]
theorem at_bd {x : Rat} {xs us : List Rat} (bx : Bd 30 x) (h1 : ∀ r ∈ xs, Bd 30 r) (h2 : ∀ r ∈ us, Bd 30 r) (hl : xs.length ≤ 9) : Bd 800 (x + sumR (List.zipWith (fun r s => r * s) xs us)) := by
  have b := sum_bd (zw_bd h1 h2) _ (Nat.le_refl _)
  rw [List.take_length] at b
  exact (bx.add b).up (by rw [List.length_zipWith]; omega)
theorem fx_lit {K : PySem.W.Frag} {H : Hp} {a : Addr} {r : Rat} {p q : Int} (h : H a = some (.tup [.int p, .int q])) (h1 : r.num = p) (h2 : (r.den : Int) = q) : Fx K H a r := by
  subst h1 h2
  exact SqT.of h
theorem eqvbb (a b : Bool) : PyData.eqv (.bool a) (.bool b) = (a == b) := by simp [PyData.eqv]


section
variable {P : Program} {w : World} {K : PySem.W.Frag} {mg : Str → Option Value} {base : Heap}
def spFraction (K : PySem.W.Frag) (CNought : Addr) : Sp := fun vs H Q E => ∃ n d : Int, vs = [.int n, .int d] ∧ Bz 2000 d ∧ (d = 0 → E (.ref CNought) none H) ∧ (d ≠ 0 → ∀ (H' : Hp) (t : Addr), Same H H' → Fx K H' t (Rat.divInt n d) → Q (.ref t) H')
theorem okFraction {fFraction : Addr} {fdFraction : FuncData} (F : FunD K "fraction" "fraction" (defArgs sFraction) (defBody sFraction) (defScope sFraction) [.int 1] [] fFraction fdFraction) (T : Txt mg) {aZERO : Addr} (CT : Cons K mg aZERO) {CPartError CNought : Addr} (EX : Exns K mg CPartError CNought) :
    FnOk P w K mg base (L2.CX P w) 1 fFraction fdFraction ["number", "divisor"] (spFraction K CNought) := by
  refine F.ok scFraction (fun vs H Q E h => ?_) (fun cdv A outer s H vs Q E hr h => ?_)
  · obtain ⟨n, d, rfl, hb, he, q⟩ := h
    rfl
  · obtain ⟨n, d, rfl, hb, he, q⟩ := h
    refine ⟨_, (pss_cons (ps_if (pt_cmpR op_eq (pv 1) pe_int (nomark _))
        (pss_one (ps_ret (pe_tup (pa_cons (pv 0) (pa_cons pe_int pa_nil)))))
        pss_nil)
      (pss_cons (ps_if (pt_cmpR op_eq (pv 1) pe_int (nomark _))
        (pss_one (ps_raise rfl (takes_of rfl rfl rfl rfl) (pmk_own PySem.F.excBase_ValueError EX.xNought EX.gNought EX.kNought (raises_own EX.bNought EX.tNought) rfl)))
        pss_nil)
      (pss_cons (ps_set (i := 2) scFraction.nd rfl (Or.inl rfl) (pe_callBfun cr_gcd (by rfl) T.gcd (pa_cons (pv 0) (pa_cons (pv 1) pa_nil))))
      (C8.pss_cut (ps_if (pt_cmpR op_lt (pv 1) pe_int (nomark _))
        (pss_one (ps_set (i := 2) scFraction.nd rfl (Or.inl rfl) (pe_un un_neg (pv 2))))
        pss_nil)
      (pss_one (ps_ret (pe_tup (pa_cons (pe_op op_fdivX (pv 0) (pv 2)) (pa_cons (pe_op op_fdivX (pv 1) (pv 2)) pa_nil))))))))), ?_⟩
    walk_at "rd"
    refine ite2 (fun g1 => ?_) (fun g1 => ?_)
    · obtain rfl : d = 1 := eq_of_dec g1
      refine ⟨_, rfl, by show 2 ≤ sizeLine; decide, fun t ht => ?_⟩
      exact q (by decide) _ t (same_upd ht) (fx_rd (by decide) (by unfold rd2; rw [rd_one]; exact upd_same))
    walk_at "rd"
    refine ite2 (fun g => ?_) (fun g => ?_)
    · exact he (eq_of_dec g)
    · have hd := ne_of_nodec g
      refine ⟨_, rfl, _, rfl, n, d, rfl, ?_⟩
      refine ⟨fun σ' H' => σ' = [some (.int n), some (.int d), some (.int (sg n d))] ∧ H' = H, ?_, ?_⟩
      · walk_at "rd"
        refine ite2 (fun g2 => ?_) (fun g2 => ?_)
        · refine ⟨_, rfl, _, rfl, ?_, rfl⟩
          unfold sg
          rw [if_pos (of_decide_eq_true g2)]
          rfl
        · refine ⟨?_, rfl⟩
          unfold sg
          rw [if_neg (fun z => g2 (decide_eq_true z))]
          rfl
      · rintro σ' H' ⟨rfl, rfl⟩
        have hs := sg_ne (n := n) hd
        have hsb : (sg n d).natAbs < 2 ^ 2000 := by
          rw [sg_abs]
          exact Nat.lt_of_le_of_lt (Nat.le_of_dvd (by omega) (Nat.gcd_dvd_right _ _)) hb
        refine ⟨_, rfl, _, rfl, _, _, rfl, rfl, wide_divx hs hsb (by decide) (by decide), _, rfl, _, rfl, _, _, rfl, rfl, wide_divx hs hsb (by decide) (by decide), by show 2 ≤ sizeLine; decide, fun t ht => ?_⟩
        exact q hd _ t (same_upd ht) (fx_rd hd upd_same)
def spR2 (K : PySem.W.Frag) (op : Rat → Rat → Rat) : Sp := fun vs H Q _ => ∃ (a b : Addr) (r s : Rat), vs = [.ref a, .ref b] ∧ Fx K H a r ∧ Fx K H b s ∧ Bd 800 r ∧ Bd 800 s ∧
  ∀ (H' : Hp) (t : Addr), Same H H' → Fx K H' t (op r s) → Q (.ref t) H'
def spPlus (K : PySem.W.Frag) : Sp := spR2 K (fun r s => r + s)
theorem okPlus {fPlus : Addr} {fdPlus : FuncData} (F : Fun K "plus" "plus" sPlus fPlus fdPlus) (T : Txt mg) {aZERO : Addr} (CT : Cons K mg aZERO) {CPartError CNought : Addr} (EX : Exns K mg CPartError CNought)
    {fFraction : Addr} {fdFraction : FuncData} (GFraction : FnOk P w K mg base (L2.CX P w) 1 fFraction fdFraction ["number", "divisor"] (spFraction K CNought)) (gFraction : mg "fraction" = some (.ref fFraction)) (kpFraction : PySem.W.keepIn K (.ref fFraction) = true) (bFraction : Binds K fdFraction ["number", "divisor"] []) {dsFraction : List Value} (vdFraction : Vals [.int 1] dsFraction) (bdFraction : Binds K fdFraction ["number", "divisor"] dsFraction) :
    FnOk P w K mg base CX0 2 fPlus fdPlus ["a", "b"] (spPlus K) := by
  refine F.ok scPlus (fun vs H Q E h => ?_) (fun cdv A outer s H vs Q E hr h => ?_)
  · obtain ⟨a, b, r, s, rfl, hA, hB, hr1, hs1, k⟩ := h
    rfl
  · obtain ⟨a, b, r, s, rfl, hA, hB, hr1, hs1, k⟩ := h
    refine ⟨_, (pss_one (ps_ret (pe_call GFraction hr (by rfl) gFraction kpFraction bFraction .nil passL (pa_cons (pe_op op_add (pe_op op_mulW (pe_ix ix_tup (pv 0) pe_int (fun _ _ => rfl)) (pe_ix ix_tup (pv 1) pe_int (fun _ _ => rfl))) (pe_op op_mulW (pe_ix ix_tup (pv 1) pe_int (fun _ _ => rfl)) (pe_ix ix_tup (pv 0) pe_int (fun _ _ => rfl)))) (pa_cons (pe_op op_mulW (pe_ix ix_tup (pv 0) pe_int (fun _ _ => rfl)) (pe_ix ix_tup (pv 1) pe_int (fun _ _ => rfl))) pa_nil))))), ?_⟩
    walk_at "go"
    exact ⟨Bz.up (by walk_at "bz") (by decide), fun h => absurd h (dd_ne r s), fun _ H' t s1 e1 => k H' t s1 (by show Fx K H' t (r + s); rw [add_div]; exact e1)⟩
def spMinus (K : PySem.W.Frag) : Sp := spR2 K (fun r s => r - s)
theorem okMinus {fMinus : Addr} {fdMinus : FuncData} (F : Fun K "minus" "minus" sMinus fMinus fdMinus) (T : Txt mg) {aZERO : Addr} (CT : Cons K mg aZERO) {CPartError CNought : Addr} (EX : Exns K mg CPartError CNought)
    {fFraction : Addr} {fdFraction : FuncData} (GFraction : FnOk P w K mg base (L2.CX P w) 1 fFraction fdFraction ["number", "divisor"] (spFraction K CNought)) (gFraction : mg "fraction" = some (.ref fFraction)) (kpFraction : PySem.W.keepIn K (.ref fFraction) = true) (bFraction : Binds K fdFraction ["number", "divisor"] []) {dsFraction : List Value} (vdFraction : Vals [.int 1] dsFraction) (bdFraction : Binds K fdFraction ["number", "divisor"] dsFraction) :
    FnOk P w K mg base CX0 2 fMinus fdMinus ["a", "b"] (spMinus K) := by
  refine F.ok scMinus (fun vs H Q E h => ?_) (fun cdv A outer s H vs Q E hr h => ?_)
  · obtain ⟨a, b, r, s, rfl, hA, hB, hr1, hs1, k⟩ := h
    rfl
  · obtain ⟨a, b, r, s, rfl, hA, hB, hr1, hs1, k⟩ := h
    refine ⟨_, (pss_one (ps_ret (pe_call GFraction hr (by rfl) gFraction kpFraction bFraction .nil passL (pa_cons (pe_op op_sub (pe_op op_mulW (pe_ix ix_tup (pv 0) pe_int (fun _ _ => rfl)) (pe_ix ix_tup (pv 1) pe_int (fun _ _ => rfl))) (pe_op op_mulW (pe_ix ix_tup (pv 1) pe_int (fun _ _ => rfl)) (pe_ix ix_tup (pv 0) pe_int (fun _ _ => rfl)))) (pa_cons (pe_op op_mulW (pe_ix ix_tup (pv 0) pe_int (fun _ _ => rfl)) (pe_ix ix_tup (pv 1) pe_int (fun _ _ => rfl))) pa_nil))))), ?_⟩
    walk_at "go"
    exact ⟨Bz.up (by walk_at "bz") (by decide), fun h => absurd h (dd_ne r s), fun _ H' t s1 e1 => k H' t s1 (by show Fx K H' t (r - s); rw [sub_div]; exact e1)⟩
def spTimes (K : PySem.W.Frag) : Sp := spR2 K (fun r s => r * s)
theorem okTimes {fTimes : Addr} {fdTimes : FuncData} (F : Fun K "times" "times" sTimes fTimes fdTimes) (T : Txt mg) {aZERO : Addr} (CT : Cons K mg aZERO) {CPartError CNought : Addr} (EX : Exns K mg CPartError CNought)
    {fFraction : Addr} {fdFraction : FuncData} (GFraction : FnOk P w K mg base (L2.CX P w) 1 fFraction fdFraction ["number", "divisor"] (spFraction K CNought)) (gFraction : mg "fraction" = some (.ref fFraction)) (kpFraction : PySem.W.keepIn K (.ref fFraction) = true) (bFraction : Binds K fdFraction ["number", "divisor"] []) {dsFraction : List Value} (vdFraction : Vals [.int 1] dsFraction) (bdFraction : Binds K fdFraction ["number", "divisor"] dsFraction) :
    FnOk P w K mg base CX0 2 fTimes fdTimes ["a", "b"] (spTimes K) := by
  refine F.ok scTimes (fun vs H Q E h => ?_) (fun cdv A outer s H vs Q E hr h => ?_)
  · obtain ⟨a, b, r, s, rfl, hA, hB, hr1, hs1, k⟩ := h
    rfl
  · obtain ⟨a, b, r, s, rfl, hA, hB, hr1, hs1, k⟩ := h
    refine ⟨_, (pss_one (ps_ret (pe_call GFraction hr (by rfl) gFraction kpFraction bFraction .nil passL (pa_cons (pe_op op_mulW (pe_ix ix_tup (pv 0) pe_int (fun _ _ => rfl)) (pe_ix ix_tup (pv 1) pe_int (fun _ _ => rfl))) (pa_cons (pe_op op_mulW (pe_ix ix_tup (pv 0) pe_int (fun _ _ => rfl)) (pe_ix ix_tup (pv 1) pe_int (fun _ _ => rfl))) pa_nil))))), ?_⟩
    walk_at "go"
    exact ⟨Bz.up (by walk_at "bz") (by decide), fun h => absurd h (dd_ne r s), fun _ H' t s1 e1 => k H' t s1 (by show Fx K H' t (r * s); rw [mul_div]; exact e1)⟩
theorem ov_div {r s : Rat} : r / s = Rat.divInt (r.num * s.den) (r.den * s.num) := by
  have h1 : (r.num : Rat) / ((r.den : Int) : Rat) = r := by rw [← Rat.divInt_eq_div, Rat.num_divInt_den]
  have h2 : (s.num : Rat) / ((s.den : Int) : Rat) = s := by rw [← Rat.divInt_eq_div, Rat.num_divInt_den]
  have d1 : ((r.den : Int) : Rat) ≠ 0 := fun z => den_ne r (Rat.intCast_inj.mp z)
  have d2 : ((s.den : Int) : Rat) ≠ 0 := fun z => den_ne s (Rat.intCast_inj.mp z)
  rw [Rat.divInt_eq_div, Rat.intCast_mul, Rat.intCast_mul]
  generalize (r.num : Rat) = a at *
  generalize (s.num : Rat) = b at *
  generalize ((r.den : Int) : Rat) = c at *
  generalize ((s.den : Int) : Rat) = d at *
  subst h1 h2
  by_cases hb : b = 0
  · subst hb
    grind
  · grind
theorem od_ne {r s : Rat} (h : s ≠ 0) : (r.den : Int) * s.num ≠ 0 := Int.mul_ne_zero (den_ne r) (fun z => h (by rw [← Rat.num_divInt_den s, z]; simp))
def spOver (K : PySem.W.Frag) (CNought : Addr) : Sp := fun vs H Q E => ∃ (a b : Addr) (r s : Rat), vs = [.ref a, .ref b] ∧ Fx K H a r ∧ Fx K H b s ∧ Bd 800 r ∧ Bd 800 s ∧ s ≠ 0 ∧
  ∀ (H' : Hp) (t : Addr), Same H H' → Fx K H' t (r / s) → Q (.ref t) H'
theorem okOver {fOver : Addr} {fdOver : FuncData} (F : Fun K "over" "over" sOver fOver fdOver) (T : Txt mg) {aZERO : Addr} (CT : Cons K mg aZERO) {CPartError CNought : Addr} (EX : Exns K mg CPartError CNought)
    {fFraction : Addr} {fdFraction : FuncData} (GFraction : FnOk P w K mg base (L2.CX P w) 1 fFraction fdFraction ["number", "divisor"] (spFraction K CNought)) (gFraction : mg "fraction" = some (.ref fFraction)) (kpFraction : PySem.W.keepIn K (.ref fFraction) = true) (bFraction : Binds K fdFraction ["number", "divisor"] []) {dsFraction : List Value} (vdFraction : Vals [.int 1] dsFraction) (bdFraction : Binds K fdFraction ["number", "divisor"] dsFraction) :
    FnOk P w K mg base (L2.CX P w) 2 fOver fdOver ["a", "b"] (spOver K CNought) := by
  refine F.okX scOver (fun vs H Q E h => ?_) (fun cdv A outer s H vs Q E hr h => ?_)
  · obtain ⟨a, b, r, s, rfl, hA, hB, hr1, hs1, h0, k⟩ := h
    rfl
  · obtain ⟨a, b, r, s, rfl, hA, hB, hr1, hs1, h0, k⟩ := h
    refine ⟨_, (pss_one (ps_ret (pe_call GFraction hr (by rfl) gFraction kpFraction bFraction .nil (passes_call (takes_of rfl rfl rfl rfl) (fun _ _ _ _ h => h)) (pa_cons (pe_op op_mulW (pe_ix ix_tup (pv 0) pe_int (fun _ _ => rfl)) (pe_ix ix_tup (pv 1) pe_int (fun _ _ => rfl))) (pa_cons (pe_op op_mulW (pe_ix ix_tup (pv 0) pe_int (fun _ _ => rfl)) (pe_ix ix_tup (pv 1) pe_int (fun _ _ => rfl))) pa_nil))))), ?_⟩
    walk_at "go"
    exact ⟨Bz.up (by walk_at "bz") (by decide), fun h => absurd h (od_ne h0), fun _ H' t s1 e1 => k H' t s1 (by rw [ov_div]; exact e1)⟩
def spTotal (K : PySem.W.Frag) : Sp := fun vs H Q _ => ∃ (l : Addr) (ws : List (Addr × Rat)), vs = [.ref l] ∧ SqL K H l (fr ws) ∧ Rx K H ws ∧ (∀ w ∈ ws, Bd 60 w.2) ∧ ws.length ≤ 9 ∧ ∀ (H' : Hp) (t : Addr), Same H H' → Fx K H' t (sumR (ws.map (·.2))) → Q (.ref t) H'
theorem okTotal {fTotal : Addr} {fdTotal : FuncData} (F : Fun K "total" "total" sTotal fTotal fdTotal) (T : Txt mg) {aZERO : Addr} (CT : Cons K mg aZERO) {CPartError CNought : Addr} (EX : Exns K mg CPartError CNought)
    {fPlus : Addr} {fdPlus : FuncData} (GPlus : FnOk P w K mg base CX0 2 fPlus fdPlus ["a", "b"] (spPlus K)) (gPlus : mg "plus" = some (.ref fPlus)) (kpPlus : PySem.W.keepIn K (.ref fPlus) = true) (bPlus : Binds K fdPlus ["a", "b"] []) :
    FnOk P w K mg base CX0 3 fTotal fdTotal ["row"] (spTotal K) := by
  refine F.ok scTotal (fun vs H Q E h => ?_) (fun cdv A outer s H vs Q E hr h => ?_)
  · obtain ⟨l, ws, rfl, hL, hW, hb, hlen, k⟩ := h
    rfl
  · obtain ⟨l, ws, rfl, hL, hW, hb, hlen, k⟩ := h
    refine ⟨_, (pss_cons (ps_set (i := 1) scTotal.nd rfl (Or.inl rfl) (pe_glob (v := .ref aZERO) (by rfl) CT.gZERO rfl))
      (C8.pss_cut (ps_for PassesOwn.never rfl (pi_list (pv 0)) (pg_name (i := 2) scTotal.nd rfl (Or.inl rfl))
        (pss_one (ps_set (i := 1) scTotal.nd rfl (Or.inl rfl) (pe_call GPlus hr (by rfl) gPlus kpPlus bPlus .nil pass0 (pa_cons (pv 1) (pa_cons (pv 2) pa_nil))))))
      (pss_one (ps_ret (pv 1))))), ?_⟩
    have hb2 : ∀ r ∈ ws.map (·.2), Bd 60 r := fun r hr => by
      obtain ⟨w, h1, rfl⟩ := List.mem_map.mp hr
      exact hb w h1
    refine ⟨fun σ' H' => ∃ (t : Addr) (v2 : Option V), σ' = [some (.ref l), some (.ref t), v2] ∧ Same H H' ∧ Fx K H' t (sumR (ws.map (·.2))), ?_, ?_⟩
    · refine ⟨_, rfl, l, rfl, ⟨_, hL⟩, for_list (K := K) (a := l) (xs := fr ws) (fun i σ' H' => ∃ (t : Addr) (v2 : Option V), σ' = [some (.ref l), some (.ref t), v2] ∧ Same H H' ∧ Fx K H' t (sumR ((ws.map (·.2)).take i))) ?_ ?_ ?_ ?_⟩
      · exact ⟨aZERO, none, rfl, Same.refl _, CT.tZERO H⟩
      · rintro i σ' H' _ ⟨t, v2, rfl, s1, _⟩
        exact s1.seq hL
      · rintro i v σ' H' hi ⟨t, v2, rfl, s1, ht⟩
        obtain ⟨w, rfl, hw⟩ := fr_get hi
        have hm : w ∈ ws := List.mem_of_getElem? hw
        have hil : i < ws.length := (List.getElem?_eq_some_iff.mp hw).1
        have hb3 := sum_bd hb2 i (by rw [List.length_map]; omega)
        refine ⟨_, rfl, _, rfl, t, w.1, _, w.2, rfl, ht, (hW w hm).same s1, hb3.up (by omega), (hb w hm).up (by decide), fun H2 t2 s2 e2 => ?_⟩
        refine ⟨t2, some (.ref w.1), rfl, s1.trans s2, ?_⟩
        have e3 : sumR ((ws.map (·.2)).take (i + 1)) = sumR ((ws.map (·.2)).take i) + w.2 := by
          unfold sumR
          rw [List.take_add_one, List.getElem?_map, hw, List.foldl_append]
          rfl
        rw [e3]
        exact e2
      · rintro σ' H' ⟨t, v2, rfl, s1, ht⟩
        rw [fr_len, ← List.length_map (f := fun w : Addr × Rat => w.2), List.take_length] at ht
        exact ⟨t, v2, rfl, s1, ht⟩
    rintro σ' H' ⟨t, v2, rfl, s1, ht⟩
    exact ⟨_, rfl, k H' t s1 ht⟩
def spValue (K : PySem.W.Frag) : Sp := fun vs H Q _ => ∃ (a l : Addr) (x : Rat) (xs : List Rat) (us : List (Addr × Rat)), vs = [.ref a, .ref l] ∧ Vx K H a x xs ∧ SqL K H l (fr us) ∧ Rx K H us ∧ us.length = xs.length ∧ xs.length ≤ 9 ∧ Bd 30 x ∧ (∀ r ∈ xs, Bd 30 r) ∧ (∀ w ∈ us, Bd 30 w.2) ∧
  ∀ (H' : Hp) (t : Addr), Same H H' → Fx K H' t (x + sumR (List.zipWith (fun r s => r * s) xs (us.map (·.2)))) → Q (.ref t) H'
theorem okValue {fValue : Addr} {fdValue : FuncData} (F : Fun K "value" "value" sValue fValue fdValue) (T : Txt mg) {aZERO : Addr} (CT : Cons K mg aZERO) {CPartError CNought : Addr} (EX : Exns K mg CPartError CNought)
    {fPlus : Addr} {fdPlus : FuncData} (GPlus : FnOk P w K mg base CX0 2 fPlus fdPlus ["a", "b"] (spPlus K)) (gPlus : mg "plus" = some (.ref fPlus)) (kpPlus : PySem.W.keepIn K (.ref fPlus) = true) (bPlus : Binds K fdPlus ["a", "b"] [])
    {fTotal : Addr} {fdTotal : FuncData} (GTotal : FnOk P w K mg base CX0 3 fTotal fdTotal ["row"] (spTotal K)) (gTotal : mg "total" = some (.ref fTotal)) (kpTotal : PySem.W.keepIn K (.ref fTotal) = true) (bTotal : Binds K fdTotal ["row"] [])
    {fTimes : Addr} {fdTimes : FuncData} (GTimes : FnOk P w K mg base CX0 2 fTimes fdTimes ["a", "b"] (spTimes K)) (gTimes : mg "times" = some (.ref fTimes)) (kpTimes : PySem.W.keepIn K (.ref fTimes) = true) (bTimes : Binds K fdTimes ["a", "b"] []) :
    FnOk P w K mg base CX0 4 fValue fdValue ["a", "setting"] (spValue K) := by
  refine F.ok scValue (fun vs H Q E h => ?_) (fun cdv A outer s H vs Q E hr h => ?_)
  · obtain ⟨a, l, x, xs, vs, rfl, ⟨p, q, us, hA, hp, hq, hus, rfl⟩, hL, hvs, hlen, h9, bx, bxs, bvs, k⟩ := h
    rfl
  · obtain ⟨a, l, x, xs, vs, rfl, ⟨p, q, us, hA, hp, hq, hus, rfl⟩, hL, hvs, hlen, h9, bx, bxs, bvs, k⟩ := h
    refine ⟨_, (pss_one (ps_ret (pe_call GPlus (hr.mono (by decide)) (by rfl) gPlus kpPlus bPlus .nil pass0 (pa_cons (pe_ix ix_tup (pv 0) pe_int (fun _ _ => rfl)) (pa_cons (pe_call GTotal hr (by rfl) gTotal kpTotal bTotal .nil pass0 (pa_cons (pe_lc (own := [("x", 2), ("y", 3)]) (by rfl) scValue.nd (pi_zipB (by rfl) T.zip (pa_cons (pe_ix ix_tup (pv 0) pe_int (fun _ _ => rfl)) (pa_cons (pv 1) pa_nil))) (blkOk_by (own := [("x", 2), ("y", 3)]) (N := ["a", "setting", "x", "y"]) (sc := defScope sValue) (by decide +kernel)) (fun _ _ _ _ _ => (show PG _ _ (gTup K 2 _) from (pg_tup rfl (pgs_cons (pg_name (i := 2) scValue.nd rfl (Or.inl rfl)) (pgs_cons (pg_name (i := 3) scValue.nd rfl (Or.inl rfl)) pgs_nil))))) (fun _ _ _ _ _ => pts_nil) (fun _ _ _ _ _ => (pe_call GTimes (hr.mono (by decide)) (by rfl) gTimes kpTimes bTimes .nil pass0 (pa_cons (pv 2) (pa_cons (pv 3) pa_nil))))) pa_nil)) pa_nil))))), ?_⟩
    refine ⟨.ref a, rfl, a, _, 0, _, rfl, rfl, hA, atI_nat (j := 0) rfl, .ref a, rfl, a, _, 1, _, rfl, rfl, hA, atI_nat (j := 1) rfl, _, rfl, true, false, q, l, fr us, fr vs, rfl, hq, hL, fun D hD => ?_⟩
    rw [List.length_map] at hlen h9
    refine lc_row (K := K) (walk_zipB (f := true) (g := false) (xs := fr us) (ys := fr vs) rfl) (List.zipWith (fun r s => r * s) (us.map (·.2)) (vs.map (·.2))) (by simp [fr_len]) (by simp [fr_len]; omega) hD (fun H2 s2 => ⟨same_tup s2 hq, s2.seq hL⟩) ?_ ?_
    · rintro i r v H2 H3 kk hr s2 ⟨T, u, u2, rfl, hT, rfl, g1, g2⟩ kk2
      obtain ⟨w, rfl, hw⟩ := fr_get g1
      obtain ⟨w2, rfl, hw2⟩ := fr_get g2
      rw [List.getElem?_zipWith, List.getElem?_map, List.getElem?_map, hw, hw2] at hr
      obtain rfl : w.2 * w2.2 = r := Option.some.inj hr
      have m1 : w ∈ us := List.mem_of_getElem? hw
      have m2 : w2 ∈ vs := List.mem_of_getElem? hw2
      have sT := same_upd (o := .tup [.ref w.1, .ref w2.1]) hT
      refine ⟨_, _, rfl, SqT.of upd_same, rfl, _, _, rfl, _, _, rfl, rfl, rfl, ?_⟩
      exact ⟨_, rfl, _, rfl, w.1, w2.1, w.2, w2.2, rfl, (hus w m1).same (s2.trans sT), (hvs w2 m2).same (s2.trans sT), (bxs _ (List.mem_map_of_mem m1)).up (by decide), (bvs _ m2).up (by decide), fun H4 t4 s4 f4 => kk2 t4 H4 (sT.trans s4) f4⟩
    · intro H2 ws s2 e2 r2 m2
      have hb : ∀ w ∈ ws, Bd 60 w.2 := fun w hw => by
        have h1 : w.2 ∈ List.zipWith (fun r s => r * s) (us.map (·.2)) (vs.map (·.2)) := by
          rw [← m2]
          exact List.mem_map_of_mem hw
        obtain ⟨i, hi⟩ := List.mem_iff_getElem?.mp h1
        rw [List.getElem?_zipWith, List.getElem?_map, List.getElem?_map] at hi
        cases e1 : us[i]? with
        | none =>
          rw [e1] at hi
          cases hi
        | some c =>
          cases e3 : vs[i]? with
          | none =>
            rw [e1, e3] at hi
            cases hi
          | some d =>
            rw [e1, e3] at hi
            obtain hi : c.2 * d.2 = w.2 := Option.some.inj hi
            rw [← hi]
            exact (bxs _ (List.mem_map_of_mem (List.mem_of_getElem? e1))).mul (bvs _ (List.mem_of_getElem? e3))
      have hl : ws.length ≤ 9 := by
        have := congrArg List.length m2
        rw [List.length_map, List.length_zipWith, List.length_map] at this
        omega
      refine ⟨D, ws, rfl, SqL.of e2, r2, hb, hl, fun H3 t3 s3 f3 => ?_⟩
      have hb2 := sum_bd (n := 60) (l := ws.map (·.2)) (fun r hr => by
        obtain ⟨w, h1, rfl⟩ := List.mem_map.mp hr
        exact hb w h1) ws.length (by rw [List.length_map]; exact Nat.le_refl _)
      rw [← List.length_map (f := fun w : Addr × Rat => w.2), List.take_length, List.length_map] at hb2
      refine ⟨p, t3, x, _, rfl, hp.same (s2.trans s3), f3, bx.up (by decide), hb2.up (by omega), fun H4 t4 s4 f4 => ?_⟩
      rw [m2] at f4
      exact k H4 t4 (s2.trans (s3.trans s4)) f4
theorem at_bd3 {x : Rat} {xs us : List Rat} (bx : Bd 30 x) (h1 : ∀ r ∈ xs, Bd 30 r) (h2 : ∀ r ∈ us, Bd 30 r) (hl : xs.length ≤ 3) : Bd 300 (x + sumR (List.zipWith (fun r s => r * s) xs us)) := by
  have b := sum_bd (zw_bd h1 h2) _ (Nat.le_refl _)
  rw [List.take_length] at b
  exact (bx.add b).up (by rw [List.length_zipWith]; omega)
def spRoot (K : PySem.W.Frag) : Sp := fun vs H Q _ => ∃ (w l g a : Addr) (x : Rat) (xs : List Rat) (us gs : List (Addr × Rat)), vs = [.ref w, .ref a] ∧ SqT K H w [.ref l, .ref g] ∧ SqL K H l (fr us) ∧ SqL K H g (fr gs) ∧ Rx K H us ∧ Rx K H gs ∧ Vx K H a x xs ∧ us.length = xs.length ∧ gs.length = xs.length ∧ xs.length ≤ 3 ∧ Bd 30 x ∧ (∀ r ∈ xs, Bd 30 r) ∧ (∀ w ∈ us, Bd 30 w.2) ∧ (∀ w ∈ gs, Bd 30 w.2) ∧
  (x + sumR (List.zipWith (fun r s => r * s) xs (us.map (·.2))) = x + sumR (List.zipWith (fun r s => r * s) xs (gs.map (·.2))) → ∀ H', Same H H' → Q .non H') ∧
  (x + sumR (List.zipWith (fun r s => r * s) xs (us.map (·.2))) ≠ x + sumR (List.zipWith (fun r s => r * s) xs (gs.map (·.2))) → ∀ (H' : Hp) (t : Addr), Same H H' → Fx K H' t ((x + sumR (List.zipWith (fun r s => r * s) xs (us.map (·.2)))) / ((x + sumR (List.zipWith (fun r s => r * s) xs (us.map (·.2)))) - (x + sumR (List.zipWith (fun r s => r * s) xs (gs.map (·.2)))))) → Q (.ref t) H')
theorem okRoot {fRoot : Addr} {fdRoot : FuncData} (F : Fun K "root" "root" sRoot fRoot fdRoot) (T : Txt mg) {aZERO : Addr} (CT : Cons K mg aZERO) {CPartError CNought : Addr} (EX : Exns K mg CPartError CNought)
    {fOver : Addr} {fdOver : FuncData} (GOver : FnOk P w K mg base (L2.CX P w) 2 fOver fdOver ["a", "b"] (spOver K CNought)) (gOver : mg "over" = some (.ref fOver)) (kpOver : PySem.W.keepIn K (.ref fOver) = true) (bOver : Binds K fdOver ["a", "b"] [])
    {fValue : Addr} {fdValue : FuncData} (GValue : FnOk P w K mg base CX0 4 fValue fdValue ["a", "setting"] (spValue K)) (gValue : mg "value" = some (.ref fValue)) (kpValue : PySem.W.keepIn K (.ref fValue) = true) (bValue : Binds K fdValue ["a", "setting"] [])
    {fMinus : Addr} {fdMinus : FuncData} (GMinus : FnOk P w K mg base CX0 2 fMinus fdMinus ["a", "b"] (spMinus K)) (gMinus : mg "minus" = some (.ref fMinus)) (kpMinus : PySem.W.keepIn K (.ref fMinus) = true) (bMinus : Binds K fdMinus ["a", "b"] []) :
    FnOk P w K mg base CX0 5 fRoot fdRoot ["way", "worth"] (spRoot K) := by
  refine F.ok scRoot (fun vs H Q E h => ?_) (fun cdv A outer s H vs Q E hr h => ?_)
  · obtain ⟨w, l, g, a, x, xs, us, gs, rfl, hw, hl, hg, ru, rg, hV, n1, n2, n3, bx, bxs, bus, bgs, k1, k2⟩ := h
    rfl
  · obtain ⟨w, l, g, a, x, xs, us, gs, rfl, hw, hl, hg, ru, rg, hV, n1, n2, n3, bx, bxs, bus, bgs, k1, k2⟩ := h
    refine ⟨_, (pss_cons (ps_par (i := 2) (j := 3) (by rfl) scRoot.nd rfl rfl (by decide) rfl rfl (pa_cons (pe_call GValue hr (by rfl) gValue kpValue bValue .nil pass0 (pa_cons (pv 1) (pa_cons (pe_ix ix_tup (pv 0) pe_int (fun _ _ => rfl)) pa_nil))) (pa_cons (pe_call GValue hr (by rfl) gValue kpValue bValue .nil pass0 (pa_cons (pv 1) (pa_cons (pe_ix ix_tup (pv 0) pe_int (fun _ _ => rfl)) pa_nil))) pa_nil)) (by rfl))
      (pss_cons (ps_if (pt_cmpR (op_eqD hr.units) (pv 2) (pv 3) (nomark _))
        (pss_one (ps_ret pe_non))
        pss_nil)
      (pss_one (ps_ret (pe_call GOver (hr.mono (by decide)) (by rfl) gOver kpOver bOver .nil passL (pa_cons (pv 2) (pa_cons (pe_call GMinus (hr.mono (by decide)) (by rfl) gMinus kpMinus bMinus .nil pass0 (pa_cons (pv 2) (pa_cons (pv 3) pa_nil))) pa_nil))))))), ?_⟩
    have bx20 := at_bd3 (us := us.map (·.2)) bx bxs (fun r hr => by
      obtain ⟨w, hw, rfl⟩ := List.mem_map.mp hr
      exact bus w hw) (by omega)
    refine ⟨.ref a, rfl, .ref w, rfl, w, _, 0, _, rfl, rfl, hw, atI_nat (j := 0) rfl, a, l, x, xs, us, rfl, hV, hl, ru, n1, by omega, bx, bxs, bus, fun H1 t1 s1 f1 => ?_⟩
    refine ⟨.ref a, rfl, .ref w, rfl, w, _, 1, _, rfl, rfl, same_tup s1 hw, atI_nat (j := 1) rfl, a, g, x, xs, gs, rfl, hV.same s1, s1.seq hg, rg.same s1, n2, by omega, bx, bxs, bgs, fun H2 t2 s2 f2 => ?_⟩
    refine ⟨_, _, rfl, ?_⟩
    have s12 := s1.trans s2
    have by20 := at_bd3 (us := gs.map (·.2)) bx bxs (fun r hr => by
      obtain ⟨w, hw, rfl⟩ := List.mem_map.mp hr
      exact bgs w hw) (by omega)
    have f12 := f1.same s2
    generalize x + sumR (List.zipWith (fun r s => r * s) xs (us.map (·.2))) = r0 at *
    generalize x + sumR (List.zipWith (fun r s => r * s) xs (gs.map (·.2))) = r1 at *
    refine ⟨.ref t1, rfl, .ref t2, rfl, pdr r0, pdr r1, dpr f12, dpr f2, rfl, rfl, ?_⟩
    rw [eqvr]
    refine ⟨_, rfl, ite2 (fun g => ?_) (fun g => ?_)⟩
    · exact k1 (of_decide_eq_true g) H2 s12
    · have hne : r0 ≠ r1 := fun z => g (decide_eq_true z)
      refine ⟨_, rfl, _, rfl, _, rfl, t1, t2, r0, r1, rfl, f12, f2, bx20.up (by decide), by20.up (by decide), fun H3 t3 s3 f3 => ?_⟩
      refine ⟨t1, t3, r0, r0 - r1, rfl, f12.same s3, f3, bx20.up (by decide), (bx20.sub by20).up (by decide), fun z => hne (by grind), fun H4 t4 s4 f4 => ?_⟩
      exact k2 hne H4 t4 (s12.trans (s3.trans s4)) f4
def spLLawIsInteger (K : PySem.W.Frag) : Sp := fun vs H Q _ => ∃ n : Int, vs = [.int n] ∧ Q (.bl true) H
theorem okLLawIsInteger {fLLawIsInteger : Addr} {fdLLawIsInteger : FuncData} (F : Fun K "_law_is_integer" "_law_is_integer" sLLawIsInteger fLLawIsInteger fdLLawIsInteger) (T : Txt mg) {aZERO : Addr} (CT : Cons K mg aZERO) {CPartError CNought : Addr} (EX : Exns K mg CPartError CNought) :
    FnOk P w K mg base CX0 1 fLLawIsInteger fdLLawIsInteger ["actual"] (spLLawIsInteger K) := by
  refine F.ok scLLawIsInteger (fun vs H Q E h => ?_) (fun cdv A outer s H vs Q E hr h => ?_)
  · obtain ⟨n, rfl, q⟩ := h
    rfl
  · obtain ⟨n, rfl, q⟩ := h
    refine ⟨_, (pss_one (ps_ret (pe_and (pe_callB call_isi (by rfl) T.isinstance (by decide +kernel) (pa_cons (pv 0) (pa_cons (pe_bltn (v := .ty "int") (by rfl) T.int (by decide +kernel) rfl) pa_nil))) (pe_one (pe_not (pe_callB call_isi (by rfl) T.isinstance (by decide +kernel) (pa_cons (pv 0) (pa_cons (pe_bltn (v := .ty "bool") (by rfl) T.bool (by decide +kernel) rfl) pa_nil)))))))), ?_⟩
    refine ⟨.int n, rfl, .int n, .ty "int", .type "int", .type "int", true, rfl, (.ty _), .base (.int n), kit_ty (by decide +kernel), true, rfl, iteT ?_⟩
    exact ⟨.int n, rfl, .int n, .ty "bool", .type "int", .type "bool", false, rfl, (.ty _), .base (.int n), kit_ty (by decide +kernel), false, rfl, q⟩
def spLLawCell (K : PySem.W.Frag) : Sp := fun vs H Q _ => ∃ (a : Addr) (ns : List Int) (k : Nat), vs = [.ref a, .int k] ∧ SqL K H a (zs ns) ∧ ∀ c : Int, 0 ≤ c → Q (.int c) H
theorem okLLawCell {fLLawCell : Addr} {fdLLawCell : FuncData} (F : Fun K "_law_cell" "_law_cell" sLLawCell fLLawCell fdLLawCell) (T : Txt mg) {aZERO : Addr} (CT : Cons K mg aZERO) {CPartError CNought : Addr} (EX : Exns K mg CPartError CNought) :
    FnOk P w K mg base CX0 1 fLLawCell fdLLawCell ["script", "k"] (spLLawCell K) := by
  refine F.ok scLLawCell (fun vs H Q E h => ?_) (fun cdv A outer s H vs Q E hr h => ?_)
  · obtain ⟨a, ns, k, rfl, hS, q⟩ := h
    rfl
  · obtain ⟨a, ns, k, rfl, hS, q⟩ := h
    refine ⟨_, (pss_cons (ps_if (pt_cmpR op_lt (pv 1) (pe_callB call_len_seq (by rfl) T.len PySem.boot_len (pa_cons (pv 0) pa_nil)) (nomark _))
        (pss_one (ps_ret (pe_callB call_abs (by rfl) T.abs (by decide +kernel) (pa_cons (pe_callTy call_int1 (by rfl) T.int (by decide +kernel) (pa_cons (pe_ix ix_list (pv 0) (pv 1) (fun _ _ => rfl)) pa_nil)) pa_nil))))
        pss_nil)
      (pss_one (ps_ret pe_int))), ?_⟩
    refine ⟨_, rfl, .ref a, rfl, a, _, rfl, .inl hS, _, _, rfl, rfl, _, rfl, ite2 (fun hlt => ?_) (fun _ => ?_)⟩
    · have h1 := of_decide_eq_true hlt
      rw [show zs ns = ns.map V.int from rfl, List.length_map] at h1
      have h2 : k < ns.length := by omega
      have h3 : (zs ns)[k]? = some (.int ns[k]) := by
        rw [show zs ns = ns.map V.int from rfl, List.getElem?_map, List.getElem?_eq_getElem h2]
        rfl
      refine ⟨.ref a, rfl, _, rfl, a, _, _, _, rfl, rfl, hS, atI_nat h3, .inl ⟨_, rfl, _, rfl, q _ ?_⟩⟩
      split <;> omega
    · exact q 0 (by decide)
def spLLawRow (K : PySem.W.Frag) : Sp := fun vs H Q _ => ∃ (cell base : Int) (n : Nat), vs = [.int cell, .int n, .int base] ∧ 0 < base ∧ base < 1000000 ∧ n ≤ 1000 ∧
  ∀ (H' : Hp) (l : Addr) (rs : List Int), Same H H' → H l = none → H' l = some (.lst (zs rs)) → rs.length = n → (∀ r ∈ rs, 0 ≤ r ∧ r < base) → Q (.ref l) H'
theorem okLLawRow {fLLawRow : Addr} {fdLLawRow : FuncData} (F : Fun K "_law_row" "_law_row" sLLawRow fLLawRow fdLLawRow) (T : Txt mg) {aZERO : Addr} (CT : Cons K mg aZERO) {CPartError CNought : Addr} (EX : Exns K mg CPartError CNought) :
    FnOk P w K mg base CX0 1 fLLawRow fdLLawRow ["cell", "size", "base"] (spLLawRow K) := by
  refine F.ok scLLawRow (fun vs H Q E h => ?_) (fun cdv A outer s H vs Q E hr h => ?_)
  · obtain ⟨cell, base, n, rfl, hb0, hb1, hn, q⟩ := h
    rfl
  · obtain ⟨cell, base, n, rfl, hb0, hb1, hn, q⟩ := h
    refine ⟨_, (pss_cons (ps_set (i := 3) scLLawRow.nd rfl (Or.inl rfl) (pe_lst pa_nil))
      (pss_cons (ps_set (i := 4) scLLawRow.nd rfl (Or.inl rfl) (pv 0))
      (C8.pss_cut (ps_for PassesOwn.never rfl (pi_range1 rfl T.range (pa_cons (pv 1) pa_nil)) (pg_name (i := 5) scLLawRow.nd rfl (Or.inl rfl))
        (pss_one (ps_if (pt_cmpR op_ge (pv 0) (pe_op op_pow pe_int pe_int) (nomark _))
          (pss_cons (ps_expr (pe_bm PySem.F.plainAttrs_list PySem.F.slot_list_append PySem.F.type_list_append mt_append (pv 3) (pa_cons (pe_op op_mod (pe_callTy call_int1 (by rfl) T.int (by decide +kernel) (pa_cons (pv 4) pa_nil)) (pv 2)) pa_nil)))
          (pss_one (ps_set (i := 4) scLLawRow.nd rfl (Or.inl rfl) (pe_op op_fdiv (pv 4) (pv 2)))))
          (pss_cons (ps_set (i := 6) scLLawRow.nd rfl (Or.inl rfl) (pe_op op_mod (pe_op op_add (pe_op op_add (pe_op op_mul (pe_op op_mod (pe_callTy call_int1 (by rfl) T.int (by decide +kernel) (pa_cons (pv 0) pa_nil)) pe_int) pe_int) (pe_op op_mul (pv 5) pe_int)) (pe_op op_fdiv (pv 0) pe_int)) pe_int))
          (pss_cons (ps_set (i := 6) scLLawRow.nd rfl (Or.inl rfl) (pe_op op_mod (pe_op op_add (pe_op op_add (pe_op op_mul (pv 6) pe_int) (pe_op op_mul (pv 5) pe_int)) pe_int) pe_int))
          (pss_one (ps_expr (pe_bm PySem.F.plainAttrs_list PySem.F.slot_list_append PySem.F.type_list_append mt_append (pv 3) (pa_cons (pe_op op_mod (pe_op op_fdiv (pv 6) pe_int) (pv 2)) pa_nil)))))))))
      (pss_one (ps_ret (pv 3)))))), ?_⟩
    refine ⟨Nat.zero_le _, fun l hl => ?_⟩
    have sl : Same H (upd H l (.lst [])) := same_upd hl
    walk_at "rd"
    refine ⟨fun σ' H' => ∃ (rs : List Int) (v4 v5 v6 : Option V), σ' = [some (.int cell), some (.int n), some (.int base), some (.ref l), v4, v5, v6] ∧ Same H H' ∧ H' l = some (.lst (zs rs)) ∧ rs.length = n ∧ ∀ r ∈ rs, 0 ≤ r ∧ r < base, ?_, ?_⟩
    · refine ⟨_, rfl, n, rfl, by omega, by omega, for_range (n := n) (fun i σ' H' => ∃ (rs : List Int) (number : Int) (v5 v6 : Option V), σ' = [some (.int cell), some (.int n), some (.int base), some (.ref l), some (.int number), v5, v6] ∧ Same H H' ∧ H' l = some (.lst (zs rs)) ∧ rs.length = i ∧ ∀ r ∈ rs, 0 ≤ r ∧ r < base) ?_ ?_ ?_⟩
      · exact ⟨[], cell, none, none, rfl, sl, upd_same, rfl, fun r h => nomatch h⟩
      · rintro i σ' H' hi ⟨rs, number, v5, v6, rfl, s1, e1, el, ea⟩
        have hlen : (zs rs).length < sizeLine := zs_lt (by omega)
        walk_at "rd"
        refine ite2 (fun _ => ?_) (fun _ => ?_)
        · walk_at "rd"
          refine ⟨.inl ⟨rfl, _, SqL.of e1⟩, ?_⟩
          walk_at "rd"
          refine ⟨hb0, l, _, _, rfl, rfl, e1, hlen, ?_⟩
          walk_at "rd"
          refine ⟨⟨hb0, by omega⟩, rs ++ [number % base], _, _, _, rfl, fun b o e => ?_, ?_, ?_, row_all ea _ hb0⟩
          · rw [upd_ne (ne_of_none e hl)]
            exact s1 b o e
          · rw [upd_same, zs_push]
          · rw [List.length_append, el]
            rfl
        · walk_at "rd"
          refine ⟨.inl ⟨rfl, _, SqL.of e1⟩, ?_⟩
          walk_at "rd"
          refine ⟨hb0, l, _, _, rfl, rfl, e1, hlen, ?_⟩
          refine ⟨_, _, _, _, rfl, fun b o e => ?_, by rw [upd_same, zs_push], ?_, row_all ea _ hb0⟩
          · rw [upd_ne (ne_of_none e hl)]
            exact s1 b o e
          · rw [List.length_append, el]
            rfl
      · rintro σ' H' ⟨rs, number, v5, v6, rfl, s1, e1, el, ea⟩
        exact ⟨rs, _, _, _, rfl, s1, e1, el, ea⟩
    · rintro σ' H' ⟨rs, v4, v5, v6, rfl, s1, e1, el, ea⟩
      exact ⟨_, rfl, q H' l rs s1 hl e1 el ea⟩
def spLLawFraction (K : PySem.W.Frag) : Sp := fun vs H Q _ => ∃ n d : Int, vs = [.int n, .int d] ∧ n.natAbs < 2 ^ 1800 ∧ d.natAbs < 2 ^ 1800 ∧ d ≠ 0 ∧ ∀ (H' : Hp) (t : Addr), Same H H' → H' t = some (.tup (zs (rd2 n d))) → Q (.ref t) H'
theorem okLLawFraction {fLLawFraction : Addr} {fdLLawFraction : FuncData} (F : Fun K "_law_fraction" "_law_fraction" sLLawFraction fLLawFraction fdLLawFraction) (T : Txt mg) {aZERO : Addr} (CT : Cons K mg aZERO) {CPartError CNought : Addr} (EX : Exns K mg CPartError CNought) :
    FnOk P w K mg base CX0 1 fLLawFraction fdLLawFraction ["number", "divisor"] (spLLawFraction K) := by
  refine F.ok scLLawFraction (fun vs H Q E h => ?_) (fun cdv A outer s H vs Q E hr h => ?_)
  · obtain ⟨n, d, rfl, bn, bd, hd, k⟩ := h
    rfl
  · obtain ⟨n, d, rfl, bn, bd, hd, k⟩ := h
    refine ⟨_, (pss_cons (ps_set (i := 2) scLLawFraction.nd rfl (Or.inl rfl) (pe_callB call_abs (by rfl) T.abs (by decide +kernel) (pa_cons (pv 0) pa_nil)))
      (pss_cons (ps_set (i := 3) scLLawFraction.nd rfl (Or.inl rfl) (pe_callB call_abs (by rfl) T.abs (by decide +kernel) (pa_cons (pv 1) pa_nil)))
      (C8.pss_cut (ps_for PassesOwn.never rfl (pi_range1 rfl T.range (pa_cons pe_int pa_nil)) (pg_name (i := 4) scLLawFraction.nd rfl (Or.inl rfl))
        (pss_cons (ps_if (pt_cmpR op_eq (pv 3) pe_int (nomark _))
          (pss_one ps_break)
          pss_nil)
        (pss_one (ps_par (i := 2) (j := 3) (by rfl) scLLawFraction.nd rfl rfl (by decide) rfl rfl (pa_cons (pv 3) (pa_cons (pe_op op_modN (pv 2) (pv 3)) pa_nil)) (by rfl)))))
      (C8.pss_cut (ps_if (pt_cmpR op_lt (pv 1) pe_int (nomark _))
        (pss_one (ps_set (i := 2) scLLawFraction.nd rfl (Or.inl rfl) (pe_un un_neg (pv 2))))
        pss_nil)
      (pss_one (ps_ret (pe_tup (pa_cons (pe_op op_fdivX (pv 0) (pv 2)) (pa_cons (pe_op op_fdivX (pv 1) (pv 2)) pa_nil))))))))), ?_⟩
    walk_at "rd"
    have ez : ∀ z : Int, (if z < 0 then -z else z) = ((z.natAbs : Nat) : Int) := fun z => by
      split <;> omega
    rw [ez n, ez d]
    refine ⟨fun σ' H' => ∃ v3 v4 : Option V, σ' = [some (.int n), some (.int d), some (.int ((Nat.gcd n.natAbs d.natAbs : Nat) : Int)), v3, v4] ∧ H' = H, ?_, ?_⟩
    · refine ⟨10000, rfl, by decide, by decide, for_range (n := 10000) (fun i σ' H' => ∃ (c e : Nat) (v4 : Option V), σ' = [some (.int n), some (.int d), some (.int c), some (.int e), v4] ∧ H' = H ∧ Eu n.natAbs d.natAbs i c e) ⟨_, _, none, rfl, rfl, Eu.start _ _⟩ ?_ ?_⟩
      · rintro i σ' H' hi ⟨c, e, v4, rfl, rfl, eu⟩
        walk_at "rd"
        refine ite2 (fun g => ?_) (fun g => ?_)
        · have he0 : e = 0 := by
            have := eq_of_dec g
            omega
          subst he0
          refine ⟨some (.int ((0 : Nat) : Int)), some (.int (0 + (i : Int))), ?_, rfl⟩
          rw [← eu.end]
          rfl
        · have he0 : e ≠ 0 := fun z => g (decide_eq_true (by rw [z]; rfl))
          walk_at "rd"
          refine ⟨by omega, _, _, rfl, e, c % e, some (.int (0 + (i : Int))), ?_, rfl, eu.turn (by omega)⟩
          rw [← fmod_nat c e]
          rfl
      · rintro σ' H' ⟨c, e, v4, rfl, rfl, eu⟩
        have he0 : e = 0 := eu.stop (by decide) (eu_far2 (by decide) bn bd)
        subst he0
        refine ⟨some (.int ((0 : Nat) : Int)), v4, ?_, rfl⟩
        rw [← eu.end]
    rintro σ' H3 ⟨v3, v4, rfl, rfl⟩
    refine ⟨fun σ' H' => σ' = [some (.int n), some (.int d), some (.int (sg n d)), v3, v4] ∧ H' = H3, ?_, ?_⟩
    · walk_at "rd"
      refine ite2 (fun g2 => ?_) (fun g2 => ?_)
      · refine ⟨_, rfl, _, rfl, ?_, rfl⟩
        unfold sg
        rw [if_pos (of_decide_eq_true g2)]
        rfl
      · refine ⟨?_, rfl⟩
        unfold sg
        rw [if_neg (fun z => g2 (decide_eq_true z))]
    rintro σ' H4 ⟨rfl, rfl⟩
    have hs := sg_ne (n := n) hd
    have hsb : (sg n d).natAbs < 2 ^ 1800 := by
      rw [sg_abs]
      exact Nat.lt_of_le_of_lt (Nat.le_of_dvd (by omega) (Nat.gcd_dvd_right _ _)) bd
    refine ⟨_, rfl, _, rfl, _, _, rfl, rfl, wide_divx hs hsb (by decide) (by decide), _, rfl, _, rfl, _, _, rfl, rfl, wide_divx hs hsb (by decide) (by decide), by show 2 ≤ sizeLine; decide, fun t ht => ?_⟩
    exact k _ t (same_upd ht) upd_same
def spLLawPlus (K : PySem.W.Frag) : Sp := spR2 K (fun r s => r + s)
theorem okLLawPlus {fLLawPlus : Addr} {fdLLawPlus : FuncData} (F : Fun K "_law_plus" "_law_plus" sLLawPlus fLLawPlus fdLLawPlus) (T : Txt mg) {aZERO : Addr} (CT : Cons K mg aZERO) {CPartError CNought : Addr} (EX : Exns K mg CPartError CNought)
    {fLLawFraction : Addr} {fdLLawFraction : FuncData} (GLLawFraction : FnOk P w K mg base CX0 1 fLLawFraction fdLLawFraction ["number", "divisor"] (spLLawFraction K)) (gLLawFraction : mg "_law_fraction" = some (.ref fLLawFraction)) (kpLLawFraction : PySem.W.keepIn K (.ref fLLawFraction) = true) (bLLawFraction : Binds K fdLLawFraction ["number", "divisor"] []) :
    FnOk P w K mg base CX0 2 fLLawPlus fdLLawPlus ["a", "b"] (spLLawPlus K) := by
  refine F.ok scLLawPlus (fun vs H Q E h => ?_) (fun cdv A outer s H vs Q E hr h => ?_)
  · obtain ⟨a, b, r, s, rfl, hA, hB, hr1, hs1, k⟩ := h
    rfl
  · obtain ⟨a, b, r, s, rfl, hA, hB, hr1, hs1, k⟩ := h
    refine ⟨_, (pss_one (ps_ret (pe_call GLLawFraction hr (by rfl) gLLawFraction kpLLawFraction bLLawFraction .nil pass0 (pa_cons (pe_op op_add (pe_op op_mulW (pe_ix ix_tup (pv 0) pe_int (fun _ _ => rfl)) (pe_ix ix_tup (pv 1) pe_int (fun _ _ => rfl))) (pe_op op_mulW (pe_ix ix_tup (pv 1) pe_int (fun _ _ => rfl)) (pe_ix ix_tup (pv 0) pe_int (fun _ _ => rfl)))) (pa_cons (pe_op op_mulW (pe_ix ix_tup (pv 0) pe_int (fun _ _ => rfl)) (pe_ix ix_tup (pv 1) pe_int (fun _ _ => rfl))) pa_nil))))), ?_⟩
    walk_at "go"
    exact ⟨show Bz 1800 _ from Bz.up (by walk_at "bz") (by decide), show Bz 1800 _ from Bz.up (by walk_at "bz") (by decide), dd_ne r s, fun H' t s1 e1 => k H' t s1 (by show Fx K H' t (r + s); rw [add_div]; exact fx_rd (dd_ne r s) e1)⟩
def spLLawTimes (K : PySem.W.Frag) : Sp := spR2 K (fun r s => r * s)
theorem okLLawTimes {fLLawTimes : Addr} {fdLLawTimes : FuncData} (F : Fun K "_law_times" "_law_times" sLLawTimes fLLawTimes fdLLawTimes) (T : Txt mg) {aZERO : Addr} (CT : Cons K mg aZERO) {CPartError CNought : Addr} (EX : Exns K mg CPartError CNought)
    {fLLawFraction : Addr} {fdLLawFraction : FuncData} (GLLawFraction : FnOk P w K mg base CX0 1 fLLawFraction fdLLawFraction ["number", "divisor"] (spLLawFraction K)) (gLLawFraction : mg "_law_fraction" = some (.ref fLLawFraction)) (kpLLawFraction : PySem.W.keepIn K (.ref fLLawFraction) = true) (bLLawFraction : Binds K fdLLawFraction ["number", "divisor"] []) :
    FnOk P w K mg base CX0 2 fLLawTimes fdLLawTimes ["a", "b"] (spLLawTimes K) := by
  refine F.ok scLLawTimes (fun vs H Q E h => ?_) (fun cdv A outer s H vs Q E hr h => ?_)
  · obtain ⟨a, b, r, s, rfl, hA, hB, hr1, hs1, k⟩ := h
    rfl
  · obtain ⟨a, b, r, s, rfl, hA, hB, hr1, hs1, k⟩ := h
    refine ⟨_, (pss_one (ps_ret (pe_call GLLawFraction hr (by rfl) gLLawFraction kpLLawFraction bLLawFraction .nil pass0 (pa_cons (pe_op op_mulW (pe_ix ix_tup (pv 0) pe_int (fun _ _ => rfl)) (pe_ix ix_tup (pv 1) pe_int (fun _ _ => rfl))) (pa_cons (pe_op op_mulW (pe_ix ix_tup (pv 0) pe_int (fun _ _ => rfl)) (pe_ix ix_tup (pv 1) pe_int (fun _ _ => rfl))) pa_nil))))), ?_⟩
    walk_at "go"
    exact ⟨show Bz 1800 _ from Bz.up (by walk_at "bz") (by decide), show Bz 1800 _ from Bz.up (by walk_at "bz") (by decide), dd_ne r s, fun H' t s1 e1 => k H' t s1 (by show Fx K H' t (r * s); rw [mul_div]; exact fx_rd (dd_ne r s) e1)⟩
def spLLawIsFraction (K : PySem.W.Frag) : Sp := fun vs H Q _ => ∃ (t : Addr) (p q : Int), vs = [.ref t] ∧ SqT K H t (zs [p, q]) ∧ Nat.gcd p.natAbs q.natAbs = 1 ∧ 0 < q ∧ p.natAbs < 2 ^ 1800 ∧ q.natAbs < 2 ^ 1800 ∧ ∀ H', Same H H' → Q (.bl true) H'
theorem okLLawIsFraction {fLLawIsFraction : Addr} {fdLLawIsFraction : FuncData} (F : Fun K "_law_is_fraction" "_law_is_fraction" sLLawIsFraction fLLawIsFraction fdLLawIsFraction) (T : Txt mg) {aZERO : Addr} (CT : Cons K mg aZERO) {CPartError CNought : Addr} (EX : Exns K mg CPartError CNought)
    {fLLawFraction : Addr} {fdLLawFraction : FuncData} (GLLawFraction : FnOk P w K mg base CX0 1 fLLawFraction fdLLawFraction ["number", "divisor"] (spLLawFraction K)) (gLLawFraction : mg "_law_fraction" = some (.ref fLLawFraction)) (kpLLawFraction : PySem.W.keepIn K (.ref fLLawFraction) = true) (bLLawFraction : Binds K fdLLawFraction ["number", "divisor"] [])
    {fLLawIsInteger : Addr} {fdLLawIsInteger : FuncData} (GLLawIsInteger : FnOk P w K mg base CX0 1 fLLawIsInteger fdLLawIsInteger ["actual"] (spLLawIsInteger K)) (gLLawIsInteger : mg "_law_is_integer" = some (.ref fLLawIsInteger)) (kpLLawIsInteger : PySem.W.keepIn K (.ref fLLawIsInteger) = true) (bLLawIsInteger : Binds K fdLLawIsInteger ["actual"] []) :
    FnOk P w K mg base CX0 2 fLLawIsFraction fdLLawIsFraction ["actual"] (spLLawIsFraction K) := by
  refine F.ok scLLawIsFraction (fun vs H Q E h => ?_) (fun cdv A outer s H vs Q E hr h => ?_)
  · obtain ⟨t, p, q, rfl, hT, h1, q0, bp, bq, k⟩ := h
    rfl
  · obtain ⟨t, p, q, rfl, hT, h1, q0, bp, bq, k⟩ := h
    refine ⟨_, (pss_cons (ps_if (PW.pt (pw_or (pt_not (pt_val (pe_callB call_isi (by rfl) T.isinstance (by decide +kernel) (pa_cons (pv 0) (pa_cons (pe_bltn (v := .ty "tuple") (by rfl) T.tuple (by decide +kernel) rfl) pa_nil))))) (pw_or1 (pt_cmpR op_ne (pe_callB call_len_seq (by rfl) T.len PySem.boot_len (pa_cons (pv 0) pa_nil)) pe_int (nomark _)))))
        (pss_one (ps_ret pe_bl))
        pss_nil)
      (pss_cons (ps_if (PW.pt (pw_or (pt_not (pt_val (pe_call GLLawIsInteger hr (by rfl) gLLawIsInteger kpLLawIsInteger bLLawIsInteger .nil pass0 (pa_cons (pe_ix ix_tup (pv 0) pe_int (fun _ _ => rfl)) pa_nil)))) (pw_or (pt_not (pt_val (pe_call GLLawIsInteger hr (by rfl) gLLawIsInteger kpLLawIsInteger bLLawIsInteger .nil pass0 (pa_cons (pe_ix ix_tup (pv 0) pe_int (fun _ _ => rfl)) pa_nil)))) (pw_or1 (pt_cmpR op_lt (pe_ix ix_tup (pv 0) pe_int (fun _ _ => rfl)) pe_int (nomark _))))))
        (pss_one (ps_ret pe_bl))
        pss_nil)
      (pss_one (ps_ret (pe_cmpR (op_eqD hr.units) (pv 0) (pe_call GLLawFraction hr (by rfl) gLLawFraction kpLLawFraction bLLawFraction .nil pass0 (pa_cons (pe_ix ix_tup (pv 0) pe_int (fun _ _ => rfl)) (pa_cons (pe_ix ix_tup (pv 0) pe_int (fun _ _ => rfl)) pa_nil))) (nomark _)))))), ?_⟩
    refine ⟨.ref t, rfl, .ref t, .ty "tuple", .type "tuple", .type "tuple", true, rfl, .ty _, tyx_tup hT, kit_ty (by decide +kernel), true, rfl, ?_⟩
    refine iteF ⟨.ref t, rfl, t, _, rfl, .inr hT, rfl, _, rfl, ?_⟩
    refine ite2 (fun g => absurd rfl (ne_of_bang g)) (fun _ => ?_)
    refine ⟨.ref t, rfl, t, _, 0, _, rfl, rfl, hT, atI_nat (j := 0) rfl, p, rfl, true, rfl, iteF ?_⟩
    refine ⟨.ref t, rfl, t, _, 1, _, rfl, rfl, hT, atI_nat (j := 1) rfl, q, rfl, true, rfl, iteF ?_⟩
    refine ⟨.ref t, rfl, t, _, 1, _, rfl, rfl, hT, atI_nat (j := 1) rfl, _, _, rfl, rfl, _, rfl, ?_⟩
    refine ite2 (fun g => absurd (of_decide_eq_true g) (by omega)) (fun _ => ?_)
    refine ⟨_, rfl, .ref t, rfl, t, _, 0, _, rfl, rfl, hT, atI_nat (j := 0) rfl, .ref t, rfl, t, _, 1, _, rfl, rfl, hT, atI_nat (j := 1) rfl, p, q, rfl, bp, bq, by omega, fun H1 t1 s1 e1 => ?_⟩
    rw [low_of h1 q0] at e1
    refine ⟨_, _, dp2 (same_tup s1 hT), dp2 (SqT.of e1), rfl, rfl, ?_⟩
    rw [eqv2]
    exact k H1 s1
def spLLawValue (K : PySem.W.Frag) : Sp := fun vs H Q _ => ∃ (a l : Addr) (x : Rat) (xs : List Rat) (us : List (Addr × Rat)), vs = [.ref a, .ref l] ∧ Vx K H a x xs ∧ SqL K H l (fr us) ∧ Rx K H us ∧ us.length = xs.length ∧ xs.length ≤ 3 ∧ Bd 30 x ∧ (∀ r ∈ xs, Bd 30 r) ∧ (∀ r ∈ us.map (·.2), Bd 150 r) ∧
  ∀ (H' : Hp) (t : Addr), Same H H' → Fx K H' t (x + sumR (List.zipWith (fun r s => r * s) xs (us.map (·.2)))) → Q (.ref t) H'
theorem okLLawValue {fLLawValue : Addr} {fdLLawValue : FuncData} (F : Fun K "_law_value" "_law_value" sLLawValue fLLawValue fdLLawValue) (T : Txt mg) {aZERO : Addr} (CT : Cons K mg aZERO) {CPartError CNought : Addr} (EX : Exns K mg CPartError CNought)
    {fLLawPlus : Addr} {fdLLawPlus : FuncData} (GLLawPlus : FnOk P w K mg base CX0 2 fLLawPlus fdLLawPlus ["a", "b"] (spLLawPlus K)) (gLLawPlus : mg "_law_plus" = some (.ref fLLawPlus)) (kpLLawPlus : PySem.W.keepIn K (.ref fLLawPlus) = true) (bLLawPlus : Binds K fdLLawPlus ["a", "b"] [])
    {fLLawTimes : Addr} {fdLLawTimes : FuncData} (GLLawTimes : FnOk P w K mg base CX0 2 fLLawTimes fdLLawTimes ["a", "b"] (spLLawTimes K)) (gLLawTimes : mg "_law_times" = some (.ref fLLawTimes)) (kpLLawTimes : PySem.W.keepIn K (.ref fLLawTimes) = true) (bLLawTimes : Binds K fdLLawTimes ["a", "b"] []) :
    FnOk P w K mg base CX0 3 fLLawValue fdLLawValue ["worth", "setting"] (spLLawValue K) := by
  refine F.ok scLLawValue (fun vs H Q E h => ?_) (fun cdv A outer s H vs Q E hr h => ?_)
  · obtain ⟨a, l, x, xs, vs, rfl, ⟨p, q, us, hA, hp, hq, hus, rfl⟩, hL, hvs, hlen, h9, bx, bxs, bvs, k⟩ := h
    rfl
  · obtain ⟨a, l, x, xs, vs, rfl, ⟨p, q, us, hA, hp, hq, hus, rfl⟩, hL, hvs, hlen, h9, bx, bxs, bvs, k⟩ := h
    refine ⟨_, (pss_cons (ps_set (i := 2) scLLawValue.nd rfl (Or.inl rfl) (pe_ix ix_tup (pv 0) pe_int (fun _ _ => rfl)))
      (C8.pss_cut (ps_for PassesOwn.never rfl (pi_range1 rfl T.range (pa_cons (pe_callB call_len_seq (by rfl) T.len PySem.boot_len (pa_cons (pv 1) pa_nil)) pa_nil)) (pg_name (i := 3) scLLawValue.nd rfl (Or.inl rfl))
        (pss_one (ps_set (i := 2) scLLawValue.nd rfl (Or.inl rfl) (pe_call GLLawPlus hr (by rfl) gLLawPlus kpLLawPlus bLLawPlus .nil pass0 (pa_cons (pv 2) (pa_cons (pe_call GLLawTimes hr (by rfl) gLLawTimes kpLLawTimes bLLawTimes .nil pass0 (pa_cons (pe_ix ix_tup (pe_ix ix_tup (pv 0) pe_int (fun _ _ => rfl)) (pv 3) (fun _ _ => rfl)) (pa_cons (pe_ix ix_list (pv 1) (pv 3) (fun _ _ => rfl)) pa_nil))) pa_nil))))))
      (pss_one (ps_ret (pv 2))))), ?_⟩
    have hlen' := hlen
    rw [List.length_map] at hlen h9
    have bz := zw_bd (n := 150) (fun r hr => (bxs r hr).up (by decide)) bvs
    refine ⟨.ref a, rfl, a, _, 0, _, rfl, rfl, hA, atI_nat (j := 0) rfl, ?_⟩
    refine ⟨fun σ' H' => ∃ (t : Addr) (v3 : Option V), σ' = [some (.ref a), some (.ref l), some (.ref t), v3] ∧ Same H H' ∧ Fx K H' t (x + sumR (List.zipWith (fun r s => r * s) (us.map (·.2)) (vs.map (·.2)))), ?_, ?_⟩
    · refine ⟨.ref l, rfl, l, _, rfl, .inl hL, us.length, by rw [fr_len, hlen], by omega, by omega, ?_⟩
      refine for_range (n := us.length) (fun i σ' H' => ∃ (t : Addr) (v3 : Option V), σ' = [some (.ref a), some (.ref l), some (.ref t), v3] ∧ Same H H' ∧ Fx K H' t (x + sumR ((List.zipWith (fun r s => r * s) (us.map (·.2)) (vs.map (·.2))).take i))) ?_ ?_ ?_
      · refine ⟨p, none, rfl, Same.refl _, ?_⟩
        rw [List.take_zero, show sumR [] = 0 from rfl, Rat.add_zero]
        exact hp
      · rintro i σ' H' hi ⟨t, v3, rfl, s1, ht⟩
        have hi2 : i < vs.length := by omega
        have hw : us[i]? = some us[i] := List.getElem?_eq_getElem hi
        have hw2 : vs[i]? = some vs[i] := List.getElem?_eq_getElem hi2
        have m1 : us[i] ∈ us := List.getElem_mem _
        have m2 : vs[i] ∈ vs := List.getElem_mem _
        have hi0 : (0 : Int) + (i : Int) = (i : Int) := by omega
        have a1 : (fr us)[i]? = some (.ref us[i].1) := by
          rw [show fr us = us.map fun w => V.ref w.1 from rfl, List.getElem?_map, hw]
          rfl
        have a2 : (fr vs)[i]? = some (.ref vs[i].1) := by
          rw [show fr vs = vs.map fun w => V.ref w.1 from rfl, List.getElem?_map, hw2]
          rfl
        have zz : (List.zipWith (fun r s => r * s) (us.map (·.2)) (vs.map (·.2)))[i]? = some (us[i].2 * vs[i].2) := by
          rw [List.getElem?_zipWith, List.getElem?_map, List.getElem?_map, hw, hw2]
          rfl
        have b1 := sum_bd bz i (by rw [List.length_zipWith, List.length_map, List.length_map]; omega)
        have bu := bxs us[i].2 (List.mem_map_of_mem m1)
        have bv := bvs vs[i].2 (List.mem_map_of_mem m2)
        refine ⟨_, rfl, .ref a, rfl, a, _, 1, _, rfl, rfl, same_tup s1 hA, atI_nat (j := 1) rfl, ?_⟩
        rw [hi0]
        refine ⟨_, rfl, q, _, _, _, rfl, rfl, same_tup s1 hq, atI_nat a1, .ref l, rfl, _, rfl, l, _, _, _, rfl, rfl, s1.seq hL, atI_nat a2, us[i].1, vs[i].1, us[i].2, vs[i].2, rfl, (hus _ m1).same s1, (hvs _ m2).same s1, bu.up (by decide), bv.up (by decide), fun H2 t2 s2 f2 => ?_⟩
        refine ⟨t, t2, _, _, rfl, ht.same s2, f2, (bx.add b1).up (by omega), (bu.mul bv).up (by decide), fun H3 t3 s3 f3 => ?_⟩
        refine ⟨t3, _, rfl, s1.trans (s2.trans s3), ?_⟩
        rw [take_sum zz, ← Rat.add_assoc]
        exact f3
      · rintro σ' H' ⟨t, v3, rfl, s1, ht⟩
        refine ⟨t, v3, rfl, s1, ?_⟩
        rw [List.take_of_length_le (by rw [List.length_zipWith, List.length_map, List.length_map]; omega)] at ht
        exact ht
    rintro σ' H' ⟨t, v3, rfl, s1, ht⟩
    exact ⟨_, rfl, k H' t s1 ht⟩
/-- the number of a draw -/
def nmd (d : Int) : Rat := Rat.divInt (d % 19 - 9) (1 + d / 19 % 4)
theorem nmd_bd (d : Int) : Bd 4 (nmd d) := by
  have h1 := Int.emod_nonneg d (show (19 : Int) ≠ 0 by decide)
  have h2 := Int.emod_lt_of_pos d (show (0 : Int) < 19 by decide)
  have h3 := Int.emod_nonneg (d / 19) (show (4 : Int) ≠ 0 by decide)
  have h4 := Int.emod_lt_of_pos (d / 19) (show (0 : Int) < 4 by decide)
  exact bd_of (by omega) (by have : (2 : Nat) ^ 4 = 16 := rfl; omega) (by have : (2 : Nat) ^ 4 = 16 := rfl; omega)
def spLLawNumber (K : PySem.W.Frag) : Sp := fun vs H Q _ => ∃ d : Int, vs = [.int d] ∧ ∀ (H' : Hp) (t : Addr), Same H H' → Fx K H' t (nmd d) → Q (.ref t) H'
theorem okLLawNumber {fLLawNumber : Addr} {fdLLawNumber : FuncData} (F : Fun K "_law_number" "_law_number" sLLawNumber fLLawNumber fdLLawNumber) (T : Txt mg) {aZERO : Addr} (CT : Cons K mg aZERO) {CPartError CNought : Addr} (EX : Exns K mg CPartError CNought)
    {fLLawFraction : Addr} {fdLLawFraction : FuncData} (GLLawFraction : FnOk P w K mg base CX0 1 fLLawFraction fdLLawFraction ["number", "divisor"] (spLLawFraction K)) (gLLawFraction : mg "_law_fraction" = some (.ref fLLawFraction)) (kpLLawFraction : PySem.W.keepIn K (.ref fLLawFraction) = true) (bLLawFraction : Binds K fdLLawFraction ["number", "divisor"] []) :
    FnOk P w K mg base CX0 2 fLLawNumber fdLLawNumber ["draw"] (spLLawNumber K) := by
  refine F.ok scLLawNumber (fun vs H Q E h => ?_) (fun cdv A outer s H vs Q E hr h => ?_)
  · obtain ⟨d, rfl, k⟩ := h
    rfl
  · obtain ⟨d, rfl, k⟩ := h
    refine ⟨_, (pss_one (ps_ret (pe_call GLLawFraction hr (by rfl) gLLawFraction kpLLawFraction bLLawFraction .nil pass0 (pa_cons (pe_op op_sub (pe_op op_mod (pv 0) pe_int) pe_int) (pa_cons (pe_op op_add pe_int (pe_op op_mod (pe_op op_fdiv (pv 0) pe_int) pe_int)) pa_nil))))), ?_⟩
    have h1 := Int.emod_nonneg d (show (19 : Int) ≠ 0 by decide)
    have h2 := Int.emod_lt_of_pos d (show (0 : Int) < 19 by decide)
    have h3 := Int.emod_nonneg (d / 19) (show (4 : Int) ≠ 0 by decide)
    have h4 := Int.emod_lt_of_pos (d / 19) (show (0 : Int) < 4 by decide)
    have c : (1000 : Nat) < 2 ^ 1800 := Nat.lt_of_lt_of_le (by decide) (Nat.pow_le_pow_right (n := 2) (i := 10) (by decide) (by decide))
    walk_at "rd"
    exact ⟨d % 19 - 9, 1 + d / 19 % 4, rfl, by omega, by omega, by omega, fun H' t s1 e1 => k H' t s1 (fx_rd (by omega) e1)⟩
theorem Bd.ov {a b : Nat} {r s : Rat} (h : Bd a r) (h2 : Bd b s) (h0 : s ≠ 0) : Bd (a + b) (r / s) := by
  rw [ov_div]
  exact bd_of (od_ne h0) (wl h.1 h2.den) (wl h.den h2.1)
theorem at_bd4 {x : Rat} {xs us : List Rat} (bx : Bd 4 x) (h1 : ∀ r ∈ xs, Bd 4 r) (h2 : ∀ r ∈ us, Bd 4 r) (hl : xs.length ≤ 3) : Bd 33 (x + sumR (List.zipWith (fun r s => r * s) xs us)) := by
  have b := sum_bd (zw_bd h1 h2) _ (Nat.le_refl _)
  rw [List.take_length] at b
  exact (bx.add b).up (by rw [List.length_zipWith]; omega)
theorem way_sum (f : Rat) : ∀ {xs ss gs : List Rat}, ss.length = xs.length → gs.length = xs.length → sumR (List.zipWith (fun r s => r * s) xs (List.zipWith (fun s g => s + f * (g + -s)) ss gs)) = sumR (List.zipWith (fun r s => r * s) xs ss) + f * (sumR (List.zipWith (fun r s => r * s) xs gs) - sumR (List.zipWith (fun r s => r * s) xs ss)) := by
  intro xs
  induction xs with
  | nil =>
    intro ss gs h1 h2
    rw [List.zipWith_nil_left, List.zipWith_nil_left, List.zipWith_nil_left, show sumR [] = 0 from rfl]
    grind
  | cons x xs ih =>
    intro ss gs h1 h2
    cases ss with
    | nil => cases h1
    | cons s ss =>
      cases gs with
      | nil => cases h2
      | cons g gs =>
        rw [List.zipWith_cons_cons, List.zipWith_cons_cons, List.zipWith_cons_cons, List.zipWith_cons_cons, sum_cons, sum_cons, sum_cons, ih (by simpa using h1) (by simpa using h2)]
        grind
theorem way_zero {x : Rat} {xs ss gs : List Rat} (h1 : ss.length = xs.length) (h2 : gs.length = xs.length) {r0 r1 : Rat} (e0 : x + sumR (List.zipWith (fun r s => r * s) xs ss) = r0) (e1 : x + sumR (List.zipWith (fun r s => r * s) xs gs) = r1) (hne : r0 ≠ r1) :
    x + sumR (List.zipWith (fun r s => r * s) xs (List.zipWith (fun s g => s + r0 / (r0 - r1) * (g + -s)) ss gs)) = 0 := by
  rw [way_sum _ h1 h2]
  have h : r0 - r1 ≠ 0 := fun z => hne (by grind)
  grind
theorem fx_neg {K : PySem.W.Frag} {H : Hp} {t : Addr} {r : Rat} (h : SqT K H t (zs [-r.num, (r.den : Int)])) : Fx K H t (-r) := by
  unfold Fx
  rw [Rat.neg_num, Rat.neg_den]
  exact h
def spLaw (K : PySem.W.Frag) : Sp := fun vs H Q _ => ∃ (a : Addr) (ns : List Int), vs = [.ref a] ∧ SqL K H a (ns.map V.int) ∧ ns.length ≤ 63 ∧ ∀ H', Q (.bl true) H'
theorem okLaw {fLaw : Addr} {fdLaw : FuncData} (F : Fun K "law" "law" sLaw fLaw fdLaw) (T : Txt mg) {aZERO : Addr} (CT : Cons K mg aZERO) {CPartError CNought : Addr} (EX : Exns K mg CPartError CNought)
    {fLLawRow : Addr} {fdLLawRow : FuncData} (GLLawRow : FnOk P w K mg base CX0 1 fLLawRow fdLLawRow ["cell", "size", "base"] (spLLawRow K)) (gLLawRow : mg "_law_row" = some (.ref fLLawRow)) (kpLLawRow : PySem.W.keepIn K (.ref fLLawRow) = true) (bLLawRow : Binds K fdLLawRow ["cell", "size", "base"] [])
    {fRoot : Addr} {fdRoot : FuncData} (GRoot : FnOk P w K mg base CX0 5 fRoot fdRoot ["way", "worth"] (spRoot K)) (gRoot : mg "root" = some (.ref fRoot)) (kpRoot : PySem.W.keepIn K (.ref fRoot) = true) (bRoot : Binds K fdRoot ["way", "worth"] [])
    {fLLawValue : Addr} {fdLLawValue : FuncData} (GLLawValue : FnOk P w K mg base CX0 3 fLLawValue fdLLawValue ["worth", "setting"] (spLLawValue K)) (gLLawValue : mg "_law_value" = some (.ref fLLawValue)) (kpLLawValue : PySem.W.keepIn K (.ref fLLawValue) = true) (bLLawValue : Binds K fdLLawValue ["worth", "setting"] [])
    {fLLawCell : Addr} {fdLLawCell : FuncData} (GLLawCell : FnOk P w K mg base CX0 1 fLLawCell fdLLawCell ["script", "k"] (spLLawCell K)) (gLLawCell : mg "_law_cell" = some (.ref fLLawCell)) (kpLLawCell : PySem.W.keepIn K (.ref fLLawCell) = true) (bLLawCell : Binds K fdLLawCell ["script", "k"] [])
    {fLLawNumber : Addr} {fdLLawNumber : FuncData} (GLLawNumber : FnOk P w K mg base CX0 2 fLLawNumber fdLLawNumber ["draw"] (spLLawNumber K)) (gLLawNumber : mg "_law_number" = some (.ref fLLawNumber)) (kpLLawNumber : PySem.W.keepIn K (.ref fLLawNumber) = true) (bLLawNumber : Binds K fdLLawNumber ["draw"] [])
    {fLLawIsFraction : Addr} {fdLLawIsFraction : FuncData} (GLLawIsFraction : FnOk P w K mg base CX0 2 fLLawIsFraction fdLLawIsFraction ["actual"] (spLLawIsFraction K)) (gLLawIsFraction : mg "_law_is_fraction" = some (.ref fLLawIsFraction)) (kpLLawIsFraction : PySem.W.keepIn K (.ref fLLawIsFraction) = true) (bLLawIsFraction : Binds K fdLLawIsFraction ["actual"] [])
    {fLLawPlus : Addr} {fdLLawPlus : FuncData} (GLLawPlus : FnOk P w K mg base CX0 2 fLLawPlus fdLLawPlus ["a", "b"] (spLLawPlus K)) (gLLawPlus : mg "_law_plus" = some (.ref fLLawPlus)) (kpLLawPlus : PySem.W.keepIn K (.ref fLLawPlus) = true) (bLLawPlus : Binds K fdLLawPlus ["a", "b"] [])
    {fLLawTimes : Addr} {fdLLawTimes : FuncData} (GLLawTimes : FnOk P w K mg base CX0 2 fLLawTimes fdLLawTimes ["a", "b"] (spLLawTimes K)) (gLLawTimes : mg "_law_times" = some (.ref fLLawTimes)) (kpLLawTimes : PySem.W.keepIn K (.ref fLLawTimes) = true) (bLLawTimes : Binds K fdLLawTimes ["a", "b"] []) :
    FnOk P w K mg base CX0 6 fLaw fdLaw ["script"] (spLaw K) := by
  refine F.ok scLaw (fun vs H Q E h => ?_) (fun cdv A outer s H vs Q E hr h => ?_)
  · obtain ⟨S, ns, rfl, hS0, hlen, fin⟩ := h
    rfl
  · obtain ⟨S, ns, rfl, hS0, hlen, fin⟩ := h
    refine ⟨_, (pss_cons (ps_set (i := 1) scLaw.nd rfl (Or.inr rfl) (pe_op op_add pe_int (pe_op op_mod (pe_callTy call_int1 (by rfl) T.int (by decide +kernel) (pa_cons (pe_call GLLawCell (hr.mono (by decide)) (by rfl) gLLawCell kpLLawCell bLLawCell .nil pass0 (pa_cons (pv 0) (pa_cons pe_int pa_nil))) pa_nil)) pe_int)))
      (pss_cons (ps_set (i := 2) scLaw.nd rfl (Or.inr rfl) (pe_call GLLawRow (hr.mono (by decide)) (by rfl) gLLawRow kpLLawRow bLLawRow .nil pass0 (pa_cons (pe_call GLLawCell (hr.mono (by decide)) (by rfl) gLLawCell kpLLawCell bLLawCell .nil pass0 (pa_cons (pv 0) (pa_cons pe_int pa_nil))) (pa_cons (pe_op op_add pe_int (pe_op op_mul pe_int (pv 1))) (pa_cons pe_int pa_nil)))))
      (pss_cons (ps_set (i := 3) scLaw.nd rfl (Or.inl rfl) (pe_tup (pa_cons (pe_call GLLawNumber (hr.mono (by decide)) (by rfl) gLLawNumber kpLLawNumber bLLawNumber .nil pass0 (pa_cons (pe_ix ix_list (pv 2) pe_int (fun _ _ => rfl)) pa_nil)) (pa_cons (pe_callTy call_tuple_of (by rfl) T.tuple (by decide +kernel) (pa_cons (pe_lc (own := [("k", 11)]) (by rfl) scLaw.nd (pi_range1 rfl T.range (pa_cons (pv 1) pa_nil)) (blkOk_by (own := [("k", 11)]) (N := ["script", "many", "draw", "worth", "start", "goal", "way", "found", "first", "last", "place", "k", "step"]) (sc := defScope sLaw) (by decide +kernel)) (fun _ _ _ _ _ => (pg_name (i := 11) scLaw.nd rfl (Or.inl rfl))) (fun _ _ _ _ _ => pts_nil) (fun _ _ _ _ _ => (pe_call GLLawNumber (hr.mono (by decide)) (by rfl) gLLawNumber kpLLawNumber bLLawNumber .nil pass0 (pa_cons (pe_ix (show IxR _ (rIxL K) from ix_list) (pv 2) (pe_op op_add pe_int (pv 11)) (fun _ _ => rfl)) pa_nil)))) pa_nil)) pa_nil))))
      (pss_cons (ps_setLc (i := 4) (own := [("k", 11)]) (by rfl) scLaw.nd rfl rfl (sw_true rfl rfl rfl (by decide +kernel)) (pi_range1 rfl T.range (pa_cons (pv 1) pa_nil)) (blkOk_by (own := [("k", 11)]) (N := ["script", "many", "draw", "worth", "start", "goal", "way", "found", "first", "last", "place", "k", "step"]) (sc := defScope sLaw) (by decide +kernel)) (fun _ _ _ _ _ => (pg_name (i := 11) scLaw.nd rfl (Or.inl rfl))) (fun _ _ _ _ _ => pts_nil) (fun _ _ _ _ _ => (pe_call GLLawNumber (hr.mono (by decide)) (by rfl) gLLawNumber kpLLawNumber bLLawNumber .nil pass0 (pa_cons (pe_ix (show IxR _ (rIxL K) from ix_list) (pv 2) (pe_op op_add (pe_op op_add pe_int (pv 1)) (pv 11)) (fun _ _ => rfl)) pa_nil))))
      (pss_cons (ps_setLc (i := 5) (own := [("k", 11)]) (by rfl) scLaw.nd rfl rfl (sw_true rfl rfl rfl (by decide +kernel)) (pi_range1 rfl T.range (pa_cons (pv 1) pa_nil)) (blkOk_by (own := [("k", 11)]) (N := ["script", "many", "draw", "worth", "start", "goal", "way", "found", "first", "last", "place", "k", "step"]) (sc := defScope sLaw) (by decide +kernel)) (fun _ _ _ _ _ => (pg_name (i := 11) scLaw.nd rfl (Or.inl rfl))) (fun _ _ _ _ _ => pts_nil) (fun _ _ _ _ _ => (pe_call GLLawNumber (hr.mono (by decide)) (by rfl) gLLawNumber kpLLawNumber bLLawNumber .nil pass0 (pa_cons (pe_ix (show IxR _ (rIxL K) from ix_list) (pv 2) (pe_op op_add (pe_op op_add pe_int (pe_op op_mul pe_int (pv 1))) (pv 11)) (fun _ _ => rfl)) pa_nil))))
      (C8.pss_cut (ps_if (pt_cmpR op_eq (pe_op op_mod (pe_callTy call_int1 (by rfl) T.int (by decide +kernel) (pa_cons (pe_call GLLawCell (hr.mono (by decide)) (by rfl) gLLawCell kpLLawCell bLLawCell .nil pass0 (pa_cons (pv 0) (pa_cons pe_int pa_nil))) pa_nil)) pe_int) pe_int (nomark _))
        (pss_one (ps_set (i := 5) scLaw.nd rfl (Or.inl rfl) (pe_callTy call_list_of (by rfl) T.list (by decide +kernel) (pa_cons (pv 4) pa_nil))))
        pss_nil)
      (pss_cons (ps_set (i := 6) scLaw.nd rfl (Or.inl rfl) (pe_tup (pa_cons (pv 4) (pa_cons (pv 5) pa_nil))))
      (pss_cons (ps_set (i := 7) scLaw.nd rfl (Or.inl rfl) (pe_call GRoot hr (by rfl) gRoot kpRoot bRoot .nil pass0 (pa_cons (pv 6) (pa_cons (pv 3) pa_nil))))
      (pss_cons (ps_set (i := 8) scLaw.nd rfl (Or.inl rfl) (pe_call GLLawValue (hr.mono (by decide)) (by rfl) gLLawValue kpLLawValue bLLawValue .nil pass0 (pa_cons (pv 3) (pa_cons (pv 4) pa_nil))))
      (pss_cons (ps_set (i := 9) scLaw.nd rfl (Or.inl rfl) (pe_call GLLawValue (hr.mono (by decide)) (by rfl) gLLawValue kpLLawValue bLLawValue .nil pass0 (pa_cons (pv 3) (pa_cons (pv 5) pa_nil))))
      (pss_cons (ps_if (pt_cmpR (op_eqD hr.units) (pv 8) (pv 9) (nomark _))
        (pss_one (ps_ret (pe_cmpR op_isN (pv 7) pe_non (nomark _))))
        pss_nil)
      (pss_cons (ps_if (pt_not (pt_val (pe_call GLLawIsFraction (hr.mono (by decide)) (by rfl) gLLawIsFraction kpLLawIsFraction bLLawIsFraction .nil pass0 (pa_cons (pv 7) pa_nil))))
        (pss_one (ps_ret pe_bl))
        pss_nil)
      (pss_cons (ps_set (i := 10) scLaw.nd rfl (Or.inl rfl) (pe_lst pa_nil))
      (C8.pss_cut (ps_for PassesOwn.never rfl (pi_range1 rfl T.range (pa_cons (pv 1) pa_nil)) (pg_name (i := 11) scLaw.nd rfl (Or.inl rfl))
        (pss_cons (ps_set (i := 12) scLaw.nd rfl (Or.inl rfl) (pe_call GLLawPlus (hr.mono (by decide)) (by rfl) gLLawPlus kpLLawPlus bLLawPlus .nil pass0 (pa_cons (pe_ix ix_list (pv 5) (pv 11) (fun _ _ => rfl)) (pa_cons (pe_tup (pa_cons (pe_un un_neg (pe_ix ix_tup (pe_ix ix_list (pv 4) (pv 11) (fun _ _ => rfl)) pe_int (fun _ _ => rfl))) (pa_cons (pe_ix ix_tup (pe_ix ix_list (pv 4) (pv 11) (fun _ _ => rfl)) pe_int (fun _ _ => rfl)) pa_nil))) pa_nil))))
        (pss_one (ps_expr (pe_bm PySem.F.plainAttrs_list PySem.F.slot_list_append PySem.F.type_list_append mt_append (pv 10) (pa_cons (pe_call GLLawPlus (hr.mono (by decide)) (by rfl) gLLawPlus kpLLawPlus bLLawPlus .nil pass0 (pa_cons (pe_ix ix_list (pv 4) (pv 11) (fun _ _ => rfl)) (pa_cons (pe_call GLLawTimes (hr.mono (by decide)) (by rfl) gLLawTimes kpLLawTimes bLLawTimes .nil pass0 (pa_cons (pv 7) (pa_cons (pv 12) pa_nil))) pa_nil))) pa_nil))))))
      (pss_one (ps_ret (pe_cmpR (op_eqD hr.units) (pe_call GLLawValue (hr.mono (by decide)) (by rfl) gLLawValue kpLLawValue bLLawValue .nil pass0 (pa_cons (pv 3) (pa_cons (pv 10) pa_nil))) (pe_tup (pa_cons pe_int (pa_cons pe_int pa_nil))) (nomark _)))))))))))))))))), ?_⟩
    have hS : SqL K H S (zs ns) := hS0
    refine ⟨_, rfl, S, ns, 0, rfl, hS, fun c0 hc0 => ?_⟩
    refine Or.inl ⟨_, rfl, _, _, rfl, rfl, by show (0 : Int) < 3; decide, _, _, rfl, rfl, ?_⟩
    have o0 := Int.emod_nonneg c0 (show (3 : Int) ≠ 0 by decide)
    have o1 := Int.emod_lt_of_pos c0 (show (0 : Int) < 3 by decide)
    obtain ⟨m, hm⟩ : ∃ m : Nat, 1 + c0 % 3 = (m : Int) := ⟨(1 + c0 % 3).toNat, by omega⟩
    have hm1 : 1 ≤ m := by omega
    have hm3 : m ≤ 3 := by omega
    show gName 1 (V.int (1 + c0 % 3)) _ _ _
    rw [hm]
    clear hm o0 o1
    refine ⟨_, rfl, S, ns, 1, rfl, hS, fun c1 hc1 => ?_⟩
    refine ⟨_, rfl, _, _, rfl, rfl, .inl (by constructor <;> decide), _, _, rfl, rfl, ?_⟩
    refine ⟨c1, 1000, 1 + 3 * m, by simp, by decide, by decide, by omega, fun H1 l rs s1 nl el hrs hr0 => ?_⟩
    have hl1 : SqL K H1 l (zs rs) := SqL.of el
    have dr0 : ∀ j, j < 1 + 3 * m → (zs rs)[j]? = some (.int (rs.getD j 0)) := fun j hj => by
      rw [show zs rs = rs.map V.int from rfl, List.getElem?_map, List.getElem?_eq_getElem (by omega), List.getD_eq_getElem?_getD, List.getElem?_eq_getElem (by omega)]
      rfl
    refine ⟨.ref l, rfl, l, _, 0, _, rfl, rfl, hl1, atI_nat (dr0 0 (by omega)), _, rfl, fun H2 t2 s2 f2 => ?_⟩
    -- the slopes
    refine ⟨_, rfl, m, rfl, by omega, by omega, fun D hD => ?_⟩
    refine lc_row (K := K) walk_range ((List.range m).map fun (i : Nat) => nmd (rs.getD (1 + i) 0)) (by simp) (by omega) hD (fun _ _ => trivial) ?_ ?_
    · rintro i c v H3 H4 kk hr s3 ⟨rfl, rfl⟩ kk2
      rw [List.getElem?_map] at hr
      have hi : i < m := by
        rcases Nat.lt_or_ge i m with h | h
        · exact h
        · rw [List.getElem?_eq_none (by rw [List.length_range]; exact h)] at hr
          cases hr
      rw [List.getElem?_range hi] at hr
      obtain rfl : nmd (rs.getD (1 + i) 0) = c := Option.some.inj hr
      refine ⟨rfl, .ref l, rfl, _, rfl, _, _, rfl, rfl, l, _, _, _, rfl, rfl, (s2.trans s3).seq hl1, (by rw [show (1 : Int) + (0 + (i : Int)) = ((1 + i : Nat) : Int) by omega]; exact atI_nat (dr0 _ (by omega))), _, rfl, fun H9 t9 s9 f9 => kk2 t9 H9 s9 f9⟩
    intro H3 ws s3 e3 r3 m3
    refine ⟨D, _, rfl, .inl ⟨SqL.of e3, fun t4 n4 => ?_⟩⟩
    have s4 := same_upd (o := .tup (fr ws)) n4
    have e4 : (upd H3 t4 (.tup (fr ws))) t4 = some (.tup (fr ws)) := upd_same
    generalize upd H3 t4 (.tup (fr ws)) = H4 at *
    refine ⟨by show 2 ≤ sizeLine; decide, fun t5 n5 => ?_⟩
    have s5 := same_upd (o := .tup [.ref t2, .ref t4]) n5
    have e5 : (upd H4 t5 (.tup [.ref t2, .ref t4])) t5 = some (.tup [.ref t2, .ref t4]) := upd_same
    generalize upd H4 t5 (.tup [.ref t2, .ref t4]) = H5 at *
    have hV : Vx K H5 t5 (nmd (rs.getD 0 0)) ((List.range m).map fun (i : Nat) => nmd (rs.getD (1 + i) 0)) := ⟨t2, t4, ws, SqT.of e5, f2.same (s3.trans (s4.trans s5)), SqT.of (s5 _ _ e4), r3.same (s4.trans s5), m3⟩
    have hl5 : SqL K H5 l (zs rs) := (s2.trans (s3.trans (s4.trans s5))).seq hl1
    have hS5 : SqL K H5 S (zs ns) := (s1.trans (s2.trans (s3.trans (s4.trans s5)))).seq hS
    have bx : Bd 4 (nmd (rs.getD 0 0)) := nmd_bd _
    have bxs : ∀ r ∈ (List.range m).map (fun (i : Nat) => nmd (rs.getD (1 + i) 0)), Bd 4 r := fun r hr => by
      obtain ⟨i, _, rfl⟩ := List.mem_map.mp hr
      exact nmd_bd _
    have lxs : ((List.range m).map (fun (i : Nat) => nmd (rs.getD (1 + i) 0))).length = m := by simp
    generalize nmd (rs.getD 0 0) = x at hV bx
    generalize (List.range m).map (fun (i : Nat) => nmd (rs.getD (1 + i) 0)) = xs at hV bxs lxs
    -- where the way starts
    refine ⟨_, rfl, m, rfl, by omega, by omega, fun D2 hD2 => ?_⟩
    refine lc_row (K := K) walk_range ((List.range m).map fun (i : Nat) => nmd (rs.getD (1 + m + i) 0)) (by simp) (by omega) hD2 (fun _ _ => trivial) ?_ ?_
    · rintro i c v H6 H7 kk hr s6 ⟨rfl, rfl⟩ kk2
      rw [List.getElem?_map] at hr
      have hi : i < m := by
        rcases Nat.lt_or_ge i m with h | h
        · exact h
        · rw [List.getElem?_eq_none (by rw [List.length_range]; exact h)] at hr
          cases hr
      rw [List.getElem?_range hi] at hr
      obtain rfl : nmd (rs.getD (1 + m + i) 0) = c := Option.some.inj hr
      refine ⟨rfl, .ref l, rfl, _, rfl, _, _, rfl, rfl, _, rfl, _, _, rfl, rfl, l, _, _, _, rfl, rfl, s6.seq hl5, (by rw [show (1 : Int) + (m : Int) + (0 + (i : Int)) = ((1 + m + i : Nat) : Int) by omega]; exact atI_nat (dr0 _ (by omega))), _, rfl, fun H9 t9 s9 f9 => kk2 t9 H9 s9 f9⟩
    intro H6 us s6 e6 r6 m6
    -- where it ends
    refine ⟨_, rfl, m, rfl, by omega, by omega, fun D3 hD3 => ?_⟩
    refine lc_row (K := K) walk_range ((List.range m).map fun (i : Nat) => nmd (rs.getD (1 + 2 * m + i) 0)) (by simp) (by omega) hD3 (fun _ _ => trivial) ?_ ?_
    · rintro i c v H7 H8 kk hr s7 ⟨rfl, rfl⟩ kk2
      rw [List.getElem?_map] at hr
      have hi : i < m := by
        rcases Nat.lt_or_ge i m with h | h
        · exact h
        · rw [List.getElem?_eq_none (by rw [List.length_range]; exact h)] at hr
          cases hr
      rw [List.getElem?_range hi] at hr
      obtain rfl : nmd (rs.getD (1 + 2 * m + i) 0) = c := Option.some.inj hr
      refine ⟨rfl, .ref l, rfl, _, rfl, _, _, rfl, rfl, .inl (by constructor <;> decide), _, _, rfl, rfl, _, rfl, _, _, rfl, rfl, l, _, _, _, rfl, rfl, (s6.trans s7).seq hl5, (by rw [show (1 : Int) + 2 * (m : Int) + (0 + (i : Int)) = ((1 + 2 * m + i : Nat) : Int) by omega]; exact atI_nat (dr0 _ (by omega))), _, rfl, fun H9 t9 s9 f9 => kk2 t9 H9 s9 f9⟩
    intro H7 gs s7 e7 r7 m7
    have bus : ∀ w ∈ us, Bd 4 w.2 := fun w hw => by
      have h : w.2 ∈ us.map (·.2) := List.mem_map_of_mem hw
      rw [m6] at h
      obtain ⟨i, _, h⟩ := List.mem_map.mp h
      rw [← h]
      exact nmd_bd _
    have bgs : ∀ w ∈ gs, Bd 4 w.2 := fun w hw => by
      have h : w.2 ∈ gs.map (·.2) := List.mem_map_of_mem hw
      rw [m7] at h
      obtain ⟨i, _, h⟩ := List.mem_map.mp h
      rw [← h]
      exact nmd_bd _
    have lus : us.length = m := by
      have := congrArg List.length m6
      simpa using this
    have lgs : gs.length = m := by
      have := congrArg List.length m7
      simpa using this
    have hV7 := hV.same (s6.trans s7)
    have hL7 : SqL K H7 D2 (fr us) := s7.seq (SqL.of e6)
    have hR7 := r6.same s7
    have hS7 := (s6.trans s7).seq hS5
    clear m6 m7 dr0 hl5 hl1
    refine ⟨fun σ' H' => ∃ (g : Addr) (gs : List (Addr × Rat)), σ' = [some (.ref S), some (.int m), some (.ref l), some (.ref t5), some (.ref D2), some (.ref g), none, none, none, none, none, none, none] ∧ Same H7 H' ∧ SqL K H' g (fr gs) ∧ Rx K H' gs ∧ gs.length = m ∧ ∀ w ∈ gs, Bd 4 w.2, ?_, ?_⟩
    · refine ⟨_, rfl, S, ns, 2, rfl, hS7, fun c2 hc2 => ?_⟩
      refine Or.inl ⟨_, rfl, _, _, rfl, rfl, by show (0 : Int) < 5; decide, ?_⟩
      refine ⟨rfl, _, rfl, ite2 (fun _ => ?_) (fun _ => ?_)⟩
      · refine ⟨_, rfl, D2, _, rfl, .inl hL7, fun t n => ?_⟩
        exact ⟨t, us, rfl, same_upd n, SqL.of upd_same, hR7.same (same_upd n), lus, bus⟩
      · exact ⟨D3, gs, rfl, Same.refl _, SqL.of e7, r7, lgs, bgs⟩
    clear bgs lgs r7 e7
    clear gs
    rintro σ' H8 ⟨g, gs, rfl, s8, hG8, rG8, lgs, bgs⟩
    refine ⟨_, rfl, _, rfl, by show 2 ≤ sizeLine; decide, fun tw nw => ?_⟩
    have s9 := same_upd (o := .tup [.ref D2, .ref g]) nw
    have e9 : (upd H8 tw (.tup [.ref D2, .ref g])) tw = some (.tup [.ref D2, .ref g]) := upd_same
    generalize upd H8 tw (.tup [.ref D2, .ref g]) = H9 at *
    have s79 := s8.trans s9
    have hV9 := hV7.same s79
    have hL9 := s79.seq hL7
    have hR9 := hR7.same s79
    have hG9 := s9.seq hG8
    have rG9 := rG8.same s9
    have bus' : ∀ r ∈ us.map (·.2), Bd 4 r := fun r hr => by
      obtain ⟨w, hw, rfl⟩ := List.mem_map.mp hr
      exact bus w hw
    have bgs' : ∀ r ∈ gs.map (·.2), Bd 4 r := fun r hr => by
      obtain ⟨w, hw, rfl⟩ := List.mem_map.mp hr
      exact bgs w hw
    have up1 : ∀ r ∈ xs, Bd 30 r := fun r hr => (bxs r hr).up (by decide)
    refine ⟨_, rfl, _, rfl, tw, D2, g, t5, x, xs, us, gs, rfl, SqT.of e9, hL9, hG9, hR9, rG9, hV9, by omega, by omega, by omega, bx.up (by decide), up1, fun w hw => (bus w hw).up (by decide), fun w hw => (bgs w hw).up (by decide), fun heq H10 s10 => ?_, fun hne H10 t10 s10 f10 => ?_⟩
    · refine ⟨_, rfl, _, rfl, t5, D2, x, xs, us, rfl, hV9.same s10, s10.seq hL9, hR9.same s10, by omega, by omega, bx.up (by decide), up1, fun r hr => (bus' r hr).up (by decide), fun H11 t11 s11 f11 => ?_⟩
      have s1011 := s10.trans s11
      refine ⟨_, rfl, _, rfl, t5, g, x, xs, gs, rfl, hV9.same s1011, s1011.seq hG9, rG9.same s1011, by omega, by omega, bx.up (by decide), up1, fun r hr => (bgs' r hr).up (by decide), fun H12 t12 s12 f12 => ?_⟩
      refine ⟨_, rfl, _, rfl, pdr _, pdr _, dpr (f11.same s12), dpr f12, rfl, rfl, ?_⟩
      rw [eqvr]
      refine ⟨_, rfl, ite2 (fun _ => ?_) (fun g => absurd (decide_eq_true heq) g)⟩
      refine ⟨_, rfl, rfl, ?_⟩
      rw [decide_eq_true rfl]
      exact fin _
    have b0 := at_bd4 bx bxs bus' (by omega)
    have b1 := at_bd4 bx bxs bgs' (by omega)
    refine ⟨_, rfl, _, rfl, t5, D2, x, xs, us, rfl, hV9.same s10, s10.seq hL9, hR9.same s10, by omega, by omega, bx.up (by decide), up1, fun r hr => (bus' r hr).up (by decide), fun H11 t11 s11 f11 => ?_⟩
    have s1011 := s10.trans s11
    refine ⟨_, rfl, _, rfl, t5, g, x, xs, gs, rfl, hV9.same s1011, s1011.seq hG9, rG9.same s1011, by omega, by omega, bx.up (by decide), up1, fun r hr => (bgs' r hr).up (by decide), fun H12 t12 s12 f12 => ?_⟩
    refine ⟨_, rfl, _, rfl, pdr _, pdr _, dpr (f11.same s12), dpr f12, rfl, rfl, ?_⟩
    rw [eqvr]
    refine ⟨_, rfl, ite2 (fun g => absurd (of_decide_eq_true g) hne) (fun _ => ?_)⟩
    have s912 := s1011.trans s12
    have f10' := f10.same (s11.trans s12)
    generalize e0 : x + sumR (List.zipWith (fun r s => r * s) xs (us.map (·.2))) = r0 at *
    generalize e1 : x + sumR (List.zipWith (fun r s => r * s) xs (gs.map (·.2))) = r1 at *
    have hd : r0 - r1 ≠ 0 := fun z => hne (by grind)
    have bf := b0.ov (b0.sub b1) hd
    generalize ef : r0 / (r0 - r1) = f at *
    refine ⟨_, rfl, t10, f.num, (f.den : Int), rfl, f10', f.reduced, den_pos f, (bf.up (by decide) : Bd 1800 f).1, (bf.up (by decide) : Bd 1800 f).2, fun H13 s13 => ?_⟩
    refine ⟨true, rfl, iteF ?_⟩
    refine ⟨Nat.zero_le _, fun L hL => ?_⟩
    have sL : Same H13 (upd H13 L (.lst [])) := same_upd hL
    have s913 := s912.trans s13
    have hL13 := s913.seq hL9
    have hR13 := hR9.same s913
    have hG13 := s913.seq hG9
    have rG13 := rG9.same s913
    have hV13 := hV9.same s913
    have f13 := f10'.same s13
    refine ⟨fun σ' H' => ∃ (v11 v12 : Option V) (ps : List (Addr × Rat)), σ' = [some (.ref S), some (.int m), some (.ref l), some (.ref t5), some (.ref D2), some (.ref g), some (.ref tw), some (.ref t10), some (.ref t11), some (.ref t12), some (.ref L), v11, v12] ∧ Same H13 H' ∧ H' L = some (.lst (fr ps)) ∧ Rx K H' ps ∧ ps.map (·.2) = List.zipWith (fun s g => s + f * (g + -s)) (us.map (·.2)) (gs.map (·.2)), ?_, ?_⟩
    · refine ⟨_, rfl, m, rfl, by omega, by omega, for_range (n := m) (fun i σ' H' => ∃ (v11 v12 : Option V) (ps : List (Addr × Rat)), σ' = [some (.ref S), some (.int m), some (.ref l), some (.ref t5), some (.ref D2), some (.ref g), some (.ref tw), some (.ref t10), some (.ref t11), some (.ref t12), some (.ref L), v11, v12] ∧ Same H13 H' ∧ H' L = some (.lst (fr ps)) ∧ Rx K H' ps ∧ ps.map (·.2) = (List.zipWith (fun s g => s + f * (g + -s)) (us.map (·.2)) (gs.map (·.2))).take i) ?_ ?_ ?_⟩
      · exact ⟨none, none, [], rfl, sL, upd_same, (fun _ z => nomatch z), rfl⟩
      · rintro i σ' H' hi ⟨v11, v12, ps, rfl, s14, eL, rps, mps⟩
        have hw : us[i]? = some us[i] := List.getElem?_eq_getElem (by omega)
        have hw2 : gs[i]? = some gs[i] := List.getElem?_eq_getElem (by omega)
        have m1 : us[i] ∈ us := List.getElem_mem _
        have m2 : gs[i] ∈ gs := List.getElem_mem _
        have a1 : (fr us)[i]? = some (.ref us[i].1) := by
          rw [show fr us = us.map fun w => V.ref w.1 from rfl, List.getElem?_map, hw]
          rfl
        have a2 : (fr gs)[i]? = some (.ref gs[i].1) := by
          rw [show fr gs = gs.map fun w => V.ref w.1 from rfl, List.getElem?_map, hw2]
          rfl
        have zz : (List.zipWith (fun s g => s + f * (g + -s)) (us.map (·.2)) (gs.map (·.2)))[i]? = some (us[i].2 + f * (gs[i].2 + -us[i].2)) := by
          rw [List.getElem?_zipWith, List.getElem?_map, List.getElem?_map, hw, hw2]
          rfl
        have bu := bus us[i] m1
        have bg := bgs gs[i] m2
        have fu := (hR13 _ m1).same s14
        have fg := (rG13 _ m2).same s14
        have hi0 : (0 : Int) + (i : Int) = (i : Int) := by omega
        have ps_len : (fr ps).length < sizeLine := by
          have := congrArg List.length mps
          rw [List.length_map, List.length_take] at this
          rw [fr_len]
          exact small1000 (by omega)
        generalize us[i] = u at *
        generalize gs[i] = v at *
        refine ⟨_, rfl, _, rfl, g, _, _, _, rfl, rfl, s14.seq hG13, by rw [hi0]; exact atI_nat a2, ?_⟩
        refine ⟨_, rfl, _, rfl, D2, _, _, _, rfl, rfl, s14.seq hL13, by rw [hi0]; exact atI_nat a1, u.1, _, 0, _, rfl, rfl, fu, atI_nat (j := 0) rfl, _, rfl, ?_⟩
        refine ⟨_, rfl, _, rfl, D2, _, _, _, rfl, rfl, s14.seq hL13, by rw [hi0]; exact atI_nat a1, u.1, _, 1, _, rfl, rfl, fu, atI_nat (j := 1) rfl, by show 2 ≤ sizeLine; decide, fun tn nn => ?_⟩
        have s15 := same_upd (o := .tup [.int (-u.2.num), .int (u.2.den : Int)]) nn
        have fn : Fx K (upd H' tn (.tup [.int (-u.2.num), .int (u.2.den : Int)])) tn (-u.2) := fx_neg (SqT.of upd_same)
        generalize upd H' tn (.tup [.int (-u.2.num), .int (u.2.den : Int)]) = H15 at *
        refine ⟨v.1, tn, v.2, -u.2, rfl, fg.same s15, fn, bg.up (by decide), bu.neg.up (by decide), fun H16 t16 s16 f16 => ?_⟩
        have s46 := s15.trans s16
        have s16' := s14.trans s46
        refine ⟨_, rfl, .inl ⟨rfl, _, SqL.of (s46 _ _ eL)⟩, ?_⟩
        refine ⟨_, rfl, _, rfl, D2, _, _, _, rfl, rfl, s16'.seq hL13, by rw [hi0]; exact atI_nat a1, ?_⟩
        refine ⟨_, rfl, _, rfl, t10, t16, f, v.2 + -u.2, rfl, f13.same s16', f16, bf.up (by decide), (bg.add bu.neg).up (by decide), fun H17 t17 s17 f17 => ?_⟩
        refine ⟨u.1, t17, u.2, _, rfl, fu.same (s46.trans s17), f17, bu.up (by decide), (bf.mul (bg.add bu.neg)).up (by decide), fun H18 t18 s18 f18 => ?_⟩
        have s418 := s46.trans (s17.trans s18)
        refine ⟨L, _, _, rfl, rfl, s418 _ _ eL, ps_len, ?_⟩
        refine ⟨_, _, ps ++ [(t18, u.2 + f * (v.2 + -u.2))], rfl, fun b o e => ?_, ?_, fun w hw => ?_, ?_⟩
        · rw [upd_ne (ne_of_none e hL)]
          exact s418 _ _ (s14 _ _ e)
        · rw [upd_same, show fr (ps ++ [(t18, u.2 + f * (v.2 + -u.2))]) = fr ps ++ [.ref t18] from List.map_append]
        · have e4 := s418 _ _ eL
          rcases List.mem_append.mp hw with h | h
          · exact over_fx ((rps.same s418) w h) e4 fun b o hb e => by rw [upd_ne hb]; exact e
          · rw [List.mem_singleton.mp h]
            exact over_fx f18 e4 fun b o hb e => by rw [upd_ne hb]; exact e
        · rw [List.map_append, mps, List.take_add_one, zz]
          rfl
      · rintro σ' H' ⟨v11, v12, ps, rfl, s14, eL, rps, mps⟩
        refine ⟨v11, v12, ps, rfl, s14, eL, rps, ?_⟩
        rw [mps, List.take_of_length_le (by rw [List.length_zipWith, List.length_map, List.length_map]; omega)]
    rintro σ' H' ⟨v11, v12, ps, rfl, s14, eL, rps, mps⟩
    have bps : ∀ r ∈ ps.map (·.2), Bd 150 r := fun r hr => by
      rw [mps] at hr
      obtain ⟨i, hi⟩ := List.mem_iff_getElem?.mp hr
      obtain ⟨a, b, h1, h2, rfl⟩ := zw_some hi
      have b1 := bus' a (List.mem_of_getElem? h1)
      have b2 := bgs' b (List.mem_of_getElem? h2)
      exact (b1.add (bf.mul (b2.add b1.neg))).up (by decide)
    have lps : ps.length = xs.length := by
      have := congrArg List.length mps
      rw [List.length_map, List.length_zipWith, List.length_map, List.length_map] at this
      omega
    refine ⟨_, rfl, _, rfl, t5, L, x, xs, ps, rfl, hV13.same s14, SqL.of eL, rps, lps, by omega, bx.up (by decide), up1, bps, fun H15 t15 s15 f15 => ?_⟩
    rw [mps, ← ef, way_zero (by simp; omega) (by simp; omega) e0 e1 hne] at f15
    refine ⟨by show 2 ≤ sizeLine; decide, fun t16 n16 => ?_⟩
    refine ⟨pdr 0, pdr 0, dpr (f15.same (same_upd n16)), dpr (fx_lit upd_same rfl rfl), rfl, rfl, ?_⟩
    rw [eqvr]
    exact fin _
end
theorem all_mk {l : PySem.W.OpenLaw} {w : World} {K : PySem.W.Frag} {h : Heap} {mg : Str → Option Value} {fa f1 f2 f3 f4 f5 f6 f7 f8 f9 f10 f11 f12 f13 f14 f15 f16 f17 f18 aZERO CPartError CNought T1 : Addr} (X : K.In h) (G : h.Ns mainGlobals mg) (hfa : mg "law" = some (.ref fa))
    {od1 an1 od2 an2 od3 an3 od4 an4 od5 an5 od6 an6 od7 an7 od8 an8 od9 an9 od10 an10 od11 an11 od12 an12 od13 an13 od14 an14 od15 an15 od16 an16 od17 an17 od18 an18 : Option Addr} {sl1 sl2 sl3 sl4 sl5 sl6 sl7 sl8 sl9 sl10 sl11 sl12 sl13 sl14 sl15 sl16 sl17 sl18 : Array (Option Value)} {oc1 kV1 dc1 pm1 cd1 ct1 oc2 kV2 dc2 pm2 cd2 ct2 oc3 kV3 dc3 pm3 cd3 ct3 oc4 kV4 dc4 pm4 cd4 ct4 oc5 kV5 dc5 pm5 cd5 ct5 oc6 kV6 dc6 pm6 cd6 ct6 oc7 kV7 dc7 pm7 cd7 ct7 oc8 kV8 dc8 pm8 cd8 ct8 oc9 kV9 dc9 pm9 cd9 ct9 oc10 kV10 dc10 pm10 cd10 ct10 oc11 kV11 dc11 pm11 cd11 ct11 oc12 kV12 dc12 pm12 cd12 ct12 oc13 kV13 dc13 pm13 cd13 ct13 oc14 kV14 dc14 pm14 cd14 ct14 oc15 kV15 dc15 pm15 cd15 ct15 oc16 kV16 dc16 pm16 cd16 ct16 oc17 kV17 dc17 pm17 cd17 ct17 oc18 kV18 dc18 pm18 cd18 ct18 : Value}
    (a1 : PySem.W.nsIn K mainGlobals "fraction" = some (some (.ref f1))) (l1 : K.lookup f1 = some ⟨oc1, od1, .func (PySem.W.fnOf "fraction" "fraction" (defArgs sFraction) (defBody sFraction) (defScope sFraction) (.ref T1) kV1 dc1 pm1 an1 cd1 ct1), sl1⟩) {ocT1 : Value} {odT1 : Option Addr} {slT1 : Array (Option Value)} {nT1 : Nat} {tT1 : Tok} (lT1 : K.lookup T1 = some ⟨ocT1, odT1, .seq #[.int 1 tT1] nT1, slT1⟩) (c1 : PySem.W.codeIn K cd1 "fraction" = true) (k1 : PySem.W.keepIn K (.ref f1) = true)
    (a2 : PySem.W.nsIn K mainGlobals "plus" = some (some (.ref f2))) (l2 : K.lookup f2 = some ⟨oc2, od2, .func (PySem.W.fnOf "plus" "plus" (defArgs sPlus) (defBody sPlus) (defScope sPlus) .none kV2 dc2 pm2 an2 cd2 ct2), sl2⟩) (c2 : PySem.W.codeIn K cd2 "plus" = true) (k2 : PySem.W.keepIn K (.ref f2) = true)
    (a3 : PySem.W.nsIn K mainGlobals "minus" = some (some (.ref f3))) (l3 : K.lookup f3 = some ⟨oc3, od3, .func (PySem.W.fnOf "minus" "minus" (defArgs sMinus) (defBody sMinus) (defScope sMinus) .none kV3 dc3 pm3 an3 cd3 ct3), sl3⟩) (c3 : PySem.W.codeIn K cd3 "minus" = true) (k3 : PySem.W.keepIn K (.ref f3) = true)
    (a4 : PySem.W.nsIn K mainGlobals "times" = some (some (.ref f4))) (l4 : K.lookup f4 = some ⟨oc4, od4, .func (PySem.W.fnOf "times" "times" (defArgs sTimes) (defBody sTimes) (defScope sTimes) .none kV4 dc4 pm4 an4 cd4 ct4), sl4⟩) (c4 : PySem.W.codeIn K cd4 "times" = true) (k4 : PySem.W.keepIn K (.ref f4) = true)
    (a5 : PySem.W.nsIn K mainGlobals "over" = some (some (.ref f5))) (l5 : K.lookup f5 = some ⟨oc5, od5, .func (PySem.W.fnOf "over" "over" (defArgs sOver) (defBody sOver) (defScope sOver) .none kV5 dc5 pm5 an5 cd5 ct5), sl5⟩) (c5 : PySem.W.codeIn K cd5 "over" = true) (k5 : PySem.W.keepIn K (.ref f5) = true)
    (a6 : PySem.W.nsIn K mainGlobals "total" = some (some (.ref f6))) (l6 : K.lookup f6 = some ⟨oc6, od6, .func (PySem.W.fnOf "total" "total" (defArgs sTotal) (defBody sTotal) (defScope sTotal) .none kV6 dc6 pm6 an6 cd6 ct6), sl6⟩) (c6 : PySem.W.codeIn K cd6 "total" = true) (k6 : PySem.W.keepIn K (.ref f6) = true)
    (a7 : PySem.W.nsIn K mainGlobals "value" = some (some (.ref f7))) (l7 : K.lookup f7 = some ⟨oc7, od7, .func (PySem.W.fnOf "value" "value" (defArgs sValue) (defBody sValue) (defScope sValue) .none kV7 dc7 pm7 an7 cd7 ct7), sl7⟩) (c7 : PySem.W.codeIn K cd7 "value" = true) (k7 : PySem.W.keepIn K (.ref f7) = true)
    (a8 : PySem.W.nsIn K mainGlobals "root" = some (some (.ref f8))) (l8 : K.lookup f8 = some ⟨oc8, od8, .func (PySem.W.fnOf "root" "root" (defArgs sRoot) (defBody sRoot) (defScope sRoot) .none kV8 dc8 pm8 an8 cd8 ct8), sl8⟩) (c8 : PySem.W.codeIn K cd8 "root" = true) (k8 : PySem.W.keepIn K (.ref f8) = true)
    (a9 : PySem.W.nsIn K mainGlobals "_law_is_integer" = some (some (.ref f9))) (l9 : K.lookup f9 = some ⟨oc9, od9, .func (PySem.W.fnOf "_law_is_integer" "_law_is_integer" (defArgs sLLawIsInteger) (defBody sLLawIsInteger) (defScope sLLawIsInteger) .none kV9 dc9 pm9 an9 cd9 ct9), sl9⟩) (c9 : PySem.W.codeIn K cd9 "_law_is_integer" = true) (k9 : PySem.W.keepIn K (.ref f9) = true)
    (a10 : PySem.W.nsIn K mainGlobals "_law_cell" = some (some (.ref f10))) (l10 : K.lookup f10 = some ⟨oc10, od10, .func (PySem.W.fnOf "_law_cell" "_law_cell" (defArgs sLLawCell) (defBody sLLawCell) (defScope sLLawCell) .none kV10 dc10 pm10 an10 cd10 ct10), sl10⟩) (c10 : PySem.W.codeIn K cd10 "_law_cell" = true) (k10 : PySem.W.keepIn K (.ref f10) = true)
    (a11 : PySem.W.nsIn K mainGlobals "_law_row" = some (some (.ref f11))) (l11 : K.lookup f11 = some ⟨oc11, od11, .func (PySem.W.fnOf "_law_row" "_law_row" (defArgs sLLawRow) (defBody sLLawRow) (defScope sLLawRow) .none kV11 dc11 pm11 an11 cd11 ct11), sl11⟩) (c11 : PySem.W.codeIn K cd11 "_law_row" = true) (k11 : PySem.W.keepIn K (.ref f11) = true)
    (a12 : PySem.W.nsIn K mainGlobals "_law_fraction" = some (some (.ref f12))) (l12 : K.lookup f12 = some ⟨oc12, od12, .func (PySem.W.fnOf "_law_fraction" "_law_fraction" (defArgs sLLawFraction) (defBody sLLawFraction) (defScope sLLawFraction) .none kV12 dc12 pm12 an12 cd12 ct12), sl12⟩) (c12 : PySem.W.codeIn K cd12 "_law_fraction" = true) (k12 : PySem.W.keepIn K (.ref f12) = true)
    (a13 : PySem.W.nsIn K mainGlobals "_law_plus" = some (some (.ref f13))) (l13 : K.lookup f13 = some ⟨oc13, od13, .func (PySem.W.fnOf "_law_plus" "_law_plus" (defArgs sLLawPlus) (defBody sLLawPlus) (defScope sLLawPlus) .none kV13 dc13 pm13 an13 cd13 ct13), sl13⟩) (c13 : PySem.W.codeIn K cd13 "_law_plus" = true) (k13 : PySem.W.keepIn K (.ref f13) = true)
    (a14 : PySem.W.nsIn K mainGlobals "_law_times" = some (some (.ref f14))) (l14 : K.lookup f14 = some ⟨oc14, od14, .func (PySem.W.fnOf "_law_times" "_law_times" (defArgs sLLawTimes) (defBody sLLawTimes) (defScope sLLawTimes) .none kV14 dc14 pm14 an14 cd14 ct14), sl14⟩) (c14 : PySem.W.codeIn K cd14 "_law_times" = true) (k14 : PySem.W.keepIn K (.ref f14) = true)
    (a15 : PySem.W.nsIn K mainGlobals "_law_is_fraction" = some (some (.ref f15))) (l15 : K.lookup f15 = some ⟨oc15, od15, .func (PySem.W.fnOf "_law_is_fraction" "_law_is_fraction" (defArgs sLLawIsFraction) (defBody sLLawIsFraction) (defScope sLLawIsFraction) .none kV15 dc15 pm15 an15 cd15 ct15), sl15⟩) (c15 : PySem.W.codeIn K cd15 "_law_is_fraction" = true) (k15 : PySem.W.keepIn K (.ref f15) = true)
    (a16 : PySem.W.nsIn K mainGlobals "_law_value" = some (some (.ref f16))) (l16 : K.lookup f16 = some ⟨oc16, od16, .func (PySem.W.fnOf "_law_value" "_law_value" (defArgs sLLawValue) (defBody sLLawValue) (defScope sLLawValue) .none kV16 dc16 pm16 an16 cd16 ct16), sl16⟩) (c16 : PySem.W.codeIn K cd16 "_law_value" = true) (k16 : PySem.W.keepIn K (.ref f16) = true)
    (a17 : PySem.W.nsIn K mainGlobals "_law_number" = some (some (.ref f17))) (l17 : K.lookup f17 = some ⟨oc17, od17, .func (PySem.W.fnOf "_law_number" "_law_number" (defArgs sLLawNumber) (defBody sLLawNumber) (defScope sLLawNumber) .none kV17 dc17 pm17 an17 cd17 ct17), sl17⟩) (c17 : PySem.W.codeIn K cd17 "_law_number" = true) (k17 : PySem.W.keepIn K (.ref f17) = true)
    (a18 : PySem.W.nsIn K mainGlobals "law" = some (some (.ref f18))) (l18 : K.lookup f18 = some ⟨oc18, od18, .func (PySem.W.fnOf "law" "law" (defArgs sLaw) (defBody sLaw) (defScope sLaw) .none kV18 dc18 pm18 an18 cd18 ct18), sl18⟩) (c18 : PySem.W.codeIn K cd18 "law" = true) (k18 : PySem.W.keepIn K (.ref f18) = true)
    (z1 : PySem.W.nsIn K mainGlobals "abs" = some none)
    (z2 : PySem.W.nsIn K mainGlobals "bool" = some none)
    (z3 : PySem.W.nsIn K mainGlobals "int" = some none)
    (z4 : PySem.W.nsIn K mainGlobals "isinstance" = some none)
    (z5 : PySem.W.nsIn K mainGlobals "len" = some none)
    (z6 : PySem.W.nsIn K mainGlobals "list" = some none)
    (z7 : PySem.W.nsIn K mainGlobals "range" = some none)
    (z8 : PySem.W.nsIn K mainGlobals "tuple" = some none)
    (z9 : PySem.W.nsIn K mainGlobals "zip" = some none)
    (z10 : PySem.W.nsIn K mainGlobals "gcd" = some (some (.builtin "math.gcd")))
    (u0 : PySem.W.nsIn K mainGlobals "ZERO" = some (some (.ref aZERO))) {dw0 : Option Addr} {nw0 : Nat} {sw0 : Array (Option Value)} {tk0_0 tk0_1 : Tok} (w0 : K.lookup aZERO = some ⟨.type "tuple", dw0, .seq #[.int 0 tk0_0, .int 1 tk0_1] nw0, sw0⟩)
    (y0 : PySem.W.nsIn K mainGlobals "PartError" = some (some (.ref CPartError)))
    (y1 : PySem.W.nsIn K mainGlobals "Nought" = some (some (.ref CNought)))
    (y2 : PySem.W.excIn K CNought [.type "ValueError", .type "Exception", .type "BaseException", .type "object"] "ValueError.__new__" = true)
    (y3 : PySem.W.keepIn K (.ref CNought) = true)
    (y4 : PySem.W.subIn K (.ref CNought) (.type "BaseException") = some true)
    (y5 : PySem.W.typeIn K (.ref CNought) = some (.type "type"))
    (y6 : PySem.W.subIn K (.ref CPartError) (.type "BaseException") = some true)
    (y7 : PySem.W.isClsIn K CPartError = true)
    (y8 : PySem.W.typeIn K (.ref CPartError) = some (.type "type"))
    (y9 : PySem.W.subIn K (.ref CNought) (.ref CPartError) = some true)
    (y10 : PySem.W.subIn K (.ref CNought) (.ref CNought) = some true)
    (y11 : PySem.W.findIn K (.ref CNought) "__getattribute__" = some (some (.builtin "BaseException.__getattribute__")))
    (y12 : PySem.W.findIn K (.ref CNought) "__getattr__" = some none)
    (y13 : PySem.W.hasDictIn K CNought = true)
    (y14 : PySem.W.findIn K (.ref CNought) "__class__" = some (some (.builtin "object.__class__")))
    (y15 : PySem.W.specialIn K (.builtin "object.__class__") "__get__" = some (some (.builtin "getset_descriptor.__get__")))
    (y16 : PySem.W.takesIn K (.builtin "object.__class__") = some true)
    (y17 : PySem.W.mroIn K CNought (.type "object") = some true)
    : ∃ fd : FuncData, (∀ (s : Shared) (v : Value), BindsTo s fd ⟨[v], []⟩ [("script", v)]) ∧ ∀ base : Heap, K.In base → base.Ns mainGlobals mg → FnOk l.prog w K mg base CX0 6 fa fd ["script"] (spLaw K) := by
  have e := hfa.symm.trans (PySem.W.mg_of X G a18)
  cases e
  have T : Txt mg := ⟨PySem.W.mg_none_of X G z1, PySem.W.mg_none_of X G z2, PySem.W.mg_none_of X G z3, PySem.W.mg_none_of X G z4, PySem.W.mg_none_of X G z5, PySem.W.mg_none_of X G z6, PySem.W.mg_none_of X G z7, PySem.W.mg_none_of X G z8, PySem.W.mg_none_of X G z9, PySem.W.mg_of X G z10⟩
  have CT : Cons K mg aZERO := ⟨PySem.W.mg_of X G u0, fun H => .inr ⟨_, _, _, w0, rfl, rfl, by show 2 ≤ sizeLine; decide, (.cons ⟨_, rfl⟩ (.cons ⟨_, rfl⟩ .nil))⟩⟩
  have EX : Exns K mg CPartError CNought := ⟨PySem.W.mg_of X G y0, PySem.W.mg_of X G y1, y2, y3, y4, y5, y6, y7, y8, y9, y10, y11, y12, y13, y14, y15, y16, y17⟩
  have F1 : FunD K "fraction" "fraction" (defArgs sFraction) (defBody sFraction) (defScope sFraction) [.int 1] [] f1 _ := ⟨⟨oc1, od1, .ref T1, kV1, dc1, pm1, an1, cd1, ct1, sl1, rfl, l1, c1, .inr ⟨by decide, T1, _, [.int 1 tT1], nT1, rfl, lT1, rfl, .cons ⟨_, rfl⟩ .nil⟩, .inl rfl⟩, k1⟩
  have F2 := fun_mk (st := sPlus) l2 c2 k2
  have F3 := fun_mk (st := sMinus) l3 c3 k3
  have F4 := fun_mk (st := sTimes) l4 c4 k4
  have F5 := fun_mk (st := sOver) l5 c5 k5
  have F6 := fun_mk (st := sTotal) l6 c6 k6
  have F7 := fun_mk (st := sValue) l7 c7 k7
  have F8 := fun_mk (st := sRoot) l8 c8 k8
  have F9 := fun_mk (st := sLLawIsInteger) l9 c9 k9
  have F10 := fun_mk (st := sLLawCell) l10 c10 k10
  have F11 := fun_mk (st := sLLawRow) l11 c11 k11
  have F12 := fun_mk (st := sLLawFraction) l12 c12 k12
  have F13 := fun_mk (st := sLLawPlus) l13 c13 k13
  have F14 := fun_mk (st := sLLawTimes) l14 c14 k14
  have F15 := fun_mk (st := sLLawIsFraction) l15 c15 k15
  have F16 := fun_mk (st := sLLawValue) l16 c16 k16
  have F17 := fun_mk (st := sLLawNumber) l17 c17 k17
  have F18 := fun_mk (st := sLaw) l18 c18 k18
  obtain ⟨e1, ve1, b1⟩ := F1.binds1 (ps := ["number", "divisor"]) 2 1 (by decide) rfl (fun T kV doc pm an cdv ct us its hu hi => match us, its, hu, hi with | [_, _], [_], _, _ => ⟨_, rfl, by kernel_rfl⟩)
  cases ve1
  obtain ⟨d1, vd1, bd1⟩ := F1.binds1 (ps := ["number", "divisor"]) 1 0 (by decide) rfl (fun T kV doc pm an cdv ct us its hu hi => match us, its, hu, hi with | [_], [_], _, _ => ⟨_, rfl, by kernel_rfl⟩)
  have b2 := F2.binds (ps := ["a", "b"]) fun _ _ _ _ _ _ us hl => match us, hl with | [_, _], _ => rfl
  have b3 := F3.binds (ps := ["a", "b"]) fun _ _ _ _ _ _ us hl => match us, hl with | [_, _], _ => rfl
  have b4 := F4.binds (ps := ["a", "b"]) fun _ _ _ _ _ _ us hl => match us, hl with | [_, _], _ => rfl
  have b5 := F5.binds (ps := ["a", "b"]) fun _ _ _ _ _ _ us hl => match us, hl with | [_, _], _ => rfl
  have b6 := F6.binds (ps := ["row"]) fun _ _ _ _ _ _ us hl => match us, hl with | [_], _ => rfl
  have b7 := F7.binds (ps := ["a", "setting"]) fun _ _ _ _ _ _ us hl => match us, hl with | [_, _], _ => rfl
  have b8 := F8.binds (ps := ["way", "worth"]) fun _ _ _ _ _ _ us hl => match us, hl with | [_, _], _ => rfl
  have b9 := F9.binds (ps := ["actual"]) fun _ _ _ _ _ _ us hl => match us, hl with | [_], _ => rfl
  have b10 := F10.binds (ps := ["script", "k"]) fun _ _ _ _ _ _ us hl => match us, hl with | [_, _], _ => rfl
  have b11 := F11.binds (ps := ["cell", "size", "base"]) fun _ _ _ _ _ _ us hl => match us, hl with | [_, _, _], _ => rfl
  have b12 := F12.binds (ps := ["number", "divisor"]) fun _ _ _ _ _ _ us hl => match us, hl with | [_, _], _ => rfl
  have b13 := F13.binds (ps := ["a", "b"]) fun _ _ _ _ _ _ us hl => match us, hl with | [_, _], _ => rfl
  have b14 := F14.binds (ps := ["a", "b"]) fun _ _ _ _ _ _ us hl => match us, hl with | [_, _], _ => rfl
  have b15 := F15.binds (ps := ["actual"]) fun _ _ _ _ _ _ us hl => match us, hl with | [_], _ => rfl
  have b16 := F16.binds (ps := ["worth", "setting"]) fun _ _ _ _ _ _ us hl => match us, hl with | [_, _], _ => rfl
  have b17 := F17.binds (ps := ["draw"]) fun _ _ _ _ _ _ us hl => match us, hl with | [_], _ => rfl
  refine ⟨PySem.W.fnOf "law" "law" (defArgs sLaw) (defBody sLaw) (defScope sLaw) .none kV18 dc18 pm18 an18 cd18 ct18, fun s v => .of_eq rfl, fun base _ _ => ?_⟩
  have G1 : FnOk l.prog w K mg base (L2.CX l.prog w) 1 f1 _ ["number", "divisor"] (spFraction K CNought) := okFraction F1 T CT EX 
  have G2 : FnOk l.prog w K mg base CX0 2 f2 _ ["a", "b"] (spPlus K) := okPlus F2 T CT EX G1 (PySem.W.mg_of X G a1) k1 b1 vd1 bd1
  have G3 : FnOk l.prog w K mg base CX0 2 f3 _ ["a", "b"] (spMinus K) := okMinus F3 T CT EX G1 (PySem.W.mg_of X G a1) k1 b1 vd1 bd1
  have G4 : FnOk l.prog w K mg base CX0 2 f4 _ ["a", "b"] (spTimes K) := okTimes F4 T CT EX G1 (PySem.W.mg_of X G a1) k1 b1 vd1 bd1
  have G5 : FnOk l.prog w K mg base (L2.CX l.prog w) 2 f5 _ ["a", "b"] (spOver K CNought) := okOver F5 T CT EX G1 (PySem.W.mg_of X G a1) k1 b1 vd1 bd1
  have G6 : FnOk l.prog w K mg base CX0 3 f6 _ ["row"] (spTotal K) := okTotal F6 T CT EX G2 (PySem.W.mg_of X G a2) k2 b2
  have G7 : FnOk l.prog w K mg base CX0 4 f7 _ ["a", "setting"] (spValue K) := okValue F7 T CT EX G2 (PySem.W.mg_of X G a2) k2 b2 G6 (PySem.W.mg_of X G a6) k6 b6 G4 (PySem.W.mg_of X G a4) k4 b4
  have G8 : FnOk l.prog w K mg base CX0 5 f8 _ ["way", "worth"] (spRoot K) := okRoot F8 T CT EX G5 (PySem.W.mg_of X G a5) k5 b5 G7 (PySem.W.mg_of X G a7) k7 b7 G3 (PySem.W.mg_of X G a3) k3 b3
  have G9 : FnOk l.prog w K mg base CX0 1 f9 _ ["actual"] (spLLawIsInteger K) := okLLawIsInteger F9 T CT EX 
  have G10 : FnOk l.prog w K mg base CX0 1 f10 _ ["script", "k"] (spLLawCell K) := okLLawCell F10 T CT EX 
  have G11 : FnOk l.prog w K mg base CX0 1 f11 _ ["cell", "size", "base"] (spLLawRow K) := okLLawRow F11 T CT EX 
  have G12 : FnOk l.prog w K mg base CX0 1 f12 _ ["number", "divisor"] (spLLawFraction K) := okLLawFraction F12 T CT EX 
  have G13 : FnOk l.prog w K mg base CX0 2 f13 _ ["a", "b"] (spLLawPlus K) := okLLawPlus F13 T CT EX G12 (PySem.W.mg_of X G a12) k12 b12
  have G14 : FnOk l.prog w K mg base CX0 2 f14 _ ["a", "b"] (spLLawTimes K) := okLLawTimes F14 T CT EX G12 (PySem.W.mg_of X G a12) k12 b12
  have G15 : FnOk l.prog w K mg base CX0 2 f15 _ ["actual"] (spLLawIsFraction K) := okLLawIsFraction F15 T CT EX G12 (PySem.W.mg_of X G a12) k12 b12 G9 (PySem.W.mg_of X G a9) k9 b9
  have G16 : FnOk l.prog w K mg base CX0 3 f16 _ ["worth", "setting"] (spLLawValue K) := okLLawValue F16 T CT EX G13 (PySem.W.mg_of X G a13) k13 b13 G14 (PySem.W.mg_of X G a14) k14 b14
  have G17 : FnOk l.prog w K mg base CX0 2 f17 _ ["draw"] (spLLawNumber K) := okLLawNumber F17 T CT EX G12 (PySem.W.mg_of X G a12) k12 b12
  exact okLaw F18 T CT EX G11 (PySem.W.mg_of X G a11) k11 b11 G8 (PySem.W.mg_of X G a8) k8 b8 G16 (PySem.W.mg_of X G a16) k16 b16 G10 (PySem.W.mg_of X G a10) k10 b10 G17 (PySem.W.mg_of X G a17) k17 b17 G15 (PySem.W.mg_of X G a15) k15 b15 G13 (PySem.W.mg_of X G a13) k13 b13 G14 (PySem.W.mg_of X G a14) k14 b14
end Tp
open PySem PySem.W PyProof.Rows
set_option maxHeartbeats 0 in
theorem PySem.Challenge.cw_truepart_k71_roots_along_a_way_holds : PySem.Challenge.rw_truepart_k71_roots_along_a_way.Holds := by
  w_on; o_law; k_head; (case hw => w_witness2)
  k_fill
  refine L2.walk_of (l := PySem.Challenge.rw_truepart_k71_roots_along_a_way) (n := 63) (k := 6) (x := "script") (CX := fun _ => L2.CX0) (sp := fun w => Tp.spLaw _) rfl (by decide) rfl ⟨rfl, by decide, by decide⟩ (fun w h Y => PySem.W.kIn_of Y) ?F (fun _ _ a ns hl _ hS => ⟨a, ns, rfl, hS, hl, fun _ => rfl⟩) (fun _ _ _ _ _ h => h)
  case F =>
    intro w mg fa h KX G hmg
    refine' Tp.all_mk KX G hmg ?a1 ?l1 ?lT1 ?c1 ?k1 ?a2 ?l2 ?c2 ?k2 ?a3 ?l3 ?c3 ?k3 ?a4 ?l4 ?c4 ?k4 ?a5 ?l5 ?c5 ?k5 ?a6 ?l6 ?c6 ?k6 ?a7 ?l7 ?c7 ?k7 ?a8 ?l8 ?c8 ?k8 ?a9 ?l9 ?c9 ?k9 ?a10 ?l10 ?c10 ?k10 ?a11 ?l11 ?c11 ?k11 ?a12 ?l12 ?c12 ?k12 ?a13 ?l13 ?c13 ?k13 ?a14 ?l14 ?c14 ?k14 ?a15 ?l15 ?c15 ?k15 ?a16 ?l16 ?c16 ?k16 ?a17 ?l17 ?c17 ?k17 ?a18 ?l18 ?c18 ?k18 ?z1 ?z2 ?z3 ?z4 ?z5 ?z6 ?z7 ?z8 ?z9 ?z10 ?u0 ?w0 ?y0 ?y1 ?y2 ?y3 ?y4 ?y5 ?y6 ?y7 ?y8 ?y9 ?y10 ?y11 ?y12 ?y13 ?y14 ?y15 ?y16 ?y17
    (case a1 => k_is)
    (case l1 => k_is)
    (case lT1 => k_is)
    (case c1 => k_is)
    (case k1 => k_is)
    (case a2 => k_is)
    (case l2 => k_is)
    (case c2 => k_is)
    (case k2 => k_is)
    (case a3 => k_is)
    (case l3 => k_is)
    (case c3 => k_is)
    (case k3 => k_is)
    (case a4 => k_is)
    (case l4 => k_is)
    (case c4 => k_is)
    (case k4 => k_is)
    (case a5 => k_is)
    (case l5 => k_is)
    (case c5 => k_is)
    (case k5 => k_is)
    (case a6 => k_is)
    (case l6 => k_is)
    (case c6 => k_is)
    (case k6 => k_is)
    (case a7 => k_is)
    (case l7 => k_is)
    (case c7 => k_is)
    (case k7 => k_is)
    (case a8 => k_is)
    (case l8 => k_is)
    (case c8 => k_is)
    (case k8 => k_is)
    (case a9 => k_is)
    (case l9 => k_is)
    (case c9 => k_is)
    (case k9 => k_is)
    (case a10 => k_is)
    (case l10 => k_is)
    (case c10 => k_is)
    (case k10 => k_is)
    (case a11 => k_is)
    (case l11 => k_is)
    (case c11 => k_is)
    (case k11 => k_is)
    (case a12 => k_is)
    (case l12 => k_is)
    (case c12 => k_is)
    (case k12 => k_is)
    (case a13 => k_is)
    (case l13 => k_is)
    (case c13 => k_is)
    (case k13 => k_is)
    (case a14 => k_is)
    (case l14 => k_is)
    (case c14 => k_is)
    (case k14 => k_is)
    (case a15 => k_is)
    (case l15 => k_is)
    (case c15 => k_is)
    (case k15 => k_is)
    (case a16 => k_is)
    (case l16 => k_is)
    (case c16 => k_is)
    (case k16 => k_is)
    (case a17 => k_is)
    (case l17 => k_is)
    (case c17 => k_is)
    (case k17 => k_is)
    (case a18 => k_is)
    (case l18 => k_is)
    (case c18 => k_is)
    (case k18 => k_is)
    (case z1 => k_is)
    (case z2 => k_is)
    (case z3 => k_is)
    (case z4 => k_is)
    (case z5 => k_is)
    (case z6 => k_is)
    (case z7 => k_is)
    (case z8 => k_is)
    (case z9 => k_is)
    (case z10 => k_is)
    (case u0 => k_is)
    (case w0 => k_is)
    (case y0 => k_is)
    (case y1 => k_is)
    (case y2 => k_exc)
    (case y3 => k_is)
    (case y4 => k_is)
    (case y5 => k_is)
    (case y6 => k_is)
    (case y7 => k_is)
    (case y8 => k_is)
    (case y9 => k_is)
    (case y10 => first | k_is | rfl)
    (case y11 => k_is)
    (case y12 => k_is)
    (case y13 => k_is)
    (case y14 => k_is)
    (case y15 => k_is)
    (case y16 => k_is)
    (case y17 => k_is)
#print axioms PySem.Challenge.cw_truepart_k71_roots_along_a_way_holds
