import PyProof.Rows.All
import Wide.All
import OpenK.AllK
import Wide.FinOn
import HandS.ForMost
import HandS.Codes
import HandS.Gcd
import HandS.IsInst
import HandS.Wide
import HandS.ForExc
import HandS.ExcIs
import HandS.CallSlots
import HandS.Defaults
import PyProof.StrOps2
import PySem.Challenge.RW_truepart_k02_sums_products_and_order
set_option Elab.async false
set_option linter.all false
set_option maxHeartbeats 8000000
set_option maxRecDepth 100000
namespace Tp
open PySem L2
def top (i : Nat) : Stmt := PySem.Challenge.pw_truepart_k02_sums_products_and_order.main.body.getD i (.Pass ⟨0, 0, 0, 0⟩)
abbrev sFraction : Stmt := top 7
abbrev sPlus : Stmt := top 8
abbrev sMinus : Stmt := top 9
abbrev sTimes : Stmt := top 10
abbrev sOver : Stmt := top 11
abbrev sNegative : Stmt := top 12
abbrev sLess : Stmt := top 13
abbrev sSign : Stmt := top 14
abbrev sMiddle : Stmt := top 15
abbrev sTotal : Stmt := top 16
abbrev sLLawNumber : Stmt := top 18
abbrev sLLawIsWhole : Stmt := top 19
abbrev sLLawFraction : Stmt := top 20
abbrev sLLawDrawn : Stmt := top 21
abbrev sLLawOver : Stmt := top 22
abbrev sLaw : Stmt := top 23
theorem scFraction : FnScope ["number", "divisor", "shared"] ["number", "divisor"] (defScope sFraction) := ⟨rfl, rfl, rfl, by decide +kernel, rfl, by decide +kernel, by decide +kernel⟩
theorem scPlus : FnScope ["a", "b"] ["a", "b"] (defScope sPlus) := ⟨rfl, rfl, rfl, by decide +kernel, rfl, by decide +kernel, by decide +kernel⟩
theorem scMinus : FnScope ["a", "b"] ["a", "b"] (defScope sMinus) := ⟨rfl, rfl, rfl, by decide +kernel, rfl, by decide +kernel, by decide +kernel⟩
theorem scTimes : FnScope ["a", "b"] ["a", "b"] (defScope sTimes) := ⟨rfl, rfl, rfl, by decide +kernel, rfl, by decide +kernel, by decide +kernel⟩
theorem scOver : FnScope ["a", "b"] ["a", "b"] (defScope sOver) := ⟨rfl, rfl, rfl, by decide +kernel, rfl, by decide +kernel, by decide +kernel⟩
theorem scNegative : FnScope ["a"] ["a"] (defScope sNegative) := ⟨rfl, rfl, rfl, by decide +kernel, rfl, by decide +kernel, by decide +kernel⟩
theorem scLess : FnScope ["a", "b"] ["a", "b"] (defScope sLess) := ⟨rfl, rfl, rfl, by decide +kernel, rfl, by decide +kernel, by decide +kernel⟩
theorem scSign : FnScope ["a"] ["a"] (defScope sSign) := ⟨rfl, rfl, rfl, by decide +kernel, rfl, by decide +kernel, by decide +kernel⟩
theorem scMiddle : FnScope ["a", "b"] ["a", "b"] (defScope sMiddle) := ⟨rfl, rfl, rfl, by decide +kernel, rfl, by decide +kernel, by decide +kernel⟩
theorem scTotal : FnScope ["row", "found", "part"] ["row"] (defScope sTotal) := ⟨rfl, rfl, rfl, by decide +kernel, rfl, by decide +kernel, by decide +kernel⟩
theorem scLLawNumber : FnScope ["script", "k", "cell", "first", "second"] ["script", "k"] (defScope sLLawNumber) := ⟨rfl, rfl, rfl, by decide +kernel, rfl, by decide +kernel, by decide +kernel⟩
theorem scLLawIsWhole : FnScope ["actual"] ["actual"] (defScope sLLawIsWhole) := ⟨rfl, rfl, rfl, by decide +kernel, rfl, by decide +kernel, by decide +kernel⟩
theorem scLLawFraction : FnScope ["number", "divisor", "a", "b", "k", "rest"] ["number", "divisor"] (defScope sLLawFraction) := ⟨rfl, rfl, rfl, by decide +kernel, rfl, by decide +kernel, by decide +kernel⟩
theorem scLLawDrawn : FnScope ["draw", "way", "number", "divisor"] ["draw", "way"] (defScope sLLawDrawn) := ⟨rfl, rfl, rfl, by decide +kernel, rfl, by decide +kernel, by decide +kernel⟩
theorem scLLawOver : FnScope ["a", "b", "wrong"] ["a", "b"] (defScope sLLawOver) := ⟨rfl, rfl, rfl, by decide +kernel, rfl, by decide +kernel, by decide +kernel⟩
theorem scLaw : FnScope ["script", "row", "k", "draw", "a", "b", "due", "given", "number", "divisor", "one"] ["script"] (defScope sLaw) := ⟨rfl, rfl, rfl, by decide +kernel, rfl, by decide +kernel, by decide +kernel⟩
structure Txt (mg : Str → Option Value) : Prop where
  bool : mg "bool" = none
  int : mg "int" = none
  isinstance : mg "isinstance" = none
  len : mg "len" = none
  list : mg "list" = none
  range : mg "range" = none
  str : mg "str" = none
  gcd : mg "gcd" = some (.builtin "math.gcd")
structure Cons (K : PySem.W.Frag) (mg : Str → Option Value) (aZERO : Addr) (aONE : Addr) : Prop where
  gZERO : mg "ZERO" = some (.ref aZERO)
  tZERO : ∀ H, SqT K H aZERO ([0, 1].map V.int)
  gONE : mg "ONE" = some (.ref aONE)
  tONE : ∀ H, SqT K H aONE ([1, 1].map V.int)
section
variable {K : PySem.W.Frag} {C D : Addr} {c : Value} {r : Bool}
theorem exm_two (b : PySem.W.subIn K (.ref D) (.type "BaseException") = some true) (i : PySem.W.isClsIn K D = true) (t : PySem.W.typeIn K (.ref D) = some (.type "type")) (s : PySem.W.subIn K c (.ref D) = some r) : PySem.W.exmOne K c (.ref D) = some r := by
  have e1 : (PySem.W.subIn K (.ref D) (.type "BaseException") == some true) = true := by rw [b]; rfl
  have i' : (PySem.W.clsIn K D).isSome = true := i
  have e2 : ((PySem.W.clsIn K D).isSome && PySem.W.typeIn K (.ref D) == some (.type "type")) = true := by rw [i', t]; rfl
  unfold PySem.W.exmOne PySem.W.kitCls
  rw [if_pos e1]
  show (if _ then _ else _) = _
  rw [if_pos e2]
  exact s
theorem kit_self : PySem.W.kitOne K (.ref C) (.ref C) = some true := by
  unfold PySem.W.kitOne
  exact if_pos (beq_iff_eq.mpr rfl)
theorem kit_not (s0 : PySem.W.subIn K (.ref C) (.ref C) = some true) (i : PySem.W.isClsIn K D = true) (t : PySem.W.typeIn K (.ref D) = some (.type "type")) (s : PySem.W.subIn K (.ref C) (.ref D) = some false) : PySem.W.kitOne K (.ref C) (.ref D) = some false := by
  have i' : (PySem.W.clsIn K D).isSome = true := i
  have e2 : ((PySem.W.clsIn K D).isSome && PySem.W.typeIn K (.ref D) == some (.type "type")) = true := by rw [i', t]; rfl
  unfold PySem.W.kitOne PySem.W.kitCls
  rw [if_neg (fun z => ?_)]
  · show (if _ then _ else _) = _
    rw [if_pos e2]
    exact s
  · have e := Value.ref.inj (beq_iff_eq.mp z)
    subst e
    rw [s0] at s
    cases s
theorem kit_kind {T : String} (h : PySem.W.kitMeta T = true) (s : PySem.W.subIn K (.ref C) (.type T) = some r) : PySem.W.kitOne K (.ref C) (.type T) = some r := by
  unfold PySem.W.kitOne PySem.W.kitCls
  rw [if_neg (fun z => by have e := beq_iff_eq.mp z; cases e)]
  show (if _ then _ else _) = _
  rw [if_pos h]
  exact s
end

structure Exns (K : PySem.W.Frag) (mg : Str → Option Value) (CPartError CNought : Addr) : Prop where
  gPartError : mg "PartError" = some (.ref CPartError)
  gNought : mg "Nought" = some (.ref CNought)
  xNought : PySem.W.excIn K CNought [.type "ValueError", .type "Exception", .type "BaseException", .type "object"] "ValueError.__new__" = true
  kNought : PySem.W.keepIn K (.ref CNought) = true
  bNought : PySem.W.subIn K (.ref CNought) (.type "BaseException") = some true
  tNought : PySem.W.typeIn K (.ref CNought) = some (.type "type")
  cb : PySem.W.subIn K (.ref CPartError) (.type "BaseException") = some true
  ci : PySem.W.isClsIn K CPartError = true
  ct : PySem.W.typeIn K (.ref CPartError) = some (.type "type")
  cs : PySem.W.subIn K (.ref CNought) (.ref CPartError) = some true
  ss : PySem.W.subIn K (.ref CNought) (.ref CNought) = some true
  i1 : PySem.W.findIn K (.ref CNought) "__getattribute__" = some (some (.builtin "BaseException.__getattribute__"))
  i2 : PySem.W.findIn K (.ref CNought) "__getattr__" = some none
  i3 : PySem.W.hasDictIn K CNought = true
  i4 : PySem.W.findIn K (.ref CNought) "__class__" = some (some (.builtin "object.__class__"))
  i5 : PySem.W.specialIn K (.builtin "object.__class__") "__get__" = some (some (.builtin "getset_descriptor.__get__"))
  i6 : PySem.W.takesIn K (.builtin "object.__class__") = some true
  i7 : PySem.W.mroIn K CNought (.type "object") = some true
theorem Exns.iNought {K : PySem.W.Frag} {mg : Str → Option Value} {CPartError CNought : Addr} (EX : Exns K mg CPartError CNought) : ExcC K CNought := ⟨EX.i1, EX.i2, EX.bNought, EX.i3, EX.i4, EX.i5, EX.i6, EX.i7⟩
theorem Exns.eNought {K : PySem.W.Frag} {mg : Str → Option Value} {CPartError CNought : Addr} (EX : Exns K mg CPartError CNought) : PySem.W.exmOne K (.ref CNought) (.ref CPartError) = some true := exm_two EX.cb EX.ci EX.ct EX.cs
theorem Exns.nNought {K : PySem.W.Frag} {mg : Str → Option Value} {CPartError CNought : Addr} (EX : Exns K mg CPartError CNought) : PySem.W.kitOne K (.ref CNought) (.ref CNought) = some true := kit_self
local macro_rules | `(tactic| walk_at "rd") => `(tactic| repeat (first | refine ⟨_, rfl, ?_⟩ | refine ⟨rfl, ?_⟩ | refine ⟨_, _, rfl, rfl, ?_⟩ | refine Or.inl ⟨_, rfl, ?_⟩ | refine ⟨(by show (0 : Int) < _; decide), ?_⟩ | refine ⟨⟨by decide, by decide⟩, ?_⟩ | refine ⟨Or.inr ⟨by decide, by decide⟩, ?_⟩ | refine ⟨Or.inl ⟨by decide, by decide⟩, ?_⟩ | refine ⟨⟨by decide, by decide, by decide⟩, ?_⟩))
abbrev zs (l : List Int) : List V := l.map V.int
theorem same_upd {H : Hp} {p : Addr} {o : HO} (h : H p = none) : Same H (upd H p o) := fun b x e => by
  rw [upd_ne (ne_of_none e h)]
  exact e
theorem same_tup {K : PySem.W.Frag} {H H' : Hp} {a : Addr} {xs : List V} (e : Same H H') (h : SqT K H a xs) : SqT K H' a xs := by
  rcases h with (h | ⟨o, h⟩) | h
  · exact .inl (.inl (e _ _ h))
  · exact .inl (.inr ⟨o, e _ _ h⟩)
  · exact .inr h
theorem zs_get {l : List Int} {i : Nat} {v : V} (h : (zs l)[i]? = some v) : ∃ z, v = .int z ∧ l[i]? = some z := by
  rw [show zs l = l.map V.int from rfl, List.getElem?_map] at h
  cases e : l[i]? with
  | none =>
    rw [e] at h
    cases h
  | some z =>
    rw [e] at h
    exact ⟨z, (Option.some.inj h).symm, rfl⟩
theorem zs_snoc {l : List Int} {i : Nat} {z : Int} (f : Int → Int) (h : l[i]? = some z) : zs ((l.map f).take i) ++ [V.int (f z)] = zs ((l.map f).take (i + 1)) := by
  show ((l.map f).take i).map V.int ++ [V.int (f z)] = ((l.map f).take (i + 1)).map V.int
  rw [List.take_add_one, List.getElem?_map, h, List.map_append]
  rfl
theorem zs_len {l : List Int} (n : Nat) (h : l.length ≤ 1000) : (zs (l.take n)).length < sizeLine := by
  show ((l.take n).map V.int).length < sizeLine
  rw [List.length_map, List.length_take]
  exact small1000 (by omega)
theorem ne_of_bang {n m : Int} (h : (!decide (V.int n = V.int m)) = true) : n ≠ m := fun e => by
  rw [e, decide_eq_true rfl] at h
  cases h
theorem eq_of_nobang {n m : Int} (h : ¬ (!decide (V.int n = V.int m)) = true) : n = m := by
  by_cases e : n = m
  · exact e
  · exact absurd (by rw [decide_eq_false (fun z => e (V.int.inj z))]; rfl) h
theorem eq_of_dec {n m : Int} (h : decide (V.int n = V.int m) = true) : n = m := V.int.inj (of_decide_eq_true h)
theorem ne_of_nodec {n m : Int} (h : ¬ decide (V.int n = V.int m) = true) : n ≠ m := fun e => h (decide_eq_true (by rw [e]))

/-! Euclid by turns. -/
/-- one turn of the walk (a, b) -> (b, a % b), of naturals -/
theorem gcd_turn (a b : Nat) : Nat.gcd b (a % b) = Nat.gcd a b := by
  rw [Nat.gcd_comm b, ← Nat.gcd_rec, Nat.gcd_comm]
theorem prod_turn {a b : Nat} (h : b ≤ a) (hb : 0 < b) : 2 * (b * (a % b)) ≤ a * b := by
  have h1 : a % b < b := Nat.mod_lt _ hb
  have h2 : a = b * (a / b) + a % b := (Nat.div_add_mod a b).symm
  have h3 : 1 ≤ a / b := (Nat.one_le_div_iff hb).mpr h
  have h4 : b * 1 ≤ b * (a / b) := Nat.mul_le_mul_left b h3
  have h5 : 2 * (a % b) ≤ a := by omega
  calc 2 * (b * (a % b)) = b * (2 * (a % b)) := by rw [Nat.mul_left_comm]
    _ ≤ b * a := Nat.mul_le_mul_left b h5
    _ = a * b := Nat.mul_comm _ _
/-- what holds behind i turns from (a0, b0) -/
structure Eu (a0 b0 i a b : Nat) : Prop where
  g : Nat.gcd a b = Nat.gcd a0 b0
  p : a * b * 2 ^ i ≤ 2 * (a0 * b0)
  o : i = 0 ∨ b ≤ a
  z : i = 0 → a = a0 ∧ b = b0
theorem Eu.start (a b : Nat) : Eu a b 0 a b := ⟨rfl, by rw [Nat.pow_zero]; omega, .inl rfl, fun _ => ⟨rfl, rfl⟩⟩
theorem Eu.turn {a0 b0 i a b : Nat} (e : Eu a0 b0 i a b) (hb : 0 < b) : Eu a0 b0 (i + 1) b (a % b) := by
  refine ⟨(gcd_turn a b).trans e.g, ?_, .inr (Nat.le_of_lt (Nat.mod_lt _ hb)), fun z => by omega⟩
  rcases e.o with hi | hle
  · obtain ⟨rfl, rfl⟩ := e.z hi
    subst hi
    have h1 : b * (a % b) ≤ b * a := Nat.mul_le_mul_left b (Nat.mod_le a b)
    have h2 : b * a = a * b := Nat.mul_comm _ _
    rw [Nat.zero_add, Nat.pow_one]
    omega
  · have h1 := prod_turn hle hb
    have h2 := e.p
    have h3 : b * (a % b) * 2 ^ (i + 1) = 2 * (b * (a % b)) * 2 ^ i := by
      rw [Nat.pow_succ]
      rw [Nat.mul_comm (2 ^ i) 2, ← Nat.mul_assoc, Nat.mul_comm (b * (a % b)) 2]
    rw [h3]
    exact Nat.le_trans (Nat.mul_le_mul_right _ h1) h2
/-- too many turns: nothing is left -/
theorem Eu.stop {a0 b0 i a b : Nat} (e : Eu a0 b0 i a b) (hi : i ≠ 0) (h : 2 * (a0 * b0) < 2 ^ i) : b = 0 := by
  rcases Nat.eq_zero_or_pos b with h0 | h0
  · exact h0
  · have hle : b ≤ a := by
      rcases e.o with h1 | h1
      · exact absurd h1 hi
      · exact h1
    have h1 : 1 ≤ a * b := Nat.mul_pos (by omega) h0
    have h2 : 1 * 2 ^ i ≤ a * b * 2 ^ i := Nat.mul_le_mul_right _ h1
    have h3 := e.p
    omega
theorem Eu.end {a0 b0 i a : Nat} (e : Eu a0 b0 i a 0) : a = Nat.gcd a0 b0 := by
  rw [← e.g, Nat.gcd_zero_right]
/-- the greatest divisor of a row, as it is reckoned from the left -/
def gl (l : List Int) : Nat := l.foldl (fun g v => Nat.gcd v.natAbs g) 0
theorem gl_snoc (l : List Int) (v : Int) : gl (l ++ [v]) = Nat.gcd v.natAbs (gl l) := by
  unfold gl
  rw [List.foldl_append]
  rfl
theorem gl_lt {l : List Int} {v : Int} (h : gl l < 2 ^ 100) (hv : v.natAbs < 2 ^ 100) : gl (l ++ [v]) < 2 ^ 100 := by
  rw [gl_snoc]
  rcases Nat.eq_zero_or_pos v.natAbs with e | e
  · rw [e, Nat.gcd_zero_left]
    exact h
  · exact Nat.lt_of_le_of_lt (Nat.le_of_dvd e (Nat.gcd_dvd_left _ _)) hv
theorem take_snoc {l : List Int} {i : Nat} {z : Int} (h : l[i]? = some z) : l.take (i + 1) = l.take i ++ [z] := by
  rw [List.take_add_one, h]
  rfl
theorem eu_far {a b n : Nat} (hn : 201 ≤ n) (ha : a < 2 ^ 100) (hb : b < 2 ^ 100) : 2 * (a * b) < 2 ^ n := by
  have h1 : a * b < 2 ^ 100 * 2 ^ 100 := Nat.mul_lt_mul'' ha hb
  rw [← Nat.pow_add] at h1
  have h2 : (2 : Nat) * 2 ^ (100 + 100) = 2 ^ 201 := by decide +kernel
  have h3 : (2 : Nat) ^ 201 ≤ 2 ^ n := Nat.pow_le_pow_right (by decide) hn
  omega
theorem fmod_nat (a b : Nat) : (a : Int).fmod (b : Int) = ((a % b : Nat) : Int) := by
  rw [Int.fmod_eq_emod_of_nonneg _ (Int.natCast_nonneg _)]
  exact (Int.natCast_emod a b).symm

/-- // by any divisor other than 0, below 2 ^ 9000 in size -/
def CDivX (_ j : Int) : Prop := j ≠ 0 ∧ j.natAbs.log2 < 9000
theorem op_fdivX {X : Cx} : OpR X (binaryOp .FloorDiv) (rI CDivX fun i j => .int (i.fdiv j)) :=
  opI fun _ _ _ _ _ _ _ hc q =>
    PyProof.Rows.floordiv_int hc.1 q (.inl (PyProof.noPylong_of_log2 hc.2))
theorem wide_divx {i j : Int} {b : Nat} (h : j ≠ 0) (hb : j.natAbs < 2 ^ b) (h0 : 0 < b) (h9 : b ≤ 9000) : CDivX i j :=
  ⟨h, Nat.lt_of_lt_of_le (PySem.Flt.log2_lt_of h0 hb) h9⟩
/-- n noughts -/
def nou (n : Nat) : Str := ⟨(List.replicate n (Str.ofString "0").cps).foldl (· ++ ·) #[]⟩
theorem nou_len {n : Nat} (h : n ≤ 100) : (nou n).length ≤ sizeLine := by
  have : ∀ n : _root_.Fin 101, (nou n.val).length ≤ 100 := by decide +kernel
  have h1 := this ⟨n, by omega⟩
  rw [PySem.sizeLine_eq]
  exact Nat.le_trans h1 (by decide)
theorem op_nou {X : Cx} : OpR X (binaryOp .Mult) (fun x y H Q => ∃ n : Nat, x = .str "0" ∧ y = .int (n : Int) ∧ 1 ≤ n ∧ n ≤ 100 ∧ Q (.str (nou n)) H) := by
  intro pins s σ H x y v u Q I rx ry h
  obtain ⟨n, rfl, rfl, h1, h2, q⟩ := h
  obtain ⟨t, rfl⟩ := rx
  obtain ⟨t', rfl⟩ := ry
  have e1 : ¬ ((n : Int) < 1) := by omega
  have el : (Str.ofString "0").length = 1 := by decide +kernel
  refine PySem.P.mul_str ?_ ?_ ?_ ?_
  · rw [decide_eq_false (by omega), decide_eq_false (by omega)]
    rfl
  · intro _ _
    rw [el]
    have : (2 ^ 63 - 1 : Int) / n ≥ 1 := by
      have : (1 : Int) * n ≤ 2 ^ 63 - 1 := by omega
      exact (Int.le_ediv_iff_mul_le (by omega)).mpr this
    omega
  · intro _ _
    rw [el]
    unfold PySem.Builtin.Str.tooLong
    rw [PySem.sizeLine_eq]
    exact decide_eq_false (by omega)
  · rw [if_neg e1]
    by_cases hn : n = 1
    · subst hn
      have e2 : nou 1 = Str.ofString "0" := by decide +kernel
      rw [e2] at q
      exact ⟨.str (Str.ofString "0"), H, I, ⟨t, rfl⟩, q⟩
    · have : ((n : Int) == 1 || (Str.ofString "0").length == 0) = false := by
        rw [el]
        simp
        omega
      rw [this, if_neg Bool.false_ne_true]
      exact ⟨nou_len h2, .str (nou n), H, I.tok _, ⟨_, rfl⟩, q⟩
theorem suite_of {X : Cx} {a C : Addr} {oe : Obj} {pn : List (Addr × Obj)} {cls : Value} {d : Option Addr} {sts : List Stmt} {ts : TS} (hz : Zc cls d oe)
    (h : Zc (.ref C) none oe → PSs (X.suite a ((a, oe) :: pn)) sts ts) : PSs (X.suite a ((a, oe) :: pn)) sts (fun D σ H => (cls = .ref C ∧ d = none) ∧ ts D σ H) :=
  ⟨fun pins s σ H D I hq => by
    obtain ⟨⟨rfl, rfl⟩, q⟩ := hq
    exact (h hz).run pins s σ H D I q⟩
theorem ten_text : ∀ n : Nat, 1 ≤ n → n ≤ 20 → PySem.intText? (Str.ofString "1" ++ nou n) = some ((10 : Int) ^ n) ∧ (Str.ofString "1" ++ nou n).length ≤ 640 ∧ (nou n).length ≤ 100 := by
  intro n h1 h2
  have : ∀ n : _root_.Fin 21, 1 ≤ n.val → PySem.intText? (Str.ofString "1" ++ nou n.val) = some ((10 : Int) ^ n.val) ∧ (Str.ofString "1" ++ nou n.val).length ≤ 640 ∧ (nou n.val).length ≤ 100 := by decide +kernel
  exact this ⟨n, by omega⟩ h1

/-- the divisor by which fraction divides both -/
def sg (n d : Int) : Int := if d < 0 then -((Nat.gcd n.natAbs d.natAbs : Nat) : Int) else ((Nat.gcd n.natAbs d.natAbs : Nat) : Int)
theorem sg_abs (n d : Int) : (sg n d).natAbs = Nat.gcd n.natAbs d.natAbs := by
  unfold sg
  split
  · rw [Int.natAbs_neg, Int.natAbs_natCast]
  · rw [Int.natAbs_natCast]
theorem sg_ne {n d : Int} (h : d ≠ 0) : sg n d ≠ 0 := by
  intro e
  have h1 := sg_abs n d
  rw [e] at h1
  have h2 : Nat.gcd n.natAbs d.natAbs = 0 := h1.symm
  have h3 := Nat.gcd_eq_zero_iff.mp h2
  omega
theorem sg_dn (n d : Int) : sg n d ∣ n := by
  have h : ((Nat.gcd n.natAbs d.natAbs : Nat) : Int) ∣ n := Int.dvd_natAbs.mp (Int.natCast_dvd_natCast.mpr (Nat.gcd_dvd_left _ _))
  unfold sg
  split
  · exact Int.neg_dvd.mpr h
  · exact h
theorem sg_dd (n d : Int) : sg n d ∣ d := by
  have h : ((Nat.gcd n.natAbs d.natAbs : Nat) : Int) ∣ d := Int.dvd_natAbs.mp (Int.natCast_dvd_natCast.mpr (Nat.gcd_dvd_right _ _))
  unfold sg
  split
  · exact Int.neg_dvd.mpr h
  · exact h
theorem fdiv_back {d v : Int} (h : d ∣ v) : v.fdiv d * d = v := Int.fdiv_mul_cancel h
theorem part_le {f d v : Int} (e : f * d = v) (hd : d ≠ 0) : f.natAbs ≤ v.natAbs := by
  rw [← e, Int.natAbs_mul]
  exact Nat.le_mul_of_pos_right _ (by omega)
/-- what fraction yields -/
structure Fr (n d p q : Int) : Prop where
  hp : p * sg n d = n
  hq : q * sg n d = d
  q0 : 0 < q
  one : Nat.gcd p.natAbs q.natAbs = 1
theorem fr_of {n d : Int} (h : d ≠ 0) : Fr n d (n.fdiv (sg n d)) (d.fdiv (sg n d)) := by
  have e1 := fdiv_back (sg_dn n d)
  have e2 := fdiv_back (sg_dd n d)
  have hs := sg_ne (n := n) h
  refine ⟨e1, e2, ?_, ?_⟩
  · rcases Int.lt_or_le 0 (d.fdiv (sg n d)) with h1 | h1
    · exact h1
    · exfalso
      have hg : 0 < Nat.gcd n.natAbs d.natAbs := Nat.gcd_pos_of_pos_right _ (by omega)
      rcases Int.lt_or_le d 0 with h2 | h2
      · have h3 : sg n d < 0 := by
          unfold sg
          rw [if_pos h2]
          omega
        have h4 := Int.mul_nonneg_of_nonpos_of_nonpos h1 (Int.le_of_lt h3)
        omega
      · have h3 : 0 < sg n d := by
          unfold sg
          rw [if_neg (by omega)]
          omega
        have h4 := Int.mul_nonpos_of_nonpos_of_nonneg h1 (Int.le_of_lt h3)
        omega
  · have e3 : Nat.gcd n.natAbs d.natAbs = Nat.gcd (n.fdiv (sg n d)).natAbs (d.fdiv (sg n d)).natAbs * (sg n d).natAbs := by
      rw [← Nat.gcd_mul_right, ← Int.natAbs_mul, ← Int.natAbs_mul, e1, e2]
    rw [sg_abs] at e3
    have hg : 0 < Nat.gcd n.natAbs d.natAbs := Nat.gcd_pos_of_pos_right _ (by omega)
    exact (Nat.eq_of_mul_eq_mul_right hg (by rw [Nat.one_mul]; exact e3)).symm
theorem Fr.cross {n d p q : Int} (f : Fr n d p q) : p * d = n * q := by
  have h1 := f.hp
  have h2 := f.hq
  calc p * d = p * (q * sg n d) := by rw [h2]
    _ = (p * sg n d) * q := by rw [Int.mul_comm q, Int.mul_assoc]
    _ = n * q := by rw [h1]
theorem sg_one (n : Int) : sg n 1 = 1 := by
  unfold sg
  rw [if_neg (by decide)]
  show ((Nat.gcd n.natAbs 1 : Nat) : Int) = 1
  rw [Nat.gcd_one_right]
  rfl
theorem rd_one (n : Int) : [n.fdiv (sg n 1), (1 : Int).fdiv (sg n 1)] = [n, 1] := by rw [sg_one, Int.fdiv_one, Int.fdiv_one]

/-- in lowest terms -/
def rd2 (n d : Int) : List Int := [n.fdiv (sg n d), d.fdiv (sg n d)]
theorem low_uniq {p q r s : Int} (h1 : Nat.gcd p.natAbs q.natAbs = 1) (h2 : Nat.gcd r.natAbs s.natAbs = 1) (hq : 0 < q) (hs : 0 < s) (h : p * s = r * q) : p = r ∧ q = s := by
  have hn : p.natAbs * s.natAbs = r.natAbs * q.natAbs := by
    rw [← Int.natAbs_mul, ← Int.natAbs_mul, h]
  have d1 : q.natAbs ∣ s.natAbs := by
    have h3 : q.natAbs ∣ p.natAbs * s.natAbs := ⟨r.natAbs, by rw [hn, Nat.mul_comm]⟩
    exact Nat.Coprime.dvd_of_dvd_mul_left (show Nat.Coprime q.natAbs p.natAbs from (Nat.gcd_comm _ _).trans h1) h3
  have d2 : s.natAbs ∣ q.natAbs := by
    have h3 : s.natAbs ∣ r.natAbs * q.natAbs := ⟨p.natAbs, by rw [← hn, Nat.mul_comm]⟩
    exact Nat.Coprime.dvd_of_dvd_mul_left (show Nat.Coprime s.natAbs r.natAbs from (Nat.gcd_comm _ _).trans h2) h3
  have e : q.natAbs = s.natAbs := Nat.dvd_antisymm d1 d2
  have e2 : q = s := by omega
  subst e2
  exact ⟨Int.eq_of_mul_eq_mul_right (by omega) h, rfl⟩
theorem rd2_eq {n d n' d' : Int} (hd : 0 < d) (hd' : 0 < d') (h : n * d' = n' * d) : rd2 n d = rd2 n' d' := by
  have f := fr_of (n := n) (show d ≠ 0 by omega)
  have f' := fr_of (n := n') (show d' ≠ 0 by omega)
  have c1 := f.cross
  have c2 := f'.cross
  unfold rd2
  generalize n.fdiv (sg n d) = p at f c1
  generalize d.fdiv (sg n d) = q at f c1
  generalize n'.fdiv (sg n' d') = r at f' c2
  generalize d'.fdiv (sg n' d') = s at f' c2
  have e : p * s = r * q := by
    have h1 : (p * s) * (d * d') = (r * q) * (d * d') := by
      calc (p * s) * (d * d') = (p * d) * (s * d') := by
              rw [Int.mul_assoc, Int.mul_assoc, Int.mul_left_comm s d d']
        _ = (n * q) * (s * d') := by rw [c1]
        _ = (n * d') * (q * s) := by
              rw [Int.mul_assoc, Int.mul_assoc, Int.mul_comm s d', Int.mul_left_comm q d' s]
        _ = (n' * d) * (q * s) := by rw [h]
        _ = (n' * s) * (d * q) := by
              rw [Int.mul_assoc, Int.mul_assoc, Int.mul_comm q s, Int.mul_left_comm d s q]
        _ = (r * d') * (d * q) := by rw [c2]
        _ = (r * q) * (d * d') := by
              rw [Int.mul_assoc, Int.mul_assoc, Int.mul_comm d q, Int.mul_left_comm d' q d, Int.mul_comm d' d]
    exact Int.eq_of_mul_eq_mul_right (Int.mul_ne_zero (by omega) (by omega)) h1
  have u := low_uniq f.one f'.one f.q0 f'.q0 e
  rw [u.1, u.2]
theorem sg_zero_one : sg 0 1 = 1 := sg_one 0
theorem rd2_zero : rd2 0 1 = [0, 1] := by
  unfold rd2
  rw [sg_zero_one, Int.fdiv_one, Int.fdiv_one]
/-- the digits of a number are not too few -/
theorem lt_digits (n : Nat) : n < 2 ^ (4 * (toString (n : Int)).length + 4) := by
  have e : toString (n : Int) = Nat.repr n := rfl
  rw [e]
  have h : n < 10 ^ ((Nat.repr n).length + 1) := (Nat.length_repr_le_iff (Nat.succ_pos _)).mp (Nat.le_succ _)
  refine Nat.lt_of_lt_of_le h ?_
  have h2 : (10 : Nat) ^ ((Nat.repr n).length + 1) ≤ 16 ^ ((Nat.repr n).length + 1) := Nat.pow_le_pow_left (by decide) _
  have h3 : (16 : Nat) ^ ((Nat.repr n).length + 1) = 2 ^ (4 * (Nat.repr n).length + 4) := by
    rw [show (16 : Nat) = 2 ^ 4 from rfl, ← Nat.pow_mul]
    rfl
  omega
theorem eu_digits {a b t : Nat} (h : t = 4 * (toString (a : Int)).length + 4 * (toString (b : Int)).length + 60) : 2 * (a * b) < 2 ^ t := by
  subst h
  have h1 := lt_digits a
  have h2 := lt_digits b
  have h3 : a * b < 2 ^ (4 * (toString (a : Int)).length + 4) * 2 ^ (4 * (toString (b : Int)).length + 4) := Nat.mul_lt_mul'' h1 h2
  rw [← Nat.pow_add] at h3
  have h4 : 2 * (a * b) < 2 * 2 ^ (4 * (toString (a : Int)).length + 4 + (4 * (toString (b : Int)).length + 4)) := by omega
  rw [← Nat.pow_succ'] at h4
  exact Nat.lt_of_lt_of_le h4 (Nat.pow_le_pow_right (by decide) (by omega))
theorem args2 {x y : Int} (hx : 0 ≤ x) (hy : 0 ≤ y) : [V.int x, V.int y] ++ [] = [V.int ((x.natAbs : Nat) : Int), V.int ((y.natAbs : Nat) : Int)] := by
  have e1 : ((x.natAbs : Nat) : Int) = x := by omega
  have e2 : ((y.natAbs : Nat) : Int) = y := by omega
  rw [e1, e2]
  rfl
theorem mod_abs (x : Int) {b : Int} (h : 0 < b) : (x % b).natAbs ≤ b.natAbs := by
  have h1 := Int.emod_nonneg x (show b ≠ 0 by omega)
  have h2 := Int.emod_lt_of_pos x h
  omega
theorem mul_lt_abs {a b : Int} {A B : Nat} (ha : a.natAbs ≤ A) (hb : b.natAbs ≤ B) : (a * b).natAbs ≤ A * B := by
  rw [Int.natAbs_mul]
  exact Nat.mul_le_mul ha hb
def pd2 (x y : Int) : PyData := .tuple [.int x, .int y]
theorem dp2 {K : PySem.W.Frag} {H : Hp} {u : Addr} {x y : Int} (h : SqT K H u (zs [x, y])) : Dp K H (.ref u) (pd2 x y) :=
  .tup h (.cons (.int x) (.cons (.int y) .nil))
theorem eqv2 (x y : Int) : PyData.eqv (pd2 x y) (pd2 x y) = true := by
  unfold pd2
  simp [PyData.eqv, PyData.eqvAll]


section
variable {P : Program} {w : World} {K : PySem.W.Frag} {mg : Str → Option Value} {base : Heap}
def spOp2 (K : PySem.W.Frag) (N D : Int → Int → Int → Int → Int) : Sp := fun vs H Q _ => ∃ (a b : Addr) (p q r s : Int), vs = [.ref a, .ref b] ∧ SqT K H a (zs [p, q]) ∧ SqT K H b (zs [r, s]) ∧ p.natAbs < 2 ^ 800 ∧ q.natAbs < 2 ^ 800 ∧ r.natAbs < 2 ^ 800 ∧ s.natAbs < 2 ^ 800 ∧ D p q r s ≠ 0 ∧
  ∀ (H' : Hp) (t : Addr), Same H H' → H' t = some (.tup (zs (rd2 (N p q r s) (D p q r s)))) → Q (.ref t) H'
def spFraction (K : PySem.W.Frag) (CNought : Addr) : Sp := fun vs H Q E => ∃ n d : Int, vs = [.int n, .int d] ∧ d.natAbs < 2 ^ 2000 ∧ (d = 0 → E (.ref CNought) none H) ∧
  (d ≠ 0 → ∀ (H' : Hp) (t : Addr), Same H H' → H' t = some (.tup (zs (rd2 n d))) → Q (.ref t) H')
theorem okFraction {fFraction : Addr} {fdFraction : FuncData} (F : FunD K "fraction" "fraction" (defArgs sFraction) (defBody sFraction) (defScope sFraction) [.int 1] [] fFraction fdFraction) (T : Txt mg) {aZERO : Addr} {aONE : Addr} (CT : Cons K mg aZERO aONE) {CPartError CNought : Addr} (EX : Exns K mg CPartError CNought) :
    FnOk P w K mg base (L2.CX P w) 1 fFraction fdFraction ["number", "divisor"] (spFraction K CNought) := by
  refine F.ok scFraction (fun vs H Q E h => ?_) (fun cdv A outer s H vs Q E hr h => ?_)
  · obtain ⟨n, d, rfl, hb, he, q⟩ := h
    rfl
  · obtain ⟨n, d, rfl, hb, he, q⟩ := h
    refine ⟨_, (pss_cons (ps_if (pt_cmpR op_eq (pv 1) pe_int (nomark _))
        (pss_one (ps_ret (pe_tup (pa_cons (pv 0) (pa_cons pe_int pa_nil)))))
        pss_nil)
      (pss_cons (ps_if (pt_cmpR op_eq (pv 1) pe_int (nomark _))
        (pss_one (ps_raise rfl (takes_of rfl rfl rfl rfl) (pmk_own PySem.F.excBase_ValueError EX.xNought EX.gNought EX.kNought (raises_own EX.bNought EX.tNought) rfl)))
        pss_nil)
      (pss_cons (ps_set (i := 2) scFraction.nd rfl (Or.inl rfl) (pe_callBfun cr_gcd (by rfl) T.gcd (pa_cons (pv 0) (pa_cons (pv 1) pa_nil))))
      (C8.pss_cut (ps_if (pt_cmpR op_lt (pv 1) pe_int (nomark _))
        (pss_one (ps_set (i := 2) scFraction.nd rfl (Or.inl rfl) (pe_un un_neg (pv 2))))
        pss_nil)
      (pss_one (ps_ret (pe_tup (pa_cons (pe_op op_fdivX (pv 0) (pv 2)) (pa_cons (pe_op op_fdivX (pv 1) (pv 2)) pa_nil))))))))), ?_⟩
    walk_at "rd"
    refine ite2 (fun g1 => ?_) (fun g1 => ?_)
    · obtain rfl : d = 1 := eq_of_dec g1
      refine ⟨_, rfl, by show 2 ≤ sizeLine; decide, fun t ht => ?_⟩
      exact q (by decide) _ t (same_upd ht) (by unfold rd2; rw [rd_one]; exact upd_same)
    walk_at "rd"
    refine ite2 (fun g => ?_) (fun g => ?_)
    · exact he (eq_of_dec g)
    · have hd := ne_of_nodec g
      refine ⟨_, rfl, _, rfl, n, d, rfl, ?_⟩
      refine ⟨fun σ' H' => σ' = [some (.int n), some (.int d), some (.int (sg n d))] ∧ H' = H, ?_, ?_⟩
      · walk_at "rd"
        refine ite2 (fun g2 => ?_) (fun g2 => ?_)
        · refine ⟨_, rfl, _, rfl, ?_, rfl⟩
          unfold sg
          rw [if_pos (of_decide_eq_true g2)]
          rfl
        · refine ⟨?_, rfl⟩
          unfold sg
          rw [if_neg (fun z => g2 (decide_eq_true z))]
          rfl
      · rintro σ' H' ⟨rfl, rfl⟩
        have hs := sg_ne (n := n) hd
        have hsb : (sg n d).natAbs < 2 ^ 2000 := by
          rw [sg_abs]
          exact Nat.lt_of_le_of_lt (Nat.le_of_dvd (by omega) (Nat.gcd_dvd_right _ _)) hb
        refine ⟨_, rfl, _, rfl, _, _, rfl, rfl, wide_divx hs hsb (by decide) (by decide), _, rfl, _, rfl, _, _, rfl, rfl, wide_divx hs hsb (by decide) (by decide), by show 2 ≤ sizeLine; decide, fun t ht => ?_⟩
        exact q hd _ t (same_upd ht) upd_same
def spPlus (K : PySem.W.Frag) : Sp := spOp2 K (fun p q r s => p * s + r * q) (fun p q r s => q * s)
theorem okPlus {fPlus : Addr} {fdPlus : FuncData} (F : Fun K "plus" "plus" sPlus fPlus fdPlus) (T : Txt mg) {aZERO : Addr} {aONE : Addr} (CT : Cons K mg aZERO aONE) {CPartError CNought : Addr} (EX : Exns K mg CPartError CNought)
    {fFraction : Addr} {fdFraction : FuncData} (GFraction : FnOk P w K mg base (L2.CX P w) 1 fFraction fdFraction ["number", "divisor"] (spFraction K CNought)) (gFraction : mg "fraction" = some (.ref fFraction)) (kpFraction : PySem.W.keepIn K (.ref fFraction) = true) (bFraction : Binds K fdFraction ["number", "divisor"] []) {dsFraction : List Value} (vdFraction : Vals [.int 1] dsFraction) (bdFraction : Binds K fdFraction ["number", "divisor"] dsFraction) :
    FnOk P w K mg base CX0 2 fPlus fdPlus ["a", "b"] (spPlus K) := by
  refine F.ok scPlus (fun vs H Q E h => ?_) (fun cdv A outer s H vs Q E hr h => ?_)
  · obtain ⟨a, b, p, q, r, s, rfl, hA, hB, hp, hq, hr', hs, hD, k⟩ := h
    rfl
  · obtain ⟨a, b, p, q, r, s, rfl, hA, hB, hp, hq, hr', hs, hD, k⟩ := h
    refine ⟨_, (pss_one (ps_ret (pe_call GFraction hr (by rfl) gFraction kpFraction bFraction .nil passL (pa_cons (pe_op op_add (pe_op op_mulW (pe_ix ix_tup (pv 0) pe_int (fun _ _ => rfl)) (pe_ix ix_tup (pv 1) pe_int (fun _ _ => rfl))) (pe_op op_mulW (pe_ix ix_tup (pv 1) pe_int (fun _ _ => rfl)) (pe_ix ix_tup (pv 0) pe_int (fun _ _ => rfl)))) (pa_cons (pe_op op_mulW (pe_ix ix_tup (pv 0) pe_int (fun _ _ => rfl)) (pe_ix ix_tup (pv 1) pe_int (fun _ _ => rfl))) pa_nil))))), ?_⟩
    refine ⟨.ref a, rfl, a, _, 0, _, rfl, rfl, hA, atI_nat (j := 0) rfl, .ref b, rfl, b, _, 1, _, rfl, rfl, hB, atI_nat (j := 1) rfl, _, _, rfl, rfl, wide_mul hp hs (by decide) (by decide) (by decide), .ref b, rfl, b, _, 0, _, rfl, rfl, hB, atI_nat (j := 0) rfl, .ref a, rfl, a, _, 1, _, rfl, rfl, hA, atI_nat (j := 1) rfl, _, _, rfl, rfl, wide_mul hr' hq (by decide) (by decide) (by decide), _, _, rfl, rfl, .ref a, rfl, a, _, 1, _, rfl, rfl, hA, atI_nat (j := 1) rfl, .ref b, rfl, b, _, 1, _, rfl, rfl, hB, atI_nat (j := 1) rfl, _, _, rfl, rfl, wide_mul hq hs (by decide) (by decide) (by decide), _, _, rfl, by rw [Int.natAbs_mul]; exact Nat.lt_of_lt_of_le (Nat.mul_lt_mul'' hq hs) (by rw [← Nat.pow_add]; exact Nat.pow_le_pow_right (by decide) (by decide)), fun h => absurd h hD, fun _ H' t s1 e1 => k H' t s1 e1⟩
def spMinus (K : PySem.W.Frag) : Sp := spOp2 K (fun p q r s => p * s - r * q) (fun p q r s => q * s)
theorem okMinus {fMinus : Addr} {fdMinus : FuncData} (F : Fun K "minus" "minus" sMinus fMinus fdMinus) (T : Txt mg) {aZERO : Addr} {aONE : Addr} (CT : Cons K mg aZERO aONE) {CPartError CNought : Addr} (EX : Exns K mg CPartError CNought)
    {fFraction : Addr} {fdFraction : FuncData} (GFraction : FnOk P w K mg base (L2.CX P w) 1 fFraction fdFraction ["number", "divisor"] (spFraction K CNought)) (gFraction : mg "fraction" = some (.ref fFraction)) (kpFraction : PySem.W.keepIn K (.ref fFraction) = true) (bFraction : Binds K fdFraction ["number", "divisor"] []) {dsFraction : List Value} (vdFraction : Vals [.int 1] dsFraction) (bdFraction : Binds K fdFraction ["number", "divisor"] dsFraction) :
    FnOk P w K mg base CX0 2 fMinus fdMinus ["a", "b"] (spMinus K) := by
  refine F.ok scMinus (fun vs H Q E h => ?_) (fun cdv A outer s H vs Q E hr h => ?_)
  · obtain ⟨a, b, p, q, r, s, rfl, hA, hB, hp, hq, hr', hs, hD, k⟩ := h
    rfl
  · obtain ⟨a, b, p, q, r, s, rfl, hA, hB, hp, hq, hr', hs, hD, k⟩ := h
    refine ⟨_, (pss_one (ps_ret (pe_call GFraction hr (by rfl) gFraction kpFraction bFraction .nil passL (pa_cons (pe_op op_sub (pe_op op_mulW (pe_ix ix_tup (pv 0) pe_int (fun _ _ => rfl)) (pe_ix ix_tup (pv 1) pe_int (fun _ _ => rfl))) (pe_op op_mulW (pe_ix ix_tup (pv 1) pe_int (fun _ _ => rfl)) (pe_ix ix_tup (pv 0) pe_int (fun _ _ => rfl)))) (pa_cons (pe_op op_mulW (pe_ix ix_tup (pv 0) pe_int (fun _ _ => rfl)) (pe_ix ix_tup (pv 1) pe_int (fun _ _ => rfl))) pa_nil))))), ?_⟩
    refine ⟨.ref a, rfl, a, _, 0, _, rfl, rfl, hA, atI_nat (j := 0) rfl, .ref b, rfl, b, _, 1, _, rfl, rfl, hB, atI_nat (j := 1) rfl, _, _, rfl, rfl, wide_mul hp hs (by decide) (by decide) (by decide), .ref b, rfl, b, _, 0, _, rfl, rfl, hB, atI_nat (j := 0) rfl, .ref a, rfl, a, _, 1, _, rfl, rfl, hA, atI_nat (j := 1) rfl, _, _, rfl, rfl, wide_mul hr' hq (by decide) (by decide) (by decide), _, _, rfl, rfl, .ref a, rfl, a, _, 1, _, rfl, rfl, hA, atI_nat (j := 1) rfl, .ref b, rfl, b, _, 1, _, rfl, rfl, hB, atI_nat (j := 1) rfl, _, _, rfl, rfl, wide_mul hq hs (by decide) (by decide) (by decide), _, _, rfl, by rw [Int.natAbs_mul]; exact Nat.lt_of_lt_of_le (Nat.mul_lt_mul'' hq hs) (by rw [← Nat.pow_add]; exact Nat.pow_le_pow_right (by decide) (by decide)), fun h => absurd h hD, fun _ H' t s1 e1 => k H' t s1 e1⟩
def spTimes (K : PySem.W.Frag) : Sp := spOp2 K (fun p q r s => p * r) (fun p q r s => q * s)
theorem okTimes {fTimes : Addr} {fdTimes : FuncData} (F : Fun K "times" "times" sTimes fTimes fdTimes) (T : Txt mg) {aZERO : Addr} {aONE : Addr} (CT : Cons K mg aZERO aONE) {CPartError CNought : Addr} (EX : Exns K mg CPartError CNought)
    {fFraction : Addr} {fdFraction : FuncData} (GFraction : FnOk P w K mg base (L2.CX P w) 1 fFraction fdFraction ["number", "divisor"] (spFraction K CNought)) (gFraction : mg "fraction" = some (.ref fFraction)) (kpFraction : PySem.W.keepIn K (.ref fFraction) = true) (bFraction : Binds K fdFraction ["number", "divisor"] []) {dsFraction : List Value} (vdFraction : Vals [.int 1] dsFraction) (bdFraction : Binds K fdFraction ["number", "divisor"] dsFraction) :
    FnOk P w K mg base CX0 2 fTimes fdTimes ["a", "b"] (spTimes K) := by
  refine F.ok scTimes (fun vs H Q E h => ?_) (fun cdv A outer s H vs Q E hr h => ?_)
  · obtain ⟨a, b, p, q, r, s, rfl, hA, hB, hp, hq, hr', hs, hD, k⟩ := h
    rfl
  · obtain ⟨a, b, p, q, r, s, rfl, hA, hB, hp, hq, hr', hs, hD, k⟩ := h
    refine ⟨_, (pss_one (ps_ret (pe_call GFraction hr (by rfl) gFraction kpFraction bFraction .nil passL (pa_cons (pe_op op_mulW (pe_ix ix_tup (pv 0) pe_int (fun _ _ => rfl)) (pe_ix ix_tup (pv 1) pe_int (fun _ _ => rfl))) (pa_cons (pe_op op_mulW (pe_ix ix_tup (pv 0) pe_int (fun _ _ => rfl)) (pe_ix ix_tup (pv 1) pe_int (fun _ _ => rfl))) pa_nil))))), ?_⟩
    refine ⟨.ref a, rfl, a, _, 0, _, rfl, rfl, hA, atI_nat (j := 0) rfl, .ref b, rfl, b, _, 0, _, rfl, rfl, hB, atI_nat (j := 0) rfl, _, _, rfl, rfl, wide_mul hp hr' (by decide) (by decide) (by decide), .ref a, rfl, a, _, 1, _, rfl, rfl, hA, atI_nat (j := 1) rfl, .ref b, rfl, b, _, 1, _, rfl, rfl, hB, atI_nat (j := 1) rfl, _, _, rfl, rfl, wide_mul hq hs (by decide) (by decide) (by decide), _, _, rfl, by rw [Int.natAbs_mul]; exact Nat.lt_of_lt_of_le (Nat.mul_lt_mul'' hq hs) (by rw [← Nat.pow_add]; exact Nat.pow_le_pow_right (by decide) (by decide)), fun h => absurd h hD, fun _ H' t s1 e1 => k H' t s1 e1⟩
def spOver (K : PySem.W.Frag) (CNought : Addr) : Sp := fun vs H Q E => ∃ (a b : Addr) (p q r s : Int), vs = [.ref a, .ref b] ∧ SqT K H a (zs [p, q]) ∧ SqT K H b (zs [r, s]) ∧ p.natAbs < 2 ^ 800 ∧ q.natAbs < 2 ^ 800 ∧ r.natAbs < 2 ^ 800 ∧ s.natAbs < 2 ^ 800 ∧
  (q * r = 0 → E (.ref CNought) none H) ∧ (q * r ≠ 0 → ∀ (H' : Hp) (t : Addr), Same H H' → H' t = some (.tup (zs (rd2 (p * s) (q * r)))) → Q (.ref t) H')
theorem okOver {fOver : Addr} {fdOver : FuncData} (F : Fun K "over" "over" sOver fOver fdOver) (T : Txt mg) {aZERO : Addr} {aONE : Addr} (CT : Cons K mg aZERO aONE) {CPartError CNought : Addr} (EX : Exns K mg CPartError CNought)
    {fFraction : Addr} {fdFraction : FuncData} (GFraction : FnOk P w K mg base (L2.CX P w) 1 fFraction fdFraction ["number", "divisor"] (spFraction K CNought)) (gFraction : mg "fraction" = some (.ref fFraction)) (kpFraction : PySem.W.keepIn K (.ref fFraction) = true) (bFraction : Binds K fdFraction ["number", "divisor"] []) {dsFraction : List Value} (vdFraction : Vals [.int 1] dsFraction) (bdFraction : Binds K fdFraction ["number", "divisor"] dsFraction) :
    FnOk P w K mg base (L2.CX P w) 2 fOver fdOver ["a", "b"] (spOver K CNought) := by
  refine F.okX scOver (fun vs H Q E h => ?_) (fun cdv A outer s H vs Q E hr h => ?_)
  · obtain ⟨a, b, p, q, r, s, rfl, hA, hB, hp, hq, hr', hs, hE, k⟩ := h
    rfl
  · obtain ⟨a, b, p, q, r, s, rfl, hA, hB, hp, hq, hr', hs, hE, k⟩ := h
    refine ⟨_, (pss_one (ps_ret (pe_call GFraction hr (by rfl) gFraction kpFraction bFraction .nil (passes_call (takes_of rfl rfl rfl rfl) (fun _ _ _ _ h => h)) (pa_cons (pe_op op_mulW (pe_ix ix_tup (pv 0) pe_int (fun _ _ => rfl)) (pe_ix ix_tup (pv 1) pe_int (fun _ _ => rfl))) (pa_cons (pe_op op_mulW (pe_ix ix_tup (pv 0) pe_int (fun _ _ => rfl)) (pe_ix ix_tup (pv 1) pe_int (fun _ _ => rfl))) pa_nil))))), ?_⟩
    refine ⟨.ref a, rfl, a, _, 0, _, rfl, rfl, hA, atI_nat (j := 0) rfl, .ref b, rfl, b, _, 1, _, rfl, rfl, hB, atI_nat (j := 1) rfl, _, _, rfl, rfl, wide_mul hp hs (by decide) (by decide) (by decide), .ref a, rfl, a, _, 1, _, rfl, rfl, hA, atI_nat (j := 1) rfl, .ref b, rfl, b, _, 0, _, rfl, rfl, hB, atI_nat (j := 0) rfl, _, _, rfl, rfl, wide_mul hq hr' (by decide) (by decide) (by decide), _, _, rfl, by rw [Int.natAbs_mul]; exact Nat.lt_of_lt_of_le (Nat.mul_lt_mul'' hq hr') (by rw [← Nat.pow_add]; exact Nat.pow_le_pow_right (by decide) (by decide)), hE, k⟩
def spNegative (K : PySem.W.Frag) : Sp := fun vs H Q _ => ∃ (a : Addr) (p q : Int), vs = [.ref a] ∧ SqT K H a (zs [p, q]) ∧ ∀ (H' : Hp) (t : Addr), Same H H' → H' t = some (.tup (zs [-p, q])) → Q (.ref t) H'
theorem okNegative {fNegative : Addr} {fdNegative : FuncData} (F : Fun K "negative" "negative" sNegative fNegative fdNegative) (T : Txt mg) {aZERO : Addr} {aONE : Addr} (CT : Cons K mg aZERO aONE) {CPartError CNought : Addr} (EX : Exns K mg CPartError CNought) :
    FnOk P w K mg base CX0 1 fNegative fdNegative ["a"] (spNegative K) := by
  refine F.ok scNegative (fun vs H Q E h => ?_) (fun cdv A outer s H vs Q E hr h => ?_)
  · obtain ⟨a, p, q, rfl, hA, k⟩ := h
    rfl
  · obtain ⟨a, p, q, rfl, hA, k⟩ := h
    refine ⟨_, (pss_one (ps_ret (pe_tup (pa_cons (pe_un un_neg (pe_ix ix_tup (pv 0) pe_int (fun _ _ => rfl))) (pa_cons (pe_ix ix_tup (pv 0) pe_int (fun _ _ => rfl)) pa_nil))))), ?_⟩
    refine ⟨.ref a, rfl, a, _, 0, _, rfl, rfl, hA, atI_nat (j := 0) rfl, _, rfl, .ref a, rfl, a, _, 1, _, rfl, rfl, hA, atI_nat (j := 1) rfl, by show 2 ≤ sizeLine; decide, fun t ht => k _ t (same_upd ht) upd_same⟩
def spLess (K : PySem.W.Frag) : Sp := fun vs H Q _ => ∃ (a b : Addr) (p q r s : Int), vs = [.ref a, .ref b] ∧ SqT K H a (zs [p, q]) ∧ SqT K H b (zs [r, s]) ∧ p.natAbs < 2 ^ 800 ∧ q.natAbs < 2 ^ 800 ∧ r.natAbs < 2 ^ 800 ∧ s.natAbs < 2 ^ 800 ∧ Q (.bl (decide (p * s < r * q))) H
theorem okLess {fLess : Addr} {fdLess : FuncData} (F : Fun K "less" "less" sLess fLess fdLess) (T : Txt mg) {aZERO : Addr} {aONE : Addr} (CT : Cons K mg aZERO aONE) {CPartError CNought : Addr} (EX : Exns K mg CPartError CNought) :
    FnOk P w K mg base CX0 1 fLess fdLess ["a", "b"] (spLess K) := by
  refine F.ok scLess (fun vs H Q E h => ?_) (fun cdv A outer s H vs Q E hr h => ?_)
  · obtain ⟨a, b, p, q, r, s, rfl, hA, hB, hp, hq, hr', hs, k⟩ := h
    rfl
  · obtain ⟨a, b, p, q, r, s, rfl, hA, hB, hp, hq, hr', hs, k⟩ := h
    refine ⟨_, (pss_one (ps_ret (pe_cmpR op_lt (pe_op op_mulW (pe_ix ix_tup (pv 0) pe_int (fun _ _ => rfl)) (pe_ix ix_tup (pv 1) pe_int (fun _ _ => rfl))) (pe_op op_mulW (pe_ix ix_tup (pv 1) pe_int (fun _ _ => rfl)) (pe_ix ix_tup (pv 0) pe_int (fun _ _ => rfl))) (nomark _)))), ?_⟩
    exact ⟨.ref a, rfl, a, _, 0, _, rfl, rfl, hA, atI_nat (j := 0) rfl, .ref b, rfl, b, _, 1, _, rfl, rfl, hB, atI_nat (j := 1) rfl, _, _, rfl, rfl, wide_mul hp hs (by decide) (by decide) (by decide), .ref b, rfl, b, _, 0, _, rfl, rfl, hB, atI_nat (j := 0) rfl, .ref a, rfl, a, _, 1, _, rfl, rfl, hA, atI_nat (j := 1) rfl, _, _, rfl, rfl, wide_mul hr' hq (by decide) (by decide) (by decide), _, _, rfl, rfl, k⟩
def spSign (K : PySem.W.Frag) : Sp := fun vs H Q _ => ∃ (a : Addr) (p q : Int), vs = [.ref a] ∧ SqT K H a (zs [p, q]) ∧ Q (.int (if p < 0 then -1 else if 0 < p then 1 else 0)) H
theorem okSign {fSign : Addr} {fdSign : FuncData} (F : Fun K "sign" "sign" sSign fSign fdSign) (T : Txt mg) {aZERO : Addr} {aONE : Addr} (CT : Cons K mg aZERO aONE) {CPartError CNought : Addr} (EX : Exns K mg CPartError CNought) :
    FnOk P w K mg base CX0 1 fSign fdSign ["a"] (spSign K) := by
  refine F.ok scSign (fun vs H Q E h => ?_) (fun cdv A outer s H vs Q E hr h => ?_)
  · obtain ⟨a, p, q, rfl, hA, k⟩ := h
    rfl
  · obtain ⟨a, p, q, rfl, hA, k⟩ := h
    refine ⟨_, (pss_cons (ps_if (pt_cmpR op_lt (pe_ix ix_tup (pv 0) pe_int (fun _ _ => rfl)) pe_int (nomark _))
        (pss_one (ps_ret (pe_un un_neg pe_int)))
        pss_nil)
      (pss_cons (ps_if (pt_cmpR op_gt (pe_ix ix_tup (pv 0) pe_int (fun _ _ => rfl)) pe_int (nomark _))
        (pss_one (ps_ret pe_int))
        pss_nil)
      (pss_one (ps_ret pe_int)))), ?_⟩
    refine ⟨.ref a, rfl, a, _, 0, _, rfl, rfl, hA, atI_nat (j := 0) rfl, _, _, rfl, rfl, _, rfl, ite2 (fun g => ?_) (fun g => ?_)⟩
    · rw [if_pos (of_decide_eq_true g)] at k
      exact ⟨_, rfl, k⟩
    · rw [if_neg (fun z => g (decide_eq_true z))] at k
      refine ⟨.ref a, rfl, a, _, 0, _, rfl, rfl, hA, atI_nat (j := 0) rfl, _, _, rfl, rfl, _, rfl, ite2 (fun g => ?_) (fun g => ?_)⟩
      · rw [if_pos (of_decide_eq_true g)] at k
        exact k
      · rw [if_neg (fun z => g (decide_eq_true z))] at k
        exact k
def spMiddle (K : PySem.W.Frag) : Sp := spOp2 K (fun p q r s => p * s + r * q) (fun p q r s => 2 * q * s)
theorem okMiddle {fMiddle : Addr} {fdMiddle : FuncData} (F : Fun K "middle" "middle" sMiddle fMiddle fdMiddle) (T : Txt mg) {aZERO : Addr} {aONE : Addr} (CT : Cons K mg aZERO aONE) {CPartError CNought : Addr} (EX : Exns K mg CPartError CNought)
    {fFraction : Addr} {fdFraction : FuncData} (GFraction : FnOk P w K mg base (L2.CX P w) 1 fFraction fdFraction ["number", "divisor"] (spFraction K CNought)) (gFraction : mg "fraction" = some (.ref fFraction)) (kpFraction : PySem.W.keepIn K (.ref fFraction) = true) (bFraction : Binds K fdFraction ["number", "divisor"] []) {dsFraction : List Value} (vdFraction : Vals [.int 1] dsFraction) (bdFraction : Binds K fdFraction ["number", "divisor"] dsFraction) :
    FnOk P w K mg base CX0 2 fMiddle fdMiddle ["a", "b"] (spMiddle K) := by
  refine F.ok scMiddle (fun vs H Q E h => ?_) (fun cdv A outer s H vs Q E hr h => ?_)
  · obtain ⟨a, b, p, q, r, s, rfl, hA, hB, hp, hq, hr', hs, hD, k⟩ := h
    rfl
  · obtain ⟨a, b, p, q, r, s, rfl, hA, hB, hp, hq, hr', hs, hD, k⟩ := h
    refine ⟨_, (pss_one (ps_ret (pe_call GFraction hr (by rfl) gFraction kpFraction bFraction .nil passL (pa_cons (pe_op op_add (pe_op op_mulW (pe_ix ix_tup (pv 0) pe_int (fun _ _ => rfl)) (pe_ix ix_tup (pv 1) pe_int (fun _ _ => rfl))) (pe_op op_mulW (pe_ix ix_tup (pv 1) pe_int (fun _ _ => rfl)) (pe_ix ix_tup (pv 0) pe_int (fun _ _ => rfl)))) (pa_cons (pe_op op_mulW (pe_op op_mulW pe_int (pe_ix ix_tup (pv 0) pe_int (fun _ _ => rfl))) (pe_ix ix_tup (pv 1) pe_int (fun _ _ => rfl))) pa_nil))))), ?_⟩
    have h2 : (2 : Int).natAbs < 2 ^ 2 := by decide
    have h2q := wide_lt h2 hq
    refine ⟨.ref a, rfl, a, _, 0, _, rfl, rfl, hA, atI_nat (j := 0) rfl, .ref b, rfl, b, _, 1, _, rfl, rfl, hB, atI_nat (j := 1) rfl, _, _, rfl, rfl, wide_mul hp hs (by decide) (by decide) (by decide), .ref b, rfl, b, _, 0, _, rfl, rfl, hB, atI_nat (j := 0) rfl, .ref a, rfl, a, _, 1, _, rfl, rfl, hA, atI_nat (j := 1) rfl, _, _, rfl, rfl, wide_mul hr' hq (by decide) (by decide) (by decide), _, _, rfl, rfl, .ref a, rfl, a, _, 1, _, rfl, rfl, hA, atI_nat (j := 1) rfl, _, _, rfl, rfl, wide_mul h2 hq (by decide) (by decide) (by decide), .ref b, rfl, b, _, 1, _, rfl, rfl, hB, atI_nat (j := 1) rfl, _, _, rfl, rfl, wide_mul h2q hs (by decide) (by decide) (by decide), _, _, rfl, by rw [Int.natAbs_mul]; exact Nat.lt_of_lt_of_le (Nat.mul_lt_mul'' h2q hs) (by rw [← Nat.pow_add]; exact Nat.pow_le_pow_right (by decide) (by decide)), fun h => absurd h hD, fun _ H' t s1 e1 => k H' t s1 e1⟩
theorem same_ref {K : PySem.W.Frag} {H : Hp} {a : Addr} {o : List Int} (h : H a = some (.tup (zs o))) : SqT K H a (zs o) := SqT.of h
/-- a row of fractions: where each stands, its two numbers -/
structure Rows (K : PySem.W.Frag) (H : Hp) (ws : List (Addr × Int × Int)) : Prop where
  at_ : ∀ w ∈ ws, SqT K H w.1 (zs [w.2.1, w.2.2])
  b1 : ∀ w ∈ ws, w.2.1.natAbs < 2 ^ 40
  b2 : ∀ w ∈ ws, w.2.2.natAbs < 2 ^ 40
  b3 : ∀ w ∈ ws, 0 < w.2.2
  few : ws.length ≤ 9
theorem Rows.nil {K : PySem.W.Frag} {H : Hp} : Rows K H [] :=
  ⟨(fun _ h => nomatch h), (fun _ h => nomatch h), (fun _ h => nomatch h), (fun _ h => nomatch h), by decide⟩
def rf (ws : List (Addr × Int × Int)) : List V := ws.map fun w => V.ref w.1
theorem Rows.same {K : PySem.W.Frag} {H H' : Hp} {ws : List (Addr × Int × Int)} (r : Rows K H ws) (s : Same H H') : Rows K H' ws :=
  ⟨fun w hw => same_tup s (r.at_ w hw), r.b1, r.b2, r.b3, r.few⟩
theorem Rows.take {K : PySem.W.Frag} {H : Hp} {ws : List (Addr × Int × Int)} (r : Rows K H ws) (i : Nat) : Rows K H (ws.take i) :=
  ⟨fun w hw => r.at_ w (List.mem_of_mem_take hw), fun w hw => r.b1 w (List.mem_of_mem_take hw), fun w hw => r.b2 w (List.mem_of_mem_take hw), fun w hw => r.b3 w (List.mem_of_mem_take hw), by
    rw [List.length_take]
    have := r.few
    omega⟩
theorem rf_get {ws : List (Addr × Int × Int)} {i : Nat} {v : V} (h : (rf ws)[i]? = some v) : ∃ w, v = .ref w.1 ∧ ws[i]? = some w := by
  rw [show rf ws = ws.map fun w => V.ref w.1 from rfl, List.getElem?_map] at h
  cases e : ws[i]? with
  | none =>
    rw [e] at h
    cases h
  | some w =>
    rw [e] at h
    exact ⟨w, (Option.some.inj h).symm, rfl⟩
theorem rf_len (ws : List (Addr × Int × Int)) : (rf ws).length = ws.length := List.length_map _
/-- their sum, not in lowest terms -/
def nd (ws : List (Addr × Int × Int)) : Int × Int := ws.foldl (fun s w => (s.1 * w.2.2 + w.2.1 * s.2, s.2 * w.2.2)) (0, 1)
theorem nd_snoc (ws : List (Addr × Int × Int)) (w : Addr × Int × Int) : nd (ws ++ [w]) = ((nd ws).1 * w.2.2 + w.2.1 * (nd ws).2, (nd ws).2 * w.2.2) := by
  unfold nd
  rw [List.foldl_append]
  rfl
theorem take_sn {α : Type} {l : List α} {i : Nat} {z : α} (h : l[i]? = some z) : l.take (i + 1) = l.take i ++ [z] := by
  rw [List.take_add_one, h]
  rfl
theorem nd_bound {K : PySem.W.Frag} {H : Hp} {ws : List (Addr × Int × Int)} (r : Rows K H ws) : ∀ i ≤ ws.length, (nd (ws.take i)).1.natAbs ≤ 2 ^ (81 * i) ∧ (nd (ws.take i)).2.natAbs ≤ 2 ^ (40 * i) ∧ 0 < (nd (ws.take i)).2 := by
  intro i
  induction i with
  | zero =>
    intro _
    rw [List.take_zero]
    decide
  | succ i ih =>
    intro hi
    obtain ⟨h1, h2, h3⟩ := ih (by omega)
    have e : ws[i]? = some ws[i] := List.getElem?_eq_getElem (by omega)
    have hm : ws[i] ∈ ws := List.getElem_mem _
    have c1 := r.b1 _ hm
    have c2 := r.b2 _ hm
    have c3 := r.b3 _ hm
    rw [take_sn e, nd_snoc]
    refine ⟨?_, ?_, Int.mul_pos h3 c3⟩
    · have m1 : ((nd (ws.take i)).1 * ws[i].2.2).natAbs ≤ 2 ^ (81 * i) * 2 ^ 40 := mul_lt_abs h1 (Nat.le_of_lt c2)
      have m2 : (ws[i].2.1 * (nd (ws.take i)).2).natAbs ≤ 2 ^ 40 * 2 ^ (40 * i) := mul_lt_abs (Nat.le_of_lt c1) h2
      have p1 : (2 : Nat) ^ (81 * i) * 2 ^ 40 ≤ 2 ^ (81 * i + 80) := by
        rw [← Nat.pow_add]
        exact Nat.pow_le_pow_right (by decide) (by omega)
      have p2 : (2 : Nat) ^ 40 * 2 ^ (40 * i) ≤ 2 ^ (81 * i + 80) := by
        rw [← Nat.pow_add]
        exact Nat.pow_le_pow_right (by decide) (by omega)
      have p3 : (2 : Nat) ^ (81 * (i + 1)) = 2 * 2 ^ (81 * i + 80) := by
        rw [show 81 * (i + 1) = 81 * i + 80 + 1 by omega, Nat.pow_succ, Nat.mul_comm]
      have := Int.natAbs_add_le ((nd (ws.take i)).1 * ws[i].2.2) (ws[i].2.1 * (nd (ws.take i)).2)
      show ((nd (ws.take i)).1 * ws[i].2.2 + ws[i].2.1 * (nd (ws.take i)).2).natAbs ≤ _
      omega
    · have m1 : ((nd (ws.take i)).2 * ws[i].2.2).natAbs ≤ 2 ^ (40 * i) * 2 ^ 40 := mul_lt_abs h2 (Nat.le_of_lt c2)
      rw [← Nat.pow_add] at m1
      exact m1
theorem nd_lt {K : PySem.W.Frag} {H : Hp} {ws : List (Addr × Int × Int)} (r : Rows K H ws) {i : Nat} (hi : i ≤ ws.length) : (nd (ws.take i)).1.natAbs < 2 ^ 800 ∧ (nd (ws.take i)).2.natAbs < 2 ^ 800 ∧ 0 < (nd (ws.take i)).2 := by
  obtain ⟨h1, h2, h3⟩ := nd_bound r i hi
  have hf := r.few
  have p1 : (2 : Nat) ^ (81 * i) < 2 ^ 800 := Nat.pow_lt_pow_right (by decide) (by omega)
  have p2 : (2 : Nat) ^ (40 * i) < 2 ^ 800 := Nat.pow_lt_pow_right (by decide) (by omega)
  exact ⟨by omega, by omega, h3⟩
theorem rd2_le {n d : Int} (hd : d ≠ 0) : ∃ p q, rd2 n d = [p, q] ∧ p.natAbs ≤ n.natAbs ∧ q.natAbs ≤ d.natAbs ∧ Fr n d p q :=
  have f := fr_of (n := n) hd
  ⟨_, _, rfl, part_le f.hp (sg_ne hd), part_le f.hq (sg_ne hd), f⟩
def pdw (w : Addr × Int × Int) : PyData := pd2 w.2.1 w.2.2
theorem dpa {K : PySem.W.Frag} {H : Hp} : ∀ {ws : List (Addr × Int × Int)}, (∀ w ∈ ws, SqT K H w.1 (zs [w.2.1, w.2.2])) → DpAll K H (rf ws) (ws.map pdw)
  | [], _ => .nil
  | w :: ws, h => .cons (dp2 (h w List.mem_cons_self)) (dpa fun x hx => h x (List.mem_cons_of_mem _ hx))
theorem dpl {K : PySem.W.Frag} {H : Hp} {l : Addr} {ws : List (Addr × Int × Int)} (h : SqL K H l (rf ws)) (r : Rows K H ws) : Dp K H (.ref l) (.list (ws.map pdw)) := .lst h (dpa r.at_)
theorem eqvl (ws : List (Addr × Int × Int)) : PyData.eqv (.list (ws.map pdw)) (.list (ws.map pdw)) = true := by
  have : PyData.eqvAll (ws.map pdw) (ws.map pdw) = true := by
    induction ws with
    | nil => rfl
    | cons w ws ih =>
      rw [List.map_cons, PyData.eqvAll, show pdw w = pd2 w.2.1 w.2.2 from rfl, eqv2, ih]
      rfl
  rw [PyData.eqv]
  exact this
theorem shl (ws : List (Addr × Int × Int)) : SeqAt.shaped (.list (ws.map pdw)) = true := by
  have h1 : PyData.canLayAll0 (ws.map pdw) = true := by
    induction ws with
    | nil => rfl
    | cons w ws ih =>
      rw [List.map_cons, PyData.canLayAll0, ih]
      rfl
  have h2 : ∀ l : List (Addr × Int × Int), PyData.depthAll (l.map pdw) ≤ 1 := by
    intro l
    induction l with
    | nil => decide
    | cons w ws ih =>
      rw [List.map_cons, PyData.depthAll]
      exact Nat.max_le.mpr ⟨Nat.le_refl 1, ih⟩
  have h2 := h2 ws
  unfold SeqAt.shaped
  rw [PyData.canLay0, PyData.depth, h1, decide_eq_true (by omega)]
  rfl
theorem no_self {x : V} (h : (!decide (x = x)) = true) : False := by
  rw [decide_eq_true rfl] at h
  cases h
theorem eqvs (x : Str) : PyData.eqv (.str x) (.str x) = true := by simp [PyData.eqv]
theorem tup_upd {K : PySem.W.Frag} {H : Hp} {a l : Addr} {xs ys : List V} {o : HO} (h : SqT K H a xs) (hl : H l = some (.lst ys)) : SqT K (upd H l o) a xs := by
  rcases h with (h | ⟨ob, h⟩) | h
  · refine .inl (.inl ?_)
    rw [upd_ne (ne_of h hl (by intro z; cases z))]
    exact h
  · refine .inl (.inr ⟨ob, ?_⟩)
    rw [upd_ne (ne_of h hl (by intro z; cases z))]
    exact h
  · exact .inr h
def spTotal (K : PySem.W.Frag) : Sp := fun vs H Q _ => ∃ (l : Addr) (ws : List (Addr × Int × Int)), vs = [.ref l] ∧ SqL K H l (rf ws) ∧ Rows K H ws ∧ ∀ (H' : Hp) (t : Addr), Same H H' → SqT K H' t (zs (rd2 (nd ws).1 (nd ws).2)) → Q (.ref t) H'
theorem okTotal {fTotal : Addr} {fdTotal : FuncData} (F : Fun K "total" "total" sTotal fTotal fdTotal) (T : Txt mg) {aZERO : Addr} {aONE : Addr} (CT : Cons K mg aZERO aONE) {CPartError CNought : Addr} (EX : Exns K mg CPartError CNought)
    {fPlus : Addr} {fdPlus : FuncData} (GPlus : FnOk P w K mg base CX0 2 fPlus fdPlus ["a", "b"] (spPlus K)) (gPlus : mg "plus" = some (.ref fPlus)) (kpPlus : PySem.W.keepIn K (.ref fPlus) = true) (bPlus : Binds K fdPlus ["a", "b"] []) :
    FnOk P w K mg base CX0 3 fTotal fdTotal ["row"] (spTotal K) := by
  refine F.ok scTotal (fun vs H Q E h => ?_) (fun cdv A outer s H vs Q E hr h => ?_)
  · obtain ⟨l, ws, rfl, hL, hW, k⟩ := h
    rfl
  · obtain ⟨l, ws, rfl, hL, hW, k⟩ := h
    refine ⟨_, (pss_cons (ps_set (i := 1) scTotal.nd rfl (Or.inl rfl) (pe_glob (v := .ref aZERO) (by rfl) CT.gZERO rfl))
      (C8.pss_cut (ps_for PassesOwn.never rfl (pi_list (pv 0)) (pg_name (i := 2) scTotal.nd rfl (Or.inl rfl))
        (pss_one (ps_set (i := 1) scTotal.nd rfl (Or.inl rfl) (pe_call GPlus hr (by rfl) gPlus kpPlus bPlus .nil pass0 (pa_cons (pv 1) (pa_cons (pv 2) pa_nil))))))
      (pss_one (ps_ret (pv 1))))), ?_⟩
    refine ⟨fun σ' H' => ∃ (t : Addr) (v2 : Option V), σ' = [some (.ref l), some (.ref t), v2] ∧ Same H H' ∧ SqT K H' t (zs (rd2 (nd ws).1 (nd ws).2)), ?_, ?_⟩
    · refine ⟨_, rfl, l, rfl, ⟨_, hL⟩, for_list (K := K) (a := l) (xs := rf ws) (fun i σ' H' => ∃ (t : Addr) (v2 : Option V), σ' = [some (.ref l), some (.ref t), v2] ∧ Same H H' ∧ SqT K H' t (zs (rd2 (nd (ws.take i)).1 (nd (ws.take i)).2))) ?_ ?_ ?_ ?_⟩
      · refine ⟨aZERO, none, rfl, Same.refl _, ?_⟩
        rw [List.take_zero]
        show SqT K H aZERO (zs (rd2 0 1))
        rw [rd2_zero]
        exact CT.tZERO H
      · rintro i σ' H' _ ⟨t, v2, rfl, s1, _⟩
        exact s1.seq hL
      · rintro i v σ' H' hi ⟨t, v2, rfl, s1, ht⟩
        obtain ⟨w, rfl, hw⟩ := rf_get hi
        have hm : w ∈ ws := List.mem_of_getElem? hw
        have hil : i < ws.length := (List.getElem?_eq_some_iff.mp hw).1
        obtain ⟨n1, n2, n3⟩ := nd_lt hW (Nat.le_of_lt hil)
        obtain ⟨p, q, er, hp, hq, fr⟩ := rd2_le (n := (nd (ws.take i)).1) (d := (nd (ws.take i)).2) (by omega)
        rw [er] at ht
        have w1 := hW.b1 w hm
        have w2 := hW.b2 w hm
        have w3 := hW.b3 w hm
        have q0 := fr.q0
        have up : (2 : Nat) ^ 40 ≤ 2 ^ 800 := Nat.pow_le_pow_right (by decide) (by decide)
        refine ⟨_, rfl, _, rfl, t, w.1, p, q, w.2.1, w.2.2, rfl, ht, same_tup s1 (hW.at_ w hm), by omega, by omega, by omega, by omega, Int.mul_ne_zero (by omega) (by omega), fun H2 t2 s2 e2 => ?_⟩
        refine ⟨t2, some (.ref w.1), rfl, s1.trans s2, ?_⟩
        rw [take_sn hw, nd_snoc]
        have eq2 : rd2 (p * w.2.2 + w.2.1 * q) (q * w.2.2) = rd2 ((nd (ws.take i)).1 * w.2.2 + w.2.1 * (nd (ws.take i)).2) ((nd (ws.take i)).2 * w.2.2) := by
          refine rd2_eq (Int.mul_pos q0 w3) (Int.mul_pos n3 w3) ?_
          have c := fr.cross
          generalize (nd (ws.take i)).1 = N at c ⊢
          generalize (nd (ws.take i)).2 = D at c ⊢
          have h1 : (p * w.2.2 + w.2.1 * q) * (D * w.2.2) = (p * D) * (w.2.2 * w.2.2) + w.2.1 * q * D * w.2.2 := by
            rw [Int.add_mul]
            congr 1
            · rw [Int.mul_assoc, Int.mul_left_comm w.2.2 D, ← Int.mul_assoc]
            · rw [Int.mul_assoc (w.2.1 * q)]
          have h2 : (N * w.2.2 + w.2.1 * D) * (q * w.2.2) = (N * q) * (w.2.2 * w.2.2) + w.2.1 * q * D * w.2.2 := by
            rw [Int.add_mul]
            congr 1
            · rw [Int.mul_assoc, Int.mul_left_comm w.2.2 q, ← Int.mul_assoc]
            · rw [Int.mul_assoc w.2.1 q D, Int.mul_comm q D, ← Int.mul_assoc w.2.1 D q, Int.mul_assoc (w.2.1 * D)]
          rw [h1, h2, c]
        rw [← eq2]
        exact same_ref e2
      · rintro σ' H' ⟨t, v2, rfl, s1, ht⟩
        rw [rf_len, List.take_length] at ht
        exact ⟨t, v2, rfl, s1, ht⟩
    rintro σ' H' ⟨t, v2, rfl, s1, ht⟩
    exact ⟨_, rfl, k H' t s1 ht⟩
def spLLawNumber (K : PySem.W.Frag) : Sp := fun vs H Q _ => ∃ (a : Addr) (ns : List Int) (k : Nat), vs = [.ref a, .int k] ∧ SqL K H a (zs ns) ∧ ∀ c : Int, Q (.int c) H
theorem okLLawNumber {fLLawNumber : Addr} {fdLLawNumber : FuncData} (F : Fun K "_law_number" "_law_number" sLLawNumber fLLawNumber fdLLawNumber) (T : Txt mg) {aZERO : Addr} {aONE : Addr} (CT : Cons K mg aZERO aONE) {CPartError CNought : Addr} (EX : Exns K mg CPartError CNought) :
    FnOk P w K mg base CX0 1 fLLawNumber fdLLawNumber ["script", "k"] (spLLawNumber K) := by
  refine F.ok scLLawNumber (fun vs H Q E h => ?_) (fun cdv A outer s H vs Q E hr h => ?_)
  · obtain ⟨a, ns, k, rfl, hS, q⟩ := h
    rfl
  · obtain ⟨a, ns, k, rfl, hS, q⟩ := h
    refine ⟨_, (C8.pss_cut (ps_set (i := 2) scLLawNumber.nd rfl (Or.inl rfl) (pe_ifExp (pt_cmpR op_lt (pv 1) (pe_callB call_len_seq (by rfl) T.len PySem.boot_len (pa_cons (pv 0) pa_nil)) (nomark _)) (pe_ix ix_list (pv 0) (pv 1) (fun _ _ => rfl)) (pe_op op_add (pe_op op_mul pe_int (pv 1)) pe_int)))
      (C8.pss_cut (ps_if (pt_cmpR op_lt (pv 2) pe_int (nomark _))
        (pss_one (ps_set (i := 2) scLLawNumber.nd rfl (Or.inl rfl) (pe_op op_sub (pe_op op_mul (pe_un un_neg pe_int) (pv 2)) pe_int)))
        pss_nil)
      (pss_cons (ps_if (pt_cmpR op_lt (pv 2) (pe_op op_pow pe_int pe_int) (nomark _))
        (pss_cons (ps_set (i := 3) scLLawNumber.nd rfl (Or.inl rfl) (pe_op op_mod (pe_callTy call_int1 (by rfl) T.int (by decide +kernel) (pa_cons (pe_op op_add (pe_op op_add (pe_op op_mul (pv 2) pe_int) (pe_op op_mul (pv 1) pe_int)) pe_int) pa_nil)) pe_int))
        (pss_cons (ps_set (i := 4) scLLawNumber.nd rfl (Or.inl rfl) (pe_op op_mod (pe_callTy call_int1 (by rfl) T.int (by decide +kernel) (pa_cons (pe_op op_add (pe_op op_add (pe_op op_mul (pv 3) pe_int) (pe_op op_mul (pv 2) pe_int)) (pv 1)) pa_nil)) pe_int))
        (pss_one (ps_ret (pe_op op_add (pe_op op_mul (pv 3) pe_int) (pv 4))))))
        pss_nil)
      (pss_one (ps_ret (pv 2)))))), ?_⟩
    refine ⟨fun σ' H' => ∃ c : Int, σ' = [some (.ref a), some (.int k), some (.int c), none, none] ∧ H' = H, ?_, ?_⟩
    · refine ⟨_, rfl, .ref a, rfl, a, _, rfl, .inl hS, _, _, rfl, rfl, _, rfl, ite2 (fun hlt => ?_) (fun _ => ?_)⟩
      · have h1 := of_decide_eq_true hlt
        rw [show zs ns = ns.map V.int from rfl, List.length_map] at h1
        have h2 : k < ns.length := by omega
        have h3 : (zs ns)[k]? = some (.int ns[k]) := by
          rw [show zs ns = ns.map V.int from rfl, List.getElem?_map, List.getElem?_eq_getElem h2]
          rfl
        exact ⟨.ref a, rfl, _, rfl, a, _, _, _, rfl, rfl, hS, atI_nat h3, _, rfl, rfl⟩
      · walk_at "rd"
        exact rfl
    · rintro σ' H' ⟨c, rfl, rfl⟩
      refine ⟨fun σ' H2 => ∃ c : Int, σ' = [some (.ref a), some (.int k), some (.int c), none, none] ∧ H2 = H', ?_, ?_⟩
      · walk_at "rd"
        refine ite2 (fun _ => ?_) (fun _ => ⟨_, rfl, rfl⟩)
        walk_at "rd"
        exact rfl
      · rintro σ' H2 ⟨c, rfl, rfl⟩
        walk_at "rd"
        refine ite2 (fun _ => ?_) (fun _ => ⟨_, rfl, q _⟩)
        walk_at "rd"
        exact q _
def spLLawIsWhole (K : PySem.W.Frag) : Sp := fun vs H Q _ => ∃ n : Int, vs = [.int n] ∧ Q (.bl true) H
theorem okLLawIsWhole {fLLawIsWhole : Addr} {fdLLawIsWhole : FuncData} (F : Fun K "_law_is_whole" "_law_is_whole" sLLawIsWhole fLLawIsWhole fdLLawIsWhole) (T : Txt mg) {aZERO : Addr} {aONE : Addr} (CT : Cons K mg aZERO aONE) {CPartError CNought : Addr} (EX : Exns K mg CPartError CNought) :
    FnOk P w K mg base CX0 1 fLLawIsWhole fdLLawIsWhole ["actual"] (spLLawIsWhole K) := by
  refine F.ok scLLawIsWhole (fun vs H Q E h => ?_) (fun cdv A outer s H vs Q E hr h => ?_)
  · obtain ⟨n, rfl, q⟩ := h
    rfl
  · obtain ⟨n, rfl, q⟩ := h
    refine ⟨_, (pss_one (ps_ret (pe_and (pe_callB call_isi (by rfl) T.isinstance (by decide +kernel) (pa_cons (pv 0) (pa_cons (pe_bltn (v := .ty "int") (by rfl) T.int (by decide +kernel) rfl) pa_nil))) (pe_one (pe_not (pe_callB call_isi (by rfl) T.isinstance (by decide +kernel) (pa_cons (pv 0) (pa_cons (pe_bltn (v := .ty "bool") (by rfl) T.bool (by decide +kernel) rfl) pa_nil)))))))), ?_⟩
    refine ⟨.int n, rfl, .int n, .ty "int", .type "int", .type "int", true, rfl, (.ty _), .base (.int n), kit_ty (by decide +kernel), true, rfl, iteT ?_⟩
    exact ⟨.int n, rfl, .int n, .ty "bool", .type "int", .type "bool", false, rfl, (.ty _), .base (.int n), kit_ty (by decide +kernel), false, rfl, q⟩
def spLLawFraction (K : PySem.W.Frag) : Sp := fun vs H Q _ => ∃ n d : Int, vs = [.int n, .int d] ∧ n.natAbs < 2 ^ 1800 ∧ d.natAbs < 2 ^ 1800 ∧ d ≠ 0 ∧ ∀ (H' : Hp) (t : Addr), Same H H' → H' t = some (.tup (zs (rd2 n d))) → Q (.ref t) H'
theorem okLLawFraction {fLLawFraction : Addr} {fdLLawFraction : FuncData} (F : Fun K "_law_fraction" "_law_fraction" sLLawFraction fLLawFraction fdLLawFraction) (T : Txt mg) {aZERO : Addr} {aONE : Addr} (CT : Cons K mg aZERO aONE) {CPartError CNought : Addr} (EX : Exns K mg CPartError CNought) :
    FnOk P w K mg base CX0 1 fLLawFraction fdLLawFraction ["number", "divisor"] (spLLawFraction K) := by
  refine F.ok scLLawFraction (fun vs H Q E h => ?_) (fun cdv A outer s H vs Q E hr h => ?_)
  · obtain ⟨n, d, rfl, bn, bd, hd, k⟩ := h
    rfl
  · obtain ⟨n, d, rfl, bn, bd, hd, k⟩ := h
    refine ⟨_, (C8.pss_cut (ps_set (i := 2) scLLawFraction.nd rfl (Or.inl rfl) (pe_ifExp (pt_cmpR op_ge (pv 0) pe_int (nomark _)) (pv 0) (pe_un un_neg (pv 0))))
      (C8.pss_cut (ps_set (i := 3) scLLawFraction.nd rfl (Or.inl rfl) (pe_ifExp (pt_cmpR op_ge (pv 1) pe_int (nomark _)) (pv 1) (pe_un un_neg (pv 1))))
      (C8.pss_cut (ps_for PassesOwn.never rfl (pi_range1 rfl T.range (pa_cons (pe_op op_add (pe_op op_add (pe_op op_mul pe_int (pe_callB call_len_str (by rfl) T.len PySem.boot_len (pa_cons (pe_callTy call_str_int (by rfl) T.str (by decide +kernel) (pa_cons (pv 2) pa_nil)) pa_nil))) (pe_op op_mul pe_int (pe_callB call_len_str (by rfl) T.len PySem.boot_len (pa_cons (pe_callTy call_str_int (by rfl) T.str (by decide +kernel) (pa_cons (pv 3) pa_nil)) pa_nil)))) pe_int) pa_nil)) (pg_name (i := 4) scLLawFraction.nd rfl (Or.inl rfl))
        (pss_cons (ps_if (pt_cmpR op_eq (pv 3) pe_int (nomark _))
          (pss_one ps_break)
          pss_nil)
        (pss_cons (ps_set (i := 5) scLLawFraction.nd rfl (Or.inl rfl) (pe_op op_modN (pe_callTy call_int1 (by rfl) T.int (by decide +kernel) (pa_cons (pv 2) pa_nil)) (pv 3)))
        (pss_cons (ps_set (i := 2) scLLawFraction.nd rfl (Or.inl rfl) (pv 3))
        (pss_one (ps_set (i := 3) scLLawFraction.nd rfl (Or.inl rfl) (pv 5)))))))
      (C8.pss_cut (ps_if (pt_cmpR op_lt (pv 1) pe_int (nomark _))
        (pss_one (ps_set (i := 2) scLLawFraction.nd rfl (Or.inl rfl) (pe_un un_neg (pv 2))))
        pss_nil)
      (pss_one (ps_ret (pe_tup (pa_cons (pe_op op_fdivX (pv 0) (pv 2)) (pa_cons (pe_op op_fdivX (pv 1) (pv 2)) pa_nil))))))))), ?_⟩
    refine ⟨fun σ' H' => σ' = [some (.int n), some (.int d), some (.int ((n.natAbs : Nat) : Int)), none, none, none] ∧ H' = H, ?_, ?_⟩
    · walk_at "rd"
      refine ite2 (fun g => ?_) (fun g => ?_)
      · have g0 : 0 ≤ n := of_decide_eq_true g
        have e0 : ((n.natAbs : Nat) : Int) = n := by omega
        rw [e0]
        exact ⟨_, rfl, rfl, rfl⟩
      · have g0 : ¬ 0 ≤ n := fun z => g (decide_eq_true z)
        have e0 : ((n.natAbs : Nat) : Int) = -n := by omega
        rw [e0]
        exact ⟨_, rfl, _, rfl, rfl, rfl⟩
    rintro σ' H1 ⟨rfl, rfl⟩
    refine ⟨fun σ' H' => σ' = [some (.int n), some (.int d), some (.int ((n.natAbs : Nat) : Int)), some (.int ((d.natAbs : Nat) : Int)), none, none] ∧ H' = H1, ?_, ?_⟩
    · walk_at "rd"
      refine ite2 (fun g => ?_) (fun g => ?_)
      · have g0 : 0 ≤ d := of_decide_eq_true g
        have e0 : ((d.natAbs : Nat) : Int) = d := by omega
        rw [e0]
        exact ⟨_, rfl, rfl, rfl⟩
      · have g0 : ¬ 0 ≤ d := fun z => g (decide_eq_true z)
        have e0 : ((d.natAbs : Nat) : Int) = -d := by omega
        rw [e0]
        exact ⟨_, rfl, _, rfl, rfl, rfl⟩
    rintro σ' H2 ⟨rfl, rfl⟩
    have l1 : ((n.natAbs : Nat) : Int).natAbs.log2 < 1920 := by
      rw [Int.natAbs_natCast]
      exact Nat.lt_of_lt_of_le (PySem.Flt.log2_lt_of (by decide) bn) (by decide)
    have l2 : ((d.natAbs : Nat) : Int).natAbs.log2 < 1920 := by
      rw [Int.natAbs_natCast]
      exact Nat.lt_of_lt_of_le (PySem.Flt.log2_lt_of (by decide) bd) (by decide)
    have z1 := PySem.int_text_length_le (k := 1920) (by decide) l1
    have z2 := PySem.int_text_length_le (k := 1920) (by decide) l2
    obtain ⟨N, hN⟩ : ∃ N : Nat, N = 4 * (toString ((n.natAbs : Nat) : Int)).length + 4 * (toString ((d.natAbs : Nat) : Int)).length + 60 := ⟨_, rfl⟩
    have eN : (4 : Int) * ((Str.ofString (toString ((n.natAbs : Nat) : Int))).length : Nat) + 4 * ((Str.ofString (toString ((d.natAbs : Nat) : Int))).length : Nat) + 60 = (N : Int) := by
      rw [PySem.ofString_length, PySem.ofString_length, hN]
      omega
    refine ⟨fun σ' H' => ∃ v3 v4 v5 : Option V, σ' = [some (.int n), some (.int d), some (.int ((Nat.gcd n.natAbs d.natAbs : Nat) : Int)), v3, v4, v5] ∧ H' = H2, ?_, ?_⟩
    · refine ⟨_, rfl, _, rfl, l1, _, rfl, PySem.int_text_fits l1, _, _, rfl, rfl, .inl (by constructor <;> decide), ?_⟩
      refine ⟨_, rfl, _, rfl, l2, _, rfl, PySem.int_text_fits l2, _, _, rfl, rfl, .inl (by constructor <;> decide), ?_⟩
      refine ⟨_, _, rfl, rfl, _, _, rfl, rfl, N, congrArg (fun z => [V.int z]) eN, by omega, by omega, ?_⟩
      refine for_range (n := N) (fun i σ' H' => ∃ (c e : Nat) (v4 v5 : Option V), σ' = [some (.int n), some (.int d), some (.int c), some (.int e), v4, v5] ∧ H' = H2 ∧ Eu n.natAbs d.natAbs i c e) ⟨_, _, none, none, rfl, rfl, Eu.start _ _⟩ ?_ ?_
      · rintro i σ' H' hi ⟨c, e, v4, v5, rfl, rfl, eu⟩
        walk_at "rd"
        refine ite2 (fun g => ?_) (fun g => ?_)
        · have he0 : e = 0 := by
            have := eq_of_dec g
            omega
          subst he0
          refine ⟨some (.int ((0 : Nat) : Int)), some (.int (0 + (i : Int))), v5, ?_, rfl⟩
          rw [← eu.end]
          rfl
        · have he0 : e ≠ 0 := fun z => g (decide_eq_true (by rw [z]; rfl))
          walk_at "rd"
          refine ⟨by omega, ?_⟩
          walk_at "rd"
          refine ⟨e, c % e, some (.int (0 + (i : Int))), some (.int ((c % e : Nat) : Int)), ?_, rfl, eu.turn (by omega)⟩
          rw [← fmod_nat c e]
          rfl
      · rintro σ' H' ⟨c, e, v4, v5, rfl, rfl, eu⟩
        have he0 : e = 0 := eu.stop (by omega) (eu_digits hN)
        subst he0
        refine ⟨some (.int ((0 : Nat) : Int)), v4, v5, ?_, rfl⟩
        rw [← eu.end]
    rintro σ' H3 ⟨v3, v4, v5, rfl, rfl⟩
    refine ⟨fun σ' H' => σ' = [some (.int n), some (.int d), some (.int (sg n d)), v3, v4, v5] ∧ H' = H3, ?_, ?_⟩
    · walk_at "rd"
      refine ite2 (fun g2 => ?_) (fun g2 => ?_)
      · refine ⟨_, rfl, _, rfl, ?_, rfl⟩
        unfold sg
        rw [if_pos (of_decide_eq_true g2)]
        rfl
      · refine ⟨?_, rfl⟩
        unfold sg
        rw [if_neg (fun z => g2 (decide_eq_true z))]
    rintro σ' H4 ⟨rfl, rfl⟩
    have hs := sg_ne (n := n) hd
    have hsb : (sg n d).natAbs < 2 ^ 1800 := by
      rw [sg_abs]
      exact Nat.lt_of_le_of_lt (Nat.le_of_dvd (by omega) (Nat.gcd_dvd_right _ _)) bd
    refine ⟨_, rfl, _, rfl, _, _, rfl, rfl, wide_divx hs hsb (by decide) (by decide), _, rfl, _, rfl, _, _, rfl, rfl, wide_divx hs hsb (by decide) (by decide), by show 2 ≤ sizeLine; decide, fun t ht => ?_⟩
    exact k _ t (same_upd ht) upd_same
def spLLawDrawn (K : PySem.W.Frag) : Sp := fun vs H Q _ => ∃ draw way : Int, vs = [.int draw, .int way] ∧ ∀ (H' : Hp) (t : Addr) (p q : Int), Same H H' → H' t = some (.tup (zs [p, q])) → p.natAbs < 2 ^ 40 → q.natAbs < 2 ^ 40 → 0 < q → Q (.ref t) H'
theorem okLLawDrawn {fLLawDrawn : Addr} {fdLLawDrawn : FuncData} (F : Fun K "_law_drawn" "_law_drawn" sLLawDrawn fLLawDrawn fdLLawDrawn) (T : Txt mg) {aZERO : Addr} {aONE : Addr} (CT : Cons K mg aZERO aONE) {CPartError CNought : Addr} (EX : Exns K mg CPartError CNought)
    {fLLawFraction : Addr} {fdLLawFraction : FuncData} (GLLawFraction : FnOk P w K mg base CX0 1 fLLawFraction fdLLawFraction ["number", "divisor"] (spLLawFraction K)) (gLLawFraction : mg "_law_fraction" = some (.ref fLLawFraction)) (kpLLawFraction : PySem.W.keepIn K (.ref fLLawFraction) = true) (bLLawFraction : Binds K fdLLawFraction ["number", "divisor"] []) :
    FnOk P w K mg base CX0 2 fLLawDrawn fdLLawDrawn ["draw", "way"] (spLLawDrawn K) := by
  refine F.ok scLLawDrawn (fun vs H Q E h => ?_) (fun cdv A outer s H vs Q E hr h => ?_)
  · obtain ⟨draw, way, rfl, k⟩ := h
    rfl
  · obtain ⟨draw, way, rfl, k⟩ := h
    refine ⟨_, (pss_cons (ps_set (i := 2) scLLawDrawn.nd rfl (Or.inl rfl) (pe_op op_mod (pe_callTy call_int1 (by rfl) T.int (by decide +kernel) (pa_cons (pe_op op_fdiv (pv 0) pe_int) pa_nil)) (pe_op op_pow pe_int pe_int)))
      (pss_cons (ps_set (i := 3) scLLawDrawn.nd rfl (Or.inl rfl) (pe_op op_add pe_int (pe_op op_mod (pe_callTy call_int1 (by rfl) T.int (by decide +kernel) (pa_cons (pe_op op_fdiv (pv 0) (pe_op op_mul pe_int (pe_op op_pow pe_int pe_int))) pa_nil)) (pe_op op_pow pe_int pe_int))))
      (C8.pss_cut (ps_if (pt_cmpR op_eq (pe_op op_mod (pe_callTy call_int1 (by rfl) T.int (by decide +kernel) (pa_cons (pv 0) pa_nil)) pe_int) pe_int (nomark _))
        (pss_one (ps_set (i := 2) scLLawDrawn.nd rfl (Or.inl rfl) (pe_op op_mod (pe_callTy call_int1 (by rfl) T.int (by decide +kernel) (pa_cons (pv 0) pa_nil)) pe_int)))
        pss_nil)
      (C8.pss_cut (ps_if (pt_cmpR op_eq (pe_op op_mod (pe_callTy call_int1 (by rfl) T.int (by decide +kernel) (pa_cons (pe_op op_fdiv (pv 0) pe_int) pa_nil)) pe_int) pe_int (nomark _))
        (pss_one (ps_set (i := 2) scLLawDrawn.nd rfl (Or.inl rfl) (pe_un un_neg (pv 2))))
        pss_nil)
      (C8.pss_cut (ps_if (pt_cmpR op_eq (pv 1) pe_int (nomark _))
        (pss_one (ps_set (i := 3) scLLawDrawn.nd rfl (Or.inl rfl) (pe_op op_add pe_int (pe_op op_mod (pe_callTy call_int1 (by rfl) T.int (by decide +kernel) (pa_cons (pe_op op_fdiv (pv 0) pe_int) pa_nil)) pe_int))))
        pss_nil)
      (pss_one (ps_ret (pe_call GLLawFraction hr (by rfl) gLLawFraction kpLLawFraction bLLawFraction .nil pass0 (pa_cons (pv 2) (pa_cons (pv 3) pa_nil)))))))))), ?_⟩
    have n1 := mod_abs (draw / 11) (show (0 : Int) < 10 ^ Int.toNat 12 by decide)
    have e1 : ((10 : Int) ^ Int.toNat 12).natAbs = 10 ^ 12 := by decide
    rw [e1] at n1
    have d1 := mod_abs (draw / (13 * 10 ^ Int.toNat 6)) (show (0 : Int) < 10 ^ Int.toNat 9 by decide)
    have d0 := Int.emod_nonneg (draw / (13 * 10 ^ Int.toNat 6)) (show (10 : Int) ^ Int.toNat 9 ≠ 0 by decide)
    have e2 : ((10 : Int) ^ Int.toNat 9).natAbs = 10 ^ 9 := by decide
    rw [e2] at d1
    have c1 := mod_abs draw (show (0 : Int) < 3 by decide)
    have c2 := mod_abs (draw / 17) (show (0 : Int) < 6 by decide)
    have c3 := Int.emod_nonneg (draw / 17) (show (6 : Int) ≠ 0 by decide)
    walk_at "rd"
    generalize draw / (13 * 10 ^ Int.toNat 6) % 10 ^ Int.toNat 9 = dd at d0 d1
    refine ⟨fun σ' H' => ∃ N : Int, σ' = [some (.int draw), some (.int way), some (.int N), some (.int (1 + dd))] ∧ H' = H ∧ N.natAbs ≤ 10 ^ 12, ?_, ?_⟩
    · walk_at "rd"
      refine ite2 (fun _ => ?_) (fun _ => ⟨_, rfl, rfl, n1⟩)
      refine ⟨_, rfl, .inl ⟨_, rfl, _, _, rfl, rfl, by show (0 : Int) < 3; decide, _, rfl, rfl, ?_⟩⟩
      exact Nat.le_trans c1 (by decide)
    rintro σ' H1 ⟨N1, rfl, rfl, b1⟩
    refine ⟨fun σ' H' => ∃ N : Int, σ' = [some (.int draw), some (.int way), some (.int N), some (.int (1 + dd))] ∧ H' = H1 ∧ N.natAbs ≤ 10 ^ 12, ?_, ?_⟩
    · walk_at "rd"
      refine ite2 (fun _ => ?_) (fun _ => ⟨_, rfl, rfl, b1⟩)
      exact ⟨_, rfl, _, rfl, -N1, rfl, rfl, by omega⟩
    rintro σ' H2 ⟨N2, rfl, rfl, b2⟩
    refine ⟨fun σ' H' => ∃ D : Int, σ' = [some (.int draw), some (.int way), some (.int N2), some (.int D)] ∧ H' = H2 ∧ D.natAbs ≤ 10 ^ 9 + 1 ∧ 0 < D, ?_, ?_⟩
    · refine ⟨_, rfl, rfl, _, rfl, ite2 (fun _ => ?_) (fun _ => ⟨_, rfl, rfl, by omega, by omega⟩)⟩
      refine ⟨_, rfl, _, _, rfl, rfl, ⟨by decide, by decide⟩, .inl ⟨_, rfl, _, _, rfl, rfl, by show (0 : Int) < 6; decide, _, _, rfl, rfl, 1 + draw / 17 % 6, rfl, rfl, ?_, by omega⟩⟩
      have : (6 : Int).natAbs = 6 := rfl
      omega
    rintro σ' H3 ⟨D, rfl, rfl, b3, b4⟩
    have u1 : (10 : Nat) ^ 12 < 2 ^ 40 := by decide
    have u2 : (10 : Nat) ^ 9 + 1 < 2 ^ 40 := by decide
    have up : (2 : Nat) ^ 40 ≤ 2 ^ 1800 := Nat.pow_le_pow_right (by decide) (by decide)
    refine ⟨_, rfl, _, rfl, N2, D, rfl, by omega, by omega, by omega, fun H4 t s4 e4 => ?_⟩
    obtain ⟨p, q, er, hp, hq, fr⟩ := rd2_le (n := N2) (d := D) (by omega)
    rw [er] at e4
    exact k H4 t p q s4 e4 (by omega) (by omega) fr.q0
def spLLawOver (K : PySem.W.Frag) : Sp := fun vs H Q _ => ∃ (a b : Addr) (p q r s : Int), vs = [.ref a, .ref b] ∧ SqT K H a (zs [p, q]) ∧ SqT K H b (zs [r, s]) ∧ p.natAbs < 2 ^ 800 ∧ q.natAbs < 2 ^ 800 ∧ r.natAbs < 2 ^ 800 ∧ s.natAbs < 2 ^ 800 ∧ 0 < q ∧
  (r = 0 → Q (.str "nought") H) ∧ (r ≠ 0 → ∀ (H' : Hp) (t : Addr), Same H H' → H' t = some (.tup (zs (rd2 (p * s) (q * r)))) → Q (.ref t) H')
theorem okLLawOver {fLLawOver : Addr} {fdLLawOver : FuncData} (F : Fun K "_law_over" "_law_over" sLLawOver fLLawOver fdLLawOver) (T : Txt mg) {aZERO : Addr} {aONE : Addr} (CT : Cons K mg aZERO aONE) {CPartError CNought : Addr} (EX : Exns K mg CPartError CNought)
    {fOver : Addr} {fdOver : FuncData} (GOver : FnOk P w K mg base (L2.CX P w) 2 fOver fdOver ["a", "b"] (spOver K CNought)) (gOver : mg "over" = some (.ref fOver)) (kpOver : PySem.W.keepIn K (.ref fOver) = true) (bOver : Binds K fdOver ["a", "b"] []) :
    FnOk P w K mg base CX0 3 fLLawOver fdLLawOver ["a", "b"] (spLLawOver K) := by
  refine F.ok scLLawOver (fun vs H Q E h => ?_) (fun cdv A outer s H vs Q E hr h => ?_)
  · obtain ⟨a, b, p, q, r, s, rfl, hA, hB, hp, hq, hr', hs, q0, k0, k1⟩ := h
    rfl
  · obtain ⟨a, b, p, q, r, s, rfl, hA, hB, hp, hq, hr', hs, q0, k0, k1⟩ := h
    refine ⟨_, (pss_one (ps_try_as (i := 2) rfl rfl scLLawOver.nd rfl rfl ⟨rfl, by decide, .inl EX.gPartError⟩ takes0 (fun W pn xe tk _ => (pss_one (ps_ret (pe_callS GOver hr (by rfl) gOver kpOver bOver (fun σ => passAt tk σ) (pa_cons (pv 0) (pa_cons (pv 1) pa_nil))))))
        (fun a oe cls d pn hz hf => suite_of (C := CNought) hz fun hz1 => (pss_one (ps_ret (pe_ifExp (pt_val (pe_callB (call_isE EX.iNought hz1 hf) (by rfl) T.isinstance (by decide +kernel) (pa_cons (pv 2) (pa_cons (pe_glob (v := .ref CNought) (by rfl) EX.gNought rfl) pa_nil)))) pe_str pe_str)))))), ?_⟩
    refine ⟨_, rfl, _, rfl, a, b, p, q, r, s, rfl, hA, hB, hp, hq, hr', hs, fun h => ?_, fun h H' t s1 e1 => ?_⟩
    · have r0 : r = 0 := by
        rcases Int.mul_eq_zero.mp h with h1 | h1
        · omega
        · exact h1
      refine ⟨true, EX.eNought, fun _ a ha => ⟨⟨rfl, rfl⟩, ?_⟩, fun z => nomatch z⟩
      exact ⟨_, rfl, _, _, true, rfl, fun u r => r, EX.nNought, true, rfl, iteT (k0 r0)⟩
    · exact k1 (fun z => h (by rw [z, Int.mul_zero])) H' t s1 e1
def spLaw (K : PySem.W.Frag) : Sp := fun vs H Q _ => ∃ (a : Addr) (ns : List Int), vs = [.ref a] ∧ SqL K H a (ns.map V.int) ∧ ns.length ≤ 63 ∧ ∀ H', Q (.bl true) H'
theorem okLaw {fLaw : Addr} {fdLaw : FuncData} (F : Fun K "law" "law" sLaw fLaw fdLaw) (T : Txt mg) {aZERO : Addr} {aONE : Addr} (CT : Cons K mg aZERO aONE) {CPartError CNought : Addr} (EX : Exns K mg CPartError CNought)
    {fLLawNumber : Addr} {fdLLawNumber : FuncData} (GLLawNumber : FnOk P w K mg base CX0 1 fLLawNumber fdLLawNumber ["script", "k"] (spLLawNumber K)) (gLLawNumber : mg "_law_number" = some (.ref fLLawNumber)) (kpLLawNumber : PySem.W.keepIn K (.ref fLLawNumber) = true) (bLLawNumber : Binds K fdLLawNumber ["script", "k"] [])
    {fLLawDrawn : Addr} {fdLLawDrawn : FuncData} (GLLawDrawn : FnOk P w K mg base CX0 2 fLLawDrawn fdLLawDrawn ["draw", "way"] (spLLawDrawn K)) (gLLawDrawn : mg "_law_drawn" = some (.ref fLLawDrawn)) (kpLLawDrawn : PySem.W.keepIn K (.ref fLLawDrawn) = true) (bLLawDrawn : Binds K fdLLawDrawn ["draw", "way"] [])
    {fPlus : Addr} {fdPlus : FuncData} (GPlus : FnOk P w K mg base CX0 2 fPlus fdPlus ["a", "b"] (spPlus K)) (gPlus : mg "plus" = some (.ref fPlus)) (kpPlus : PySem.W.keepIn K (.ref fPlus) = true) (bPlus : Binds K fdPlus ["a", "b"] [])
    {fLLawFraction : Addr} {fdLLawFraction : FuncData} (GLLawFraction : FnOk P w K mg base CX0 1 fLLawFraction fdLLawFraction ["number", "divisor"] (spLLawFraction K)) (gLLawFraction : mg "_law_fraction" = some (.ref fLLawFraction)) (kpLLawFraction : PySem.W.keepIn K (.ref fLLawFraction) = true) (bLLawFraction : Binds K fdLLawFraction ["number", "divisor"] [])
    {fMinus : Addr} {fdMinus : FuncData} (GMinus : FnOk P w K mg base CX0 2 fMinus fdMinus ["a", "b"] (spMinus K)) (gMinus : mg "minus" = some (.ref fMinus)) (kpMinus : PySem.W.keepIn K (.ref fMinus) = true) (bMinus : Binds K fdMinus ["a", "b"] [])
    {fTimes : Addr} {fdTimes : FuncData} (GTimes : FnOk P w K mg base CX0 2 fTimes fdTimes ["a", "b"] (spTimes K)) (gTimes : mg "times" = some (.ref fTimes)) (kpTimes : PySem.W.keepIn K (.ref fTimes) = true) (bTimes : Binds K fdTimes ["a", "b"] [])
    {fMiddle : Addr} {fdMiddle : FuncData} (GMiddle : FnOk P w K mg base CX0 2 fMiddle fdMiddle ["a", "b"] (spMiddle K)) (gMiddle : mg "middle" = some (.ref fMiddle)) (kpMiddle : PySem.W.keepIn K (.ref fMiddle) = true) (bMiddle : Binds K fdMiddle ["a", "b"] [])
    {fTotal : Addr} {fdTotal : FuncData} (GTotal : FnOk P w K mg base CX0 3 fTotal fdTotal ["row"] (spTotal K)) (gTotal : mg "total" = some (.ref fTotal)) (kpTotal : PySem.W.keepIn K (.ref fTotal) = true) (bTotal : Binds K fdTotal ["row"] [])
    {fLLawOver : Addr} {fdLLawOver : FuncData} (GLLawOver : FnOk P w K mg base CX0 3 fLLawOver fdLLawOver ["a", "b"] (spLLawOver K)) (gLLawOver : mg "_law_over" = some (.ref fLLawOver)) (kpLLawOver : PySem.W.keepIn K (.ref fLLawOver) = true) (bLLawOver : Binds K fdLLawOver ["a", "b"] [])
    {fNegative : Addr} {fdNegative : FuncData} (GNegative : FnOk P w K mg base CX0 1 fNegative fdNegative ["a"] (spNegative K)) (gNegative : mg "negative" = some (.ref fNegative)) (kpNegative : PySem.W.keepIn K (.ref fNegative) = true) (bNegative : Binds K fdNegative ["a"] [])
    {fLess : Addr} {fdLess : FuncData} (GLess : FnOk P w K mg base CX0 1 fLess fdLess ["a", "b"] (spLess K)) (gLess : mg "less" = some (.ref fLess)) (kpLess : PySem.W.keepIn K (.ref fLess) = true) (bLess : Binds K fdLess ["a", "b"] [])
    {fSign : Addr} {fdSign : FuncData} (GSign : FnOk P w K mg base CX0 1 fSign fdSign ["a"] (spSign K)) (gSign : mg "sign" = some (.ref fSign)) (kpSign : PySem.W.keepIn K (.ref fSign) = true) (bSign : Binds K fdSign ["a"] [])
    {fLLawIsWhole : Addr} {fdLLawIsWhole : FuncData} (GLLawIsWhole : FnOk P w K mg base CX0 1 fLLawIsWhole fdLLawIsWhole ["actual"] (spLLawIsWhole K)) (gLLawIsWhole : mg "_law_is_whole" = some (.ref fLLawIsWhole)) (kpLLawIsWhole : PySem.W.keepIn K (.ref fLLawIsWhole) = true) (bLLawIsWhole : Binds K fdLLawIsWhole ["actual"] []) :
    FnOk P w K mg base CX0 4 fLaw fdLaw ["script"] (spLaw K) := by
  refine F.ok scLaw (fun vs H Q E h => ?_) (fun cdv A outer s H vs Q E hr h => ?_)
  · obtain ⟨a, ns, rfl, hS0, hlen, fin⟩ := h
    rfl
  · obtain ⟨a, ns, rfl, hS0, hlen, fin⟩ := h
    refine ⟨_, (pss_cons (ps_set (i := 1) scLaw.nd rfl (Or.inl rfl) (pe_lst pa_nil))
      (C8.pss_cut (ps_for PassesOwn.never rfl (pi_range1 rfl T.range (pa_cons pe_int pa_nil)) (pg_name (i := 2) scLaw.nd rfl (Or.inl rfl))
        (pss_cons (ps_set (i := 3) scLaw.nd rfl (Or.inl rfl) (pe_call GLLawNumber (hr.mono (by decide)) (by rfl) gLLawNumber kpLLawNumber bLLawNumber .nil pass0 (pa_cons (pv 0) (pa_cons (pv 2) pa_nil))))
        (pss_cons (ps_set (i := 4) scLaw.nd rfl (Or.inl rfl) (pe_call GLLawDrawn (hr.mono (by decide)) (by rfl) gLLawDrawn kpLLawDrawn bLLawDrawn .nil pass0 (pa_cons (pv 3) (pa_cons (pe_op op_mod (pv 2) pe_int) pa_nil))))
        (C8.pss_cut (ps_set (i := 5) scLaw.nd rfl (Or.inl rfl) (pe_ifExp (pt_cmpR op_eq (pe_op op_mod (pv 2) pe_int) pe_int (nomark _)) (pv 4) (pe_call GLLawDrawn (hr.mono (by decide)) (by rfl) gLLawDrawn kpLLawDrawn bLLawDrawn .nil pass0 (pa_cons (pe_op op_add (pe_op op_fdiv (pv 3) (pe_op op_pow pe_int pe_int)) (pe_op op_mulW pe_int (pv 2))) (pa_cons (pe_op op_mod (pe_callTy call_int1 (by rfl) T.int (by decide +kernel) (pa_cons (pv 3) pa_nil)) pe_int) pa_nil)))))
        (pss_cons (ps_if (pt_cmpR (op_neD hr.units) (pe_call GPlus (hr.mono (by decide)) (by rfl) gPlus kpPlus bPlus .nil pass0 (pa_cons (pv 4) (pa_cons (pv 5) pa_nil))) (pe_call GLLawFraction (hr.mono (by decide)) (by rfl) gLLawFraction kpLLawFraction bLLawFraction .nil pass0 (pa_cons (pe_op op_add (pe_op op_mulW (pe_ix ix_tup (pv 4) pe_int (fun _ _ => rfl)) (pe_ix ix_tup (pv 5) pe_int (fun _ _ => rfl))) (pe_op op_mulW (pe_ix ix_tup (pv 5) pe_int (fun _ _ => rfl)) (pe_ix ix_tup (pv 4) pe_int (fun _ _ => rfl)))) (pa_cons (pe_op op_mulW (pe_ix ix_tup (pv 4) pe_int (fun _ _ => rfl)) (pe_ix ix_tup (pv 5) pe_int (fun _ _ => rfl))) pa_nil))) (nomark _))
          (pss_one (ps_ret pe_bl))
          pss_nil)
        (pss_cons (ps_if (pt_cmpR (op_neD hr.units) (pe_call GMinus (hr.mono (by decide)) (by rfl) gMinus kpMinus bMinus .nil pass0 (pa_cons (pv 4) (pa_cons (pv 5) pa_nil))) (pe_call GLLawFraction (hr.mono (by decide)) (by rfl) gLLawFraction kpLLawFraction bLLawFraction .nil pass0 (pa_cons (pe_op op_sub (pe_op op_mulW (pe_ix ix_tup (pv 4) pe_int (fun _ _ => rfl)) (pe_ix ix_tup (pv 5) pe_int (fun _ _ => rfl))) (pe_op op_mulW (pe_ix ix_tup (pv 5) pe_int (fun _ _ => rfl)) (pe_ix ix_tup (pv 4) pe_int (fun _ _ => rfl)))) (pa_cons (pe_op op_mulW (pe_ix ix_tup (pv 4) pe_int (fun _ _ => rfl)) (pe_ix ix_tup (pv 5) pe_int (fun _ _ => rfl))) pa_nil))) (nomark _))
          (pss_one (ps_ret pe_bl))
          pss_nil)
        (pss_cons (ps_if (pt_cmpR (op_neD hr.units) (pe_call GTimes (hr.mono (by decide)) (by rfl) gTimes kpTimes bTimes .nil pass0 (pa_cons (pv 4) (pa_cons (pv 5) pa_nil))) (pe_call GLLawFraction (hr.mono (by decide)) (by rfl) gLLawFraction kpLLawFraction bLLawFraction .nil pass0 (pa_cons (pe_op op_mulW (pe_ix ix_tup (pv 4) pe_int (fun _ _ => rfl)) (pe_ix ix_tup (pv 5) pe_int (fun _ _ => rfl))) (pa_cons (pe_op op_mulW (pe_ix ix_tup (pv 4) pe_int (fun _ _ => rfl)) (pe_ix ix_tup (pv 5) pe_int (fun _ _ => rfl))) pa_nil))) (nomark _))
          (pss_one (ps_ret pe_bl))
          pss_nil)
        (C8.pss_cut (ps_set (i := 6) scLaw.nd rfl (Or.inl rfl) (pe_ifExp (pt_cmpR op_eq (pe_ix ix_tup (pv 5) pe_int (fun _ _ => rfl)) pe_int (nomark _)) pe_str (pe_call GLLawFraction (hr.mono (by decide)) (by rfl) gLLawFraction kpLLawFraction bLLawFraction .nil pass0 (pa_cons (pe_op op_mulW (pe_ix ix_tup (pv 4) pe_int (fun _ _ => rfl)) (pe_ix ix_tup (pv 5) pe_int (fun _ _ => rfl))) (pa_cons (pe_op op_mulW (pe_ix ix_tup (pv 4) pe_int (fun _ _ => rfl)) (pe_ix ix_tup (pv 5) pe_int (fun _ _ => rfl))) pa_nil)))))
        (C8.pss_cut (ps_if (PW.pt (pw_or (pt_cmpR (op_neD hr.units) (pe_call GLLawOver hr (by rfl) gLLawOver kpLLawOver bLLawOver .nil pass0 (pa_cons (pv 4) (pa_cons (pv 5) pa_nil))) (pv 6) (nomark _)) (pw_or1 (pt_cmpR (op_neD hr.units) (pe_call GNegative (hr.mono (by decide)) (by rfl) gNegative kpNegative bNegative .nil pass0 (pa_cons (pv 4) pa_nil)) (pe_tup (pa_cons (pe_un un_neg (pe_ix ix_tup (pv 4) pe_int (fun _ _ => rfl))) (pa_cons (pe_ix ix_tup (pv 4) pe_int (fun _ _ => rfl)) pa_nil))) (nomark _)))))
          (pss_one (ps_ret pe_bl))
          pss_nil)
        (pss_cons (ps_if (PW.pt (pw_or (pt_cmpR op_ne (pe_call GLess (hr.mono (by decide)) (by rfl) gLess kpLess bLess .nil pass0 (pa_cons (pv 4) (pa_cons (pv 5) pa_nil))) (pe_cmpR op_lt (pe_op op_mulW (pe_ix ix_tup (pv 4) pe_int (fun _ _ => rfl)) (pe_ix ix_tup (pv 5) pe_int (fun _ _ => rfl))) (pe_op op_mulW (pe_ix ix_tup (pv 5) pe_int (fun _ _ => rfl)) (pe_ix ix_tup (pv 4) pe_int (fun _ _ => rfl))) (nomark _)) (nomark _)) (pw_or1 (pt_not (pt_val (pe_callB call_isi (by rfl) T.isinstance (by decide +kernel) (pa_cons (pe_call GLess (hr.mono (by decide)) (by rfl) gLess kpLess bLess .nil pass0 (pa_cons (pv 4) (pa_cons (pv 5) pa_nil))) (pa_cons (pe_bltn (v := .ty "bool") (by rfl) T.bool (by decide +kernel) rfl) pa_nil))))))))
          (pss_one (ps_ret pe_bl))
          pss_nil)
        (C8.pss_cut (ps_if (PW.pt (pw_or (pt_cmpR op_ne (pe_call GSign (hr.mono (by decide)) (by rfl) gSign kpSign bSign .nil pass0 (pa_cons (pv 4) pa_nil)) (pe_ifExp (pt_cmpR op_gt (pe_ix ix_tup (pv 4) pe_int (fun _ _ => rfl)) pe_int (nomark _)) pe_int (pe_ifExp (pt_cmpR op_lt (pe_ix ix_tup (pv 4) pe_int (fun _ _ => rfl)) pe_int (nomark _)) (pe_un un_neg pe_int) pe_int)) (nomark _)) (pw_or1 (pt_not (pt_val (pe_call GLLawIsWhole (hr.mono (by decide)) (by rfl) gLLawIsWhole kpLLawIsWhole bLLawIsWhole .nil pass0 (pa_cons (pe_call GSign (hr.mono (by decide)) (by rfl) gSign kpSign bSign .nil pass0 (pa_cons (pv 4) pa_nil)) pa_nil)))))))
          (pss_one (ps_ret pe_bl))
          pss_nil)
        (pss_cons (ps_if (pt_cmpR (op_neD hr.units) (pe_call GMiddle (hr.mono (by decide)) (by rfl) gMiddle kpMiddle bMiddle .nil pass0 (pa_cons (pv 4) (pa_cons (pv 5) pa_nil))) (pe_call GLLawFraction (hr.mono (by decide)) (by rfl) gLLawFraction kpLLawFraction bLLawFraction .nil pass0 (pa_cons (pe_op op_add (pe_op op_mulW (pe_ix ix_tup (pv 4) pe_int (fun _ _ => rfl)) (pe_ix ix_tup (pv 5) pe_int (fun _ _ => rfl))) (pe_op op_mulW (pe_ix ix_tup (pv 5) pe_int (fun _ _ => rfl)) (pe_ix ix_tup (pv 4) pe_int (fun _ _ => rfl)))) (pa_cons (pe_op op_mulW (pe_op op_mulW pe_int (pe_ix ix_tup (pv 4) pe_int (fun _ _ => rfl))) (pe_ix ix_tup (pv 5) pe_int (fun _ _ => rfl))) pa_nil))) (nomark _))
          (pss_one (ps_ret pe_bl))
          pss_nil)
        (pss_one (ps_if (pt_cmpR op_lt (pe_callB call_len_seq (by rfl) T.len PySem.boot_len (pa_cons (pv 1) pa_nil)) pe_int (nomark _))
          (pss_one (ps_expr (pe_bm PySem.F.plainAttrs_list PySem.F.slot_list_append PySem.F.type_list_append mt_append (pv 1) (pa_cons (pv 4) pa_nil))))
          pss_nil))))))))))))))
      (pss_cons (ps_set (i := 7) scLaw.nd rfl (Or.inl rfl) (pe_callTy call_list_of (by rfl) T.list (by decide +kernel) (pa_cons (pv 1) pa_nil)))
      (pss_cons (ps_set (i := 8) scLaw.nd rfl (Or.inl rfl) pe_int)
      (pss_cons (ps_set (i := 9) scLaw.nd rfl (Or.inl rfl) pe_int)
      (C8.pss_cut (ps_for PassesOwn.never rfl (pi_list (pv 1)) (pg_name (i := 10) scLaw.nd rfl (Or.inl rfl))
        (pss_cons (ps_set (i := 8) scLaw.nd rfl (Or.inl rfl) (pe_op op_add (pe_op op_mulW (pv 8) (pe_ix ix_tup (pv 10) pe_int (fun _ _ => rfl))) (pe_op op_mulW (pe_ix ix_tup (pv 10) pe_int (fun _ _ => rfl)) (pv 9))))
        (pss_one (ps_set (i := 9) scLaw.nd rfl (Or.inl rfl) (pe_op op_mulW (pv 9) (pe_ix ix_tup (pv 10) pe_int (fun _ _ => rfl)))))))
      (pss_cons (ps_if (PW.pt (pw_or (pt_cmpR (op_neD hr.units) (pe_call GTotal hr (by rfl) gTotal kpTotal bTotal .nil pass0 (pa_cons (pv 7) pa_nil)) (pe_call GLLawFraction (hr.mono (by decide)) (by rfl) gLLawFraction kpLLawFraction bLLawFraction .nil pass0 (pa_cons (pv 8) (pa_cons (pv 9) pa_nil))) (nomark _)) (pw_or (pt_cmpR (op_neD hr.units) (pv 7) (pv 1) (nomark _)) (pw_or1 (pt_cmpR (op_neD hr.units) (pe_call GTotal hr (by rfl) gTotal kpTotal bTotal .nil pass0 (pa_cons (pe_lst pa_nil) pa_nil)) (pe_tup (pa_cons pe_int (pa_cons pe_int pa_nil))) (nomark _))))))
        (pss_one (ps_ret pe_bl))
        pss_nil)
      (pss_one (ps_ret (pe_and (pe_cmpR (op_eqD hr.units) (pe_glob (v := .ref aZERO) (by rfl) CT.gZERO rfl) (pe_tup (pa_cons pe_int (pa_cons pe_int pa_nil))) (nomark _)) (pe_one (pe_cmpR (op_eqD hr.units) (pe_glob (v := .ref aONE) (by rfl) CT.gONE rfl) (pe_tup (pa_cons pe_int (pa_cons pe_int pa_nil))) (nomark _))))))))))))), ?_⟩
    have hS : SqL K H a (zs ns) := hS0
    refine ⟨Nat.zero_le _, fun l hl => ?_⟩
    have sl : Same H (upd H l (.lst [])) := same_upd hl
    refine ⟨fun σ' H' => ∃ (ws : List (Addr × Int × Int)) (v2 v3 v4 v5 v6 : Option V), σ' = [some (.ref a), some (.ref l), v2, v3, v4, v5, v6, none, none, none, none] ∧ Same H H' ∧ H' l = some (.lst (rf ws)) ∧ Rows K H' ws, ?_, ?_⟩
    · refine ⟨30, rfl, by decide, by decide, for_range (n := 30) (fun i σ' H' => ∃ (ws : List (Addr × Int × Int)) (v2 v3 v4 v5 v6 : Option V), σ' = [some (.ref a), some (.ref l), v2, v3, v4, v5, v6, none, none, none, none] ∧ Same H H' ∧ H' l = some (.lst (rf ws)) ∧ Rows K H' ws) ?_ ?_ (fun _ _ h => h)⟩
      · exact ⟨[], none, none, none, none, none, rfl, sl, upd_same, Rows.nil⟩
      rintro i σ' H1 hi ⟨ws, v2, v3, v4, v5, v6, rfl, s1, el, hW⟩
      have hi0 : (0 : Int) + (i : Int) = (i : Int) := by omega
      have up : (2 : Nat) ^ 40 ≤ 2 ^ 800 := Nat.pow_le_pow_right (by decide) (by decide)
      refine ⟨_, rfl, _, rfl, a, ns, i, by rw [hi0]; rfl, s1.seq hS, fun dr => ?_⟩
      refine ⟨_, rfl, _, rfl, _, _, rfl, rfl, by show (0 : Int) < 2; decide, dr, _, rfl, fun H2 ta p q s2 e2 p1 q1 q0 => ?_⟩
      -- the second one
      refine ⟨fun σ' H' => ∃ (tb : Addr) (r s : Int), σ' = [some (.ref a), some (.ref l), some (.int (0 + (i : Int))), some (.int dr), some (.ref ta), some (.ref tb), v6, none, none, none, none] ∧ Same H2 H' ∧ H' tb = some (.tup (zs [r, s])) ∧ r.natAbs < 2 ^ 40 ∧ s.natAbs < 2 ^ 40 ∧ 0 < s, ?_, ?_⟩
      · walk_at "rd"
        refine ite2 (fun _ => ?_) (fun _ => ?_)
        · exact ⟨_, rfl, ta, p, q, rfl, Same.refl _, e2, p1, q1, q0⟩
        · walk_at "rd"
          refine ⟨wide_mul (a := 4) (b := 10) (by decide) (by omega) (by decide) (by decide) (by decide), ?_⟩
          walk_at "rd"
          exact ⟨_, _, rfl, fun H3 tb r s s3 e3 r1 s1 s0 => ⟨tb, r, s, rfl, s3, e3, r1, s1, s0⟩⟩
      rintro σ' H3 ⟨tb, r, s, rfl, s3, e3, r1, s1', s0⟩
      have bp : p.natAbs < 2 ^ 800 := by omega
      have bq : q.natAbs < 2 ^ 800 := by omega
      have br : r.natAbs < 2 ^ 800 := by omega
      have bs : s.natAbs < 2 ^ 800 := by omega
      have qs0 : q * s ≠ 0 := Int.mul_ne_zero (by omega) (by omega)
      have dA3 : SqT K H3 ta (zs [p, q]) := SqT.of (s3 _ _ e2)
      have dB3 : SqT K H3 tb (zs [r, s]) := SqT.of e3
      have w1 : (p * s).natAbs < 2 ^ (800 + 800) := wide_lt bp bs
      have w2 : (r * q).natAbs < 2 ^ (800 + 800) := wide_lt br bq
      have w3 : (q * s).natAbs < 2 ^ (800 + 800) := wide_lt bq bs
      have w4 : (p * r).natAbs < 2 ^ (800 + 800) := wide_lt bp br
      have w5 : (q * r).natAbs < 2 ^ (800 + 800) := wide_lt bq br
      have hw : (2 : Nat) ^ 1800 = 2 ^ (800 + 800) * 2 ^ 200 := by rw [← Nat.pow_add]
      have hw2 : (1000 : Nat) ≤ 2 ^ 200 := by decide
      have hw3 : (2 : Nat) ^ (800 + 800) * 1000 ≤ 2 ^ 1800 := by
        rw [hw]
        exact Nat.mul_le_mul_left _ hw2
      generalize hB : (2 : Nat) ^ (800 + 800) = B at w1 w2 w3 w4 w5 hw3
      generalize hC : (2 : Nat) ^ 1800 = C at hw3
      have x1 := Int.natAbs_add_le (p * s) (r * q)
      have x2 : (p * s - r * q).natAbs ≤ (p * s).natAbs + (r * q).natAbs := Int.natAbs_sub_le _ _
      refine ⟨_, rfl, _, rfl, ta, tb, p, q, r, s, rfl, dA3, dB3, bp, bq, br, bs, qs0, fun H4 t4 s4 e4 => ?_⟩
      have dAH4 := same_tup s4 dA3
      have dBH4 := same_tup s4 dB3
      refine ⟨.ref ta, rfl, ta, _, 0, _, rfl, rfl, dAH4, atI_nat (j := 0) rfl, .ref tb, rfl, tb, _, 1, _, rfl, rfl, dBH4, atI_nat (j := 1) rfl, _, _, rfl, rfl, wide_mul bp bs (by decide) (by decide) (by decide), .ref tb, rfl, tb, _, 0, _, rfl, rfl, dBH4, atI_nat (j := 0) rfl, .ref ta, rfl, ta, _, 1, _, rfl, rfl, dAH4, atI_nat (j := 1) rfl, _, _, rfl, rfl, wide_mul br bq (by decide) (by decide) (by decide), _, _, rfl, rfl, .ref ta, rfl, ta, _, 1, _, rfl, rfl, dAH4, atI_nat (j := 1) rfl, .ref tb, rfl, tb, _, 1, _, rfl, rfl, dBH4, atI_nat (j := 1) rfl, _, _, rfl, rfl, wide_mul bq bs (by decide) (by decide) (by decide), _, _, rfl, by rw [hC]; omega, by rw [hC]; omega, qs0, fun H5 t5 s5 e5 => ?_⟩
      refine ⟨_, _, dp2 (SqT.of (s5 _ _ e4)), dp2 (SqT.of e5), rfl, rfl, _, rfl, ?_⟩
      rw [eqv2]
      refine iteF ?_
      have dAH5 := same_tup s5 dAH4
      have dBH5 := same_tup s5 dBH4
      refine ⟨_, rfl, _, rfl, ta, tb, p, q, r, s, rfl, dAH5, dBH5, bp, bq, br, bs, qs0, fun H6 t6 s6 e6 => ?_⟩
      have dAH6 := same_tup s6 dAH5
      have dBH6 := same_tup s6 dBH5
      refine ⟨.ref ta, rfl, ta, _, 0, _, rfl, rfl, dAH6, atI_nat (j := 0) rfl, .ref tb, rfl, tb, _, 1, _, rfl, rfl, dBH6, atI_nat (j := 1) rfl, _, _, rfl, rfl, wide_mul bp bs (by decide) (by decide) (by decide), .ref tb, rfl, tb, _, 0, _, rfl, rfl, dBH6, atI_nat (j := 0) rfl, .ref ta, rfl, ta, _, 1, _, rfl, rfl, dAH6, atI_nat (j := 1) rfl, _, _, rfl, rfl, wide_mul br bq (by decide) (by decide) (by decide), _, _, rfl, rfl, .ref ta, rfl, ta, _, 1, _, rfl, rfl, dAH6, atI_nat (j := 1) rfl, .ref tb, rfl, tb, _, 1, _, rfl, rfl, dBH6, atI_nat (j := 1) rfl, _, _, rfl, rfl, wide_mul bq bs (by decide) (by decide) (by decide), _, _, rfl, by rw [hC]; omega, by rw [hC]; omega, qs0, fun H7 t7 s7 e7 => ?_⟩
      refine ⟨_, _, dp2 (SqT.of (s7 _ _ e6)), dp2 (SqT.of e7), rfl, rfl, _, rfl, ?_⟩
      rw [eqv2]
      refine iteF ?_
      have dAH7 := same_tup s7 dAH6
      have dBH7 := same_tup s7 dBH6
      refine ⟨_, rfl, _, rfl, ta, tb, p, q, r, s, rfl, dAH7, dBH7, bp, bq, br, bs, qs0, fun H8 t8 s8 e8 => ?_⟩
      have dAH8 := same_tup s8 dAH7
      have dBH8 := same_tup s8 dBH7
      refine ⟨.ref ta, rfl, ta, _, 0, _, rfl, rfl, dAH8, atI_nat (j := 0) rfl, .ref tb, rfl, tb, _, 0, _, rfl, rfl, dBH8, atI_nat (j := 0) rfl, _, _, rfl, rfl, wide_mul bp br (by decide) (by decide) (by decide), .ref ta, rfl, ta, _, 1, _, rfl, rfl, dAH8, atI_nat (j := 1) rfl, .ref tb, rfl, tb, _, 1, _, rfl, rfl, dBH8, atI_nat (j := 1) rfl, _, _, rfl, rfl, wide_mul bq bs (by decide) (by decide) (by decide), _, _, rfl, by rw [hC]; omega, by rw [hC]; omega, qs0, fun H9 t9 s9 e9 => ?_⟩
      refine ⟨_, _, dp2 (SqT.of (s9 _ _ e8)), dp2 (SqT.of e9), rfl, rfl, _, rfl, ?_⟩
      rw [eqv2]
      refine iteF ?_
      have dAH9 := same_tup s9 dAH8
      have dBH9 := same_tup s9 dBH8
      have s39 : Same H3 H9 := s4.trans (s5.trans (s6.trans (s7.trans (s8.trans s9))))
      -- what over owes
      refine ⟨fun σ' H' => ∃ (due : V), σ' = [some (.ref a), some (.ref l), some (.int (0 + (i : Int))), some (.int dr), some (.ref ta), some (.ref tb), some due, none, none, none, none] ∧ Same H9 H' ∧ ((r = 0 ∧ due = .str "nought") ∨ (r ≠ 0 ∧ ∃ t, due = .ref t ∧ H' t = some (.tup (zs (rd2 (p * s) (q * r)))))), ?_, ?_⟩
      · refine ⟨.ref tb, rfl, tb, _, 0, _, rfl, rfl, dBH9, atI_nat (j := 0) rfl, rfl, _, rfl, ite2 (fun g => ?_) (fun g => ?_)⟩
        · exact ⟨_, rfl, Same.refl _, .inl ⟨eq_of_dec g, rfl⟩⟩
        · have r0 := ne_of_nodec g
          refine ⟨.ref ta, rfl, ta, _, 0, _, rfl, rfl, dAH9, atI_nat (j := 0) rfl, .ref tb, rfl, tb, _, 1, _, rfl, rfl, dBH9, atI_nat (j := 1) rfl, _, _, rfl, rfl, wide_mul bp bs (by decide) (by decide) (by decide), .ref ta, rfl, ta, _, 1, _, rfl, rfl, dAH9, atI_nat (j := 1) rfl, .ref tb, rfl, tb, _, 0, _, rfl, rfl, dBH9, atI_nat (j := 0) rfl, _, _, rfl, rfl, wide_mul bq br (by decide) (by decide) (by decide), _, _, rfl, by rw [hC]; omega, by rw [hC]; omega, Int.mul_ne_zero (by omega) r0, fun H10 t10 s10 e10 => ?_⟩
          exact ⟨_, rfl, s10, .inr ⟨r0, t10, rfl, e10⟩⟩
      rintro σ' H10 ⟨due, rfl, s10, hdue⟩
      have dA10 := same_tup s10 dAH9
      have dB10 := same_tup s10 dBH9
      refine ⟨fun σ' H' => σ' = [some (.ref a), some (.ref l), some (.int (0 + (i : Int))), some (.int dr), some (.ref ta), some (.ref tb), some due, none, none, none, none] ∧ Same H10 H', ?_, ?_⟩
      · refine ⟨_, rfl, _, rfl, ta, tb, p, q, r, s, rfl, dA10, dB10, bp, bq, br, bs, q0, fun r0 => ?_, fun r0 H11 t11 s11 e11 => ?_⟩
        · have hd : due = .str "nought" := by
            rcases hdue with ⟨_, h⟩ | ⟨hn, _⟩
            · exact h
            · exact absurd r0 hn
          subst hd
          refine ⟨_, rfl, _, _, .str _, .str _, by decide +kernel, by decide +kernel, _, rfl, ?_⟩
          rw [eqvs]
          refine iteF ⟨_, rfl, ta, p, q, rfl, dA10, fun H12 t12 s12 e12 => ?_⟩
          have dA12 := same_tup s12 dA10
          refine ⟨.ref ta, rfl, ta, _, 0, _, rfl, rfl, dA12, atI_nat (j := 0) rfl, _, rfl, .ref ta, rfl, ta, _, 1, _, rfl, rfl, dA12, atI_nat (j := 1) rfl, by show 2 ≤ sizeLine; decide, fun t13 n13 => ?_⟩
          refine ⟨_, _, dp2 (SqT.of (same_upd (o := .tup (zs [-p, q])) n13 _ _ e12)), dp2 (SqT.of upd_same), rfl, rfl, _, rfl, ?_⟩
          rw [eqv2]
          exact iteF ⟨rfl, (s12.trans (same_upd n13))⟩
        · obtain ⟨t, hd, et⟩ : ∃ t, due = .ref t ∧ H10 t = some (.tup (zs (rd2 (p * s) (q * r)))) := by
            rcases hdue with ⟨hn, _⟩ | ⟨_, h⟩
            · exact absurd hn r0
            · exact h
          subst hd
          have dA11 := same_tup s11 dA10
          refine ⟨_, rfl, _, _, dp2 (SqT.of e11), dp2 (SqT.of (s11 _ _ et)), rfl, rfl, _, rfl, ?_⟩
          rw [eqv2]
          refine iteF ⟨_, rfl, ta, p, q, rfl, dA11, fun H12 t12 s12 e12 => ?_⟩
          have dA12 := same_tup s12 dA11
          refine ⟨.ref ta, rfl, ta, _, 0, _, rfl, rfl, dA12, atI_nat (j := 0) rfl, _, rfl, .ref ta, rfl, ta, _, 1, _, rfl, rfl, dA12, atI_nat (j := 1) rfl, by show 2 ≤ sizeLine; decide, fun t13 n13 => ?_⟩
          refine ⟨_, _, dp2 (SqT.of (same_upd (o := .tup (zs [-p, q])) n13 _ _ e12)), dp2 (SqT.of upd_same), rfl, rfl, _, rfl, ?_⟩
          rw [eqv2]
          exact iteF ⟨rfl, s11.trans (s12.trans (same_upd n13))⟩
      rintro σ' H14 ⟨rfl, s14⟩
      have dA14 := same_tup s14 dA10
      have dB14 := same_tup s14 dB10
      -- less
      refine ⟨_, rfl, _, rfl, ta, tb, p, q, r, s, rfl, dA14, dB14, bp, bq, br, bs, ?_⟩
      refine ⟨.ref ta, rfl, ta, _, 0, _, rfl, rfl, dA14, atI_nat (j := 0) rfl, .ref tb, rfl, tb, _, 1, _, rfl, rfl, dB14, atI_nat (j := 1) rfl, _, _, rfl, rfl, wide_mul bp bs (by decide) (by decide) (by decide), .ref tb, rfl, tb, _, 0, _, rfl, rfl, dB14, atI_nat (j := 0) rfl, .ref ta, rfl, ta, _, 1, _, rfl, rfl, dA14, atI_nat (j := 1) rfl, _, _, rfl, rfl, wide_mul br bq (by decide) (by decide) (by decide), _, _, rfl, rfl, rfl, _, rfl, ?_⟩
      refine ite2 (fun g => (no_self g).elim) (fun _ => ?_)
      refine ⟨_, rfl, _, rfl, ta, tb, p, q, r, s, rfl, dA14, dB14, bp, bq, br, bs, ?_⟩
      refine ⟨.bl _, .ty "bool", .type "bool", .type "bool", true, rfl, .ty _, .base (.bl _), kit_ty (by decide +kernel), true, rfl, iteF ?_⟩
      -- sign
      refine ⟨fun σ' H' => σ' = [some (.ref a), some (.ref l), some (.int (0 + (i : Int))), some (.int dr), some (.ref ta), some (.ref tb), some due, none, none, none, none] ∧ H' = H14, ?_, ?_⟩
      · refine ⟨_, rfl, ta, p, q, rfl, dA14, ?_⟩
        refine ⟨.ref ta, rfl, ta, _, 0, _, rfl, rfl, dA14, atI_nat (j := 0) rfl, _, _, rfl, rfl, _, rfl, ite2 (fun g => ?_) (fun g => ?_)⟩
        · have g1 : 0 < p := of_decide_eq_true g
          refine ⟨rfl, _, rfl, ite2 (fun g => absurd (by rw [if_neg (by omega), if_pos g1]) (ne_of_bang g)) (fun _ => ?_)⟩
          exact ⟨_, rfl, ta, p, q, rfl, dA14, _, rfl, true, rfl, iteF ⟨rfl, rfl⟩⟩
        · have g1 : ¬ 0 < p := fun z => g (decide_eq_true z)
          refine ⟨.ref ta, rfl, ta, _, 0, _, rfl, rfl, dA14, atI_nat (j := 0) rfl, _, _, rfl, rfl, _, rfl, ite2 (fun g2 => ?_) (fun g2 => ?_)⟩
          · have g3 : p < 0 := of_decide_eq_true g2
            refine ⟨_, rfl, rfl, _, rfl, ite2 (fun g => absurd (by rw [if_pos g3]) (ne_of_bang g)) (fun _ => ?_)⟩
            exact ⟨_, rfl, ta, p, q, rfl, dA14, _, rfl, true, rfl, iteF ⟨rfl, rfl⟩⟩
          · have g3 : ¬ p < 0 := fun z => g2 (decide_eq_true z)
            refine ⟨rfl, _, rfl, ite2 (fun g => absurd (by rw [if_neg g3, if_neg g1]) (ne_of_bang g)) (fun _ => ?_)⟩
            exact ⟨_, rfl, ta, p, q, rfl, dA14, _, rfl, true, rfl, iteF ⟨rfl, rfl⟩⟩
      rintro σ' H15 ⟨rfl, rfl⟩
      -- middle
      have h2 : (2 : Int).natAbs < 2 ^ 2 := by decide
      have h2q := wide_lt h2 bq
      have w6 : (2 * q * s).natAbs < 4 * B := by
        rw [Int.mul_assoc, Int.natAbs_mul, show (2 : Int).natAbs = 2 from rfl]
        omega
      have qs2 : 2 * q * s ≠ 0 := Int.mul_ne_zero (by omega) (by omega)
      refine ⟨_, rfl, _, rfl, ta, tb, p, q, r, s, rfl, dA14, dB14, bp, bq, br, bs, qs2, fun H16 t16 s16 e16 => ?_⟩
      have dA16 := same_tup s16 dA14
      have dB16 := same_tup s16 dB14
      refine ⟨.ref ta, rfl, ta, _, 0, _, rfl, rfl, dA16, atI_nat (j := 0) rfl, .ref tb, rfl, tb, _, 1, _, rfl, rfl, dB16, atI_nat (j := 1) rfl, _, _, rfl, rfl, wide_mul bp bs (by decide) (by decide) (by decide), .ref tb, rfl, tb, _, 0, _, rfl, rfl, dB16, atI_nat (j := 0) rfl, .ref ta, rfl, ta, _, 1, _, rfl, rfl, dA16, atI_nat (j := 1) rfl, _, _, rfl, rfl, wide_mul br bq (by decide) (by decide) (by decide), _, _, rfl, rfl, .ref ta, rfl, ta, _, 1, _, rfl, rfl, dA16, atI_nat (j := 1) rfl, _, _, rfl, rfl, wide_mul h2 bq (by decide) (by decide) (by decide), .ref tb, rfl, tb, _, 1, _, rfl, rfl, dB16, atI_nat (j := 1) rfl, _, _, rfl, rfl, wide_mul h2q bs (by decide) (by decide) (by decide), _, _, rfl, by rw [hC]; omega, by rw [hC]; omega, qs2, fun H17 t17 s17 e17 => ?_⟩
      refine ⟨_, _, dp2 (SqT.of (s17 _ _ e16)), dp2 (SqT.of e17), rfl, rfl, _, rfl, ?_⟩
      rw [eqv2]
      refine iteF ?_
      have sAll : Same H1 H17 := s2.trans (s3.trans (s39.trans (s10.trans (s14.trans (s16.trans s17)))))
      have el' : H17 l = some (.lst (rf ws)) := sAll _ _ el
      have hW' := hW.same sAll
      refine ⟨.ref l, rfl, l, _, rfl, .inl (SqL.of el'), _, _, rfl, rfl, _, rfl, ite2 (fun g => ?_) (fun _ => ?_)⟩
      · have g1 := of_decide_eq_true g
        rw [rf_len] at g1
        refine ⟨.ref l, rfl, .inl ⟨rfl, _, SqL.of el'⟩, _, rfl, l, _, _, rfl, rfl, el', by rw [rf_len]; exact small1000 (by omega), ?_⟩
        refine ⟨ws ++ [(ta, p, q)], _, _, _, _, _, rfl, fun b o e => ?_, ?_, ?_⟩
        · rw [upd_ne (ne_of_none e hl)]
          exact (s1.trans sAll) b o e
        · rw [upd_same, show rf (ws ++ [(ta, p, q)]) = rf ws ++ [.ref ta] from List.map_append]
        · have dA17 := same_tup s17 dA16
          refine ⟨fun w hw => ?_, fun w hw => ?_, fun w hw => ?_, fun w hw => ?_, ?_⟩
          · rcases List.mem_append.mp hw with h | h
            · exact tup_upd (hW'.at_ w h) el'
            · rw [List.mem_singleton.mp h]
              exact tup_upd dA17 el'
          · rcases List.mem_append.mp hw with h | h
            · exact hW.b1 w h
            · rw [List.mem_singleton.mp h]
              exact p1
          · rcases List.mem_append.mp hw with h | h
            · exact hW.b2 w h
            · rw [List.mem_singleton.mp h]
              exact q1
          · rcases List.mem_append.mp hw with h | h
            · exact hW.b3 w h
            · rw [List.mem_singleton.mp h]
              exact q0
          · rw [List.length_append, List.length_singleton]
            omega
      · exact ⟨ws, _, _, _, _, _, rfl, s1.trans sAll, el', hW'⟩
    rintro σ' H1 ⟨ws, v2, v3, v4, v5, v6, rfl, s1, el, hW⟩
    refine ⟨_, rfl, l, _, rfl, .inl (SqL.of el), fun l2 n2 => ?_⟩
    have s2 : Same H1 (upd H1 l2 (.lst (rf ws))) := same_upd n2
    have eg : (upd H1 l2 (.lst (rf ws))) l2 = some (.lst (rf ws)) := upd_same
    generalize upd H1 l2 (.lst (rf ws)) = H2 at s2 eg
    have el2 := s2 _ _ el
    have hW2 := hW.same s2
    refine ⟨fun σ' H' => ∃ v10 : Option V, σ' = [some (.ref a), some (.ref l), v2, v3, v4, v5, v6, some (.ref l2), some (.int (nd ws).1), some (.int (nd ws).2), v10] ∧ H' = H2, ?_, ?_⟩
    · refine ⟨_, rfl, l, rfl, ⟨_, SqL.of el2⟩, for_list (K := K) (a := l) (xs := rf ws) (fun i σ' H' => ∃ v10 : Option V, σ' = [some (.ref a), some (.ref l), v2, v3, v4, v5, v6, some (.ref l2), some (.int (nd (ws.take i)).1), some (.int (nd (ws.take i)).2), v10] ∧ H' = H2) ⟨none, rfl, rfl⟩ ?_ ?_ ?_⟩
      · rintro i σ' H' _ ⟨v10, rfl, rfl⟩
        exact SqL.of el2
      · rintro i v σ' H' hi ⟨v10, rfl, rfl⟩
        obtain ⟨w, rfl, hw⟩ := rf_get hi
        have hm : w ∈ ws := List.mem_of_getElem? hw
        have hil : i < ws.length := (List.getElem?_eq_some_iff.mp hw).1
        obtain ⟨n1, n2', n3⟩ := nd_lt hW2 (Nat.le_of_lt hil)
        have up : (2 : Nat) ^ 40 ≤ 2 ^ 800 := Nat.pow_le_pow_right (by decide) (by decide)
        have dw := hW2.at_ w hm
        have w1 : w.2.1.natAbs < 2 ^ 800 := Nat.lt_of_lt_of_le (hW2.b1 w hm) up
        have w2 : w.2.2.natAbs < 2 ^ 800 := Nat.lt_of_lt_of_le (hW2.b2 w hm) up
        refine ⟨_, rfl, .ref w.1, rfl, w.1, _, 1, _, rfl, rfl, dw, atI_nat (j := 1) rfl, _, _, rfl, rfl, wide_mul n1 w2 (by decide) (by decide) (by decide), ?_⟩
        refine ⟨.ref w.1, rfl, w.1, _, 0, _, rfl, rfl, dw, atI_nat (j := 0) rfl, _, rfl, _, _, rfl, rfl, wide_mul w1 n2' (by decide) (by decide) (by decide), _, _, rfl, rfl, ?_⟩
        refine ⟨_, rfl, .ref w.1, rfl, w.1, _, 1, _, rfl, rfl, dw, atI_nat (j := 1) rfl, _, _, rfl, rfl, wide_mul n2' w2 (by decide) (by decide) (by decide), ?_⟩
        refine ⟨some (.ref w.1), ?_, rfl⟩
        rw [take_sn hw, nd_snoc]
        rfl
      · rintro σ' H' ⟨v10, rfl, rfl⟩
        rw [rf_len, List.take_length]
        exact ⟨v10, rfl, rfl⟩
    rintro σ' H3 ⟨v10, rfl, rfl⟩
    obtain ⟨m1, m2, m3⟩ := nd_lt hW2 (Nat.le_refl ws.length)
    rw [List.take_length] at m1 m2 m3
    have up2 : (2 : Nat) ^ 800 ≤ 2 ^ 1800 := Nat.pow_le_pow_right (by decide) (by decide)
    refine ⟨_, rfl, l2, ws, rfl, SqL.of eg, hW2, fun H4 t4 s4 h4 => ?_⟩
    refine ⟨_, rfl, _, rfl, _, _, rfl, Nat.lt_of_lt_of_le m1 up2, Nat.lt_of_lt_of_le m2 up2, by omega, fun H5 t5 s5 e5 => ?_⟩
    refine ⟨_, _, dp2 (same_tup s5 h4), dp2 (SqT.of e5), rfl, rfl, _, rfl, ?_⟩
    rw [eqv2]
    refine iteF ?_
    have s45 := s4.trans s5
    refine ⟨_, rfl, _, rfl, _, _, dpl (SqL.of (s45 _ _ eg)) (hW2.same s45), dpl (SqL.of (s45 _ _ el2)) (hW2.same s45), shl ws, shl ws, _, rfl, ?_⟩
    rw [eqvl]
    refine iteF ?_
    refine ⟨Nat.zero_le _, fun l3 n3 => ⟨l3, [], rfl, SqL.of upd_same, Rows.nil, fun H6 t6 s6 h6 => ?_⟩⟩
    have h6' : SqT K H6 t6 (zs (rd2 0 1)) := h6
    rw [rd2_zero] at h6'
    refine ⟨by show 2 ≤ sizeLine; decide, fun t7 n7 => ?_⟩
    refine ⟨_, _, dp2 (same_tup (same_upd n7) h6'), dp2 (SqT.of upd_same), rfl, rfl, _, rfl, ?_⟩
    rw [eqv2]
    refine iteF ?_
    refine ⟨by show 2 ≤ sizeLine; decide, fun t8 n8 => ?_⟩
    refine ⟨_, _, dp2 (CT.tZERO _), dp2 (SqT.of upd_same), rfl, rfl, ?_⟩
    rw [eqv2]
    refine ⟨true, rfl, iteT ?_⟩
    refine ⟨by show 2 ≤ sizeLine; decide, fun t9 n9 => ?_⟩
    refine ⟨_, _, dp2 (CT.tONE _), dp2 (SqT.of upd_same), rfl, rfl, ?_⟩
    rw [eqv2]
    exact fin _
end
theorem all_mk {l : PySem.W.OpenLaw} {w : World} {K : PySem.W.Frag} {h : Heap} {mg : Str → Option Value} {fa f1 f2 f3 f4 f5 f6 f7 f8 f9 f10 f11 f12 f13 f14 f15 f16 aZERO aONE CPartError CNought T1 : Addr} (X : K.In h) (G : h.Ns mainGlobals mg) (hfa : mg "law" = some (.ref fa))
    {od1 an1 od2 an2 od3 an3 od4 an4 od5 an5 od6 an6 od7 an7 od8 an8 od9 an9 od10 an10 od11 an11 od12 an12 od13 an13 od14 an14 od15 an15 od16 an16 : Option Addr} {sl1 sl2 sl3 sl4 sl5 sl6 sl7 sl8 sl9 sl10 sl11 sl12 sl13 sl14 sl15 sl16 : Array (Option Value)} {oc1 kV1 dc1 pm1 cd1 ct1 oc2 kV2 dc2 pm2 cd2 ct2 oc3 kV3 dc3 pm3 cd3 ct3 oc4 kV4 dc4 pm4 cd4 ct4 oc5 kV5 dc5 pm5 cd5 ct5 oc6 kV6 dc6 pm6 cd6 ct6 oc7 kV7 dc7 pm7 cd7 ct7 oc8 kV8 dc8 pm8 cd8 ct8 oc9 kV9 dc9 pm9 cd9 ct9 oc10 kV10 dc10 pm10 cd10 ct10 oc11 kV11 dc11 pm11 cd11 ct11 oc12 kV12 dc12 pm12 cd12 ct12 oc13 kV13 dc13 pm13 cd13 ct13 oc14 kV14 dc14 pm14 cd14 ct14 oc15 kV15 dc15 pm15 cd15 ct15 oc16 kV16 dc16 pm16 cd16 ct16 : Value}
    (a1 : PySem.W.nsIn K mainGlobals "fraction" = some (some (.ref f1))) (l1 : K.lookup f1 = some ⟨oc1, od1, .func (PySem.W.fnOf "fraction" "fraction" (defArgs sFraction) (defBody sFraction) (defScope sFraction) (.ref T1) kV1 dc1 pm1 an1 cd1 ct1), sl1⟩) {ocT1 : Value} {odT1 : Option Addr} {slT1 : Array (Option Value)} {nT1 : Nat} {tT1 : Tok} (lT1 : K.lookup T1 = some ⟨ocT1, odT1, .seq #[.int 1 tT1] nT1, slT1⟩) (c1 : PySem.W.codeIn K cd1 "fraction" = true) (k1 : PySem.W.keepIn K (.ref f1) = true)
    (a2 : PySem.W.nsIn K mainGlobals "plus" = some (some (.ref f2))) (l2 : K.lookup f2 = some ⟨oc2, od2, .func (PySem.W.fnOf "plus" "plus" (defArgs sPlus) (defBody sPlus) (defScope sPlus) .none kV2 dc2 pm2 an2 cd2 ct2), sl2⟩) (c2 : PySem.W.codeIn K cd2 "plus" = true) (k2 : PySem.W.keepIn K (.ref f2) = true)
    (a3 : PySem.W.nsIn K mainGlobals "minus" = some (some (.ref f3))) (l3 : K.lookup f3 = some ⟨oc3, od3, .func (PySem.W.fnOf "minus" "minus" (defArgs sMinus) (defBody sMinus) (defScope sMinus) .none kV3 dc3 pm3 an3 cd3 ct3), sl3⟩) (c3 : PySem.W.codeIn K cd3 "minus" = true) (k3 : PySem.W.keepIn K (.ref f3) = true)
    (a4 : PySem.W.nsIn K mainGlobals "times" = some (some (.ref f4))) (l4 : K.lookup f4 = some ⟨oc4, od4, .func (PySem.W.fnOf "times" "times" (defArgs sTimes) (defBody sTimes) (defScope sTimes) .none kV4 dc4 pm4 an4 cd4 ct4), sl4⟩) (c4 : PySem.W.codeIn K cd4 "times" = true) (k4 : PySem.W.keepIn K (.ref f4) = true)
    (a5 : PySem.W.nsIn K mainGlobals "over" = some (some (.ref f5))) (l5 : K.lookup f5 = some ⟨oc5, od5, .func (PySem.W.fnOf "over" "over" (defArgs sOver) (defBody sOver) (defScope sOver) .none kV5 dc5 pm5 an5 cd5 ct5), sl5⟩) (c5 : PySem.W.codeIn K cd5 "over" = true) (k5 : PySem.W.keepIn K (.ref f5) = true)
    (a6 : PySem.W.nsIn K mainGlobals "negative" = some (some (.ref f6))) (l6 : K.lookup f6 = some ⟨oc6, od6, .func (PySem.W.fnOf "negative" "negative" (defArgs sNegative) (defBody sNegative) (defScope sNegative) .none kV6 dc6 pm6 an6 cd6 ct6), sl6⟩) (c6 : PySem.W.codeIn K cd6 "negative" = true) (k6 : PySem.W.keepIn K (.ref f6) = true)
    (a7 : PySem.W.nsIn K mainGlobals "less" = some (some (.ref f7))) (l7 : K.lookup f7 = some ⟨oc7, od7, .func (PySem.W.fnOf "less" "less" (defArgs sLess) (defBody sLess) (defScope sLess) .none kV7 dc7 pm7 an7 cd7 ct7), sl7⟩) (c7 : PySem.W.codeIn K cd7 "less" = true) (k7 : PySem.W.keepIn K (.ref f7) = true)
    (a8 : PySem.W.nsIn K mainGlobals "sign" = some (some (.ref f8))) (l8 : K.lookup f8 = some ⟨oc8, od8, .func (PySem.W.fnOf "sign" "sign" (defArgs sSign) (defBody sSign) (defScope sSign) .none kV8 dc8 pm8 an8 cd8 ct8), sl8⟩) (c8 : PySem.W.codeIn K cd8 "sign" = true) (k8 : PySem.W.keepIn K (.ref f8) = true)
    (a9 : PySem.W.nsIn K mainGlobals "middle" = some (some (.ref f9))) (l9 : K.lookup f9 = some ⟨oc9, od9, .func (PySem.W.fnOf "middle" "middle" (defArgs sMiddle) (defBody sMiddle) (defScope sMiddle) .none kV9 dc9 pm9 an9 cd9 ct9), sl9⟩) (c9 : PySem.W.codeIn K cd9 "middle" = true) (k9 : PySem.W.keepIn K (.ref f9) = true)
    (a10 : PySem.W.nsIn K mainGlobals "total" = some (some (.ref f10))) (l10 : K.lookup f10 = some ⟨oc10, od10, .func (PySem.W.fnOf "total" "total" (defArgs sTotal) (defBody sTotal) (defScope sTotal) .none kV10 dc10 pm10 an10 cd10 ct10), sl10⟩) (c10 : PySem.W.codeIn K cd10 "total" = true) (k10 : PySem.W.keepIn K (.ref f10) = true)
    (a11 : PySem.W.nsIn K mainGlobals "_law_number" = some (some (.ref f11))) (l11 : K.lookup f11 = some ⟨oc11, od11, .func (PySem.W.fnOf "_law_number" "_law_number" (defArgs sLLawNumber) (defBody sLLawNumber) (defScope sLLawNumber) .none kV11 dc11 pm11 an11 cd11 ct11), sl11⟩) (c11 : PySem.W.codeIn K cd11 "_law_number" = true) (k11 : PySem.W.keepIn K (.ref f11) = true)
    (a12 : PySem.W.nsIn K mainGlobals "_law_is_whole" = some (some (.ref f12))) (l12 : K.lookup f12 = some ⟨oc12, od12, .func (PySem.W.fnOf "_law_is_whole" "_law_is_whole" (defArgs sLLawIsWhole) (defBody sLLawIsWhole) (defScope sLLawIsWhole) .none kV12 dc12 pm12 an12 cd12 ct12), sl12⟩) (c12 : PySem.W.codeIn K cd12 "_law_is_whole" = true) (k12 : PySem.W.keepIn K (.ref f12) = true)
    (a13 : PySem.W.nsIn K mainGlobals "_law_fraction" = some (some (.ref f13))) (l13 : K.lookup f13 = some ⟨oc13, od13, .func (PySem.W.fnOf "_law_fraction" "_law_fraction" (defArgs sLLawFraction) (defBody sLLawFraction) (defScope sLLawFraction) .none kV13 dc13 pm13 an13 cd13 ct13), sl13⟩) (c13 : PySem.W.codeIn K cd13 "_law_fraction" = true) (k13 : PySem.W.keepIn K (.ref f13) = true)
    (a14 : PySem.W.nsIn K mainGlobals "_law_drawn" = some (some (.ref f14))) (l14 : K.lookup f14 = some ⟨oc14, od14, .func (PySem.W.fnOf "_law_drawn" "_law_drawn" (defArgs sLLawDrawn) (defBody sLLawDrawn) (defScope sLLawDrawn) .none kV14 dc14 pm14 an14 cd14 ct14), sl14⟩) (c14 : PySem.W.codeIn K cd14 "_law_drawn" = true) (k14 : PySem.W.keepIn K (.ref f14) = true)
    (a15 : PySem.W.nsIn K mainGlobals "_law_over" = some (some (.ref f15))) (l15 : K.lookup f15 = some ⟨oc15, od15, .func (PySem.W.fnOf "_law_over" "_law_over" (defArgs sLLawOver) (defBody sLLawOver) (defScope sLLawOver) .none kV15 dc15 pm15 an15 cd15 ct15), sl15⟩) (c15 : PySem.W.codeIn K cd15 "_law_over" = true) (k15 : PySem.W.keepIn K (.ref f15) = true)
    (a16 : PySem.W.nsIn K mainGlobals "law" = some (some (.ref f16))) (l16 : K.lookup f16 = some ⟨oc16, od16, .func (PySem.W.fnOf "law" "law" (defArgs sLaw) (defBody sLaw) (defScope sLaw) .none kV16 dc16 pm16 an16 cd16 ct16), sl16⟩) (c16 : PySem.W.codeIn K cd16 "law" = true) (k16 : PySem.W.keepIn K (.ref f16) = true)
    (z1 : PySem.W.nsIn K mainGlobals "bool" = some none)
    (z2 : PySem.W.nsIn K mainGlobals "int" = some none)
    (z3 : PySem.W.nsIn K mainGlobals "isinstance" = some none)
    (z4 : PySem.W.nsIn K mainGlobals "len" = some none)
    (z5 : PySem.W.nsIn K mainGlobals "list" = some none)
    (z6 : PySem.W.nsIn K mainGlobals "range" = some none)
    (z7 : PySem.W.nsIn K mainGlobals "str" = some none)
    (z8 : PySem.W.nsIn K mainGlobals "gcd" = some (some (.builtin "math.gcd")))
    (u0 : PySem.W.nsIn K mainGlobals "ZERO" = some (some (.ref aZERO))) {dw0 : Option Addr} {nw0 : Nat} {sw0 : Array (Option Value)} {tk0_0 tk0_1 : Tok} (w0 : K.lookup aZERO = some ⟨.type "tuple", dw0, .seq #[.int 0 tk0_0, .int 1 tk0_1] nw0, sw0⟩)
    (u1 : PySem.W.nsIn K mainGlobals "ONE" = some (some (.ref aONE))) {dw1 : Option Addr} {nw1 : Nat} {sw1 : Array (Option Value)} {tk1_0 tk1_1 : Tok} (w1 : K.lookup aONE = some ⟨.type "tuple", dw1, .seq #[.int 1 tk1_0, .int 1 tk1_1] nw1, sw1⟩)
    (y0 : PySem.W.nsIn K mainGlobals "PartError" = some (some (.ref CPartError)))
    (y1 : PySem.W.nsIn K mainGlobals "Nought" = some (some (.ref CNought)))
    (y2 : PySem.W.excIn K CNought [.type "ValueError", .type "Exception", .type "BaseException", .type "object"] "ValueError.__new__" = true)
    (y3 : PySem.W.keepIn K (.ref CNought) = true)
    (y4 : PySem.W.subIn K (.ref CNought) (.type "BaseException") = some true)
    (y5 : PySem.W.typeIn K (.ref CNought) = some (.type "type"))
    (y6 : PySem.W.subIn K (.ref CPartError) (.type "BaseException") = some true)
    (y7 : PySem.W.isClsIn K CPartError = true)
    (y8 : PySem.W.typeIn K (.ref CPartError) = some (.type "type"))
    (y9 : PySem.W.subIn K (.ref CNought) (.ref CPartError) = some true)
    (y10 : PySem.W.subIn K (.ref CNought) (.ref CNought) = some true)
    (y11 : PySem.W.findIn K (.ref CNought) "__getattribute__" = some (some (.builtin "BaseException.__getattribute__")))
    (y12 : PySem.W.findIn K (.ref CNought) "__getattr__" = some none)
    (y13 : PySem.W.hasDictIn K CNought = true)
    (y14 : PySem.W.findIn K (.ref CNought) "__class__" = some (some (.builtin "object.__class__")))
    (y15 : PySem.W.specialIn K (.builtin "object.__class__") "__get__" = some (some (.builtin "getset_descriptor.__get__")))
    (y16 : PySem.W.takesIn K (.builtin "object.__class__") = some true)
    (y17 : PySem.W.mroIn K CNought (.type "object") = some true)
    : ∃ fd : FuncData, (∀ (s : Shared) (v : Value), BindsTo s fd ⟨[v], []⟩ [("script", v)]) ∧ ∀ base : Heap, K.In base → base.Ns mainGlobals mg → FnOk l.prog w K mg base CX0 4 fa fd ["script"] (spLaw K) := by
  have e := hfa.symm.trans (PySem.W.mg_of X G a16)
  cases e
  have T : Txt mg := ⟨PySem.W.mg_none_of X G z1, PySem.W.mg_none_of X G z2, PySem.W.mg_none_of X G z3, PySem.W.mg_none_of X G z4, PySem.W.mg_none_of X G z5, PySem.W.mg_none_of X G z6, PySem.W.mg_none_of X G z7, PySem.W.mg_of X G z8⟩
  have CT : Cons K mg aZERO aONE := ⟨PySem.W.mg_of X G u0, fun H => .inr ⟨_, _, _, w0, rfl, rfl, by show 2 ≤ sizeLine; decide, (.cons ⟨_, rfl⟩ (.cons ⟨_, rfl⟩ .nil))⟩, PySem.W.mg_of X G u1, fun H => .inr ⟨_, _, _, w1, rfl, rfl, by show 2 ≤ sizeLine; decide, (.cons ⟨_, rfl⟩ (.cons ⟨_, rfl⟩ .nil))⟩⟩
  have EX : Exns K mg CPartError CNought := ⟨PySem.W.mg_of X G y0, PySem.W.mg_of X G y1, y2, y3, y4, y5, y6, y7, y8, y9, y10, y11, y12, y13, y14, y15, y16, y17⟩
  have F1 : FunD K "fraction" "fraction" (defArgs sFraction) (defBody sFraction) (defScope sFraction) [.int 1] [] f1 _ := ⟨⟨oc1, od1, .ref T1, kV1, dc1, pm1, an1, cd1, ct1, sl1, rfl, l1, c1, .inr ⟨by decide, T1, _, [.int 1 tT1], nT1, rfl, lT1, rfl, .cons ⟨_, rfl⟩ .nil⟩, .inl rfl⟩, k1⟩
  have F2 := fun_mk (st := sPlus) l2 c2 k2
  have F3 := fun_mk (st := sMinus) l3 c3 k3
  have F4 := fun_mk (st := sTimes) l4 c4 k4
  have F5 := fun_mk (st := sOver) l5 c5 k5
  have F6 := fun_mk (st := sNegative) l6 c6 k6
  have F7 := fun_mk (st := sLess) l7 c7 k7
  have F8 := fun_mk (st := sSign) l8 c8 k8
  have F9 := fun_mk (st := sMiddle) l9 c9 k9
  have F10 := fun_mk (st := sTotal) l10 c10 k10
  have F11 := fun_mk (st := sLLawNumber) l11 c11 k11
  have F12 := fun_mk (st := sLLawIsWhole) l12 c12 k12
  have F13 := fun_mk (st := sLLawFraction) l13 c13 k13
  have F14 := fun_mk (st := sLLawDrawn) l14 c14 k14
  have F15 := fun_mk (st := sLLawOver) l15 c15 k15
  have F16 := fun_mk (st := sLaw) l16 c16 k16
  obtain ⟨e1, ve1, b1⟩ := F1.binds1 (ps := ["number", "divisor"]) 2 1 (by decide) rfl (fun T kV doc pm an cdv ct us its hu hi => match us, its, hu, hi with | [_, _], [_], _, _ => ⟨_, rfl, by kernel_rfl⟩)
  cases ve1
  obtain ⟨d1, vd1, bd1⟩ := F1.binds1 (ps := ["number", "divisor"]) 1 0 (by decide) rfl (fun T kV doc pm an cdv ct us its hu hi => match us, its, hu, hi with | [_], [_], _, _ => ⟨_, rfl, by kernel_rfl⟩)
  have b2 := F2.binds (ps := ["a", "b"]) fun _ _ _ _ _ _ us hl => match us, hl with | [_, _], _ => rfl
  have b3 := F3.binds (ps := ["a", "b"]) fun _ _ _ _ _ _ us hl => match us, hl with | [_, _], _ => rfl
  have b4 := F4.binds (ps := ["a", "b"]) fun _ _ _ _ _ _ us hl => match us, hl with | [_, _], _ => rfl
  have b5 := F5.binds (ps := ["a", "b"]) fun _ _ _ _ _ _ us hl => match us, hl with | [_, _], _ => rfl
  have b6 := F6.binds (ps := ["a"]) fun _ _ _ _ _ _ us hl => match us, hl with | [_], _ => rfl
  have b7 := F7.binds (ps := ["a", "b"]) fun _ _ _ _ _ _ us hl => match us, hl with | [_, _], _ => rfl
  have b8 := F8.binds (ps := ["a"]) fun _ _ _ _ _ _ us hl => match us, hl with | [_], _ => rfl
  have b9 := F9.binds (ps := ["a", "b"]) fun _ _ _ _ _ _ us hl => match us, hl with | [_, _], _ => rfl
  have b10 := F10.binds (ps := ["row"]) fun _ _ _ _ _ _ us hl => match us, hl with | [_], _ => rfl
  have b11 := F11.binds (ps := ["script", "k"]) fun _ _ _ _ _ _ us hl => match us, hl with | [_, _], _ => rfl
  have b12 := F12.binds (ps := ["actual"]) fun _ _ _ _ _ _ us hl => match us, hl with | [_], _ => rfl
  have b13 := F13.binds (ps := ["number", "divisor"]) fun _ _ _ _ _ _ us hl => match us, hl with | [_, _], _ => rfl
  have b14 := F14.binds (ps := ["draw", "way"]) fun _ _ _ _ _ _ us hl => match us, hl with | [_, _], _ => rfl
  have b15 := F15.binds (ps := ["a", "b"]) fun _ _ _ _ _ _ us hl => match us, hl with | [_, _], _ => rfl
  refine ⟨PySem.W.fnOf "law" "law" (defArgs sLaw) (defBody sLaw) (defScope sLaw) .none kV16 dc16 pm16 an16 cd16 ct16, fun s v => .of_eq rfl, fun base _ _ => ?_⟩
  have G1 : FnOk l.prog w K mg base (L2.CX l.prog w) 1 f1 _ ["number", "divisor"] (spFraction K CNought) := okFraction F1 T CT EX 
  have G2 : FnOk l.prog w K mg base CX0 2 f2 _ ["a", "b"] (spPlus K) := okPlus F2 T CT EX G1 (PySem.W.mg_of X G a1) k1 b1 vd1 bd1
  have G3 : FnOk l.prog w K mg base CX0 2 f3 _ ["a", "b"] (spMinus K) := okMinus F3 T CT EX G1 (PySem.W.mg_of X G a1) k1 b1 vd1 bd1
  have G4 : FnOk l.prog w K mg base CX0 2 f4 _ ["a", "b"] (spTimes K) := okTimes F4 T CT EX G1 (PySem.W.mg_of X G a1) k1 b1 vd1 bd1
  have G5 : FnOk l.prog w K mg base (L2.CX l.prog w) 2 f5 _ ["a", "b"] (spOver K CNought) := okOver F5 T CT EX G1 (PySem.W.mg_of X G a1) k1 b1 vd1 bd1
  have G6 : FnOk l.prog w K mg base CX0 1 f6 _ ["a"] (spNegative K) := okNegative F6 T CT EX 
  have G7 : FnOk l.prog w K mg base CX0 1 f7 _ ["a", "b"] (spLess K) := okLess F7 T CT EX 
  have G8 : FnOk l.prog w K mg base CX0 1 f8 _ ["a"] (spSign K) := okSign F8 T CT EX 
  have G9 : FnOk l.prog w K mg base CX0 2 f9 _ ["a", "b"] (spMiddle K) := okMiddle F9 T CT EX G1 (PySem.W.mg_of X G a1) k1 b1 vd1 bd1
  have G10 : FnOk l.prog w K mg base CX0 3 f10 _ ["row"] (spTotal K) := okTotal F10 T CT EX G2 (PySem.W.mg_of X G a2) k2 b2
  have G11 : FnOk l.prog w K mg base CX0 1 f11 _ ["script", "k"] (spLLawNumber K) := okLLawNumber F11 T CT EX 
  have G12 : FnOk l.prog w K mg base CX0 1 f12 _ ["actual"] (spLLawIsWhole K) := okLLawIsWhole F12 T CT EX 
  have G13 : FnOk l.prog w K mg base CX0 1 f13 _ ["number", "divisor"] (spLLawFraction K) := okLLawFraction F13 T CT EX 
  have G14 : FnOk l.prog w K mg base CX0 2 f14 _ ["draw", "way"] (spLLawDrawn K) := okLLawDrawn F14 T CT EX G13 (PySem.W.mg_of X G a13) k13 b13
  have G15 : FnOk l.prog w K mg base CX0 3 f15 _ ["a", "b"] (spLLawOver K) := okLLawOver F15 T CT EX G5 (PySem.W.mg_of X G a5) k5 b5
  exact okLaw F16 T CT EX G11 (PySem.W.mg_of X G a11) k11 b11 G14 (PySem.W.mg_of X G a14) k14 b14 G2 (PySem.W.mg_of X G a2) k2 b2 G13 (PySem.W.mg_of X G a13) k13 b13 G3 (PySem.W.mg_of X G a3) k3 b3 G4 (PySem.W.mg_of X G a4) k4 b4 G9 (PySem.W.mg_of X G a9) k9 b9 G10 (PySem.W.mg_of X G a10) k10 b10 G15 (PySem.W.mg_of X G a15) k15 b15 G6 (PySem.W.mg_of X G a6) k6 b6 G7 (PySem.W.mg_of X G a7) k7 b7 G8 (PySem.W.mg_of X G a8) k8 b8 G12 (PySem.W.mg_of X G a12) k12 b12
end Tp
open PySem PySem.W PyProof.Rows
set_option maxHeartbeats 0 in
theorem PySem.Challenge.cw_truepart_k02_sums_products_and_order_holds : PySem.Challenge.rw_truepart_k02_sums_products_and_order.Holds := by
  w_on; o_law; k_head; (case hw => w_witness2)
  k_fill
  refine L2.walk_of (l := PySem.Challenge.rw_truepart_k02_sums_products_and_order) (n := 63) (k := 4) (x := "script") (CX := fun _ => L2.CX0) (sp := fun w => Tp.spLaw _) rfl (by decide) rfl ⟨rfl, by decide, by decide⟩ (fun w h Y => PySem.W.kIn_of Y) ?F (fun _ _ a ns hl _ hS => ⟨a, ns, rfl, hS, hl, fun _ => rfl⟩) (fun _ _ _ _ _ h => h)
  case F =>
    intro w mg fa h KX G hmg
    refine' Tp.all_mk KX G hmg ?a1 ?l1 ?lT1 ?c1 ?k1 ?a2 ?l2 ?c2 ?k2 ?a3 ?l3 ?c3 ?k3 ?a4 ?l4 ?c4 ?k4 ?a5 ?l5 ?c5 ?k5 ?a6 ?l6 ?c6 ?k6 ?a7 ?l7 ?c7 ?k7 ?a8 ?l8 ?c8 ?k8 ?a9 ?l9 ?c9 ?k9 ?a10 ?l10 ?c10 ?k10 ?a11 ?l11 ?c11 ?k11 ?a12 ?l12 ?c12 ?k12 ?a13 ?l13 ?c13 ?k13 ?a14 ?l14 ?c14 ?k14 ?a15 ?l15 ?c15 ?k15 ?a16 ?l16 ?c16 ?k16 ?z1 ?z2 ?z3 ?z4 ?z5 ?z6 ?z7 ?z8 ?u0 ?w0 ?u1 ?w1 ?y0 ?y1 ?y2 ?y3 ?y4 ?y5 ?y6 ?y7 ?y8 ?y9 ?y10 ?y11 ?y12 ?y13 ?y14 ?y15 ?y16 ?y17
    (case a1 => k_is)
    (case l1 => k_is)
    (case lT1 => k_is)
    (case c1 => k_is)
    (case k1 => k_is)
    (case a2 => k_is)
    (case l2 => k_is)
    (case c2 => k_is)
    (case k2 => k_is)
    (case a3 => k_is)
    (case l3 => k_is)
    (case c3 => k_is)
    (case k3 => k_is)
    (case a4 => k_is)
    (case l4 => k_is)
    (case c4 => k_is)
    (case k4 => k_is)
    (case a5 => k_is)
    (case l5 => k_is)
    (case c5 => k_is)
    (case k5 => k_is)
    (case a6 => k_is)
    (case l6 => k_is)
    (case c6 => k_is)
    (case k6 => k_is)
    (case a7 => k_is)
    (case l7 => k_is)
    (case c7 => k_is)
    (case k7 => k_is)
    (case a8 => k_is)
    (case l8 => k_is)
    (case c8 => k_is)
    (case k8 => k_is)
    (case a9 => k_is)
    (case l9 => k_is)
    (case c9 => k_is)
    (case k9 => k_is)
    (case a10 => k_is)
    (case l10 => k_is)
    (case c10 => k_is)
    (case k10 => k_is)
    (case a11 => k_is)
    (case l11 => k_is)
    (case c11 => k_is)
    (case k11 => k_is)
    (case a12 => k_is)
    (case l12 => k_is)
    (case c12 => k_is)
    (case k12 => k_is)
    (case a13 => k_is)
    (case l13 => k_is)
    (case c13 => k_is)
    (case k13 => k_is)
    (case a14 => k_is)
    (case l14 => k_is)
    (case c14 => k_is)
    (case k14 => k_is)
    (case a15 => k_is)
    (case l15 => k_is)
    (case c15 => k_is)
    (case k15 => k_is)
    (case a16 => k_is)
    (case l16 => k_is)
    (case c16 => k_is)
    (case k16 => k_is)
    (case z1 => k_is)
    (case z2 => k_is)
    (case z3 => k_is)
    (case z4 => k_is)
    (case z5 => k_is)
    (case z6 => k_is)
    (case z7 => k_is)
    (case z8 => k_is)
    (case u0 => k_is)
    (case w0 => k_is)
    (case u1 => k_is)
    (case w1 => k_is)
    (case y0 => k_is)
    (case y1 => k_is)
    (case y2 => k_exc)
    (case y3 => k_is)
    (case y4 => k_is)
    (case y5 => k_is)
    (case y6 => k_is)
    (case y7 => k_is)
    (case y8 => k_is)
    (case y9 => k_is)
    (case y10 => first | k_is | rfl)
    (case y11 => k_is)
    (case y12 => k_is)
    (case y13 => k_is)
    (case y14 => k_is)
    (case y15 => k_is)
    (case y16 => k_is)
    (case y17 => k_is)
#print axioms PySem.Challenge.cw_truepart_k02_sums_products_and_order_holds
