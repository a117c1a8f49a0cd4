import PyProof.Rows.All
import Wide.All
import OpenK.AllK
import Wide.FinOn
import HandS.ForMost
import HandS.Codes
import HandS.Gcd
import HandS.IsInst
import HandS.Wide
import HandS.ForExc
import HandS.ExcIs
import HandS.CallSlots
import HandS.Defaults
import PyProof.StrOps2
import PySem.Challenge.RW_truepart_k01_fractions_in_lowest_terms
set_option Elab.async false
set_option linter.all false
set_option maxHeartbeats 8000000
set_option maxRecDepth 100000
namespace Tp
open PySem L2
def top (i : Nat) : Stmt := PySem.Challenge.pw_truepart_k01_fractions_in_lowest_terms.main.body.getD i (.Pass ⟨0, 0, 0, 0⟩)
abbrev sCommon : Stmt := top 6
abbrev sFraction : Stmt := top 7
abbrev sLLawNumber : Stmt := top 9
abbrev sLLawIsWhole : Stmt := top 10
abbrev sLLawDivisor : Stmt := top 11
abbrev sLLawRefused : Stmt := top 12
abbrev sLaw : Stmt := top 13
theorem scCommon : FnScope ["a", "b"] ["a", "b"] (defScope sCommon) := ⟨rfl, rfl, rfl, by decide +kernel, rfl, by decide +kernel, by decide +kernel⟩
theorem scFraction : FnScope ["number", "divisor", "shared"] ["number", "divisor"] (defScope sFraction) := ⟨rfl, rfl, rfl, by decide +kernel, rfl, by decide +kernel, by decide +kernel⟩
theorem scLLawNumber : FnScope ["script", "k", "cell", "first", "second"] ["script", "k"] (defScope sLLawNumber) := ⟨rfl, rfl, rfl, by decide +kernel, rfl, by decide +kernel, by decide +kernel⟩
theorem scLLawIsWhole : FnScope ["actual"] ["actual"] (defScope sLLawIsWhole) := ⟨rfl, rfl, rfl, by decide +kernel, rfl, by decide +kernel, by decide +kernel⟩
theorem scLLawDivisor : FnScope ["a", "b", "k", "rest"] ["a", "b"] (defScope sLLawDivisor) := ⟨rfl, rfl, rfl, by decide +kernel, rfl, by decide +kernel, by decide +kernel⟩
theorem scLLawRefused : FnScope ["number", "wrong"] ["number"] (defScope sLLawRefused) := ⟨rfl, rfl, rfl, by decide +kernel, rfl, by decide +kernel, by decide +kernel⟩
theorem scLaw : FnScope ["script", "k", "draw", "factor", "number", "divisor", "actual", "shared", "size", "best"] ["script"] (defScope sLaw) := ⟨rfl, rfl, rfl, by decide +kernel, rfl, by decide +kernel, by decide +kernel⟩
structure Txt (mg : Str → Option Value) : Prop where
  ValueError : mg "ValueError" = none
  bool : mg "bool" = none
  int : mg "int" = none
  isinstance : mg "isinstance" = none
  len : mg "len" = none
  range : mg "range" = none
  tuple : mg "tuple" = none
  gcd : mg "gcd" = some (.builtin "math.gcd")
section
variable {K : PySem.W.Frag} {C D : Addr} {c : Value} {r : Bool}
theorem exm_two (b : PySem.W.subIn K (.ref D) (.type "BaseException") = some true) (i : PySem.W.isClsIn K D = true) (t : PySem.W.typeIn K (.ref D) = some (.type "type")) (s : PySem.W.subIn K c (.ref D) = some r) : PySem.W.exmOne K c (.ref D) = some r := by
  have e1 : (PySem.W.subIn K (.ref D) (.type "BaseException") == some true) = true := by rw [b]; rfl
  have i' : (PySem.W.clsIn K D).isSome = true := i
  have e2 : ((PySem.W.clsIn K D).isSome && PySem.W.typeIn K (.ref D) == some (.type "type")) = true := by rw [i', t]; rfl
  unfold PySem.W.exmOne PySem.W.kitCls
  rw [if_pos e1]
  show (if _ then _ else _) = _
  rw [if_pos e2]
  exact s
theorem kit_self : PySem.W.kitOne K (.ref C) (.ref C) = some true := by
  unfold PySem.W.kitOne
  exact if_pos (beq_iff_eq.mpr rfl)
theorem kit_not (s0 : PySem.W.subIn K (.ref C) (.ref C) = some true) (i : PySem.W.isClsIn K D = true) (t : PySem.W.typeIn K (.ref D) = some (.type "type")) (s : PySem.W.subIn K (.ref C) (.ref D) = some false) : PySem.W.kitOne K (.ref C) (.ref D) = some false := by
  have i' : (PySem.W.clsIn K D).isSome = true := i
  have e2 : ((PySem.W.clsIn K D).isSome && PySem.W.typeIn K (.ref D) == some (.type "type")) = true := by rw [i', t]; rfl
  unfold PySem.W.kitOne PySem.W.kitCls
  rw [if_neg (fun z => ?_)]
  · show (if _ then _ else _) = _
    rw [if_pos e2]
    exact s
  · have e := Value.ref.inj (beq_iff_eq.mp z)
    subst e
    rw [s0] at s
    cases s
theorem kit_kind {T : String} (h : PySem.W.kitMeta T = true) (s : PySem.W.subIn K (.ref C) (.type T) = some r) : PySem.W.kitOne K (.ref C) (.type T) = some r := by
  unfold PySem.W.kitOne PySem.W.kitCls
  rw [if_neg (fun z => by have e := beq_iff_eq.mp z; cases e)]
  show (if _ then _ else _) = _
  rw [if_pos h]
  exact s
end

structure Exns (K : PySem.W.Frag) (mg : Str → Option Value) (CPartError CNought CUnknown : Addr) : Prop where
  gPartError : mg "PartError" = some (.ref CPartError)
  gNought : mg "Nought" = some (.ref CNought)
  gUnknown : mg "Unknown" = some (.ref CUnknown)
  xNought : PySem.W.excIn K CNought [.type "ValueError", .type "Exception", .type "BaseException", .type "object"] "ValueError.__new__" = true
  kNought : PySem.W.keepIn K (.ref CNought) = true
  bNought : PySem.W.subIn K (.ref CNought) (.type "BaseException") = some true
  tNought : PySem.W.typeIn K (.ref CNought) = some (.type "type")
  cb : PySem.W.subIn K (.ref CPartError) (.type "BaseException") = some true
  ci : PySem.W.isClsIn K CPartError = true
  ct : PySem.W.typeIn K (.ref CPartError) = some (.type "type")
  cs : PySem.W.subIn K (.ref CNought) (.ref CPartError) = some true
  ss : PySem.W.subIn K (.ref CNought) (.ref CNought) = some true
  i1 : PySem.W.findIn K (.ref CNought) "__getattribute__" = some (some (.builtin "BaseException.__getattribute__"))
  i2 : PySem.W.findIn K (.ref CNought) "__getattr__" = some none
  i3 : PySem.W.hasDictIn K CNought = true
  i4 : PySem.W.findIn K (.ref CNought) "__class__" = some (some (.builtin "object.__class__"))
  i5 : PySem.W.specialIn K (.builtin "object.__class__") "__get__" = some (some (.builtin "getset_descriptor.__get__"))
  i6 : PySem.W.takesIn K (.builtin "object.__class__") = some true
  i7 : PySem.W.mroIn K CNought (.type "object") = some true
  ksValueError : PySem.W.subIn K (.ref CNought) (.type "ValueError") = some true
  kiUnknown : PySem.W.isClsIn K CUnknown = true
  ktUnknown : PySem.W.typeIn K (.ref CUnknown) = some (.type "type")
  ksUnknown : PySem.W.subIn K (.ref CNought) (.ref CUnknown) = some false
theorem Exns.iNought {K : PySem.W.Frag} {mg : Str → Option Value} {CPartError CNought CUnknown : Addr} (EX : Exns K mg CPartError CNought CUnknown) : ExcC K CNought := ⟨EX.i1, EX.i2, EX.bNought, EX.i3, EX.i4, EX.i5, EX.i6, EX.i7⟩
theorem Exns.eNought {K : PySem.W.Frag} {mg : Str → Option Value} {CPartError CNought CUnknown : Addr} (EX : Exns K mg CPartError CNought CUnknown) : PySem.W.exmOne K (.ref CNought) (.ref CPartError) = some true := exm_two EX.cb EX.ci EX.ct EX.cs
theorem Exns.nNought {K : PySem.W.Frag} {mg : Str → Option Value} {CPartError CNought CUnknown : Addr} (EX : Exns K mg CPartError CNought CUnknown) : PySem.W.kitOne K (.ref CNought) (.ref CNought) = some true := kit_self
theorem Exns.nValueError {K : PySem.W.Frag} {mg : Str → Option Value} {CPartError CNought CUnknown : Addr} (EX : Exns K mg CPartError CNought CUnknown) : PySem.W.kitOne K (.ref CNought) (.type "ValueError") = some true := kit_kind (by decide +kernel) EX.ksValueError
theorem Exns.nUnknown {K : PySem.W.Frag} {mg : Str → Option Value} {CPartError CNought CUnknown : Addr} (EX : Exns K mg CPartError CNought CUnknown) : PySem.W.kitOne K (.ref CNought) (.ref CUnknown) = some false := kit_not EX.ss EX.kiUnknown EX.ktUnknown EX.ksUnknown
local macro_rules | `(tactic| walk_at "rd") => `(tactic| repeat (first | refine ⟨_, rfl, ?_⟩ | refine ⟨rfl, ?_⟩ | refine ⟨_, _, rfl, rfl, ?_⟩ | refine Or.inl ⟨_, rfl, ?_⟩ | refine ⟨(by show (0 : Int) < _; decide), ?_⟩ | refine ⟨⟨by decide, by decide⟩, ?_⟩ | refine ⟨Or.inr ⟨by decide, by decide⟩, ?_⟩ | refine ⟨Or.inl ⟨by decide, by decide⟩, ?_⟩ | refine ⟨⟨by decide, by decide, by decide⟩, ?_⟩))
abbrev zs (l : List Int) : List V := l.map V.int
theorem same_upd {H : Hp} {p : Addr} {o : HO} (h : H p = none) : Same H (upd H p o) := fun b x e => by
  rw [upd_ne (ne_of_none e h)]
  exact e
theorem same_tup {K : PySem.W.Frag} {H H' : Hp} {a : Addr} {xs : List V} (e : Same H H') (h : SqT K H a xs) : SqT K H' a xs := by
  rcases h with (h | ⟨o, h⟩) | h
  · exact .inl (.inl (e _ _ h))
  · exact .inl (.inr ⟨o, e _ _ h⟩)
  · exact .inr h
theorem zs_get {l : List Int} {i : Nat} {v : V} (h : (zs l)[i]? = some v) : ∃ z, v = .int z ∧ l[i]? = some z := by
  rw [show zs l = l.map V.int from rfl, List.getElem?_map] at h
  cases e : l[i]? with
  | none =>
    rw [e] at h
    cases h
  | some z =>
    rw [e] at h
    exact ⟨z, (Option.some.inj h).symm, rfl⟩
theorem zs_snoc {l : List Int} {i : Nat} {z : Int} (f : Int → Int) (h : l[i]? = some z) : zs ((l.map f).take i) ++ [V.int (f z)] = zs ((l.map f).take (i + 1)) := by
  show ((l.map f).take i).map V.int ++ [V.int (f z)] = ((l.map f).take (i + 1)).map V.int
  rw [List.take_add_one, List.getElem?_map, h, List.map_append]
  rfl
theorem zs_len {l : List Int} (n : Nat) (h : l.length ≤ 1000) : (zs (l.take n)).length < sizeLine := by
  show ((l.take n).map V.int).length < sizeLine
  rw [List.length_map, List.length_take]
  exact small1000 (by omega)
theorem ne_of_bang {n m : Int} (h : (!decide (V.int n = V.int m)) = true) : n ≠ m := fun e => by
  rw [e, decide_eq_true rfl] at h
  cases h
theorem eq_of_nobang {n m : Int} (h : ¬ (!decide (V.int n = V.int m)) = true) : n = m := by
  by_cases e : n = m
  · exact e
  · exact absurd (by rw [decide_eq_false (fun z => e (V.int.inj z))]; rfl) h
theorem eq_of_dec {n m : Int} (h : decide (V.int n = V.int m) = true) : n = m := V.int.inj (of_decide_eq_true h)
theorem ne_of_nodec {n m : Int} (h : ¬ decide (V.int n = V.int m) = true) : n ≠ m := fun e => h (decide_eq_true (by rw [e]))

/-! Euclid by turns. -/
/-- one turn of the walk (a, b) -> (b, a % b), of naturals -/
theorem gcd_turn (a b : Nat) : Nat.gcd b (a % b) = Nat.gcd a b := by
  rw [Nat.gcd_comm b, ← Nat.gcd_rec, Nat.gcd_comm]
theorem prod_turn {a b : Nat} (h : b ≤ a) (hb : 0 < b) : 2 * (b * (a % b)) ≤ a * b := by
  have h1 : a % b < b := Nat.mod_lt _ hb
  have h2 : a = b * (a / b) + a % b := (Nat.div_add_mod a b).symm
  have h3 : 1 ≤ a / b := (Nat.one_le_div_iff hb).mpr h
  have h4 : b * 1 ≤ b * (a / b) := Nat.mul_le_mul_left b h3
  have h5 : 2 * (a % b) ≤ a := by omega
  calc 2 * (b * (a % b)) = b * (2 * (a % b)) := by rw [Nat.mul_left_comm]
    _ ≤ b * a := Nat.mul_le_mul_left b h5
    _ = a * b := Nat.mul_comm _ _
/-- what holds behind i turns from (a0, b0) -/
structure Eu (a0 b0 i a b : Nat) : Prop where
  g : Nat.gcd a b = Nat.gcd a0 b0
  p : a * b * 2 ^ i ≤ 2 * (a0 * b0)
  o : i = 0 ∨ b ≤ a
  z : i = 0 → a = a0 ∧ b = b0
theorem Eu.start (a b : Nat) : Eu a b 0 a b := ⟨rfl, by rw [Nat.pow_zero]; omega, .inl rfl, fun _ => ⟨rfl, rfl⟩⟩
theorem Eu.turn {a0 b0 i a b : Nat} (e : Eu a0 b0 i a b) (hb : 0 < b) : Eu a0 b0 (i + 1) b (a % b) := by
  refine ⟨(gcd_turn a b).trans e.g, ?_, .inr (Nat.le_of_lt (Nat.mod_lt _ hb)), fun z => by omega⟩
  rcases e.o with hi | hle
  · obtain ⟨rfl, rfl⟩ := e.z hi
    subst hi
    have h1 : b * (a % b) ≤ b * a := Nat.mul_le_mul_left b (Nat.mod_le a b)
    have h2 : b * a = a * b := Nat.mul_comm _ _
    rw [Nat.zero_add, Nat.pow_one]
    omega
  · have h1 := prod_turn hle hb
    have h2 := e.p
    have h3 : b * (a % b) * 2 ^ (i + 1) = 2 * (b * (a % b)) * 2 ^ i := by
      rw [Nat.pow_succ]
      rw [Nat.mul_comm (2 ^ i) 2, ← Nat.mul_assoc, Nat.mul_comm (b * (a % b)) 2]
    rw [h3]
    exact Nat.le_trans (Nat.mul_le_mul_right _ h1) h2
/-- too many turns: nothing is left -/
theorem Eu.stop {a0 b0 i a b : Nat} (e : Eu a0 b0 i a b) (hi : i ≠ 0) (h : 2 * (a0 * b0) < 2 ^ i) : b = 0 := by
  rcases Nat.eq_zero_or_pos b with h0 | h0
  · exact h0
  · have hle : b ≤ a := by
      rcases e.o with h1 | h1
      · exact absurd h1 hi
      · exact h1
    have h1 : 1 ≤ a * b := Nat.mul_pos (by omega) h0
    have h2 : 1 * 2 ^ i ≤ a * b * 2 ^ i := Nat.mul_le_mul_right _ h1
    have h3 := e.p
    omega
theorem Eu.end {a0 b0 i a : Nat} (e : Eu a0 b0 i a 0) : a = Nat.gcd a0 b0 := by
  rw [← e.g, Nat.gcd_zero_right]
/-- the greatest divisor of a row, as it is reckoned from the left -/
def gl (l : List Int) : Nat := l.foldl (fun g v => Nat.gcd v.natAbs g) 0
theorem gl_snoc (l : List Int) (v : Int) : gl (l ++ [v]) = Nat.gcd v.natAbs (gl l) := by
  unfold gl
  rw [List.foldl_append]
  rfl
theorem gl_lt {l : List Int} {v : Int} (h : gl l < 2 ^ 100) (hv : v.natAbs < 2 ^ 100) : gl (l ++ [v]) < 2 ^ 100 := by
  rw [gl_snoc]
  rcases Nat.eq_zero_or_pos v.natAbs with e | e
  · rw [e, Nat.gcd_zero_left]
    exact h
  · exact Nat.lt_of_le_of_lt (Nat.le_of_dvd e (Nat.gcd_dvd_left _ _)) hv
theorem take_snoc {l : List Int} {i : Nat} {z : Int} (h : l[i]? = some z) : l.take (i + 1) = l.take i ++ [z] := by
  rw [List.take_add_one, h]
  rfl
theorem eu_far {a b n : Nat} (hn : 201 ≤ n) (ha : a < 2 ^ 100) (hb : b < 2 ^ 100) : 2 * (a * b) < 2 ^ n := by
  have h1 : a * b < 2 ^ 100 * 2 ^ 100 := Nat.mul_lt_mul'' ha hb
  rw [← Nat.pow_add] at h1
  have h2 : (2 : Nat) * 2 ^ (100 + 100) = 2 ^ 201 := by decide +kernel
  have h3 : (2 : Nat) ^ 201 ≤ 2 ^ n := Nat.pow_le_pow_right (by decide) hn
  omega
theorem fmod_nat (a b : Nat) : (a : Int).fmod (b : Int) = ((a % b : Nat) : Int) := by
  rw [Int.fmod_eq_emod_of_nonneg _ (Int.natCast_nonneg _)]
  exact (Int.natCast_emod a b).symm

/-- // by any divisor other than 0, below 2 ^ 9000 in size -/
def CDivX (_ j : Int) : Prop := j ≠ 0 ∧ j.natAbs.log2 < 9000
theorem op_fdivX {X : Cx} : OpR X (binaryOp .FloorDiv) (rI CDivX fun i j => .int (i.fdiv j)) :=
  opI fun _ _ _ _ _ _ _ hc q =>
    PyProof.Rows.floordiv_int hc.1 q (.inl (PyProof.noPylong_of_log2 hc.2))
theorem wide_divx {i j : Int} {b : Nat} (h : j ≠ 0) (hb : j.natAbs < 2 ^ b) (h0 : 0 < b) (h9 : b ≤ 9000) : CDivX i j :=
  ⟨h, Nat.lt_of_lt_of_le (PySem.Flt.log2_lt_of h0 hb) h9⟩
/-- n noughts -/
def nou (n : Nat) : Str := ⟨(List.replicate n (Str.ofString "0").cps).foldl (· ++ ·) #[]⟩
theorem nou_len {n : Nat} (h : n ≤ 100) : (nou n).length ≤ sizeLine := by
  have : ∀ n : _root_.Fin 101, (nou n.val).length ≤ 100 := by decide +kernel
  have h1 := this ⟨n, by omega⟩
  rw [PySem.sizeLine_eq]
  exact Nat.le_trans h1 (by decide)
theorem op_nou {X : Cx} : OpR X (binaryOp .Mult) (fun x y H Q => ∃ n : Nat, x = .str "0" ∧ y = .int (n : Int) ∧ 1 ≤ n ∧ n ≤ 100 ∧ Q (.str (nou n)) H) := by
  intro pins s σ H x y v u Q I rx ry h
  obtain ⟨n, rfl, rfl, h1, h2, q⟩ := h
  obtain ⟨t, rfl⟩ := rx
  obtain ⟨t', rfl⟩ := ry
  have e1 : ¬ ((n : Int) < 1) := by omega
  have el : (Str.ofString "0").length = 1 := by decide +kernel
  refine PySem.P.mul_str ?_ ?_ ?_ ?_
  · rw [decide_eq_false (by omega), decide_eq_false (by omega)]
    rfl
  · intro _ _
    rw [el]
    have : (2 ^ 63 - 1 : Int) / n ≥ 1 := by
      have : (1 : Int) * n ≤ 2 ^ 63 - 1 := by omega
      exact (Int.le_ediv_iff_mul_le (by omega)).mpr this
    omega
  · intro _ _
    rw [el]
    unfold PySem.Builtin.Str.tooLong
    rw [PySem.sizeLine_eq]
    exact decide_eq_false (by omega)
  · rw [if_neg e1]
    by_cases hn : n = 1
    · subst hn
      have e2 : nou 1 = Str.ofString "0" := by decide +kernel
      rw [e2] at q
      exact ⟨.str (Str.ofString "0"), H, I, ⟨t, rfl⟩, q⟩
    · have : ((n : Int) == 1 || (Str.ofString "0").length == 0) = false := by
        rw [el]
        simp
        omega
      rw [this, if_neg Bool.false_ne_true]
      exact ⟨nou_len h2, .str (nou n), H, I.tok _, ⟨_, rfl⟩, q⟩
theorem suite_of {X : Cx} {a C : Addr} {oe : Obj} {pn : List (Addr × Obj)} {cls : Value} {d : Option Addr} {sts : List Stmt} {ts : TS} (hz : Zc cls d oe)
    (h : Zc (.ref C) none oe → PSs (X.suite a ((a, oe) :: pn)) sts ts) : PSs (X.suite a ((a, oe) :: pn)) sts (fun D σ H => (cls = .ref C ∧ d = none) ∧ ts D σ H) :=
  ⟨fun pins s σ H D I hq => by
    obtain ⟨⟨rfl, rfl⟩, q⟩ := hq
    exact (h hz).run pins s σ H D I q⟩
theorem ten_text : ∀ n : Nat, 1 ≤ n → n ≤ 20 → PySem.intText? (Str.ofString "1" ++ nou n) = some ((10 : Int) ^ n) ∧ (Str.ofString "1" ++ nou n).length ≤ 640 ∧ (nou n).length ≤ 100 := by
  intro n h1 h2
  have : ∀ n : _root_.Fin 21, 1 ≤ n.val → PySem.intText? (Str.ofString "1" ++ nou n.val) = some ((10 : Int) ^ n.val) ∧ (Str.ofString "1" ++ nou n.val).length ≤ 640 ∧ (nou n.val).length ≤ 100 := by decide +kernel
  exact this ⟨n, by omega⟩ h1

/-- the divisor by which fraction divides both -/
def sg (n d : Int) : Int := if d < 0 then -((Nat.gcd n.natAbs d.natAbs : Nat) : Int) else ((Nat.gcd n.natAbs d.natAbs : Nat) : Int)
theorem sg_abs (n d : Int) : (sg n d).natAbs = Nat.gcd n.natAbs d.natAbs := by
  unfold sg
  split
  · rw [Int.natAbs_neg, Int.natAbs_natCast]
  · rw [Int.natAbs_natCast]
theorem sg_ne {n d : Int} (h : d ≠ 0) : sg n d ≠ 0 := by
  intro e
  have h1 := sg_abs n d
  rw [e] at h1
  have h2 : Nat.gcd n.natAbs d.natAbs = 0 := h1.symm
  have h3 := Nat.gcd_eq_zero_iff.mp h2
  omega
theorem sg_dn (n d : Int) : sg n d ∣ n := by
  have h : ((Nat.gcd n.natAbs d.natAbs : Nat) : Int) ∣ n := Int.dvd_natAbs.mp (Int.natCast_dvd_natCast.mpr (Nat.gcd_dvd_left _ _))
  unfold sg
  split
  · exact Int.neg_dvd.mpr h
  · exact h
theorem sg_dd (n d : Int) : sg n d ∣ d := by
  have h : ((Nat.gcd n.natAbs d.natAbs : Nat) : Int) ∣ d := Int.dvd_natAbs.mp (Int.natCast_dvd_natCast.mpr (Nat.gcd_dvd_right _ _))
  unfold sg
  split
  · exact Int.neg_dvd.mpr h
  · exact h
theorem fdiv_back {d v : Int} (h : d ∣ v) : v.fdiv d * d = v := Int.fdiv_mul_cancel h
theorem part_le {f d v : Int} (e : f * d = v) (hd : d ≠ 0) : f.natAbs ≤ v.natAbs := by
  rw [← e, Int.natAbs_mul]
  exact Nat.le_mul_of_pos_right _ (by omega)
/-- what fraction yields -/
structure Fr (n d p q : Int) : Prop where
  hp : p * sg n d = n
  hq : q * sg n d = d
  q0 : 0 < q
  one : Nat.gcd p.natAbs q.natAbs = 1
theorem fr_of {n d : Int} (h : d ≠ 0) : Fr n d (n.fdiv (sg n d)) (d.fdiv (sg n d)) := by
  have e1 := fdiv_back (sg_dn n d)
  have e2 := fdiv_back (sg_dd n d)
  have hs := sg_ne (n := n) h
  refine ⟨e1, e2, ?_, ?_⟩
  · rcases Int.lt_or_le 0 (d.fdiv (sg n d)) with h1 | h1
    · exact h1
    · exfalso
      have hg : 0 < Nat.gcd n.natAbs d.natAbs := Nat.gcd_pos_of_pos_right _ (by omega)
      rcases Int.lt_or_le d 0 with h2 | h2
      · have h3 : sg n d < 0 := by
          unfold sg
          rw [if_pos h2]
          omega
        have h4 := Int.mul_nonneg_of_nonpos_of_nonpos h1 (Int.le_of_lt h3)
        omega
      · have h3 : 0 < sg n d := by
          unfold sg
          rw [if_neg (by omega)]
          omega
        have h4 := Int.mul_nonpos_of_nonpos_of_nonneg h1 (Int.le_of_lt h3)
        omega
  · have e3 : Nat.gcd n.natAbs d.natAbs = Nat.gcd (n.fdiv (sg n d)).natAbs (d.fdiv (sg n d)).natAbs * (sg n d).natAbs := by
      rw [← Nat.gcd_mul_right, ← Int.natAbs_mul, ← Int.natAbs_mul, e1, e2]
    rw [sg_abs] at e3
    have hg : 0 < Nat.gcd n.natAbs d.natAbs := Nat.gcd_pos_of_pos_right _ (by omega)
    exact (Nat.eq_of_mul_eq_mul_right hg (by rw [Nat.one_mul]; exact e3)).symm
theorem Fr.cross {n d p q : Int} (f : Fr n d p q) : p * d = n * q := by
  have h1 := f.hp
  have h2 := f.hq
  calc p * d = p * (q * sg n d) := by rw [h2]
    _ = (p * sg n d) * q := by rw [Int.mul_comm q, Int.mul_assoc]
    _ = n * q := by rw [h1]
theorem sg_one (n : Int) : sg n 1 = 1 := by
  unfold sg
  rw [if_neg (by decide)]
  show ((Nat.gcd n.natAbs 1 : Nat) : Int) = 1
  rw [Nat.gcd_one_right]
  rfl
theorem rd_one (n : Int) : [n.fdiv (sg n 1), (1 : Int).fdiv (sg n 1)] = [n, 1] := by rw [sg_one, Int.fdiv_one, Int.fdiv_one]


section
variable {P : Program} {w : World} {K : PySem.W.Frag} {mg : Str → Option Value} {base : Heap}
def spCommon (K : PySem.W.Frag) : Sp := fun vs H Q _ => ∃ a b : Int, vs = [.int a, .int b] ∧ Q (.int ((Nat.gcd a.natAbs b.natAbs : Nat) : Int)) H
theorem okCommon {fCommon : Addr} {fdCommon : FuncData} (F : Fun K "common" "common" sCommon fCommon fdCommon) (T : Txt mg) {CPartError CNought CUnknown : Addr} (EX : Exns K mg CPartError CNought CUnknown) :
    FnOk P w K mg base CX0 1 fCommon fdCommon ["a", "b"] (spCommon K) := by
  refine F.ok scCommon (fun vs H Q E h => ?_) (fun cdv A outer s H vs Q E hr h => ?_)
  · obtain ⟨a, b, rfl, q⟩ := h
    rfl
  · obtain ⟨a, b, rfl, q⟩ := h
    refine ⟨_, (pss_one (ps_ret (pe_callBfun cr_gcd (by rfl) T.gcd (pa_cons (pv 0) (pa_cons (pv 1) pa_nil))))), ?_⟩
    exact ⟨_, rfl, _, rfl, a, b, rfl, q⟩
def spFraction (K : PySem.W.Frag) (CNought : Addr) : Sp := fun vs H Q E => ∃ n d : Int, vs = [.int n, .int d] ∧ d.natAbs < 2 ^ 1000 ∧ (d = 0 → E (.ref CNought) none H) ∧
  (d ≠ 0 → ∀ (H' : Hp) (t : Addr), Same H H' → H' t = some (.tup (zs [n.fdiv (sg n d), d.fdiv (sg n d)])) → Q (.ref t) H')
theorem okFraction {fFraction : Addr} {fdFraction : FuncData} (F : FunD K "fraction" "fraction" (defArgs sFraction) (defBody sFraction) (defScope sFraction) [.int 1] [] fFraction fdFraction) (T : Txt mg) {CPartError CNought CUnknown : Addr} (EX : Exns K mg CPartError CNought CUnknown) :
    FnOk P w K mg base (L2.CX P w) 1 fFraction fdFraction ["number", "divisor"] (spFraction K CNought) := by
  refine F.ok scFraction (fun vs H Q E h => ?_) (fun cdv A outer s H vs Q E hr h => ?_)
  · obtain ⟨n, d, rfl, hb, he, q⟩ := h
    rfl
  · obtain ⟨n, d, rfl, hb, he, q⟩ := h
    refine ⟨_, (pss_cons (ps_if (pt_cmpR op_eq (pv 1) pe_int (nomark _))
        (pss_one (ps_ret (pe_tup (pa_cons (pv 0) (pa_cons pe_int pa_nil)))))
        pss_nil)
      (pss_cons (ps_if (pt_cmpR op_eq (pv 1) pe_int (nomark _))
        (pss_one (ps_raise rfl (takes_of rfl rfl rfl rfl) (pmk_own PySem.F.excBase_ValueError EX.xNought EX.gNought EX.kNought (raises_own EX.bNought EX.tNought) rfl)))
        pss_nil)
      (pss_cons (ps_set (i := 2) scFraction.nd rfl (Or.inl rfl) (pe_callBfun cr_gcd (by rfl) T.gcd (pa_cons (pv 0) (pa_cons (pv 1) pa_nil))))
      (C8.pss_cut (ps_if (pt_cmpR op_lt (pv 1) pe_int (nomark _))
        (pss_one (ps_set (i := 2) scFraction.nd rfl (Or.inl rfl) (pe_un un_neg (pv 2))))
        pss_nil)
      (pss_one (ps_ret (pe_tup (pa_cons (pe_op op_fdivX (pv 0) (pv 2)) (pa_cons (pe_op op_fdivX (pv 1) (pv 2)) pa_nil))))))))), ?_⟩
    walk_at "rd"
    refine ite2 (fun g1 => ?_) (fun g1 => ?_)
    · obtain rfl : d = 1 := eq_of_dec g1
      refine ⟨_, rfl, by show 2 ≤ sizeLine; decide, fun t ht => ?_⟩
      exact q (by decide) _ t (same_upd ht) (by rw [rd_one]; exact upd_same)
    walk_at "rd"
    refine ite2 (fun g => ?_) (fun g => ?_)
    · exact he (eq_of_dec g)
    · have hd := ne_of_nodec g
      refine ⟨_, rfl, _, rfl, n, d, rfl, ?_⟩
      refine ⟨fun σ' H' => σ' = [some (.int n), some (.int d), some (.int (sg n d))] ∧ H' = H, ?_, ?_⟩
      · walk_at "rd"
        refine ite2 (fun g2 => ?_) (fun g2 => ?_)
        · refine ⟨_, rfl, _, rfl, ?_, rfl⟩
          unfold sg
          rw [if_pos (of_decide_eq_true g2)]
          rfl
        · refine ⟨?_, rfl⟩
          unfold sg
          rw [if_neg (fun z => g2 (decide_eq_true z))]
          rfl
      · rintro σ' H' ⟨rfl, rfl⟩
        have hs := sg_ne (n := n) hd
        have hsb : (sg n d).natAbs < 2 ^ 1000 := by
          rw [sg_abs]
          exact Nat.lt_of_le_of_lt (Nat.le_of_dvd (by omega) (Nat.gcd_dvd_right _ _)) hb
        refine ⟨_, rfl, _, rfl, _, _, rfl, rfl, wide_divx hs hsb (by decide) (by decide), _, rfl, _, rfl, _, _, rfl, rfl, wide_divx hs hsb (by decide) (by decide), by show 2 ≤ sizeLine; decide, fun t ht => ?_⟩
        exact q hd _ t (same_upd ht) upd_same
def spLLawNumber (K : PySem.W.Frag) : Sp := fun vs H Q _ => ∃ (a : Addr) (ns : List Int) (k : Nat), vs = [.ref a, .int k] ∧ SqL K H a (zs ns) ∧ ∀ c : Int, Q (.int c) H
theorem okLLawNumber {fLLawNumber : Addr} {fdLLawNumber : FuncData} (F : Fun K "_law_number" "_law_number" sLLawNumber fLLawNumber fdLLawNumber) (T : Txt mg) {CPartError CNought CUnknown : Addr} (EX : Exns K mg CPartError CNought CUnknown) :
    FnOk P w K mg base CX0 1 fLLawNumber fdLLawNumber ["script", "k"] (spLLawNumber K) := by
  refine F.ok scLLawNumber (fun vs H Q E h => ?_) (fun cdv A outer s H vs Q E hr h => ?_)
  · obtain ⟨a, ns, k, rfl, hS, q⟩ := h
    rfl
  · obtain ⟨a, ns, k, rfl, hS, q⟩ := h
    refine ⟨_, (C8.pss_cut (ps_set (i := 2) scLLawNumber.nd rfl (Or.inl rfl) (pe_ifExp (pt_cmpR op_lt (pv 1) (pe_callB call_len_seq (by rfl) T.len PySem.boot_len (pa_cons (pv 0) pa_nil)) (nomark _)) (pe_ix ix_list (pv 0) (pv 1) (fun _ _ => rfl)) (pe_op op_add (pe_op op_mul pe_int (pv 1)) pe_int)))
      (C8.pss_cut (ps_if (pt_cmpR op_lt (pv 2) pe_int (nomark _))
        (pss_one (ps_set (i := 2) scLLawNumber.nd rfl (Or.inl rfl) (pe_op op_sub (pe_op op_mul (pe_un un_neg pe_int) (pv 2)) pe_int)))
        pss_nil)
      (pss_cons (ps_if (pt_cmpR op_lt (pv 2) (pe_op op_pow pe_int pe_int) (nomark _))
        (pss_cons (ps_set (i := 3) scLLawNumber.nd rfl (Or.inl rfl) (pe_op op_mod (pe_callTy call_int1 (by rfl) T.int (by decide +kernel) (pa_cons (pe_op op_add (pe_op op_add (pe_op op_mul (pv 2) pe_int) (pe_op op_mul (pv 1) pe_int)) pe_int) pa_nil)) pe_int))
        (pss_cons (ps_set (i := 4) scLLawNumber.nd rfl (Or.inl rfl) (pe_op op_mod (pe_callTy call_int1 (by rfl) T.int (by decide +kernel) (pa_cons (pe_op op_add (pe_op op_add (pe_op op_mul (pv 3) pe_int) (pe_op op_mul (pv 2) pe_int)) (pv 1)) pa_nil)) pe_int))
        (pss_one (ps_ret (pe_op op_add (pe_op op_mul (pv 3) pe_int) (pv 4))))))
        pss_nil)
      (pss_one (ps_ret (pv 2)))))), ?_⟩
    refine ⟨fun σ' H' => ∃ c : Int, σ' = [some (.ref a), some (.int k), some (.int c), none, none] ∧ H' = H, ?_, ?_⟩
    · refine ⟨_, rfl, .ref a, rfl, a, _, rfl, .inl hS, _, _, rfl, rfl, _, rfl, ite2 (fun hlt => ?_) (fun _ => ?_)⟩
      · have h1 := of_decide_eq_true hlt
        rw [show zs ns = ns.map V.int from rfl, List.length_map] at h1
        have h2 : k < ns.length := by omega
        have h3 : (zs ns)[k]? = some (.int ns[k]) := by
          rw [show zs ns = ns.map V.int from rfl, List.getElem?_map, List.getElem?_eq_getElem h2]
          rfl
        exact ⟨.ref a, rfl, _, rfl, a, _, _, _, rfl, rfl, hS, atI_nat h3, _, rfl, rfl⟩
      · walk_at "rd"
        exact rfl
    · rintro σ' H' ⟨c, rfl, rfl⟩
      refine ⟨fun σ' H2 => ∃ c : Int, σ' = [some (.ref a), some (.int k), some (.int c), none, none] ∧ H2 = H', ?_, ?_⟩
      · walk_at "rd"
        refine ite2 (fun _ => ?_) (fun _ => ⟨_, rfl, rfl⟩)
        walk_at "rd"
        exact rfl
      · rintro σ' H2 ⟨c, rfl, rfl⟩
        walk_at "rd"
        refine ite2 (fun _ => ?_) (fun _ => ⟨_, rfl, q _⟩)
        walk_at "rd"
        exact q _
def spLLawIsWhole (K : PySem.W.Frag) : Sp := fun vs H Q _ => ∃ n : Int, vs = [.int n] ∧ Q (.bl true) H
theorem okLLawIsWhole {fLLawIsWhole : Addr} {fdLLawIsWhole : FuncData} (F : Fun K "_law_is_whole" "_law_is_whole" sLLawIsWhole fLLawIsWhole fdLLawIsWhole) (T : Txt mg) {CPartError CNought CUnknown : Addr} (EX : Exns K mg CPartError CNought CUnknown) :
    FnOk P w K mg base CX0 1 fLLawIsWhole fdLLawIsWhole ["actual"] (spLLawIsWhole K) := by
  refine F.ok scLLawIsWhole (fun vs H Q E h => ?_) (fun cdv A outer s H vs Q E hr h => ?_)
  · obtain ⟨n, rfl, q⟩ := h
    rfl
  · obtain ⟨n, rfl, q⟩ := h
    refine ⟨_, (pss_one (ps_ret (pe_and (pe_callB call_isi (by rfl) T.isinstance (by decide +kernel) (pa_cons (pv 0) (pa_cons (pe_bltn (v := .ty "int") (by rfl) T.int (by decide +kernel) rfl) pa_nil))) (pe_one (pe_not (pe_callB call_isi (by rfl) T.isinstance (by decide +kernel) (pa_cons (pv 0) (pa_cons (pe_bltn (v := .ty "bool") (by rfl) T.bool (by decide +kernel) rfl) pa_nil)))))))), ?_⟩
    refine ⟨.int n, rfl, .int n, .ty "int", .type "int", .type "int", true, rfl, (.ty _), .base (.int n), kit_ty (by decide +kernel), true, rfl, iteT ?_⟩
    exact ⟨.int n, rfl, .int n, .ty "bool", .type "int", .type "bool", false, rfl, (.ty _), .base (.int n), kit_ty (by decide +kernel), false, rfl, q⟩
def spLLawDivisor (K : PySem.W.Frag) : Sp := fun vs H Q _ => ∃ a b : Nat, vs = [.int a, .int b] ∧ a < 2 ^ 100 ∧ b < 2 ^ 100 ∧ Q (.int ((Nat.gcd a b : Nat) : Int)) H
theorem okLLawDivisor {fLLawDivisor : Addr} {fdLLawDivisor : FuncData} (F : Fun K "_law_divisor" "_law_divisor" sLLawDivisor fLLawDivisor fdLLawDivisor) (T : Txt mg) {CPartError CNought CUnknown : Addr} (EX : Exns K mg CPartError CNought CUnknown) :
    FnOk P w K mg base CX0 1 fLLawDivisor fdLLawDivisor ["a", "b"] (spLLawDivisor K) := by
  refine F.ok scLLawDivisor (fun vs H Q E h => ?_) (fun cdv A outer s H vs Q E hr h => ?_)
  · obtain ⟨a, b, rfl, ha, hb, q⟩ := h
    rfl
  · obtain ⟨a, b, rfl, ha, hb, q⟩ := h
    refine ⟨_, (C8.pss_cut (ps_for PassesOwn.never rfl (pi_range1 rfl T.range (pa_cons pe_int pa_nil)) (pg_name (i := 2) scLLawDivisor.nd rfl (Or.inl rfl))
        (pss_cons (ps_if (pt_cmpR op_eq (pv 1) pe_int (nomark _))
          (pss_one ps_break)
          pss_nil)
        (pss_cons (ps_set (i := 3) scLLawDivisor.nd rfl (Or.inl rfl) (pe_op op_modN (pe_callTy call_int1 (by rfl) T.int (by decide +kernel) (pa_cons (pv 0) pa_nil)) (pv 1)))
        (pss_cons (ps_set (i := 0) scLLawDivisor.nd rfl (Or.inl rfl) (pv 1))
        (pss_one (ps_set (i := 1) scLLawDivisor.nd rfl (Or.inl rfl) (pv 3)))))))
      (pss_one (ps_ret (pv 0)))), ?_⟩
    refine ⟨fun σ' H' => ∃ v1 v2 v3 : Option V, σ' = [some (.int ((Nat.gcd a b : Nat) : Int)), v1, v2, v3] ∧ H' = H, ?_, ?_⟩
    · refine ⟨400, rfl, by decide, by decide, for_range (n := 400) (fun i σ' H' => ∃ (c d : Nat) (v2 v3 : Option V), σ' = [some (.int c), some (.int d), v2, v3] ∧ H' = H ∧ Eu a b i c d) ⟨a, b, none, none, rfl, rfl, Eu.start _ _⟩ ?_ ?_⟩
      · rintro i σ' H' hi ⟨c, d, v2, v3, rfl, rfl, eu⟩
        walk_at "rd"
        refine ite2 (fun g => ?_) (fun g => ?_)
        · have hd0 : d = 0 := by
            have := eq_of_dec g
            omega
          subst hd0
          refine ⟨some (.int ((0 : Nat) : Int)), some (.int (0 + (i : Int))), v3, ?_, rfl⟩
          rw [← eu.end]
          rfl
        · have hd0 : d ≠ 0 := fun e => g (decide_eq_true (by rw [e]; rfl))
          walk_at "rd"
          refine ⟨by omega, ?_⟩
          walk_at "rd"
          refine ⟨d, c % d, some (.int (0 + (i : Int))), some (.int ((c % d : Nat) : Int)), ?_, rfl, eu.turn (by omega)⟩
          rw [← fmod_nat c d]
          rfl
      · rintro σ' H' ⟨c, d, v2, v3, rfl, rfl, eu⟩
        have hd0 : d = 0 := eu.stop (by decide) (eu_far (by decide) ha hb)
        subst hd0
        refine ⟨some (.int ((0 : Nat) : Int)), v2, v3, ?_, rfl⟩
        rw [← eu.end]
    · rintro σ' H' ⟨v1, v2, v3, rfl, rfl⟩
      exact ⟨_, rfl, q⟩
def spLLawRefused (K : PySem.W.Frag) : Sp := fun vs H Q _ => ∃ n : Int, vs = [.int n] ∧ ∀ H', Same H H' → Q (.bl true) H'
theorem okLLawRefused {fLLawRefused : Addr} {fdLLawRefused : FuncData} (F : Fun K "_law_refused" "_law_refused" sLLawRefused fLLawRefused fdLLawRefused) (T : Txt mg) {CPartError CNought CUnknown : Addr} (EX : Exns K mg CPartError CNought CUnknown)
    {fFraction : Addr} {fdFraction : FuncData} (GFraction : FnOk P w K mg base (L2.CX P w) 1 fFraction fdFraction ["number", "divisor"] (spFraction K CNought)) (gFraction : mg "fraction" = some (.ref fFraction)) (kpFraction : PySem.W.keepIn K (.ref fFraction) = true) (bFraction : Binds K fdFraction ["number", "divisor"] []) {dsFraction : List Value} (vdFraction : Vals [.int 1] dsFraction) (bdFraction : Binds K fdFraction ["number", "divisor"] dsFraction) :
    FnOk P w K mg base CX0 2 fLLawRefused fdLLawRefused ["number"] (spLLawRefused K) := by
  refine F.ok scLLawRefused (fun vs H Q E h => ?_) (fun cdv A outer s H vs Q E hr h => ?_)
  · obtain ⟨n, rfl, q⟩ := h
    rfl
  · obtain ⟨n, rfl, q⟩ := h
    refine ⟨_, (pss_cons (ps_try_as (i := 1) rfl rfl scLLawRefused.nd rfl rfl ⟨rfl, by decide, .inl EX.gPartError⟩ takes0 (fun W pn xe tk _ => (pss_one (ps_expr (pe_callS GFraction hr (by rfl) gFraction kpFraction bFraction (fun σ => passAt tk σ) (pa_cons (pv 0) (pa_cons pe_int pa_nil))))))
        (fun a oe cls d pn hz hf => suite_of (C := CNought) hz fun hz1 => (pss_one (ps_ret (pe_and (pe_callB (call_isE EX.iNought hz1 hf) (by rfl) T.isinstance (by decide +kernel) (pa_cons (pv 1) (pa_cons (pe_glob (v := .ref CNought) (by rfl) EX.gNought rfl) pa_nil))) (pe_and (pe_callB (call_isE EX.iNought hz1 hf) (by rfl) T.isinstance (by decide +kernel) (pa_cons (pv 1) (pa_cons (pe_bltn (v := .ty "ValueError") (by rfl) T.ValueError (by decide +kernel) rfl) pa_nil))) (pe_one (pe_not (pe_callB (call_isE EX.iNought hz1 hf) (by rfl) T.isinstance (by decide +kernel) (pa_cons (pv 1) (pa_cons (pe_glob (v := .ref CUnknown) (by rfl) EX.gUnknown rfl) pa_nil)))))))))))
      (pss_one (ps_ret pe_bl))), ?_⟩
    refine ⟨_, rfl, n, 0, rfl, by show 0 < 2 ^ 1000; exact Nat.two_pow_pos _, fun _ => ?_, fun h => absurd rfl h⟩
    refine ⟨true, EX.eNought, fun _ a ha => ⟨⟨rfl, rfl⟩, ?_⟩, fun z => nomatch z⟩
    refine ⟨_, rfl, _, _, true, rfl, fun u r => r, EX.nNought, true, rfl, iteT ?_⟩
    refine ⟨_, rfl, _, _, true, rfl, fun u r => r, EX.nValueError, true, rfl, iteT ?_⟩
    exact ⟨_, rfl, _, _, false, rfl, fun u r => r, EX.nUnknown, false, rfl, q _ (Same.refl _)⟩
def pd2 (x y : Int) : PyData := .tuple [.int x, .int y]
theorem dp2 {K : PySem.W.Frag} {H : Hp} {u : Addr} {x y : Int} (h : SqT K H u (zs [x, y])) : Dp K H (.ref u) (pd2 x y) :=
  .tup h (.cons (.int x) (.cons (.int y) .nil))
theorem eqv2 (x y : Int) : PyData.eqv (pd2 x y) (pd2 x y) = true := by
  unfold pd2
  simp [PyData.eqv, PyData.eqvAll]
theorem ten_pow {m : Nat} (h : m ≤ 20) : (10 : Int) ^ m ≤ 10 ^ 20 ∧ (0 : Int) < 10 ^ m := by
  have : ∀ m : _root_.Fin 21, (10 : Int) ^ m.val ≤ 10 ^ 20 ∧ (0 : Int) < 10 ^ m.val := by decide +kernel
  exact this ⟨m, by omega⟩
theorem args2 {x y : Int} (hx : 0 ≤ x) (hy : 0 ≤ y) : [V.int x, V.int y] ++ [] = [V.int ((x.natAbs : Nat) : Int), V.int ((y.natAbs : Nat) : Int)] := by
  have e1 : ((x.natAbs : Nat) : Int) = x := by omega
  have e2 : ((y.natAbs : Nat) : Int) = y := by omega
  rw [e1, e2]
  rfl
theorem mod_abs (x : Int) {b : Int} (h : 0 < b) : (x % b).natAbs ≤ b.natAbs := by
  have h1 := Int.emod_nonneg x (show b ≠ 0 by omega)
  have h2 := Int.emod_lt_of_pos x h
  omega
theorem mul_lt_abs {a b : Int} {A B : Nat} (ha : a.natAbs ≤ A) (hb : b.natAbs ≤ B) : (a * b).natAbs ≤ A * B := by
  rw [Int.natAbs_mul]
  exact Nat.mul_le_mul ha hb
def spLaw (K : PySem.W.Frag) : Sp := fun vs H Q _ => ∃ (a : Addr) (ns : List Int), vs = [.ref a] ∧ SqL K H a (ns.map V.int) ∧ ns.length ≤ 63 ∧ ∀ H', Q (.bl true) H'
theorem okLaw {fLaw : Addr} {fdLaw : FuncData} (F : Fun K "law" "law" sLaw fLaw fdLaw) (T : Txt mg) {CPartError CNought CUnknown : Addr} (EX : Exns K mg CPartError CNought CUnknown)
    {fLLawNumber : Addr} {fdLLawNumber : FuncData} (GLLawNumber : FnOk P w K mg base CX0 1 fLLawNumber fdLLawNumber ["script", "k"] (spLLawNumber K)) (gLLawNumber : mg "_law_number" = some (.ref fLLawNumber)) (kpLLawNumber : PySem.W.keepIn K (.ref fLLawNumber) = true) (bLLawNumber : Binds K fdLLawNumber ["script", "k"] [])
    {fFraction : Addr} {fdFraction : FuncData} (GFraction : FnOk P w K mg base (L2.CX P w) 1 fFraction fdFraction ["number", "divisor"] (spFraction K CNought)) (gFraction : mg "fraction" = some (.ref fFraction)) (kpFraction : PySem.W.keepIn K (.ref fFraction) = true) (bFraction : Binds K fdFraction ["number", "divisor"] []) {dsFraction : List Value} (vdFraction : Vals [.int 1] dsFraction) (bdFraction : Binds K fdFraction ["number", "divisor"] dsFraction)
    {fLLawDivisor : Addr} {fdLLawDivisor : FuncData} (GLLawDivisor : FnOk P w K mg base CX0 1 fLLawDivisor fdLLawDivisor ["a", "b"] (spLLawDivisor K)) (gLLawDivisor : mg "_law_divisor" = some (.ref fLLawDivisor)) (kpLLawDivisor : PySem.W.keepIn K (.ref fLLawDivisor) = true) (bLLawDivisor : Binds K fdLLawDivisor ["a", "b"] [])
    {fCommon : Addr} {fdCommon : FuncData} (GCommon : FnOk P w K mg base CX0 1 fCommon fdCommon ["a", "b"] (spCommon K)) (gCommon : mg "common" = some (.ref fCommon)) (kpCommon : PySem.W.keepIn K (.ref fCommon) = true) (bCommon : Binds K fdCommon ["a", "b"] [])
    {fLLawRefused : Addr} {fdLLawRefused : FuncData} (GLLawRefused : FnOk P w K mg base CX0 2 fLLawRefused fdLLawRefused ["number"] (spLLawRefused K)) (gLLawRefused : mg "_law_refused" = some (.ref fLLawRefused)) (kpLLawRefused : PySem.W.keepIn K (.ref fLLawRefused) = true) (bLLawRefused : Binds K fdLLawRefused ["number"] [])
    {fLLawIsWhole : Addr} {fdLLawIsWhole : FuncData} (GLLawIsWhole : FnOk P w K mg base CX0 1 fLLawIsWhole fdLLawIsWhole ["actual"] (spLLawIsWhole K)) (gLLawIsWhole : mg "_law_is_whole" = some (.ref fLLawIsWhole)) (kpLLawIsWhole : PySem.W.keepIn K (.ref fLLawIsWhole) = true) (bLLawIsWhole : Binds K fdLLawIsWhole ["actual"] []) :
    FnOk P w K mg base CX0 3 fLaw fdLaw ["script"] (spLaw K) := by
  refine F.ok scLaw (fun vs H Q E h => ?_) (fun cdv A outer s H vs Q E hr h => ?_)
  · obtain ⟨a, ns, rfl, hS0, hlen, q⟩ := h
    rfl
  · obtain ⟨a, ns, rfl, hS0, hlen, q⟩ := h
    refine ⟨_, (C8.pss_cut (ps_for PassesOwn.never rfl (pi_range1 rfl T.range (pa_cons pe_int pa_nil)) (pg_name (i := 1) scLaw.nd rfl (Or.inl rfl))
        (pss_cons (ps_set (i := 2) scLaw.nd rfl (Or.inl rfl) (pe_call GLLawNumber (hr.mono (by decide)) (by rfl) gLLawNumber kpLLawNumber bLLawNumber .nil pass0 (pa_cons (pv 0) (pa_cons (pv 1) pa_nil))))
        (pss_cons (ps_set (i := 3) scLaw.nd rfl (Or.inl rfl) (pe_op op_add pe_int (pe_op op_mod (pe_callTy call_int1 (by rfl) T.int (by decide +kernel) (pa_cons (pv 2) pa_nil)) pe_int)))
        (pss_cons (ps_set (i := 4) scLaw.nd rfl (Or.inl rfl) (pe_op op_mul (pe_op op_mod (pe_callTy call_int1 (by rfl) T.int (by decide +kernel) (pa_cons (pe_op op_fdiv (pv 2) pe_int) pa_nil)) (pe_op op_pow pe_int pe_int)) (pv 3)))
        (pss_cons (ps_set (i := 5) scLaw.nd rfl (Or.inl rfl) (pe_op op_mul (pe_op op_add pe_int (pe_op op_mod (pe_callTy call_int1 (by rfl) T.int (by decide +kernel) (pa_cons (pe_op op_fdiv (pv 2) pe_int) pa_nil)) (pe_callTy call_int_str (by rfl) T.int (by decide +kernel) (pa_cons (pe_op op_add_str pe_str (pe_op op_nou pe_str (pe_callTy call_int1 (by rfl) T.int (by decide +kernel) (pa_cons (pe_op op_add pe_int (pe_op op_mod (pe_callTy call_int1 (by rfl) T.int (by decide +kernel) (pa_cons (pv 2) pa_nil)) pe_int)) pa_nil)))) pa_nil)))) (pv 3)))
        (C8.pss_cut (ps_if (pt_cmpR op_eq (pe_op op_mod (pe_callTy call_int1 (by rfl) T.int (by decide +kernel) (pa_cons (pv 2) pa_nil)) pe_int) pe_int (nomark _))
          (pss_one (ps_set (i := 4) scLaw.nd rfl (Or.inl rfl) (pe_un un_neg (pv 4))))
          pss_nil)
        (C8.pss_cut (ps_if (pt_cmpR op_eq (pe_op op_mod (pe_callTy call_int1 (by rfl) T.int (by decide +kernel) (pa_cons (pv 2) pa_nil)) pe_int) pe_int (nomark _))
          (pss_one (ps_set (i := 5) scLaw.nd rfl (Or.inl rfl) (pe_un un_neg (pv 5))))
          pss_nil)
        (C8.pss_cut (ps_if (PW.pt (pw_and (pt_cmpR op_eq (pe_op op_mod (pv 1) pe_int) pe_int (nomark _)) (pw_and1 (pt_not (pt_val (pe_call GLLawRefused hr (by rfl) gLLawRefused kpLLawRefused bLLawRefused .nil pass0 (pa_cons (pv 4) pa_nil)))))))
          (pss_one (ps_ret pe_bl))
          pss_nil)
        (pss_cons (ps_set (i := 6) scLaw.nd rfl (Or.inl rfl) (pe_call GFraction (hr.mono (by decide)) (by rfl) gFraction kpFraction bFraction .nil passL (pa_cons (pv 4) (pa_cons (pv 5) pa_nil))))
        (pss_cons (ps_if (PW.pt (pw_or (pt_not (pt_val (pe_callB call_isi (by rfl) T.isinstance (by decide +kernel) (pa_cons (pv 6) (pa_cons (pe_bltn (v := .ty "tuple") (by rfl) T.tuple (by decide +kernel) rfl) pa_nil))))) (pw_or1 (pt_cmpR op_ne (pe_callB call_len_seq (by rfl) T.len PySem.boot_len (pa_cons (pv 6) pa_nil)) pe_int (nomark _)))))
          (pss_one (ps_ret pe_bl))
          pss_nil)
        (pss_cons (ps_if (PW.pt (pw_or (pt_not (pt_val (pe_call GLLawIsWhole (hr.mono (by decide)) (by rfl) gLLawIsWhole kpLLawIsWhole bLLawIsWhole .nil pass0 (pa_cons (pe_ix ix_tup (pv 6) pe_int (fun _ _ => rfl)) pa_nil)))) (pw_or (pt_not (pt_val (pe_call GLLawIsWhole (hr.mono (by decide)) (by rfl) gLLawIsWhole kpLLawIsWhole bLLawIsWhole .nil pass0 (pa_cons (pe_ix ix_tup (pv 6) pe_int (fun _ _ => rfl)) pa_nil)))) (pw_or1 (pt_cmpR op_lt (pe_ix ix_tup (pv 6) pe_int (fun _ _ => rfl)) pe_int (nomark _))))))
          (pss_one (ps_ret pe_bl))
          pss_nil)
        (pss_cons (ps_if (pt_cmpR op_ne (pe_op op_mulW (pe_ix ix_tup (pv 6) pe_int (fun _ _ => rfl)) (pv 5)) (pe_op op_mulW (pv 4) (pe_ix ix_tup (pv 6) pe_int (fun _ _ => rfl))) (nomark _))
          (pss_one (ps_ret pe_bl))
          pss_nil)
        (C8.pss_cut (ps_set (i := 7) scLaw.nd rfl (Or.inl rfl) (pe_call GLLawDivisor (hr.mono (by decide)) (by rfl) gLLawDivisor kpLLawDivisor bLLawDivisor .nil pass0 (pa_cons (pe_ifExp (pt_cmpR op_ge (pe_ix ix_tup (pv 6) pe_int (fun _ _ => rfl)) pe_int (nomark _)) (pe_ix ix_tup (pv 6) pe_int (fun _ _ => rfl)) (pe_un un_neg (pe_ix ix_tup (pv 6) pe_int (fun _ _ => rfl)))) (pa_cons (pe_ix ix_tup (pv 6) pe_int (fun _ _ => rfl)) pa_nil))))
        (pss_cons (ps_if (pt_cmpR op_ne (pv 7) pe_int (nomark _))
          (pss_one (ps_ret pe_bl))
          pss_nil)
        (C8.pss_cut (ps_if (PW.pt (pw_and (pt_cmpR op_eq (pe_op op_mod (pv 1) pe_int) pe_int (nomark _)) (pw_and1 (pt_cmpR (op_neD hr.units) (pe_call GFraction (hr.mono (by decide)) (by rfl) gFraction kpFraction bdFraction vdFraction passL (pa_cons (pv 4) pa_nil)) (pe_tup (pa_cons (pv 4) (pa_cons pe_int pa_nil))) (nomark _)))))
          (pss_one (ps_ret pe_bl))
          pss_nil)
        (C8.pss_cut (ps_set (i := 8) scLaw.nd rfl (Or.inl rfl) (pe_ifExp (pt_cmpR op_ge (pv 4) pe_int (nomark _)) (pv 4) (pe_un un_neg (pv 4))))
        (C8.pss_cut (ps_set (i := 9) scLaw.nd rfl (Or.inl rfl) (pe_call GLLawDivisor (hr.mono (by decide)) (by rfl) gLLawDivisor kpLLawDivisor bLLawDivisor .nil pass0 (pa_cons (pv 8) (pa_cons (pe_ifExp (pt_cmpR op_ge (pv 5) pe_int (nomark _)) (pv 5) (pe_un un_neg (pv 5))) pa_nil))))
        (pss_cons (ps_if (PW.pt (pw_or (pt_cmpR op_ne (pe_call GCommon (hr.mono (by decide)) (by rfl) gCommon kpCommon bCommon .nil pass0 (pa_cons (pv 4) (pa_cons (pv 5) pa_nil))) (pv 9) (nomark _)) (pw_or (pt_cmpR op_ne (pe_call GCommon (hr.mono (by decide)) (by rfl) gCommon kpCommon bCommon .nil pass0 (pa_cons (pv 5) (pa_cons (pv 4) pa_nil))) (pv 9) (nomark _)) (pw_or1 (pt_not (pt_val (pe_call GLLawIsWhole (hr.mono (by decide)) (by rfl) gLLawIsWhole kpLLawIsWhole bLLawIsWhole .nil pass0 (pa_cons (pe_call GCommon (hr.mono (by decide)) (by rfl) gCommon kpCommon bCommon .nil pass0 (pa_cons pe_int (pa_cons (pv 4) pa_nil))) pa_nil))))))))
          (pss_one (ps_ret pe_bl))
          pss_nil)
        (pss_one (ps_if (pt_cmpR op_ne (pe_call GCommon (hr.mono (by decide)) (by rfl) gCommon kpCommon bCommon .nil pass0 (pa_cons pe_int (pa_cons (pv 4) pa_nil))) (pv 8) (nomark _))
          (pss_one (ps_ret pe_bl))
          pss_nil))))))))))))))))))))
      (pss_one (ps_ret pe_bl))), ?_⟩
    have hS : SqL K H a (zs ns) := hS0
    refine ⟨fun σ' H' => True, ?_, fun σ' H' _ => q H'⟩
    refine ⟨60, rfl, by decide, by decide, for_range (n := 60) (fun i σ' H' => ∃ v1 v2 v3 v4 v5 v6 v7 v8 v9 : Option V, σ' = [some (.ref a), v1, v2, v3, v4, v5, v6, v7, v8, v9] ∧ Same H H') ⟨none, none, none, none, none, none, none, none, none, rfl, Same.refl _⟩ ?_ (fun _ _ _ => trivial)⟩
    rintro i σ' H' hi ⟨v1, v2, v3, v4, v5, v6, v7, v8, v9, rfl, s1⟩
    have hi0 : (0 : Int) + (i : Int) = (i : Int) := by omega
    have hS1 := s1.seq hS
    refine ⟨_, rfl, _, rfl, a, ns, i, by rw [hi0]; rfl, hS1, fun dr => ?_⟩
    have f0 : 0 ≤ dr % 1000000 := Int.emod_nonneg _ (by decide)
    have f1 : dr % 1000000 < 1000000 := Int.emod_lt_of_pos _ (by decide)
    have t0 : 0 ≤ dr % 20 := Int.emod_nonneg _ (by decide)
    have t1 : dr % 20 < 20 := Int.emod_lt_of_pos _ (by decide)
    obtain ⟨m, hm⟩ : ∃ m : Nat, 1 + dr % 20 = (m : Int) := ⟨(1 + dr % 20).toNat, by omega⟩
    have m1 : 1 ≤ m := by omega
    have m2 : m ≤ 20 := by omega
    obtain ⟨tt1, tt2, tt3⟩ := ten_text m m1 m2
    obtain ⟨p1, p2⟩ := ten_pow m2
    have ub := mod_abs (dr / 1000000) (show (0 : Int) < 10 ^ Int.toNat 24 by decide)
    have eb : ((10 : Int) ^ Int.toNat 24).natAbs = 10 ^ 24 := by decide
    rw [eb] at ub
    walk_at "rd"
    refine ⟨.inr (by constructor <;> omega), ?_⟩
    walk_at "rd"
    refine ⟨m, rfl, congrArg V.int hm, m1, by omega, ?_⟩
    refine ⟨_, _, rfl, rfl, by
      rw [PySem.sizeLine_eq]
      have : (Str.ofString "1").length = 1 := by decide +kernel
      omega, ?_⟩
    refine ⟨_, _, rfl, tt1, tt2, ?_⟩
    refine ⟨_, _, rfl, rfl, p2, ?_⟩
    walk_at "rd"
    refine ⟨.inr (by constructor <;> omega), ?_⟩
    have vb := mod_abs (dr / 7) p2
    have vn : 0 ≤ dr / 7 % 10 ^ m := Int.emod_nonneg _ (by omega)
    have pb : ((10 : Int) ^ m).natAbs ≤ 10 ^ 20 := by omega
    generalize hu : dr / 1000000 % 10 ^ Int.toNat 24 = u at ub
    generalize hv : dr / 7 % (10 : Int) ^ m = v at vb vn
    have N1 : (u * (1 + dr % 1000000)).natAbs ≤ 10 ^ 24 * 10 ^ 6 := mul_lt_abs ub (by omega)
    have D1 : ((1 + v) * (1 + dr % 1000000)).natAbs ≤ 10 ^ 20 * 10 ^ 6 := mul_lt_abs (by omega) (by omega)
    have D0 : (1 + v) * (1 + dr % 1000000) ≠ 0 := Int.mul_ne_zero (by omega) (by omega)
    refine ⟨fun σ' H2 => ∃ N : Int, σ' = [some (.ref a), some (.int (0 + (i : Int))), some (.int dr), some (.int (1 + dr % 1000000)), some (.int N), some (.int ((1 + v) * (1 + dr % 1000000))), v6, v7, v8, v9] ∧ H2 = H' ∧ N.natAbs ≤ 10 ^ 24 * 10 ^ 6, ?_, ?_⟩
    · walk_at "rd"
      refine ite2 (fun _ => ?_) (fun _ => ⟨_, rfl, rfl, N1⟩)
      exact ⟨_, rfl, _, rfl, -(u * (1 + dr % 1000000)), rfl, rfl, by omega⟩
    rintro σ' H2 ⟨N, rfl, rfl, N2⟩
    refine ⟨fun σ' H3 => ∃ D : Int, σ' = [some (.ref a), some (.int (0 + (i : Int))), some (.int dr), some (.int (1 + dr % 1000000)), some (.int N), some (.int D), v6, v7, v8, v9] ∧ H3 = H2 ∧ D.natAbs ≤ 10 ^ 20 * 10 ^ 6 ∧ D ≠ 0, ?_, ?_⟩
    · walk_at "rd"
      refine ite2 (fun _ => ?_) (fun _ => ⟨_, rfl, rfl, D1, D0⟩)
      exact ⟨_, rfl, _, rfl, -((1 + v) * (1 + dr % 1000000)), rfl, rfl, by omega, by omega⟩
    rintro σ' H2 ⟨D, rfl, rfl, D2, D3⟩
    have bN : N.natAbs < 2 ^ 100 := by
      have : (10 : Nat) ^ 24 * 10 ^ 6 < 2 ^ 100 := by decide
      omega
    have bD : D.natAbs < 2 ^ 100 := by
      have : (10 : Nat) ^ 20 * 10 ^ 6 < 2 ^ 100 := by decide
      omega
    have big : (2 : Nat) ^ 100 ≤ 2 ^ 1000 := Nat.pow_le_pow_right (by decide) (by decide)
    refine ⟨fun σ' H3 => σ' = [some (.ref a), some (.int (0 + (i : Int))), some (.int dr), some (.int (1 + dr % 1000000)), some (.int N), some (.int D), v6, v7, v8, v9] ∧ Same H H3, ?_, ?_⟩
    · walk_at "rd"
      refine ite2 (fun _ => ?_) (fun _ => iteF ⟨rfl, s1⟩)
      exact ⟨_, rfl, N, rfl, fun H3 s3 => ⟨true, rfl, iteF ⟨rfl, s1.trans s3⟩⟩⟩
    rintro σ' H3 ⟨rfl, s3⟩
    refine ⟨_, rfl, _, rfl, N, D, rfl, by omega, fun h => absurd h D3, fun _ H4 t s4 et => ?_⟩
    have fr := fr_of (n := N) D3
    generalize N.fdiv (sg N D) = p at et fr
    generalize D.fdiv (sg N D) = r at et fr
    have bp : p.natAbs < 2 ^ 100 := Nat.lt_of_le_of_lt (part_le fr.hp (sg_ne D3)) bN
    have br : r.natAbs < 2 ^ 100 := Nat.lt_of_le_of_lt (part_le fr.hq (sg_ne D3)) bD
    have r0 := fr.q0
    have dt : SqT K H4 t (zs [p, r]) := SqT.of et
    have s34 := s3.trans s4
    -- a tuple of two
    refine ⟨.ref t, rfl, .ref t, .ty "tuple", .type "tuple", .type "tuple", true, rfl, .ty _, .base (.tup et), kit_ty (by decide +kernel), true, rfl, ?_⟩
    refine iteF ⟨.ref t, rfl, t, _, rfl, .inr dt, rfl, _, rfl, ?_⟩
    refine ite2 (fun g => absurd rfl (ne_of_bang g)) (fun _ => ?_)
    -- whole numbers, the second above 0
    refine ⟨.ref t, rfl, t, _, 0, _, rfl, rfl, dt, atI_nat (j := 0) rfl, p, rfl, true, rfl, iteF ?_⟩
    refine ⟨.ref t, rfl, t, _, 1, _, rfl, rfl, dt, atI_nat (j := 1) rfl, r, rfl, true, rfl, iteF ?_⟩
    refine ⟨.ref t, rfl, t, _, 1, _, rfl, rfl, dt, atI_nat (j := 1) rfl, _, _, rfl, rfl, _, rfl, ?_⟩
    refine ite2 (fun g => absurd (of_decide_eq_true g) (by omega)) (fun _ => ?_)
    -- the quotient
    refine ⟨.ref t, rfl, t, _, 0, _, rfl, rfl, dt, atI_nat (j := 0) rfl, _, rfl, _, _, rfl, rfl, wide_mul bp bD (by decide) (by decide) (by decide), ?_⟩
    refine ⟨_, rfl, .ref t, rfl, t, _, 1, _, rfl, rfl, dt, atI_nat (j := 1) rfl, _, _, rfl, rfl, wide_mul bN br (by decide) (by decide) (by decide), rfl, _, rfl, ?_⟩
    refine ite2 (fun g => absurd fr.cross (ne_of_bang g)) (fun _ => ?_)
    -- no divisor left
    refine ⟨fun σ' H5 => σ' = [some (.ref a), some (.int (0 + (i : Int))), some (.int dr), some (.int (1 + dr % 1000000)), some (.int N), some (.int D), some (.ref t), some (.int 1), v8, v9] ∧ H5 = H4, ?_, ?_⟩
    · refine ⟨.ref t, rfl, t, _, 0, _, rfl, rfl, dt, atI_nat (j := 0) rfl, _, _, rfl, rfl, _, rfl, ite2 (fun g => ?_) (fun g => ?_)⟩
      · have g0 : 0 ≤ p := of_decide_eq_true g
        refine ⟨.ref t, rfl, t, _, 0, _, rfl, rfl, dt, atI_nat (j := 0) rfl, .ref t, rfl, t, _, 1, _, rfl, rfl, dt, atI_nat (j := 1) rfl, _, _, args2 g0 (Int.le_of_lt r0), bp, br, ?_⟩
        rw [fr.one]
        exact ⟨rfl, rfl⟩
      · have g0 : ¬ 0 ≤ p := fun z => g (decide_eq_true z)
        refine ⟨.ref t, rfl, t, _, 0, _, rfl, rfl, dt, atI_nat (j := 0) rfl, _, rfl, .ref t, rfl, t, _, 1, _, rfl, rfl, dt, atI_nat (j := 1) rfl, _, _, args2 (by omega) (Int.le_of_lt r0), by omega, br, ?_⟩
        rw [Int.natAbs_neg, fr.one]
        exact ⟨rfl, rfl⟩
    rintro σ' H5 ⟨rfl, rfl⟩
    refine ⟨_, rfl, rfl, _, rfl, ite2 (fun g => absurd rfl (ne_of_bang g)) (fun _ => ?_)⟩
    -- a whole number alone
    refine ⟨fun σ' H6 => σ' = [some (.ref a), some (.int (0 + (i : Int))), some (.int dr), some (.int (1 + dr % 1000000)), some (.int N), some (.int D), some (.ref t), some (.int 1), v8, v9] ∧ Same H H6, ?_, ?_⟩
    · walk_at "rd"
      refine ite2 (fun _ => ?_) (fun _ => iteF ⟨rfl, s34⟩)
      refine ⟨_, rfl, N, 1, rfl, by show 1 < 2 ^ 1000; exact Nat.one_lt_two_pow (by decide), fun h => absurd h (by decide), fun _ H6 t6 s6 e6 => ?_⟩
      rw [sg_one, Int.fdiv_one, Int.fdiv_one] at e6
      refine ⟨_, rfl, by show 2 ≤ sizeLine; decide, fun t7 n7 => ?_⟩
      refine ⟨_, _, dp2 (SqT.of (same_upd (o := .tup (zs [N, 1])) n7 _ _ e6)), dp2 (SqT.of upd_same), rfl, rfl, _, rfl, ?_⟩
      rw [eqv2]
      exact iteF ⟨rfl, s34.trans (s6.trans (same_upd n7))⟩
    rintro σ' H6 ⟨rfl, s6⟩
    -- the greatest divisor
    refine ⟨fun σ' H7 => σ' = [some (.ref a), some (.int (0 + (i : Int))), some (.int dr), some (.int (1 + dr % 1000000)), some (.int N), some (.int D), some (.ref t), some (.int 1), some (.int ((N.natAbs : Nat) : Int)), v9] ∧ H7 = H6, ?_, ?_⟩
    · walk_at "rd"
      refine ite2 (fun g => ?_) (fun g => ?_)
      · have g0 : 0 ≤ N := of_decide_eq_true g
        have e0 : ((N.natAbs : Nat) : Int) = N := by omega
        rw [e0]
        exact ⟨_, rfl, rfl, rfl⟩
      · have g0 : ¬ 0 ≤ N := fun z => g (decide_eq_true z)
        have e0 : ((N.natAbs : Nat) : Int) = -N := by omega
        rw [e0]
        exact ⟨_, rfl, _, rfl, rfl, rfl⟩
    rintro σ' H7 ⟨rfl, rfl⟩
    refine ⟨fun σ' H7 => σ' = [some (.ref a), some (.int (0 + (i : Int))), some (.int dr), some (.int (1 + dr % 1000000)), some (.int N), some (.int D), some (.ref t), some (.int 1), some (.int ((N.natAbs : Nat) : Int)), some (.int ((Nat.gcd N.natAbs D.natAbs : Nat) : Int))] ∧ Same H H7, ?_, ?_⟩
    · refine ⟨_, rfl, ?_⟩
      walk_at "rd"
      refine ite2 (fun g => ?_) (fun g => ?_)
      · have g0 : 0 ≤ D := of_decide_eq_true g
        exact ⟨_, rfl, N.natAbs, D.natAbs, args2 (x := (N.natAbs : Int)) (by omega) g0, bN, bD, rfl, s6⟩
      · have g0 : ¬ 0 ≤ D := fun z => g (decide_eq_true z)
        refine ⟨_, rfl, _, rfl, N.natAbs, (-D).natAbs, args2 (x := (N.natAbs : Int)) (by omega) (by omega), bN, by omega, ?_⟩
        rw [Int.natAbs_neg]
        exact ⟨rfl, s6⟩
    rintro σ' H8 ⟨rfl, s8⟩
    refine ⟨_, rfl, _, rfl, N, D, rfl, _, rfl, rfl, _, rfl, ?_⟩
    refine ite2 (fun g => absurd rfl (ne_of_bang g)) (fun _ => ?_)
    refine ⟨_, rfl, _, rfl, D, N, rfl, _, rfl, rfl, _, rfl, ?_⟩
    rw [Nat.gcd_comm D.natAbs]
    refine ite2 (fun g => absurd rfl (ne_of_bang g)) (fun _ => ?_)
    refine ⟨_, rfl, 0, N, rfl, _, rfl, true, rfl, iteF ?_⟩
    refine ⟨_, rfl, 0, N, rfl, _, rfl, rfl, _, rfl, ?_⟩
    rw [show (0 : Int).natAbs = 0 from rfl, Nat.gcd_zero_left]
    refine ite2 (fun g => absurd rfl (ne_of_bang g)) (fun _ => ?_)
    exact ⟨_, _, _, _, _, _, _, _, _, rfl, s8⟩
end
theorem all_mk {l : PySem.W.OpenLaw} {w : World} {K : PySem.W.Frag} {h : Heap} {mg : Str → Option Value} {fa f1 f2 f3 f4 f5 f6 f7 CPartError CNought CUnknown T2 : Addr} (X : K.In h) (G : h.Ns mainGlobals mg) (hfa : mg "law" = some (.ref fa))
    {od1 an1 od2 an2 od3 an3 od4 an4 od5 an5 od6 an6 od7 an7 : Option Addr} {sl1 sl2 sl3 sl4 sl5 sl6 sl7 : Array (Option Value)} {oc1 kV1 dc1 pm1 cd1 ct1 oc2 kV2 dc2 pm2 cd2 ct2 oc3 kV3 dc3 pm3 cd3 ct3 oc4 kV4 dc4 pm4 cd4 ct4 oc5 kV5 dc5 pm5 cd5 ct5 oc6 kV6 dc6 pm6 cd6 ct6 oc7 kV7 dc7 pm7 cd7 ct7 : Value}
    (a1 : PySem.W.nsIn K mainGlobals "common" = some (some (.ref f1))) (l1 : K.lookup f1 = some ⟨oc1, od1, .func (PySem.W.fnOf "common" "common" (defArgs sCommon) (defBody sCommon) (defScope sCommon) .none kV1 dc1 pm1 an1 cd1 ct1), sl1⟩) (c1 : PySem.W.codeIn K cd1 "common" = true) (k1 : PySem.W.keepIn K (.ref f1) = true)
    (a2 : PySem.W.nsIn K mainGlobals "fraction" = some (some (.ref f2))) (l2 : K.lookup f2 = some ⟨oc2, od2, .func (PySem.W.fnOf "fraction" "fraction" (defArgs sFraction) (defBody sFraction) (defScope sFraction) (.ref T2) kV2 dc2 pm2 an2 cd2 ct2), sl2⟩) {ocT2 : Value} {odT2 : Option Addr} {slT2 : Array (Option Value)} {nT2 : Nat} {tT2 : Tok} (lT2 : K.lookup T2 = some ⟨ocT2, odT2, .seq #[.int 1 tT2] nT2, slT2⟩) (c2 : PySem.W.codeIn K cd2 "fraction" = true) (k2 : PySem.W.keepIn K (.ref f2) = true)
    (a3 : PySem.W.nsIn K mainGlobals "_law_number" = some (some (.ref f3))) (l3 : K.lookup f3 = some ⟨oc3, od3, .func (PySem.W.fnOf "_law_number" "_law_number" (defArgs sLLawNumber) (defBody sLLawNumber) (defScope sLLawNumber) .none kV3 dc3 pm3 an3 cd3 ct3), sl3⟩) (c3 : PySem.W.codeIn K cd3 "_law_number" = true) (k3 : PySem.W.keepIn K (.ref f3) = true)
    (a4 : PySem.W.nsIn K mainGlobals "_law_is_whole" = some (some (.ref f4))) (l4 : K.lookup f4 = some ⟨oc4, od4, .func (PySem.W.fnOf "_law_is_whole" "_law_is_whole" (defArgs sLLawIsWhole) (defBody sLLawIsWhole) (defScope sLLawIsWhole) .none kV4 dc4 pm4 an4 cd4 ct4), sl4⟩) (c4 : PySem.W.codeIn K cd4 "_law_is_whole" = true) (k4 : PySem.W.keepIn K (.ref f4) = true)
    (a5 : PySem.W.nsIn K mainGlobals "_law_divisor" = some (some (.ref f5))) (l5 : K.lookup f5 = some ⟨oc5, od5, .func (PySem.W.fnOf "_law_divisor" "_law_divisor" (defArgs sLLawDivisor) (defBody sLLawDivisor) (defScope sLLawDivisor) .none kV5 dc5 pm5 an5 cd5 ct5), sl5⟩) (c5 : PySem.W.codeIn K cd5 "_law_divisor" = true) (k5 : PySem.W.keepIn K (.ref f5) = true)
    (a6 : PySem.W.nsIn K mainGlobals "_law_refused" = some (some (.ref f6))) (l6 : K.lookup f6 = some ⟨oc6, od6, .func (PySem.W.fnOf "_law_refused" "_law_refused" (defArgs sLLawRefused) (defBody sLLawRefused) (defScope sLLawRefused) .none kV6 dc6 pm6 an6 cd6 ct6), sl6⟩) (c6 : PySem.W.codeIn K cd6 "_law_refused" = true) (k6 : PySem.W.keepIn K (.ref f6) = true)
    (a7 : PySem.W.nsIn K mainGlobals "law" = some (some (.ref f7))) (l7 : K.lookup f7 = some ⟨oc7, od7, .func (PySem.W.fnOf "law" "law" (defArgs sLaw) (defBody sLaw) (defScope sLaw) .none kV7 dc7 pm7 an7 cd7 ct7), sl7⟩) (c7 : PySem.W.codeIn K cd7 "law" = true) (k7 : PySem.W.keepIn K (.ref f7) = true)
    (z1 : PySem.W.nsIn K mainGlobals "ValueError" = some none)
    (z2 : PySem.W.nsIn K mainGlobals "bool" = some none)
    (z3 : PySem.W.nsIn K mainGlobals "int" = some none)
    (z4 : PySem.W.nsIn K mainGlobals "isinstance" = some none)
    (z5 : PySem.W.nsIn K mainGlobals "len" = some none)
    (z6 : PySem.W.nsIn K mainGlobals "range" = some none)
    (z7 : PySem.W.nsIn K mainGlobals "tuple" = some none)
    (z8 : PySem.W.nsIn K mainGlobals "gcd" = some (some (.builtin "math.gcd")))
    (y0 : PySem.W.nsIn K mainGlobals "PartError" = some (some (.ref CPartError)))
    (y1 : PySem.W.nsIn K mainGlobals "Nought" = some (some (.ref CNought)))
    (y2 : PySem.W.nsIn K mainGlobals "Unknown" = some (some (.ref CUnknown)))
    (y3 : PySem.W.excIn K CNought [.type "ValueError", .type "Exception", .type "BaseException", .type "object"] "ValueError.__new__" = true)
    (y4 : PySem.W.keepIn K (.ref CNought) = true)
    (y5 : PySem.W.subIn K (.ref CNought) (.type "BaseException") = some true)
    (y6 : PySem.W.typeIn K (.ref CNought) = some (.type "type"))
    (y7 : PySem.W.subIn K (.ref CPartError) (.type "BaseException") = some true)
    (y8 : PySem.W.isClsIn K CPartError = true)
    (y9 : PySem.W.typeIn K (.ref CPartError) = some (.type "type"))
    (y10 : PySem.W.subIn K (.ref CNought) (.ref CPartError) = some true)
    (y11 : PySem.W.subIn K (.ref CNought) (.ref CNought) = some true)
    (y12 : PySem.W.findIn K (.ref CNought) "__getattribute__" = some (some (.builtin "BaseException.__getattribute__")))
    (y13 : PySem.W.findIn K (.ref CNought) "__getattr__" = some none)
    (y14 : PySem.W.hasDictIn K CNought = true)
    (y15 : PySem.W.findIn K (.ref CNought) "__class__" = some (some (.builtin "object.__class__")))
    (y16 : PySem.W.specialIn K (.builtin "object.__class__") "__get__" = some (some (.builtin "getset_descriptor.__get__")))
    (y17 : PySem.W.takesIn K (.builtin "object.__class__") = some true)
    (y18 : PySem.W.mroIn K CNought (.type "object") = some true)
    (y19 : PySem.W.subIn K (.ref CNought) (.type "ValueError") = some true)
    (y20 : PySem.W.isClsIn K CUnknown = true)
    (y21 : PySem.W.typeIn K (.ref CUnknown) = some (.type "type"))
    (y22 : PySem.W.subIn K (.ref CNought) (.ref CUnknown) = some false)
    : ∃ fd : FuncData, (∀ (s : Shared) (v : Value), BindsTo s fd ⟨[v], []⟩ [("script", v)]) ∧ ∀ base : Heap, K.In base → base.Ns mainGlobals mg → FnOk l.prog w K mg base CX0 3 fa fd ["script"] (spLaw K) := by
  have e := hfa.symm.trans (PySem.W.mg_of X G a7)
  cases e
  have T : Txt mg := ⟨PySem.W.mg_none_of X G z1, PySem.W.mg_none_of X G z2, PySem.W.mg_none_of X G z3, PySem.W.mg_none_of X G z4, PySem.W.mg_none_of X G z5, PySem.W.mg_none_of X G z6, PySem.W.mg_none_of X G z7, PySem.W.mg_of X G z8⟩
  have EX : Exns K mg CPartError CNought CUnknown := ⟨PySem.W.mg_of X G y0, PySem.W.mg_of X G y1, PySem.W.mg_of X G y2, y3, y4, y5, y6, y7, y8, y9, y10, y11, y12, y13, y14, y15, y16, y17, y18, y19, y20, y21, y22⟩
  have F1 := fun_mk (st := sCommon) l1 c1 k1
  have F2 : FunD K "fraction" "fraction" (defArgs sFraction) (defBody sFraction) (defScope sFraction) [.int 1] [] f2 _ := ⟨⟨oc2, od2, .ref T2, kV2, dc2, pm2, an2, cd2, ct2, sl2, rfl, l2, c2, .inr ⟨by decide, T2, _, [.int 1 tT2], nT2, rfl, lT2, rfl, .cons ⟨_, rfl⟩ .nil⟩, .inl rfl⟩, k2⟩
  have F3 := fun_mk (st := sLLawNumber) l3 c3 k3
  have F4 := fun_mk (st := sLLawIsWhole) l4 c4 k4
  have F5 := fun_mk (st := sLLawDivisor) l5 c5 k5
  have F6 := fun_mk (st := sLLawRefused) l6 c6 k6
  have F7 := fun_mk (st := sLaw) l7 c7 k7
  have b1 := F1.binds (ps := ["a", "b"]) fun _ _ _ _ _ _ us hl => match us, hl with | [_, _], _ => rfl
  obtain ⟨e2, ve2, b2⟩ := F2.binds1 (ps := ["number", "divisor"]) 2 1 (by decide) rfl (fun T kV doc pm an cdv ct us its hu hi => match us, its, hu, hi with | [_, _], [_], _, _ => ⟨_, rfl, by kernel_rfl⟩)
  cases ve2
  obtain ⟨d2, vd2, bd2⟩ := F2.binds1 (ps := ["number", "divisor"]) 1 0 (by decide) rfl (fun T kV doc pm an cdv ct us its hu hi => match us, its, hu, hi with | [_], [_], _, _ => ⟨_, rfl, by kernel_rfl⟩)
  have b3 := F3.binds (ps := ["script", "k"]) fun _ _ _ _ _ _ us hl => match us, hl with | [_, _], _ => rfl
  have b4 := F4.binds (ps := ["actual"]) fun _ _ _ _ _ _ us hl => match us, hl with | [_], _ => rfl
  have b5 := F5.binds (ps := ["a", "b"]) fun _ _ _ _ _ _ us hl => match us, hl with | [_, _], _ => rfl
  have b6 := F6.binds (ps := ["number"]) fun _ _ _ _ _ _ us hl => match us, hl with | [_], _ => rfl
  refine ⟨PySem.W.fnOf "law" "law" (defArgs sLaw) (defBody sLaw) (defScope sLaw) .none kV7 dc7 pm7 an7 cd7 ct7, fun s v => .of_eq rfl, fun base _ _ => ?_⟩
  have G1 : FnOk l.prog w K mg base CX0 1 f1 _ ["a", "b"] (spCommon K) := okCommon F1 T EX 
  have G2 : FnOk l.prog w K mg base (L2.CX l.prog w) 1 f2 _ ["number", "divisor"] (spFraction K CNought) := okFraction F2 T EX 
  have G3 : FnOk l.prog w K mg base CX0 1 f3 _ ["script", "k"] (spLLawNumber K) := okLLawNumber F3 T EX 
  have G4 : FnOk l.prog w K mg base CX0 1 f4 _ ["actual"] (spLLawIsWhole K) := okLLawIsWhole F4 T EX 
  have G5 : FnOk l.prog w K mg base CX0 1 f5 _ ["a", "b"] (spLLawDivisor K) := okLLawDivisor F5 T EX 
  have G6 : FnOk l.prog w K mg base CX0 2 f6 _ ["number"] (spLLawRefused K) := okLLawRefused F6 T EX G2 (PySem.W.mg_of X G a2) k2 b2 vd2 bd2
  exact okLaw F7 T EX G3 (PySem.W.mg_of X G a3) k3 b3 G2 (PySem.W.mg_of X G a2) k2 b2 vd2 bd2 G5 (PySem.W.mg_of X G a5) k5 b5 G1 (PySem.W.mg_of X G a1) k1 b1 G6 (PySem.W.mg_of X G a6) k6 b6 G4 (PySem.W.mg_of X G a4) k4 b4
end Tp
open PySem PySem.W PyProof.Rows
set_option maxHeartbeats 0 in
theorem PySem.Challenge.cw_truepart_k01_fractions_in_lowest_terms_holds : PySem.Challenge.rw_truepart_k01_fractions_in_lowest_terms.Holds := by
  w_on; o_law; k_head; (case hw => w_witness2)
  k_fill
  refine L2.walk_of (l := PySem.Challenge.rw_truepart_k01_fractions_in_lowest_terms) (n := 63) (k := 3) (x := "script") (CX := fun _ => L2.CX0) (sp := fun w => Tp.spLaw _) rfl (by decide) rfl ⟨rfl, by decide, by decide⟩ (fun w h Y => PySem.W.kIn_of Y) ?F (fun _ _ a ns hl _ hS => ⟨a, ns, rfl, hS, hl, fun _ => rfl⟩) (fun _ _ _ _ _ h => h)
  case F =>
    intro w mg fa h KX G hmg
    refine' Tp.all_mk KX G hmg ?a1 ?l1 ?c1 ?k1 ?a2 ?l2 ?lT2 ?c2 ?k2 ?a3 ?l3 ?c3 ?k3 ?a4 ?l4 ?c4 ?k4 ?a5 ?l5 ?c5 ?k5 ?a6 ?l6 ?c6 ?k6 ?a7 ?l7 ?c7 ?k7 ?z1 ?z2 ?z3 ?z4 ?z5 ?z6 ?z7 ?z8 ?y0 ?y1 ?y2 ?y3 ?y4 ?y5 ?y6 ?y7 ?y8 ?y9 ?y10 ?y11 ?y12 ?y13 ?y14 ?y15 ?y16 ?y17 ?y18 ?y19 ?y20 ?y21 ?y22
    (case a1 => k_is)
    (case l1 => k_is)
    (case c1 => k_is)
    (case k1 => k_is)
    (case a2 => k_is)
    (case l2 => k_is)
    (case lT2 => k_is)
    (case c2 => k_is)
    (case k2 => k_is)
    (case a3 => k_is)
    (case l3 => k_is)
    (case c3 => k_is)
    (case k3 => k_is)
    (case a4 => k_is)
    (case l4 => k_is)
    (case c4 => k_is)
    (case k4 => k_is)
    (case a5 => k_is)
    (case l5 => k_is)
    (case c5 => k_is)
    (case k5 => k_is)
    (case a6 => k_is)
    (case l6 => k_is)
    (case c6 => k_is)
    (case k6 => k_is)
    (case a7 => k_is)
    (case l7 => k_is)
    (case c7 => k_is)
    (case k7 => k_is)
    (case z1 => k_is)
    (case z2 => k_is)
    (case z3 => k_is)
    (case z4 => k_is)
    (case z5 => k_is)
    (case z6 => k_is)
    (case z7 => k_is)
    (case z8 => k_is)
    (case y0 => k_is)
    (case y1 => k_is)
    (case y2 => k_is)
    (case y3 => k_exc)
    (case y4 => k_is)
    (case y5 => k_is)
    (case y6 => k_is)
    (case y7 => k_is)
    (case y8 => k_is)
    (case y9 => k_is)
    (case y10 => k_is)
    (case y11 => first | k_is | rfl)
    (case y12 => k_is)
    (case y13 => k_is)
    (case y14 => k_is)
    (case y15 => k_is)
    (case y16 => k_is)
    (case y17 => k_is)
    (case y18 => k_is)
    (case y19 => k_is)
    (case y20 => k_is)
    (case y21 => k_is)
    (case y22 => k_is)
#print axioms PySem.Challenge.cw_truepart_k01_fractions_in_lowest_terms_holds
