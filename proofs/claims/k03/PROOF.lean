import PyProof.Rows.All
import Wide.All
import OpenK.AllK
import Wide.FinOn
import HandS.ForMost
import HandS.Codes
import HandS.Gcd
import HandS.IsInst
import HandS.Wide
import HandS.ForExc
import HandS.ExcIs
import HandS.ExcInit
import HandS.ExcField
import HandS.CallSlots
import HandS.Defaults
import HandS.Text
import HandS.Walk
import HandS.Rev
import HandS.MapJoin
import PyProof.StrOps2
import PySem.Challenge.RW_truepart_k03_texts_of_fractions
set_option Elab.async false
set_option linter.all false
set_option maxHeartbeats 8000000
set_option maxRecDepth 100000
namespace Tp
open PySem L2
def top (i : Nat) : Stmt := PySem.Challenge.pw_truepart_k03_texts_of_fractions.main.body.getD i (.Pass ⟨0, 0, 0, 0⟩)
abbrev sRowEnd : Stmt := top 3
abbrev sFraction : Stmt := top 11
abbrev sNegative : Stmt := top 12
abbrev sDecimal : Stmt := top 13
abbrev sTold : Stmt := top 14
abbrev sReadDigits : Stmt := top 15
abbrev sReadRatio : Stmt := top 16
abbrev sReadFraction : Stmt := top 17
abbrev sLLawNumber : Stmt := top 19
abbrev sLLawFraction : Stmt := top 21
abbrev sLLawDigits : Stmt := top 22
abbrev sLLawDue : Stmt := top 23
abbrev sLLawRead : Stmt := top 24
abbrev sLaw : Stmt := top 25
theorem scRowEnd : FnScope ["text", "at", "allowed"] ["text", "at", "allowed"] (defScope sRowEnd) := ⟨rfl, rfl, rfl, by decide +kernel, rfl, by decide +kernel, by decide +kernel⟩
theorem scFraction : FnScope ["number", "divisor", "shared"] ["number", "divisor"] (defScope sFraction) := ⟨rfl, rfl, rfl, by decide +kernel, rfl, by decide +kernel, by decide +kernel⟩
theorem scNegative : FnScope ["a"] ["a"] (defScope sNegative) := ⟨rfl, rfl, rfl, by decide +kernel, rfl, by decide +kernel, by decide +kernel⟩
theorem scDecimal : FnScope ["number", "rows", "rest"] ["number"] (defScope sDecimal) := ⟨rfl, rfl, rfl, by decide +kernel, rfl, by decide +kernel, by decide +kernel⟩
theorem scTold : FnScope ["a", "number", "divisor", "text"] ["a"] (defScope sTold) := ⟨rfl, rfl, rfl, by decide +kernel, rfl, by decide +kernel, by decide +kernel⟩
theorem scReadDigits : FnScope ["text", "at", "end"] ["text", "at"] (defScope sReadDigits) := ⟨rfl, rfl, rfl, by decide +kernel, rfl, by decide +kernel, by decide +kernel⟩
theorem scReadRatio : FnScope ["text", "at", "number", "end", "start", "divisor"] ["text", "at"] (defScope sReadRatio) := ⟨rfl, rfl, rfl, by decide +kernel, rfl, by decide +kernel, by decide +kernel⟩
theorem scReadFraction : FnScope ["text", "is_below", "start", "found", "end"] ["text"] (defScope sReadFraction) := ⟨rfl, rfl, rfl, by decide +kernel, rfl, by decide +kernel, by decide +kernel⟩
theorem scLLawNumber : FnScope ["script", "k", "cell", "first", "second"] ["script", "k"] (defScope sLLawNumber) := ⟨rfl, rfl, rfl, by decide +kernel, rfl, by decide +kernel, by decide +kernel⟩
theorem scLLawFraction : FnScope ["number", "divisor", "a", "b", "k", "rest"] ["number", "divisor"] (defScope sLLawFraction) := ⟨rfl, rfl, rfl, by decide +kernel, rfl, by decide +kernel, by decide +kernel⟩
theorem scLLawDigits : FnScope ["text", "start", "many", "k"] ["text", "start"] (defScope sLLawDigits) := ⟨rfl, rfl, rfl, by decide +kernel, rfl, by decide +kernel, by decide +kernel⟩
theorem scLLawDue : FnScope ["text", "start", "many", "rest", "above", "below"] ["text"] (defScope sLLawDue) := ⟨rfl, rfl, rfl, by decide +kernel, rfl, by decide +kernel, by decide +kernel⟩
theorem scLLawRead : FnScope ["text", "wrong"] ["text"] (defScope sLLawRead) := ⟨rfl, rfl, rfl, by decide +kernel, rfl, by decide +kernel, by decide +kernel⟩
theorem scLaw : FnScope ["script", "menu", "k", "draw", "many", "below", "text", "at", "put", "due", "actual", "again", "plain"] ["script"] (defScope sLaw) := ⟨rfl, rfl, rfl, by decide +kernel, rfl, by decide +kernel, by decide +kernel⟩
structure Txt (mg : Str → Option Value) : Prop where
  abs : mg "abs" = none
  divmod : mg "divmod" = none
  int : mg "int" = none
  isinstance : mg "isinstance" = none
  len : mg "len" = none
  range : mg "range" = none
  reversed : mg "reversed" = none
  str : mg "str" = none
  tuple : mg "tuple" = none
  gcd : mg "gcd" = some (.builtin "math.gcd")
structure Cons (K : PySem.W.Frag) (mg : Str → Option Value) (aDIGITS : Tok) (aMOST_DIGITS : Tok) : Prop where
  gDIGITS : mg "DIGITS" = some (.str "0123456789" aDIGITS)
  gMOST_DIGITS : mg "MOST_DIGITS" = some (.int 12 aMOST_DIGITS)
abbrev sIni : Stmt := (C8.clsBody (top 6)).getD 0 (.Pass ⟨0, 0, 0, 0⟩)
theorem scIni : FnScope ["self", "line", "column"] ["self", "line", "column"] (defScope sIni) := ⟨rfl, rfl, rfl, by decide +kernel, rfl, by decide +kernel, by decide +kernel⟩
section
variable {K : PySem.W.Frag} {C D : Addr} {c : Value} {r : Bool}
theorem exm_two (b : PySem.W.subIn K (.ref D) (.type "BaseException") = some true) (i : PySem.W.isClsIn K D = true) (t : PySem.W.typeIn K (.ref D) = some (.type "type")) (s : PySem.W.subIn K c (.ref D) = some r) : PySem.W.exmOne K c (.ref D) = some r := by
  have e1 : (PySem.W.subIn K (.ref D) (.type "BaseException") == some true) = true := by rw [b]; rfl
  have i' : (PySem.W.clsIn K D).isSome = true := i
  have e2 : ((PySem.W.clsIn K D).isSome && PySem.W.typeIn K (.ref D) == some (.type "type")) = true := by rw [i', t]; rfl
  unfold PySem.W.exmOne PySem.W.kitCls
  rw [if_pos e1]
  show (if _ then _ else _) = _
  rw [if_pos e2]
  exact s
theorem kit_self : PySem.W.kitOne K (.ref C) (.ref C) = some true := by
  unfold PySem.W.kitOne
  exact if_pos (beq_iff_eq.mpr rfl)
theorem kit_not (s0 : PySem.W.subIn K (.ref C) (.ref C) = some true) (i : PySem.W.isClsIn K D = true) (t : PySem.W.typeIn K (.ref D) = some (.type "type")) (s : PySem.W.subIn K (.ref C) (.ref D) = some false) : PySem.W.kitOne K (.ref C) (.ref D) = some false := by
  have i' : (PySem.W.clsIn K D).isSome = true := i
  have e2 : ((PySem.W.clsIn K D).isSome && PySem.W.typeIn K (.ref D) == some (.type "type")) = true := by rw [i', t]; rfl
  unfold PySem.W.kitOne PySem.W.kitCls
  rw [if_neg (fun z => ?_)]
  · show (if _ then _ else _) = _
    rw [if_pos e2]
    exact s
  · have e := Value.ref.inj (beq_iff_eq.mp z)
    subst e
    rw [s0] at s
    cases s
theorem kit_kind {T : String} (h : PySem.W.kitMeta T = true) (s : PySem.W.subIn K (.ref C) (.type T) = some r) : PySem.W.kitOne K (.ref C) (.type T) = some r := by
  unfold PySem.W.kitOne PySem.W.kitCls
  rw [if_neg (fun z => by have e := beq_iff_eq.mp z; cases e)]
  show (if _ then _ else _) = _
  rw [if_pos h]
  exact s
end

structure Exns (K : PySem.W.Frag) (mg : Str → Option Value) (CPartError CTextFault CNought CBeyond : Addr) : Prop where
  gPartError : mg "PartError" = some (.ref CPartError)
  gTextFault : mg "TextFault" = some (.ref CTextFault)
  gNought : mg "Nought" = some (.ref CNought)
  gBeyond : mg "Beyond" = some (.ref CBeyond)
structure Flt (K : PySem.W.Frag) (mg : Str → Option Value) (CPartError CTextFault CNought CBeyond fIni : Addr) : Prop where
  g : mg "TextFault" = some (.ref CTextFault)
  cls : ∃ nm q N bs bm sn sub ab col dd k0 k1 k2 k3 k5, K.lookup CTextFault = some (excClassObj nm q CTextFault N bs bm true sn sub ab col dd k0 k1 k2 k3 k5 "ValueError.__new__") ∧ PySem.HandSPX.refsVE bm = true
  sa : PySem.W.findIn K (.ref CTextFault) "__setattr__" = some (some (.builtin "object.__setattr__"))
  ga : PySem.W.findIn K (.ref CTextFault) "__getattribute__" = some (some (.builtin "BaseException.__getattribute__"))
  gg : PySem.W.findIn K (.ref CTextFault) "__getattr__" = some none
  nline : PySem.W.findIn K (.ref CTextFault) "line" = some none
  ncolumn : PySem.W.findIn K (.ref CTextFault) "column" = some none
  iC : PySem.W.findIn K (.ref CTextFault) "__init__" = some (some (.ref fIni))
  tI : PySem.W.typeIn K (.ref fIni) = some (.type "function")
  kC : PySem.W.keepIn K (.ref CTextFault) = true
  exC : PySem.W.subIn K (.ref CTextFault) (.type "BaseException") = some true
  tyC : PySem.W.typeIn K (.ref CTextFault) = some (.type "type")
  hdC : PySem.W.hasDictIn K CTextFault = true
  clC : PySem.W.isClsIn K CTextFault = true
  seC : PySem.W.subIn K (.ref CTextFault) (.ref CTextFault) = some true
  i4 : PySem.W.findIn K (.ref CTextFault) "__class__" = some (some (.builtin "object.__class__"))
  i5 : PySem.W.specialIn K (.builtin "object.__class__") "__get__" = some (some (.builtin "getset_descriptor.__get__"))
  i6 : PySem.W.takesIn K (.builtin "object.__class__") = some true
  i7 : PySem.W.mroIn K CTextFault (.type "object") = some true
  cbPartError : PySem.W.subIn K (.ref CPartError) (.type "BaseException") = some true
  ciPartError : PySem.W.isClsIn K CPartError = true
  ctPartError : PySem.W.typeIn K (.ref CPartError) = some (.type "type")
  csPartError : PySem.W.subIn K (.ref CTextFault) (.ref CPartError) = some true
  kiBeyond : PySem.W.isClsIn K CBeyond = true
  ktBeyond : PySem.W.typeIn K (.ref CBeyond) = some (.type "type")
  ksBeyond : PySem.W.subIn K (.ref CTextFault) (.ref CBeyond) = some false
theorem Flt.ox {K : PySem.W.Frag} {mg : Str → Option Value} {CPartError CTextFault CNought CBeyond fIni : Addr} (h : Flt K mg CPartError CTextFault CNought CBeyond fIni) : OexC K CTextFault := ⟨h.cls, h.sa, h.exC, h.tyC, h.kC⟩
theorem Flt.xf {K : PySem.W.Frag} {mg : Str → Option Value} {CPartError CTextFault CNought CBeyond fIni : Addr} (h : Flt K mg CPartError CTextFault CNought CBeyond fIni) : XfC K CTextFault := ⟨h.ga, h.gg, h.exC, h.hdC⟩
theorem Flt.ec {K : PySem.W.Frag} {mg : Str → Option Value} {CPartError CTextFault CNought CBeyond fIni : Addr} (h : Flt K mg CPartError CTextFault CNought CBeyond fIni) : ExcC K CTextFault := ⟨h.ga, h.gg, h.exC, h.hdC, h.i4, h.i5, h.i6, h.i7⟩
theorem Flt.ePartError {K : PySem.W.Frag} {mg : Str → Option Value} {CPartError CTextFault CNought CBeyond fIni : Addr} (h : Flt K mg CPartError CTextFault CNought CBeyond fIni) : PySem.W.exmOne K (.ref CTextFault) (.ref CPartError) = some true := exm_two h.cbPartError h.ciPartError h.ctPartError h.csPartError
theorem Flt.kTextFault {K : PySem.W.Frag} {mg : Str → Option Value} {CPartError CTextFault CNought CBeyond fIni : Addr} (h : Flt K mg CPartError CTextFault CNought CBeyond fIni) : PySem.W.kitOne K (.ref CTextFault) (.ref CTextFault) = some true := kit_self
theorem Flt.kBeyond {K : PySem.W.Frag} {mg : Str → Option Value} {CPartError CTextFault CNought CBeyond fIni : Addr} (h : Flt K mg CPartError CTextFault CNought CBeyond fIni) : PySem.W.kitOne K (.ref CTextFault) (.ref CBeyond) = some false := kit_not h.seC h.kiBeyond h.ktBeyond h.ksBeyond
local macro_rules | `(tactic| walk_at "rd") => `(tactic| repeat (first | refine ⟨_, rfl, ?_⟩ | refine ⟨rfl, ?_⟩ | refine ⟨_, _, rfl, rfl, ?_⟩ | refine Or.inl ⟨_, rfl, ?_⟩ | refine ⟨(by show (0 : Int) < _; decide), ?_⟩ | refine ⟨⟨by decide, by decide⟩, ?_⟩ | refine ⟨Or.inr ⟨by decide, by decide⟩, ?_⟩ | refine ⟨Or.inl ⟨by decide, by decide⟩, ?_⟩ | refine ⟨⟨by decide, by decide, by decide⟩, ?_⟩))
abbrev zs (l : List Int) : List V := l.map V.int
theorem same_upd {H : Hp} {p : Addr} {o : HO} (h : H p = none) : Same H (upd H p o) := fun b x e => by
  rw [upd_ne (ne_of_none e h)]
  exact e
theorem same_tup {K : PySem.W.Frag} {H H' : Hp} {a : Addr} {xs : List V} (e : Same H H') (h : SqT K H a xs) : SqT K H' a xs := by
  rcases h with (h | ⟨o, h⟩) | h
  · exact .inl (.inl (e _ _ h))
  · exact .inl (.inr ⟨o, e _ _ h⟩)
  · exact .inr h
theorem zs_get {l : List Int} {i : Nat} {v : V} (h : (zs l)[i]? = some v) : ∃ z, v = .int z ∧ l[i]? = some z := by
  rw [show zs l = l.map V.int from rfl, List.getElem?_map] at h
  cases e : l[i]? with
  | none =>
    rw [e] at h
    cases h
  | some z =>
    rw [e] at h
    exact ⟨z, (Option.some.inj h).symm, rfl⟩
theorem zs_snoc {l : List Int} {i : Nat} {z : Int} (f : Int → Int) (h : l[i]? = some z) : zs ((l.map f).take i) ++ [V.int (f z)] = zs ((l.map f).take (i + 1)) := by
  show ((l.map f).take i).map V.int ++ [V.int (f z)] = ((l.map f).take (i + 1)).map V.int
  rw [List.take_add_one, List.getElem?_map, h, List.map_append]
  rfl
theorem zs_len {l : List Int} (n : Nat) (h : l.length ≤ 1000) : (zs (l.take n)).length < sizeLine := by
  show ((l.take n).map V.int).length < sizeLine
  rw [List.length_map, List.length_take]
  exact small1000 (by omega)
theorem ne_of_bang {n m : Int} (h : (!decide (V.int n = V.int m)) = true) : n ≠ m := fun e => by
  rw [e, decide_eq_true rfl] at h
  cases h
theorem eq_of_nobang {n m : Int} (h : ¬ (!decide (V.int n = V.int m)) = true) : n = m := by
  by_cases e : n = m
  · exact e
  · exact absurd (by rw [decide_eq_false (fun z => e (V.int.inj z))]; rfl) h
theorem eq_of_dec {n m : Int} (h : decide (V.int n = V.int m) = true) : n = m := V.int.inj (of_decide_eq_true h)
theorem ne_of_nodec {n m : Int} (h : ¬ decide (V.int n = V.int m) = true) : n ≠ m := fun e => h (decide_eq_true (by rw [e]))

/-! Euclid by turns. -/
/-- one turn of the walk (a, b) -> (b, a % b), of naturals -/
theorem gcd_turn (a b : Nat) : Nat.gcd b (a % b) = Nat.gcd a b := by
  rw [Nat.gcd_comm b, ← Nat.gcd_rec, Nat.gcd_comm]
theorem prod_turn {a b : Nat} (h : b ≤ a) (hb : 0 < b) : 2 * (b * (a % b)) ≤ a * b := by
  have h1 : a % b < b := Nat.mod_lt _ hb
  have h2 : a = b * (a / b) + a % b := (Nat.div_add_mod a b).symm
  have h3 : 1 ≤ a / b := (Nat.one_le_div_iff hb).mpr h
  have h4 : b * 1 ≤ b * (a / b) := Nat.mul_le_mul_left b h3
  have h5 : 2 * (a % b) ≤ a := by omega
  calc 2 * (b * (a % b)) = b * (2 * (a % b)) := by rw [Nat.mul_left_comm]
    _ ≤ b * a := Nat.mul_le_mul_left b h5
    _ = a * b := Nat.mul_comm _ _
/-- what holds behind i turns from (a0, b0) -/
structure Eu (a0 b0 i a b : Nat) : Prop where
  g : Nat.gcd a b = Nat.gcd a0 b0
  p : a * b * 2 ^ i ≤ 2 * (a0 * b0)
  o : i = 0 ∨ b ≤ a
  z : i = 0 → a = a0 ∧ b = b0
theorem Eu.start (a b : Nat) : Eu a b 0 a b := ⟨rfl, by rw [Nat.pow_zero]; omega, .inl rfl, fun _ => ⟨rfl, rfl⟩⟩
theorem Eu.turn {a0 b0 i a b : Nat} (e : Eu a0 b0 i a b) (hb : 0 < b) : Eu a0 b0 (i + 1) b (a % b) := by
  refine ⟨(gcd_turn a b).trans e.g, ?_, .inr (Nat.le_of_lt (Nat.mod_lt _ hb)), fun z => by omega⟩
  rcases e.o with hi | hle
  · obtain ⟨rfl, rfl⟩ := e.z hi
    subst hi
    have h1 : b * (a % b) ≤ b * a := Nat.mul_le_mul_left b (Nat.mod_le a b)
    have h2 : b * a = a * b := Nat.mul_comm _ _
    rw [Nat.zero_add, Nat.pow_one]
    omega
  · have h1 := prod_turn hle hb
    have h2 := e.p
    have h3 : b * (a % b) * 2 ^ (i + 1) = 2 * (b * (a % b)) * 2 ^ i := by
      rw [Nat.pow_succ]
      rw [Nat.mul_comm (2 ^ i) 2, ← Nat.mul_assoc, Nat.mul_comm (b * (a % b)) 2]
    rw [h3]
    exact Nat.le_trans (Nat.mul_le_mul_right _ h1) h2
/-- too many turns: nothing is left -/
theorem Eu.stop {a0 b0 i a b : Nat} (e : Eu a0 b0 i a b) (hi : i ≠ 0) (h : 2 * (a0 * b0) < 2 ^ i) : b = 0 := by
  rcases Nat.eq_zero_or_pos b with h0 | h0
  · exact h0
  · have hle : b ≤ a := by
      rcases e.o with h1 | h1
      · exact absurd h1 hi
      · exact h1
    have h1 : 1 ≤ a * b := Nat.mul_pos (by omega) h0
    have h2 : 1 * 2 ^ i ≤ a * b * 2 ^ i := Nat.mul_le_mul_right _ h1
    have h3 := e.p
    omega
theorem Eu.end {a0 b0 i a : Nat} (e : Eu a0 b0 i a 0) : a = Nat.gcd a0 b0 := by
  rw [← e.g, Nat.gcd_zero_right]
/-- the greatest divisor of a row, as it is reckoned from the left -/
def gl (l : List Int) : Nat := l.foldl (fun g v => Nat.gcd v.natAbs g) 0
theorem gl_snoc (l : List Int) (v : Int) : gl (l ++ [v]) = Nat.gcd v.natAbs (gl l) := by
  unfold gl
  rw [List.foldl_append]
  rfl
theorem gl_lt {l : List Int} {v : Int} (h : gl l < 2 ^ 100) (hv : v.natAbs < 2 ^ 100) : gl (l ++ [v]) < 2 ^ 100 := by
  rw [gl_snoc]
  rcases Nat.eq_zero_or_pos v.natAbs with e | e
  · rw [e, Nat.gcd_zero_left]
    exact h
  · exact Nat.lt_of_le_of_lt (Nat.le_of_dvd e (Nat.gcd_dvd_left _ _)) hv
theorem take_snoc {l : List Int} {i : Nat} {z : Int} (h : l[i]? = some z) : l.take (i + 1) = l.take i ++ [z] := by
  rw [List.take_add_one, h]
  rfl
theorem eu_far {a b n : Nat} (hn : 201 ≤ n) (ha : a < 2 ^ 100) (hb : b < 2 ^ 100) : 2 * (a * b) < 2 ^ n := by
  have h1 : a * b < 2 ^ 100 * 2 ^ 100 := Nat.mul_lt_mul'' ha hb
  rw [← Nat.pow_add] at h1
  have h2 : (2 : Nat) * 2 ^ (100 + 100) = 2 ^ 201 := by decide +kernel
  have h3 : (2 : Nat) ^ 201 ≤ 2 ^ n := Nat.pow_le_pow_right (by decide) hn
  omega
theorem fmod_nat (a b : Nat) : (a : Int).fmod (b : Int) = ((a % b : Nat) : Int) := by
  rw [Int.fmod_eq_emod_of_nonneg _ (Int.natCast_nonneg _)]
  exact (Int.natCast_emod a b).symm

/-- // by any divisor other than 0, below 2 ^ 9000 in size -/
def CDivX (_ j : Int) : Prop := j ≠ 0 ∧ j.natAbs.log2 < 9000
theorem op_fdivX {X : Cx} : OpR X (binaryOp .FloorDiv) (rI CDivX fun i j => .int (i.fdiv j)) :=
  opI fun _ _ _ _ _ _ _ hc q =>
    PyProof.Rows.floordiv_int hc.1 q (.inl (PyProof.noPylong_of_log2 hc.2))
theorem wide_divx {i j : Int} {b : Nat} (h : j ≠ 0) (hb : j.natAbs < 2 ^ b) (h0 : 0 < b) (h9 : b ≤ 9000) : CDivX i j :=
  ⟨h, Nat.lt_of_lt_of_le (PySem.Flt.log2_lt_of h0 hb) h9⟩
/-- n noughts -/
def nou (n : Nat) : Str := ⟨(List.replicate n (Str.ofString "0").cps).foldl (· ++ ·) #[]⟩
theorem nou_len {n : Nat} (h : n ≤ 100) : (nou n).length ≤ sizeLine := by
  have : ∀ n : _root_.Fin 101, (nou n.val).length ≤ 100 := by decide +kernel
  have h1 := this ⟨n, by omega⟩
  rw [PySem.sizeLine_eq]
  exact Nat.le_trans h1 (by decide)
theorem op_nou {X : Cx} : OpR X (binaryOp .Mult) (fun x y H Q => ∃ n : Nat, x = .str "0" ∧ y = .int (n : Int) ∧ 1 ≤ n ∧ n ≤ 100 ∧ Q (.str (nou n)) H) := by
  intro pins s σ H x y v u Q I rx ry h
  obtain ⟨n, rfl, rfl, h1, h2, q⟩ := h
  obtain ⟨t, rfl⟩ := rx
  obtain ⟨t', rfl⟩ := ry
  have e1 : ¬ ((n : Int) < 1) := by omega
  have el : (Str.ofString "0").length = 1 := by decide +kernel
  refine PySem.P.mul_str ?_ ?_ ?_ ?_
  · rw [decide_eq_false (by omega), decide_eq_false (by omega)]
    rfl
  · intro _ _
    rw [el]
    have : (2 ^ 63 - 1 : Int) / n ≥ 1 := by
      have : (1 : Int) * n ≤ 2 ^ 63 - 1 := by omega
      exact (Int.le_ediv_iff_mul_le (by omega)).mpr this
    omega
  · intro _ _
    rw [el]
    unfold PySem.Builtin.Str.tooLong
    rw [PySem.sizeLine_eq]
    exact decide_eq_false (by omega)
  · rw [if_neg e1]
    by_cases hn : n = 1
    · subst hn
      have e2 : nou 1 = Str.ofString "0" := by decide +kernel
      rw [e2] at q
      exact ⟨.str (Str.ofString "0"), H, I, ⟨t, rfl⟩, q⟩
    · have : ((n : Int) == 1 || (Str.ofString "0").length == 0) = false := by
        rw [el]
        simp
        omega
      rw [this, if_neg Bool.false_ne_true]
      exact ⟨nou_len h2, .str (nou n), H, I.tok _, ⟨_, rfl⟩, q⟩
theorem suite_of {X : Cx} {a C : Addr} {oe : Obj} {pn : List (Addr × Obj)} {cls : Value} {d : Option Addr} {sts : List Stmt} {ts : TS} (hz : Zc cls d oe)
    (h : Zc (.ref C) none oe → PSs (X.suite a ((a, oe) :: pn)) sts ts) : PSs (X.suite a ((a, oe) :: pn)) sts (fun D σ H => (cls = .ref C ∧ d = none) ∧ ts D σ H) :=
  ⟨fun pins s σ H D I hq => by
    obtain ⟨⟨rfl, rfl⟩, q⟩ := hq
    exact (h hz).run pins s σ H D I q⟩
theorem ten_text : ∀ n : Nat, 1 ≤ n → n ≤ 20 → PySem.intText? (Str.ofString "1" ++ nou n) = some ((10 : Int) ^ n) ∧ (Str.ofString "1" ++ nou n).length ≤ 640 ∧ (nou n).length ≤ 100 := by
  intro n h1 h2
  have : ∀ n : _root_.Fin 21, 1 ≤ n.val → PySem.intText? (Str.ofString "1" ++ nou n.val) = some ((10 : Int) ^ n.val) ∧ (Str.ofString "1" ++ nou n.val).length ≤ 640 ∧ (nou n.val).length ≤ 100 := by decide +kernel
  exact this ⟨n, by omega⟩ h1

/-- the divisor by which fraction divides both -/
def sg (n d : Int) : Int := if d < 0 then -((Nat.gcd n.natAbs d.natAbs : Nat) : Int) else ((Nat.gcd n.natAbs d.natAbs : Nat) : Int)
theorem sg_abs (n d : Int) : (sg n d).natAbs = Nat.gcd n.natAbs d.natAbs := by
  unfold sg
  split
  · rw [Int.natAbs_neg, Int.natAbs_natCast]
  · rw [Int.natAbs_natCast]
theorem sg_ne {n d : Int} (h : d ≠ 0) : sg n d ≠ 0 := by
  intro e
  have h1 := sg_abs n d
  rw [e] at h1
  have h2 : Nat.gcd n.natAbs d.natAbs = 0 := h1.symm
  have h3 := Nat.gcd_eq_zero_iff.mp h2
  omega
theorem sg_dn (n d : Int) : sg n d ∣ n := by
  have h : ((Nat.gcd n.natAbs d.natAbs : Nat) : Int) ∣ n := Int.dvd_natAbs.mp (Int.natCast_dvd_natCast.mpr (Nat.gcd_dvd_left _ _))
  unfold sg
  split
  · exact Int.neg_dvd.mpr h
  · exact h
theorem sg_dd (n d : Int) : sg n d ∣ d := by
  have h : ((Nat.gcd n.natAbs d.natAbs : Nat) : Int) ∣ d := Int.dvd_natAbs.mp (Int.natCast_dvd_natCast.mpr (Nat.gcd_dvd_right _ _))
  unfold sg
  split
  · exact Int.neg_dvd.mpr h
  · exact h
theorem fdiv_back {d v : Int} (h : d ∣ v) : v.fdiv d * d = v := Int.fdiv_mul_cancel h
theorem part_le {f d v : Int} (e : f * d = v) (hd : d ≠ 0) : f.natAbs ≤ v.natAbs := by
  rw [← e, Int.natAbs_mul]
  exact Nat.le_mul_of_pos_right _ (by omega)
/-- what fraction yields -/
structure Fr (n d p q : Int) : Prop where
  hp : p * sg n d = n
  hq : q * sg n d = d
  q0 : 0 < q
  one : Nat.gcd p.natAbs q.natAbs = 1
theorem fr_of {n d : Int} (h : d ≠ 0) : Fr n d (n.fdiv (sg n d)) (d.fdiv (sg n d)) := by
  have e1 := fdiv_back (sg_dn n d)
  have e2 := fdiv_back (sg_dd n d)
  have hs := sg_ne (n := n) h
  refine ⟨e1, e2, ?_, ?_⟩
  · rcases Int.lt_or_le 0 (d.fdiv (sg n d)) with h1 | h1
    · exact h1
    · exfalso
      have hg : 0 < Nat.gcd n.natAbs d.natAbs := Nat.gcd_pos_of_pos_right _ (by omega)
      rcases Int.lt_or_le d 0 with h2 | h2
      · have h3 : sg n d < 0 := by
          unfold sg
          rw [if_pos h2]
          omega
        have h4 := Int.mul_nonneg_of_nonpos_of_nonpos h1 (Int.le_of_lt h3)
        omega
      · have h3 : 0 < sg n d := by
          unfold sg
          rw [if_neg (by omega)]
          omega
        have h4 := Int.mul_nonpos_of_nonpos_of_nonneg h1 (Int.le_of_lt h3)
        omega
  · have e3 : Nat.gcd n.natAbs d.natAbs = Nat.gcd (n.fdiv (sg n d)).natAbs (d.fdiv (sg n d)).natAbs * (sg n d).natAbs := by
      rw [← Nat.gcd_mul_right, ← Int.natAbs_mul, ← Int.natAbs_mul, e1, e2]
    rw [sg_abs] at e3
    have hg : 0 < Nat.gcd n.natAbs d.natAbs := Nat.gcd_pos_of_pos_right _ (by omega)
    exact (Nat.eq_of_mul_eq_mul_right hg (by rw [Nat.one_mul]; exact e3)).symm
theorem Fr.cross {n d p q : Int} (f : Fr n d p q) : p * d = n * q := by
  have h1 := f.hp
  have h2 := f.hq
  calc p * d = p * (q * sg n d) := by rw [h2]
    _ = (p * sg n d) * q := by rw [Int.mul_comm q, Int.mul_assoc]
    _ = n * q := by rw [h1]
theorem sg_one (n : Int) : sg n 1 = 1 := by
  unfold sg
  rw [if_neg (by decide)]
  show ((Nat.gcd n.natAbs 1 : Nat) : Int) = 1
  rw [Nat.gcd_one_right]
  rfl
theorem rd_one (n : Int) : [n.fdiv (sg n 1), (1 : Int).fdiv (sg n 1)] = [n, 1] := by rw [sg_one, Int.fdiv_one, Int.fdiv_one]

/-- in lowest terms -/
def rd2 (n d : Int) : List Int := [n.fdiv (sg n d), d.fdiv (sg n d)]
theorem low_uniq {p q r s : Int} (h1 : Nat.gcd p.natAbs q.natAbs = 1) (h2 : Nat.gcd r.natAbs s.natAbs = 1) (hq : 0 < q) (hs : 0 < s) (h : p * s = r * q) : p = r ∧ q = s := by
  have hn : p.natAbs * s.natAbs = r.natAbs * q.natAbs := by
    rw [← Int.natAbs_mul, ← Int.natAbs_mul, h]
  have d1 : q.natAbs ∣ s.natAbs := by
    have h3 : q.natAbs ∣ p.natAbs * s.natAbs := ⟨r.natAbs, by rw [hn, Nat.mul_comm]⟩
    exact Nat.Coprime.dvd_of_dvd_mul_left (show Nat.Coprime q.natAbs p.natAbs from (Nat.gcd_comm _ _).trans h1) h3
  have d2 : s.natAbs ∣ q.natAbs := by
    have h3 : s.natAbs ∣ r.natAbs * q.natAbs := ⟨p.natAbs, by rw [← hn, Nat.mul_comm]⟩
    exact Nat.Coprime.dvd_of_dvd_mul_left (show Nat.Coprime s.natAbs r.natAbs from (Nat.gcd_comm _ _).trans h2) h3
  have e : q.natAbs = s.natAbs := Nat.dvd_antisymm d1 d2
  have e2 : q = s := by omega
  subst e2
  exact ⟨Int.eq_of_mul_eq_mul_right (by omega) h, rfl⟩
theorem rd2_eq {n d n' d' : Int} (hd : 0 < d) (hd' : 0 < d') (h : n * d' = n' * d) : rd2 n d = rd2 n' d' := by
  have f := fr_of (n := n) (show d ≠ 0 by omega)
  have f' := fr_of (n := n') (show d' ≠ 0 by omega)
  have c1 := f.cross
  have c2 := f'.cross
  unfold rd2
  generalize n.fdiv (sg n d) = p at f c1
  generalize d.fdiv (sg n d) = q at f c1
  generalize n'.fdiv (sg n' d') = r at f' c2
  generalize d'.fdiv (sg n' d') = s at f' c2
  have e : p * s = r * q := by
    have h1 : (p * s) * (d * d') = (r * q) * (d * d') := by
      calc (p * s) * (d * d') = (p * d) * (s * d') := by
              rw [Int.mul_assoc, Int.mul_assoc, Int.mul_left_comm s d d']
        _ = (n * q) * (s * d') := by rw [c1]
        _ = (n * d') * (q * s) := by
              rw [Int.mul_assoc, Int.mul_assoc, Int.mul_comm s d', Int.mul_left_comm q d' s]
        _ = (n' * d) * (q * s) := by rw [h]
        _ = (n' * s) * (d * q) := by
              rw [Int.mul_assoc, Int.mul_assoc, Int.mul_comm q s, Int.mul_left_comm d s q]
        _ = (r * d') * (d * q) := by rw [c2]
        _ = (r * q) * (d * d') := by
              rw [Int.mul_assoc, Int.mul_assoc, Int.mul_comm d q, Int.mul_left_comm d' q d, Int.mul_comm d' d]
    exact Int.eq_of_mul_eq_mul_right (Int.mul_ne_zero (by omega) (by omega)) h1
  have u := low_uniq f.one f'.one f.q0 f'.q0 e
  rw [u.1, u.2]
theorem sg_zero_one : sg 0 1 = 1 := sg_one 0
theorem rd2_zero : rd2 0 1 = [0, 1] := by
  unfold rd2
  rw [sg_zero_one, Int.fdiv_one, Int.fdiv_one]
/-- the digits of a number are not too few -/
theorem lt_digits (n : Nat) : n < 2 ^ (4 * (toString (n : Int)).length + 4) := by
  have e : toString (n : Int) = Nat.repr n := rfl
  rw [e]
  have h : n < 10 ^ ((Nat.repr n).length + 1) := (Nat.length_repr_le_iff (Nat.succ_pos _)).mp (Nat.le_succ _)
  refine Nat.lt_of_lt_of_le h ?_
  have h2 : (10 : Nat) ^ ((Nat.repr n).length + 1) ≤ 16 ^ ((Nat.repr n).length + 1) := Nat.pow_le_pow_left (by decide) _
  have h3 : (16 : Nat) ^ ((Nat.repr n).length + 1) = 2 ^ (4 * (Nat.repr n).length + 4) := by
    rw [show (16 : Nat) = 2 ^ 4 from rfl, ← Nat.pow_mul]
    rfl
  omega
theorem eu_digits {a b t : Nat} (h : t = 4 * (toString (a : Int)).length + 4 * (toString (b : Int)).length + 60) : 2 * (a * b) < 2 ^ t := by
  subst h
  have h1 := lt_digits a
  have h2 := lt_digits b
  have h3 : a * b < 2 ^ (4 * (toString (a : Int)).length + 4) * 2 ^ (4 * (toString (b : Int)).length + 4) := Nat.mul_lt_mul'' h1 h2
  rw [← Nat.pow_add] at h3
  have h4 : 2 * (a * b) < 2 * 2 ^ (4 * (toString (a : Int)).length + 4 + (4 * (toString (b : Int)).length + 4)) := by omega
  rw [← Nat.pow_succ'] at h4
  exact Nat.lt_of_lt_of_le h4 (Nat.pow_le_pow_right (by decide) (by omega))
theorem args2 {x y : Int} (hx : 0 ≤ x) (hy : 0 ≤ y) : [V.int x, V.int y] ++ [] = [V.int ((x.natAbs : Nat) : Int), V.int ((y.natAbs : Nat) : Int)] := by
  have e1 : ((x.natAbs : Nat) : Int) = x := by omega
  have e2 : ((y.natAbs : Nat) : Int) = y := by omega
  rw [e1, e2]
  rfl
theorem mod_abs (x : Int) {b : Int} (h : 0 < b) : (x % b).natAbs ≤ b.natAbs := by
  have h1 := Int.emod_nonneg x (show b ≠ 0 by omega)
  have h2 := Int.emod_lt_of_pos x h
  omega
theorem mul_lt_abs {a b : Int} {A B : Nat} (ha : a.natAbs ≤ A) (hb : b.natAbs ≤ B) : (a * b).natAbs ≤ A * B := by
  rw [Int.natAbs_mul]
  exact Nat.mul_le_mul ha hb
def pd2 (x y : Int) : PyData := .tuple [.int x, .int y]
theorem dp2 {K : PySem.W.Frag} {H : Hp} {u : Addr} {x y : Int} (h : SqT K H u (zs [x, y])) : Dp K H (.ref u) (pd2 x y) :=
  .tup h (.cons (.int x) (.cons (.int y) .nil))
theorem eqv2 (x y : Int) : PyData.eqv (pd2 x y) (pd2 x y) = true := by
  unfold pd2
  simp [PyData.eqv, PyData.eqvAll]

def dv (x y z : Int) : Int := let g : Int := (Nat.gcd (Nat.gcd x.natAbs y.natAbs) z.natAbs : Nat)
  if HT.lexLt [x, y, z] [0, 0, 0] = true then -g else g
def g3 (x y z : Int) : Nat := Nat.gcd (Nat.gcd x.natAbs y.natAbs) z.natAbs
/-- the first one that is not 0 is below 0 -/
def dn (x y z : Int) : Bool := decide (x < 0) || (decide (x = 0) && (decide (y < 0) || (decide (y = 0) && decide (z < 0))))
theorem lex_dn (x y z : Int) : HT.lexLt [x, y, z] [0, 0, 0] = dn x y z := by
  rw [HT.lexLt_cons, HT.lexLt_cons, HT.lexLt_cons, HT.lexLt_nil_nil]
  unfold dn
  by_cases hx : x = 0
  · subst hx
    by_cases hy : y = 0
    · subst hy
      by_cases hz : z = 0
      · subst hz; decide
      · simp [hz]
    · simp [hy]
  · simp [hx]
theorem dv_eq (x y z : Int) : dv x y z = if dn x y z = true then -(g3 x y z : Int) else (g3 x y z : Int) := by
  unfold dv g3
  rw [lex_dn]
theorem dv_abs (x y z : Int) : (dv x y z).natAbs = g3 x y z := by
  rw [dv_eq]
  split
  · rw [Int.natAbs_neg, Int.natAbs_natCast]
  · rw [Int.natAbs_natCast]
theorem g3_pos {x y z : Int} (h : ¬ (x = 0 ∧ y = 0 ∧ z = 0)) : 0 < g3 x y z := by
  rcases Nat.eq_zero_or_pos (g3 x y z) with e | e
  · exfalso
    have h1 := Nat.gcd_eq_zero_iff.mp e
    have h2 := Nat.gcd_eq_zero_iff.mp h1.1
    omega
  · exact e
theorem dv_ne {x y z : Int} (h : ¬ (x = 0 ∧ y = 0 ∧ z = 0)) : dv x y z ≠ 0 := by
  intro e
  have h1 := dv_abs x y z
  have h2 := g3_pos h
  rw [e] at h1
  have : (0 : Int).natAbs = 0 := rfl
  omega
theorem g3_dx (x y z : Int) : (g3 x y z : Int) ∣ x := by
  refine Int.dvd_natAbs.mp (Int.natCast_dvd_natCast.mpr ?_)
  exact Nat.dvd_trans (Nat.gcd_dvd_left _ _) (Nat.gcd_dvd_left _ _)
theorem g3_dy (x y z : Int) : (g3 x y z : Int) ∣ y := by
  refine Int.dvd_natAbs.mp (Int.natCast_dvd_natCast.mpr ?_)
  exact Nat.dvd_trans (Nat.gcd_dvd_left _ _) (Nat.gcd_dvd_right _ _)
theorem g3_dz (x y z : Int) : (g3 x y z : Int) ∣ z := by
  refine Int.dvd_natAbs.mp (Int.natCast_dvd_natCast.mpr ?_)
  exact Nat.gcd_dvd_right _ _
theorem dv_dvd {x y z v : Int} (h : (g3 x y z : Int) ∣ v) : dv x y z ∣ v := by
  rw [dv_eq]
  split
  · exact Int.neg_dvd.mpr h
  · exact h
theorem dv_dx (x y z : Int) : dv x y z ∣ x := dv_dvd (g3_dx x y z)
theorem dv_dy (x y z : Int) : dv x y z ∣ y := dv_dvd (g3_dy x y z)
theorem dv_dz (x y z : Int) : dv x y z ∣ z := dv_dvd (g3_dz x y z)
theorem g3_le {x y z : Int} {n : Nat} (h : ¬ (x = 0 ∧ y = 0 ∧ z = 0)) (hx : x.natAbs ≤ n) (hy : y.natAbs ≤ n) (hz : z.natAbs ≤ n) : g3 x y z ≤ n := by
  by_cases h1 : x = 0
  · by_cases h2 : y = 0
    · have h3 : z ≠ 0 := fun e => h ⟨h1, h2, e⟩
      exact Nat.le_trans (Nat.le_of_dvd (by omega) (Nat.gcd_dvd_right _ _)) hz
    · exact Nat.le_trans (Nat.le_of_dvd (by omega) (Nat.dvd_trans (Nat.gcd_dvd_left _ _) (Nat.gcd_dvd_right _ _))) hy
  · exact Nat.le_trans (Nat.le_of_dvd (by omega) (Nat.dvd_trans (Nat.gcd_dvd_left _ _) (Nat.gcd_dvd_left _ _))) hx
theorem g3_mul (x y z t : Int) : g3 (x * t) (y * t) (z * t) = g3 x y z * t.natAbs := by
  unfold g3
  rw [Int.natAbs_mul, Int.natAbs_mul, Int.natAbs_mul, Nat.gcd_mul_right, Nat.gcd_mul_right]
/-- the parts have no divisor left -/
theorem g3_one {x y z a b c : Int} (h : ¬ (x = 0 ∧ y = 0 ∧ z = 0)) (ha : a * dv x y z = x) (hb : b * dv x y z = y) (hc : c * dv x y z = z) : g3 a b c = 1 := by
  have h1 : g3 x y z = g3 a b c * (dv x y z).natAbs := by
    have := g3_mul a b c (dv x y z)
    rw [ha, hb, hc] at this
    exact this
  rw [dv_abs] at h1
  have h2 := g3_pos h
  exact (Nat.eq_of_mul_eq_mul_right h2 (by rw [Nat.one_mul]; exact h1)).symm
theorem neg_mul_iff {v t : Int} (ht : 0 < t) : (v * t < 0 ↔ v < 0) ∧ (v * t = 0 ↔ v = 0) := by
  constructor
  · constructor
    · intro h
      rcases Int.lt_or_le v 0 with h1 | h1
      · exact h1
      · have := Int.mul_nonneg h1 (Int.le_of_lt ht)
        omega
    · exact fun h => Int.mul_neg_of_neg_of_pos h ht
  · constructor
    · intro h
      rcases Int.mul_eq_zero.mp h with h1 | h1
      · exact h1
      · omega
    · intro h
      rw [h, Int.zero_mul]
theorem dn_mul {x y z t : Int} (ht : 0 < t) : dn (x * t) (y * t) (z * t) = dn x y z := by
  unfold dn
  have hx := neg_mul_iff (v := x) ht
  have hy := neg_mul_iff (v := y) ht
  have hz := neg_mul_iff (v := z) ht
  simp only [hx, hy, hz]
theorem dn_neg {x y z : Int} (h : ¬ (x = 0 ∧ y = 0 ∧ z = 0)) : dn (-x) (-y) (-z) = !dn x y z := by
  unfold dn
  rcases Int.lt_trichotomy x 0 with hx | hx | hx
  · have h1 : ¬ (-x < 0) := by omega
    have h2 : ¬ (-x = 0) := by omega
    simp [hx, h1, h2]
    omega
  · subst hx
    rcases Int.lt_trichotomy y 0 with hy | hy | hy
    · have h1 : ¬ (-y < 0) := by omega
      have h2 : ¬ (-y = 0) := by omega
      simp [hy, h1, h2]
      omega
    · subst hy
      have hz : z ≠ 0 := fun e => h ⟨rfl, rfl, e⟩
      by_cases h1 : z < 0
      · have h2 : ¬ (-z < 0) := by omega
        simp [h1, h2]
        omega
      · have h2 : -z < 0 := by omega
        simp [h1, h2]
        omega
    · have h1 : -y < 0 := by omega
      have h2 : ¬ y < 0 := by omega
      have h3 : ¬ y = 0 := by omega
      simp [h1, h2, h3]
      omega
  · have h1 : -x < 0 := by omega
    have h2 : ¬ x < 0 := by omega
    have h3 : ¬ x = 0 := by omega
    simp [h1, h2, h3]
    omega
theorem dv_mul {x y z t : Int} (h : ¬ (x = 0 ∧ y = 0 ∧ z = 0)) (ht : t ≠ 0) : dv (x * t) (y * t) (z * t) = dv x y z * t := by
  rw [dv_eq, dv_eq, g3_mul]
  rcases Int.lt_or_gt_of_ne ht with h1 | h1
  · have e1 : ∀ v : Int, v * t = -v * -t := fun v => (Int.neg_mul_neg v t).symm
    have e2 : (t.natAbs : Int) = -t := by omega
    have h2 : ¬ (-x = 0 ∧ -y = 0 ∧ -z = 0) := by omega
    rw [e1 x, e1 y, e1 z, dn_mul (by omega), dn_neg h]
    cases dn x y z with
    | true => simp [e2, Int.neg_mul, Int.mul_neg]
    | false => simp [e2, Int.neg_mul, Int.mul_neg]
  · have e2 : (t.natAbs : Int) = t := by omega
    rw [dn_mul h1]
    cases dn x y z with
    | true => simp [e2, Int.neg_mul, Int.mul_neg]
    | false => simp [e2, Int.neg_mul, Int.mul_neg]
theorem fdiv_same {d v t : Int} (hd : d ≠ 0) (ht : t ≠ 0) (h : d ∣ v) : (v * t).fdiv (d * t) = v.fdiv d := by
  obtain ⟨k, rfl⟩ := h
  rw [Int.mul_assoc, Int.mul_comm k t, ← Int.mul_assoc, Int.mul_fdiv_cancel_left _ hd, Int.mul_fdiv_cancel_left]
  exact Int.mul_ne_zero hd ht

theorem zs_push {l : List Int} {n : Int} : zs l ++ [V.int n] = zs (l ++ [n]) := by
  show l.map V.int ++ [V.int n] = (l ++ [n]).map V.int
  rw [List.map_append]
  rfl
theorem zs_lt {l : List Int} (h : l.length ≤ 1000) : (zs l).length < sizeLine := by
  show (l.map V.int).length < sizeLine
  rw [List.length_map]
  exact small1000 h
theorem row_all {rs : List Int} {b : Int} (h : ∀ r ∈ rs, 0 ≤ r ∧ r < b) (x : Int) (hb : 0 < b) : ∀ r ∈ rs ++ [x % b], 0 ≤ r ∧ r < b := by
  intro r hr
  rcases List.mem_append.mp hr with h1 | h1
  · exact h r h1
  · rw [List.mem_singleton.mp h1]
    exact ⟨Int.emod_nonneg _ (by omega), Int.emod_lt_of_pos _ hb⟩
theorem ixN_in {n : Nat} {i : Int} (h0 : 0 ≤ i) (h : i < (n : Int)) : ixN n i = some i.toNat := by
  unfold ixN
  rw [if_pos h0, if_pos h]
theorem len3 {rs : List Int} (h : rs.length = 3) : ∃ a b c, rs = [a, b, c] := by
  match rs, h with
  | [a, b, c], _ => exact ⟨a, b, c, rfl⟩
theorem gl_three (x y z : Int) : gl [x, y, z] = g3 x y z := by
  show Nat.gcd z.natAbs (Nat.gcd y.natAbs (Nat.gcd x.natAbs 0)) = Nat.gcd (Nat.gcd x.natAbs y.natAbs) z.natAbs
  rw [Nat.gcd_zero_right, Nat.gcd_comm z.natAbs, Nat.gcd_comm y.natAbs]
def fs3 (x y z : Int) : Int := if x ≠ 0 then x else if y ≠ 0 then y else z
theorem fs3_get {x y z : Int} (h : ¬ (x = 0 ∧ y = 0 ∧ z = 0)) : (zs ([x, y, z].filter fun v => decide (v ≠ 0)))[0]? = some (.int (fs3 x y z)) := by
  unfold fs3
  by_cases hx : x = 0
  · by_cases hy : y = 0
    · have hz : z ≠ 0 := fun e => h ⟨hx, hy, e⟩
      simp [hx, hy, hz]
    · simp [hx, hy]
  · simp [hx]
theorem fs3_dn {x y z : Int} (h : ¬ (x = 0 ∧ y = 0 ∧ z = 0)) : decide (fs3 x y z < 0) = dn x y z := by
  unfold fs3 dn
  by_cases hx : x = 0
  · by_cases hy : y = 0
    · simp [hx, hy]
    · simp [hx, hy]
  · simp [hx]
theorem fil_snoc {l : List Int} {i : Nat} {z : Int} (h : l[i]? = some z) (hz : z ≠ 0) : zs ((l.take i).filter fun v => decide (v ≠ 0)) ++ [V.int z] = zs ((l.take (i + 1)).filter fun v => decide (v ≠ 0)) := by
  rw [take_snoc h, List.filter_append, zs_push]
  simp [hz]
theorem fil_same {l : List Int} {i : Nat} {z : Int} (h : l[i]? = some z) (hz : z = 0) : (l.take (i + 1)).filter (fun v => decide (v ≠ 0)) = (l.take i).filter fun v => decide (v ≠ 0) := by
  rw [take_snoc h, List.filter_append]
  simp [hz]
theorem fil_lt {l : List Int} (n : Nat) (h : l.length ≤ 1000) : (zs ((l.take n).filter fun v => decide (v ≠ 0))).length < sizeLine := by
  refine zs_lt ?_
  have h1 := List.length_filter_le (fun v : Int => decide (v ≠ 0)) (l.take n)
  rw [List.length_take] at h1
  omega
theorem zs_at {l : List Int} {i : Nat} {z : Int} (h : l[i]? = some z) : atI (zs l) (i : Int) = some (V.int z) := atI_nat (by
  rw [show zs l = l.map V.int from rfl, List.getElem?_map, h]
  rfl)
theorem parts_at {x y z d : Int} (hx : d ∣ x) (hy : d ∣ y) (hz : d ∣ z) {i : Nat} (hi : i < 3) : ∃ f v : Int, [x.fdiv d, y.fdiv d, z.fdiv d][i]? = some f ∧ [x, y, z][i]? = some v ∧ f * d = v := by
  obtain rfl | rfl | rfl : i = 0 ∨ i = 1 ∨ i = 2 := by omega
  · exact ⟨_, _, rfl, rfl, fdiv_back hx⟩
  · exact ⟨_, _, rfl, rfl, fdiv_back hy⟩
  · exact ⟨_, _, rfl, rfl, fdiv_back hz⟩
def pd3 (x y z : Int) : PyData := .tuple [.int x, .int y, .int z]
theorem dp3 {K : PySem.W.Frag} {H : Hp} {u : Addr} {x y z : Int} (h : SqT K H u (zs [x, y, z])) : Dp K H (.ref u) (pd3 x y z) :=
  .tup h (.cons (.int x) (.cons (.int y) (.cons (.int z) .nil)))
theorem eqv3 (x y z : Int) : PyData.eqv (pd3 x y z) (pd3 x y z) = true := by
  unfold pd3
  simp [PyData.eqv, PyData.eqvAll]

def sgn (i : Int) : Int := if i < 0 then -1 else if 0 < i then 1 else 0
theorem sgn_mul {a b : Int} (hb : 0 < b) : sgn (a * b) = sgn a := by
  have h := neg_mul_iff (v := a) hb
  have h2 : 0 < a * b ↔ 0 < a := by
    constructor
    · intro z
      have h3 : ¬ a < 0 := fun y => by
        have := h.1.mpr y
        omega
      have h4 : ¬ a = 0 := fun y => by
        have := h.2.mpr y
        omega
      omega
    · exact fun z => Int.mul_pos z hb
  unfold sgn
  by_cases h3 : a < 0
  · rw [if_pos h3, if_pos (h.1.mpr h3)]
  · rw [if_neg h3, if_neg (fun z => h3 (h.1.mp z))]
    by_cases h4 : 0 < a
    · rw [if_pos h4, if_pos (h2.mpr h4)]
    · rw [if_neg h4, if_neg (fun z => h4 (h2.mp z))]
theorem sg_pos {n d : Int} (h : 0 < d) : 0 < sg n d := by
  have hg : 0 < Nat.gcd n.natAbs d.natAbs := Nat.gcd_pos_of_pos_right _ (by omega)
  unfold sg
  rw [if_neg (by omega)]
  omega
/-- the sign of a fraction is that of its numerator, before and behind -/
theorem sgn_low {n d : Int} (h : 0 < d) : sgn (n.fdiv (sg n d)) = sgn n := by
  have h1 := fdiv_back (sg_dn n d)
  have h2 := sgn_mul (a := n.fdiv (sg n d)) (sg_pos (n := n) h)
  rw [h1] at h2
  exact h2.symm
theorem rd2_le {n d : Int} (hd : d ≠ 0) : ∃ p q, rd2 n d = [p, q] ∧ p.natAbs ≤ n.natAbs ∧ q.natAbs ≤ d.natAbs ∧ Fr n d p q :=
  have f := fr_of (n := n) hd
  ⟨_, _, rfl, part_le f.hp (sg_ne hd), part_le f.hq (sg_ne hd), f⟩
/-- a sum of two, each brought to lowest terms -/
theorem rd2_plus {a b c d p q r s : Int} (f : Fr a b p q) (g : Fr c d r s) (hb : 0 < b) (hd : 0 < d) : rd2 (p * s + r * q) (q * s) = rd2 (a * d + c * b) (b * d) := by
  have q0 := f.q0
  have s0 := g.q0
  have c1 := f.cross
  have c2 := g.cross
  exact rd2_eq (Int.mul_pos q0 s0) (Int.mul_pos hb hd) (by grind)
/-- what is in lowest terms stays -/
theorem low_of {p q : Int} (h : Nat.gcd p.natAbs q.natAbs = 1) (hq : 0 < q) : rd2 p q = [p, q] := by
  have f := fr_of (n := p) (show q ≠ 0 by omega)
  have c := f.cross
  have u := low_uniq f.one h f.q0 hq (by rw [f.cross])
  unfold rd2
  rw [u.1, u.2]
theorem fr_low {n d p q : Int} (f : Fr n d p q) : rd2 p q = [p, q] := low_of f.one f.q0
theorem eu_far2 {a b n : Nat} (hn : 3601 ≤ n) (ha : a < 2 ^ 1800) (hb : b < 2 ^ 1800) : 2 * (a * b) < 2 ^ n := by
  have h1 : a * b < 2 ^ 1800 * 2 ^ 1800 := Nat.mul_lt_mul'' ha hb
  rw [← Nat.pow_add] at h1
  have h2 : (2 : Nat) ^ 3601 ≤ 2 ^ n := Nat.pow_le_pow_right (by decide) hn
  rw [show (3601 : Nat) = 1 + (1800 + 1800) from rfl, Nat.pow_add] at h2
  generalize (2 : Nat) ^ (1800 + 1800) = B at *
  generalize (2 : Nat) ^ n = C at *
  omega
theorem rd2_eq0 {n d n' d' : Int} (hd : d ≠ 0) (hd' : d' ≠ 0) (h : n * d' = n' * d) : rd2 n d = rd2 n' d' := by
  have f := fr_of (n := n) hd
  have f' := fr_of (n := n') hd'
  have c1 := f.cross
  have c2 := f'.cross
  unfold rd2
  generalize n.fdiv (sg n d) = p at f c1
  generalize d.fdiv (sg n d) = q at f c1
  generalize n'.fdiv (sg n' d') = r at f' c2
  generalize d'.fdiv (sg n' d') = s at f' c2
  have e : p * s = r * q := by
    have h1 : (p * s) * (d * d') = (r * q) * (d * d') := by grind
    exact Int.eq_of_mul_eq_mul_right (Int.mul_ne_zero hd hd') h1
  have u := low_uniq f.one f'.one f.q0 f'.q0 e
  rw [u.1, u.2]

/-- a row of fractions: where each stands, its two numbers -/
structure Rows (K : PySem.W.Frag) (H : Hp) (ws : List (Addr × Int × Int)) : Prop where
  at_ : ∀ w ∈ ws, SqT K H w.1 (zs [w.2.1, w.2.2])
  b1 : ∀ w ∈ ws, w.2.1.natAbs < 2 ^ 40
  b2 : ∀ w ∈ ws, w.2.2.natAbs < 2 ^ 40
  b3 : ∀ w ∈ ws, 0 < w.2.2
  few : ws.length ≤ 9
theorem Rows.nil {K : PySem.W.Frag} {H : Hp} : Rows K H [] :=
  ⟨(fun _ h => nomatch h), (fun _ h => nomatch h), (fun _ h => nomatch h), (fun _ h => nomatch h), by decide⟩
def rf (ws : List (Addr × Int × Int)) : List V := ws.map fun w => V.ref w.1
theorem Rows.same {K : PySem.W.Frag} {H H' : Hp} {ws : List (Addr × Int × Int)} (r : Rows K H ws) (s : Same H H') : Rows K H' ws :=
  ⟨fun w hw => same_tup s (r.at_ w hw), r.b1, r.b2, r.b3, r.few⟩
theorem Rows.take {K : PySem.W.Frag} {H : Hp} {ws : List (Addr × Int × Int)} (r : Rows K H ws) (i : Nat) : Rows K H (ws.take i) :=
  ⟨fun w hw => r.at_ w (List.mem_of_mem_take hw), fun w hw => r.b1 w (List.mem_of_mem_take hw), fun w hw => r.b2 w (List.mem_of_mem_take hw), fun w hw => r.b3 w (List.mem_of_mem_take hw), by
    rw [List.length_take]
    have := r.few
    omega⟩
theorem rf_get {ws : List (Addr × Int × Int)} {i : Nat} {v : V} (h : (rf ws)[i]? = some v) : ∃ w, v = .ref w.1 ∧ ws[i]? = some w := by
  rw [show rf ws = ws.map fun w => V.ref w.1 from rfl, List.getElem?_map] at h
  cases e : ws[i]? with
  | none =>
    rw [e] at h
    cases h
  | some w =>
    rw [e] at h
    exact ⟨w, (Option.some.inj h).symm, rfl⟩
theorem rf_len (ws : List (Addr × Int × Int)) : (rf ws).length = ws.length := List.length_map _
theorem take_sn {α : Type} {l : List α} {i : Nat} {z : α} (h : l[i]? = some z) : l.take (i + 1) = l.take i ++ [z] := by
  rw [List.take_add_one, h]
  rfl
theorem tup_upd {K : PySem.W.Frag} {H : Hp} {a l : Addr} {xs ys : List V} {o : HO} (h : SqT K H a xs) (hl : H l = some (.lst ys)) : SqT K (upd H l o) a xs := by
  rcases h with (h | ⟨ob, h⟩) | h
  · refine .inl (.inl ?_)
    rw [upd_ne (ne_of h hl (by intro z; cases z))]
    exact h
  · refine .inl (.inr ⟨ob, ?_⟩)
    rw [upd_ne (ne_of h hl (by intro z; cases z))]
    exact h
  · exact .inr h
theorem tyx_tup {K : PySem.W.Frag} {H : Hp} {a : Addr} {xs : List V} (h : SqT K H a xs) : TyX K H (.ref a) (.type "tuple") := by
  rcases h with (h | ⟨ob, h⟩) | ⟨o, its, n, h, hc, _⟩
  · exact .base (.tup h)
  · exact .fTuple h
  · exact .kTuple h hc
theorem no_self {x : V} (h : (!decide (x = x)) = true) : False := by
  rw [decide_eq_true rfl] at h
  cases h

theorem rat_rd {n d : Int} (hd : d ≠ 0) : rd2 n d = [(Rat.divInt n d).num, ((Rat.divInt n d).den : Int)] := by
  have h0 : ((Rat.divInt n d).den : Int) ≠ 0 := by
    have := (Rat.divInt n d).den_nz
    omega
  have e : Rat.divInt n d = Rat.divInt (Rat.divInt n d).num ((Rat.divInt n d).den : Int) := (Rat.num_divInt_den _).symm
  have c := (Rat.divInt_eq_divInt_iff hd h0).mp e
  rw [rd2_eq0 hd h0 c]
  exact low_of (Rat.divInt n d).reduced (by have := (Rat.divInt n d).den_nz; omega)
/-- a fraction that stands at an address -/
def Fx (K : PySem.W.Frag) (H : Hp) (a : Addr) (r : Rat) : Prop := SqT K H a (zs [r.num, (r.den : Int)])
theorem Fx.same {K : PySem.W.Frag} {H H' : Hp} {a : Addr} {r : Rat} (h : Fx K H a r) (s : Same H H') : Fx K H' a r := same_tup s h
theorem fx_rd {K : PySem.W.Frag} {H : Hp} {a : Addr} {n d : Int} (hd : d ≠ 0) (h : H a = some (.tup (zs (rd2 n d)))) : Fx K H a (Rat.divInt n d) := by
  unfold Fx
  rw [← rat_rd hd]
  exact SqT.of h
theorem fx_at {K : PySem.W.Frag} {H : Hp} {a : Addr} {r : Rat} (h : H a = some (.tup (zs [r.num, (r.den : Int)]))) : Fx K H a r := SqT.of h
def Bd (n : Nat) (r : Rat) : Prop := r.num.natAbs < 2 ^ n ∧ r.den < 2 ^ n
theorem Bd.up {n m : Nat} {r : Rat} (h : Bd n r) (hm : n ≤ m) : Bd m r :=
  ⟨Nat.lt_of_lt_of_le h.1 (Nat.pow_le_pow_right (by decide) hm), Nat.lt_of_lt_of_le h.2 (Nat.pow_le_pow_right (by decide) hm)⟩
theorem Bd.den {n : Nat} {r : Rat} (h : Bd n r) : ((r.den : Nat) : Int).natAbs < 2 ^ n := h.2
theorem den_pos (r : Rat) : (0 : Int) < (r.den : Int) := by
  have := r.den_nz
  omega
theorem den_ne (r : Rat) : ((r.den : Nat) : Int) ≠ 0 := by
  have := den_pos r
  omega
theorem bd_of {n d : Int} {k : Nat} (hd : d ≠ 0) (h1 : n.natAbs < 2 ^ k) (h2 : d.natAbs < 2 ^ k) : Bd k (Rat.divInt n d) := by
  obtain ⟨p, q, e, l1, l2, _⟩ := rd2_le (n := n) hd
  rw [rat_rd hd] at e
  have e1 : (Rat.divInt n d).num = p := by injection e
  have e2 : ((Rat.divInt n d).den : Int) = q := by
    injection e with _ e
    injection e
  refine ⟨by rw [e1]; omega, ?_⟩
  have : (Rat.divInt n d).den = q.natAbs := by rw [← e2]; rfl
  omega
theorem add_div (r s : Rat) : r + s = Rat.divInt (r.num * s.den + s.num * r.den) (r.den * s.den) := by
  rw [Rat.add_def', Rat.divInt_eq_div, Rat.mkRat_eq_div]
  rfl
theorem sub_div (r s : Rat) : r - s = Rat.divInt (r.num * s.den - s.num * r.den) (r.den * s.den) := by
  rw [Rat.sub_def', Rat.divInt_eq_div, Rat.mkRat_eq_div]
  rfl
theorem mul_div (r s : Rat) : r * s = Rat.divInt (r.num * s.num) (r.den * s.den) := by
  rw [Rat.mul_def', Rat.divInt_eq_div, Rat.mkRat_eq_div]
  rfl
theorem dd_ne (r s : Rat) : ((r.den : Int) * (s.den : Int)) ≠ 0 := Int.mul_ne_zero (den_ne r) (den_ne s)
theorem pow_two_add (a b : Nat) : (2 : Nat) ^ (a + b + 1) = 2 * 2 ^ (a + b) := by
  rw [Nat.pow_succ, Nat.mul_comm]
theorem wl {x y : Int} {a b : Nat} (h : x.natAbs < 2 ^ a) (h2 : y.natAbs < 2 ^ b) : (x * y).natAbs < 2 ^ (a + b) := by
  rw [Int.natAbs_mul, Nat.pow_add]
  exact Nat.mul_lt_mul'' h h2
theorem Bd.mul {a b : Nat} {r s : Rat} (h : Bd a r) (h2 : Bd b s) : Bd (a + b) (r * s) := by
  rw [mul_div]
  exact bd_of (dd_ne r s) (wl h.1 h2.1) (wl h.den h2.den)
theorem Bd.add {a b : Nat} {r s : Rat} (h : Bd a r) (h2 : Bd b s) : Bd (a + b + 1) (r + s) := by
  rw [add_div]
  have e := pow_two_add a b
  have w1 := wl h.1 h2.den
  have w2 := wl h2.1 h.den
  have w3 := wl h.den h2.den
  rw [Nat.add_comm b a] at w2
  have := Int.natAbs_add_le (r.num * (s.den : Int)) (s.num * (r.den : Int))
  exact bd_of (dd_ne r s) (by omega) (by omega)
theorem Bd.sub {a b : Nat} {r s : Rat} (h : Bd a r) (h2 : Bd b s) : Bd (a + b + 1) (r - s) := by
  rw [sub_div]
  have e := pow_two_add a b
  have w1 := wl h.1 h2.den
  have w2 := wl h2.1 h.den
  have w3 := wl h.den h2.den
  rw [Nat.add_comm b a] at w2
  have := Int.natAbs_sub_le (r.num * (s.den : Int)) (s.num * (r.den : Int))
  exact bd_of (dd_ne r s) (by omega) (by omega)
theorem Bd.neg {a : Nat} {r : Rat} (h : Bd a r) : Bd a (-r) := by
  refine ⟨?_, ?_⟩
  · rw [Rat.neg_num, Int.natAbs_neg]
    exact h.1
  · rw [Rat.neg_den]
    exact h.2
theorem bd_zero : Bd 1 0 := ⟨by decide, by decide⟩
theorem bd_one : Bd 1 1 := ⟨by decide, by decide⟩
def pdr (r : Rat) : PyData := pd2 r.num (r.den : Int)
theorem dpr {K : PySem.W.Frag} {H : Hp} {a : Addr} {r : Rat} (h : Fx K H a r) : Dp K H (.ref a) (pdr r) := dp2 h
theorem eqvr (r s : Rat) : PyData.eqv (pdr r) (pdr s) = decide (r = s) := by
  unfold pdr pd2
  simp only [PyData.eqv, PyData.eqvAll, Bool.and_true]
  by_cases h : r = s
  · subst h
    simp
  · rw [decide_eq_false h]
    by_cases h1 : r.num = s.num
    · have h2 : ¬ r.den = s.den := fun z => h (Rat.ext h1 z)
      simp [h1]
      omega
    · simp [h1]
/-- a row of fractions: where each stands, what it is -/
def Rx (K : PySem.W.Frag) (H : Hp) (ws : List (Addr × Rat)) : Prop := ∀ w ∈ ws, Fx K H w.1 w.2
def fr (ws : List (Addr × Rat)) : List V := ws.map fun w => V.ref w.1
theorem Rx.same {K : PySem.W.Frag} {H H' : Hp} {ws : List (Addr × Rat)} (h : Rx K H ws) (s : Same H H') : Rx K H' ws := fun w hw => (h w hw).same s
theorem fr_len (ws : List (Addr × Rat)) : (fr ws).length = ws.length := List.length_map _
theorem fr_get {ws : List (Addr × Rat)} {i : Nat} {v : V} (h : (fr ws)[i]? = some v) : ∃ w, v = .ref w.1 ∧ ws[i]? = some w := by
  rw [show fr ws = ws.map fun w => V.ref w.1 from rfl, List.getElem?_map] at h
  cases e : ws[i]? with
  | none =>
    rw [e] at h
    cases h
  | some w =>
    rw [e] at h
    exact ⟨w, (Option.some.inj h).symm, rfl⟩
theorem fr_at {ws : List (Addr × Rat)} {i : Nat} {r : Rat} (h : (ws.map (·.2))[i]? = some r) : ∃ t, (fr ws)[i]? = some (.ref t) ∧ (t, r) ∈ ws := by
  rw [List.getElem?_map] at h
  cases e : ws[i]? with
  | none =>
    rw [e] at h
    cases h
  | some w =>
    rw [e] at h
    have : w.2 = r := Option.some.inj h
    subst this
    refine ⟨w.1, ?_, List.mem_of_getElem? e⟩
    rw [show fr ws = ws.map fun w => V.ref w.1 from rfl, List.getElem?_map, e]
    rfl
theorem dpAll {K : PySem.W.Frag} {H : Hp} : ∀ {ws : List (Addr × Rat)}, Rx K H ws → DpAll K H (fr ws) ((ws.map (·.2)).map pdr)
  | [], _ => .nil
  | w :: ws, h => .cons (dpr (h w List.mem_cons_self)) (dpAll fun x hx => h x (List.mem_cons_of_mem _ hx))
theorem eqvAllr : ∀ rs ss : List Rat, PyData.eqvAll (rs.map pdr) (ss.map pdr) = decide (rs = ss)
  | [], [] => rfl
  | [], _ :: _ => rfl
  | _ :: _, [] => rfl
  | r :: rs, s :: ss => by
    rw [List.map_cons, List.map_cons, PyData.eqvAll, eqvr, eqvAllr rs ss]
    by_cases h1 : r = s
    · by_cases h2 : rs = ss
      · simp [h1, h2]
      · simp [h1, h2]
    · simp [h1]
theorem shr (rs : List Rat) : PyData.canLayAll0 (rs.map pdr) = true ∧ PyData.depthAll (rs.map pdr) ≤ 1 := by
  induction rs with
  | nil => decide
  | cons r rs ih =>
    rw [List.map_cons, PyData.canLayAll0, PyData.depthAll, ih.1]
    exact ⟨rfl, Nat.max_le.mpr ⟨Nat.le_refl 1, ih.2⟩⟩
theorem shrl (rs : List Rat) : SeqAt.shaped (.list (rs.map pdr)) = true := by
  have h1 := (shr rs).1
  have h2 := (shr rs).2
  unfold SeqAt.shaped
  rw [PyData.canLay0, PyData.depth, h1, decide_eq_true (by omega)]
  rfl
theorem shrt (rs : List Rat) : SeqAt.shaped (.tuple (rs.map pdr)) = true := by
  have h1 := (shr rs).1
  have h2 := (shr rs).2
  unfold SeqAt.shaped
  rw [PyData.canLay0, PyData.depth, h1, decide_eq_true (by omega)]
  rfl
/-- a value along parameters: its base, its slopes -/
def Vx (K : PySem.W.Frag) (H : Hp) (t : Addr) (b : Rat) (ss : List Rat) : Prop := ∃ (p q : Addr) (ws : List (Addr × Rat)), SqT K H t [.ref p, .ref q] ∧ Fx K H p b ∧ SqT K H q (fr ws) ∧ Rx K H ws ∧ ws.map (·.2) = ss
theorem Vx.same {K : PySem.W.Frag} {H H' : Hp} {t : Addr} {b : Rat} {ss : List Rat} (h : Vx K H t b ss) (s : Same H H') : Vx K H' t b ss := by
  obtain ⟨p, q, ws, h1, h2, h3, h4, h5⟩ := h
  exact ⟨p, q, ws, same_tup s h1, h2.same s, same_tup s h3, h4.same s, h5⟩
def pdv (b : Rat) (ss : List Rat) : PyData := .tuple [pdr b, .tuple (ss.map pdr)]
theorem dpv {K : PySem.W.Frag} {H : Hp} {t : Addr} {b : Rat} {ss : List Rat} (h : Vx K H t b ss) : Dp K H (.ref t) (pdv b ss) := by
  obtain ⟨p, q, ws, h1, h2, h3, h4, rfl⟩ := h
  exact .tup h1 (.cons (dpr h2) (.cons (.tup h3 (dpAll h4)) .nil))
theorem eqvv (b c : Rat) (ss us : List Rat) : PyData.eqv (pdv b ss) (pdv c us) = decide (b = c ∧ ss = us) := by
  unfold pdv
  rw [PyData.eqv, PyData.eqvAll, PyData.eqvAll, PyData.eqvAll, eqvr, PyData.eqv, eqvAllr]
  by_cases h1 : b = c
  · by_cases h2 : ss = us
    · simp [h1, h2]
    · simp [h1, h2]
  · simp [h1]
theorem shv (b : Rat) (ss : List Rat) : SeqAt.shaped (pdv b ss) = true := by
  have h1 := (shr ss).1
  have h2 := (shr ss).2
  unfold SeqAt.shaped pdv
  simp only [PyData.canLay0, PyData.canLayAll0, PyData.depth, PyData.depthAll, h1, pdr, pd2]
  simp
  omega
theorem sh1 (r : Rat) : SeqAt.shaped (pdr r) = true := rfl
theorem over_tup {K : PySem.W.Frag} {H H' : Hp} {t D : Addr} {xs ys : List V} (h : SqT K H t xs) (hl : H D = some (.lst ys)) (s : ∀ b o, b ≠ D → H b = some o → H' b = some o) : SqT K H' t xs := by
  rcases h with (h | ⟨ob, h⟩) | h
  · exact .inl (.inl (s _ _ (ne_of h hl (by intro z; cases z)) h))
  · exact .inl (.inr ⟨ob, s _ _ (ne_of h hl (by intro z; cases z)) h⟩)
  · exact .inr h
/-- a comprehension whose elements are fractions: those of L -/
theorem lc_row {K : PySem.W.Frag} {J : It} {n : Nat} {G : Hp → Prop} {Y : Nat → Hp → V → Hp → Prop} (w : Walk J n G Y) (L : List Rat) (hL : L.length = n) (hz : n ≤ 1000)
    {g : TG} {te : TE} {vs : List Nat} {σ : L2.St} {H1 : Hp} {D : Addr} {Qd : Hp → Prop} (hD : H1 D = none) (hG : ∀ H, Same H1 H → G H)
    (hs : ∀ i r x H H' (k : V → Hp → Prop), L[i]? = some r → Same H1 H → Y i H x H' → (∀ t H4, Same H H4 → Fx K H4 t r → k (.ref t) H4) → g x (wipe σ vs) H' fun σ2 H2 => wipe σ2 vs = wipe σ vs ∧ te σ2 H2 k)
    (hd : ∀ H ws, Same H1 H → H D = some (.lst (fr ws)) → Rx K H ws → ws.map (·.2) = L → Qd H) :
    ∃ W : Nat → Nat → Hp → Prop, (∃ m, W 0 m (upd H1 D (.lst []))) ∧ ∀ i m H, W i m H →
      (J.stop i H ∧ Qd H) ∨ (J.go i H ∧ ∃ Nx : Hp → Prop, (∀ H', Nx H' → ∃ m', m' < m ∧ W (i + 1) m' H') ∧ ∀ x H', J.yld i H x H' → g x (wipe σ vs) H' fun σ2 H2 => wipe σ2 vs = wipe σ vs ∧ tYes σ2 H2 fun b H3 =>
        if b = true then te σ2 H3 fun y H4 => ∃ acc, H4 D = some (.lst acc) ∧ acc.length < sizeLine ∧ Nx (upd H4 D (.lst (acc ++ [y]))) else Nx H3) := by
  subst hL
  refine lc_it w (fun i H => Same H1 H ∧ ∃ ws, H D = some (.lst (fr ws)) ∧ Rx K H ws ∧ ws.map (·.2) = L.take i) ⟨same_upd hD, [], upd_same, (fun _ z => nomatch z), rfl⟩ (fun i H _ h => hG H h.1) ?_ ?_
  · rintro i x H H' hi ⟨s1, ws, e1, r1, m1⟩ y
    have hr : L[i]? = some L[i] := List.getElem?_eq_getElem hi
    have q := hs i L[i] x H H' (fun y H4 => ∃ acc, H4 D = some (.lst acc) ∧ acc.length < sizeLine ∧ (fun H => Same H1 H ∧ ∃ ws, H D = some (.lst (fr ws)) ∧ Rx K H ws ∧ ws.map (·.2) = L.take (i + 1)) (upd H4 D (.lst (acc ++ [y])))) hr s1 y (fun t H4 s4 f4 => ?_)
    · refine Eq.mp (congrArg (g x (wipe σ vs) H') ?_) q
      funext σ2 H2
      simp [tYes]
    · have e4 := s4 _ _ e1
      have hlen : ws.length = (L.take i).length := by rw [← m1, List.length_map]
      rw [List.length_take] at hlen
      refine ⟨fr ws, e4, ?_, fun b o e => ?_, ws ++ [(t, L[i])], ?_, fun v hv => ?_, ?_⟩
      · rw [fr_len]
        exact small1000 (by omega)
      · rw [upd_ne (ne_of_none e hD)]
        exact s4 _ _ (s1 _ _ e)
      · rw [upd_same, show fr (ws ++ [(t, L[i])]) = fr ws ++ [.ref t] from List.map_append]
      · rcases List.mem_append.mp hv with h | h
        · exact over_tup ((r1.same s4) v h) e4 fun b o hb e => by rw [upd_ne hb]; exact e
        · rw [List.mem_singleton.mp h]
          exact over_tup f4 e4 fun b o hb e => by rw [upd_ne hb]; exact e
      · rw [List.map_append, m1, List.take_add_one, hr]
        rfl
  · rintro H ⟨s1, ws, e1, r1, m1⟩
    rw [List.take_length] at m1
    exact hd H ws s1 e1 r1 m1
/-- a comprehension whose elements are plain values: those of L -/
theorem lc_val {J : It} {n : Nat} {G : Hp → Prop} {Y : Nat → Hp → V → Hp → Prop} (w : Walk J n G Y) (L : List V) (hL : L.length = n) (hz : n ≤ 1000)
    {g : TG} {te : TE} {vs : List Nat} {σ : L2.St} {H1 : Hp} {D : Addr} {Qd : Hp → Prop} (hD : H1 D = none) (hG : ∀ H, Same H1 H → G H)
    (hs : ∀ i r x H H' (k : V → Hp → Prop), L[i]? = some r → Same H1 H → Y i H x H' → (∀ H4, Same H H4 → k r H4) → g x (wipe σ vs) H' fun σ2 H2 => wipe σ2 vs = wipe σ vs ∧ te σ2 H2 k)
    (hd : ∀ H, Same H1 H → H D = some (.lst L) → Qd H) :
    ∃ W : Nat → Nat → Hp → Prop, (∃ m, W 0 m (upd H1 D (.lst []))) ∧ ∀ i m H, W i m H →
      (J.stop i H ∧ Qd H) ∨ (J.go i H ∧ ∃ Nx : Hp → Prop, (∀ H', Nx H' → ∃ m', m' < m ∧ W (i + 1) m' H') ∧ ∀ x H', J.yld i H x H' → g x (wipe σ vs) H' fun σ2 H2 => wipe σ2 vs = wipe σ vs ∧ tYes σ2 H2 fun b H3 =>
        if b = true then te σ2 H3 fun y H4 => ∃ acc, H4 D = some (.lst acc) ∧ acc.length < sizeLine ∧ Nx (upd H4 D (.lst (acc ++ [y]))) else Nx H3) := by
  subst hL
  refine lc_it w (fun i H => Same H1 H ∧ H D = some (.lst (L.take i))) ⟨same_upd hD, upd_same⟩ (fun i H _ h => hG H h.1) ?_ ?_
  · rintro i x H H' hi ⟨s1, e1⟩ y
    have hr : L[i]? = some L[i] := List.getElem?_eq_getElem hi
    have q := hs i L[i] x H H' (fun y H4 => ∃ acc, H4 D = some (.lst acc) ∧ acc.length < sizeLine ∧ (fun H => Same H1 H ∧ H D = some (.lst (L.take (i + 1)))) (upd H4 D (.lst (acc ++ [y])))) hr s1 y (fun H4 s4 => ?_)
    · refine Eq.mp (congrArg (g x (wipe σ vs) H') ?_) q
      funext σ2 H2
      simp [tYes]
    · have e4 := s4 _ _ e1
      refine ⟨L.take i, e4, ?_, fun b o e => ?_, ?_⟩
      · rw [List.length_take]
        exact small1000 (by omega)
      · rw [upd_ne (ne_of_none e hD)]
        exact s4 _ _ (s1 _ _ e)
      · rw [upd_same, List.take_add_one, hr]
        rfl
  · rintro H ⟨s1, e1⟩
    rw [List.take_length] at e1
    exact hd H s1 e1
def sumR (l : List Rat) : Rat := l.foldl (· + ·) 0
theorem foldl_sum (b : Rat) (l : List Rat) : l.foldl (· + ·) b = b + sumR l := by
  unfold sumR
  induction l generalizing b with
  | nil => exact (Rat.add_zero b).symm
  | cons x l ih =>
    rw [List.foldl_cons, List.foldl_cons, ih, ih (0 + x)]
    grind
theorem sum_bd {n : Nat} {l : List Rat} (h : ∀ r ∈ l, Bd n r) : ∀ i ≤ l.length, Bd (1 + (n + 1) * i) (sumR (l.take i)) := by
  intro i
  induction i with
  | zero =>
    intro _
    exact bd_zero
  | succ i ih =>
    intro hi
    have e : l[i]? = some l[i] := List.getElem?_eq_getElem (by omega)
    have b1 := ih (by omega)
    have b2 := h l[i] (List.getElem_mem _)
    have e2 : sumR (l.take (i + 1)) = sumR (l.take i) + l[i] := by
      unfold sumR
      rw [List.take_add_one, e, List.foldl_append]
      rfl
    rw [e2]
    refine (b1.add b2).up ?_
    rw [Nat.mul_succ]
    omega

section
open PySem PySem.Spec PyProof.Rows
/-- the promise of an error's __init__ that keeps a line and a column -/
def spFIni (K : PySem.W.Frag) (C : Addr) : Sp := fun vs H Q _ => ∃ (a : Addr) (l c : Int), vs = [.ref a, .int l, .int c] ∧ H a = some (exo a C none) ∧
  ∀ (d : Addr) (H' : Hp), H d = none → d ≠ a → H' a = some (exo a C (some d)) → H' d = some (exd d [("column", .int c), ("line", .int l)]) → (∀ b o, b ≠ a → b ≠ d → H b = some o → H' b = some o) → Q .non H'
theorem fault_mk {K : PySem.W.Frag} {H1 : Hp} {C : Addr} {l c : Int} {W : Value → Option Addr → Hp → Prop}
    (hW : ∀ (d : Addr) (H' : Hp), Same H1 H' → H1 d = none → H' d = some (.xd [("column", .int c), ("line", .int l)]) → W (.ref C) (some d) H') :
    [V.int l, V.int c].length ≤ 1000 ∧ ∀ a, H1 a = none → spFIni K C (.ref a :: ([V.int l, V.int c] ++ [])) (upd H1 a (exo a C none))
      (fun v H2 => v = .non ∧ ∃ (d : Addr) (fs : List (Str × V)), H2 a = some (exo a C (some d)) ∧ H2 d = some (exd d fs) ∧ H1 d = none ∧ W (.ref C) (some d) (upd (del H2 a) d (.xd fs))) (fun _ _ _ => False) := by
  refine ⟨by show 2 ≤ 1000; decide, fun a ha => ⟨a, l, c, rfl, upd_same, fun d H' hd hda e1 e2 hk => ⟨rfl, d, _, e1, e2, ?_, ?_⟩⟩⟩
  · rw [upd_ne hda] at hd
    exact hd
  · rw [upd_ne hda] at hd
    refine hW d _ (fun b o e => ?_) hd upd_same
    have nb : b ≠ d := ne_of_none e hd
    have na : b ≠ a := ne_of_none e ha
    rw [upd_ne nb, del_ne na]
    exact hk b o na nb (by rw [upd_ne na]; exact e)
theorem suite_ofD {X : Cx} {a C : Addr} {oe : Obj} {pn : List (Addr × Obj)} {cls : Value} {d : Option Addr} {sts : List Stmt} {ts : Addr → TS} (hz : Zc cls d oe)
    (h : ∀ dd, Zc (.ref C) (some dd) oe → PSs (X.suite a ((a, oe) :: pn)) sts (ts dd)) : PSs (X.suite a ((a, oe) :: pn)) sts (fun D σ H => ∃ dd, (cls = .ref C ∧ d = some dd) ∧ ts dd D σ H) :=
  ⟨fun pins s σ H D I hq => by
    obtain ⟨dd, ⟨rfl, rfl⟩, q⟩ := hq
    exact (h dd hz).run pins s σ H D I q⟩
end

/-- what a def owes that refuses a text: the error with its two fields -/
def fE (C : Addr) (E : XK) (H : Hp) (l c : Int) : Prop := ∀ (d : Addr) (H' : Hp), Same H H' → H' d = some (.xd [("column", .int c), ("line", .int l)]) → E (.ref C) (some d) H'
theorem fE.same {C : Addr} {E : XK} {H H' : Hp} {l c : Int} (h : fE C E H l c) (s : Same H H') : fE C E H' l c := fun d H2 s2 e => h d H2 (s.trans s2) e
theorem pss_no {X : Cx} {b : List Stmt} : PSs X b (fun _ _ _ => False) := ⟨fun _ _ _ _ _ _ h => h.elim⟩

section
open PySem PySem.Spec PySem.Calls PyProof.Rows PySem.W
section
variable {prog : Program} {w : World} {A : Around} {E : Value → Shared → Prop} {s : Shared} {K : Frag} {xe Ck : Addr} {ox : Obj}
/-- the class of an error that has a dict, asked by isinstance -/
theorem tp_class {Q : Option Value → Shared → Prop} {dt : Obj} (C : L2.ExcC K Ck) (X : K.In s.heap) (I : InstAt s.heap xe ox Ck (some dt)) (h : Q (some (.ref Ck)) { s with toks := s.toks + 1 }) :
    wpAny (model prog w) A (getAttr? (.ref xe) "__class__") Q E s := by
  have hcl : (clsIn K Ck).isSome = true := by
    obtain ⟨cd, e, _⟩ := any_some C.hd
    rw [e]; rfl
  have hfo : findObj K Ck (some dt) "__class__" = some (.bind (.builtin "getset_descriptor.__get__") (.builtin "object.__class__")) := findObj_data hcl C.ha C.hn C.ht
  obtain ⟨hp, gs, dw, tk, os⟩ := s
  have lT := I.type (M := model prog w); have lG := looks_findIn (M := model prog w) X C.hg
  have lA := looks_findIn (M := model prog w) X C.hk; have lF := looks_find (M := model prog w) X I hfo
  have lS : Looks (model prog w) hp (isInstance (.ref xe) (.type "BaseException")) true := lT.andThen (looks_subIn X C.hs)
  have n0 : (false && onTheHeap (Value.builtin "BaseException.__getattribute__")) = false := rfl
  have n1 : (onTheHeap (Value.ref Ck) && Value.builtin "BaseException.__getattribute__" == Value.builtin "object.__getattribute__") = false := by
    rw [show (Value.builtin "BaseException.__getattribute__" == Value.builtin "object.__getattribute__") = false by decide +kernel]; rfl
  unfold getAttr? getAttrBy? getAttrBy; refine wpAny_bind (wpAny_mkText (wpAny_bind (wpAny_attempt (wpAny_holding (wpAny_bind (lT.at (wpAny_bind (lG.at ?_))))))))
  show wpAny _ _ (if (onTheHeap (Value.ref Ck) && Value.builtin "BaseException.__getattribute__" == Value.builtin "object.__getattribute__") = true then _ else _) _ _ _
  rw [n1, if_neg Bool.false_ne_true]
  unfold getAttrByItsOwn hookBefore; refine wpAny_bind ?_
  rw [if_pos (show onTheHeap (Value.ref Ck) = true from rfl)]
  refine lA.at (wpAny_bind (wpAny_attempt (wpAny_holding ?_)))
  unfold callGetattribute
  rw [n0, if_neg Bool.false_ne_true]
  unfold boundAndCalled
  rw [PySem.F.excAttr_ValueError.ga.bind (.ref xe)]
  refine wpAny_bind (wpAny_pure ?_)
  show wpAny _ _ (call (.builtin "BaseException.__getattribute__") [.ref xe, .str "__class__" tk]) _ _ _
  refine wpAny_call (codeAny_call_builtin PySem.F.excAttr_ValueError.ga.plain PySem.F.entry_bexc_ga ?_)
  refine @check_slot (model prog w) _ _ ⟨hp, gs, dw, tk + 1, os⟩ "BaseException.__getattribute__" "BaseException" "__getattribute__" (.ref xe) [.str "__class__" tk] [] _ (by decide +kernel) (by decide +kernel) lS (PySem.F.args_bexc_ga (.ref xe) (.str "__class__" tk)) ?_
  unfold Builtin.«object.__getattribute__»
  refine wpAny_bind (wpAny_of_eq (a := ((Value.ref xe : Value), [Value.str "__class__" tk])) (by first | rfl | (simp only [slotArgs]; rfl)) ?_)
  refine wpAny_bind (wpAny_pure (wpAny_bind (lT.at (wpAny_bind (lF.at ?_)))))
  show wpAny _ _ (holding [Value.builtin "object.__class__"] (call (.builtin "getset_descriptor.__get__") [.builtin "object.__class__", .ref xe, .ref Ck]) >>= ret) _ _ _
  refine wpAny_bind (wpAny_holding (wpAny_call (class_get (s := ⟨hp, gs, dw, tk + 1, os⟩) (ox := ox) (od := some dt) X I C.hm ?_)))
  refine wpAny_pure ?_
  show wpAny _ _ (handedOut (.ref Ck)) _ _ _
  rw [handedOut_of (v := .ref Ck) rfl]
  first
    | exact wpAny_pure (wpAny_pure h)
    | exact wpAny_pure h
    | exact wpAny_pure (wpAny_bind (wpAny_pure (wpAny_pure h)))
theorem xd_kit {dt : Obj} (C : L2.ExcC K Ck) : KitX K (.ref xe) (.ref Ck) (fun h => InstAt h xe ox Ck (some dt)) where
  ty := fun _ _ _ I => I.type
  ca := fun X I k => tp_class C X I k
  it := fun _ _ X _ => by
    obtain ⟨cdx, hcx, _⟩ := any_some C.hd
    unfold clsIn at hcx; split at hcx
    case h_2 => cases hcx
    case h_1 hlk =>
      intro A1 Q1 E1 s1 k q
      unfold isType loadHead; exact wpAny_bind (wpAny_loadPart (k _ _ (X _ _ hlk)) (wpAny_pure q))
  ne := fun h tp dd its n sl X htp => by
    obtain ⟨cdx, hcx, _⟩ := any_some C.hd
    rw [beq_eq_false_iff_ne]
    intro e
    obtain rfl : Ck = tp := Value.ref.inj e
    unfold clsIn at hcx; split at hcx
    case h_2 => cases hcx
    case h_1 hlk => cases (X _ _ hlk).symm.trans htp
end
end
section
open PySem PySem.Spec PyProof.Rows
/-- isinstance(e, c), e an error with its dict at dd -/
def rIsD (K : PySem.W.Frag) (C a dd : Addr) : List V → Hp → VK → Prop := fun xs H Q => ∃ (c : V) (cv : Value) (b : Bool) (fs : List (Str × V)), xs = [.ref a, c] ∧ (∀ u, RelV c u → u = cv) ∧ PySem.W.kitOne K (.ref C) cv = some b ∧ H dd = some (.xd fs) ∧ Q (.bl b) H
theorem call_isD {X : Cx} {a C dd : Addr} {oe : Obj} {pn : List (Addr × Obj)} (T : ExcC X.K C) (hz : Zc (.ref C) (some dd) oe) (hf : ∃ vs, oe.data = .fields vs) : CallR (X.suite a ((a, oe) :: pn)) (.builtin "isinstance") (rIsD X.K C a dd) := by
  intro pins s σ H xs us Q I r h
  obtain ⟨c, cv, b, fs, rfl, hcv, e, hdd, q⟩ := h
  match us, r with
  | [_, _], .cons rx (.cons rt .nil) =>
    cases rx
    obtain rfl := hcv _ rt
    have hg := (I.pin (a, oe) (List.mem_append_left _ List.mem_cons_self)).1
    obtain ⟨mA, hns, _⟩ : ObjOk X.prog X.w H s.heap dd (.xd fs) := I.hok dd _ hdd
    obtain ⟨od, ho, _⟩ := lookIn_ns hns
    obtain ⟨vs, hv⟩ := hf
    have J : PySem.W.InstAt s.heap a oe C (some od) := ⟨hg, hz.1, by unfold PySem.W.notCls; rw [hv], by rw [hz.2]; exact ho⟩
    exact PySem.W.kia_one (xd_kit T) I.kIn J e (fun z => nomatch z) fun tk => ⟨.bl b, H, I.kept (t' := tk) (fun _ _ y => y), rfl, q⟩
end

section
open SX
/-- how many signs from i on are among b -/
def dg (b a : List Nat) (i : Nat) : Nat := ((a.drop i).takeWhile fun c => decide (c ∈ b)).length
theorem tw_in {p : Nat → Bool} : ∀ {l : List Nat} {j : Nat}, j < (l.takeWhile p).length → ∃ c, l[j]? = some c ∧ p c = true
  | [], _, h => absurd h (Nat.not_lt_zero _)
  | c :: l, j, h => by
    rw [List.takeWhile_cons] at h
    by_cases hc : p c = true
    · rw [if_pos hc] at h
      cases j with
      | zero => exact ⟨c, rfl, hc⟩
      | succ j =>
        obtain ⟨d, h1, h2⟩ := tw_in (l := l) (j := j) (Nat.lt_of_succ_lt_succ h)
        exact ⟨d, h1, h2⟩
    · rw [if_neg hc] at h
      exact absurd h (Nat.not_lt_zero _)
theorem tw_out {p : Nat → Bool} : ∀ {l : List Nat} {c : Nat}, l[(l.takeWhile p).length]? = some c → p c = false
  | [], _, h => by cases h
  | d :: l, c, h => by
    rw [List.takeWhile_cons] at h
    by_cases hd : p d = true
    · rw [if_pos hd, List.length_cons, List.getElem?_cons_succ] at h
      exact tw_out h
    · rw [if_neg hd] at h
      obtain rfl : d = c := Option.some.inj h
      exact Bool.eq_false_iff.mpr hd
theorem tw_len {p : Nat → Bool} (l : List Nat) : (l.takeWhile p).length ≤ l.length := by
  induction l with
  | nil => exact Nat.le_refl _
  | cons c l ih =>
    rw [List.takeWhile_cons]
    split
    · rw [List.length_cons, List.length_cons]
      omega
    · exact Nat.zero_le _
theorem dg_le {b a : List Nat} {i : Nat} (h : i ≤ a.length) : i + dg b a i ≤ a.length := by
  have h1 := tw_len (p := fun c => decide (c ∈ b)) (a.drop i)
  rw [List.length_drop] at h1
  unfold dg
  omega
theorem dg_in {b a : List Nat} {i j : Nat} (h : j < dg b a i) : ∃ c, a[i + j]? = some c ∧ c ∈ b := by
  obtain ⟨c, h1, h2⟩ := tw_in h
  rw [List.getElem?_drop] at h1
  exact ⟨c, h1, of_decide_eq_true h2⟩
theorem dg_out {b a : List Nat} {i c : Nat} (h : a[i + dg b a i]? = some c) : c ∉ b := by
  have h1 : (a.drop i)[((a.drop i).takeWhile fun c => decide (c ∈ b)).length]? = some c := by
    rw [List.getElem?_drop]
    exact h
  exact of_decide_eq_false (tw_out h1)
theorem cut_S {a : List Nat} {i n : Nat} (h : i + n ≤ a.length) : cutS (S a) (some ((i : Nat) : Int)) (some ((i + n : Nat) : Int)) = S ((a.drop i).take n) := by
  unfold cutS
  rw [HT.sIx_nat, HT.sIx_nat, S_len, show min i a.length = i by omega, show min (i + n) a.length = i + n by omega, show i + n - i = n by omega]
theorem cut_to {a : List Nat} {n : Nat} : cutS (S a) none (some ((n : Nat) : Int)) = S (a.take n) := by
  unfold cutS
  rw [HT.sIx_nat, HT.sIx_none, S_len, List.drop_zero, Nat.sub_zero]
  refine congrArg S ?_
  rcases Nat.le_total n a.length with h | h
  · rw [show min n a.length = n by omega]
  · rw [show min n a.length = a.length by omega, List.take_of_length_le (Nat.le_refl _), List.take_of_length_le h]
theorem cut_from {a : List Nat} {n : Nat} : cutS (S a) (some ((n : Nat) : Int)) none = S (a.drop n) := by
  unfold cutS
  rw [HT.sIx_nat, HT.sIx_none, S_len]
  refine congrArg S ?_
  show (a.drop (min n a.length)).take (a.length - min n a.length) = a.drop n
  rcases Nat.le_total n a.length with h | h
  · rw [show min n a.length = n by omega, List.take_of_length_le (by rw [List.length_drop]; omega)]
  · rw [show min n a.length = a.length by omega, List.drop_of_length_le h, List.drop_of_length_le (Nat.le_refl _), List.take_nil]
def D10 : List Nat := [48, 49, 50, 51, 52, 53, 54, 55, 56, 57]
theorem D10_S : ("0123456789" : Str) = S D10 := by decide +kernel
theorem mem_D10 {c : Nat} (h : c ∈ D10) : 48 ≤ c ∧ c ≤ 57 := by
  simp only [D10, List.mem_cons, List.not_mem_nil, or_false] at h
  omega
theorem D10_mem {c : Nat} (h : 48 ≤ c ∧ c ≤ 57) : c ∈ D10 := by
  simp only [D10, List.mem_cons, List.not_mem_nil, or_false]
  omega
/-- the number that n digits from i on tell -/
def dv10 (a : List Nat) (i n : Nat) : Nat := NumText.digitsVal ((a.drop i).take n)
theorem fold_lt : ∀ (l : List Nat) (x k : Nat), (∀ c ∈ l, 48 ≤ c ∧ c ≤ 57) → x < 10 ^ k → l.foldl (fun acc c => acc * 10 + (c - 48)) x < 10 ^ (k + l.length)
  | [], _, _, _, h => h
  | c :: l, x, k, hc, h => by
    rw [List.foldl_cons, List.length_cons, show k + (l.length + 1) = (k + 1) + l.length by omega]
    refine fold_lt l _ _ (fun d hd => hc d (List.mem_cons_of_mem _ hd)) ?_
    have := hc c List.mem_cons_self
    rw [Nat.pow_succ]
    omega
theorem slice_dig {a : List Nat} {i n : Nat} (h : n ≤ dg D10 a i) : ∀ c ∈ (a.drop i).take n, 48 ≤ c ∧ c ≤ 57 := by
  intro c hc
  obtain ⟨j, hj⟩ := List.mem_iff_getElem?.mp hc
  rw [List.getElem?_take] at hj
  by_cases hjn : j < n
  · rw [if_pos hjn, List.getElem?_drop] at hj
    obtain ⟨d, h1, h2⟩ := dg_in (b := D10) (a := a) (i := i) (j := j) (by omega)
    rw [hj] at h1
    rw [Option.some.inj h1]
    exact mem_D10 h2
  · rw [if_neg hjn] at hj
    cases hj
theorem dv_lt {a : List Nat} {i n : Nat} (h : n ≤ dg D10 a i) : dv10 a i n < 10 ^ n := by
  have := fold_lt ((a.drop i).take n) 0 0 (slice_dig h) (by decide)
  refine Nat.lt_of_lt_of_le this (Nat.pow_le_pow_right (by decide) ?_)
  rw [List.length_take]
  omega
theorem dv_int {a : List Nat} {i n : Nat} (h : n ≤ dg D10 a i) (h0 : 0 < n) (h12 : n ≤ 600) (hi : i + n ≤ a.length) : PySem.intText? (S ((a.drop i).take n)) = some ((dv10 a i n : Nat) : Int) := by
  have hl : ((a.drop i).take n).length = n := by
    rw [List.length_take, List.length_drop]
    omega
  refine PySem.intText_digits (x := S ((a.drop i).take n)) (slice_dig h) (fun e => ?_) ?_
  · have := congrArg List.length e
    rw [hl] at this
    simp at this
    omega
  · rw [S_len, hl]
    omega
end
section
open SX
theorem op_addS {X : Cx} : OpR X (binaryOp .Add) (fun x y H Q => ∃ a b : List Nat, x = .str (S a) ∧ y = .str (S b) ∧ a.length + b.length ≤ 100000 ∧ Q (.str (S (a ++ b))) H) := by
  intro pins s σ H x y v u Q I rx ry h
  obtain ⟨a, b, rfl, rfl, hz, q⟩ := h
  refine op_add_str pins s σ H _ _ v u Q I rx ry ⟨S a, S b, rfl, rfl, ?_, ?_⟩
  · rw [S_len, S_len, PySem.sizeLine_eq]
    omega
  · rw [S_cat]
    exact q
theorem lit_minus : ("-" : Str) = S [45] := by decide +kernel
theorem lit_slash : ("/" : Str) = S [47] := by decide +kernel
theorem lit_nil : ("" : Str) = S [] := by decide +kernel
theorem S_ne {a b : List Nat} (h : ¬ decide (V.str (S a) = V.str (S b)) = true) : a ≠ b := fun e => h (decide_eq_true (by rw [e]))
theorem S_eq {a b : List Nat} (h : decide (V.str (S a) = V.str (S b)) = true) : a = b := S_inj (V.str.inj (of_decide_eq_true h))
end

section
open SX
theorem tw_app {p : Nat → Bool} : ∀ {l r : List Nat}, (∀ c ∈ l, p c = true) → (∀ c, r.head? = some c → p c = false) → (l ++ r).takeWhile p = l
  | [], r, _, h => by
    cases r with
    | nil => rfl
    | cons c r =>
      rw [List.nil_append, List.takeWhile_cons, if_neg (by rw [h c rfl]; exact Bool.false_ne_true)]
  | c :: l, r, h1, h2 => by
    rw [List.cons_append, List.takeWhile_cons, if_pos (h1 c List.mem_cons_self), tw_app (fun d hd => h1 d (List.mem_cons_of_mem _ hd)) h2]
theorem numL_D10 (n : Nat) : ∀ c ∈ TL.numL n, decide (c ∈ D10) = true := fun c hc => decide_eq_true (D10_mem (TL.numL_digits n c hc))
/-- the digits of a number, behind what stands in front, up to what is no digit -/
theorem dg_num {p r : List Nat} {n : Nat} (hr : ∀ c, r.head? = some c → c ∉ D10) : dg D10 (p ++ (TL.numL n ++ r)) p.length = (TL.numL n).length := by
  unfold dg
  rw [List.drop_left, tw_app (numL_D10 n) fun c hc => decide_eq_false (hr c hc)]
theorem dv_num {p r : List Nat} {n : Nat} : dv10 (p ++ (TL.numL n ++ r)) p.length (TL.numL n).length = n := by
  unfold dv10
  rw [List.drop_left, List.take_left, TL.numL_val]
theorem num_head {n : Nat} {r : List Nat} : (TL.numL n ++ r)[0]? ≠ some 45 := by
  intro h
  cases e : TL.numL n with
  | nil => exact TL.numL_ne n e
  | cons c l =>
    rw [e] at h
    have hc := TL.numL_digits n c (by rw [e]; exact List.mem_cons_self)
    have : c = 45 := Option.some.inj h
    omega
theorem str_int (i : Int) : Str.ofString (toString i) = S ((if i < 0 then [45] else []) ++ TL.numL i.natAbs) := by
  cases i with
  | ofNat n =>
    rw [if_neg (show ¬ Int.ofNat n < 0 from Int.not_lt.mpr (Int.natCast_nonneg n))]
    exact num_S n
  | negSucc n =>
    rw [if_pos (Int.negSucc_lt_zero n)]
    have e : toString (Int.negSucc n) = "-" ++ toString (((n + 1 : Nat)) : Int) := rfl
    rw [e]
    refine TL.ext_tl ?_
    have h2 := congrArg (fun x : Str => x.cps.toList) (num_S (n + 1))
    show (Str.ofString ("-" ++ toString (((n + 1 : Nat)) : Int))).cps.toList = [45] ++ TL.numL (n + 1)
    rw [← (show _ = TL.numL (n + 1) from h2)]
    rw [PySem.Str.ofString_eq_toList, PySem.Str.ofString_eq_toList]
    show (("-" ++ toString (((n + 1 : Nat)) : Int)).toList.map Char.toNat) = [45] ++ ((toString (((n + 1 : Nat)) : Int)).toList.map Char.toNat)
    rw [String.toList_append, List.map_append]
    rfl
end

section
open PySem PySem.Spec PyProof.Rows PySem.Builtin PySem.Builtin.Str
section
variable {prog : Program} {w : World} {A : Around} {E : Value → Shared → Prop} {s : Shared}
/-- what a text joins of a list gone through from its end -/
theorem join_rev {g : Str} {tg : Tok} {ri la : Addr} {us : Array Value} {ys : List Str} {Q : Value → Shared → Prop} (hcalm : A.handled = none) (hri : s.heap.IsRevIter ri la ((us.size : Int) - 1)) (hla : s.heap.IsList la us) (hne : la ≠ ri) (hfew : us.size ≤ sizeLine)
    (hys : ∀ acc : Array Value, ItemsOf (fun i v => us[us.size - 1 - i]? = some v) acc us.size → StrsAre acc.toList ys) (hfit : (ys.map (·.length)).sum + ys.length * g.length ≤ 16777216)
    (hq : ∀ h' k t', (∀ b o, b ≠ ri → s.heap.get? b = some o → h'.get? b = some o) → Q (.str (Txt.join g ys) t') { s with heap := h', toks := k }) :
    wpAny (model prog w) A (call (.builtin "str.join") [.str g tg, .ref ri]) Q E s := by
  have chk := F.slot_str_join.check (M := model prog w)
  refine wpAny_call (codeAny_call_builtin F.slot_str_join.plain F.entry_str_join
    (chk _ _ _ _ _ _ _ (typeIs_str _ _ _) (F.args_str_join_2 _ _) ?_))
  rw [join_tree_other]
  refine wpAny_bind (wpAny_typeOf hri.typeIs ?_)
  show wpAny _ A.in1 ((pyIter (.ref ri)).tryCatch _ >>= fun u => collect u >>= fun row => joinTail g row) _ _ s
  refine wpAny_bind (wpAny_tryCatch (wpAny_pyIter_revIter hri ?_))
  have hc1 : A.in1.handled = none := hcalm
  refine wpAny_bind (RT.collect_rev hc1 hri hla hne hfew fun h' k acc hk hacc => ?_)
  obtain ⟨row, er, et⟩ := strsAre_values (hys acc hacc)
  subst et
  rw [er]
  have fit2 := joinOk_of hfit
  unfold JoinOk at fit2
  rw [Bool.not_eq_true'] at fit2
  have gv : Gives (joinTail g (strValues row)) (joinMade g row) := by
    have g1 := gives_joinTail g row fit2
    cases row with
    | nil => exact g1
    | cons p r =>
      cases r with
      | nil => exact g1
      | cons q r' => exact g1
  exact gv prog w A (wants Q E) _ (post_join row ⟨joinFit_length fit2, fun t' k2 => hq h' k2 t' hk⟩)
end
section
variable {X : Cx}
theorem strs_of : ∀ {us : List Value} {ys : List Str}, Vals (ys.map V.str) us → StrsAre us ys
  | [], [], _ => .nil
  | _ :: _, _ :: _, .cons r t => by
    obtain ⟨k, rfl⟩ := r
    exact .cons _ k (strs_of t)
/-- g.join(reversed(x)), x a list of texts -/
def tJoinRev (K : PySem.W.Frag) (to te : TE) : TE := fun σ H Q => to σ H fun x H1 => (∃ g, x = .str g) ∧ te σ H1 fun v H2 => ∃ (g : Str) (la : Addr) (ys : List Str),
  x = .str g ∧ v = .ref la ∧ SqL K H2 la (ys.map V.str) ∧ (ys.map (·.length)).sum + ys.length * g.length ≤ 16777216 ∧ Q (.str (Txt.join g ys.reverse)) H2
theorem pe_joinRev {o e : Expr} {to te : TE} {apos pos p2 pos2 : Pos} (hc : X.calm = true) (ho : PE X o to) (hg2 : Gl X "reversed") (hm2 : X.mg "reversed" = none) (he : PE X e te)
    (hs1 : starEach [.Call (.Name "reversed" p2) [e] [] pos2] X.env = [(false, eval (.Call (.Name "reversed" p2) [e] [] pos2) X.env)] := by rfl)
    (hs : starEach [e] X.env = (false, eval e X.env) :: starEach [] X.env := by rfl)
    (hbase : attributeBase o "join" X.env (eval o X.env) = eval o X.env := by rfl) (hline : (apos.endLine == pos.line) = true := by rfl) :
    PE X (.Call (.Attribute o "join" apos) [.Call (.Name "reversed" p2) [e] [] pos2] [] pos) (tJoinRev X.K to te) := by
  refine ⟨fun pins s σ H Q I h => ?_⟩
  refine PySem.Call_method1 hbase hs1 hline (thn (ho.run pins s σ H _ I h) fun v0 s1 ⟨x, H1, I1, r1, q1⟩ => ?_)
  obtain ⟨⟨g, rfl⟩, q1⟩ := q1
  obtain ⟨t, rfl⟩ := _root_.id r1
  refine ⟨"str", _, F.plainAttrs_str, F.slot_str_join, F.type_str_join, typeIs_str _ _ _, (fun _ e => nomatch e),
    Calls.callWith_builtin rfl (Calls.evalArgs_plain (Calls.spliced_cons ?_))⟩
  refine Call_ (ld_blt I1 hg2 hm2 PyProof.Rows.boot_reversed
    (PyProof.Rows.callWith_type1 (args_cons (thn (he.run pins s1 σ H1 _ I1 q1) fun u s2 ⟨v, H2, I2, r2, q2⟩ => args_nil ?_) hs) hs rfl))
  obtain ⟨g', la, ys, eg, ev, hq, hfit, q3⟩ := q2
  cases eg
  subst ev
  obtain rfl : u = Value.ref la := r2
  obtain ⟨us, rv, pl, hz⟩ := I2.list hq
  refine call_reversed_list pl.isList (Calls.spliced_nil ?_)
  have kp : ∀ b ob, s2.heap.get? b = some ob → (s2.heap.push (revObj la ((us.toArray.size : Int) - 1))).get? b = some ob := fun b ob z => Heap.get?_push_of_some _ z
  have I3 : Inv X pins σ H2 { s2 with heap := s2.heap.push (revObj la ((us.toArray.size : Int) - 1)) } := I2.kept (t' := s2.toks) kp
  obtain ⟨f0, f1, f2, f3, f4, f5⟩ := I2.fpOk (H' := H2) (b := s2.heap.objs.size) (Nat.le_refl _) (I2.hok.fresh (Nat.le_refl _))
  have hl := pl.isList
  obtain ⟨ol, hol, _⟩ := id hl
  have hne : la ≠ s2.heap.objs.size := Nat.ne_of_lt (Heap.lt_size hol)
  have hfew : us.toArray.size ≤ sizeLine := by
    rw [List.size_toArray, ← rv.length]
    exact hz
  refine join_rev (ys := ys.reverse) (s := { s2 with heap := s2.heap.push (revObj la ((us.toArray.size : Int) - 1)) }) (I2.ok.hd hc) ⟨_, Heap.get?_push_size _ rfl, rfl, rfl⟩ (hl.push _) hne hfew (fun acc hacc => ?_) ?_ (fun h' k t' hk => ?_)
  · have r4 := RT.vals_rev rv hacc
    rw [← List.map_reverse] at r4
    exact strs_of r4
  · rw [List.map_reverse, List.sum_reverse, List.length_reverse]
    exact hfit
  · exact ⟨.str _, H2, I3.turned (t' := k) (fun b ob hb z => hk b ob hb z) f0 f1 f3 f4 f5, ⟨t', rfl⟩, q3⟩
end
end


section
variable {P : Program} {w : World} {K : PySem.W.Frag} {mg : Str → Option Value} {base : Heap}
theorem okIni {C fIni : Addr} {fdIni : FuncData} (F : Fun K "__init__" "TextFault.__init__" sIni fIni fdIni) (ox : OexC K C) (nl : PySem.W.findIn K (.ref C) "line" = some none) (nc : PySem.W.findIn K (.ref C) "column" = some none) :
    FnOk P w K mg base CX0 1 fIni fdIni ["self", "line", "column"] (spFIni K C) := by
  refine F.ok scIni (fun vs H Q E h => ?_) (fun cdv A outer s H vs Q E hr h => ?_)
  · obtain ⟨a, l, c, rfl, ha, k⟩ := h
    rfl
  · obtain ⟨a, l, c, rfl, ha, k⟩ := h
    refine ⟨_, (pss_cons (ps_ost (pv 0) (pv 1)) (pss_one (ps_ost (pv 0) (pv 2)))), ?_⟩
    refine ⟨_, rfl, _, rfl, a, C, rfl, ox, nl, .inl ⟨ha, fun dx hd hda => ?_⟩⟩
    have e1 : (upd (upd H dx (exd dx [("line", .int l)])) a (exo a C (some dx))) a = some (exo a C (some dx)) := upd_same
    have e2 : (upd (upd H dx (exd dx [("line", .int l)])) a (exo a C (some dx))) dx = some (exd dx [("line", .int l)]) := by
      rw [upd_ne hda, upd_same]
    refine ⟨_, rfl, _, rfl, a, C, rfl, ox, nc, .inr ⟨dx, _, e1, e2, by show 1 ≤ 900; decide, ?_⟩⟩
    refine k dx _ hd hda (by rw [upd_ne hda.symm]; exact e1) upd_same (fun b o b1 b2 e => ?_)
    rw [upd_ne b2, upd_ne b1, upd_ne b2]
    exact e
open SX (S)
def spRowEnd (K : PySem.W.Frag) : Sp := fun vs H Q _ => ∃ (a b : List Nat) (i : Nat), vs = [.str (S a), .int i, .str (S b)] ∧ a.length ≤ 3000 ∧ i ≤ a.length ∧ Q (.int ((i + dg b a i : Nat) : Int)) H
theorem okRowEnd {fRowEnd : Addr} {fdRowEnd : FuncData} (F : Fun K "row_end" "row_end" sRowEnd fRowEnd fdRowEnd) (T : Txt mg) {aDIGITS : Tok} {aMOST_DIGITS : Tok} (CT : Cons K mg aDIGITS aMOST_DIGITS) {CPartError CTextFault CNought CBeyond : Addr} (EX : Exns K mg CPartError CTextFault CNought CBeyond) {fIni : Addr} {fdIni : FuncData} (FL : Flt K mg CPartError CTextFault CNought CBeyond fIni) (GIni : FnOk P w K mg base CX0 1 fIni fdIni ["self", "line", "column"] (spFIni K CTextFault)) (bIni : Binds K fdIni ["self", "line", "column"] []) :
    FnOk P w K mg base CX0 1 fRowEnd fdRowEnd ["text", "at", "allowed"] (spRowEnd K) := by
  refine F.ok scRowEnd (fun vs H Q E h => ?_) (fun cdv A outer s H vs Q E hr h => ?_)
  · obtain ⟨a, b, i, rfl, hlen, hi, k⟩ := h
    rfl
  · obtain ⟨a, b, i, rfl, hlen, hi, k⟩ := h
    refine ⟨_, (C8.pss_cut (ps_while PassesOwn.never (PW.pt (pw_and (pt_cmpR op_lt (pv 1) (pe_callB call_len_str (by rfl) T.len PySem.boot_len (pa_cons (pv 0) pa_nil)) (nomark _)) (pw_and1 (pt_cmpR op_in_sign (pe_ix ix_str (pv 0) (pv 1) (fun _ _ => rfl)) (pv 2) (by rfl)))))
        (pss_one (ps_aug (i := 1) scRowEnd.nd rfl (.inl rfl) pe_int ip_add)))
      (pss_one (ps_ret (pv 1)))), ?_⟩
    have hz : (S a).length ≤ sizeLine := by
      rw [SX.S_len, PySem.sizeLine_eq]
      omega
    refine ⟨fun σ' H' => σ' = [some (.str (S a)), some (.int ((i + dg b a i : Nat) : Int)), some (.str (S b))] ∧ H' = H, ?_, ?_⟩
    · refine ⟨fun m σ' H' => ∃ j, m = dg b a i - j ∧ j ≤ dg b a i ∧ σ' = [some (.str (S a)), some (.int ((i + j : Nat) : Int)), some (.str (S b))] ∧ H' = H, ⟨_, 0, rfl, Nat.zero_le _, rfl, rfl⟩, ?_⟩
      rintro m σ' H' ⟨j, rfl, hj, rfl, rfl⟩
      refine ⟨_, rfl, _, rfl, S a, rfl, hz, _, _, rfl, rfl, _, rfl, ?_⟩
      refine ite2 (fun g => ?_) (fun g => ?_)
      · have hlt : i + j < a.length := by
          have g1 := of_decide_eq_true g
          rw [SX.S_len] at g1
          omega
        obtain ⟨c, hc⟩ : ∃ c, a[i + j]? = some c := ⟨a[i + j], List.getElem?_eq_getElem hlt⟩
        refine ⟨_, rfl, _, rfl, S a, _, c, rfl, rfl, hz, atI_nat hc, _, rfl, c, S b, rfl, rfl, _, rfl, ite2 (fun g => ?_) (fun g => ?_)⟩
        · have hb : c ∈ b := of_decide_eq_true g
          have hj2 : j < dg b a i := by
            rcases Nat.lt_or_ge j (dg b a i) with h | h
            · exact h
            · exfalso
              have e : j = dg b a i := by omega
              subst e
              exact dg_out hc hb
          refine ⟨fun σ' H2 => σ' = [some (.str (S a)), some (.int ((i + (j + 1) : Nat) : Int)), some (.str (S b))] ∧ H2 = H', ?_, ?_⟩
          · rintro σ' H2 ⟨rfl, rfl⟩
            exact ⟨_, by omega, j + 1, rfl, hj2, rfl, rfl⟩
          · walk_at "rd"
            rfl
        · have hb : c ∉ b := of_decide_eq_false (by simpa using g)
          have e : j = dg b a i := by
            rcases Nat.lt_or_ge j (dg b a i) with h | h
            · exfalso
              obtain ⟨d, h1, h2⟩ := dg_in h
              rw [hc] at h1
              rw [← Option.some.inj h1] at h2
              exact hb h2
            · omega
          subst e
          exact ⟨rfl, rfl⟩
      · have hge : a.length ≤ i + j := by
          have g1 : ¬ ((i + j : Nat) : Int) < ((S a).length : Int) := fun z => g (decide_eq_true z)
          rw [SX.S_len] at g1
          omega
        have h1 := dg_le (b := b) hi
        have e : j = dg b a i := by omega
        subst e
        exact ⟨rfl, rfl⟩
    · rintro σ' H' ⟨rfl, rfl⟩
      exact ⟨_, rfl, k⟩
open SX (S)
def spFraction (K : PySem.W.Frag) : Sp := fun vs H Q _ => ∃ n d : Int, vs = [.int n, .int d] ∧ d.natAbs < 2 ^ 2000 ∧ d ≠ 0 ∧ ∀ (H' : Hp) (t : Addr), Same H H' → Fx K H' t (Rat.divInt n d) → Q (.ref t) H'
theorem okFraction {fFraction : Addr} {fdFraction : FuncData} (F : FunD K "fraction" "fraction" (defArgs sFraction) (defBody sFraction) (defScope sFraction) [.int 1] [] fFraction fdFraction) (T : Txt mg) {aDIGITS : Tok} {aMOST_DIGITS : Tok} (CT : Cons K mg aDIGITS aMOST_DIGITS) {CPartError CTextFault CNought CBeyond : Addr} (EX : Exns K mg CPartError CTextFault CNought CBeyond) {fIni : Addr} {fdIni : FuncData} (FL : Flt K mg CPartError CTextFault CNought CBeyond fIni) (GIni : FnOk P w K mg base CX0 1 fIni fdIni ["self", "line", "column"] (spFIni K CTextFault)) (bIni : Binds K fdIni ["self", "line", "column"] []) :
    FnOk P w K mg base CX0 1 fFraction fdFraction ["number", "divisor"] (spFraction K) := by
  refine F.ok scFraction (fun vs H Q E h => ?_) (fun cdv A outer s H vs Q E hr h => ?_)
  · obtain ⟨n, d, rfl, hb, hd, q⟩ := h
    rfl
  · obtain ⟨n, d, rfl, hb, hd, q⟩ := h
    refine ⟨_, (pss_cons (ps_if (pt_cmpR op_eq (pv 1) pe_int (nomark _))
        (pss_one (ps_ret (pe_tup (pa_cons (pv 0) (pa_cons pe_int pa_nil)))))
        pss_nil)
      (pss_cons (ps_if (pt_cmpR op_eq (pv 1) pe_int (nomark _))
        pss_no
        pss_nil)
      (pss_cons (ps_set (i := 2) scFraction.nd rfl (Or.inl rfl) (pe_callBfun cr_gcd (by rfl) T.gcd (pa_cons (pv 0) (pa_cons (pv 1) pa_nil))))
      (C8.pss_cut (ps_if (pt_cmpR op_lt (pv 1) pe_int (nomark _))
        (pss_one (ps_set (i := 2) scFraction.nd rfl (Or.inl rfl) (pe_un un_neg (pv 2))))
        pss_nil)
      (pss_one (ps_ret (pe_tup (pa_cons (pe_op op_fdivX (pv 0) (pv 2)) (pa_cons (pe_op op_fdivX (pv 1) (pv 2)) pa_nil))))))))), ?_⟩
    walk_at "rd"
    refine ite2 (fun g1 => ?_) (fun g1 => ?_)
    · obtain rfl : d = 1 := eq_of_dec g1
      refine ⟨_, rfl, by show 2 ≤ sizeLine; decide, fun t ht => ?_⟩
      exact q _ t (same_upd ht) (fx_rd (by decide) (by unfold rd2; rw [rd_one]; exact upd_same))
    walk_at "rd"
    refine ite2 (fun g => absurd (eq_of_dec g) hd) (fun g => ?_)
    · refine ⟨_, rfl, _, rfl, n, d, rfl, ?_⟩
      refine ⟨fun σ' H' => σ' = [some (.int n), some (.int d), some (.int (sg n d))] ∧ H' = H, ?_, ?_⟩
      · walk_at "rd"
        refine ite2 (fun g2 => ?_) (fun g2 => ?_)
        · refine ⟨_, rfl, _, rfl, ?_, rfl⟩
          unfold sg
          rw [if_pos (of_decide_eq_true g2)]
          rfl
        · refine ⟨?_, rfl⟩
          unfold sg
          rw [if_neg (fun z => g2 (decide_eq_true z))]
          rfl
      · rintro σ' H' ⟨rfl, rfl⟩
        have hs := sg_ne (n := n) hd
        have hsb : (sg n d).natAbs < 2 ^ 2000 := by
          rw [sg_abs]
          exact Nat.lt_of_le_of_lt (Nat.le_of_dvd (by omega) (Nat.gcd_dvd_right _ _)) hb
        refine ⟨_, rfl, _, rfl, _, _, rfl, rfl, wide_divx hs hsb (by decide) (by decide), _, rfl, _, rfl, _, _, rfl, rfl, wide_divx hs hsb (by decide) (by decide), by show 2 ≤ sizeLine; decide, fun t ht => ?_⟩
        exact q _ t (same_upd ht) (fx_rd hd upd_same)
def spNegative (K : PySem.W.Frag) : Sp := fun vs H Q _ => ∃ (a : Addr) (r : Rat), vs = [.ref a] ∧ Fx K H a r ∧ ∀ (H' : Hp) (t : Addr), Same H H' → Fx K H' t (-r) → Q (.ref t) H'
theorem okNegative {fNegative : Addr} {fdNegative : FuncData} (F : Fun K "negative" "negative" sNegative fNegative fdNegative) (T : Txt mg) {aDIGITS : Tok} {aMOST_DIGITS : Tok} (CT : Cons K mg aDIGITS aMOST_DIGITS) {CPartError CTextFault CNought CBeyond : Addr} (EX : Exns K mg CPartError CTextFault CNought CBeyond) {fIni : Addr} {fdIni : FuncData} (FL : Flt K mg CPartError CTextFault CNought CBeyond fIni) (GIni : FnOk P w K mg base CX0 1 fIni fdIni ["self", "line", "column"] (spFIni K CTextFault)) (bIni : Binds K fdIni ["self", "line", "column"] []) :
    FnOk P w K mg base CX0 1 fNegative fdNegative ["a"] (spNegative K) := by
  refine F.ok scNegative (fun vs H Q E h => ?_) (fun cdv A outer s H vs Q E hr h => ?_)
  · obtain ⟨a, r, rfl, hA, k⟩ := h
    rfl
  · obtain ⟨a, r, rfl, hA, k⟩ := h
    refine ⟨_, (pss_one (ps_ret (pe_tup (pa_cons (pe_un un_neg (pe_ix ix_tup (pv 0) pe_int (fun _ _ => rfl))) (pa_cons (pe_ix ix_tup (pv 0) pe_int (fun _ _ => rfl)) pa_nil))))), ?_⟩
    refine ⟨.ref a, rfl, a, _, 0, _, rfl, rfl, hA, atI_nat (j := 0) rfl, _, rfl, .ref a, rfl, a, _, 1, _, rfl, rfl, hA, atI_nat (j := 1) rfl, by show 2 ≤ sizeLine; decide, fun t ht => k _ t (same_upd ht) ?_⟩
    unfold Fx
    rw [Rat.neg_num, Rat.neg_den]
    exact SqT.of upd_same
theorem numL_log {n : Nat} (h : n < 10 ^ 20) : (n : Int).natAbs.log2 < 1920 := by
  rw [Int.natAbs_natCast]
  exact Nat.lt_of_lt_of_le (PySem.Flt.log2_lt_of (k := 70) (by decide) (Nat.lt_of_lt_of_le h (by decide))) (by decide)
theorem numL20 {n : Nat} (h : n < 10 ^ 20) : (TL.numL n).length ≤ 20 := TL.numL_len (by decide) h
theorem str_num (n : Nat) : V.str (Str.ofString (toString ((n : Nat) : Int))) = V.str (S (TL.numL n)) := congrArg V.str (SX.num_S n)
def spDecimal (K : PySem.W.Frag) : Sp := fun vs H Q _ => ∃ n : Nat, vs = [.int n] ∧ n < 10 ^ 20 ∧ ∀ H' : Hp, Same H H' → Q (.str (S (TL.numL n))) H'
theorem okDecimal {fDecimal : Addr} {fdDecimal : FuncData} (F : Fun K "decimal" "decimal" sDecimal fDecimal fdDecimal) (T : Txt mg) {aDIGITS : Tok} {aMOST_DIGITS : Tok} (CT : Cons K mg aDIGITS aMOST_DIGITS) {CPartError CTextFault CNought CBeyond : Addr} (EX : Exns K mg CPartError CTextFault CNought CBeyond) {fIni : Addr} {fdIni : FuncData} (FL : Flt K mg CPartError CTextFault CNought CBeyond fIni) (GIni : FnOk P w K mg base CX0 1 fIni fdIni ["self", "line", "column"] (spFIni K CTextFault)) (bIni : Binds K fdIni ["self", "line", "column"] []) :
    FnOk P w K mg base CX0 1 fDecimal fdDecimal ["number"] (spDecimal K) := by
  refine F.ok scDecimal (fun vs H Q E h => ?_) (fun cdv A outer s H vs Q E hr h => ?_)
  · obtain ⟨n, rfl, hn, k⟩ := h
    rfl
  · obtain ⟨n, rfl, hn, k⟩ := h
    refine ⟨_, (pss_cons (ps_set (i := 1) scDecimal.nd rfl (Or.inl rfl) (pe_lst pa_nil))
      (C8.pss_cut (ps_while PassesOwn.never (pt_cmpR op_ge (pv 0) (pe_op op_pow pe_int pe_int) (nomark _))
        pss_no)
      (pss_cons (ps_expr (pe_bm PySem.F.plainAttrs_list PySem.F.slot_list_append PySem.F.type_list_append mt_append (pv 1) (pa_cons (pe_callTy call_str_int (by rfl) T.str (by decide +kernel) (pa_cons (pv 0) pa_nil)) pa_nil)))
      (pss_one (ps_ret (pe_joinRev (by rfl) pe_str (by rfl) T.reversed (pv 1))))))), ?_⟩
    refine ⟨by show 0 ≤ sizeLine; decide, fun l hl => ?_⟩
    have s1 : Same H (upd H l (.lst [])) := same_upd hl
    refine ⟨fun σ' H' => σ' = [some (.int (n : Int)), some (.ref l), none] ∧ H' = upd H l (.lst []), ?_, ?_⟩
    · refine ⟨fun m σ' H' => σ' = [some (.int (n : Int)), some (.ref l), none] ∧ H' = upd H l (.lst []), ⟨0, rfl, rfl⟩, ?_⟩
      rintro m σ' H' ⟨rfl, rfl⟩
      walk_at "rd"
      refine ite2 (fun g => ?_) (fun _ => ⟨rfl, rfl⟩)
      exfalso
      have g1 := of_decide_eq_true g
      have e : (10 : Int) ^ Int.toNat 64 = ((10 ^ 64 : Nat) : Int) := by decide
      rw [e] at g1
      have h2 : (10 : Nat) ^ 20 < 10 ^ 64 := by decide
      generalize (10 : Nat) ^ 64 = B at g1 h2
      generalize (10 : Nat) ^ 20 = A at hn h2
      omega
    rintro σ' H' ⟨rfl, rfl⟩
    refine ⟨.ref l, rfl, .inl ⟨rfl, _, SqL.of upd_same⟩, _, rfl, _, rfl, numL_log hn, l, _, _, rfl, rfl, upd_same, by show 0 < sizeLine; decide, ?_⟩
    rw [str_num]
    refine ⟨⟨_, rfl⟩, .ref l, rfl, _, l, [S (TL.numL n)], rfl, rfl, SqL.of upd_same, ?_, ?_⟩
    · have := numL20 hn
      show (S (TL.numL n)).length + 0 + 1 * 0 ≤ 16777216
      rw [SX.S_len]
      omega
    · have e : Txt.join ("" : Str) [S (TL.numL n)].reverse = S (TL.numL n) := by
        have := SX.join_S [] [TL.numL n]
        exact this
      rw [e]
      refine k _ (fun b o z => ?_)
      rw [upd_ne (ne_of_none z hl), upd_ne (ne_of_none z hl)]
      exact z
/-- the text of a fraction -/
def tdl (r : Rat) : List Nat := (if r.num < 0 then [45] else []) ++ (TL.numL r.num.natAbs ++ if r.den = 1 then [] else 47 :: TL.numL r.den)
def spTold (K : PySem.W.Frag) : Sp := fun vs H Q _ => ∃ (a : Addr) (r : Rat), vs = [.ref a] ∧ Fx K H a r ∧ r.num.natAbs < 10 ^ 20 ∧ r.den < 10 ^ 20 ∧ ∀ H' : Hp, Same H H' → Q (.str (S (tdl r))) H'
theorem okTold {fTold : Addr} {fdTold : FuncData} (F : Fun K "told" "told" sTold fTold fdTold) (T : Txt mg) {aDIGITS : Tok} {aMOST_DIGITS : Tok} (CT : Cons K mg aDIGITS aMOST_DIGITS) {CPartError CTextFault CNought CBeyond : Addr} (EX : Exns K mg CPartError CTextFault CNought CBeyond) {fIni : Addr} {fdIni : FuncData} (FL : Flt K mg CPartError CTextFault CNought CBeyond fIni) (GIni : FnOk P w K mg base CX0 1 fIni fdIni ["self", "line", "column"] (spFIni K CTextFault)) (bIni : Binds K fdIni ["self", "line", "column"] [])
    {fDecimal : Addr} {fdDecimal : FuncData} (GDecimal : FnOk P w K mg base CX0 1 fDecimal fdDecimal ["number"] (spDecimal K)) (gDecimal : mg "decimal" = some (.ref fDecimal)) (kpDecimal : PySem.W.keepIn K (.ref fDecimal) = true) (bDecimal : Binds K fdDecimal ["number"] []) :
    FnOk P w K mg base CX0 2 fTold fdTold ["a"] (spTold K) := by
  refine F.ok scTold (fun vs H Q E h => ?_) (fun cdv A outer s H vs Q E hr h => ?_)
  · obtain ⟨a, r, rfl, hA, hn, hd, k⟩ := h
    rfl
  · obtain ⟨a, r, rfl, hA, hn, hd, k⟩ := h
    refine ⟨_, (pss_cons (ps_asg (pv 0) (pg_tup rfl (pgs_cons (pg_name (i := 1) scTold.nd rfl (Or.inl rfl)) (pgs_cons (pg_name (i := 2) scTold.nd rfl (Or.inl rfl)) pgs_nil))))
      (pss_cons (ps_set (i := 3) scTold.nd rfl (Or.inl rfl) (pe_call GDecimal hr (by rfl) gDecimal kpDecimal bDecimal .nil pass0 (pa_cons (pe_callB call_abs (by rfl) T.abs (by decide +kernel) (pa_cons (pv 1) pa_nil)) pa_nil)))
      (C8.pss_cut (ps_if (pt_cmpR op_lt (pv 1) pe_int (nomark _))
        (pss_one (ps_set (i := 3) scTold.nd rfl (Or.inl rfl) (pe_op op_addS pe_str (pv 3))))
        pss_nil)
      (C8.pss_cut (ps_if (pt_cmpR op_ne (pv 2) pe_int (nomark _))
        (pss_one (ps_set (i := 3) scTold.nd rfl (Or.inl rfl) (pe_op op_addS (pe_op op_addS (pv 3) pe_str) (pe_call GDecimal hr (by rfl) gDecimal kpDecimal bDecimal .nil pass0 (pa_cons (pv 2) pa_nil)))))
        pss_nil)
      (pss_one (ps_ret (pv 3))))))), ?_⟩
    have ez : (if r.num < 0 then -r.num else r.num) = ((r.num.natAbs : Nat) : Int) := by
      split <;> omega
    have l1 := numL20 hn
    have l2 := numL20 hd
    refine ⟨_, rfl, a, _, rfl, hA, rfl, _, _, rfl, _, _, rfl, rfl, ?_⟩
    refine ⟨_, rfl, _, rfl, r.num.natAbs, congrArg (fun z => [V.int z]) ez, hn, fun H1 s1 => ?_⟩
    refine ⟨fun σ' H' => σ' = [some (.ref a), some (.int r.num), some (.int (r.den : Int)), some (.str (S ((if r.num < 0 then [45] else []) ++ TL.numL r.num.natAbs)))] ∧ H' = H1, ?_, ?_⟩
    · refine ⟨_, rfl, _, _, rfl, rfl, _, rfl, ite2 (fun g => ?_) (fun g => ?_)⟩
      · refine ⟨_, rfl, [45], _, congrArg V.str lit_minus, rfl, by show 1 + _ ≤ _; omega, ?_, rfl⟩
        rw [if_pos (of_decide_eq_true g)]
        rfl
      · rw [if_neg (fun z => g (decide_eq_true z))]
        exact ⟨rfl, rfl⟩
    rintro σ' H2 ⟨rfl, rfl⟩
    refine ⟨fun σ' H' => σ' = [some (.ref a), some (.int r.num), some (.int (r.den : Int)), some (.str (S (tdl r)))] ∧ Same H2 H', ?_, ?_⟩
    · refine ⟨_, rfl, rfl, _, rfl, ite2 (fun g => ?_) (fun g => ?_)⟩
      · have hd1 : ¬ r.den = 1 := fun z => ne_of_bang g (by rw [z]; rfl)
        have l3 : ((if r.num < 0 then [45] else []) ++ TL.numL r.num.natAbs).length ≤ 30 := by
          rw [List.length_append]
          split
          · show 1 + _ ≤ _
            omega
          · show 0 + _ ≤ _
            omega
        refine ⟨_, rfl, _, [47], rfl, congrArg V.str lit_slash, by show _ + 1 ≤ _; omega, ?_⟩
        refine ⟨_, rfl, r.den, rfl, hd, fun H3 s3 => ?_⟩
        refine ⟨_, _, rfl, rfl, by rw [List.length_append]; show _ + 1 + _ ≤ _; omega, ?_, s3⟩
        unfold tdl
        rw [if_neg hd1]
        simp only [List.append_assoc, List.cons_append, List.nil_append]
        rfl
      · have hd1 : r.den = 1 := by
          have := eq_of_nobang g
          omega
        refine ⟨?_, Same.refl _⟩
        have e : tdl r = (if r.num < 0 then [45] else []) ++ TL.numL r.num.natAbs := by
          unfold tdl
          rw [if_pos hd1, List.append_nil]
        rw [e]
    rintro σ' H3 ⟨rfl, s3⟩
    exact ⟨_, rfl, k _ (s1.trans s3)⟩
def spReadDigits (K : PySem.W.Frag) (CTextFault : Addr) : Sp := fun vs H Q E => ∃ (a : List Nat) (i : Nat), vs = [.str (S a), .int i] ∧ a.length ≤ 600 ∧ i ≤ a.length ∧ (dg D10 a i = 0 ∨ 12 < dg D10 a i → fE CTextFault E H 1 ((i : Int) + 1)) ∧
  (0 < dg D10 a i → dg D10 a i ≤ 12 → ∀ (H' : Hp) (t : Addr), Same H H' → H' t = some (.tup [.int (dv10 a i (dg D10 a i) : Nat), .int ((i + dg D10 a i : Nat) : Int)]) → Q (.ref t) H')
theorem okReadDigits {fReadDigits : Addr} {fdReadDigits : FuncData} (F : Fun K "read_digits" "read_digits" sReadDigits fReadDigits fdReadDigits) (T : Txt mg) {aDIGITS : Tok} {aMOST_DIGITS : Tok} (CT : Cons K mg aDIGITS aMOST_DIGITS) {CPartError CTextFault CNought CBeyond : Addr} (EX : Exns K mg CPartError CTextFault CNought CBeyond) {fIni : Addr} {fdIni : FuncData} (FL : Flt K mg CPartError CTextFault CNought CBeyond fIni) (GIni : FnOk P w K mg base CX0 1 fIni fdIni ["self", "line", "column"] (spFIni K CTextFault)) (bIni : Binds K fdIni ["self", "line", "column"] [])
    {fRowEnd : Addr} {fdRowEnd : FuncData} (GRowEnd : FnOk P w K mg base CX0 1 fRowEnd fdRowEnd ["text", "at", "allowed"] (spRowEnd K)) (gRowEnd : mg "row_end" = some (.ref fRowEnd)) (kpRowEnd : PySem.W.keepIn K (.ref fRowEnd) = true) (bRowEnd : Binds K fdRowEnd ["text", "at", "allowed"] []) :
    FnOk P w K mg base (L2.CX P w) 3 fReadDigits fdReadDigits ["text", "at"] (spReadDigits K CTextFault) := by
  refine F.okX scReadDigits (fun vs H Q E h => ?_) (fun cdv A outer s H vs Q E hr h => ?_)
  · obtain ⟨a, i, rfl, hlen, hi, he, k⟩ := h
    rfl
  · obtain ⟨a, i, rfl, hlen, hi, he, k⟩ := h
    refine ⟨_, (pss_cons (ps_set (i := 2) scReadDigits.nd rfl (Or.inl rfl) (pe_call GRowEnd (hr.mono (by decide)) (by rfl) gRowEnd kpRowEnd bRowEnd .nil pass0 (pa_cons (pv 0) (pa_cons (pv 1) (pa_cons (pe_glob (v := .str "0123456789") (by rfl) CT.gDIGITS ⟨_, rfl⟩) pa_nil)))))
      (pss_cons (ps_if (PW.pt (pw_or (pt_cmpR op_eq (pv 2) (pv 1) (nomark _)) (pw_or1 (pt_cmpR op_gt (pe_op op_sub (pv 2) (pv 1)) (pe_glob (v := .int 12) (by rfl) CT.gMOST_DIGITS ⟨_, rfl⟩) (nomark _)))))
        (pss_one (ps_raise rfl (takes_of rfl rfl rfl rfl) (pmk_oex FL.ox FL.iC FL.tI GIni (hr.mono (by decide)) bIni .nil pass0 (by rfl) FL.g (pa_cons pe_int (pa_cons (pe_op op_add (pv 1) pe_int) pa_nil)))))
        pss_nil)
      (pss_one (ps_ret (pe_tup (pa_cons (pe_callTy call_int_str (by rfl) T.int (by decide +kernel) (pa_cons (pe_slice sl_str (pv 0) (po_some (pv 1)) (po_some (pv 2))) pa_nil)) (pa_cons (pv 2) pa_nil))))))), ?_⟩
    have hz : (S a).length ≤ sizeLine := by
      rw [SX.S_len, PySem.sizeLine_eq]
      omega
    have hle := dg_le (b := D10) hi
    refine ⟨_, rfl, _, rfl, a, D10, i, congrArg (fun z => [V.str (S a), V.int (i : Int), V.str z]) D10_S, by omega, hi, ?_⟩
    refine ⟨_, rfl, _, rfl, rfl, _, rfl, ite2 (fun g => ?_) (fun g => ?_)⟩
    · have g1 := eq_of_dec g
      exact ⟨_, rfl, _, _, rfl, rfl, fault_mk fun d H' s1 _ e1 => he (.inl (by omega)) d H' s1 e1⟩
    · have g1 := ne_of_nodec g
      refine ⟨_, rfl, _, rfl, _, _, rfl, rfl, _, _, rfl, rfl, _, rfl, ite2 (fun g2 => ?_) (fun g2 => ?_)⟩
      · have g3 := of_decide_eq_true g2
        exact ⟨_, rfl, _, _, rfl, rfl, fault_mk fun d H' s1 _ e1 => he (.inr (by omega)) d H' s1 e1⟩
      · have g3 : ¬ (12 : Int) < ((i + dg D10 a i : Nat) : Int) - (i : Int) := fun z => g2 (decide_eq_true z)
        have p0 : 0 < dg D10 a i := by omega
        have p12 : dg D10 a i ≤ 12 := by omega
        refine ⟨_, rfl, _, rfl, _, rfl, _, rfl, _, rfl, S a, rfl, hz, _, _, rfl, ?_, ?_, _, rfl, by show 2 ≤ sizeLine; decide, fun t nt => k p0 p12 _ t (same_upd nt) upd_same⟩
        · rw [cut_S hle]
          exact dv_int (Nat.le_refl _) p0 (by omega) hle
        · rw [cut_S hle, SX.S_len, List.length_take]
          omega
/-- what a ratio from i on tells: the column of its fault, or its worth and its end -/
def ratio (a : List Nat) (i : Nat) : Nat ⊕ (Rat × Nat) :=
  if dg D10 a i = 0 ∨ 12 < dg D10 a i then .inl (i + 1)
  else if a[i + dg D10 a i]? = some 47 then
    if dg D10 a (i + dg D10 a i + 1) = 0 ∨ 12 < dg D10 a (i + dg D10 a i + 1) then .inl (i + dg D10 a i + 2)
    else if dv10 a (i + dg D10 a i + 1) (dg D10 a (i + dg D10 a i + 1)) = 0 then .inl (i + dg D10 a i + 2)
    else .inr (Rat.divInt (dv10 a i (dg D10 a i) : Nat) (dv10 a (i + dg D10 a i + 1) (dg D10 a (i + dg D10 a i + 1)) : Nat), i + dg D10 a i + 1 + dg D10 a (i + dg D10 a i + 1))
  else .inr (Rat.divInt (dv10 a i (dg D10 a i) : Nat) 1, i + dg D10 a i)
theorem dv_12 {a : List Nat} {i : Nat} (h : dg D10 a i ≤ 12) : dv10 a i (dg D10 a i) < 10 ^ 12 := Nat.lt_of_lt_of_le (dv_lt (Nat.le_refl _)) (Nat.pow_le_pow_right (by decide) h)
theorem ten2000 : (10 : Nat) ^ 12 < 2 ^ 2000 := Nat.lt_of_lt_of_le (show (10 : Nat) ^ 12 < 2 ^ 40 by decide) (Nat.pow_le_pow_right (by decide) (by decide))
theorem lit_ne {c : Nat} (h : (!decide (V.str ⟨#[c]⟩ = V.str (Str.ofString "/"))) = true) : c ≠ 47 := fun e => by
  subst e
  have : (V.str ⟨#[47]⟩) = V.str (Str.ofString "/") := congrArg V.str lit_slash.symm
  rw [decide_eq_true this] at h
  cases h
theorem lit_eq {c : Nat} (h : ¬ (!decide (V.str ⟨#[c]⟩ = V.str (Str.ofString "/"))) = true) : c = 47 := by
  by_cases e : V.str ⟨#[c]⟩ = V.str (Str.ofString "/")
  · have e2 : S [c] = S [47] := (V.str.inj e).trans lit_slash
    have := SX.S_inj e2
    injection this
  · exfalso
    rw [decide_eq_false e] at h
    exact h rfl
def spReadRatio (K : PySem.W.Frag) (CTextFault : Addr) : Sp := fun vs H Q E => ∃ (a : List Nat) (i : Nat), vs = [.str (S a), .int i] ∧ a.length ≤ 600 ∧ i ≤ a.length ∧ (∀ c : Nat, ratio a i = .inl c → fE CTextFault E H 1 (c : Int)) ∧
  (∀ (r : Rat) (e : Nat), ratio a i = .inr (r, e) → ∀ (H' : Hp) (t q : Addr), Same H H' → Fx K H' q r → H' t = some (.tup [.ref q, .int (e : Int)]) → Q (.ref t) H')
theorem okReadRatio {fReadRatio : Addr} {fdReadRatio : FuncData} (F : Fun K "read_ratio" "read_ratio" sReadRatio fReadRatio fdReadRatio) (T : Txt mg) {aDIGITS : Tok} {aMOST_DIGITS : Tok} (CT : Cons K mg aDIGITS aMOST_DIGITS) {CPartError CTextFault CNought CBeyond : Addr} (EX : Exns K mg CPartError CTextFault CNought CBeyond) {fIni : Addr} {fdIni : FuncData} (FL : Flt K mg CPartError CTextFault CNought CBeyond fIni) (GIni : FnOk P w K mg base CX0 1 fIni fdIni ["self", "line", "column"] (spFIni K CTextFault)) (bIni : Binds K fdIni ["self", "line", "column"] [])
    {fReadDigits : Addr} {fdReadDigits : FuncData} (GReadDigits : FnOk P w K mg base (L2.CX P w) 3 fReadDigits fdReadDigits ["text", "at"] (spReadDigits K CTextFault)) (gReadDigits : mg "read_digits" = some (.ref fReadDigits)) (kpReadDigits : PySem.W.keepIn K (.ref fReadDigits) = true) (bReadDigits : Binds K fdReadDigits ["text", "at"] [])
    {fFraction : Addr} {fdFraction : FuncData} (GFraction : FnOk P w K mg base CX0 1 fFraction fdFraction ["number", "divisor"] (spFraction K)) (gFraction : mg "fraction" = some (.ref fFraction)) (kpFraction : PySem.W.keepIn K (.ref fFraction) = true) (bFraction : Binds K fdFraction ["number", "divisor"] []) {dsFraction : List Value} (vdFraction : Vals [.int 1] dsFraction) (bdFraction : Binds K fdFraction ["number", "divisor"] dsFraction) :
    FnOk P w K mg base (L2.CX P w) 4 fReadRatio fdReadRatio ["text", "at"] (spReadRatio K CTextFault) := by
  refine F.okX scReadRatio (fun vs H Q E h => ?_) (fun cdv A outer s H vs Q E hr h => ?_)
  · obtain ⟨a, i, rfl, hlen, hi, he, k⟩ := h
    rfl
  · obtain ⟨a, i, rfl, hlen, hi, he, k⟩ := h
    refine ⟨_, (pss_cons (ps_asg (pe_call GReadDigits hr (by rfl) gReadDigits kpReadDigits bReadDigits .nil (passes_call (takes_of rfl rfl rfl rfl) (fun _ _ _ _ h => h)) (pa_cons (pv 0) (pa_cons (pv 1) pa_nil))) (pg_tup rfl (pgs_cons (pg_name (i := 2) scReadRatio.nd rfl (Or.inl rfl)) (pgs_cons (pg_name (i := 3) scReadRatio.nd rfl (Or.inl rfl)) pgs_nil))))
      (pss_cons (ps_if (PW.pt (pw_or (pt_cmpR op_eq (pv 3) (pe_callB call_len_str (by rfl) T.len PySem.boot_len (pa_cons (pv 0) pa_nil)) (nomark _)) (pw_or1 (pt_cmpR op_ne (pe_ix ix_str (pv 0) (pv 3) (fun _ _ => rfl)) pe_str (nomark _)))))
        (pss_one (ps_ret (pe_tup (pa_cons (pe_call GFraction (hr.mono (by decide)) (by rfl) gFraction kpFraction bdFraction vdFraction pass0 (pa_cons (pv 2) pa_nil)) (pa_cons (pv 3) pa_nil)))))
        pss_nil)
      (pss_cons (ps_set (i := 4) scReadRatio.nd rfl (Or.inl rfl) (pe_op op_add (pv 3) pe_int))
      (pss_cons (ps_asg (pe_call GReadDigits hr (by rfl) gReadDigits kpReadDigits bReadDigits .nil (passes_call (takes_of rfl rfl rfl rfl) (fun _ _ _ _ h => h)) (pa_cons (pv 0) (pa_cons (pv 4) pa_nil))) (pg_tup rfl (pgs_cons (pg_name (i := 5) scReadRatio.nd rfl (Or.inl rfl)) (pgs_cons (pg_name (i := 3) scReadRatio.nd rfl (Or.inl rfl)) pgs_nil))))
      (pss_cons (ps_if (pt_cmpR op_eq (pv 5) pe_int (nomark _))
        (pss_one (ps_raise rfl (takes_of rfl rfl rfl rfl) (pmk_oex FL.ox FL.iC FL.tI GIni (hr.mono (by decide)) bIni .nil pass0 (by rfl) FL.g (pa_cons pe_int (pa_cons (pe_op op_add (pv 4) pe_int) pa_nil)))))
        pss_nil)
      (pss_one (ps_ret (pe_tup (pa_cons (pe_call GFraction (hr.mono (by decide)) (by rfl) gFraction kpFraction bFraction .nil pass0 (pa_cons (pv 2) (pa_cons (pv 5) pa_nil))) (pa_cons (pv 3) pa_nil)))))))))), ?_⟩
    have hz : (S a).length ≤ sizeLine := by
      rw [SX.S_len, PySem.sizeLine_eq]
      omega
    have hle := dg_le (b := D10) hi
    refine ⟨_, rfl, _, rfl, a, i, rfl, hlen, hi, fun h => he _ (by unfold ratio; rw [if_pos h]), fun p0 p12 H1 t1 s1 e1 => ?_⟩
    have n1 : ¬ (dg D10 a i = 0 ∨ 12 < dg D10 a i) := by omega
    have v1 := dv_12 p12
    refine ⟨t1, _, rfl, SqT.of e1, rfl, _, _, rfl, _, _, rfl, rfl, ?_⟩
    have plain : a[i + dg D10 a i]? ≠ some 47 → ∀ (H2 : Hp) (q : Addr), Same H1 H2 → Fx K H2 q (Rat.divInt (dv10 a i (dg D10 a i) : Nat) 1) → ∀ t, H2 t = none → Q (.ref t) (upd H2 t (.tup [.ref q, .int ((i + dg D10 a i : Nat) : Int)])) := fun h47 H2 q s2 f2 t nt => by
      have s3 := same_upd (o := .tup [.ref q, .int ((i + dg D10 a i : Nat) : Int)]) nt
      exact k _ _ (by unfold ratio; rw [if_neg n1, if_neg h47]) _ t q (s1.trans (s2.trans s3)) (f2.same s3) upd_same
    have fr1 : ∀ k : Prop, k → k := fun _ h => h
    refine ⟨_, rfl, _, rfl, S a, rfl, hz, rfl, _, rfl, ite2 (fun g => ?_) (fun g => ?_)⟩
    · have g1 := eq_of_dec g
      rw [SX.S_len] at g1
      have h47 : a[i + dg D10 a i]? ≠ some 47 := by
        rw [List.getElem?_eq_none (by omega)]
        exact fun z => nomatch z
      refine ⟨_, rfl, ((dv10 a i (dg D10 a i) : Nat) : Int), 1, rfl, by show 1 < 2 ^ 2000; exact Nat.one_lt_two_pow (by decide), by decide, fun H2 q s2 f2 => ?_⟩
      exact ⟨_, rfl, by show 2 ≤ sizeLine; decide, fun t nt => plain h47 H2 q s2 f2 t nt⟩
    · have g1 := ne_of_nodec g
      rw [SX.S_len] at g1
      have hlt : i + dg D10 a i < a.length := by omega
      obtain ⟨c, hc⟩ : ∃ c, a[i + dg D10 a i]? = some c := ⟨_, List.getElem?_eq_getElem hlt⟩
      refine ⟨_, rfl, _, rfl, S a, _, c, rfl, rfl, hz, atI_nat hc, rfl, _, rfl, ite2 (fun g => ?_) (fun g => ?_)⟩
      · have hc47 := lit_ne g
        have h47 : a[i + dg D10 a i]? ≠ some 47 := by
          rw [hc]
          exact fun z => hc47 (Option.some.inj z)
        refine ⟨_, rfl, ((dv10 a i (dg D10 a i) : Nat) : Int), 1, rfl, by show 1 < 2 ^ 2000; exact Nat.one_lt_two_pow (by decide), by decide, fun H2 q s2 f2 => ?_⟩
        exact ⟨_, rfl, by show 2 ≤ sizeLine; decide, fun t nt => plain h47 H2 q s2 f2 t nt⟩
      · have hc47 := lit_eq g
        subst hc47
        have hle2 := dg_le (b := D10) (a := a) (i := i + dg D10 a i + 1) (by omega)
        refine ⟨_, rfl, _, _, rfl, rfl, ?_⟩
        refine ⟨_, rfl, _, rfl, a, i + dg D10 a i + 1, rfl, hlen, by omega, fun h => (he (i + dg D10 a i + 2) (by unfold ratio; rw [if_neg n1, if_pos hc, if_pos h])).same s1, fun q0 q12 H2 t2 s2 e2 => ?_⟩
        have n2 : ¬ (dg D10 a (i + dg D10 a i + 1) = 0 ∨ 12 < dg D10 a (i + dg D10 a i + 1)) := by omega
        have v2 := dv_12 q12
        refine ⟨t2, _, rfl, SqT.of e2, rfl, _, _, rfl, _, _, rfl, rfl, ?_⟩
        refine ⟨_, rfl, rfl, _, rfl, ite2 (fun g => ?_) (fun g => ?_)⟩
        · have g1 := eq_of_dec g
          have g2 : dv10 a (i + dg D10 a i + 1) (dg D10 a (i + dg D10 a i + 1)) = 0 := by omega
          have hf := ((he (i + dg D10 a i + 2) (by unfold ratio; rw [if_neg n1, if_pos hc, if_neg n2, if_pos g2])).same s1).same s2
          exact ⟨_, rfl, _, _, rfl, rfl, fault_mk fun d H' s3 _ e3 => hf d H' s3 e3⟩
        · have g1 := ne_of_nodec g
          have g2 : ¬ dv10 a (i + dg D10 a i + 1) (dg D10 a (i + dg D10 a i + 1)) = 0 := by omega
          refine ⟨_, rfl, _, rfl, ((dv10 a i (dg D10 a i) : Nat) : Int), ((dv10 a (i + dg D10 a i + 1) (dg D10 a (i + dg D10 a i + 1)) : Nat) : Int), rfl, by rw [Int.natAbs_natCast]; exact Nat.lt_trans v2 ten2000, by omega, fun H3 q s3 f3 => ?_⟩
          refine ⟨_, rfl, by show 2 ≤ sizeLine; decide, fun t nt => ?_⟩
          have s4 := same_upd (o := .tup [.ref q, .int ((i + dg D10 a i + 1 + dg D10 a (i + dg D10 a i + 1) : Nat) : Int)]) nt
          exact k _ _ (by unfold ratio; rw [if_neg n1, if_pos hc, if_neg n2, if_neg g2]) _ t q (s1.trans (s2.trans (s3.trans s4))) (f3.same s4) upd_same
theorem starts_one (a : List Nat) (c : Nat) : Txt.startswith (S a) (S [c]) = decide (a[0]? = some c) := by
  unfold Txt.startswith
  rw [PySem.StrLaws.subAt_eq]
  cases a with
  | nil => simp [SX.S_len]
  | cons d l =>
    show (decide (0 + (S [c]).length ≤ (S (d :: l)).length) && (((d :: l).drop 0).take (S [c]).length == [c])) = decide (some d = some c)
    rw [SX.S_len, SX.S_len, decide_eq_true (by simp)]
    by_cases h : d = c
    · subst h
      simp
    · simp [h]
/-- 1 where a text begins with a minus -/
def sg0 (a : List Nat) : Nat := if a[0]? = some 45 then 1 else 0
theorem sg0_le (a : List Nat) : sg0 a ≤ a.length := by
  unfold sg0
  cases a with
  | nil => simp
  | cons d l =>
    rw [List.length_cons]
    split <;> omega
theorem ratio_le {a : List Nat} {i e : Nat} {r : Rat} (hi : i ≤ a.length) (h : ratio a i = .inr (r, e)) : e ≤ a.length := by
  have h1 := dg_le (b := D10) hi
  unfold ratio at h
  split at h
  · cases h
  · split at h
    · rename_i h47
      have hlt : i + dg D10 a i < a.length := (List.getElem?_eq_some_iff.mp h47).1
      have h2 := dg_le (b := D10) (a := a) (i := i + dg D10 a i + 1) (by omega)
      split at h
      · cases h
      · split at h
        · cases h
        · cases h
          exact h2
    · cases h
      exact h1
/-- what a fraction's text tells: the column of its fault, or its worth -/
def rdf (a : List Nat) : Nat ⊕ Rat :=
  match ratio a (sg0 a) with
  | .inl c => .inl c
  | .inr (r, e) => if e < a.length then .inl (e + 1) else .inr (if a[0]? = some 45 then -r else r)
def spReadFraction (K : PySem.W.Frag) (CTextFault : Addr) : Sp := fun vs H Q E => ∃ a : List Nat, vs = [.str (S a)] ∧ a.length ≤ 600 ∧ (∀ c : Nat, rdf a = .inl c → fE CTextFault E H 1 (c : Int)) ∧
  (∀ r : Rat, rdf a = .inr r → ∀ (H' : Hp) (q : Addr), Same H H' → Fx K H' q r → Q (.ref q) H')
theorem okReadFraction {fReadFraction : Addr} {fdReadFraction : FuncData} (F : Fun K "read_fraction" "read_fraction" sReadFraction fReadFraction fdReadFraction) (T : Txt mg) {aDIGITS : Tok} {aMOST_DIGITS : Tok} (CT : Cons K mg aDIGITS aMOST_DIGITS) {CPartError CTextFault CNought CBeyond : Addr} (EX : Exns K mg CPartError CTextFault CNought CBeyond) {fIni : Addr} {fdIni : FuncData} (FL : Flt K mg CPartError CTextFault CNought CBeyond fIni) (GIni : FnOk P w K mg base CX0 1 fIni fdIni ["self", "line", "column"] (spFIni K CTextFault)) (bIni : Binds K fdIni ["self", "line", "column"] [])
    {fReadRatio : Addr} {fdReadRatio : FuncData} (GReadRatio : FnOk P w K mg base (L2.CX P w) 4 fReadRatio fdReadRatio ["text", "at"] (spReadRatio K CTextFault)) (gReadRatio : mg "read_ratio" = some (.ref fReadRatio)) (kpReadRatio : PySem.W.keepIn K (.ref fReadRatio) = true) (bReadRatio : Binds K fdReadRatio ["text", "at"] [])
    {fNegative : Addr} {fdNegative : FuncData} (GNegative : FnOk P w K mg base CX0 1 fNegative fdNegative ["a"] (spNegative K)) (gNegative : mg "negative" = some (.ref fNegative)) (kpNegative : PySem.W.keepIn K (.ref fNegative) = true) (bNegative : Binds K fdNegative ["a"] []) :
    FnOk P w K mg base (L2.CX P w) 5 fReadFraction fdReadFraction ["text"] (spReadFraction K CTextFault) := by
  refine F.okX scReadFraction (fun vs H Q E h => ?_) (fun cdv A outer s H vs Q E hr h => ?_)
  · obtain ⟨a, rfl, hlen, he, k⟩ := h
    rfl
  · obtain ⟨a, rfl, hlen, he, k⟩ := h
    refine ⟨_, (pss_cons (ps_set (i := 1) scReadFraction.nd rfl (Or.inl rfl) (pe_bm PySem.F.plainAttrs_str PySem.F.slot_str_startswith PySem.F.type_str_startswith mt_startswith (pv 0) (pa_cons pe_str pa_nil)))
      (C8.pss_cut (ps_set (i := 2) scReadFraction.nd rfl (Or.inl rfl) (pe_ifExp (pt_val (pv 1)) pe_int pe_int))
      (pss_cons (ps_asg (pe_call GReadRatio hr (by rfl) gReadRatio kpReadRatio bReadRatio .nil (passes_call (takes_of rfl rfl rfl rfl) (fun _ _ _ _ h => h)) (pa_cons (pv 0) (pa_cons (pv 2) pa_nil))) (pg_tup rfl (pgs_cons (pg_name (i := 3) scReadFraction.nd rfl (Or.inl rfl)) (pgs_cons (pg_name (i := 4) scReadFraction.nd rfl (Or.inl rfl)) pgs_nil))))
      (pss_cons (ps_if (pt_cmpR op_lt (pv 4) (pe_callB call_len_str (by rfl) T.len PySem.boot_len (pa_cons (pv 0) pa_nil)) (nomark _))
        (pss_one (ps_raise rfl (takes_of rfl rfl rfl rfl) (pmk_oex FL.ox FL.iC FL.tI GIni (hr.mono (by decide)) bIni .nil pass0 (by rfl) FL.g (pa_cons pe_int (pa_cons (pe_op op_add (pv 4) pe_int) pa_nil)))))
        pss_nil)
      (pss_one (ps_ret (pe_ifExp (pt_val (pv 1)) (pe_call GNegative (hr.mono (by decide)) (by rfl) gNegative kpNegative bNegative .nil pass0 (pa_cons (pv 3) pa_nil)) (pv 3)))))))), ?_⟩
    have hz : (S a).length ≤ sizeLine := by
      rw [SX.S_len, PySem.sizeLine_eq]
      omega
    refine ⟨_, rfl, rfl, S a, _, rfl, rfl, ?_⟩
    rw [show Txt.startswith (S a) (Str.ofString "-") = decide (a[0]? = some 45) from starts_one a 45]
    refine ⟨fun σ' H' => σ' = [some (.str (S a)), some (.bl (decide (a[0]? = some 45))), some (.int (sg0 a : Nat)), none, none] ∧ H' = H, ?_, ?_⟩
    · refine ⟨_, rfl, _, rfl, ite2 (fun g => ?_) (fun g => ?_)⟩
      · unfold sg0
        rw [if_pos (of_decide_eq_true g)]
        exact ⟨rfl, rfl⟩
      · unfold sg0
        rw [if_neg (fun z => g (decide_eq_true z))]
        exact ⟨rfl, rfl⟩
    rintro σ' H0 ⟨rfl, rfl⟩
    refine ⟨_, rfl, _, rfl, a, sg0 a, rfl, hlen, sg0_le a, fun c h => he c (by unfold rdf; rw [h]), fun r e h H1 t q s1 f1 e1 => ?_⟩
    have hel := ratio_le (sg0_le a) h
    refine ⟨t, _, rfl, SqT.of e1, rfl, _, _, rfl, _, _, rfl, rfl, ?_⟩
    refine ⟨_, rfl, _, rfl, S a, rfl, hz, _, _, rfl, rfl, _, rfl, ite2 (fun g => ?_) (fun g => ?_)⟩
    · have g1 := of_decide_eq_true g
      rw [SX.S_len] at g1
      have hlt : e < a.length := by omega
      have hf := (he (e + 1) (by unfold rdf; rw [h]; exact if_pos hlt)).same s1
      exact ⟨_, rfl, _, _, rfl, rfl, fault_mk fun d H' s3 _ e3 => hf d H' s3 e3⟩
    · have g1 : ¬ ((e : Int) < ((S a).length : Int)) := fun z => g (decide_eq_true z)
      rw [SX.S_len] at g1
      have hlt : ¬ e < a.length := by omega
      have hr : rdf a = .inr (if a[0]? = some 45 then -r else r) := by
        unfold rdf
        rw [h]
        exact if_neg hlt
      refine ⟨_, rfl, _, rfl, ite2 (fun g => ?_) (fun g => ?_)⟩
      · rw [if_pos (of_decide_eq_true g)] at hr
        exact ⟨_, rfl, q, r, rfl, f1, fun H2 q2 s2 f2 => k _ hr _ q2 (s1.trans s2) f2⟩
      · rw [if_neg (fun z => g (decide_eq_true z))] at hr
        exact ⟨_, rfl, k _ hr _ q s1 f1⟩
def spLLawNumber (K : PySem.W.Frag) : Sp := fun vs H Q _ => ∃ (a : Addr) (ns : List Int) (k : Nat), vs = [.ref a, .int k] ∧ SqL K H a (zs ns) ∧ ∀ c : Int, Q (.int c) H
theorem okLLawNumber {fLLawNumber : Addr} {fdLLawNumber : FuncData} (F : Fun K "_law_number" "_law_number" sLLawNumber fLLawNumber fdLLawNumber) (T : Txt mg) {aDIGITS : Tok} {aMOST_DIGITS : Tok} (CT : Cons K mg aDIGITS aMOST_DIGITS) {CPartError CTextFault CNought CBeyond : Addr} (EX : Exns K mg CPartError CTextFault CNought CBeyond) {fIni : Addr} {fdIni : FuncData} (FL : Flt K mg CPartError CTextFault CNought CBeyond fIni) (GIni : FnOk P w K mg base CX0 1 fIni fdIni ["self", "line", "column"] (spFIni K CTextFault)) (bIni : Binds K fdIni ["self", "line", "column"] []) :
    FnOk P w K mg base CX0 1 fLLawNumber fdLLawNumber ["script", "k"] (spLLawNumber K) := by
  refine F.ok scLLawNumber (fun vs H Q E h => ?_) (fun cdv A outer s H vs Q E hr h => ?_)
  · obtain ⟨a, ns, k, rfl, hS, q⟩ := h
    rfl
  · obtain ⟨a, ns, k, rfl, hS, q⟩ := h
    refine ⟨_, (C8.pss_cut (ps_set (i := 2) scLLawNumber.nd rfl (Or.inl rfl) (pe_ifExp (pt_cmpR op_lt (pv 1) (pe_callB call_len_seq (by rfl) T.len PySem.boot_len (pa_cons (pv 0) pa_nil)) (nomark _)) (pe_ix ix_list (pv 0) (pv 1) (fun _ _ => rfl)) (pe_op op_add (pe_op op_mul pe_int (pv 1)) pe_int)))
      (C8.pss_cut (ps_if (pt_cmpR op_lt (pv 2) pe_int (nomark _))
        (pss_one (ps_set (i := 2) scLLawNumber.nd rfl (Or.inl rfl) (pe_op op_sub (pe_op op_mul (pe_un un_neg pe_int) (pv 2)) pe_int)))
        pss_nil)
      (pss_cons (ps_if (pt_cmpR op_lt (pv 2) (pe_op op_pow pe_int pe_int) (nomark _))
        (pss_cons (ps_set (i := 3) scLLawNumber.nd rfl (Or.inl rfl) (pe_op op_mod (pe_callTy call_int1 (by rfl) T.int (by decide +kernel) (pa_cons (pe_op op_add (pe_op op_add (pe_op op_mul (pv 2) pe_int) (pe_op op_mul (pv 1) pe_int)) pe_int) pa_nil)) pe_int))
        (pss_cons (ps_set (i := 4) scLLawNumber.nd rfl (Or.inl rfl) (pe_op op_mod (pe_callTy call_int1 (by rfl) T.int (by decide +kernel) (pa_cons (pe_op op_add (pe_op op_add (pe_op op_mul (pv 3) pe_int) (pe_op op_mul (pv 2) pe_int)) (pv 1)) pa_nil)) pe_int))
        (pss_one (ps_ret (pe_op op_add (pe_op op_mul (pv 3) pe_int) (pv 4))))))
        pss_nil)
      (pss_one (ps_ret (pv 2)))))), ?_⟩
    refine ⟨fun σ' H' => ∃ c : Int, σ' = [some (.ref a), some (.int k), some (.int c), none, none] ∧ H' = H, ?_, ?_⟩
    · refine ⟨_, rfl, .ref a, rfl, a, _, rfl, .inl hS, _, _, rfl, rfl, _, rfl, ite2 (fun hlt => ?_) (fun _ => ?_)⟩
      · have h1 := of_decide_eq_true hlt
        rw [show zs ns = ns.map V.int from rfl, List.length_map] at h1
        have h2 : k < ns.length := by omega
        have h3 : (zs ns)[k]? = some (.int ns[k]) := by
          rw [show zs ns = ns.map V.int from rfl, List.getElem?_map, List.getElem?_eq_getElem h2]
          rfl
        exact ⟨.ref a, rfl, _, rfl, a, _, _, _, rfl, rfl, hS, atI_nat h3, _, rfl, rfl⟩
      · walk_at "rd"
        exact rfl
    · rintro σ' H' ⟨c, rfl, rfl⟩
      refine ⟨fun σ' H2 => ∃ c : Int, σ' = [some (.ref a), some (.int k), some (.int c), none, none] ∧ H2 = H', ?_, ?_⟩
      · walk_at "rd"
        refine ite2 (fun _ => ?_) (fun _ => ⟨_, rfl, rfl⟩)
        walk_at "rd"
        exact rfl
      · rintro σ' H2 ⟨c, rfl, rfl⟩
        walk_at "rd"
        refine ite2 (fun _ => ?_) (fun _ => ⟨_, rfl, q _⟩)
        walk_at "rd"
        exact q _
def spLLawFraction (K : PySem.W.Frag) : Sp := fun vs H Q _ => ∃ n d : Int, vs = [.int n, .int d] ∧ n.natAbs < 2 ^ 1800 ∧ d.natAbs < 2 ^ 1800 ∧ d ≠ 0 ∧ ∀ (H' : Hp) (t : Addr), Same H H' → H' t = some (.tup (zs (rd2 n d))) → Q (.ref t) H'
theorem okLLawFraction {fLLawFraction : Addr} {fdLLawFraction : FuncData} (F : Fun K "_law_fraction" "_law_fraction" sLLawFraction fLLawFraction fdLLawFraction) (T : Txt mg) {aDIGITS : Tok} {aMOST_DIGITS : Tok} (CT : Cons K mg aDIGITS aMOST_DIGITS) {CPartError CTextFault CNought CBeyond : Addr} (EX : Exns K mg CPartError CTextFault CNought CBeyond) {fIni : Addr} {fdIni : FuncData} (FL : Flt K mg CPartError CTextFault CNought CBeyond fIni) (GIni : FnOk P w K mg base CX0 1 fIni fdIni ["self", "line", "column"] (spFIni K CTextFault)) (bIni : Binds K fdIni ["self", "line", "column"] []) :
    FnOk P w K mg base CX0 1 fLLawFraction fdLLawFraction ["number", "divisor"] (spLLawFraction K) := by
  refine F.ok scLLawFraction (fun vs H Q E h => ?_) (fun cdv A outer s H vs Q E hr h => ?_)
  · obtain ⟨n, d, rfl, bn, bd, hd, k⟩ := h
    rfl
  · obtain ⟨n, d, rfl, bn, bd, hd, k⟩ := h
    refine ⟨_, (C8.pss_cut (ps_set (i := 2) scLLawFraction.nd rfl (Or.inl rfl) (pe_ifExp (pt_cmpR op_ge (pv 0) pe_int (nomark _)) (pv 0) (pe_un un_neg (pv 0))))
      (C8.pss_cut (ps_set (i := 3) scLLawFraction.nd rfl (Or.inl rfl) (pe_ifExp (pt_cmpR op_ge (pv 1) pe_int (nomark _)) (pv 1) (pe_un un_neg (pv 1))))
      (C8.pss_cut (ps_for PassesOwn.never rfl (pi_range1 rfl T.range (pa_cons (pe_op op_add (pe_op op_add (pe_op op_mul pe_int (pe_callB call_len_str (by rfl) T.len PySem.boot_len (pa_cons (pe_callTy call_str_int (by rfl) T.str (by decide +kernel) (pa_cons (pv 2) pa_nil)) pa_nil))) (pe_op op_mul pe_int (pe_callB call_len_str (by rfl) T.len PySem.boot_len (pa_cons (pe_callTy call_str_int (by rfl) T.str (by decide +kernel) (pa_cons (pv 3) pa_nil)) pa_nil)))) pe_int) pa_nil)) (pg_name (i := 4) scLLawFraction.nd rfl (Or.inl rfl))
        (pss_cons (ps_if (pt_cmpR op_eq (pv 3) pe_int (nomark _))
          (pss_one ps_break)
          pss_nil)
        (pss_cons (ps_set (i := 5) scLLawFraction.nd rfl (Or.inl rfl) (pe_op op_modN (pe_callTy call_int1 (by rfl) T.int (by decide +kernel) (pa_cons (pv 2) pa_nil)) (pv 3)))
        (pss_cons (ps_set (i := 2) scLLawFraction.nd rfl (Or.inl rfl) (pv 3))
        (pss_one (ps_set (i := 3) scLLawFraction.nd rfl (Or.inl rfl) (pv 5)))))))
      (C8.pss_cut (ps_if (pt_cmpR op_lt (pv 1) pe_int (nomark _))
        (pss_one (ps_set (i := 2) scLLawFraction.nd rfl (Or.inl rfl) (pe_un un_neg (pv 2))))
        pss_nil)
      (pss_one (ps_ret (pe_tup (pa_cons (pe_op op_fdivX (pv 0) (pv 2)) (pa_cons (pe_op op_fdivX (pv 1) (pv 2)) pa_nil))))))))), ?_⟩
    refine ⟨fun σ' H' => σ' = [some (.int n), some (.int d), some (.int ((n.natAbs : Nat) : Int)), none, none, none] ∧ H' = H, ?_, ?_⟩
    · walk_at "rd"
      refine ite2 (fun g => ?_) (fun g => ?_)
      · have g0 : 0 ≤ n := of_decide_eq_true g
        have e0 : ((n.natAbs : Nat) : Int) = n := by omega
        rw [e0]
        exact ⟨_, rfl, rfl, rfl⟩
      · have g0 : ¬ 0 ≤ n := fun z => g (decide_eq_true z)
        have e0 : ((n.natAbs : Nat) : Int) = -n := by omega
        rw [e0]
        exact ⟨_, rfl, _, rfl, rfl, rfl⟩
    rintro σ' H1 ⟨rfl, rfl⟩
    refine ⟨fun σ' H' => σ' = [some (.int n), some (.int d), some (.int ((n.natAbs : Nat) : Int)), some (.int ((d.natAbs : Nat) : Int)), none, none] ∧ H' = H1, ?_, ?_⟩
    · walk_at "rd"
      refine ite2 (fun g => ?_) (fun g => ?_)
      · have g0 : 0 ≤ d := of_decide_eq_true g
        have e0 : ((d.natAbs : Nat) : Int) = d := by omega
        rw [e0]
        exact ⟨_, rfl, rfl, rfl⟩
      · have g0 : ¬ 0 ≤ d := fun z => g (decide_eq_true z)
        have e0 : ((d.natAbs : Nat) : Int) = -d := by omega
        rw [e0]
        exact ⟨_, rfl, _, rfl, rfl, rfl⟩
    rintro σ' H2 ⟨rfl, rfl⟩
    have l1 : ((n.natAbs : Nat) : Int).natAbs.log2 < 1920 := by
      rw [Int.natAbs_natCast]
      exact Nat.lt_of_lt_of_le (PySem.Flt.log2_lt_of (by decide) bn) (by decide)
    have l2 : ((d.natAbs : Nat) : Int).natAbs.log2 < 1920 := by
      rw [Int.natAbs_natCast]
      exact Nat.lt_of_lt_of_le (PySem.Flt.log2_lt_of (by decide) bd) (by decide)
    have z1 := PySem.int_text_length_le (k := 1920) (by decide) l1
    have z2 := PySem.int_text_length_le (k := 1920) (by decide) l2
    obtain ⟨N, hN⟩ : ∃ N : Nat, N = 4 * (toString ((n.natAbs : Nat) : Int)).length + 4 * (toString ((d.natAbs : Nat) : Int)).length + 60 := ⟨_, rfl⟩
    have eN : (4 : Int) * ((Str.ofString (toString ((n.natAbs : Nat) : Int))).length : Nat) + 4 * ((Str.ofString (toString ((d.natAbs : Nat) : Int))).length : Nat) + 60 = (N : Int) := by
      rw [PySem.ofString_length, PySem.ofString_length, hN]
      omega
    refine ⟨fun σ' H' => ∃ v3 v4 v5 : Option V, σ' = [some (.int n), some (.int d), some (.int ((Nat.gcd n.natAbs d.natAbs : Nat) : Int)), v3, v4, v5] ∧ H' = H2, ?_, ?_⟩
    · refine ⟨_, rfl, _, rfl, l1, _, rfl, PySem.int_text_fits l1, _, _, rfl, rfl, .inl (by constructor <;> decide), ?_⟩
      refine ⟨_, rfl, _, rfl, l2, _, rfl, PySem.int_text_fits l2, _, _, rfl, rfl, .inl (by constructor <;> decide), ?_⟩
      refine ⟨_, _, rfl, rfl, _, _, rfl, rfl, N, congrArg (fun z => [V.int z]) eN, by omega, by omega, ?_⟩
      refine for_range (n := N) (fun i σ' H' => ∃ (c e : Nat) (v4 v5 : Option V), σ' = [some (.int n), some (.int d), some (.int c), some (.int e), v4, v5] ∧ H' = H2 ∧ Eu n.natAbs d.natAbs i c e) ⟨_, _, none, none, rfl, rfl, Eu.start _ _⟩ ?_ ?_
      · rintro i σ' H' hi ⟨c, e, v4, v5, rfl, rfl, eu⟩
        walk_at "rd"
        refine ite2 (fun g => ?_) (fun g => ?_)
        · have he0 : e = 0 := by
            have := eq_of_dec g
            omega
          subst he0
          refine ⟨some (.int ((0 : Nat) : Int)), some (.int (0 + (i : Int))), v5, ?_, rfl⟩
          rw [← eu.end]
          rfl
        · have he0 : e ≠ 0 := fun z => g (decide_eq_true (by rw [z]; rfl))
          walk_at "rd"
          refine ⟨by omega, ?_⟩
          walk_at "rd"
          refine ⟨e, c % e, some (.int (0 + (i : Int))), some (.int ((c % e : Nat) : Int)), ?_, rfl, eu.turn (by omega)⟩
          rw [← fmod_nat c e]
          rfl
      · rintro σ' H' ⟨c, e, v4, v5, rfl, rfl, eu⟩
        have he0 : e = 0 := eu.stop (by omega) (eu_digits hN)
        subst he0
        refine ⟨some (.int ((0 : Nat) : Int)), v4, v5, ?_, rfl⟩
        rw [← eu.end]
    rintro σ' H3 ⟨v3, v4, v5, rfl, rfl⟩
    refine ⟨fun σ' H' => σ' = [some (.int n), some (.int d), some (.int (sg n d)), v3, v4, v5] ∧ H' = H3, ?_, ?_⟩
    · walk_at "rd"
      refine ite2 (fun g2 => ?_) (fun g2 => ?_)
      · refine ⟨_, rfl, _, rfl, ?_, rfl⟩
        unfold sg
        rw [if_pos (of_decide_eq_true g2)]
        rfl
      · refine ⟨?_, rfl⟩
        unfold sg
        rw [if_neg (fun z => g2 (decide_eq_true z))]
    rintro σ' H4 ⟨rfl, rfl⟩
    have hs := sg_ne (n := n) hd
    have hsb : (sg n d).natAbs < 2 ^ 1800 := by
      rw [sg_abs]
      exact Nat.lt_of_le_of_lt (Nat.le_of_dvd (by omega) (Nat.gcd_dvd_right _ _)) bd
    refine ⟨_, rfl, _, rfl, _, _, rfl, rfl, wide_divx hs hsb (by decide) (by decide), _, rfl, _, rfl, _, _, rfl, rfl, wide_divx hs hsb (by decide) (by decide), by show 2 ≤ sizeLine; decide, fun t ht => ?_⟩
    exact k _ t (same_upd ht) upd_same
def spLLawDigits (K : PySem.W.Frag) : Sp := fun vs H Q _ => ∃ (a : List Nat) (i : Nat), vs = [.str (S a), .int i] ∧ a.length ≤ 600 ∧ i ≤ a.length ∧ Q (.int (dg D10 a i : Nat)) H
theorem okLLawDigits {fLLawDigits : Addr} {fdLLawDigits : FuncData} (F : Fun K "_law_digits" "_law_digits" sLLawDigits fLLawDigits fdLLawDigits) (T : Txt mg) {aDIGITS : Tok} {aMOST_DIGITS : Tok} (CT : Cons K mg aDIGITS aMOST_DIGITS) {CPartError CTextFault CNought CBeyond : Addr} (EX : Exns K mg CPartError CTextFault CNought CBeyond) {fIni : Addr} {fdIni : FuncData} (FL : Flt K mg CPartError CTextFault CNought CBeyond fIni) (GIni : FnOk P w K mg base CX0 1 fIni fdIni ["self", "line", "column"] (spFIni K CTextFault)) (bIni : Binds K fdIni ["self", "line", "column"] []) :
    FnOk P w K mg base CX0 1 fLLawDigits fdLLawDigits ["text", "start"] (spLLawDigits K) := by
  refine F.ok scLLawDigits (fun vs H Q E h => ?_) (fun cdv A outer s H vs Q E hr h => ?_)
  · obtain ⟨a, i, rfl, hlen, hi, k⟩ := h
    rfl
  · obtain ⟨a, i, rfl, hlen, hi, k⟩ := h
    refine ⟨_, (pss_cons (ps_set (i := 2) scLLawDigits.nd rfl (Or.inl rfl) pe_int)
      (C8.pss_cut (ps_for PassesOwn.never rfl (pi_range2 rfl T.range (pa_cons (pv 1) (pa_cons (pe_callB call_len_str (by rfl) T.len PySem.boot_len (pa_cons (pv 0) pa_nil)) pa_nil))) (pg_name (i := 3) scLLawDigits.nd rfl (Or.inl rfl))
        (pss_cons (ps_if (pt_cmpR op_notIn_sign (pe_ix ix_str (pv 0) (pv 3) (fun _ _ => rfl)) pe_str (by rfl))
          (pss_one ps_break)
          pss_nil)
        (pss_one (ps_set (i := 2) scLLawDigits.nd rfl (Or.inl rfl) (pe_op op_add (pv 2) pe_int)))))
      (pss_one (ps_ret (pv 2))))), ?_⟩
    have hz : (S a).length ≤ sizeLine := by
      rw [SX.S_len, PySem.sizeLine_eq]
      omega
    have el : (((S a).length : Nat) : Int) = (a.length : Int) := by rw [SX.S_len]
    have hle := dg_le (b := D10) hi
    refine ⟨fun σ' H' => ∃ v3, σ' = [some (.str (S a)), some (.int (i : Int)), some (.int (dg D10 a i : Nat)), v3] ∧ H' = H, ?_, ?_⟩
    · refine ⟨_, rfl, _, rfl, S a, rfl, hz, _, _, rfl, ⟨by omega, by omega, by omega, by omega⟩, for_range (lo := (i : Int)) (n := (((S a).length : Int) - (i : Int)).toNat) (fun j σ' H' => ∃ v3, σ' = [some (.str (S a)), some (.int (i : Int)), some (.int (j : Int)), v3] ∧ H' = H ∧ j ≤ dg D10 a i) ⟨none, rfl, rfl, Nat.zero_le _⟩ ?_ ?_⟩
      · rintro j σ' H' hj ⟨v3, rfl, rfl, hjd⟩
        have hlt : i + j < a.length := by omega
        obtain ⟨c, hc⟩ : ∃ c, a[i + j]? = some c := ⟨_, List.getElem?_eq_getElem hlt⟩
        have e0 : (i : Int) + (j : Int) = ((i + j : Nat) : Int) := by omega
        have hat : atI (S a).cps.toList ((i : Int) + (j : Int)) = some c := by
          rw [e0]
          exact atI_nat hc
        refine ⟨_, rfl, _, rfl, S a, _, c, rfl, rfl, hz, hat, c, S D10, rfl, congrArg V.str D10_S, _, rfl, ite2 (fun g => ?_) (fun g => ?_)⟩
        · have hb : c ∉ D10 := fun z => by
            rw [decide_eq_true (show c ∈ (S D10).cps.toList from z)] at g
            cases g
          have e : j = dg D10 a i := by
            rcases Nat.lt_or_ge j (dg D10 a i) with h | h
            · exfalso
              obtain ⟨d, h1, h2⟩ := dg_in h
              rw [hc] at h1
              rw [← Option.some.inj h1] at h2
              exact hb h2
            · omega
          subst e
          exact ⟨_, rfl, rfl⟩
        · have hb : c ∈ D10 := by
            by_cases z : c ∈ D10
            · exact z
            · exfalso
              rw [decide_eq_false (show ¬ c ∈ (S D10).cps.toList from z)] at g
              exact g rfl
          have hj2 : j < dg D10 a i := by
            rcases Nat.lt_or_ge j (dg D10 a i) with h | h
            · exact h
            · exfalso
              have e : j = dg D10 a i := by omega
              subst e
              exact dg_out hc hb
          exact ⟨_, rfl, _, _, rfl, rfl, _, rfl, rfl, hj2⟩
      · rintro σ' H' ⟨v3, rfl, rfl, hjd⟩
        have e : (((S a).length : Int) - (i : Int)).toNat = dg D10 a i := by omega
        rw [e]
        exact ⟨_, rfl, rfl⟩
    rintro σ' H' ⟨v3, rfl, rfl⟩
    exact ⟨_, rfl, k⟩
theorem ratio_bd {a : List Nat} {i e : Nat} {r : Rat} (h : ratio a i = .inr (r, e)) : r.num.natAbs < 10 ^ 12 ∧ r.den < 10 ^ 12 ∧ 0 ≤ r.num := by
  unfold ratio at h
  split at h
  · cases h
  · rename_i n1
    have v1 := dv_12 (a := a) (i := i) (by omega)
    split at h
    · split at h
      · cases h
      · rename_i n2
        have v2 := dv_12 (a := a) (i := i + dg D10 a i + 1) (by omega)
        split at h
        · cases h
        · rename_i n3
          cases h
          obtain ⟨p, q, e1, l1, l2, f⟩ := rd2_le (n := ((dv10 a i (dg D10 a i) : Nat) : Int)) (d := ((dv10 a (i + dg D10 a i + 1) (dg D10 a (i + dg D10 a i + 1)) : Nat) : Int)) (by omega)
          rw [rat_rd (by omega)] at e1
          injection e1 with e2 e3
          injection e3 with e3 _
          have c := f.cross
          have q0 := f.q0
          refine ⟨by rw [e2]; omega, by omega, ?_⟩
          rw [e2]
          rcases Int.lt_or_le p 0 with hp | hp
          · exfalso
            have h1 : p * ((dv10 a (i + dg D10 a i + 1) (dg D10 a (i + dg D10 a i + 1)) : Nat) : Int) < 0 := Int.mul_neg_of_neg_of_pos hp (by omega)
            have h2 : 0 ≤ ((dv10 a i (dg D10 a i) : Nat) : Int) * q := Int.mul_nonneg (by omega) (by omega)
            omega
          · exact hp
    · cases h
      obtain ⟨p, q, e1, l1, l2, f⟩ := rd2_le (n := ((dv10 a i (dg D10 a i) : Nat) : Int)) (d := 1) (by decide)
      rw [rat_rd (by decide)] at e1
      injection e1 with e2 e3
      injection e3 with e3 _
      have c := f.cross
      have q0 := f.q0
      have q1 : q = 1 := by omega
      have t : 1 < 10 ^ 12 := by decide
      refine ⟨by rw [e2]; omega, by omega, ?_⟩
      rw [e2]
      subst q1
      omega
theorem rdf_bd {a : List Nat} {r : Rat} (h : rdf a = .inr r) : r.num.natAbs < 10 ^ 12 ∧ r.den < 10 ^ 12 := by
  unfold rdf at h
  cases e : ratio a (sg0 a) with
  | inl c =>
    rw [e] at h
    cases h
  | inr x =>
    obtain ⟨s, k⟩ := x
    rw [e] at h
    have b := ratio_bd e
    dsimp only at h
    split at h
    · cases h
    · cases h
      split
      · rw [Rat.neg_num, Rat.neg_den, Int.natAbs_neg]
        exact ⟨b.1, b.2.1⟩
      · exact ⟨b.1, b.2.1⟩
theorem tail_head (r : Rat) : ∀ c, (if r.den = 1 then ([] : List Nat) else 47 :: TL.numL r.den).head? = some c → c ∉ D10 := by
  intro c h
  split at h
  · cases h
  · have : 47 = c := Option.some.inj h
    subst this
    decide
/-- what is told of a fraction is read as this fraction -/
theorem rdf_tdl {r : Rat} (h1 : r.num.natAbs < 10 ^ 12) (h2 : r.den < 10 ^ 12) : rdf (tdl r) = .inr r := by
  have len1 := TL.numL_len (k := 12) (by decide) h1
  have len2 := TL.numL_len (k := 12) (by decide) h2
  have pos1 : 0 < (TL.numL r.num.natAbs).length := List.length_pos_iff.mpr (TL.numL_ne _)
  have pos2 : 0 < (TL.numL r.den).length := List.length_pos_iff.mpr (TL.numL_ne _)
  have hs : sg0 (tdl r) = (if r.num < 0 then [45] else ([] : List Nat)).length := by
    unfold sg0 tdl
    by_cases hn : r.num < 0
    · rw [if_pos hn]
      rfl
    · rw [if_neg hn, List.nil_append, if_neg num_head]
      rfl
  have hm : (tdl r)[0]? = some 45 ↔ r.num < 0 := by
    unfold tdl
    by_cases hn : r.num < 0
    · rw [if_pos hn]
      exact ⟨fun _ => hn, fun _ => rfl⟩
    · rw [if_neg hn, List.nil_append]
      exact ⟨fun z => absurd z num_head, fun z => absurd z hn⟩
  generalize hp : (if r.num < 0 then [45] else ([] : List Nat)) = p at hs
  have ht : tdl r = p ++ (TL.numL r.num.natAbs ++ if r.den = 1 then [] else 47 :: TL.numL r.den) := by
    unfold tdl
    rw [hp]
  have d1 : dg D10 (tdl r) p.length = (TL.numL r.num.natAbs).length := by
    rw [ht]
    exact dg_num (tail_head r)
  have v1 : dv10 (tdl r) p.length (TL.numL r.num.natAbs).length = r.num.natAbs := by
    rw [ht]
    exact dv_num
  have worth : (if (tdl r)[0]? = some 45 then -(Rat.divInt ((r.num.natAbs : Nat) : Int) ((r.den : Nat) : Int)) else Rat.divInt ((r.num.natAbs : Nat) : Int) ((r.den : Nat) : Int)) = r := by
    by_cases hn : r.num < 0
    · rw [if_pos (hm.mpr hn), Rat.neg_divInt, show -((r.num.natAbs : Nat) : Int) = r.num by omega]
      exact Rat.num_divInt_den r
    · rw [if_neg (fun z => hn (hm.mp z)), show ((r.num.natAbs : Nat) : Int) = r.num by omega]
      exact Rat.num_divInt_den r
  unfold rdf
  by_cases hd : r.den = 1
  · have hr : ratio (tdl r) (sg0 (tdl r)) = .inr (Rat.divInt ((r.num.natAbs : Nat) : Int) 1, p.length + (TL.numL r.num.natAbs).length) := by
      have hlen : (tdl r).length = p.length + (TL.numL r.num.natAbs).length := by
        rw [ht, if_pos hd, List.append_nil, List.length_append]
      unfold ratio
      rw [hs, d1, v1, if_neg (by omega), if_neg]
      rw [List.getElem?_eq_none (by omega)]
      exact fun z => nomatch z
    rw [hr]
    have hlen : (tdl r).length = p.length + (TL.numL r.num.natAbs).length := by
      rw [ht, if_pos hd, List.append_nil, List.length_append]
    show (if p.length + (TL.numL r.num.natAbs).length < (tdl r).length then (Sum.inl _ : Nat ⊕ Rat) else _) = _
    rw [if_neg (by omega)]
    rw [hd] at worth
    exact congrArg Sum.inr worth
  · have ht2 : tdl r = (p ++ TL.numL r.num.natAbs ++ [47]) ++ (TL.numL r.den ++ []) := by
      rw [ht, if_neg hd]
      simp
    have hl2 : (p ++ TL.numL r.num.natAbs ++ [47]).length = p.length + (TL.numL r.num.natAbs).length + 1 := by
      simp
      omega
    have d2 : dg D10 (tdl r) (p.length + (TL.numL r.num.natAbs).length + 1) = (TL.numL r.den).length := by
      rw [← hl2, ht2]
      exact dg_num fun c hc => nomatch hc
    have v2 : dv10 (tdl r) (p.length + (TL.numL r.num.natAbs).length + 1) (TL.numL r.den).length = r.den := by
      rw [← hl2, ht2]
      exact dv_num
    have h47 : (tdl r)[p.length + (TL.numL r.num.natAbs).length]? = some 47 := by
      rw [ht2, List.getElem?_append_left (by rw [hl2]; omega), List.getElem?_append_right (by simp)]
      simp
    have hlen : (tdl r).length = p.length + (TL.numL r.num.natAbs).length + 1 + (TL.numL r.den).length := by
      rw [ht2, List.length_append, hl2, List.append_nil]
    have hr : ratio (tdl r) (sg0 (tdl r)) = .inr (Rat.divInt ((r.num.natAbs : Nat) : Int) ((r.den : Nat) : Int), p.length + (TL.numL r.num.natAbs).length + 1 + (TL.numL r.den).length) := by
      unfold ratio
      rw [hs, d1, v1, if_neg (by omega), if_pos h47, d2, v2, if_neg (by omega), if_neg r.den_nz]
    rw [hr]
    show (if p.length + (TL.numL r.num.natAbs).length + 1 + (TL.numL r.den).length < (tdl r).length then (Sum.inl _ : Nat ⊕ Rat) else _) = _
    rw [if_neg (by omega)]
    exact congrArg Sum.inr worth
theorem lit_head (a : List Nat) : decide (V.str (cutS (S a) none (some 1)) = V.str (Str.ofString "-")) = decide (a[0]? = some 45) := by
  rw [show cutS (S a) none (some 1) = S (a.take 1) from cut_to (n := 1), show Str.ofString "-" = S [45] from lit_minus]
  cases a with
  | nil =>
    have h : ¬ V.str (S (([] : List Nat).take 1)) = V.str (S [45]) := fun z => by
      have := SX.S_inj (V.str.inj z)
      cases this
    rw [decide_eq_false h]
    rfl
  | cons c l =>
    by_cases h : c = 45
    · subst h
      rw [decide_eq_true (show V.str (S ((45 :: l).take 1)) = V.str (S [45]) from rfl)]
      rfl
    · rw [decide_eq_false (fun z => h (by have := SX.S_inj (V.str.inj z); injection this))]
      exact (decide_eq_false (fun z => h (Option.some.inj z))).symm
theorem fx_int {K : PySem.W.Frag} {H : Hp} {t : Addr} {n : Int} (h : H t = some (.tup [.int n, .int 1])) : Fx K H t (Rat.divInt n 1) := by
  refine fx_rd (by decide) ?_
  rw [h]
  unfold rd2
  rw [sg_one, Int.fdiv_one, Int.fdiv_one]
  rfl
theorem neg_worth (a : List Nat) (n d : Int) : (if a[0]? = some 45 then -(Rat.divInt n d) else Rat.divInt n d) = Rat.divInt (if a[0]? = some 45 then -n else n) d := by
  by_cases h : a[0]? = some 45
  · rw [if_pos h, if_pos h, Rat.neg_divInt]
  · rw [if_neg h, if_neg h]
def spLLawDue (K : PySem.W.Frag) : Sp := fun vs H Q _ => ∃ a : List Nat, vs = [.str (S a)] ∧ a.length ≤ 600 ∧ (∀ c : Nat, rdf a = .inl c → ∀ H' : Hp, Same H H' → Q (.int (c : Int)) H') ∧
  (∀ r : Rat, rdf a = .inr r → ∀ (H' : Hp) (q : Addr), Same H H' → Fx K H' q r → Q (.ref q) H')
theorem okLLawDue {fLLawDue : Addr} {fdLLawDue : FuncData} (F : Fun K "_law_due" "_law_due" sLLawDue fLLawDue fdLLawDue) (T : Txt mg) {aDIGITS : Tok} {aMOST_DIGITS : Tok} (CT : Cons K mg aDIGITS aMOST_DIGITS) {CPartError CTextFault CNought CBeyond : Addr} (EX : Exns K mg CPartError CTextFault CNought CBeyond) {fIni : Addr} {fdIni : FuncData} (FL : Flt K mg CPartError CTextFault CNought CBeyond fIni) (GIni : FnOk P w K mg base CX0 1 fIni fdIni ["self", "line", "column"] (spFIni K CTextFault)) (bIni : Binds K fdIni ["self", "line", "column"] [])
    {fLLawDigits : Addr} {fdLLawDigits : FuncData} (GLLawDigits : FnOk P w K mg base CX0 1 fLLawDigits fdLLawDigits ["text", "start"] (spLLawDigits K)) (gLLawDigits : mg "_law_digits" = some (.ref fLLawDigits)) (kpLLawDigits : PySem.W.keepIn K (.ref fLLawDigits) = true) (bLLawDigits : Binds K fdLLawDigits ["text", "start"] [])
    {fLLawFraction : Addr} {fdLLawFraction : FuncData} (GLLawFraction : FnOk P w K mg base CX0 1 fLLawFraction fdLLawFraction ["number", "divisor"] (spLLawFraction K)) (gLLawFraction : mg "_law_fraction" = some (.ref fLLawFraction)) (kpLLawFraction : PySem.W.keepIn K (.ref fLLawFraction) = true) (bLLawFraction : Binds K fdLLawFraction ["number", "divisor"] []) :
    FnOk P w K mg base CX0 2 fLLawDue fdLLawDue ["text"] (spLLawDue K) := by
  refine F.ok scLLawDue (fun vs H Q E h => ?_) (fun cdv A outer s H vs Q E hr h => ?_)
  · obtain ⟨a, rfl, hlen, he, k⟩ := h
    rfl
  · obtain ⟨a, rfl, hlen, he, k⟩ := h
    refine ⟨_, (C8.pss_cut (ps_set (i := 1) scLLawDue.nd rfl (Or.inl rfl) (pe_ifExp (pt_cmpR op_eq (pe_slice sl_str (pv 0) po_none (po_some pe_int)) pe_str (nomark _)) pe_int pe_int))
      (pss_cons (ps_set (i := 2) scLLawDue.nd rfl (Or.inl rfl) (pe_call GLLawDigits hr (by rfl) gLLawDigits kpLLawDigits bLLawDigits .nil pass0 (pa_cons (pv 0) (pa_cons (pv 1) pa_nil))))
      (pss_cons (ps_if (PW.pt (pw_or (pt_cmpR op_lt (pv 2) pe_int (nomark _)) (pw_or1 (pt_cmpR op_gt (pv 2) pe_int (nomark _)))))
        (pss_one (ps_ret (pe_op op_add (pv 1) pe_int)))
        pss_nil)
      (pss_cons (ps_set (i := 3) scLLawDue.nd rfl (Or.inl rfl) (pe_op op_add (pv 1) (pv 2)))
      (pss_cons (ps_set (i := 4) scLLawDue.nd rfl (Or.inl rfl) (pe_callTy call_int_str (by rfl) T.int (by decide +kernel) (pa_cons (pe_slice sl_str (pv 0) (po_some (pv 1)) (po_some (pv 3))) pa_nil)))
      (C8.pss_cut (ps_if (pt_cmpR op_eq (pv 1) pe_int (nomark _))
        (pss_one (ps_set (i := 4) scLLawDue.nd rfl (Or.inl rfl) (pe_un un_neg (pv 4))))
        pss_nil)
      (pss_cons (ps_if (pt_cmpR op_eq (pv 3) (pe_callB call_len_str (by rfl) T.len PySem.boot_len (pa_cons (pv 0) pa_nil)) (nomark _))
        (pss_one (ps_ret (pe_tup (pa_cons (pv 4) (pa_cons pe_int pa_nil)))))
        pss_nil)
      (pss_cons (ps_if (pt_cmpR op_ne (pe_ix ix_str (pv 0) (pv 3) (fun _ _ => rfl)) pe_str (nomark _))
        (pss_one (ps_ret (pe_op op_add (pv 3) pe_int)))
        pss_nil)
      (pss_cons (ps_set (i := 5) scLLawDue.nd rfl (Or.inl rfl) (pe_call GLLawDigits hr (by rfl) gLLawDigits kpLLawDigits bLLawDigits .nil pass0 (pa_cons (pv 0) (pa_cons (pe_op op_add (pv 3) pe_int) pa_nil))))
      (pss_cons (ps_if (PW.pt (pw_or (pt_cmpR op_lt (pv 5) pe_int (nomark _)) (pw_or1 (pt_cmpR op_gt (pv 5) pe_int (nomark _)))))
        (pss_one (ps_ret (pe_op op_add (pv 3) pe_int)))
        pss_nil)
      (pss_cons (ps_if (pt_cmpR op_eq (pe_callTy call_int_str (by rfl) T.int (by decide +kernel) (pa_cons (pe_slice sl_str (pv 0) (po_some (pe_op op_add (pv 3) pe_int)) (po_some (pe_op op_add (pe_op op_add (pv 3) pe_int) (pv 5)))) pa_nil)) pe_int (nomark _))
        (pss_one (ps_ret (pe_op op_add (pv 3) pe_int)))
        pss_nil)
      (pss_cons (ps_if (pt_cmpR op_lt (pe_op op_add (pe_op op_add (pv 3) pe_int) (pv 5)) (pe_callB call_len_str (by rfl) T.len PySem.boot_len (pa_cons (pv 0) pa_nil)) (nomark _))
        (pss_one (ps_ret (pe_op op_add (pe_op op_add (pv 3) pe_int) (pv 5))))
        pss_nil)
      (pss_one (ps_ret (pe_call GLLawFraction hr (by rfl) gLLawFraction kpLLawFraction bLLawFraction .nil pass0 (pa_cons (pv 4) (pa_cons (pe_callTy call_int_str (by rfl) T.int (by decide +kernel) (pa_cons (pe_slice sl_str (pv 0) (po_some (pe_op op_add (pv 3) pe_int)) po_none) pa_nil)) pa_nil))))))))))))))))), ?_⟩
    have hz : (S a).length ≤ sizeLine := by
      rw [SX.S_len, PySem.sizeLine_eq]
      omega
    have hi := sg0_le a
    have hle := dg_le (b := D10) hi
    refine ⟨fun σ' H' => σ' = [some (.str (S a)), some (.int (sg0 a : Nat)), none, none, none, none] ∧ H' = H, ?_, ?_⟩
    · refine ⟨_, rfl, 1, rfl, S a, rfl, hz, rfl, _, rfl, ?_⟩
      rw [lit_head]
      refine ite2 (fun g => ?_) (fun g => ?_)
      · unfold sg0
        rw [if_pos (of_decide_eq_true g)]
        exact ⟨rfl, rfl⟩
      · unfold sg0
        rw [if_neg (fun z => g (decide_eq_true z))]
        exact ⟨rfl, rfl⟩
    rintro σ' H0 ⟨rfl, rfl⟩
    refine ⟨_, rfl, _, rfl, a, sg0 a, rfl, hlen, hi, ?_⟩
    have bad1 : dg D10 a (sg0 a) = 0 ∨ 12 < dg D10 a (sg0 a) → rdf a = .inl (sg0 a + 1) := fun h => by
      unfold rdf ratio
      rw [if_pos h]
    refine ⟨_, rfl, _, _, rfl, rfl, _, rfl, ite2 (fun g => ?_) (fun g => ?_)⟩
    · have g1 := of_decide_eq_true g
      exact ⟨_, rfl, _, _, rfl, rfl, he _ (bad1 (by omega)) _ (Same.refl _)⟩
    have g1 : ¬ ((dg D10 a (sg0 a) : Nat) : Int) < 1 := fun z => g (decide_eq_true z)
    refine ⟨_, rfl, _, _, rfl, rfl, _, rfl, ite2 (fun g => ?_) (fun g => ?_)⟩
    · have g2 := of_decide_eq_true g
      exact ⟨_, rfl, _, _, rfl, rfl, he _ (bad1 (by omega)) _ (Same.refl _)⟩
    have g2 : ¬ (12 : Int) < ((dg D10 a (sg0 a) : Nat) : Int) := fun z => g (decide_eq_true z)
    have n1 : ¬ (dg D10 a (sg0 a) = 0 ∨ 12 < dg D10 a (sg0 a)) := by omega
    have v1 := dv_12 (a := a) (i := sg0 a) (by omega)
    refine ⟨_, rfl, _, rfl, _, _, rfl, rfl, ?_⟩
    refine ⟨_, rfl, _, rfl, _, rfl, _, rfl, _, rfl, S a, rfl, hz, _, ((dv10 a (sg0 a) (dg D10 a (sg0 a)) : Nat) : Int), rfl, ?_, ?_, ?_⟩
    · rw [show ((sg0 a : Nat) : Int) + ((dg D10 a (sg0 a) : Nat) : Int) = ((sg0 a + dg D10 a (sg0 a) : Nat) : Int) by omega, cut_S hle]
      exact dv_int (Nat.le_refl _) (by omega) (by omega) hle
    · rw [show ((sg0 a : Nat) : Int) + ((dg D10 a (sg0 a) : Nat) : Int) = ((sg0 a + dg D10 a (sg0 a) : Nat) : Int) by omega, cut_S hle, SX.S_len, List.length_take]
      omega
    refine ⟨fun σ' H' => σ' = [some (.str (S a)), some (.int (sg0 a : Nat)), some (.int (dg D10 a (sg0 a) : Nat)), some (.int ((sg0 a + dg D10 a (sg0 a) : Nat) : Int)), some (.int (if a[0]? = some 45 then -((dv10 a (sg0 a) (dg D10 a (sg0 a)) : Nat) : Int) else ((dv10 a (sg0 a) (dg D10 a (sg0 a)) : Nat) : Int))), none] ∧ H' = H0, ?_, ?_⟩
    · refine ⟨_, rfl, rfl, _, rfl, ite2 (fun g => ?_) (fun g => ?_)⟩
      · have g3 := eq_of_dec g
        have h45 : a[0]? = some 45 := by
          unfold sg0 at g3
          by_cases h : a[0]? = some 45
          · exact h
          · rw [if_neg h] at g3
            cases g3
        refine ⟨_, rfl, _, rfl, ?_, rfl⟩
        rw [if_pos h45]
        rfl
      · have g3 := ne_of_nodec g
        have h45 : ¬ a[0]? = some 45 := fun h => g3 (by
          unfold sg0
          rw [if_pos h]
          rfl)
        refine ⟨?_, rfl⟩
        rw [if_neg h45]
        rfl
    rintro σ' H1 ⟨rfl, rfl⟩
    have hdue : ∀ r : Rat, rdf a = .inr r → ∀ (H' : Hp) (q : Addr), Same H1 H' → Fx K H' q r → Q (.ref q) H' := k
    generalize hv : (if a[0]? = some 45 then -((dv10 a (sg0 a) (dg D10 a (sg0 a)) : Nat) : Int) else ((dv10 a (sg0 a) (dg D10 a (sg0 a)) : Nat) : Int)) = v
    have vb : v.natAbs < 10 ^ 12 := by
      rw [← hv]
      split <;> omega
    refine ⟨_, rfl, _, rfl, S a, rfl, hz, rfl, _, rfl, ite2 (fun g => ?_) (fun g => ?_)⟩
    · have g3 := eq_of_dec g
      rw [SX.S_len] at g3
      have hr : rdf a = .inr (Rat.divInt v 1) := by
        unfold rdf ratio
        rw [if_neg n1, if_neg (by rw [List.getElem?_eq_none (by omega)]; exact fun z => nomatch z)]
        show (if sg0 a + dg D10 a (sg0 a) < a.length then (Sum.inl _ : Nat ⊕ Rat) else _) = _
        rw [if_neg (by omega), neg_worth, hv]
      exact ⟨_, rfl, by show 2 ≤ sizeLine; decide, fun t nt => hdue _ hr _ t (same_upd nt) (fx_int upd_same)⟩
    have g3 := ne_of_nodec g
    rw [SX.S_len] at g3
    have hlt : sg0 a + dg D10 a (sg0 a) < a.length := by omega
    obtain ⟨c, hc⟩ : ∃ c, a[sg0 a + dg D10 a (sg0 a)]? = some c := ⟨_, List.getElem?_eq_getElem hlt⟩
    refine ⟨_, rfl, _, rfl, S a, _, c, rfl, rfl, hz, atI_nat hc, rfl, _, rfl, ite2 (fun g => ?_) (fun g => ?_)⟩
    · have hc47 := lit_ne g
      have hr : rdf a = .inl (sg0 a + dg D10 a (sg0 a) + 1) := by
        unfold rdf ratio
        rw [if_neg n1, if_neg (by rw [hc]; exact fun z => hc47 (Option.some.inj z))]
        show (if sg0 a + dg D10 a (sg0 a) < a.length then (Sum.inl _ : Nat ⊕ Rat) else _) = _
        rw [if_pos hlt]
      exact ⟨_, rfl, _, _, rfl, rfl, he _ hr _ (Same.refl _)⟩
    have hc47 := lit_eq g
    subst hc47
    have hle2 := dg_le (b := D10) (a := a) (i := sg0 a + dg D10 a (sg0 a) + 1) (by omega)
    refine ⟨_, rfl, _, rfl, _, _, rfl, rfl, a, sg0 a + dg D10 a (sg0 a) + 1, rfl, hlen, by omega, ?_⟩
    generalize hm : dg D10 a (sg0 a + dg D10 a (sg0 a) + 1) = m at hle2
    have bad2 : m = 0 ∨ 12 < m → rdf a = .inl (sg0 a + dg D10 a (sg0 a) + 2) := fun h => by
      unfold rdf ratio
      rw [if_neg n1, if_pos hc, hm, if_pos h]
    refine ⟨_, rfl, _, _, rfl, rfl, _, rfl, ite2 (fun g => ?_) (fun g => ?_)⟩
    · have g4 := of_decide_eq_true g
      exact ⟨_, rfl, _, _, rfl, rfl, he _ (bad2 (by omega)) _ (Same.refl _)⟩
    have g4 : ¬ (m : Int) < 1 := fun z => g (decide_eq_true z)
    refine ⟨_, rfl, _, _, rfl, rfl, _, rfl, ite2 (fun g => ?_) (fun g => ?_)⟩
    · have g5 := of_decide_eq_true g
      exact ⟨_, rfl, _, _, rfl, rfl, he _ (bad2 (by omega)) _ (Same.refl _)⟩
    have g5 : ¬ (12 : Int) < (m : Int) := fun z => g (decide_eq_true z)
    have n2 : ¬ (m = 0 ∨ 12 < m) := by omega
    have v2 := dv_12 (a := a) (i := sg0 a + dg D10 a (sg0 a) + 1) (by omega)
    rw [hm] at v2
    have c1 : ((sg0 a + dg D10 a (sg0 a) : Nat) : Int) + 1 = ((sg0 a + dg D10 a (sg0 a) + 1 : Nat) : Int) := by omega
    have c2 : ((sg0 a + dg D10 a (sg0 a) : Nat) : Int) + 1 + (m : Int) = ((sg0 a + dg D10 a (sg0 a) + 1 + m : Nat) : Int) := by omega
    have i2 := dv_int (a := a) (i := sg0 a + dg D10 a (sg0 a) + 1) (n := m) (by omega) (by omega) (by omega) hle2
    refine ⟨_, rfl, _, rfl, _, _, rfl, rfl, _, rfl, _, rfl, _, _, rfl, rfl, _, rfl, _, _, rfl, rfl, _, rfl, S a, rfl, hz, _, ((dv10 a (sg0 a + dg D10 a (sg0 a) + 1) m : Nat) : Int), rfl, ?_, ?_, ?_⟩
    · rw [c2, c1, cut_S hle2]
      exact i2
    · rw [c2, c1, cut_S hle2, SX.S_len, List.length_take]
      omega
    refine ⟨rfl, _, rfl, ite2 (fun g => ?_) (fun g => ?_)⟩
    · have g6 := eq_of_dec g
      have hr : rdf a = .inl (sg0 a + dg D10 a (sg0 a) + 2) := by
        unfold rdf ratio
        rw [if_neg n1, if_pos hc, hm, if_neg n2, if_pos (by omega)]
      exact ⟨_, rfl, _, _, rfl, rfl, he _ hr _ (Same.refl _)⟩
    have g6 := ne_of_nodec g
    have n3 : ¬ dv10 a (sg0 a + dg D10 a (sg0 a) + 1) m = 0 := by omega
    refine ⟨_, rfl, _, _, rfl, rfl, _, rfl, _, _, rfl, rfl, _, rfl, S a, rfl, hz, _, _, rfl, rfl, _, rfl, ite2 (fun g => ?_) (fun g => ?_)⟩
    · have g7 := of_decide_eq_true g
      rw [SX.S_len] at g7
      have hr : rdf a = .inl (sg0 a + dg D10 a (sg0 a) + 1 + m + 1) := by
        unfold rdf ratio
        rw [if_neg n1, if_pos hc, hm, if_neg n2, if_neg n3]
        show (if sg0 a + dg D10 a (sg0 a) + 1 + m < a.length then (Sum.inl _ : Nat ⊕ Rat) else _) = _
        rw [if_pos (by omega)]
      have e2 : ((sg0 a + dg D10 a (sg0 a) : Nat) : Int) + 2 + (m : Int) = ((sg0 a + dg D10 a (sg0 a) + 1 + m + 1 : Nat) : Int) := by omega
      have hq := he _ hr _ (Same.refl H1)
      rw [← e2] at hq
      exact ⟨_, rfl, _, _, rfl, rfl, _, rfl, _, _, rfl, rfl, hq⟩
    have g7 : ¬ (((sg0 a + dg D10 a (sg0 a) : Nat) : Int) + 1 + (m : Int) < ((S a).length : Int)) := fun z => g (decide_eq_true z)
    rw [SX.S_len] at g7
    have hend : sg0 a + dg D10 a (sg0 a) + 1 + m = a.length := by omega
    have ed : a.drop (sg0 a + dg D10 a (sg0 a) + 1) = (a.drop (sg0 a + dg D10 a (sg0 a) + 1)).take m := by
      rw [List.take_of_length_le (by rw [List.length_drop]; omega)]
    have hr : rdf a = .inr (Rat.divInt v ((dv10 a (sg0 a + dg D10 a (sg0 a) + 1) m : Nat) : Int)) := by
      unfold rdf ratio
      rw [if_neg n1, if_pos hc, hm, if_neg n2, if_neg n3]
      show (if sg0 a + dg D10 a (sg0 a) + 1 + m < a.length then (Sum.inl _ : Nat ⊕ Rat) else _) = _
      rw [if_neg (by omega), neg_worth, hv]
    have c3 : (10 : Nat) ^ 12 < 2 ^ 1800 := Nat.lt_of_lt_of_le (show (10 : Nat) ^ 12 < 2 ^ 40 by decide) (Nat.pow_le_pow_right (by decide) (by decide))
    refine ⟨_, rfl, _, rfl, _, rfl, _, _, rfl, rfl, _, rfl, S a, rfl, hz, _, ((dv10 a (sg0 a + dg D10 a (sg0 a) + 1) m : Nat) : Int), rfl, ?_, ?_, ?_⟩
    · rw [c1, cut_from, ed]
      exact i2
    · rw [c1, cut_from, SX.S_len, List.length_drop]
      omega
    exact ⟨v, _, rfl, Nat.lt_trans vb c3, by rw [Int.natAbs_natCast]; exact Nat.lt_trans v2 c3, by omega, fun H' t s1 e1 => hdue _ hr _ t s1 (fx_rd (by omega) e1)⟩
def spLLawRead (K : PySem.W.Frag) : Sp := fun vs H Q _ => ∃ a : List Nat, vs = [.str (S a)] ∧ a.length ≤ 600 ∧ (∀ c : Nat, rdf a = .inl c → ∀ H' : Hp, Same H H' → Q (.int (c : Int)) H') ∧
  (∀ r : Rat, rdf a = .inr r → ∀ (H' : Hp) (q : Addr), Same H H' → Fx K H' q r → Q (.ref q) H')
theorem okLLawRead {fLLawRead : Addr} {fdLLawRead : FuncData} (F : Fun K "_law_read" "_law_read" sLLawRead fLLawRead fdLLawRead) (T : Txt mg) {aDIGITS : Tok} {aMOST_DIGITS : Tok} (CT : Cons K mg aDIGITS aMOST_DIGITS) {CPartError CTextFault CNought CBeyond : Addr} (EX : Exns K mg CPartError CTextFault CNought CBeyond) {fIni : Addr} {fdIni : FuncData} (FL : Flt K mg CPartError CTextFault CNought CBeyond fIni) (GIni : FnOk P w K mg base CX0 1 fIni fdIni ["self", "line", "column"] (spFIni K CTextFault)) (bIni : Binds K fdIni ["self", "line", "column"] [])
    {fReadFraction : Addr} {fdReadFraction : FuncData} (GReadFraction : FnOk P w K mg base (L2.CX P w) 5 fReadFraction fdReadFraction ["text"] (spReadFraction K CTextFault)) (gReadFraction : mg "read_fraction" = some (.ref fReadFraction)) (kpReadFraction : PySem.W.keepIn K (.ref fReadFraction) = true) (bReadFraction : Binds K fdReadFraction ["text"] []) :
    FnOk P w K mg base CX0 6 fLLawRead fdLLawRead ["text"] (spLLawRead K) := by
  refine F.ok scLLawRead (fun vs H Q E h => ?_) (fun cdv A outer s H vs Q E hr h => ?_)
  · obtain ⟨a, rfl, hlen, he, k⟩ := h
    rfl
  · obtain ⟨a, rfl, hlen, he, k⟩ := h
    refine ⟨_, (pss_one (ps_try_as (i := 1) rfl rfl scLLawRead.nd rfl rfl ⟨rfl, by decide, .inl EX.gPartError⟩ takes0 (fun W pn xe tk _ => (pss_one (ps_ret (pe_callS GReadFraction hr (by rfl) gReadFraction kpReadFraction bReadFraction (fun σ => passAt tk σ) (pa_cons (pv 0) pa_nil)))))
        (fun a oe cls d pn hz hf => suite_ofD (C := CTextFault) hz fun dd hz1 => (pss_cons (ps_if (PW.pt (pw_or (pt_not (pt_val (pe_callB (call_isD FL.ec hz1 hf) (by rfl) T.isinstance (by decide +kernel) (pa_cons (pv 1) (pa_cons (pe_glob (v := .ref CTextFault) (by rfl) EX.gTextFault rfl) pa_nil))))) (pw_or (pt_val (pe_callB (call_isD FL.ec hz1 hf) (by rfl) T.isinstance (by decide +kernel) (pa_cons (pv 1) (pa_cons (pe_glob (v := .ref CBeyond) (by rfl) EX.gBeyond rfl) pa_nil)))) (pw_or1 (pt_cmpR op_ne (pe_xf FL.xf FL.nline hz1 hf (pv 1)) pe_int (nomark _))))))
          (pss_one (ps_ret pe_non))
          pss_nil)
        (pss_one (ps_ret (pe_xf FL.xf FL.ncolumn hz1 hf (pv 1)))))))), ?_⟩
    refine ⟨_, rfl, a, rfl, hlen, fun c h => ?_, fun r h H' q s1 f1 => k r h H' q s1 f1⟩
    intro d H' s1 e1
    refine ⟨true, FL.ePartError, fun _ ea ha => ⟨d, ⟨rfl, rfl⟩, ?_⟩, fun z => nomatch z⟩
    refine ⟨_, rfl, _, _, true, _, rfl, fun u r => r, FL.kTextFault, e1, true, rfl, iteF ?_⟩
    refine ⟨_, rfl, _, _, false, _, rfl, fun u r => r, FL.kBeyond, e1, false, rfl, iteF ?_⟩
    refine ⟨_, rfl, rfl, rfl, d, _, .int 1, rfl, e1, rfl, rfl, _, rfl, ite2 (fun g => (no_self g).elim) (fun _ => ?_)⟩
    exact ⟨_, rfl, rfl, rfl, d, _, .int (c : Int), rfl, e1, rfl, he c h H' s1⟩
theorem ten_pow {m : Nat} (h : m ≤ 20) : (10 : Int) ^ m ≤ 10 ^ 20 ∧ (0 : Int) < 10 ^ m := by
  have : ∀ m : _root_.Fin 21, (10 : Int) ^ m.val ≤ 10 ^ 20 ∧ (0 : Int) < 10 ^ m.val := by decide +kernel
  exact this ⟨m, by omega⟩
def menuL : List (List Nat) := [[48], [55], [45], [47], [46], [32], [97], [49, 50, 51, 52, 53, 54, 55, 56, 57, 48, 49], [48, 48, 48, 48, 48, 48, 48, 48, 48, 48, 48, 48]]
theorem menu_eq : [V.str "0", V.str "7", V.str "-", V.str "/", V.str ".", V.str " ", V.str "a", V.str "12345678901", V.str "000000000000"] = menuL.map fun l => V.str (S l) := by
  have h : (["0", "7", "-", "/", ".", " ", "a", "12345678901", "000000000000"] : List Str) = menuL.map S := by decide +kernel
  have := congrArg (List.map V.str) h
  rw [List.map_map] at this
  exact this
theorem menu_len : ∀ l ∈ menuL, l.length ≤ 12 := by decide
theorem rdf_nil : rdf [] = .inl 1 := by decide
theorem str_len {i : Int} (h : i.natAbs < 10 ^ 20) : ((if i < 0 then [45] else ([] : List Nat)) ++ TL.numL i.natAbs).length ≤ 21 := by
  have := numL20 h
  rw [List.length_append]
  split
  · show 1 + _ ≤ _
    omega
  · show 0 + _ ≤ _
    omega
theorem log_20 {i : Int} (h : i.natAbs < 10 ^ 20) : i.natAbs.log2 < 1920 := Nat.lt_of_lt_of_le (PySem.Flt.log2_lt_of (k := 70) (by decide) (Nat.lt_of_lt_of_le h (by decide))) (by decide)
theorem S_sl {a : List Nat} (h : a.length ≤ 3000) : (S a).length ≤ sizeLine := by
  rw [SX.S_len, PySem.sizeLine_eq]
  omega
theorem cut_num {N lo : Int} (h : N.natAbs < 10 ^ 20) (h0 : 0 ≤ lo) : (Str.ofString (toString N)).length ≤ sizeLine ∧ ∃ t : List Nat, cutS (Str.ofString (toString N)) (some lo) none = S t ∧ t.length ≤ 21 := by
  have hl := str_len h
  rw [str_int N]
  obtain ⟨m, rfl⟩ : ∃ m : Nat, lo = (m : Int) := ⟨lo.toNat, by omega⟩
  refine ⟨S_sl (by omega), _, cut_from, ?_⟩
  rw [List.length_drop]
  omega
def spLaw (K : PySem.W.Frag) : Sp := fun vs H Q _ => ∃ (a : Addr) (ns : List Int), vs = [.ref a] ∧ SqL K H a (ns.map V.int) ∧ ns.length ≤ 63 ∧ ∀ H', Q (.bl true) H'
theorem okLaw {fLaw : Addr} {fdLaw : FuncData} (F : Fun K "law" "law" sLaw fLaw fdLaw) (T : Txt mg) {aDIGITS : Tok} {aMOST_DIGITS : Tok} (CT : Cons K mg aDIGITS aMOST_DIGITS) {CPartError CTextFault CNought CBeyond : Addr} (EX : Exns K mg CPartError CTextFault CNought CBeyond) {fIni : Addr} {fdIni : FuncData} (FL : Flt K mg CPartError CTextFault CNought CBeyond fIni) (GIni : FnOk P w K mg base CX0 1 fIni fdIni ["self", "line", "column"] (spFIni K CTextFault)) (bIni : Binds K fdIni ["self", "line", "column"] [])
    {fLLawNumber : Addr} {fdLLawNumber : FuncData} (GLLawNumber : FnOk P w K mg base CX0 1 fLLawNumber fdLLawNumber ["script", "k"] (spLLawNumber K)) (gLLawNumber : mg "_law_number" = some (.ref fLLawNumber)) (kpLLawNumber : PySem.W.keepIn K (.ref fLLawNumber) = true) (bLLawNumber : Binds K fdLLawNumber ["script", "k"] [])
    {fLLawDue : Addr} {fdLLawDue : FuncData} (GLLawDue : FnOk P w K mg base CX0 2 fLLawDue fdLLawDue ["text"] (spLLawDue K)) (gLLawDue : mg "_law_due" = some (.ref fLLawDue)) (kpLLawDue : PySem.W.keepIn K (.ref fLLawDue) = true) (bLLawDue : Binds K fdLLawDue ["text"] [])
    {fLLawRead : Addr} {fdLLawRead : FuncData} (GLLawRead : FnOk P w K mg base CX0 6 fLLawRead fdLLawRead ["text"] (spLLawRead K)) (gLLawRead : mg "_law_read" = some (.ref fLLawRead)) (kpLLawRead : PySem.W.keepIn K (.ref fLLawRead) = true) (bLLawRead : Binds K fdLLawRead ["text"] [])
    {fTold : Addr} {fdTold : FuncData} (GTold : FnOk P w K mg base CX0 2 fTold fdTold ["a"] (spTold K)) (gTold : mg "told" = some (.ref fTold)) (kpTold : PySem.W.keepIn K (.ref fTold) = true) (bTold : Binds K fdTold ["a"] [])
    {fReadFraction : Addr} {fdReadFraction : FuncData} (GReadFraction : FnOk P w K mg base (L2.CX P w) 5 fReadFraction fdReadFraction ["text"] (spReadFraction K CTextFault)) (gReadFraction : mg "read_fraction" = some (.ref fReadFraction)) (kpReadFraction : PySem.W.keepIn K (.ref fReadFraction) = true) (bReadFraction : Binds K fdReadFraction ["text"] []) :
    FnOk P w K mg base CX0 7 fLaw fdLaw ["script"] (spLaw K) := by
  refine F.ok scLaw (fun vs H Q E h => ?_) (fun cdv A outer s H vs Q E hr h => ?_)
  · obtain ⟨s0, ns, rfl, hS0, hlen, fin⟩ := h
    rfl
  · obtain ⟨s0, ns, rfl, hS0, hlen, fin⟩ := h
    refine ⟨_, (pss_cons (ps_set (i := 1) scLaw.nd rfl (Or.inl rfl) (pe_lst (pa_cons pe_str (pa_cons pe_str (pa_cons pe_str (pa_cons pe_str (pa_cons pe_str (pa_cons pe_str (pa_cons pe_str (pa_cons pe_str (pa_cons pe_str pa_nil)))))))))))
      (C8.pss_cut (ps_for PassesOwn.never rfl (pi_range1 rfl T.range (pa_cons pe_int pa_nil)) (pg_name (i := 2) scLaw.nd rfl (Or.inl rfl))
        (pss_cons (ps_set (i := 3) scLaw.nd rfl (Or.inl rfl) (pe_call GLLawNumber (hr.mono (by decide)) (by rfl) gLLawNumber kpLLawNumber bLLawNumber .nil pass0 (pa_cons (pv 0) (pa_cons (pv 2) pa_nil))))
        (pss_cons (ps_set (i := 4) scLaw.nd rfl (Or.inl rfl) (pe_op op_add pe_int (pe_op op_mod (pe_callTy call_int1 (by rfl) T.int (by decide +kernel) (pa_cons (pv 3) pa_nil)) pe_int)))
        (pss_cons (ps_set (i := 5) scLaw.nd rfl (Or.inl rfl) (pe_op op_add pe_int (pe_op op_mod (pe_callTy call_int1 (by rfl) T.int (by decide +kernel) (pa_cons (pe_op op_fdiv (pv 3) pe_int) pa_nil)) pe_int)))
        (pss_cons (ps_set (i := 6) scLaw.nd rfl (Or.inl rfl) (pe_slice sl_str (pe_callTy call_str_int (by rfl) T.str (by decide +kernel) (pa_cons (pe_op op_add (pe_op op_pow pe_int pe_int) (pe_op op_mod (pe_callTy call_int1 (by rfl) T.int (by decide +kernel) (pa_cons (pe_op op_fdiv (pv 3) pe_int) pa_nil)) (pe_op op_pow pe_int pe_int))) pa_nil)) (po_some (pe_op op_sub pe_int (pv 4))) po_none))
        (C8.pss_cut (ps_if (pt_cmpR op_eq (pe_op op_mod (pe_callTy call_int1 (by rfl) T.int (by decide +kernel) (pa_cons (pe_op op_fdiv (pv 3) pe_int) pa_nil)) pe_int) pe_int (nomark _))
          (pss_one (ps_set (i := 6) scLaw.nd rfl (Or.inl rfl) (pe_op op_addS pe_str (pv 6))))
          pss_nil)
        (C8.pss_cut (ps_if (pt_cmpR op_gt (pe_op op_mod (pe_callTy call_int1 (by rfl) T.int (by decide +kernel) (pa_cons (pe_op op_fdiv (pv 3) pe_int) pa_nil)) pe_int) pe_int (nomark _))
          (pss_one (ps_set (i := 6) scLaw.nd rfl (Or.inl rfl) (pe_op op_addS (pe_op op_addS (pv 6) pe_str) (pe_slice sl_str (pe_callTy call_str_int (by rfl) T.str (by decide +kernel) (pa_cons (pe_op op_add (pe_op op_pow pe_int pe_int) (pe_op op_mod (pe_callTy call_int1 (by rfl) T.int (by decide +kernel) (pa_cons (pe_op op_fdiv (pv 3) pe_int) pa_nil)) (pe_callTy call_int_str (by rfl) T.int (by decide +kernel) (pa_cons (pe_op op_add_str pe_str (pe_op op_nou pe_str (pe_callTy call_int1 (by rfl) T.int (by decide +kernel) (pa_cons (pe_op op_add pe_int (pe_op op_mod (pe_callTy call_int1 (by rfl) T.int (by decide +kernel) (pa_cons (pv 3) pa_nil)) pe_int)) pa_nil)))) pa_nil)))) pa_nil)) (po_some (pe_op op_sub pe_int (pv 5))) po_none))))
          pss_nil)
        (C8.pss_cut (ps_if (pt_cmpR op_eq (pe_op op_mod (pe_callTy call_int1 (by rfl) T.int (by decide +kernel) (pa_cons (pe_op op_fdiv (pv 3) pe_int) pa_nil)) pe_int) pe_int (nomark _))
          (pss_cons (ps_set (i := 7) scLaw.nd rfl (Or.inl rfl) (pe_op op_mod (pe_callTy call_int1 (by rfl) T.int (by decide +kernel) (pa_cons (pe_op op_fdiv (pv 3) pe_int) pa_nil)) (pe_op op_add (pe_callB call_len_str (by rfl) T.len PySem.boot_len (pa_cons (pv 6) pa_nil)) pe_int)))
          (pss_cons (ps_set (i := 8) scLaw.nd rfl (Or.inl rfl) (pe_ix ix_list (pv 1) (pe_op op_mod (pe_callTy call_int1 (by rfl) T.int (by decide +kernel) (pa_cons (pe_op op_fdiv (pv 3) pe_int) pa_nil)) pe_int) (fun _ _ => rfl)))
          (C8.pss_cut (ps_if (pt_cmpR op_eq (pe_op op_mod (pe_callTy call_int1 (by rfl) T.int (by decide +kernel) (pa_cons (pe_op op_fdiv (pv 3) pe_int) pa_nil)) pe_int) pe_int (nomark _))
            (pss_one (ps_set (i := 8) scLaw.nd rfl (Or.inl rfl) pe_str))
            pss_nil)
          (pss_one (ps_set (i := 6) scLaw.nd rfl (Or.inl rfl) (pe_op op_addS (pe_op op_addS (pe_slice sl_str (pv 6) po_none (po_some (pv 7))) (pv 8)) (pe_slice sl_str (pv 6) (po_some (pe_op op_add (pv 7) (pe_op op_mod (pe_callTy call_int1 (by rfl) T.int (by decide +kernel) (pa_cons (pe_op op_fdiv (pv 3) pe_int) pa_nil)) pe_int))) po_none)))))))
          pss_nil)
        (pss_cons (ps_set (i := 9) scLaw.nd rfl (Or.inl rfl) (pe_call GLLawDue (hr.mono (by decide)) (by rfl) gLLawDue kpLLawDue bLLawDue .nil pass0 (pa_cons (pv 6) pa_nil)))
        (pss_cons (ps_set (i := 10) scLaw.nd rfl (Or.inl rfl) (pe_call GLLawRead hr (by rfl) gLLawRead kpLLawRead bLLawRead .nil pass0 (pa_cons (pv 6) pa_nil)))
        (pss_cons (ps_if (PW.pt (pw_or (pt_cmpR (op_neD hr.units) (pv 10) (pv 9) (nomark _)) (pw_or1 (pt_cmpR op_ne (pe_callB call_isi (by rfl) T.isinstance (by decide +kernel) (pa_cons (pv 10) (pa_cons (pe_bltn (v := .ty "tuple") (by rfl) T.tuple (by decide +kernel) rfl) pa_nil))) (pe_callB call_isi (by rfl) T.isinstance (by decide +kernel) (pa_cons (pv 9) (pa_cons (pe_bltn (v := .ty "tuple") (by rfl) T.tuple (by decide +kernel) rfl) pa_nil))) (nomark _)))))
          (pss_one (ps_ret pe_bl))
          pss_nil)
        (pss_one (ps_if (pt_val (pe_callB call_isi (by rfl) T.isinstance (by decide +kernel) (pa_cons (pv 9) (pa_cons (pe_bltn (v := .ty "tuple") (by rfl) T.tuple (by decide +kernel) rfl) pa_nil))))
          (pss_cons (ps_set (i := 11) scLaw.nd rfl (Or.inl rfl) (pe_call GTold (hr.mono (by decide)) (by rfl) gTold kpTold bTold .nil pass0 (pa_cons (pv 10) pa_nil)))
          (C8.pss_cut (ps_set (i := 12) scLaw.nd rfl (Or.inl rfl) (pe_ifExp (pt_cmpR op_eq (pe_ix ix_tup (pv 9) pe_int (fun _ _ => rfl)) pe_int (nomark _)) (pe_callTy call_str_int (by rfl) T.str (by decide +kernel) (pa_cons (pe_ix ix_tup (pv 9) pe_int (fun _ _ => rfl)) pa_nil)) (pe_op op_addS (pe_op op_addS (pe_callTy call_str_int (by rfl) T.str (by decide +kernel) (pa_cons (pe_ix ix_tup (pv 9) pe_int (fun _ _ => rfl)) pa_nil)) pe_str) (pe_callTy call_str_int (by rfl) T.str (by decide +kernel) (pa_cons (pe_ix ix_tup (pv 9) pe_int (fun _ _ => rfl)) pa_nil)))))
          (pss_one (ps_if (PW.pt (pw_or (pt_cmpR op_ne (pv 11) (pv 12) (nomark _)) (pw_or1 (pt_cmpR (op_neD hr.units) (pe_call GReadFraction (hr.mono (by decide)) (by rfl) gReadFraction kpReadFraction bReadFraction .nil passL (pa_cons (pv 11) pa_nil)) (pv 9) (nomark _)))))
            (pss_one (ps_ret pe_bl))
            pss_nil))))
          pss_nil)))))))))))))
      (pss_one (ps_ret (pe_cmpR op_eq (pe_call GLLawRead hr (by rfl) gLLawRead kpLLawRead bLLawRead .nil pass0 (pa_cons pe_str pa_nil)) pe_int (nomark _)))))), ?_⟩
    have hS : SqL K H s0 (zs ns) := hS0
    refine ⟨by show 9 ≤ sizeLine; decide, fun ml hml => ?_⟩
    rw [show ([V.str "0", V.str "7", V.str "-", V.str "/", V.str ".", V.str " ", V.str "a", V.str "12345678901", V.str "000000000000"] : List V) = menuL.map fun l => V.str (S l) from menu_eq]
    have sm : Same H (upd H ml (.lst (menuL.map fun l => V.str (S l)))) := same_upd hml
    have em : (upd H ml (.lst (menuL.map fun l => V.str (S l)))) ml = some (.lst (menuL.map fun l => V.str (S l))) := upd_same
    generalize (upd H ml (.lst (menuL.map fun l => V.str (S l)))) = Hm at sm em
    refine ⟨fun σ' H' => Same Hm H' ∧ ∃ v2 v3 v4 v5 v6 v7 v8 v9 v10 v11 v12 : Option V, σ' = [some (.ref s0), some (.ref ml), v2, v3, v4, v5, v6, v7, v8, v9, v10, v11, v12], ?_, ?_⟩
    · refine ⟨40, rfl, by decide, by decide, for_range (n := 40) (fun i σ' H' => Same Hm H' ∧ ∃ v2 v3 v4 v5 v6 v7 v8 v9 v10 v11 v12 : Option V, σ' = [some (.ref s0), some (.ref ml), v2, v3, v4, v5, v6, v7, v8, v9, v10, v11, v12]) ?_ ?_ (fun _ _ h => h)⟩
      · exact ⟨Same.refl _, none, none, none, none, none, none, none, none, none, none, none, rfl⟩
      rintro i σ' H' hi ⟨s1, v2, v3, v4, v5, v6, v7, v8, v9, v10, v11, v12, rfl⟩
      have hi0 : (0 : Int) + (i : Int) = (i : Int) := by omega
      refine ⟨_, rfl, _, rfl, s0, ns, i, by rw [hi0]; rfl, (sm.trans s1).seq hS, fun dr => ?_⟩
      walk_at "rd"
      have a0 := Int.emod_nonneg dr (show (12 : Int) ≠ 0 by decide)
      have a1 := Int.emod_lt_of_pos dr (show (0 : Int) < 12 by decide)
      have b0 := Int.emod_nonneg (dr / 12) (show (12 : Int) ≠ 0 by decide)
      have b1 := Int.emod_lt_of_pos (dr / 12) (show (0 : Int) < 12 by decide)
      have t12 : (10 : Int) ^ Int.toNat 12 = 1000000000000 := by decide
      have t20 : (10 : Nat) ^ 20 = 100000000000000000000 := by decide
      have N0 := Int.emod_nonneg (dr / 200) (show (10 : Int) ^ Int.toNat 12 ≠ 0 by decide)
      have N1 := Int.emod_lt_of_pos (dr / 200) (show (0 : Int) < 10 ^ Int.toNat 12 by decide)
      obtain ⟨N, hN⟩ : ∃ N : Int, N = 10 ^ Int.toNat 12 + dr / 200 % 10 ^ Int.toNat 12 := ⟨_, rfl⟩
      have hN20 : N.natAbs < 10 ^ 20 := by omega
      obtain ⟨nl1, t1, ec1, tl1⟩ := cut_num (lo := 13 - (1 + dr % 12)) hN20 (by omega)
      have lg : (10 ^ Int.toNat 12 + dr / 200 % 10 ^ Int.toNat 12 : Int).natAbs.log2 < 1920 := by
        rw [← hN]
        exact log_20 hN20
      refine ⟨lg, ?_⟩
      rw [← hN]
      walk_at "rd"
      refine ⟨nl1, ?_⟩
      show gName 6 (V.str (cutS (Str.ofString (toString N)) (some (13 - (1 + dr % 12))) none)) _ _ _
      rw [ec1]
      -- a minus
      refine ⟨fun σ' H2 => ∃ tx : List Nat, σ' = [some (.ref s0), some (.ref ml), some (.int (0 + (i : Int))), some (.int dr), some (.int (1 + dr % 12)), some (.int (1 + dr / 12 % 12)), some (.str (S tx)), v7, v8, v9, v10, v11, v12] ∧ H2 = H' ∧ tx.length ≤ 22, ?_, ?_⟩
      · walk_at "rd"
        refine ite2 (fun _ => ?_) (fun _ => ⟨t1, rfl, rfl, by omega⟩)
        exact ⟨_, rfl, [45], _, congrArg V.str lit_minus, rfl, by show 1 + _ ≤ _; omega, 45 :: t1, rfl, rfl, by rw [List.length_cons]; omega⟩
      rintro σ' H2 ⟨t2, rfl, rfl, tl2⟩
      -- a stroke
      refine ⟨fun σ' H3 => ∃ tx : List Nat, σ' = [some (.ref s0), some (.ref ml), some (.int (0 + (i : Int))), some (.int dr), some (.int (1 + dr % 12)), some (.int (1 + dr / 12 % 12)), some (.str (S tx)), v7, v8, v9, v10, v11, v12] ∧ H3 = H2 ∧ tx.length ≤ 44, ?_, ?_⟩
      · walk_at "rd"
        refine ite2 (fun _ => ?_) (fun _ => ⟨t2, rfl, rfl, by omega⟩)
        have q0 := Int.emod_nonneg dr (show (11 : Int) ≠ 0 by decide)
        have q1 := Int.emod_lt_of_pos dr (show (0 : Int) < 11 by decide)
        obtain ⟨m, hm⟩ : ∃ m : Nat, 1 + dr % 11 = (m : Int) := ⟨(1 + dr % 11).toNat, by omega⟩
        have m1 : 1 ≤ m := by omega
        have m2 : m ≤ 20 := by omega
        obtain ⟨tt1, tt2, tt3⟩ := ten_text m m1 m2
        obtain ⟨p1, p2⟩ := ten_pow m2
        have p3 : (10 : Int) ^ m ≤ 10 ^ 11 := by
          have : m ≤ 11 := by omega
          have h2 : ∀ m : _root_.Fin 12, (10 : Int) ^ m.val ≤ 10 ^ 11 := by decide +kernel
          exact h2 ⟨m, by omega⟩
        have w0 := Int.emod_nonneg (dr / 977) (show (10 : Int) ^ m ≠ 0 by omega)
        have w1 := Int.emod_lt_of_pos (dr / 977) p2
        refine ⟨_, rfl, _, [47], rfl, congrArg V.str lit_slash, by show _ + 1 ≤ _; omega, ?_⟩
        walk_at "rd"
        refine ⟨m, rfl, congrArg V.int hm, m1, by omega, ?_⟩
        refine ⟨_, _, rfl, rfl, by
          rw [PySem.sizeLine_eq]
          have : (Str.ofString "1").length = 1 := by decide +kernel
          omega, ?_⟩
        refine ⟨_, _, rfl, tt1, tt2, ?_⟩
        refine ⟨_, _, rfl, rfl, p2, ?_⟩
        refine ⟨_, _, rfl, rfl, ?_⟩
        obtain ⟨M, hM⟩ : ∃ M : Int, M = 10 ^ Int.toNat 12 + dr / 977 % 10 ^ m := ⟨_, rfl⟩
        have e11 : (10 : Int) ^ 11 = 100000000000 := by decide
        have hM20 : M.natAbs < 10 ^ 20 := by omega
        obtain ⟨nl3, t3, ec3, tl3⟩ := cut_num (lo := 13 - (1 + dr / 12 % 12)) hM20 (by omega)
        have lg : (10 ^ Int.toNat 12 + dr / 977 % 10 ^ m : Int).natAbs.log2 < 1920 := by
          rw [← hM]
          exact log_20 hM20
        refine ⟨_, rfl, lg, ?_⟩
        rw [← hM]
        refine ⟨_, rfl, _, _, rfl, rfl, _, rfl, _, rfl, nl3, ?_⟩
        have ec4 : V.str (cutS (Str.ofString (toString M)) (some (13 - (1 + dr / 12 % 12))) none) = V.str (S t3) := congrArg V.str ec3
        exact ⟨_, _, rfl, ec4, by rw [List.length_append]; show _ + 1 + _ ≤ _; omega, t2 ++ [47] ++ t3, rfl, rfl, by rw [List.length_append, List.length_append]; show _ + 1 + _ ≤ _; omega⟩
      rintro σ' H3 ⟨t4, rfl, rfl, tl4⟩
      -- a change
      refine ⟨fun σ' H4 => ∃ (tx : List Nat) (v7 v8 : Option V), σ' = [some (.ref s0), some (.ref ml), some (.int (0 + (i : Int))), some (.int dr), some (.int (1 + dr % 12)), some (.int (1 + dr / 12 % 12)), some (.str (S tx)), v7, v8, v9, v10, v11, v12] ∧ H4 = H3 ∧ tx.length ≤ 200, ?_, ?_⟩
      · walk_at "rd"
        refine ite2 (fun _ => ?_) (fun _ => ⟨t4, v7, v8, rfl, rfl, by omega⟩)
        have r0 := Int.emod_nonneg (dr / 37) (show (9 : Int) ≠ 0 by decide)
        have r1 := Int.emod_lt_of_pos (dr / 37) (show (0 : Int) < 9 by decide)
        have u0 := Int.emod_nonneg (dr / 43) (show (2 : Int) ≠ 0 by decide)
        have u1 := Int.emod_lt_of_pos (dr / 43) (show (0 : Int) < 2 by decide)
        have el : (((S t4).length : Nat) : Int) = (t4.length : Int) := by rw [SX.S_len]
        have g0 := Int.emod_nonneg (dr / 31) (show ((t4.length : Nat) : Int) + 1 ≠ 0 by omega)
        have g1 := Int.emod_lt_of_pos (dr / 31) (show (0 : Int) < ((t4.length : Nat) : Int) + 1 by omega)
        obtain ⟨A, hA⟩ : ∃ A : Nat, dr / 31 % (((S t4).length : Int) + 1) = (A : Int) := ⟨(dr / 31 % (((S t4).length : Int) + 1)).toNat, by rw [el]; omega⟩
        have hAl : A ≤ t4.length := by
          rw [el] at hA
          omega
        obtain ⟨ri, hri⟩ : ∃ ri : Nat, dr / 37 % 9 = (ri : Int) := ⟨(dr / 37 % 9).toNat, by omega⟩
        have hr9 : ri < menuL.length := by
          show ri < 9
          omega
        have hat : atI (menuL.map fun l => V.str (S l)) (dr / 37 % 9) = some (V.str (S menuL[ri])) := by
          rw [hri]
          refine atI_nat ?_
          rw [List.getElem?_map, List.getElem?_eq_getElem hr9]
          rfl
        have hp12 := menu_len _ (List.getElem_mem hr9)
        have hT4 := S_sl (a := t4) (by omega)
        walk_at "rd"
        refine ⟨hT4, ?_⟩
        walk_at "rd"
        refine ⟨by show (0 : Int) < ((S t4).length : Int) + 1; rw [el]; omega, ?_⟩
        show gName 7 (V.int (dr / 31 % (((S t4).length : Int) + 1))) _ _ _
        rw [hA]
        walk_at "rd"
        refine ⟨ml, _, _, _, rfl, rfl, SqL.of (s1 _ _ em), hat, ?_⟩
        refine ⟨fun σ' H5 => ∃ pt : List Nat, σ' = [some (.ref s0), some (.ref ml), some (.int (0 + (i : Int))), some (.int dr), some (.int (1 + dr % 12)), some (.int (1 + dr / 12 % 12)), some (.str (S t4)), some (.int (A : Int)), some (.str (S pt)), v9, v10, v11, v12] ∧ H5 = H3 ∧ pt.length ≤ 12, ?_, ?_⟩
        · walk_at "rd"
          refine ite2 (fun _ => ⟨[], ?_, rfl, by decide⟩) (fun _ => ⟨_, rfl, rfl, hp12⟩)
          rw [show S [] = Str.ofString "" from lit_nil.symm]
          rfl
        rintro σ' H5 ⟨pt, rfl, rfl, hpt⟩
        obtain ⟨B, hB⟩ : ∃ B : Nat, (A : Int) + dr / 43 % 2 = (B : Int) := ⟨((A : Int) + dr / 43 % 2).toNat, by omega⟩
        refine ⟨_, rfl, _, rfl, _, rfl, S t4, rfl, hT4, ?_⟩
        rw [cut_to]
        refine ⟨_, rfl, _, _, rfl, rfl, by rw [List.length_take]; omega, ?_⟩
        refine ⟨_, rfl, _, rfl, ?_⟩
        walk_at "rd"
        refine ⟨hT4, ?_⟩
        have ec : V.str (cutS (S t4) (some ((A : Int) + dr / 43 % 2)) none) = V.str (S (t4.drop B)) := by
          rw [hB, cut_from]
        refine ⟨_, t4.drop B, rfl, ec, by rw [List.length_append, List.length_take, List.length_drop]; omega, ?_⟩
        exact ⟨t4.take A ++ pt ++ t4.drop B, _, _, rfl, rfl, by rw [List.length_append, List.length_append, List.length_take, List.length_drop]; omega⟩
      rintro σ' H4 ⟨t5, w7, w8, rfl, rfl, tl5⟩
      cases hr : rdf t5 with
      | inl c =>
        refine ⟨_, rfl, t5, rfl, by omega, fun c' h H5 s5 => ?_, fun r h => by rw [hr] at h; cases h⟩
        rw [hr] at h
        cases h
        refine ⟨_, rfl, t5, rfl, by omega, fun c' h H6 s6 => ?_, fun r h => by rw [hr] at h; cases h⟩
        rw [hr] at h
        cases h
        refine ⟨_, rfl, _, rfl, _, _, .int _, .int _, rfl, rfl, _, rfl, ?_⟩
        rw [show PyData.eqv (.int (c : Int)) (.int (c : Int)) = true by simp [PyData.eqv]]
        refine iteF ?_
        refine ⟨_, rfl, .int (c : Int), .ty "tuple", .type "int", .type "tuple", false, rfl, .ty _, .base (.int _), kit_ty (by decide +kernel), _, rfl, .int (c : Int), .ty "tuple", .type "int", .type "tuple", false, rfl, .ty _, .base (.int _), kit_ty (by decide +kernel), ?_⟩
        refine ⟨rfl, _, rfl, ite2 (fun g => (no_self g).elim) (fun _ => ?_)⟩
        refine ⟨_, rfl, .int (c : Int), .ty "tuple", .type "int", .type "tuple", false, rfl, .ty _, .base (.int _), kit_ty (by decide +kernel), _, rfl, iteF ?_⟩
        exact ⟨s1.trans (s5.trans s6), _, _, _, _, _, _, _, _, _, _, _, rfl⟩
      | inr r =>
        obtain ⟨rb1, rb2⟩ := rdf_bd hr
        have c1220 : (10 : Nat) ^ 12 < 10 ^ 20 := by decide
        refine ⟨_, rfl, t5, rfl, by omega, fun c' h => (by rw [hr] at h; cases h), fun r' h H5 t9 s5 f9 => ?_⟩
        rw [hr] at h
        cases h
        refine ⟨_, rfl, t5, rfl, by omega, fun c' h => (by rw [hr] at h; cases h), fun r' h H6 t10 s6 f10 => ?_⟩
        rw [hr] at h
        cases h
        have f9' := f9.same s6
        refine ⟨_, rfl, _, rfl, _, _, dpr f10, dpr f9', sh1 _, sh1 _, _, rfl, ?_⟩
        rw [eqvr, decide_eq_true rfl]
        refine iteF ?_
        refine ⟨_, rfl, .ref t10, .ty "tuple", .type "tuple", .type "tuple", true, rfl, .ty _, tyx_tup f10, kit_ty (by decide +kernel), _, rfl, .ref t9, .ty "tuple", .type "tuple", .type "tuple", true, rfl, .ty _, tyx_tup f9', kit_ty (by decide +kernel), ?_⟩
        refine ⟨rfl, _, rfl, ite2 (fun g => (no_self g).elim) (fun _ => ?_)⟩
        refine ⟨_, rfl, .ref t9, .ty "tuple", .type "tuple", .type "tuple", true, rfl, .ty _, tyx_tup f9', kit_ty (by decide +kernel), _, rfl, iteT ?_⟩
        refine ⟨_, rfl, t10, r, rfl, f10, Nat.lt_trans rb1 c1220, Nat.lt_trans rb2 c1220, fun H7 s7 => ?_⟩
        have f97 := f9'.same s7
        -- the plain text
        refine ⟨fun σ' H8 => σ' = [some (.ref s0), some (.ref ml), some (.int (0 + (i : Int))), some (.int dr), some (.int (1 + dr % 12)), some (.int (1 + dr / 12 % 12)), some (.str (S t5)), w7, w8, some (.ref t9), some (.ref t10), some (.str (S (tdl r))), some (.str (S (tdl r)))] ∧ H8 = H7, ?_, ?_⟩
        · refine ⟨.ref t9, rfl, t9, _, 1, _, rfl, rfl, f97, atI_nat (j := 1) rfl, rfl, _, rfl, ite2 (fun g => ?_) (fun g => ?_)⟩
          · have hd1 : r.den = 1 := by
              have := eq_of_dec g
              omega
            refine ⟨.ref t9, rfl, t9, _, 0, _, rfl, rfl, f97, atI_nat (j := 0) rfl, _, rfl, log_20 (Nat.lt_trans rb1 c1220), ?_⟩
            have e : V.str (Str.ofString (toString r.num)) = V.str (S (tdl r)) := by
              rw [str_int]
              unfold tdl
              rw [if_pos hd1, List.append_nil]
            show gName 12 (V.str (Str.ofString (toString r.num))) _ _ _
            rw [e]
            exact ⟨rfl, rfl⟩
          · have hd1 : ¬ r.den = 1 := fun z => ne_of_nodec g (by rw [z]; rfl)
            have len1 := str_len (Nat.lt_trans rb1 c1220)
            have len2 := numL20 (Nat.lt_trans rb2 c1220)
            have dn : ¬ ((r.den : Nat) : Int) < 0 := by omega
            have len3 : ((if ((r.den : Nat) : Int) < 0 then [45] else ([] : List Nat)) ++ TL.numL ((r.den : Nat) : Int).natAbs).length ≤ 21 := by
              rw [if_neg dn, List.nil_append, Int.natAbs_natCast]
              omega
            refine ⟨.ref t9, rfl, t9, _, 0, _, rfl, rfl, f97, atI_nat (j := 0) rfl, _, rfl, log_20 (Nat.lt_trans rb1 c1220), ?_⟩
            refine ⟨_, [47], congrArg V.str (str_int _), congrArg V.str lit_slash, by show _ + 1 ≤ _; omega, ?_⟩
            refine ⟨.ref t9, rfl, t9, _, 1, _, rfl, rfl, f97, atI_nat (j := 1) rfl, _, rfl, log_20 (i := ((r.den : Nat) : Int)) (by rw [Int.natAbs_natCast]; exact Nat.lt_trans rb2 c1220), ?_⟩
            refine ⟨_, _, rfl, congrArg V.str (str_int _), by rw [List.length_append]; show _ + 1 + _ ≤ _; omega, ?_, rfl⟩
            have e : (if r.num < 0 then [45] else ([] : List Nat)) ++ TL.numL r.num.natAbs ++ [47] ++ ((if ((r.den : Nat) : Int) < 0 then [45] else []) ++ TL.numL ((r.den : Nat) : Int).natAbs) = tdl r := by
              rw [if_neg dn, Int.natAbs_natCast]
              unfold tdl
              rw [if_neg hd1]
              simp only [List.append_assoc, List.cons_append, List.nil_append]
            rw [e]
            rfl
        rintro σ' H8 ⟨rfl, rfl⟩
        have rt := rdf_tdl rb1 rb2
        have tlen : (tdl r).length ≤ 600 := by
          have len1 := str_len (Nat.lt_trans rb1 c1220)
          have len2 := numL20 (Nat.lt_trans rb2 c1220)
          have l4 : (if r.den = 1 then ([] : List Nat) else 47 :: TL.numL r.den).length ≤ 21 := by
            split
            · decide
            · rw [List.length_cons]
              omega
          unfold tdl
          rw [← List.append_assoc, List.length_append]
          omega
        refine ⟨_, rfl, _, rfl, rfl, _, rfl, ite2 (fun g => (no_self g).elim) (fun _ => ?_)⟩
        refine ⟨_, rfl, tdl r, rfl, tlen, fun c h => (by rw [rt] at h; cases h), fun r' h H9 t12 s9 f12 => ?_⟩
        rw [rt] at h
        cases h
        refine ⟨_, rfl, _, _, dpr f12, dpr (f97.same s9), sh1 _, sh1 _, _, rfl, ?_⟩
        rw [eqvr, decide_eq_true rfl]
        exact iteF ⟨s1.trans (s5.trans (s6.trans (s7.trans s9))), _, _, _, _, _, _, _, _, _, _, _, rfl⟩
    rintro σ' H' ⟨s1, v2, v3, v4, v5, v6, v7, v8, v9, v10, v11, v12, rfl⟩
    refine ⟨[], congrArg (fun z => [V.str z]) lit_nil, by decide, fun c h H8 s8 => ?_, fun r h => (by rw [rdf_nil] at h; cases h)⟩
    rw [rdf_nil] at h
    cases h
    exact ⟨rfl, fin _⟩
end
theorem all_mk {l : PySem.W.OpenLaw} {w : World} {K : PySem.W.Frag} {h : Heap} {mg : Str → Option Value} {fa f1 f2 f3 f4 f5 f6 f7 f8 f9 f10 f11 f12 f13 f14  CPartError CTextFault CNought CBeyond fIni T2 : Addr} (X : K.In h) (G : h.Ns mainGlobals mg) (hfa : mg "law" = some (.ref fa))
    {od1 an1 od2 an2 od3 an3 od4 an4 od5 an5 od6 an6 od7 an7 od8 an8 od9 an9 od10 an10 od11 an11 od12 an12 od13 an13 od14 an14 : Option Addr} {sl1 sl2 sl3 sl4 sl5 sl6 sl7 sl8 sl9 sl10 sl11 sl12 sl13 sl14 : Array (Option Value)} {oc1 kV1 dc1 pm1 cd1 ct1 oc2 kV2 dc2 pm2 cd2 ct2 oc3 kV3 dc3 pm3 cd3 ct3 oc4 kV4 dc4 pm4 cd4 ct4 oc5 kV5 dc5 pm5 cd5 ct5 oc6 kV6 dc6 pm6 cd6 ct6 oc7 kV7 dc7 pm7 cd7 ct7 oc8 kV8 dc8 pm8 cd8 ct8 oc9 kV9 dc9 pm9 cd9 ct9 oc10 kV10 dc10 pm10 cd10 ct10 oc11 kV11 dc11 pm11 cd11 ct11 oc12 kV12 dc12 pm12 cd12 ct12 oc13 kV13 dc13 pm13 cd13 ct13 oc14 kV14 dc14 pm14 cd14 ct14 : Value}
    (a1 : PySem.W.nsIn K mainGlobals "row_end" = some (some (.ref f1))) (l1 : K.lookup f1 = some ⟨oc1, od1, .func (PySem.W.fnOf "row_end" "row_end" (defArgs sRowEnd) (defBody sRowEnd) (defScope sRowEnd) .none kV1 dc1 pm1 an1 cd1 ct1), sl1⟩) (c1 : PySem.W.codeIn K cd1 "row_end" = true) (k1 : PySem.W.keepIn K (.ref f1) = true)
    (a2 : PySem.W.nsIn K mainGlobals "fraction" = some (some (.ref f2))) (l2 : K.lookup f2 = some ⟨oc2, od2, .func (PySem.W.fnOf "fraction" "fraction" (defArgs sFraction) (defBody sFraction) (defScope sFraction) (.ref T2) kV2 dc2 pm2 an2 cd2 ct2), sl2⟩) {ocT2 : Value} {odT2 : Option Addr} {slT2 : Array (Option Value)} {nT2 : Nat} {tT2 : Tok} (lT2 : K.lookup T2 = some ⟨ocT2, odT2, .seq #[.int 1 tT2] nT2, slT2⟩) (c2 : PySem.W.codeIn K cd2 "fraction" = true) (k2 : PySem.W.keepIn K (.ref f2) = true)
    (a3 : PySem.W.nsIn K mainGlobals "negative" = some (some (.ref f3))) (l3 : K.lookup f3 = some ⟨oc3, od3, .func (PySem.W.fnOf "negative" "negative" (defArgs sNegative) (defBody sNegative) (defScope sNegative) .none kV3 dc3 pm3 an3 cd3 ct3), sl3⟩) (c3 : PySem.W.codeIn K cd3 "negative" = true) (k3 : PySem.W.keepIn K (.ref f3) = true)
    (a4 : PySem.W.nsIn K mainGlobals "decimal" = some (some (.ref f4))) (l4 : K.lookup f4 = some ⟨oc4, od4, .func (PySem.W.fnOf "decimal" "decimal" (defArgs sDecimal) (defBody sDecimal) (defScope sDecimal) .none kV4 dc4 pm4 an4 cd4 ct4), sl4⟩) (c4 : PySem.W.codeIn K cd4 "decimal" = true) (k4 : PySem.W.keepIn K (.ref f4) = true)
    (a5 : PySem.W.nsIn K mainGlobals "told" = some (some (.ref f5))) (l5 : K.lookup f5 = some ⟨oc5, od5, .func (PySem.W.fnOf "told" "told" (defArgs sTold) (defBody sTold) (defScope sTold) .none kV5 dc5 pm5 an5 cd5 ct5), sl5⟩) (c5 : PySem.W.codeIn K cd5 "told" = true) (k5 : PySem.W.keepIn K (.ref f5) = true)
    (a6 : PySem.W.nsIn K mainGlobals "read_digits" = some (some (.ref f6))) (l6 : K.lookup f6 = some ⟨oc6, od6, .func (PySem.W.fnOf "read_digits" "read_digits" (defArgs sReadDigits) (defBody sReadDigits) (defScope sReadDigits) .none kV6 dc6 pm6 an6 cd6 ct6), sl6⟩) (c6 : PySem.W.codeIn K cd6 "read_digits" = true) (k6 : PySem.W.keepIn K (.ref f6) = true)
    (a7 : PySem.W.nsIn K mainGlobals "read_ratio" = some (some (.ref f7))) (l7 : K.lookup f7 = some ⟨oc7, od7, .func (PySem.W.fnOf "read_ratio" "read_ratio" (defArgs sReadRatio) (defBody sReadRatio) (defScope sReadRatio) .none kV7 dc7 pm7 an7 cd7 ct7), sl7⟩) (c7 : PySem.W.codeIn K cd7 "read_ratio" = true) (k7 : PySem.W.keepIn K (.ref f7) = true)
    (a8 : PySem.W.nsIn K mainGlobals "read_fraction" = some (some (.ref f8))) (l8 : K.lookup f8 = some ⟨oc8, od8, .func (PySem.W.fnOf "read_fraction" "read_fraction" (defArgs sReadFraction) (defBody sReadFraction) (defScope sReadFraction) .none kV8 dc8 pm8 an8 cd8 ct8), sl8⟩) (c8 : PySem.W.codeIn K cd8 "read_fraction" = true) (k8 : PySem.W.keepIn K (.ref f8) = true)
    (a9 : PySem.W.nsIn K mainGlobals "_law_number" = some (some (.ref f9))) (l9 : K.lookup f9 = some ⟨oc9, od9, .func (PySem.W.fnOf "_law_number" "_law_number" (defArgs sLLawNumber) (defBody sLLawNumber) (defScope sLLawNumber) .none kV9 dc9 pm9 an9 cd9 ct9), sl9⟩) (c9 : PySem.W.codeIn K cd9 "_law_number" = true) (k9 : PySem.W.keepIn K (.ref f9) = true)
    (a10 : PySem.W.nsIn K mainGlobals "_law_fraction" = some (some (.ref f10))) (l10 : K.lookup f10 = some ⟨oc10, od10, .func (PySem.W.fnOf "_law_fraction" "_law_fraction" (defArgs sLLawFraction) (defBody sLLawFraction) (defScope sLLawFraction) .none kV10 dc10 pm10 an10 cd10 ct10), sl10⟩) (c10 : PySem.W.codeIn K cd10 "_law_fraction" = true) (k10 : PySem.W.keepIn K (.ref f10) = true)
    (a11 : PySem.W.nsIn K mainGlobals "_law_digits" = some (some (.ref f11))) (l11 : K.lookup f11 = some ⟨oc11, od11, .func (PySem.W.fnOf "_law_digits" "_law_digits" (defArgs sLLawDigits) (defBody sLLawDigits) (defScope sLLawDigits) .none kV11 dc11 pm11 an11 cd11 ct11), sl11⟩) (c11 : PySem.W.codeIn K cd11 "_law_digits" = true) (k11 : PySem.W.keepIn K (.ref f11) = true)
    (a12 : PySem.W.nsIn K mainGlobals "_law_due" = some (some (.ref f12))) (l12 : K.lookup f12 = some ⟨oc12, od12, .func (PySem.W.fnOf "_law_due" "_law_due" (defArgs sLLawDue) (defBody sLLawDue) (defScope sLLawDue) .none kV12 dc12 pm12 an12 cd12 ct12), sl12⟩) (c12 : PySem.W.codeIn K cd12 "_law_due" = true) (k12 : PySem.W.keepIn K (.ref f12) = true)
    (a13 : PySem.W.nsIn K mainGlobals "_law_read" = some (some (.ref f13))) (l13 : K.lookup f13 = some ⟨oc13, od13, .func (PySem.W.fnOf "_law_read" "_law_read" (defArgs sLLawRead) (defBody sLLawRead) (defScope sLLawRead) .none kV13 dc13 pm13 an13 cd13 ct13), sl13⟩) (c13 : PySem.W.codeIn K cd13 "_law_read" = true) (k13 : PySem.W.keepIn K (.ref f13) = true)
    (a14 : PySem.W.nsIn K mainGlobals "law" = some (some (.ref f14))) (l14 : K.lookup f14 = some ⟨oc14, od14, .func (PySem.W.fnOf "law" "law" (defArgs sLaw) (defBody sLaw) (defScope sLaw) .none kV14 dc14 pm14 an14 cd14 ct14), sl14⟩) (c14 : PySem.W.codeIn K cd14 "law" = true) (k14 : PySem.W.keepIn K (.ref f14) = true)
    (z1 : PySem.W.nsIn K mainGlobals "abs" = some none)
    (z2 : PySem.W.nsIn K mainGlobals "divmod" = some none)
    (z3 : PySem.W.nsIn K mainGlobals "int" = some none)
    (z4 : PySem.W.nsIn K mainGlobals "isinstance" = some none)
    (z5 : PySem.W.nsIn K mainGlobals "len" = some none)
    (z6 : PySem.W.nsIn K mainGlobals "range" = some none)
    (z7 : PySem.W.nsIn K mainGlobals "reversed" = some none)
    (z8 : PySem.W.nsIn K mainGlobals "str" = some none)
    (z9 : PySem.W.nsIn K mainGlobals "tuple" = some none)
    (z10 : PySem.W.nsIn K mainGlobals "gcd" = some (some (.builtin "math.gcd")))
    {aDIGITS : Tok} (u0 : PySem.W.nsIn K mainGlobals "DIGITS" = some (some (.str "0123456789" aDIGITS)))
    {aMOST_DIGITS : Tok} (u1 : PySem.W.nsIn K mainGlobals "MOST_DIGITS" = some (some (.int 12 aMOST_DIGITS)))
    (y0 : PySem.W.nsIn K mainGlobals "PartError" = some (some (.ref CPartError)))
    (y1 : PySem.W.nsIn K mainGlobals "TextFault" = some (some (.ref CTextFault)))
    (y2 : PySem.W.nsIn K mainGlobals "Nought" = some (some (.ref CNought)))
    (y3 : PySem.W.nsIn K mainGlobals "Beyond" = some (some (.ref CBeyond)))
    {odI anI : Option Addr} {slI : Array (Option Value)} {ocI kVI dcI pmI cdI ctI : Value} (lI : K.lookup fIni = some ⟨ocI, odI, .func (PySem.W.fnOf "__init__" "TextFault.__init__" (defArgs sIni) (defBody sIni) (defScope sIni) .none kVI dcI pmI anI cdI ctI), slI⟩) (cI : PySem.W.codeIn K cdI "TextFault.__init__" = true) (kI : PySem.W.keepIn K (.ref fIni) = true)
    {nm q : Str} {N : Addr} {bs : List Value} {sn : List Str} {sub : List Value} {ab : Bool} {col : Option Bool} {dd : Option Addr} {m0 m1 m2 m3 m5 : Option Value}
    (xL : K.lookup CTextFault = some (excClassObj nm q CTextFault N bs [.ref CPartError, .type "ValueError", .type "Exception", .type "BaseException", .type "object"] true sn sub ab col dd m0 m1 m2 m3 m5 "ValueError.__new__"))
    (v0 : PySem.W.findIn K (.ref CTextFault) "__setattr__" = some (some (.builtin "object.__setattr__")))
    (v1 : PySem.W.findIn K (.ref CTextFault) "__getattribute__" = some (some (.builtin "BaseException.__getattribute__")))
    (v2 : PySem.W.findIn K (.ref CTextFault) "__getattr__" = some none)
    (v3 : PySem.W.findIn K (.ref CTextFault) "line" = some none)
    (v4 : PySem.W.findIn K (.ref CTextFault) "column" = some none)
    (v5 : PySem.W.findIn K (.ref CTextFault) "__init__" = some (some (.ref fIni)))
    (v6 : PySem.W.typeIn K (.ref fIni) = some (.type "function"))
    (v7 : PySem.W.keepIn K (.ref CTextFault) = true)
    (v8 : PySem.W.subIn K (.ref CTextFault) (.type "BaseException") = some true)
    (v9 : PySem.W.typeIn K (.ref CTextFault) = some (.type "type"))
    (v10 : PySem.W.hasDictIn K CTextFault = true)
    (v11 : PySem.W.isClsIn K CTextFault = true)
    (v12 : PySem.W.subIn K (.ref CTextFault) (.ref CTextFault) = some true)
    (v13 : PySem.W.findIn K (.ref CTextFault) "__class__" = some (some (.builtin "object.__class__")))
    (v14 : PySem.W.specialIn K (.builtin "object.__class__") "__get__" = some (some (.builtin "getset_descriptor.__get__")))
    (v15 : PySem.W.takesIn K (.builtin "object.__class__") = some true)
    (v16 : PySem.W.mroIn K CTextFault (.type "object") = some true)
    (v17 : PySem.W.subIn K (.ref CPartError) (.type "BaseException") = some true)
    (v18 : PySem.W.isClsIn K CPartError = true)
    (v19 : PySem.W.typeIn K (.ref CPartError) = some (.type "type"))
    (v20 : PySem.W.subIn K (.ref CTextFault) (.ref CPartError) = some true)
    (v21 : PySem.W.isClsIn K CBeyond = true)
    (v22 : PySem.W.typeIn K (.ref CBeyond) = some (.type "type"))
    (v23 : PySem.W.subIn K (.ref CTextFault) (.ref CBeyond) = some false)
    : ∃ fd : FuncData, (∀ (s : Shared) (v : Value), BindsTo s fd ⟨[v], []⟩ [("script", v)]) ∧ ∀ base : Heap, K.In base → base.Ns mainGlobals mg → FnOk l.prog w K mg base CX0 7 fa fd ["script"] (spLaw K) := by
  have e := hfa.symm.trans (PySem.W.mg_of X G a14)
  cases e
  have T : Txt mg := ⟨PySem.W.mg_none_of X G z1, PySem.W.mg_none_of X G z2, PySem.W.mg_none_of X G z3, PySem.W.mg_none_of X G z4, PySem.W.mg_none_of X G z5, PySem.W.mg_none_of X G z6, PySem.W.mg_none_of X G z7, PySem.W.mg_none_of X G z8, PySem.W.mg_none_of X G z9, PySem.W.mg_of X G z10⟩
  have CT : Cons K mg aDIGITS aMOST_DIGITS := ⟨PySem.W.mg_of X G u0, PySem.W.mg_of X G u1⟩
  have EX : Exns K mg CPartError CTextFault CNought CBeyond := ⟨PySem.W.mg_of X G y0, PySem.W.mg_of X G y1, PySem.W.mg_of X G y2, PySem.W.mg_of X G y3⟩
  have FL : Flt K mg CPartError CTextFault CNought CBeyond fIni := ⟨EX.gTextFault, ⟨nm, q, N, bs, _, sn, sub, ab, col, dd, m0, m1, m2, m3, m5, xL, show PySem.HandSPX.refsVE [.type "ValueError", .type "Exception", .type "BaseException", .type "object"] = true by decide +kernel⟩, v0, v1, v2, v3, v4, v5, v6, v7, v8, v9, v10, v11, v12, v13, v14, v15, v16, v17, v18, v19, v20, v21, v22, v23⟩
  have FI := fun_mk (st := sIni) lI cI kI
  have bI := FI.binds (ps := ["self", "line", "column"]) fun _ _ _ _ _ _ us hl => match us, hl with | [_, _, _], _ => rfl
  have F1 := fun_mk (st := sRowEnd) l1 c1 k1
  have F2 : FunD K "fraction" "fraction" (defArgs sFraction) (defBody sFraction) (defScope sFraction) [.int 1] [] f2 _ := ⟨⟨oc2, od2, .ref T2, kV2, dc2, pm2, an2, cd2, ct2, sl2, rfl, l2, c2, .inr ⟨by decide, T2, _, [.int 1 tT2], nT2, rfl, lT2, rfl, .cons ⟨_, rfl⟩ .nil⟩, .inl rfl⟩, k2⟩
  have F3 := fun_mk (st := sNegative) l3 c3 k3
  have F4 := fun_mk (st := sDecimal) l4 c4 k4
  have F5 := fun_mk (st := sTold) l5 c5 k5
  have F6 := fun_mk (st := sReadDigits) l6 c6 k6
  have F7 := fun_mk (st := sReadRatio) l7 c7 k7
  have F8 := fun_mk (st := sReadFraction) l8 c8 k8
  have F9 := fun_mk (st := sLLawNumber) l9 c9 k9
  have F10 := fun_mk (st := sLLawFraction) l10 c10 k10
  have F11 := fun_mk (st := sLLawDigits) l11 c11 k11
  have F12 := fun_mk (st := sLLawDue) l12 c12 k12
  have F13 := fun_mk (st := sLLawRead) l13 c13 k13
  have F14 := fun_mk (st := sLaw) l14 c14 k14
  have b1 := F1.binds (ps := ["text", "at", "allowed"]) fun _ _ _ _ _ _ us hl => match us, hl with | [_, _, _], _ => rfl
  obtain ⟨e2, ve2, b2⟩ := F2.binds1 (ps := ["number", "divisor"]) 2 1 (by decide) rfl (fun T kV doc pm an cdv ct us its hu hi => match us, its, hu, hi with | [_, _], [_], _, _ => ⟨_, rfl, by kernel_rfl⟩)
  cases ve2
  obtain ⟨d2, vd2, bd2⟩ := F2.binds1 (ps := ["number", "divisor"]) 1 0 (by decide) rfl (fun T kV doc pm an cdv ct us its hu hi => match us, its, hu, hi with | [_], [_], _, _ => ⟨_, rfl, by kernel_rfl⟩)
  have b3 := F3.binds (ps := ["a"]) fun _ _ _ _ _ _ us hl => match us, hl with | [_], _ => rfl
  have b4 := F4.binds (ps := ["number"]) fun _ _ _ _ _ _ us hl => match us, hl with | [_], _ => rfl
  have b5 := F5.binds (ps := ["a"]) fun _ _ _ _ _ _ us hl => match us, hl with | [_], _ => rfl
  have b6 := F6.binds (ps := ["text", "at"]) fun _ _ _ _ _ _ us hl => match us, hl with | [_, _], _ => rfl
  have b7 := F7.binds (ps := ["text", "at"]) fun _ _ _ _ _ _ us hl => match us, hl with | [_, _], _ => rfl
  have b8 := F8.binds (ps := ["text"]) fun _ _ _ _ _ _ us hl => match us, hl with | [_], _ => rfl
  have b9 := F9.binds (ps := ["script", "k"]) fun _ _ _ _ _ _ us hl => match us, hl with | [_, _], _ => rfl
  have b10 := F10.binds (ps := ["number", "divisor"]) fun _ _ _ _ _ _ us hl => match us, hl with | [_, _], _ => rfl
  have b11 := F11.binds (ps := ["text", "start"]) fun _ _ _ _ _ _ us hl => match us, hl with | [_, _], _ => rfl
  have b12 := F12.binds (ps := ["text"]) fun _ _ _ _ _ _ us hl => match us, hl with | [_], _ => rfl
  have b13 := F13.binds (ps := ["text"]) fun _ _ _ _ _ _ us hl => match us, hl with | [_], _ => rfl
  refine ⟨PySem.W.fnOf "law" "law" (defArgs sLaw) (defBody sLaw) (defScope sLaw) .none kV14 dc14 pm14 an14 cd14 ct14, fun s v => .of_eq rfl, fun base _ _ => ?_⟩
  have G1 : FnOk l.prog w K mg base CX0 1 f1 _ ["text", "at", "allowed"] (spRowEnd K) := okRowEnd F1 T CT EX FL (okIni FI FL.ox FL.nline FL.ncolumn) bI 
  have G2 : FnOk l.prog w K mg base CX0 1 f2 _ ["number", "divisor"] (spFraction K) := okFraction F2 T CT EX FL (okIni FI FL.ox FL.nline FL.ncolumn) bI 
  have G3 : FnOk l.prog w K mg base CX0 1 f3 _ ["a"] (spNegative K) := okNegative F3 T CT EX FL (okIni FI FL.ox FL.nline FL.ncolumn) bI 
  have G4 : FnOk l.prog w K mg base CX0 1 f4 _ ["number"] (spDecimal K) := okDecimal F4 T CT EX FL (okIni FI FL.ox FL.nline FL.ncolumn) bI 
  have G5 : FnOk l.prog w K mg base CX0 2 f5 _ ["a"] (spTold K) := okTold F5 T CT EX FL (okIni FI FL.ox FL.nline FL.ncolumn) bI G4 (PySem.W.mg_of X G a4) k4 b4
  have G6 : FnOk l.prog w K mg base (L2.CX l.prog w) 3 f6 _ ["text", "at"] (spReadDigits K CTextFault) := okReadDigits F6 T CT EX FL (okIni FI FL.ox FL.nline FL.ncolumn) bI G1 (PySem.W.mg_of X G a1) k1 b1
  have G7 : FnOk l.prog w K mg base (L2.CX l.prog w) 4 f7 _ ["text", "at"] (spReadRatio K CTextFault) := okReadRatio F7 T CT EX FL (okIni FI FL.ox FL.nline FL.ncolumn) bI G6 (PySem.W.mg_of X G a6) k6 b6 G2 (PySem.W.mg_of X G a2) k2 b2 vd2 bd2
  have G8 : FnOk l.prog w K mg base (L2.CX l.prog w) 5 f8 _ ["text"] (spReadFraction K CTextFault) := okReadFraction F8 T CT EX FL (okIni FI FL.ox FL.nline FL.ncolumn) bI G7 (PySem.W.mg_of X G a7) k7 b7 G3 (PySem.W.mg_of X G a3) k3 b3
  have G9 : FnOk l.prog w K mg base CX0 1 f9 _ ["script", "k"] (spLLawNumber K) := okLLawNumber F9 T CT EX FL (okIni FI FL.ox FL.nline FL.ncolumn) bI 
  have G10 : FnOk l.prog w K mg base CX0 1 f10 _ ["number", "divisor"] (spLLawFraction K) := okLLawFraction F10 T CT EX FL (okIni FI FL.ox FL.nline FL.ncolumn) bI 
  have G11 : FnOk l.prog w K mg base CX0 1 f11 _ ["text", "start"] (spLLawDigits K) := okLLawDigits F11 T CT EX FL (okIni FI FL.ox FL.nline FL.ncolumn) bI 
  have G12 : FnOk l.prog w K mg base CX0 2 f12 _ ["text"] (spLLawDue K) := okLLawDue F12 T CT EX FL (okIni FI FL.ox FL.nline FL.ncolumn) bI G11 (PySem.W.mg_of X G a11) k11 b11 G10 (PySem.W.mg_of X G a10) k10 b10
  have G13 : FnOk l.prog w K mg base CX0 6 f13 _ ["text"] (spLLawRead K) := okLLawRead F13 T CT EX FL (okIni FI FL.ox FL.nline FL.ncolumn) bI G8 (PySem.W.mg_of X G a8) k8 b8
  exact okLaw F14 T CT EX FL (okIni FI FL.ox FL.nline FL.ncolumn) bI G9 (PySem.W.mg_of X G a9) k9 b9 G12 (PySem.W.mg_of X G a12) k12 b12 G13 (PySem.W.mg_of X G a13) k13 b13 G5 (PySem.W.mg_of X G a5) k5 b5 G8 (PySem.W.mg_of X G a8) k8 b8
end Tp
open PySem PySem.W PyProof.Rows
set_option maxHeartbeats 0 in
theorem PySem.Challenge.cw_truepart_k03_texts_of_fractions_holds : PySem.Challenge.rw_truepart_k03_texts_of_fractions.Holds := by
  w_on; o_law; k_head; (case hw => w_witness2)
  k_fill
  refine L2.walk_of (l := PySem.Challenge.rw_truepart_k03_texts_of_fractions) (n := 63) (k := 7) (x := "script") (CX := fun _ => L2.CX0) (sp := fun w => Tp.spLaw _) rfl (by decide) rfl ⟨rfl, by decide, by decide⟩ (fun w h Y => PySem.W.kIn_of Y) ?F (fun _ _ a ns hl _ hS => ⟨a, ns, rfl, hS, hl, fun _ => rfl⟩) (fun _ _ _ _ _ h => h)
  case F =>
    intro w mg fa h KX G hmg
    refine' Tp.all_mk KX G hmg ?a1 ?l1 ?c1 ?k1 ?a2 ?l2 ?lT2 ?c2 ?k2 ?a3 ?l3 ?c3 ?k3 ?a4 ?l4 ?c4 ?k4 ?a5 ?l5 ?c5 ?k5 ?a6 ?l6 ?c6 ?k6 ?a7 ?l7 ?c7 ?k7 ?a8 ?l8 ?c8 ?k8 ?a9 ?l9 ?c9 ?k9 ?a10 ?l10 ?c10 ?k10 ?a11 ?l11 ?c11 ?k11 ?a12 ?l12 ?c12 ?k12 ?a13 ?l13 ?c13 ?k13 ?a14 ?l14 ?c14 ?k14 ?z1 ?z2 ?z3 ?z4 ?z5 ?z6 ?z7 ?z8 ?z9 ?z10 ?u0 ?u1 ?y0 ?y1 ?y2 ?y3 ?lI ?cI ?kI ?xL ?v0 ?v1 ?v2 ?v3 ?v4 ?v5 ?v6 ?v7 ?v8 ?v9 ?v10 ?v11 ?v12 ?v13 ?v14 ?v15 ?v16 ?v17 ?v18 ?v19 ?v20 ?v21 ?v22 ?v23
    (case a1 => k_is)
    (case l1 => k_is)
    (case c1 => k_is)
    (case k1 => k_is)
    (case a2 => k_is)
    (case l2 => k_is)
    (case lT2 => k_is)
    (case c2 => k_is)
    (case k2 => k_is)
    (case a3 => k_is)
    (case l3 => k_is)
    (case c3 => k_is)
    (case k3 => k_is)
    (case a4 => k_is)
    (case l4 => k_is)
    (case c4 => k_is)
    (case k4 => k_is)
    (case a5 => k_is)
    (case l5 => k_is)
    (case c5 => k_is)
    (case k5 => k_is)
    (case a6 => k_is)
    (case l6 => k_is)
    (case c6 => k_is)
    (case k6 => k_is)
    (case a7 => k_is)
    (case l7 => k_is)
    (case c7 => k_is)
    (case k7 => k_is)
    (case a8 => k_is)
    (case l8 => k_is)
    (case c8 => k_is)
    (case k8 => k_is)
    (case a9 => k_is)
    (case l9 => k_is)
    (case c9 => k_is)
    (case k9 => k_is)
    (case a10 => k_is)
    (case l10 => k_is)
    (case c10 => k_is)
    (case k10 => k_is)
    (case a11 => k_is)
    (case l11 => k_is)
    (case c11 => k_is)
    (case k11 => k_is)
    (case a12 => k_is)
    (case l12 => k_is)
    (case c12 => k_is)
    (case k12 => k_is)
    (case a13 => k_is)
    (case l13 => k_is)
    (case c13 => k_is)
    (case k13 => k_is)
    (case a14 => k_is)
    (case l14 => k_is)
    (case c14 => k_is)
    (case k14 => k_is)
    (case z1 => k_is)
    (case z2 => k_is)
    (case z3 => k_is)
    (case z4 => k_is)
    (case z5 => k_is)
    (case z6 => k_is)
    (case z7 => k_is)
    (case z8 => k_is)
    (case z9 => k_is)
    (case z10 => k_is)
    (case u0 => k_is)
    (case u1 => k_is)
    (case y0 => k_is)
    (case y1 => k_is)
    (case y2 => k_is)
    (case y3 => k_is)
    (case xL => k_is)
    (case v0 => k_is)
    (case v1 => k_is)
    (case v2 => k_is)
    (case v3 => k_is)
    (case v4 => k_is)
    (case v5 => k_is)
    (case lI => k_is)
    (case cI => k_is)
    (case kI => k_is)
    (case v6 => k_is)
    (case v7 => k_is)
    (case v8 => k_is)
    (case v9 => k_is)
    (case v10 => k_is)
    (case v11 => k_is)
    (case v12 => k_is)
    (case v13 => k_is)
    (case v14 => k_is)
    (case v15 => k_is)
    (case v16 => k_is)
    (case v17 => k_is)
    (case v18 => k_is)
    (case v19 => k_is)
    (case v20 => k_is)
    (case v21 => k_is)
    (case v22 => k_is)
    (case v23 => k_is)
#print axioms PySem.Challenge.cw_truepart_k03_texts_of_fractions_holds
