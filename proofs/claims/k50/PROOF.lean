import PyProof.Rows.All
import Wide.All
import OpenK.AllK
import Wide.FinOn
import HandS.ForMost
import HandS.Codes
import HandS.Gcd
import HandS.IsInst
import HandS.Wide
import HandS.ForExc
import HandS.ExcIs
import HandS.ExcInit
import HandS.ExcField
import HandS.CallSlots
import HandS.Defaults
import HandS.Text
import HandS.Walk
import HandS.Star
import HandS.NoneIn
import HandS.Style
import PyProof.StrOps2
import KE.KUnpackStar
import PySem.Challenge.RW_truepart_k50_texts_of_origins
set_option Elab.async false
set_option linter.all false
set_option maxHeartbeats 8000000
set_option maxRecDepth 100000
namespace Tp
open PySem L2
def top (i : Nat) : Stmt := PySem.Challenge.pw_truepart_k50_texts_of_origins.main.body.getD i (.Pass ⟨0, 0, 0, 0⟩)
abbrev sRowEnd : Stmt := top 5
abbrev sIsRow : Stmt := top 6
abbrev sIsShortWord : Stmt := top 7
abbrev sIsPlainNumber : Stmt := top 8
abbrev sIsSideName : Stmt := top 15
abbrev sReadOrigin : Stmt := top 16
abbrev sOriginText : Stmt := top 17
abbrev sLLawNumber : Stmt := top 19
abbrev sLLawSide : Stmt := top 21
abbrev sLLawSideGood : Stmt := top 22
abbrev sLLawNumberGood : Stmt := top 23
abbrev sLLawGood : Stmt := top 24
abbrev sLLawRead : Stmt := top 25
abbrev sLaw : Stmt := top 26
theorem scRowEnd : FnScope ["text", "at", "allowed"] ["text", "at", "allowed"] (defScope sRowEnd) := ⟨rfl, rfl, rfl, by decide +kernel, rfl, by decide +kernel, by decide +kernel⟩
theorem scIsRow : FnScope ["text", "allowed"] ["text", "allowed"] (defScope sIsRow) := ⟨rfl, rfl, rfl, by decide +kernel, rfl, by decide +kernel, by decide +kernel⟩
theorem scIsShortWord : FnScope ["text", "first", "others"] ["text", "first", "others"] (defScope sIsShortWord) := ⟨rfl, rfl, rfl, by decide +kernel, rfl, by decide +kernel, by decide +kernel⟩
theorem scIsPlainNumber : FnScope ["text", "most"] ["text", "most"] (defScope sIsPlainNumber) := ⟨rfl, rfl, rfl, by decide +kernel, rfl, by decide +kernel, by decide +kernel⟩
theorem scIsSideName : FnScope ["text"] ["text"] (defScope sIsSideName) := ⟨rfl, rfl, rfl, by decide +kernel, rfl, by decide +kernel, by decide +kernel⟩
theorem scReadOrigin : FnScope ["text", "numbers", "name", "feature", "occurrences", "number"] ["text"] (defScope sReadOrigin) := ⟨rfl, rfl, rfl, by decide +kernel, rfl, by decide +kernel, by decide +kernel⟩
theorem scOriginText : FnScope ["origin", "feature", "occurrences", "name", "number"] ["origin"] (defScope sOriginText) := ⟨rfl, rfl, rfl, by decide +kernel, rfl, by decide +kernel, by decide +kernel⟩
theorem scLLawNumber : FnScope ["script", "k", "cell", "first", "second"] ["script", "k"] (defScope sLLawNumber) := ⟨rfl, rfl, rfl, by decide +kernel, rfl, by decide +kernel, by decide +kernel⟩
theorem scLLawSide : FnScope ["draw", "text", "k"] ["draw"] (defScope sLLawSide) := ⟨rfl, rfl, rfl, by decide +kernel, rfl, by decide +kernel, by decide +kernel⟩
theorem scLLawSideGood : FnScope ["text", "sign"] ["text"] (defScope sLLawSideGood) := ⟨rfl, rfl, rfl, by decide +kernel, rfl, by decide +kernel, by decide +kernel⟩
theorem scLLawNumberGood : FnScope ["text", "sign"] ["text"] (defScope sLLawNumberGood) := ⟨rfl, rfl, rfl, by decide +kernel, rfl, by decide +kernel, by decide +kernel⟩
theorem scLLawGood : FnScope ["text", "parts", "k", "part"] ["text"] (defScope sLLawGood) := ⟨rfl, rfl, rfl, by decide +kernel, rfl, by decide +kernel, by decide +kernel⟩
theorem scLLawRead : FnScope ["text", "wrong"] ["text"] (defScope sLLawRead) := ⟨rfl, rfl, rfl, by decide +kernel, rfl, by decide +kernel, by decide +kernel⟩
theorem scLaw : FnScope ["script", "menu", "k", "draw", "side", "occurrences", "origin", "text", "parts", "at", "changed", "j", "one"] ["script"] (defScope sLaw) := ⟨rfl, rfl, rfl, by decide +kernel, rfl, by decide +kernel, by decide +kernel⟩
structure Txt (mg : Str → Option Value) : Prop where
  all : mg "all" = none
  bool : mg "bool" = none
  int : mg "int" = none
  isinstance : mg "isinstance" = none
  len : mg "len" = none
  range : mg "range" = none
  str : mg "str" = none
  tuple : mg "tuple" = none
structure Cons (K : PySem.W.Frag) (mg : Str → Option Value) (aDIGITS : Tok) (aSMALL_LETTERS : Tok) (aLETTERS_AND_DIGITS : Tok) (aNAME_LENGTH : Tok) (aMOST_OCCURRENCES : Tok) (aNUMBER_DIGITS : Tok) : Prop where
  gDIGITS : mg "DIGITS" = some (.str "0123456789" aDIGITS)
  gSMALL_LETTERS : mg "SMALL_LETTERS" = some (.str "abcdefghijklmnopqrstuvwxyz" aSMALL_LETTERS)
  gLETTERS_AND_DIGITS : mg "LETTERS_AND_DIGITS" = some (.str "abcdefghijklmnopqrstuvwxyzABCDEFGHIJKLMNOPQRSTUVWXYZ0123456789" aLETTERS_AND_DIGITS)
  gNAME_LENGTH : mg "NAME_LENGTH" = some (.int 16 aNAME_LENGTH)
  gMOST_OCCURRENCES : mg "MOST_OCCURRENCES" = some (.int 12 aMOST_OCCURRENCES)
  gNUMBER_DIGITS : mg "NUMBER_DIGITS" = some (.int 6 aNUMBER_DIGITS)
abbrev sIni : Stmt := (C8.clsBody (top 11)).getD 0 (.Pass ⟨0, 0, 0, 0⟩)
theorem scIni : FnScope ["self", "line", "column"] ["self", "line", "column"] (defScope sIni) := ⟨rfl, rfl, rfl, by decide +kernel, rfl, by decide +kernel, by decide +kernel⟩
section
variable {K : PySem.W.Frag} {C D : Addr} {c : Value} {r : Bool}
theorem exm_two (b : PySem.W.subIn K (.ref D) (.type "BaseException") = some true) (i : PySem.W.isClsIn K D = true) (t : PySem.W.typeIn K (.ref D) = some (.type "type")) (s : PySem.W.subIn K c (.ref D) = some r) : PySem.W.exmOne K c (.ref D) = some r := by
  have e1 : (PySem.W.subIn K (.ref D) (.type "BaseException") == some true) = true := by rw [b]; rfl
  have i' : (PySem.W.clsIn K D).isSome = true := i
  have e2 : ((PySem.W.clsIn K D).isSome && PySem.W.typeIn K (.ref D) == some (.type "type")) = true := by rw [i', t]; rfl
  unfold PySem.W.exmOne PySem.W.kitCls
  rw [if_pos e1]
  show (if _ then _ else _) = _
  rw [if_pos e2]
  exact s
theorem kit_self : PySem.W.kitOne K (.ref C) (.ref C) = some true := by
  unfold PySem.W.kitOne
  exact if_pos (beq_iff_eq.mpr rfl)
theorem kit_not (s0 : PySem.W.subIn K (.ref C) (.ref C) = some true) (i : PySem.W.isClsIn K D = true) (t : PySem.W.typeIn K (.ref D) = some (.type "type")) (s : PySem.W.subIn K (.ref C) (.ref D) = some false) : PySem.W.kitOne K (.ref C) (.ref D) = some false := by
  have i' : (PySem.W.clsIn K D).isSome = true := i
  have e2 : ((PySem.W.clsIn K D).isSome && PySem.W.typeIn K (.ref D) == some (.type "type")) = true := by rw [i', t]; rfl
  unfold PySem.W.kitOne PySem.W.kitCls
  rw [if_neg (fun z => ?_)]
  · show (if _ then _ else _) = _
    rw [if_pos e2]
    exact s
  · have e := Value.ref.inj (beq_iff_eq.mp z)
    subst e
    rw [s0] at s
    cases s
theorem kit_kind {T : String} (h : PySem.W.kitMeta T = true) (s : PySem.W.subIn K (.ref C) (.type T) = some r) : PySem.W.kitOne K (.ref C) (.type T) = some r := by
  unfold PySem.W.kitOne PySem.W.kitCls
  rw [if_neg (fun z => by have e := beq_iff_eq.mp z; cases e)]
  show (if _ then _ else _) = _
  rw [if_pos h]
  exact s
end

structure Exns (K : PySem.W.Frag) (mg : Str → Option Value) (CPartError CTextFault : Addr) : Prop where
  gPartError : mg "PartError" = some (.ref CPartError)
  gTextFault : mg "TextFault" = some (.ref CTextFault)
structure Flt (K : PySem.W.Frag) (mg : Str → Option Value) (CPartError CTextFault fIni : Addr) : Prop where
  g : mg "TextFault" = some (.ref CTextFault)
  cls : ∃ nm q N bs bm sn sub ab col dd k0 k1 k2 k3 k5, K.lookup CTextFault = some (excClassObj nm q CTextFault N bs bm true sn sub ab col dd k0 k1 k2 k3 k5 "ValueError.__new__") ∧ PySem.HandSPX.refsVE bm = true
  sa : PySem.W.findIn K (.ref CTextFault) "__setattr__" = some (some (.builtin "object.__setattr__"))
  ga : PySem.W.findIn K (.ref CTextFault) "__getattribute__" = some (some (.builtin "BaseException.__getattribute__"))
  gg : PySem.W.findIn K (.ref CTextFault) "__getattr__" = some none
  nline : PySem.W.findIn K (.ref CTextFault) "line" = some none
  ncolumn : PySem.W.findIn K (.ref CTextFault) "column" = some none
  iC : PySem.W.findIn K (.ref CTextFault) "__init__" = some (some (.ref fIni))
  tI : PySem.W.typeIn K (.ref fIni) = some (.type "function")
  kC : PySem.W.keepIn K (.ref CTextFault) = true
  exC : PySem.W.subIn K (.ref CTextFault) (.type "BaseException") = some true
  tyC : PySem.W.typeIn K (.ref CTextFault) = some (.type "type")
  hdC : PySem.W.hasDictIn K CTextFault = true
  clC : PySem.W.isClsIn K CTextFault = true
  seC : PySem.W.subIn K (.ref CTextFault) (.ref CTextFault) = some true
  i4 : PySem.W.findIn K (.ref CTextFault) "__class__" = some (some (.builtin "object.__class__"))
  i5 : PySem.W.specialIn K (.builtin "object.__class__") "__get__" = some (some (.builtin "getset_descriptor.__get__"))
  i6 : PySem.W.takesIn K (.builtin "object.__class__") = some true
  i7 : PySem.W.mroIn K CTextFault (.type "object") = some true
  cbPartError : PySem.W.subIn K (.ref CPartError) (.type "BaseException") = some true
  ciPartError : PySem.W.isClsIn K CPartError = true
  ctPartError : PySem.W.typeIn K (.ref CPartError) = some (.type "type")
  csPartError : PySem.W.subIn K (.ref CTextFault) (.ref CPartError) = some true
theorem Flt.ox {K : PySem.W.Frag} {mg : Str → Option Value} {CPartError CTextFault fIni : Addr} (h : Flt K mg CPartError CTextFault fIni) : OexC K CTextFault := ⟨h.cls, h.sa, h.exC, h.tyC, h.kC⟩
theorem Flt.xf {K : PySem.W.Frag} {mg : Str → Option Value} {CPartError CTextFault fIni : Addr} (h : Flt K mg CPartError CTextFault fIni) : XfC K CTextFault := ⟨h.ga, h.gg, h.exC, h.hdC⟩
theorem Flt.ec {K : PySem.W.Frag} {mg : Str → Option Value} {CPartError CTextFault fIni : Addr} (h : Flt K mg CPartError CTextFault fIni) : ExcC K CTextFault := ⟨h.ga, h.gg, h.exC, h.hdC, h.i4, h.i5, h.i6, h.i7⟩
theorem Flt.ePartError {K : PySem.W.Frag} {mg : Str → Option Value} {CPartError CTextFault fIni : Addr} (h : Flt K mg CPartError CTextFault fIni) : PySem.W.exmOne K (.ref CTextFault) (.ref CPartError) = some true := exm_two h.cbPartError h.ciPartError h.ctPartError h.csPartError
theorem Flt.kTextFault {K : PySem.W.Frag} {mg : Str → Option Value} {CPartError CTextFault fIni : Addr} (h : Flt K mg CPartError CTextFault fIni) : PySem.W.kitOne K (.ref CTextFault) (.ref CTextFault) = some true := kit_self
local macro_rules | `(tactic| walk_at "rd") => `(tactic| repeat (first | refine ⟨_, rfl, ?_⟩ | refine ⟨rfl, ?_⟩ | refine ⟨_, _, rfl, rfl, ?_⟩ | refine Or.inl ⟨_, rfl, ?_⟩ | refine ⟨(by show (0 : Int) < _; decide), ?_⟩ | refine ⟨⟨by decide, by decide⟩, ?_⟩ | refine ⟨Or.inr ⟨by decide, by decide⟩, ?_⟩ | refine ⟨Or.inl ⟨by decide, by decide⟩, ?_⟩ | refine ⟨⟨by decide, by decide, by decide⟩, ?_⟩))
abbrev zs (l : List Int) : List V := l.map V.int
theorem same_upd {H : Hp} {p : Addr} {o : HO} (h : H p = none) : Same H (upd H p o) := fun b x e => by
  rw [upd_ne (ne_of_none e h)]
  exact e
theorem same_tup {K : PySem.W.Frag} {H H' : Hp} {a : Addr} {xs : List V} (e : Same H H') (h : SqT K H a xs) : SqT K H' a xs := by
  rcases h with (h | ⟨o, h⟩) | h
  · exact .inl (.inl (e _ _ h))
  · exact .inl (.inr ⟨o, e _ _ h⟩)
  · exact .inr h
theorem zs_get {l : List Int} {i : Nat} {v : V} (h : (zs l)[i]? = some v) : ∃ z, v = .int z ∧ l[i]? = some z := by
  rw [show zs l = l.map V.int from rfl, List.getElem?_map] at h
  cases e : l[i]? with
  | none =>
    rw [e] at h
    cases h
  | some z =>
    rw [e] at h
    exact ⟨z, (Option.some.inj h).symm, rfl⟩
theorem zs_snoc {l : List Int} {i : Nat} {z : Int} (f : Int → Int) (h : l[i]? = some z) : zs ((l.map f).take i) ++ [V.int (f z)] = zs ((l.map f).take (i + 1)) := by
  show ((l.map f).take i).map V.int ++ [V.int (f z)] = ((l.map f).take (i + 1)).map V.int
  rw [List.take_add_one, List.getElem?_map, h, List.map_append]
  rfl
theorem zs_len {l : List Int} (n : Nat) (h : l.length ≤ 1000) : (zs (l.take n)).length < sizeLine := by
  show ((l.take n).map V.int).length < sizeLine
  rw [List.length_map, List.length_take]
  exact small1000 (by omega)
theorem ne_of_bang {n m : Int} (h : (!decide (V.int n = V.int m)) = true) : n ≠ m := fun e => by
  rw [e, decide_eq_true rfl] at h
  cases h
theorem eq_of_nobang {n m : Int} (h : ¬ (!decide (V.int n = V.int m)) = true) : n = m := by
  by_cases e : n = m
  · exact e
  · exact absurd (by rw [decide_eq_false (fun z => e (V.int.inj z))]; rfl) h
theorem eq_of_dec {n m : Int} (h : decide (V.int n = V.int m) = true) : n = m := V.int.inj (of_decide_eq_true h)
theorem ne_of_nodec {n m : Int} (h : ¬ decide (V.int n = V.int m) = true) : n ≠ m := fun e => h (decide_eq_true (by rw [e]))

/-! Euclid by turns. -/
/-- one turn of the walk (a, b) -> (b, a % b), of naturals -/
theorem gcd_turn (a b : Nat) : Nat.gcd b (a % b) = Nat.gcd a b := by
  rw [Nat.gcd_comm b, ← Nat.gcd_rec, Nat.gcd_comm]
theorem prod_turn {a b : Nat} (h : b ≤ a) (hb : 0 < b) : 2 * (b * (a % b)) ≤ a * b := by
  have h1 : a % b < b := Nat.mod_lt _ hb
  have h2 : a = b * (a / b) + a % b := (Nat.div_add_mod a b).symm
  have h3 : 1 ≤ a / b := (Nat.one_le_div_iff hb).mpr h
  have h4 : b * 1 ≤ b * (a / b) := Nat.mul_le_mul_left b h3
  have h5 : 2 * (a % b) ≤ a := by omega
  calc 2 * (b * (a % b)) = b * (2 * (a % b)) := by rw [Nat.mul_left_comm]
    _ ≤ b * a := Nat.mul_le_mul_left b h5
    _ = a * b := Nat.mul_comm _ _
/-- what holds behind i turns from (a0, b0) -/
structure Eu (a0 b0 i a b : Nat) : Prop where
  g : Nat.gcd a b = Nat.gcd a0 b0
  p : a * b * 2 ^ i ≤ 2 * (a0 * b0)
  o : i = 0 ∨ b ≤ a
  z : i = 0 → a = a0 ∧ b = b0
theorem Eu.start (a b : Nat) : Eu a b 0 a b := ⟨rfl, by rw [Nat.pow_zero]; omega, .inl rfl, fun _ => ⟨rfl, rfl⟩⟩
theorem Eu.turn {a0 b0 i a b : Nat} (e : Eu a0 b0 i a b) (hb : 0 < b) : Eu a0 b0 (i + 1) b (a % b) := by
  refine ⟨(gcd_turn a b).trans e.g, ?_, .inr (Nat.le_of_lt (Nat.mod_lt _ hb)), fun z => by omega⟩
  rcases e.o with hi | hle
  · obtain ⟨rfl, rfl⟩ := e.z hi
    subst hi
    have h1 : b * (a % b) ≤ b * a := Nat.mul_le_mul_left b (Nat.mod_le a b)
    have h2 : b * a = a * b := Nat.mul_comm _ _
    rw [Nat.zero_add, Nat.pow_one]
    omega
  · have h1 := prod_turn hle hb
    have h2 := e.p
    have h3 : b * (a % b) * 2 ^ (i + 1) = 2 * (b * (a % b)) * 2 ^ i := by
      rw [Nat.pow_succ]
      rw [Nat.mul_comm (2 ^ i) 2, ← Nat.mul_assoc, Nat.mul_comm (b * (a % b)) 2]
    rw [h3]
    exact Nat.le_trans (Nat.mul_le_mul_right _ h1) h2
/-- too many turns: nothing is left -/
theorem Eu.stop {a0 b0 i a b : Nat} (e : Eu a0 b0 i a b) (hi : i ≠ 0) (h : 2 * (a0 * b0) < 2 ^ i) : b = 0 := by
  rcases Nat.eq_zero_or_pos b with h0 | h0
  · exact h0
  · have hle : b ≤ a := by
      rcases e.o with h1 | h1
      · exact absurd h1 hi
      · exact h1
    have h1 : 1 ≤ a * b := Nat.mul_pos (by omega) h0
    have h2 : 1 * 2 ^ i ≤ a * b * 2 ^ i := Nat.mul_le_mul_right _ h1
    have h3 := e.p
    omega
theorem Eu.end {a0 b0 i a : Nat} (e : Eu a0 b0 i a 0) : a = Nat.gcd a0 b0 := by
  rw [← e.g, Nat.gcd_zero_right]
/-- the greatest divisor of a row, as it is reckoned from the left -/
def gl (l : List Int) : Nat := l.foldl (fun g v => Nat.gcd v.natAbs g) 0
theorem gl_snoc (l : List Int) (v : Int) : gl (l ++ [v]) = Nat.gcd v.natAbs (gl l) := by
  unfold gl
  rw [List.foldl_append]
  rfl
theorem gl_lt {l : List Int} {v : Int} (h : gl l < 2 ^ 100) (hv : v.natAbs < 2 ^ 100) : gl (l ++ [v]) < 2 ^ 100 := by
  rw [gl_snoc]
  rcases Nat.eq_zero_or_pos v.natAbs with e | e
  · rw [e, Nat.gcd_zero_left]
    exact h
  · exact Nat.lt_of_le_of_lt (Nat.le_of_dvd e (Nat.gcd_dvd_left _ _)) hv
theorem take_snoc {l : List Int} {i : Nat} {z : Int} (h : l[i]? = some z) : l.take (i + 1) = l.take i ++ [z] := by
  rw [List.take_add_one, h]
  rfl
theorem eu_far {a b n : Nat} (hn : 201 ≤ n) (ha : a < 2 ^ 100) (hb : b < 2 ^ 100) : 2 * (a * b) < 2 ^ n := by
  have h1 : a * b < 2 ^ 100 * 2 ^ 100 := Nat.mul_lt_mul'' ha hb
  rw [← Nat.pow_add] at h1
  have h2 : (2 : Nat) * 2 ^ (100 + 100) = 2 ^ 201 := by decide +kernel
  have h3 : (2 : Nat) ^ 201 ≤ 2 ^ n := Nat.pow_le_pow_right (by decide) hn
  omega
theorem fmod_nat (a b : Nat) : (a : Int).fmod (b : Int) = ((a % b : Nat) : Int) := by
  rw [Int.fmod_eq_emod_of_nonneg _ (Int.natCast_nonneg _)]
  exact (Int.natCast_emod a b).symm

/-- // by any divisor other than 0, below 2 ^ 9000 in size -/
def CDivX (_ j : Int) : Prop := j ≠ 0 ∧ j.natAbs.log2 < 9000
theorem op_fdivX {X : Cx} : OpR X (binaryOp .FloorDiv) (rI CDivX fun i j => .int (i.fdiv j)) :=
  opI fun _ _ _ _ _ _ _ hc q =>
    PyProof.Rows.floordiv_int hc.1 q (.inl (PyProof.noPylong_of_log2 hc.2))
theorem wide_divx {i j : Int} {b : Nat} (h : j ≠ 0) (hb : j.natAbs < 2 ^ b) (h0 : 0 < b) (h9 : b ≤ 9000) : CDivX i j :=
  ⟨h, Nat.lt_of_lt_of_le (PySem.Flt.log2_lt_of h0 hb) h9⟩
/-- n noughts -/
def nou (n : Nat) : Str := ⟨(List.replicate n (Str.ofString "0").cps).foldl (· ++ ·) #[]⟩
theorem nou_len {n : Nat} (h : n ≤ 100) : (nou n).length ≤ sizeLine := by
  have : ∀ n : _root_.Fin 101, (nou n.val).length ≤ 100 := by decide +kernel
  have h1 := this ⟨n, by omega⟩
  rw [PySem.sizeLine_eq]
  exact Nat.le_trans h1 (by decide)
theorem op_nou {X : Cx} : OpR X (binaryOp .Mult) (fun x y H Q => ∃ n : Nat, x = .str "0" ∧ y = .int (n : Int) ∧ 1 ≤ n ∧ n ≤ 100 ∧ Q (.str (nou n)) H) := by
  intro pins s σ H x y v u Q I rx ry h
  obtain ⟨n, rfl, rfl, h1, h2, q⟩ := h
  obtain ⟨t, rfl⟩ := rx
  obtain ⟨t', rfl⟩ := ry
  have e1 : ¬ ((n : Int) < 1) := by omega
  have el : (Str.ofString "0").length = 1 := by decide +kernel
  refine PySem.P.mul_str ?_ ?_ ?_ ?_
  · rw [decide_eq_false (by omega), decide_eq_false (by omega)]
    rfl
  · intro _ _
    rw [el]
    have : (2 ^ 63 - 1 : Int) / n ≥ 1 := by
      have : (1 : Int) * n ≤ 2 ^ 63 - 1 := by omega
      exact (Int.le_ediv_iff_mul_le (by omega)).mpr this
    omega
  · intro _ _
    rw [el]
    unfold PySem.Builtin.Str.tooLong
    rw [PySem.sizeLine_eq]
    exact decide_eq_false (by omega)
  · rw [if_neg e1]
    by_cases hn : n = 1
    · subst hn
      have e2 : nou 1 = Str.ofString "0" := by decide +kernel
      rw [e2] at q
      exact ⟨.str (Str.ofString "0"), H, I, ⟨t, rfl⟩, q⟩
    · have : ((n : Int) == 1 || (Str.ofString "0").length == 0) = false := by
        rw [el]
        simp
        omega
      rw [this, if_neg Bool.false_ne_true]
      exact ⟨nou_len h2, .str (nou n), H, I.tok _, ⟨_, rfl⟩, q⟩
theorem suite_of {X : Cx} {a C : Addr} {oe : Obj} {pn : List (Addr × Obj)} {cls : Value} {d : Option Addr} {sts : List Stmt} {ts : TS} (hz : Zc cls d oe)
    (h : Zc (.ref C) none oe → PSs (X.suite a ((a, oe) :: pn)) sts ts) : PSs (X.suite a ((a, oe) :: pn)) sts (fun D σ H => (cls = .ref C ∧ d = none) ∧ ts D σ H) :=
  ⟨fun pins s σ H D I hq => by
    obtain ⟨⟨rfl, rfl⟩, q⟩ := hq
    exact (h hz).run pins s σ H D I q⟩
theorem ten_text : ∀ n : Nat, 1 ≤ n → n ≤ 20 → PySem.intText? (Str.ofString "1" ++ nou n) = some ((10 : Int) ^ n) ∧ (Str.ofString "1" ++ nou n).length ≤ 640 ∧ (nou n).length ≤ 100 := by
  intro n h1 h2
  have : ∀ n : _root_.Fin 21, 1 ≤ n.val → PySem.intText? (Str.ofString "1" ++ nou n.val) = some ((10 : Int) ^ n.val) ∧ (Str.ofString "1" ++ nou n.val).length ≤ 640 ∧ (nou n.val).length ≤ 100 := by decide +kernel
  exact this ⟨n, by omega⟩ h1

/-- the divisor by which fraction divides both -/
def sg (n d : Int) : Int := if d < 0 then -((Nat.gcd n.natAbs d.natAbs : Nat) : Int) else ((Nat.gcd n.natAbs d.natAbs : Nat) : Int)
theorem sg_abs (n d : Int) : (sg n d).natAbs = Nat.gcd n.natAbs d.natAbs := by
  unfold sg
  split
  · rw [Int.natAbs_neg, Int.natAbs_natCast]
  · rw [Int.natAbs_natCast]
theorem sg_ne {n d : Int} (h : d ≠ 0) : sg n d ≠ 0 := by
  intro e
  have h1 := sg_abs n d
  rw [e] at h1
  have h2 : Nat.gcd n.natAbs d.natAbs = 0 := h1.symm
  have h3 := Nat.gcd_eq_zero_iff.mp h2
  omega
theorem sg_dn (n d : Int) : sg n d ∣ n := by
  have h : ((Nat.gcd n.natAbs d.natAbs : Nat) : Int) ∣ n := Int.dvd_natAbs.mp (Int.natCast_dvd_natCast.mpr (Nat.gcd_dvd_left _ _))
  unfold sg
  split
  · exact Int.neg_dvd.mpr h
  · exact h
theorem sg_dd (n d : Int) : sg n d ∣ d := by
  have h : ((Nat.gcd n.natAbs d.natAbs : Nat) : Int) ∣ d := Int.dvd_natAbs.mp (Int.natCast_dvd_natCast.mpr (Nat.gcd_dvd_right _ _))
  unfold sg
  split
  · exact Int.neg_dvd.mpr h
  · exact h
theorem fdiv_back {d v : Int} (h : d ∣ v) : v.fdiv d * d = v := Int.fdiv_mul_cancel h
theorem part_le {f d v : Int} (e : f * d = v) (hd : d ≠ 0) : f.natAbs ≤ v.natAbs := by
  rw [← e, Int.natAbs_mul]
  exact Nat.le_mul_of_pos_right _ (by omega)
/-- what fraction yields -/
structure Fr (n d p q : Int) : Prop where
  hp : p * sg n d = n
  hq : q * sg n d = d
  q0 : 0 < q
  one : Nat.gcd p.natAbs q.natAbs = 1
theorem fr_of {n d : Int} (h : d ≠ 0) : Fr n d (n.fdiv (sg n d)) (d.fdiv (sg n d)) := by
  have e1 := fdiv_back (sg_dn n d)
  have e2 := fdiv_back (sg_dd n d)
  have hs := sg_ne (n := n) h
  refine ⟨e1, e2, ?_, ?_⟩
  · rcases Int.lt_or_le 0 (d.fdiv (sg n d)) with h1 | h1
    · exact h1
    · exfalso
      have hg : 0 < Nat.gcd n.natAbs d.natAbs := Nat.gcd_pos_of_pos_right _ (by omega)
      rcases Int.lt_or_le d 0 with h2 | h2
      · have h3 : sg n d < 0 := by
          unfold sg
          rw [if_pos h2]
          omega
        have h4 := Int.mul_nonneg_of_nonpos_of_nonpos h1 (Int.le_of_lt h3)
        omega
      · have h3 : 0 < sg n d := by
          unfold sg
          rw [if_neg (by omega)]
          omega
        have h4 := Int.mul_nonpos_of_nonpos_of_nonneg h1 (Int.le_of_lt h3)
        omega
  · have e3 : Nat.gcd n.natAbs d.natAbs = Nat.gcd (n.fdiv (sg n d)).natAbs (d.fdiv (sg n d)).natAbs * (sg n d).natAbs := by
      rw [← Nat.gcd_mul_right, ← Int.natAbs_mul, ← Int.natAbs_mul, e1, e2]
    rw [sg_abs] at e3
    have hg : 0 < Nat.gcd n.natAbs d.natAbs := Nat.gcd_pos_of_pos_right _ (by omega)
    exact (Nat.eq_of_mul_eq_mul_right hg (by rw [Nat.one_mul]; exact e3)).symm
theorem Fr.cross {n d p q : Int} (f : Fr n d p q) : p * d = n * q := by
  have h1 := f.hp
  have h2 := f.hq
  calc p * d = p * (q * sg n d) := by rw [h2]
    _ = (p * sg n d) * q := by rw [Int.mul_comm q, Int.mul_assoc]
    _ = n * q := by rw [h1]
theorem sg_one (n : Int) : sg n 1 = 1 := by
  unfold sg
  rw [if_neg (by decide)]
  show ((Nat.gcd n.natAbs 1 : Nat) : Int) = 1
  rw [Nat.gcd_one_right]
  rfl
theorem rd_one (n : Int) : [n.fdiv (sg n 1), (1 : Int).fdiv (sg n 1)] = [n, 1] := by rw [sg_one, Int.fdiv_one, Int.fdiv_one]

/-- in lowest terms -/
def rd2 (n d : Int) : List Int := [n.fdiv (sg n d), d.fdiv (sg n d)]
theorem low_uniq {p q r s : Int} (h1 : Nat.gcd p.natAbs q.natAbs = 1) (h2 : Nat.gcd r.natAbs s.natAbs = 1) (hq : 0 < q) (hs : 0 < s) (h : p * s = r * q) : p = r ∧ q = s := by
  have hn : p.natAbs * s.natAbs = r.natAbs * q.natAbs := by
    rw [← Int.natAbs_mul, ← Int.natAbs_mul, h]
  have d1 : q.natAbs ∣ s.natAbs := by
    have h3 : q.natAbs ∣ p.natAbs * s.natAbs := ⟨r.natAbs, by rw [hn, Nat.mul_comm]⟩
    exact Nat.Coprime.dvd_of_dvd_mul_left (show Nat.Coprime q.natAbs p.natAbs from (Nat.gcd_comm _ _).trans h1) h3
  have d2 : s.natAbs ∣ q.natAbs := by
    have h3 : s.natAbs ∣ r.natAbs * q.natAbs := ⟨p.natAbs, by rw [← hn, Nat.mul_comm]⟩
    exact Nat.Coprime.dvd_of_dvd_mul_left (show Nat.Coprime s.natAbs r.natAbs from (Nat.gcd_comm _ _).trans h2) h3
  have e : q.natAbs = s.natAbs := Nat.dvd_antisymm d1 d2
  have e2 : q = s := by omega
  subst e2
  exact ⟨Int.eq_of_mul_eq_mul_right (by omega) h, rfl⟩
theorem rd2_eq {n d n' d' : Int} (hd : 0 < d) (hd' : 0 < d') (h : n * d' = n' * d) : rd2 n d = rd2 n' d' := by
  have f := fr_of (n := n) (show d ≠ 0 by omega)
  have f' := fr_of (n := n') (show d' ≠ 0 by omega)
  have c1 := f.cross
  have c2 := f'.cross
  unfold rd2
  generalize n.fdiv (sg n d) = p at f c1
  generalize d.fdiv (sg n d) = q at f c1
  generalize n'.fdiv (sg n' d') = r at f' c2
  generalize d'.fdiv (sg n' d') = s at f' c2
  have e : p * s = r * q := by
    have h1 : (p * s) * (d * d') = (r * q) * (d * d') := by
      calc (p * s) * (d * d') = (p * d) * (s * d') := by
              rw [Int.mul_assoc, Int.mul_assoc, Int.mul_left_comm s d d']
        _ = (n * q) * (s * d') := by rw [c1]
        _ = (n * d') * (q * s) := by
              rw [Int.mul_assoc, Int.mul_assoc, Int.mul_comm s d', Int.mul_left_comm q d' s]
        _ = (n' * d) * (q * s) := by rw [h]
        _ = (n' * s) * (d * q) := by
              rw [Int.mul_assoc, Int.mul_assoc, Int.mul_comm q s, Int.mul_left_comm d s q]
        _ = (r * d') * (d * q) := by rw [c2]
        _ = (r * q) * (d * d') := by
              rw [Int.mul_assoc, Int.mul_assoc, Int.mul_comm d q, Int.mul_left_comm d' q d, Int.mul_comm d' d]
    exact Int.eq_of_mul_eq_mul_right (Int.mul_ne_zero (by omega) (by omega)) h1
  have u := low_uniq f.one f'.one f.q0 f'.q0 e
  rw [u.1, u.2]
theorem sg_zero_one : sg 0 1 = 1 := sg_one 0
theorem rd2_zero : rd2 0 1 = [0, 1] := by
  unfold rd2
  rw [sg_zero_one, Int.fdiv_one, Int.fdiv_one]
/-- the digits of a number are not too few -/
theorem lt_digits (n : Nat) : n < 2 ^ (4 * (toString (n : Int)).length + 4) := by
  have e : toString (n : Int) = Nat.repr n := rfl
  rw [e]
  have h : n < 10 ^ ((Nat.repr n).length + 1) := (Nat.length_repr_le_iff (Nat.succ_pos _)).mp (Nat.le_succ _)
  refine Nat.lt_of_lt_of_le h ?_
  have h2 : (10 : Nat) ^ ((Nat.repr n).length + 1) ≤ 16 ^ ((Nat.repr n).length + 1) := Nat.pow_le_pow_left (by decide) _
  have h3 : (16 : Nat) ^ ((Nat.repr n).length + 1) = 2 ^ (4 * (Nat.repr n).length + 4) := by
    rw [show (16 : Nat) = 2 ^ 4 from rfl, ← Nat.pow_mul]
    rfl
  omega
theorem eu_digits {a b t : Nat} (h : t = 4 * (toString (a : Int)).length + 4 * (toString (b : Int)).length + 60) : 2 * (a * b) < 2 ^ t := by
  subst h
  have h1 := lt_digits a
  have h2 := lt_digits b
  have h3 : a * b < 2 ^ (4 * (toString (a : Int)).length + 4) * 2 ^ (4 * (toString (b : Int)).length + 4) := Nat.mul_lt_mul'' h1 h2
  rw [← Nat.pow_add] at h3
  have h4 : 2 * (a * b) < 2 * 2 ^ (4 * (toString (a : Int)).length + 4 + (4 * (toString (b : Int)).length + 4)) := by omega
  rw [← Nat.pow_succ'] at h4
  exact Nat.lt_of_lt_of_le h4 (Nat.pow_le_pow_right (by decide) (by omega))
theorem args2 {x y : Int} (hx : 0 ≤ x) (hy : 0 ≤ y) : [V.int x, V.int y] ++ [] = [V.int ((x.natAbs : Nat) : Int), V.int ((y.natAbs : Nat) : Int)] := by
  have e1 : ((x.natAbs : Nat) : Int) = x := by omega
  have e2 : ((y.natAbs : Nat) : Int) = y := by omega
  rw [e1, e2]
  rfl
theorem mod_abs (x : Int) {b : Int} (h : 0 < b) : (x % b).natAbs ≤ b.natAbs := by
  have h1 := Int.emod_nonneg x (show b ≠ 0 by omega)
  have h2 := Int.emod_lt_of_pos x h
  omega
theorem mul_lt_abs {a b : Int} {A B : Nat} (ha : a.natAbs ≤ A) (hb : b.natAbs ≤ B) : (a * b).natAbs ≤ A * B := by
  rw [Int.natAbs_mul]
  exact Nat.mul_le_mul ha hb
def pd2 (x y : Int) : PyData := .tuple [.int x, .int y]
theorem dp2 {K : PySem.W.Frag} {H : Hp} {u : Addr} {x y : Int} (h : SqT K H u (zs [x, y])) : Dp K H (.ref u) (pd2 x y) :=
  .tup h (.cons (.int x) (.cons (.int y) .nil))
theorem eqv2 (x y : Int) : PyData.eqv (pd2 x y) (pd2 x y) = true := by
  unfold pd2
  simp [PyData.eqv, PyData.eqvAll]

def dv (x y z : Int) : Int := let g : Int := (Nat.gcd (Nat.gcd x.natAbs y.natAbs) z.natAbs : Nat)
  if HT.lexLt [x, y, z] [0, 0, 0] = true then -g else g
def g3 (x y z : Int) : Nat := Nat.gcd (Nat.gcd x.natAbs y.natAbs) z.natAbs
/-- the first one that is not 0 is below 0 -/
def dn (x y z : Int) : Bool := decide (x < 0) || (decide (x = 0) && (decide (y < 0) || (decide (y = 0) && decide (z < 0))))
theorem lex_dn (x y z : Int) : HT.lexLt [x, y, z] [0, 0, 0] = dn x y z := by
  rw [HT.lexLt_cons, HT.lexLt_cons, HT.lexLt_cons, HT.lexLt_nil_nil]
  unfold dn
  by_cases hx : x = 0
  · subst hx
    by_cases hy : y = 0
    · subst hy
      by_cases hz : z = 0
      · subst hz; decide
      · simp [hz]
    · simp [hy]
  · simp [hx]
theorem dv_eq (x y z : Int) : dv x y z = if dn x y z = true then -(g3 x y z : Int) else (g3 x y z : Int) := by
  unfold dv g3
  rw [lex_dn]
theorem dv_abs (x y z : Int) : (dv x y z).natAbs = g3 x y z := by
  rw [dv_eq]
  split
  · rw [Int.natAbs_neg, Int.natAbs_natCast]
  · rw [Int.natAbs_natCast]
theorem g3_pos {x y z : Int} (h : ¬ (x = 0 ∧ y = 0 ∧ z = 0)) : 0 < g3 x y z := by
  rcases Nat.eq_zero_or_pos (g3 x y z) with e | e
  · exfalso
    have h1 := Nat.gcd_eq_zero_iff.mp e
    have h2 := Nat.gcd_eq_zero_iff.mp h1.1
    omega
  · exact e
theorem dv_ne {x y z : Int} (h : ¬ (x = 0 ∧ y = 0 ∧ z = 0)) : dv x y z ≠ 0 := by
  intro e
  have h1 := dv_abs x y z
  have h2 := g3_pos h
  rw [e] at h1
  have : (0 : Int).natAbs = 0 := rfl
  omega
theorem g3_dx (x y z : Int) : (g3 x y z : Int) ∣ x := by
  refine Int.dvd_natAbs.mp (Int.natCast_dvd_natCast.mpr ?_)
  exact Nat.dvd_trans (Nat.gcd_dvd_left _ _) (Nat.gcd_dvd_left _ _)
theorem g3_dy (x y z : Int) : (g3 x y z : Int) ∣ y := by
  refine Int.dvd_natAbs.mp (Int.natCast_dvd_natCast.mpr ?_)
  exact Nat.dvd_trans (Nat.gcd_dvd_left _ _) (Nat.gcd_dvd_right _ _)
theorem g3_dz (x y z : Int) : (g3 x y z : Int) ∣ z := by
  refine Int.dvd_natAbs.mp (Int.natCast_dvd_natCast.mpr ?_)
  exact Nat.gcd_dvd_right _ _
theorem dv_dvd {x y z v : Int} (h : (g3 x y z : Int) ∣ v) : dv x y z ∣ v := by
  rw [dv_eq]
  split
  · exact Int.neg_dvd.mpr h
  · exact h
theorem dv_dx (x y z : Int) : dv x y z ∣ x := dv_dvd (g3_dx x y z)
theorem dv_dy (x y z : Int) : dv x y z ∣ y := dv_dvd (g3_dy x y z)
theorem dv_dz (x y z : Int) : dv x y z ∣ z := dv_dvd (g3_dz x y z)
theorem g3_le {x y z : Int} {n : Nat} (h : ¬ (x = 0 ∧ y = 0 ∧ z = 0)) (hx : x.natAbs ≤ n) (hy : y.natAbs ≤ n) (hz : z.natAbs ≤ n) : g3 x y z ≤ n := by
  by_cases h1 : x = 0
  · by_cases h2 : y = 0
    · have h3 : z ≠ 0 := fun e => h ⟨h1, h2, e⟩
      exact Nat.le_trans (Nat.le_of_dvd (by omega) (Nat.gcd_dvd_right _ _)) hz
    · exact Nat.le_trans (Nat.le_of_dvd (by omega) (Nat.dvd_trans (Nat.gcd_dvd_left _ _) (Nat.gcd_dvd_right _ _))) hy
  · exact Nat.le_trans (Nat.le_of_dvd (by omega) (Nat.dvd_trans (Nat.gcd_dvd_left _ _) (Nat.gcd_dvd_left _ _))) hx
theorem g3_mul (x y z t : Int) : g3 (x * t) (y * t) (z * t) = g3 x y z * t.natAbs := by
  unfold g3
  rw [Int.natAbs_mul, Int.natAbs_mul, Int.natAbs_mul, Nat.gcd_mul_right, Nat.gcd_mul_right]
/-- the parts have no divisor left -/
theorem g3_one {x y z a b c : Int} (h : ¬ (x = 0 ∧ y = 0 ∧ z = 0)) (ha : a * dv x y z = x) (hb : b * dv x y z = y) (hc : c * dv x y z = z) : g3 a b c = 1 := by
  have h1 : g3 x y z = g3 a b c * (dv x y z).natAbs := by
    have := g3_mul a b c (dv x y z)
    rw [ha, hb, hc] at this
    exact this
  rw [dv_abs] at h1
  have h2 := g3_pos h
  exact (Nat.eq_of_mul_eq_mul_right h2 (by rw [Nat.one_mul]; exact h1)).symm
theorem neg_mul_iff {v t : Int} (ht : 0 < t) : (v * t < 0 ↔ v < 0) ∧ (v * t = 0 ↔ v = 0) := by
  constructor
  · constructor
    · intro h
      rcases Int.lt_or_le v 0 with h1 | h1
      · exact h1
      · have := Int.mul_nonneg h1 (Int.le_of_lt ht)
        omega
    · exact fun h => Int.mul_neg_of_neg_of_pos h ht
  · constructor
    · intro h
      rcases Int.mul_eq_zero.mp h with h1 | h1
      · exact h1
      · omega
    · intro h
      rw [h, Int.zero_mul]
theorem dn_mul {x y z t : Int} (ht : 0 < t) : dn (x * t) (y * t) (z * t) = dn x y z := by
  unfold dn
  have hx := neg_mul_iff (v := x) ht
  have hy := neg_mul_iff (v := y) ht
  have hz := neg_mul_iff (v := z) ht
  simp only [hx, hy, hz]
theorem dn_neg {x y z : Int} (h : ¬ (x = 0 ∧ y = 0 ∧ z = 0)) : dn (-x) (-y) (-z) = !dn x y z := by
  unfold dn
  rcases Int.lt_trichotomy x 0 with hx | hx | hx
  · have h1 : ¬ (-x < 0) := by omega
    have h2 : ¬ (-x = 0) := by omega
    simp [hx, h1, h2]
    omega
  · subst hx
    rcases Int.lt_trichotomy y 0 with hy | hy | hy
    · have h1 : ¬ (-y < 0) := by omega
      have h2 : ¬ (-y = 0) := by omega
      simp [hy, h1, h2]
      omega
    · subst hy
      have hz : z ≠ 0 := fun e => h ⟨rfl, rfl, e⟩
      by_cases h1 : z < 0
      · have h2 : ¬ (-z < 0) := by omega
        simp [h1, h2]
        omega
      · have h2 : -z < 0 := by omega
        simp [h1, h2]
        omega
    · have h1 : -y < 0 := by omega
      have h2 : ¬ y < 0 := by omega
      have h3 : ¬ y = 0 := by omega
      simp [h1, h2, h3]
      omega
  · have h1 : -x < 0 := by omega
    have h2 : ¬ x < 0 := by omega
    have h3 : ¬ x = 0 := by omega
    simp [h1, h2, h3]
    omega
theorem dv_mul {x y z t : Int} (h : ¬ (x = 0 ∧ y = 0 ∧ z = 0)) (ht : t ≠ 0) : dv (x * t) (y * t) (z * t) = dv x y z * t := by
  rw [dv_eq, dv_eq, g3_mul]
  rcases Int.lt_or_gt_of_ne ht with h1 | h1
  · have e1 : ∀ v : Int, v * t = -v * -t := fun v => (Int.neg_mul_neg v t).symm
    have e2 : (t.natAbs : Int) = -t := by omega
    have h2 : ¬ (-x = 0 ∧ -y = 0 ∧ -z = 0) := by omega
    rw [e1 x, e1 y, e1 z, dn_mul (by omega), dn_neg h]
    cases dn x y z with
    | true => simp [e2, Int.neg_mul, Int.mul_neg]
    | false => simp [e2, Int.neg_mul, Int.mul_neg]
  · have e2 : (t.natAbs : Int) = t := by omega
    rw [dn_mul h1]
    cases dn x y z with
    | true => simp [e2, Int.neg_mul, Int.mul_neg]
    | false => simp [e2, Int.neg_mul, Int.mul_neg]
theorem fdiv_same {d v t : Int} (hd : d ≠ 0) (ht : t ≠ 0) (h : d ∣ v) : (v * t).fdiv (d * t) = v.fdiv d := by
  obtain ⟨k, rfl⟩ := h
  rw [Int.mul_assoc, Int.mul_comm k t, ← Int.mul_assoc, Int.mul_fdiv_cancel_left _ hd, Int.mul_fdiv_cancel_left]
  exact Int.mul_ne_zero hd ht

theorem zs_push {l : List Int} {n : Int} : zs l ++ [V.int n] = zs (l ++ [n]) := by
  show l.map V.int ++ [V.int n] = (l ++ [n]).map V.int
  rw [List.map_append]
  rfl
theorem zs_lt {l : List Int} (h : l.length ≤ 1000) : (zs l).length < sizeLine := by
  show (l.map V.int).length < sizeLine
  rw [List.length_map]
  exact small1000 h
theorem row_all {rs : List Int} {b : Int} (h : ∀ r ∈ rs, 0 ≤ r ∧ r < b) (x : Int) (hb : 0 < b) : ∀ r ∈ rs ++ [x % b], 0 ≤ r ∧ r < b := by
  intro r hr
  rcases List.mem_append.mp hr with h1 | h1
  · exact h r h1
  · rw [List.mem_singleton.mp h1]
    exact ⟨Int.emod_nonneg _ (by omega), Int.emod_lt_of_pos _ hb⟩
theorem ixN_in {n : Nat} {i : Int} (h0 : 0 ≤ i) (h : i < (n : Int)) : ixN n i = some i.toNat := by
  unfold ixN
  rw [if_pos h0, if_pos h]
theorem len3 {rs : List Int} (h : rs.length = 3) : ∃ a b c, rs = [a, b, c] := by
  match rs, h with
  | [a, b, c], _ => exact ⟨a, b, c, rfl⟩
theorem gl_three (x y z : Int) : gl [x, y, z] = g3 x y z := by
  show Nat.gcd z.natAbs (Nat.gcd y.natAbs (Nat.gcd x.natAbs 0)) = Nat.gcd (Nat.gcd x.natAbs y.natAbs) z.natAbs
  rw [Nat.gcd_zero_right, Nat.gcd_comm z.natAbs, Nat.gcd_comm y.natAbs]
def fs3 (x y z : Int) : Int := if x ≠ 0 then x else if y ≠ 0 then y else z
theorem fs3_get {x y z : Int} (h : ¬ (x = 0 ∧ y = 0 ∧ z = 0)) : (zs ([x, y, z].filter fun v => decide (v ≠ 0)))[0]? = some (.int (fs3 x y z)) := by
  unfold fs3
  by_cases hx : x = 0
  · by_cases hy : y = 0
    · have hz : z ≠ 0 := fun e => h ⟨hx, hy, e⟩
      simp [hx, hy, hz]
    · simp [hx, hy]
  · simp [hx]
theorem fs3_dn {x y z : Int} (h : ¬ (x = 0 ∧ y = 0 ∧ z = 0)) : decide (fs3 x y z < 0) = dn x y z := by
  unfold fs3 dn
  by_cases hx : x = 0
  · by_cases hy : y = 0
    · simp [hx, hy]
    · simp [hx, hy]
  · simp [hx]
theorem fil_snoc {l : List Int} {i : Nat} {z : Int} (h : l[i]? = some z) (hz : z ≠ 0) : zs ((l.take i).filter fun v => decide (v ≠ 0)) ++ [V.int z] = zs ((l.take (i + 1)).filter fun v => decide (v ≠ 0)) := by
  rw [take_snoc h, List.filter_append, zs_push]
  simp [hz]
theorem fil_same {l : List Int} {i : Nat} {z : Int} (h : l[i]? = some z) (hz : z = 0) : (l.take (i + 1)).filter (fun v => decide (v ≠ 0)) = (l.take i).filter fun v => decide (v ≠ 0) := by
  rw [take_snoc h, List.filter_append]
  simp [hz]
theorem fil_lt {l : List Int} (n : Nat) (h : l.length ≤ 1000) : (zs ((l.take n).filter fun v => decide (v ≠ 0))).length < sizeLine := by
  refine zs_lt ?_
  have h1 := List.length_filter_le (fun v : Int => decide (v ≠ 0)) (l.take n)
  rw [List.length_take] at h1
  omega
theorem zs_at {l : List Int} {i : Nat} {z : Int} (h : l[i]? = some z) : atI (zs l) (i : Int) = some (V.int z) := atI_nat (by
  rw [show zs l = l.map V.int from rfl, List.getElem?_map, h]
  rfl)
theorem parts_at {x y z d : Int} (hx : d ∣ x) (hy : d ∣ y) (hz : d ∣ z) {i : Nat} (hi : i < 3) : ∃ f v : Int, [x.fdiv d, y.fdiv d, z.fdiv d][i]? = some f ∧ [x, y, z][i]? = some v ∧ f * d = v := by
  obtain rfl | rfl | rfl : i = 0 ∨ i = 1 ∨ i = 2 := by omega
  · exact ⟨_, _, rfl, rfl, fdiv_back hx⟩
  · exact ⟨_, _, rfl, rfl, fdiv_back hy⟩
  · exact ⟨_, _, rfl, rfl, fdiv_back hz⟩
def pd3 (x y z : Int) : PyData := .tuple [.int x, .int y, .int z]
theorem dp3 {K : PySem.W.Frag} {H : Hp} {u : Addr} {x y z : Int} (h : SqT K H u (zs [x, y, z])) : Dp K H (.ref u) (pd3 x y z) :=
  .tup h (.cons (.int x) (.cons (.int y) (.cons (.int z) .nil)))
theorem eqv3 (x y z : Int) : PyData.eqv (pd3 x y z) (pd3 x y z) = true := by
  unfold pd3
  simp [PyData.eqv, PyData.eqvAll]

def sgn (i : Int) : Int := if i < 0 then -1 else if 0 < i then 1 else 0
theorem sgn_mul {a b : Int} (hb : 0 < b) : sgn (a * b) = sgn a := by
  have h := neg_mul_iff (v := a) hb
  have h2 : 0 < a * b ↔ 0 < a := by
    constructor
    · intro z
      have h3 : ¬ a < 0 := fun y => by
        have := h.1.mpr y
        omega
      have h4 : ¬ a = 0 := fun y => by
        have := h.2.mpr y
        omega
      omega
    · exact fun z => Int.mul_pos z hb
  unfold sgn
  by_cases h3 : a < 0
  · rw [if_pos h3, if_pos (h.1.mpr h3)]
  · rw [if_neg h3, if_neg (fun z => h3 (h.1.mp z))]
    by_cases h4 : 0 < a
    · rw [if_pos h4, if_pos (h2.mpr h4)]
    · rw [if_neg h4, if_neg (fun z => h4 (h2.mp z))]
theorem sg_pos {n d : Int} (h : 0 < d) : 0 < sg n d := by
  have hg : 0 < Nat.gcd n.natAbs d.natAbs := Nat.gcd_pos_of_pos_right _ (by omega)
  unfold sg
  rw [if_neg (by omega)]
  omega
/-- the sign of a fraction is that of its numerator, before and behind -/
theorem sgn_low {n d : Int} (h : 0 < d) : sgn (n.fdiv (sg n d)) = sgn n := by
  have h1 := fdiv_back (sg_dn n d)
  have h2 := sgn_mul (a := n.fdiv (sg n d)) (sg_pos (n := n) h)
  rw [h1] at h2
  exact h2.symm
theorem rd2_le {n d : Int} (hd : d ≠ 0) : ∃ p q, rd2 n d = [p, q] ∧ p.natAbs ≤ n.natAbs ∧ q.natAbs ≤ d.natAbs ∧ Fr n d p q :=
  have f := fr_of (n := n) hd
  ⟨_, _, rfl, part_le f.hp (sg_ne hd), part_le f.hq (sg_ne hd), f⟩
/-- a sum of two, each brought to lowest terms -/
theorem rd2_plus {a b c d p q r s : Int} (f : Fr a b p q) (g : Fr c d r s) (hb : 0 < b) (hd : 0 < d) : rd2 (p * s + r * q) (q * s) = rd2 (a * d + c * b) (b * d) := by
  have q0 := f.q0
  have s0 := g.q0
  have c1 := f.cross
  have c2 := g.cross
  exact rd2_eq (Int.mul_pos q0 s0) (Int.mul_pos hb hd) (by grind)
/-- what is in lowest terms stays -/
theorem low_of {p q : Int} (h : Nat.gcd p.natAbs q.natAbs = 1) (hq : 0 < q) : rd2 p q = [p, q] := by
  have f := fr_of (n := p) (show q ≠ 0 by omega)
  have c := f.cross
  have u := low_uniq f.one h f.q0 hq (by rw [f.cross])
  unfold rd2
  rw [u.1, u.2]
theorem fr_low {n d p q : Int} (f : Fr n d p q) : rd2 p q = [p, q] := low_of f.one f.q0
theorem eu_far2 {a b n : Nat} (hn : 3601 ≤ n) (ha : a < 2 ^ 1800) (hb : b < 2 ^ 1800) : 2 * (a * b) < 2 ^ n := by
  have h1 : a * b < 2 ^ 1800 * 2 ^ 1800 := Nat.mul_lt_mul'' ha hb
  rw [← Nat.pow_add] at h1
  have h2 : (2 : Nat) ^ 3601 ≤ 2 ^ n := Nat.pow_le_pow_right (by decide) hn
  rw [show (3601 : Nat) = 1 + (1800 + 1800) from rfl, Nat.pow_add] at h2
  generalize (2 : Nat) ^ (1800 + 1800) = B at *
  generalize (2 : Nat) ^ n = C at *
  omega
theorem rd2_eq0 {n d n' d' : Int} (hd : d ≠ 0) (hd' : d' ≠ 0) (h : n * d' = n' * d) : rd2 n d = rd2 n' d' := by
  have f := fr_of (n := n) hd
  have f' := fr_of (n := n') hd'
  have c1 := f.cross
  have c2 := f'.cross
  unfold rd2
  generalize n.fdiv (sg n d) = p at f c1
  generalize d.fdiv (sg n d) = q at f c1
  generalize n'.fdiv (sg n' d') = r at f' c2
  generalize d'.fdiv (sg n' d') = s at f' c2
  have e : p * s = r * q := by
    have h1 : (p * s) * (d * d') = (r * q) * (d * d') := by grind
    exact Int.eq_of_mul_eq_mul_right (Int.mul_ne_zero hd hd') h1
  have u := low_uniq f.one f'.one f.q0 f'.q0 e
  rw [u.1, u.2]

/-- a row of fractions: where each stands, its two numbers -/
structure Rows (K : PySem.W.Frag) (H : Hp) (ws : List (Addr × Int × Int)) : Prop where
  at_ : ∀ w ∈ ws, SqT K H w.1 (zs [w.2.1, w.2.2])
  b1 : ∀ w ∈ ws, w.2.1.natAbs < 2 ^ 40
  b2 : ∀ w ∈ ws, w.2.2.natAbs < 2 ^ 40
  b3 : ∀ w ∈ ws, 0 < w.2.2
  few : ws.length ≤ 9
theorem Rows.nil {K : PySem.W.Frag} {H : Hp} : Rows K H [] :=
  ⟨(fun _ h => nomatch h), (fun _ h => nomatch h), (fun _ h => nomatch h), (fun _ h => nomatch h), by decide⟩
def rf (ws : List (Addr × Int × Int)) : List V := ws.map fun w => V.ref w.1
theorem Rows.same {K : PySem.W.Frag} {H H' : Hp} {ws : List (Addr × Int × Int)} (r : Rows K H ws) (s : Same H H') : Rows K H' ws :=
  ⟨fun w hw => same_tup s (r.at_ w hw), r.b1, r.b2, r.b3, r.few⟩
theorem Rows.take {K : PySem.W.Frag} {H : Hp} {ws : List (Addr × Int × Int)} (r : Rows K H ws) (i : Nat) : Rows K H (ws.take i) :=
  ⟨fun w hw => r.at_ w (List.mem_of_mem_take hw), fun w hw => r.b1 w (List.mem_of_mem_take hw), fun w hw => r.b2 w (List.mem_of_mem_take hw), fun w hw => r.b3 w (List.mem_of_mem_take hw), by
    rw [List.length_take]
    have := r.few
    omega⟩
theorem rf_get {ws : List (Addr × Int × Int)} {i : Nat} {v : V} (h : (rf ws)[i]? = some v) : ∃ w, v = .ref w.1 ∧ ws[i]? = some w := by
  rw [show rf ws = ws.map fun w => V.ref w.1 from rfl, List.getElem?_map] at h
  cases e : ws[i]? with
  | none =>
    rw [e] at h
    cases h
  | some w =>
    rw [e] at h
    exact ⟨w, (Option.some.inj h).symm, rfl⟩
theorem rf_len (ws : List (Addr × Int × Int)) : (rf ws).length = ws.length := List.length_map _
theorem take_sn {α : Type} {l : List α} {i : Nat} {z : α} (h : l[i]? = some z) : l.take (i + 1) = l.take i ++ [z] := by
  rw [List.take_add_one, h]
  rfl
theorem tup_upd {K : PySem.W.Frag} {H : Hp} {a l : Addr} {xs ys : List V} {o : HO} (h : SqT K H a xs) (hl : H l = some (.lst ys)) : SqT K (upd H l o) a xs := by
  rcases h with (h | ⟨ob, h⟩) | h
  · refine .inl (.inl ?_)
    rw [upd_ne (ne_of h hl (by intro z; cases z))]
    exact h
  · refine .inl (.inr ⟨ob, ?_⟩)
    rw [upd_ne (ne_of h hl (by intro z; cases z))]
    exact h
  · exact .inr h
theorem tyx_tup {K : PySem.W.Frag} {H : Hp} {a : Addr} {xs : List V} (h : SqT K H a xs) : TyX K H (.ref a) (.type "tuple") := by
  rcases h with (h | ⟨ob, h⟩) | ⟨o, its, n, h, hc, _⟩
  · exact .base (.tup h)
  · exact .fTuple h
  · exact .kTuple h hc
theorem no_self {x : V} (h : (!decide (x = x)) = true) : False := by
  rw [decide_eq_true rfl] at h
  cases h

theorem rat_rd {n d : Int} (hd : d ≠ 0) : rd2 n d = [(Rat.divInt n d).num, ((Rat.divInt n d).den : Int)] := by
  have h0 : ((Rat.divInt n d).den : Int) ≠ 0 := by
    have := (Rat.divInt n d).den_nz
    omega
  have e : Rat.divInt n d = Rat.divInt (Rat.divInt n d).num ((Rat.divInt n d).den : Int) := (Rat.num_divInt_den _).symm
  have c := (Rat.divInt_eq_divInt_iff hd h0).mp e
  rw [rd2_eq0 hd h0 c]
  exact low_of (Rat.divInt n d).reduced (by have := (Rat.divInt n d).den_nz; omega)
/-- a fraction that stands at an address -/
def Fx (K : PySem.W.Frag) (H : Hp) (a : Addr) (r : Rat) : Prop := SqT K H a (zs [r.num, (r.den : Int)])
theorem Fx.same {K : PySem.W.Frag} {H H' : Hp} {a : Addr} {r : Rat} (h : Fx K H a r) (s : Same H H') : Fx K H' a r := same_tup s h
theorem fx_rd {K : PySem.W.Frag} {H : Hp} {a : Addr} {n d : Int} (hd : d ≠ 0) (h : H a = some (.tup (zs (rd2 n d)))) : Fx K H a (Rat.divInt n d) := by
  unfold Fx
  rw [← rat_rd hd]
  exact SqT.of h
theorem fx_at {K : PySem.W.Frag} {H : Hp} {a : Addr} {r : Rat} (h : H a = some (.tup (zs [r.num, (r.den : Int)]))) : Fx K H a r := SqT.of h
def Bd (n : Nat) (r : Rat) : Prop := r.num.natAbs < 2 ^ n ∧ r.den < 2 ^ n
theorem Bd.up {n m : Nat} {r : Rat} (h : Bd n r) (hm : n ≤ m) : Bd m r :=
  ⟨Nat.lt_of_lt_of_le h.1 (Nat.pow_le_pow_right (by decide) hm), Nat.lt_of_lt_of_le h.2 (Nat.pow_le_pow_right (by decide) hm)⟩
theorem Bd.den {n : Nat} {r : Rat} (h : Bd n r) : ((r.den : Nat) : Int).natAbs < 2 ^ n := h.2
theorem den_pos (r : Rat) : (0 : Int) < (r.den : Int) := by
  have := r.den_nz
  omega
theorem den_ne (r : Rat) : ((r.den : Nat) : Int) ≠ 0 := by
  have := den_pos r
  omega
theorem bd_of {n d : Int} {k : Nat} (hd : d ≠ 0) (h1 : n.natAbs < 2 ^ k) (h2 : d.natAbs < 2 ^ k) : Bd k (Rat.divInt n d) := by
  obtain ⟨p, q, e, l1, l2, _⟩ := rd2_le (n := n) hd
  rw [rat_rd hd] at e
  have e1 : (Rat.divInt n d).num = p := by injection e
  have e2 : ((Rat.divInt n d).den : Int) = q := by
    injection e with _ e
    injection e
  refine ⟨by rw [e1]; omega, ?_⟩
  have : (Rat.divInt n d).den = q.natAbs := by rw [← e2]; rfl
  omega
theorem add_div (r s : Rat) : r + s = Rat.divInt (r.num * s.den + s.num * r.den) (r.den * s.den) := by
  rw [Rat.add_def', Rat.divInt_eq_div, Rat.mkRat_eq_div]
  rfl
theorem sub_div (r s : Rat) : r - s = Rat.divInt (r.num * s.den - s.num * r.den) (r.den * s.den) := by
  rw [Rat.sub_def', Rat.divInt_eq_div, Rat.mkRat_eq_div]
  rfl
theorem mul_div (r s : Rat) : r * s = Rat.divInt (r.num * s.num) (r.den * s.den) := by
  rw [Rat.mul_def', Rat.divInt_eq_div, Rat.mkRat_eq_div]
  rfl
theorem dd_ne (r s : Rat) : ((r.den : Int) * (s.den : Int)) ≠ 0 := Int.mul_ne_zero (den_ne r) (den_ne s)
theorem pow_two_add (a b : Nat) : (2 : Nat) ^ (a + b + 1) = 2 * 2 ^ (a + b) := by
  rw [Nat.pow_succ, Nat.mul_comm]
theorem wl {x y : Int} {a b : Nat} (h : x.natAbs < 2 ^ a) (h2 : y.natAbs < 2 ^ b) : (x * y).natAbs < 2 ^ (a + b) := by
  rw [Int.natAbs_mul, Nat.pow_add]
  exact Nat.mul_lt_mul'' h h2
theorem Bd.mul {a b : Nat} {r s : Rat} (h : Bd a r) (h2 : Bd b s) : Bd (a + b) (r * s) := by
  rw [mul_div]
  exact bd_of (dd_ne r s) (wl h.1 h2.1) (wl h.den h2.den)
theorem Bd.add {a b : Nat} {r s : Rat} (h : Bd a r) (h2 : Bd b s) : Bd (a + b + 1) (r + s) := by
  rw [add_div]
  have e := pow_two_add a b
  have w1 := wl h.1 h2.den
  have w2 := wl h2.1 h.den
  have w3 := wl h.den h2.den
  rw [Nat.add_comm b a] at w2
  have := Int.natAbs_add_le (r.num * (s.den : Int)) (s.num * (r.den : Int))
  exact bd_of (dd_ne r s) (by omega) (by omega)
theorem Bd.sub {a b : Nat} {r s : Rat} (h : Bd a r) (h2 : Bd b s) : Bd (a + b + 1) (r - s) := by
  rw [sub_div]
  have e := pow_two_add a b
  have w1 := wl h.1 h2.den
  have w2 := wl h2.1 h.den
  have w3 := wl h.den h2.den
  rw [Nat.add_comm b a] at w2
  have := Int.natAbs_sub_le (r.num * (s.den : Int)) (s.num * (r.den : Int))
  exact bd_of (dd_ne r s) (by omega) (by omega)
theorem Bd.neg {a : Nat} {r : Rat} (h : Bd a r) : Bd a (-r) := by
  refine ⟨?_, ?_⟩
  · rw [Rat.neg_num, Int.natAbs_neg]
    exact h.1
  · rw [Rat.neg_den]
    exact h.2
theorem bd_zero : Bd 1 0 := ⟨by decide, by decide⟩
theorem bd_one : Bd 1 1 := ⟨by decide, by decide⟩
def pdr (r : Rat) : PyData := pd2 r.num (r.den : Int)
theorem dpr {K : PySem.W.Frag} {H : Hp} {a : Addr} {r : Rat} (h : Fx K H a r) : Dp K H (.ref a) (pdr r) := dp2 h
theorem eqvr (r s : Rat) : PyData.eqv (pdr r) (pdr s) = decide (r = s) := by
  unfold pdr pd2
  simp only [PyData.eqv, PyData.eqvAll, Bool.and_true]
  by_cases h : r = s
  · subst h
    simp
  · rw [decide_eq_false h]
    by_cases h1 : r.num = s.num
    · have h2 : ¬ r.den = s.den := fun z => h (Rat.ext h1 z)
      simp [h1]
      omega
    · simp [h1]
/-- a row of fractions: where each stands, what it is -/
def Rx (K : PySem.W.Frag) (H : Hp) (ws : List (Addr × Rat)) : Prop := ∀ w ∈ ws, Fx K H w.1 w.2
def fr (ws : List (Addr × Rat)) : List V := ws.map fun w => V.ref w.1
theorem Rx.same {K : PySem.W.Frag} {H H' : Hp} {ws : List (Addr × Rat)} (h : Rx K H ws) (s : Same H H') : Rx K H' ws := fun w hw => (h w hw).same s
theorem fr_len (ws : List (Addr × Rat)) : (fr ws).length = ws.length := List.length_map _
theorem fr_get {ws : List (Addr × Rat)} {i : Nat} {v : V} (h : (fr ws)[i]? = some v) : ∃ w, v = .ref w.1 ∧ ws[i]? = some w := by
  rw [show fr ws = ws.map fun w => V.ref w.1 from rfl, List.getElem?_map] at h
  cases e : ws[i]? with
  | none =>
    rw [e] at h
    cases h
  | some w =>
    rw [e] at h
    exact ⟨w, (Option.some.inj h).symm, rfl⟩
theorem fr_at {ws : List (Addr × Rat)} {i : Nat} {r : Rat} (h : (ws.map (·.2))[i]? = some r) : ∃ t, (fr ws)[i]? = some (.ref t) ∧ (t, r) ∈ ws := by
  rw [List.getElem?_map] at h
  cases e : ws[i]? with
  | none =>
    rw [e] at h
    cases h
  | some w =>
    rw [e] at h
    have : w.2 = r := Option.some.inj h
    subst this
    refine ⟨w.1, ?_, List.mem_of_getElem? e⟩
    rw [show fr ws = ws.map fun w => V.ref w.1 from rfl, List.getElem?_map, e]
    rfl
theorem dpAll {K : PySem.W.Frag} {H : Hp} : ∀ {ws : List (Addr × Rat)}, Rx K H ws → DpAll K H (fr ws) ((ws.map (·.2)).map pdr)
  | [], _ => .nil
  | w :: ws, h => .cons (dpr (h w List.mem_cons_self)) (dpAll fun x hx => h x (List.mem_cons_of_mem _ hx))
theorem eqvAllr : ∀ rs ss : List Rat, PyData.eqvAll (rs.map pdr) (ss.map pdr) = decide (rs = ss)
  | [], [] => rfl
  | [], _ :: _ => rfl
  | _ :: _, [] => rfl
  | r :: rs, s :: ss => by
    rw [List.map_cons, List.map_cons, PyData.eqvAll, eqvr, eqvAllr rs ss]
    by_cases h1 : r = s
    · by_cases h2 : rs = ss
      · simp [h1, h2]
      · simp [h1, h2]
    · simp [h1]
theorem shr (rs : List Rat) : PyData.canLayAll0 (rs.map pdr) = true ∧ PyData.depthAll (rs.map pdr) ≤ 1 := by
  induction rs with
  | nil => decide
  | cons r rs ih =>
    rw [List.map_cons, PyData.canLayAll0, PyData.depthAll, ih.1]
    exact ⟨rfl, Nat.max_le.mpr ⟨Nat.le_refl 1, ih.2⟩⟩
theorem shrl (rs : List Rat) : SeqAt.shaped (.list (rs.map pdr)) = true := by
  have h1 := (shr rs).1
  have h2 := (shr rs).2
  unfold SeqAt.shaped
  rw [PyData.canLay0, PyData.depth, h1, decide_eq_true (by omega)]
  rfl
theorem shrt (rs : List Rat) : SeqAt.shaped (.tuple (rs.map pdr)) = true := by
  have h1 := (shr rs).1
  have h2 := (shr rs).2
  unfold SeqAt.shaped
  rw [PyData.canLay0, PyData.depth, h1, decide_eq_true (by omega)]
  rfl
/-- a value along parameters: its base, its slopes -/
def Vx (K : PySem.W.Frag) (H : Hp) (t : Addr) (b : Rat) (ss : List Rat) : Prop := ∃ (p q : Addr) (ws : List (Addr × Rat)), SqT K H t [.ref p, .ref q] ∧ Fx K H p b ∧ SqT K H q (fr ws) ∧ Rx K H ws ∧ ws.map (·.2) = ss
theorem Vx.same {K : PySem.W.Frag} {H H' : Hp} {t : Addr} {b : Rat} {ss : List Rat} (h : Vx K H t b ss) (s : Same H H') : Vx K H' t b ss := by
  obtain ⟨p, q, ws, h1, h2, h3, h4, h5⟩ := h
  exact ⟨p, q, ws, same_tup s h1, h2.same s, same_tup s h3, h4.same s, h5⟩
def pdv (b : Rat) (ss : List Rat) : PyData := .tuple [pdr b, .tuple (ss.map pdr)]
theorem dpv {K : PySem.W.Frag} {H : Hp} {t : Addr} {b : Rat} {ss : List Rat} (h : Vx K H t b ss) : Dp K H (.ref t) (pdv b ss) := by
  obtain ⟨p, q, ws, h1, h2, h3, h4, rfl⟩ := h
  exact .tup h1 (.cons (dpr h2) (.cons (.tup h3 (dpAll h4)) .nil))
theorem eqvv (b c : Rat) (ss us : List Rat) : PyData.eqv (pdv b ss) (pdv c us) = decide (b = c ∧ ss = us) := by
  unfold pdv
  rw [PyData.eqv, PyData.eqvAll, PyData.eqvAll, PyData.eqvAll, eqvr, PyData.eqv, eqvAllr]
  by_cases h1 : b = c
  · by_cases h2 : ss = us
    · simp [h1, h2]
    · simp [h1, h2]
  · simp [h1]
theorem shv (b : Rat) (ss : List Rat) : SeqAt.shaped (pdv b ss) = true := by
  have h1 := (shr ss).1
  have h2 := (shr ss).2
  unfold SeqAt.shaped pdv
  simp only [PyData.canLay0, PyData.canLayAll0, PyData.depth, PyData.depthAll, h1, pdr, pd2]
  simp
  omega
theorem sh1 (r : Rat) : SeqAt.shaped (pdr r) = true := rfl
theorem over_tup {K : PySem.W.Frag} {H H' : Hp} {t D : Addr} {xs ys : List V} (h : SqT K H t xs) (hl : H D = some (.lst ys)) (s : ∀ b o, b ≠ D → H b = some o → H' b = some o) : SqT K H' t xs := by
  rcases h with (h | ⟨ob, h⟩) | h
  · exact .inl (.inl (s _ _ (ne_of h hl (by intro z; cases z)) h))
  · exact .inl (.inr ⟨ob, s _ _ (ne_of h hl (by intro z; cases z)) h⟩)
  · exact .inr h
/-- a comprehension whose elements are fractions: those of L -/
theorem lc_row {K : PySem.W.Frag} {J : It} {n : Nat} {G : Hp → Prop} {Y : Nat → Hp → V → Hp → Prop} (w : Walk J n G Y) (L : List Rat) (hL : L.length = n) (hz : n ≤ 1000)
    {g : TG} {te : TE} {vs : List Nat} {σ : L2.St} {H1 : Hp} {D : Addr} {Qd : Hp → Prop} (hD : H1 D = none) (hG : ∀ H, Same H1 H → G H)
    (hs : ∀ i r x H H' (k : V → Hp → Prop), L[i]? = some r → Same H1 H → Y i H x H' → (∀ t H4, Same H H4 → Fx K H4 t r → k (.ref t) H4) → g x (wipe σ vs) H' fun σ2 H2 => wipe σ2 vs = wipe σ vs ∧ te σ2 H2 k)
    (hd : ∀ H ws, Same H1 H → H D = some (.lst (fr ws)) → Rx K H ws → ws.map (·.2) = L → Qd H) :
    ∃ W : Nat → Nat → Hp → Prop, (∃ m, W 0 m (upd H1 D (.lst []))) ∧ ∀ i m H, W i m H →
      (J.stop i H ∧ Qd H) ∨ (J.go i H ∧ ∃ Nx : Hp → Prop, (∀ H', Nx H' → ∃ m', m' < m ∧ W (i + 1) m' H') ∧ ∀ x H', J.yld i H x H' → g x (wipe σ vs) H' fun σ2 H2 => wipe σ2 vs = wipe σ vs ∧ tYes σ2 H2 fun b H3 =>
        if b = true then te σ2 H3 fun y H4 => ∃ acc, H4 D = some (.lst acc) ∧ acc.length < sizeLine ∧ Nx (upd H4 D (.lst (acc ++ [y]))) else Nx H3) := by
  subst hL
  refine lc_it w (fun i H => Same H1 H ∧ ∃ ws, H D = some (.lst (fr ws)) ∧ Rx K H ws ∧ ws.map (·.2) = L.take i) ⟨same_upd hD, [], upd_same, (fun _ z => nomatch z), rfl⟩ (fun i H _ h => hG H h.1) ?_ ?_
  · rintro i x H H' hi ⟨s1, ws, e1, r1, m1⟩ y
    have hr : L[i]? = some L[i] := List.getElem?_eq_getElem hi
    have q := hs i L[i] x H H' (fun y H4 => ∃ acc, H4 D = some (.lst acc) ∧ acc.length < sizeLine ∧ (fun H => Same H1 H ∧ ∃ ws, H D = some (.lst (fr ws)) ∧ Rx K H ws ∧ ws.map (·.2) = L.take (i + 1)) (upd H4 D (.lst (acc ++ [y])))) hr s1 y (fun t H4 s4 f4 => ?_)
    · refine Eq.mp (congrArg (g x (wipe σ vs) H') ?_) q
      funext σ2 H2
      simp [tYes]
    · have e4 := s4 _ _ e1
      have hlen : ws.length = (L.take i).length := by rw [← m1, List.length_map]
      rw [List.length_take] at hlen
      refine ⟨fr ws, e4, ?_, fun b o e => ?_, ws ++ [(t, L[i])], ?_, fun v hv => ?_, ?_⟩
      · rw [fr_len]
        exact small1000 (by omega)
      · rw [upd_ne (ne_of_none e hD)]
        exact s4 _ _ (s1 _ _ e)
      · rw [upd_same, show fr (ws ++ [(t, L[i])]) = fr ws ++ [.ref t] from List.map_append]
      · rcases List.mem_append.mp hv with h | h
        · exact over_tup ((r1.same s4) v h) e4 fun b o hb e => by rw [upd_ne hb]; exact e
        · rw [List.mem_singleton.mp h]
          exact over_tup f4 e4 fun b o hb e => by rw [upd_ne hb]; exact e
      · rw [List.map_append, m1, List.take_add_one, hr]
        rfl
  · rintro H ⟨s1, ws, e1, r1, m1⟩
    rw [List.take_length] at m1
    exact hd H ws s1 e1 r1 m1
/-- a comprehension whose elements are plain values: those of L -/
theorem lc_val {J : It} {n : Nat} {G : Hp → Prop} {Y : Nat → Hp → V → Hp → Prop} (w : Walk J n G Y) (L : List V) (hL : L.length = n) (hz : n ≤ 1000)
    {g : TG} {te : TE} {vs : List Nat} {σ : L2.St} {H1 : Hp} {D : Addr} {Qd : Hp → Prop} (hD : H1 D = none) (hG : ∀ H, Same H1 H → G H)
    (hs : ∀ i r x H H' (k : V → Hp → Prop), L[i]? = some r → Same H1 H → Y i H x H' → (∀ H4, Same H H4 → k r H4) → g x (wipe σ vs) H' fun σ2 H2 => wipe σ2 vs = wipe σ vs ∧ te σ2 H2 k)
    (hd : ∀ H, Same H1 H → H D = some (.lst L) → Qd H) :
    ∃ W : Nat → Nat → Hp → Prop, (∃ m, W 0 m (upd H1 D (.lst []))) ∧ ∀ i m H, W i m H →
      (J.stop i H ∧ Qd H) ∨ (J.go i H ∧ ∃ Nx : Hp → Prop, (∀ H', Nx H' → ∃ m', m' < m ∧ W (i + 1) m' H') ∧ ∀ x H', J.yld i H x H' → g x (wipe σ vs) H' fun σ2 H2 => wipe σ2 vs = wipe σ vs ∧ tYes σ2 H2 fun b H3 =>
        if b = true then te σ2 H3 fun y H4 => ∃ acc, H4 D = some (.lst acc) ∧ acc.length < sizeLine ∧ Nx (upd H4 D (.lst (acc ++ [y]))) else Nx H3) := by
  subst hL
  refine lc_it w (fun i H => Same H1 H ∧ H D = some (.lst (L.take i))) ⟨same_upd hD, upd_same⟩ (fun i H _ h => hG H h.1) ?_ ?_
  · rintro i x H H' hi ⟨s1, e1⟩ y
    have hr : L[i]? = some L[i] := List.getElem?_eq_getElem hi
    have q := hs i L[i] x H H' (fun y H4 => ∃ acc, H4 D = some (.lst acc) ∧ acc.length < sizeLine ∧ (fun H => Same H1 H ∧ H D = some (.lst (L.take (i + 1)))) (upd H4 D (.lst (acc ++ [y])))) hr s1 y (fun H4 s4 => ?_)
    · refine Eq.mp (congrArg (g x (wipe σ vs) H') ?_) q
      funext σ2 H2
      simp [tYes]
    · have e4 := s4 _ _ e1
      refine ⟨L.take i, e4, ?_, fun b o e => ?_, ?_⟩
      · rw [List.length_take]
        exact small1000 (by omega)
      · rw [upd_ne (ne_of_none e hD)]
        exact s4 _ _ (s1 _ _ e)
      · rw [upd_same, List.take_add_one, hr]
        rfl
  · rintro H ⟨s1, e1⟩
    rw [List.take_length] at e1
    exact hd H s1 e1
def sumR (l : List Rat) : Rat := l.foldl (· + ·) 0
theorem foldl_sum (b : Rat) (l : List Rat) : l.foldl (· + ·) b = b + sumR l := by
  unfold sumR
  induction l generalizing b with
  | nil => exact (Rat.add_zero b).symm
  | cons x l ih =>
    rw [List.foldl_cons, List.foldl_cons, ih, ih (0 + x)]
    grind
theorem sum_bd {n : Nat} {l : List Rat} (h : ∀ r ∈ l, Bd n r) : ∀ i ≤ l.length, Bd (1 + (n + 1) * i) (sumR (l.take i)) := by
  intro i
  induction i with
  | zero =>
    intro _
    exact bd_zero
  | succ i ih =>
    intro hi
    have e : l[i]? = some l[i] := List.getElem?_eq_getElem (by omega)
    have b1 := ih (by omega)
    have b2 := h l[i] (List.getElem_mem _)
    have e2 : sumR (l.take (i + 1)) = sumR (l.take i) + l[i] := by
      unfold sumR
      rw [List.take_add_one, e, List.foldl_append]
      rfl
    rw [e2]
    refine (b1.add b2).up ?_
    rw [Nat.mul_succ]
    omega

section
open PySem PySem.Spec PyProof.Rows
/-- the promise of an error's __init__ that keeps a line and a column -/
def spFIni (K : PySem.W.Frag) (C : Addr) : Sp := fun vs H Q _ => ∃ (a : Addr) (l c : Int), vs = [.ref a, .int l, .int c] ∧ H a = some (exo a C none) ∧
  ∀ (d : Addr) (H' : Hp), H d = none → d ≠ a → H' a = some (exo a C (some d)) → H' d = some (exd d [("column", .int c), ("line", .int l)]) → (∀ b o, b ≠ a → b ≠ d → H b = some o → H' b = some o) → Q .non H'
theorem fault_mk {K : PySem.W.Frag} {H1 : Hp} {C : Addr} {l c : Int} {W : Value → Option Addr → Hp → Prop}
    (hW : ∀ (d : Addr) (H' : Hp), Same H1 H' → H1 d = none → H' d = some (.xd [("column", .int c), ("line", .int l)]) → W (.ref C) (some d) H') :
    [V.int l, V.int c].length ≤ 1000 ∧ ∀ a, H1 a = none → spFIni K C (.ref a :: ([V.int l, V.int c] ++ [])) (upd H1 a (exo a C none))
      (fun v H2 => v = .non ∧ ∃ (d : Addr) (fs : List (Str × V)), H2 a = some (exo a C (some d)) ∧ H2 d = some (exd d fs) ∧ H1 d = none ∧ W (.ref C) (some d) (upd (del H2 a) d (.xd fs))) (fun _ _ _ => False) := by
  refine ⟨by show 2 ≤ 1000; decide, fun a ha => ⟨a, l, c, rfl, upd_same, fun d H' hd hda e1 e2 hk => ⟨rfl, d, _, e1, e2, ?_, ?_⟩⟩⟩
  · rw [upd_ne hda] at hd
    exact hd
  · rw [upd_ne hda] at hd
    refine hW d _ (fun b o e => ?_) hd upd_same
    have nb : b ≠ d := ne_of_none e hd
    have na : b ≠ a := ne_of_none e ha
    rw [upd_ne nb, del_ne na]
    exact hk b o na nb (by rw [upd_ne na]; exact e)
theorem suite_ofD {X : Cx} {a C : Addr} {oe : Obj} {pn : List (Addr × Obj)} {cls : Value} {d : Option Addr} {sts : List Stmt} {ts : Addr → TS} (hz : Zc cls d oe)
    (h : ∀ dd, Zc (.ref C) (some dd) oe → PSs (X.suite a ((a, oe) :: pn)) sts (ts dd)) : PSs (X.suite a ((a, oe) :: pn)) sts (fun D σ H => ∃ dd, (cls = .ref C ∧ d = some dd) ∧ ts dd D σ H) :=
  ⟨fun pins s σ H D I hq => by
    obtain ⟨dd, ⟨rfl, rfl⟩, q⟩ := hq
    exact (h dd hz).run pins s σ H D I q⟩
end

/-- what a def owes that refuses a text: the error with its two fields -/
def fE (C : Addr) (E : XK) (H : Hp) (l c : Int) : Prop := ∀ (d : Addr) (H' : Hp), Same H H' → H' d = some (.xd [("column", .int c), ("line", .int l)]) → E (.ref C) (some d) H'
theorem fE.same {C : Addr} {E : XK} {H H' : Hp} {l c : Int} (h : fE C E H l c) (s : Same H H') : fE C E H' l c := fun d H2 s2 e => h d H2 (s.trans s2) e
theorem pss_no {X : Cx} {b : List Stmt} : PSs X b (fun _ _ _ => False) := ⟨fun _ _ _ _ _ _ h => h.elim⟩

section
open PySem PySem.Spec PySem.Calls PyProof.Rows PySem.W
section
variable {prog : Program} {w : World} {A : Around} {E : Value → Shared → Prop} {s : Shared} {K : Frag} {xe Ck : Addr} {ox : Obj}
/-- the class of an error that has a dict, asked by isinstance -/
theorem tp_class {Q : Option Value → Shared → Prop} {dt : Obj} (C : L2.ExcC K Ck) (X : K.In s.heap) (I : InstAt s.heap xe ox Ck (some dt)) (h : Q (some (.ref Ck)) { s with toks := s.toks + 1 }) :
    wpAny (model prog w) A (getAttr? (.ref xe) "__class__") Q E s := by
  have hcl : (clsIn K Ck).isSome = true := by
    obtain ⟨cd, e, _⟩ := any_some C.hd
    rw [e]; rfl
  have hfo : findObj K Ck (some dt) "__class__" = some (.bind (.builtin "getset_descriptor.__get__") (.builtin "object.__class__")) := findObj_data hcl C.ha C.hn C.ht
  obtain ⟨hp, gs, dw, tk, os⟩ := s
  have lT := I.type (M := model prog w); have lG := looks_findIn (M := model prog w) X C.hg
  have lA := looks_findIn (M := model prog w) X C.hk; have lF := looks_find (M := model prog w) X I hfo
  have lS : Looks (model prog w) hp (isInstance (.ref xe) (.type "BaseException")) true := lT.andThen (looks_subIn X C.hs)
  have n0 : (false && onTheHeap (Value.builtin "BaseException.__getattribute__")) = false := rfl
  have n1 : (onTheHeap (Value.ref Ck) && Value.builtin "BaseException.__getattribute__" == Value.builtin "object.__getattribute__") = false := by
    rw [show (Value.builtin "BaseException.__getattribute__" == Value.builtin "object.__getattribute__") = false by decide +kernel]; rfl
  unfold getAttr? getAttrBy? getAttrBy; refine wpAny_bind (wpAny_mkText (wpAny_bind (wpAny_attempt (wpAny_holding (wpAny_bind (lT.at (wpAny_bind (lG.at ?_))))))))
  show wpAny _ _ (if (onTheHeap (Value.ref Ck) && Value.builtin "BaseException.__getattribute__" == Value.builtin "object.__getattribute__") = true then _ else _) _ _ _
  rw [n1, if_neg Bool.false_ne_true]
  unfold getAttrByItsOwn hookBefore; refine wpAny_bind ?_
  rw [if_pos (show onTheHeap (Value.ref Ck) = true from rfl)]
  refine lA.at (wpAny_bind (wpAny_attempt (wpAny_holding ?_)))
  unfold callGetattribute
  rw [n0, if_neg Bool.false_ne_true]
  unfold boundAndCalled
  rw [PySem.F.excAttr_ValueError.ga.bind (.ref xe)]
  refine wpAny_bind (wpAny_pure ?_)
  show wpAny _ _ (call (.builtin "BaseException.__getattribute__") [.ref xe, .str "__class__" tk]) _ _ _
  refine wpAny_call (codeAny_call_builtin PySem.F.excAttr_ValueError.ga.plain PySem.F.entry_bexc_ga ?_)
  refine @check_slot (model prog w) _ _ ⟨hp, gs, dw, tk + 1, os⟩ "BaseException.__getattribute__" "BaseException" "__getattribute__" (.ref xe) [.str "__class__" tk] [] _ (by decide +kernel) (by decide +kernel) lS (PySem.F.args_bexc_ga (.ref xe) (.str "__class__" tk)) ?_
  unfold Builtin.«object.__getattribute__»
  refine wpAny_bind (wpAny_of_eq (a := ((Value.ref xe : Value), [Value.str "__class__" tk])) (by first | rfl | (simp only [slotArgs]; rfl)) ?_)
  refine wpAny_bind (wpAny_pure (wpAny_bind (lT.at (wpAny_bind (lF.at ?_)))))
  show wpAny _ _ (holding [Value.builtin "object.__class__"] (call (.builtin "getset_descriptor.__get__") [.builtin "object.__class__", .ref xe, .ref Ck]) >>= ret) _ _ _
  refine wpAny_bind (wpAny_holding (wpAny_call (class_get (s := ⟨hp, gs, dw, tk + 1, os⟩) (ox := ox) (od := some dt) X I C.hm ?_)))
  refine wpAny_pure ?_
  show wpAny _ _ (handedOut (.ref Ck)) _ _ _
  rw [handedOut_of (v := .ref Ck) rfl]
  first
    | exact wpAny_pure (wpAny_pure h)
    | exact wpAny_pure h
    | exact wpAny_pure (wpAny_bind (wpAny_pure (wpAny_pure h)))
theorem xd_kit {dt : Obj} (C : L2.ExcC K Ck) : KitX K (.ref xe) (.ref Ck) (fun h => InstAt h xe ox Ck (some dt)) where
  ty := fun _ _ _ I => I.type
  ca := fun X I k => tp_class C X I k
  it := fun _ _ X _ => by
    obtain ⟨cdx, hcx, _⟩ := any_some C.hd
    unfold clsIn at hcx; split at hcx
    case h_2 => cases hcx
    case h_1 hlk =>
      intro A1 Q1 E1 s1 k q
      unfold isType loadHead; exact wpAny_bind (wpAny_loadPart (k _ _ (X _ _ hlk)) (wpAny_pure q))
  ne := fun h tp dd its n sl X htp => by
    obtain ⟨cdx, hcx, _⟩ := any_some C.hd
    rw [beq_eq_false_iff_ne]
    intro e
    obtain rfl : Ck = tp := Value.ref.inj e
    unfold clsIn at hcx; split at hcx
    case h_2 => cases hcx
    case h_1 hlk => cases (X _ _ hlk).symm.trans htp
end
end
section
open PySem PySem.Spec PyProof.Rows
/-- isinstance(e, c), e an error with its dict at dd -/
def rIsD (K : PySem.W.Frag) (C a dd : Addr) : List V → Hp → VK → Prop := fun xs H Q => ∃ (c : V) (cv : Value) (b : Bool) (fs : List (Str × V)), xs = [.ref a, c] ∧ (∀ u, RelV c u → u = cv) ∧ PySem.W.kitOne K (.ref C) cv = some b ∧ H dd = some (.xd fs) ∧ Q (.bl b) H
theorem call_isD {X : Cx} {a C dd : Addr} {oe : Obj} {pn : List (Addr × Obj)} (T : ExcC X.K C) (hz : Zc (.ref C) (some dd) oe) (hf : ∃ vs, oe.data = .fields vs) : CallR (X.suite a ((a, oe) :: pn)) (.builtin "isinstance") (rIsD X.K C a dd) := by
  intro pins s σ H xs us Q I r h
  obtain ⟨c, cv, b, fs, rfl, hcv, e, hdd, q⟩ := h
  match us, r with
  | [_, _], .cons rx (.cons rt .nil) =>
    cases rx
    obtain rfl := hcv _ rt
    have hg := (I.pin (a, oe) (List.mem_append_left _ List.mem_cons_self)).1
    obtain ⟨mA, hns, _⟩ : ObjOk X.prog X.w H s.heap dd (.xd fs) := I.hok dd _ hdd
    obtain ⟨od, ho, _⟩ := lookIn_ns hns
    obtain ⟨vs, hv⟩ := hf
    have J : PySem.W.InstAt s.heap a oe C (some od) := ⟨hg, hz.1, by unfold PySem.W.notCls; rw [hv], by rw [hz.2]; exact ho⟩
    exact PySem.W.kia_one (xd_kit T) I.kIn J e (fun z => nomatch z) fun tk => ⟨.bl b, H, I.kept (t' := tk) (fun _ _ y => y), rfl, q⟩
end

section
open SX
/-- how many signs from i on are among b -/
def dg (b a : List Nat) (i : Nat) : Nat := ((a.drop i).takeWhile fun c => decide (c ∈ b)).length
theorem tw_in {p : Nat → Bool} : ∀ {l : List Nat} {j : Nat}, j < (l.takeWhile p).length → ∃ c, l[j]? = some c ∧ p c = true
  | [], _, h => absurd h (Nat.not_lt_zero _)
  | c :: l, j, h => by
    rw [List.takeWhile_cons] at h
    by_cases hc : p c = true
    · rw [if_pos hc] at h
      cases j with
      | zero => exact ⟨c, rfl, hc⟩
      | succ j =>
        obtain ⟨d, h1, h2⟩ := tw_in (l := l) (j := j) (Nat.lt_of_succ_lt_succ h)
        exact ⟨d, h1, h2⟩
    · rw [if_neg hc] at h
      exact absurd h (Nat.not_lt_zero _)
theorem tw_out {p : Nat → Bool} : ∀ {l : List Nat} {c : Nat}, l[(l.takeWhile p).length]? = some c → p c = false
  | [], _, h => by cases h
  | d :: l, c, h => by
    rw [List.takeWhile_cons] at h
    by_cases hd : p d = true
    · rw [if_pos hd, List.length_cons, List.getElem?_cons_succ] at h
      exact tw_out h
    · rw [if_neg hd] at h
      obtain rfl : d = c := Option.some.inj h
      exact Bool.eq_false_iff.mpr hd
theorem tw_len {p : Nat → Bool} (l : List Nat) : (l.takeWhile p).length ≤ l.length := by
  induction l with
  | nil => exact Nat.le_refl _
  | cons c l ih =>
    rw [List.takeWhile_cons]
    split
    · rw [List.length_cons, List.length_cons]
      omega
    · exact Nat.zero_le _
theorem dg_le {b a : List Nat} {i : Nat} (h : i ≤ a.length) : i + dg b a i ≤ a.length := by
  have h1 := tw_len (p := fun c => decide (c ∈ b)) (a.drop i)
  rw [List.length_drop] at h1
  unfold dg
  omega
theorem dg_in {b a : List Nat} {i j : Nat} (h : j < dg b a i) : ∃ c, a[i + j]? = some c ∧ c ∈ b := by
  obtain ⟨c, h1, h2⟩ := tw_in h
  rw [List.getElem?_drop] at h1
  exact ⟨c, h1, of_decide_eq_true h2⟩
theorem dg_out {b a : List Nat} {i c : Nat} (h : a[i + dg b a i]? = some c) : c ∉ b := by
  have h1 : (a.drop i)[((a.drop i).takeWhile fun c => decide (c ∈ b)).length]? = some c := by
    rw [List.getElem?_drop]
    exact h
  exact of_decide_eq_false (tw_out h1)
theorem cut_S {a : List Nat} {i n : Nat} (h : i + n ≤ a.length) : cutS (S a) (some ((i : Nat) : Int)) (some ((i + n : Nat) : Int)) = S ((a.drop i).take n) := by
  unfold cutS
  rw [HT.sIx_nat, HT.sIx_nat, S_len, show min i a.length = i by omega, show min (i + n) a.length = i + n by omega, show i + n - i = n by omega]
theorem cut_to {a : List Nat} {n : Nat} : cutS (S a) none (some ((n : Nat) : Int)) = S (a.take n) := by
  unfold cutS
  rw [HT.sIx_nat, HT.sIx_none, S_len, List.drop_zero, Nat.sub_zero]
  refine congrArg S ?_
  rcases Nat.le_total n a.length with h | h
  · rw [show min n a.length = n by omega]
  · rw [show min n a.length = a.length by omega, List.take_of_length_le (Nat.le_refl _), List.take_of_length_le h]
theorem cut_from {a : List Nat} {n : Nat} : cutS (S a) (some ((n : Nat) : Int)) none = S (a.drop n) := by
  unfold cutS
  rw [HT.sIx_nat, HT.sIx_none, S_len]
  refine congrArg S ?_
  show (a.drop (min n a.length)).take (a.length - min n a.length) = a.drop n
  rcases Nat.le_total n a.length with h | h
  · rw [show min n a.length = n by omega, List.take_of_length_le (by rw [List.length_drop]; omega)]
  · rw [show min n a.length = a.length by omega, List.drop_of_length_le h, List.drop_of_length_le (Nat.le_refl _), List.take_nil]
def D10 : List Nat := [48, 49, 50, 51, 52, 53, 54, 55, 56, 57]
theorem D10_S : ("0123456789" : Str) = S D10 := by decide +kernel
theorem mem_D10 {c : Nat} (h : c ∈ D10) : 48 ≤ c ∧ c ≤ 57 := by
  simp only [D10, List.mem_cons, List.not_mem_nil, or_false] at h
  omega
theorem D10_mem {c : Nat} (h : 48 ≤ c ∧ c ≤ 57) : c ∈ D10 := by
  simp only [D10, List.mem_cons, List.not_mem_nil, or_false]
  omega
/-- the number that n digits from i on tell -/
def dv10 (a : List Nat) (i n : Nat) : Nat := NumText.digitsVal ((a.drop i).take n)
theorem fold_lt : ∀ (l : List Nat) (x k : Nat), (∀ c ∈ l, 48 ≤ c ∧ c ≤ 57) → x < 10 ^ k → l.foldl (fun acc c => acc * 10 + (c - 48)) x < 10 ^ (k + l.length)
  | [], _, _, _, h => h
  | c :: l, x, k, hc, h => by
    rw [List.foldl_cons, List.length_cons, show k + (l.length + 1) = (k + 1) + l.length by omega]
    refine fold_lt l _ _ (fun d hd => hc d (List.mem_cons_of_mem _ hd)) ?_
    have := hc c List.mem_cons_self
    rw [Nat.pow_succ]
    omega
theorem slice_dig {a : List Nat} {i n : Nat} (h : n ≤ dg D10 a i) : ∀ c ∈ (a.drop i).take n, 48 ≤ c ∧ c ≤ 57 := by
  intro c hc
  obtain ⟨j, hj⟩ := List.mem_iff_getElem?.mp hc
  rw [List.getElem?_take] at hj
  by_cases hjn : j < n
  · rw [if_pos hjn, List.getElem?_drop] at hj
    obtain ⟨d, h1, h2⟩ := dg_in (b := D10) (a := a) (i := i) (j := j) (by omega)
    rw [hj] at h1
    rw [Option.some.inj h1]
    exact mem_D10 h2
  · rw [if_neg hjn] at hj
    cases hj
theorem dv_lt {a : List Nat} {i n : Nat} (h : n ≤ dg D10 a i) : dv10 a i n < 10 ^ n := by
  have := fold_lt ((a.drop i).take n) 0 0 (slice_dig h) (by decide)
  refine Nat.lt_of_lt_of_le this (Nat.pow_le_pow_right (by decide) ?_)
  rw [List.length_take]
  omega
theorem dv_int {a : List Nat} {i n : Nat} (h : n ≤ dg D10 a i) (h0 : 0 < n) (h12 : n ≤ 600) (hi : i + n ≤ a.length) : PySem.intText? (S ((a.drop i).take n)) = some ((dv10 a i n : Nat) : Int) := by
  have hl : ((a.drop i).take n).length = n := by
    rw [List.length_take, List.length_drop]
    omega
  refine PySem.intText_digits (x := S ((a.drop i).take n)) (slice_dig h) (fun e => ?_) ?_
  · have := congrArg List.length e
    rw [hl] at this
    simp at this
    omega
  · rw [S_len, hl]
    omega
end
section
open SX
theorem op_addS {X : Cx} : OpR X (binaryOp .Add) (fun x y H Q => ∃ a b : List Nat, x = .str (S a) ∧ y = .str (S b) ∧ a.length + b.length ≤ 100000 ∧ Q (.str (S (a ++ b))) H) := by
  intro pins s σ H x y v u Q I rx ry h
  obtain ⟨a, b, rfl, rfl, hz, q⟩ := h
  refine op_add_str pins s σ H _ _ v u Q I rx ry ⟨S a, S b, rfl, rfl, ?_, ?_⟩
  · rw [S_len, S_len, PySem.sizeLine_eq]
    omega
  · rw [S_cat]
    exact q
theorem lit_minus : ("-" : Str) = S [45] := by decide +kernel
theorem lit_slash : ("/" : Str) = S [47] := by decide +kernel
theorem lit_nil : ("" : Str) = S [] := by decide +kernel
theorem S_ne {a b : List Nat} (h : ¬ decide (V.str (S a) = V.str (S b)) = true) : a ≠ b := fun e => h (decide_eq_true (by rw [e]))
theorem S_eq {a b : List Nat} (h : decide (V.str (S a) = V.str (S b)) = true) : a = b := S_inj (V.str.inj (of_decide_eq_true h))
end

section
open SX
theorem tw_app {p : Nat → Bool} : ∀ {l r : List Nat}, (∀ c ∈ l, p c = true) → (∀ c, r.head? = some c → p c = false) → (l ++ r).takeWhile p = l
  | [], r, _, h => by
    cases r with
    | nil => rfl
    | cons c r =>
      rw [List.nil_append, List.takeWhile_cons, if_neg (by rw [h c rfl]; exact Bool.false_ne_true)]
  | c :: l, r, h1, h2 => by
    rw [List.cons_append, List.takeWhile_cons, if_pos (h1 c List.mem_cons_self), tw_app (fun d hd => h1 d (List.mem_cons_of_mem _ hd)) h2]
theorem numL_D10 (n : Nat) : ∀ c ∈ TL.numL n, decide (c ∈ D10) = true := fun c hc => decide_eq_true (D10_mem (TL.numL_digits n c hc))
/-- the digits of a number, behind what stands in front, up to what is no digit -/
theorem dg_num {p r : List Nat} {n : Nat} (hr : ∀ c, r.head? = some c → c ∉ D10) : dg D10 (p ++ (TL.numL n ++ r)) p.length = (TL.numL n).length := by
  unfold dg
  rw [List.drop_left, tw_app (numL_D10 n) fun c hc => decide_eq_false (hr c hc)]
theorem dv_num {p r : List Nat} {n : Nat} : dv10 (p ++ (TL.numL n ++ r)) p.length (TL.numL n).length = n := by
  unfold dv10
  rw [List.drop_left, List.take_left, TL.numL_val]
theorem num_head {n : Nat} {r : List Nat} : (TL.numL n ++ r)[0]? ≠ some 45 := by
  intro h
  cases e : TL.numL n with
  | nil => exact TL.numL_ne n e
  | cons c l =>
    rw [e] at h
    have hc := TL.numL_digits n c (by rw [e]; exact List.mem_cons_self)
    have : c = 45 := Option.some.inj h
    omega
theorem str_int (i : Int) : Str.ofString (toString i) = S ((if i < 0 then [45] else []) ++ TL.numL i.natAbs) := by
  cases i with
  | ofNat n =>
    rw [if_neg (show ¬ Int.ofNat n < 0 from Int.not_lt.mpr (Int.natCast_nonneg n))]
    exact num_S n
  | negSucc n =>
    rw [if_pos (Int.negSucc_lt_zero n)]
    have e : toString (Int.negSucc n) = "-" ++ toString (((n + 1 : Nat)) : Int) := rfl
    rw [e]
    refine TL.ext_tl ?_
    have h2 := congrArg (fun x : Str => x.cps.toList) (num_S (n + 1))
    show (Str.ofString ("-" ++ toString (((n + 1 : Nat)) : Int))).cps.toList = [45] ++ TL.numL (n + 1)
    rw [← (show _ = TL.numL (n + 1) from h2)]
    rw [PySem.Str.ofString_eq_toList, PySem.Str.ofString_eq_toList]
    show (("-" ++ toString (((n + 1 : Nat)) : Int)).toList.map Char.toNat) = [45] ++ ((toString (((n + 1 : Nat)) : Int)).toList.map Char.toNat)
    rw [String.toList_append, List.map_append]
    rfl
end

def Bz (n : Nat) (x : Int) : Prop := x.natAbs < 2 ^ n
theorem Bz.up {n m : Nat} {x : Int} (h : Bz n x) (hm : n ≤ m) : Bz m x := Nat.lt_of_lt_of_le h (Nat.pow_le_pow_right (by decide) hm)
theorem Bz.mul {n m : Nat} {x y : Int} (h : Bz n x) (h2 : Bz m y) : Bz (n + m) (x * y) := wide_lt h h2
theorem Bz.neg {n : Nat} {x : Int} (h : Bz n x) : Bz n (-x) := by
  unfold Bz
  rw [Int.natAbs_neg]
  exact h
theorem Bz.add {n m : Nat} {x y : Int} (h : Bz n x) (h2 : Bz m y) : Bz (max n m + 1) (x + y) := by
  have a1 := h.up (Nat.le_max_left n m)
  have a2 := h2.up (Nat.le_max_right n m)
  unfold Bz at *
  rw [Nat.pow_succ]
  have := Int.natAbs_add_le x y
  omega
theorem Bz.sub {n m : Nat} {x y : Int} (h : Bz n x) (h2 : Bz m y) : Bz (max n m + 1) (x - y) := h.add h2.neg
theorem Bz.wide {n m : Nat} {x y : Int} (h : Bz n x) (h2 : Bz m y) (hn : n + m ≤ 900000) : CMulW x y :=
  wide_mul (h.up (Nat.le_succ n)) (h2.up (Nat.le_succ m)) (Nat.succ_pos _) (Nat.succ_pos _) (by omega)
theorem Bd.nz {n : Nat} {r : Rat} (h : Bd n r) : Bz n r.num := h.1
theorem Bd.dz {n : Nat} {r : Rat} (h : Bd n r) : Bz n (r.den : Int) := h.2
theorem bz_of {n : Nat} {x : Int} (h : x.natAbs < 2 ^ n) : Bz n x := h
theorem bz_lt {n : Nat} {x : Int} {b : Nat} (hb : b ≤ 2 ^ n) (h : x.natAbs < b) : Bz n x := Nat.lt_of_lt_of_le h hb
theorem bd_div {n d : Int} {k : Nat} (hd : d ≠ 0) (h1 : Bz k n) (h2 : Bz k d) : Bd k (Rat.divInt n d) := bd_of hd h1 h2
theorem tn {n : Nat} (h : Nat.ble n 1000 = true) : n ≤ sizeLine := Nat.le_trans (Nat.le_of_ble_eq_true h) (by decide)
theorem same_hu {H H' : Hp} {p : Addr} {o : HO} (h : upd H p o = H') (n : H p = none) : Same H H' := h ▸ same_upd n
theorem at_hu {H H' : Hp} {p : Addr} {o : HO} (h : upd H p o = H') : H' p = some o := h ▸ upd_same
theorem same_tr {H H1 H2 : Hp} (h2 : Same H1 H2) (h1 : Same H H1) : Same H H2 := h1.trans h2
theorem fx_up {K : PySem.W.Frag} {H H' : Hp} {a : Addr} {r : Rat} (s : Same H H') (h : Fx K H a r) : Fx K H' a r := h.same s
theorem vx_up {K : PySem.W.Frag} {H H' : Hp} {a : Addr} {r : Rat} {ss : List Rat} (s : Same H H') (h : Vx K H a r ss) : Vx K H' a r ss := h.same s
theorem seq_up {K : PySem.W.Frag} {H H' : Hp} {a : Addr} {xs : List V} (s : Same H H') (h : SqL K H a xs) : SqL K H' a xs := s.seq h
local macro_rules | `(tactic| walk_at "ss") => `(tactic| first | exact Same.refl _ | assumption | exact same_tr (by assumption) (by walk_at "ss"))
local macro_rules | `(tactic| walk_at "bz") => `(tactic| first | assumption | exact Bd.nz (by assumption) | exact Bd.dz (by assumption) | exact Bz.mul (by walk_at "bz") (by walk_at "bz") | exact Bz.add (by walk_at "bz") (by walk_at "bz") | exact Bz.sub (by walk_at "bz") (by walk_at "bz") | exact Bz.neg (by walk_at "bz") | exact bz_of (n := 1) (by decide) | exact bz_of (n := 4) (by decide)| exact bz_of (n := 8) (by decide)| exact bz_of (n := 20) (by decide))
local macro_rules | `(tactic| walk_at "sm0") => `(tactic| assumption)
local macro_rules | `(tactic| walk_at "sm1") => `(tactic| first | assumption | exact same_tup (by assumption) (by walk_at "sm0"))
local macro_rules | `(tactic| walk_at "sm2") => `(tactic| first | assumption | exact same_tup (by assumption) (by walk_at "sm1"))
local macro_rules | `(tactic| walk_at "sm3") => `(tactic| first | assumption | exact same_tup (by assumption) (by walk_at "sm2"))
local macro_rules | `(tactic| walk_at "sm4") => `(tactic| first | assumption | exact same_tup (by assumption) (by walk_at "sm3"))
local macro_rules | `(tactic| walk_at "sm5") => `(tactic| first | assumption | exact same_tup (by assumption) (by walk_at "sm4"))
local macro_rules | `(tactic| walk_at "sm6") => `(tactic| first | assumption | exact same_tup (by assumption) (by walk_at "sm5"))
local macro_rules | `(tactic| walk_at "sm7") => `(tactic| first | assumption | exact same_tup (by assumption) (by walk_at "sm6"))
local macro_rules | `(tactic| walk_at "sm") => `(tactic| walk_at "sm7")
local macro_rules | `(tactic| walk_at "sf0") => `(tactic| assumption)
local macro_rules | `(tactic| walk_at "sf1") => `(tactic| first | assumption | exact fx_up (by assumption) (by walk_at "sf0") | exact vx_up (by assumption) (by walk_at "sf0") | exact seq_up (by assumption) (by walk_at "sf0"))
local macro_rules | `(tactic| walk_at "sf2") => `(tactic| first | assumption | exact fx_up (by assumption) (by walk_at "sf1") | exact vx_up (by assumption) (by walk_at "sf1") | exact seq_up (by assumption) (by walk_at "sf1"))
local macro_rules | `(tactic| walk_at "sf3") => `(tactic| first | assumption | exact fx_up (by assumption) (by walk_at "sf2") | exact vx_up (by assumption) (by walk_at "sf2") | exact seq_up (by assumption) (by walk_at "sf2"))
local macro_rules | `(tactic| walk_at "sf4") => `(tactic| first | assumption | exact fx_up (by assumption) (by walk_at "sf3") | exact vx_up (by assumption) (by walk_at "sf3") | exact seq_up (by assumption) (by walk_at "sf3"))
local macro_rules | `(tactic| walk_at "sf5") => `(tactic| first | assumption | exact fx_up (by assumption) (by walk_at "sf4") | exact vx_up (by assumption) (by walk_at "sf4") | exact seq_up (by assumption) (by walk_at "sf4"))
local macro_rules | `(tactic| walk_at "sf6") => `(tactic| first | assumption | exact fx_up (by assumption) (by walk_at "sf5") | exact vx_up (by assumption) (by walk_at "sf5") | exact seq_up (by assumption) (by walk_at "sf5"))
local macro_rules | `(tactic| walk_at "sf7") => `(tactic| first | assumption | exact fx_up (by assumption) (by walk_at "sf6") | exact vx_up (by assumption) (by walk_at "sf6") | exact seq_up (by assumption) (by walk_at "sf6"))
local macro_rules | `(tactic| walk_at "sf") => `(tactic| walk_at "sf7")
local macro_rules | `(tactic| walk_at "go") => `(tactic| repeat (first | refine ⟨_, rfl, ?_⟩ | refine ⟨rfl, ?_⟩ | refine ⟨_, _, rfl, rfl, ?_⟩ | refine ⟨Bz.wide (by walk_at "bz") (by walk_at "bz") (by decide), ?_⟩ | refine ⟨_, _, _, _, rfl, rfl, (by walk_at "sm"), atI_nat (j := 0) (by rfl), ?_⟩ | refine ⟨_, _, _, _, rfl, rfl, (by walk_at "sm"), atI_nat (j := 1) (by rfl), ?_⟩ | refine ⟨_, _, _, _, rfl, rfl, (by walk_at "sm"), atI_nat (j := 2) (by rfl), ?_⟩ | refine ⟨_, _, _, _, rfl, rfl, (by walk_at "sm"), atI_nat (j := 3) (by rfl), ?_⟩ | refine ⟨_, _, rfl, (by walk_at "sm"), (by rfl), ?_⟩ | refine ⟨⟨by decide, by decide⟩, ?_⟩ | refine ⟨(by show (0 : Int) < _; decide), ?_⟩ | refine ⟨Or.inr ⟨by decide, by decide⟩, ?_⟩ | refine ⟨Or.inl ⟨by decide, by decide⟩, ?_⟩ | refine Or.inl ⟨_, rfl, ?_⟩ | refine And.intro (by assumption) ?_ | refine ⟨_, _, rfl, ?_⟩))
/-- a comprehension whose elements are things of a kind R that stands while nothing but the new list changes -/
theorem lc_obj {J : It} {n : Nat} {G : Hp → Prop} {Y : Nat → Hp → V → Hp → Prop} (w : Walk J n G Y) (R : Nat → Hp → V → Prop)
    (stab : ∀ {i H H' v D acc}, R i H v → H D = some (.lst acc) → (∀ b o, b ≠ D → H b = some o → H' b = some o) → R i H' v) (hz : n ≤ 1000)
    {g : TG} {te : TE} {vs : List Nat} {σ : L2.St} {H1 : Hp} {D : Addr} {Qd : Hp → Prop} (hD : H1 D = none) (hG : ∀ H, Same H1 H → G H)
    (hs : ∀ i x H H' (k : V → Hp → Prop), i < n → Same H1 H → Y i H x H' → (∀ v H4, Same H H4 → R i H4 v → k v H4) → g x (wipe σ vs) H' fun σ2 H2 => wipe σ2 vs = wipe σ vs ∧ te σ2 H2 k)
    (hd : ∀ H us, Same H1 H → H D = some (.lst us) → us.length = n → (∀ i v, us[i]? = some v → R i H v) → Qd H) :
    ∃ W : Nat → Nat → Hp → Prop, (∃ m, W 0 m (upd H1 D (.lst []))) ∧ ∀ i m H, W i m H →
      (J.stop i H ∧ Qd H) ∨ (J.go i H ∧ ∃ Nx : Hp → Prop, (∀ H', Nx H' → ∃ m', m' < m ∧ W (i + 1) m' H') ∧ ∀ x H', J.yld i H x H' → g x (wipe σ vs) H' fun σ2 H2 => wipe σ2 vs = wipe σ vs ∧ tYes σ2 H2 fun b H3 =>
        if b = true then te σ2 H3 fun y H4 => ∃ acc, H4 D = some (.lst acc) ∧ acc.length < sizeLine ∧ Nx (upd H4 D (.lst (acc ++ [y]))) else Nx H3) := by
  refine lc_it w (fun i H => Same H1 H ∧ ∃ us, H D = some (.lst us) ∧ us.length = i ∧ ∀ j v, us[j]? = some v → R j H v) ⟨same_upd hD, [], upd_same, rfl, (fun j v h => by simp at h)⟩ (fun i H _ h => hG H h.1) ?_ ?_
  · rintro i x H H' hi ⟨s1, us, e1, l1, r1⟩ y
    have q := hs i x H H' (fun y H4 => ∃ acc, H4 D = some (.lst acc) ∧ acc.length < sizeLine ∧ (fun H => Same H1 H ∧ ∃ us, H D = some (.lst us) ∧ us.length = i + 1 ∧ ∀ j v, us[j]? = some v → R j H v) (upd H4 D (.lst (acc ++ [y])))) hi s1 y (fun v H4 s4 f4 => ?_)
    · refine Eq.mp (congrArg (g x (wipe σ vs) H') ?_) q
      funext σ2 H2
      simp [tYes]
    · have e4 := s4 _ _ e1
      refine ⟨us, e4, small1000 (by omega), fun b o e => ?_, us ++ [v], upd_same, by rw [List.length_append, l1]; rfl, fun j u hu => ?_⟩
      · rw [upd_ne (ne_of_none e hD)]
        exact s4 _ _ (s1 _ _ e)
      · by_cases hj : j < i
        · rw [List.getElem?_append_left (by omega)] at hu
          have hf := stab (r1 j u hu) e1 (fun b o _ e => s4 b o e)
          exact stab hf e4 fun b o hb e => by rw [upd_ne hb]; exact e
        · have hj2 : j < (us ++ [v]).length := (List.getElem?_eq_some_iff.mp hu).1
          rw [List.length_append, l1] at hj2
          have hj3 : j = i := by
            simp at hj2
            omega
          subst hj3
          rw [List.getElem?_append_right (by omega), l1, Nat.sub_self] at hu
          obtain rfl : v = u := Option.some.inj hu
          exact stab f4 e4 fun b o hb e => by rw [upd_ne hb]; exact e
  · rintro H ⟨s1, us, e1, l1, r1⟩
    exact hd H us s1 e1 l1 r1
theorem over_fx {K : PySem.W.Frag} {H H' : Hp} {t D : Addr} {r : Rat} {ys : List V} (h : Fx K H t r) (hl : H D = some (.lst ys)) (s : ∀ b o, b ≠ D → H b = some o → H' b = some o) : Fx K H' t r := over_tup h hl s
theorem over_vx {K : PySem.W.Frag} {H H' : Hp} {t D : Addr} {b : Rat} {ss : List Rat} {ys : List V} (h : Vx K H t b ss) (hl : H D = some (.lst ys)) (s : ∀ b o, b ≠ D → H b = some o → H' b = some o) : Vx K H' t b ss := by
  obtain ⟨p, q, ws, h1, h2, h3, h4, h5⟩ := h
  exact ⟨p, q, ws, over_tup h1 hl s, over_tup h2 hl s, over_tup h3 hl s, fun w hw => over_tup (h4 w hw) hl s, h5⟩

section
open PySem PySem.Spec PySem.Calls PyProof.Rows PySem.W
/-- a list taken apart, one of the targets with a star -/
theorem tp_parts {prog : Program} {w : World} {A : Around} {E : Value → Shared → Prop} {s : Shared} {a : Addr} {its : Array Value} {n i : Nat} {Q : List Value → Shared → Prop} (hl : s.heap.IsList a its) (hh : A.handled = none) (hi : i < n) (hn : n ≤ its.size + 1) (hz : its.size ≤ 16384)
    (h : ∀ (h' : Heap) tk, (∀ b o, s.heap.get? b = some o → h'.get? b = some o) → Q (its.toList.take i ++ [.ref h'.objs.size] ++ (its.toList.drop i).drop (its.size + 1 - n)) { s with heap := h'.push { cls := .type "list", data := .seq ((its.toList.drop i).take (its.size + 1 - n)).toArray }, toks := tk }) :
    wpAny (model prog w) A (unpackItems (.ref a) n (some i)) Q E s := by
  have far : a ≠ s.heap.objs.size := by
    obtain ⟨o, ho, _⟩ := hl
    exact Nat.ne_of_lt (Heap.lt_size ho)
  unfold unpackItems
  refine wpAny_bind ?_
  unfold notIterableAtAll
  refine wpAny_bind (wpAny_specialOf hl.typeIs slot_list_iter.lookup ?_)
  refine wpAny_pure ?_
  simp only [Bool.false_eq_true, if_false]
  refine wpAny_bind (wpAny_holding (wpAny_pyIter_list hl ?_))
  refine wpAny_bind (wpAny_holding (kun_draw far i 0 _ _ ⟨_, Heap.get?_push_size _ rfl, rfl, rfl⟩ (hl.push _) (by omega) fun h1 it1 sb => ?_))
  have l1 : h1.IsList a its := (hl.push _).extBut sb.extBut far
  rw [Nat.zero_add] at it1
  obtain ⟨oi, hoi, _⟩ := id it1
  obtain ⟨ol, hol, _⟩ := id l1
  rw [List.drop_zero]
  have f1 : (its.toList.take i).length = i := by
    rw [List.length_take, Array.length_toList]
    omega
  rw [if_neg (by rw [f1]; exact Nat.lt_irrefl _)]
  refine wpAny_bind (wpAny_holding (kun_collect (s := { s with heap := h1 }) (T := "list_iterator") (.inr (.inr (.inl rfl))) (Walks.list (A := A.in1) hh s.heap.objs.size a far its) (fun j u st => st.1.typeIs) (k := i) (by omega) ⟨it1, l1⟩ (Heap.lt_size hoi) (Heap.lt_size hol) (fun h2 tk hk => ?_) (by rw [sizeLine_eq]; exact Nat.le_trans hz (by decide))))
  have f2 : (its.toList.drop i).length = its.size - i := by
    rw [List.length_drop, Array.length_toList]
  have f3 : (its.toList.drop i).length - (n - 1 - i) = its.size + 1 - n := by
    rw [f2]
    omega
  show wpAny _ _ (if (its.toList.drop i).length < n - 1 - i then _ else _) _ _ _
  rw [if_neg (by rw [f2]; omega)]
  show wpAny _ _ (newList ((its.toList.drop i).take ((its.toList.drop i).length - (n - 1 - i))) >>= fun d => pure (its.toList.take i ++ [d] ++ (its.toList.drop i).drop ((its.toList.drop i).length - (n - 1 - i)))) _ _ _
  rw [f3]
  have old : ∀ b o, s.heap.get? b = some o → h2.get? b = some o := fun b o e => by
    have nb : b ≠ s.heap.objs.size := Nat.ne_of_lt (Heap.lt_size e)
    exact hk b o nb (sb.extBut b o nb (Heap.get?_push_of_some _ e))
  refine wpAny_bind (PySem.wpAny_newList (wpAny_pure (h h2 tk old)) ?_)
  rw [List.length_take, f2, sizeLine_eq]
  omega
end
section
open PySem PySem.Spec PyProof.Rows
variable {X : Cx} {pos : Pos}
theorem vals_take {vs : List V} {us : List Value} (r : Vals vs us) (n : Nat) : Vals (vs.take n) (us.take n) := by
  induction r generalizing n with
  | nil =>
    rw [List.take_nil, List.take_nil]
    exact .nil
  | cons h t ih =>
    cases n with
    | zero => exact .nil
    | succ n => exact .cons h (ih n)
theorem vals_drop {vs : List V} {us : List Value} (r : Vals vs us) (n : Nat) : Vals (vs.drop n) (us.drop n) := by
  induction r generalizing n with
  | nil =>
    rw [List.drop_nil, List.drop_nil]
    exact .nil
  | cons h t ih =>
    cases n with
    | zero => exact .cons h t
    | succ n => exact ih n
theorem vals_app {vs ws : List V} {us ys : List Value} (r : Vals vs us) (q : Vals ws ys) : Vals (vs ++ ws) (us ++ ys) := by
  induction r with
  | nil => exact q
  | cons h t ih => exact .cons h ih
theorem pgs_star {e : Expr} {p : Pos} {es : List Expr} {t : TG} {u : TGs} (h1 : PG X e t) (h2 : PGs X es u)
    (hs : (assignEach (.Starred e p :: es) X.env).map (·.2) = assign e X.env :: (assignEach es X.env).map (·.2) := by rfl) : PGs X (.Starred e p :: es) (gCons t u) := by
  refine ⟨fun pins s σ H vs us Q I r h => ?_⟩
  obtain ⟨v, vr, e1, h⟩ := h
  subst e1
  cases r with
  | cons r rr =>
    rw [hs]
    refine assignInOrder_cons (thn (h1.run pins s σ H _ _ _ I r h) fun _ s1 ⟨σ1, H1, I1, q1⟩ => ?_)
    exact h2.run pins s1 σ1 H1 _ _ Q I1 rr q1
/-- (a, *b, ..) = a list, the star at place i of n -/
def gStar (K : PySem.W.Frag) (n i : Nat) (t : TGs) : TG := fun v σ H Q => ∃ a xs, v = .ref a ∧ SqL K H a xs ∧ n ≤ xs.length + 1 ∧ xs.length ≤ 16384 ∧
  ∀ D, H D = none → t (xs.take i ++ [.ref D] ++ (xs.drop i).drop (xs.length + 1 - n)) σ (upd H D (.lst ((xs.drop i).take (xs.length + 1 - n)))) Q
theorem pg_star {es : List Expr} {k : Nat} {t : TGs} {n i : Nat} (hc : X.calm = true) (h : PGs X es t)
    (hn : (assignEach es X.env).length = n := by rfl) (hst : (assignEach es X.env).findIdx? (·.1) = some i := by rfl) (hi : i < n := by decide) : PG X (.Tuple es k pos) (gStar X.K n i t) := by
  refine ⟨fun pins s σ H v u Q I r hw => ?_⟩
  obtain ⟨a, xs, e1, hq, hl, hm, hw⟩ := hw
  subst e1
  cases r
  obtain ⟨its, rv, pl, hz⟩ := I.list hq
  have hlen := rv.length
  have hl' : s.heap.IsList a its.toArray := pl.isList
  rw [PyProof.Rows.assign_Tuple]
  refine wpAny_bind (wpAny_standAt ?_)
  unfold unpack
  rw [hn, hst]
  refine wpAny_bind (wpAny_holding (tp_parts hl' (I.ok.hd hc) hi (by rw [List.size_toArray]; omega) (by rw [List.size_toArray]; omega) fun h' tk hx => ?_))
  have I1 : Inv X pins σ H { s with heap := h', toks := tk } := I.kept (t' := tk) hx
  have ez : its.toArray.size = xs.length := by rw [List.size_toArray, hlen]
  rw [ez, show its.toArray.toList = its from rfl]
  have I2 := I1.laid (a := h'.objs.size) (o := .lst ((xs.drop i).take (xs.length + 1 - n))) (h' := h'.push { cls := .type "list", data := .seq ((its.drop i).take (xs.length + 1 - n)).toArray }) (t' := tk) (fun b o e => Heap.get?_push_of_some _ e) (Nat.le_refl _)
    ⟨by
      rw [List.length_take, List.length_drop, PySem.sizeLine_eq]
      omega, _, 0, vals_take (vals_drop rv i) _, Heap.get?_push_size _ rfl⟩
  refine h.run pins _ σ _ _ _ Q I2 ?_ (hw _ (I1.hok.fresh (Nat.le_refl _)))
  exact vals_app (vals_app (vals_take rv i) (.cons rfl .nil)) (vals_drop (vals_drop rv i) _)
end

section
open SX
/-- small letters; letters and digits -/
def SLl : List Nat := [97, 98, 99, 100, 101, 102, 103, 104, 105, 106, 107, 108, 109, 110, 111, 112, 113, 114, 115, 116, 117, 118, 119, 120, 121, 122]
def CLl : List Nat := [65, 66, 67, 68, 69, 70, 71, 72, 73, 74, 75, 76, 77, 78, 79, 80, 81, 82, 83, 84, 85, 86, 87, 88, 89, 90]
def LDl : List Nat := SLl ++ CLl ++ D10
theorem SL_S : ("abcdefghijklmnopqrstuvwxyz" : Str) = S SLl := by decide +kernel
theorem LD_S : ("abcdefghijklmnopqrstuvwxyzABCDEFGHIJKLMNOPQRSTUVWXYZ0123456789" : Str) = S LDl := by decide +kernel
theorem dot_S : ("." : Str) = S [46] := by decide +kernel
theorem zero_S : ("0" : Str) = S [48] := by decide +kernel
theorem tw_all {p : Nat → Bool} : ∀ l : List Nat, ((l.takeWhile p).length = l.length ↔ l.all p = true)
  | [] => by simp
  | c :: l => by
    rw [List.takeWhile_cons, List.all_cons]
    have ih := tw_all (p := p) l
    by_cases hc : p c = true
    · rw [if_pos hc, hc, Bool.true_and, List.length_cons, List.length_cons]
      constructor
      · intro h
        exact ih.mp (by omega)
      · intro h
        rw [ih.mpr h]
    · rw [if_neg hc]
      simp [hc]
def allIn (b a : List Nat) : Bool := a.all fun c => decide (c ∈ b)
theorem dg_all {b a : List Nat} : dg b a 0 = a.length ↔ allIn b a = true := by
  unfold dg allIn
  rw [List.drop_zero]
  exact tw_all a
def isRow (b a : List Nat) : Bool := decide (0 < a.length) && allIn b a
def shortW (f b a : List Nat) : Bool := isRow b a && (decide (a.length ≤ 16) && (match a.head? with | some c => decide (c ∈ f) | none => false))
def plainN (m : Nat) (a : List Nat) : Bool := isRow D10 a && (decide (a.length ≤ m) && (decide (a = [48]) || (match a.head? with | some c => decide (c ≠ 48) | none => false)))
theorem isRow_ne {b a : List Nat} (h : isRow b a = true) : ∃ c r, a = c :: r := by
  unfold isRow at h
  cases a with
  | nil => simp at h
  | cons c r => exact ⟨c, r, rfl⟩
/-- the parts between points -/
def sp (a : List Nat) : List (List Nat) := TL.spl [46] 0 [] a
theorem spl_ne (b : List Nat) : ∀ (l acc : List Nat), TL.spl [46] 0 acc l ≠ []
  | [], acc => by
    rw [TL.spl_nil]
    exact List.cons_ne_nil _ _
  | c :: r, acc => by
    cases h : TL.pre [46] (c :: r) with
    | true =>
      rw [TL.spl_hit h]
      exact List.cons_ne_nil _ _
    | false =>
      rw [TL.spl_miss h]
      exact spl_ne b r _
theorem sp_ne (a : List Nat) : sp a ≠ [] := spl_ne [] a []
theorem split_sp (a : List Nat) : Txt.split (S a) (S [46]) = (sp a).map S := split_S (by decide) (by decide)
theorem join_spl : ∀ (l acc : List Nat), TL.joinL [46] (TL.spl [46] 0 acc l) = acc ++ l
  | [], acc => by
    rw [TL.spl_nil, List.append_nil]
    rfl
  | c :: r, acc => by
    cases h : TL.pre [46] (c :: r) with
    | true =>
      have hc : c = 46 := by
        have h' : ([c] == [46]) = true := h
        injection eq_of_beq h'
      rw [TL.spl_hit h]
      show TL.joinL [46] (acc :: TL.spl [46] 0 [] r) = _
      have ih := join_spl r []
      have hne := spl_ne [] r []
      cases e : TL.spl [46] 0 [] r with
      | nil => exact absurd e hne
      | cons p q =>
        rw [e] at ih
        show acc ++ ([46] ++ TL.joinL [46] (p :: q)) = _
        rw [ih, hc]
        rfl
    | false =>
      rw [TL.spl_miss h, join_spl r]
      simp
theorem join_sp (a : List Nat) : TL.joinL [46] (sp a) = a := join_spl a []
theorem join_len : ∀ l : List (List Nat), (∀ p ∈ l, p.length ≤ (TL.joinL [46] l).length) ∧ l.length ≤ (TL.joinL [46] l).length + 1
  | [] => ⟨(fun _ h => nomatch h), Nat.zero_le _⟩
  | [p] => by
    refine ⟨fun q h => ?_, ?_⟩
    · rw [List.mem_singleton.mp h]
      exact Nat.le_refl _
    · show 1 ≤ _
      omega
  | p :: q :: r => by
    obtain ⟨h1, h2⟩ := join_len (q :: r)
    have e : TL.joinL [46] (p :: q :: r) = p ++ ([46] ++ TL.joinL [46] (q :: r)) := rfl
    rw [e, List.length_append, List.length_append]
    refine ⟨fun x hx => ?_, ?_⟩
    · rcases List.mem_cons.mp hx with rfl | hx
      · omega
      · have := h1 x hx
        omega
    · rw [List.length_cons]
      show (q :: r).length + 1 ≤ p.length + (1 + _) + 1
      omega
theorem sp_len (a : List Nat) : (∀ p ∈ sp a, p.length ≤ a.length) ∧ (sp a).length ≤ a.length + 1 := by
  have h := join_len (sp a)
  rw [join_sp] at h
  exact h
theorem snoc_of {α : Type} {l : List α} (h : l ≠ []) : ∃ i x, l = i ++ [x] := ⟨l.dropLast, l.getLast h, (List.dropLast_concat_getLast h).symm⟩
/-- what an origin tells: its number, its occurrences, its name -/
def rdo (a : List Nat) : Option (Nat × List Nat × List Nat) :=
  match (sp a).getLast?, (sp a).dropLast with
  | some nm, n :: ks => if (shortW SLl LDl nm && decide (ks.length ≤ 12) && (n :: ks).all (plainN 6) && decide ([48] ∉ ks)) = true then some (NumText.digitsVal n, ks.map NumText.digitsVal, nm) else none
  | _, _ => none
theorem numL_head {n : Nat} (h : 1 ≤ n) : (TL.numL n).head? ≠ some 48 := by
  induction n using Nat.strongRecOn with
  | _ n ih =>
    rcases Nat.lt_or_ge n 10 with g | g
    · rw [TL.numL_lt g]
      intro e
      have : 48 + n = 48 := Option.some.inj e
      omega
    · rw [TL.numL_step g]
      have h2 := ih (n / 10) (by omega) (by omega)
      cases e : TL.numL (n / 10) with
      | nil => exact absurd e (TL.numL_ne _)
      | cons c r =>
        rw [e] at h2
        exact h2
theorem numL_plain {n : Nat} (h : n < 10 ^ 6) : plainN 6 (TL.numL n) = true := by
  unfold plainN isRow allIn
  have l1 := TL.numL_len (k := 6) (by decide) h
  have hne := TL.numL_ne n
  have hall : (TL.numL n).all (fun c => decide (c ∈ D10)) = true := List.all_eq_true.mpr fun c hc => decide_eq_true (D10_mem (TL.numL_digits n c hc))
  have pos : 0 < (TL.numL n).length := List.length_pos_iff.mpr hne
  rw [hall]
  rcases Nat.eq_zero_or_pos n with rfl | hp
  · decide
  · have hh := numL_head hp
    cases e : TL.numL n with
    | nil => exact absurd e hne
    | cons c r =>
      rw [e] at hh l1 pos
      have hc : c ≠ 48 := fun z => hh (by rw [z]; rfl)
      simp [hc] at *
      omega
end
section
open SX
def sv (l : List Nat) : V := .str (S l)
def okO (init : List (List Nat)) (nm : List Nat) : Option (Nat × List Nat × List Nat) :=
  match init with
  | [] => none
  | n :: ks => if (shortW SLl LDl nm && decide (ks.length ≤ 12) && (n :: ks).all (plainN 6) && decide ([48] ∉ ks)) = true then some (NumText.digitsVal n, ks.map NumText.digitsVal, nm) else none
theorem rdo_eq {a : List Nat} {i : List (List Nat)} {x : List Nat} (h : sp a = i ++ [x]) : rdo a = okO i x := by
  unfold rdo okO
  rw [h]
  simp
  cases i <;> rfl
theorem star_mid {ys : List V} {y : V} : (((ys ++ [y]).drop 0).take ((ys ++ [y]).length + 1 - 2)) = ys := by
  rw [List.drop_zero, List.length_append, show ys.length + [y].length + 1 - 2 = ys.length from by show ys.length + 1 + 1 - 2 = _; omega, List.take_left]
theorem star_all {ys : List V} {y d : V} : ((ys ++ [y]).take 0 ++ [d] ++ ((ys ++ [y]).drop 0).drop ((ys ++ [y]).length + 1 - 2)) = [d, y] := by
  rw [List.drop_zero, List.length_append, show ys.length + [y].length + 1 - 2 = ys.length from by show ys.length + 1 + 1 - 2 = _; omega, List.drop_left]
  rfl
/-- an origin, as it is told -/
def Ot (K : PySem.W.Frag) (H : Hp) (t : Addr) (n : Nat) (ks : List Nat) (nm : List Nat) : Prop := ∃ q : Addr, SqT K H t [.int (n : Int), .ref q, .str (S nm)] ∧ SqT K H q (ks.map fun k => V.int (k : Nat))
theorem plainN_int {m : Nat} {a : List Nat} (hm : m ≤ 600) (h : plainN m a = true) : PySem.intText? (S a) = some ((NumText.digitsVal a : Nat) : Int) ∧ (S a).length ≤ 640 := by
  unfold plainN isRow allIn at h
  simp only [Bool.and_eq_true, decide_eq_true_eq] at h
  obtain ⟨⟨h0, h1⟩, h2, _⟩ := h
  refine ⟨PySem.intText_digits (x := S a) (fun c hc => mem_D10 (of_decide_eq_true (List.all_eq_true.mp h1 c hc))) (fun e => ?_) ?_, ?_⟩
  · have e' : a = [] := e
    rw [e'] at h0
    exact absurd h0 (by decide)
  · rw [S_len]
    omega
  · rw [S_len]
    omega
end
section
open SX
theorem cut_tail {x : V} {xs : List V} : cutV (x :: xs) (some 1) none = xs := by
  unfold cutV
  have e : HT.sIx (x :: xs).length 0 (some 1) = 1 := by
    rw [show (some 1 : Option Int) = some ((1 : Nat) : Int) from rfl, HT.sIx_nat, List.length_cons]
    omega
  rw [e, HT.sIx_none]
  rw [List.drop_succ_cons, List.drop_zero, List.length_cons, Nat.add_sub_cancel, List.take_length]
theorem inV_zero (ks : List (List Nat)) : inV (.str (S [48])) (ks.map sv) = decide ([48] ∈ ks) := by
  unfold inV
  induction ks with
  | nil => rfl
  | cons k ks ih =>
    rw [List.map_cons, List.any_cons, ih]
    have e : eqV (sv k) (.str (S [48])) = decide (k = [48]) := by
      show (S k == S [48]) = _
      rw [S_beq_eq]
    rw [e]
    by_cases h : k = [48]
    · subst h
      simp
    · have h2 : ¬ [48] = k := fun z => h z.symm
      simp [h, h2]
theorem flat_sv (ks : List (List Nat)) : (ks.map sv).all flatV = true := by
  induction ks with
  | nil => rfl
  | cons k ks ih =>
    rw [List.map_cons, List.all_cons, ih]
    rfl
theorem all_id {α : Type} (f : α → Bool) (l : List α) : (l.map f).all id = l.all f := by
  rw [List.all_map]
  rfl
theorem okO_ok {n nm : List Nat} {ks : List (List Nat)} (h1 : shortW SLl LDl nm = true) (h2 : ks.length ≤ 12) (h3 : (n :: ks).all (plainN 6) = true) (h4 : [48] ∉ ks) : okO (n :: ks) nm = some (NumText.digitsVal n, ks.map NumText.digitsVal, nm) := by
  unfold okO
  simp only [h1, h3, decide_eq_true h2, decide_eq_true h4, Bool.and_self, if_true]
theorem okO_bad3 {n nm : List Nat} {ks : List (List Nat)} (h3 : (n :: ks).all (plainN 6) = false) : okO (n :: ks) nm = none := by
  unfold okO
  simp only [h3, Bool.and_false, Bool.false_and]
  rfl
theorem okO_bad4 {n nm : List Nat} {ks : List (List Nat)} (h4 : [48] ∈ ks) : okO (n :: ks) nm = none := by
  unfold okO
  simp only [decide_eq_false (show ¬ ([48] ∉ ks) from fun h => h h4), Bool.and_false]
  rfl
theorem st_take {x : V} {xs : List V} {d : V} : ((x :: xs).take 1 ++ [d] ++ ((x :: xs).drop 1).drop ((x :: xs).length + 1 - 2)) = [x, d] := by
  rw [List.drop_succ_cons, List.drop_zero, List.length_cons, show xs.length + 1 + 1 - 2 = xs.length by omega, List.drop_length]
  rfl
theorem st_mid {x : V} {xs : List V} : (((x :: xs).drop 1).take ((x :: xs).length + 1 - 2)) = xs := by
  rw [List.drop_succ_cons, List.drop_zero, List.length_cons, show xs.length + 1 + 1 - 2 = xs.length by omega, List.take_length]
end
section
open SX
/-- the text of an origin -/
def otl (n : Nat) (ks : List Nat) (nm : List Nat) : List Nat := TL.joinL [46] ((n :: ks).map TL.numL ++ [nm])
theorem joinL_len {m : Nat} : ∀ l : List (List Nat), (∀ p ∈ l, p.length ≤ m) → (TL.joinL [46] l).length ≤ l.length * (m + 1)
  | [], _ => Nat.zero_le _
  | [p], h => by
    have := h p List.mem_cons_self
    show p.length ≤ 1 * (m + 1)
    omega
  | p :: q :: r, h => by
    have h1 := h p List.mem_cons_self
    have h2 := joinL_len (q :: r) (fun x hx => h x (List.mem_cons_of_mem _ hx))
    have e : TL.joinL [46] (p :: q :: r) = p ++ ([46] ++ TL.joinL [46] (q :: r)) := rfl
    rw [e, List.length_append, List.length_append, List.length_cons (as := q :: r), Nat.add_mul]
    show p.length + (1 + _) ≤ _
    omega
theorem sum_lens {m : Nat} : ∀ l : List (List Nat), (∀ p ∈ l, p.length ≤ m) → ((l.map S).map (·.length)).sum ≤ l.length * m
  | [], _ => Nat.zero_le _
  | p :: r, h => by
    have h1 := h p List.mem_cons_self
    have h2 := sum_lens r (fun x hx => h x (List.mem_cons_of_mem _ hx))
    rw [List.map_cons, List.map_cons, List.sum_cons, S_len, List.length_cons, Nat.add_mul]
    omega
end
section
open SX
theorem cut_mid {x y : V} {xs : List V} : cutV (x :: (xs ++ [y])) (some 1) (some (-1)) = xs := by
  have e1 : HT.sIx (x :: (xs ++ [y])).length 0 (some 1) = 1 := by
    rw [show (some 1 : Option Int) = some ((1 : Nat) : Int) from rfl, HT.sIx_nat, List.length_cons]
    omega
  have e2 : HT.sIx (x :: (xs ++ [y])).length (x :: (xs ++ [y])).length (some (-1)) = xs.length + 1 := by
    show (if (-1 : Int) < 0 then ((-1 : Int) + ((x :: (xs ++ [y])).length : Int)).toNat else min (-1 : Int).toNat (x :: (xs ++ [y])).length) = _
    rw [if_pos (by decide), List.length_cons, List.length_append]
    show ((-1 : Int) + ((xs.length + 1 + 1 : Nat) : Int)).toNat = _
    omega
  unfold cutV
  rw [e1, e2, List.drop_succ_cons, List.drop_zero, Nat.add_sub_cancel, List.take_left]
end
section
open SX
theorem ld_46 {a : List Nat} (h : allIn LDl a = true) : 46 ∉ a := fun hm => by
  have := of_decide_eq_true (List.all_eq_true.mp h 46 hm)
  exact absurd this (by decide)
theorem shortW_in {f b a : List Nat} (h : shortW f b a = true) : allIn b a = true ∧ a.length ≤ 16 := by
  unfold shortW isRow at h
  simp only [Bool.and_eq_true, decide_eq_true_eq] at h
  exact ⟨h.1.2, h.2.1⟩
theorem shortW_take {c : Nat} {r : List Nat} (hc : c ∈ SLl) (h : allIn LDl (c :: r) = true) : shortW SLl LDl ((c :: r).take 16) = true := by
  have e : (c :: r).take 16 = c :: r.take 15 := rfl
  have h2 : allIn LDl (c :: r.take 15) = true := by
    rw [← e]
    unfold allIn at *
    rw [List.all_eq_true] at *
    exact fun x hx => h x (List.mem_of_mem_take hx)
  have h3 : (r.take 15).length ≤ 15 := by
    rw [List.length_take]
    omega
  rw [e]
  unfold shortW isRow
  rw [h2]
  simp [hc]
  omega
theorem sp_otl {n : Nat} {ks nm : List Nat} (h : 46 ∉ nm) : sp (otl n ks nm) = (n :: ks).map TL.numL ++ [nm] := by
  refine SX.spl_join (by simp) fun p hp => ?_
  rcases List.mem_append.mp hp with h1 | h1
  · obtain ⟨z, _, rfl⟩ := List.mem_map.mp h1
    exact TL.numL_free (.inl (by decide))
  · rw [List.mem_singleton.mp h1]
    exact h
theorem rdo_otl {n : Nat} {ks nm : List Nat} (hn : n < 10 ^ 6) (hks : ∀ k ∈ ks, 1 ≤ k ∧ k < 10 ^ 6) (hl : ks.length ≤ 12) (hnm : shortW SLl LDl nm = true) : rdo (otl n ks nm) = some (n, ks, nm) := by
  rw [rdo_eq (sp_otl (ld_46 (shortW_in hnm).1)), List.map_cons, okO_ok hnm (by rw [List.length_map]; exact hl) ?_ ?_]
  · rw [TL.numL_val, List.map_map]
    refine congrArg (fun z => some (n, z, nm)) ?_
    clear hks hl
    induction ks with
    | nil => rfl
    | cons k ks ih =>
      rw [List.map_cons, ih]
      show TL.numL k |> NumText.digitsVal |> fun z => z :: ks = k :: ks
      rw [TL.numL_val]
  · rw [List.all_cons, numL_plain hn, Bool.true_and, List.all_map, List.all_eq_true]
    exact fun k hk => numL_plain (hks k hk).2
  · intro hm
    obtain ⟨k, hk, e⟩ := List.mem_map.mp hm
    exact numL_head (hks k hk).1 (by rw [e]; rfl)
def pdo (n : Nat) (ks nm : List Nat) : PyData := .tuple [.int (n : Int), .tuple (ks.map fun k => .int (k : Nat)), .str (S nm)]
theorem dp_ot {K : PySem.W.Frag} {H : Hp} {t : Addr} {n : Nat} {ks nm : List Nat} (h : Ot K H t n ks nm) : Dp K H (.ref t) (pdo n ks nm) := by
  obtain ⟨q, h1, h2⟩ := h
  refine .tup h1 (.cons (.int _) (.cons (.tup h2 ?_) (.cons (.str _) .nil)))
  clear h1 h2
  induction ks with
  | nil => exact .nil
  | cons k ks ih => exact .cons (.int _) ih
theorem sh_pdo {n : Nat} {ks nm : List Nat} (h : allIn LDl nm = true) : SeqAt.shaped (pdo n ks nm) = true := by
  have h1 : PyData.canLayAll0 (ks.map fun k => PyData.int (k : Nat)) = true ∧ PyData.depthAll (ks.map fun k => PyData.int (k : Nat)) ≤ 1 := by
    clear h
    induction ks with
    | nil => decide
    | cons r rs ih =>
      rw [List.map_cons, PyData.canLayAll0, PyData.depthAll, ih.1]
      exact ⟨rfl, Nat.max_le.mpr ⟨by show 0 ≤ 1; decide, ih.2⟩⟩
  have h3 : (PyData.str (S nm)).canLay0 = true := by
    show PySem.PyData.strOk (S nm) = true
    unfold PySem.PyData.strOk
    rw [← Array.all_toList]
    show nm.all _ = true
    rw [List.all_eq_true]
    intro c hc
    have hm := of_decide_eq_true (List.all_eq_true.mp h c hc)
    have : ∀ c ∈ LDl, decide (c < 0x110000) = true := by decide
    exact this c hm
  obtain ⟨h1, h2⟩ := h1
  unfold SeqAt.shaped pdo
  simp only [PyData.canLay0, PyData.canLayAll0, PyData.depth, PyData.depthAll, h1] at h3 ⊢
  simp only [h3]
  simp
  omega
theorem eqv_pdo {n : Nat} {ks nm : List Nat} (h : allIn LDl nm = true) : PyData.eqv (pdo n ks nm) (pdo n ks nm) = true := by
  have h2 := sh_pdo (n := n) (ks := ks) h
  unfold SeqAt.shaped at h2
  exact SeqAt.eqv_refl _ (by
    rw [Bool.and_eq_true] at h2
    exact h2.1)
theorem rdo_in {a : List Nat} {n : Nat} {ks nm : List Nat} (h : rdo a = some (n, ks, nm)) : allIn LDl nm = true := by
  obtain ⟨i, x, e⟩ := snoc_of (sp_ne a)
  rw [rdo_eq e] at h
  unfold okO at h
  cases i with
  | nil => cases h
  | cons m l =>
    dsimp only at h
    split at h
    · rename_i g
      simp only [Bool.and_eq_true] at g
      injection h with h
      injection h with _ h
      injection h with _ h
      rw [← h]
      exact (shortW_in g.1.1.1).1
    · cases h
theorem otl_len {n : Nat} {ks nm : List Nat} (hn : n < 10 ^ 6) (hks : ∀ k ∈ ks, k < 10 ^ 6) (hl : ks.length ≤ 12) (hnm : nm.length ≤ 16) : (otl n ks nm).length ≤ 238 := by
  have h := joinL_len (m := 16) ((n :: ks).map TL.numL ++ [nm]) (fun p hp => by
    rcases List.mem_append.mp hp with h | h
    · obtain ⟨z, hz, rfl⟩ := List.mem_map.mp h
      have h2 : z < 10 ^ 6 := by
        rcases List.mem_cons.mp hz with rfl | h3
        · exact hn
        · exact hks z h3
      have := TL.numL_len (k := 6) (by decide) h2
      omega
    · rw [List.mem_singleton.mp h]
      exact hnm)
  unfold otl
  rw [List.length_append, List.length_map, List.length_cons, show [nm].length = 1 from rfl] at h
  have h2 : (ks.length + 1 + 1) * (16 + 1) ≤ 14 * 17 := Nat.mul_le_mul (by omega) (by decide)
  omega
theorem rdo_nil : rdo [] = none := by decide
end

theorem iteF' {b : Bool} {p q : Prop} (h : b = false) (hq : q) : if b = true then p else q := by
  rw [h, if_neg Bool.false_ne_true]
  exact hq
theorem iteT' {b : Bool} {p q : Prop} (h : b = true) (hp : p) : if b = true then p else q := by
  rw [h, if_pos rfl]
  exact hp


section
variable {P : Program} {w : World} {K : PySem.W.Frag} {mg : Str → Option Value} {base : Heap}
theorem okIni {C fIni : Addr} {fdIni : FuncData} (F : Fun K "__init__" "TextFault.__init__" sIni fIni fdIni) (ox : OexC K C) (nl : PySem.W.findIn K (.ref C) "line" = some none) (nc : PySem.W.findIn K (.ref C) "column" = some none) :
    FnOk P w K mg base CX0 1 fIni fdIni ["self", "line", "column"] (spFIni K C) := by
  refine F.ok scIni (fun vs H Q E h => ?_) (fun cdv A outer s H vs Q E hr h => ?_)
  · obtain ⟨a, l, c, rfl, ha, k⟩ := h
    rfl
  · obtain ⟨a, l, c, rfl, ha, k⟩ := h
    refine ⟨_, (pss_cons (ps_ost (pv 0) (pv 1)) (pss_one (ps_ost (pv 0) (pv 2)))), ?_⟩
    refine ⟨_, rfl, _, rfl, a, C, rfl, ox, nl, .inl ⟨ha, fun dx hd hda => ?_⟩⟩
    have e1 : (upd (upd H dx (exd dx [("line", .int l)])) a (exo a C (some dx))) a = some (exo a C (some dx)) := upd_same
    have e2 : (upd (upd H dx (exd dx [("line", .int l)])) a (exo a C (some dx))) dx = some (exd dx [("line", .int l)]) := by
      rw [upd_ne hda, upd_same]
    refine ⟨_, rfl, _, rfl, a, C, rfl, ox, nc, .inr ⟨dx, _, e1, e2, by show 1 ≤ 900; decide, ?_⟩⟩
    refine k dx _ hd hda (by rw [upd_ne hda.symm]; exact e1) upd_same (fun b o b1 b2 e => ?_)
    rw [upd_ne b2, upd_ne b1, upd_ne b2]
    exact e
open SX (S)
def spRowEnd (K : PySem.W.Frag) : Sp := fun vs H Q _ => ∃ (a b : List Nat) (i : Nat), vs = [.str (S a), .int i, .str (S b)] ∧ a.length ≤ 3000 ∧ i ≤ a.length ∧ Q (.int ((i + dg b a i : Nat) : Int)) H
theorem okRowEnd {fRowEnd : Addr} {fdRowEnd : FuncData} (F : Fun K "row_end" "row_end" sRowEnd fRowEnd fdRowEnd) (T : Txt mg) {aDIGITS : Tok} {aSMALL_LETTERS : Tok} {aLETTERS_AND_DIGITS : Tok} {aNAME_LENGTH : Tok} {aMOST_OCCURRENCES : Tok} {aNUMBER_DIGITS : Tok} (CT : Cons K mg aDIGITS aSMALL_LETTERS aLETTERS_AND_DIGITS aNAME_LENGTH aMOST_OCCURRENCES aNUMBER_DIGITS) {CPartError CTextFault : Addr} (EX : Exns K mg CPartError CTextFault) {fIni : Addr} {fdIni : FuncData} (FL : Flt K mg CPartError CTextFault fIni) (GIni : FnOk P w K mg base CX0 1 fIni fdIni ["self", "line", "column"] (spFIni K CTextFault)) (bIni : Binds K fdIni ["self", "line", "column"] []) :
    FnOk P w K mg base CX0 1 fRowEnd fdRowEnd ["text", "at", "allowed"] (spRowEnd K) := by
  refine F.ok scRowEnd (fun vs H Q E h => ?_) (fun cdv A outer s H vs Q E hr h => ?_)
  · obtain ⟨a, b, i, rfl, hlen, hi, k⟩ := h
    rfl
  · obtain ⟨a, b, i, rfl, hlen, hi, k⟩ := h
    refine ⟨_, (C8.pss_cut (ps_while PassesOwn.never (PW.pt (pw_and (pt_cmpR op_lt (pv 1) (pe_callB call_len_str (by rfl) T.len PySem.boot_len (pa_cons (pv 0) pa_nil)) (nomark _)) (pw_and1 (pt_cmpR op_in_sign (pe_ix ix_str (pv 0) (pv 1) (fun _ _ => rfl)) (pv 2) (by rfl)))))
        (pss_one (ps_aug (i := 1) scRowEnd.nd rfl (.inl rfl) pe_int ip_add)))
      (pss_one (ps_ret (pv 1)))), ?_⟩
    have hz : (S a).length ≤ sizeLine := by
      rw [SX.S_len, PySem.sizeLine_eq]
      omega
    refine ⟨fun σ' H' => σ' = [some (.str (S a)), some (.int ((i + dg b a i : Nat) : Int)), some (.str (S b))] ∧ H' = H, ?_, ?_⟩
    · refine ⟨fun m σ' H' => ∃ j, m = dg b a i - j ∧ j ≤ dg b a i ∧ σ' = [some (.str (S a)), some (.int ((i + j : Nat) : Int)), some (.str (S b))] ∧ H' = H, ⟨_, 0, rfl, Nat.zero_le _, rfl, rfl⟩, ?_⟩
      rintro m σ' H' ⟨j, rfl, hj, rfl, rfl⟩
      refine ⟨_, rfl, _, rfl, S a, rfl, hz, _, _, rfl, rfl, _, rfl, ?_⟩
      refine ite2 (fun g => ?_) (fun g => ?_)
      · have hlt : i + j < a.length := by
          have g1 := of_decide_eq_true g
          rw [SX.S_len] at g1
          omega
        obtain ⟨c, hc⟩ : ∃ c, a[i + j]? = some c := ⟨a[i + j], List.getElem?_eq_getElem hlt⟩
        refine ⟨_, rfl, _, rfl, S a, _, c, rfl, rfl, hz, atI_nat hc, _, rfl, c, S b, rfl, rfl, _, rfl, ite2 (fun g => ?_) (fun g => ?_)⟩
        · have hb : c ∈ b := of_decide_eq_true g
          have hj2 : j < dg b a i := by
            rcases Nat.lt_or_ge j (dg b a i) with h | h
            · exact h
            · exfalso
              have e : j = dg b a i := by omega
              subst e
              exact dg_out hc hb
          refine ⟨fun σ' H2 => σ' = [some (.str (S a)), some (.int ((i + (j + 1) : Nat) : Int)), some (.str (S b))] ∧ H2 = H', ?_, ?_⟩
          · rintro σ' H2 ⟨rfl, rfl⟩
            exact ⟨_, by omega, j + 1, rfl, hj2, rfl, rfl⟩
          · walk_at "rd"
            rfl
        · have hb : c ∉ b := of_decide_eq_false (by simpa using g)
          have e : j = dg b a i := by
            rcases Nat.lt_or_ge j (dg b a i) with h | h
            · exfalso
              obtain ⟨d, h1, h2⟩ := dg_in h
              rw [hc] at h1
              rw [← Option.some.inj h1] at h2
              exact hb h2
            · omega
          subst e
          exact ⟨rfl, rfl⟩
      · have hge : a.length ≤ i + j := by
          have g1 : ¬ ((i + j : Nat) : Int) < ((S a).length : Int) := fun z => g (decide_eq_true z)
          rw [SX.S_len] at g1
          omega
        have h1 := dg_le (b := b) hi
        have e : j = dg b a i := by omega
        subst e
        exact ⟨rfl, rfl⟩
    · rintro σ' H' ⟨rfl, rfl⟩
      exact ⟨_, rfl, k⟩
theorem S_sl {a : List Nat} (h : a.length ≤ 3000) : (S a).length ≤ sizeLine := by
  rw [SX.S_len, PySem.sizeLine_eq]
  omega
theorem lenS (a : List Nat) : (((S a).length : Nat) : Int) = (a.length : Int) := by rw [SX.S_len]
def spIsRow (K : PySem.W.Frag) : Sp := fun vs H Q _ => ∃ a b : List Nat, vs = [.str (S a), .str (S b)] ∧ a.length ≤ 3000 ∧ Q (.bl (isRow b a)) H
theorem okIsRow {fIsRow : Addr} {fdIsRow : FuncData} (F : Fun K "is_row" "is_row" sIsRow fIsRow fdIsRow) (T : Txt mg) {aDIGITS : Tok} {aSMALL_LETTERS : Tok} {aLETTERS_AND_DIGITS : Tok} {aNAME_LENGTH : Tok} {aMOST_OCCURRENCES : Tok} {aNUMBER_DIGITS : Tok} (CT : Cons K mg aDIGITS aSMALL_LETTERS aLETTERS_AND_DIGITS aNAME_LENGTH aMOST_OCCURRENCES aNUMBER_DIGITS) {CPartError CTextFault : Addr} (EX : Exns K mg CPartError CTextFault) {fIni : Addr} {fdIni : FuncData} (FL : Flt K mg CPartError CTextFault fIni) (GIni : FnOk P w K mg base CX0 1 fIni fdIni ["self", "line", "column"] (spFIni K CTextFault)) (bIni : Binds K fdIni ["self", "line", "column"] [])
    {fRowEnd : Addr} {fdRowEnd : FuncData} (GRowEnd : FnOk P w K mg base CX0 1 fRowEnd fdRowEnd ["text", "at", "allowed"] (spRowEnd K)) (gRowEnd : mg "row_end" = some (.ref fRowEnd)) (kpRowEnd : PySem.W.keepIn K (.ref fRowEnd) = true) (bRowEnd : Binds K fdRowEnd ["text", "at", "allowed"] []) :
    FnOk P w K mg base CX0 2 fIsRow fdIsRow ["text", "allowed"] (spIsRow K) := by
  refine F.ok scIsRow (fun vs H Q E h => ?_) (fun cdv A outer s H vs Q E hr h => ?_)
  · obtain ⟨a, b, rfl, hl, k⟩ := h
    rfl
  · obtain ⟨a, b, rfl, hl, k⟩ := h
    refine ⟨_, (pss_one (ps_ret (pe_and (pe_cmpR op_gt (pe_callB call_len_str (by rfl) T.len PySem.boot_len (pa_cons (pv 0) pa_nil)) pe_int (nomark _)) (pe_one (pe_cmpR op_eq (pe_call GRowEnd hr (by rfl) gRowEnd kpRowEnd bRowEnd .nil pass0 (pa_cons (pv 0) (pa_cons pe_int (pa_cons (pv 1) pa_nil)))) (pe_callB call_len_str (by rfl) T.len PySem.boot_len (pa_cons (pv 0) pa_nil)) (nomark _)))))), ?_⟩
    have hz := S_sl hl
    unfold isRow at k
    walk_at "go"
    rw [lenS]
    by_cases h0 : 0 < a.length
    · rw [decide_eq_true h0, Bool.true_and] at k
      refine iteT' (decide_eq_true (by omega)) ?_
      walk_at "go"
      refine ⟨a, b, 0, rfl, hl, Nat.zero_le _, ?_⟩
      walk_at "go"
      rw [lenS, show decide (V.int ((0 + dg b a 0 : Nat) : Int) = V.int (a.length : Int)) = allIn b a from by
        rw [Nat.zero_add]
        by_cases h : allIn b a = true
        · rw [h, dg_all.mpr h]
          exact decide_eq_true rfl
        · rw [Bool.not_eq_true] at h
          rw [h]
          refine decide_eq_false fun z => ?_
          have z2 := V.int.inj z
          have := dg_all.mp (show dg b a 0 = a.length by omega)
          rw [h] at this
          cases this]
      exact k
    · rw [decide_eq_false h0, Bool.false_and] at k
      refine iteF' (decide_eq_false (by omega)) ?_
      exact k
def spIsShortWord (K : PySem.W.Frag) : Sp := fun vs H Q _ => ∃ a f b : List Nat, vs = [.str (S a), .str (S f), .str (S b)] ∧ a.length ≤ 3000 ∧ Q (.bl (shortW f b a)) H
theorem okIsShortWord {fIsShortWord : Addr} {fdIsShortWord : FuncData} (F : Fun K "is_short_word" "is_short_word" sIsShortWord fIsShortWord fdIsShortWord) (T : Txt mg) {aDIGITS : Tok} {aSMALL_LETTERS : Tok} {aLETTERS_AND_DIGITS : Tok} {aNAME_LENGTH : Tok} {aMOST_OCCURRENCES : Tok} {aNUMBER_DIGITS : Tok} (CT : Cons K mg aDIGITS aSMALL_LETTERS aLETTERS_AND_DIGITS aNAME_LENGTH aMOST_OCCURRENCES aNUMBER_DIGITS) {CPartError CTextFault : Addr} (EX : Exns K mg CPartError CTextFault) {fIni : Addr} {fdIni : FuncData} (FL : Flt K mg CPartError CTextFault fIni) (GIni : FnOk P w K mg base CX0 1 fIni fdIni ["self", "line", "column"] (spFIni K CTextFault)) (bIni : Binds K fdIni ["self", "line", "column"] [])
    {fIsRow : Addr} {fdIsRow : FuncData} (GIsRow : FnOk P w K mg base CX0 2 fIsRow fdIsRow ["text", "allowed"] (spIsRow K)) (gIsRow : mg "is_row" = some (.ref fIsRow)) (kpIsRow : PySem.W.keepIn K (.ref fIsRow) = true) (bIsRow : Binds K fdIsRow ["text", "allowed"] []) :
    FnOk P w K mg base CX0 3 fIsShortWord fdIsShortWord ["text", "first", "others"] (spIsShortWord K) := by
  refine F.ok scIsShortWord (fun vs H Q E h => ?_) (fun cdv A outer s H vs Q E hr h => ?_)
  · obtain ⟨a, f, b, rfl, hl, k⟩ := h
    rfl
  · obtain ⟨a, f, b, rfl, hl, k⟩ := h
    refine ⟨_, (pss_one (ps_ret (pe_and (pe_call GIsRow hr (by rfl) gIsRow kpIsRow bIsRow .nil pass0 (pa_cons (pv 0) (pa_cons (pv 2) pa_nil))) (pe_and (pe_cmpR op_le (pe_callB call_len_str (by rfl) T.len PySem.boot_len (pa_cons (pv 0) pa_nil)) (pe_glob (v := .int 16) (by rfl) CT.gNAME_LENGTH ⟨_, rfl⟩) (nomark _)) (pe_one (pe_cmpR op_in_sign (pe_ix ix_str (pv 0) pe_int (fun _ _ => rfl)) (pv 1) (by rfl))))))), ?_⟩
    have hz := S_sl hl
    unfold shortW at k
    walk_at "go"
    cases hr1 : isRow b a with
    | false =>
      rw [hr1, Bool.false_and] at k
      exact k
    | true =>
      rw [hr1, Bool.true_and] at k
      walk_at "go"
      rw [lenS]
      by_cases h16 : a.length ≤ 16
      · rw [decide_eq_true h16, Bool.true_and] at k
        refine iteT' (decide_eq_true (by omega)) ?_
        obtain ⟨c, r, rfl⟩ := isRow_ne hr1
        walk_at "go"
        refine ⟨S (c :: r), 0, c, rfl, rfl, hz, atI_nat (j := 0) rfl, ?_⟩
        walk_at "go"
        exact k
      · rw [decide_eq_false h16, Bool.false_and] at k
        exact iteF' (decide_eq_false (by omega)) k
def spIsPlainNumber (K : PySem.W.Frag) : Sp := fun vs H Q _ => ∃ (a : List Nat) (m : Nat), vs = [.str (S a), .int m] ∧ a.length ≤ 3000 ∧ Q (.bl (plainN m a)) H
theorem okIsPlainNumber {fIsPlainNumber : Addr} {fdIsPlainNumber : FuncData} (F : Fun K "is_plain_number" "is_plain_number" sIsPlainNumber fIsPlainNumber fdIsPlainNumber) (T : Txt mg) {aDIGITS : Tok} {aSMALL_LETTERS : Tok} {aLETTERS_AND_DIGITS : Tok} {aNAME_LENGTH : Tok} {aMOST_OCCURRENCES : Tok} {aNUMBER_DIGITS : Tok} (CT : Cons K mg aDIGITS aSMALL_LETTERS aLETTERS_AND_DIGITS aNAME_LENGTH aMOST_OCCURRENCES aNUMBER_DIGITS) {CPartError CTextFault : Addr} (EX : Exns K mg CPartError CTextFault) {fIni : Addr} {fdIni : FuncData} (FL : Flt K mg CPartError CTextFault fIni) (GIni : FnOk P w K mg base CX0 1 fIni fdIni ["self", "line", "column"] (spFIni K CTextFault)) (bIni : Binds K fdIni ["self", "line", "column"] [])
    {fIsRow : Addr} {fdIsRow : FuncData} (GIsRow : FnOk P w K mg base CX0 2 fIsRow fdIsRow ["text", "allowed"] (spIsRow K)) (gIsRow : mg "is_row" = some (.ref fIsRow)) (kpIsRow : PySem.W.keepIn K (.ref fIsRow) = true) (bIsRow : Binds K fdIsRow ["text", "allowed"] []) :
    FnOk P w K mg base CX0 3 fIsPlainNumber fdIsPlainNumber ["text", "most"] (spIsPlainNumber K) := by
  refine F.ok scIsPlainNumber (fun vs H Q E h => ?_) (fun cdv A outer s H vs Q E hr h => ?_)
  · obtain ⟨a, m, rfl, hl, k⟩ := h
    rfl
  · obtain ⟨a, m, rfl, hl, k⟩ := h
    refine ⟨_, (pss_one (ps_ret (pe_and (pe_call GIsRow hr (by rfl) gIsRow kpIsRow bIsRow .nil pass0 (pa_cons (pv 0) (pa_cons (pe_glob (v := .str "0123456789") (by rfl) CT.gDIGITS ⟨_, rfl⟩) pa_nil))) (pe_and (pe_cmpR op_le (pe_callB call_len_str (by rfl) T.len PySem.boot_len (pa_cons (pv 0) pa_nil)) (pv 1) (nomark _)) (pe_one (pe_or (pe_cmpR op_eq (pv 0) pe_str (nomark _)) (pe_one (pe_cmpR op_ne (pe_ix ix_str (pv 0) pe_int (fun _ _ => rfl)) pe_str (nomark _))))))))), ?_⟩
    have hz := S_sl hl
    unfold plainN at k
    rw [show (Str.ofString "0123456789") = S D10 from D10_S]
    walk_at "go"
    cases hr1 : isRow D10 a with
    | false =>
      rw [hr1, Bool.false_and] at k
      exact k
    | true =>
      rw [hr1, Bool.true_and] at k
      walk_at "go"
      rw [lenS]
      by_cases h16 : a.length ≤ m
      · rw [decide_eq_true h16, Bool.true_and] at k
        refine iteT' (decide_eq_true (by omega)) ?_
        walk_at "go"
        rw [show (V.str (Str.ofString "0")) = V.str (S [48]) from congrArg V.str zero_S]
        by_cases h0 : a = [48]
        · rw [decide_eq_true h0, Bool.true_or] at k
          exact iteT' (decide_eq_true (by rw [h0])) k
        · rw [decide_eq_false h0, Bool.false_or] at k
          refine iteF' (decide_eq_false fun z => h0 (SX.S_inj (V.str.inj z))) ?_
          obtain ⟨c, r, rfl⟩ := isRow_ne hr1
          walk_at "go"
          refine ⟨S (c :: r), 0, c, rfl, rfl, hz, atI_nat (j := 0) rfl, ?_⟩
          walk_at "go"
          rw [show (!decide (V.str ⟨#[c]⟩ = V.str (S [48]))) = decide (c ≠ 48) from by
            by_cases e : c = 48
            · subst e
              rw [decide_eq_true (show V.str ⟨#[48]⟩ = V.str (S [48]) from rfl)]
              rfl
            · rw [decide_eq_true e, decide_eq_false fun z => e (by
                have z2 : S [c] = S [48] := V.str.inj z
                injection SX.S_inj z2)]
              rfl]
          exact k
      · rw [decide_eq_false h16, Bool.false_and] at k
        exact iteF' (decide_eq_false (by omega)) k
def spIsSideName (K : PySem.W.Frag) : Sp := fun vs H Q _ => ∃ a : List Nat, vs = [.str (S a)] ∧ a.length ≤ 3000 ∧ Q (.bl (shortW SLl LDl a)) H
theorem okIsSideName {fIsSideName : Addr} {fdIsSideName : FuncData} (F : Fun K "is_side_name" "is_side_name" sIsSideName fIsSideName fdIsSideName) (T : Txt mg) {aDIGITS : Tok} {aSMALL_LETTERS : Tok} {aLETTERS_AND_DIGITS : Tok} {aNAME_LENGTH : Tok} {aMOST_OCCURRENCES : Tok} {aNUMBER_DIGITS : Tok} (CT : Cons K mg aDIGITS aSMALL_LETTERS aLETTERS_AND_DIGITS aNAME_LENGTH aMOST_OCCURRENCES aNUMBER_DIGITS) {CPartError CTextFault : Addr} (EX : Exns K mg CPartError CTextFault) {fIni : Addr} {fdIni : FuncData} (FL : Flt K mg CPartError CTextFault fIni) (GIni : FnOk P w K mg base CX0 1 fIni fdIni ["self", "line", "column"] (spFIni K CTextFault)) (bIni : Binds K fdIni ["self", "line", "column"] [])
    {fIsShortWord : Addr} {fdIsShortWord : FuncData} (GIsShortWord : FnOk P w K mg base CX0 3 fIsShortWord fdIsShortWord ["text", "first", "others"] (spIsShortWord K)) (gIsShortWord : mg "is_short_word" = some (.ref fIsShortWord)) (kpIsShortWord : PySem.W.keepIn K (.ref fIsShortWord) = true) (bIsShortWord : Binds K fdIsShortWord ["text", "first", "others"] []) :
    FnOk P w K mg base CX0 4 fIsSideName fdIsSideName ["text"] (spIsSideName K) := by
  refine F.ok scIsSideName (fun vs H Q E h => ?_) (fun cdv A outer s H vs Q E hr h => ?_)
  · obtain ⟨a, rfl, hl, k⟩ := h
    rfl
  · obtain ⟨a, rfl, hl, k⟩ := h
    refine ⟨_, (pss_one (ps_ret (pe_call GIsShortWord hr (by rfl) gIsShortWord kpIsShortWord bIsShortWord .nil pass0 (pa_cons (pv 0) (pa_cons (pe_glob (v := .str "abcdefghijklmnopqrstuvwxyz") (by rfl) CT.gSMALL_LETTERS ⟨_, rfl⟩) (pa_cons (pe_glob (v := .str "abcdefghijklmnopqrstuvwxyzABCDEFGHIJKLMNOPQRSTUVWXYZ0123456789") (by rfl) CT.gLETTERS_AND_DIGITS ⟨_, rfl⟩) pa_nil)))))), ?_⟩
    rw [show (Str.ofString "abcdefghijklmnopqrstuvwxyz") = S SLl from SL_S, show (Str.ofString "abcdefghijklmnopqrstuvwxyzABCDEFGHIJKLMNOPQRSTUVWXYZ0123456789") = S LDl from LD_S]
    walk_at "go"
    exact ⟨a, SLl, LDl, rfl, hl, k⟩
def spReadOrigin (K : PySem.W.Frag) (CTextFault : Addr) : Sp := fun vs H Q E => ∃ a : List Nat, vs = [.str (S a)] ∧ a.length ≤ 2900 ∧ (rdo a = none → fE CTextFault E H 1 1) ∧ (∀ n ks nm, rdo a = some (n, ks, nm) → ∀ (H' : Hp) (t : Addr), Same H H' → Ot K H' t n ks nm → Q (.ref t) H')
theorem okReadOrigin {fReadOrigin : Addr} {fdReadOrigin : FuncData} (F : Fun K "read_origin" "read_origin" sReadOrigin fReadOrigin fdReadOrigin) (T : Txt mg) {aDIGITS : Tok} {aSMALL_LETTERS : Tok} {aLETTERS_AND_DIGITS : Tok} {aNAME_LENGTH : Tok} {aMOST_OCCURRENCES : Tok} {aNUMBER_DIGITS : Tok} (CT : Cons K mg aDIGITS aSMALL_LETTERS aLETTERS_AND_DIGITS aNAME_LENGTH aMOST_OCCURRENCES aNUMBER_DIGITS) {CPartError CTextFault : Addr} (EX : Exns K mg CPartError CTextFault) {fIni : Addr} {fdIni : FuncData} (FL : Flt K mg CPartError CTextFault fIni) (GIni : FnOk P w K mg base CX0 1 fIni fdIni ["self", "line", "column"] (spFIni K CTextFault)) (bIni : Binds K fdIni ["self", "line", "column"] [])
    {fIsSideName : Addr} {fdIsSideName : FuncData} (GIsSideName : FnOk P w K mg base CX0 4 fIsSideName fdIsSideName ["text"] (spIsSideName K)) (gIsSideName : mg "is_side_name" = some (.ref fIsSideName)) (kpIsSideName : PySem.W.keepIn K (.ref fIsSideName) = true) (bIsSideName : Binds K fdIsSideName ["text"] [])
    {fIsPlainNumber : Addr} {fdIsPlainNumber : FuncData} (GIsPlainNumber : FnOk P w K mg base CX0 3 fIsPlainNumber fdIsPlainNumber ["text", "most"] (spIsPlainNumber K)) (gIsPlainNumber : mg "is_plain_number" = some (.ref fIsPlainNumber)) (kpIsPlainNumber : PySem.W.keepIn K (.ref fIsPlainNumber) = true) (bIsPlainNumber : Binds K fdIsPlainNumber ["text", "most"] []) :
    FnOk P w K mg base (L2.CX P w) 5 fReadOrigin fdReadOrigin ["text"] (spReadOrigin K CTextFault) := by
  refine F.okX scReadOrigin (fun vs H Q E h => ?_) (fun cdv A outer s H vs Q E hr h => ?_)
  · obtain ⟨a, rfl, hl, he, k⟩ := h
    rfl
  · obtain ⟨a, rfl, hl, he, k⟩ := h
    refine ⟨_, (pss_cons (ps_asg (pe_split (pv 0) pe_str) (pg_star (n := 2) (i := 0) rfl (pgs_star (pg_name (i := 1) scReadOrigin.nd rfl (Or.inl rfl)) (pgs_cons (pg_name (i := 2) scReadOrigin.nd rfl (Or.inl rfl)) pgs_nil))))
      (pss_cons (ps_if (PW.pt (pw_or (pt_not (pt_val (pe_call GIsSideName hr (by rfl) gIsSideName kpIsSideName bIsSideName .nil pass0 (pa_cons (pv 2) pa_nil)))) (pw_or1 (pt_not (pt_chain op_le op_le pe_int (pe_callB call_len_seq (by rfl) T.len PySem.boot_len (pa_cons (pv 1) pa_nil)) (pe_op op_add (pe_glob (v := .int 12) (by rfl) CT.gMOST_OCCURRENCES ⟨_, rfl⟩) pe_int))))))
        (pss_one (ps_raise rfl (takes_of rfl rfl rfl rfl) (pmk_oex FL.ox FL.iC FL.tI GIni (hr.mono (by decide)) bIni .nil pass0 (by rfl) FL.g (pa_cons pe_int (pa_cons pe_int pa_nil)))))
        pss_nil)
      (pss_cons (ps_if (PW.pt (pw_or (pt_not (pt_val (pe_callB (cr_all rfl) (by rfl) T.all (by decide +kernel) (pa_cons (pe_lc (own := [("number", 5)]) (by rfl) scReadOrigin.nd (pi_list (pv 1)) (blkOk_by (own := [("number", 5)]) (N := ["text", "numbers", "name", "feature", "occurrences", "number"]) (sc := defScope sReadOrigin) (by decide +kernel)) (fun _ _ _ _ _ => (pg_name (i := 5) scReadOrigin.nd rfl (Or.inl rfl))) (fun _ _ _ _ _ => pts_nil) (fun _ _ _ _ _ => (pe_call GIsPlainNumber (hr.mono (by decide)) (by rfl) gIsPlainNumber kpIsPlainNumber bIsPlainNumber .nil pass0 (pa_cons (pv 5) (pa_cons (pe_glob (v := .int 6) (by rfl) CT.gNUMBER_DIGITS ⟨_, rfl⟩) pa_nil))))) pa_nil)))) (pw_or1 (pt_cmpR op_in_seq pe_str (pe_slice sl_list (pv 1) (po_some pe_int) po_none) (by rfl)))))
        (pss_one (ps_raise rfl (takes_of rfl rfl rfl rfl) (pmk_oex FL.ox FL.iC FL.tI GIni (hr.mono (by decide)) bIni .nil pass0 (by rfl) FL.g (pa_cons pe_int (pa_cons pe_int pa_nil)))))
        pss_nil)
      (pss_cons (ps_asg (pe_lc (own := [("number", 5)]) (by rfl) scReadOrigin.nd (pi_list (pv 1)) (blkOk_by (own := [("number", 5)]) (N := ["text", "numbers", "name", "feature", "occurrences", "number"]) (sc := defScope sReadOrigin) (by decide +kernel)) (fun _ _ _ _ _ => (pg_name (i := 5) scReadOrigin.nd rfl (Or.inl rfl))) (fun _ _ _ _ _ => pts_nil) (fun _ _ _ _ _ => (pe_callTy call_int_str (by rfl) T.int (by decide +kernel) (pa_cons (pv 5) pa_nil)))) (pg_star (n := 2) (i := 1) rfl (pgs_cons (pg_name (i := 3) scReadOrigin.nd rfl (Or.inl rfl)) (pgs_star (pg_name (i := 4) scReadOrigin.nd rfl (Or.inl rfl)) pgs_nil))))
      (pss_one (ps_ret (pe_tup (pa_cons (pv 3) (pa_cons (pe_callTy call_tuple_of (by rfl) T.tuple (by decide +kernel) (pa_cons (pv 4) pa_nil)) (pa_cons (pv 2) pa_nil)))))))))), ?_⟩
    have hz := S_sl (a := a) (by omega)
    rw [show (Str.ofString ".") = S [46] from dot_S]
    obtain ⟨init, nm, e⟩ := snoc_of (sp_ne a)
    obtain ⟨q1, q2⟩ := sp_len a
    rw [rdo_eq e] at he k
    rw [e] at q1 q2
    have hnm : nm.length ≤ 3000 := by
      have := q1 nm (by simp)
      omega
    have hin : ∀ p ∈ init, p.length ≤ 3000 := fun p hp => by
      have := q1 p (by simp [hp])
      omega
    rw [List.length_append, show [nm].length = 1 from rfl] at q2
    refine ⟨_, rfl, ⟨_, rfl⟩, S a, S [46], rfl, rfl, rfl, (by rw [SX.S_len, PySem.sizeLine_eq]; omega), fun p np => ?_⟩
    rw [split_sp, e, List.map_append, List.map_append, List.map_map]
    have s1 := same_upd (o := .lst (init.map sv ++ [sv nm])) np
    have e1 : (upd H p (.lst (init.map sv ++ [sv nm]))) p = some (.lst (init.map sv ++ [sv nm])) := upd_same
    show gStar _ _ _ _ _ _ (upd H p (.lst (init.map sv ++ [sv nm]))) _
    generalize (upd H p (.lst (init.map sv ++ [sv nm]))) = H1 at s1 e1
    refine ⟨p, _, rfl, SqL.of e1, (by rw [List.length_append, List.length_map]; show 2 ≤ _ + 1 + 1; omega), (by rw [List.length_append, List.length_map]; show _ + 1 ≤ _; omega), fun D nD => ?_⟩
    have s2 := same_upd (o := .lst (init.map sv)) nD
    rw [star_mid, star_all]
    generalize hU2 : upd H1 D _ = H2 at s2
    have e2 : H2 D = some (.lst (init.map sv)) := at_hu hU2
    clear hU2
    have s12 := s1.trans s2
    have bad : okO init nm = none → fE CTextFault E H2 1 1 := fun h => (he h).same s12
    walk_at "go"
    cases h1 : shortW SLl LDl nm with
    | false =>
      have hno : okO init nm = none := by
        unfold okO
        cases init with
        | nil => rfl
        | cons n ks => simp [h1]
      refine iteT' rfl ?_
      exact fault_mk fun d H' s _ e => bad hno d H' s e
    | true =>
      walk_at "go"
      refine ⟨D, _, rfl, .inl (SqL.of e2), ?_⟩
      rw [List.length_map]
      have hbad : ¬ (1 ≤ init.length ∧ init.length ≤ 13) → okO init nm = none := fun h => by
        unfold okO
        cases init with
        | nil => rfl
        | cons n ks =>
          have : ¬ ks.length ≤ 12 := fun z => h ⟨by rw [List.length_cons]; omega, by rw [List.length_cons]; omega⟩
          simp [this]
      walk_at "go"
      by_cases g1 : 1 ≤ init.length
      · refine iteT' (decide_eq_true (by omega)) ?_
        walk_at "go"
        by_cases g2 : init.length ≤ 13
        · rw [decide_eq_true (show (init.length : Int) ≤ 12 + 1 by omega)]
          walk_at "go"
          have hl2 : init.length ≤ 1000 := by omega
          refine ⟨⟨_, SqL.of e2⟩, fun D3 nD3 => ?_⟩
          refine lc_val (walk_list (K := K) (a := D) (xs := init.map sv)) ((init.map (plainN 6)).map V.bl) (by simp) (by simp; omega) nD3 (fun H4 s4 => s4.seq (SqL.of e2)) ?_ ?_
          · rintro i c v' H4 H5 kk hc s4 ⟨rfl, hg⟩ kk2
            rw [List.getElem?_map] at hg
            cases ei : init[i]? with
            | none =>
              rw [ei] at hg
              cases hg
            | some l =>
              rw [ei] at hg
              obtain rfl : sv l = v' := Option.some.inj hg
              rw [List.getElem?_map, List.getElem?_map, ei] at hc
              obtain rfl : V.bl (plainN 6 l) = c := Option.some.inj hc
              walk_at "go"
              exact ⟨hin l (List.mem_of_getElem? ei), kk2 _ (Same.refl _)⟩
          intro H3 s3 e3
          obtain ⟨n, ks, rfl⟩ : ∃ n ks, init = n :: ks := by
            cases init with
            | nil => exact absurd g1 (by decide)
            | cons n ks => exact ⟨n, ks, rfl⟩
          refine ⟨D3, (n :: ks).map (plainN 6), rfl, SqL.of e3, ?_⟩
          rw [all_id]
          have e32 := s3 _ _ e2
          have hks : ks.length ≤ 12 := by
            rw [List.length_cons] at g2
            omega
          cases h3 : (n :: ks).all (plainN 6) with
          | false =>
            walk_at "go"
            exact fault_mk fun d H' s _ e => bad (okO_bad3 h3) d H' (s3.trans s) e
          | true =>
            walk_at "go"
            refine ⟨D, _, rfl, SqL.of e32, fun p4 n4 => ?_⟩
            have ec : cutV ((n :: ks).map sv) (some 1) none = ks.map sv := cut_tail
            rw [ec]
            generalize hU4 : upd H3 p4 _ = H4
            have s4 := same_hu hU4 n4
            have e4 : H4 p4 = some (.lst (ks.map sv)) := at_hu hU4
            clear hU4
            rw [show (Str.ofString "0") = S [48] from zero_S]
            refine ⟨p4, _, rfl, .inl (SqL.of e4), rfl, flat_sv ks, ?_⟩
            rw [if_neg Bool.false_ne_true, inV_zero]
            by_cases h4 : [48] ∈ ks
            · rw [decide_eq_true h4]
              walk_at "go"
              exact fault_mk fun d H' s _ e => bad (okO_bad4 h4) d H' (s3.trans (s4.trans s)) e
            · rw [decide_eq_false h4]
              walk_at "go"
              have e42 := s4 _ _ e32
              have hk := okO_ok (nm := nm) (n := n) h1 hks h3 h4
              refine ⟨⟨_, SqL.of e42⟩, fun D5 nD5 => ?_⟩
              refine lc_val (walk_list (K := K) (a := D) (xs := (n :: ks).map sv)) ((n :: ks).map fun l => V.int (NumText.digitsVal l : Nat)) (by simp) (by rw [List.length_map, List.length_cons]; omega) nD5 (fun H4 s4 => s4.seq (SqL.of e42)) ?_ ?_
              · rintro i c v' H5 H6 kk hc s5 ⟨rfl, hg⟩ kk2
                rw [List.getElem?_map] at hg
                cases ei : (n :: ks)[i]? with
                | none =>
                  rw [ei] at hg
                  cases hg
                | some l =>
                  rw [ei] at hg
                  obtain rfl : sv l = v' := Option.some.inj hg
                  rw [List.getElem?_map, ei] at hc
                  obtain rfl : V.int (NumText.digitsVal l : Nat) = c := Option.some.inj hc
                  obtain ⟨p1, p2⟩ := plainN_int (by decide) (List.all_eq_true.mp h3 l (List.mem_of_getElem? ei))
                  exact ⟨rfl, _, rfl, S l, _, rfl, p1, p2, kk2 _ (Same.refl _)⟩
              intro H5 s5 e5
              rw [List.map_cons] at e5
              refine ⟨D5, _, rfl, SqL.of e5, by rw [List.length_cons, List.length_map]; omega, by rw [List.length_cons, List.length_map]; omega, fun D6 nD6 => ?_⟩
              rw [st_mid, st_take]
              generalize hU6 : upd H5 D6 _ = H6
              have s6 := same_hu hU6 nD6
              have e6 : H6 D6 = some (.lst (ks.map fun l => V.int (NumText.digitsVal l : Nat))) := at_hu hU6
              clear hU6
              walk_at "go"
              refine ⟨D6, _, rfl, .inl ⟨SqL.of e6, fun t7 n7 => ?_⟩⟩
              generalize hU7 : upd H6 t7 _ = H7
              have s7 := same_hu hU7 n7
              have e7 : H7 t7 = some (.tup (ks.map fun l => V.int (NumText.digitsVal l : Nat))) := at_hu hU7
              clear hU7
              walk_at "go"
              refine ⟨tn rfl, fun t8 nt8 => ?_⟩
              generalize hUt8 : upd _ _ (HO.tup _) = H8
              have s8 := same_hu hUt8 nt8
              have eh8 := at_hu hUt8
              have h8 := SqT.of (K := K) eh8
              clear hUt8
              refine k _ _ _ hk H8 t8 (s12.trans (s3.trans (s4.trans (s5.trans (s6.trans (s7.trans s8)))))) ⟨t7, h8, ?_⟩
              rw [List.map_map]
              exact same_tup s8 (SqT.of e7)
        · rw [decide_eq_false (show ¬ (init.length : Int) ≤ 12 + 1 by omega)]
          walk_at "go"
          refine iteT' rfl ?_
          exact fault_mk fun d H' s _ e => bad (hbad (fun h => g2 h.2)) d H' s e
      · refine iteF' (decide_eq_false (by omega)) ?_
        walk_at "go"
        refine iteT' rfl ?_
        exact fault_mk fun d H' s _ e => bad (hbad (fun h => g1 h.1)) d H' s e
def spOriginText (K : PySem.W.Frag) : Sp := fun vs H Q _ => ∃ (t : Addr) (n : Nat) (ks nm : List Nat), vs = [.ref t] ∧ Ot K H t n ks nm ∧ n < 10 ^ 6 ∧ (∀ k ∈ ks, k < 10 ^ 6) ∧ ks.length ≤ 12 ∧ nm.length ≤ 16 ∧ ∀ H' : Hp, Same H H' → Q (.str (S (otl n ks nm))) H'
theorem okOriginText {fOriginText : Addr} {fdOriginText : FuncData} (F : Fun K "origin_text" "origin_text" sOriginText fOriginText fdOriginText) (T : Txt mg) {aDIGITS : Tok} {aSMALL_LETTERS : Tok} {aLETTERS_AND_DIGITS : Tok} {aNAME_LENGTH : Tok} {aMOST_OCCURRENCES : Tok} {aNUMBER_DIGITS : Tok} (CT : Cons K mg aDIGITS aSMALL_LETTERS aLETTERS_AND_DIGITS aNAME_LENGTH aMOST_OCCURRENCES aNUMBER_DIGITS) {CPartError CTextFault : Addr} (EX : Exns K mg CPartError CTextFault) {fIni : Addr} {fdIni : FuncData} (FL : Flt K mg CPartError CTextFault fIni) (GIni : FnOk P w K mg base CX0 1 fIni fdIni ["self", "line", "column"] (spFIni K CTextFault)) (bIni : Binds K fdIni ["self", "line", "column"] []) :
    FnOk P w K mg base CX0 1 fOriginText fdOriginText ["origin"] (spOriginText K) := by
  refine F.ok scOriginText (fun vs H Q E h => ?_) (fun cdv A outer s H vs Q E hr h => ?_)
  · obtain ⟨t, n, ks, nm, rfl, ⟨q, hT, hQ⟩, hn, hks, hl, hnm, k⟩ := h
    rfl
  · obtain ⟨t, n, ks, nm, rfl, ⟨q, hT, hQ⟩, hn, hks, hl, hnm, k⟩ := h
    refine ⟨_, (pss_cons (ps_asg (pv 0) (pg_tup rfl (pgs_cons (pg_name (i := 1) scOriginText.nd rfl (Or.inl rfl)) (pgs_cons (pg_name (i := 2) scOriginText.nd rfl (Or.inl rfl)) (pgs_cons (pg_name (i := 3) scOriginText.nd rfl (Or.inl rfl)) pgs_nil)))))
      (pss_one (ps_ret (pe_bm PySem.F.plainAttrs_str PySem.F.slot_str_join PySem.F.type_str_join mt_join pe_str (pa_cons (pe_op op_cat (pe_lc (own := [("number", 4)]) (by rfl) scOriginText.nd (pi_tup (pe_tup (pa_cons (pv 1) (StX.pa_star (pv 2) pa_nil)))) (blkOk_by (own := [("number", 4)]) (N := ["origin", "feature", "occurrences", "name", "number"]) (sc := defScope sOriginText) (by decide +kernel)) (fun _ _ _ _ _ => (pg_name (i := 4) scOriginText.nd rfl (Or.inl rfl))) (fun _ _ _ _ _ => pts_nil) (fun _ _ _ _ _ => (pe_callTy call_str_int (by rfl) T.str (by decide +kernel) (pa_cons (pv 4) pa_nil)))) (pe_lst (pa_cons (pv 3) pa_nil))) pa_nil))))), ?_⟩
    rw [show (Str.ofString ".") = S [46] from dot_S]
    have hall : ∀ z ∈ n :: ks, z < 10 ^ 6 := fun z hz => by
      rcases List.mem_cons.mp hz with rfl | h
      · exact hn
      · exact hks z h
    walk_at "go"
    refine ⟨q, _, rfl, .inl hQ, ?_⟩
    walk_at "go"
    refine ⟨Nat.le_trans (show (V.int (n : Int) :: ((ks.map fun k => V.int (k : Nat)) ++ [])).length ≤ 1000 by simp; omega) (by decide), fun t1 n1 => ?_⟩
    have s1 := same_upd (o := .tup ((n :: ks).map fun k => V.int (k : Nat))) n1
    have h1 : SqT K (upd H t1 (.tup ((n :: ks).map fun k => V.int (k : Nat)))) t1 ((n :: ks).map fun k => V.int (k : Nat)) := SqT.of upd_same
    rw [show V.int (n : Int) :: ((ks.map fun k => V.int (k : Nat)) ++ []) = (n :: ks).map (fun k => V.int (k : Nat)) from by rw [List.append_nil]; rfl]
    generalize upd H t1 (.tup ((n :: ks).map fun k => V.int (k : Nat))) = H1 at s1 h1
    walk_at "go"
    refine ⟨⟨_, h1⟩, fun D nD => ?_⟩
    refine lc_val (walk_tup (K := K) (a := t1) (xs := (n :: ks).map fun k => V.int (k : Nat))) ((n :: ks).map fun z => sv (TL.numL z)) (by simp) (by simp; omega) nD (fun H2 s2 => same_tup s2 h1) ?_ ?_
    · rintro i c v' H2 H3 kk hc s2 ⟨rfl, hg⟩ kk2
      rw [List.getElem?_map] at hg hc
      cases ei : (n :: ks)[i]? with
      | none =>
        rw [ei] at hg
        cases hg
      | some z =>
        rw [ei] at hg hc
        obtain rfl : V.int (z : Nat) = v' := Option.some.inj hg
        obtain rfl : sv (TL.numL z) = c := Option.some.inj hc
        have hz := hall z (List.mem_of_getElem? ei)
        have e0 : V.str (Str.ofString (toString ((z : Nat) : Int))) = sv (TL.numL z) := congrArg V.str (SX.num_S z)
        refine ⟨rfl, _, rfl, _, rfl, ?_, ?_⟩
        · rw [Int.natAbs_natCast]
          exact Nat.lt_of_lt_of_le (PySem.Flt.log2_lt_of (k := 20) (by decide) (Nat.lt_of_lt_of_le hz (by decide))) (by decide)
        · rw [e0]
          exact kk2 _ (Same.refl _)
    intro H2 s2 e2
    walk_at "go"
    refine ⟨tn rfl, fun t3 nt3 => ?_⟩
    generalize hUt3 : upd _ _ (HO.lst _) = H3
    have s3 := same_hu hUt3 nt3
    have eh3 := at_hu hUt3
    have h3 := SqL.of (K := K) eh3
    clear hUt3
    have ek : ((n :: ks).map fun z => sv (TL.numL z)) ++ [V.str (S nm)] = (((n :: ks).map TL.numL ++ [nm]).map S).map V.str := by
      rw [List.map_append, List.map_append, List.map_map, List.map_map]
      rfl
    have hlen : ((n :: ks).map TL.numL ++ [nm]).length ≤ 14 := by
      rw [List.length_append, List.length_map, List.length_cons]
      show _ + 1 + 1 ≤ _
      omega
    have hsm : ∀ p ∈ ((n :: ks).map TL.numL ++ [nm]), p.length ≤ 16 := fun p hp => by
      rcases List.mem_append.mp hp with h | h
      · obtain ⟨z, hz, rfl⟩ := List.mem_map.mp h
        have := TL.numL_len (k := 6) (by decide) (hall z hz)
        omega
      · rw [List.mem_singleton.mp h]
        exact hnm
    refine ⟨D, t3, _, _, rfl, rfl, s3 _ _ e2, eh3, by rw [PySem.sizeLine_eq, List.length_map, List.length_cons]; show _ + 1 + 1 ≤ _; omega, fun p4 n4 => ?_⟩
    rw [ek]
    generalize hU4 : upd H3 p4 _ = H4
    have s4 := same_hu hU4 n4
    have e4 : H4 p4 = some (.lst ((((n :: ks).map TL.numL ++ [nm]).map S).map V.str)) := at_hu hU4
    clear hU4
    have hs := sum_lens (m := 16) _ hsm
    refine ⟨S [46], p4, ((n :: ks).map TL.numL ++ [nm]).map S, rfl, rfl, .inl (SqL.of e4), ?_, ?_⟩
    · rw [List.length_map, SX.S_len]
      show _ + _ * 1 ≤ _
      omega
    · rw [SX.join_S]
      exact k H4 (s1.trans (s2.trans (s3.trans s4)))
def spLLawNumber (K : PySem.W.Frag) : Sp := fun vs H Q _ => ∃ (a : Addr) (ns : List Int) (k : Nat), vs = [.ref a, .int k] ∧ SqL K H a (zs ns) ∧ ∀ c : Int, Q (.int c) H
theorem okLLawNumber {fLLawNumber : Addr} {fdLLawNumber : FuncData} (F : Fun K "_law_number" "_law_number" sLLawNumber fLLawNumber fdLLawNumber) (T : Txt mg) {aDIGITS : Tok} {aSMALL_LETTERS : Tok} {aLETTERS_AND_DIGITS : Tok} {aNAME_LENGTH : Tok} {aMOST_OCCURRENCES : Tok} {aNUMBER_DIGITS : Tok} (CT : Cons K mg aDIGITS aSMALL_LETTERS aLETTERS_AND_DIGITS aNAME_LENGTH aMOST_OCCURRENCES aNUMBER_DIGITS) {CPartError CTextFault : Addr} (EX : Exns K mg CPartError CTextFault) {fIni : Addr} {fdIni : FuncData} (FL : Flt K mg CPartError CTextFault fIni) (GIni : FnOk P w K mg base CX0 1 fIni fdIni ["self", "line", "column"] (spFIni K CTextFault)) (bIni : Binds K fdIni ["self", "line", "column"] []) :
    FnOk P w K mg base CX0 1 fLLawNumber fdLLawNumber ["script", "k"] (spLLawNumber K) := by
  refine F.ok scLLawNumber (fun vs H Q E h => ?_) (fun cdv A outer s H vs Q E hr h => ?_)
  · obtain ⟨a, ns, k, rfl, hS, q⟩ := h
    rfl
  · obtain ⟨a, ns, k, rfl, hS, q⟩ := h
    refine ⟨_, (C8.pss_cut (ps_set (i := 2) scLLawNumber.nd rfl (Or.inl rfl) (pe_ifExp (pt_cmpR op_lt (pv 1) (pe_callB call_len_seq (by rfl) T.len PySem.boot_len (pa_cons (pv 0) pa_nil)) (nomark _)) (pe_ix ix_list (pv 0) (pv 1) (fun _ _ => rfl)) (pe_op op_add (pe_op op_mul pe_int (pv 1)) pe_int)))
      (C8.pss_cut (ps_if (pt_cmpR op_lt (pv 2) pe_int (nomark _))
        (pss_one (ps_set (i := 2) scLLawNumber.nd rfl (Or.inl rfl) (pe_op op_sub (pe_op op_mul (pe_un un_neg pe_int) (pv 2)) pe_int)))
        pss_nil)
      (pss_cons (ps_if (pt_cmpR op_lt (pv 2) (pe_op op_pow pe_int pe_int) (nomark _))
        (pss_cons (ps_set (i := 3) scLLawNumber.nd rfl (Or.inl rfl) (pe_op op_mod (pe_callTy call_int1 (by rfl) T.int (by decide +kernel) (pa_cons (pe_op op_add (pe_op op_add (pe_op op_mul (pv 2) pe_int) (pe_op op_mul (pv 1) pe_int)) pe_int) pa_nil)) pe_int))
        (pss_cons (ps_set (i := 4) scLLawNumber.nd rfl (Or.inl rfl) (pe_op op_mod (pe_callTy call_int1 (by rfl) T.int (by decide +kernel) (pa_cons (pe_op op_add (pe_op op_add (pe_op op_mul (pv 3) pe_int) (pe_op op_mul (pv 2) pe_int)) (pv 1)) pa_nil)) pe_int))
        (pss_one (ps_ret (pe_op op_add (pe_op op_mul (pv 3) pe_int) (pv 4))))))
        pss_nil)
      (pss_one (ps_ret (pv 2)))))), ?_⟩
    refine ⟨fun σ' H' => ∃ c : Int, σ' = [some (.ref a), some (.int k), some (.int c), none, none] ∧ H' = H, ?_, ?_⟩
    · refine ⟨_, rfl, .ref a, rfl, a, _, rfl, .inl hS, _, _, rfl, rfl, _, rfl, ite2 (fun hlt => ?_) (fun _ => ?_)⟩
      · have h1 := of_decide_eq_true hlt
        rw [show zs ns = ns.map V.int from rfl, List.length_map] at h1
        have h2 : k < ns.length := by omega
        have h3 : (zs ns)[k]? = some (.int ns[k]) := by
          rw [show zs ns = ns.map V.int from rfl, List.getElem?_map, List.getElem?_eq_getElem h2]
          rfl
        exact ⟨.ref a, rfl, _, rfl, a, _, _, _, rfl, rfl, hS, atI_nat h3, _, rfl, rfl⟩
      · walk_at "rd"
        exact rfl
    · rintro σ' H' ⟨c, rfl, rfl⟩
      refine ⟨fun σ' H2 => ∃ c : Int, σ' = [some (.ref a), some (.int k), some (.int c), none, none] ∧ H2 = H', ?_, ?_⟩
      · walk_at "rd"
        refine ite2 (fun _ => ?_) (fun _ => ⟨_, rfl, rfl⟩)
        walk_at "rd"
        exact rfl
      · rintro σ' H2 ⟨c, rfl, rfl⟩
        walk_at "rd"
        refine ite2 (fun _ => ?_) (fun _ => ⟨_, rfl, q _⟩)
        walk_at "rd"
        exact q _
theorem atI_in {l : List Nat} {i : Int} (h0 : 0 ≤ i) (h : i < (l.length : Int)) : ∃ c, atI l i = some c ∧ c ∈ l := by
  obtain ⟨j, rfl⟩ : ∃ j : Nat, i = (j : Int) := ⟨i.toNat, by omega⟩
  have hj : j < l.length := by omega
  exact ⟨l[j], atI_nat (List.getElem?_eq_getElem hj), List.getElem_mem hj⟩
theorem lit1 : ("azqm" : Str) = S [97, 122, 113, 109] := by decide +kernel
theorem lit2 : ("aZ09b" : Str) = S [97, 90, 48, 57, 98] := by decide +kernel
theorem allIn_app {b x y : List Nat} : allIn b (x ++ y) = (allIn b x && allIn b y) := List.all_append
def spLLawSide (K : PySem.W.Frag) : Sp := fun vs H Q _ => ∃ d : Int, vs = [.int d] ∧ ∀ (c : Nat) (r : List Nat), r.length ≤ 17 → c ∈ SLl → allIn LDl (c :: r) = true → Q (.str (S (c :: r))) H
theorem okLLawSide {fLLawSide : Addr} {fdLLawSide : FuncData} (F : Fun K "_law_side" "_law_side" sLLawSide fLLawSide fdLLawSide) (T : Txt mg) {aDIGITS : Tok} {aSMALL_LETTERS : Tok} {aLETTERS_AND_DIGITS : Tok} {aNAME_LENGTH : Tok} {aMOST_OCCURRENCES : Tok} {aNUMBER_DIGITS : Tok} (CT : Cons K mg aDIGITS aSMALL_LETTERS aLETTERS_AND_DIGITS aNAME_LENGTH aMOST_OCCURRENCES aNUMBER_DIGITS) {CPartError CTextFault : Addr} (EX : Exns K mg CPartError CTextFault) {fIni : Addr} {fdIni : FuncData} (FL : Flt K mg CPartError CTextFault fIni) (GIni : FnOk P w K mg base CX0 1 fIni fdIni ["self", "line", "column"] (spFIni K CTextFault)) (bIni : Binds K fdIni ["self", "line", "column"] []) :
    FnOk P w K mg base CX0 1 fLLawSide fdLLawSide ["draw"] (spLLawSide K) := by
  refine F.ok scLLawSide (fun vs H Q E h => ?_) (fun cdv A outer s H vs Q E hr h => ?_)
  · obtain ⟨d, rfl, k⟩ := h
    rfl
  · obtain ⟨d, rfl, k⟩ := h
    refine ⟨_, (pss_cons (ps_set (i := 1) scLLawSide.nd rfl (Or.inl rfl) (pe_ix ix_str pe_str (pe_op op_mod (pe_callTy call_int1 (by rfl) T.int (by decide +kernel) (pa_cons (pv 0) pa_nil)) pe_int) (fun _ _ => rfl)))
      (C8.pss_cut (ps_for PassesOwn.never rfl (pi_range1 rfl T.range (pa_cons (pe_op op_mod (pe_callTy call_int1 (by rfl) T.int (by decide +kernel) (pa_cons (pe_op op_fdiv (pv 0) pe_int) pa_nil)) pe_int) pa_nil)) (pg_name (i := 2) scLLawSide.nd rfl (Or.inl rfl))
        (pss_one (ps_set (i := 1) scLLawSide.nd rfl (Or.inl rfl) (pe_op op_addS (pv 1) (pe_ix ix_str pe_str (pe_op op_mod (pe_callTy call_int1 (by rfl) T.int (by decide +kernel) (pa_cons (pe_op op_fdiv (pv 0) (pe_op op_add pe_int (pv 2))) pa_nil)) pe_int) (fun _ _ => rfl))))))
      (pss_one (ps_ret (pv 1))))), ?_⟩
    rw [show (Str.ofString "azqm") = S [97, 122, 113, 109] from lit1, show (Str.ofString "aZ09b") = S [97, 90, 48, 57, 98] from lit2]
    have a0 := Int.emod_nonneg d (show (4 : Int) ≠ 0 by decide)
    have a1 := Int.emod_lt_of_pos d (show (0 : Int) < 4 by decide)
    have b0 := Int.emod_nonneg (d / 4) (show (18 : Int) ≠ 0 by decide)
    have b1 := Int.emod_lt_of_pos (d / 4) (show (0 : Int) < 18 by decide)
    obtain ⟨c, hc, mc⟩ := atI_in (l := [97, 122, 113, 109]) a0 (show d % 4 < 4 by omega)
    have hc1 : c ∈ SLl := (show ∀ c ∈ ([97, 122, 113, 109] : List Nat), c ∈ SLl by decide) c mc
    have hc2 : c ∈ LDl := (show ∀ c ∈ ([97, 122, 113, 109] : List Nat), c ∈ LDl by decide) c mc
    walk_at "go"
    refine ⟨S [97, 122, 113, 109], _, c, rfl, rfl, S_sl (by decide), hc, ?_⟩
    obtain ⟨m, hm⟩ : ∃ m : Nat, d / 4 % 18 = (m : Int) := ⟨(d / 4 % 18).toNat, by omega⟩
    refine ⟨fun σ' H' => ∃ (r : List Nat) (v2 : Option V), σ' = [some (.int d), some (.str (S (c :: r))), v2] ∧ H' = H ∧ r.length ≤ 17 ∧ allIn LDl (c :: r) = true, ?_, ?_⟩
    · walk_at "go"
      refine ⟨by omega, by omega, ?_⟩
      rw [hm, Int.toNat_natCast]
      refine for_range (n := m) (fun i σ' H' => ∃ (r : List Nat) (v2 : Option V), σ' = [some (.int d), some (.str (S (c :: r))), v2] ∧ H' = H ∧ r.length ≤ i ∧ allIn LDl (c :: r) = true) ⟨[], _, rfl, rfl, Nat.le_refl _, by unfold allIn; simp [hc2]⟩ ?_ ?_
      · rintro i σ' H' hi ⟨r, v2, rfl, rfl, h1, h2⟩
        have e0 := Int.emod_nonneg (d / (5 + (0 + (i : Int)))) (show (5 : Int) ≠ 0 by decide)
        have e1 := Int.emod_lt_of_pos (d / (5 + (0 + (i : Int)))) (show (0 : Int) < 5 by decide)
        obtain ⟨c2, hc3, mc2⟩ := atI_in (l := [97, 90, 48, 57, 98]) e0 (show d / (5 + (0 + (i : Int))) % 5 < 5 by omega)
        have hc4 : c2 ∈ LDl := (show ∀ c ∈ ([97, 90, 48, 57, 98] : List Nat), c ∈ LDl by decide) c2 mc2
        walk_at "go"
        refine ⟨⟨by omega, by omega⟩, ?_⟩
        walk_at "go"
        refine ⟨S [97, 90, 48, 57, 98], _, c2, rfl, rfl, S_sl (by decide), hc3, ?_⟩
        refine ⟨c :: r, [c2], rfl, rfl, by rw [List.length_cons]; show _ + 1 + 1 ≤ _; omega, ?_⟩
        refine ⟨r ++ [c2], _, rfl, rfl, by rw [List.length_append]; show _ + 1 ≤ _; omega, ?_⟩
        rw [← List.cons_append, allIn_app, h2]
        unfold allIn
        simp [hc4]
      · rintro σ' H' ⟨r, v2, rfl, rfl, h1, h2⟩
        exact ⟨r, v2, rfl, rfl, by omega, h2⟩
    rintro σ' H' ⟨r, v2, rfl, rfl, h1, h2⟩
    walk_at "go"
    exact k c r h1 hc1 h2
theorem S_nil_ne {c : Nat} {r : List Nat} : decide (V.str (S (c :: r)) = V.str (S [])) = false := decide_eq_false fun z => by
  have := SX.S_inj (V.str.inj z)
  cases this
theorem allIn_snoc {b a : List Nat} {i c : Nat} (h : a[i]? = some c) : allIn b (a.take (i + 1)) = (allIn b (a.take i) && decide (c ∈ b)) := by
  unfold allIn
  rw [List.take_add_one, h, List.all_append]
  simp
theorem allIn_bad {b a : List Nat} {i c : Nat} (h : a[i]? = some c) (hc : c ∉ b) : allIn b a = false := by
  unfold allIn
  rw [List.all_eq_false]
  exact ⟨c, List.mem_of_getElem? h, by simp [hc]⟩
theorem cps_get {a : List Nat} {i c : Nat} (h : (S a).cps[i]? = some c) : a[i]? = some c := by
  have : a.toArray[i]? = some c := h
  simpa using this
def spLLawSideGood (K : PySem.W.Frag) : Sp := fun vs H Q _ => ∃ a : List Nat, vs = [.str (S a)] ∧ a.length ≤ 3000 ∧ Q (.bl (shortW SLl LDl a)) H
theorem okLLawSideGood {fLLawSideGood : Addr} {fdLLawSideGood : FuncData} (F : Fun K "_law_side_good" "_law_side_good" sLLawSideGood fLLawSideGood fdLLawSideGood) (T : Txt mg) {aDIGITS : Tok} {aSMALL_LETTERS : Tok} {aLETTERS_AND_DIGITS : Tok} {aNAME_LENGTH : Tok} {aMOST_OCCURRENCES : Tok} {aNUMBER_DIGITS : Tok} (CT : Cons K mg aDIGITS aSMALL_LETTERS aLETTERS_AND_DIGITS aNAME_LENGTH aMOST_OCCURRENCES aNUMBER_DIGITS) {CPartError CTextFault : Addr} (EX : Exns K mg CPartError CTextFault) {fIni : Addr} {fdIni : FuncData} (FL : Flt K mg CPartError CTextFault fIni) (GIni : FnOk P w K mg base CX0 1 fIni fdIni ["self", "line", "column"] (spFIni K CTextFault)) (bIni : Binds K fdIni ["self", "line", "column"] []) :
    FnOk P w K mg base CX0 1 fLLawSideGood fdLLawSideGood ["text"] (spLLawSideGood K) := by
  refine F.ok scLLawSideGood (fun vs H Q E h => ?_) (fun cdv A outer s H vs Q E hr h => ?_)
  · obtain ⟨a, rfl, hl, k⟩ := h
    rfl
  · obtain ⟨a, rfl, hl, k⟩ := h
    refine ⟨_, (pss_cons (ps_if (PW.pt (pw_or (pt_cmpR op_eq (pv 0) pe_str (nomark _)) (pw_or (pt_cmpR op_notIn_sign (pe_ix ix_str (pv 0) pe_int (fun _ _ => rfl)) pe_str (by rfl)) (pw_or1 (pt_cmpR op_gt (pe_callB call_len_str (by rfl) T.len PySem.boot_len (pa_cons (pv 0) pa_nil)) pe_int (nomark _))))))
        (pss_one (ps_ret pe_bl))
        pss_nil)
      (C8.pss_cut (ps_for PassesOwn.never rfl (pi_str (pv 0)) (pg_name (i := 1) scLLawSideGood.nd rfl (Or.inl rfl))
        (pss_one (ps_if (pt_cmpR op_notIn_sign (pv 1) pe_str (by rfl))
          (pss_one (ps_ret pe_bl))
          pss_nil)))
      (pss_one (ps_ret pe_bl)))), ?_⟩
    have hz := S_sl hl
    rw [show (Str.ofString "abcdefghijklmnopqrstuvwxyz") = S SLl from SL_S, show (Str.ofString "abcdefghijklmnopqrstuvwxyzABCDEFGHIJKLMNOPQRSTUVWXYZ0123456789") = S LDl from LD_S, show (Str.ofString "") = S [] from lit_nil]
    walk_at "go"
    cases a with
    | nil =>
      refine iteT' (decide_eq_true rfl) ?_
      exact k
    | cons c r =>
      refine iteF' S_nil_ne ?_
      walk_at "go"
      refine ⟨S (c :: r), 0, c, rfl, rfl, hz, atI_nat (j := 0) rfl, ?_⟩
      walk_at "go"
      unfold shortW isRow at k
      rw [decide_eq_true (show 0 < (c :: r).length by rw [List.length_cons]; omega), Bool.true_and] at k
      by_cases h1 : c ∈ SLl
      · rw [show ((c :: r).head?) = some c from rfl] at k
        simp only [decide_eq_true h1, Bool.and_true] at k
        refine iteF' (by rw [decide_eq_true (show c ∈ (S SLl).cps.toList from h1)]; rfl) ?_
        walk_at "go"
        rw [lenS]
        by_cases h2 : (c :: r).length ≤ 16
        · rw [decide_eq_true h2, Bool.and_true] at k
          rw [decide_eq_false (show ¬ (16 : Int) < ((c :: r).length : Int) by omega)]
          walk_at "go"
          refine ⟨fun σ' H' => (∃ v1 : Option V, σ' = [some (.str (S (c :: r))), v1]) ∧ H' = H ∧ allIn LDl (c :: r) = true, ?_, ?_⟩
          · walk_at "go"
            refine for_it walk_str (fun i σ' H' => (∃ v1 : Option V, σ' = [some (.str (S (c :: r))), v1]) ∧ H' = H ∧ allIn LDl ((c :: r).take i) = true) ⟨⟨_, rfl⟩, rfl, rfl⟩ (fun _ _ _ _ _ => trivial) ?_ ?_
            · rintro i v σ' H1 H2 hi ⟨⟨v1, rfl⟩, rfl, h3⟩ ⟨rfl, d, hd, rfl⟩
              have hd2 := cps_get hd
              walk_at "go"
              by_cases h4 : d ∈ LDl
              · refine iteF' (by rw [decide_eq_true (show d ∈ (S LDl).cps.toList from h4)]; rfl) ?_
                refine ⟨⟨_, rfl⟩, rfl, ?_⟩
                rw [allIn_snoc hd2, h3, decide_eq_true h4]
                rfl
              · refine iteT' (by rw [decide_eq_false (show ¬ d ∈ (S LDl).cps.toList from h4)]; rfl) ?_
                rw [allIn_bad hd2 h4] at k
                exact k
            · rintro σ' H' ⟨h5, h6, h7⟩
              refine ⟨h5, h6, ?_⟩
              rw [show (S (c :: r)).cps.size = (c :: r).length by simp [S], List.take_length] at h7
              exact h7
          · rintro σ' H' ⟨⟨v1, rfl⟩, rfl, h7⟩
            rw [h7] at k
            walk_at "go"
            exact k
        · rw [decide_eq_false h2, Bool.and_false] at k
          rw [decide_eq_true (show (16 : Int) < ((c :: r).length : Int) by omega)]
          walk_at "go"
          exact k
      · rw [show ((c :: r).head?) = some c from rfl] at k
        simp only [decide_eq_false h1, Bool.and_false] at k
        refine iteT' (by rw [decide_eq_false (show ¬ c ∈ (S SLl).cps.toList from h1)]; rfl) ?_
        exact k
def spLLawNumberGood (K : PySem.W.Frag) : Sp := fun vs H Q _ => ∃ a : List Nat, vs = [.str (S a)] ∧ a.length ≤ 3000 ∧ Q (.bl (plainN 6 a)) H
theorem okLLawNumberGood {fLLawNumberGood : Addr} {fdLLawNumberGood : FuncData} (F : Fun K "_law_number_good" "_law_number_good" sLLawNumberGood fLLawNumberGood fdLLawNumberGood) (T : Txt mg) {aDIGITS : Tok} {aSMALL_LETTERS : Tok} {aLETTERS_AND_DIGITS : Tok} {aNAME_LENGTH : Tok} {aMOST_OCCURRENCES : Tok} {aNUMBER_DIGITS : Tok} (CT : Cons K mg aDIGITS aSMALL_LETTERS aLETTERS_AND_DIGITS aNAME_LENGTH aMOST_OCCURRENCES aNUMBER_DIGITS) {CPartError CTextFault : Addr} (EX : Exns K mg CPartError CTextFault) {fIni : Addr} {fdIni : FuncData} (FL : Flt K mg CPartError CTextFault fIni) (GIni : FnOk P w K mg base CX0 1 fIni fdIni ["self", "line", "column"] (spFIni K CTextFault)) (bIni : Binds K fdIni ["self", "line", "column"] []) :
    FnOk P w K mg base CX0 1 fLLawNumberGood fdLLawNumberGood ["text"] (spLLawNumberGood K) := by
  refine F.ok scLLawNumberGood (fun vs H Q E h => ?_) (fun cdv A outer s H vs Q E hr h => ?_)
  · obtain ⟨a, rfl, hl, k⟩ := h
    rfl
  · obtain ⟨a, rfl, hl, k⟩ := h
    refine ⟨_, (pss_cons (ps_if (PW.pt (pw_or (pt_cmpR op_eq (pv 0) pe_str (nomark _)) (pw_or (pt_cmpR op_gt (pe_callB call_len_str (by rfl) T.len PySem.boot_len (pa_cons (pv 0) pa_nil)) pe_int (nomark _)) (pw_or1 (PW.pt (pw_and (pt_cmpR op_eq (pe_ix ix_str (pv 0) pe_int (fun _ _ => rfl)) pe_str (nomark _)) (pw_and1 (pt_cmpR op_ne (pv 0) pe_str (nomark _)))))))))
        (pss_one (ps_ret pe_bl))
        pss_nil)
      (C8.pss_cut (ps_for PassesOwn.never rfl (pi_str (pv 0)) (pg_name (i := 1) scLLawNumberGood.nd rfl (Or.inl rfl))
        (pss_one (ps_if (pt_cmpR op_notIn_sign (pv 1) pe_str (by rfl))
          (pss_one (ps_ret pe_bl))
          pss_nil)))
      (pss_one (ps_ret pe_bl)))), ?_⟩
    have hz := S_sl hl
    rw [show (Str.ofString "0123456789") = S D10 from D10_S, show (Str.ofString "") = S [] from lit_nil, show (Str.ofString "0") = S [48] from zero_S]
    walk_at "go"
    cases a with
    | nil =>
      refine iteT' (decide_eq_true rfl) ?_
      exact k
    | cons c r =>
      refine iteF' S_nil_ne ?_
      walk_at "go"
      rw [lenS]
      unfold plainN isRow at k
      rw [decide_eq_true (show 0 < (c :: r).length by rw [List.length_cons]; omega), Bool.true_and, show ((c :: r).head?) = some c from rfl] at k
      by_cases h2 : (c :: r).length ≤ 6
      · rw [decide_eq_true h2, Bool.true_and] at k
        refine iteF' (decide_eq_false (by omega)) ?_
        walk_at "go"
        refine ⟨S (c :: r), 0, c, rfl, rfl, hz, atI_nat (j := 0) rfl, ?_⟩
        walk_at "go"
        dsimp only at k
        by_cases h0 : c = 48
        · subst h0
          refine iteT' (decide_eq_true rfl) ?_
          walk_at "go"
          by_cases h1 : (48 :: r : List Nat) = [48]
          · rw [decide_eq_true h1, Bool.true_or, Bool.and_true] at k
            refine iteF' (by rw [h1, decide_eq_true rfl]; rfl) ?_
            walk_at "go"
            refine ⟨fun σ' H' => (∃ v1 : Option V, σ' = [some (.str (S (48 :: r))), v1]) ∧ H' = H ∧ allIn D10 (48 :: r) = true, ?_, ?_⟩
            · walk_at "go"
              refine for_it walk_str (fun i σ' H' => (∃ v1 : Option V, σ' = [some (.str (S (48 :: r))), v1]) ∧ H' = H ∧ allIn D10 ((48 :: r).take i) = true) ⟨⟨_, rfl⟩, rfl, rfl⟩ (fun _ _ _ _ _ => trivial) ?_ ?_
              · rintro i v σ' H1 H2 hi ⟨⟨v1, rfl⟩, rfl, h3⟩ ⟨rfl, d, hd, rfl⟩
                have hd2 := cps_get hd
                walk_at "go"
                by_cases h4 : d ∈ D10
                · refine iteF' (by rw [decide_eq_true (show d ∈ (S D10).cps.toList from h4)]; rfl) ?_
                  refine ⟨⟨_, rfl⟩, rfl, ?_⟩
                  rw [allIn_snoc hd2, h3, decide_eq_true h4]
                  rfl
                · refine iteT' (by rw [decide_eq_false (show ¬ d ∈ (S D10).cps.toList from h4)]; rfl) ?_
                  rw [allIn_bad hd2 h4] at k
                  exact k
              · rintro σ' H' ⟨h5, h6, h7⟩
                refine ⟨h5, h6, ?_⟩
                rw [show (S (48 :: r)).cps.size = (48 :: r).length by simp [S], List.take_length] at h7
                exact h7
            · rintro σ' H' ⟨⟨v1, rfl⟩, rfl, h7⟩
              rw [h7] at k
              walk_at "go"
              exact k
          · rw [decide_eq_false h1, decide_eq_false (show ¬ (48 ≠ 48) from fun z => z rfl), Bool.or_false, Bool.and_false] at k
            refine iteT' (by rw [decide_eq_false (fun z => h1 (SX.S_inj (V.str.inj z)))]; rfl) ?_
            exact k
        · rw [decide_eq_true (show c ≠ 48 from h0), Bool.or_true, Bool.and_true] at k
          refine iteF' (decide_eq_false fun z => h0 (by
            have z2 : S [c] = S [48] := V.str.inj z
            injection SX.S_inj z2)) ?_
          walk_at "go"
          refine ⟨fun σ' H' => (∃ v1 : Option V, σ' = [some (.str (S (c :: r))), v1]) ∧ H' = H ∧ allIn D10 (c :: r) = true, ?_, ?_⟩
          · walk_at "go"
            refine for_it walk_str (fun i σ' H' => (∃ v1 : Option V, σ' = [some (.str (S (c :: r))), v1]) ∧ H' = H ∧ allIn D10 ((c :: r).take i) = true) ⟨⟨_, rfl⟩, rfl, rfl⟩ (fun _ _ _ _ _ => trivial) ?_ ?_
            · rintro i v σ' H1 H2 hi ⟨⟨v1, rfl⟩, rfl, h3⟩ ⟨rfl, d, hd, rfl⟩
              have hd2 := cps_get hd
              walk_at "go"
              by_cases h4 : d ∈ D10
              · refine iteF' (by rw [decide_eq_true (show d ∈ (S D10).cps.toList from h4)]; rfl) ?_
                refine ⟨⟨_, rfl⟩, rfl, ?_⟩
                rw [allIn_snoc hd2, h3, decide_eq_true h4]
                rfl
              · refine iteT' (by rw [decide_eq_false (show ¬ d ∈ (S D10).cps.toList from h4)]; rfl) ?_
                rw [allIn_bad hd2 h4] at k
                exact k
            · rintro σ' H' ⟨h5, h6, h7⟩
              refine ⟨h5, h6, ?_⟩
              rw [show (S (c :: r)).cps.size = (c :: r).length by simp [S], List.take_length] at h7
              exact h7
          · rintro σ' H' ⟨⟨v1, rfl⟩, rfl, h7⟩
            rw [h7] at k
            walk_at "go"
            exact k
      · rw [decide_eq_false h2, Bool.false_and, Bool.and_false] at k
        refine iteT' (decide_eq_true (by omega)) ?_
        exact k
theorem okO_none3 {n nm l : List Nat} {ks : List (List Nat)} (h : l ∈ n :: ks) (hp : plainN 6 l = false) : okO (n :: ks) nm = none := okO_bad3 (by
  rw [List.all_eq_false]
  exact ⟨l, h, by rw [hp]; exact Bool.false_ne_true⟩)
theorem okO_none1 {i : List (List Nat)} {nm : List Nat} (h : shortW SLl LDl nm = false) : okO i nm = none := by
  unfold okO
  cases i with
  | nil => rfl
  | cons n ks => simp [h]
theorem okO_none2 {i : List (List Nat)} {nm : List Nat} (h : ¬ (1 ≤ i.length ∧ i.length ≤ 13)) : okO i nm = none := by
  unfold okO
  cases i with
  | nil => rfl
  | cons n ks =>
    have : ¬ ks.length ≤ 12 := fun z => h ⟨by rw [List.length_cons]; omega, by rw [List.length_cons]; omega⟩
    simp [this]
def spLLawGood (K : PySem.W.Frag) : Sp := fun vs H Q _ => ∃ a : List Nat, vs = [.str (S a)] ∧ a.length ≤ 2900 ∧ (rdo a = none → ∀ H', Same H H' → Q .non H') ∧ (∀ n ks nm, rdo a = some (n, ks, nm) → ∀ (H' : Hp) (t : Addr), Same H H' → Ot K H' t n ks nm → Q (.ref t) H')
theorem okLLawGood {fLLawGood : Addr} {fdLLawGood : FuncData} (F : Fun K "_law_good" "_law_good" sLLawGood fLLawGood fdLLawGood) (T : Txt mg) {aDIGITS : Tok} {aSMALL_LETTERS : Tok} {aLETTERS_AND_DIGITS : Tok} {aNAME_LENGTH : Tok} {aMOST_OCCURRENCES : Tok} {aNUMBER_DIGITS : Tok} (CT : Cons K mg aDIGITS aSMALL_LETTERS aLETTERS_AND_DIGITS aNAME_LENGTH aMOST_OCCURRENCES aNUMBER_DIGITS) {CPartError CTextFault : Addr} (EX : Exns K mg CPartError CTextFault) {fIni : Addr} {fdIni : FuncData} (FL : Flt K mg CPartError CTextFault fIni) (GIni : FnOk P w K mg base CX0 1 fIni fdIni ["self", "line", "column"] (spFIni K CTextFault)) (bIni : Binds K fdIni ["self", "line", "column"] [])
    {fLLawSideGood : Addr} {fdLLawSideGood : FuncData} (GLLawSideGood : FnOk P w K mg base CX0 1 fLLawSideGood fdLLawSideGood ["text"] (spLLawSideGood K)) (gLLawSideGood : mg "_law_side_good" = some (.ref fLLawSideGood)) (kpLLawSideGood : PySem.W.keepIn K (.ref fLLawSideGood) = true) (bLLawSideGood : Binds K fdLLawSideGood ["text"] [])
    {fLLawNumberGood : Addr} {fdLLawNumberGood : FuncData} (GLLawNumberGood : FnOk P w K mg base CX0 1 fLLawNumberGood fdLLawNumberGood ["text"] (spLLawNumberGood K)) (gLLawNumberGood : mg "_law_number_good" = some (.ref fLLawNumberGood)) (kpLLawNumberGood : PySem.W.keepIn K (.ref fLLawNumberGood) = true) (bLLawNumberGood : Binds K fdLLawNumberGood ["text"] []) :
    FnOk P w K mg base CX0 2 fLLawGood fdLLawGood ["text"] (spLLawGood K) := by
  refine F.ok scLLawGood (fun vs H Q E h => ?_) (fun cdv A outer s H vs Q E hr h => ?_)
  · obtain ⟨a, rfl, hl, he, k⟩ := h
    rfl
  · obtain ⟨a, rfl, hl, he, k⟩ := h
    refine ⟨_, (pss_cons (ps_set (i := 1) scLLawGood.nd rfl (Or.inl rfl) (pe_split (pv 0) pe_str))
      (pss_cons (ps_if (PW.pt (pw_or (pt_cmpR op_lt (pe_callB call_len_seq (by rfl) T.len PySem.boot_len (pa_cons (pv 1) pa_nil)) pe_int (nomark _)) (pw_or (pt_cmpR op_gt (pe_callB call_len_seq (by rfl) T.len PySem.boot_len (pa_cons (pv 1) pa_nil)) pe_int (nomark _)) (pw_or1 (pt_not (pt_val (pe_call GLLawSideGood hr (by rfl) gLLawSideGood kpLLawSideGood bLLawSideGood .nil pass0 (pa_cons (pe_ix ix_list (pv 1) (pe_un un_neg pe_int) (fun _ _ => rfl)) pa_nil))))))))
        (pss_one (ps_ret pe_non))
        pss_nil)
      (C8.pss_cut (ps_for PassesOwn.never rfl (pi_range1 rfl T.range (pa_cons (pe_op op_sub (pe_callB call_len_seq (by rfl) T.len PySem.boot_len (pa_cons (pv 1) pa_nil)) pe_int) pa_nil)) (pg_name (i := 2) scLLawGood.nd rfl (Or.inl rfl))
        (pss_one (ps_if (PW.pt (pw_or (pt_not (pt_val (pe_call GLLawNumberGood hr (by rfl) gLLawNumberGood kpLLawNumberGood bLLawNumberGood .nil pass0 (pa_cons (pe_ix ix_list (pv 1) (pv 2) (fun _ _ => rfl)) pa_nil)))) (pw_or1 (PW.pt (pw_and (pt_cmpR op_gt (pv 2) pe_int (nomark _)) (pw_and1 (pt_cmpR op_eq (pe_ix ix_list (pv 1) (pv 2) (fun _ _ => rfl)) pe_str (nomark _))))))))
          (pss_one (ps_ret pe_non))
          pss_nil)))
      (pss_one (ps_ret (pe_tup (pa_cons (pe_callTy call_int_str (by rfl) T.int (by decide +kernel) (pa_cons (pe_ix ix_list (pv 1) pe_int (fun _ _ => rfl)) pa_nil)) (pa_cons (pe_callTy call_tuple_of (by rfl) T.tuple (by decide +kernel) (pa_cons (pe_lc (own := [("part", 3)]) (by rfl) scLLawGood.nd (pi_list (pe_slice sl_list (pv 1) (po_some pe_int) (po_some (pe_un un_neg pe_int)))) (blkOk_by (own := [("part", 3)]) (N := ["text", "parts", "k", "part"]) (sc := defScope sLLawGood) (by decide +kernel)) (fun _ _ _ _ _ => (pg_name (i := 3) scLLawGood.nd rfl (Or.inl rfl))) (fun _ _ _ _ _ => pts_nil) (fun _ _ _ _ _ => (pe_callTy call_int_str (by rfl) T.int (by decide +kernel) (pa_cons (pv 3) pa_nil)))) pa_nil)) (pa_cons (pe_ix ix_list (pv 1) (pe_un un_neg pe_int) (fun _ _ => rfl)) pa_nil))))))))), ?_⟩
    have hz := S_sl (a := a) (by omega)
    rw [show (Str.ofString ".") = S [46] from dot_S, show (Str.ofString "0") = S [48] from zero_S]
    obtain ⟨init, nm, e⟩ := snoc_of (sp_ne a)
    obtain ⟨q1, q2⟩ := sp_len a
    rw [rdo_eq e] at he k
    rw [e] at q1 q2
    have hnm : nm.length ≤ 3000 := by
      have := q1 nm (by simp)
      omega
    have hin : ∀ p ∈ init, p.length ≤ 3000 := fun p hp => by
      have := q1 p (by simp [hp])
      omega
    rw [List.length_append, show [nm].length = 1 from rfl] at q2
    refine ⟨_, rfl, ⟨_, rfl⟩, S a, S [46], rfl, rfl, rfl, (by rw [SX.S_len, PySem.sizeLine_eq]; omega), fun p np => ?_⟩
    rw [split_sp, e, List.map_append, List.map_append, List.map_map]
    have s1 := same_upd (o := .lst (init.map sv ++ [sv nm])) np
    have e1 : (upd H p (.lst (init.map sv ++ [sv nm]))) p = some (.lst (init.map sv ++ [sv nm])) := upd_same
    show gName _ _ _ (upd H p (.lst (init.map sv ++ [sv nm]))) _
    generalize (upd H p (.lst (init.map sv ++ [sv nm]))) = H1 at s1 e1
    have bad : okO init nm = none → ∀ H', Same H1 H' → Q .non H' := fun h H' s => he h H' (s1.trans s)
    have hlen : (init.map sv ++ [sv nm]).length = init.length + 1 := by
      rw [List.length_append, List.length_map]
      rfl
    walk_at "go"
    refine ⟨p, _, rfl, .inl (SqL.of e1), ?_⟩
    rw [hlen]
    walk_at "go"
    by_cases g1 : 1 ≤ init.length
    · refine iteF' (decide_eq_false (by omega)) ?_
      walk_at "go"
      refine ⟨p, _, rfl, .inl (SqL.of e1), ?_⟩
      rw [hlen]
      walk_at "go"
      by_cases g2 : init.length ≤ 13
      · refine iteF' (decide_eq_false (by omega)) ?_
        walk_at "go"
        refine ⟨p, _, _, _, rfl, rfl, SqL.of e1, atI_last _ _, ?_⟩
        walk_at "go"
        obtain ⟨n, ks, rfl⟩ : ∃ n ks, init = n :: ks := by
          cases init with
          | nil => exact absurd g1 (by decide)
          | cons n ks => exact ⟨n, ks, rfl⟩
        have hks : ks.length ≤ 12 := by
          rw [List.length_cons] at g2
          omega
        cases h1 : shortW SLl LDl nm with
        | false =>
          refine iteT' rfl ?_
          exact bad (okO_none1 h1) _ (Same.refl _)
        | true =>
          refine iteF' rfl ?_
          refine ⟨fun σ' H' => (∃ v2 : Option V, σ' = [some (.str (S a)), some (.ref p), v2, none]) ∧ H' = H1 ∧ (n :: ks).all (plainN 6) = true ∧ [48] ∉ ks, ?_, ?_⟩
          · walk_at "go"
            refine ⟨p, _, rfl, .inl (SqL.of e1), ?_⟩
            rw [hlen]
            walk_at "go"
            refine ⟨by omega, by omega, ?_⟩
            rw [show ((((n :: ks).length + 1 : Nat) : Int) - 1).toNat = (n :: ks).length by omega]
            refine for_range (n := (n :: ks).length) (fun i σ' H' => (∃ v2 : Option V, σ' = [some (.str (S a)), some (.ref p), v2, none]) ∧ H' = H1 ∧ ((n :: ks).take i).all (plainN 6) = true ∧ [48] ∉ ((n :: ks).take i).drop 1) ⟨⟨_, rfl⟩, rfl, rfl, (fun z => nomatch z)⟩ ?_ ?_
            · rintro i σ' H' hi ⟨⟨v2, rfl⟩, rfl, h3, h4⟩
              have hi0 : (0 : Int) + (i : Int) = (i : Int) := by omega
              obtain ⟨l, el⟩ : ∃ l, (n :: ks)[i]? = some l := ⟨(n :: ks)[i], List.getElem?_eq_getElem hi⟩
              have ml := List.mem_of_getElem? el
              have gl : ((n :: ks).map sv ++ [sv nm])[i]? = some (sv l) := by
                rw [List.getElem?_append_left (by rw [List.length_map]; exact hi), List.getElem?_map, el]
                rfl
              rw [hi0]
              walk_at "go"
              refine ⟨p, _, _, _, rfl, rfl, SqL.of e1, atI_nat gl, ?_⟩
              refine ⟨l, rfl, hin l ml, ?_⟩
              cases h5 : plainN 6 l with
              | false =>
                refine ⟨_, rfl, iteT' rfl ?_⟩
                exact bad (okO_none3 ml h5) _ (Same.refl _)
              | true =>
                refine ⟨_, rfl, iteF' rfl ?_⟩
                walk_at "go"
                have ht : (n :: ks).take (i + 1) = (n :: ks).take i ++ [l] := by
                  rw [List.take_add_one, el]
                  rfl
                have ha : ((n :: ks).take (i + 1)).all (plainN 6) = true := by
                  rw [ht, List.all_append, h3]
                  simp [h5]
                by_cases g3 : 0 < i
                · refine iteT' (decide_eq_true (by omega)) ?_
                  refine ⟨_, rfl, _, rfl, p, _, _, _, rfl, rfl, SqL.of e1, atI_nat gl, ?_⟩
                  walk_at "go"
                  by_cases g4 : l = [48]
                  · refine iteT' (decide_eq_true (by rw [g4]; rfl)) ?_
                    refine bad (okO_bad4 ?_) _ (Same.refl _)
                    obtain ⟨i', rfl⟩ : ∃ i', i = i' + 1 := ⟨i - 1, by omega⟩
                    rw [List.getElem?_cons_succ, g4] at el
                    exact List.mem_of_getElem? el
                  · refine iteF' (decide_eq_false (fun z => g4 (SX.S_inj (V.str.inj z)))) ?_
                    refine ⟨⟨_, rfl⟩, rfl, ha, fun hm => ?_⟩
                    rw [ht] at hm
                    obtain ⟨i', rfl⟩ : ∃ i', i = i' + 1 := ⟨i - 1, by omega⟩
                    rw [List.take_succ_cons, List.cons_append, List.drop_succ_cons, List.drop_zero] at hm
                    rw [List.take_succ_cons, List.drop_succ_cons, List.drop_zero] at h4
                    rcases List.mem_append.mp hm with h | h
                    · exact h4 h
                    · exact g4 (List.mem_singleton.mp h).symm
                · refine iteF' (decide_eq_false (by omega)) ?_
                  refine ⟨⟨_, rfl⟩, rfl, ha, fun hm => ?_⟩
                  obtain rfl : i = 0 := by omega
                  rw [List.take_succ_cons, List.take_zero, List.drop_succ_cons, List.drop_zero] at hm
                  exact nomatch hm
            · rintro σ' H' ⟨h5, h6, h7, h8⟩
              rw [List.take_length] at h7 h8
              exact ⟨h5, h6, h7, h8⟩
          · rintro σ' H' ⟨⟨v2, rfl⟩, rfl, h3, h4⟩
            have hk := okO_ok (nm := nm) (n := n) h1 hks h3 h4
            refine ⟨_, rfl, p, _, 0, _, rfl, rfl, SqL.of e1, atI_nat (j := 0) rfl, ?_⟩
            have pn := List.all_eq_true.mp h3
            obtain ⟨p1, p2⟩ := plainN_int (by decide) (pn n List.mem_cons_self)
            refine ⟨S n, _, rfl, p1, p2, ?_⟩
            walk_at "go"
            refine ⟨p, _, rfl, SqL.of e1, fun p4 n4 => ?_⟩
            have ec : cutV ((n :: ks).map sv ++ [sv nm]) (some 1) (some (-1)) = ks.map sv := cut_mid
            rw [ec]
            generalize hU4 : upd H' p4 _ = H4
            have s4 := same_hu hU4 n4
            have e4 : H4 p4 = some (.lst (ks.map sv)) := at_hu hU4
            clear hU4
            refine ⟨_, rfl, ⟨_, SqL.of e4⟩, fun D5 nD5 => ?_⟩
            refine lc_val (walk_list (K := K) (a := p4) (xs := ks.map sv)) (ks.map fun l => V.int (NumText.digitsVal l : Nat)) (by simp) (by rw [List.length_map]; omega) nD5 (fun H4 s4 => s4.seq (SqL.of e4)) ?_ ?_
            · rintro i c v' H5 H6 kk hc s5 ⟨rfl, hg⟩ kk2
              rw [List.getElem?_map] at hg
              cases ei : ks[i]? with
              | none =>
                rw [ei] at hg
                cases hg
              | some l =>
                rw [ei] at hg
                obtain rfl : sv l = v' := Option.some.inj hg
                rw [List.getElem?_map, ei] at hc
                obtain rfl : V.int (NumText.digitsVal l : Nat) = c := Option.some.inj hc
                obtain ⟨p1, p2⟩ := plainN_int (by decide) (pn l (List.mem_cons_of_mem _ (List.mem_of_getElem? ei)))
                exact ⟨rfl, _, rfl, S l, _, rfl, p1, p2, kk2 _ (Same.refl _)⟩
            intro H5 s5 e5
            refine ⟨D5, _, rfl, .inl ⟨SqL.of e5, fun t7 n7 => ?_⟩⟩
            generalize hU7 : upd H5 t7 _ = H7
            have s7 := same_hu hU7 n7
            have e7 : H7 t7 = some (.tup (ks.map fun l => V.int (NumText.digitsVal l : Nat))) := at_hu hU7
            clear hU7
            have s47 := s4.trans (s5.trans s7)
            walk_at "go"
            refine ⟨p, _, _, _, rfl, rfl, SqL.of (s47 _ _ e1), atI_last _ _, ?_⟩
            refine ⟨tn rfl, fun t8 nt8 => ?_⟩
            generalize hUt8 : upd _ _ (HO.tup _) = H8
            have s8 := same_hu hUt8 nt8
            have eh8 := at_hu hUt8
            have h8 := SqT.of (K := K) eh8
            clear hUt8
            refine k _ _ _ hk H8 t8 (s1.trans (s47.trans s8)) ⟨t7, h8, ?_⟩
            rw [List.map_map]
            exact same_tup s8 (SqT.of e7)
      · refine iteT' (decide_eq_true (by omega)) ?_
        exact bad (okO_none2 fun h => g2 h.2) _ (Same.refl _)
    · refine iteT' (decide_eq_true (by omega)) ?_
      exact bad (okO_none2 fun h => g1 h.1) _ (Same.refl _)
def spLLawRead (K : PySem.W.Frag) : Sp := fun vs H Q _ => ∃ a : List Nat, vs = [.str (S a)] ∧ a.length ≤ 2900 ∧ (rdo a = none → ∀ H', Same H H' → Q .non H') ∧ (∀ n ks nm, rdo a = some (n, ks, nm) → ∀ (H' : Hp) (t : Addr), Same H H' → Ot K H' t n ks nm → Q (.ref t) H')
theorem okLLawRead {fLLawRead : Addr} {fdLLawRead : FuncData} (F : Fun K "_law_read" "_law_read" sLLawRead fLLawRead fdLLawRead) (T : Txt mg) {aDIGITS : Tok} {aSMALL_LETTERS : Tok} {aLETTERS_AND_DIGITS : Tok} {aNAME_LENGTH : Tok} {aMOST_OCCURRENCES : Tok} {aNUMBER_DIGITS : Tok} (CT : Cons K mg aDIGITS aSMALL_LETTERS aLETTERS_AND_DIGITS aNAME_LENGTH aMOST_OCCURRENCES aNUMBER_DIGITS) {CPartError CTextFault : Addr} (EX : Exns K mg CPartError CTextFault) {fIni : Addr} {fdIni : FuncData} (FL : Flt K mg CPartError CTextFault fIni) (GIni : FnOk P w K mg base CX0 1 fIni fdIni ["self", "line", "column"] (spFIni K CTextFault)) (bIni : Binds K fdIni ["self", "line", "column"] [])
    {fReadOrigin : Addr} {fdReadOrigin : FuncData} (GReadOrigin : FnOk P w K mg base (L2.CX P w) 5 fReadOrigin fdReadOrigin ["text"] (spReadOrigin K CTextFault)) (gReadOrigin : mg "read_origin" = some (.ref fReadOrigin)) (kpReadOrigin : PySem.W.keepIn K (.ref fReadOrigin) = true) (bReadOrigin : Binds K fdReadOrigin ["text"] []) :
    FnOk P w K mg base CX0 6 fLLawRead fdLLawRead ["text"] (spLLawRead K) := by
  refine F.ok scLLawRead (fun vs H Q E h => ?_) (fun cdv A outer s H vs Q E hr h => ?_)
  · obtain ⟨a, rfl, hl, he, k⟩ := h
    rfl
  · obtain ⟨a, rfl, hl, he, k⟩ := h
    refine ⟨_, (pss_cons (ps_try_as (i := 1) rfl rfl scLLawRead.nd rfl rfl ⟨rfl, by decide, .inl EX.gPartError⟩ takes0 (fun W pn xe tk _ => (pss_one (ps_ret (pe_callS GReadOrigin hr (by rfl) gReadOrigin kpReadOrigin bReadOrigin (fun σ => passAt tk σ) (pa_cons (pv 0) pa_nil)))))
        (fun a oe cls d pn hz hf => suite_ofD (C := CTextFault) hz fun dd hz1 => (pss_one (ps_if (PW.pt (pw_and (pt_val (pe_callB (call_isD FL.ec hz1 hf) (by rfl) T.isinstance (by decide +kernel) (pa_cons (pv 1) (pa_cons (pe_glob (v := .ref CTextFault) (by rfl) EX.gTextFault rfl) pa_nil)))) (pw_and (pt_cmpR op_eq (pe_xf FL.xf FL.nline hz1 hf (pv 1)) pe_int (nomark _)) (pw_and1 (pt_cmpR op_eq (pe_xf FL.xf FL.ncolumn hz1 hf (pv 1)) pe_int (nomark _))))))
          (pss_one (ps_ret pe_non))
          pss_nil))))
      (pss_one (ps_ret pe_str))), ?_⟩
    refine ⟨_, rfl, a, rfl, hl, fun h => ?_, k⟩
    intro d H' s1 e1
    refine ⟨true, FL.ePartError, fun _ ea ha => ⟨d, ⟨rfl, rfl⟩, ?_⟩, fun z => nomatch z⟩
    refine ⟨_, rfl, _, _, true, _, rfl, fun u r => r, FL.kTextFault, e1, true, rfl, iteT ?_⟩
    refine ⟨_, rfl, rfl, rfl, d, _, .int 1, rfl, e1, rfl, rfl, _, rfl, ?_⟩
    refine iteT' (decide_eq_true rfl) ?_
    refine ⟨_, rfl, rfl, rfl, d, _, .int 1, rfl, e1, rfl, rfl, _, rfl, iteT' (decide_eq_true rfl) ?_⟩
    exact he h H' s1
def menu50 : List (List Nat) := [[48], [46], [49], [120], [65], [32], [45], [49, 50, 51, 52, 53, 54, 55], [95]]
theorem menu_eq : [V.str "0", V.str ".", V.str "1", V.str "x", V.str "A", V.str " ", V.str "-", V.str "1234567", V.str "_"] = menu50.map sv := by
  have h : (["0", ".", "1", "x", "A", " ", "-", "1234567", "_"] : List Str) = menu50.map S := by decide +kernel
  have := congrArg (List.map V.str) h
  rw [List.map_map] at this
  exact this
def oc (d : Int) (j : Nat) : Int := 1 + d / (17 + 5 * (0 + (j : Int))) % 999999
theorem oc_in (d : Int) (j : Nat) : 1 ≤ (oc d j).toNat ∧ (oc d j).toNat < 10 ^ 6 ∧ (((oc d j).toNat : Nat) : Int) = oc d j := by
  have h0 := Int.emod_nonneg (d / (17 + 5 * (0 + (j : Int)))) (show (999999 : Int) ≠ 0 by decide)
  have h1 := Int.emod_lt_of_pos (d / (17 + 5 * (0 + (j : Int)))) (show (0 : Int) < 999999 by decide)
  unfold oc
  have : (10 : Nat) ^ 6 = 1000000 := by decide
  omega
def spLaw (K : PySem.W.Frag) : Sp := fun vs H Q _ => ∃ (a : Addr) (ns : List Int), vs = [.ref a] ∧ SqL K H a (ns.map V.int) ∧ ns.length ≤ 63 ∧ ∀ H', Q (.bl true) H'
theorem okLaw {fLaw : Addr} {fdLaw : FuncData} (F : Fun K "law" "law" sLaw fLaw fdLaw) (T : Txt mg) {aDIGITS : Tok} {aSMALL_LETTERS : Tok} {aLETTERS_AND_DIGITS : Tok} {aNAME_LENGTH : Tok} {aMOST_OCCURRENCES : Tok} {aNUMBER_DIGITS : Tok} (CT : Cons K mg aDIGITS aSMALL_LETTERS aLETTERS_AND_DIGITS aNAME_LENGTH aMOST_OCCURRENCES aNUMBER_DIGITS) {CPartError CTextFault : Addr} (EX : Exns K mg CPartError CTextFault) {fIni : Addr} {fdIni : FuncData} (FL : Flt K mg CPartError CTextFault fIni) (GIni : FnOk P w K mg base CX0 1 fIni fdIni ["self", "line", "column"] (spFIni K CTextFault)) (bIni : Binds K fdIni ["self", "line", "column"] [])
    {fLLawNumber : Addr} {fdLLawNumber : FuncData} (GLLawNumber : FnOk P w K mg base CX0 1 fLLawNumber fdLLawNumber ["script", "k"] (spLLawNumber K)) (gLLawNumber : mg "_law_number" = some (.ref fLLawNumber)) (kpLLawNumber : PySem.W.keepIn K (.ref fLLawNumber) = true) (bLLawNumber : Binds K fdLLawNumber ["script", "k"] [])
    {fLLawSide : Addr} {fdLLawSide : FuncData} (GLLawSide : FnOk P w K mg base CX0 1 fLLawSide fdLLawSide ["draw"] (spLLawSide K)) (gLLawSide : mg "_law_side" = some (.ref fLLawSide)) (kpLLawSide : PySem.W.keepIn K (.ref fLLawSide) = true) (bLLawSide : Binds K fdLLawSide ["draw"] [])
    {fOriginText : Addr} {fdOriginText : FuncData} (GOriginText : FnOk P w K mg base CX0 1 fOriginText fdOriginText ["origin"] (spOriginText K)) (gOriginText : mg "origin_text" = some (.ref fOriginText)) (kpOriginText : PySem.W.keepIn K (.ref fOriginText) = true) (bOriginText : Binds K fdOriginText ["origin"] [])
    {fLLawRead : Addr} {fdLLawRead : FuncData} (GLLawRead : FnOk P w K mg base CX0 6 fLLawRead fdLLawRead ["text"] (spLLawRead K)) (gLLawRead : mg "_law_read" = some (.ref fLLawRead)) (kpLLawRead : PySem.W.keepIn K (.ref fLLawRead) = true) (bLLawRead : Binds K fdLLawRead ["text"] [])
    {fIsSideName : Addr} {fdIsSideName : FuncData} (GIsSideName : FnOk P w K mg base CX0 4 fIsSideName fdIsSideName ["text"] (spIsSideName K)) (gIsSideName : mg "is_side_name" = some (.ref fIsSideName)) (kpIsSideName : PySem.W.keepIn K (.ref fIsSideName) = true) (bIsSideName : Binds K fdIsSideName ["text"] [])
    {fLLawSideGood : Addr} {fdLLawSideGood : FuncData} (GLLawSideGood : FnOk P w K mg base CX0 1 fLLawSideGood fdLLawSideGood ["text"] (spLLawSideGood K)) (gLLawSideGood : mg "_law_side_good" = some (.ref fLLawSideGood)) (kpLLawSideGood : PySem.W.keepIn K (.ref fLLawSideGood) = true) (bLLawSideGood : Binds K fdLLawSideGood ["text"] [])
    {fLLawGood : Addr} {fdLLawGood : FuncData} (GLLawGood : FnOk P w K mg base CX0 2 fLLawGood fdLLawGood ["text"] (spLLawGood K)) (gLLawGood : mg "_law_good" = some (.ref fLLawGood)) (kpLLawGood : PySem.W.keepIn K (.ref fLLawGood) = true) (bLLawGood : Binds K fdLLawGood ["text"] []) :
    FnOk P w K mg base CX0 7 fLaw fdLaw ["script"] (spLaw K) := by
  refine F.ok scLaw (fun vs H Q E h => ?_) (fun cdv A outer s H vs Q E hr h => ?_)
  · obtain ⟨s0, ns, rfl, hS0, hlen, q⟩ := h
    rfl
  · obtain ⟨s0, ns, rfl, hS0, hlen, q⟩ := h
    refine ⟨_, (pss_cons (ps_set (i := 1) scLaw.nd rfl (Or.inl rfl) (pe_lst (pa_cons pe_str (pa_cons pe_str (pa_cons pe_str (pa_cons pe_str (pa_cons pe_str (pa_cons pe_str (pa_cons pe_str (pa_cons pe_str (pa_cons pe_str pa_nil)))))))))))
      (C8.pss_cut (ps_for PassesOwn.never rfl (pi_range1 rfl T.range (pa_cons pe_int pa_nil)) (pg_name (i := 2) scLaw.nd rfl (Or.inl rfl))
        (pss_cons (ps_set (i := 3) scLaw.nd rfl (Or.inr rfl) (pe_call GLLawNumber (hr.mono (by decide)) (by rfl) gLLawNumber kpLLawNumber bLLawNumber .nil pass0 (pa_cons (pv 0) (pa_cons (pv 2) pa_nil))))
        (pss_cons (ps_set (i := 4) scLaw.nd rfl (Or.inl rfl) (pe_call GLLawSide (hr.mono (by decide)) (by rfl) gLLawSide kpLLawSide bLLawSide .nil pass0 (pa_cons (pe_op op_fdiv (pv 3) pe_int) pa_nil)))
        (pss_cons (ps_if (PW.pt (pw_or (pt_not (pt_val (pe_callB call_isi (by rfl) T.isinstance (by decide +kernel) (pa_cons (pe_call GIsSideName (hr.mono (by decide)) (by rfl) gIsSideName kpIsSideName bIsSideName .nil pass0 (pa_cons (pv 4) pa_nil)) (pa_cons (pe_bltn (v := .ty "bool") (by rfl) T.bool (by decide +kernel) rfl) pa_nil))))) (pw_or1 (pt_cmpR op_ne (pe_call GIsSideName (hr.mono (by decide)) (by rfl) gIsSideName kpIsSideName bIsSideName .nil pass0 (pa_cons (pv 4) pa_nil)) (pe_call GLLawSideGood (hr.mono (by decide)) (by rfl) gLLawSideGood kpLLawSideGood bLLawSideGood .nil pass0 (pa_cons (pv 4) pa_nil)) (nomark _)))))
          (pss_one (ps_ret pe_bl))
          pss_nil)
        (pss_cons (ps_setLc (i := 5) (own := [("j", 11)]) (by rfl) scLaw.nd rfl rfl (sw_true rfl rfl rfl (by decide +kernel)) (pi_range1 rfl T.range (pa_cons (pe_op op_mod (pe_callTy call_int1 (by rfl) T.int (by decide +kernel) (pa_cons (pe_op op_fdiv (pv 3) pe_int) pa_nil)) pe_int) pa_nil)) (blkOk_by (own := [("j", 11)]) (N := ["script", "menu", "k", "draw", "side", "occurrences", "origin", "text", "parts", "at", "changed", "j", "one"]) (sc := defScope sLaw) (by decide +kernel)) (fun _ _ _ _ _ => (pg_name (i := 11) scLaw.nd rfl (Or.inl rfl))) (fun _ _ _ _ _ => pts_nil) (fun _ _ _ _ _ => (pe_op op_add pe_int (pe_op op_mod (pe_callTy call_int1 (by rfl) T.int (by decide +kernel) (pa_cons (pe_op op_fdiv (pv 3) (pe_op op_add pe_int (pe_op op_mul pe_int (pv 11)))) pa_nil)) pe_int))))
        (pss_cons (ps_set (i := 6) scLaw.nd rfl (Or.inl rfl) (pe_tup (pa_cons (pe_op op_mod (pe_callTy call_int1 (by rfl) T.int (by decide +kernel) (pa_cons (pe_op op_fdiv (pv 3) pe_int) pa_nil)) pe_int) (pa_cons (pe_callTy call_tuple_of (by rfl) T.tuple (by decide +kernel) (pa_cons (pv 5) pa_nil)) (pa_cons (pe_slice sl_str (pv 4) po_none (po_some pe_int)) pa_nil)))))
        (pss_cons (ps_set (i := 7) scLaw.nd rfl (Or.inl rfl) (pe_call GOriginText (hr.mono (by decide)) (by rfl) gOriginText kpOriginText bOriginText .nil pass0 (pa_cons (pv 6) pa_nil)))
        (pss_cons (ps_set (i := 8) scLaw.nd rfl (Or.inl rfl) (pe_op op_cat (pe_op op_cat (pe_lst (pa_cons (pe_callTy call_str_int (by rfl) T.str (by decide +kernel) (pa_cons (pe_ix ix_tup (pv 6) pe_int (fun _ _ => rfl)) pa_nil)) pa_nil)) (pe_lc (own := [("one", 12)]) (by rfl) scLaw.nd (pi_list (pv 5)) (blkOk_by (own := [("one", 12)]) (N := ["script", "menu", "k", "draw", "side", "occurrences", "origin", "text", "parts", "at", "changed", "j", "one"]) (sc := defScope sLaw) (by decide +kernel)) (fun _ _ _ _ _ => (pg_name (i := 12) scLaw.nd rfl (Or.inl rfl))) (fun _ _ _ _ _ => pts_nil) (fun _ _ _ _ _ => (pe_callTy call_str_int (by rfl) T.str (by decide +kernel) (pa_cons (pv 12) pa_nil))))) (pe_lst (pa_cons (pe_slice sl_str (pv 4) po_none (po_some pe_int)) pa_nil))))
        (pss_cons (ps_if (PW.pt (pw_or (pt_cmpR op_ne (pv 7) (pe_bm PySem.F.plainAttrs_str PySem.F.slot_str_join PySem.F.type_str_join mt_join pe_str (pa_cons (pv 8) pa_nil)) (nomark _)) (pw_or1 (pt_cmpR (op_neD hr.units) (pe_call GLLawRead hr (by rfl) gLLawRead kpLLawRead bLLawRead .nil pass0 (pa_cons (pv 7) pa_nil)) (pv 6) (nomark _)))))
          (pss_one (ps_ret pe_bl))
          pss_nil)
        (pss_cons (ps_set (i := 9) scLaw.nd rfl (Or.inl rfl) (pe_op op_modN (pe_callTy call_int1 (by rfl) T.int (by decide +kernel) (pa_cons (pe_op op_fdiv (pv 3) pe_int) pa_nil)) (pe_op op_add (pe_callB call_len_str (by rfl) T.len PySem.boot_len (pa_cons (pv 7) pa_nil)) pe_int)))
        (pss_cons (ps_set (i := 10) scLaw.nd rfl (Or.inl rfl) (pe_op op_addS (pe_op op_addS (pe_slice sl_str (pv 7) po_none (po_some (pv 9))) (pe_ix ix_list (pv 1) (pe_op op_mod (pe_callTy call_int1 (by rfl) T.int (by decide +kernel) (pa_cons (pe_op op_fdiv (pv 3) pe_int) pa_nil)) pe_int) (fun _ _ => rfl))) (pe_slice sl_str (pv 7) (po_some (pe_op op_add (pv 9) (pe_op op_mod (pe_callTy call_int1 (by rfl) T.int (by decide +kernel) (pa_cons (pe_op op_fdiv (pv 3) pe_int) pa_nil)) pe_int))) po_none)))
        (pss_one (ps_if (PW.pt (pw_or (pt_cmpR (op_neD hr.units) (pe_call GLLawRead hr (by rfl) gLLawRead kpLLawRead bLLawRead .nil pass0 (pa_cons (pv 10) pa_nil)) (pe_call GLLawGood (hr.mono (by decide)) (by rfl) gLLawGood kpLLawGood bLLawGood .nil pass0 (pa_cons (pv 10) pa_nil)) (nomark _)) (pw_or1 (pt_cmpR op_ne (pe_call GIsSideName (hr.mono (by decide)) (by rfl) gIsSideName kpIsSideName bIsSideName .nil pass0 (pa_cons (pv 10) pa_nil)) (pe_call GLLawSideGood (hr.mono (by decide)) (by rfl) gLLawSideGood kpLLawSideGood bLLawSideGood .nil pass0 (pa_cons (pv 10) pa_nil)) (nomark _)))))
          (pss_one (ps_ret pe_bl))
          pss_nil)))))))))))))
      (pss_one (ps_ret (pe_and (pe_cmpR op_isN (pe_call GLLawRead hr (by rfl) gLLawRead kpLLawRead bLLawRead .nil pass0 (pa_cons pe_str pa_nil)) pe_non (nomark _)) (pe_one (pe_cmpR op_isBl (pe_call GIsSideName (hr.mono (by decide)) (by rfl) gIsSideName kpIsSideName bIsSideName .nil pass0 (pa_cons pe_str pa_nil)) pe_bl (nomark _)))))))), ?_⟩
    have hS : SqL K H s0 (zs ns) := hS0
    refine ⟨by show 9 ≤ sizeLine; decide, fun ml hml => ?_⟩
    rw [show ([V.str "0", V.str ".", V.str "1", V.str "x", V.str "A", V.str " ", V.str "-", V.str "1234567", V.str "_"] : List V) = menu50.map sv from menu_eq]
    rw [show (Str.ofString ".") = S [46] from dot_S]
    generalize hUm : upd H ml _ = Hm
    have sm := same_hu hUm hml
    have em : Hm ml = some (.lst (menu50.map sv)) := at_hu hUm
    clear hUm
    refine ⟨fun σ' H' => Same Hm H' ∧ ∃ v2 v3 v4 v5 v6 v7 v8 v9 v10 : Option V, σ' = [some (.ref s0), some (.ref ml), v2, v3, v4, v5, v6, v7, v8, v9, v10, none, none], ?_, ?_⟩
    · refine ⟨40, rfl, by decide, by decide, for_range (n := 40) (fun i σ' H' => Same Hm H' ∧ ∃ v2 v3 v4 v5 v6 v7 v8 v9 v10 : Option V, σ' = [some (.ref s0), some (.ref ml), v2, v3, v4, v5, v6, v7, v8, v9, v10, none, none]) ?_ ?_ (fun _ _ h => h)⟩
      · exact ⟨Same.refl _, none, none, none, none, none, none, none, none, none, rfl⟩
      rintro i σ' H0 hi ⟨z0, v2, v3, v4, v5, v6, v7, v8, v9, v10, rfl⟩
      have hi0 : (0 : Int) + (i : Int) = (i : Int) := by omega
      refine ⟨_, rfl, _, rfl, s0, ns, i, by rw [hi0]; rfl, (sm.trans z0).seq hS, fun dr => ?_⟩
      walk_at "go"
      intro c r lr hc hin
      have lcr : (c :: r).length ≤ 3000 := by
        rw [List.length_cons]
        omega
      have nmW := shortW_take hc hin
      obtain ⟨nmI, nmL⟩ := shortW_in nmW
      walk_at "go"
      refine ⟨.bl _, .ty "bool", .type "bool", .type "bool", true, rfl, .ty _, .base (.bl _), kit_ty (by decide +kernel), true, rfl, ?_⟩
      refine iteF' rfl ?_
      walk_at "go"
      refine iteF' (by rw [decide_eq_true rfl]; rfl) ?_
      have m0 := Int.emod_nonneg (dr / 13) (show (13 : Int) ≠ 0 by decide)
      have m1 := Int.emod_lt_of_pos (dr / 13) (show (0 : Int) < 13 by decide)
      walk_at "go"
      refine ⟨by omega, by omega, fun D1 nD1 => ?_⟩
      obtain ⟨m, hm⟩ : ∃ m : Nat, dr / 13 % 13 = (m : Int) := ⟨(dr / 13 % 13).toNat, by omega⟩
      rw [hm, Int.toNat_natCast]
      refine lc_val walk_range ((List.range m).map fun j => V.int (oc dr j)) (by simp) (by omega) nD1 (fun _ _ => trivial) ?_ ?_
      · rintro j c' v' H4 H5 kk hc' s4 ⟨rfl, rfl⟩ kk2
        have hj : j < m := by
          have := (List.getElem?_eq_some_iff.mp hc').1
          simpa using this
        rw [List.getElem?_map, List.getElem?_range hj] at hc'
        obtain rfl : V.int (oc dr j) = c' := Option.some.inj hc'
        walk_at "go"
        refine ⟨⟨by omega, by omega⟩, ?_⟩
        walk_at "go"
        exact kk2 _ (Same.refl _)
      intro H1 s1 e1
      obtain ⟨ks, hks⟩ : ∃ ks : List Nat, ks = (List.range m).map fun j => (oc dr j).toNat := ⟨_, rfl⟩
      have eL : ((List.range m).map fun j => V.int (oc dr j)) = ks.map fun k => V.int (k : Nat) := by
        rw [hks, List.map_map]
        refine List.map_congr_left fun j _ => ?_
        show V.int (oc dr j) = V.int (((oc dr j).toNat : Nat) : Int)
        rw [(oc_in dr j).2.2]
      have kb : ∀ k ∈ ks, 1 ≤ k ∧ k < 10 ^ 6 := fun k hk => by
        rw [hks] at hk
        obtain ⟨j, _, rfl⟩ := List.mem_map.mp hk
        exact ⟨(oc_in dr j).1, (oc_in dr j).2.1⟩
      have kl : ks.length ≤ 12 := by
        rw [hks, List.length_map, List.length_range]
        omega
      rw [eL] at e1
      clear eL
      have n0 := Int.emod_nonneg (dr / 7) (show (1000000 : Int) ≠ 0 by decide)
      have n1 := Int.emod_lt_of_pos (dr / 7) (show (0 : Int) < 1000000 by decide)
      obtain ⟨n, hn⟩ : ∃ n : Nat, dr / 7 % 1000000 = (n : Int) := ⟨(dr / 7 % 1000000).toNat, by omega⟩
      have hn6 : n < 10 ^ 6 := by
        have : (10 : Nat) ^ 6 = 1000000 := by decide
        omega
      walk_at "go"
      refine ⟨D1, _, rfl, .inl ⟨SqL.of e1, fun t2 nt2 => ?_⟩⟩
      generalize hU2 : upd H1 t2 _ = H2
      have s2 := same_hu hU2 nt2
      have e2 : H2 t2 = some (.tup (ks.map fun k => V.int (k : Nat))) := at_hu hU2
      clear hU2
      walk_at "go"
      refine ⟨S_sl lcr, ?_⟩
      have ec16 : cutS (S (c :: r)) none (some (16 : Int)) = S ((c :: r).take 16) := cut_to (n := 16)
      rw [ec16]
      walk_at "go"
      refine ⟨tn rfl, fun t3 nt3 => ?_⟩
      generalize hUt3 : upd _ _ (HO.tup _) = H3
      have s3 := same_hu hUt3 nt3
      have eh3 := at_hu hUt3
      have h3 := SqT.of (K := K) eh3
      clear hUt3
      obtain ⟨nm, hnm⟩ : ∃ nm, nm = (c :: r).take 16 := ⟨_, rfl⟩
      rw [← hnm] at nmW nmI nmL
      have h3' : SqT K H3 t3 [.int (n : Int), .ref t2, .str (S nm)] := by
        rw [← hn, hnm]
        exact h3
      have O3 : Ot K H3 t3 n ks nm := ⟨t2, h3', same_tup s3 (SqT.of e2)⟩
      have s03 := s1.trans (s2.trans s3)
      walk_at "go"
      refine ⟨t3, n, ks, nm, rfl, O3, hn6, fun k hk => (kb k hk).2, kl, nmL, fun H4 s4 => ?_⟩
      have h34 := same_tup s4 h3'
      walk_at "go"
      refine ⟨by
        rw [Int.natAbs_natCast]
        exact Nat.lt_of_lt_of_le (PySem.Flt.log2_lt_of (k := 20) (by decide) (Nat.lt_of_lt_of_le hn6 (by decide))) (by decide), ?_⟩
      rw [show Str.ofString (toString ((n : Nat) : Int)) = S (TL.numL n) from SX.num_S n]
      walk_at "go"
      refine ⟨tn rfl, fun t5 nt5 => ?_⟩
      generalize hUt5 : upd _ _ (HO.lst _) = H5
      have s5 := same_hu hUt5 nt5
      have eh5 := at_hu hUt5
      have h5 := SqL.of (K := K) eh5
      clear hUt5
      have e15 := (s2.trans (s3.trans (s4.trans s5))) _ _ e1
      walk_at "go"
      refine ⟨⟨_, SqL.of e15⟩, fun D6 nD6 => ?_⟩
      refine lc_val (walk_list (K := K) (a := D1) (xs := ks.map fun k => V.int (k : Nat))) (ks.map fun z => sv (TL.numL z)) (by simp) (by rw [List.length_map]; omega) nD6 (fun H2 s2 => s2.seq (SqL.of e15)) ?_ ?_
      · rintro j c' v' H6 H7 kk hc' s6 ⟨rfl, hg⟩ kk2
        rw [List.getElem?_map] at hg hc'
        cases ei : ks[j]? with
        | none =>
          rw [ei] at hg
          cases hg
        | some z =>
          rw [ei] at hg hc'
          obtain rfl : V.int (z : Nat) = v' := Option.some.inj hg
          obtain rfl : sv (TL.numL z) = c' := Option.some.inj hc'
          have hz := (kb z (List.mem_of_getElem? ei)).2
          have e0 : V.str (Str.ofString (toString ((z : Nat) : Int))) = sv (TL.numL z) := congrArg V.str (SX.num_S z)
          refine ⟨rfl, _, rfl, _, rfl, ?_, ?_⟩
          · rw [Int.natAbs_natCast]
            exact Nat.lt_of_lt_of_le (PySem.Flt.log2_lt_of (k := 20) (by decide) (Nat.lt_of_lt_of_le hz (by decide))) (by decide)
          · rw [e0]
            exact kk2 _ (Same.refl _)
      intro H6 s6 e6
      refine ⟨t5, D6, _, _, rfl, rfl, s6 _ _ eh5, e6, by rw [PySem.sizeLine_eq, List.length_map]; show 1 + _ ≤ _; omega, fun p7 n7 => ?_⟩
      generalize hU7 : upd H6 p7 _ = H7
      have s7 := same_hu hU7 n7
      have e7 := at_hu hU7
      clear hU7
      walk_at "go"
      refine ⟨S_sl lcr, ?_⟩
      rw [ec16, ← hnm]
      walk_at "go"
      refine ⟨tn rfl, fun t8 nt8 => ?_⟩
      generalize hUt8 : upd _ _ (HO.lst _) = H8
      have s8 := same_hu hUt8 nt8
      have eh8 := at_hu hUt8
      have h8 := SqL.of (K := K) eh8
      clear hUt8
      refine ⟨p7, t8, _, _, rfl, rfl, s8 _ _ e7, eh8, by rw [PySem.sizeLine_eq, List.length_append, List.length_map]; show 1 + _ + 1 ≤ _; omega, fun p9 n9 => ?_⟩
      have ek : [V.str (S (TL.numL n))] ++ (ks.map fun z => sv (TL.numL z)) ++ [V.str (S nm)] = (((n :: ks).map TL.numL ++ [nm]).map S).map V.str := by
        rw [List.map_append, List.map_append, List.map_map, List.map_map]
        rfl
      rw [ek]
      generalize hU9 : upd H8 p9 _ = H9
      have s9 := same_hu hU9 n9
      have e9 : H9 p9 = some (.lst ((((n :: ks).map TL.numL ++ [nm]).map S).map V.str)) := at_hu hU9
      clear hU9
      have s39 := s4.trans (s5.trans (s6.trans (s7.trans (s8.trans s9))))
      have hsm : ∀ p ∈ ((n :: ks).map TL.numL ++ [nm]), p.length ≤ 16 := fun p hp => by
        rcases List.mem_append.mp hp with h | h
        · obtain ⟨z, hz, rfl⟩ := List.mem_map.mp h
          have h2 : z < 10 ^ 6 := by
            rcases List.mem_cons.mp hz with rfl | h3
            · exact hn6
            · exact (kb z h3).2
          have := TL.numL_len (k := 6) (by decide) h2
          omega
        · rw [List.mem_singleton.mp h]
          exact nmL
      have hsl := sum_lens (m := 16) _ hsm
      have hlen14 : ((n :: ks).map TL.numL ++ [nm]).length ≤ 14 := by
        rw [List.length_append, List.length_map, List.length_cons]
        show _ + 1 + 1 ≤ _
        omega
      walk_at "go"
      refine ⟨S [46], p9, ((n :: ks).map TL.numL ++ [nm]).map S, rfl, rfl, .inl (SqL.of e9), ?_, ?_⟩
      · rw [List.length_map, SX.S_len]
        show _ + _ * 1 ≤ _
        omega
      rw [SX.join_S, show TL.joinL [46] ((n :: ks).map TL.numL ++ [nm]) = otl n ks nm from rfl]
      walk_at "go"
      refine iteF' (by rw [decide_eq_true rfl]; rfl) ?_
      have hrd := rdo_otl hn6 kb kl nmW
      have hol := otl_len hn6 (fun k hk => (kb k hk).2) kl nmL
      walk_at "go"
      refine ⟨by omega, (fun h => by rw [hrd] at h; cases h), fun n' ks' nm' h H10 t10 s10 O10 => ?_⟩
      rw [hrd] at h
      injection h with h
      injection h with ha h
      injection h with hb hc2
      subst ha hb hc2
      walk_at "go"
      refine ⟨pdo n ks nm, pdo n ks nm, dp_ot O10, dp_ot ⟨t2, same_tup (s39.trans s10) h3', same_tup (s3.trans (s39.trans s10)) (SqT.of e2)⟩, sh_pdo nmI, sh_pdo nmI, ?_⟩
      rw [eqv_pdo nmI]
      walk_at "go"
      have w10 : Same H H10 := sm.trans (z0.trans (s03.trans (s39.trans s10)))
      have z10 : Same Hm H10 := z0.trans (s03.trans (s39.trans s10))
      refine ⟨S_sl (by omega), ?_⟩
      rw [lenS]
      obtain ⟨tl, htl⟩ : ∃ tl, tl = otl n ks nm := ⟨_, rfl⟩
      rw [← htl] at hol ⊢
      walk_at "go"
      refine ⟨by omega, ?_⟩
      have f0 := Int.emod_nonneg (dr / 11) (show ((tl.length : Int) + 1) ≠ 0 by omega)
      have f1 := Int.emod_lt_of_pos (dr / 11) (show (0 : Int) < ((tl.length : Int) + 1) by omega)
      have ef : (dr / 11).fmod ((tl.length : Int) + 1) = (dr / 11) % ((tl.length : Int) + 1) := Int.fmod_eq_emod_of_nonneg _ (by omega)
      obtain ⟨m2, hm2⟩ : ∃ m2 : Nat, (dr / 11).fmod ((tl.length : Int) + 1) = (m2 : Int) := ⟨((dr / 11) % ((tl.length : Int) + 1)).toNat, by omega⟩
      have c1 : cutS (S tl) none (some ((dr / 11).fmod ((tl.length : Int) + 1))) = S (tl.take m2) := by
        rw [hm2]
        exact cut_to
      have g0 := Int.emod_nonneg (dr / 19) (show (9 : Int) ≠ 0 by decide)
      have g1 := Int.emod_lt_of_pos (dr / 19) (show (0 : Int) < 9 by decide)
      have y0 := Int.emod_nonneg (dr / 23) (show (3 : Int) ≠ 0 by decide)
      have y1 := Int.emod_lt_of_pos (dr / 23) (show (0 : Int) < 3 by decide)
      obtain ⟨l, gl, hll⟩ : ∃ l, atI (menu50.map sv) (dr / 19 % 9) = some (sv l) ∧ l.length ≤ 7 := by
        obtain ⟨j, hj⟩ : ∃ j : Nat, dr / 19 % 9 = (j : Int) := ⟨(dr / 19 % 9).toNat, by omega⟩
        have hj9 : j < menu50.length := by
          show j < 9
          omega
        rw [hj]
        refine ⟨menu50[j], atI_nat (by rw [List.getElem?_map, List.getElem?_eq_getElem hj9]; rfl), ?_⟩
        exact (show ∀ l ∈ menu50, l.length ≤ 7 by decide) _ (List.getElem_mem hj9)
      obtain ⟨m3, hm3⟩ : ∃ m3 : Nat, (dr / 11).fmod ((tl.length : Int) + 1) + dr / 23 % 3 = (m3 : Int) := ⟨((dr / 11).fmod ((tl.length : Int) + 1) + dr / 23 % 3).toNat, by omega⟩
      have c2 : cutS (S tl) (some ((dr / 11).fmod ((tl.length : Int) + 1) + dr / 23 % 3)) none = S (tl.drop m3) := by
        rw [hm3]
        exact cut_from
      walk_at "go"
      refine ⟨S_sl (by omega), ?_⟩
      rw [c1]
      walk_at "go"
      refine ⟨ml, _, _, _, rfl, rfl, SqL.of (z10 _ _ em), gl, ?_⟩
      refine ⟨tl.take m2, l, rfl, rfl, by rw [List.length_take]; omega, ?_⟩
      walk_at "go"
      refine ⟨S_sl (by omega), ?_⟩
      rw [c2]
      obtain ⟨ch, hch⟩ : ∃ ch, ch = tl.take m2 ++ l ++ tl.drop m3 := ⟨_, rfl⟩
      have hcl : ch.length ≤ 500 := by
        rw [hch, List.length_append, List.length_append, List.length_take, List.length_drop]
        omega
      refine ⟨tl.take m2 ++ l, tl.drop m3, rfl, rfl, by rw [List.length_append, List.length_take, List.length_drop]; omega, ?_⟩
      rw [← hch]
      clear c1 c2 hch hm3 hm2 ef f0 f1 g0 g1 y0 y1
      have hc3 : ch.length ≤ 3000 := by omega
      have hc29 : ch.length ≤ 2900 := by omega
      walk_at "go"
      refine ⟨fun h H11 s11 => ?_, fun n' ks' nm' h H11 t11 s11 O11 => ?_⟩
      · walk_at "go"
        refine ⟨fun _ H12 s12 => ?_, fun n' ks' nm' h2 => by rw [h] at h2; cases h2⟩
        refine ⟨.none, .none, .non, .non, rfl, rfl, ?_⟩
        walk_at "go"
        refine iteF' (by rw [decide_eq_true rfl]; rfl) ?_
        exact ⟨z10.trans (s11.trans s12), _, _, _, _, _, _, _, _, _, rfl⟩
      · walk_at "go"
        refine ⟨(fun h2 => by rw [h] at h2; cases h2), fun n2 ks2 nm2 h2 H12 t12 s12 O12 => ?_⟩
        rw [h] at h2
        injection h2 with h2
        injection h2 with ha2 h2
        injection h2 with hb2 hc22
        subst ha2 hb2 hc22
        have hnI := rdo_in h
        refine ⟨pdo n' ks' nm', pdo n' ks' nm', dp_ot (by obtain ⟨q, a1, a2⟩ := O11; exact ⟨q, same_tup s12 a1, same_tup s12 a2⟩), dp_ot O12, sh_pdo hnI, sh_pdo hnI, ?_⟩
        rw [eqv_pdo hnI]
        walk_at "go"
        refine iteF' (by rw [decide_eq_true rfl]; rfl) ?_
        exact ⟨z10.trans (s11.trans s12), _, _, _, _, _, _, _, _, _, rfl⟩
    rintro σ' H' ⟨zz, v2, v3, v4, v5, v6, v7, v8, v9, v10, rfl⟩
    rw [show (Str.ofString "") = S [] from lit_nil]
    walk_at "go"
    refine ⟨Nat.zero_le _, fun _ H2 s2 => ?_, fun n ks nm h => by rw [rdo_nil] at h; cases h⟩
    walk_at "go"
    refine ⟨Nat.zero_le _, ?_⟩
    walk_at "go"
    exact q H2
end
theorem all_mk {l : PySem.W.OpenLaw} {w : World} {K : PySem.W.Frag} {h : Heap} {mg : Str → Option Value} {fa f1 f2 f3 f4 f5 f6 f7 f8 f9 f10 f11 f12 f13 f14  CPartError CTextFault fIni : Addr} (X : K.In h) (G : h.Ns mainGlobals mg) (hfa : mg "law" = some (.ref fa))
    {od1 an1 od2 an2 od3 an3 od4 an4 od5 an5 od6 an6 od7 an7 od8 an8 od9 an9 od10 an10 od11 an11 od12 an12 od13 an13 od14 an14 : Option Addr} {sl1 sl2 sl3 sl4 sl5 sl6 sl7 sl8 sl9 sl10 sl11 sl12 sl13 sl14 : Array (Option Value)} {oc1 kV1 dc1 pm1 cd1 ct1 oc2 kV2 dc2 pm2 cd2 ct2 oc3 kV3 dc3 pm3 cd3 ct3 oc4 kV4 dc4 pm4 cd4 ct4 oc5 kV5 dc5 pm5 cd5 ct5 oc6 kV6 dc6 pm6 cd6 ct6 oc7 kV7 dc7 pm7 cd7 ct7 oc8 kV8 dc8 pm8 cd8 ct8 oc9 kV9 dc9 pm9 cd9 ct9 oc10 kV10 dc10 pm10 cd10 ct10 oc11 kV11 dc11 pm11 cd11 ct11 oc12 kV12 dc12 pm12 cd12 ct12 oc13 kV13 dc13 pm13 cd13 ct13 oc14 kV14 dc14 pm14 cd14 ct14 : Value}
    (a1 : PySem.W.nsIn K mainGlobals "row_end" = some (some (.ref f1))) (l1 : K.lookup f1 = some ⟨oc1, od1, .func (PySem.W.fnOf "row_end" "row_end" (defArgs sRowEnd) (defBody sRowEnd) (defScope sRowEnd) .none kV1 dc1 pm1 an1 cd1 ct1), sl1⟩) (c1 : PySem.W.codeIn K cd1 "row_end" = true) (k1 : PySem.W.keepIn K (.ref f1) = true)
    (a2 : PySem.W.nsIn K mainGlobals "is_row" = some (some (.ref f2))) (l2 : K.lookup f2 = some ⟨oc2, od2, .func (PySem.W.fnOf "is_row" "is_row" (defArgs sIsRow) (defBody sIsRow) (defScope sIsRow) .none kV2 dc2 pm2 an2 cd2 ct2), sl2⟩) (c2 : PySem.W.codeIn K cd2 "is_row" = true) (k2 : PySem.W.keepIn K (.ref f2) = true)
    (a3 : PySem.W.nsIn K mainGlobals "is_short_word" = some (some (.ref f3))) (l3 : K.lookup f3 = some ⟨oc3, od3, .func (PySem.W.fnOf "is_short_word" "is_short_word" (defArgs sIsShortWord) (defBody sIsShortWord) (defScope sIsShortWord) .none kV3 dc3 pm3 an3 cd3 ct3), sl3⟩) (c3 : PySem.W.codeIn K cd3 "is_short_word" = true) (k3 : PySem.W.keepIn K (.ref f3) = true)
    (a4 : PySem.W.nsIn K mainGlobals "is_plain_number" = some (some (.ref f4))) (l4 : K.lookup f4 = some ⟨oc4, od4, .func (PySem.W.fnOf "is_plain_number" "is_plain_number" (defArgs sIsPlainNumber) (defBody sIsPlainNumber) (defScope sIsPlainNumber) .none kV4 dc4 pm4 an4 cd4 ct4), sl4⟩) (c4 : PySem.W.codeIn K cd4 "is_plain_number" = true) (k4 : PySem.W.keepIn K (.ref f4) = true)
    (a5 : PySem.W.nsIn K mainGlobals "is_side_name" = some (some (.ref f5))) (l5 : K.lookup f5 = some ⟨oc5, od5, .func (PySem.W.fnOf "is_side_name" "is_side_name" (defArgs sIsSideName) (defBody sIsSideName) (defScope sIsSideName) .none kV5 dc5 pm5 an5 cd5 ct5), sl5⟩) (c5 : PySem.W.codeIn K cd5 "is_side_name" = true) (k5 : PySem.W.keepIn K (.ref f5) = true)
    (a6 : PySem.W.nsIn K mainGlobals "read_origin" = some (some (.ref f6))) (l6 : K.lookup f6 = some ⟨oc6, od6, .func (PySem.W.fnOf "read_origin" "read_origin" (defArgs sReadOrigin) (defBody sReadOrigin) (defScope sReadOrigin) .none kV6 dc6 pm6 an6 cd6 ct6), sl6⟩) (c6 : PySem.W.codeIn K cd6 "read_origin" = true) (k6 : PySem.W.keepIn K (.ref f6) = true)
    (a7 : PySem.W.nsIn K mainGlobals "origin_text" = some (some (.ref f7))) (l7 : K.lookup f7 = some ⟨oc7, od7, .func (PySem.W.fnOf "origin_text" "origin_text" (defArgs sOriginText) (defBody sOriginText) (defScope sOriginText) .none kV7 dc7 pm7 an7 cd7 ct7), sl7⟩) (c7 : PySem.W.codeIn K cd7 "origin_text" = true) (k7 : PySem.W.keepIn K (.ref f7) = true)
    (a8 : PySem.W.nsIn K mainGlobals "_law_number" = some (some (.ref f8))) (l8 : K.lookup f8 = some ⟨oc8, od8, .func (PySem.W.fnOf "_law_number" "_law_number" (defArgs sLLawNumber) (defBody sLLawNumber) (defScope sLLawNumber) .none kV8 dc8 pm8 an8 cd8 ct8), sl8⟩) (c8 : PySem.W.codeIn K cd8 "_law_number" = true) (k8 : PySem.W.keepIn K (.ref f8) = true)
    (a9 : PySem.W.nsIn K mainGlobals "_law_side" = some (some (.ref f9))) (l9 : K.lookup f9 = some ⟨oc9, od9, .func (PySem.W.fnOf "_law_side" "_law_side" (defArgs sLLawSide) (defBody sLLawSide) (defScope sLLawSide) .none kV9 dc9 pm9 an9 cd9 ct9), sl9⟩) (c9 : PySem.W.codeIn K cd9 "_law_side" = true) (k9 : PySem.W.keepIn K (.ref f9) = true)
    (a10 : PySem.W.nsIn K mainGlobals "_law_side_good" = some (some (.ref f10))) (l10 : K.lookup f10 = some ⟨oc10, od10, .func (PySem.W.fnOf "_law_side_good" "_law_side_good" (defArgs sLLawSideGood) (defBody sLLawSideGood) (defScope sLLawSideGood) .none kV10 dc10 pm10 an10 cd10 ct10), sl10⟩) (c10 : PySem.W.codeIn K cd10 "_law_side_good" = true) (k10 : PySem.W.keepIn K (.ref f10) = true)
    (a11 : PySem.W.nsIn K mainGlobals "_law_number_good" = some (some (.ref f11))) (l11 : K.lookup f11 = some ⟨oc11, od11, .func (PySem.W.fnOf "_law_number_good" "_law_number_good" (defArgs sLLawNumberGood) (defBody sLLawNumberGood) (defScope sLLawNumberGood) .none kV11 dc11 pm11 an11 cd11 ct11), sl11⟩) (c11 : PySem.W.codeIn K cd11 "_law_number_good" = true) (k11 : PySem.W.keepIn K (.ref f11) = true)
    (a12 : PySem.W.nsIn K mainGlobals "_law_good" = some (some (.ref f12))) (l12 : K.lookup f12 = some ⟨oc12, od12, .func (PySem.W.fnOf "_law_good" "_law_good" (defArgs sLLawGood) (defBody sLLawGood) (defScope sLLawGood) .none kV12 dc12 pm12 an12 cd12 ct12), sl12⟩) (c12 : PySem.W.codeIn K cd12 "_law_good" = true) (k12 : PySem.W.keepIn K (.ref f12) = true)
    (a13 : PySem.W.nsIn K mainGlobals "_law_read" = some (some (.ref f13))) (l13 : K.lookup f13 = some ⟨oc13, od13, .func (PySem.W.fnOf "_law_read" "_law_read" (defArgs sLLawRead) (defBody sLLawRead) (defScope sLLawRead) .none kV13 dc13 pm13 an13 cd13 ct13), sl13⟩) (c13 : PySem.W.codeIn K cd13 "_law_read" = true) (k13 : PySem.W.keepIn K (.ref f13) = true)
    (a14 : PySem.W.nsIn K mainGlobals "law" = some (some (.ref f14))) (l14 : K.lookup f14 = some ⟨oc14, od14, .func (PySem.W.fnOf "law" "law" (defArgs sLaw) (defBody sLaw) (defScope sLaw) .none kV14 dc14 pm14 an14 cd14 ct14), sl14⟩) (c14 : PySem.W.codeIn K cd14 "law" = true) (k14 : PySem.W.keepIn K (.ref f14) = true)
    (z1 : PySem.W.nsIn K mainGlobals "all" = some none)
    (z2 : PySem.W.nsIn K mainGlobals "bool" = some none)
    (z3 : PySem.W.nsIn K mainGlobals "int" = some none)
    (z4 : PySem.W.nsIn K mainGlobals "isinstance" = some none)
    (z5 : PySem.W.nsIn K mainGlobals "len" = some none)
    (z6 : PySem.W.nsIn K mainGlobals "range" = some none)
    (z7 : PySem.W.nsIn K mainGlobals "str" = some none)
    (z8 : PySem.W.nsIn K mainGlobals "tuple" = some none)
    {aDIGITS : Tok} (u0 : PySem.W.nsIn K mainGlobals "DIGITS" = some (some (.str "0123456789" aDIGITS)))
    {aSMALL_LETTERS : Tok} (u1 : PySem.W.nsIn K mainGlobals "SMALL_LETTERS" = some (some (.str "abcdefghijklmnopqrstuvwxyz" aSMALL_LETTERS)))
    {aLETTERS_AND_DIGITS : Tok} (u2 : PySem.W.nsIn K mainGlobals "LETTERS_AND_DIGITS" = some (some (.str "abcdefghijklmnopqrstuvwxyzABCDEFGHIJKLMNOPQRSTUVWXYZ0123456789" aLETTERS_AND_DIGITS)))
    {aNAME_LENGTH : Tok} (u3 : PySem.W.nsIn K mainGlobals "NAME_LENGTH" = some (some (.int 16 aNAME_LENGTH)))
    {aMOST_OCCURRENCES : Tok} (u4 : PySem.W.nsIn K mainGlobals "MOST_OCCURRENCES" = some (some (.int 12 aMOST_OCCURRENCES)))
    {aNUMBER_DIGITS : Tok} (u5 : PySem.W.nsIn K mainGlobals "NUMBER_DIGITS" = some (some (.int 6 aNUMBER_DIGITS)))
    (y0 : PySem.W.nsIn K mainGlobals "PartError" = some (some (.ref CPartError)))
    (y1 : PySem.W.nsIn K mainGlobals "TextFault" = some (some (.ref CTextFault)))
    {odI anI : Option Addr} {slI : Array (Option Value)} {ocI kVI dcI pmI cdI ctI : Value} (lI : K.lookup fIni = some ⟨ocI, odI, .func (PySem.W.fnOf "__init__" "TextFault.__init__" (defArgs sIni) (defBody sIni) (defScope sIni) .none kVI dcI pmI anI cdI ctI), slI⟩) (cI : PySem.W.codeIn K cdI "TextFault.__init__" = true) (kI : PySem.W.keepIn K (.ref fIni) = true)
    {nm q : Str} {N : Addr} {bs : List Value} {sn : List Str} {sub : List Value} {ab : Bool} {col : Option Bool} {dd : Option Addr} {m0 m1 m2 m3 m5 : Option Value}
    (xL : K.lookup CTextFault = some (excClassObj nm q CTextFault N bs [.ref CPartError, .type "ValueError", .type "Exception", .type "BaseException", .type "object"] true sn sub ab col dd m0 m1 m2 m3 m5 "ValueError.__new__"))
    (v0 : PySem.W.findIn K (.ref CTextFault) "__setattr__" = some (some (.builtin "object.__setattr__")))
    (v1 : PySem.W.findIn K (.ref CTextFault) "__getattribute__" = some (some (.builtin "BaseException.__getattribute__")))
    (v2 : PySem.W.findIn K (.ref CTextFault) "__getattr__" = some none)
    (v3 : PySem.W.findIn K (.ref CTextFault) "line" = some none)
    (v4 : PySem.W.findIn K (.ref CTextFault) "column" = some none)
    (v5 : PySem.W.findIn K (.ref CTextFault) "__init__" = some (some (.ref fIni)))
    (v6 : PySem.W.typeIn K (.ref fIni) = some (.type "function"))
    (v7 : PySem.W.keepIn K (.ref CTextFault) = true)
    (v8 : PySem.W.subIn K (.ref CTextFault) (.type "BaseException") = some true)
    (v9 : PySem.W.typeIn K (.ref CTextFault) = some (.type "type"))
    (v10 : PySem.W.hasDictIn K CTextFault = true)
    (v11 : PySem.W.isClsIn K CTextFault = true)
    (v12 : PySem.W.subIn K (.ref CTextFault) (.ref CTextFault) = some true)
    (v13 : PySem.W.findIn K (.ref CTextFault) "__class__" = some (some (.builtin "object.__class__")))
    (v14 : PySem.W.specialIn K (.builtin "object.__class__") "__get__" = some (some (.builtin "getset_descriptor.__get__")))
    (v15 : PySem.W.takesIn K (.builtin "object.__class__") = some true)
    (v16 : PySem.W.mroIn K CTextFault (.type "object") = some true)
    (v17 : PySem.W.subIn K (.ref CPartError) (.type "BaseException") = some true)
    (v18 : PySem.W.isClsIn K CPartError = true)
    (v19 : PySem.W.typeIn K (.ref CPartError) = some (.type "type"))
    (v20 : PySem.W.subIn K (.ref CTextFault) (.ref CPartError) = some true)
    : ∃ fd : FuncData, (∀ (s : Shared) (v : Value), BindsTo s fd ⟨[v], []⟩ [("script", v)]) ∧ ∀ base : Heap, K.In base → base.Ns mainGlobals mg → FnOk l.prog w K mg base CX0 7 fa fd ["script"] (spLaw K) := by
  have e := hfa.symm.trans (PySem.W.mg_of X G a14)
  cases e
  have T : Txt mg := ⟨PySem.W.mg_none_of X G z1, PySem.W.mg_none_of X G z2, PySem.W.mg_none_of X G z3, PySem.W.mg_none_of X G z4, PySem.W.mg_none_of X G z5, PySem.W.mg_none_of X G z6, PySem.W.mg_none_of X G z7, PySem.W.mg_none_of X G z8⟩
  have CT : Cons K mg aDIGITS aSMALL_LETTERS aLETTERS_AND_DIGITS aNAME_LENGTH aMOST_OCCURRENCES aNUMBER_DIGITS := ⟨PySem.W.mg_of X G u0, PySem.W.mg_of X G u1, PySem.W.mg_of X G u2, PySem.W.mg_of X G u3, PySem.W.mg_of X G u4, PySem.W.mg_of X G u5⟩
  have EX : Exns K mg CPartError CTextFault := ⟨PySem.W.mg_of X G y0, PySem.W.mg_of X G y1⟩
  have FL : Flt K mg CPartError CTextFault fIni := ⟨EX.gTextFault, ⟨nm, q, N, bs, _, sn, sub, ab, col, dd, m0, m1, m2, m3, m5, xL, show PySem.HandSPX.refsVE [.type "ValueError", .type "Exception", .type "BaseException", .type "object"] = true by decide +kernel⟩, v0, v1, v2, v3, v4, v5, v6, v7, v8, v9, v10, v11, v12, v13, v14, v15, v16, v17, v18, v19, v20⟩
  have FI := fun_mk (st := sIni) lI cI kI
  have bI := FI.binds (ps := ["self", "line", "column"]) fun _ _ _ _ _ _ us hl => match us, hl with | [_, _, _], _ => rfl
  have F1 := fun_mk (st := sRowEnd) l1 c1 k1
  have F2 := fun_mk (st := sIsRow) l2 c2 k2
  have F3 := fun_mk (st := sIsShortWord) l3 c3 k3
  have F4 := fun_mk (st := sIsPlainNumber) l4 c4 k4
  have F5 := fun_mk (st := sIsSideName) l5 c5 k5
  have F6 := fun_mk (st := sReadOrigin) l6 c6 k6
  have F7 := fun_mk (st := sOriginText) l7 c7 k7
  have F8 := fun_mk (st := sLLawNumber) l8 c8 k8
  have F9 := fun_mk (st := sLLawSide) l9 c9 k9
  have F10 := fun_mk (st := sLLawSideGood) l10 c10 k10
  have F11 := fun_mk (st := sLLawNumberGood) l11 c11 k11
  have F12 := fun_mk (st := sLLawGood) l12 c12 k12
  have F13 := fun_mk (st := sLLawRead) l13 c13 k13
  have F14 := fun_mk (st := sLaw) l14 c14 k14
  have b1 := F1.binds (ps := ["text", "at", "allowed"]) fun _ _ _ _ _ _ us hl => match us, hl with | [_, _, _], _ => rfl
  have b2 := F2.binds (ps := ["text", "allowed"]) fun _ _ _ _ _ _ us hl => match us, hl with | [_, _], _ => rfl
  have b3 := F3.binds (ps := ["text", "first", "others"]) fun _ _ _ _ _ _ us hl => match us, hl with | [_, _, _], _ => rfl
  have b4 := F4.binds (ps := ["text", "most"]) fun _ _ _ _ _ _ us hl => match us, hl with | [_, _], _ => rfl
  have b5 := F5.binds (ps := ["text"]) fun _ _ _ _ _ _ us hl => match us, hl with | [_], _ => rfl
  have b6 := F6.binds (ps := ["text"]) fun _ _ _ _ _ _ us hl => match us, hl with | [_], _ => rfl
  have b7 := F7.binds (ps := ["origin"]) fun _ _ _ _ _ _ us hl => match us, hl with | [_], _ => rfl
  have b8 := F8.binds (ps := ["script", "k"]) fun _ _ _ _ _ _ us hl => match us, hl with | [_, _], _ => rfl
  have b9 := F9.binds (ps := ["draw"]) fun _ _ _ _ _ _ us hl => match us, hl with | [_], _ => rfl
  have b10 := F10.binds (ps := ["text"]) fun _ _ _ _ _ _ us hl => match us, hl with | [_], _ => rfl
  have b11 := F11.binds (ps := ["text"]) fun _ _ _ _ _ _ us hl => match us, hl with | [_], _ => rfl
  have b12 := F12.binds (ps := ["text"]) fun _ _ _ _ _ _ us hl => match us, hl with | [_], _ => rfl
  have b13 := F13.binds (ps := ["text"]) fun _ _ _ _ _ _ us hl => match us, hl with | [_], _ => rfl
  refine ⟨PySem.W.fnOf "law" "law" (defArgs sLaw) (defBody sLaw) (defScope sLaw) .none kV14 dc14 pm14 an14 cd14 ct14, fun s v => .of_eq rfl, fun base _ _ => ?_⟩
  have G1 : FnOk l.prog w K mg base CX0 1 f1 _ ["text", "at", "allowed"] (spRowEnd K) := okRowEnd F1 T CT EX FL (okIni FI FL.ox FL.nline FL.ncolumn) bI 
  have G2 : FnOk l.prog w K mg base CX0 2 f2 _ ["text", "allowed"] (spIsRow K) := okIsRow F2 T CT EX FL (okIni FI FL.ox FL.nline FL.ncolumn) bI G1 (PySem.W.mg_of X G a1) k1 b1
  have G3 : FnOk l.prog w K mg base CX0 3 f3 _ ["text", "first", "others"] (spIsShortWord K) := okIsShortWord F3 T CT EX FL (okIni FI FL.ox FL.nline FL.ncolumn) bI G2 (PySem.W.mg_of X G a2) k2 b2
  have G4 : FnOk l.prog w K mg base CX0 3 f4 _ ["text", "most"] (spIsPlainNumber K) := okIsPlainNumber F4 T CT EX FL (okIni FI FL.ox FL.nline FL.ncolumn) bI G2 (PySem.W.mg_of X G a2) k2 b2
  have G5 : FnOk l.prog w K mg base CX0 4 f5 _ ["text"] (spIsSideName K) := okIsSideName F5 T CT EX FL (okIni FI FL.ox FL.nline FL.ncolumn) bI G3 (PySem.W.mg_of X G a3) k3 b3
  have G6 : FnOk l.prog w K mg base (L2.CX l.prog w) 5 f6 _ ["text"] (spReadOrigin K CTextFault) := okReadOrigin F6 T CT EX FL (okIni FI FL.ox FL.nline FL.ncolumn) bI G5 (PySem.W.mg_of X G a5) k5 b5 G4 (PySem.W.mg_of X G a4) k4 b4
  have G7 : FnOk l.prog w K mg base CX0 1 f7 _ ["origin"] (spOriginText K) := okOriginText F7 T CT EX FL (okIni FI FL.ox FL.nline FL.ncolumn) bI 
  have G8 : FnOk l.prog w K mg base CX0 1 f8 _ ["script", "k"] (spLLawNumber K) := okLLawNumber F8 T CT EX FL (okIni FI FL.ox FL.nline FL.ncolumn) bI 
  have G9 : FnOk l.prog w K mg base CX0 1 f9 _ ["draw"] (spLLawSide K) := okLLawSide F9 T CT EX FL (okIni FI FL.ox FL.nline FL.ncolumn) bI 
  have G10 : FnOk l.prog w K mg base CX0 1 f10 _ ["text"] (spLLawSideGood K) := okLLawSideGood F10 T CT EX FL (okIni FI FL.ox FL.nline FL.ncolumn) bI 
  have G11 : FnOk l.prog w K mg base CX0 1 f11 _ ["text"] (spLLawNumberGood K) := okLLawNumberGood F11 T CT EX FL (okIni FI FL.ox FL.nline FL.ncolumn) bI 
  have G12 : FnOk l.prog w K mg base CX0 2 f12 _ ["text"] (spLLawGood K) := okLLawGood F12 T CT EX FL (okIni FI FL.ox FL.nline FL.ncolumn) bI G10 (PySem.W.mg_of X G a10) k10 b10 G11 (PySem.W.mg_of X G a11) k11 b11
  have G13 : FnOk l.prog w K mg base CX0 6 f13 _ ["text"] (spLLawRead K) := okLLawRead F13 T CT EX FL (okIni FI FL.ox FL.nline FL.ncolumn) bI G6 (PySem.W.mg_of X G a6) k6 b6
  exact okLaw F14 T CT EX FL (okIni FI FL.ox FL.nline FL.ncolumn) bI G8 (PySem.W.mg_of X G a8) k8 b8 G9 (PySem.W.mg_of X G a9) k9 b9 G7 (PySem.W.mg_of X G a7) k7 b7 G13 (PySem.W.mg_of X G a13) k13 b13 G5 (PySem.W.mg_of X G a5) k5 b5 G10 (PySem.W.mg_of X G a10) k10 b10 G12 (PySem.W.mg_of X G a12) k12 b12
end Tp
open PySem PySem.W PyProof.Rows
set_option maxHeartbeats 0 in
theorem PySem.Challenge.cw_truepart_k50_texts_of_origins_holds : PySem.Challenge.rw_truepart_k50_texts_of_origins.Holds := by
  w_on; o_law; k_head; (case hw => w_witness2)
  k_fill
  refine L2.walk_of (l := PySem.Challenge.rw_truepart_k50_texts_of_origins) (n := 63) (k := 7) (x := "script") (CX := fun _ => L2.CX0) (sp := fun w => Tp.spLaw _) rfl (by decide) rfl ⟨rfl, by decide, by decide⟩ (fun w h Y => PySem.W.kIn_of Y) ?F (fun _ _ a ns hl _ hS => ⟨a, ns, rfl, hS, hl, fun _ => rfl⟩) (fun _ _ _ _ _ h => h)
  case F =>
    intro w mg fa h KX G hmg
    refine' Tp.all_mk KX G hmg ?a1 ?l1 ?c1 ?k1 ?a2 ?l2 ?c2 ?k2 ?a3 ?l3 ?c3 ?k3 ?a4 ?l4 ?c4 ?k4 ?a5 ?l5 ?c5 ?k5 ?a6 ?l6 ?c6 ?k6 ?a7 ?l7 ?c7 ?k7 ?a8 ?l8 ?c8 ?k8 ?a9 ?l9 ?c9 ?k9 ?a10 ?l10 ?c10 ?k10 ?a11 ?l11 ?c11 ?k11 ?a12 ?l12 ?c12 ?k12 ?a13 ?l13 ?c13 ?k13 ?a14 ?l14 ?c14 ?k14 ?z1 ?z2 ?z3 ?z4 ?z5 ?z6 ?z7 ?z8 ?u0 ?u1 ?u2 ?u3 ?u4 ?u5 ?y0 ?y1 ?lI ?cI ?kI ?xL ?v0 ?v1 ?v2 ?v3 ?v4 ?v5 ?v6 ?v7 ?v8 ?v9 ?v10 ?v11 ?v12 ?v13 ?v14 ?v15 ?v16 ?v17 ?v18 ?v19 ?v20
    (case a1 => k_is)
    (case l1 => k_is)
    (case c1 => k_is)
    (case k1 => k_is)
    (case a2 => k_is)
    (case l2 => k_is)
    (case c2 => k_is)
    (case k2 => k_is)
    (case a3 => k_is)
    (case l3 => k_is)
    (case c3 => k_is)
    (case k3 => k_is)
    (case a4 => k_is)
    (case l4 => k_is)
    (case c4 => k_is)
    (case k4 => k_is)
    (case a5 => k_is)
    (case l5 => k_is)
    (case c5 => k_is)
    (case k5 => k_is)
    (case a6 => k_is)
    (case l6 => k_is)
    (case c6 => k_is)
    (case k6 => k_is)
    (case a7 => k_is)
    (case l7 => k_is)
    (case c7 => k_is)
    (case k7 => k_is)
    (case a8 => k_is)
    (case l8 => k_is)
    (case c8 => k_is)
    (case k8 => k_is)
    (case a9 => k_is)
    (case l9 => k_is)
    (case c9 => k_is)
    (case k9 => k_is)
    (case a10 => k_is)
    (case l10 => k_is)
    (case c10 => k_is)
    (case k10 => k_is)
    (case a11 => k_is)
    (case l11 => k_is)
    (case c11 => k_is)
    (case k11 => k_is)
    (case a12 => k_is)
    (case l12 => k_is)
    (case c12 => k_is)
    (case k12 => k_is)
    (case a13 => k_is)
    (case l13 => k_is)
    (case c13 => k_is)
    (case k13 => k_is)
    (case a14 => k_is)
    (case l14 => k_is)
    (case c14 => k_is)
    (case k14 => k_is)
    (case z1 => k_is)
    (case z2 => k_is)
    (case z3 => k_is)
    (case z4 => k_is)
    (case z5 => k_is)
    (case z6 => k_is)
    (case z7 => k_is)
    (case z8 => k_is)
    (case u0 => k_is)
    (case u1 => k_is)
    (case u2 => k_is)
    (case u3 => k_is)
    (case u4 => k_is)
    (case u5 => k_is)
    (case y0 => k_is)
    (case y1 => k_is)
    (case xL => k_is)
    (case v0 => k_is)
    (case v1 => k_is)
    (case v2 => k_is)
    (case v3 => k_is)
    (case v4 => k_is)
    (case v5 => k_is)
    (case lI => k_is)
    (case cI => k_is)
    (case kI => k_is)
    (case v6 => k_is)
    (case v7 => k_is)
    (case v8 => k_is)
    (case v9 => k_is)
    (case v10 => k_is)
    (case v11 => k_is)
    (case v12 => k_is)
    (case v13 => k_is)
    (case v14 => k_is)
    (case v15 => k_is)
    (case v16 => k_is)
    (case v17 => k_is)
    (case v18 => k_is)
    (case v19 => k_is)
    (case v20 => k_is)
#print axioms PySem.Challenge.cw_truepart_k50_texts_of_origins_holds
