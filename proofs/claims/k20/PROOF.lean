import PyProof.Rows.All
import Wide.All
import OpenK.AllK
import Wide.FinOn
import HandS.ForMost
import HandS.Codes
import HandS.Gcd
import HandS.IsInst
import HandS.Wide

import PySem.Challenge.RW_truepart_k20_canonical_directions
set_option Elab.async false
set_option linter.all false
set_option maxHeartbeats 8000000
set_option maxRecDepth 100000
namespace Tp
open PySem L2
def top (i : Nat) : Stmt := PySem.Challenge.pw_truepart_k20_canonical_directions.main.body.getD i (.Pass ⟨0, 0, 0, 0⟩)
abbrev sCommon : Stmt := top 2
abbrev sPrimitive : Stmt := top 4
abbrev sCanonical : Stmt := top 6
abbrev sDivisor : Stmt := top 7
abbrev sLLawIsInteger : Stmt := top 9
abbrev sLLawCell : Stmt := top 10
abbrev sLLawRow : Stmt := top 11
abbrev sLLawDirection : Stmt := top 12
abbrev sLLawCommon : Stmt := top 13
abbrev sLLawCanonical : Stmt := top 14
abbrev sLaw : Stmt := top 15
theorem scCommon : FnScope ["a", "b"] ["a", "b"] (defScope sCommon) := ⟨rfl, rfl, rfl, by decide +kernel, rfl, by decide +kernel, by decide +kernel⟩
theorem scPrimitive : FnScope ["a", "divisor", "part"] ["a"] (defScope sPrimitive) := ⟨rfl, rfl, rfl, by decide +kernel, rfl, by decide +kernel, by decide +kernel⟩
theorem scCanonical : FnScope ["direction"] ["direction"] (defScope sCanonical) := ⟨rfl, rfl, rfl, by decide +kernel, rfl, by decide +kernel, by decide +kernel⟩
theorem scDivisor : FnScope ["direction"] ["direction"] (defScope sDivisor) := ⟨rfl, rfl, rfl, by decide +kernel, rfl, by decide +kernel, by decide +kernel⟩
theorem scLLawIsInteger : FnScope ["actual"] ["actual"] (defScope sLLawIsInteger) := ⟨rfl, rfl, rfl, by decide +kernel, rfl, by decide +kernel, by decide +kernel⟩
theorem scLLawCell : FnScope ["script", "k"] ["script", "k"] (defScope sLLawCell) := ⟨rfl, rfl, rfl, by decide +kernel, rfl, by decide +kernel, by decide +kernel⟩
theorem scLLawRow : FnScope ["cell", "size", "base", "row", "number", "k", "mixed"] ["cell", "size", "base"] (defScope sLLawRow) := ⟨rfl, rfl, rfl, by decide +kernel, rfl, by decide +kernel, by decide +kernel⟩
theorem scLLawDirection : FnScope ["cell", "most", "row"] ["cell", "most"] (defScope sLLawDirection) := ⟨rfl, rfl, rfl, by decide +kernel, rfl, by decide +kernel, by decide +kernel⟩
theorem scLLawCommon : FnScope ["row", "found", "one", "a", "b", "k"] ["row"] (defScope sLLawCommon) := ⟨rfl, rfl, rfl, by decide +kernel, rfl, by decide +kernel, by decide +kernel⟩
theorem scLLawCanonical : FnScope ["direction", "by", "first", "part"] ["direction"] (defScope sLLawCanonical) := ⟨rfl, rfl, rfl, by decide +kernel, rfl, by decide +kernel, by decide +kernel⟩
theorem scLaw : FnScope ["script", "direction", "times", "found", "by", "k", "longer"] ["script"] (defScope sLaw) := ⟨rfl, rfl, rfl, by decide +kernel, rfl, by decide +kernel, by decide +kernel⟩
structure Txt (mg : Str → Option Value) : Prop where
  abs : mg "abs" = none
  bool : mg "bool" = none
  int : mg "int" = none
  isinstance : mg "isinstance" = none
  len : mg "len" = none
  range : mg "range" = none
  tuple : mg "tuple" = none
  gcd : mg "gcd" = some (.builtin "math.gcd")
local macro_rules | `(tactic| walk_at "rd") => `(tactic| repeat (first | refine ⟨_, rfl, ?_⟩ | refine ⟨rfl, ?_⟩ | refine ⟨_, _, rfl, rfl, ?_⟩ | refine Or.inl ⟨_, rfl, ?_⟩ | refine ⟨(by show (0 : Int) < _; decide), ?_⟩ | refine ⟨⟨by decide, by decide⟩, ?_⟩ | refine ⟨Or.inr ⟨by decide, by decide⟩, ?_⟩ | refine ⟨Or.inl ⟨by decide, by decide⟩, ?_⟩ | refine ⟨⟨by decide, by decide, by decide⟩, ?_⟩))
abbrev zs (l : List Int) : List V := l.map V.int
theorem same_upd {H : Hp} {p : Addr} {o : HO} (h : H p = none) : Same H (upd H p o) := fun b x e => by
  rw [upd_ne (ne_of_none e h)]
  exact e
theorem same_tup {K : PySem.W.Frag} {H H' : Hp} {a : Addr} {xs : List V} (e : Same H H') (h : SqT K H a xs) : SqT K H' a xs := by
  rcases h with (h | ⟨o, h⟩) | h
  · exact .inl (.inl (e _ _ h))
  · exact .inl (.inr ⟨o, e _ _ h⟩)
  · exact .inr h
theorem zs_get {l : List Int} {i : Nat} {v : V} (h : (zs l)[i]? = some v) : ∃ z, v = .int z ∧ l[i]? = some z := by
  rw [show zs l = l.map V.int from rfl, List.getElem?_map] at h
  cases e : l[i]? with
  | none =>
    rw [e] at h
    cases h
  | some z =>
    rw [e] at h
    exact ⟨z, (Option.some.inj h).symm, rfl⟩
theorem zs_snoc {l : List Int} {i : Nat} {z : Int} (f : Int → Int) (h : l[i]? = some z) : zs ((l.map f).take i) ++ [V.int (f z)] = zs ((l.map f).take (i + 1)) := by
  show ((l.map f).take i).map V.int ++ [V.int (f z)] = ((l.map f).take (i + 1)).map V.int
  rw [List.take_add_one, List.getElem?_map, h, List.map_append]
  rfl
theorem zs_len {l : List Int} (n : Nat) (h : l.length ≤ 1000) : (zs (l.take n)).length < sizeLine := by
  show ((l.take n).map V.int).length < sizeLine
  rw [List.length_map, List.length_take]
  exact small1000 (by omega)
theorem ne_of_bang {n m : Int} (h : (!decide (V.int n = V.int m)) = true) : n ≠ m := fun e => by
  rw [e, decide_eq_true rfl] at h
  cases h
theorem eq_of_nobang {n m : Int} (h : ¬ (!decide (V.int n = V.int m)) = true) : n = m := by
  by_cases e : n = m
  · exact e
  · exact absurd (by rw [decide_eq_false (fun z => e (V.int.inj z))]; rfl) h
theorem eq_of_dec {n m : Int} (h : decide (V.int n = V.int m) = true) : n = m := V.int.inj (of_decide_eq_true h)
theorem ne_of_nodec {n m : Int} (h : ¬ decide (V.int n = V.int m) = true) : n ≠ m := fun e => h (decide_eq_true (by rw [e]))

/-! Euclid by turns. -/
/-- one turn of the walk (a, b) -> (b, a % b), of naturals -/
theorem gcd_turn (a b : Nat) : Nat.gcd b (a % b) = Nat.gcd a b := by
  rw [Nat.gcd_comm b, ← Nat.gcd_rec, Nat.gcd_comm]
theorem prod_turn {a b : Nat} (h : b ≤ a) (hb : 0 < b) : 2 * (b * (a % b)) ≤ a * b := by
  have h1 : a % b < b := Nat.mod_lt _ hb
  have h2 : a = b * (a / b) + a % b := (Nat.div_add_mod a b).symm
  have h3 : 1 ≤ a / b := (Nat.one_le_div_iff hb).mpr h
  have h4 : b * 1 ≤ b * (a / b) := Nat.mul_le_mul_left b h3
  have h5 : 2 * (a % b) ≤ a := by omega
  calc 2 * (b * (a % b)) = b * (2 * (a % b)) := by rw [Nat.mul_left_comm]
    _ ≤ b * a := Nat.mul_le_mul_left b h5
    _ = a * b := Nat.mul_comm _ _
/-- what holds behind i turns from (a0, b0) -/
structure Eu (a0 b0 i a b : Nat) : Prop where
  g : Nat.gcd a b = Nat.gcd a0 b0
  p : a * b * 2 ^ i ≤ 2 * (a0 * b0)
  o : i = 0 ∨ b ≤ a
  z : i = 0 → a = a0 ∧ b = b0
theorem Eu.start (a b : Nat) : Eu a b 0 a b := ⟨rfl, by rw [Nat.pow_zero]; omega, .inl rfl, fun _ => ⟨rfl, rfl⟩⟩
theorem Eu.turn {a0 b0 i a b : Nat} (e : Eu a0 b0 i a b) (hb : 0 < b) : Eu a0 b0 (i + 1) b (a % b) := by
  refine ⟨(gcd_turn a b).trans e.g, ?_, .inr (Nat.le_of_lt (Nat.mod_lt _ hb)), fun z => by omega⟩
  rcases e.o with hi | hle
  · obtain ⟨rfl, rfl⟩ := e.z hi
    subst hi
    have h1 : b * (a % b) ≤ b * a := Nat.mul_le_mul_left b (Nat.mod_le a b)
    have h2 : b * a = a * b := Nat.mul_comm _ _
    rw [Nat.zero_add, Nat.pow_one]
    omega
  · have h1 := prod_turn hle hb
    have h2 := e.p
    have h3 : b * (a % b) * 2 ^ (i + 1) = 2 * (b * (a % b)) * 2 ^ i := by
      rw [Nat.pow_succ]
      rw [Nat.mul_comm (2 ^ i) 2, ← Nat.mul_assoc, Nat.mul_comm (b * (a % b)) 2]
    rw [h3]
    exact Nat.le_trans (Nat.mul_le_mul_right _ h1) h2
/-- too many turns: nothing is left -/
theorem Eu.stop {a0 b0 i a b : Nat} (e : Eu a0 b0 i a b) (hi : i ≠ 0) (h : 2 * (a0 * b0) < 2 ^ i) : b = 0 := by
  rcases Nat.eq_zero_or_pos b with h0 | h0
  · exact h0
  · have hle : b ≤ a := by
      rcases e.o with h1 | h1
      · exact absurd h1 hi
      · exact h1
    have h1 : 1 ≤ a * b := Nat.mul_pos (by omega) h0
    have h2 : 1 * 2 ^ i ≤ a * b * 2 ^ i := Nat.mul_le_mul_right _ h1
    have h3 := e.p
    omega
theorem Eu.end {a0 b0 i a : Nat} (e : Eu a0 b0 i a 0) : a = Nat.gcd a0 b0 := by
  rw [← e.g, Nat.gcd_zero_right]
/-- the greatest divisor of a row, as it is reckoned from the left -/
def gl (l : List Int) : Nat := l.foldl (fun g v => Nat.gcd v.natAbs g) 0
theorem gl_snoc (l : List Int) (v : Int) : gl (l ++ [v]) = Nat.gcd v.natAbs (gl l) := by
  unfold gl
  rw [List.foldl_append]
  rfl
theorem gl_lt {l : List Int} {v : Int} (h : gl l < 2 ^ 100) (hv : v.natAbs < 2 ^ 100) : gl (l ++ [v]) < 2 ^ 100 := by
  rw [gl_snoc]
  rcases Nat.eq_zero_or_pos v.natAbs with e | e
  · rw [e, Nat.gcd_zero_left]
    exact h
  · exact Nat.lt_of_le_of_lt (Nat.le_of_dvd e (Nat.gcd_dvd_left _ _)) hv
theorem take_snoc {l : List Int} {i : Nat} {z : Int} (h : l[i]? = some z) : l.take (i + 1) = l.take i ++ [z] := by
  rw [List.take_add_one, h]
  rfl
theorem eu_far {a b n : Nat} (hn : 201 ≤ n) (ha : a < 2 ^ 100) (hb : b < 2 ^ 100) : 2 * (a * b) < 2 ^ n := by
  have h1 : a * b < 2 ^ 100 * 2 ^ 100 := Nat.mul_lt_mul'' ha hb
  rw [← Nat.pow_add] at h1
  have h2 : (2 : Nat) * 2 ^ (100 + 100) = 2 ^ 201 := by decide +kernel
  have h3 : (2 : Nat) ^ 201 ≤ 2 ^ n := Nat.pow_le_pow_right (by decide) hn
  omega
theorem fmod_nat (a b : Nat) : (a : Int).fmod (b : Int) = ((a % b : Nat) : Int) := by
  rw [Int.fmod_eq_emod_of_nonneg _ (Int.natCast_nonneg _)]
  exact (Int.natCast_emod a b).symm

def dv (x y z : Int) : Int := let g : Int := (Nat.gcd (Nat.gcd x.natAbs y.natAbs) z.natAbs : Nat)
  if HT.lexLt [x, y, z] [0, 0, 0] = true then -g else g
def g3 (x y z : Int) : Nat := Nat.gcd (Nat.gcd x.natAbs y.natAbs) z.natAbs
/-- the first one that is not 0 is below 0 -/
def dn (x y z : Int) : Bool := decide (x < 0) || (decide (x = 0) && (decide (y < 0) || (decide (y = 0) && decide (z < 0))))
theorem lex_dn (x y z : Int) : HT.lexLt [x, y, z] [0, 0, 0] = dn x y z := by
  rw [HT.lexLt_cons, HT.lexLt_cons, HT.lexLt_cons, HT.lexLt_nil_nil]
  unfold dn
  by_cases hx : x = 0
  · subst hx
    by_cases hy : y = 0
    · subst hy
      by_cases hz : z = 0
      · subst hz; decide
      · simp [hz]
    · simp [hy]
  · simp [hx]
theorem dv_eq (x y z : Int) : dv x y z = if dn x y z = true then -(g3 x y z : Int) else (g3 x y z : Int) := by
  unfold dv g3
  rw [lex_dn]
theorem dv_abs (x y z : Int) : (dv x y z).natAbs = g3 x y z := by
  rw [dv_eq]
  split
  · rw [Int.natAbs_neg, Int.natAbs_natCast]
  · rw [Int.natAbs_natCast]
theorem g3_pos {x y z : Int} (h : ¬ (x = 0 ∧ y = 0 ∧ z = 0)) : 0 < g3 x y z := by
  rcases Nat.eq_zero_or_pos (g3 x y z) with e | e
  · exfalso
    have h1 := Nat.gcd_eq_zero_iff.mp e
    have h2 := Nat.gcd_eq_zero_iff.mp h1.1
    omega
  · exact e
theorem dv_ne {x y z : Int} (h : ¬ (x = 0 ∧ y = 0 ∧ z = 0)) : dv x y z ≠ 0 := by
  intro e
  have h1 := dv_abs x y z
  have h2 := g3_pos h
  rw [e] at h1
  have : (0 : Int).natAbs = 0 := rfl
  omega
theorem g3_dx (x y z : Int) : (g3 x y z : Int) ∣ x := by
  refine Int.dvd_natAbs.mp (Int.natCast_dvd_natCast.mpr ?_)
  exact Nat.dvd_trans (Nat.gcd_dvd_left _ _) (Nat.gcd_dvd_left _ _)
theorem g3_dy (x y z : Int) : (g3 x y z : Int) ∣ y := by
  refine Int.dvd_natAbs.mp (Int.natCast_dvd_natCast.mpr ?_)
  exact Nat.dvd_trans (Nat.gcd_dvd_left _ _) (Nat.gcd_dvd_right _ _)
theorem g3_dz (x y z : Int) : (g3 x y z : Int) ∣ z := by
  refine Int.dvd_natAbs.mp (Int.natCast_dvd_natCast.mpr ?_)
  exact Nat.gcd_dvd_right _ _
theorem dv_dvd {x y z v : Int} (h : (g3 x y z : Int) ∣ v) : dv x y z ∣ v := by
  rw [dv_eq]
  split
  · exact Int.neg_dvd.mpr h
  · exact h
theorem dv_dx (x y z : Int) : dv x y z ∣ x := dv_dvd (g3_dx x y z)
theorem dv_dy (x y z : Int) : dv x y z ∣ y := dv_dvd (g3_dy x y z)
theorem dv_dz (x y z : Int) : dv x y z ∣ z := dv_dvd (g3_dz x y z)
theorem fdiv_back {d v : Int} (h : d ∣ v) : v.fdiv d * d = v := Int.fdiv_mul_cancel h
theorem g3_le {x y z : Int} {n : Nat} (h : ¬ (x = 0 ∧ y = 0 ∧ z = 0)) (hx : x.natAbs ≤ n) (hy : y.natAbs ≤ n) (hz : z.natAbs ≤ n) : g3 x y z ≤ n := by
  by_cases h1 : x = 0
  · by_cases h2 : y = 0
    · have h3 : z ≠ 0 := fun e => h ⟨h1, h2, e⟩
      exact Nat.le_trans (Nat.le_of_dvd (by omega) (Nat.gcd_dvd_right _ _)) hz
    · exact Nat.le_trans (Nat.le_of_dvd (by omega) (Nat.dvd_trans (Nat.gcd_dvd_left _ _) (Nat.gcd_dvd_right _ _))) hy
  · exact Nat.le_trans (Nat.le_of_dvd (by omega) (Nat.dvd_trans (Nat.gcd_dvd_left _ _) (Nat.gcd_dvd_left _ _))) hx
theorem g3_mul (x y z t : Int) : g3 (x * t) (y * t) (z * t) = g3 x y z * t.natAbs := by
  unfold g3
  rw [Int.natAbs_mul, Int.natAbs_mul, Int.natAbs_mul, Nat.gcd_mul_right, Nat.gcd_mul_right]
/-- the parts have no divisor left -/
theorem g3_one {x y z a b c : Int} (h : ¬ (x = 0 ∧ y = 0 ∧ z = 0)) (ha : a * dv x y z = x) (hb : b * dv x y z = y) (hc : c * dv x y z = z) : g3 a b c = 1 := by
  have h1 : g3 x y z = g3 a b c * (dv x y z).natAbs := by
    have := g3_mul a b c (dv x y z)
    rw [ha, hb, hc] at this
    exact this
  rw [dv_abs] at h1
  have h2 := g3_pos h
  exact (Nat.eq_of_mul_eq_mul_right h2 (by rw [Nat.one_mul]; exact h1)).symm
theorem neg_mul_iff {v t : Int} (ht : 0 < t) : (v * t < 0 ↔ v < 0) ∧ (v * t = 0 ↔ v = 0) := by
  constructor
  · constructor
    · intro h
      rcases Int.lt_or_le v 0 with h1 | h1
      · exact h1
      · have := Int.mul_nonneg h1 (Int.le_of_lt ht)
        omega
    · exact fun h => Int.mul_neg_of_neg_of_pos h ht
  · constructor
    · intro h
      rcases Int.mul_eq_zero.mp h with h1 | h1
      · exact h1
      · omega
    · intro h
      rw [h, Int.zero_mul]
theorem dn_mul {x y z t : Int} (ht : 0 < t) : dn (x * t) (y * t) (z * t) = dn x y z := by
  unfold dn
  have hx := neg_mul_iff (v := x) ht
  have hy := neg_mul_iff (v := y) ht
  have hz := neg_mul_iff (v := z) ht
  simp only [hx, hy, hz]
theorem dn_neg {x y z : Int} (h : ¬ (x = 0 ∧ y = 0 ∧ z = 0)) : dn (-x) (-y) (-z) = !dn x y z := by
  unfold dn
  rcases Int.lt_trichotomy x 0 with hx | hx | hx
  · have h1 : ¬ (-x < 0) := by omega
    have h2 : ¬ (-x = 0) := by omega
    simp [hx, h1, h2]
    omega
  · subst hx
    rcases Int.lt_trichotomy y 0 with hy | hy | hy
    · have h1 : ¬ (-y < 0) := by omega
      have h2 : ¬ (-y = 0) := by omega
      simp [hy, h1, h2]
      omega
    · subst hy
      have hz : z ≠ 0 := fun e => h ⟨rfl, rfl, e⟩
      by_cases h1 : z < 0
      · have h2 : ¬ (-z < 0) := by omega
        simp [h1, h2]
        omega
      · have h2 : -z < 0 := by omega
        simp [h1, h2]
        omega
    · have h1 : -y < 0 := by omega
      have h2 : ¬ y < 0 := by omega
      have h3 : ¬ y = 0 := by omega
      simp [h1, h2, h3]
      omega
  · have h1 : -x < 0 := by omega
    have h2 : ¬ x < 0 := by omega
    have h3 : ¬ x = 0 := by omega
    simp [h1, h2, h3]
    omega
theorem dv_mul {x y z t : Int} (h : ¬ (x = 0 ∧ y = 0 ∧ z = 0)) (ht : t ≠ 0) : dv (x * t) (y * t) (z * t) = dv x y z * t := by
  rw [dv_eq, dv_eq, g3_mul]
  rcases Int.lt_or_gt_of_ne ht with h1 | h1
  · have e1 : ∀ v : Int, v * t = -v * -t := fun v => (Int.neg_mul_neg v t).symm
    have e2 : (t.natAbs : Int) = -t := by omega
    have h2 : ¬ (-x = 0 ∧ -y = 0 ∧ -z = 0) := by omega
    rw [e1 x, e1 y, e1 z, dn_mul (by omega), dn_neg h]
    cases dn x y z with
    | true => simp [e2, Int.neg_mul, Int.mul_neg]
    | false => simp [e2, Int.neg_mul, Int.mul_neg]
  · have e2 : (t.natAbs : Int) = t := by omega
    rw [dn_mul h1]
    cases dn x y z with
    | true => simp [e2, Int.neg_mul, Int.mul_neg]
    | false => simp [e2, Int.neg_mul, Int.mul_neg]
theorem fdiv_same {d v t : Int} (hd : d ≠ 0) (ht : t ≠ 0) (h : d ∣ v) : (v * t).fdiv (d * t) = v.fdiv d := by
  obtain ⟨k, rfl⟩ := h
  rw [Int.mul_assoc, Int.mul_comm k t, ← Int.mul_assoc, Int.mul_fdiv_cancel_left _ hd, Int.mul_fdiv_cancel_left]
  exact Int.mul_ne_zero hd ht


section
variable {P : Program} {w : World} {K : PySem.W.Frag} {mg : Str → Option Value} {base : Heap}
def spCommon (K : PySem.W.Frag) : Sp := fun vs H Q _ => ∃ a b : Int, vs = [.int a, .int b] ∧ Q (.int ((Nat.gcd a.natAbs b.natAbs : Nat) : Int)) H
theorem okCommon {fCommon : Addr} {fdCommon : FuncData} (F : Fun K "common" "common" sCommon fCommon fdCommon) (T : Txt mg) :
    FnOk P w K mg base CX0 1 fCommon fdCommon ["a", "b"] (spCommon K) := by
  refine F.ok scCommon (fun vs H Q E h => ?_) (fun cdv A outer s H vs Q E hr h => ?_)
  · obtain ⟨a, b, rfl, q⟩ := h
    rfl
  · obtain ⟨a, b, rfl, q⟩ := h
    refine ⟨_, (pss_one (ps_ret (pe_callBfun cr_gcd (by rfl) T.gcd (pa_cons (pv 0) (pa_cons (pv 1) pa_nil))))), ?_⟩
    exact ⟨_, rfl, _, rfl, a, b, rfl, q⟩
def spPrimitive (K : PySem.W.Frag) : Sp := fun vs H Q _ => ∃ (p : Addr) (x y z : Int), vs = [.ref p] ∧ SqT K H p (zs [x, y, z]) ∧ dv x y z ≠ 0 ∧ (dv x y z).natAbs < 1073741824 ∧
  ∀ (H' : Hp) (t u : Addr), Same H H' → H t = none → H u = none → H' t = some (.tup [.ref u, .int (dv x y z)]) → H' u = some (.tup (zs [x.fdiv (dv x y z), y.fdiv (dv x y z), z.fdiv (dv x y z)])) → Q (.ref t) H'
theorem okPrimitive {fPrimitive : Addr} {fdPrimitive : FuncData} (F : Fun K "primitive" "primitive" sPrimitive fPrimitive fdPrimitive) (T : Txt mg)
    {fCommon : Addr} {fdCommon : FuncData} (GCommon : FnOk P w K mg base CX0 1 fCommon fdCommon ["a", "b"] (spCommon K)) (gCommon : mg "common" = some (.ref fCommon)) (kpCommon : PySem.W.keepIn K (.ref fCommon) = true) (bCommon : Binds K fdCommon ["a", "b"] []) :
    FnOk P w K mg base CX0 2 fPrimitive fdPrimitive ["a"] (spPrimitive K) := by
  refine F.ok scPrimitive (fun vs H Q E h => ?_) (fun cdv A outer s H vs Q E hr h => ?_)
  · obtain ⟨p, x, y, z, rfl, hS, hd0, hd1, q⟩ := h
    rfl
  · obtain ⟨p, x, y, z, rfl, hS, hd0, hd1, q⟩ := h
    refine ⟨_, (pss_cons (ps_set (i := 1) scPrimitive.nd rfl (Or.inr rfl) (pe_call GCommon hr (by rfl) gCommon kpCommon bCommon .nil pass0 (pa_cons (pe_call GCommon hr (by rfl) gCommon kpCommon bCommon .nil pass0 (pa_cons (pe_ix ix_tup (pv 0) pe_int (fun _ _ => rfl)) (pa_cons (pe_ix ix_tup (pv 0) pe_int (fun _ _ => rfl)) pa_nil))) (pa_cons (pe_ix ix_tup (pv 0) pe_int (fun _ _ => rfl)) pa_nil))))
      (C8.pss_cut (ps_if (pt_cmpR (op_ltT hr.units0) (pv 0) (pe_tup (pa_cons pe_int (pa_cons pe_int (pa_cons pe_int pa_nil)))) (nomark _))
        (pss_one (ps_set (i := 1) scPrimitive.nd rfl (Or.inr rfl) (pe_un un_neg (pv 1))))
        pss_nil)
      (pss_one (ps_ret (pe_tup (pa_cons (pe_callTy call_tuple_of (by rfl) T.tuple (by decide +kernel) (pa_cons (pe_lc (own := [("part", 2)]) (by rfl) scPrimitive.nd (pi_tup (pv 0)) (blkOk_by (own := [("part", 2)]) (N := ["a", "divisor", "part"]) (sc := defScope sPrimitive) (by decide +kernel)) (fun _ _ _ _ _ => (pg_name (i := 2) scPrimitive.nd rfl (Or.inl rfl))) (fun _ _ _ _ _ => pts_nil) (fun _ _ _ _ _ => (pe_op op_fdivN (pv 2) (pv 1)))) pa_nil)) (pa_cons (pv 1) pa_nil))))))), ?_⟩
    refine ⟨.ref p, rfl, p, _, _, _, rfl, rfl, hS, atI_nat (j := 0) rfl, .ref p, rfl, p, _, _, _, rfl, rfl, hS, atI_nat (j := 1) rfl, x, y, rfl, .ref p, rfl, p, _, _, _, rfl, rfl, hS, atI_nat (j := 2) rfl, _, z, rfl, ?_⟩
    refine ⟨fun σ' H' => σ' = [some (.ref p), some (.int (dv x y z)), none] ∧ Same H H', ?_, ?_⟩
    · refine ⟨.ref p, rfl, by decide, fun t ht => ?_⟩
      refine ⟨p, t, [x, y, z], [0, 0, 0], rfl, rfl, same_tup (same_upd ht) hS, SqT.of upd_same, _, rfl, ?_⟩
      cases e : HT.lexLt [x, y, z] [0, 0, 0] with
      | true =>
        refine iteT ⟨_, rfl, _, rfl, ?_, same_upd ht⟩
        unfold dv
        rw [if_pos e]
        rfl
      | false =>
        refine iteF ⟨?_, same_upd ht⟩
        unfold dv
        rw [if_neg (by rw [e]; exact Bool.false_ne_true)]
        rfl
    · rintro σ' H1 ⟨rfl, s1⟩
      refine ⟨.ref p, rfl, p, rfl, ⟨_, same_tup s1 hS⟩, fun D hD => ?_⟩
      have hD0 : ∀ {H2 : Hp}, Same H1 H2 → Same H H2 := fun s2 => s1.trans s2
      refine lc_tup (K := K) (a := p) (xs := zs [x, y, z]) (fun i H2 => Same H1 H2 ∧ H2 D = some (.lst (zs (([x, y, z].map fun v => v.fdiv (dv x y z)).take i)))) ⟨same_upd hD, upd_same⟩ (fun i H2 _ h => same_tup (hD0 h.1) hS) ?_ ?_
      · rintro i v H2 hi ⟨s2, e2⟩
        obtain ⟨n, rfl, hn⟩ := zs_get hi
        refine ⟨rfl, _, rfl, _, rfl, _, _, rfl, rfl, ⟨hd0, hd1⟩, _, e2, zs_len _ (by show 3 ≤ 1000; decide), fun b o e => ?_, ?_⟩
        · rw [upd_ne (ne_of_none e hD)]
          exact s2 b o e
        · rw [upd_same, zs_snoc (fun v => v.fdiv (dv x y z)) hn]
      · rintro H2 ⟨s2, e2⟩
        have e2' : H2 D = some (.lst (zs [x.fdiv (dv x y z), y.fdiv (dv x y z), z.fdiv (dv x y z)])) := e2
        refine ⟨D, _, rfl, .inl ⟨SqL.of e2', fun u hu => ⟨_, rfl, by show 2 ≤ sizeLine; decide, fun t ht => ?_⟩⟩⟩
        have s3 : Same H2 (upd H2 u (.tup (zs [x.fdiv (dv x y z), y.fdiv (dv x y z), z.fdiv (dv x y z)]))) := same_upd hu
        have s4 := same_upd (o := .tup [.ref u, .int (dv x y z)]) ht
        refine q _ t u ((hD0 s2).trans (s3.trans s4)) ((hD0 s2).trans s3 |>.free ht) ((hD0 s2).free hu) upd_same ?_
        rw [upd_ne (ne_of_none (upd_same (H := H2) (a := u)) ht)]
        exact upd_same
def spCanonical (K : PySem.W.Frag) : Sp := fun vs H Q _ => ∃ (p : Addr) (x y z : Int), vs = [.ref p] ∧ SqT K H p (zs [x, y, z]) ∧ dv x y z ≠ 0 ∧ (dv x y z).natAbs < 1073741824 ∧
  ∀ (H' : Hp) (u : Addr), Same H H' → H' u = some (.tup (zs [x.fdiv (dv x y z), y.fdiv (dv x y z), z.fdiv (dv x y z)])) → Q (.ref u) H'
theorem okCanonical {fCanonical : Addr} {fdCanonical : FuncData} (F : Fun K "canonical" "canonical" sCanonical fCanonical fdCanonical) (T : Txt mg)
    {fPrimitive : Addr} {fdPrimitive : FuncData} (GPrimitive : FnOk P w K mg base CX0 2 fPrimitive fdPrimitive ["a"] (spPrimitive K)) (gPrimitive : mg "primitive" = some (.ref fPrimitive)) (kpPrimitive : PySem.W.keepIn K (.ref fPrimitive) = true) (bPrimitive : Binds K fdPrimitive ["a"] []) :
    FnOk P w K mg base CX0 3 fCanonical fdCanonical ["direction"] (spCanonical K) := by
  refine F.ok scCanonical (fun vs H Q E h => ?_) (fun cdv A outer s H vs Q E hr h => ?_)
  · obtain ⟨p, x, y, z, rfl, hS, hd0, hd1, q⟩ := h
    rfl
  · obtain ⟨p, x, y, z, rfl, hS, hd0, hd1, q⟩ := h
    refine ⟨_, (pss_one (ps_ret (pe_ix ix_tup (pe_call GPrimitive hr (by rfl) gPrimitive kpPrimitive bPrimitive .nil pass0 (pa_cons (pv 0) pa_nil)) pe_int (fun _ _ => rfl)))), ?_⟩
    exact ⟨_, rfl, p, x, y, z, rfl, hS, hd0, hd1, fun H' t u s1 _ _ et eu => ⟨t, _, _, _, rfl, rfl, SqT.of et, atI_nat (j := 0) rfl, q H' u s1 eu⟩⟩
def spDivisor (K : PySem.W.Frag) : Sp := fun vs H Q _ => ∃ (p : Addr) (x y z : Int), vs = [.ref p] ∧ SqT K H p (zs [x, y, z]) ∧ dv x y z ≠ 0 ∧ (dv x y z).natAbs < 1073741824 ∧
  ∀ (H' : Hp), Same H H' → Q (.int (dv x y z)) H'
theorem okDivisor {fDivisor : Addr} {fdDivisor : FuncData} (F : Fun K "divisor" "divisor" sDivisor fDivisor fdDivisor) (T : Txt mg)
    {fPrimitive : Addr} {fdPrimitive : FuncData} (GPrimitive : FnOk P w K mg base CX0 2 fPrimitive fdPrimitive ["a"] (spPrimitive K)) (gPrimitive : mg "primitive" = some (.ref fPrimitive)) (kpPrimitive : PySem.W.keepIn K (.ref fPrimitive) = true) (bPrimitive : Binds K fdPrimitive ["a"] []) :
    FnOk P w K mg base CX0 3 fDivisor fdDivisor ["direction"] (spDivisor K) := by
  refine F.ok scDivisor (fun vs H Q E h => ?_) (fun cdv A outer s H vs Q E hr h => ?_)
  · obtain ⟨p, x, y, z, rfl, hS, hd0, hd1, q⟩ := h
    rfl
  · obtain ⟨p, x, y, z, rfl, hS, hd0, hd1, q⟩ := h
    refine ⟨_, (pss_one (ps_ret (pe_ix ix_tup (pe_call GPrimitive hr (by rfl) gPrimitive kpPrimitive bPrimitive .nil pass0 (pa_cons (pv 0) pa_nil)) pe_int (fun _ _ => rfl)))), ?_⟩
    exact ⟨_, rfl, p, x, y, z, rfl, hS, hd0, hd1, fun H' t u s1 _ _ et eu => ⟨t, _, _, _, rfl, rfl, SqT.of et, atI_nat (j := 1) rfl, q H' s1⟩⟩
def spLLawIsInteger (K : PySem.W.Frag) : Sp := fun vs H Q _ => ∃ n : Int, vs = [.int n] ∧ Q (.bl true) H
theorem okLLawIsInteger {fLLawIsInteger : Addr} {fdLLawIsInteger : FuncData} (F : Fun K "_law_is_integer" "_law_is_integer" sLLawIsInteger fLLawIsInteger fdLLawIsInteger) (T : Txt mg) :
    FnOk P w K mg base CX0 1 fLLawIsInteger fdLLawIsInteger ["actual"] (spLLawIsInteger K) := by
  refine F.ok scLLawIsInteger (fun vs H Q E h => ?_) (fun cdv A outer s H vs Q E hr h => ?_)
  · obtain ⟨n, rfl, q⟩ := h
    rfl
  · obtain ⟨n, rfl, q⟩ := h
    refine ⟨_, (pss_one (ps_ret (pe_and (pe_callB call_isi (by rfl) T.isinstance (by decide +kernel) (pa_cons (pv 0) (pa_cons (pe_bltn (v := .ty "int") (by rfl) T.int (by decide +kernel) rfl) pa_nil))) (pe_one (pe_not (pe_callB call_isi (by rfl) T.isinstance (by decide +kernel) (pa_cons (pv 0) (pa_cons (pe_bltn (v := .ty "bool") (by rfl) T.bool (by decide +kernel) rfl) pa_nil)))))))), ?_⟩
    refine ⟨.int n, rfl, .int n, .ty "int", .type "int", .type "int", true, rfl, (.ty _), .base (.int n), kit_ty (by decide +kernel), true, rfl, iteT ?_⟩
    exact ⟨.int n, rfl, .int n, .ty "bool", .type "int", .type "bool", false, rfl, (.ty _), .base (.int n), kit_ty (by decide +kernel), false, rfl, q⟩
def spLLawCell (K : PySem.W.Frag) : Sp := fun vs H Q _ => ∃ (a : Addr) (ns : List Int) (k : Nat), vs = [.ref a, .int k] ∧ SqL K H a (zs ns) ∧ ∀ c : Int, 0 ≤ c → Q (.int c) H
theorem okLLawCell {fLLawCell : Addr} {fdLLawCell : FuncData} (F : Fun K "_law_cell" "_law_cell" sLLawCell fLLawCell fdLLawCell) (T : Txt mg) :
    FnOk P w K mg base CX0 1 fLLawCell fdLLawCell ["script", "k"] (spLLawCell K) := by
  refine F.ok scLLawCell (fun vs H Q E h => ?_) (fun cdv A outer s H vs Q E hr h => ?_)
  · obtain ⟨a, ns, k, rfl, hS, q⟩ := h
    rfl
  · obtain ⟨a, ns, k, rfl, hS, q⟩ := h
    refine ⟨_, (pss_cons (ps_if (pt_cmpR op_lt (pv 1) (pe_callB call_len_seq (by rfl) T.len PySem.boot_len (pa_cons (pv 0) pa_nil)) (nomark _))
        (pss_one (ps_ret (pe_callB call_abs (by rfl) T.abs (by decide +kernel) (pa_cons (pe_callTy call_int1 (by rfl) T.int (by decide +kernel) (pa_cons (pe_ix ix_list (pv 0) (pv 1) (fun _ _ => rfl)) pa_nil)) pa_nil))))
        pss_nil)
      (pss_one (ps_ret pe_int))), ?_⟩
    refine ⟨_, rfl, .ref a, rfl, a, _, rfl, .inl hS, _, _, rfl, rfl, _, rfl, ite2 (fun hlt => ?_) (fun _ => ?_)⟩
    · have h1 := of_decide_eq_true hlt
      rw [show zs ns = ns.map V.int from rfl, List.length_map] at h1
      have h2 : k < ns.length := by omega
      have h3 : (zs ns)[k]? = some (.int ns[k]) := by
        rw [show zs ns = ns.map V.int from rfl, List.getElem?_map, List.getElem?_eq_getElem h2]
        rfl
      refine ⟨.ref a, rfl, _, rfl, a, _, _, _, rfl, rfl, hS, atI_nat h3, .inl ⟨_, rfl, _, rfl, q _ ?_⟩⟩
      split <;> omega
    · exact q 0 (by decide)
theorem zs_push {l : List Int} {n : Int} : zs l ++ [V.int n] = zs (l ++ [n]) := by
  show l.map V.int ++ [V.int n] = (l ++ [n]).map V.int
  rw [List.map_append]
  rfl
theorem zs_lt {l : List Int} (h : l.length ≤ 1000) : (zs l).length < sizeLine := by
  show (l.map V.int).length < sizeLine
  rw [List.length_map]
  exact small1000 h
theorem row_all {rs : List Int} {b : Int} (h : ∀ r ∈ rs, 0 ≤ r ∧ r < b) (x : Int) (hb : 0 < b) : ∀ r ∈ rs ++ [x % b], 0 ≤ r ∧ r < b := by
  intro r hr
  rcases List.mem_append.mp hr with h1 | h1
  · exact h r h1
  · rw [List.mem_singleton.mp h1]
    exact ⟨Int.emod_nonneg _ (by omega), Int.emod_lt_of_pos _ hb⟩
def spLLawRow (K : PySem.W.Frag) : Sp := fun vs H Q _ => ∃ (cell base : Int) (n : Nat), vs = [.int cell, .int n, .int base] ∧ 0 < base ∧ base < 1000000 ∧ n ≤ 1000 ∧
  ∀ (H' : Hp) (l : Addr) (rs : List Int), Same H H' → H l = none → H' l = some (.lst (zs rs)) → rs.length = n → (∀ r ∈ rs, 0 ≤ r ∧ r < base) → Q (.ref l) H'
theorem okLLawRow {fLLawRow : Addr} {fdLLawRow : FuncData} (F : Fun K "_law_row" "_law_row" sLLawRow fLLawRow fdLLawRow) (T : Txt mg) :
    FnOk P w K mg base CX0 1 fLLawRow fdLLawRow ["cell", "size", "base"] (spLLawRow K) := by
  refine F.ok scLLawRow (fun vs H Q E h => ?_) (fun cdv A outer s H vs Q E hr h => ?_)
  · obtain ⟨cell, base, n, rfl, hb0, hb1, hn, q⟩ := h
    rfl
  · obtain ⟨cell, base, n, rfl, hb0, hb1, hn, q⟩ := h
    refine ⟨_, (pss_cons (ps_set (i := 3) scLLawRow.nd rfl (Or.inl rfl) (pe_lst pa_nil))
      (pss_cons (ps_set (i := 4) scLLawRow.nd rfl (Or.inl rfl) (pv 0))
      (C8.pss_cut (ps_for PassesOwn.never rfl (pi_range1 rfl T.range (pa_cons (pv 1) pa_nil)) (pg_name (i := 5) scLLawRow.nd rfl (Or.inl rfl))
        (pss_one (ps_if (pt_cmpR op_ge (pv 0) (pe_op op_pow pe_int pe_int) (nomark _))
          (pss_cons (ps_expr (pe_bm PySem.F.plainAttrs_list PySem.F.slot_list_append PySem.F.type_list_append mt_append (pv 3) (pa_cons (pe_op op_mod (pe_callTy call_int1 (by rfl) T.int (by decide +kernel) (pa_cons (pv 4) pa_nil)) (pv 2)) pa_nil)))
          (pss_one (ps_set (i := 4) scLLawRow.nd rfl (Or.inl rfl) (pe_op op_fdiv (pv 4) (pv 2)))))
          (pss_cons (ps_set (i := 6) scLLawRow.nd rfl (Or.inl rfl) (pe_op op_mod (pe_op op_add (pe_op op_add (pe_op op_mul (pe_op op_mod (pe_callTy call_int1 (by rfl) T.int (by decide +kernel) (pa_cons (pv 0) pa_nil)) pe_int) pe_int) (pe_op op_mul (pv 5) pe_int)) (pe_op op_fdiv (pv 0) pe_int)) pe_int))
          (pss_cons (ps_set (i := 6) scLLawRow.nd rfl (Or.inl rfl) (pe_op op_mod (pe_op op_add (pe_op op_add (pe_op op_mul (pv 6) pe_int) (pe_op op_mul (pv 5) pe_int)) pe_int) pe_int))
          (pss_one (ps_expr (pe_bm PySem.F.plainAttrs_list PySem.F.slot_list_append PySem.F.type_list_append mt_append (pv 3) (pa_cons (pe_op op_mod (pe_op op_fdiv (pv 6) pe_int) (pv 2)) pa_nil)))))))))
      (pss_one (ps_ret (pv 3)))))), ?_⟩
    refine ⟨Nat.zero_le _, fun l hl => ?_⟩
    have sl : Same H (upd H l (.lst [])) := same_upd hl
    walk_at "rd"
    refine ⟨fun σ' H' => ∃ (rs : List Int) (v4 v5 v6 : Option V), σ' = [some (.int cell), some (.int n), some (.int base), some (.ref l), v4, v5, v6] ∧ Same H H' ∧ H' l = some (.lst (zs rs)) ∧ rs.length = n ∧ ∀ r ∈ rs, 0 ≤ r ∧ r < base, ?_, ?_⟩
    · refine ⟨_, rfl, n, rfl, by omega, by omega, for_range (n := n) (fun i σ' H' => ∃ (rs : List Int) (number : Int) (v5 v6 : Option V), σ' = [some (.int cell), some (.int n), some (.int base), some (.ref l), some (.int number), v5, v6] ∧ Same H H' ∧ H' l = some (.lst (zs rs)) ∧ rs.length = i ∧ ∀ r ∈ rs, 0 ≤ r ∧ r < base) ?_ ?_ ?_⟩
      · exact ⟨[], cell, none, none, rfl, sl, upd_same, rfl, fun r h => nomatch h⟩
      · rintro i σ' H' hi ⟨rs, number, v5, v6, rfl, s1, e1, el, ea⟩
        have hlen : (zs rs).length < sizeLine := zs_lt (by omega)
        walk_at "rd"
        refine ite2 (fun _ => ?_) (fun _ => ?_)
        · walk_at "rd"
          refine ⟨.inl ⟨rfl, _, SqL.of e1⟩, ?_⟩
          walk_at "rd"
          refine ⟨hb0, l, _, _, rfl, rfl, e1, hlen, ?_⟩
          walk_at "rd"
          refine ⟨⟨hb0, by omega⟩, rs ++ [number % base], _, _, _, rfl, fun b o e => ?_, ?_, ?_, row_all ea _ hb0⟩
          · rw [upd_ne (ne_of_none e hl)]
            exact s1 b o e
          · rw [upd_same, zs_push]
          · rw [List.length_append, el]
            rfl
        · walk_at "rd"
          refine ⟨.inl ⟨rfl, _, SqL.of e1⟩, ?_⟩
          walk_at "rd"
          refine ⟨hb0, l, _, _, rfl, rfl, e1, hlen, ?_⟩
          refine ⟨_, _, _, _, rfl, fun b o e => ?_, by rw [upd_same, zs_push], ?_, row_all ea _ hb0⟩
          · rw [upd_ne (ne_of_none e hl)]
            exact s1 b o e
          · rw [List.length_append, el]
            rfl
      · rintro σ' H' ⟨rs, number, v5, v6, rfl, s1, e1, el, ea⟩
        exact ⟨rs, _, _, _, rfl, s1, e1, el, ea⟩
    · rintro σ' H' ⟨rs, v4, v5, v6, rfl, s1, e1, el, ea⟩
      exact ⟨_, rfl, q H' l rs s1 hl e1 el ea⟩
theorem ixN_in {n : Nat} {i : Int} (h0 : 0 ≤ i) (h : i < (n : Int)) : ixN n i = some i.toNat := by
  unfold ixN
  rw [if_pos h0, if_pos h]
theorem len3 {rs : List Int} (h : rs.length = 3) : ∃ a b c, rs = [a, b, c] := by
  match rs, h with
  | [a, b, c], _ => exact ⟨a, b, c, rfl⟩
def spLLawDirection (K : PySem.W.Frag) : Sp := fun vs H Q _ => ∃ (cell most : Int), vs = [.int cell, .int most] ∧ 0 < most ∧ most < 100000 ∧
  ∀ (H' : Hp) (t : Addr) (x y z : Int), Same H H' → H' t = some (.tup (zs [x, y, z])) → ¬ (x = 0 ∧ y = 0 ∧ z = 0) → (x.natAbs : Int) ≤ most + 1 → (y.natAbs : Int) ≤ most + 1 → (z.natAbs : Int) ≤ most + 1 → Q (.ref t) H'
theorem okLLawDirection {fLLawDirection : Addr} {fdLLawDirection : FuncData} (F : Fun K "_law_direction" "_law_direction" sLLawDirection fLLawDirection fdLLawDirection) (T : Txt mg)
    {fLLawRow : Addr} {fdLLawRow : FuncData} (GLLawRow : FnOk P w K mg base CX0 1 fLLawRow fdLLawRow ["cell", "size", "base"] (spLLawRow K)) (gLLawRow : mg "_law_row" = some (.ref fLLawRow)) (kpLLawRow : PySem.W.keepIn K (.ref fLLawRow) = true) (bLLawRow : Binds K fdLLawRow ["cell", "size", "base"] []) :
    FnOk P w K mg base CX0 2 fLLawDirection fdLLawDirection ["cell", "most"] (spLLawDirection K) := by
  refine F.ok scLLawDirection (fun vs H Q E h => ?_) (fun cdv A outer s H vs Q E hr h => ?_)
  · obtain ⟨cell, most, rfl, h0, h1, q⟩ := h
    rfl
  · obtain ⟨cell, most, rfl, h0, h1, q⟩ := h
    refine ⟨_, (pss_cons (ps_set (i := 2) scLLawDirection.nd rfl (Or.inl rfl) (pe_call GLLawRow hr (by rfl) gLLawRow kpLLawRow bLLawRow .nil pass0 (pa_cons (pv 0) (pa_cons pe_int (pa_cons (pe_op op_add (pe_op op_mul pe_int (pv 1)) pe_int) pa_nil)))))
      (C8.pss_cut (ps_if (PW.pt (pw_and (pt_cmpR op_eq (pe_ix ix_list (pv 2) pe_int (fun _ _ => rfl)) (pv 1) (nomark _)) (pw_and (pt_cmpR op_eq (pe_ix ix_list (pv 2) pe_int (fun _ _ => rfl)) (pv 1) (nomark _)) (pw_and1 (pt_cmpR op_eq (pe_ix ix_list (pv 2) pe_int (fun _ _ => rfl)) (pv 1) (nomark _))))))
        (pss_one (ps_asg (pe_op op_add (pv 1) pe_int) (pg_sub (pv 2) (pe_op op_mod (pe_callTy call_int1 (by rfl) T.int (by decide +kernel) (pa_cons (pv 0) pa_nil)) pe_int) set_list)))
        pss_nil)
      (pss_one (ps_ret (pe_tup (pa_cons (pe_op op_sub (pe_ix ix_list (pv 2) pe_int (fun _ _ => rfl)) (pv 1)) (pa_cons (pe_op op_sub (pe_ix ix_list (pv 2) pe_int (fun _ _ => rfl)) (pv 1)) (pa_cons (pe_op op_sub (pe_ix ix_list (pv 2) pe_int (fun _ _ => rfl)) (pv 1)) pa_nil)))))))), ?_⟩
    walk_at "rd"
    refine ⟨cell, 2 * most + 1, 3, rfl, by omega, by omega, by decide, fun H1 l rs s1 hl el e3 ea => ?_⟩
    obtain ⟨a, b, c, rfl⟩ := len3 e3
    have ha := ea a (by simp)
    have hb := ea b (by simp)
    have hc := ea c (by simp)
    refine ⟨fun σ' H' => ∃ x y z : Int, σ' = [some (.int cell), some (.int most), some (.ref l)] ∧ Same H H' ∧ H' l = some (.lst (zs [x, y, z])) ∧ ¬ (x = most ∧ y = most ∧ z = most) ∧ 0 ≤ x ∧ x ≤ 2 * most + 1 ∧ 0 ≤ y ∧ y ≤ 2 * most + 1 ∧ 0 ≤ z ∧ z ≤ 2 * most + 1, ?_, ?_⟩
    · refine ⟨.ref l, rfl, l, _, 0, _, rfl, rfl, SqL.of el, atI_nat (j := 0) rfl, ?_⟩
      walk_at "rd"
      have no : ∀ (hh : ¬ (a = most ∧ b = most ∧ c = most)), ∃ x y z : Int, [some (V.int cell), some (.int most), some (.ref l)] = [some (.int cell), some (.int most), some (.ref l)] ∧ Same H H1 ∧ H1 l = some (.lst (zs [x, y, z])) ∧ ¬ (x = most ∧ y = most ∧ z = most) ∧ 0 ≤ x ∧ x ≤ 2 * most + 1 ∧ 0 ≤ y ∧ y ≤ 2 * most + 1 ∧ 0 ≤ z ∧ z ≤ 2 * most + 1 :=
        fun hh => ⟨a, b, c, rfl, s1, el, hh, by omega, by omega, by omega, by omega, by omega, by omega⟩
      refine ite2 (fun g => ?_) (fun g => iteF ?_)
      · refine ⟨.ref l, rfl, l, _, 1, _, rfl, rfl, SqL.of el, atI_nat (j := 1) rfl, ?_⟩
        walk_at "rd"
        refine ite2 (fun g2 => ?_) (fun g2 => iteF ?_)
        · refine ⟨.ref l, rfl, l, _, 2, _, rfl, rfl, SqL.of el, atI_nat (j := 2) rfl, ?_⟩
          walk_at "rd"
          refine ite2 (fun g3 => ?_) (fun g3 => ?_)
          · walk_at "rd"
            have k0 : 0 ≤ cell % 3 := Int.emod_nonneg _ (by decide)
            have k3 : cell % 3 < 3 := Int.emod_lt_of_pos _ (by decide)
            have ga : a = most := V.int.inj (of_decide_eq_true g)
            have gb : b = most := V.int.inj (of_decide_eq_true g2)
            have gc : c = most := V.int.inj (of_decide_eq_true g3)
            refine ⟨l, zs [a, b, c], cell % 3, (cell % 3).toNat, rfl, rfl, el, ixN_in k0 k3, ?_⟩
            have sm : Same H (upd H1 l (.lst ((zs [a, b, c]).set (cell % 3).toNat (.int (most + 1))))) := fun b o e => by
              rw [upd_ne (ne_of_none e hl)]
              exact s1 b o e
            obtain h | h | h : (cell % 3).toNat = 0 ∨ (cell % 3).toNat = 1 ∨ (cell % 3).toNat = 2 := by omega
            · rw [h] at sm ⊢
              exact ⟨most + 1, b, c, rfl, sm, upd_same, by omega, by omega, by omega, by omega, by omega, by omega, by omega⟩
            · rw [h] at sm ⊢
              exact ⟨a, most + 1, c, rfl, sm, upd_same, by omega, by omega, by omega, by omega, by omega, by omega, by omega⟩
            · rw [h] at sm ⊢
              exact ⟨a, b, most + 1, rfl, sm, upd_same, by omega, by omega, by omega, by omega, by omega, by omega, by omega⟩
          · exact no fun z => g3 (decide_eq_true (by rw [z.2.2]))
        · exact no fun z => g2 (decide_eq_true (by rw [z.2.1]))
      · exact no fun z => g (decide_eq_true (by rw [z.1]))
    · rintro σ' H2 ⟨x, y, z, rfl, s2, e2, hh, hx⟩
      refine ⟨.ref l, rfl, l, _, 0, _, rfl, rfl, SqL.of e2, atI_nat (j := 0) rfl, _, rfl, _, _, rfl, rfl, ?_⟩
      refine ⟨.ref l, rfl, l, _, 1, _, rfl, rfl, SqL.of e2, atI_nat (j := 1) rfl, _, rfl, _, _, rfl, rfl, ?_⟩
      refine ⟨.ref l, rfl, l, _, 2, _, rfl, rfl, SqL.of e2, atI_nat (j := 2) rfl, _, rfl, _, _, rfl, rfl, ?_⟩
      refine ⟨by show 3 ≤ sizeLine; decide, fun t ht => q _ t (x - most) (y - most) (z - most) (s2.trans (same_upd ht)) upd_same ?_ ?_ ?_ ?_⟩ <;> omega
def spLLawCommon (K : PySem.W.Frag) : Sp := fun vs H Q _ => ∃ (p : Addr) (l : List Int), vs = [.ref p] ∧ SqT K H p (zs l) ∧ l.length ≤ 1000 ∧ (∀ v ∈ l, v.natAbs < 2 ^ 100) ∧ Q (.int ((gl l : Nat) : Int)) H
theorem okLLawCommon {fLLawCommon : Addr} {fdLLawCommon : FuncData} (F : Fun K "_law_common" "_law_common" sLLawCommon fLLawCommon fdLLawCommon) (T : Txt mg) :
    FnOk P w K mg base CX0 1 fLLawCommon fdLLawCommon ["row"] (spLLawCommon K) := by
  refine F.ok scLLawCommon (fun vs H Q E h => ?_) (fun cdv A outer s H vs Q E hr h => ?_)
  · obtain ⟨p, l, rfl, hS, hl, hv, q⟩ := h
    rfl
  · obtain ⟨p, l, rfl, hS, hl, hv, q⟩ := h
    refine ⟨_, (pss_cons (ps_set (i := 1) scLLawCommon.nd rfl (Or.inl rfl) pe_int)
      (C8.pss_cut (ps_for PassesOwn.never rfl (pi_tup (pv 0)) (pg_name (i := 2) scLLawCommon.nd rfl (Or.inl rfl))
        (pss_cons (ps_set (i := 3) scLLawCommon.nd rfl (Or.inl rfl) (pe_callB call_abs (by rfl) T.abs (by decide +kernel) (pa_cons (pv 2) pa_nil)))
        (pss_cons (ps_set (i := 4) scLLawCommon.nd rfl (Or.inl rfl) (pv 1))
        (C8.pss_cut (ps_for PassesOwn.never rfl (pi_range1 rfl T.range (pa_cons pe_int pa_nil)) (pg_name (i := 5) scLLawCommon.nd rfl (Or.inl rfl))
          (pss_cons (ps_if (pt_cmpR op_eq (pv 4) pe_int (nomark _))
            (pss_one ps_break)
            pss_nil)
          (pss_one (ps_par (i := 3) (j := 4) (by rfl) scLLawCommon.nd rfl rfl (by decide) rfl rfl (pa_cons (pv 4) (pa_cons (pe_op op_modN (pv 3) (pv 4)) pa_nil)) (by rfl)))))
        (pss_one (ps_set (i := 1) scLLawCommon.nd rfl (Or.inl rfl) (pv 3)))))))
      (pss_one (ps_ret (pv 1))))), ?_⟩
    refine ⟨fun σ' H' => ∃ v2 v3 v4 v5 : Option V, σ' = [some (.ref p), some (.int ((gl l : Nat) : Int)), v2, v3, v4, v5] ∧ H' = H, ?_, ?_⟩
    · refine ⟨_, rfl, p, rfl, ⟨_, hS⟩, for_tup (K := K) (a := p) (xs := zs l) (fun i σ' H' => ∃ v2 v3 v4 v5 : Option V, σ' = [some (.ref p), some (.int ((gl (l.take i) : Nat) : Int)), v2, v3, v4, v5] ∧ H' = H ∧ gl (l.take i) < 2 ^ 100) ?_ ?_ ?_ ?_⟩
      · exact ⟨none, none, none, none, rfl, rfl, by show (0 : Nat) < 2 ^ 100; decide⟩
      · rintro i σ' H' _ ⟨_, _, _, _, _, rfl, _⟩
        exact hS
      · rintro i v σ' H' hi ⟨v2, v3, v4, v5, rfl, rfl, hg⟩
        obtain ⟨z, rfl, hz⟩ := zs_get hi
        have hzz : z.natAbs < 2 ^ 100 := hv z (List.mem_of_getElem? hz)
        walk_at "rd"
        have ez : (if z < 0 then -z else z) = ((z.natAbs : Nat) : Int) := by
          split <;> omega
        rw [ez]
        refine ⟨fun σ2 H2 => ∃ v4 v5 : Option V, σ2 = [some (.ref p), some (.int ((gl (l.take i) : Nat) : Int)), some (.int z), some (.int ((gl (l.take (i + 1)) : Nat) : Int)), v4, v5] ∧ H2 = H', ?_, ?_⟩
        · refine ⟨10000, rfl, by decide, by decide, for_range (n := 10000) (fun j σ2 H2 => ∃ (a b : Nat) (v5 : Option V), σ2 = [some (.ref p), some (.int ((gl (l.take i) : Nat) : Int)), some (.int z), some (.int (a : Int)), some (.int (b : Int)), v5] ∧ H2 = H' ∧ Eu z.natAbs (gl (l.take i)) j a b) ?_ ?_ ?_⟩
          · exact ⟨_, _, v5, rfl, rfl, Eu.start _ _⟩
          · rintro j σ2 H2 hj ⟨a, b, w5, rfl, rfl, eu⟩
            walk_at "rd"
            refine ite2 (fun hb => ?_) (fun hb => ?_)
            · have hb0 : b = 0 := by
                have := V.int.inj (of_decide_eq_true hb)
                omega
              subst hb0
              refine ⟨some (.int ((0 : Nat) : Int)), some (.int (0 + (j : Int))), ?_, rfl⟩
              rw [take_snoc hz, gl_snoc, ← eu.end]
              rfl
            · have hb0 : b ≠ 0 := fun e => hb (decide_eq_true (by rw [e]; rfl))
              walk_at "rd"
              refine ⟨by omega, _, _, rfl, b, a % b, some (.int (0 + (j : Int))), ?_, rfl, eu.turn (by omega)⟩
              rw [← fmod_nat a b]
              rfl
          · rintro σ2 H2 ⟨a, b, w5, rfl, rfl, eu⟩
            have hb0 : b = 0 := eu.stop (by decide) (eu_far (by decide) hzz hg)
            subst hb0
            refine ⟨some (.int ((0 : Nat) : Int)), w5, ?_, rfl⟩
            rw [take_snoc hz, gl_snoc, ← eu.end]
        · rintro σ2 H2 ⟨w4, w5, rfl, rfl⟩
          refine ⟨_, rfl, _, _, _, _, rfl, rfl, ?_⟩
          rw [take_snoc hz]
          exact gl_lt hg hzz
      · rintro σ' H' ⟨v2, v3, v4, v5, rfl, rfl, _⟩
        refine ⟨v2, v3, v4, v5, ?_, rfl⟩
        rw [show (zs l).length = l.length from List.length_map _, List.take_length]
    · rintro σ' H' ⟨v2, v3, v4, v5, rfl, rfl⟩
      exact ⟨_, rfl, q⟩
theorem gl_three (x y z : Int) : gl [x, y, z] = g3 x y z := by
  show Nat.gcd z.natAbs (Nat.gcd y.natAbs (Nat.gcd x.natAbs 0)) = Nat.gcd (Nat.gcd x.natAbs y.natAbs) z.natAbs
  rw [Nat.gcd_zero_right, Nat.gcd_comm z.natAbs, Nat.gcd_comm y.natAbs]
def fs3 (x y z : Int) : Int := if x ≠ 0 then x else if y ≠ 0 then y else z
theorem fs3_get {x y z : Int} (h : ¬ (x = 0 ∧ y = 0 ∧ z = 0)) : (zs ([x, y, z].filter fun v => decide (v ≠ 0)))[0]? = some (.int (fs3 x y z)) := by
  unfold fs3
  by_cases hx : x = 0
  · by_cases hy : y = 0
    · have hz : z ≠ 0 := fun e => h ⟨hx, hy, e⟩
      simp [hx, hy, hz]
    · simp [hx, hy]
  · simp [hx]
theorem fs3_dn {x y z : Int} (h : ¬ (x = 0 ∧ y = 0 ∧ z = 0)) : decide (fs3 x y z < 0) = dn x y z := by
  unfold fs3 dn
  by_cases hx : x = 0
  · by_cases hy : y = 0
    · simp [hx, hy]
    · simp [hx, hy]
  · simp [hx]
theorem fil_snoc {l : List Int} {i : Nat} {z : Int} (h : l[i]? = some z) (hz : z ≠ 0) : zs ((l.take i).filter fun v => decide (v ≠ 0)) ++ [V.int z] = zs ((l.take (i + 1)).filter fun v => decide (v ≠ 0)) := by
  rw [take_snoc h, List.filter_append, zs_push]
  simp [hz]
theorem fil_same {l : List Int} {i : Nat} {z : Int} (h : l[i]? = some z) (hz : z = 0) : (l.take (i + 1)).filter (fun v => decide (v ≠ 0)) = (l.take i).filter fun v => decide (v ≠ 0) := by
  rw [take_snoc h, List.filter_append]
  simp [hz]
theorem fil_lt {l : List Int} (n : Nat) (h : l.length ≤ 1000) : (zs ((l.take n).filter fun v => decide (v ≠ 0))).length < sizeLine := by
  refine zs_lt ?_
  have h1 := List.length_filter_le (fun v : Int => decide (v ≠ 0)) (l.take n)
  rw [List.length_take] at h1
  omega
def spLLawCanonical (K : PySem.W.Frag) : Sp := fun vs H Q _ => ∃ (p : Addr) (x y z : Int), vs = [.ref p] ∧ SqT K H p (zs [x, y, z]) ∧ ¬ (x = 0 ∧ y = 0 ∧ z = 0) ∧ x.natAbs < 1073741824 ∧ y.natAbs < 1073741824 ∧ z.natAbs < 1073741824 ∧
  ∀ (H' : Hp) (u : Addr), Same H H' → H' u = some (.tup (zs [x.fdiv (dv x y z), y.fdiv (dv x y z), z.fdiv (dv x y z)])) → Q (.ref u) H'
theorem okLLawCanonical {fLLawCanonical : Addr} {fdLLawCanonical : FuncData} (F : Fun K "_law_canonical" "_law_canonical" sLLawCanonical fLLawCanonical fdLLawCanonical) (T : Txt mg)
    {fLLawCommon : Addr} {fdLLawCommon : FuncData} (GLLawCommon : FnOk P w K mg base CX0 1 fLLawCommon fdLLawCommon ["row"] (spLLawCommon K)) (gLLawCommon : mg "_law_common" = some (.ref fLLawCommon)) (kpLLawCommon : PySem.W.keepIn K (.ref fLLawCommon) = true) (bLLawCommon : Binds K fdLLawCommon ["row"] []) :
    FnOk P w K mg base CX0 2 fLLawCanonical fdLLawCanonical ["direction"] (spLLawCanonical K) := by
  refine F.ok scLLawCanonical (fun vs H Q E h => ?_) (fun cdv A outer s H vs Q E hr h => ?_)
  · obtain ⟨p, x, y, z, rfl, hS, hn, bx, bY, bz, q⟩ := h
    rfl
  · obtain ⟨p, x, y, z, rfl, hS, hn, bx, bY, bz, q⟩ := h
    refine ⟨_, (pss_cons (ps_set (i := 1) scLLawCanonical.nd rfl (Or.inl rfl) (pe_call GLLawCommon hr (by rfl) gLLawCommon kpLLawCommon bLLawCommon .nil pass0 (pa_cons (pv 0) pa_nil)))
      (pss_cons (ps_set (i := 2) scLLawCanonical.nd rfl (Or.inl rfl) (pe_ix ix_list (pe_lc (own := [("part", 3)]) (by rfl) scLLawCanonical.nd (pi_tup (pv 0)) (blkOk_by (own := [("part", 3)]) (N := ["direction", "by", "first", "part"]) (sc := defScope sLLawCanonical) (by decide +kernel)) (fun _ _ _ _ _ => (pg_name (i := 3) scLLawCanonical.nd rfl (Or.inl rfl))) (fun _ _ _ _ _ => pts_one (pt_cmpR op_ne (pv 3) pe_int (nomark _))) (fun _ _ _ _ _ => (pv 3))) pe_int (fun _ _ => rfl)))
      (C8.pss_cut (ps_if (pt_cmpR op_lt (pv 2) pe_int (nomark _))
        (pss_one (ps_set (i := 1) scLLawCanonical.nd rfl (Or.inl rfl) (pe_un un_neg (pv 1))))
        pss_nil)
      (pss_one (ps_ret (pe_tup (pa_cons (pe_op op_fdivN (pe_ix ix_tup (pv 0) pe_int (fun _ _ => rfl)) (pv 1)) (pa_cons (pe_op op_fdivN (pe_ix ix_tup (pv 0) pe_int (fun _ _ => rfl)) (pv 1)) (pa_cons (pe_op op_fdivN (pe_ix ix_tup (pv 0) pe_int (fun _ _ => rfl)) (pv 1)) pa_nil))))))))), ?_⟩
    have hv : ∀ v ∈ [x, y, z], v.natAbs < 2 ^ 100 := by
      have hb : (1073741824 : Nat) < 2 ^ 100 := by decide
      intro v hv
      simp only [List.mem_cons, List.not_mem_nil, or_false] at hv
      rcases hv with rfl | rfl | rfl <;> omega
    refine ⟨.ref p, rfl, p, [x, y, z], rfl, hS, by show 3 ≤ 1000; decide, hv, ?_⟩
    rw [gl_three]
    refine ⟨.ref p, rfl, p, rfl, ⟨_, hS⟩, fun D hD => ?_⟩
    refine lc_tup (K := K) (a := p) (xs := zs [x, y, z]) (fun i H2 => Same H H2 ∧ H2 D = some (.lst (zs (([x, y, z].take i).filter fun v => decide (v ≠ 0))))) ⟨same_upd hD, upd_same⟩ (fun i H2 _ h => same_tup h.1 hS) ?_ ?_
    · rintro i v H2 hi ⟨s2, e2⟩
      obtain ⟨n, rfl, hn⟩ := zs_get hi
      refine ⟨rfl, ?_⟩
      walk_at "rd"
      refine ite2 (fun g => ?_) (fun g => ?_)
      · refine ⟨_, rfl, _, e2, fil_lt _ (by show 3 ≤ 1000; decide), fun b o e => ?_, ?_⟩
        · rw [upd_ne (ne_of_none e hD)]
          exact s2 b o e
        · rw [upd_same, fil_snoc hn (ne_of_bang g)]
      · refine ⟨s2, ?_⟩
        rw [fil_same hn (eq_of_nobang g)]
        exact e2
    · rintro H2 ⟨s2, e2⟩
      have e2' : (zs (([x, y, z].take (zs [x, y, z]).length).filter fun v => decide (v ≠ 0))) = zs ([x, y, z].filter fun v => decide (v ≠ 0)) := rfl
      rw [e2'] at e2
      refine ⟨D, _, 0, _, rfl, rfl, SqL.of e2, atI_nat (j := 0) (fs3_get hn), ?_⟩
      refine ⟨fun σ3 H3 => ∃ v2 v3 : Option V, σ3 = [some (.ref p), some (.int (dv x y z)), v2, v3] ∧ H3 = H2, ?_, ?_⟩
      · walk_at "rd"
        rw [fs3_dn hn]
        have e3 := dv_eq x y z
        cases e : dn x y z with
        | true =>
          rw [e] at e3
          refine iteT ⟨_, rfl, _, rfl, some (.int (fs3 x y z)), none, ?_, rfl⟩
          rw [e3, if_pos rfl]
          rfl
        | false =>
          rw [e] at e3
          refine iteF ⟨some (.int (fs3 x y z)), none, ?_, rfl⟩
          rw [e3, if_neg Bool.false_ne_true]
          rfl
      · rintro σ3 H3 ⟨w2, w3, rfl, rfl⟩
        have hS3 := same_tup s2 hS
        have hd0 := dv_ne hn
        have hd1 : (dv x y z).natAbs < 1073741824 := by
          rw [dv_abs]
          have := g3_le (n := 1073741823) hn (by omega) (by omega) (by omega)
          omega
        refine ⟨.ref p, rfl, p, _, 0, _, rfl, rfl, hS3, atI_nat (j := 0) rfl, _, rfl, _, _, rfl, rfl, ⟨hd0, hd1⟩, ?_⟩
        refine ⟨.ref p, rfl, p, _, 1, _, rfl, rfl, hS3, atI_nat (j := 1) rfl, _, rfl, _, _, rfl, rfl, ⟨hd0, hd1⟩, ?_⟩
        refine ⟨.ref p, rfl, p, _, 2, _, rfl, rfl, hS3, atI_nat (j := 2) rfl, _, rfl, _, _, rfl, rfl, ⟨hd0, hd1⟩, ?_⟩
        exact ⟨by show 3 ≤ sizeLine; decide, fun t ht => q _ t (s2.trans (same_upd ht)) upd_same⟩
theorem zs_at {l : List Int} {i : Nat} {z : Int} (h : l[i]? = some z) : atI (zs l) (i : Int) = some (V.int z) := atI_nat (by
  rw [show zs l = l.map V.int from rfl, List.getElem?_map, h]
  rfl)
theorem parts_at {x y z d : Int} (hx : d ∣ x) (hy : d ∣ y) (hz : d ∣ z) {i : Nat} (hi : i < 3) : ∃ f v : Int, [x.fdiv d, y.fdiv d, z.fdiv d][i]? = some f ∧ [x, y, z][i]? = some v ∧ f * d = v := by
  obtain rfl | rfl | rfl : i = 0 ∨ i = 1 ∨ i = 2 := by omega
  · exact ⟨_, _, rfl, rfl, fdiv_back hx⟩
  · exact ⟨_, _, rfl, rfl, fdiv_back hy⟩
  · exact ⟨_, _, rfl, rfl, fdiv_back hz⟩
theorem part_le {f d v : Int} (e : f * d = v) (hd : d ≠ 0) : f.natAbs ≤ v.natAbs := by
  rw [← e, Int.natAbs_mul]
  exact Nat.le_mul_of_pos_right _ (by omega)
def pd3 (x y z : Int) : PyData := .tuple [.int x, .int y, .int z]
theorem dp3 {K : PySem.W.Frag} {H : Hp} {u : Addr} {x y z : Int} (h : SqT K H u (zs [x, y, z])) : Dp K H (.ref u) (pd3 x y z) :=
  .tup h (.cons (.int x) (.cons (.int y) (.cons (.int z) .nil)))
theorem eqv3 (x y z : Int) : PyData.eqv (pd3 x y z) (pd3 x y z) = true := by
  unfold pd3
  simp [PyData.eqv, PyData.eqvAll]
def spLaw (K : PySem.W.Frag) : Sp := fun vs H Q _ => ∃ (a : Addr) (ns : List Int), vs = [.ref a] ∧ SqL K H a (ns.map V.int) ∧ ns.length ≤ 63 ∧ ∀ H', Q (.bl true) H'
theorem okLaw {fLaw : Addr} {fdLaw : FuncData} (F : Fun K "law" "law" sLaw fLaw fdLaw) (T : Txt mg)
    {fLLawDirection : Addr} {fdLLawDirection : FuncData} (GLLawDirection : FnOk P w K mg base CX0 2 fLLawDirection fdLLawDirection ["cell", "most"] (spLLawDirection K)) (gLLawDirection : mg "_law_direction" = some (.ref fLLawDirection)) (kpLLawDirection : PySem.W.keepIn K (.ref fLLawDirection) = true) (bLLawDirection : Binds K fdLLawDirection ["cell", "most"] [])
    {fCanonical : Addr} {fdCanonical : FuncData} (GCanonical : FnOk P w K mg base CX0 3 fCanonical fdCanonical ["direction"] (spCanonical K)) (gCanonical : mg "canonical" = some (.ref fCanonical)) (kpCanonical : PySem.W.keepIn K (.ref fCanonical) = true) (bCanonical : Binds K fdCanonical ["direction"] [])
    {fDivisor : Addr} {fdDivisor : FuncData} (GDivisor : FnOk P w K mg base CX0 3 fDivisor fdDivisor ["direction"] (spDivisor K)) (gDivisor : mg "divisor" = some (.ref fDivisor)) (kpDivisor : PySem.W.keepIn K (.ref fDivisor) = true) (bDivisor : Binds K fdDivisor ["direction"] [])
    {fLLawCell : Addr} {fdLLawCell : FuncData} (GLLawCell : FnOk P w K mg base CX0 1 fLLawCell fdLLawCell ["script", "k"] (spLLawCell K)) (gLLawCell : mg "_law_cell" = some (.ref fLLawCell)) (kpLLawCell : PySem.W.keepIn K (.ref fLLawCell) = true) (bLLawCell : Binds K fdLLawCell ["script", "k"] [])
    {fLLawIsInteger : Addr} {fdLLawIsInteger : FuncData} (GLLawIsInteger : FnOk P w K mg base CX0 1 fLLawIsInteger fdLLawIsInteger ["actual"] (spLLawIsInteger K)) (gLLawIsInteger : mg "_law_is_integer" = some (.ref fLLawIsInteger)) (kpLLawIsInteger : PySem.W.keepIn K (.ref fLLawIsInteger) = true) (bLLawIsInteger : Binds K fdLLawIsInteger ["actual"] [])
    {fLLawCanonical : Addr} {fdLLawCanonical : FuncData} (GLLawCanonical : FnOk P w K mg base CX0 2 fLLawCanonical fdLLawCanonical ["direction"] (spLLawCanonical K)) (gLLawCanonical : mg "_law_canonical" = some (.ref fLLawCanonical)) (kpLLawCanonical : PySem.W.keepIn K (.ref fLLawCanonical) = true) (bLLawCanonical : Binds K fdLLawCanonical ["direction"] [])
    {fLLawCommon : Addr} {fdLLawCommon : FuncData} (GLLawCommon : FnOk P w K mg base CX0 1 fLLawCommon fdLLawCommon ["row"] (spLLawCommon K)) (gLLawCommon : mg "_law_common" = some (.ref fLLawCommon)) (kpLLawCommon : PySem.W.keepIn K (.ref fLLawCommon) = true) (bLLawCommon : Binds K fdLLawCommon ["row"] []) :
    FnOk P w K mg base CX0 4 fLaw fdLaw ["script"] (spLaw K) := by
  refine F.ok scLaw (fun vs H Q E h => ?_) (fun cdv A outer s H vs Q E hr h => ?_)
  · obtain ⟨a, ns, rfl, hS, hlen, q⟩ := h
    rfl
  · obtain ⟨a, ns, rfl, hS, hlen, q⟩ := h
    refine ⟨_, (pss_cons (ps_set (i := 1) scLaw.nd rfl (Or.inl rfl) (pe_call GLLawDirection (hr.mono (by decide)) (by rfl) gLLawDirection kpLLawDirection bLLawDirection .nil pass0 (pa_cons (pe_call GLLawCell (hr.mono (by decide)) (by rfl) gLLawCell kpLLawCell bLLawCell .nil pass0 (pa_cons (pv 0) (pa_cons pe_int pa_nil))) (pa_cons pe_int pa_nil))))
      (pss_cons (ps_set (i := 2) scLaw.nd rfl (Or.inl rfl) (pe_op op_add pe_int (pe_op op_mod (pe_callTy call_int1 (by rfl) T.int (by decide +kernel) (pa_cons (pe_call GLLawCell (hr.mono (by decide)) (by rfl) gLLawCell kpLLawCell bLLawCell .nil pass0 (pa_cons (pv 0) (pa_cons pe_int pa_nil))) pa_nil)) pe_int)))
      (C8.pss_cut (ps_if (pt_cmpR op_eq (pe_op op_mod (pe_call GLLawCell (hr.mono (by decide)) (by rfl) gLLawCell kpLLawCell bLLawCell .nil pass0 (pa_cons (pv 0) (pa_cons pe_int pa_nil))) pe_int) pe_int (nomark _))
        (pss_one (ps_set (i := 2) scLaw.nd rfl (Or.inl rfl) (pe_un un_neg (pv 2))))
        pss_nil)
      (pss_cons (ps_set (i := 3) scLaw.nd rfl (Or.inl rfl) (pe_call GCanonical hr (by rfl) gCanonical kpCanonical bCanonical .nil pass0 (pa_cons (pv 1) pa_nil)))
      (pss_cons (ps_set (i := 4) scLaw.nd rfl (Or.inl rfl) (pe_call GDivisor hr (by rfl) gDivisor kpDivisor bDivisor .nil pass0 (pa_cons (pv 1) pa_nil)))
      (pss_cons (ps_if (PW.pt (pw_or (pt_not (pt_val (pe_callB call_isi (by rfl) T.isinstance (by decide +kernel) (pa_cons (pv 3) (pa_cons (pe_bltn (v := .ty "tuple") (by rfl) T.tuple (by decide +kernel) rfl) pa_nil))))) (pw_or (pt_cmpR op_ne (pe_callB call_len_seq (by rfl) T.len PySem.boot_len (pa_cons (pv 3) pa_nil)) pe_int (nomark _)) (pw_or (pt_not (pt_val (pe_call GLLawIsInteger (hr.mono (by decide)) (by rfl) gLLawIsInteger kpLLawIsInteger bLLawIsInteger .nil pass0 (pa_cons (pv 4) pa_nil)))) (pw_or1 (pt_cmpR op_eq (pv 4) pe_int (nomark _)))))))
        (pss_one (ps_ret pe_bl))
        pss_nil)
      (C8.pss_cut (ps_for PassesOwn.never rfl (pi_range1 rfl T.range (pa_cons pe_int pa_nil)) (pg_name (i := 5) scLaw.nd rfl (Or.inl rfl))
        (pss_one (ps_if (PW.pt (pw_or (pt_not (pt_val (pe_call GLLawIsInteger (hr.mono (by decide)) (by rfl) gLLawIsInteger kpLLawIsInteger bLLawIsInteger .nil pass0 (pa_cons (pe_ix ix_tup (pv 3) (pv 5) (fun _ _ => rfl)) pa_nil)))) (pw_or1 (pt_cmpR op_ne (pe_op op_mul (pe_ix ix_tup (pv 3) (pv 5) (fun _ _ => rfl)) (pv 4)) (pe_ix ix_tup (pv 1) (pv 5) (fun _ _ => rfl)) (nomark _)))))
          (pss_one (ps_ret pe_bl))
          pss_nil)))
      (pss_cons (ps_if (PW.pt (pw_or (pt_cmpR (op_neD hr.units) (pv 3) (pe_call GLLawCanonical (hr.mono (by decide)) (by rfl) gLLawCanonical kpLLawCanonical bLLawCanonical .nil pass0 (pa_cons (pv 1) pa_nil)) (nomark _)) (pw_or1 (pt_cmpR op_ne (pe_call GLLawCommon (hr.mono (by decide)) (by rfl) gLLawCommon kpLLawCommon bLLawCommon .nil pass0 (pa_cons (pv 3) pa_nil)) pe_int (nomark _)))))
        (pss_one (ps_ret pe_bl))
        pss_nil)
      (pss_cons (ps_set (i := 6) scLaw.nd rfl (Or.inl rfl) (pe_tup (pa_cons (pe_op op_mul (pe_ix ix_tup (pv 1) pe_int (fun _ _ => rfl)) (pv 2)) (pa_cons (pe_op op_mul (pe_ix ix_tup (pv 1) pe_int (fun _ _ => rfl)) (pv 2)) (pa_cons (pe_op op_mul (pe_ix ix_tup (pv 1) pe_int (fun _ _ => rfl)) (pv 2)) pa_nil)))))
      (pss_one (ps_ret (pe_and (pe_cmpR (op_eqD hr.units) (pe_call GCanonical hr (by rfl) gCanonical kpCanonical bCanonical .nil pass0 (pa_cons (pv 6) pa_nil)) (pv 3) (nomark _)) (pe_one (pe_cmpR op_eq (pe_call GDivisor hr (by rfl) gDivisor kpDivisor bDivisor .nil pass0 (pa_cons (pv 6) pa_nil)) (pe_op op_mul (pv 4) (pv 2)) (nomark _))))))))))))))), ?_⟩
    have hS' : SqL K H a (zs ns) := hS
    refine ⟨_, rfl, a, ns, 0, rfl, hS', fun c0 _ => ?_⟩
    refine ⟨c0, 40, rfl, by decide, by decide, fun H1 p x y z s1 ep hn bx bY bz => ?_⟩
    have d1 : SqT K H1 p (zs [x, y, z]) := SqT.of ep
    have hS1 := s1.seq hS'
    refine ⟨_, rfl, a, ns, 1, rfl, hS1, fun c1 _ => .inl ⟨_, rfl, ?_⟩⟩
    walk_at "rd"
    refine ⟨fun σ' H' => ∃ tm : Int, σ' = [some (.ref a), some (.ref p), some (.int tm), none, none, none, none] ∧ H' = H1 ∧ tm ≠ 0 ∧ tm.natAbs ≤ 900, ?_, ?_⟩
    · have h0 : 0 ≤ c1 % 900 := Int.emod_nonneg _ (by decide)
      have h1 : c1 % 900 < 900 := Int.emod_lt_of_pos _ (by decide)
      refine ⟨_, rfl, a, ns, 2, rfl, hS1, fun c2 _ => ?_⟩
      walk_at "rd"
      refine ite2 (fun _ => ?_) (fun _ => ?_)
      · exact ⟨_, rfl, _, rfl, -(1 + c1 % 900), rfl, rfl, by omega, by omega⟩
      · exact ⟨1 + c1 % 900, rfl, rfl, by omega, by omega⟩
    · rintro σ' H' ⟨tm, rfl, rfl, ht0, ht1⟩
      have hd0 := dv_ne hn
      have hd1 : g3 x y z ≤ 41 := g3_le hn (by omega) (by omega) (by omega)
      have hd2 : (dv x y z).natAbs < 1073741824 := by
        rw [dv_abs]
        omega
      refine ⟨_, rfl, p, x, y, z, rfl, d1, hd0, hd2, fun H2 u s2 eu => ?_⟩
      have d2 := same_tup s2 d1
      refine ⟨_, rfl, p, x, y, z, rfl, d2, hd0, hd2, fun H3 s3 => ?_⟩
      have d3 := same_tup s3 d2
      have f3 : H3 u = some (.tup (zs [x.fdiv (dv x y z), y.fdiv (dv x y z), z.fdiv (dv x y z)])) := s3 _ _ eu
      have f3' : SqT K H3 u (zs [x.fdiv (dv x y z), y.fdiv (dv x y z), z.fdiv (dv x y z)]) := SqT.of f3
      -- the kinds
      refine ⟨.ref u, rfl, .ref u, .ty "tuple", .type "tuple", .type "tuple", true, rfl, .ty _, .base (.tup f3), kit_ty (by decide +kernel), true, rfl, ?_⟩
      refine iteF ⟨.ref u, rfl, u, _, rfl, .inr f3', rfl, _, rfl, ?_⟩
      refine ite2 (fun g => absurd rfl (ne_of_bang g)) (fun _ => ?_)
      refine ⟨_, rfl, _, rfl, true, rfl, iteF ?_⟩
      refine ⟨_, rfl, rfl, _, rfl, ?_⟩
      refine ite2 (fun g => absurd (eq_of_dec g) hd0) (fun _ => ?_)
      -- the parts
      refine ⟨fun σ' H' => ∃ v5 : Option V, σ' = [some (.ref a), some (.ref p), some (.int tm), some (.ref u), some (.int (dv x y z)), v5, none] ∧ H' = H3, ?_, ?_⟩
      · refine ⟨3, rfl, by decide, by decide, for_range (n := 3) (fun i σ' H' => ∃ v5 : Option V, σ' = [some (.ref a), some (.ref p), some (.int tm), some (.ref u), some (.int (dv x y z)), v5, none] ∧ H' = H3) ⟨none, rfl, rfl⟩ ?_ ?_⟩
        · rintro i σ' H' hi ⟨v5, rfl, rfl⟩
          obtain ⟨f, v, hf, hv, e⟩ := parts_at (dv_dx x y z) (dv_dy x y z) (dv_dz x y z) hi
          have hi0 : (0 : Int) + (i : Int) = (i : Int) := by omega
          refine ⟨.ref u, rfl, .int (0 + (i : Int)), rfl, u, _, _, _, rfl, rfl, f3', by rw [hi0]; exact zs_at hf, f, rfl, true, rfl, iteF ?_⟩
          refine ⟨.ref u, rfl, .int (0 + (i : Int)), rfl, u, _, _, _, rfl, rfl, f3', by rw [hi0]; exact zs_at hf, _, rfl, _, _, rfl, rfl, .inr (by constructor <;> omega), ?_⟩
          refine ⟨.ref p, rfl, .int (0 + (i : Int)), rfl, p, _, _, _, rfl, rfl, d3, by rw [hi0]; exact zs_at hv, rfl, _, rfl, ?_⟩
          refine ite2 (fun g => absurd e (ne_of_bang g)) (fun _ => ?_)
          exact ⟨_, rfl, rfl⟩
        · rintro σ' H' h
          exact h
      · rintro σ' H' ⟨v5, rfl, rfl⟩
        refine ⟨.ref u, rfl, _, rfl, p, x, y, z, rfl, d3, hn, by omega, by omega, by omega, fun H4 u4 s4 e4 => ?_⟩
        have f4 := same_tup s4 f3'
        refine ⟨_, _, dp3 f4, dp3 (SqT.of e4), rfl, rfl, _, rfl, ?_⟩
        rw [eqv3]
        refine iteF ?_
        have e1 := fdiv_back (dv_dx x y z)
        have e2 := fdiv_back (dv_dy x y z)
        have e3 := fdiv_back (dv_dz x y z)
        have hb : ∀ v ∈ [x.fdiv (dv x y z), y.fdiv (dv x y z), z.fdiv (dv x y z)], v.natAbs < 2 ^ 100 := by
          have hb : (1000 : Nat) < 2 ^ 100 := by decide
          have b1 := part_le e1 hd0
          have b2 := part_le e2 hd0
          have b3 := part_le e3 hd0
          intro v hv
          simp only [List.mem_cons, List.not_mem_nil, or_false] at hv
          rcases hv with rfl | rfl | rfl <;> omega
        refine ⟨.ref u, rfl, u, _, rfl, f4, by show 3 ≤ 1000; decide, hb, rfl, _, rfl, ?_⟩
        rw [gl_three, g3_one hn e1 e2 e3]
        refine ite2 (fun g => absurd rfl (ne_of_bang g)) (fun _ => ?_)
        have d4 := same_tup s4 d3
        -- longer
        refine ⟨.ref p, rfl, p, _, 0, _, rfl, rfl, d4, atI_nat (j := 0) rfl, _, rfl, _, _, rfl, rfl, .inl (by constructor <;> omega), ?_⟩
        refine ⟨.ref p, rfl, p, _, 1, _, rfl, rfl, d4, atI_nat (j := 1) rfl, _, rfl, _, _, rfl, rfl, .inl (by constructor <;> omega), ?_⟩
        refine ⟨.ref p, rfl, p, _, 2, _, rfl, rfl, d4, atI_nat (j := 2) rfl, _, rfl, _, _, rfl, rfl, .inl (by constructor <;> omega), ?_⟩
        refine ⟨by show 3 ≤ sizeLine; decide, fun t nt => ?_⟩
        have h5 : SqT K (upd H4 t (.tup (zs [x * tm, y * tm, z * tm]))) t (zs [x * tm, y * tm, z * tm]) := SqT.of upd_same
        have f5 := same_tup (same_upd (o := .tup (zs [x * tm, y * tm, z * tm])) nt) f4
        have hm := dv_mul (t := tm) hn ht0
        have hd5 : dv (x * tm) (y * tm) (z * tm) ≠ 0 := by
          rw [hm]
          exact Int.mul_ne_zero hd0 ht0
        have hd6 : (dv (x * tm) (y * tm) (z * tm)).natAbs < 1073741824 := by
          rw [hm, Int.natAbs_mul, dv_abs]
          have : g3 x y z * tm.natAbs ≤ 41 * 900 := Nat.mul_le_mul hd1 ht1
          omega
        refine ⟨_, rfl, t, _, _, _, rfl, h5, hd5, hd6, fun H6 u6 s6 e6 => ?_⟩
        rw [hm, fdiv_same hd0 ht0 (dv_dx x y z), fdiv_same hd0 ht0 (dv_dy x y z), fdiv_same hd0 ht0 (dv_dz x y z)] at e6
        have f6 := same_tup s6 f5
        refine ⟨_, rfl, _, _, dp3 (SqT.of e6), dp3 f6, rfl, rfl, ?_⟩
        rw [eqv3]
        refine ⟨true, rfl, iteT ?_⟩
        refine ⟨_, rfl, t, _, _, _, rfl, same_tup s6 h5, hd5, hd6, fun H7 s7 => ?_⟩
        refine ⟨_, rfl, _, rfl, _, _, rfl, rfl, .inl (by constructor <;> omega), rfl, ?_⟩
        rw [hm, decide_eq_true rfl]
        exact q H7
end
theorem all_mk {l : PySem.W.OpenLaw} {w : World} {K : PySem.W.Frag} {h : Heap} {mg : Str → Option Value} {fa f1 f2 f3 f4 f5 f6 f7 f8 f9 f10 f11 : Addr} (X : K.In h) (G : h.Ns mainGlobals mg) (hfa : mg "law" = some (.ref fa))
    {od1 an1 od2 an2 od3 an3 od4 an4 od5 an5 od6 an6 od7 an7 od8 an8 od9 an9 od10 an10 od11 an11 : Option Addr} {sl1 sl2 sl3 sl4 sl5 sl6 sl7 sl8 sl9 sl10 sl11 : Array (Option Value)} {oc1 kV1 dc1 pm1 cd1 ct1 oc2 kV2 dc2 pm2 cd2 ct2 oc3 kV3 dc3 pm3 cd3 ct3 oc4 kV4 dc4 pm4 cd4 ct4 oc5 kV5 dc5 pm5 cd5 ct5 oc6 kV6 dc6 pm6 cd6 ct6 oc7 kV7 dc7 pm7 cd7 ct7 oc8 kV8 dc8 pm8 cd8 ct8 oc9 kV9 dc9 pm9 cd9 ct9 oc10 kV10 dc10 pm10 cd10 ct10 oc11 kV11 dc11 pm11 cd11 ct11 : Value}
    (a1 : PySem.W.nsIn K mainGlobals "common" = some (some (.ref f1))) (l1 : K.lookup f1 = some ⟨oc1, od1, .func (PySem.W.fnOf "common" "common" (defArgs sCommon) (defBody sCommon) (defScope sCommon) .none kV1 dc1 pm1 an1 cd1 ct1), sl1⟩) (c1 : PySem.W.codeIn K cd1 "common" = true) (k1 : PySem.W.keepIn K (.ref f1) = true)
    (a2 : PySem.W.nsIn K mainGlobals "primitive" = some (some (.ref f2))) (l2 : K.lookup f2 = some ⟨oc2, od2, .func (PySem.W.fnOf "primitive" "primitive" (defArgs sPrimitive) (defBody sPrimitive) (defScope sPrimitive) .none kV2 dc2 pm2 an2 cd2 ct2), sl2⟩) (c2 : PySem.W.codeIn K cd2 "primitive" = true) (k2 : PySem.W.keepIn K (.ref f2) = true)
    (a3 : PySem.W.nsIn K mainGlobals "canonical" = some (some (.ref f3))) (l3 : K.lookup f3 = some ⟨oc3, od3, .func (PySem.W.fnOf "canonical" "canonical" (defArgs sCanonical) (defBody sCanonical) (defScope sCanonical) .none kV3 dc3 pm3 an3 cd3 ct3), sl3⟩) (c3 : PySem.W.codeIn K cd3 "canonical" = true) (k3 : PySem.W.keepIn K (.ref f3) = true)
    (a4 : PySem.W.nsIn K mainGlobals "divisor" = some (some (.ref f4))) (l4 : K.lookup f4 = some ⟨oc4, od4, .func (PySem.W.fnOf "divisor" "divisor" (defArgs sDivisor) (defBody sDivisor) (defScope sDivisor) .none kV4 dc4 pm4 an4 cd4 ct4), sl4⟩) (c4 : PySem.W.codeIn K cd4 "divisor" = true) (k4 : PySem.W.keepIn K (.ref f4) = true)
    (a5 : PySem.W.nsIn K mainGlobals "_law_is_integer" = some (some (.ref f5))) (l5 : K.lookup f5 = some ⟨oc5, od5, .func (PySem.W.fnOf "_law_is_integer" "_law_is_integer" (defArgs sLLawIsInteger) (defBody sLLawIsInteger) (defScope sLLawIsInteger) .none kV5 dc5 pm5 an5 cd5 ct5), sl5⟩) (c5 : PySem.W.codeIn K cd5 "_law_is_integer" = true) (k5 : PySem.W.keepIn K (.ref f5) = true)
    (a6 : PySem.W.nsIn K mainGlobals "_law_cell" = some (some (.ref f6))) (l6 : K.lookup f6 = some ⟨oc6, od6, .func (PySem.W.fnOf "_law_cell" "_law_cell" (defArgs sLLawCell) (defBody sLLawCell) (defScope sLLawCell) .none kV6 dc6 pm6 an6 cd6 ct6), sl6⟩) (c6 : PySem.W.codeIn K cd6 "_law_cell" = true) (k6 : PySem.W.keepIn K (.ref f6) = true)
    (a7 : PySem.W.nsIn K mainGlobals "_law_row" = some (some (.ref f7))) (l7 : K.lookup f7 = some ⟨oc7, od7, .func (PySem.W.fnOf "_law_row" "_law_row" (defArgs sLLawRow) (defBody sLLawRow) (defScope sLLawRow) .none kV7 dc7 pm7 an7 cd7 ct7), sl7⟩) (c7 : PySem.W.codeIn K cd7 "_law_row" = true) (k7 : PySem.W.keepIn K (.ref f7) = true)
    (a8 : PySem.W.nsIn K mainGlobals "_law_direction" = some (some (.ref f8))) (l8 : K.lookup f8 = some ⟨oc8, od8, .func (PySem.W.fnOf "_law_direction" "_law_direction" (defArgs sLLawDirection) (defBody sLLawDirection) (defScope sLLawDirection) .none kV8 dc8 pm8 an8 cd8 ct8), sl8⟩) (c8 : PySem.W.codeIn K cd8 "_law_direction" = true) (k8 : PySem.W.keepIn K (.ref f8) = true)
    (a9 : PySem.W.nsIn K mainGlobals "_law_common" = some (some (.ref f9))) (l9 : K.lookup f9 = some ⟨oc9, od9, .func (PySem.W.fnOf "_law_common" "_law_common" (defArgs sLLawCommon) (defBody sLLawCommon) (defScope sLLawCommon) .none kV9 dc9 pm9 an9 cd9 ct9), sl9⟩) (c9 : PySem.W.codeIn K cd9 "_law_common" = true) (k9 : PySem.W.keepIn K (.ref f9) = true)
    (a10 : PySem.W.nsIn K mainGlobals "_law_canonical" = some (some (.ref f10))) (l10 : K.lookup f10 = some ⟨oc10, od10, .func (PySem.W.fnOf "_law_canonical" "_law_canonical" (defArgs sLLawCanonical) (defBody sLLawCanonical) (defScope sLLawCanonical) .none kV10 dc10 pm10 an10 cd10 ct10), sl10⟩) (c10 : PySem.W.codeIn K cd10 "_law_canonical" = true) (k10 : PySem.W.keepIn K (.ref f10) = true)
    (a11 : PySem.W.nsIn K mainGlobals "law" = some (some (.ref f11))) (l11 : K.lookup f11 = some ⟨oc11, od11, .func (PySem.W.fnOf "law" "law" (defArgs sLaw) (defBody sLaw) (defScope sLaw) .none kV11 dc11 pm11 an11 cd11 ct11), sl11⟩) (c11 : PySem.W.codeIn K cd11 "law" = true) (k11 : PySem.W.keepIn K (.ref f11) = true)
    (z1 : PySem.W.nsIn K mainGlobals "abs" = some none)
    (z2 : PySem.W.nsIn K mainGlobals "bool" = some none)
    (z3 : PySem.W.nsIn K mainGlobals "int" = some none)
    (z4 : PySem.W.nsIn K mainGlobals "isinstance" = some none)
    (z5 : PySem.W.nsIn K mainGlobals "len" = some none)
    (z6 : PySem.W.nsIn K mainGlobals "range" = some none)
    (z7 : PySem.W.nsIn K mainGlobals "tuple" = some none)
    (z8 : PySem.W.nsIn K mainGlobals "gcd" = some (some (.builtin "math.gcd")))
    : ∃ fd : FuncData, (∀ (s : Shared) (v : Value), BindsTo s fd ⟨[v], []⟩ [("script", v)]) ∧ ∀ base : Heap, K.In base → base.Ns mainGlobals mg → FnOk l.prog w K mg base CX0 4 fa fd ["script"] (spLaw K) := by
  have e := hfa.symm.trans (PySem.W.mg_of X G a11)
  cases e
  have T : Txt mg := ⟨PySem.W.mg_none_of X G z1, PySem.W.mg_none_of X G z2, PySem.W.mg_none_of X G z3, PySem.W.mg_none_of X G z4, PySem.W.mg_none_of X G z5, PySem.W.mg_none_of X G z6, PySem.W.mg_none_of X G z7, PySem.W.mg_of X G z8⟩
  have F1 := fun_mk (st := sCommon) l1 c1 k1
  have F2 := fun_mk (st := sPrimitive) l2 c2 k2
  have F3 := fun_mk (st := sCanonical) l3 c3 k3
  have F4 := fun_mk (st := sDivisor) l4 c4 k4
  have F5 := fun_mk (st := sLLawIsInteger) l5 c5 k5
  have F6 := fun_mk (st := sLLawCell) l6 c6 k6
  have F7 := fun_mk (st := sLLawRow) l7 c7 k7
  have F8 := fun_mk (st := sLLawDirection) l8 c8 k8
  have F9 := fun_mk (st := sLLawCommon) l9 c9 k9
  have F10 := fun_mk (st := sLLawCanonical) l10 c10 k10
  have F11 := fun_mk (st := sLaw) l11 c11 k11
  have b1 := F1.binds (ps := ["a", "b"]) fun _ _ _ _ _ _ us hl => match us, hl with | [_, _], _ => rfl
  have b2 := F2.binds (ps := ["a"]) fun _ _ _ _ _ _ us hl => match us, hl with | [_], _ => rfl
  have b3 := F3.binds (ps := ["direction"]) fun _ _ _ _ _ _ us hl => match us, hl with | [_], _ => rfl
  have b4 := F4.binds (ps := ["direction"]) fun _ _ _ _ _ _ us hl => match us, hl with | [_], _ => rfl
  have b5 := F5.binds (ps := ["actual"]) fun _ _ _ _ _ _ us hl => match us, hl with | [_], _ => rfl
  have b6 := F6.binds (ps := ["script", "k"]) fun _ _ _ _ _ _ us hl => match us, hl with | [_, _], _ => rfl
  have b7 := F7.binds (ps := ["cell", "size", "base"]) fun _ _ _ _ _ _ us hl => match us, hl with | [_, _, _], _ => rfl
  have b8 := F8.binds (ps := ["cell", "most"]) fun _ _ _ _ _ _ us hl => match us, hl with | [_, _], _ => rfl
  have b9 := F9.binds (ps := ["row"]) fun _ _ _ _ _ _ us hl => match us, hl with | [_], _ => rfl
  have b10 := F10.binds (ps := ["direction"]) fun _ _ _ _ _ _ us hl => match us, hl with | [_], _ => rfl
  refine ⟨PySem.W.fnOf "law" "law" (defArgs sLaw) (defBody sLaw) (defScope sLaw) .none kV11 dc11 pm11 an11 cd11 ct11, fun s v => .of_eq rfl, fun base _ _ => ?_⟩
  have G1 : FnOk l.prog w K mg base CX0 1 f1 _ ["a", "b"] (spCommon K) := okCommon F1 T 
  have G2 : FnOk l.prog w K mg base CX0 2 f2 _ ["a"] (spPrimitive K) := okPrimitive F2 T G1 (PySem.W.mg_of X G a1) k1 b1
  have G3 : FnOk l.prog w K mg base CX0 3 f3 _ ["direction"] (spCanonical K) := okCanonical F3 T G2 (PySem.W.mg_of X G a2) k2 b2
  have G4 : FnOk l.prog w K mg base CX0 3 f4 _ ["direction"] (spDivisor K) := okDivisor F4 T G2 (PySem.W.mg_of X G a2) k2 b2
  have G5 : FnOk l.prog w K mg base CX0 1 f5 _ ["actual"] (spLLawIsInteger K) := okLLawIsInteger F5 T 
  have G6 : FnOk l.prog w K mg base CX0 1 f6 _ ["script", "k"] (spLLawCell K) := okLLawCell F6 T 
  have G7 : FnOk l.prog w K mg base CX0 1 f7 _ ["cell", "size", "base"] (spLLawRow K) := okLLawRow F7 T 
  have G8 : FnOk l.prog w K mg base CX0 2 f8 _ ["cell", "most"] (spLLawDirection K) := okLLawDirection F8 T G7 (PySem.W.mg_of X G a7) k7 b7
  have G9 : FnOk l.prog w K mg base CX0 1 f9 _ ["row"] (spLLawCommon K) := okLLawCommon F9 T 
  have G10 : FnOk l.prog w K mg base CX0 2 f10 _ ["direction"] (spLLawCanonical K) := okLLawCanonical F10 T G9 (PySem.W.mg_of X G a9) k9 b9
  exact okLaw F11 T G8 (PySem.W.mg_of X G a8) k8 b8 G3 (PySem.W.mg_of X G a3) k3 b3 G4 (PySem.W.mg_of X G a4) k4 b4 G6 (PySem.W.mg_of X G a6) k6 b6 G5 (PySem.W.mg_of X G a5) k5 b5 G10 (PySem.W.mg_of X G a10) k10 b10 G9 (PySem.W.mg_of X G a9) k9 b9
end Tp
open PySem PySem.W PyProof.Rows
set_option maxHeartbeats 0 in
theorem PySem.Challenge.cw_truepart_k20_canonical_directions_holds : PySem.Challenge.rw_truepart_k20_canonical_directions.Holds := by
  w_on; o_law; k_head; (case hw => w_witness2)
  k_fill
  refine L2.walk_of (l := PySem.Challenge.rw_truepart_k20_canonical_directions) (n := 63) (k := 4) (x := "script") (CX := fun _ => L2.CX0) (sp := fun w => Tp.spLaw _) rfl (by decide) rfl ⟨rfl, by decide, by decide⟩ (fun w h Y => PySem.W.kIn_of Y) ?F (fun _ _ a ns hl _ hS => ⟨a, ns, rfl, hS, hl, fun _ => rfl⟩) (fun _ _ _ _ _ h => h)
  case F =>
    intro w mg fa h KX G hmg
    refine' Tp.all_mk KX G hmg ?a1 ?l1 ?c1 ?k1 ?a2 ?l2 ?c2 ?k2 ?a3 ?l3 ?c3 ?k3 ?a4 ?l4 ?c4 ?k4 ?a5 ?l5 ?c5 ?k5 ?a6 ?l6 ?c6 ?k6 ?a7 ?l7 ?c7 ?k7 ?a8 ?l8 ?c8 ?k8 ?a9 ?l9 ?c9 ?k9 ?a10 ?l10 ?c10 ?k10 ?a11 ?l11 ?c11 ?k11 ?z1 ?z2 ?z3 ?z4 ?z5 ?z6 ?z7 ?z8
    (case a1 => k_is)
    (case l1 => k_is)
    (case c1 => k_is)
    (case k1 => k_is)
    (case a2 => k_is)
    (case l2 => k_is)
    (case c2 => k_is)
    (case k2 => k_is)
    (case a3 => k_is)
    (case l3 => k_is)
    (case c3 => k_is)
    (case k3 => k_is)
    (case a4 => k_is)
    (case l4 => k_is)
    (case c4 => k_is)
    (case k4 => k_is)
    (case a5 => k_is)
    (case l5 => k_is)
    (case c5 => k_is)
    (case k5 => k_is)
    (case a6 => k_is)
    (case l6 => k_is)
    (case c6 => k_is)
    (case k6 => k_is)
    (case a7 => k_is)
    (case l7 => k_is)
    (case c7 => k_is)
    (case k7 => k_is)
    (case a8 => k_is)
    (case l8 => k_is)
    (case c8 => k_is)
    (case k8 => k_is)
    (case a9 => k_is)
    (case l9 => k_is)
    (case c9 => k_is)
    (case k9 => k_is)
    (case a10 => k_is)
    (case l10 => k_is)
    (case c10 => k_is)
    (case k10 => k_is)
    (case a11 => k_is)
    (case l11 => k_is)
    (case c11 => k_is)
    (case k11 => k_is)
    (case z1 => k_is)
    (case z2 => k_is)
    (case z3 => k_is)
    (case z4 => k_is)
    (case z5 => k_is)
    (case z6 => k_is)
    (case z7 => k_is)
    (case z8 => k_is)
#print axioms PySem.Challenge.cw_truepart_k20_canonical_directions_holds
