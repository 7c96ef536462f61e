/-
  Whole numbers in floats: the word F n of a natural number below 2 to the power of 53; adding two such words gives the word of the sum; turned into an int64 it is the number. No statement is proved here.
-/
import Derived.Laws.FloatArith
import Derived.Laws.ComplexArith
namespace Go.Proofs.Ytiffhjofabaflaa
open Ieee

theorem pow2_log2_le {n : Nat} (h : n ≠ 0) : 2 ^ n.log2 ≤ n := Nat.log2_self_le h
theorem lt_pow2_log2 (n : Nat) : n < 2 ^ (n.log2 + 1) := Nat.lt_log2_self

theorem log2_lt53 {n : Nat} (h0 : n ≠ 0) (h : n < 2 ^ 53) : n.log2 ≤ 52 := by
  have := (Nat.log2_lt h0).2 h
  omega

theorem log2_shl {n : Nat} (h : n ≠ 0) (u : Nat) : (n <<< u).log2 = n.log2 + u := by
  have h1 := Nat.log2_self_le h
  have h2 : n < 2 ^ (n.log2 + 1) := Nat.lt_log2_self
  have hp : 0 < 2 ^ u := Nat.two_pow_pos u
  have hne : n <<< u ≠ 0 := by
    rw [Nat.shiftLeft_eq]; exact Nat.mul_ne_zero h (by omega)
  have a : n.log2 + u ≤ (n <<< u).log2 := by
    rw [Nat.le_log2 hne, Nat.shiftLeft_eq, Nat.pow_add]
    exact Nat.mul_le_mul_right _ h1
  have b : (n <<< u).log2 < n.log2 + u + 1 := by
    rw [Nat.log2_lt hne, Nat.shiftLeft_eq, show n.log2 + u + 1 = (n.log2 + 1) + u by omega, Nat.pow_add]
    exact Nat.mul_lt_mul_of_pos_right h2 hp
  omega

/-- The word of a whole number. -/
def F (n : Nat) : Nat := if n = 0 then 0 else (1074 - (52 - n.log2)) * 2 ^ 52 + n * 2 ^ (52 - n.log2)

theorem cut_exact (way : Toward) (n d : Nat) (hn : n ≠ 0) : way.cut false (n <<< d) d = n := by
  have hl := log2_shl hn d
  have hm : min d ((n <<< d).log2 + 2) = d := by omega
  have hp : 0 < 2 ^ d := Nat.two_pow_pos d
  have hq : n <<< d / 2 ^ d = n := by rw [Nat.shiftLeft_eq]; exact Nat.mul_div_cancel _ hp
  have hr : n <<< d % 2 ^ d = 0 := by rw [Nat.shiftLeft_eq]; exact Nat.mul_mod_left _ _
  unfold Toward.cut
  rw [hm]
  simp only [Nat.one_shiftLeft, hq, hr]
  cases way <;> simp <;> omega

theorem leastPlace_double : double.leastPlace = -1074 := by decide
theorem binade_double : double.binade = 2 ^ 52 := rfl
theorem infRung_double : double.infRung = 2047 * 2 ^ 52 := by decide
theorem signWeight_double : double.signWeight = 2 ^ 63 := by decide
theorem fraction_double : double.fractionBits = 52 := rfl

theorem mant {n : Nat} (h0 : n ≠ 0) (h : n < 2 ^ 53) : 2 ^ 52 ≤ n * 2 ^ (52 - n.log2) ∧ n * 2 ^ (52 - n.log2) < 2 ^ 53 := by
  have hl := log2_lt53 h0 h
  have h1 := Nat.log2_self_le h0
  have h2 : n < 2 ^ (n.log2 + 1) := Nat.lt_log2_self
  have hp : 0 < 2 ^ (52 - n.log2) := Nat.two_pow_pos _
  constructor
  · calc 2 ^ 52 = 2 ^ n.log2 * 2 ^ (52 - n.log2) := by rw [← Nat.pow_add]; congr 1; omega
      _ ≤ _ := Nat.mul_le_mul_right _ h1
  · calc n * 2 ^ (52 - n.log2) < 2 ^ (n.log2 + 1) * 2 ^ (52 - n.log2) := Nat.mul_lt_mul_of_pos_right h2 hp
      _ = 2 ^ 53 := by rw [← Nat.pow_add]; congr 1; omega

theorem rung_le {n : Nat} (h0 : n ≠ 0) (h : n < 2 ^ 53) : (1074 - (52 - n.log2)) * 2 ^ 52 + n * 2 ^ (52 - n.log2) ≤ 2047 * 2 ^ 52 := by
  have hm := mant h0 h
  have h6 : (1074 - (52 - n.log2)) * 2 ^ 52 ≤ 1074 * 2 ^ 52 := Nat.mul_le_mul_right _ (by omega)
  have h7 : n * 2 ^ (52 - n.log2) ≤ 2 ^ 53 := Nat.le_of_lt hm.2
  exact Nat.le_trans (Nat.add_le_add h6 h7) (by decide)

theorem nearest_F (n u : Nat) (h : n < 2 ^ 53) : double.nearest false (n <<< u) (-(u : Int)) = F n := by
  unfold Format.nearest F
  by_cases h0 : n = 0
  · subst h0
    simp [Format.word]
  · have hne : n <<< u ≠ 0 := by
      rw [Nat.shiftLeft_eq]; exact Nat.mul_ne_zero h0 (by have := Nat.two_pow_pos u; omega)
    rw [if_neg hne, if_neg h0]
    have hl := log2_lt53 h0 h
    have hlast : max (-(u : Int) + ((n <<< u).log2 : Nat) - (double.fractionBits : Nat)) double.leastPlace = (n.log2 : Int) - 52 := by
      rw [log2_shl h0, leastPlace_double, fraction_double]; omega
    dsimp only
    rw [hlast, leastPlace_double, binade_double, infRung_double]
    have hm := mant h0 h
    have hk : Toward.even.cut false (n <<< u <<< (-(u : Int) - ((n.log2 : Int) - 52)).toNat) ((n.log2 : Int) - 52 - -(u : Int)).toNat = n * 2 ^ (52 - n.log2) := by
      by_cases hc : u ≤ 52 - n.log2
      · have e1 : ((n.log2 : Int) - 52 - -(u : Int)).toNat = 0 := by omega
        have e2 : (-(u : Int) - ((n.log2 : Int) - 52)).toNat = 52 - n.log2 - u := by omega
        rw [e1, e2]
        have e3 : n <<< u <<< (52 - n.log2 - u) = (n * 2 ^ (52 - n.log2)) <<< 0 := by
          rw [← Nat.shiftLeft_add, Nat.shiftLeft_eq, Nat.shiftLeft_eq]
          rw [show u + (52 - n.log2 - u) = 52 - n.log2 by omega]; simp
        rw [e3]
        exact cut_exact _ _ _ (by omega)
      · have e1 : ((n.log2 : Int) - 52 - -(u : Int)).toNat = u - (52 - n.log2) := by omega
        have e2 : (-(u : Int) - ((n.log2 : Int) - 52)).toNat = 0 := by omega
        rw [e1, e2]
        have e3 : n <<< u <<< 0 = (n * 2 ^ (52 - n.log2)) <<< (u - (52 - n.log2)) := by
          simp only [Nat.shiftLeft_eq, Nat.mul_assoc, ← Nat.pow_add]
          rw [show (52 - n.log2) + (u - (52 - n.log2)) = u by omega]; simp
        rw [e3]
        exact cut_exact _ _ _ (by omega)
    rw [hk]
    have e4 : ((n.log2 : Int) - 52 - -1074).toNat = 1074 - (52 - n.log2) := by omega
    rw [e4]
    rw [Nat.min_def, if_pos (rung_le h0 h)]
    rfl

theorem read_F (n : Nat) (h : n < 2 ^ 53) (h0 : n ≠ 0) : double.read (F n) = .number false (n <<< (52 - n.log2)) (-((52 - n.log2 : Nat) : Int)) := by
  have hl := log2_lt53 h0 h
  have hm := mant h0 h
  have hF : F n = (1074 - (52 - n.log2)) * 2 ^ 52 + n * 2 ^ (52 - n.log2) := by unfold F; rw [if_neg h0]
  have hle : (1074 - (52 - n.log2)) * 2 ^ 52 ≤ 1074 * 2 ^ 52 := Nat.mul_le_mul_right _ (by omega)
  have hge : 1022 * 2 ^ 52 ≤ (1074 - (52 - n.log2)) * 2 ^ 52 := Nat.mul_le_mul_right _ (by omega)
  have hlt : F n < 2047 * 2 ^ 52 := by omega
  have hgt : 2 ^ 52 ≤ F n := by omega
  have hdiv : F n / 2 ^ 52 = 1074 - (52 - n.log2) + 1 := by omega
  have hmod : F n % 2 ^ 52 = n * 2 ^ (52 - n.log2) - 2 ^ 52 := by omega
  unfold Format.read
  rw [signWeight_double, binade_double, infRung_double, leastPlace_double]
  have a : F n / 2 ^ 63 % 2 = 0 := by omega
  have b : F n % 2 ^ 63 = F n := by omega
  dsimp only
  have h1 : ¬ F n < 2 ^ 52 := by omega
  rw [a, b, if_neg h1, if_pos hlt, hdiv, hmod]
  have e1 : 2 ^ 52 + (n * 2 ^ (52 - n.log2) - 2 ^ 52) = n <<< (52 - n.log2) := by rw [Nat.shiftLeft_eq]; omega
  have e2 : (-1074 : Int) + ((1074 - (52 - n.log2) + 1 - 1 : Nat) : Int) = -((52 - n.log2 : Nat) : Int) := by omega
  rw [e1, e2]
  rfl

theorem read_zero : double.read (F 0) = .number false 0 (-1074) := by decide

theorem sum_numbers (a b s t : Nat) : Datum.sum (.number false (a <<< s) (-(s : Int))) (.number false (b <<< t) (-(t : Int))) = some (.number false ((a + b) <<< (max s t)) (-((max s t : Nat) : Int))) := by
  unfold Datum.sum
  have hb : min (-(s : Int)) (-(t : Int)) = -((max s t : Nat) : Int) := by omega
  dsimp only
  rw [hb]
  have e1 : (-(s : Int) - -((max s t : Nat) : Int)).toNat = max s t - s := by omega
  have e2 : (-(t : Int) - -((max s t : Nat) : Int)).toNat = max s t - t := by omega
  rw [e1, e2]
  have e3 : signed false (a <<< s) (max s t - s) + signed false (b <<< t) (max s t - t) = (((a + b) <<< (max s t) : Nat) : Int) := by
    unfold signed
    simp only [Bool.false_eq_true, if_false]
    rw [← Nat.shiftLeft_add, ← Nat.shiftLeft_add, show s + (max s t - s) = max s t by omega, show t + (max s t - t) = max s t by omega]
    simp only [Nat.shiftLeft_eq, Nat.add_mul]
    omega
  rw [e3]
  have e4 : (if (((a + b) <<< (max s t) : Nat) : Int) = 0 then (false && false) else decide ((((a + b) <<< (max s t) : Nat) : Int) < 0)) = false := by
    split
    · rfl
    · exact decide_eq_false (Int.not_lt.2 (Int.natCast_nonneg _))
  rw [e4, Int.natAbs_natCast]

theorem read_F' (n : Nat) (h : n < 2 ^ 53) : ∃ s : Nat, s ≤ 1074 ∧ double.read (F n) = .number false (n <<< s) (-(s : Int)) := by
  by_cases h0 : n = 0
  · subst h0; exact ⟨1074, by omega, by rw [read_zero]; rfl⟩
  · exact ⟨52 - n.log2, by omega, read_F n h h0⟩

theorem add_F (a b : Nat) (h : a + b < 2 ^ 53) : floatBits .add .f64 (F a) (F b) = some (F (a + b)) := by
  obtain ⟨s, hs, ha⟩ := read_F' a (by omega)
  obtain ⟨t, ht, hb⟩ := read_F' b (by omega)
  show double.add (F a) (F b) = _
  unfold Format.add
  rw [ha, hb, sum_numbers]
  show some (double.nearest false _ _) = _
  rw [nearest_F _ _ h]

theorem toInt_F (n : Nat) (h : n < 2 ^ 53) : floatToIntVal .f64 (F n) .i64 = some (n : Int) := by
  unfold floatToIntVal FloatKind.decode
  have hh : (double.read (F n)).toInt .zero = some (n : Int) := by
    by_cases h0 : n = 0
    · subst h0; decide
    · rw [read_F n h h0]
      unfold Datum.toInt Datum.integral
      dsimp only
      have e1 : (-((52 - n.log2 : Nat) : Int)).toNat = 0 := by omega
      have e2 : (- -((52 - n.log2 : Nat) : Int)).toNat = 52 - n.log2 := by omega
      rw [e1, e2, Nat.shiftLeft_zero, cut_exact _ _ _ h0]
      simp [signed]
  show (match (double.read (F n)).toInt .zero with | some n => _ | none => none) = _
  rw [hh]
  have h1 : IntKind.min .i64 ≤ (n : Int) := by have : IntKind.min .i64 = -9223372036854775808 := by decide
                                               omega
  have h2 : (n : Int) ≤ IntKind.max .i64 := by have : IntKind.max .i64 = 9223372036854775807 := by decide
                                               omega
  exact if_pos ⟨h1, h2⟩

theorem ofInt_F (n : Nat) (h : n < 2 ^ 53) : floatOfInt .f64 (n : Int) = F n := by
  have := nearest_F n 0 h
  simp only [Nat.shiftLeft_zero] at this
  rw [← this]
  unfold floatOfInt FloatKind.nearest FloatKind.encode Format.write
  show double.nearest (decide ((n:Int) < 0)) _ _ = double.nearest _ _ _
  rw [show decide ((n : Int) < 0) = false from decide_eq_false (by omega)]
  simp

theorem F_zero : F 0 = 0 := rfl
end Go.Proofs.Ytiffhjofabaflaa
