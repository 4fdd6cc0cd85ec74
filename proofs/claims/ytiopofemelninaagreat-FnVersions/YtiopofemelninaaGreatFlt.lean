/-
  Plain facts on float64: a whole number below 2 to the 53rd is told exactly, and told back.
-/
import Derived.Laws.FloatArith
import Derived.Laws.Cover2
namespace Go.Proofs.YtiopofemelninaaGreat.Flt
open Go Ieee

theorem read_small (e m : Nat) (hm1 : 2 ^ 52 ≤ m) (hm2 : m < 2 ^ 53) (he : e ≤ 52) :
    double.read ((e + 1022) * 2 ^ 52 + m) = .number false m ((e : Int) - 52) := by
  unfold Format.read
  have hs : double.signWeight = 9223372036854775808 := by decide
  have hb : double.binade = 4503599627370496 := by decide
  have hi : double.infRung = 9218868437227405312 := by decide
  have hl : double.leastPlace = -1074 := by decide
  simp only [hs, hb, hi, hl]
  have e1 : ((e + 1022) * 2 ^ 52 + m) % 9223372036854775808 = (e + 1022) * 2 ^ 52 + m := by omega
  have e2 : ((e + 1022) * 2 ^ 52 + m) / 9223372036854775808 = 0 := by omega
  have e3 : ((e + 1022) * 2 ^ 52 + m) / 4503599627370496 = e + 1023 := by omega
  have e4 : 4503599627370496 + ((e + 1022) * 2 ^ 52 + m) % 4503599627370496 = m := by omega
  have e5 : (-1074 : Int) + ((e + 1023 - 1 : Nat) : Int) = (e : Int) - 52 := by omega
  rw [e1, e2, if_neg (by omega), if_pos (by omega), e3, e4, e5]
  rfl

theorem log2_shift (n k : Nat) (h : n ≠ 0) : (n <<< k).log2 = n.log2 + k := by
  rw [Nat.shiftLeft_eq]
  have h1 : n * 2 ^ k ≠ 0 := by
    have := Nat.two_pow_pos k
    exact Nat.mul_ne_zero h (by omega)
  rw [Nat.log2_eq_iff h1]
  obtain ⟨a, b⟩ := (Nat.log2_eq_iff h).1 rfl
  constructor
  · rw [Nat.pow_add]; exact Nat.mul_le_mul_right _ a
  · rw [show n.log2 + k + 1 = (n.log2 + 1) + k from by omega, Nat.pow_add]
    exact Nat.mul_lt_mul_of_pos_right b (Nat.two_pow_pos k)

theorem nearest_small (n : Nat) (h : n ≠ 0) (hn : n < 2 ^ 53) :
    double.nearest false n 0 = (n.log2 + 1022) * 2 ^ 52 + n <<< (52 - n.log2) := by
  have hle : n.log2 ≤ 52 := by
    have := (Nat.log2_lt h (k := 53)).2 hn
    omega
  obtain ⟨a, b⟩ := (Nat.log2_eq_iff h).1 rfl
  have hlo : 2 ^ 52 ≤ n <<< (52 - n.log2) := by
    rw [Nat.shiftLeft_eq]
    calc 2 ^ 52 = 2 ^ n.log2 * 2 ^ (52 - n.log2) := by rw [← Nat.pow_add]; congr 1; omega
      _ ≤ _ := Nat.mul_le_mul_right _ a
  have hhi : n <<< (52 - n.log2) < 2 ^ 53 := by
    rw [Nat.shiftLeft_eq]
    calc n * 2 ^ (52 - n.log2) < 2 ^ (n.log2 + 1) * 2 ^ (52 - n.log2) := Nat.mul_lt_mul_of_pos_right b (Nat.two_pow_pos _)
      _ = 2 ^ 53 := by rw [← Nat.pow_add]; congr 1; omega
  unfold Format.nearest
  have hb : double.binade = 4503599627370496 := by decide
  have hi : double.infRung = 9218868437227405312 := by decide
  have hl : double.leastPlace = -1074 := by decide
  have hf : double.fractionBits = 52 := rfl
  rw [if_neg h]
  simp only [hb, hi, hl, hf]
  have e1 : max (0 + (n.log2 : Int) - ((52 : Nat) : Int)) (-1074) = (n.log2 : Int) - 52 := by omega
  rw [e1]
  have e2 : (0 - ((n.log2 : Int) - 52)).toNat = 52 - n.log2 := by omega
  have e3 : ((n.log2 : Int) - 52 - 0).toNat = 0 := by omega
  rw [e2, e3]
  have e4 : ((n.log2 : Int) - 52 - -1074).toNat = n.log2 + 1022 := by omega
  rw [e4]
  have e5 : Toward.even.cut false (n <<< (52 - n.log2)) 0 = n <<< (52 - n.log2) := by
    unfold Toward.cut
    simp [Nat.mod_one]
  rw [e5]
  unfold Format.word
  simp only [Bool.false_eq_true, if_false]
  generalize n <<< (52 - n.log2) = m at *
  exact Nat.min_eq_left (by omega)

theorem back_small (n : Nat) (hn : n < 2 ^ 53) : floatToIntVal .f64 (FloatKind.f64.nearest (n : Int)) .i64 = some (n : Int) := by
  have hdec : (FloatKind.f64.decode (FloatKind.f64.nearest (n : Int))).toInt .zero = some (n : Int) := by
    by_cases h : n = 0
    · subst h; decide +kernel
    · have hle : n.log2 ≤ 52 := by
        have := (Nat.log2_lt h (k := 53)).2 hn
        omega
      have hneg : decide ((n : Int) < 0) = false := by simp
      show (double.read (double.write (.number (decide ((n : Int) < 0)) (n : Int).natAbs 0))).toInt .zero = _
      rw [hneg, Int.natAbs_natCast]
      show (double.read (double.nearest false n 0)).toInt .zero = _
      rw [nearest_small n h hn]
      obtain ⟨a, b⟩ := (Nat.log2_eq_iff h).1 rfl
      have hlo : 2 ^ 52 ≤ n <<< (52 - n.log2) := by
        rw [Nat.shiftLeft_eq]
        calc 2 ^ 52 = 2 ^ n.log2 * 2 ^ (52 - n.log2) := by rw [← Nat.pow_add]; congr 1; omega
          _ ≤ _ := Nat.mul_le_mul_right _ a
      have hhi : n <<< (52 - n.log2) < 2 ^ 53 := by
        rw [Nat.shiftLeft_eq]
        calc n * 2 ^ (52 - n.log2) < 2 ^ (n.log2 + 1) * 2 ^ (52 - n.log2) := Nat.mul_lt_mul_of_pos_right b (Nat.two_pow_pos _)
          _ = 2 ^ 53 := by rw [← Nat.pow_add]; congr 1; omega
      rw [read_small _ _ hlo hhi hle]
      have hi0 : ((n.log2 : Int) - 52).toNat = 0 := by omega
      have hi1 : (-((n.log2 : Int) - 52)).toNat = 52 - n.log2 := by omega
      simp only [Datum.toInt, Datum.integral, hi0, hi1]
      have hc : Toward.zero.cut false (n <<< (52 - n.log2) <<< 0) (52 - n.log2) = n := by
        unfold Toward.cut
        simp only [Nat.shiftLeft_zero]
        rw [log2_shift n _ h, Nat.min_eq_left (by omega)]
        simp only [Bool.toNat_false, Nat.add_zero]
        rw [Nat.shiftLeft_eq, Nat.shiftLeft_eq, Nat.one_mul, Nat.mul_div_cancel _ (Nat.two_pow_pos _)]
      rw [hc]
      simp [signed]
  unfold floatToIntVal
  rw [hdec]
  have e1 : IntKind.i64.min = -9223372036854775808 := by decide
  have e2 : IntKind.i64.max = 9223372036854775807 := by decide
  rw [e1, e2]
  simp only []
  rw [if_pos (by omega)]

end Go.Proofs.YtiopofemelninaaGreat.Flt
