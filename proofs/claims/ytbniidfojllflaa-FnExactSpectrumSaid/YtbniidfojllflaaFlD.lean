import Derived.Test.YtbniidfojllflaaFlS
/- Pure facts on double-precision words. No program. -/
namespace Go.Fl
open Ieee

abbrev D : Ieee.Format := Ieee.double
def DINF : Nat := 0x7ff0000000000000
theorem DINF_val : DINF = 9218868437227405312 := rfl
theorem infRung_D : D.infRung = 9218868437227405312 := by decide
theorem sw_D : D.signWeight = 9223372036854775808 := by decide
theorem bin_D : D.binade = 4503599627370496 := by decide

theorem read_ltD {x : Nat} (h : x < DINF) : ∃ m e, D.read x = .number false m e := by
  rw [DINF_val] at h
  have hd : x / 9223372036854775808 = 0 := Nat.div_eq_of_lt (by omega)
  have hm : x % 9223372036854775808 = x := Nat.mod_eq_of_lt (by omega)
  unfold Format.read
  simp only [sw_D, bin_D, infRung_D, hd, hm]
  by_cases h1 : x < 4503599627370496
  · simp [h1]
  · simp [h1, h]

theorem read_DINF : D.read DINF = .infinity false := by decide

theorem read_nnD {x : Nat} (h : x ≤ DINF) : NN (D.read x) := by
  rcases Nat.lt_or_eq_of_le h with h | h
  · exact .inl (read_ltD h)
  · subst h; exact .inr read_DINF

theorem write_nnD {d : Datum} (h : NN d) : D.write d ≤ DINF := by
  rw [DINF_val]
  rcases h with ⟨m, e, rfl⟩ | rfl
  · show D.nearest false m e ≤ _
    unfold Format.nearest
    split
    · simp [Format.word]
    · simp only [Format.word]
      have := Nat.min_le_right (((max (e + m.log2 - D.fractionBits) D.leastPlace) - D.leastPlace).toNat * D.binade + Toward.even.cut false (m <<< (e - max (e + m.log2 - D.fractionBits) D.leastPlace).toNat) ((max (e + m.log2 - D.fractionBits) D.leastPlace) - e).toNat) D.infRung
      rw [infRung_D] at this ⊢
      simpa using this
  · decide

theorem add_nnD {x y : Nat} (hx : x ≤ DINF) (hy : y ≤ DINF) : ∃ r, D.add x y = some r ∧ r ≤ DINF := by
  unfold Format.add
  rcases read_nnD hx with ⟨m, e, h1⟩ | h1 <;> rcases read_nnD hy with ⟨n, f, h2⟩ | h2 <;> rw [h1, h2]
  · refine ⟨_, rfl, write_nnD (NN_number ?_)⟩
    simp only [signed, Bool.false_eq_true, if_false]
    split
    · rfl
    · refine decide_eq_false ?_
      have h1 : (0 : Int) ≤ ((m <<< (e - min e f).toNat : Nat) : Int) := Int.natCast_nonneg _
      have h2 : (0 : Int) ≤ ((n <<< (f - min e f).toNat : Nat) : Int) := Int.natCast_nonneg _
      intro h; exact absurd (Int.add_nonneg h1 h2) (Int.not_le.2 h)
  · exact ⟨_, rfl, write_nnD (.inr rfl)⟩
  · exact ⟨_, rfl, write_nnD (.inr rfl)⟩
  · exact ⟨_, rfl, write_nnD (.inr (by simp))⟩

theorem mul_nnD {x y : Nat} (hx : x < DINF) (hy : y < DINF) : ∃ r, D.mul x y = some r ∧ r ≤ DINF := by
  unfold Format.mul
  obtain ⟨m, e, h1⟩ := read_ltD hx
  obtain ⟨n, f, h2⟩ := read_ltD hy
  rw [h1, h2]
  exact ⟨_, rfl, write_nnD (.inl ⟨_, _, rfl⟩)⟩

theorem sub_finD {x y : Nat} (hx : x < DINF) (hy : y < DINF) : ∃ r, D.sub x y = some r ∧ r < 2 ^ 64 := by
  obtain ⟨m, e, h1⟩ := read_ltD hx
  obtain ⟨n, f, h2⟩ := read_ltD hy
  have : ∃ r, D.sub x y = some r := by
    unfold Format.sub
    rw [h1, h2]
    exact ⟨_, rfl⟩
  obtain ⟨r, hr⟩ := this
  exact ⟨r, hr, D.sub_lt hr⟩

theorem sub_selfD {x : Nat} (hx : x < DINF) : D.sub x x = some 0 := by
  obtain ⟨m, e, h1⟩ := read_ltD hx
  unfold Format.sub
  rw [h1]
  simp [Datum.opposite, Datum.sum, signed, Int.add_right_neg, Format.write, Format.nearest, Format.word]

/-- A finite word's magnitude in units of the least subnormal number. -/
def valD (x : Nat) : Nat := if x < 4503599627370496 then x else (4503599627370496 + x % 4503599627370496) * 2 ^ (x / 4503599627370496 - 1)

theorem val_ltD {x y : Nat} (h : x < y) : valD x < valD y := by
  unfold valD
  by_cases h1 : y < 4503599627370496
  · rw [if_pos (by omega), if_pos h1]; exact h
  rw [if_neg h1]
  by_cases h2 : x < 4503599627370496
  · rw [if_pos h2]
    have : 0 < 2 ^ (y / 4503599627370496 - 1) := Nat.two_pow_pos _
    calc x < 4503599627370496 + y % 4503599627370496 := by omega
      _ ≤ _ := Nat.le_mul_of_pos_right _ this
  rw [if_neg h2]
  by_cases h3 : x / 4503599627370496 = y / 4503599627370496
  · rw [h3]
    exact Nat.mul_lt_mul_of_pos_right (by omega) (Nat.two_pow_pos _)
  · have h4 : x / 4503599627370496 < y / 4503599627370496 := by omega
    obtain ⟨d, hd⟩ : ∃ d, y / 4503599627370496 - 1 = (x / 4503599627370496 - 1) + 1 + d := ⟨y / 4503599627370496 - 1 - (x / 4503599627370496 - 1) - 1, by omega⟩
    rw [hd, Nat.pow_add, Nat.pow_succ]
    have hp : 0 < 2 ^ (x / 4503599627370496 - 1) := Nat.two_pow_pos _
    have hq : 0 < 2 ^ d := Nat.two_pow_pos _
    calc (4503599627370496 + x % 4503599627370496) * 2 ^ (x / 4503599627370496 - 1) < 9007199254740992 * 2 ^ (x / 4503599627370496 - 1) := Nat.mul_lt_mul_of_pos_right (by omega) hp
      _ = 4503599627370496 * (2 ^ (x / 4503599627370496 - 1) * 2) := by omega
      _ ≤ 4503599627370496 * (2 ^ (x / 4503599627370496 - 1) * 2 * 2 ^ d) := Nat.mul_le_mul_left _ (Nat.le_mul_of_pos_right _ hq)
      _ ≤ _ := Nat.mul_le_mul_right _ (by omega)

theorem read_valD {x : Nat} (h : x < DINF) : ∃ m k, D.read x = .number false m (-1074 + (k : Nat)) ∧ valD x = m * 2 ^ k := by
  rw [DINF_val] at h
  have hd : x / 9223372036854775808 = 0 := Nat.div_eq_of_lt (by omega)
  have hm : x % 9223372036854775808 = x := Nat.mod_eq_of_lt (by omega)
  unfold Format.read valD
  simp only [sw_D, bin_D, infRung_D, hd, hm]
  by_cases h1 : x < 4503599627370496
  · refine ⟨x, 0, ?_, ?_⟩
    · simp [h1]; decide
    · simp [h1]
  · refine ⟨4503599627370496 + x % 4503599627370496, x / 4503599627370496 - 1, ?_, ?_⟩
    · simp [h1, h]; decide
    · rw [if_neg h1]

theorem compare_valD (x y : Nat) : compare (valD x) (valD y) = compare x y := by
  rcases Nat.lt_trichotomy x y with h | h | h
  · rw [Nat.compare_eq_lt.2 h, Nat.compare_eq_lt.2 (val_ltD h)]
  · subst h; simp
  · rw [Nat.compare_eq_gt.2 h, Nat.compare_eq_gt.2 (val_ltD h)]

/-- Two finite words that are at least +0 stand to each other as their bits do. -/
theorem order_ltD {x y : Nat} (hx : x < DINF) (hy : y < DINF) : D.order x y = some (compare x y) := by
  obtain ⟨m, j, h1, v1⟩ := read_valD hx
  obtain ⟨n, k, h2, v2⟩ := read_valD hy
  unfold Format.order
  rw [h1, h2, ← compare_valD x y, v1, v2]
  simp only [Datum.order, signed]
  congr 1
  simp only [Bool.false_eq_true, if_false, Nat.shiftLeft_eq, compare_cast]
  rcases Nat.le_total j k with h | h
  · have e1 : (-1074 + (j : Int) - min (-1074 + (j : Int)) (-1074 + k)).toNat = 0 := by omega
    have e2 : (-1074 + (k : Int) - min (-1074 + (j : Int)) (-1074 + k)).toNat = k - j := by omega
    rw [e1, e2]
    obtain ⟨d, rfl⟩ : ∃ d, k = j + d := ⟨k - j, by omega⟩
    rw [show j + d - j = d by omega, Nat.pow_add, show n * (2 ^ j * 2 ^ d) = n * 2 ^ d * 2 ^ j by rw [Nat.mul_comm (2 ^ j), Nat.mul_assoc], compare_mul _ _ _ (Nat.two_pow_pos _)]
    simp
  · have e1 : (-1074 + (j : Int) - min (-1074 + (j : Int)) (-1074 + k)).toNat = j - k := by omega
    have e2 : (-1074 + (k : Int) - min (-1074 + (j : Int)) (-1074 + k)).toNat = 0 := by omega
    rw [e1, e2]
    obtain ⟨d, rfl⟩ : ∃ d, j = k + d := ⟨j - k, by omega⟩
    rw [show k + d - k = d by omega, Nat.pow_add, show m * (2 ^ k * 2 ^ d) = m * 2 ^ d * 2 ^ k by rw [Nat.mul_comm (2 ^ k), Nat.mul_assoc], compare_mul _ _ _ (Nat.two_pow_pos _)]
    simp

end Go.Fl
