import Derived.Laws.FloatArith
/- Pure facts on single-precision words. No program. -/
namespace Go.Fl
open Ieee

abbrev S : Ieee.Format := Ieee.single

/-- The word of positive infinity: a word below it is a finite number that is at least +0. -/
def INF : Nat := 0x7f800000

theorem INF_val : INF = 2139095040 := rfl
theorem infRung_S : S.infRung = 2139095040 := by decide
theorem sw_S : S.signWeight = 2147483648 := by decide
theorem bin_S : S.binade = 8388608 := by decide

def NN (d : Datum) : Prop := (∃ m e, d = .number false m e) ∨ d = .infinity false

theorem NN_number {s : Bool} {m : Nat} {e : Int} (h : s = false) : NN (.number s m e) := by subst h; exact .inl ⟨_, _, rfl⟩

theorem read_lt {x : Nat} (h : x < INF) : ∃ m e, S.read x = .number false m e := by
  rw [INF_val] at h
  have hd : x / 2147483648 = 0 := Nat.div_eq_of_lt (by omega)
  have hm : x % 2147483648 = x := Nat.mod_eq_of_lt (by omega)
  unfold Format.read
  simp only [sw_S, bin_S, infRung_S, hd, hm]
  by_cases h1 : x < 8388608
  · simp [h1]
  · simp [h1, h]

theorem read_INF : S.read INF = .infinity false := by decide

theorem read_nn {x : Nat} (h : x ≤ INF) : NN (S.read x) := by
  rcases Nat.lt_or_eq_of_le h with h | h
  · exact .inl (read_lt h)
  · subst h; exact .inr read_INF

theorem write_nn {d : Datum} (h : NN d) : S.write d ≤ INF := by
  rw [INF_val]
  rcases h with ⟨m, e, rfl⟩ | rfl
  · show S.nearest false m e ≤ _
    unfold Format.nearest
    split
    · simp [Format.word]
    · simp only [Format.word]
      have := Nat.min_le_right (((max (e + m.log2 - S.fractionBits) S.leastPlace) - S.leastPlace).toNat * S.binade + Toward.even.cut false (m <<< (e - max (e + m.log2 - S.fractionBits) S.leastPlace).toNat) ((max (e + m.log2 - S.fractionBits) S.leastPlace) - e).toNat) S.infRung
      rw [infRung_S] at this ⊢
      simpa using this
  · decide

theorem add_nn {x y : Nat} (hx : x ≤ INF) (hy : y ≤ INF) : ∃ r, S.add x y = some r ∧ r ≤ INF := by
  unfold Format.add
  rcases read_nn hx with ⟨m, e, h1⟩ | h1 <;> rcases read_nn hy with ⟨n, f, h2⟩ | h2 <;> rw [h1, h2]
  · refine ⟨_, rfl, write_nn (NN_number ?_)⟩
    simp only [signed, Bool.false_eq_true, if_false]
    split
    · rfl
    · refine decide_eq_false ?_
      have h1 : (0 : Int) ≤ ((m <<< (e - min e f).toNat : Nat) : Int) := Int.natCast_nonneg _
      have h2 : (0 : Int) ≤ ((n <<< (f - min e f).toNat : Nat) : Int) := Int.natCast_nonneg _
      intro h; exact absurd (Int.add_nonneg h1 h2) (Int.not_le.2 h)
  · exact ⟨_, rfl, write_nn (.inr rfl)⟩
  · exact ⟨_, rfl, write_nn (.inr rfl)⟩
  · exact ⟨_, rfl, write_nn (.inr (by simp))⟩

theorem mul_nn {x y : Nat} (hx : x < INF) (hy : y < INF) : ∃ r, S.mul x y = some r ∧ r ≤ INF := by
  unfold Format.mul
  obtain ⟨m, e, h1⟩ := read_lt hx
  obtain ⟨n, f, h2⟩ := read_lt hy
  rw [h1, h2]
  exact ⟨_, rfl, write_nn (.inl ⟨_, _, rfl⟩)⟩

theorem sub_fin {x y : Nat} (hx : x < INF) (hy : y < INF) : ∃ r, S.sub x y = some r ∧ r < 2 ^ 32 := by
  obtain ⟨m, e, h1⟩ := read_lt hx
  obtain ⟨n, f, h2⟩ := read_lt hy
  have : ∃ r, S.sub x y = some r := by
    unfold Format.sub
    rw [h1, h2]
    exact ⟨_, rfl⟩
  obtain ⟨r, hr⟩ := this
  exact ⟨r, hr, S.sub_lt hr⟩

theorem sub_self {x : Nat} (hx : x < INF) : S.sub x x = some 0 := by
  obtain ⟨m, e, h1⟩ := read_lt hx
  unfold Format.sub
  rw [h1]
  simp [Datum.opposite, Datum.sum, signed, Int.add_right_neg, Format.write, Format.nearest, Format.word]

/-- A finite word's magnitude in units of the least subnormal number. -/
def val (x : Nat) : Nat := if x < 8388608 then x else (8388608 + x % 8388608) * 2 ^ (x / 8388608 - 1)

theorem val_lt {x y : Nat} (h : x < y) : val x < val y := by
  unfold val
  by_cases h1 : y < 8388608
  · rw [if_pos (by omega), if_pos h1]; exact h
  rw [if_neg h1]
  by_cases h2 : x < 8388608
  · rw [if_pos h2]
    have : 0 < 2 ^ (y / 8388608 - 1) := Nat.two_pow_pos _
    calc x < 8388608 + y % 8388608 := by omega
      _ ≤ _ := Nat.le_mul_of_pos_right _ this
  rw [if_neg h2]
  by_cases h3 : x / 8388608 = y / 8388608
  · rw [h3]
    exact Nat.mul_lt_mul_of_pos_right (by omega) (Nat.two_pow_pos _)
  · have h4 : x / 8388608 < y / 8388608 := by omega
    obtain ⟨d, hd⟩ : ∃ d, y / 8388608 - 1 = (x / 8388608 - 1) + 1 + d := ⟨y / 8388608 - 1 - (x / 8388608 - 1) - 1, by omega⟩
    rw [hd, Nat.pow_add, Nat.pow_succ]
    have hp : 0 < 2 ^ (x / 8388608 - 1) := Nat.two_pow_pos _
    have hq : 0 < 2 ^ d := Nat.two_pow_pos _
    calc (8388608 + x % 8388608) * 2 ^ (x / 8388608 - 1) < 16777216 * 2 ^ (x / 8388608 - 1) := Nat.mul_lt_mul_of_pos_right (by omega) hp
      _ = 8388608 * (2 ^ (x / 8388608 - 1) * 2) := by omega
      _ ≤ 8388608 * (2 ^ (x / 8388608 - 1) * 2 * 2 ^ d) := Nat.mul_le_mul_left _ (Nat.le_mul_of_pos_right _ hq)
      _ ≤ _ := Nat.mul_le_mul_right _ (by omega)

theorem read_val {x : Nat} (h : x < INF) : ∃ m k, S.read x = .number false m (-149 + (k : Nat)) ∧ val x = m * 2 ^ k := by
  rw [INF_val] at h
  have hd : x / 2147483648 = 0 := Nat.div_eq_of_lt (by omega)
  have hm : x % 2147483648 = x := Nat.mod_eq_of_lt (by omega)
  unfold Format.read val
  simp only [sw_S, bin_S, infRung_S, hd, hm]
  by_cases h1 : x < 8388608
  · refine ⟨x, 0, ?_, ?_⟩
    · simp [h1]; decide
    · simp [h1]
  · refine ⟨8388608 + x % 8388608, x / 8388608 - 1, ?_, ?_⟩
    · simp [h1, h]; decide
    · rw [if_neg h1]

theorem compare_mul (a b k : Nat) (h : 0 < k) : compare (a * k) (b * k) = compare a b := by
  simp only [compare, compareOfLessAndEq, Nat.mul_lt_mul_right h]
  have : a * k = b * k ↔ a = b := ⟨fun e => Nat.eq_of_mul_eq_mul_right h e, fun e => by rw [e]⟩
  simp only [this]

theorem compare_val (x y : Nat) : compare (val x) (val y) = compare x y := by
  rcases Nat.lt_trichotomy x y with h | h | h
  · rw [Nat.compare_eq_lt.2 h, Nat.compare_eq_lt.2 (val_lt h)]
  · subst h; simp
  · rw [Nat.compare_eq_gt.2 h, Nat.compare_eq_gt.2 (val_lt h)]

theorem compare_cast (a b : Nat) : compare (a : Int) (b : Int) = compare a b := by
  simp only [compare, compareOfLessAndEq, Int.ofNat_lt, Int.ofNat_inj]

/-- Two finite words that are at least +0 stand to each other as their bits do. -/
theorem order_lt {x y : Nat} (hx : x < INF) (hy : y < INF) : S.order x y = some (compare x y) := by
  obtain ⟨m, j, h1, v1⟩ := read_val hx
  obtain ⟨n, k, h2, v2⟩ := read_val hy
  unfold Format.order
  rw [h1, h2, ← compare_val x y, v1, v2]
  simp only [Datum.order, signed]
  congr 1
  simp only [Bool.false_eq_true, if_false, Nat.shiftLeft_eq, compare_cast]
  rcases Nat.le_total j k with h | h
  · have e1 : (-149 + (j : Int) - min (-149 + (j : Int)) (-149 + k)).toNat = 0 := by omega
    have e2 : (-149 + (k : Int) - min (-149 + (j : Int)) (-149 + k)).toNat = k - j := by omega
    rw [e1, e2]
    obtain ⟨d, rfl⟩ : ∃ d, k = j + d := ⟨k - j, by omega⟩
    rw [show j + d - j = d by omega, Nat.pow_add, show n * (2 ^ j * 2 ^ d) = n * 2 ^ d * 2 ^ j by rw [Nat.mul_comm (2 ^ j), Nat.mul_assoc], compare_mul _ _ _ (Nat.two_pow_pos _)]
    simp
  · have e1 : (-149 + (j : Int) - min (-149 + (j : Int)) (-149 + k)).toNat = j - k := by omega
    have e2 : (-149 + (k : Int) - min (-149 + (j : Int)) (-149 + k)).toNat = 0 := by omega
    rw [e1, e2]
    obtain ⟨d, rfl⟩ : ∃ d, j = k + d := ⟨j - k, by omega⟩
    rw [show k + d - k = d by omega, Nat.pow_add, show m * (2 ^ k * 2 ^ d) = m * 2 ^ d * 2 ^ k by rw [Nat.mul_comm (2 ^ k), Nat.mul_assoc], compare_mul _ _ _ (Nat.two_pow_pos _)]
    simp

end Go.Fl
