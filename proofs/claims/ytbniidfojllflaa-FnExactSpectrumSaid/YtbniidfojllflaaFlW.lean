import Derived.Test.YtbniidfojllflaaFlD
/- Pure facts on widening a single to a double. No program. -/
namespace Go.Fl
open Ieee

def wid (x : Nat) : Nat := D.write (S.read x)
def WEXP : Nat := 925

theorem read_val_bd {x : Nat} (h : x < INF) : ∃ m k, S.read x = .number false m (-149 + (k : Nat)) ∧ val x = m * 2 ^ k ∧ m < 16777216 ∧ k ≤ 253 := by
  rw [INF_val] at h
  have hd : x / 2147483648 = 0 := Nat.div_eq_of_lt (by omega)
  have hm : x % 2147483648 = x := Nat.mod_eq_of_lt (by omega)
  unfold Format.read val
  simp only [sw_S, bin_S, infRung_S, hd, hm]
  by_cases h1 : x < 8388608
  · refine ⟨x, 0, ?_, ?_, by omega, by omega⟩
    · simp [h1]; decide
    · simp [h1]
  · refine ⟨8388608 + x % 8388608, x / 8388608 - 1, ?_, ?_, by omega, by omega⟩
    · simp [h1, h]; decide
    · rw [if_neg h1]

theorem cut_zero (n : Nat) : Toward.even.cut false n 0 = n := by
  simp [Toward.cut, Nat.mod_one]

theorem lp_D : D.leastPlace = -1074 := by decide
theorem fb_D : D.fractionBits = 52 := by decide

theorem write_exact {m k : Nat} (hm0 : m ≠ 0) (hm : m < 16777216) (hk : k ≤ 253) :
    D.write (.number false m (-149 + (k : Nat))) = (k + m.log2 + 873) * 4503599627370496 + m * 2 ^ (52 - m.log2) ∧
    4503599627370496 ≤ m * 2 ^ (52 - m.log2) ∧ m * 2 ^ (52 - m.log2) < 9007199254740992 ∧ m.log2 ≤ 23 := by
  have hL : m.log2 ≤ 23 := by
    have : m.log2 < 24 := (Nat.log2_lt hm0).2 (by omega)
    omega
  have h1 : 2 ^ m.log2 ≤ m := Nat.log2_self_le hm0
  have h2 : m < 2 ^ (m.log2 + 1) := Nat.lt_log2_self
  have hk1 : 4503599627370496 ≤ m * 2 ^ (52 - m.log2) := by
    calc 4503599627370496 = 2 ^ m.log2 * 2 ^ (52 - m.log2) := by rw [← Nat.pow_add, show m.log2 + (52 - m.log2) = 52 by omega]
      _ ≤ _ := Nat.mul_le_mul_right _ h1
  have hk2 : m * 2 ^ (52 - m.log2) < 9007199254740992 := by
    calc m * 2 ^ (52 - m.log2) < 2 ^ (m.log2 + 1) * 2 ^ (52 - m.log2) := Nat.mul_lt_mul_of_pos_right h2 (Nat.two_pow_pos _)
      _ = 9007199254740992 := by rw [← Nat.pow_add, show m.log2 + 1 + (52 - m.log2) = 53 by omega]
  refine ⟨?_, hk1, hk2, hL⟩
  show D.nearest false m _ = _
  unfold Format.nearest
  rw [if_neg hm0]
  have e1 : max (-149 + (k : Int) + (m.log2 : Int) - (D.fractionBits : Nat)) D.leastPlace = (k : Int) + m.log2 - 201 := by
    rw [lp_D, fb_D]; omega
  simp only [e1]
  rw [show (-149 + (k : Int) - ((k : Int) + m.log2 - 201)).toNat = 52 - m.log2 by omega,
    show ((k : Int) + m.log2 - 201 - (-149 + (k : Int))).toNat = 0 by omega, cut_zero, lp_D, Nat.shiftLeft_eq,
    show ((k : Int) + m.log2 - 201 - -1074).toNat = k + m.log2 + 873 by omega, bin_D, infRung_D]
  have : min ((k + m.log2 + 873) * 4503599627370496 + m * 2 ^ (52 - m.log2)) 9218868437227405312 = (k + m.log2 + 873) * 4503599627370496 + m * 2 ^ (52 - m.log2) := by
    apply Nat.min_eq_left
    omega
  rw [this]
  simp [Format.word]

theorem wid_val {x : Nat} (h : x < INF) : wid x < DINF ∧ valD (wid x) = val x * 2 ^ WEXP := by
  obtain ⟨m, k, h1, hv, hm, hk⟩ := read_val_bd h
  unfold wid
  rw [h1, hv, DINF_val]
  by_cases hm0 : m = 0
  · subst hm0
    have e : D.write (.number false 0 (-149 + (k : Nat))) = 0 := by simp [Format.write, Format.nearest, Format.word]
    rw [e]
    exact ⟨by decide, by simp [valD]⟩
  obtain ⟨e, a, b, hL⟩ := write_exact hm0 hm hk
  rw [e]
  generalize hK : m * 2 ^ (52 - m.log2) = K at *
  refine ⟨by omega, ?_⟩
  unfold valD
  rw [if_neg (by omega), show ((k + m.log2 + 873) * 4503599627370496 + K) % 4503599627370496 = K - 4503599627370496 by omega,
    show ((k + m.log2 + 873) * 4503599627370496 + K) / 4503599627370496 = k + m.log2 + 874 by omega,
    show 4503599627370496 + (K - 4503599627370496) = K by omega, ← hK, Nat.mul_assoc, ← Nat.pow_add, Nat.mul_assoc, ← Nat.pow_add]
  have hW : WEXP = 925 := rfl
  rw [show 52 - m.log2 + (k + m.log2 + 874 - 1) = k + WEXP by omega]

/-- The two formats agree on how finite words stand to each other. -/
theorem order_wid {x y : Nat} (hx : x < INF) (hy : y < INF) : D.order (wid x) (wid y) = some (compare x y) := by
  obtain ⟨a, b⟩ := wid_val hx
  obtain ⟨c, d⟩ := wid_val hy
  rw [order_ltD a c, ← compare_valD, b, d, compare_mul _ _ _ (Nat.two_pow_pos _), compare_val]

end Go.Fl
