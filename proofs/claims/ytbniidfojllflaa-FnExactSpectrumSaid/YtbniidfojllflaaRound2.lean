import Derived.Test.YtbniidfojllflaaRound
/- What the operations give, by the values of their operands; and their order. No program. -/
namespace Go.Fl
open Ieee

theorem nearest_congr {m m' : Nat} {E E' : Int} (p p' : Nat) (hp : E - E' = (p : Int) - p') (h : m * 2 ^ p = m' * 2 ^ p') : S.nearest false m (-149 + E) = S.nearest false m' (-149 + E') :=
  Nat.le_antisymm (nearest_mono p p' hp (Nat.le_of_eq h)) (nearest_mono p' p (by omega) (Nat.le_of_eq h.symm))

theorem cut_z (n : Nat) : Toward.even.cut false n 0 = n := by simp [Toward.cut, Nat.mod_one]

theorem read_rep {y : Nat} (h : y < INF) : ∃ M t, S.read y = .number false M (-149 + (t : Nat)) ∧ val y = M * 2 ^ t ∧ y = t * 8388608 + M ∧ M < 16777216 ∧ (t = 0 ∨ 8388608 ≤ M) := by
  rw [INF_val] at h
  have hd : y / 2147483648 = 0 := Nat.div_eq_of_lt (by omega)
  have hm : y % 2147483648 = y := Nat.mod_eq_of_lt (by omega)
  unfold Format.read val
  simp only [sw_S, bin_S, infRung_S, hd, hm]
  by_cases h1 : y < 8388608
  · refine ⟨y, 0, ?_, ?_, by omega, by omega, .inl rfl⟩
    · simp [h1]; decide
    · simp [h1]
  · refine ⟨8388608 + y % 8388608, y / 8388608 - 1, ?_, ?_, by omega, by omega, .inr (by omega)⟩
    · simp [h1, h]; decide
    · rw [if_neg h1]

/-- A word's own value is written as the word. -/
theorem nearest_val {y : Nat} (h : y < INF) : S.nearest false (val y) (-149 + (0 : Int)) = y := by
  obtain ⟨M, t, _, hv, hy, hM, ht⟩ := read_rep h
  have e : S.nearest false (val y) (-149 + (0 : Int)) = S.nearest false M (-149 + (t : Int)) := by
    apply nearest_congr 0 t (by omega)
    rw [hv]; simp
  rw [e]
  by_cases hM0 : M = 0
  · have ht0 : t = 0 := by omega
    subst hM0; subst ht0
    unfold Format.nearest
    simp [Format.word, hy]
  rw [nearest_rung hM0]
  have hl : M.log2 < 24 := (Nat.log2_lt hM0).2 (by omega)
  have hl2 : 8388608 ≤ M → 23 ≤ M.log2 := fun h8 => (Nat.le_log2 hM0).2 (by omega)
  have hT : rungT M t = t := by
    unfold rungT
    rcases ht with rfl | h8
    · omega
    · have := hl2 h8; omega
  unfold rungK
  rw [hT, show ((t : Int) - (t : Int)).toNat = 0 by omega, cut_z]
  rw [INF_val] at h
  simp only [Nat.pow_zero, Nat.mul_one]
  rw [← hy]
  exact Nat.min_eq_left (by omega)

theorem nearest_le_word {m y : Nat} {E : Int} (hy : y < INF) (p p' : Nat) (hp : E = (p : Int) - p') (h : m * 2 ^ p ≤ val y * 2 ^ p') : S.nearest false m (-149 + E) ≤ y := by
  have := nearest_mono (m := m) (m' := val y) (E := E) (E' := 0) p p' (by omega) h
  rwa [nearest_val hy] at this

theorem word_le_nearest {m y : Nat} {E : Int} (hy : y < INF) (p p' : Nat) (hp : E = (p : Int) - p') (h : val y * 2 ^ p' ≤ m * 2 ^ p) : y ≤ S.nearest false m (-149 + E) := by
  have := nearest_mono (m := val y) (m' := m) (E := 0) (E' := E) p' p (by omega) h
  rwa [nearest_val hy] at this

theorem fadd_val {x y : Nat} (hx : x < INF) (hy : y < INF) : fadd x y = S.nearest false (val x + val y) (-149 + (0 : Int)) := by
  obtain ⟨m, j, h1, v1⟩ := read_val hx
  obtain ⟨n, k, h2, v2⟩ := read_val hy
  unfold fadd Format.add
  rw [h1, h2, v1, v2]
  simp only [Datum.sum, signed, Bool.false_eq_true, if_false, Option.map_some, Option.getD_some, Nat.shiftLeft_eq]
  have hs : ∀ a b : Nat, ((a : Int) + (b : Int)).natAbs = a + b := fun a b => by omega
  have hneg : ∀ a b : Nat, (if (a : Int) + (b : Int) = 0 then false && false else decide ((a : Int) + (b : Int) < 0)) = false := fun a b => by
    split
    · rfl
    · simp; omega
  rw [hs, hneg]
  show S.nearest false _ _ = _
  rcases Nat.le_total j k with h | h
  · obtain ⟨s, rfl⟩ : ∃ s, k = j + s := ⟨k - j, by omega⟩
    have e0 : min (-149 + (j : Int)) (-149 + ((j + s : Nat) : Int)) = -149 + (j : Int) := by omega
    rw [e0, show (-149 + (j : Int) - (-149 + (j : Int))).toNat = 0 by omega, show (-149 + ((j + s : Nat) : Int) - (-149 + (j : Int))).toNat = s by omega]
    apply nearest_congr j 0 (by omega)
    rw [Nat.pow_zero, Nat.mul_one, Nat.mul_one, Nat.add_mul, Nat.pow_add, Nat.mul_assoc, Nat.mul_comm (2 ^ s)]
  · obtain ⟨s, rfl⟩ : ∃ s, j = k + s := ⟨j - k, by omega⟩
    have e0 : min (-149 + ((k + s : Nat) : Int)) (-149 + (k : Int)) = -149 + (k : Int) := by omega
    rw [e0, show (-149 + (k : Int) - (-149 + (k : Int))).toNat = 0 by omega, show (-149 + ((k + s : Nat) : Int) - (-149 + (k : Int))).toNat = s by omega]
    apply nearest_congr k 0 (by omega)
    rw [Nat.pow_zero, Nat.mul_one, Nat.mul_one, Nat.add_mul, Nat.pow_add, Nat.mul_assoc, Nat.mul_comm (2 ^ s)]

theorem fmul_val {x y : Nat} (hx : x < INF) (hy : y < INF) : fmul x y = S.nearest false (val x * val y) (-149 + (-149 : Int)) := by
  obtain ⟨m, j, h1, v1⟩ := read_val hx
  obtain ⟨n, k, h2, v2⟩ := read_val hy
  unfold fmul Format.mul
  rw [h1, h2, v1, v2]
  simp only [Datum.product, Option.map_some, Option.getD_some]
  show S.nearest false (m * n) (-149 + (j : Int) + (-149 + (k : Int))) = _
  rw [show -149 + (j : Int) + (-149 + (k : Int)) = -149 + ((j : Int) + k - 149) by omega]
  apply nearest_congr (j + k) 0 (by omega)
  rw [Nat.pow_zero, Nat.mul_one, Nat.pow_add]
  rw [show m * n * (2 ^ j * 2 ^ k) = m * 2 ^ j * (n * 2 ^ k) by rw [Nat.mul_assoc, Nat.mul_left_comm n, ← Nat.mul_assoc]]

theorem val_le {x y : Nat} (h : x ≤ y) : val x ≤ val y := by
  rcases Nat.lt_or_eq_of_le h with h | h
  · exact Nat.le_of_lt (val_lt h)
  · rw [h]; exact Nat.le_refl _

theorem fadd_zero {x : Nat} (hx : nnB x = true) : fadd 0 x = x := by
  rw [nnB_iff] at hx
  rcases Nat.lt_or_eq_of_le hx with h | h
  · rw [fadd_val (by decide) h, val_zero, Nat.zero_add, nearest_val h]
  · rw [h]; decide

theorem fmul_zero {x : Nat} (hx : amtB x = true) : fmul 0 x = 0 := by
  rw [fmul_val (by decide) (amtB_iff.1 hx), val_zero, Nat.zero_mul]
  unfold Format.nearest
  simp [Format.word]

def VONE : Nat := 149
theorem val_ONE : val 1065353216 = 2 ^ VONE := by decide +kernel

theorem fmul_le {x y : Nat} (hx : x ≤ 1065353216) (hy : y < INF) : fmul x y ≤ y := by
  rw [fmul_val (by rw [INF_val]; omega) hy]
  refine nearest_le_word hy 0 VONE (by unfold VONE; omega) ?_
  rw [Nat.pow_zero, Nat.mul_one, Nat.mul_comm, ← val_ONE]
  exact Nat.mul_le_mul_left _ (val_le hx)

theorem le_fmul {x y : Nat} (hx : x < INF) (hy : 1065353216 ≤ y) (hy' : y < INF) : x ≤ fmul x y := by
  rw [fmul_val hx hy']
  refine word_le_nearest hx 0 VONE (by unfold VONE; omega) ?_
  rw [Nat.pow_zero, Nat.mul_one, ← val_ONE]
  exact Nat.mul_le_mul_left _ (val_le hy)

theorem write_INF : S.write (.infinity false) = INF := by decide
theorem add_inf_left {y : Nat} (h : y ≤ INF) : fadd INF y = INF := by
  have e : (Datum.infinity false).sum (S.read y) = some (.infinity false) := by
    rcases read_nn h with ⟨m, e, h1⟩ | h1 <;> rw [h1] <;> rfl
  unfold fadd Format.add
  rw [read_INF, e, Option.map_some, Option.getD_some, write_INF]
theorem add_inf_right {x : Nat} (h : x ≤ INF) : fadd x INF = INF := by
  have e : (S.read x).sum (Datum.infinity false) = some (.infinity false) := by
    rcases read_nn h with ⟨m, e, h1⟩ | h1 <;> rw [h1] <;> rfl
  unfold fadd Format.add
  rw [read_INF, e, Option.map_some, Option.getD_some, write_INF]

theorem fadd_mono {x y x' y' : Nat} (h1 : x ≤ x') (h2 : y ≤ y') (hx' : x' ≤ INF) (hy' : y' ≤ INF) : fadd x y ≤ fadd x' y' := by
  have hle : fadd x y ≤ INF := nnB_iff.1 (add_eq (nnB_iff.2 (Nat.le_trans h1 hx')) (nnB_iff.2 (Nat.le_trans h2 hy'))).2
  rcases Nat.lt_or_eq_of_le hx' with a | a
  · rcases Nat.lt_or_eq_of_le hy' with b | b
    · rw [fadd_val (by omega) (by omega), fadd_val a b]
      exact nearest_mono 0 0 (by omega) (by rw [Nat.pow_zero, Nat.mul_one, Nat.mul_one]; exact Nat.add_le_add (val_le h1) (val_le h2))
    · rw [b, add_inf_right hx']; exact hle
  · rw [a, add_inf_left hy']; exact hle
end Go.Fl
