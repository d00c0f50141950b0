import Derived.Test.YtbniidfojllflaaAt
/- More pure facts: how words stand to each other; classes; a zero added. No program. -/
namespace Go.Fl
open Ieee

theorem val_zero : val 0 = 0 := by decide
theorem order_neg_pos {x y : Nat} (hx : x < 4294967296) (h : finB x = true) (hs : 2147483648 ≤ x) (hy0 : 0 < y) (hy : y < INF) : S.order x y = some .lt := by
  obtain ⟨m, e, _, h2⟩ := read_fin hx (finB_iff.1 h)
  obtain ⟨n, k, h3, hv⟩ := read_val hy
  have hpos : 0 < val y := by have := val_lt hy0; rw [val_zero] at this; exact this
  have hn : 0 < n := by
    rcases Nat.eq_zero_or_pos n with h0 | h0
    · rw [h0, Nat.zero_mul] at hv; omega
    · exact h0
  unfold Format.order
  rw [h2, h3, decide_eq_true hs]
  simp only [Datum.order, signed, if_true, Bool.false_eq_true, if_false]
  congr 1
  have hq : 0 < n <<< (-149 + (k : Int) - min e (-149 + k)).toNat := by
    rw [Nat.shiftLeft_eq]; exact Nat.mul_pos hn (Nat.two_pow_pos _)
  generalize m <<< (e - min e (-149 + (k : Int))).toNat = p
  generalize n <<< (-149 + (k : Int) - min e (-149 + k)).toNat = q at hq
  rw [Int.compare_eq_lt]
  omega

theorem lt_t {x y : Nat} (hx : amtB x = true) (hy : amtB y = true) (h : x < y) : (FloatKind.f32.format.order x y == some .lt) = true := by
  show (S.order x y == some .lt) = true
  rw [order_lt (amtB_iff.1 hx) (amtB_iff.1 hy), Nat.compare_eq_lt.2 h]; rfl
theorem lt_f {x y : Nat} (hx : amtB x = true) (hy : amtB y = true) (h : y ≤ x) : (FloatKind.f32.format.order x y == some .lt) = false := by
  show (S.order x y == some .lt) = false
  rw [order_lt (amtB_iff.1 hx) (amtB_iff.1 hy)]
  rcases Nat.lt_or_eq_of_le h with h | h
  · rw [Nat.compare_eq_gt.2 h]; rfl
  · rw [Nat.compare_eq_eq.2 h.symm]; rfl
theorem gt_t {x y : Nat} (hx : amtB x = true) (hy : amtB y = true) (h : y < x) : (FloatKind.f32.format.order x y == some .gt) = true := by
  show (S.order x y == some .gt) = true
  rw [order_lt (amtB_iff.1 hx) (amtB_iff.1 hy), Nat.compare_eq_gt.2 h]; rfl
theorem gt_f {x y : Nat} (hx : amtB x = true) (hy : amtB y = true) (h : x ≤ y) : (FloatKind.f32.format.order x y == some .gt) = false := by
  show (S.order x y == some .gt) = false
  rw [order_lt (amtB_iff.1 hx) (amtB_iff.1 hy)]
  rcases Nat.lt_or_eq_of_le h with h | h
  · rw [Nat.compare_eq_lt.2 h]; rfl
  · rw [Nat.compare_eq_eq.2 h]; rfl
theorem leq_t {x y : Nat} (hx : amtB x = true) (hy : amtB y = true) (h : x ≤ y) : (FloatKind.f32.format.order x y == some .lt || FloatKind.f32.format.order x y == some .eq) = true := by
  show (S.order x y == some .lt || S.order x y == some .eq) = true
  rw [order_lt (amtB_iff.1 hx) (amtB_iff.1 hy)]
  rcases Nat.lt_or_eq_of_le h with h | h
  · rw [Nat.compare_eq_lt.2 h]; rfl
  · rw [Nat.compare_eq_eq.2 h]; rfl
theorem leq_f {x y : Nat} (hx : amtB x = true) (hy : amtB y = true) (h : y < x) : (FloatKind.f32.format.order x y == some .lt || FloatKind.f32.format.order x y == some .eq) = false := by
  show (S.order x y == some .lt || S.order x y == some .eq) = false
  rw [order_lt (amtB_iff.1 hx) (amtB_iff.1 hy), Nat.compare_eq_gt.2 h]; rfl
theorem geq_t {x y : Nat} (hx : amtB x = true) (hy : amtB y = true) (h : y ≤ x) : (FloatKind.f32.format.order x y == some .gt || FloatKind.f32.format.order x y == some .eq) = true := by
  show (S.order x y == some .gt || S.order x y == some .eq) = true
  rw [order_lt (amtB_iff.1 hx) (amtB_iff.1 hy)]
  rcases Nat.lt_or_eq_of_le h with h | h
  · rw [Nat.compare_eq_gt.2 h]; rfl
  · rw [Nat.compare_eq_eq.2 h.symm]; rfl
theorem geq_f {x y : Nat} (hx : amtB x = true) (hy : amtB y = true) (h : x < y) : (FloatKind.f32.format.order x y == some .gt || FloatKind.f32.format.order x y == some .eq) = false := by
  show (S.order x y == some .gt || S.order x y == some .eq) = false
  rw [order_lt (amtB_iff.1 hx) (amtB_iff.1 hy), Nat.compare_eq_lt.2 h]; rfl

/-- One. -/
def ONE : Nat := 1065353216
/-- The class of a mass that is at least one. -/
def forF (x : Nat) : Nat := min 19 (x / 8388608 - 127)
theorem forF_lt (x : Nat) : forF x < 20 := by unfold forF; omega
theorem forF_eq {x k : Nat} (hk : k < 20) (h : mass k ≤ x) (hn : k = 19 ∨ x < mass (k + 1)) : forF x = k := by
  unfold mass at *; unfold forF
  omega

/-- Neither less than one nor finite: what a mass must not be. -/
theorem low_cases {x : Nat} (hx : x < 4294967296) (h : finB x = true) (hn : ¬ (amtB x = true ∧ ONE ≤ x)) :
    (FloatKind.f32.format.order x 1065353216 == some .lt) = true ∧ (FloatKind.f32.format.order x 1065353216 == some .gt || FloatKind.f32.format.order x 1065353216 == some .eq) = false := by
  by_cases ha : amtB x = true
  · have : x < 1065353216 := by
      have : ¬ ONE ≤ x := fun h => hn ⟨ha, h⟩
      unfold ONE at this; omega
    exact ⟨lt_t ha (by decide) this, geq_f ha (by decide) this⟩
  · have ha' : amtB x = false := by simpa using ha
    have hs : 2147483648 ≤ x := by
      rw [amtB_iff', INF_val] at ha'
      have := finB_iff.1 h
      rw [INF_val] at this
      unfold mg at this
      omega
    have ho : FloatKind.f32.format.order x 1065353216 = some .lt := order_neg_pos hx h hs (by decide) (by decide)
    rw [ho]
    exact ⟨rfl, rfl⟩
end Go.Fl
