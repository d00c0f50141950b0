import Derived.Test.YtbniidfojllflaaDraw
/- More pure facts: a number less itself; how a word stands to zero. No program. -/
namespace Go.Fl
open Ieee

theorem sub_self_fin {x : Nat} (hx : x < 4294967296) (h : finB x = true) : S.sub x x = some 0 := by
  obtain ⟨m, e, _, h2⟩ := read_fin hx (finB_iff.1 h)
  unfold Format.sub
  rw [h2]
  generalize decide (2147483648 ≤ x) = s
  cases s <;> simp [Datum.opposite, Datum.sum, signed, Int.add_right_neg, Int.add_left_neg, Format.write, Format.nearest, Format.word]

theorem sub_self_none {x : Nat} (hx : x < 4294967296) (h : finB x = false) : S.sub x x = none := by
  rw [finB_iff'] at h
  unfold Format.sub
  rcases Nat.lt_or_eq_of_le h with h | h
  · obtain ⟨s, t, e⟩ := read_nan h
    rw [e]; rfl
  · have e : S.read x = .infinity (decide (2147483648 ≤ x)) := by rw [read_sign hx, ← h, read_INF]
    rw [e]
    generalize decide (2147483648 ≤ x) = s
    cases s <;> rfl

theorem order_nan32 {x y : Nat} (h : INF < mg x) : S.order x y = none := by
  obtain ⟨s, t, e⟩ := read_nan h
  unfold Format.order
  rw [e]; rfl

theorem order_zero_pos {x : Nat} (h : x < INF) : S.order x 0 = some (compare x 0) := order_lt h (by decide)

theorem read_zero : S.read 0 = .number false 0 (-149) := by decide

/-- A finite word with the sign is not greater than zero. -/
theorem order_neg_zero {x : Nat} (hx : x < 4294967296) (h : finB x = true) (hs : 2147483648 ≤ x) : (S.order x 0 == some .gt) = false := by
  obtain ⟨m, e, _, h2⟩ := read_fin hx (finB_iff.1 h)
  unfold Format.order
  rw [h2, read_zero, decide_eq_true hs]
  simp only [Datum.order, signed, if_true, Bool.false_eq_true, if_false, Nat.zero_shiftLeft]
  generalize m <<< (e - min e (-149)).toNat = q
  have : compare (-(q : Int)) ((0 : Nat) : Int) ≠ .gt := by
    intro hgt
    have := Int.compare_eq_gt.1 hgt
    omega
  cases hc : compare (-(q : Int)) ((0 : Nat) : Int) <;> simp_all

def fadd (x y : Nat) : Nat := (S.add x y).getD 0
def fmul (x y : Nat) : Nat := (S.mul x y).getD 0
def fsub (x y : Nat) : Nat := (S.sub x y).getD 0
def fdiv (x y : Nat) : Nat := (S.div x y).getD 0

def nnB (x : Nat) : Bool := decide (x ≤ INF)
theorem nnB_iff {x : Nat} : nnB x = true ↔ x ≤ INF := by simp [nnB]
theorem amt_nn {x : Nat} (h : amtB x = true) : nnB x = true := by rw [amtB_iff] at h; rw [nnB_iff]; omega
theorem nn_amt {x : Nat} (h : nnB x = true) : amtB x = finB x := by
  rw [nnB_iff, INF_val] at h
  by_cases hx : x < INF
  · rw [amt_fin (amtB_iff.2 hx), amtB_iff.2 hx]
  · rw [INF_val] at hx
    rw [amtB_iff'.2 (by rw [INF_val]; omega), finB_iff'.2 (by unfold mg; rw [INF_val]; omega)]

theorem add_eq {x y : Nat} (hx : nnB x = true) (hy : nnB y = true) : S.add x y = some (fadd x y) ∧ nnB (fadd x y) = true := by
  obtain ⟨r, h, h'⟩ := add_nn (nnB_iff.1 hx) (nnB_iff.1 hy)
  unfold fadd
  rw [h]
  exact ⟨rfl, nnB_iff.2 h'⟩
theorem mul_eq {x y : Nat} (hx : amtB x = true) (hy : amtB y = true) : S.mul x y = some (fmul x y) ∧ nnB (fmul x y) = true := by
  obtain ⟨r, h, h'⟩ := mul_nn (amtB_iff.1 hx) (amtB_iff.1 hy)
  unfold fmul
  rw [h]
  exact ⟨rfl, nnB_iff.2 h'⟩

section
variable {P : Program}
theorem run_add (t : TypeId) {x y : Nat} (hx : nnB x = true) (hy : nnB y = true) (w : World) : (binOp .add t (.float .f32 x) (.float .f32 y)).run P w = .ok (.float .f32 (fadd x y)) w :=
  run_float_arith w .add t .f32 x y _ (add_eq hx hy).1
theorem run_mul (t : TypeId) {x y : Nat} (hx : amtB x = true) (hy : amtB y = true) (w : World) : (binOp .mul t (.float .f32 x) (.float .f32 y)).run P w = .ok (.float .f32 (fmul x y)) w :=
  run_float_arith w .mul t .f32 x y _ (mul_eq hx hy).1
end
end Go.Fl
namespace Go.Fl
/-- Sums from the class 0 on. -/
def sumF (c : Nat → Nat) : Nat → Nat
  | 0 => c 0
  | k + 1 => fadd (sumF c k) (c (k + 1))

theorem sumF_nn {c : Nat → Nat} : ∀ (k : Nat), (∀ i, i ≤ k → nnB (c i) = true) → nnB (sumF c k) = true
  | 0, h => h 0 (Nat.le_refl _)
  | k + 1, h => (add_eq (sumF_nn k (fun i hi => h i (by omega))) (h (k + 1) (Nat.le_refl _))).2

/-- What is told of a number that would be returned. -/
def told (x : Nat) : Value := if finB x = true then .tuple #[.float .f32 x, .int .i64 0] else .tuple #[.float .f32 0, .int .i64 4]

theorem told_t {x : Nat} (h : finB x = true) : told x = .tuple #[.float .f32 x, .int .i64 0] := if_pos h
theorem told_f {x : Nat} (h : finB x = false) : told x = .tuple #[.float .f32 0, .int .i64 4] := if_neg (by simp [h])
theorem nn_lt {x : Nat} (h : nnB x = true) : x < 4294967296 := by rw [nnB_iff, INF_val] at h; omega
theorem amt_lt {x : Nat} (h : amtB x = true) : x < 4294967296 := by rw [amtB_iff, INF_val] at h; omega
end Go.Fl
namespace Go.Fl
/-- The word of 2 to the power k. -/
def mass (k : Nat) : Nat := (127 + k) * 8388608
theorem mass_amt {k : Nat} (hk : k < 20) : amtB (mass k) = true := by rw [amtB_iff, INF_val]; unfold mass; omega
end Go.Fl
namespace Go.Fl
/-- Sums from the class a on. -/
def sumA (c : Nat → Nat) (a : Nat) : Nat → Nat
  | 0 => c a
  | k + 1 => fadd (sumA c a k) (c (a + k + 1))

theorem sumA_zero (c : Nat → Nat) : ∀ k, sumA c 0 k = sumF c k
  | 0 => rfl
  | k + 1 => by
    show fadd (sumA c 0 k) (c (0 + k + 1)) = fadd (sumF c k) (c (k + 1))
    rw [sumA_zero c k, Nat.zero_add]

theorem sumA_nn {c : Nat → Nat} {a : Nat} : ∀ (k : Nat), (∀ i, i ≤ a + k → nnB (c i) = true) → nnB (sumA c a k) = true
  | 0, h => h a (Nat.le_refl _)
  | k + 1, h => (add_eq (sumA_nn k (fun i hi => h i (by omega))) (h (a + k + 1) (Nat.le_refl _))).2

/-- The water of each class. -/
def wat (c : Nat → Nat) : Nat → Nat := fun k => fmul (c k) (mass k)
theorem wat_nn {c : Nat → Nat} {k : Nat} (hk : k < 20) (h : amtB (c k) = true) : nnB (wat c k) = true := (mul_eq h (mass_amt hk)).2
end Go.Fl
