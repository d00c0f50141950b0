import Derived.Test.YtbniidfojllflaaLibE
/- The middle of a sum. No program. -/
namespace Go.Fl
theorem fadd_zero_right {x : Nat} (hx : nnB x = true) : fadd x 0 = x := by
  rw [nnB_iff] at hx
  rcases Nat.lt_or_eq_of_le hx with h | h
  · rw [fadd_val h (by decide), val_zero, Nat.add_zero, nearest_val h]
  · rw [h]; exact add_inf_left (by decide)
theorem sum_grows {f : Nat → Nat} : ∀ {q k : Nat}, k ≤ q → (∀ i, i ≤ q → nnB (f i) = true) → sumF f k ≤ sumF f q
  | 0, k, hk, _ => by obtain rfl : k = 0 := by omega
                      exact Nat.le_refl _
  | q + 1, k, hk, hf => by
    by_cases h : k = q + 1
    · subst h; exact Nat.le_refl _
    · have h1 := sum_grows (f := f) (q := q) (k := k) (by omega) (fun i hi => hf i (by omega))
      have hq := sumF_nn q (fun i hi => hf i (by omega))
      have h2 : fadd (sumF f q) 0 ≤ fadd (sumF f q) (f (q + 1)) := fadd_mono (Nat.le_refl _) (Nat.zero_le _) (nnB_iff.1 hq) (nnB_iff.1 (hf (q + 1) (Nat.le_refl _)))
      rw [fadd_zero_right hq] at h2
      exact Nat.le_trans h1 h2
/-- The least place from k on at which a sum has come to h; 19 if there is none. -/
def midG (s : Nat → Nat) (h : Nat) : Nat → Nat → Nat
  | 0, _ => 19
  | n + 1, k => if h ≤ s k then k else midG s h n (k + 1)
def mid (c : Nat → Nat) : Nat := midG (sumF (wat c)) (fmul 1056964608 (sumF (wat c) 19)) 20 0
/-- the sum ahead of a class. -/
def bef (f : Nat → Nat) (k : Nat) : Nat := if k = 0 then 0 else sumF f (k - 1)
theorem ahead_add {f : Nat → Nat} {k : Nat} (h : nnB (f k) = true) : fadd (bef f k) (f k) = sumF f k := by
  unfold bef
  by_cases h0 : k = 0
  · subst h0; rw [if_pos rfl, fadd_zero h]; rfl
  · rw [if_neg h0]
    obtain ⟨j, rfl⟩ : ∃ j, k = j + 1 := ⟨k - 1, by omega⟩
    rfl
theorem ahead_nn {f : Nat → Nat} {k : Nat} (h : ∀ i, i < k → nnB (f i) = true) : nnB (bef f k) = true := by
  unfold bef
  by_cases h0 : k = 0
  · rw [if_pos h0]; decide
  · rw [if_neg h0]; exact sumF_nn (k - 1) (fun i hi => h i (by omega))
theorem ahead_succ (f : Nat → Nat) (k : Nat) : bef f (k + 1) = sumF f k := if_neg (by omega)
end Go.Fl
