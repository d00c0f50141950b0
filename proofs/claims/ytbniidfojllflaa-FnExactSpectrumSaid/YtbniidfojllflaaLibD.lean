import Derived.Test.YtbniidfojllflaaRound2
/- Sums behind some zeros; sums that are held against each other. No program. -/
namespace Go.Fl

theorem low_zero {c : Nat → Nat} {a i : Nat} (hi : i < 20) (h : i < a) : wat (prt (fun _ => 0) c a) i = 0 := by
  show fmul (prt (fun _ => 0) c a i) (mass i) = 0
  rw [show prt (fun _ => 0) c a i = 0 from if_pos h, fmul_zero (mass_amt hi)]
theorem low_same {c : Nat → Nat} {a i : Nat} (h : a ≤ i) : wat (prt (fun _ => 0) c a) i = wat c i := by
  show fmul (prt (fun _ => 0) c a i) (mass i) = fmul (c i) (mass i)
  rw [show prt (fun _ => 0) c a i = c i from if_neg (by omega)]

theorem sum_low {c : Nat → Nat} (hc : ∀ i, i < 20 → amtB (c i) = true) {a : Nat} (ha : a < 20) : ∀ q, q < 20 → sumF (wat (prt (fun _ => 0) c a)) q = if q < a then 0 else sumA (wat c) a (q - a)
  | 0, h => by
    show wat (prt (fun _ => 0) c a) 0 = _
    by_cases h0 : 0 < a
    · rw [low_zero h h0, if_pos h0]
    · obtain rfl : a = 0 := by omega
      rw [low_same (Nat.le_refl _), if_neg (by omega)]; rfl
  | q + 1, h => by
    show fadd (sumF (wat (prt (fun _ => 0) c a)) q) (wat (prt (fun _ => 0) c a) (q + 1)) = _
    rw [sum_low hc ha q (by omega)]
    by_cases h1 : q + 1 < a
    · rw [if_pos (by omega), if_pos h1, low_zero h h1, fadd_zero (by decide)]
    · rw [if_neg h1, low_same (by omega)]
      by_cases h2 : q < a
      · obtain rfl : a = q + 1 := by omega
        rw [if_pos h2, fadd_zero (wat_nn h (hc _ h)), Nat.sub_self]; rfl
      · rw [if_neg h2, show q + 1 - a = (q - a) + 1 by omega]
        show _ = fadd (sumA (wat c) a (q - a)) (wat c (a + (q - a) + 1))
        rw [show a + (q - a) + 1 = q + 1 by omega]

theorem low_amts {c : Nat → Nat} (hc : ∀ i, i < 20 → amtB (c i) = true) (a : Nat) : ∀ i, i < 20 → amtB (prt (fun _ => 0) c a i) = true := by
  intro i hi
  unfold prt
  by_cases h : i < a
  · rw [if_pos h]; exact (by decide : amtB 0 = true)
  · rw [if_neg h]; exact hc i hi

theorem sum_mono {f g : Nat → Nat} : ∀ q, (∀ i, i ≤ q → f i ≤ g i) → (∀ i, i ≤ q → nnB (g i) = true) → sumF f q ≤ sumF g q
  | 0, h, _ => h 0 (Nat.le_refl _)
  | q + 1, h, hg => fadd_mono (sum_mono q (fun i hi => h i (by omega)) (fun i hi => hg i (by omega))) (h (q + 1) (Nat.le_refl _)) (nnB_iff.1 (sumF_nn q (fun i hi => hg i (by omega)))) (nnB_iff.1 (hg (q + 1) (Nat.le_refl _)))

/-- The water is never less than the count. -/
theorem count_le_water {c : Nat → Nat} (hc : ∀ i, i < 20 → amtB (c i) = true) : sumF c 19 ≤ sumF (wat c) 19 :=
  sum_mono 19 (fun i hi => le_fmul (amtB_iff.1 (hc i (by omega))) (by unfold mass; omega) (amtB_iff.1 (mass_amt (by omega)))) (fun i hi => wat_nn (by omega) (hc i (by omega)))

/-- A quotient is valid but where both are nought or both infinite. -/
theorem div_eq {x y : Nat} (hx : nnB x = true) (hy : amtB y = true) (h0 : y ≠ 0) : S.div x y = some (fdiv x y) ∧ nnB (fdiv x y) = true := by
  obtain ⟨n, k, h2, hv⟩ := read_val (amtB_iff.1 hy)
  have hn : n ≠ 0 := by
    intro hn
    rw [hn, Nat.zero_mul] at hv
    have := val_lt (Nat.pos_of_ne_zero h0)
    rw [val_zero] at this; omega
  have : ∃ d, (S.read x).quotient (S.fractionBits + 2) (S.read y) = some d ∧ NN d := by
    rw [h2]
    rcases read_nn (nnB_iff.1 hx) with ⟨m, e, h1⟩ | h1
    · rw [h1]
      simp only [Ieee.Datum.quotient]
      rw [if_neg hn]
      exact ⟨_, rfl, NN_number rfl⟩
    · rw [h1]
      exact ⟨_, rfl, .inr rfl⟩
  obtain ⟨d, hd, hN⟩ := this
  have e : S.div x y = some (S.write d) := by unfold Ieee.Format.div; rw [hd]; rfl
  unfold fdiv
  rw [e]
  exact ⟨rfl, nnB_iff.2 (write_nn hN)⟩
theorem run_div {P : Program} (t : TypeId) {x y : Nat} (hx : nnB x = true) (hy : amtB y = true) (h0 : y ≠ 0) (w : World) : (binOp .quo t (.float .f32 x) (.float .f32 y)).run P w = .ok (.float .f32 (fdiv x y)) w :=
  run_float_arith w .quo t .f32 x y _ (div_eq hx hy h0).1
end Go.Fl
