import Derived.Test.YtbniidfojllflaaLibD
/- Differences of amounts. No program. -/
namespace Go.Fl
open Ieee

theorem fsub_val {x y : Nat} (hx : x < INF) (h : y ≤ x) : S.sub x y = some (fsub x y) ∧ fsub x y = S.nearest false (val x - val y) (-149 + (0 : Int)) := by
  have hy : y < INF := by omega
  have hv := val_le h
  obtain ⟨m, j, h1, v1⟩ := read_val hx
  obtain ⟨n, k, h2, v2⟩ := read_val hy
  have hs : ∀ a b : Nat, b ≤ a → ((a : Int) + -(b : Int)).natAbs = a - b := fun a b _ => by omega
  have hneg : ∀ a b : Nat, b ≤ a → (if (a : Int) + -(b : Int) = 0 then false && !false else decide ((a : Int) + -(b : Int) < 0)) = false := fun a b hab => by
    split
    · rfl
    · simp; omega
  have key : S.sub x y = some (S.nearest false (val x - val y) (-149 + (0 : Int))) := by
    unfold Format.sub
    rw [h1, h2]
    simp only [Datum.opposite, Datum.sum, signed, Bool.false_eq_true, if_false, Bool.not_false, if_true, Option.map_some, Nat.shiftLeft_eq]
    rw [v1, v2] at hv ⊢
    rcases Nat.le_total j k with h | h
    · obtain ⟨s, rfl⟩ : ∃ s, k = j + s := ⟨k - j, by omega⟩
      have e0 : min (-149 + (j : Int)) (-149 + ((j + s : Nat) : Int)) = -149 + (j : Int) := by omega
      have hle : n * 2 ^ s ≤ m * 2 ^ 0 := by
        rw [Nat.pow_zero, Nat.mul_one]
        rw [Nat.pow_add, show n * (2 ^ j * 2 ^ s) = n * 2 ^ s * 2 ^ j by rw [Nat.mul_comm (2 ^ j), Nat.mul_assoc]] at hv
        exact Nat.le_of_mul_le_mul_right hv (Nat.two_pow_pos _)
      rw [e0, show (-149 + (j : Int) - (-149 + (j : Int))).toNat = 0 by omega, show (-149 + ((j + s : Nat) : Int) - (-149 + (j : Int))).toNat = s by omega, hs _ _ hle]
      have hn := hneg _ _ hle
      rw [show (!false) = true from rfl] at hn
      rw [hn]
      show some (S.nearest false _ _) = _
      congr 1
      apply nearest_congr j 0 (by omega)
      rw [Nat.pow_zero, Nat.mul_one, Nat.mul_one, Nat.sub_mul, Nat.pow_add, Nat.mul_assoc, Nat.mul_comm (2 ^ s)]
    · obtain ⟨s, rfl⟩ : ∃ s, j = k + s := ⟨j - k, by omega⟩
      have e0 : min (-149 + ((k + s : Nat) : Int)) (-149 + (k : Int)) = -149 + (k : Int) := by omega
      have hle : n * 2 ^ 0 ≤ m * 2 ^ s := by
        rw [Nat.pow_zero, Nat.mul_one]
        rw [Nat.pow_add, show m * (2 ^ k * 2 ^ s) = m * 2 ^ s * 2 ^ k by rw [Nat.mul_comm (2 ^ k), Nat.mul_assoc]] at hv
        exact Nat.le_of_mul_le_mul_right hv (Nat.two_pow_pos _)
      rw [e0, show (-149 + (k : Int) - (-149 + (k : Int))).toNat = 0 by omega, show (-149 + ((k + s : Nat) : Int) - (-149 + (k : Int))).toNat = s by omega, hs _ _ hle]
      have hn := hneg _ _ hle
      rw [show (!false) = true from rfl] at hn
      rw [hn]
      show some (S.nearest false _ _) = _
      congr 1
      apply nearest_congr k 0 (by omega)
      rw [Nat.pow_zero, Nat.mul_one, Nat.mul_one, Nat.sub_mul, Nat.pow_add, Nat.mul_assoc, Nat.mul_comm (2 ^ s)]
  unfold fsub
  rw [key]
  exact ⟨rfl, rfl⟩

theorem fsub_le {x y : Nat} (hx : x < INF) (h : y ≤ x) : fsub x y ≤ x := by
  rw [(fsub_val hx h).2]
  refine nearest_le_word hx 0 0 (by omega) ?_
  rw [Nat.pow_zero, Nat.mul_one, Nat.mul_one]
  omega
theorem run_sub {P : Program} (t : TypeId) {x y : Nat} (hx : x < INF) (h : y ≤ x) (w : World) : (binOp .sub t (.float .f32 x) (.float .f32 y)).run P w = .ok (.float .f32 (fsub x y)) w :=
  run_float_arith w .sub t .f32 x y _ (fsub_val hx h).1
end Go.Fl
