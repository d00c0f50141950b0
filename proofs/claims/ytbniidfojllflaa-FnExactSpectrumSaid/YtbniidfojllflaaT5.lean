import Derived.Test.YtbniidfojllflaaT4
namespace Go.Proofs.Ytbniidfojllflaa
open Go.RowKit Go.Fl

set_option maxRecDepth 100000 in
theorem iSum (c : Nat → Nat) (h : ∀ i, i < 20 → nnB (c i) = true) (w : World) :
    Calls Try.prog 82 #[.agg (fls c)] w fun e w' => e = .returned (.float .f32 (sumF c 19)) ∧ Below w.heap.size w w' := by
  have H := hid h
  clear h
  have hcell : ∀ k, k < 20 → (w.alloc (.cells (fls c) 25)).cell? ⟨w.heap.size, k, none⟩ = some (.float .f32 (c k)) := fun k hk => by
    rw [cell_of_row _ _ k _ _ _ (heap_alloc_new _ _), fls_get c hk]
  have h0 := hcell 0 (by omega)
  have HC := hid hcell
  clear hcell
  go_enter Try.func82, Try.ntmps82
  go_wp2
  go_loop [3, 4] (fun s i => ∃ k : Nat, k ≤ 19 ∧ i = .int .i64 (k + 1 : Nat) ∧ s = .float .f32 (sumF c k)) (fun _ i => 20 - (intOf i).toNat)
  case atStart => exact ⟨0, by omega, rfl, rfl⟩
  case round =>
    obtain ⟨k, hk, rfl, rfl⟩ := hrel
    by_cases hlt : k < 19
    · have hcell := HC.out (k + 1) (by omega)
      have hadd := fun w => run_add (P := Try.prog) 24 (sumF_nn k (fun i hi => H.out i (by omega))) (H.out (k + 1) (by omega)) w
      go_wp2
      go_round
      case rel => exact ⟨k + 1, by omega, by go_num, rfl⟩
      case measure => simp [intOf]; omega
    · obtain rfl : k = 19 := by omega
      go_wp2
      go_ret
      exact ⟨rfl, (Below.refl _ _).alloc (Nat.le_refl _) _⟩

set_option maxRecDepth 100000 in
theorem sCount (c : Nat → Nat) (h : ∀ i, i < 20 → nnB (c i) = true) (w : World) (g : Nat) (T : TypeId) (hg : w.heap[g]? = some (.cells (fls c) T (0, 0))) :
    Calls Try.prog 108 #[.pointer (some ⟨g, 0, none⟩)] w fun e w' => e = .returned (.float .f32 (sumF c 19)) ∧ w = w' := by
  have H := hid h
  clear h
  have hcell : ∀ k, k < 20 → w.cell? ⟨g, k, none⟩ = some (.float .f32 (c k)) := fun k hk => by
    rw [cell_of_row _ _ k _ _ _ hg, fls_get c hk]
  have h0 := hcell 0 (by omega)
  have HC := hid hcell
  clear hcell hg
  go_enter Try.func108, Try.ntmps108
  go_wp2
  go_loop [3, 4] (fun s i => ∃ k : Nat, k ≤ 19 ∧ i = .int .i64 (k + 1 : Nat) ∧ s = .float .f32 (sumF c k)) (fun _ i => 20 - (intOf i).toNat)
  case atStart => exact ⟨0, by omega, rfl, rfl⟩
  case round =>
    obtain ⟨k, hk, rfl, rfl⟩ := hrel
    by_cases hlt : k < 19
    · have hcell := HC.out (k + 1) (by omega)
      have hadd := fun w => run_add (P := Try.prog) 24 (sumF_nn k (fun i hi => H.out i (by omega))) (H.out (k + 1) (by omega)) w
      go_wp2
      go_round
      case rel => exact ⟨k + 1, by omega, by go_num, rfl⟩
      case measure => simp [intOf]; omega
    · obtain rfl : k = 19 := by omega
      go_wp2
      go_ret
      exact ⟨rfl, rfl⟩
end Go.Proofs.Ytbniidfojllflaa
