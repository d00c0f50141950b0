import Derived.Test.YtbniidfojllflaaT12
namespace Go.Proofs.Ytbniidfojllflaa
open Go.RowKit Go.Fl

theorem sMass (k : Nat) (hk : k < 20) (w : World) :
    Calls Try.prog 102 #[.int .i64 (k : Int)] w fun e w' => e = .returned (.float .f32 (mass k)) ∧ w = w' := by
  have H : k = 0 ∨ k = 1 ∨ k = 2 ∨ k = 3 ∨ k = 4 ∨ k = 5 ∨ k = 6 ∨ k = 7 ∨ k = 8 ∨ k = 9 ∨ k = 10 ∨ k = 11 ∨ k = 12 ∨ k = 13 ∨ k = 14 ∨ k = 15 ∨ k = 16 ∨ k = 17 ∨ k = 18 ∨ k = 19 := by omega
  rcases H with rfl | rfl | rfl | rfl | rfl | rfl | rfl | rfl | rfl | rfl | rfl | rfl | rfl | rfl | rfl | rfl | rfl | rfl | rfl | rfl
  all_goals
    go_enter Try.func102, Try.ntmps102
    go_wp2
    go_ret
    exact ⟨rfl, rfl⟩

set_option maxRecDepth 100000 in
theorem sWater (c : Nat → Nat) (h : Amts c) (a : Nat) (ha : a < 20) (w : World) (g : Nat) (T : TypeId) (hg : arrAt w g c T) :
    Calls Try.prog 109 #[.pointer (some ⟨g, 0, none⟩), .int .i64 (a : Int)] w fun e w' => e = .returned (.float .f32 (sumA (wat c) a (19 - a))) ∧ Below w.heap.size w w' := by
  have H := hid h
  have HG := hid hg
  have q0 := hg.cell ha
  have hmul := fun w => run_mul (P := Try.prog) 24 (h a ha) (mass_amt ha) w
  clear h hg
  go_enter Try.func109, Try.ntmps109
  go_wp2_with fail
  go_quiet ((go_at_call 102; exact Calls.quiet_of_same (back (sMass a ha _))))
  go_wp2_with fail
  go_loopw [5, 6] (fun s i wr => ∃ q : Nat, a + 1 ≤ q ∧ q ≤ 20 ∧ i = .int .i64 q ∧ s = .float .f32 (sumA (wat c) a (q - (a + 1))) ∧ Hid (arrAt wr g c T) ∧ Hid (Below w.heap.size w wr)) (fun _ i _ => 20 - (intOf i).toNat)
  case atStart => exact ⟨a + 1, by omega, by omega, by go_num, by rw [Nat.sub_self]; rfl, HG, hid (below_drewN (Below.refl _ _) _)⟩
  case round =>
    obtain ⟨q, hq1, hq2, rfl, rfl, h1, h2⟩ := hrel
    by_cases hlt : q < 20
    · have q1 := h1.out.cell hlt
      have hm2 := fun w => run_mul (P := Try.prog) 24 (H.out q hlt) (mass_amt hlt) w
      have hadd := fun w => run_add (P := Try.prog) 24 (sumA_nn (c := wat c) (a := a) (q - (a + 1)) (fun i hi => wat_nn (by omega) (H.out i (by omega)))) (wat_nn hlt (H.out q hlt)) w
      have hw : fmul (c q) (mass q) = wat c q := rfl
      go_wp2_with fail
      go_quiet ((go_at_call 102; exact Calls.quiet_of_same (back (sMass q hlt _))))
      go_wp2_with fail
      go_roundw
      case rel =>
        refine ⟨q + 1, by omega, by omega, by go_num, ?_, h1, hid (below_drewN h2.out _)⟩
        rw [show q + 1 - (a + 1) = (q - (a + 1)) + 1 by omega]
        show _ = Value.float .f32 (fadd (sumA (wat c) a (q - (a + 1))) (wat c (a + (q - (a + 1)) + 1)))
        rw [show a + (q - (a + 1)) + 1 = q by omega]
      case measure => simp [intOf]; omega
    · obtain rfl : q = 20 := by omega
      go_wp2
      go_ret
      exact ⟨by simp [show 20 - (a + 1) = 19 - a by omega], h2.out⟩
end Go.Proofs.Ytbniidfojllflaa
