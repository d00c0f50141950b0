import Derived.Test.YtbniidfojllflaaT24
import Derived.Test.YtbniidfojllflaaLibG
namespace Go.Proofs.Ytbniidfojllflaa
open Go.RowKit Go.Fl

set_option maxRecDepth 100000 in
theorem iWeights (m : Nat) (hm : m < 20) (w : World) :
    Calls Try.prog 90 #[.int .i64 (m : Int)] w fun e w' => e = .returned (.agg (fls (wg m))) ∧ Below w.heap.size w w' := by
  have A0 := hid ((arrAt.new w (fun _ => 0) 25).alloc (.cells (fls fun _ => 0) 25))
  have A1 := hid (new1 w (.cells (fls fun _ => 0) 25) (fun _ => 0) 25)
  have b0 := boxed2 w (.cells (fls fun _ => 0) 25) (.cells (fls fun _ => 0) 25)
  go_enter Try.func90, Try.ntmps90
  go_wp2_with fail
  go_loopw [7] (fun i wr => ∃ k : Nat, k ≤ 20 ∧ i = .int .i64 k ∧ Hid (arrAt wr (w.heap.size) (fun _ => 0) 25) ∧ Hid (arrAt wr (w.heap.size + 1) (cut (wg m) k) 25) ∧ Hid (Below w.heap.size w wr)) (fun i _ => 20 - (intOf i).toNat)
  case atStart => exact ⟨0, by omega, rfl, A0, hid (A1.out.ext (fun i _ => (cut_zero' (wg m) i).symm)), hid b0⟩
  case round =>
    obtain ⟨k, hk, rfl, h1, h2, hb⟩ := hrel
    by_cases hlt : k < 20
    · obtain ⟨f1, f2, f3, f4, f5, f6, _, _⟩ := w_facts hlt hm
      have r1 := fun w => run_float_arith (P := Try.prog) w .quo 24 .f32 (floatOfInt .f32 ((k : Int) - (m : Int))) 1073741824 (wY k m) f1
      have r2 := fun w => run_float_arith (P := Try.prog) w .mul 24 .f32 (wY k m) (wY k m) (wQ k m) f2
      have r3 : ∀ w, (binOp .add 24 (.float .f32 1065353216) (.float .f32 (wQ k m))).run Try.prog w = .ok (.float .f32 (wZ k m)) w := fun w => run_add (P := Try.prog) 24 (x := 1065353216) (by decide) (amt_nn f3) w
      have r4 : ∀ w, (binOp .mul 24 (.float .f32 (wZ k m)) (.float .f32 (wZ k m))).run Try.prog w = .ok (.float .f32 (wP k m)) w := fun w => run_mul (P := Try.prog) 24 f4 f4 w
      have r5 : ∀ w, (binOp .quo 24 (.float .f32 1065353216) (.float .f32 (wP k m))).run Try.prog w = .ok (.float .f32 (wgt k m)) w := fun w => run_div (P := Try.prog) 24 (x := 1065353216) (by decide) f5 f6 w
      clear f1 f2 f3 f4 f5 f6
      have q2 := h2.out.cell hlt
      have z2 := h2.out.frozen k
      go_wp2
      go_roundw
      case rel => exact ⟨k + 1, by omega, by go_num, hid (h1.out.setOther (by simp) _), hid ((h2.out.set k (wg m k)).ext (fun i _ => cut_succ (wg m) k i)), hid (hb.out.setCell (by simp) _)⟩
      case measure => simp [intOf]; omega
    · obtain rfl : k = 20 := by omega
      have h3 := hid (h2.out.ext (cut_all (wg m)))
      clear h2
      go_wp2_with (first | (refine wpList_load_row rfl 25 _ rfl (w.heap.size + 1) rfl 25 (fls (wg m)) (0, 0) _ h3.out Try.underlying25 rfl (by rw [fls_size]; exact info_a20) ?_) | (refine wpList_store_row rfl 25 _ _ rfl (w.heap.size) (fls (wg m)) rfl rfl 25 _ h1.out (by rw [fls_size]; exact info_a20) (by simp) (fls_one (wg m)) ?_))
      exact bodyPost_ret (results_cell_row rfl _ _ (w.heap.size) 25 (fls (wg m)) (0, 0) _ rfl (h1.out.setRow (wg m)) Try.underlying25 rfl (by rw [fls_size]; exact info_a20)) rfl ⟨rfl, below_row hb.out (Nat.le_refl _) _⟩
end Go.Proofs.Ytbniidfojllflaa
