import Derived.Test.YtbniidfojllflaaT11
import Derived.Test.YtbniidfojllflaaTC1
namespace Go.Proofs.Ytbniidfojllflaa
open Go.RowKit Go.Fl

set_option maxRecDepth 100000 in
theorem sCountOf_bad (c : Nat → Nat) (hb : ∀ i, i < 20 → c i < 4294967296) (h : ¬ Amts c) (w : World) :
    Calls Try.prog 60 #[.agg (fls c)] w fun e w' => e = .returned (.tuple #[.float .f32 0, .int .i64 1]) ∧ Below w.heap.size w w' := by
  have A0 := hid (arrAt.new w c 26)
  have b0 := boxed w (.cells (fls c) 26)
  have Hhb := hid hb
  have Hh := hid h
  clear hb h
  go_enter Try.func60, Try.ntmps60
  go_wp2_with fail
  refine (sOk_f c Hhb.out Hh.out _ w.heap.size 26 A0.out).mono ?_
  rintro e w0 ⟨rfl, hb0⟩
  have A0 := hid (A0.out.stay hb0)
  have c0 := stp b0 (Nat.le_refl _) hb0
  go_wp2
  go_ret2
  exact ⟨rfl, c0⟩

set_option maxRecDepth 100000 in
theorem iCountOf_bad (c : Nat → Nat) (hb : ∀ i, i < 20 → c i < 4294967296) (h : ¬ Amts c) (w : World) :
    Calls Try.prog 29 #[.agg (fls c)] w fun e w' => e = .returned (.tuple #[.float .f32 0, .int .i64 1]) ∧ Below w.heap.size w w' := by
  have A0 := hid (arrAt.new w c 26)
  have b0 := boxed w (.cells (fls c) 26)
  have Hhb := hid hb
  have Hh := hid h
  clear hb h
  go_enter Try.func29, Try.ntmps29
  go_wp2_with (first | (refine wpList_load_row rfl 26 _ rfl (w.heap.size) rfl 26 (fls c) (0, 0) _ A0.out Try.underlying26 rfl (by rw [fls_size]; exact info_arr) ?_))
  refine (validSizes_f c Hhb.out Hh.out _).mono ?_
  rintro e w0 ⟨rfl, hb0⟩
  have A0 := hid (A0.out.stay hb0)
  have c0 := stp b0 (Nat.le_refl _) hb0
  go_wp2
  go_ret2
  exact ⟨rfl, c0⟩

theorem told_lit (x : Nat) : ∃ r n, told x = .tuple #[.float .f32 r, .int .i64 n] ∧ finB r = true ∧ (x < 4294967296 → r < 4294967296) := by
  rcases h : finB x with _ | _
  · exact ⟨0, 4, told_f h, by decide, fun _ => by decide⟩
  · exact ⟨x, 0, told_t h, h, fun hx => hx⟩

set_option maxRecDepth 100000 in
theorem iCountOf_ok (c : Nat → Nat) (h : Amts c) (w : World) :
    Calls Try.prog 29 #[.agg (fls c)] w fun e w' => e = .returned (told (sumF c 19)) ∧ Below w.heap.size w w' := by
  have hn : ∀ i, i < 20 → nnB (c i) = true := fun i hi => amt_nn (h i hi)
  have hx := hid (nn_lt (sumF_nn 19 (fun i hi => hn i (by omega))))
  have Hn := hid hn
  have H := hid h
  clear h hn
  have A0 := hid (arrAt.new w c 26)
  have b0 := boxed w (.cells (fls c) 26)
  obtain ⟨r, n, ht, hr, _⟩ := told_lit (sumF c 19)
  have hC := fun w => (iTold (sumF c 19) hx.out w)
  rw [ht] at hC ⊢
  have HC := hid hC
  clear hC ht hr
  go_enter Try.func29, Try.ntmps29
  go_wp2_with (first | (refine wpList_load_row rfl 26 _ rfl (w.heap.size) rfl 26 (fls c) (0, 0) _ A0.out Try.underlying26 rfl (by rw [fls_size]; exact info_arr) ?_))
  refine (validSizes_t c H.out _).mono ?_
  rintro e w0 ⟨rfl, hb0⟩
  have A0 := hid (A0.out.stay hb0)
  have c0 := stp b0 (Nat.le_refl _) hb0
  go_wp2_with (first | (refine wpList_load_row rfl 26 _ rfl (w.heap.size) rfl 26 (fls c) (0, 0) _ A0.out Try.underlying26 rfl (by rw [fls_size]; exact info_arr) ?_))
  refine (iSum c Hn.out _).mono ?_
  rintro e w1 ⟨rfl, hb1⟩
  have A0 := hid (A0.out.stay hb1)
  have c1 := stp c0 (Nat.le_refl _) hb1
  go_wp2_with fail
  refine (HC.out _).mono ?_
  rintro e w2 ⟨rfl, hb2⟩
  have A0 := hid (A0.out.stay hb2)
  have c2 := stp c1 (Nat.le_refl _) hb2
  go_wp2
  go_ret2
  exact ⟨rfl, c2⟩

theorem lawCountOf (c : Nat → Nat) (hb : ∀ i, i < 20 → c i < 4294967296) (w : World) :
    Calls Try.prog 13 #[.agg (fls c)] w fun e w' => e = .returned (.bool true) ∧ Below w.heap.size w w' := by
  by_cases h : Amts c
  · have hS := sCountOf_ok c h
    have hI := iCountOf_ok c h
    obtain ⟨r, n, ht, hr, hl⟩ := told_lit (sumF c 19)
    rw [ht] at hS hI
    exact coreCountOf c r (hl (nn_lt (sumF_nn 19 (fun i hi => amt_nn (h i (by omega)))))) hr n hS hI w
  · exact coreCountOf c 0 (by decide) (by decide) 1 (sCountOf_bad c hb h) (iCountOf_bad c hb h) w

end Go.Proofs.Ytbniidfojllflaa
