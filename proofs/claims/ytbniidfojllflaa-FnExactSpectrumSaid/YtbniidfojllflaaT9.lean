import Derived.Test.YtbniidfojllflaaT8
namespace Go.Proofs.Ytbniidfojllflaa
open Go.RowKit Go.Fl

theorem sValid_t (c : Nat → Nat) (h : ∀ i, i < 20 → amtB (c i) = true) (w : World) :
    Calls Try.prog 48 #[.agg (fls c)] w fun e w' => e = .returned (.bool true) ∧ Below w.heap.size w w' := by
  have H := hid h
  clear h
  have A := hid (arrAt.new w c 26)
  have hB := boxed w (.cells (fls c) 26)
  go_enter Try.func48, Try.ntmps48
  go_wp2_with fail
  refine (sOk_t c H.out _ w.heap.size 26 A.out).mono ?_
  rintro e w1 ⟨rfl, rfl⟩
  go_wp2
  go_ret
  exact ⟨rfl, hB⟩

theorem sValid_f (c : Nat → Nat) (hb : ∀ i, i < 20 → c i < 4294967296) (h : ¬ ∀ i, i < 20 → amtB (c i) = true) (w : World) :
    Calls Try.prog 48 #[.agg (fls c)] w fun e w' => e = .returned (.bool false) ∧ Below w.heap.size w w' := by
  have H := hid h
  have HB := hid hb
  clear h hb
  have A := hid (arrAt.new w c 26)
  have hB := boxed w (.cells (fls c) 26)
  go_enter Try.func48, Try.ntmps48
  go_wp2_with fail
  refine (sOk_f c HB.out H.out _ w.heap.size 26 A.out).mono ?_
  rintro e w1 ⟨rfl, hb1⟩
  go_wp2
  go_ret
  exact ⟨rfl, stp hB (Nat.le_refl _) hb1⟩

theorem lawValidSizes (c : Nat → Nat) (hb : ∀ i, i < 20 → c i < 4294967296) (w : World) :
    Calls Try.prog 7 #[.agg (fls c)] w fun e w' => e = .returned (.bool true) ∧ Below w.heap.size w w' := by
  have A := hid (arrAt.new w c 25)
  have hB := boxed w (.cells (fls c) 25)
  have HB := hid hb
  clear hb
  by_cases h : ∀ i, i < 20 → amtB (c i) = true
  · have H := hid h
    clear h
    go_enter Try.func7, Try.ntmps7
    go_wp2_with (refine wpList_load_row rfl 25 _ rfl w.heap.size rfl 25 (fls c) (0, 0) _ A.out Try.underlying25 rfl (by rw [fls_size]; exact info_a20) ?_)
    refine (toSizes c _).mono ?_
    rintro e w1 ⟨rfl, hb1⟩
    go_wp2_with fail
    refine (sValid_t c H.out _).mono ?_
    rintro e w2 ⟨rfl, hb2⟩
    have A2 := hid ((A.out.stay hb1).stay hb2)
    go_wp2_with (refine wpList_load_row rfl 25 _ rfl w.heap.size rfl 25 (fls c) (0, 0) _ A2.out Try.underlying25 rfl (by rw [fls_size]; exact info_a20) ?_)
    refine (toSizes c _).mono ?_
    rintro e w3 ⟨rfl, hb3⟩
    go_wp2_with fail
    refine (validSizes_t c H.out _).mono ?_
    rintro e w4 ⟨rfl, hb4⟩
    go_wp2
    go_ret
    exact ⟨rfl, stp (stp (stp (stp hB (Nat.le_refl _) hb1) (Nat.le_refl _) hb2) (Nat.le_refl _) hb3) (Nat.le_refl _) hb4⟩
  · have H := hid h
    clear h
    go_enter Try.func7, Try.ntmps7
    go_wp2_with (refine wpList_load_row rfl 25 _ rfl w.heap.size rfl 25 (fls c) (0, 0) _ A.out Try.underlying25 rfl (by rw [fls_size]; exact info_a20) ?_)
    refine (toSizes c _).mono ?_
    rintro e w1 ⟨rfl, hb1⟩
    go_wp2_with fail
    refine (sValid_f c HB.out H.out _).mono ?_
    rintro e w2 ⟨rfl, hb2⟩
    have A2 := hid ((A.out.stay hb1).stay hb2)
    go_wp2_with (refine wpList_load_row rfl 25 _ rfl w.heap.size rfl 25 (fls c) (0, 0) _ A2.out Try.underlying25 rfl (by rw [fls_size]; exact info_a20) ?_)
    refine (toSizes c _).mono ?_
    rintro e w3 ⟨rfl, hb3⟩
    go_wp2_with fail
    refine (validSizes_f c HB.out H.out _).mono ?_
    rintro e w4 ⟨rfl, hb4⟩
    go_wp2
    go_ret
    exact ⟨rfl, stp (stp (stp (stp hB (Nat.le_refl _) hb1) (Nat.le_refl _) hb2) (Nat.le_refl _) hb3) (Nat.le_refl _) hb4⟩
end Go.Proofs.Ytbniidfojllflaa
