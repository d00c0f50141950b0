import Derived.Test.YtbniidfojllflaaT14
namespace Go.Proofs.Ytbniidfojllflaa
open Go.RowKit Go.Fl

set_option maxRecDepth 100000 in
theorem iWaters (c : Nat → Nat) (h : Amts c) (w : World) :
    Calls Try.prog 85 #[.agg (fls c)] w fun e w' => e = .returned (.agg (fls (wat c))) ∧ Below w.heap.size w w' := by
  have A0 := hid (((arrAt.new w c 26).alloc (.cells (fls fun _ => 0) 25)).alloc (.cells (fls fun _ => 0) 25))
  have A1 := hid ((new1 w (.cells (fls c) 26) (fun _ => 0) 25).alloc (.cells (fls fun _ => 0) 25))
  have A2 := hid (new2 w (.cells (fls c) 26) (.cells (fls fun _ => 0) 25) (fun _ => 0) 25)
  have b0 := boxed3 w (.cells (fls c) 26) (.cells (fls fun _ => 0) 25) (.cells (fls fun _ => 0) 25)
  have H := hid h
  clear h
  go_enter Try.func85, Try.ntmps85
  go_wp2_with (refine wpList_load_row rfl 26 _ rfl (w.heap.size) rfl 26 (fls c) (0, 0) _ A0.out Try.underlying26 rfl (by rw [fls_size]; exact info_arr) ?_)
  go_loopw [7] (fun i wr => ∃ k : Nat, k ≤ 20 ∧ i = .int .i64 k ∧ Hid (arrAt wr (w.heap.size + 1) (fun _ => 0) 25) ∧ Hid (arrAt wr (w.heap.size + 1 + 1) (cut (wat c) k) 25) ∧ Hid (Below w.heap.size w wr)) (fun i _ => 20 - (intOf i).toNat)
  case atStart => exact ⟨0, by omega, rfl, A1, hid (A2.out.ext (fun i _ => (cut_zero' (wat c) i).symm)), hid b0⟩
  case round =>
    obtain ⟨k, hk, rfl, h1, h2, hb⟩ := hrel
    by_cases hlt : k < 20
    · have hix := ix 26 Try.underlying26 c k hlt
      have hm := fun w => run_mul (P := Try.prog) 24 (H.out k hlt) (mass_amt hlt) w
      have q2 := h2.out.cell hlt
      have f2 := h2.out.frozen k
      go_wp2_with (go_at_call 88; refine (iMass k hlt _).mono ?_; rintro e w' ⟨rfl, rfl⟩)
      go_roundw
      case rel => exact ⟨k + 1, by omega, by go_num, hid (h1.out.setOther (by simp) _), hid ((h2.out.set k (wat c k)).ext (fun i _ => cut_succ (wat c) k i)), hid (hb.out.setCell (by simp; omega) _)⟩
      case measure => simp [intOf]; omega
    · obtain rfl : k = 20 := by omega
      have h2' := hid (h2.out.ext (cut_all (wat c)))
      clear h2
      go_wp2_with (first | (refine wpList_load_row rfl 25 _ rfl (w.heap.size + 1 + 1) rfl 25 (fls (wat c)) (0, 0) _ h2'.out Try.underlying25 rfl (by rw [fls_size]; exact info_a20) ?_) | (refine wpList_store_row rfl 25 _ _ rfl (w.heap.size + 1) (fls (wat c)) rfl rfl 25 _ h1.out (by rw [fls_size]; exact info_a20) (by simp) (fls_one (wat c)) ?_))
      exact bodyPost_ret (results_cell_row rfl _ _ (w.heap.size + 1) 25 (fls (wat c)) (0, 0) _ rfl (h1.out.setRow (wat c)) Try.underlying25 rfl (by rw [fls_size]; exact info_a20)) rfl ⟨rfl, below_row hb.out (by omega) _⟩

set_option maxRecDepth 100000 in
theorem sWaterOf_bad (c : Nat → Nat) (hb : ∀ i, i < 20 → c i < 4294967296) (h : ¬ Amts c) (w : World) :
    Calls Try.prog 61 #[.agg (fls c)] w fun e w' => e = .returned (.tuple #[.float .f32 0, .int .i64 1]) ∧ Below w.heap.size w w' := by
  have A0 := hid (arrAt.new w c 26)
  have b0 := boxed w (.cells (fls c) 26)
  have Hhb := hid hb
  have Hh := hid h
  clear hb h
  go_enter Try.func61, Try.ntmps61
  go_wp2_with fail
  refine (sOk_f c Hhb.out Hh.out _ w.heap.size 26 A0.out).mono ?_
  rintro e w0 ⟨rfl, hb0⟩
  have A0 := hid (A0.out.stay hb0)
  have c0 := stp b0 (Nat.le_refl _) hb0
  go_wp2
  go_ret2
  exact ⟨rfl, c0⟩

set_option maxRecDepth 100000 in
theorem iWaterOf_bad (c : Nat → Nat) (hb : ∀ i, i < 20 → c i < 4294967296) (h : ¬ Amts c) (w : World) :
    Calls Try.prog 34 #[.agg (fls c)] w fun e w' => e = .returned (.tuple #[.float .f32 0, .int .i64 1]) ∧ Below w.heap.size w w' := by
  have A0 := hid (arrAt.new w c 26)
  have b0 := boxed w (.cells (fls c) 26)
  have Hhb := hid hb
  have Hh := hid h
  clear hb h
  go_enter Try.func34, Try.ntmps34
  go_wp2_with (first | (refine wpList_load_row rfl 26 _ rfl (w.heap.size) rfl 26 (fls c) (0, 0) _ A0.out Try.underlying26 rfl (by rw [fls_size]; exact info_arr) ?_))
  refine (validSizes_f c Hhb.out Hh.out _).mono ?_
  rintro e w0 ⟨rfl, hb0⟩
  have A0 := hid (A0.out.stay hb0)
  have c0 := stp b0 (Nat.le_refl _) hb0
  go_wp2
  go_ret2
  exact ⟨rfl, c0⟩

set_option maxRecDepth 100000 in
theorem iWaterOf_ok (c : Nat → Nat) (h : Amts c) (w : World) :
    Calls Try.prog 34 #[.agg (fls c)] w fun e w' => e = .returned (told (sumF (wat c) 19)) ∧ Below w.heap.size w w' := by
  have hn : ∀ i, i < 20 → nnB (wat c i) = true := fun i hi => wat_nn hi (h i hi)
  have hx := hid (nn_lt (sumF_nn 19 (fun i hi => hn i (by omega))))
  have Hn := hid hn
  have H := hid h
  clear h hn
  obtain ⟨r, n, ht, hr, _⟩ := told_lit (sumF (wat c) 19)
  have hC := fun w => (iTold (sumF (wat c) 19) hx.out w)
  rw [ht] at hC ⊢
  have HC := hid hC
  clear hC ht hr
  have A0 := hid (arrAt.new w c 26)
  have b0 := boxed w (.cells (fls c) 26)
  go_enter Try.func34, Try.ntmps34
  go_wp2_with (first | (refine wpList_load_row rfl 26 _ rfl (w.heap.size) rfl 26 (fls c) (0, 0) _ A0.out Try.underlying26 rfl (by rw [fls_size]; exact info_arr) ?_))
  refine (validSizes_t c H.out _).mono ?_
  rintro e w0 ⟨rfl, hb0⟩
  have A0 := hid (A0.out.stay hb0)
  have c0 := stp b0 (Nat.le_refl _) hb0
  go_wp2_with (first | (refine wpList_load_row rfl 26 _ rfl (w.heap.size) rfl 26 (fls c) (0, 0) _ A0.out Try.underlying26 rfl (by rw [fls_size]; exact info_arr) ?_))
  refine (iWaters c H.out _).mono ?_
  rintro e w1 ⟨rfl, hb1⟩
  have A0 := hid (A0.out.stay hb1)
  have c1 := stp c0 (Nat.le_refl _) hb1
  go_wp2_with fail
  refine (iSum (wat c) Hn.out _).mono ?_
  rintro e w2 ⟨rfl, hb2⟩
  have A0 := hid (A0.out.stay hb2)
  have c2 := stp c1 (Nat.le_refl _) hb2
  go_wp2_with fail
  refine (HC.out _).mono ?_
  rintro e w3 ⟨rfl, hb3⟩
  have A0 := hid (A0.out.stay hb3)
  have c3 := stp c2 (Nat.le_refl _) hb3
  go_wp2
  go_ret2
  exact ⟨rfl, c3⟩

set_option maxRecDepth 100000 in
theorem sWaterOf_ok (c : Nat → Nat) (h : Amts c) (w : World) :
    Calls Try.prog 61 #[.agg (fls c)] w fun e w' => e = .returned (told (sumF (wat c) 19)) ∧ Below w.heap.size w w' := by
  have hx := hid (nn_lt (sumF_nn 19 (fun i hi => wat_nn (by omega) (h i (by omega)))))
  have H := hid h
  have hW := fun w g T hg => sWater c h 0 (by omega) w g T hg
  rw [show 19 - 0 = 19 from rfl, sumA_zero] at hW
  have HW := hid hW
  clear h hW
  obtain ⟨r, n, ht, hr, _⟩ := told_lit (sumF (wat c) 19)
  have hC := fun w => (sTold (sumF (wat c) 19) hx.out w)
  rw [ht] at hC ⊢
  have HC := hid hC
  clear hC ht hr
  have A0 := hid (arrAt.new w c 26)
  have b0 := boxed w (.cells (fls c) 26)
  go_enter Try.func61, Try.ntmps61
  go_wp2_with fail
  refine (sOk_t c H.out _ w.heap.size 26 A0.out).mono ?_
  rintro e w0 ⟨rfl, rfl⟩
  go_wp2_with fail
  refine (HW.out _ w.heap.size 26 A0.out).mono ?_
  rintro e w1 ⟨rfl, hb1⟩
  have A0 := hid (A0.out.stay hb1)
  have c1 := stp b0 (Nat.le_refl _) hb1
  go_wp2_with fail
  refine (HC.out _).mono ?_
  rintro e w2 ⟨rfl, hb2⟩
  have A0 := hid (A0.out.stay hb2)
  have c2 := stp c1 (Nat.le_refl _) hb2
  go_wp2
  go_ret2
  exact ⟨rfl, c2⟩

set_option maxRecDepth 100000 in
theorem coreWaterOf (x0 : Nat → Nat) (r0 : Nat) (hl0 : r0 < 4294967296) (hf0 : finB r0 = true) (r1 : Int)
    (hS : ∀ w, Calls Try.prog 61 #[.agg (fls x0)] w fun e w' => e = .returned (.tuple #[.float .f32 r0, .int .i64 r1]) ∧ Below w.heap.size w w')
    (hI : ∀ w, Calls Try.prog 34 #[.agg (fls x0)] w fun e w' => e = .returned (.tuple #[.float .f32 r0, .int .i64 r1]) ∧ Below w.heap.size w w') (w : World) :
    Calls Try.prog 14 #[.agg (fls x0)] w fun e w' => e = .returned (.bool true) ∧ Below w.heap.size w w' := by
  have A0 := hid (arrAt.new w x0 25)
  have b0 := boxed w (.cells (fls x0) 25)
  have HS := hid hS
  have HI := hid hI
  clear hS hI
  have hc0 := fun w => run_conv_wid (P := Try.prog) w 24 51 r0 hl0 Try.underlying24 Try.underlying51 (finB_iff.1 hf0)
  have Hl0 := hid hl0
  have Hf0 := hid hf0
  clear hl0 hf0
  go_enter Try.func14, Try.ntmps14
  go_wp2_with (first | (refine wpList_load_row rfl 25 _ rfl (w.heap.size) rfl 25 (fls x0) (0, 0) _ A0.out Try.underlying25 rfl (by rw [fls_size]; exact info_a20) ?_))
  refine (toSizes x0 _).mono ?_
  rintro e u0 ⟨rfl, hbu0⟩
  have bu0 := stp b0 (Nat.le_refl _) hbu0
  have Au0 := hid (A0.out.stay hbu0)
  go_wp2_with fail
  refine (HS.out _).mono ?_
  rintro e v0 ⟨rfl, hbv0⟩
  have bv0 := stp bu0 (Nat.le_refl _) hbv0
  have Av0 := hid (Au0.out.stay hbv0)
  go_wp2_with (first | (refine wpList_load_row rfl 25 _ rfl (w.heap.size) rfl 25 (fls x0) (0, 0) _ Av0.out Try.underlying25 rfl (by rw [fls_size]; exact info_a20) ?_))
  refine (toSizes x0 _).mono ?_
  rintro e u1 ⟨rfl, hbu1⟩
  have bu1 := stp bv0 (Nat.le_refl _) hbu1
  have Au1 := hid (Av0.out.stay hbu1)
  go_wp2_with fail
  refine (HI.out _).mono ?_
  rintro e v1 ⟨rfl, hbv1⟩
  have bv1 := stp bu1 (Nat.le_refl _) hbv1
  have Av1 := hid (Au1.out.stay hbv1)
  go_wp2_with fail
  refine (sameFloat r0 Hl0.out Hf0.out _).mono ?_
  rintro e z0 ⟨rfl, rfl⟩
  go_wp2
  go_ret
  exact ⟨rfl, bv1⟩

theorem lawWaterOf (c : Nat → Nat) (hb : ∀ i, i < 20 → c i < 4294967296) (w : World) :
    Calls Try.prog 14 #[.agg (fls c)] w fun e w' => e = .returned (.bool true) ∧ Below w.heap.size w w' := by
  by_cases h : Amts c
  · have hS := sWaterOf_ok c h
    have hI := iWaterOf_ok c h
    obtain ⟨r, n, ht, hr, hl⟩ := told_lit (sumF (wat c) 19)
    rw [ht] at hS hI
    exact coreWaterOf c r (hl (nn_lt (sumF_nn 19 (fun i hi => wat_nn (by omega) (h i (by omega)))))) hr n hS hI w
  · exact coreWaterOf c 0 (by decide) (by decide) 1 (sWaterOf_bad c hb h) (iWaterOf_bad c hb h) w

end Go.Proofs.Ytbniidfojllflaa
