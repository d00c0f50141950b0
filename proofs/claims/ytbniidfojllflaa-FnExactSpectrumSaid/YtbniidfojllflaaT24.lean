import Derived.Test.YtbniidfojllflaaT23
import Derived.Test.YtbniidfojllflaaLibF
namespace Go.Proofs.Ytbniidfojllflaa
open Go.RowKit Go.Fl

set_option maxRecDepth 100000 in
theorem sMiddleClass_bad (c : Nat → Nat) (hb : ∀ i, i < 20 → c i < 4294967296) (h : ¬ Amts c) (w : World) :
    Calls Try.prog 78 #[.agg (fls c)] w fun e w' => e = .returned (.tuple #[.int .i64 0, .int .i64 1]) ∧ Below w.heap.size w w' := by
  have A0 := hid (arrAt.new w c 26)
  have b0 := boxed w (.cells (fls c) 26)
  have Hhb := hid hb
  have Hh := hid h
  clear hb h
  go_enter Try.func78, Try.ntmps78
  go_wp2_with fail
  refine (sOk_f c Hhb.out Hh.out _ w.heap.size 26 A0.out).mono ?_
  rintro e w0 ⟨rfl, hb0⟩
  have A0 := hid (A0.out.stay hb0)
  have c0 := stp b0 (Nat.le_refl _) hb0
  go_wp2
  go_ret2
  exact ⟨rfl, c0⟩

set_option maxRecDepth 100000 in
theorem iMiddleClass_bad (c : Nat → Nat) (hb : ∀ i, i < 20 → c i < 4294967296) (h : ¬ Amts c) (w : World) :
    Calls Try.prog 37 #[.agg (fls c)] w fun e w' => e = .returned (.tuple #[.int .i64 0, .int .i64 1]) ∧ Below w.heap.size w w' := by
  have A0 := hid (arrAt.new w c 26)
  have b0 := boxed w (.cells (fls c) 26)
  have Hhb := hid hb
  have Hh := hid h
  clear hb h
  go_enter Try.func37, Try.ntmps37
  go_wp2_with (first | (refine wpList_load_row rfl 26 _ rfl (w.heap.size) rfl 26 (fls c) (0, 0) _ A0.out Try.underlying26 rfl (by rw [fls_size]; exact info_arr) ?_))
  refine (iWaterOf_bad c Hhb.out Hh.out _).mono ?_
  rintro e w0 ⟨rfl, hb0⟩
  have A0 := hid (A0.out.stay hb0)
  have c0 := stp b0 (Nat.le_refl _) hb0
  go_wp2
  go_ret2
  exact ⟨rfl, c0⟩

set_option maxRecDepth 100000 in
theorem sMiddleClass_none (c : Nat → Nat) (h : Amts c) (h0 : sumF (wat c) 19 = 0) (w : World) :
    Calls Try.prog 78 #[.agg (fls c)] w fun e w' => e = .returned (.tuple #[.int .i64 0, .int .i64 6]) ∧ Below w.heap.size w w' := by
  have hW := fun w g T hg => sWater c h 0 (by omega) w g T hg
  rw [show 19 - 0 = 19 from rfl, sumA_zero] at hW
  rw [h0] at hW
  have HW := hid hW
  have H := hid h
  have he := eq_zero_t
  clear hW h h0
  have A0 := hid (arrAt.new w c 26)
  have b0 := boxed w (.cells (fls c) 26)
  go_enter Try.func78, Try.ntmps78
  go_wp2_with fail
  refine (sOk_t c H.out _ w.heap.size 26 A0.out).mono ?_
  rintro e w0 ⟨rfl, rfl⟩
  go_wp2_with fail
  refine (HW.out _ w.heap.size 26 A0.out).mono ?_
  rintro e w1 ⟨rfl, hb1⟩
  have A0 := hid (A0.out.stay hb1)
  have c1 := stp b0 (Nat.le_refl _) hb1
  go_wp2
  go_ret2
  exact ⟨rfl, c1⟩

set_option maxRecDepth 100000 in
theorem iMiddleClass_none (c : Nat → Nat) (h : Amts c) (h0 : sumF (wat c) 19 = 0) (w : World) :
    Calls Try.prog 37 #[.agg (fls c)] w fun e w' => e = .returned (.tuple #[.int .i64 0, .int .i64 6]) ∧ Below w.heap.size w w' := by
  have hW := iWaterOf_ok c h
  rw [h0, told_t (by decide)] at hW
  have HW := hid hW
  have he := eq_zero_t
  clear hW h h0
  have A0 := hid (arrAt.new w c 26)
  have b0 := boxed w (.cells (fls c) 26)
  go_enter Try.func37, Try.ntmps37
  go_wp2_with (first | (refine wpList_load_row rfl 26 _ rfl (w.heap.size) rfl 26 (fls c) (0, 0) _ A0.out Try.underlying26 rfl (by rw [fls_size]; exact info_arr) ?_))
  refine (HW.out _).mono ?_
  rintro e w0 ⟨rfl, hb0⟩
  have A0 := hid (A0.out.stay hb0)
  have c0 := stp b0 (Nat.le_refl _) hb0
  go_wp2
  go_ret2
  exact ⟨rfl, c0⟩

set_option maxRecDepth 100000 in
theorem sMiddleClass_inf (c : Nat → Nat) (h : Amts c) (h0 : sumF (wat c) 19 = INF) (w : World) :
    Calls Try.prog 78 #[.agg (fls c)] w fun e w' => e = .returned (.tuple #[.int .i64 0, .int .i64 4]) ∧ Below w.heap.size w w' := by
  have hW := fun w g T hg => sWater c h 0 (by omega) w g T hg
  rw [show 19 - 0 = 19 from rfl, sumA_zero] at hW
  rw [h0] at hW
  have HW := hid hW
  have H := hid h
  have he := eq_zero_f (x := INF) (by decide) (by decide)
  clear hW h h0
  have A0 := hid (arrAt.new w c 26)
  have b0 := boxed w (.cells (fls c) 26)
  go_enter Try.func78, Try.ntmps78
  go_wp2_with fail
  refine (sOk_t c H.out _ w.heap.size 26 A0.out).mono ?_
  rintro e w0 ⟨rfl, rfl⟩
  go_wp2_with fail
  refine (HW.out _ w.heap.size 26 A0.out).mono ?_
  rintro e w1 ⟨rfl, hb1⟩
  have A0 := hid (A0.out.stay hb1)
  have c1 := stp b0 (Nat.le_refl _) hb1
  go_wp2_with fail
  refine (sFinite_f INF (by decide) (by decide) _).mono ?_
  rintro e w2 ⟨rfl, hb2⟩
  have A0 := hid (A0.out.stay hb2)
  have c2 := stp c1 (Nat.le_refl _) hb2
  go_wp2
  go_ret2
  exact ⟨rfl, c2⟩

set_option maxRecDepth 100000 in
theorem iMiddleClass_inf (c : Nat → Nat) (h : Amts c) (h0 : sumF (wat c) 19 = INF) (w : World) :
    Calls Try.prog 37 #[.agg (fls c)] w fun e w' => e = .returned (.tuple #[.int .i64 0, .int .i64 4]) ∧ Below w.heap.size w w' := by
  have hW := iWaterOf_ok c h
  rw [h0, told_f (by decide)] at hW
  have HW := hid hW
  have he := eq_zero_f (x := INF) (by decide) (by decide)
  clear hW h h0
  have A0 := hid (arrAt.new w c 26)
  have b0 := boxed w (.cells (fls c) 26)
  go_enter Try.func37, Try.ntmps37
  go_wp2_with (first | (refine wpList_load_row rfl 26 _ rfl (w.heap.size) rfl 26 (fls c) (0, 0) _ A0.out Try.underlying26 rfl (by rw [fls_size]; exact info_arr) ?_))
  refine (HW.out _).mono ?_
  rintro e w0 ⟨rfl, hb0⟩
  have A0 := hid (A0.out.stay hb0)
  have c0 := stp b0 (Nat.le_refl _) hb0
  go_wp2
  go_ret2
  exact ⟨rfl, c0⟩

set_option maxRecDepth 100000 in
theorem iMiddleClass_ok (c : Nat → Nat) (h : Amts c) (h0 : sumF (wat c) 19 ≠ 0) (hf : amtB (sumF (wat c) 19) = true) (w : World) :
    Calls Try.prog 37 #[.agg (fls c)] w fun e w' => e = .returned (.tuple #[.int .i64 (mid c : Int), .int .i64 0]) ∧ Below w.heap.size w w' := by
  have hWt := iWaters c h
  have hW := iWaterOf_ok c h
  rw [told_t (amt_fin hf)] at hW
  have he := eq_zero_f (amt_nn hf) h0
  have hhm := fun w => run_mul (P := Try.prog) 24 (x := 1056964608) (by decide) hf w
  have hhalf : amtB (fmul 1056964608 (sumF (wat c) 19)) = true := by
    have h1 := amtB_iff.1 hf
    have h2 := fmul_le (x := 1056964608) (by omega) h1
    exact amtB_iff.2 (by omega)
  have hpre : ∀ k, k < 20 → amtB (sumF (wat c) k) = true := fun k hk => amtB_iff.2 (Nat.lt_of_le_of_lt (sum_grows (by omega) (fun i hi => wat_nn (by omega) (h i (by omega)))) (amtB_iff.1 hf))
  have hmid : mid c = midG (sumF (wat c)) (fmul 1056964608 (sumF (wat c) 19)) 20 0 := rfl
  have Hf := hid hf
  have Hx := hid (amt_lt hf)
  generalize sumF (wat c) 19 = all at *
  generalize fmul 1056964608 all = half at *
  generalize mid c = m at *
  have Hhalf := hid hhalf
  have Hpre := hid hpre
  have Hm := hid hmid
  have H := hid h
  clear hhalf hpre hmid h h0 hf
  have HW := hid hW
  have HWt := hid hWt
  clear hW hWt
  have A0 := hid (arrAt.new w c 26)
  have b0 := boxed w (.cells (fls c) 26)
  go_enter Try.func37, Try.ntmps37
  go_wp2_with (first | (refine wpList_load_row rfl 26 _ rfl (w.heap.size) rfl 26 (fls c) (0, 0) _ A0.out Try.underlying26 rfl (by rw [fls_size]; exact info_arr) ?_))
  refine (HW.out _).mono ?_
  rintro e w0 ⟨rfl, hb0⟩
  have A0 := hid (A0.out.stay hb0)
  have c0 := stp b0 (Nat.le_refl _) hb0
  go_wp2_with (first | (refine wpList_load_row rfl 26 _ rfl (w.heap.size) rfl 26 (fls c) (0, 0) _ A0.out Try.underlying26 rfl (by rw [fls_size]; exact info_arr) ?_))
  refine (HWt.out _).mono ?_
  rintro e w1 ⟨rfl, hb1⟩
  have A0 := hid (A0.out.stay hb1)
  have c1 := stp c0 (Nat.le_refl _) hb1
  go_wp2_with fail
  go_loop [7, 24] (fun s i => ∃ k : Nat, k ≤ 20 ∧ i = .int .i64 k ∧ s = .float .f32 (bef (wat c) k) ∧ Hid (m = midG (sumF (wat c)) half (20 - k) k)) (fun _ i => 20 - (intOf i).toNat)
  case atStart => exact ⟨0, by omega, rfl, rfl, Hm⟩
  case round =>
    obtain ⟨k, hk, rfl, rfl, hr⟩ := hrel
    by_cases hlt : k < 20
    · have hix := ix 25 Try.underlying25 (wat c) k hlt
      have hwn := wat_nn hlt (H.out k hlt)
      have hadd := fun w => run_add (P := Try.prog) 24 (ahead_nn (f := wat c) (k := k) (fun i hi => wat_nn (by omega) (H.out i (by omega)))) hwn w
      simp only [ahead_add hwn] at hadd
      have hmk := hid (show midG (sumF (wat c)) half (20 - k) k = if half ≤ sumF (wat c) k then k else midG (sumF (wat c)) half (20 - (k + 1)) (k + 1) from by rw [show 20 - k = (20 - (k + 1)) + 1 by omega]; rfl)
      by_cases hle : half ≤ sumF (wat c) k
      · have hg := geq_t (Hpre.out k hlt) Hhalf.out hle
        have hm2 := hid (hr.out.trans (hmk.out.trans (if_pos hle)))
        clear hle hwn
        go_wp2
        go_ret2
        exact ⟨by rw [hm2.out]; rfl, c1⟩
      · have hg := geq_f (Hpre.out k hlt) Hhalf.out (by omega)
        have hm2 := hid (hr.out.trans (hmk.out.trans (if_neg hle)))
        clear hle hwn
        go_wp2
        go_round
        case rel => exact ⟨k + 1, by omega, by go_num, by rw [ahead_succ], hm2⟩
        case measure => simp [intOf]; omega
    · obtain rfl : k = 20 := by omega
      go_wp2
      go_ret2
      exact ⟨by rw [hr.out]; rfl, c1⟩

set_option maxRecDepth 100000 in
theorem sMiddleClass_ok (c : Nat → Nat) (h : Amts c) (h0 : sumF (wat c) 19 ≠ 0) (hf : amtB (sumF (wat c) 19) = true) (w : World) :
    Calls Try.prog 78 #[.agg (fls c)] w fun e w' => e = .returned (.tuple #[.int .i64 (mid c : Int), .int .i64 0]) ∧ Below w.heap.size w w' := by
  have hW := fun w g T hg => sWater c h 0 (by omega) w g T hg
  rw [show 19 - 0 = 19 from rfl, sumA_zero] at hW
  have he := eq_zero_f (amt_nn hf) h0
  have hhm := fun w => run_mul (P := Try.prog) 24 (x := 1056964608) (by decide) hf w
  have hhalf : amtB (fmul 1056964608 (sumF (wat c) 19)) = true := by
    have h1 := amtB_iff.1 hf
    have h2 := fmul_le (x := 1056964608) (by omega) h1
    exact amtB_iff.2 (by omega)
  have hpre : ∀ k, k < 20 → amtB (sumF (wat c) k) = true := fun k hk => amtB_iff.2 (Nat.lt_of_le_of_lt (sum_grows (by omega) (fun i hi => wat_nn (by omega) (h i (by omega)))) (amtB_iff.1 hf))
  have hmid : mid c = midG (sumF (wat c)) (fmul 1056964608 (sumF (wat c) 19)) 20 0 := rfl
  have Hf := hid hf
  have Hx := hid (amt_lt hf)
  generalize sumF (wat c) 19 = all at *
  generalize fmul 1056964608 all = half at *
  generalize mid c = m at *
  have Hhalf := hid hhalf
  have Hpre := hid hpre
  have Hm := hid hmid
  have H := hid h
  clear hhalf hpre hmid h h0 hf
  have HW := hid hW
  clear hW
  have A0 := hid (arrAt.new w c 26)
  have b0 := boxed w (.cells (fls c) 26)
  go_enter Try.func78, Try.ntmps78
  go_wp2_with fail
  refine (sOk_t c H.out _ w.heap.size 26 A0.out).mono ?_
  rintro e w0 ⟨rfl, rfl⟩
  go_wp2_with fail
  refine (HW.out _ w.heap.size 26 A0.out).mono ?_
  rintro e w1 ⟨rfl, hb1⟩
  have A0 := hid (A0.out.stay hb1)
  have c1 := stp b0 (Nat.le_refl _) hb1
  go_wp2_with fail
  refine (sFinite_t all Hx.out (amt_fin Hf.out) _).mono ?_
  rintro e w2 ⟨rfl, rfl⟩
  go_wp2_with fail
  go_loopw [6, 7] (fun s i wr => ∃ k : Nat, k ≤ 20 ∧ i = .int .i64 k ∧ s = .float .f32 (bef (wat c) k) ∧ Hid (m = midG (sumF (wat c)) half (20 - k) k) ∧ Hid (arrAt wr w.heap.size c 26) ∧ Hid (Below w.heap.size w wr)) (fun _ i _ => 20 - (intOf i).toNat)
  case atStart => exact ⟨0, by omega, rfl, rfl, Hm, A0, hid c1⟩
  case round =>
    obtain ⟨k, hk, rfl, rfl, hr, g0, hb⟩ := hrel
    by_cases hlt : k < 20
    · have q0 := g0.out.cell hlt
      have hwn := wat_nn hlt (H.out k hlt)
      have hm := fun w => run_mul (P := Try.prog) 24 (H.out k hlt) (mass_amt hlt) w
      have hadd := fun w => run_add (P := Try.prog) 24 (ahead_nn (f := wat c) (k := k) (fun i hi => wat_nn (by omega) (H.out i (by omega)))) hwn w
      simp only [ahead_add hwn] at hadd
      have hwk : fmul (c k) (mass k) = wat c k := rfl
      rw [hwk] at hm
      have hk0 : k = 0 → wat c k = sumF (wat c) k := fun e => by subst e; rfl
      have Hk0 := hid hk0
      have hmk := hid (show midG (sumF (wat c)) half (20 - k) k = if half ≤ sumF (wat c) k then k else midG (sumF (wat c)) half (20 - (k + 1)) (k + 1) from by rw [show 20 - k = (20 - (k + 1)) + 1 by omega]; rfl)
      clear hk0 hwk hwn
      have hge : (half ≤ sumF (wat c) k ∧ (FloatKind.f32.format.order (sumF (wat c) k) half == some .gt || FloatKind.f32.format.order (sumF (wat c) k) half == some .eq) = true) ∨ (¬ half ≤ sumF (wat c) k ∧ (FloatKind.f32.format.order (sumF (wat c) k) half == some .gt || FloatKind.f32.format.order (sumF (wat c) k) half == some .eq) = false) := by
        by_cases hle : half ≤ sumF (wat c) k
        · exact .inl ⟨hle, geq_t (Hpre.out k hlt) Hhalf.out hle⟩
        · exact .inr ⟨hle, geq_f (Hpre.out k hlt) Hhalf.out (by omega)⟩
      rcases hge with ⟨hle, hg⟩ | ⟨hle, hg⟩
      · have hm2 := hid (hr.out.trans (hmk.out.trans (if_pos hle)))
        clear hle
        by_cases hz : k = 0
        · have hz1 : ((k : Int) == 0) = true := by simp [hz]
          have Hz := hid (Hk0.out hz)
          clear hz
          go_wp2_with fail
          go_quiet ((go_at_call 102; exact Calls.quiet_of_same (back (sMass k hlt _))))
          rw [Hz.out]
          go_wp2
          go_ret2
          exact ⟨by rw [hm2.out]; rfl, below_drewN hb.out _⟩
        · have hz1 : ((k : Int) == 0) = false := by simp; omega
          clear hz
          go_wp2_with fail
          go_quiet ((go_at_call 102; exact Calls.quiet_of_same (back (sMass k hlt _))))
          go_wp2
          go_ret2
          exact ⟨by rw [hm2.out]; rfl, below_drewN hb.out _⟩
      · have hm2 := hid (hr.out.trans (hmk.out.trans (if_neg hle)))
        clear hle
        by_cases hz : k = 0
        · have hz1 : ((k : Int) == 0) = true := by simp [hz]
          have Hz := hid (Hk0.out hz)
          clear hz
          go_wp2_with fail
          go_quiet ((go_at_call 102; exact Calls.quiet_of_same (back (sMass k hlt _))))
          rw [Hz.out]
          go_wp2
          go_roundw
          case rel => exact ⟨k + 1, by omega, by go_num, by rw [ahead_succ], hm2, g0, hid (below_drewN hb.out _)⟩
          case measure => simp [intOf]; omega
        · have hz1 : ((k : Int) == 0) = false := by simp; omega
          clear hz
          go_wp2_with fail
          go_quiet ((go_at_call 102; exact Calls.quiet_of_same (back (sMass k hlt _))))
          go_wp2
          go_roundw
          case rel => exact ⟨k + 1, by omega, by go_num, by rw [ahead_succ], hm2, g0, hid (below_drewN hb.out _)⟩
          case measure => simp [intOf]; omega
    · obtain rfl : k = 20 := by omega
      go_wp2
      go_ret2
      exact ⟨by rw [hr.out]; rfl, hb.out⟩

theorem lawMiddleClass (c : Nat → Nat) (hb : ∀ i, i < 20 → c i < 4294967296) (w : World) :
    Calls Try.prog 26 #[.agg (fls c)] w fun e w' => e = .returned (.bool true) ∧ Below w.heap.size w w' := by
  by_cases h : Amts c
  · have hwn : nnB (sumF (wat c) 19) = true := sumF_nn 19 (fun i hi => wat_nn (by omega) (h i (by omega)))
    by_cases h0 : sumF (wat c) 19 = 0
    · exact coreMiddleClass c 0 6 (sMiddleClass_none c h h0) (iMiddleClass_none c h h0) w
    · rcases hf : finB (sumF (wat c) 19) with _ | _
      · have h1 := nn_inf hwn hf
        exact coreMiddleClass c 0 4 (sMiddleClass_inf c h h1) (iMiddleClass_inf c h h1) w
      · have ha := nn_fin hwn hf
        exact coreMiddleClass c (mid c) 0 (sMiddleClass_ok c h h0 ha) (iMiddleClass_ok c h h0 ha) w
  · exact coreMiddleClass c 0 1 (sMiddleClass_bad c hb h) (iMiddleClass_bad c hb h) w

end Go.Proofs.Ytbniidfojllflaa
