import Derived.Test.YtbniidfojllflaaT21
namespace Go.Proofs.Ytbniidfojllflaa
open Go.RowKit Go.Fl

set_option maxRecDepth 100000 in
theorem sMeanMass_bad (c : Nat → Nat) (hb : ∀ i, i < 20 → c i < 4294967296) (h : ¬ Amts c) (w : World) :
    Calls Try.prog 63 #[.agg (fls c)] w fun e w' => e = .returned (.tuple #[.float .f32 0, .int .i64 1]) ∧ Below w.heap.size w w' := by
  have A0 := hid (arrAt.new w c 26)
  have b0 := boxed w (.cells (fls c) 26)
  have Hhb := hid hb
  have Hh := hid h
  clear hb h
  go_enter Try.func63, Try.ntmps63
  go_wp2_with fail
  refine (sOk_f c Hhb.out Hh.out _ w.heap.size 26 A0.out).mono ?_
  rintro e w0 ⟨rfl, hb0⟩
  have A0 := hid (A0.out.stay hb0)
  have c0 := stp b0 (Nat.le_refl _) hb0
  go_wp2
  go_ret2
  exact ⟨rfl, c0⟩

set_option maxRecDepth 100000 in
theorem iMeanMass_bad (c : Nat → Nat) (hb : ∀ i, i < 20 → c i < 4294967296) (h : ¬ Amts c) (w : World) :
    Calls Try.prog 38 #[.agg (fls c)] w fun e w' => e = .returned (.tuple #[.float .f32 0, .int .i64 1]) ∧ Below w.heap.size w w' := by
  have A0 := hid (arrAt.new w c 26)
  have b0 := boxed w (.cells (fls c) 26)
  have Hhb := hid hb
  have Hh := hid h
  clear hb h
  go_enter Try.func38, Try.ntmps38
  go_wp2_with (first | (refine wpList_load_row rfl 26 _ rfl (w.heap.size) rfl 26 (fls c) (0, 0) _ A0.out Try.underlying26 rfl (by rw [fls_size]; exact info_arr) ?_))
  refine (iCountOf_bad c Hhb.out Hh.out _).mono ?_
  rintro e w0 ⟨rfl, hb0⟩
  have A0 := hid (A0.out.stay hb0)
  have c0 := stp b0 (Nat.le_refl _) hb0
  go_wp2
  go_ret2
  exact ⟨rfl, c0⟩


theorem eq_zero_t : (FloatKind.f32.format.order 0 0 == some .eq) = true := by decide
theorem eq_zero_f {x : Nat} (hx : nnB x = true) (h : x ≠ 0) : (FloatKind.f32.format.order x 0 == some .eq) = false := by
  show (S.order x 0 == some .eq) = false
  rcases Nat.lt_or_eq_of_le (nnB_iff.1 hx) with h1 | h1
  · rw [order_zero_pos h1, Nat.compare_eq_gt.2 (by omega)]; rfl
  · rw [h1]; decide
theorem inf_inf : floatBits .quo .f32 INF INF = none := by decide
theorem nan_fin {z : Nat} (h : INF < mg z) : finB z = false := by rw [finB_iff']; omega
theorem nn_fin {x : Nat} (hx : nnB x = true) (h : finB x = true) : amtB x = true := by rw [nn_amt hx]; exact h
theorem nn_inf {x : Nat} (hx : nnB x = true) (h : finB x = false) : x = INF := by
  have h1 := nn_amt hx
  rw [h, amtB_iff'] at h1
  have := nnB_iff.1 hx
  omega

set_option maxRecDepth 100000 in
theorem sMeanMass_none (c : Nat → Nat) (h : Amts c) (h0 : sumF c 19 = 0) (w : World) :
    Calls Try.prog 63 #[.agg (fls c)] w fun e w' => e = .returned (.tuple #[.float .f32 0, .int .i64 6]) ∧ Below w.heap.size w w' := by
  have hC := fun w g T hg => sCount c (fun i hi => amt_nn (h i hi)) w g T hg
  rw [h0] at hC
  have HC := hid hC
  have H := hid h
  have he := eq_zero_t
  clear h hC h0
  have A0 := hid (arrAt.new w c 26)
  have b0 := boxed w (.cells (fls c) 26)
  go_enter Try.func63, Try.ntmps63
  go_wp2_with fail
  refine (sOk_t c H.out _ w.heap.size 26 A0.out).mono ?_
  rintro e w0 ⟨rfl, rfl⟩
  go_wp2_with fail
  refine (HC.out _ w.heap.size 26 A0.out).mono ?_
  rintro e w1 ⟨rfl, rfl⟩
  go_wp2
  go_ret2
  exact ⟨rfl, b0⟩

set_option maxRecDepth 100000 in
theorem iMeanMass_none (c : Nat → Nat) (h : Amts c) (h0 : sumF c 19 = 0) (w : World) :
    Calls Try.prog 38 #[.agg (fls c)] w fun e w' => e = .returned (.tuple #[.float .f32 0, .int .i64 6]) ∧ Below w.heap.size w w' := by
  have hC := iCountOf_ok c h
  rw [h0, told_t (by decide)] at hC
  have HC := hid hC
  have H := hid h
  have he := eq_zero_t
  clear h hC h0
  have A0 := hid (arrAt.new w c 26)
  have b0 := boxed w (.cells (fls c) 26)
  go_enter Try.func38, Try.ntmps38
  go_wp2_with (first | (refine wpList_load_row rfl 26 _ rfl (w.heap.size) rfl 26 (fls c) (0, 0) _ A0.out Try.underlying26 rfl (by rw [fls_size]; exact info_arr) ?_))
  refine (HC.out _).mono ?_
  rintro e w0 ⟨rfl, hb0⟩
  have A0 := hid (A0.out.stay hb0)
  have c0 := stp b0 (Nat.le_refl _) hb0
  go_wp2
  go_ret2
  exact ⟨rfl, c0⟩

set_option maxRecDepth 100000 in
theorem sMeanMass_inf (c : Nat → Nat) (h : Amts c) (h0 : sumF c 19 = INF) (h1 : sumF (wat c) 19 = INF) (w : World) :
    Calls Try.prog 63 #[.agg (fls c)] w fun e w' => e = .returned (.tuple #[.float .f32 0, .int .i64 4]) ∧ Below w.heap.size w w' := by
  have hC := fun w g T hg => sCount c (fun i hi => amt_nn (h i hi)) w g T hg
  have hW := fun w g T hg => sWater c h 0 (by omega) w g T hg
  rw [show 19 - 0 = 19 from rfl, sumA_zero, h1] at hW
  rw [h0] at hC
  have HC := hid hC
  have HW := hid hW
  have H := hid h
  have he := eq_zero_f (x := INF) (by decide) (by decide)
  clear h hC hW h0 h1
  have A0 := hid (arrAt.new w c 26)
  have b0 := boxed w (.cells (fls c) 26)
  go_enter Try.func63, Try.ntmps63
  go_wp2_with fail
  refine (sOk_t c H.out _ w.heap.size 26 A0.out).mono ?_
  rintro e w0 ⟨rfl, rfl⟩
  go_wp2_with fail
  refine (HC.out _ w.heap.size 26 A0.out).mono ?_
  rintro e w1 ⟨rfl, rfl⟩
  go_wp2_with fail
  refine (HW.out _ w.heap.size 26 A0.out).mono ?_
  rintro e w2 ⟨rfl, hb2⟩
  have A0 := hid (A0.out.stay hb2)
  have c2 := stp b0 (Nat.le_refl _) hb2
  obtain ⟨z, hz, hz1, hz2⟩ := run_arith_nan (P := Try.prog) w2 .quo (by simp) 24 INF INF inf_inf
  have Hz := hid (nan_fin hz1)
  have Hz2 := hid hz2
  clear hz1 hz2
  go_wp2_with fail
  refine (sTold_f z Hz2.out Hz.out _).mono ?_
  rintro e w9 ⟨rfl, hb9⟩
  have b9 := stp c2.drew (Nat.le_refl _) hb9
  go_wp2
  go_ret2
  exact ⟨rfl, b9⟩

set_option maxRecDepth 100000 in
theorem iMeanMass_inf (c : Nat → Nat) (h : Amts c) (h0 : sumF c 19 = INF) (w : World) :
    Calls Try.prog 38 #[.agg (fls c)] w fun e w' => e = .returned (.tuple #[.float .f32 0, .int .i64 4]) ∧ Below w.heap.size w w' := by
  have hC := iCountOf_ok c h
  rw [h0, told_f (by decide)] at hC
  have HC := hid hC
  have H := hid h
  clear h hC h0
  have A0 := hid (arrAt.new w c 26)
  have b0 := boxed w (.cells (fls c) 26)
  go_enter Try.func38, Try.ntmps38
  go_wp2_with (first | (refine wpList_load_row rfl 26 _ rfl (w.heap.size) rfl 26 (fls c) (0, 0) _ A0.out Try.underlying26 rfl (by rw [fls_size]; exact info_arr) ?_))
  refine (HC.out _).mono ?_
  rintro e w0 ⟨rfl, hb0⟩
  have A0 := hid (A0.out.stay hb0)
  have c0 := stp b0 (Nat.le_refl _) hb0
  go_wp2
  go_ret2
  exact ⟨rfl, c0⟩

set_option maxRecDepth 100000 in
theorem sMeanMass_ok (c : Nat → Nat) (h : Amts c) (h0 : sumF c 19 ≠ 0) (hf : amtB (sumF c 19) = true) (x : Nat) (hx : sumF (wat c) 19 = x) (w : World) :
    Calls Try.prog 63 #[.agg (fls c)] w fun e w' => e = .returned (told (fdiv x (sumF c 19))) ∧ Below w.heap.size w w' := by
  have hC := fun w g T hg => sCount c (fun i hi => amt_nn (h i hi)) w g T hg
  have hW := fun w g T hg => sWater c h 0 (by omega) w g T hg
  rw [show 19 - 0 = 19 from rfl, sumA_zero, hx] at hW
  have hxn : nnB x = true := by rw [← hx]; exact (sumF_nn 19 (fun i hi => wat_nn (by omega) (h i (by omega))))
  have he := eq_zero_f (amt_nn hf) h0
  have hd := fun w => run_div (P := Try.prog) 24 hxn hf h0 w
  have Hq := hid (nn_lt (div_eq hxn hf h0).2)
  have H := hid h
  clear h hx hxn h0 hf
  generalize sumF c 19 = y at *
  have HC := hid hC
  have HW := hid hW
  clear hC hW
  obtain ⟨r, n, ht, hr, _⟩ := told_lit (fdiv x y)
  have hT := fun w => (sTold (fdiv x y) Hq.out w)
  rw [ht] at hT ⊢
  have HT := hid hT
  clear hT ht hr
  have A0 := hid (arrAt.new w c 26)
  have b0 := boxed w (.cells (fls c) 26)
  go_enter Try.func63, Try.ntmps63
  go_wp2_with fail
  refine (sOk_t c H.out _ w.heap.size 26 A0.out).mono ?_
  rintro e w0 ⟨rfl, rfl⟩
  go_wp2_with fail
  refine (HC.out _ w.heap.size 26 A0.out).mono ?_
  rintro e w1 ⟨rfl, rfl⟩
  go_wp2_with fail
  refine (HW.out _ w.heap.size 26 A0.out).mono ?_
  rintro e w2 ⟨rfl, hb2⟩
  have A0 := hid (A0.out.stay hb2)
  have c2 := stp b0 (Nat.le_refl _) hb2
  go_wp2_with fail
  refine (HT.out _).mono ?_
  rintro e w3 ⟨rfl, hb3⟩
  have A0 := hid (A0.out.stay hb3)
  have c3 := stp c2 (Nat.le_refl _) hb3
  go_wp2
  go_ret2
  exact ⟨rfl, c3⟩

set_option maxRecDepth 100000 in
theorem iMeanMass_ok (c : Nat → Nat) (h : Amts c) (h0 : sumF c 19 ≠ 0) (hf : amtB (sumF c 19) = true) (x : Nat) (hx : sumF (wat c) 19 = x) (hxf : finB x = true) (w : World) :
    Calls Try.prog 38 #[.agg (fls c)] w fun e w' => e = .returned (told (fdiv x (sumF c 19))) ∧ Below w.heap.size w w' := by
  have hC := iCountOf_ok c h
  rw [told_t (amt_fin hf)] at hC
  have hW := iWaterOf_ok c h
  rw [hx, told_t hxf] at hW
  have hxn : nnB x = true := by rw [← hx]; exact (sumF_nn 19 (fun i hi => wat_nn (by omega) (h i (by omega))))
  have he := eq_zero_f (amt_nn hf) h0
  have hd := fun w => run_div (P := Try.prog) 24 hxn hf h0 w
  have Hq := hid (nn_lt (div_eq hxn hf h0).2)
  clear h hx hxn h0 hf hxf
  generalize sumF c 19 = y at *
  have HC := hid hC
  have HW := hid hW
  clear hC hW
  obtain ⟨r, n, ht, hr, _⟩ := told_lit (fdiv x y)
  have hT := fun w => (iTold (fdiv x y) Hq.out w)
  rw [ht] at hT ⊢
  have HT := hid hT
  clear hT ht hr
  have A0 := hid (arrAt.new w c 26)
  have b0 := boxed w (.cells (fls c) 26)
  go_enter Try.func38, Try.ntmps38
  go_wp2_with (first | (refine wpList_load_row rfl 26 _ rfl (w.heap.size) rfl 26 (fls c) (0, 0) _ A0.out Try.underlying26 rfl (by rw [fls_size]; exact info_arr) ?_))
  refine (HC.out _).mono ?_
  rintro e w0 ⟨rfl, hb0⟩
  have A0 := hid (A0.out.stay hb0)
  have c0 := stp b0 (Nat.le_refl _) hb0
  go_wp2_with (first | (refine wpList_load_row rfl 26 _ rfl (w.heap.size) rfl 26 (fls c) (0, 0) _ A0.out Try.underlying26 rfl (by rw [fls_size]; exact info_arr) ?_))
  refine (HW.out _).mono ?_
  rintro e w1 ⟨rfl, hb1⟩
  have A0 := hid (A0.out.stay hb1)
  have c1 := stp c0 (Nat.le_refl _) hb1
  go_wp2_with fail
  refine (HT.out _).mono ?_
  rintro e w2 ⟨rfl, hb2⟩
  have A0 := hid (A0.out.stay hb2)
  have c2 := stp c1 (Nat.le_refl _) hb2
  go_wp2
  go_ret2
  exact ⟨rfl, c2⟩

set_option maxRecDepth 100000 in
theorem iMeanMass_wet (c : Nat → Nat) (h : Amts c) (h0 : sumF c 19 ≠ 0) (hf : amtB (sumF c 19) = true) (hx : sumF (wat c) 19 = INF) (w : World) :
    Calls Try.prog 38 #[.agg (fls c)] w fun e w' => e = .returned (.tuple #[.float .f32 0, .int .i64 4]) ∧ Below w.heap.size w w' := by
  have hC := iCountOf_ok c h
  rw [told_t (amt_fin hf)] at hC
  have hW := iWaterOf_ok c h
  rw [hx, told_f (by decide)] at hW
  have he := eq_zero_f (amt_nn hf) h0
  clear h hx h0 hf
  generalize sumF c 19 = y at *
  have HC := hid hC
  have HW := hid hW
  clear hC hW
  have A0 := hid (arrAt.new w c 26)
  have b0 := boxed w (.cells (fls c) 26)
  go_enter Try.func38, Try.ntmps38
  go_wp2_with (first | (refine wpList_load_row rfl 26 _ rfl (w.heap.size) rfl 26 (fls c) (0, 0) _ A0.out Try.underlying26 rfl (by rw [fls_size]; exact info_arr) ?_))
  refine (HC.out _).mono ?_
  rintro e w0 ⟨rfl, hb0⟩
  have A0 := hid (A0.out.stay hb0)
  have c0 := stp b0 (Nat.le_refl _) hb0
  go_wp2_with (first | (refine wpList_load_row rfl 26 _ rfl (w.heap.size) rfl 26 (fls c) (0, 0) _ A0.out Try.underlying26 rfl (by rw [fls_size]; exact info_arr) ?_))
  refine (HW.out _).mono ?_
  rintro e w1 ⟨rfl, hb1⟩
  have A0 := hid (A0.out.stay hb1)
  have c1 := stp c0 (Nat.le_refl _) hb1
  go_wp2
  go_ret2
  exact ⟨rfl, c1⟩

set_option maxRecDepth 100000 in
theorem coreMeanMass (x0 : Nat → Nat) (r0 : Nat) (hl0 : r0 < 4294967296) (hf0 : finB r0 = true) (r1 : Int)
    (hS : ∀ w, Calls Try.prog 63 #[.agg (fls x0)] w fun e w' => e = .returned (.tuple #[.float .f32 r0, .int .i64 r1]) ∧ Below w.heap.size w w')
    (hI : ∀ w, Calls Try.prog 38 #[.agg (fls x0)] w fun e w' => e = .returned (.tuple #[.float .f32 r0, .int .i64 r1]) ∧ Below w.heap.size w w') (w : World) :
    Calls Try.prog 16 #[.agg (fls x0)] w fun e w' => e = .returned (.bool true) ∧ Below w.heap.size w w' := by
  have A0 := hid (arrAt.new w x0 25)
  have b0 := boxed w (.cells (fls x0) 25)
  have HS := hid hS
  have HI := hid hI
  clear hS hI
  have hc0 := fun w => run_conv_wid (P := Try.prog) w 24 51 r0 hl0 Try.underlying24 Try.underlying51 (finB_iff.1 hf0)
  have Hl0 := hid hl0
  have Hf0 := hid hf0
  clear hl0 hf0
  go_enter Try.func16, Try.ntmps16
  go_wp2_with (first | (refine wpList_load_row rfl 25 _ rfl (w.heap.size) rfl 25 (fls x0) (0, 0) _ A0.out Try.underlying25 rfl (by rw [fls_size]; exact info_a20) ?_))
  refine (toSizes x0 _).mono ?_
  rintro e u0 ⟨rfl, hbu0⟩
  have bu0 := stp b0 (Nat.le_refl _) hbu0
  have Au0 := hid (A0.out.stay hbu0)
  go_wp2_with fail
  refine (HS.out _).mono ?_
  rintro e v0 ⟨rfl, hbv0⟩
  have bv0 := stp bu0 (Nat.le_refl _) hbv0
  have Av0 := hid (Au0.out.stay hbv0)
  go_wp2_with (first | (refine wpList_load_row rfl 25 _ rfl (w.heap.size) rfl 25 (fls x0) (0, 0) _ Av0.out Try.underlying25 rfl (by rw [fls_size]; exact info_a20) ?_))
  refine (toSizes x0 _).mono ?_
  rintro e u1 ⟨rfl, hbu1⟩
  have bu1 := stp bv0 (Nat.le_refl _) hbu1
  have Au1 := hid (Av0.out.stay hbu1)
  go_wp2_with fail
  refine (HI.out _).mono ?_
  rintro e v1 ⟨rfl, hbv1⟩
  have bv1 := stp bu1 (Nat.le_refl _) hbv1
  have Av1 := hid (Au1.out.stay hbv1)
  go_wp2_with fail
  refine (sameFloat r0 Hl0.out Hf0.out _).mono ?_
  rintro e z0 ⟨rfl, rfl⟩
  go_wp2
  go_ret
  exact ⟨rfl, bv1⟩


theorem div_inf {y : Nat} (hy : amtB y = true) : fdiv INF y = INF := by
  obtain ⟨n, k, h2, hv⟩ := read_val (amtB_iff.1 hy)
  unfold fdiv Ieee.Format.div
  rw [read_INF, h2, show (Ieee.Datum.infinity false).quotient (S.fractionBits + 2) (.number false n (-149 + (k : Nat))) = some (.infinity false) from rfl, Option.map_some, Option.getD_some, write_INF]

theorem lawMeanMass (c : Nat → Nat) (hb : ∀ i, i < 20 → c i < 4294967296) (w : World) :
    Calls Try.prog 16 #[.agg (fls c)] w fun e w' => e = .returned (.bool true) ∧ Below w.heap.size w w' := by
  by_cases h : Amts c
  · have hcn : nnB (sumF c 19) = true := (sumF_nn 19 (fun i hi => amt_nn (h i (by omega))))
    have hwn : nnB (sumF (wat c) 19) = true := (sumF_nn 19 (fun i hi => wat_nn (by omega) (h i (by omega))))
    by_cases h0 : sumF c 19 = 0
    · exact coreMeanMass c 0 (by decide) (by decide) 6 (sMeanMass_none c h h0) (iMeanMass_none c h h0) w
    · rcases hf : finB (sumF c 19) with _ | _
      · have h1 := nn_inf hcn hf
        have h2 : sumF (wat c) 19 = INF := by
          have := count_le_water h
          rw [h1] at this
          exact Nat.le_antisymm (nnB_iff.1 hwn) this
        exact coreMeanMass c 0 (by decide) (by decide) 4 (sMeanMass_inf c h h1 h2) (iMeanMass_inf c h h1) w
      · have ha := nn_fin hcn hf
        rcases hg : finB (sumF (wat c) 19) with _ | _
        · have h2 := nn_inf hwn hg
          have hS := sMeanMass_ok c h h0 ha INF h2
          rw [div_inf ha, told_f (by decide)] at hS
          exact coreMeanMass c 0 (by decide) (by decide) 4 hS (iMeanMass_wet c h h0 ha h2) w
        · have hS := sMeanMass_ok c h h0 ha _ rfl
          have hI := iMeanMass_ok c h h0 ha _ rfl hg
          obtain ⟨r, n, ht, hr, hl⟩ := told_lit (fdiv (sumF (wat c) 19) (sumF c 19))
          rw [ht] at hS hI
          exact coreMeanMass c r (hl (nn_lt (div_eq hwn ha h0).2)) hr n hS hI w
  · exact coreMeanMass c 0 (by decide) (by decide) 1 (sMeanMass_bad c hb h) (iMeanMass_bad c hb h) w

end Go.Proofs.Ytbniidfojllflaa
