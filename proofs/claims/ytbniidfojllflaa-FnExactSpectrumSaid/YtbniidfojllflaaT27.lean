import Derived.Test.YtbniidfojllflaaT26
namespace Go.Proofs.Ytbniidfojllflaa
open Go.RowKit Go.Fl

set_option maxRecDepth 100000 in
theorem sSpectrumOf (x : Nat) (hx : amtB x = true) (y : Nat) (hy : amtB y = true) (h1 : ONE ≤ y) (w : World) :
    Calls Try.prog 115 #[.float .f32 x, .float .f32 y] w fun e w' => e = .returned (.agg (fls (spq x (forF y)))) ∧ Below w.heap.size w w' := by
  have hC := fun w => sFor y hy h1 w
  have hm := forF_lt y
  generalize forF y = m at *
  have HC := hid hC
  have Hx := hid hx
  have Hw := hid (show ∀ i, i < 20 → nnB (wg m i) = true from fun i hi => amt_nn (wg_amt hm hi))
  clear hC hx hy h1
  have A0 := hid ((arrAt.new w (fun _ => 0) 26).alloc (.cells (fls (fun _ => 0)) 26))
  have A1 := hid (new1 w (.cells (fls (fun _ => 0)) 26) (fun _ => 0) 26)
  have b0 := boxed2 w (.cells (fls (fun _ => 0)) 26) (.cells (fls (fun _ => 0)) 26)
  have R1 := hid (A1.out.setRow (fun _ => 0))
  have R0 := hid (A0.out.setRowOther (k := w.heap.size + 1) (by simp) (fls (fun _ => 0)))
  have bX := hid (below_row (g := w.heap.size + 1) b0 (by omega) (fls (fun _ => 0)))
  go_enter Try.func115, Try.ntmps115
  go_wp2_with (first | (refine wpList_store_row rfl 26 _ _ rfl (w.heap.size + 1) (fls (fun _ => 0)) rfl rfl 26 _ A1.out (by rw [fls_size]; exact info_arr) (by simp) (fls_one (fun _ => 0)) ?_))
  refine (HC.out _).mono ?_
  rintro e w1 ⟨rfl, rfl⟩
  go_wp2_with fail
  go_loopw [7] (fun i wr => ∃ k : Nat, k ≤ 20 ∧ i = .int .i64 k ∧ Hid (arrAt wr (w.heap.size) (fun _ => 0) 26) ∧ Hid (arrAt wr (w.heap.size + 1) (cut (wg m) k) 26) ∧ Hid (Below w.heap.size w wr)) (fun i _ => 20 - (intOf i).toNat)
  case atStart => exact ⟨0, by omega, rfl, R0, hid (R1.out.ext (fun i _ => (cut_zero' (wg m) i).symm)), bX⟩
  case round =>
    obtain ⟨k, hk, rfl, h1, h2, hb⟩ := hrel
    by_cases hlt : k < 20
    · obtain ⟨f1, f2, f3, f4, f5, f6, _, _⟩ := w_facts hlt hm
      have r1 := fun w => run_float_arith (P := Try.prog) w .quo 24 .f32 (floatOfInt .f32 ((k : Int) - (m : Int))) 1073741824 (wY k m) f1
      have r2 := fun w => run_float_arith (P := Try.prog) w .mul 24 .f32 (wY k m) (wY k m) (wQ k m) f2
      have r3 : ∀ w, (binOp .add 24 (.float .f32 1065353216) (.float .f32 (wQ k m))).run Try.prog w = .ok (.float .f32 (wZ k m)) w := fun w => run_add (P := Try.prog) 24 (x := 1065353216) (by decide) (amt_nn f3) w
      have r4 : ∀ w, (binOp .mul 24 (.float .f32 (wZ k m)) (.float .f32 (wZ k m))).run Try.prog w = .ok (.float .f32 (wP k m)) w := fun w => run_mul (P := Try.prog) 24 f4 f4 w
      have r5 : ∀ w, (binOp .quo 24 (.float .f32 1065353216) (.float .f32 (wP k m))).run Try.prog w = .ok (.float .f32 (wgt k m)) w := fun w => run_div (P := Try.prog) 24 (x := 1065353216) (by decide) f5 f6 w
      clear f1 f2 f3 f4 f5 f6
      have q2 := h2.out.cell hlt
      have z2 := h2.out.frozen k
      go_wp2
      go_roundw
      case rel => exact ⟨k + 1, by omega, by go_num, hid (h1.out.setOther (by simp) _), hid ((h2.out.set k (wg m k)).ext (fun i _ => cut_succ (wg m) k i)), hid (hb.out.setCell (by simp) _)⟩
      case measure => simp [intOf]; omega
    · obtain rfl : k = 20 := by omega
      have h3 := hid (h2.out.ext (cut_all (wg m)))
      clear h2
      obtain ⟨wo, rfl⟩ : ∃ wo : World, wo = wr := ⟨_, rfl⟩
      have l0 := h1.out.lt
      have l3 := h3.out.lt
      have N0 := hid (arrAt.new wo (fun _ => 0) 26)
      have N1 := hid (N0.out.setRow (fun _ => 0))
      have M0 := hid ((h1.out.alloc (.cells (fls fun _ => 0) 26)).setRowOther (k := wo.heap.size) (Nat.ne_of_lt l0) (fls (fun _ => 0)))
      have M3 := hid ((h3.out.alloc (.cells (fls fun _ => 0) 26)).setRowOther (k := wo.heap.size) (Nat.ne_of_lt l3) (fls (fun _ => 0)))
      have bY := hid (below_row (g := wo.heap.size) (hb.out.alloc hb.out.size (.cells (fls fun _ => 0) 26)) hb.out.size (fls (fun _ => 0)))
      have HN := hid (Nat.ne_of_lt l0)
      have HN3 := hid (Nat.ne_of_lt l3)
      have HS := hid hb.out.size
      clear l0 l3
      go_wp2_with fail
      refine (sCount (wg m) Hw.out _ (w.heap.size + 1) 26 h3.out).mono ?_
      rintro e w2 ⟨rfl, rfl⟩
      go_wp2_with (refine wpList_store_row rfl 26 _ _ rfl (wo.heap.size) (fls (fun _ => 0)) rfl rfl 26 _ N0.out (by rw [fls_size]; exact info_arr) (by simp) (fls_one (fun _ => 0)) ?_)
      go_loopw [12] (fun i wr => ∃ k : Nat, k ≤ 20 ∧ i = .int .i64 k ∧ Hid (arrAt wr (w.heap.size) (fun _ => 0) 26) ∧ Hid (arrAt wr (w.heap.size + 1) (wg m) 26) ∧ Hid (arrAt wr (wo.heap.size) (cut (spq x m) k) 26) ∧ Hid (Below w.heap.size w wr)) (fun i _ => 20 - (intOf i).toNat)
      case atStart => exact ⟨0, by omega, rfl, M0, M3, hid (N1.out.ext (fun i _ => (cut_zero' (spq x m) i).symm)), bY⟩
      case round =>
        obtain ⟨k, hk, rfl, g0, g1, g3, hb2⟩ := hrel
        by_cases hlt : k < 20
        · have q1 := g1.out.cell hlt
          have q3 := g3.out.cell hlt
          have f3 := g3.out.frozen k
          have r1 := fun w => run_mul (P := Try.prog) 24 Hx.out (wg_amt hm hlt) w
          have r2 := fun w => run_div (P := Try.prog) 24 (mul_eq Hx.out (wg_amt hm hlt)).2 (wsum hm).1 (wsum hm).2 w
          go_wp2
          go_roundw
          case rel => exact ⟨k + 1, by omega, by go_num, hid (g0.out.setOther HN.out _), hid (g1.out.setOther HN3.out _), hid ((g3.out.set k (spq x m k)).ext (fun i _ => cut_succ (spq x m) k i)), hid (hb2.out.setCell HS.out _)⟩
          case measure => simp [intOf]; omega
        · obtain rfl : k = 20 := by omega
          have g4 := hid (g3.out.ext (cut_all (spq x m)))
          clear g3
          go_wp2_with (first | (refine wpList_load_row rfl 26 _ rfl (wo.heap.size) rfl 26 (fls (spq x m)) (0, 0) _ g4.out Try.underlying26 rfl (by rw [fls_size]; exact info_arr) ?_) | (refine wpList_store_row rfl 26 _ _ rfl (w.heap.size) (fls (spq x m)) rfl rfl 26 _ g0.out (by rw [fls_size]; exact info_arr) (by simp) (fls_one (spq x m)) ?_))
          exact bodyPost_ret (results_cell_row rfl _ _ (w.heap.size) 26 (fls (spq x m)) (0, 0) _ rfl (g0.out.setRow (spq x m)) Try.underlying26 rfl (by rw [fls_size]; exact info_arr)) rfl ⟨rfl, below_row hb2.out (Nat.le_refl _) _⟩

set_option maxRecDepth 100000 in
theorem sSpectrum_ok (x : Nat) (hx : amtB x = true) (y : Nat) (hy : amtB y = true) (h1 : ONE ≤ y) (d : Nat → Nat) (n : Int) (g1 : Fins (spq x (forF y)) → d = spq x (forF y) ∧ n = 0) (g2 : ¬ Fins (spq x (forF y)) → d = (fun _ => 0) ∧ n = 4) (w : World) :
    Calls Try.prog 76 #[.float .f32 x, .float .f32 y] w fun e w' => e = .returned (.tuple #[.agg (fls d), .int .i64 n]) ∧ Below w.heap.size w w' := by
  have hC := fun w => sSpectrumOf x hx y hy h1 w
  have hge := geq_t hy (y := 1065353216) (by decide) h1
  have Hy := hid hy
  have hD := hid (fun w => sMade (spq x (forF y)) (fun i hi => nn_lt (spq_nn hx (forF_lt y) hi)) d n g1 g2 w)
  have HC := hid hC
  have Hx := hid hx
  clear hC hx hy h1 g1 g2
  have A0 := hid (arrAt.new w (fun _ => 0) 26)
  have b0 := boxed w (.cells (fls (fun _ => 0)) 26)
  go_enter Try.func76, Try.ntmps76
  go_wp2_with fail
  refine (sAmount_t x Hx.out _).mono ?_
  rintro e w0 ⟨rfl, rfl⟩
  go_wp2_with fail
  refine (sFinite_t y (amt_lt Hy.out) (amt_fin Hy.out) _).mono ?_
  rintro e w1 ⟨rfl, rfl⟩
  go_wp2_with fail
  refine (HC.out _).mono ?_
  rintro e w2 ⟨rfl, hb2⟩
  have A0 := hid (A0.out.stay hb2)
  have c2 := stp b0 (Nat.le_refl _) hb2
  go_wp2_with fail
  refine (hD.out _).mono ?_
  rintro e w3 ⟨rfl, hb3⟩
  have A0 := hid (A0.out.stay hb3)
  have c3 := stp c2 (Nat.le_refl _) hb3
  go_wp2_with (first | (refine wpList_store_row rfl 26 _ _ rfl (w.heap.size) (fls d) rfl rfl 26 _ A0.out (by rw [fls_size]; exact info_arr) (by simp) (fls_one d) ?_))
  have A0 := hid (A0.out.setRow d)
  have c3 := below_row c3 (by simp; try omega) (g := w.heap.size) (fls d)
  exact bodyPost_ret (results_row_tmp rfl _ _ (w.heap.size) 26 (fls d) (0, 0) _ rfl A0.out Try.underlying26 rfl (by rw [fls_size]; exact info_arr)) rfl ⟨rfl, c3⟩

set_option maxRecDepth 100000 in
theorem sSpectrum_count (x : Nat) (hx : x < 4294967296) (hn : amtB x = false) (y : Nat) (w : World) :
    Calls Try.prog 76 #[.float .f32 x, .float .f32 y] w fun e w' => e = .returned (.tuple #[.agg (fls (fun _ => 0)), .int .i64 2]) ∧ Below w.heap.size w w' := by
  have A0 := hid (arrAt.new w (fun _ => 0) 26)
  have b0 := boxed w (.cells (fls (fun _ => 0)) 26)
  have Hhx := hid hx
  have Hhn := hid hn
  clear hx hn
  go_enter Try.func76, Try.ntmps76
  go_wp2_with fail
  refine (sAmount_f x Hhx.out Hhn.out _).mono ?_
  rintro e w0 ⟨rfl, hb0⟩
  have A0 := hid (A0.out.stay hb0)
  have c0 := stp b0 (Nat.le_refl _) hb0
  go_wp2_with (first | (refine wpList_store_row rfl 26 _ _ rfl (w.heap.size) (fls (fun _ => 0)) rfl rfl 26 _ A0.out (by rw [fls_size]; exact info_arr) (by simp) (fls_one (fun _ => 0)) ?_))
  have A0 := hid (A0.out.setRow (fun _ => 0))
  have c0 := below_row c0 (by simp; try omega) (g := w.heap.size) (fls (fun _ => 0))
  exact bodyPost_ret (results_row_tmp rfl _ _ (w.heap.size) 26 (fls (fun _ => 0)) (0, 0) _ rfl A0.out Try.underlying26 rfl (by rw [fls_size]; exact info_arr)) rfl ⟨rfl, c0⟩

set_option maxRecDepth 100000 in
theorem sSpectrum_nofin (x : Nat) (hx : amtB x = true) (y : Nat) (hy : y < 4294967296) (hn : finB y = false) (w : World) :
    Calls Try.prog 76 #[.float .f32 x, .float .f32 y] w fun e w' => e = .returned (.tuple #[.agg (fls (fun _ => 0)), .int .i64 2]) ∧ Below w.heap.size w w' := by
  have A0 := hid (arrAt.new w (fun _ => 0) 26)
  have b0 := boxed w (.cells (fls (fun _ => 0)) 26)
  have Hhx := hid hx
  have Hhy := hid hy
  have Hhn := hid hn
  clear hx hy hn
  go_enter Try.func76, Try.ntmps76
  go_wp2_with fail
  refine (sAmount_t x Hhx.out _).mono ?_
  rintro e w0 ⟨rfl, rfl⟩
  go_wp2_with fail
  refine (sFinite_f y Hhy.out Hhn.out _).mono ?_
  rintro e w1 ⟨rfl, hb1⟩
  have A0 := hid (A0.out.stay hb1)
  have c1 := stp b0 (Nat.le_refl _) hb1
  go_wp2_with (first | (refine wpList_store_row rfl 26 _ _ rfl (w.heap.size) (fls (fun _ => 0)) rfl rfl 26 _ A0.out (by rw [fls_size]; exact info_arr) (by simp) (fls_one (fun _ => 0)) ?_))
  have A0 := hid (A0.out.setRow (fun _ => 0))
  have c1 := below_row c1 (by simp; try omega) (g := w.heap.size) (fls (fun _ => 0))
  exact bodyPost_ret (results_row_tmp rfl _ _ (w.heap.size) 26 (fls (fun _ => 0)) (0, 0) _ rfl A0.out Try.underlying26 rfl (by rw [fls_size]; exact info_arr)) rfl ⟨rfl, c1⟩

set_option maxRecDepth 100000 in
theorem sSpectrum_low (x : Nat) (hx : amtB x = true) (y : Nat) (hy : y < 4294967296) (hf : finB y = true) (hn : ¬ (amtB y = true ∧ ONE ≤ y)) (w : World) :
    Calls Try.prog 76 #[.float .f32 x, .float .f32 y] w fun e w' => e = .returned (.tuple #[.agg (fls (fun _ => 0)), .int .i64 2]) ∧ Below w.heap.size w w' := by
  obtain ⟨_, ho⟩ := low_cases hy hf hn
  have Hx := hid hx
  have Hy := hid hy
  have Hf := hid hf
  clear hx hy hf hn
  have A0 := hid (arrAt.new w (fun _ => 0) 26)
  have b0 := boxed w (.cells (fls (fun _ => 0)) 26)
  go_enter Try.func76, Try.ntmps76
  go_wp2_with fail
  refine (sAmount_t x Hx.out _).mono ?_
  rintro e w0 ⟨rfl, rfl⟩
  go_wp2_with fail
  refine (sFinite_t y Hy.out Hf.out _).mono ?_
  rintro e w1 ⟨rfl, rfl⟩
  go_wp2_with (first | (refine wpList_store_row rfl 26 _ _ rfl (w.heap.size) (fls (fun _ => 0)) rfl rfl 26 _ A0.out (by rw [fls_size]; exact info_arr) (by simp) (fls_one (fun _ => 0)) ?_))
  have A0 := hid (A0.out.setRow (fun _ => 0))
  have b0 := below_row b0 (by simp; try omega) (g := w.heap.size) (fls (fun _ => 0))
  exact bodyPost_ret (results_row_tmp rfl _ _ (w.heap.size) 26 (fls (fun _ => 0)) (0, 0) _ rfl A0.out Try.underlying26 rfl (by rw [fls_size]; exact info_arr)) rfl ⟨rfl, b0⟩

set_option maxRecDepth 100000 in
theorem iSpectrum_class (x : Nat) (y : Nat) (hy : y < 4294967296) (hn : ¬ (amtB y = true ∧ ONE ≤ y)) (w : World) :
    Calls Try.prog 40 #[.float .f32 x, .float .f32 y] w fun e w' => e = .returned (.tuple #[.agg (fls (fun _ => 0)), .int .i64 2]) ∧ Below w.heap.size w w' := by
  have A0 := hid (arrAt.new w (fun _ => 0) 26)
  have b0 := boxed w (.cells (fls (fun _ => 0)) 26)
  have Hhy := hid hy
  have Hhn := hid hn
  clear hy hn
  go_enter Try.func40, Try.ntmps40
  go_wp2_with fail
  refine (iClassFor_bad y Hhy.out Hhn.out _).mono ?_
  rintro e w0 ⟨rfl, hb0⟩
  have A0 := hid (A0.out.stay hb0)
  have c0 := stp b0 (Nat.le_refl _) hb0
  go_wp2_with (first | (refine wpList_store_row rfl 26 _ _ rfl (w.heap.size) (fls (fun _ => 0)) rfl rfl 26 _ A0.out (by rw [fls_size]; exact info_arr) (by simp) (fls_one (fun _ => 0)) ?_))
  have A0 := hid (A0.out.setRow (fun _ => 0))
  have c0 := below_row c0 (by simp; try omega) (g := w.heap.size) (fls (fun _ => 0))
  exact bodyPost_ret (results_row_tmp rfl _ _ (w.heap.size) 26 (fls (fun _ => 0)) (0, 0) _ rfl A0.out Try.underlying26 rfl (by rw [fls_size]; exact info_arr)) rfl ⟨rfl, c0⟩

set_option maxRecDepth 100000 in
theorem iSpectrum_count (x : Nat) (hx : x < 4294967296) (hn : amtB x = false) (y : Nat) (hy : amtB y = true) (h1 : ONE ≤ y) (w : World) :
    Calls Try.prog 40 #[.float .f32 x, .float .f32 y] w fun e w' => e = .returned (.tuple #[.agg (fls (fun _ => 0)), .int .i64 2]) ∧ Below w.heap.size w w' := by
  have A0 := hid (arrAt.new w (fun _ => 0) 26)
  have b0 := boxed w (.cells (fls (fun _ => 0)) 26)
  have Hhx := hid hx
  have Hhn := hid hn
  have Hhy := hid hy
  have Hh1 := hid h1
  clear hx hn hy h1
  go_enter Try.func40, Try.ntmps40
  go_wp2_with fail
  refine (iClassFor_ok y Hhy.out Hh1.out _).mono ?_
  rintro e w0 ⟨rfl, rfl⟩
  go_wp2_with fail
  refine (isAmount_f x Hhx.out Hhn.out _).mono ?_
  rintro e w1 ⟨rfl, hb1⟩
  have A0 := hid (A0.out.stay hb1)
  have c1 := stp b0 (Nat.le_refl _) hb1
  go_wp2_with (first | (refine wpList_store_row rfl 26 _ _ rfl (w.heap.size) (fls (fun _ => 0)) rfl rfl 26 _ A0.out (by rw [fls_size]; exact info_arr) (by simp) (fls_one (fun _ => 0)) ?_))
  have A0 := hid (A0.out.setRow (fun _ => 0))
  have c1 := below_row c1 (by simp; try omega) (g := w.heap.size) (fls (fun _ => 0))
  exact bodyPost_ret (results_row_tmp rfl _ _ (w.heap.size) 26 (fls (fun _ => 0)) (0, 0) _ rfl A0.out Try.underlying26 rfl (by rw [fls_size]; exact info_arr)) rfl ⟨rfl, c1⟩

set_option maxRecDepth 100000 in
theorem coreSpectrum (x0 : Nat) (x1 : Nat) (r0 : Nat → Nat) (hl0 : ∀ i, i < 20 → r0 i < 4294967296) (hf0 : ∀ i, i < 20 → finB (r0 i) = true) (r1 : Int)
    (hS : ∀ w, Calls Try.prog 76 #[.float .f32 x0, .float .f32 x1] w fun e w' => e = .returned (.tuple #[.agg (fls r0), .int .i64 r1]) ∧ Below w.heap.size w w')
    (hI : ∀ w, Calls Try.prog 40 #[.float .f32 x0, .float .f32 x1] w fun e w' => e = .returned (.tuple #[.agg (fls r0), .int .i64 r1]) ∧ Below w.heap.size w w') (w : World) :
    Calls Try.prog 24 #[.float .f32 x0, .float .f32 x1] w fun e w' => e = .returned (.bool true) ∧ Below w.heap.size w w' := by
  have b0 := Below.refl w.heap.size w
  have HS := hid hS
  have HI := hid hI
  clear hS hI
  have Hl0 := hid hl0
  have Hf0 := hid hf0
  clear hl0 hf0
  go_enter Try.func24, Try.ntmps24
  go_wp2_with fail
  refine (HS.out _).mono ?_
  rintro e v0 ⟨rfl, hbv0⟩
  have bv0 := stp b0 (Nat.le_refl _) hbv0
  have N0 := hid (arrAt.new v0 (fun _ => 0) 26)
  have R0 := hid (N0.out.setRow r0)
  have bX0 : Below w.heap.size w ((v0.alloc (.cells (fls fun _ => 0) 26)).setRow v0.heap.size (fls r0)) := below_row (bv0.alloc bv0.size _) bv0.size _
  go_wp2_with (first | (refine wpList_store_row rfl 26 _ _ rfl (v0.heap.size) (fls r0) rfl rfl 26 _ N0.out (by rw [fls_size]; exact info_arr) (by simp) (fls_one r0) ?_))
  refine (HI.out _).mono ?_
  rintro e v1 ⟨rfl, hbv1⟩
  have bv1 := stp bX0 (Nat.le_refl _) hbv1
  have R1 := hid (R0.out.stay hbv1)
  have N1 := hid (arrAt.new v1 (fun _ => 0) 26)
  have T1 := hid (N1.out.setRow r0)
  have R2 := hid ((R1.out.alloc (.cells (fls fun _ => 0) 26)).setRowOther (k := v1.heap.size) (Nat.ne_of_lt R1.out.lt) (fls r0))
  have bX1 : Below w.heap.size w ((v1.alloc (.cells (fls fun _ => 0) 26)).setRow v1.heap.size (fls r0)) := below_row (bv1.alloc bv1.size _) bv1.size _
  go_wp2_with (first | (refine wpList_store_row rfl 26 _ _ rfl (v1.heap.size) (fls r0) rfl rfl 26 _ N1.out (by rw [fls_size]; exact info_arr) (by simp) (fls_one r0) ?_) | (refine wpList_load_row rfl 26 _ rfl (v1.heap.size) rfl 26 (fls r0) (0, 0) _ T1.out Try.underlying26 rfl (by rw [fls_size]; exact info_arr) ?_) | (refine wpList_load_row rfl 26 _ rfl (v0.heap.size) rfl 26 (fls r0) (0, 0) _ R2.out Try.underlying26 rfl (by rw [fls_size]; exact info_arr) ?_))
  refine (eqSizes r0 Hl0.out Hf0.out _).mono ?_
  rintro e z ⟨rfl, hbz⟩
  have bz := stp bX1 (Nat.le_refl _) hbz
  go_wp2
  go_ret
  exact ⟨rfl, bz⟩

theorem lawSpectrum (x : Nat) (hx : x < 4294967296) (y : Nat) (hy : y < 4294967296) (w : World) :
    Calls Try.prog 24 #[.float .f32 x, .float .f32 y] w fun e w' => e = .returned (.bool true) ∧ Below w.heap.size w w' := by
  by_cases h : amtB y = true ∧ ONE ≤ y
  · rcases ha : amtB x with _ | _
    · exact coreSpectrum x y (fun _ => 0) zl zf 2 (sSpectrum_count x hx ha y) (iSpectrum_count x hx ha y h.1 h.2) w
    · obtain ⟨d, n, h1, h2, hd, hl⟩ := made_lit (spq x (forF y)) (fun i hi => nn_lt (spq_nn ha (forF_lt y) hi))
      exact coreSpectrum x y d hl hd n (sSpectrum_ok x ha y h.1 h.2 d n h1 h2) (iSpectrum_ok x ha y h.1 h.2 d n h1 h2) w
  · have hI := iSpectrum_class x y hy h
    rcases ha : amtB x with _ | _
    · exact coreSpectrum x y (fun _ => 0) zl zf 2 (sSpectrum_count x hx ha y) hI w
    · rcases hf : finB y with _ | _
      · exact coreSpectrum x y (fun _ => 0) zl zf 2 (sSpectrum_nofin x ha y hy hf) hI w
      · exact coreSpectrum x y (fun _ => 0) zl zf 2 (sSpectrum_low x ha y hy hf h) hI w

end Go.Proofs.Ytbniidfojllflaa
