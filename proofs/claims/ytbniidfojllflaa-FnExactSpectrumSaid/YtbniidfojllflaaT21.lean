import Derived.Test.YtbniidfojllflaaT19
import Derived.Test.YtbniidfojllflaaLibD
namespace Go.Proofs.Ytbniidfojllflaa
open Go.RowKit Go.Fl

set_option maxRecDepth 100000 in
theorem sAtLeast_bad (c : Nat → Nat) (hb : ∀ i, i < 20 → c i < 4294967296) (h : ¬ Amts c) (n : Int) (w : World) :
    Calls Try.prog 77 #[.agg (fls c), .int .i64 n] w fun e w' => e = .returned (.tuple #[.float .f32 0, .int .i64 1]) ∧ Below w.heap.size w w' := by
  have A0 := hid (arrAt.new w c 26)
  have b0 := boxed w (.cells (fls c) 26)
  have Hhb := hid hb
  have Hh := hid h
  clear hb h
  go_enter Try.func77, Try.ntmps77
  go_wp2_with fail
  refine (sOk_f c Hhb.out Hh.out _ w.heap.size 26 A0.out).mono ?_
  rintro e w0 ⟨rfl, hb0⟩
  have A0 := hid (A0.out.stay hb0)
  have c0 := stp b0 (Nat.le_refl _) hb0
  go_wp2
  go_ret2
  exact ⟨rfl, c0⟩

set_option maxRecDepth 100000 in
theorem iAtLeast_bad (c : Nat → Nat) (hb : ∀ i, i < 20 → c i < 4294967296) (h : ¬ Amts c) (n : Int) (w : World) :
    Calls Try.prog 35 #[.agg (fls c), .int .i64 n] w fun e w' => e = .returned (.tuple #[.float .f32 0, .int .i64 1]) ∧ Below w.heap.size w w' := by
  have A0 := hid (arrAt.new w c 26)
  have b0 := boxed w (.cells (fls c) 26)
  have Hhb := hid hb
  have Hh := hid h
  clear hb h
  go_enter Try.func35, Try.ntmps35
  go_wp2_with (first | (refine wpList_load_row rfl 26 _ rfl (w.heap.size) rfl 26 (fls c) (0, 0) _ A0.out Try.underlying26 rfl (by rw [fls_size]; exact info_arr) ?_))
  refine (validSizes_f c Hhb.out Hh.out _).mono ?_
  rintro e w0 ⟨rfl, hb0⟩
  have A0 := hid (A0.out.stay hb0)
  have c0 := stp b0 (Nat.le_refl _) hb0
  go_wp2
  go_ret2
  exact ⟨rfl, c0⟩

set_option maxRecDepth 100000 in
theorem sAtLeast_range (c : Nat → Nat) (h : Amts c) (n : Int) (hn : ¬ (0 ≤ n ∧ n < 20)) (w : World) :
    Calls Try.prog 77 #[.agg (fls c), .int .i64 n] w fun e w' => e = .returned (.tuple #[.float .f32 0, .int .i64 2]) ∧ Below w.heap.size w w' := by
  have A0 := hid (arrAt.new w c 26)
  have b0 := boxed w (.cells (fls c) 26)
  have Hh := hid h
  have Hhn := hid hn
  clear h hn
  go_enter Try.func77, Try.ntmps77
  go_wp2_with fail
  refine (sOk_t c Hh.out _ w.heap.size 26 A0.out).mono ?_
  rintro e w0 ⟨rfl, rfl⟩
  go_wp2_with fail
  refine (sClass_f n Hhn.out _).mono ?_
  rintro e w1 ⟨rfl, rfl⟩
  go_wp2
  go_ret2
  exact ⟨rfl, b0⟩

set_option maxRecDepth 100000 in
theorem iAtLeast_range (c : Nat → Nat) (h : Amts c) (n : Int) (hn : ¬ (0 ≤ n ∧ n < 20)) (w : World) :
    Calls Try.prog 35 #[.agg (fls c), .int .i64 n] w fun e w' => e = .returned (.tuple #[.float .f32 0, .int .i64 2]) ∧ Below w.heap.size w w' := by
  have A0 := hid (arrAt.new w c 26)
  have b0 := boxed w (.cells (fls c) 26)
  have Hh := hid h
  have Hhn := hid hn
  clear h hn
  go_enter Try.func35, Try.ntmps35
  go_wp2_with (first | (refine wpList_load_row rfl 26 _ rfl (w.heap.size) rfl 26 (fls c) (0, 0) _ A0.out Try.underlying26 rfl (by rw [fls_size]; exact info_arr) ?_))
  refine (validSizes_t c Hh.out _).mono ?_
  rintro e w0 ⟨rfl, hb0⟩
  have A0 := hid (A0.out.stay hb0)
  have c0 := stp b0 (Nat.le_refl _) hb0
  go_wp2_with fail
  refine (isClass_f n Hhn.out _).mono ?_
  rintro e w1 ⟨rfl, rfl⟩
  go_wp2
  go_ret2
  exact ⟨rfl, c0⟩

set_option maxRecDepth 100000 in
theorem sAtLeast_ok (c : Nat → Nat) (h : Amts c) (a : Nat) (ha : a < 20) (w : World) :
    Calls Try.prog 77 #[.agg (fls c), .int .i64 (a : Int)] w fun e w' => e = .returned (told (sumA (wat c) a (19 - a))) ∧ Below w.heap.size w w' := by
  have hx := hid (nn_lt (sumA_nn (c := wat c) (a := a) (19 - a) (fun i hi => wat_nn (by omega) (h i (by omega)))))
  have H := hid h
  clear h
  obtain ⟨r, n, ht, hr, _⟩ := told_lit (sumA (wat c) a (19 - a))
  have hC := fun w => (sTold (sumA (wat c) a (19 - a)) hx.out w)
  rw [ht] at hC ⊢
  have HC := hid hC
  clear hC ht hr
  have A0 := hid (arrAt.new w c 26)
  have b0 := boxed w (.cells (fls c) 26)
  go_enter Try.func77, Try.ntmps77
  go_wp2_with fail
  refine (sOk_t c H.out _ w.heap.size 26 A0.out).mono ?_
  rintro e w0 ⟨rfl, rfl⟩
  go_wp2_with fail
  refine (sClass_t a ha _).mono ?_
  rintro e w1 ⟨rfl, rfl⟩
  go_wp2_with fail
  refine (sWater c H.out a ha _ w.heap.size 26 A0.out).mono ?_
  rintro e w2 ⟨rfl, hb2⟩
  have A0 := hid (A0.out.stay hb2)
  have c2 := stp b0 (Nat.le_refl _) hb2
  go_wp2_with fail
  refine (HC.out _).mono ?_
  rintro e w3 ⟨rfl, hb3⟩
  have A0 := hid (A0.out.stay hb3)
  have c3 := stp c2 (Nat.le_refl _) hb3
  go_wp2
  go_ret2
  exact ⟨rfl, c3⟩

set_option maxRecDepth 100000 in
theorem iAtLeast_ok (c : Nat → Nat) (h : Amts c) (a : Nat) (ha : a < 20) (w : World) :
    Calls Try.prog 35 #[.agg (fls c), .int .i64 (a : Int)] w fun e w' => e = .returned (told (sumA (wat c) a (19 - a))) ∧ Below w.heap.size w w' := by
  have e := sum_low h ha 19 (by omega)
  rw [if_neg (by omega)] at e
  have hC := iWaterOf_ok (prt (fun _ => 0) c a) (low_amts h a)
  rw [e] at hC
  obtain ⟨r, n, ht, hr, _⟩ := told_lit (sumA (wat c) a (19 - a))
  rw [ht] at hC ⊢
  have HC := hid hC
  have H := hid h
  clear h hC e ht hr
  have A0 := hid (arrAt.new w c 26)
  have b0 := boxed w (.cells (fls c) 26)
  go_enter Try.func35, Try.ntmps35
  go_wp2_with (first | (refine wpList_load_row rfl 26 _ rfl (w.heap.size) rfl 26 (fls c) (0, 0) _ A0.out Try.underlying26 rfl (by rw [fls_size]; exact info_arr) ?_))
  refine (validSizes_t c H.out _).mono ?_
  rintro e w0 ⟨rfl, hb0⟩
  have A0 := hid (A0.out.stay hb0)
  have c0 := stp b0 (Nat.le_refl _) hb0
  go_wp2_with fail
  refine (isClass_t a ha _).mono ?_
  rintro e w1 ⟨rfl, rfl⟩
  have N0 := hid (arrAt.new w0 (fun _ => 0) 26)
  have P0 := hid (N0.out.setRow c)
  have bX : Below w.heap.size w ((w0.alloc (.cells (fls fun _ => 0) 26)).setRow w0.heap.size (fls c)) := below_row (c0.alloc c0.size _) c0.size _
  have lx := A0.out.lt
  go_wp2_with (first | (refine wpList_load_row rfl 26 _ rfl (w.heap.size) rfl 26 (fls c) (0, 0) _ A0.out Try.underlying26 rfl (by rw [fls_size]; exact info_arr) ?_) | (refine wpList_store_row rfl 26 _ _ rfl (w0.heap.size) (fls c) rfl rfl 26 _ N0.out (by rw [fls_size]; exact info_arr) (by simp) (fls_one c) ?_))
  go_loopw [16] (fun i wr => ∃ k : Nat, k ≤ a ∧ i = .int .i64 k ∧ Hid (arrAt wr (w0.heap.size) (prt (fun _ => 0) c k) 26) ∧ Hid (Below w.heap.size w wr)) (fun i _ => 20 - (intOf i).toNat)
  case atStart => exact ⟨0, by omega, rfl, hid (P0.out.ext (fun i _ => (part_zero (fun _ => 0) c i).symm)), hid bX⟩
  case round =>
    obtain ⟨k, hk, rfl, g0, hb⟩ := hrel
    by_cases hlt : k < a
    · have q0 := g0.out.cell (k := k) (by omega)
      have f0 := g0.out.frozen k
      go_wp2
      go_roundw
      case rel => exact ⟨k + 1, by omega, by go_num, hid ((g0.out.set k 0).ext (fun i _ => part_succ (fun _ => 0) c k i)), hid (hb.out.setCell (by simp; omega) _)⟩
      case measure => simp [intOf]; omega
    · obtain rfl : k = a := by omega
      go_wp2_with (refine wpList_load_row rfl 26 _ rfl (w0.heap.size) rfl 26 (fls (prt (fun _ => 0) c k)) (0, 0) _ g0.out Try.underlying26 rfl (by rw [fls_size]; exact info_arr) ?_)
      refine (HC.out _).mono ?_
      rintro e w9 ⟨rfl, hb9⟩
      have b9 := stp hb.out (Nat.le_refl _) hb9
      go_wp2
      go_ret2
      exact ⟨rfl, b9⟩

set_option maxRecDepth 100000 in
theorem coreAtLeast (x0 : Nat → Nat) (x1 : Int) (r0 : Nat) (hl0 : r0 < 4294967296) (hf0 : finB r0 = true) (r1 : Int)
    (hS : ∀ w, Calls Try.prog 77 #[.agg (fls x0), .int .i64 x1] w fun e w' => e = .returned (.tuple #[.float .f32 r0, .int .i64 r1]) ∧ Below w.heap.size w w')
    (hI : ∀ w, Calls Try.prog 35 #[.agg (fls x0), .int .i64 x1] w fun e w' => e = .returned (.tuple #[.float .f32 r0, .int .i64 r1]) ∧ Below w.heap.size w w') (w : World) :
    Calls Try.prog 25 #[.agg (fls x0), .int .i64 x1] w fun e w' => e = .returned (.bool true) ∧ Below w.heap.size w w' := by
  have A0 := hid (arrAt.new w x0 25)
  have b0 := boxed w (.cells (fls x0) 25)
  have HS := hid hS
  have HI := hid hI
  clear hS hI
  have hc0 := fun w => run_conv_wid (P := Try.prog) w 24 51 r0 hl0 Try.underlying24 Try.underlying51 (finB_iff.1 hf0)
  have Hl0 := hid hl0
  have Hf0 := hid hf0
  clear hl0 hf0
  go_enter Try.func25, Try.ntmps25
  go_wp2_with (first | (refine wpList_load_row rfl 25 _ rfl (w.heap.size) rfl 25 (fls x0) (0, 0) _ A0.out Try.underlying25 rfl (by rw [fls_size]; exact info_a20) ?_))
  refine (toSizes x0 _).mono ?_
  rintro e u0 ⟨rfl, hbu0⟩
  have bu0 := stp b0 (Nat.le_refl _) hbu0
  have Au0 := hid (A0.out.stay hbu0)
  go_wp2_with fail
  refine (HS.out _).mono ?_
  rintro e v0 ⟨rfl, hbv0⟩
  have bv0 := stp bu0 (Nat.le_refl _) hbv0
  have Av0 := hid (Au0.out.stay hbv0)
  go_wp2_with (first | (refine wpList_load_row rfl 25 _ rfl (w.heap.size) rfl 25 (fls x0) (0, 0) _ Av0.out Try.underlying25 rfl (by rw [fls_size]; exact info_a20) ?_))
  refine (toSizes x0 _).mono ?_
  rintro e u1 ⟨rfl, hbu1⟩
  have bu1 := stp bv0 (Nat.le_refl _) hbu1
  have Au1 := hid (Av0.out.stay hbu1)
  go_wp2_with fail
  refine (HI.out _).mono ?_
  rintro e v1 ⟨rfl, hbv1⟩
  have bv1 := stp bu1 (Nat.le_refl _) hbv1
  have Av1 := hid (Au1.out.stay hbv1)
  go_wp2_with fail
  refine (sameFloat r0 Hl0.out Hf0.out _).mono ?_
  rintro e z0 ⟨rfl, rfl⟩
  go_wp2
  go_ret
  exact ⟨rfl, bv1⟩

theorem lawAtLeast (c : Nat → Nat) (hb : ∀ i, i < 20 → c i < 4294967296) (n : Int) (_h1 : -9223372036854775808 ≤ n) (_h2 : n ≤ 9223372036854775807) (w : World) :
    Calls Try.prog 25 #[.agg (fls c), .int .i64 n] w fun e w' => e = .returned (.bool true) ∧ Below w.heap.size w w' := by
  by_cases h : Amts c
  · by_cases hn : 0 ≤ n ∧ n < 20
    · obtain ⟨a, rfl⟩ := Int.eq_ofNat_of_zero_le hn.1
      have ha : a < 20 := by omega
      have hS := sAtLeast_ok c h a ha
      have hI := iAtLeast_ok c h a ha
      obtain ⟨r, n, ht, hr, hl⟩ := told_lit (sumA (wat c) a (19 - a))
      rw [ht] at hS hI
      exact coreAtLeast c a r (hl (nn_lt (sumA_nn (c := wat c) (a := a) (19 - a) (fun i hi => wat_nn (by omega) (h i (by omega)))))) hr n hS hI w
    · exact coreAtLeast c n 0 (by decide) (by decide) 2 (sAtLeast_range c h n hn) (iAtLeast_range c h n hn) w
  · exact coreAtLeast c n 0 (by decide) (by decide) 1 (sAtLeast_bad c hb h n) (iAtLeast_bad c hb h n) w

end Go.Proofs.Ytbniidfojllflaa
