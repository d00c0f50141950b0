import Derived.Test.YtbniidfojllflaaT10
namespace Go.Proofs.Ytbniidfojllflaa
open Go.RowKit Go.Fl

set_option maxRecDepth 100000 in
theorem coreCountOf (x0 : Nat → Nat) (r0 : Nat) (hl0 : r0 < 4294967296) (hf0 : finB r0 = true) (r1 : Int)
    (hS : ∀ w, Calls Try.prog 60 #[.agg (fls x0)] w fun e w' => e = .returned (.tuple #[.float .f32 r0, .int .i64 r1]) ∧ Below w.heap.size w w')
    (hI : ∀ w, Calls Try.prog 29 #[.agg (fls x0)] w fun e w' => e = .returned (.tuple #[.float .f32 r0, .int .i64 r1]) ∧ Below w.heap.size w w') (w : World) :
    Calls Try.prog 13 #[.agg (fls x0)] w fun e w' => e = .returned (.bool true) ∧ Below w.heap.size w w' := by
  have A0 := hid (arrAt.new w x0 25)
  have b0 := boxed w (.cells (fls x0) 25)
  have HS := hid hS
  have HI := hid hI
  clear hS hI
  have hc0 := fun w => run_conv_wid (P := Try.prog) w 24 51 r0 hl0 Try.underlying24 Try.underlying51 (finB_iff.1 hf0)
  have Hl0 := hid hl0
  have Hf0 := hid hf0
  clear hl0 hf0
  go_enter Try.func13, Try.ntmps13
  go_wp2_with (first | (refine wpList_load_row rfl 25 _ rfl (w.heap.size) rfl 25 (fls x0) (0, 0) _ A0.out Try.underlying25 rfl (by rw [fls_size]; exact info_a20) ?_))
  refine (toSizes x0 _).mono ?_
  rintro e u0 ⟨rfl, hbu0⟩
  have bu0 := stp b0 (Nat.le_refl _) hbu0
  have Au0 := hid (A0.out.stay hbu0)
  go_wp2_with fail
  refine (HS.out _).mono ?_
  rintro e v0 ⟨rfl, hbv0⟩
  have bv0 := stp bu0 (Nat.le_refl _) hbv0
  have Av0 := hid (Au0.out.stay hbv0)
  go_wp2_with (first | (refine wpList_load_row rfl 25 _ rfl (w.heap.size) rfl 25 (fls x0) (0, 0) _ Av0.out Try.underlying25 rfl (by rw [fls_size]; exact info_a20) ?_))
  refine (toSizes x0 _).mono ?_
  rintro e u1 ⟨rfl, hbu1⟩
  have bu1 := stp bv0 (Nat.le_refl _) hbu1
  have Au1 := hid (Av0.out.stay hbu1)
  go_wp2_with fail
  refine (HI.out _).mono ?_
  rintro e v1 ⟨rfl, hbv1⟩
  have bv1 := stp bu1 (Nat.le_refl _) hbv1
  have Av1 := hid (Au1.out.stay hbv1)
  go_wp2_with fail
  refine (sameFloat r0 Hl0.out Hf0.out _).mono ?_
  rintro e z0 ⟨rfl, rfl⟩
  go_wp2
  go_ret
  exact ⟨rfl, bv1⟩

set_option maxRecDepth 100000 in
theorem coreMiddleClass (x0 : Nat → Nat) (r0 : Int) (r1 : Int)
    (hS : ∀ w, Calls Try.prog 78 #[.agg (fls x0)] w fun e w' => e = .returned (.tuple #[.int .i64 r0, .int .i64 r1]) ∧ Below w.heap.size w w')
    (hI : ∀ w, Calls Try.prog 37 #[.agg (fls x0)] w fun e w' => e = .returned (.tuple #[.int .i64 r0, .int .i64 r1]) ∧ Below w.heap.size w w') (w : World) :
    Calls Try.prog 26 #[.agg (fls x0)] w fun e w' => e = .returned (.bool true) ∧ Below w.heap.size w w' := by
  have A0 := hid (arrAt.new w x0 25)
  have b0 := boxed w (.cells (fls x0) 25)
  have HS := hid hS
  have HI := hid hI
  clear hS hI
  go_enter Try.func26, Try.ntmps26
  go_wp2_with (first | (refine wpList_load_row rfl 25 _ rfl (w.heap.size) rfl 25 (fls x0) (0, 0) _ A0.out Try.underlying25 rfl (by rw [fls_size]; exact info_a20) ?_))
  refine (toSizes x0 _).mono ?_
  rintro e u0 ⟨rfl, hbu0⟩
  have bu0 := stp b0 (Nat.le_refl _) hbu0
  have Au0 := hid (A0.out.stay hbu0)
  go_wp2_with fail
  refine (HS.out _).mono ?_
  rintro e v0 ⟨rfl, hbv0⟩
  have bv0 := stp bu0 (Nat.le_refl _) hbv0
  have Av0 := hid (Au0.out.stay hbv0)
  go_wp2_with (first | (refine wpList_load_row rfl 25 _ rfl (w.heap.size) rfl 25 (fls x0) (0, 0) _ Av0.out Try.underlying25 rfl (by rw [fls_size]; exact info_a20) ?_))
  refine (toSizes x0 _).mono ?_
  rintro e u1 ⟨rfl, hbu1⟩
  have bu1 := stp bv0 (Nat.le_refl _) hbu1
  have Au1 := hid (Av0.out.stay hbu1)
  go_wp2_with fail
  refine (HI.out _).mono ?_
  rintro e v1 ⟨rfl, hbv1⟩
  have bv1 := stp bu1 (Nat.le_refl _) hbv1
  have Av1 := hid (Au1.out.stay hbv1)
  go_wp2
  go_ret
  exact ⟨rfl, bv1⟩

set_option maxRecDepth 100000 in
theorem coreScaleSizes (x0 : Nat → Nat) (x1 : Nat) (r0 : Nat → Nat) (hl0 : ∀ i, i < 20 → r0 i < 4294967296) (hf0 : ∀ i, i < 20 → finB (r0 i) = true) (r1 : Int)
    (hS : ∀ w, Calls Try.prog 72 #[.agg (fls x0), .float .f32 x1] w fun e w' => e = .returned (.tuple #[.agg (fls r0), .int .i64 r1]) ∧ Below w.heap.size w w')
    (hI : ∀ w, Calls Try.prog 73 #[.agg (fls x0), .float .f32 x1] w fun e w' => e = .returned (.tuple #[.agg (fls r0), .int .i64 r1]) ∧ Below w.heap.size w w') (w : World) :
    Calls Try.prog 21 #[.agg (fls x0), .float .f32 x1] w fun e w' => e = .returned (.bool true) ∧ Below w.heap.size w w' := by
  have A0 := hid (arrAt.new w x0 25)
  have b0 := boxed w (.cells (fls x0) 25)
  have HS := hid hS
  have HI := hid hI
  clear hS hI
  have Hl0 := hid hl0
  have Hf0 := hid hf0
  clear hl0 hf0
  go_enter Try.func21, Try.ntmps21
  go_wp2_with (first | (refine wpList_load_row rfl 25 _ rfl (w.heap.size) rfl 25 (fls x0) (0, 0) _ A0.out Try.underlying25 rfl (by rw [fls_size]; exact info_a20) ?_))
  refine (toSizes x0 _).mono ?_
  rintro e u0 ⟨rfl, hbu0⟩
  have bu0 := stp b0 (Nat.le_refl _) hbu0
  have Au0 := hid (A0.out.stay hbu0)
  go_wp2_with fail
  refine (HS.out _).mono ?_
  rintro e v0 ⟨rfl, hbv0⟩
  have bv0 := stp bu0 (Nat.le_refl _) hbv0
  have Av0 := hid (Au0.out.stay hbv0)
  have N0 := hid (arrAt.new v0 (fun _ => 0) 26)
  have R0 := hid (N0.out.setRow r0)
  have AX0 := hid ((Av0.out.alloc (.cells (fls fun _ => 0) 26)).setRowOther (k := v0.heap.size) (Nat.ne_of_lt Av0.out.lt) (fls r0))
  have bX0 : Below w.heap.size w ((v0.alloc (.cells (fls fun _ => 0) 26)).setRow v0.heap.size (fls r0)) := below_row (bv0.alloc bv0.size _) bv0.size _
  go_wp2_with (first | (refine wpList_load_row rfl 25 _ rfl (w.heap.size) rfl 25 (fls x0) (0, 0) _ AX0.out Try.underlying25 rfl (by rw [fls_size]; exact info_a20) ?_) | (refine wpList_store_row rfl 26 _ _ rfl (v0.heap.size) (fls r0) rfl rfl 26 _ N0.out (by rw [fls_size]; exact info_arr) (by simp) (fls_one r0) ?_))
  refine (toSizes x0 _).mono ?_
  rintro e u1 ⟨rfl, hbu1⟩
  have bu1 := stp bX0 (Nat.le_refl _) hbu1
  have Au1 := hid (AX0.out.stay hbu1)
  go_wp2_with fail
  refine (HI.out _).mono ?_
  rintro e v1 ⟨rfl, hbv1⟩
  have bv1 := stp bu1 (Nat.le_refl _) hbv1
  have Av1 := hid (Au1.out.stay hbv1)
  have R1 := hid ((R0.out.stay hbu1).stay hbv1)
  have N1 := hid (arrAt.new v1 (fun _ => 0) 26)
  have T1 := hid (N1.out.setRow r0)
  have R2 := hid ((R1.out.alloc (.cells (fls fun _ => 0) 26)).setRowOther (k := v1.heap.size) (Nat.ne_of_lt R1.out.lt) (fls r0))
  have bX1 : Below w.heap.size w ((v1.alloc (.cells (fls fun _ => 0) 26)).setRow v1.heap.size (fls r0)) := below_row (bv1.alloc bv1.size _) bv1.size _
  go_wp2_with (first | (refine wpList_store_row rfl 26 _ _ rfl (v1.heap.size) (fls r0) rfl rfl 26 _ N1.out (by rw [fls_size]; exact info_arr) (by simp) (fls_one r0) ?_) | (refine wpList_load_row rfl 26 _ rfl (v1.heap.size) rfl 26 (fls r0) (0, 0) _ T1.out Try.underlying26 rfl (by rw [fls_size]; exact info_arr) ?_) | (refine wpList_load_row rfl 26 _ rfl (v0.heap.size) rfl 26 (fls r0) (0, 0) _ R2.out Try.underlying26 rfl (by rw [fls_size]; exact info_arr) ?_))
  refine (eqSizes r0 Hl0.out Hf0.out _).mono ?_
  rintro e z ⟨rfl, hbz⟩
  have bz := stp bX1 (Nat.le_refl _) hbz
  go_wp2
  go_ret
  exact ⟨rfl, bz⟩

end Go.Proofs.Ytbniidfojllflaa
