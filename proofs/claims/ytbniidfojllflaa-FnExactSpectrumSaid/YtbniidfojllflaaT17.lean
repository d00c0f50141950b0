import Derived.Test.YtbniidfojllflaaT16
namespace Go.Proofs.Ytbniidfojllflaa
open Go.RowKit Go.Fl

set_option maxRecDepth 100000 in
theorem sScaleSizes_bad (c : Nat → Nat) (hb : ∀ i, i < 20 → c i < 4294967296) (h : ¬ Amts c) (x : Nat) (w : World) :
    Calls Try.prog 72 #[.agg (fls c), .float .f32 x] w fun e w' => e = .returned (.tuple #[.agg (fls (fun _ => 0)), .int .i64 1]) ∧ Below w.heap.size w w' := by
  have A0 := hid ((arrAt.new w c 26).alloc (.cells (fls (fun _ => 0)) 26))
  have A1 := hid (new1 w (.cells (fls c) 26) (fun _ => 0) 26)
  have b0 := boxed2 w (.cells (fls c) 26) (.cells (fls (fun _ => 0)) 26)
  have Hhb := hid hb
  have Hh := hid h
  clear hb h
  go_enter Try.func72, Try.ntmps72
  go_wp2_with fail
  refine (sOk_f c Hhb.out Hh.out _ w.heap.size 26 A0.out).mono ?_
  rintro e w0 ⟨rfl, hb0⟩
  have A0 := hid (A0.out.stay hb0)
  have A1 := hid (A1.out.stay hb0)
  have c0 := stp b0 (Nat.le_refl _) hb0
  go_wp2_with (first | (refine wpList_store_row rfl 26 _ _ rfl (w.heap.size + 1) (fls (fun _ => 0)) rfl rfl 26 _ A1.out (by rw [fls_size]; exact info_arr) (by simp) (fls_one (fun _ => 0)) ?_))
  have A0 := hid (A0.out.setRowOther (k := w.heap.size + 1) (by simp; try omega) (fls (fun _ => 0)))
  have A1 := hid (A1.out.setRow (fun _ => 0))
  have c0 := below_row c0 (by simp; try omega) (g := w.heap.size + 1) (fls (fun _ => 0))
  exact bodyPost_ret (results_row_tmp rfl _ _ (w.heap.size + 1) 26 (fls (fun _ => 0)) (0, 0) _ rfl A1.out Try.underlying26 rfl (by rw [fls_size]; exact info_arr)) rfl ⟨rfl, c0⟩

set_option maxRecDepth 100000 in
theorem iScaleSizes_bad (c : Nat → Nat) (hb : ∀ i, i < 20 → c i < 4294967296) (h : ¬ Amts c) (x : Nat) (w : World) :
    Calls Try.prog 73 #[.agg (fls c), .float .f32 x] w fun e w' => e = .returned (.tuple #[.agg (fls (fun _ => 0)), .int .i64 1]) ∧ Below w.heap.size w w' := by
  have A0 := hid ((arrAt.new w c 26).alloc (.cells (fls (fun _ => 0)) 26))
  have A1 := hid (new1 w (.cells (fls c) 26) (fun _ => 0) 26)
  have b0 := boxed2 w (.cells (fls c) 26) (.cells (fls (fun _ => 0)) 26)
  have Hhb := hid hb
  have Hh := hid h
  clear hb h
  go_enter Try.func73, Try.ntmps73
  go_wp2_with (first | (refine wpList_load_row rfl 26 _ rfl (w.heap.size) rfl 26 (fls c) (0, 0) _ A0.out Try.underlying26 rfl (by rw [fls_size]; exact info_arr) ?_))
  refine (validSizes_f c Hhb.out Hh.out _).mono ?_
  rintro e w0 ⟨rfl, hb0⟩
  have A0 := hid (A0.out.stay hb0)
  have A1 := hid (A1.out.stay hb0)
  have c0 := stp b0 (Nat.le_refl _) hb0
  go_wp2_with (first | (refine wpList_store_row rfl 26 _ _ rfl (w.heap.size + 1) (fls (fun _ => 0)) rfl rfl 26 _ A1.out (by rw [fls_size]; exact info_arr) (by simp) (fls_one (fun _ => 0)) ?_))
  have A0 := hid (A0.out.setRowOther (k := w.heap.size + 1) (by simp; try omega) (fls (fun _ => 0)))
  have A1 := hid (A1.out.setRow (fun _ => 0))
  have c0 := below_row c0 (by simp; try omega) (g := w.heap.size + 1) (fls (fun _ => 0))
  exact bodyPost_ret (results_row_tmp rfl _ _ (w.heap.size + 1) 26 (fls (fun _ => 0)) (0, 0) _ rfl A1.out Try.underlying26 rfl (by rw [fls_size]; exact info_arr)) rfl ⟨rfl, c0⟩

def scl (c : Nat → Nat) (x : Nat) : Nat → Nat := fun i => fmul (c i) x

theorem scl_lt {c : Nat → Nat} (h : Amts c) {x : Nat} (hx : amtB x = true) : ∀ i, i < 20 → scl c x i < 4294967296 := fun i hi => nn_lt (mul_eq (h i hi) hx).2

set_option maxRecDepth 100000 in
theorem sScaleSizes_range (c : Nat → Nat) (h : Amts c) (x : Nat) (hx : x < 4294967296) (hn : amtB x = false) (w : World) :
    Calls Try.prog 72 #[.agg (fls c), .float .f32 x] w fun e w' => e = .returned (.tuple #[.agg (fls (fun _ => 0)), .int .i64 2]) ∧ Below w.heap.size w w' := by
  have A0 := hid ((arrAt.new w c 26).alloc (.cells (fls (fun _ => 0)) 26))
  have A1 := hid (new1 w (.cells (fls c) 26) (fun _ => 0) 26)
  have b0 := boxed2 w (.cells (fls c) 26) (.cells (fls (fun _ => 0)) 26)
  have Hh := hid h
  have Hhx := hid hx
  have Hhn := hid hn
  clear h hx hn
  go_enter Try.func72, Try.ntmps72
  go_wp2_with fail
  refine (sOk_t c Hh.out _ w.heap.size 26 A0.out).mono ?_
  rintro e w0 ⟨rfl, rfl⟩
  go_wp2_with fail
  refine (sAmount_f x Hhx.out Hhn.out _).mono ?_
  rintro e w1 ⟨rfl, hb1⟩
  have A0 := hid (A0.out.stay hb1)
  have A1 := hid (A1.out.stay hb1)
  have c1 := stp b0 (Nat.le_refl _) hb1
  go_wp2_with (first | (refine wpList_store_row rfl 26 _ _ rfl (w.heap.size + 1) (fls (fun _ => 0)) rfl rfl 26 _ A1.out (by rw [fls_size]; exact info_arr) (by simp) (fls_one (fun _ => 0)) ?_))
  have A0 := hid (A0.out.setRowOther (k := w.heap.size + 1) (by simp; try omega) (fls (fun _ => 0)))
  have A1 := hid (A1.out.setRow (fun _ => 0))
  have c1 := below_row c1 (by simp; try omega) (g := w.heap.size + 1) (fls (fun _ => 0))
  exact bodyPost_ret (results_row_tmp rfl _ _ (w.heap.size + 1) 26 (fls (fun _ => 0)) (0, 0) _ rfl A1.out Try.underlying26 rfl (by rw [fls_size]; exact info_arr)) rfl ⟨rfl, c1⟩

set_option maxRecDepth 100000 in
theorem iScaleSizes_range (c : Nat → Nat) (h : Amts c) (x : Nat) (hx : x < 4294967296) (hn : amtB x = false) (w : World) :
    Calls Try.prog 73 #[.agg (fls c), .float .f32 x] w fun e w' => e = .returned (.tuple #[.agg (fls (fun _ => 0)), .int .i64 2]) ∧ Below w.heap.size w w' := by
  have A0 := hid ((arrAt.new w c 26).alloc (.cells (fls (fun _ => 0)) 26))
  have A1 := hid (new1 w (.cells (fls c) 26) (fun _ => 0) 26)
  have b0 := boxed2 w (.cells (fls c) 26) (.cells (fls (fun _ => 0)) 26)
  have Hh := hid h
  have Hhx := hid hx
  have Hhn := hid hn
  clear h hx hn
  go_enter Try.func73, Try.ntmps73
  go_wp2_with (first | (refine wpList_load_row rfl 26 _ rfl (w.heap.size) rfl 26 (fls c) (0, 0) _ A0.out Try.underlying26 rfl (by rw [fls_size]; exact info_arr) ?_))
  refine (validSizes_t c Hh.out _).mono ?_
  rintro e w0 ⟨rfl, hb0⟩
  have A0 := hid (A0.out.stay hb0)
  have A1 := hid (A1.out.stay hb0)
  have c0 := stp b0 (Nat.le_refl _) hb0
  go_wp2_with fail
  refine (isAmount_f x Hhx.out Hhn.out _).mono ?_
  rintro e w1 ⟨rfl, hb1⟩
  have A0 := hid (A0.out.stay hb1)
  have A1 := hid (A1.out.stay hb1)
  have c1 := stp c0 (Nat.le_refl _) hb1
  go_wp2_with (first | (refine wpList_store_row rfl 26 _ _ rfl (w.heap.size + 1) (fls (fun _ => 0)) rfl rfl 26 _ A1.out (by rw [fls_size]; exact info_arr) (by simp) (fls_one (fun _ => 0)) ?_))
  have A0 := hid (A0.out.setRowOther (k := w.heap.size + 1) (by simp; try omega) (fls (fun _ => 0)))
  have A1 := hid (A1.out.setRow (fun _ => 0))
  have c1 := below_row c1 (by simp; try omega) (g := w.heap.size + 1) (fls (fun _ => 0))
  exact bodyPost_ret (results_row_tmp rfl _ _ (w.heap.size + 1) 26 (fls (fun _ => 0)) (0, 0) _ rfl A1.out Try.underlying26 rfl (by rw [fls_size]; exact info_arr)) rfl ⟨rfl, c1⟩

set_option maxRecDepth 100000 in
theorem iScaleSizes_ok (c : Nat → Nat) (h : Amts c) (x : Nat) (hx : amtB x = true) (d : Nat → Nat) (n : Int) (h1 : Fins (scl c x) → d = scl c x ∧ n = 0) (h2 : ¬ Fins (scl c x) → d = (fun _ => 0) ∧ n = 4) (w : World) :
    Calls Try.prog 73 #[.agg (fls c), .float .f32 x] w fun e w' => e = .returned (.tuple #[.agg (fls d), .int .i64 n]) ∧ Below w.heap.size w w' := by
  have A0 := hid ((arrAt.new w c 26).alloc (.cells (fls (fun _ => 0)) 26))
  have A1 := hid (new1 w (.cells (fls c) 26) (fun _ => 0) 26)
  have b0 := boxed2 w (.cells (fls c) 26) (.cells (fls (fun _ => 0)) 26)
  have Hh := hid h
  have Hhx := hid hx
  have Hh1 := hid h1
  have Hh2 := hid h2
  clear h hx h1 h2
  go_enter Try.func73, Try.ntmps73
  go_wp2_with (first | (refine wpList_load_row rfl 26 _ rfl (w.heap.size) rfl 26 (fls c) (0, 0) _ A0.out Try.underlying26 rfl (by rw [fls_size]; exact info_arr) ?_))
  refine (validSizes_t c Hh.out _).mono ?_
  rintro e w0 ⟨rfl, hb0⟩
  have A0 := hid (A0.out.stay hb0)
  have A1 := hid (A1.out.stay hb0)
  have c0 := stp b0 (Nat.le_refl _) hb0
  go_wp2_with fail
  refine (isAmount_t x Hhx.out _).mono ?_
  rintro e w1 ⟨rfl, rfl⟩
  have P0 := hid (arrAt.new w0 (fun _ => 0) 26)
  have l0 := A0.out.lt
  have l1 := A1.out.lt
  go_wp2_with fail
  go_loopw [16] (fun i wr => ∃ k : Nat, k ≤ 20 ∧ i = .int .i64 k ∧ Hid (arrAt wr (w.heap.size) c 26) ∧ Hid (arrAt wr (w.heap.size + 1) (fun _ => 0) 26) ∧ Hid (arrAt wr (w0.heap.size) (cut (scl c x) k) 26) ∧ Hid (Below w.heap.size w wr)) (fun i _ => 20 - (intOf i).toNat)
  case atStart => exact ⟨0, by omega, rfl, hid (A0.out.alloc _), hid (A1.out.alloc _), hid (P0.out.ext (fun i _ => (cut_zero' (scl c x) i).symm)), hid (c0.alloc c0.size _)⟩
  case round =>
    obtain ⟨k, hk, rfl, g0, g1, g2, hb⟩ := hrel
    by_cases hlt : k < 20
    · have q0 := g0.out.cell hlt
      have q2 := g2.out.cell hlt
      have f2 := g2.out.frozen k
      have hm := fun w => run_mul (P := Try.prog) 24 (Hh.out k hlt) Hhx.out w
      go_wp2
      go_roundw
      case rel => exact ⟨k + 1, by omega, by go_num, hid (g0.out.setOther (by simp; omega) _), hid (g1.out.setOther (by simp; omega) _), hid ((g2.out.set k (scl c x k)).ext (fun i _ => cut_succ (scl c x) k i)), hid (hb.out.setCell (by simp; omega) _)⟩
      case measure => simp [intOf]; omega
    · obtain rfl : k = 20 := by omega
      have g3 := hid (g2.out.ext (cut_all (scl c x)))
      clear g2
      go_wp2_with (refine wpList_load_row rfl 26 _ rfl (w0.heap.size) rfl 26 (fls (scl c x)) (0, 0) _ g3.out Try.underlying26 rfl (by rw [fls_size]; exact info_arr) ?_)
      refine (iFinite (scl c x) (scl_lt Hh.out Hhx.out) d n Hh1.out Hh2.out _).mono ?_
      rintro e w9 ⟨rfl, hb9⟩
      have A9 := hid (g1.out.stay hb9)
      have b9 := stp hb.out (Nat.le_refl _) hb9
      go_wp2_with (refine wpList_store_row rfl 26 _ _ rfl (w.heap.size + 1) (fls d) rfl rfl 26 _ A9.out (by rw [fls_size]; exact info_arr) (by simp) (fls_one d) ?_)
      exact bodyPost_ret (results_row_tmp rfl _ _ (w.heap.size + 1) 26 (fls d) (0, 0) _ rfl (A9.out.setRow d) Try.underlying26 rfl (by rw [fls_size]; exact info_arr)) rfl ⟨rfl, below_row b9 (by omega) _⟩

set_option maxRecDepth 100000 in
theorem sScaleSizes_ok (c : Nat → Nat) (h : Amts c) (x : Nat) (hx : amtB x = true) (d : Nat → Nat) (n : Int) (h1 : Fins (scl c x) → d = scl c x ∧ n = 0) (h2 : ¬ Fins (scl c x) → d = (fun _ => 0) ∧ n = 4) (w : World) :
    Calls Try.prog 72 #[.agg (fls c), .float .f32 x] w fun e w' => e = .returned (.tuple #[.agg (fls d), .int .i64 n]) ∧ Below w.heap.size w w' := by
  have A0 := hid ((arrAt.new w c 26).alloc (.cells (fls (fun _ => 0)) 26))
  have A1 := hid (new1 w (.cells (fls c) 26) (fun _ => 0) 26)
  have b0 := boxed2 w (.cells (fls c) 26) (.cells (fls (fun _ => 0)) 26)
  have Hh := hid h
  have Hhx := hid hx
  have Hh1 := hid h1
  have Hh2 := hid h2
  clear h hx h1 h2
  go_enter Try.func72, Try.ntmps72
  go_wp2_with fail
  refine (sOk_t c Hh.out _ w.heap.size 26 A0.out).mono ?_
  rintro e w0 ⟨rfl, rfl⟩
  go_wp2_with fail
  refine (sAmount_t x Hhx.out _).mono ?_
  rintro e w1 ⟨rfl, rfl⟩
  go_wp2_with fail
  go_loopw [6] (fun i wr => ∃ k : Nat, k ≤ 20 ∧ i = .int .i64 k ∧ Hid (arrAt wr (w.heap.size) (prt (scl c x) c k) 26) ∧ Hid (arrAt wr (w.heap.size + 1) (fun _ => 0) 26) ∧ Hid (Below w.heap.size w wr)) (fun i _ => 20 - (intOf i).toNat)
  case atStart => exact ⟨0, by omega, rfl, hid (A0.out.ext (fun i _ => (part_zero (scl c x) c i).symm)), A1, hid b0⟩
  case round =>
    obtain ⟨k, hk, rfl, g0, g1, hb⟩ := hrel
    by_cases hlt : k < 20
    · have q0 := g0.out.cell hlt
      rw [part_here] at q0
      have f2 := g0.out.frozen k
      have hm := fun w => run_mul (P := Try.prog) 24 (Hh.out k hlt) Hhx.out w
      go_wp2
      go_roundw
      case rel => exact ⟨k + 1, by omega, by go_num, hid ((g0.out.set k (scl c x k)).ext (fun i _ => part_succ (scl c x) c k i)), hid (g1.out.setOther (by simp) _), hid (hb.out.setCell (by simp) _)⟩
      case measure => simp [intOf]; omega
    · obtain rfl : k = 20 := by omega
      have g3 := hid (g0.out.ext (part_all (scl c x) c))
      clear g0
      go_wp2_with (refine wpList_load_row rfl 26 _ rfl (w.heap.size) rfl 26 (fls (scl c x)) (0, 0) _ g3.out Try.underlying26 rfl (by rw [fls_size]; exact info_arr) ?_)
      refine (sMade (scl c x) (scl_lt Hh.out Hhx.out) d n Hh1.out Hh2.out _).mono ?_
      rintro e w9 ⟨rfl, hb9⟩
      have A9 := hid (g1.out.stay hb9)
      have b9 := stp hb.out (Nat.le_refl _) hb9
      go_wp2_with (refine wpList_store_row rfl 26 _ _ rfl (w.heap.size + 1) (fls d) rfl rfl 26 _ A9.out (by rw [fls_size]; exact info_arr) (by simp) (fls_one d) ?_)
      exact bodyPost_ret (results_row_tmp rfl _ _ (w.heap.size + 1) 26 (fls d) (0, 0) _ rfl (A9.out.setRow d) Try.underlying26 rfl (by rw [fls_size]; exact info_arr)) rfl ⟨rfl, below_row b9 (by omega) _⟩

theorem zf : Fins (fun _ => 0) := fun _ _ => (by decide : finB 0 = true)
theorem zl : ∀ i, i < 20 → (fun _ : Nat => 0) i < 4294967296 := fun _ _ => (by decide : 0 < 4294967296)

theorem lawScaleSizes (c : Nat → Nat) (hb : ∀ i, i < 20 → c i < 4294967296) (x : Nat) (hx : x < 4294967296) (w : World) :
    Calls Try.prog 21 #[.agg (fls c), .float .f32 x] w fun e w' => e = .returned (.bool true) ∧ Below w.heap.size w w' := by
  by_cases h : Amts c
  · rcases ha : amtB x with _ | _
    · exact coreScaleSizes c x (fun _ => 0) zl zf 2 (sScaleSizes_range c h x hx ha) (iScaleSizes_range c h x hx ha) w
    · obtain ⟨d, n, h1, h2, hd, hl⟩ := made_lit (scl c x) (scl_lt h ha)
      exact coreScaleSizes c x d hl hd n (sScaleSizes_ok c h x ha d n h1 h2) (iScaleSizes_ok c h x ha d n h1 h2) w
  · exact coreScaleSizes c x (fun _ => 0) zl zf 1 (sScaleSizes_bad c hb h x) (iScaleSizes_bad c hb h x) w

end Go.Proofs.Ytbniidfojllflaa
