import Derived.Test.YtbniidfojllflaaT25
namespace Go.Proofs.Ytbniidfojllflaa
open Go.RowKit Go.Fl

set_option maxRecDepth 100000 in
theorem iSpectrum_ok (x : Nat) (hx : amtB x = true) (y : Nat) (hy : amtB y = true) (h1 : ONE ≤ y) (d : Nat → Nat) (n : Int) (g1 : Fins (spq x (forF y)) → d = spq x (forF y) ∧ n = 0) (g2 : ¬ Fins (spq x (forF y)) → d = (fun _ => 0) ∧ n = 4) (w : World) :
    Calls Try.prog 40 #[.float .f32 x, .float .f32 y] w fun e w' => e = .returned (.tuple #[.agg (fls d), .int .i64 n]) ∧ Below w.heap.size w w' := by
  have hC := fun w => iClassFor_ok y hy h1 w
  have hm := forF_lt y
  generalize forF y = m at *
  have HC := hid hC
  have Hx := hid hx
  have G1 := hid g1
  have G2 := hid g2
  have Hw := hid (show ∀ i, i < 20 → nnB (wg m i) = true from fun i hi => amt_nn (wg_amt hm hi))
  clear hC hx hy h1 g1 g2
  have A0 := hid (arrAt.new w (fun _ => 0) 26)
  have b0 := boxed w (.cells (fls (fun _ => 0)) 26)
  go_enter Try.func40, Try.ntmps40
  go_wp2_with fail
  refine (HC.out _).mono ?_
  rintro e w0 ⟨rfl, rfl⟩
  go_wp2_with fail
  refine (isAmount_t x Hx.out _).mono ?_
  rintro e w1 ⟨rfl, rfl⟩
  go_wp2_with fail
  refine (iWeights m hm _).mono ?_
  rintro e w2 ⟨rfl, hb2⟩
  have A0 := hid (A0.out.stay hb2)
  have c2 := stp b0 (Nat.le_refl _) hb2
  have N0 := hid (arrAt.new w2 (fun _ => 0) 25)
  have P0 := hid (N0.out.setRow (wg m))
  have lx := A0.out.lt
  have B0 := hid ((A0.out.alloc (.cells (fls fun _ => 0) 25)).setRowOther (k := w2.heap.size) (Nat.ne_of_lt lx) (fls (wg m)))
  have bX : Below w.heap.size w ((w2.alloc (.cells (fls fun _ => 0) 25)).setRow w2.heap.size (fls (wg m))) := below_row (c2.alloc c2.size _) c2.size _
  have tok1 : True := trivial
  clear lx
  go_wp2_with (first | (have _t := P9; (refine wpList_load_row rfl 25 _ rfl (w2.heap.size) rfl 25 (fls (wg m)) (0, 0) _ P9.out Try.underlying25 rfl (by rw [fls_size]; exact info_a20) ?_)) | (have _t := tok1; refine store_abs rfl 25 _ _ rfl w2.heap.size (wg m) rfl rfl 25 _ N0.out info_a20 ?_; intro w9 hw9; rw [← hw9] at P0 B0 bX; clear hw9; clear N0; have P9 := P0; clear b0 tok1))
  refine (iSum (wg m) Hw.out _).mono ?_
  rintro e w10 ⟨rfl, hb10⟩
  have P10 := hid (P9.out.stay hb10)
  have A10 := hid (B0.out.stay hb10)
  have b10 := stp bX (Nat.le_refl _) hb10
  have P11 := hid (P10.out.alloc (.cells (fls fun _ => 0) 26))
  have lx := A10.out.lt
  have N1 := hid (arrAt.new w10 (fun _ => 0) 26)
  go_wp2_with (first | (refine wpList_load_row rfl 25 _ rfl (w2.heap.size) rfl 25 (fls (wg m)) (0, 0) _ P11.out Try.underlying25 rfl (by rw [fls_size]; exact info_a20) ?_))
  go_loopw [31] (fun i wr => ∃ k : Nat, k ≤ 20 ∧ i = .int .i64 k ∧ Hid (arrAt wr (w.heap.size) (fun _ => 0) 26) ∧ Hid (arrAt wr (w10.heap.size) (cut (spq x m) k) 26) ∧ Hid (Below w.heap.size w wr)) (fun i _ => 20 - (intOf i).toNat)
  case atStart => exact ⟨0, by omega, rfl, hid (A10.out.alloc _), hid (N1.out.ext (fun i _ => (cut_zero' (spq x m) i).symm)), hid (b10.alloc b10.size _)⟩
  case round =>
    obtain ⟨k, hk, rfl, g0, g3, hb⟩ := hrel
    by_cases hlt : k < 20
    · have hix := ix 25 Try.underlying25 (wg m) k hlt
      have q3 := g3.out.cell hlt
      have f3 := g3.out.frozen k
      have r1 := fun w => run_mul (P := Try.prog) 24 Hx.out (wg_amt hm hlt) w
      have r2 := fun w => run_div (P := Try.prog) 24 (mul_eq Hx.out (wg_amt hm hlt)).2 (wsum hm).1 (wsum hm).2 w
      go_wp2
      go_roundw
      case rel => exact ⟨k + 1, by omega, by go_num, hid (g0.out.setOther (Nat.ne_of_lt lx) _), hid ((g3.out.set k (spq x m k)).ext (fun i _ => cut_succ (spq x m) k i)), hid (hb.out.setCell b10.size _)⟩
      case measure => simp [intOf]; omega
    · obtain rfl : k = 20 := by omega
      have g4 := hid (g3.out.ext (cut_all (spq x m)))
      clear g3
      go_wp2_with (refine wpList_load_row rfl 26 _ rfl (w10.heap.size) rfl 26 (fls (spq x m)) (0, 0) _ g4.out Try.underlying26 rfl (by rw [fls_size]; exact info_arr) ?_)
      refine (iFinite (spq x m) (fun i hi => nn_lt (spq_nn Hx.out hm hi)) d n G1.out G2.out _).mono ?_
      rintro e w12 ⟨rfl, hb12⟩
      have A12 := hid (g0.out.stay hb12)
      have b12 := stp hb.out (Nat.le_refl _) hb12
      go_wp2_with (refine wpList_store_row rfl 26 _ _ rfl (w.heap.size) (fls d) rfl rfl 26 _ A12.out (by rw [fls_size]; exact info_arr) (by simp) (fls_one d) ?_)
      exact bodyPost_ret (results_row_tmp rfl _ _ (w.heap.size) 26 (fls d) (0, 0) _ rfl (A12.out.setRow d) Try.underlying26 rfl (by rw [fls_size]; exact info_arr)) rfl ⟨rfl, below_row b12 (Nat.le_refl _) _⟩

end Go.Proofs.Ytbniidfojllflaa
