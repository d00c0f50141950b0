import Derived.Test.YtbniidfojllflaaT15
namespace Go.Proofs.Ytbniidfojllflaa
open Go.RowKit Go.Fl

def Fins (c : Nat → Nat) : Prop := ∀ i, i < 20 → finB (c i) = true

set_option maxRecDepth 100000 in
theorem iFinite_t (c : Nat → Nat) (hb : ∀ i, i < 20 → c i < 4294967296) (h : Fins c) (w : World) :
    Calls Try.prog 83 #[.agg (fls c)] w fun e w' => e = .returned (.tuple #[.agg (fls c), .int .i64 0]) ∧ Below w.heap.size w w' := by
  have A0 := hid ((arrAt.new w c 26).alloc (.cells (fls fun _ => 0) 26))
  have A1 := hid (new1 w (.cells (fls c) 26) (fun _ => 0) 26)
  have b0 := boxed2 w (.cells (fls c) 26) (.cells (fls fun _ => 0) 26)
  have HB := hid hb
  have H := hid h
  clear h hb
  go_enter Try.func83, Try.ntmps83
  go_wp2_with (refine wpList_load_row rfl 26 _ rfl (w.heap.size) rfl 26 (fls c) (0, 0) _ A0.out Try.underlying26 rfl (by rw [fls_size]; exact info_arr) ?_)
  go_loop [7] (fun i => ∃ k : Nat, k ≤ 20 ∧ i = .int .i64 k) (fun i => 20 - (intOf i).toNat)
  case atStart => exact ⟨0, by omega, rfl⟩
  case round =>
    obtain ⟨k, hk, rfl⟩ := hrel
    by_cases hlt : k < 20
    · have hix := ix 26 Try.underlying26 c k hlt
      go_wp2_with (go_at_call 91; refine (isFinite_t (c k) (HB.out k hlt) (H.out k hlt) _).mono ?_; rintro e w' ⟨rfl, rfl⟩)
      go_round
      case rel => exact ⟨k + 1, by omega, by go_num⟩
      case measure => simp [intOf]; omega
    · go_wp2_with (first | (refine wpList_load_row rfl 26 _ rfl (w.heap.size) rfl 26 (fls c) (0, 0) _ A0.out Try.underlying26 rfl (by rw [fls_size]; exact info_arr) ?_) | (refine wpList_store_row rfl 26 _ _ rfl (w.heap.size + 1) (fls c) rfl rfl 26 _ A1.out (by rw [fls_size]; exact info_arr) (by simp) (fls_one c) ?_))
      exact bodyPost_ret (results_row_tmp rfl _ _ (w.heap.size + 1) 26 (fls c) (0, 0) _ rfl (A1.out.setRow c) Try.underlying26 rfl (by rw [fls_size]; exact info_arr)) rfl ⟨rfl, below_row b0 (by simp) _⟩

set_option maxRecDepth 100000 in
theorem iFinite_f (c : Nat → Nat) (hb : ∀ i, i < 20 → c i < 4294967296) (h : ¬ Fins c) (w : World) :
    Calls Try.prog 83 #[.agg (fls c)] w fun e w' => e = .returned (.tuple #[.agg (fls fun _ => 0), .int .i64 4]) ∧ Below w.heap.size w w' := by
  have A0 := hid ((arrAt.new w c 26).alloc (.cells (fls fun _ => 0) 26))
  have A1 := hid (new1 w (.cells (fls c) 26) (fun _ => 0) 26)
  have b0 := boxed2 w (.cells (fls c) 26) (.cells (fls fun _ => 0) 26)
  have HB := hid hb
  have H := hid h
  clear h hb
  go_enter Try.func83, Try.ntmps83
  go_wp2_with (refine wpList_load_row rfl 26 _ rfl (w.heap.size) rfl 26 (fls c) (0, 0) _ A0.out Try.underlying26 rfl (by rw [fls_size]; exact info_arr) ?_)
  go_loop [7] (fun i => ∃ k : Nat, k ≤ 20 ∧ Hid (∀ i, i < k → finB (c i) = true) ∧ i = .int .i64 k) (fun i => 20 - (intOf i).toNat)
  case atStart => exact ⟨0, by omega, hid (fun i hi => by omega), rfl⟩
  case round =>
    obtain ⟨k, hk, HK, rfl⟩ := hrel
    by_cases hlt : k < 20
    · have hix := ix 26 Try.underlying26 c k hlt
      rcases hac : finB (c k) with _ | _
      · have HA := hid hac
        clear hac
        go_wp2_with (fail)
        refine (isFinite_f (c k) (HB.out k hlt) HA.out _).mono ?_
        rintro e w1 ⟨rfl, hb1⟩
        have A2 := hid (A1.out.stay hb1)
        have b1 := stp b0 (Nat.le_refl _) hb1
        go_wp2_with (refine wpList_store_row rfl 26 _ _ rfl (w.heap.size + 1) (fls (fun _ => 0)) rfl rfl 26 _ A2.out (by rw [fls_size]; exact info_arr) (by simp) (fls_one (fun _ => 0)) ?_)
        exact bodyPost_ret (results_row_tmp rfl _ _ (w.heap.size + 1) 26 (fls (fun _ => 0)) (0, 0) _ rfl (A2.out.setRow (fun _ => 0)) Try.underlying26 rfl (by rw [fls_size]; exact info_arr)) rfl ⟨rfl, below_row b1 (by simp) _⟩
      · have HA := hid hac
        clear hac
        go_wp2_with (go_at_call 91; refine (isFinite_t (c k) (HB.out k hlt) HA.out _).mono ?_; rintro e w' ⟨rfl, rfl⟩)
        go_round
        case rel =>
          refine ⟨k + 1, by omega, hid (fun i hi => ?_), by go_num⟩
          by_cases e : i = k
          · subst e; exact HA.out
          · exact HK.out i (by omega)
        case measure => simp [intOf]; omega
    · have hk20 : k = 20 := by omega
      exact (H.out (fun i hi => HK.out i (by omega))).elim

set_option maxRecDepth 100000 in
theorem sMade_t (c : Nat → Nat) (hb : ∀ i, i < 20 → c i < 4294967296) (h : Fins c) (w : World) :
    Calls Try.prog 112 #[.agg (fls c)] w fun e w' => e = .returned (.tuple #[.agg (fls c), .int .i64 0]) ∧ Below w.heap.size w w' := by
  have A0 := hid ((arrAt.new w c 26).alloc (.cells (fls fun _ => 0) 26))
  have A1 := hid (new1 w (.cells (fls c) 26) (fun _ => 0) 26)
  have b0 := boxed2 w (.cells (fls c) 26) (.cells (fls fun _ => 0) 26)
  have HB := hid hb
  have H := hid h
  clear h hb
  go_enter Try.func112, Try.ntmps112
  go_wp2
  go_loop [4] (fun i => ∃ k : Nat, k ≤ 20 ∧ i = .int .i64 k) (fun i => 20 - (intOf i).toNat)
  case atStart => exact ⟨0, by omega, rfl⟩
  case round =>
    obtain ⟨k, hk, rfl⟩ := hrel
    by_cases hlt : k < 20
    · have hix := A0.out.cell hlt
      go_wp2_with (go_at_call 95; refine (sFinite_t (c k) (HB.out k hlt) (H.out k hlt) _).mono ?_; rintro e w' ⟨rfl, rfl⟩)
      go_round
      case rel => exact ⟨k + 1, by omega, by go_num⟩
      case measure => simp [intOf]; omega
    · go_wp2_with (first | (refine wpList_load_row rfl 26 _ rfl (w.heap.size) rfl 26 (fls c) (0, 0) _ A0.out Try.underlying26 rfl (by rw [fls_size]; exact info_arr) ?_) | (refine wpList_store_row rfl 26 _ _ rfl (w.heap.size + 1) (fls c) rfl rfl 26 _ A1.out (by rw [fls_size]; exact info_arr) (by simp) (fls_one c) ?_))
      exact bodyPost_ret (results_row_tmp rfl _ _ (w.heap.size + 1) 26 (fls c) (0, 0) _ rfl (A1.out.setRow c) Try.underlying26 rfl (by rw [fls_size]; exact info_arr)) rfl ⟨rfl, below_row b0 (by simp) _⟩

set_option maxRecDepth 100000 in
theorem sMade_f (c : Nat → Nat) (hb : ∀ i, i < 20 → c i < 4294967296) (h : ¬ Fins c) (w : World) :
    Calls Try.prog 112 #[.agg (fls c)] w fun e w' => e = .returned (.tuple #[.agg (fls fun _ => 0), .int .i64 4]) ∧ Below w.heap.size w w' := by
  have A0 := hid ((arrAt.new w c 26).alloc (.cells (fls fun _ => 0) 26))
  have A1 := hid (new1 w (.cells (fls c) 26) (fun _ => 0) 26)
  have b0 := boxed2 w (.cells (fls c) 26) (.cells (fls fun _ => 0) 26)
  have HB := hid hb
  have H := hid h
  clear h hb
  go_enter Try.func112, Try.ntmps112
  go_wp2
  go_loop [4] (fun i => ∃ k : Nat, k ≤ 20 ∧ Hid (∀ i, i < k → finB (c i) = true) ∧ i = .int .i64 k) (fun i => 20 - (intOf i).toNat)
  case atStart => exact ⟨0, by omega, hid (fun i hi => by omega), rfl⟩
  case round =>
    obtain ⟨k, hk, HK, rfl⟩ := hrel
    by_cases hlt : k < 20
    · have hix := A0.out.cell hlt
      rcases hac : finB (c k) with _ | _
      · have HA := hid hac
        clear hac
        go_wp2_with (fail)
        refine (sFinite_f (c k) (HB.out k hlt) HA.out _).mono ?_
        rintro e w1 ⟨rfl, hb1⟩
        have A2 := hid (A1.out.stay hb1)
        have b1 := stp b0 (Nat.le_refl _) hb1
        go_wp2_with (refine wpList_store_row rfl 26 _ _ rfl (w.heap.size + 1) (fls (fun _ => 0)) rfl rfl 26 _ A2.out (by rw [fls_size]; exact info_arr) (by simp) (fls_one (fun _ => 0)) ?_)
        exact bodyPost_ret (results_row_tmp rfl _ _ (w.heap.size + 1) 26 (fls (fun _ => 0)) (0, 0) _ rfl (A2.out.setRow (fun _ => 0)) Try.underlying26 rfl (by rw [fls_size]; exact info_arr)) rfl ⟨rfl, below_row b1 (by simp) _⟩
      · have HA := hid hac
        clear hac
        go_wp2_with (go_at_call 95; refine (sFinite_t (c k) (HB.out k hlt) HA.out _).mono ?_; rintro e w' ⟨rfl, rfl⟩)
        go_round
        case rel =>
          refine ⟨k + 1, by omega, hid (fun i hi => ?_), by go_num⟩
          by_cases e : i = k
          · subst e; exact HA.out
          · exact HK.out i (by omega)
        case measure => simp [intOf]; omega
    · have hk20 : k = 20 := by omega
      exact (H.out (fun i hi => HK.out i (by omega))).elim


theorem made_lit (c : Nat → Nat) (hb : ∀ i, i < 20 → c i < 4294967296) : ∃ (d : Nat → Nat) (n : Int), (Fins c → d = c ∧ n = 0) ∧ (¬ Fins c → d = (fun _ => 0) ∧ n = 4) ∧ Fins d ∧ (∀ i, i < 20 → d i < 4294967296) := by
  by_cases h : Fins c
  · exact ⟨c, 0, fun _ => ⟨rfl, rfl⟩, fun k => (k h).elim, h, hb⟩
  · exact ⟨fun _ => 0, 4, fun k => (h k).elim, fun _ => ⟨rfl, rfl⟩, fun _ _ => (by decide : finB 0 = true), fun _ _ => (by decide : 0 < 4294967296)⟩

/-- Sizes that would be returned, by either program, are told alike. -/
theorem iFinite (c : Nat → Nat) (hb : ∀ i, i < 20 → c i < 4294967296) (d : Nat → Nat) (n : Int) (h1 : Fins c → d = c ∧ n = 0) (h2 : ¬ Fins c → d = (fun _ => 0) ∧ n = 4) (w : World) :
    Calls Try.prog 83 #[.agg (fls c)] w fun e w' => e = .returned (.tuple #[.agg (fls d), .int .i64 n]) ∧ Below w.heap.size w w' := by
  by_cases h : Fins c
  · obtain ⟨rfl, rfl⟩ := h1 h; exact iFinite_t _ hb h w
  · obtain ⟨rfl, rfl⟩ := h2 h; exact iFinite_f _ hb h w
theorem sMade (c : Nat → Nat) (hb : ∀ i, i < 20 → c i < 4294967296) (d : Nat → Nat) (n : Int) (h1 : Fins c → d = c ∧ n = 0) (h2 : ¬ Fins c → d = (fun _ => 0) ∧ n = 4) (w : World) :
    Calls Try.prog 112 #[.agg (fls c)] w fun e w' => e = .returned (.tuple #[.agg (fls d), .int .i64 n]) ∧ Below w.heap.size w w' := by
  by_cases h : Fins c
  · obtain ⟨rfl, rfl⟩ := h1 h; exact sMade_t _ hb h w
  · obtain ⟨rfl, rfl⟩ := h2 h; exact sMade_f _ hb h w

end Go.Proofs.Ytbniidfojllflaa
