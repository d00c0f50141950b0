import Derived.Test.YtgocemjopmgnaaaBMixSizes
import Derived.Test.YtgocemjopmgnaaaChecked
import Derived.Test.YtgocemjopmgnaaaRows
import Derived.Laws.FloatArith
import Derived.ProofKit
import Derived.WalkKit
import Derived.WalkLawsBesides
import Derived.WalkSpells
import Derived.Deep.QuietTactic
import Derived.BigQuiet
import Derived.Deep.RegionHeld3
import Derived.ChangeKeysEq
import Derived.OpenShut
/- The law FnExactMixSizes of chapter 1: at every argument the call returns true, and what was there before it is as it was. -/
namespace Go.Proofs.Ytgocemjopmgnaaa
open Go.RowKit Go.Fl

@[go_sem] theorem ext_f64bits (y : Nat) (w : World) : (callFunc 169 #[.float .f64 y]).run Try.prog w = .ok (.value (.int .u64 y)) w := by
  rw [run_callFunc_extern Try.func169 (by kernel_rfl) (by kernel_rfl) (by kernel_rfl) (e := Extern.MathFloatBits.float64bits) (by kernel_rfl)]
  rfl

@[go_sem] theorem ext_f64from (n : Int) (w : World) : (callFunc 177 #[.int .u64 n]).run Try.prog w = .ok (.value (.float .f64 n.toNat)) w := by
  rw [run_callFunc_extern Try.func177 (by kernel_rfl) (by kernel_rfl) (by kernel_rfl) (e := Extern.MathFloatBits.float64frombits) (by kernel_rfl)]
  rfl

theorem hid {p : Prop} (h : p) : Hid p := h

theorem clear_sign (y : Nat) (h : y < 18446744073709551616) : (bits BinOp.andNot IntKind.u64 (y : Int) 9223372036854775808).toNat = y % 9223372036854775808 := by
  rw [u64_andNot _ _ (by omega) (by omega) (by omega) (by omega)]
  rw [Int.toNat_natCast, Int.toNat_natCast]
  exact Nat.and_two_pow_sub_one_eq_mod y 63

theorem abs_f64 (y : Nat) (h : y < 18446744073709551616) (w : World) :
    Calls Try.prog 170 #[.float .f64 y] w fun e w' => e = .returned (.float .f64 (y % 9223372036854775808)) ∧ w = w' := by
  have hc := hid (clear_sign y h)
  clear h
  go_enter Try.func170, Try.ntmps170
  go_wp2
  go_ret
  exact ⟨by simp [hc.out], rfl⟩

theorem isNaN_f64 (y : Nat) (w : World) :
    Calls Try.prog 155 #[.float .f64 y] w fun e w' => e = .returned (.bool (FloatKind.f64.format.order y y != some .eq)) ∧ w = w' := by
  go_enter Try.func155, Try.ntmps155
  go_wp2
  go_ret
  exact ⟨rfl, rfl⟩

theorem isInf_f64 (y : Nat) (h : y < 18446744073709551616) (w : World) :
    Calls Try.prog 156 #[.float .f64 y, .int .i64 0] w fun e w' => e = .returned (.bool (FloatKind.f64.format.order (y % 9223372036854775808) 9218868437227405311 == some .gt)) ∧ w = w' := by
  have hc := hid h
  clear h
  go_enter Try.func156, Try.ntmps156
  go_wp2_with (go_at_call 170; refine (abs_f64 y hc.out _).mono ?_; rintro e w' ⟨rfl, rfl⟩)
  go_ret
  exact ⟨rfl, rfl⟩

theorem isFinite_t (x : Nat) (hx : x < 4294967296) (h : finB x = true) (w : World) :
    Calls Try.prog 106 #[.float .f32 x] w fun e w' => e = .returned (.bool true) ∧ w = w' := by
  rw [finB_iff] at h
  have hc := fun w => run_conv_wid (P := Try.prog) w 24 62 x hx Try.underlying24 Try.underlying62 h
  obtain ⟨a, b, m, e, hr⟩ := read_wid_fin hx h
  have hn : (FloatKind.f64.format.order (wid x) (wid x) != some .eq) = false := by
    show (D.order (wid x) (wid x) != some .eq) = false
    rw [order_self hr]; rfl
  have hi : (FloatKind.f64.format.order (wid x % 9223372036854775808) 9218868437227405311 == some .gt) = false := by
    show (D.order (wid x % 9223372036854775808) 9218868437227405311 == some .gt) = false
    rw [b, order_ltD a (by decide)]
    rw [DINF_val] at a
    have hle : wid (mg x) ≤ 9218868437227405311 := by omega
    rcases Nat.lt_or_eq_of_le hle with h' | h'
    · rw [Nat.compare_eq_lt.2 h']; rfl
    · rw [Nat.compare_eq_eq.2 h']; rfl
  have hw : wid x < 18446744073709551616 := D.write_lt _
  have Hn := hid hn
  have Hi := hid hi
  have Hw := hid hw
  clear hn hi hw hr a b h hx
  go_enter Try.func106, Try.ntmps106
  go_wp2_with (first | (go_at_call 155; refine (isNaN_f64 (wid x) _).mono ?_; rintro e w' ⟨rfl, rfl⟩; rw [Hn.out]) | (go_at_call 156; refine (isInf_f64 (wid x) Hw.out _).mono ?_; rintro e w' ⟨rfl, rfl⟩; rw [Hi.out]))
  go_ret
  exact ⟨rfl, rfl⟩

theorem isFinite_f (x : Nat) (hx : x < 4294967296) (h : finB x = false) (w : World) :
    Calls Try.prog 106 #[.float .f32 x] w fun e w' => e = .returned (.bool false) ∧ Below w.heap.size w w' := by
  rw [finB_iff'] at h
  rcases Nat.lt_or_eq_of_le h with h | h
  · obtain ⟨z, hc, h1, _⟩ := run_conv_nan (P := Try.prog) w 24 62 x Try.underlying24 Try.underlying62 h
    obtain ⟨s, t, hr⟩ := read_nanD h1
    have Hn := hid (show (FloatKind.f64.format.order z z != some .eq) = true by
      show (D.order z z != some .eq) = true
      rw [order_nan hr]; rfl)
    clear h h1 hr hx
    go_enter Try.func106, Try.ntmps106
    go_wp2_with (go_at_call 155; refine (isNaN_f64 z _).mono ?_; rintro e w' ⟨rfl, rfl⟩; rw [Hn.out])
    go_ret
    exact ⟨rfl, (Below.refl _ _).drew⟩
  · obtain ⟨z, hc, h1, h2⟩ := run_conv_inf (P := Try.prog) w 24 62 x hx Try.underlying24 Try.underlying62 h.symm
    have hr : D.read z = .infinity (decide (9223372036854775808 ≤ z)) := by rw [read_signD h2, h1, read_DINF]
    have Hn := hid (show (FloatKind.f64.format.order z z != some .eq) = false by
      show (D.order z z != some .eq) = false
      rw [order_inf hr]; rfl)
    have Hi := hid (show (FloatKind.f64.format.order (z % 9223372036854775808) 9218868437227405311 == some .gt) = true by
      rw [h1]; decide)
    have H2 := hid h2
    clear h h1 hr hx h2
    go_enter Try.func106, Try.ntmps106
    go_wp2_with (first | (go_at_call 155; refine (isNaN_f64 z _).mono ?_; rintro e w' ⟨rfl, rfl⟩; rw [Hn.out]) | (go_at_call 156; refine (isInf_f64 z H2.out _).mono ?_; rintro e w' ⟨rfl, rfl⟩; rw [Hi.out]))
    go_ret
    exact ⟨rfl, Below.refl _ _⟩

theorem signbit_f64 (y : Nat) (w : World) :
    Calls Try.prog 154 #[.float .f64 y] w fun e w' => e = .returned (.bool (decide (wrap64 (y : Int) < 0))) ∧ w = w' := by
  go_enter Try.func154, Try.ntmps154
  go_wp2
  go_ret
  exact ⟨rfl, rfl⟩

theorem and_sign (y : Nat) (h : y < 18446744073709551616) : (decide (wrap64 (y : Int) < 0)) = decide (9223372036854775808 ≤ y) := by
  unfold wrap64
  by_cases h' : 9223372036854775808 ≤ y
  · rw [decide_eq_true h']; simp; omega
  · rw [decide_eq_false h']; simp; omega

theorem isAmount_t (x : Nat) (h : amtB x = true) (w : World) :
    Calls Try.prog 104 #[.float .f32 x] w fun e w' => e = .returned (.bool true) ∧ w = w' := by
  have hf := amt_fin h
  rw [amtB_iff, INF_val] at h
  have hx : x < 4294967296 := by omega
  have hc := fun w => run_conv_wid (P := Try.prog) w 24 62 x hx Try.underlying24 Try.underlying62 (finB_iff.1 hf)
  have hw : wid x < 18446744073709551616 := D.write_lt _
  have Hs := hid (show (decide (wrap64 (wid x : Int) < 0)) = false by
    rw [and_sign _ hw]
    have := (wid_val (x := x) (by rw [INF_val]; omega)).1
    rw [DINF_val] at this
    simp; omega)
  have Hx := hid hx
  have Hf := hid hf
  clear h hf hx hw
  go_enter Try.func104, Try.ntmps104
  go_wp2_with (first | (go_at_call 106; refine (isFinite_t x Hx.out Hf.out _).mono ?_; rintro e w' ⟨rfl, rfl⟩) | (go_at_call 154; refine (signbit_f64 (wid x) _).mono ?_; rintro e w' ⟨rfl, rfl⟩; rw [Hs.out]))
  go_ret
  exact ⟨rfl, rfl⟩

theorem isAmount_f (x : Nat) (hx : x < 4294967296) (h : amtB x = false) (w : World) :
    Calls Try.prog 104 #[.float .f32 x] w fun e w' => e = .returned (.bool false) ∧ Below w.heap.size w w' := by
  rcases hf : finB x with _ | _
  · have Hx := hid hx
    have Hf := hid hf
    clear h hf hx
    go_enter Try.func104, Try.ntmps104
    go_wp2_with (go_at_call 106; refine (isFinite_f x Hx.out Hf.out _).mono ?_; rintro e w' ⟨rfl, hb⟩)
    go_ret
    exact ⟨rfl, hb⟩
  · have hc := fun w => run_conv_wid (P := Try.prog) w 24 62 x hx Try.underlying24 Try.underlying62 (finB_iff.1 hf)
    have hw : wid x < 18446744073709551616 := D.write_lt _
    have Hs := hid (show (decide (wrap64 (wid x : Int) < 0)) = true by
      rw [and_sign _ hw, wid_fin hx (finB_iff.1 hf)]
      rw [amtB_iff', INF_val] at h
      rw [finB_iff, INF_val] at hf
      unfold mg at hf ⊢
      rw [if_pos (by omega)]
      simp)
    have Hx := hid hx
    have Hf := hid hf
    clear h hf hx hw
    go_enter Try.func104, Try.ntmps104
    go_wp2_with (first | (go_at_call 106; refine (isFinite_t x Hx.out Hf.out _).mono ?_; rintro e w' ⟨rfl, rfl⟩) | (go_at_call 154; refine (signbit_f64 (wid x) _).mono ?_; rintro e w' ⟨rfl, rfl⟩; rw [Hs.out]))
    go_ret
    exact ⟨rfl, Below.refl _ _⟩

theorem info_f32 : ∃ i, Try.prog.info? 24 = some i ∧ i.size = 1 := by
  have h : (Try.prog.info? 24).map (·.size) = some 1 := by kernel_rfl
  cases hi : Try.prog.info? 24 with
  | none => rw [hi] at h; cases h
  | some i => rw [hi] at h; exact ⟨i, rfl, Option.some.inj h⟩

theorem ix (T : TypeId) (hT : Try.prog.underlying T = some (.array 20 24)) (c : Nat → Nat) (k : Nat) (hk : k < 20) (w : World) :
    (Instr.index T (.agg (fls c)) (.int .i64 (k : Int))).run Try.prog w = .ok (.float .f32 (c k)) w := by
  obtain ⟨i, h1, h2⟩ := info_f32
  exact run_index_arr hT Try.underlying24 rfl h1 h2 _ _ hk _ (fls_get c hk) w

theorem info_arr : (Try.prog.info? 26).map (·.size) = some 20 := by kernel_rfl

set_option maxRecDepth 100000 in
theorem validSizes_t (c : Nat → Nat) (h : ∀ i, i < 20 → amtB (c i) = true) (w : World) :
    Calls Try.prog 53 #[.agg (fls c)] w fun e w' => e = .returned (.bool true) ∧ Below w.heap.size w w' := by
  have H := hid h
  clear h
  go_enter Try.func53, Try.ntmps53
  go_wp2_with (refine wpList_load_row rfl 26 _ rfl w.heap.size rfl 26 (fls c) (0, 0) _ (heap_alloc_new _ _) Try.underlying26 rfl (by rw [fls_size]; exact info_arr) ?_)
  go_loop [6] (fun i => ∃ k : Nat, k ≤ 20 ∧ i = .int .i64 k) (fun i => 20 - (intOf i).toNat)
  case atStart => exact ⟨0, by omega, rfl⟩
  case round =>
    obtain ⟨k, hk, rfl⟩ := hrel
    by_cases hlt : k < 20
    · have hix := ix 26 Try.underlying26 c k hlt
      go_wp2_with (go_at_call 104; refine (isAmount_t (c k) (H.out k hlt) _).mono ?_; rintro e w' ⟨rfl, rfl⟩)
      go_round
      case rel => exact ⟨k + 1, by omega, by go_num⟩
      case measure => simp [intOf]; omega
    · go_wp2
      go_ret
      exact ⟨rfl, (Below.refl _ _).alloc (Nat.le_refl _) _⟩

@[go_sem] theorem ext_f32bits (y : Nat) (w : World) : (callFunc 159 #[.float .f32 y]).run Try.prog w = .ok (.value (.int .u32 y)) w := by
  rw [run_callFunc_extern Try.func159 (by kernel_rfl) (by kernel_rfl) (by kernel_rfl) (e := Extern.MathFloatBits.float32bits) (by kernel_rfl)]
  rfl

theorem sFinite_t (x : Nat) (hx : x < 4294967296) (h : finB x = true) (w : World) :
    Calls Try.prog 110 #[.float .f32 x] w fun e w' => e = .returned (.bool true) ∧ w = w' := by
  have hr := fun w => run_float_arith (P := Try.prog) w .sub 24 .f32 x x 0 (sub_self_fin hx h)
  clear h hx
  go_enter Try.func110, Try.ntmps110
  go_wp2
  go_ret
  exact ⟨rfl, rfl⟩

theorem sFinite_f (x : Nat) (hx : x < 4294967296) (h : finB x = false) (w : World) :
    Calls Try.prog 110 #[.float .f32 x] w fun e w' => e = .returned (.bool false) ∧ Below w.heap.size w w' := by
  obtain ⟨z, hr, h1, _⟩ := run_arith_nan (P := Try.prog) w .sub (by simp) 24 x x (sub_self_none hx h)
  have Hn := hid (show (FloatKind.f32.format.order z 0 == some .eq) = false by
    show (S.order z 0 == some .eq) = false
    rw [order_nan32 h1]; rfl)
  clear h hx h1
  go_enter Try.func110, Try.ntmps110
  go_wp2
  go_ret
  exact ⟨by simp [Hn.out], (Below.refl _ _).drew⟩

theorem sAmount_t (x : Nat) (h : amtB x = true) (w : World) :
    Calls Try.prog 114 #[.float .f32 x] w fun e w' => e = .returned (.bool true) ∧ w = w' := by
  have hf := amt_fin h
  have h' := amtB_iff.1 h
  have hx : x < 4294967296 := by rw [INF_val] at h'; omega
  have Hx := hid hx
  have Hf := hid hf
  by_cases h0 : x = 0
  · subst h0
    clear h hf h' hx
    go_enter Try.func114, Try.ntmps114
    go_wp2_with (go_at_call 110; refine (sFinite_t 0 Hx.out Hf.out _).mono ?_; rintro e w' ⟨rfl, rfl⟩)
    go_ret
    exact ⟨rfl, rfl⟩
  · have hg : (FloatKind.f32.format.order x 0 == some .gt) = true := by
      show (S.order x 0 == some .gt) = true
      rw [order_zero_pos h', Nat.compare_eq_gt.2 (by omega)]; rfl
    clear h hf h' hx h0
    go_enter Try.func114, Try.ntmps114
    go_wp2_with (go_at_call 110; refine (sFinite_t x Hx.out Hf.out _).mono ?_; rintro e w' ⟨rfl, rfl⟩)
    go_ret
    exact ⟨rfl, rfl⟩

theorem sAmount_f (x : Nat) (hx : x < 4294967296) (h : amtB x = false) (w : World) :
    Calls Try.prog 114 #[.float .f32 x] w fun e w' => e = .returned (.bool false) ∧ Below w.heap.size w w' := by
  rcases hf : finB x with _ | _
  · have Hx := hid hx
    have Hf := hid hf
    clear h hf hx
    go_enter Try.func114, Try.ntmps114
    go_wp2_with (go_at_call 110; refine (sFinite_f x Hx.out Hf.out _).mono ?_; rintro e w' ⟨rfl, hb⟩)
    go_ret
    exact ⟨rfl, hb⟩
  · have hs : 2147483648 ≤ x := by
      rw [amtB_iff', INF_val] at h
      have := finB_iff.1 hf
      rw [INF_val] at this
      unfold mg at this
      omega
    have hg : (FloatKind.f32.format.order x 0 == some .gt) = false := order_neg_zero hx hf hs
    have hb : ((x : Int) == 0) = false := by simp; omega
    have Hx := hid hx
    have Hf := hid hf
    clear h hf hx hs
    go_enter Try.func114, Try.ntmps114
    go_wp2_with (go_at_call 110; refine (sFinite_t x Hx.out Hf.out _).mono ?_; rintro e w' ⟨rfl, rfl⟩)
    go_ret
    exact ⟨rfl, Below.refl _ _⟩

set_option maxRecDepth 100000 in
theorem validSizes_f (c : Nat → Nat) (hb : ∀ i, i < 20 → c i < 4294967296) (h : ¬ ∀ i, i < 20 → amtB (c i) = true) (w : World) :
    Calls Try.prog 53 #[.agg (fls c)] w fun e w' => e = .returned (.bool false) ∧ Below w.heap.size w w' := by
  have H := hid h
  have HB := hid hb
  clear h hb
  go_enter Try.func53, Try.ntmps53
  go_wp2_with (refine wpList_load_row rfl 26 _ rfl w.heap.size rfl 26 (fls c) (0, 0) _ (heap_alloc_new _ _) Try.underlying26 rfl (by rw [fls_size]; exact info_arr) ?_)
  go_loop [6] (fun i => ∃ k : Nat, k ≤ 20 ∧ Hid (∀ i, i < k → amtB (c i) = true) ∧ i = .int .i64 k) (fun i => 20 - (intOf i).toNat)
  case atStart => exact ⟨0, by omega, hid (fun i hi => by omega), rfl⟩
  case round =>
    obtain ⟨k, hk, HK, rfl⟩ := hrel
    by_cases hlt : k < 20
    · have hix := ix 26 Try.underlying26 c k hlt
      rcases hac : amtB (c k) with _ | _
      · have HA := hid hac
        clear hac
        go_wp2_with (go_at_call 104; refine (isAmount_f (c k) (HB.out k hlt) HA.out _).mono ?_; rintro e w' ⟨rfl, hb⟩)
        go_ret
        exact ⟨rfl, (((Below.refl _ _).alloc (Nat.le_refl _) _).trans (hb.mono (by simp)))⟩
      · have HA := hid hac
        clear hac
        go_wp2_with (go_at_call 104; refine (isAmount_t (c k) HA.out _).mono ?_; rintro e w' ⟨rfl, rfl⟩)
        go_round
        case rel =>
          refine ⟨k + 1, by omega, hid (fun i hi => ?_), by go_num⟩
          by_cases e : i = k
          · subst e; exact HA.out
          · exact HK.out i (by omega)
        case measure => simp [intOf]; omega
    · have hk20 : k = 20 := by omega
      exact (H.out (fun i hi => HK.out i (by omega))).elim

set_option maxRecDepth 100000 in
theorem sOk_t (c : Nat → Nat) (h : ∀ i, i < 20 → amtB (c i) = true) (w : World) (g : Nat) (T : TypeId) (hg : w.heap[g]? = some (.cells (fls c) T (0, 0))) :
    Calls Try.prog 109 #[.pointer (some ⟨g, 0, none⟩)] w fun e w' => e = .returned (.bool true) ∧ w = w' := by
  have H := hid h
  have HG := hid hg
  clear h hg
  go_enter Try.func109, Try.ntmps109
  go_wp2
  go_loop [3] (fun i => ∃ k : Nat, k ≤ 20 ∧ i = .int .i64 k) (fun i => 20 - (intOf i).toNat)
  case atStart => exact ⟨0, by omega, rfl⟩
  case round =>
    obtain ⟨k, hk, rfl⟩ := hrel
    by_cases hlt : k < 20
    · have hcell : w.cell? ⟨g, k, none⟩ = some (.float .f32 (c k)) := by rw [cell_of_row w g k _ _ _ HG.out, fls_get c hlt]
      go_wp2_with (go_at_call 114; refine (sAmount_t (c k) (H.out k hlt) _).mono ?_; rintro e w' ⟨rfl, rfl⟩)
      go_round
      case rel => exact ⟨k + 1, by omega, by go_num⟩
      case measure => simp [intOf]; omega
    · go_wp2
      go_ret
      exact ⟨rfl, rfl⟩

set_option maxRecDepth 100000 in
theorem sOk_f (c : Nat → Nat) (hb : ∀ i, i < 20 → c i < 4294967296) (h : ¬ ∀ i, i < 20 → amtB (c i) = true) (w : World) (g : Nat) (T : TypeId) (hg : w.heap[g]? = some (.cells (fls c) T (0, 0))) :
    Calls Try.prog 109 #[.pointer (some ⟨g, 0, none⟩)] w fun e w' => e = .returned (.bool false) ∧ Below w.heap.size w w' := by
  have H := hid h
  have HB := hid hb
  have HG := hid hg
  clear h hb hg
  go_enter Try.func109, Try.ntmps109
  go_wp2
  go_loop [3] (fun i => ∃ k : Nat, k ≤ 20 ∧ Hid (∀ i, i < k → amtB (c i) = true) ∧ i = .int .i64 k) (fun i => 20 - (intOf i).toNat)
  case atStart => exact ⟨0, by omega, hid (fun i hi => by omega), rfl⟩
  case round =>
    obtain ⟨k, hk, HK, rfl⟩ := hrel
    by_cases hlt : k < 20
    · have hcell : w.cell? ⟨g, k, none⟩ = some (.float .f32 (c k)) := by rw [cell_of_row w g k _ _ _ HG.out, fls_get c hlt]
      rcases hac : amtB (c k) with _ | _
      · have HA := hid hac
        clear hac
        go_wp2_with (go_at_call 114; refine (sAmount_f (c k) (HB.out k hlt) HA.out _).mono ?_; rintro e w' ⟨rfl, hb⟩)
        go_ret
        exact ⟨rfl, hb⟩
      · have HA := hid hac
        clear hac
        go_wp2_with (go_at_call 114; refine (sAmount_t (c k) HA.out _).mono ?_; rintro e w' ⟨rfl, rfl⟩)
        go_round
        case rel =>
          refine ⟨k + 1, by omega, hid (fun i hi => ?_), by go_num⟩
          by_cases e : i = k
          · subst e; exact HA.out
          · exact HK.out i (by omega)
        case measure => simp [intOf]; omega
    · have hk20 : k = 20 := by omega
      exact (H.out (fun i hi => HK.out i (by omega))).elim

theorem info_a20 : (Try.prog.info? 25).map (·.size) = some 20 := by kernel_rfl

set_option maxRecDepth 100000 in
theorem toSizes (c : Nat → Nat) (w : World) :
    Calls Try.prog 58 #[.agg (fls c)] w fun e w' => e = .returned (.agg (fls c)) ∧ Below w.heap.size w w' := by
  have b0 : Below w.heap.size w (w.alloc (.cells (fls c) 25)) := (Below.refl _ _).alloc (Nat.le_refl _) _
  have a0 := hid (arrAt.new w c 25)
  go_enter Try.func58, Try.ntmps58
  go_wp2
  go_loopw [4] (fun i wr => ∃ k : Nat, k ≤ 20 ∧ i = .int .i64 k ∧ Hid (arrAt wr w.heap.size c 25) ∧ Hid (arrAt wr (w.heap.size + 1) (fun _ => 0) 26) ∧ Hid (arrAt wr (w.heap.size + 1 + 1) (cut c k) 26) ∧ Hid (Below w.heap.size w wr)) (fun i _ => 20 - (intOf i).toNat)
  case atStart =>
    refine ⟨0, by omega, rfl, hid ((a0.out.alloc _).alloc _), hid ?_, hid ?_, hid ((b0.alloc (by simp) _).alloc (by simp; omega) _)⟩
    · have := arrAt.new (w.alloc (.cells (fls c) 25)) (fun _ => 0) 26
      have e : (w.alloc (.cells (fls c) 25)).heap.size = w.heap.size + 1 := by simp
      rw [e] at this
      exact this.alloc _
    · have := arrAt.new ((w.alloc (.cells (fls c) 25)).alloc (.cells (fls fun _ => 0) 26)) (fun _ => 0) 26
      have e : ((w.alloc (.cells (fls c) 25)).alloc (.cells (fls fun _ => 0) 26)).heap.size = w.heap.size + 1 + 1 := by simp
      rw [e] at this
      exact this.ext (fun i _ => (cut_zero' c i).symm)
  case round =>
    obtain ⟨k, hk, rfl, h0, h1, h2, hb⟩ := hrel
    by_cases hlt : k < 20
    · have q0 := h0.out.cell hlt
      have q2 := h2.out.cell hlt
      have f2 := h2.out.frozen k
      go_wp2
      go_roundw
      case rel => exact ⟨k + 1, by omega, by go_num, hid (h0.out.setOther (by simp; omega) _), hid (h1.out.setOther (by simp) _), hid ((h2.out.set k (c k)).ext (fun i _ => cut_succ c k i)), hid (hb.out.setCell (by simp; omega) _)⟩
      case measure => simp [intOf]; omega
    · obtain rfl : k = 20 := by omega
      have h2' := hid (h2.out.ext (cut_all c))
      clear h2
      go_wp2_with (first | (refine wpList_load_row rfl 26 _ rfl (w.heap.size + 1 + 1) rfl 26 (fls c) (0, 0) _ h2'.out Try.underlying26 rfl (by rw [fls_size]; exact info_arr) ?_) | (refine wpList_store_row rfl 26 _ _ rfl (w.heap.size + 1) (fls c) rfl rfl 26 _ h1.out (by rw [fls_size]; exact info_arr) (by simp) (fls_one c) ?_))
      exact bodyPost_ret (results_cell_row rfl _ _ (w.heap.size + 1) 26 (fls c) (0, 0) _ rfl (h1.out.setRow c) Try.underlying26 rfl (by rw [fls_size]; exact info_arr)) rfl ⟨rfl, below_row hb.out (by omega) _⟩

theorem div_one_some {y m : Nat} {s : Bool} {e : Int} (h : D.read y = .number s m e) : ∃ q, floatBits .quo .f64 4607182418800017408 y = some q := by
  have h1 : D.read 4607182418800017408 = .number false 4503599627370496 (-52) := by decide
  show ∃ q, D.div 4607182418800017408 y = some q
  unfold Ieee.Format.div
  rw [h, h1]
  simp only [Ieee.Datum.quotient]
  by_cases hm : m = 0
  · rw [if_pos hm]; exact ⟨_, rfl⟩
  · rw [if_neg hm]; exact ⟨_, rfl⟩

set_option maxRecDepth 100000 in
theorem sameFloat (x : Nat) (hx : x < 4294967296) (h : finB x = true) (w : World) :
    Calls Try.prog 62 #[.float .f64 (wid x), .float .f64 (wid x)] w fun e w' => e = .returned (.bool true) ∧ w = w' := by
  obtain ⟨a, b, m, e, hr⟩ := read_wid_fin hx (finB_iff.1 h)
  have hn : (FloatKind.f64.format.order (wid x) (wid x) != some .eq) = false := by
    show (D.order (wid x) (wid x) != some .eq) = false
    rw [order_self hr]; rfl
  have hq : (FloatKind.f64.format.order (wid x) (wid x) == some .eq) = true := by
    show (D.order (wid x) (wid x) == some .eq) = true
    rw [order_self hr]; rfl
  obtain ⟨q, hd⟩ := div_one_some hr
  have hdiv := fun w => run_float_arith (P := Try.prog) w .quo 62 .f64 4607182418800017408 (wid x) q hd
  clear hd hr a b h hx
  rcases hz : (FloatKind.f64.format.order (wid x) 0 == some .eq) with _ | _
  · go_enter Try.func62, Try.ntmps62
    go_wp2
    go_ret
    exact ⟨by simp, rfl⟩
  · go_enter Try.func62, Try.ntmps62
    go_wp2
    go_ret
    exact ⟨by simp, rfl⟩

theorem back {P : Program} {f : FuncId} {args : Array Value} {w : World} {v : Value} (h : Calls P f args w fun e w' => e = .returned v ∧ w = w') : Calls P f args w fun e w' => e = .returned v ∧ w' = w :=
  h.mono fun _ _ ⟨a, b⟩ => ⟨a, b.symm⟩

set_option maxRecDepth 100000 in
theorem eqSizes (c : Nat → Nat) (hb : ∀ i, i < 20 → c i < 4294967296) (h : ∀ i, i < 20 → finB (c i) = true) (w : World) :
    Calls Try.prog 68 #[.agg (fls c), .agg (fls c)] w fun e w' => e = .returned (.bool true) ∧ Below w.heap.size w w' := by
  have b0 : Below w.heap.size w (w.alloc (.cells (fls c) 26)) := (Below.refl _ _).alloc (Nat.le_refl _) _
  have a0 := hid (arrAt.new w c 26)
  have H := hid h
  have HB := hid hb
  clear h hb
  go_enter Try.func68, Try.ntmps68
  go_wp2
  go_loopw [5] (fun i wr => ∃ k : Nat, k ≤ 20 ∧ i = .int .i64 k ∧ Hid (arrAt wr w.heap.size c 26) ∧ Hid (arrAt wr (w.heap.size + 1) c 26) ∧ Hid (Below w.heap.size w wr)) (fun i _ => 20 - (intOf i).toNat)
  case atStart =>
    refine ⟨0, by omega, rfl, hid (a0.out.alloc _), hid ?_, hid (b0.alloc (by simp) _)⟩
    have := arrAt.new (w.alloc (.cells (fls c) 26)) c 26
    have e : (w.alloc (.cells (fls c) 26)).heap.size = w.heap.size + 1 := by simp
    rw [e] at this
    exact this
  case round =>
    obtain ⟨k, hk, rfl, h0, h1, hb⟩ := hrel
    by_cases hlt : k < 20
    · have q0 := h0.out.cell hlt
      have q1 := h1.out.cell hlt
      have hc := fun w => run_conv_wid (P := Try.prog) w 24 62 (c k) (HB.out k hlt) Try.underlying24 Try.underlying62 (finB_iff.1 (H.out k hlt))
      go_wp2
      go_quiet ((go_at_call 62; exact Calls.quiet_of_same (back (sameFloat (c k) (HB.out k hlt) (H.out k hlt) _))))
      go_wp2
      go_roundw
      case rel => exact ⟨k + 1, by omega, by go_num, h0, h1, hid (below_drewN hb.out _)⟩
      case measure => simp [intOf]; omega
    · go_wp2
      go_ret
      exact ⟨rfl, hb.out⟩

def Amts (c : Nat → Nat) : Prop := ∀ i, i < 20 → amtB (c i) = true

def Share (x : Nat) : Prop := x ≤ 1065353216

theorem share_amt {x : Nat} (h : Share x) : amtB x = true := by unfold Share at h; rw [amtB_iff, INF_val]; omega

theorem leq_one_t {x : Nat} (h : Share x) : (FloatKind.f32.format.order x 1065353216 == some .lt || FloatKind.f32.format.order x 1065353216 == some .eq) = true := by
  show (S.order x 1065353216 == some .lt || S.order x 1065353216 == some .eq) = true
  rw [order_lt (amtB_iff.1 (share_amt h)) (by decide)]
  unfold Share at h
  rcases Nat.lt_or_eq_of_le h with h | h
  · rw [Nat.compare_eq_lt.2 h]; rfl
  · rw [Nat.compare_eq_eq.2 h]; rfl

theorem leq_one_f {x : Nat} (ha : amtB x = true) (h : ¬ Share x) : (FloatKind.f32.format.order x 1065353216 == some .lt || FloatKind.f32.format.order x 1065353216 == some .eq) = false := by
  show (S.order x 1065353216 == some .lt || S.order x 1065353216 == some .eq) = false
  rw [order_lt (amtB_iff.1 ha) (by decide)]
  unfold Share at h
  rw [Nat.compare_eq_gt.2 (by omega)]; rfl

theorem iShare_t (x : Nat) (h : Share x) (w : World) :
    Calls Try.prog 98 #[.float .f32 x] w fun e w' => e = .returned (.bool true) ∧ w = w' := by
  have ho := leq_one_t h
  have Ha := hid (share_amt h)
  clear h
  go_enter Try.func98, Try.ntmps98
  go_wp2_with fail
  refine (isAmount_t x Ha.out _).mono ?_
  rintro e w1 ⟨rfl, rfl⟩
  go_wp2
  go_ret
  exact ⟨by first | rfl | (simp; done), rfl⟩

theorem iShare_f (x : Nat) (hx : x < 4294967296) (h : ¬ Share x) (w : World) :
    Calls Try.prog 98 #[.float .f32 x] w fun e w' => e = .returned (.bool false) ∧ Below w.heap.size w w' := by
  rcases ha : amtB x with _ | _
  · have Ha := hid ha
    have Hx := hid hx
    clear h ha hx
    go_enter Try.func98, Try.ntmps98
    go_wp2_with fail
    refine (isAmount_f x Hx.out Ha.out _).mono ?_
    rintro e w1 ⟨rfl, hb⟩
    go_wp2
    go_ret
    exact ⟨rfl, hb⟩
  · have ho := leq_one_f ha h
    have Ha := hid ha
    clear h ha hx
    go_enter Try.func98, Try.ntmps98
    go_wp2_with fail
    refine (isAmount_t x Ha.out _).mono ?_
    rintro e w1 ⟨rfl, rfl⟩
    go_wp2
    go_ret
    exact ⟨by first | rfl | (simp; done), Below.refl _ _⟩

theorem sShare_t (x : Nat) (h : Share x) (w : World) :
    Calls Try.prog 136 #[.float .f32 x] w fun e w' => e = .returned (.bool true) ∧ w = w' := by
  have ho := leq_one_t h
  have Ha := hid (share_amt h)
  clear h
  go_enter Try.func136, Try.ntmps136
  go_wp2_with fail
  refine (sAmount_t x Ha.out _).mono ?_
  rintro e w1 ⟨rfl, rfl⟩
  go_wp2
  go_ret
  exact ⟨by first | rfl | (simp; done), rfl⟩

theorem sShare_f (x : Nat) (hx : x < 4294967296) (h : ¬ Share x) (w : World) :
    Calls Try.prog 136 #[.float .f32 x] w fun e w' => e = .returned (.bool false) ∧ Below w.heap.size w w' := by
  rcases ha : amtB x with _ | _
  · have Ha := hid ha
    have Hx := hid hx
    clear h ha hx
    go_enter Try.func136, Try.ntmps136
    go_wp2_with fail
    refine (sAmount_f x Hx.out Ha.out _).mono ?_
    rintro e w1 ⟨rfl, hb⟩
    go_wp2
    go_ret
    exact ⟨rfl, hb⟩
  · have ho := leq_one_f ha h
    have Ha := hid ha
    clear h ha hx
    go_enter Try.func136, Try.ntmps136
    go_wp2_with fail
    refine (sAmount_t x Ha.out _).mono ?_
    rintro e w1 ⟨rfl, rfl⟩
    go_wp2
    go_ret
    exact ⟨by first | rfl | (simp; done), Below.refl _ _⟩

def Fins (c : Nat → Nat) : Prop := ∀ i, i < 20 → finB (c i) = true

set_option maxRecDepth 100000 in
theorem iFinite_t (c : Nat → Nat) (hb : ∀ i, i < 20 → c i < 4294967296) (h : Fins c) (w : World) :
    Calls Try.prog 97 #[.agg (fls c)] w fun e w' => e = .returned (.tuple #[.agg (fls c), .int .i64 0]) ∧ Below w.heap.size w w' := by
  have A0 := hid ((arrAt.new w c 26).alloc (.cells (fls fun _ => 0) 26))
  have A1 := hid (new1 w (.cells (fls c) 26) (fun _ => 0) 26)
  have b0 := boxed2 w (.cells (fls c) 26) (.cells (fls fun _ => 0) 26)
  have HB := hid hb
  have H := hid h
  clear h hb
  go_enter Try.func97, Try.ntmps97
  go_wp2_with (refine wpList_load_row rfl 26 _ rfl (w.heap.size) rfl 26 (fls c) (0, 0) _ A0.out Try.underlying26 rfl (by rw [fls_size]; exact info_arr) ?_)
  go_loop [7] (fun i => ∃ k : Nat, k ≤ 20 ∧ i = .int .i64 k) (fun i => 20 - (intOf i).toNat)
  case atStart => exact ⟨0, by omega, rfl⟩
  case round =>
    obtain ⟨k, hk, rfl⟩ := hrel
    by_cases hlt : k < 20
    · have hix := ix 26 Try.underlying26 c k hlt
      go_wp2_with (go_at_call 106; refine (isFinite_t (c k) (HB.out k hlt) (H.out k hlt) _).mono ?_; rintro e w' ⟨rfl, rfl⟩)
      go_round
      case rel => exact ⟨k + 1, by omega, by go_num⟩
      case measure => simp [intOf]; omega
    · go_wp2_with (first | (refine wpList_load_row rfl 26 _ rfl (w.heap.size) rfl 26 (fls c) (0, 0) _ A0.out Try.underlying26 rfl (by rw [fls_size]; exact info_arr) ?_) | (refine wpList_store_row rfl 26 _ _ rfl (w.heap.size + 1) (fls c) rfl rfl 26 _ A1.out (by rw [fls_size]; exact info_arr) (by simp) (fls_one c) ?_))
      exact bodyPost_ret (results_row_tmp rfl _ _ (w.heap.size + 1) 26 (fls c) (0, 0) _ rfl (A1.out.setRow c) Try.underlying26 rfl (by rw [fls_size]; exact info_arr)) rfl ⟨rfl, below_row b0 (by simp) _⟩

set_option maxRecDepth 100000 in
theorem iFinite_f (c : Nat → Nat) (hb : ∀ i, i < 20 → c i < 4294967296) (h : ¬ Fins c) (w : World) :
    Calls Try.prog 97 #[.agg (fls c)] w fun e w' => e = .returned (.tuple #[.agg (fls fun _ => 0), .int .i64 4]) ∧ Below w.heap.size w w' := by
  have A0 := hid ((arrAt.new w c 26).alloc (.cells (fls fun _ => 0) 26))
  have A1 := hid (new1 w (.cells (fls c) 26) (fun _ => 0) 26)
  have b0 := boxed2 w (.cells (fls c) 26) (.cells (fls fun _ => 0) 26)
  have HB := hid hb
  have H := hid h
  clear h hb
  go_enter Try.func97, Try.ntmps97
  go_wp2_with (refine wpList_load_row rfl 26 _ rfl (w.heap.size) rfl 26 (fls c) (0, 0) _ A0.out Try.underlying26 rfl (by rw [fls_size]; exact info_arr) ?_)
  go_loop [7] (fun i => ∃ k : Nat, k ≤ 20 ∧ Hid (∀ i, i < k → finB (c i) = true) ∧ i = .int .i64 k) (fun i => 20 - (intOf i).toNat)
  case atStart => exact ⟨0, by omega, hid (fun i hi => by omega), rfl⟩
  case round =>
    obtain ⟨k, hk, HK, rfl⟩ := hrel
    by_cases hlt : k < 20
    · have hix := ix 26 Try.underlying26 c k hlt
      rcases hac : finB (c k) with _ | _
      · have HA := hid hac
        clear hac
        go_wp2_with (fail)
        refine (isFinite_f (c k) (HB.out k hlt) HA.out _).mono ?_
        rintro e w1 ⟨rfl, hb1⟩
        have A2 := hid (A1.out.stay hb1)
        have b1 := stp b0 (Nat.le_refl _) hb1
        go_wp2_with (refine wpList_store_row rfl 26 _ _ rfl (w.heap.size + 1) (fls (fun _ => 0)) rfl rfl 26 _ A2.out (by rw [fls_size]; exact info_arr) (by simp) (fls_one (fun _ => 0)) ?_)
        exact bodyPost_ret (results_row_tmp rfl _ _ (w.heap.size + 1) 26 (fls (fun _ => 0)) (0, 0) _ rfl (A2.out.setRow (fun _ => 0)) Try.underlying26 rfl (by rw [fls_size]; exact info_arr)) rfl ⟨rfl, below_row b1 (by simp) _⟩
      · have HA := hid hac
        clear hac
        go_wp2_with (go_at_call 106; refine (isFinite_t (c k) (HB.out k hlt) HA.out _).mono ?_; rintro e w' ⟨rfl, rfl⟩)
        go_round
        case rel =>
          refine ⟨k + 1, by omega, hid (fun i hi => ?_), by go_num⟩
          by_cases e : i = k
          · subst e; exact HA.out
          · exact HK.out i (by omega)
        case measure => simp [intOf]; omega
    · have hk20 : k = 20 := by omega
      exact (H.out (fun i hi => HK.out i (by omega))).elim

set_option maxRecDepth 100000 in
theorem sMade_t (c : Nat → Nat) (hb : ∀ i, i < 20 → c i < 4294967296) (h : Fins c) (w : World) :
    Calls Try.prog 134 #[.agg (fls c)] w fun e w' => e = .returned (.tuple #[.agg (fls c), .int .i64 0]) ∧ Below w.heap.size w w' := by
  have A0 := hid ((arrAt.new w c 26).alloc (.cells (fls fun _ => 0) 26))
  have A1 := hid (new1 w (.cells (fls c) 26) (fun _ => 0) 26)
  have b0 := boxed2 w (.cells (fls c) 26) (.cells (fls fun _ => 0) 26)
  have HB := hid hb
  have H := hid h
  clear h hb
  go_enter Try.func134, Try.ntmps134
  go_wp2
  go_loop [4] (fun i => ∃ k : Nat, k ≤ 20 ∧ i = .int .i64 k) (fun i => 20 - (intOf i).toNat)
  case atStart => exact ⟨0, by omega, rfl⟩
  case round =>
    obtain ⟨k, hk, rfl⟩ := hrel
    by_cases hlt : k < 20
    · have hix := A0.out.cell hlt
      go_wp2_with (go_at_call 110; refine (sFinite_t (c k) (HB.out k hlt) (H.out k hlt) _).mono ?_; rintro e w' ⟨rfl, rfl⟩)
      go_round
      case rel => exact ⟨k + 1, by omega, by go_num⟩
      case measure => simp [intOf]; omega
    · go_wp2_with (first | (refine wpList_load_row rfl 26 _ rfl (w.heap.size) rfl 26 (fls c) (0, 0) _ A0.out Try.underlying26 rfl (by rw [fls_size]; exact info_arr) ?_) | (refine wpList_store_row rfl 26 _ _ rfl (w.heap.size + 1) (fls c) rfl rfl 26 _ A1.out (by rw [fls_size]; exact info_arr) (by simp) (fls_one c) ?_))
      exact bodyPost_ret (results_row_tmp rfl _ _ (w.heap.size + 1) 26 (fls c) (0, 0) _ rfl (A1.out.setRow c) Try.underlying26 rfl (by rw [fls_size]; exact info_arr)) rfl ⟨rfl, below_row b0 (by simp) _⟩

set_option maxRecDepth 100000 in
theorem sMade_f (c : Nat → Nat) (hb : ∀ i, i < 20 → c i < 4294967296) (h : ¬ Fins c) (w : World) :
    Calls Try.prog 134 #[.agg (fls c)] w fun e w' => e = .returned (.tuple #[.agg (fls fun _ => 0), .int .i64 4]) ∧ Below w.heap.size w w' := by
  have A0 := hid ((arrAt.new w c 26).alloc (.cells (fls fun _ => 0) 26))
  have A1 := hid (new1 w (.cells (fls c) 26) (fun _ => 0) 26)
  have b0 := boxed2 w (.cells (fls c) 26) (.cells (fls fun _ => 0) 26)
  have HB := hid hb
  have H := hid h
  clear h hb
  go_enter Try.func134, Try.ntmps134
  go_wp2
  go_loop [4] (fun i => ∃ k : Nat, k ≤ 20 ∧ Hid (∀ i, i < k → finB (c i) = true) ∧ i = .int .i64 k) (fun i => 20 - (intOf i).toNat)
  case atStart => exact ⟨0, by omega, hid (fun i hi => by omega), rfl⟩
  case round =>
    obtain ⟨k, hk, HK, rfl⟩ := hrel
    by_cases hlt : k < 20
    · have hix := A0.out.cell hlt
      rcases hac : finB (c k) with _ | _
      · have HA := hid hac
        clear hac
        go_wp2_with (fail)
        refine (sFinite_f (c k) (HB.out k hlt) HA.out _).mono ?_
        rintro e w1 ⟨rfl, hb1⟩
        have A2 := hid (A1.out.stay hb1)
        have b1 := stp b0 (Nat.le_refl _) hb1
        go_wp2_with (refine wpList_store_row rfl 26 _ _ rfl (w.heap.size + 1) (fls (fun _ => 0)) rfl rfl 26 _ A2.out (by rw [fls_size]; exact info_arr) (by simp) (fls_one (fun _ => 0)) ?_)
        exact bodyPost_ret (results_row_tmp rfl _ _ (w.heap.size + 1) 26 (fls (fun _ => 0)) (0, 0) _ rfl (A2.out.setRow (fun _ => 0)) Try.underlying26 rfl (by rw [fls_size]; exact info_arr)) rfl ⟨rfl, below_row b1 (by simp) _⟩
      · have HA := hid hac
        clear hac
        go_wp2_with (go_at_call 110; refine (sFinite_t (c k) (HB.out k hlt) HA.out _).mono ?_; rintro e w' ⟨rfl, rfl⟩)
        go_round
        case rel =>
          refine ⟨k + 1, by omega, hid (fun i hi => ?_), by go_num⟩
          by_cases e : i = k
          · subst e; exact HA.out
          · exact HK.out i (by omega)
        case measure => simp [intOf]; omega
    · have hk20 : k = 20 := by omega
      exact (H.out (fun i hi => HK.out i (by omega))).elim

theorem made_lit (c : Nat → Nat) (hb : ∀ i, i < 20 → c i < 4294967296) : ∃ (d : Nat → Nat) (n : Int), (Fins c → d = c ∧ n = 0) ∧ (¬ Fins c → d = (fun _ => 0) ∧ n = 4) ∧ Fins d ∧ (∀ i, i < 20 → d i < 4294967296) := by
  by_cases h : Fins c
  · exact ⟨c, 0, fun _ => ⟨rfl, rfl⟩, fun k => (k h).elim, h, hb⟩
  · exact ⟨fun _ => 0, 4, fun k => (h k).elim, fun _ => ⟨rfl, rfl⟩, fun _ _ => (by decide : finB 0 = true), fun _ _ => (by decide : 0 < 4294967296)⟩

/-- Sizes that would be returned, by either program, are told alike. -/
theorem iFinite (c : Nat → Nat) (hb : ∀ i, i < 20 → c i < 4294967296) (d : Nat → Nat) (n : Int) (h1 : Fins c → d = c ∧ n = 0) (h2 : ¬ Fins c → d = (fun _ => 0) ∧ n = 4) (w : World) :
    Calls Try.prog 97 #[.agg (fls c)] w fun e w' => e = .returned (.tuple #[.agg (fls d), .int .i64 n]) ∧ Below w.heap.size w w' := by
  by_cases h : Fins c
  · obtain ⟨rfl, rfl⟩ := h1 h; exact iFinite_t _ hb h w
  · obtain ⟨rfl, rfl⟩ := h2 h; exact iFinite_f _ hb h w

theorem sMade (c : Nat → Nat) (hb : ∀ i, i < 20 → c i < 4294967296) (d : Nat → Nat) (n : Int) (h1 : Fins c → d = c ∧ n = 0) (h2 : ¬ Fins c → d = (fun _ => 0) ∧ n = 4) (w : World) :
    Calls Try.prog 134 #[.agg (fls c)] w fun e w' => e = .returned (.tuple #[.agg (fls d), .int .i64 n]) ∧ Below w.heap.size w w' := by
  by_cases h : Fins c
  · obtain ⟨rfl, rfl⟩ := h1 h; exact sMade_t _ hb h w
  · obtain ⟨rfl, rfl⟩ := h2 h; exact sMade_f _ hb h w

theorem zf : Fins (fun _ => 0) := fun _ _ => (by decide : finB 0 = true)

theorem zl : ∀ i, i < 20 → (fun _ : Nat => 0) i < 4294967296 := fun _ _ => (by decide : 0 < 4294967296)

theorem loose {P : Program} {f : FuncId} {args : Array Value} {w : World} {v : Value} (h : Calls P f args w fun e w' => e = .returned v ∧ w = w') : Calls P f args w fun e w' => e = .returned v ∧ Below w.heap.size w w' :=
  h.mono fun _ _ ⟨a, b⟩ => ⟨a, b ▸ Below.refl _ _⟩

theorem alloc_sizes (a : Operand → Value) (d : Option Tmp) (t : TypeId) (ps : String) (af : Array Edge) (gd : Option (Nat × Bool)) (w : World) :
    (execOp a ⟨d, .alloc 26, t, ps, af, gd⟩).run Try.prog w = .ok (.value (.pointer (some ⟨w.heap.size, 0, none⟩))) (w.alloc (.cells (fls fun _ => 0) 26)) := by
  unfold execOp
  go_simp

theorem run_toSizes1 (a : Act) (x0 : Operand) (v0 : Value) (h0 : a.eval x0 = v0) (d : Option Tmp) (ats : Array TypeId) (t : TypeId) (ps : String) (af : Array Edge) (gd : Option (Nat × Bool)) (w : World) :
    (execOp a.eval ⟨d, .call { callee := .value (.func 58), args := #[x0], argTypes := ats }, t, ps, af, gd⟩).run Try.prog w = .ok (.enter 58 #[v0]) w := by
  subst h0
  unfold execOp
  go_simp

def rest1 (x : Nat) : Nat := fsub 1065353216 x

def mixed (c d : Nat → Nat) (x : Nat) : Nat → Nat := fun i => fadd (fmul (c i) (rest1 x)) (fmul (d i) x)

theorem rest1_amt {x : Nat} (h : Share x) : amtB (rest1 x) = true := by
  have h1 := fsub_le (x := 1065353216) (y := x) (by decide) h
  rw [amtB_iff, INF_val]
  unfold rest1
  omega

theorem mixed_nn {c d : Nat → Nat} (hc : Amts c) (hd : Amts d) {x : Nat} (hx : Share x) {i : Nat} (hi : i < 20) : nnB (mixed c d x i) = true := (add_eq (mul_eq (hc i hi) (rest1_amt hx)).2 (mul_eq (hd i hi) (share_amt hx)).2).2

set_option maxRecDepth 100000 in
theorem iMixSizes_ok (c : Nat → Nat) (h : Amts c) (d : Nat → Nat) (hd : Amts d) (x : Nat) (hx : Share x) (r : Nat → Nat) (n : Int) (h1 : Fins (mixed c d x) → r = mixed c d x ∧ n = 0) (h2 : ¬ Fins (mixed c d x) → r = (fun _ => 0) ∧ n = 4) (w : World) :
    Calls Try.prog 34 #[.agg (fls c), .agg (fls d), .float .f32 x] w fun e w' => e = .returned (.tuple #[.agg (fls r), .int .i64 n]) ∧ Below w.heap.size w w' := by
  have A0 := hid (((arrAt.new w c 26).alloc (.cells (fls d) 26)).alloc (.cells (fls (fun _ => 0)) 26))
  have A1 := hid ((new1 w (.cells (fls c) 26) d 26).alloc (.cells (fls (fun _ => 0)) 26))
  have A2 := hid (new2 w (.cells (fls c) 26) (.cells (fls d) 26) (fun _ => 0) 26)
  have b0 := boxed3 w (.cells (fls c) 26) (.cells (fls d) 26) (.cells (fls (fun _ => 0)) 26)
  have Hh := hid h
  have Hhd := hid hd
  have Hhx := hid hx
  have Hh1 := hid h1
  have Hh2 := hid h2
  clear h hd hx h1 h2
  go_enter Try.func34, Try.ntmps34
  go_wp2_with (first | (refine wpList_load_row rfl 26 _ rfl (w.heap.size) rfl 26 (fls c) (0, 0) _ A0.out Try.underlying26 rfl (by rw [fls_size]; exact info_arr) ?_))
  refine (validSizes_t c Hh.out _).mono ?_
  rintro e w0 ⟨rfl, hb0⟩
  have A0 := hid (A0.out.stay hb0)
  have A1 := hid (A1.out.stay hb0)
  have A2 := hid (A2.out.stay hb0)
  have c0 := stp b0 (Nat.le_refl _) hb0
  go_wp2_with (first | (refine wpList_load_g rfl 26 _ rfl (w.heap.size + 1) rfl 26 (fls d) (0, 0) _ A1.out Try.underlying26 rfl (by rw [fls_size]; exact info_arr) ?_))
  refine (validSizes_t d Hhd.out _).mono ?_
  rintro e w1 ⟨rfl, hb1⟩
  have A0 := hid (A0.out.stay hb1)
  have A1 := hid (A1.out.stay hb1)
  have A2 := hid (A2.out.stay hb1)
  have c1 := stp c0 (Nat.le_refl _) hb1
  go_wp2_with fail
  refine (iShare_t x Hhx.out _).mono ?_
  rintro e w2 ⟨rfl, rfl⟩
  have P0 := hid (arrAt.new w1 (fun _ => 0) 26)
  have l0 := A0.out.lt
  have l1 := A1.out.lt
  have l2 := A2.out.lt
  go_wp2_with fail
  go_loopw [23] (fun i wr => ∃ k : Nat, k ≤ 20 ∧ i = .int .i64 k ∧ Hid (arrAt wr (w.heap.size) c 26) ∧ Hid (arrAt wr (w.heap.size + 1) d 26) ∧ Hid (arrAt wr (w.heap.size + 1 + 1) (fun _ => 0) 26) ∧ Hid (arrAt wr (w1.heap.size) (cut (mixed c d x) k) 26) ∧ Hid (Below w.heap.size w wr)) (fun i _ => 20 - (intOf i).toNat)
  case atStart => exact ⟨0, by omega, rfl, hid (A0.out.alloc _), hid (A1.out.alloc _), hid (A2.out.alloc _), hid (P0.out.ext (fun i _ => (cut_zero' (mixed c d x) i).symm)), hid (c1.alloc c1.size _)⟩
  case round =>
    obtain ⟨k, hk, rfl, g0, g1, g2, g3, hb⟩ := hrel
    by_cases hlt : k < 20
    · have q0 := g0.out.cell hlt
      have q1 := g1.out.cell hlt
      have hs := fun w => run_sub (P := Try.prog) 24 (x := 1065353216) (y := x) (by decide) Hhx.out w
      have hm1 := fun w => run_mul (P := Try.prog) 24 (Hh.out k hlt) (rest1_amt Hhx.out) w
      have hm2 := fun w => run_mul (P := Try.prog) 24 (Hhd.out k hlt) (share_amt Hhx.out) w
      have hm3 := fun w => run_add (P := Try.prog) 24 (mul_eq (Hh.out k hlt) (rest1_amt Hhx.out)).2 (mul_eq (Hhd.out k hlt) (share_amt Hhx.out)).2 w
      rw [show fsub 1065353216 x = rest1 x from rfl] at hs
      rw [show fadd (fmul (c k) (rest1 x)) (fmul (d k) x) = mixed c d x k from rfl] at hm3
      have q3 := g3.out.cell hlt
      have f3 := g3.out.frozen k
      go_wp2_with fail
      go_region
      all_goals go_wp2
      all_goals go_roundw
      case rel => exact ⟨k + 1, by omega, by go_num, hid (g0.out.setOther (by simp; omega) _), hid (g1.out.setOther (by simp; omega) _), hid (g2.out.setOther (by simp; omega) _), hid ((g3.out.set k (mixed c d x k)).ext (fun i _ => cut_succ (mixed c d x) k i)), hid ((hb.out.setCell (p := ⟨w1.heap.size, k, none⟩) c1.size _).drew)⟩
      case measure => simp [intOf]; omega
    · obtain rfl : k = 20 := by omega
      have g4 := hid (g3.out.ext (cut_all (mixed c d x)))
      clear g3
      go_wp2_with (refine wpList_load_row rfl 26 _ rfl (w1.heap.size) rfl 26 (fls (mixed c d x)) (0, 0) _ g4.out Try.underlying26 rfl (by rw [fls_size]; exact info_arr) ?_)
      refine (iFinite (mixed c d x) (fun i hi => nn_lt (mixed_nn Hh.out Hhd.out Hhx.out hi)) r n Hh1.out Hh2.out _).mono ?_
      rintro e w9 ⟨rfl, hb9⟩
      have A9 := hid (g2.out.stay hb9)
      have b9 := stp hb.out (Nat.le_refl _) hb9
      go_wp2_with (refine wpList_store_row rfl 26 _ _ rfl (w.heap.size + 1 + 1) (fls r) rfl rfl 26 _ A9.out (by rw [fls_size]; exact info_arr) (by simp) (fls_one r) ?_)
      exact bodyPost_ret (results_row_tmp rfl _ _ (w.heap.size + 1 + 1) 26 (fls r) (0, 0) _ rfl (A9.out.setRow r) Try.underlying26 rfl (by rw [fls_size]; exact info_arr)) rfl ⟨rfl, below_row b9 (by omega) _⟩

set_option maxRecDepth 100000 in
theorem sMixSizes_ok (c : Nat → Nat) (h : Amts c) (d : Nat → Nat) (hd : Amts d) (x : Nat) (hx : Share x) (r : Nat → Nat) (n : Int) (h1 : Fins (mixed c d x) → r = mixed c d x ∧ n = 0) (h2 : ¬ Fins (mixed c d x) → r = (fun _ => 0) ∧ n = 4) (w : World) :
    Calls Try.prog 70 #[.agg (fls c), .agg (fls d), .float .f32 x] w fun e w' => e = .returned (.tuple #[.agg (fls r), .int .i64 n]) ∧ Below w.heap.size w w' := by
  have A0 := hid (((arrAt.new w c 26).alloc (.cells (fls d) 26)).alloc (.cells (fls (fun _ => 0)) 26))
  have A1 := hid ((new1 w (.cells (fls c) 26) d 26).alloc (.cells (fls (fun _ => 0)) 26))
  have A2 := hid (new2 w (.cells (fls c) 26) (.cells (fls d) 26) (fun _ => 0) 26)
  have b0 := boxed3 w (.cells (fls c) 26) (.cells (fls d) 26) (.cells (fls (fun _ => 0)) 26)
  have Hh := hid h
  have Hhd := hid hd
  have Hhx := hid hx
  have Hh1 := hid h1
  have Hh2 := hid h2
  clear h hd hx h1 h2
  go_enter Try.func70, Try.ntmps70
  go_wp2_with fail
  refine (loose (sOk_t c Hh.out _ w.heap.size 26 A0.out)).mono ?_
  rintro e w0 ⟨rfl, hb0⟩
  have A0 := hid (A0.out.stay hb0)
  have A1 := hid (A1.out.stay hb0)
  have A2 := hid (A2.out.stay hb0)
  have c0 := stp b0 (Nat.le_refl _) hb0
  go_wp2_with fail
  refine (sOk_t d Hhd.out _ (w.heap.size + 1) 26 A1.out).mono ?_
  rintro e w1 ⟨rfl, rfl⟩
  go_wp2_with fail
  refine (sShare_t x Hhx.out _).mono ?_
  rintro e w2 ⟨rfl, rfl⟩
  go_wp2_with fail
  go_loopw [8] (fun i wr => ∃ k : Nat, k ≤ 20 ∧ i = .int .i64 k ∧ Hid (arrAt wr (w.heap.size) (prt (mixed c d x) c k) 26) ∧ Hid (arrAt wr (w.heap.size + 1) d 26) ∧ Hid (arrAt wr (w.heap.size + 1 + 1) (fun _ => 0) 26) ∧ Hid (Below w.heap.size w wr)) (fun i _ => 20 - (intOf i).toNat)
  case atStart => exact ⟨0, by omega, rfl, hid (A0.out.ext (fun i _ => (part_zero (mixed c d x) c i).symm)), A1, A2, hid c0⟩
  case round =>
    obtain ⟨k, hk, rfl, g0, g1, g2, hb⟩ := hrel
    by_cases hlt : k < 20
    · have q0 := g0.out.cell hlt
      rw [part_here] at q0
      have q1 := g1.out.cell hlt
      have hs := fun w => run_sub (P := Try.prog) 24 (x := 1065353216) (y := x) (by decide) Hhx.out w
      have hm1 := fun w => run_mul (P := Try.prog) 24 (Hh.out k hlt) (rest1_amt Hhx.out) w
      have hm2 := fun w => run_mul (P := Try.prog) 24 (Hhd.out k hlt) (share_amt Hhx.out) w
      have hm3 := fun w => run_add (P := Try.prog) 24 (mul_eq (Hh.out k hlt) (rest1_amt Hhx.out)).2 (mul_eq (Hhd.out k hlt) (share_amt Hhx.out)).2 w
      rw [show fsub 1065353216 x = rest1 x from rfl] at hs
      rw [show fadd (fmul (c k) (rest1 x)) (fmul (d k) x) = mixed c d x k from rfl] at hm3
      have f0 := g0.out.frozen k
      go_wp2_with fail
      go_region
      all_goals go_wp2
      all_goals go_roundw
      case rel => exact ⟨k + 1, by omega, by go_num, hid ((g0.out.set k (mixed c d x k)).ext (fun i _ => part_succ (mixed c d x) c k i)), hid (g1.out.setOther (by simp) _), hid (g2.out.setOther (by simp; omega) _), hid ((hb.out.setCell (p := ⟨w.heap.size, k, none⟩) (Nat.le_refl _) _).drew)⟩
      case measure => simp [intOf]; omega
    · obtain rfl : k = 20 := by omega
      have g4 := hid (g0.out.ext (part_all (mixed c d x) c))
      clear g0
      go_wp2_with (refine wpList_load_row rfl 26 _ rfl (w.heap.size) rfl 26 (fls (mixed c d x)) (0, 0) _ g4.out Try.underlying26 rfl (by rw [fls_size]; exact info_arr) ?_)
      refine (sMade (mixed c d x) (fun i hi => nn_lt (mixed_nn Hh.out Hhd.out Hhx.out hi)) r n Hh1.out Hh2.out _).mono ?_
      rintro e w9 ⟨rfl, hb9⟩
      have A9 := hid (g2.out.stay hb9)
      have b9 := stp hb.out (Nat.le_refl _) hb9
      go_wp2_with (refine wpList_store_row rfl 26 _ _ rfl (w.heap.size + 1 + 1) (fls r) rfl rfl 26 _ A9.out (by rw [fls_size]; exact info_arr) (by simp) (fls_one r) ?_)
      exact bodyPost_ret (results_row_tmp rfl _ _ (w.heap.size + 1 + 1) 26 (fls r) (0, 0) _ rfl (A9.out.setRow r) Try.underlying26 rfl (by rw [fls_size]; exact info_arr)) rfl ⟨rfl, below_row b9 (by omega) _⟩

set_option maxRecDepth 100000 in
theorem sMixSizes_bad1 (c : Nat → Nat) (hb : ∀ i, i < 20 → c i < 4294967296) (h : ¬ Amts c) (d : Nat → Nat) (x : Nat) (w : World) :
    Calls Try.prog 70 #[.agg (fls c), .agg (fls d), .float .f32 x] w fun e w' => e = .returned (.tuple #[.agg (fls (fun _ => 0)), .int .i64 1]) ∧ Below w.heap.size w w' := by
  have A0 := hid (((arrAt.new w c 26).alloc (.cells (fls d) 26)).alloc (.cells (fls (fun _ => 0)) 26))
  have A1 := hid ((new1 w (.cells (fls c) 26) d 26).alloc (.cells (fls (fun _ => 0)) 26))
  have A2 := hid (new2 w (.cells (fls c) 26) (.cells (fls d) 26) (fun _ => 0) 26)
  have b0 := boxed3 w (.cells (fls c) 26) (.cells (fls d) 26) (.cells (fls (fun _ => 0)) 26)
  have Hhb := hid hb
  have Hh := hid h
  clear hb h
  go_enter Try.func70, Try.ntmps70
  go_wp2_with fail
  refine (sOk_f c Hhb.out Hh.out _ w.heap.size 26 A0.out).mono ?_
  rintro e w0 ⟨rfl, hb0⟩
  have A0 := hid (A0.out.stay hb0)
  have A1 := hid (A1.out.stay hb0)
  have A2 := hid (A2.out.stay hb0)
  have c0 := stp b0 (Nat.le_refl _) hb0
  go_wp2_with (first | (refine wpList_store_row rfl 26 _ _ rfl (w.heap.size + 1 + 1) (fls (fun _ => 0)) rfl rfl 26 _ A2.out (by rw [fls_size]; exact info_arr) (by simp) (fls_one (fun _ => 0)) ?_))
  have A0 := hid (A0.out.setRowOther (k := w.heap.size + 1 + 1) (by first | omega | (simp; done) | (simp; omega)) (fls (fun _ => 0)))
  have A1 := hid (A1.out.setRowOther (k := w.heap.size + 1 + 1) (by first | omega | (simp; done) | (simp; omega)) (fls (fun _ => 0)))
  have A2 := hid (A2.out.setRow (fun _ => 0))
  have c0 := below_row c0 (by first | omega | (simp; done) | (simp; omega)) (g := w.heap.size + 1 + 1) (fls (fun _ => 0))
  exact bodyPost_ret (results_row_tmp rfl _ _ (w.heap.size + 1 + 1) 26 (fls (fun _ => 0)) (0, 0) _ rfl A2.out Try.underlying26 rfl (by rw [fls_size]; exact info_arr)) rfl ⟨rfl, c0⟩

set_option maxRecDepth 100000 in
theorem sMixSizes_bad2 (c : Nat → Nat) (h : Amts c) (d : Nat → Nat) (hb : ∀ i, i < 20 → d i < 4294967296) (hd : ¬ Amts d) (x : Nat) (w : World) :
    Calls Try.prog 70 #[.agg (fls c), .agg (fls d), .float .f32 x] w fun e w' => e = .returned (.tuple #[.agg (fls (fun _ => 0)), .int .i64 1]) ∧ Below w.heap.size w w' := by
  have A0 := hid (((arrAt.new w c 26).alloc (.cells (fls d) 26)).alloc (.cells (fls (fun _ => 0)) 26))
  have A1 := hid ((new1 w (.cells (fls c) 26) d 26).alloc (.cells (fls (fun _ => 0)) 26))
  have A2 := hid (new2 w (.cells (fls c) 26) (.cells (fls d) 26) (fun _ => 0) 26)
  have b0 := boxed3 w (.cells (fls c) 26) (.cells (fls d) 26) (.cells (fls (fun _ => 0)) 26)
  have Hhb := hid hb
  have Hh := hid h
  have Hhd := hid hd
  clear hb h hd
  go_enter Try.func70, Try.ntmps70
  go_wp2_with fail
  refine (loose (sOk_t c Hh.out _ w.heap.size 26 A0.out)).mono ?_
  rintro e w0 ⟨rfl, hb0⟩
  have A0 := hid (A0.out.stay hb0)
  have A1 := hid (A1.out.stay hb0)
  have A2 := hid (A2.out.stay hb0)
  have c0 := stp b0 (Nat.le_refl _) hb0
  go_wp2_with fail
  refine (sOk_f d Hhb.out Hhd.out _ (w.heap.size + 1) 26 A1.out).mono ?_
  rintro e w1 ⟨rfl, hb1⟩
  have A0 := hid (A0.out.stay hb1)
  have A1 := hid (A1.out.stay hb1)
  have A2 := hid (A2.out.stay hb1)
  have c1 := stp c0 (Nat.le_refl _) hb1
  go_wp2_with (first | (refine wpList_store_row rfl 26 _ _ rfl (w.heap.size + 1 + 1) (fls (fun _ => 0)) rfl rfl 26 _ A2.out (by rw [fls_size]; exact info_arr) (by simp) (fls_one (fun _ => 0)) ?_))
  have A0 := hid (A0.out.setRowOther (k := w.heap.size + 1 + 1) (by first | omega | (simp; done) | (simp; omega)) (fls (fun _ => 0)))
  have A1 := hid (A1.out.setRowOther (k := w.heap.size + 1 + 1) (by first | omega | (simp; done) | (simp; omega)) (fls (fun _ => 0)))
  have A2 := hid (A2.out.setRow (fun _ => 0))
  have c1 := below_row c1 (by first | omega | (simp; done) | (simp; omega)) (g := w.heap.size + 1 + 1) (fls (fun _ => 0))
  exact bodyPost_ret (results_row_tmp rfl _ _ (w.heap.size + 1 + 1) 26 (fls (fun _ => 0)) (0, 0) _ rfl A2.out Try.underlying26 rfl (by rw [fls_size]; exact info_arr)) rfl ⟨rfl, c1⟩

set_option maxRecDepth 100000 in
theorem sMixSizes_range (c : Nat → Nat) (h : Amts c) (d : Nat → Nat) (hd : Amts d) (x : Nat) (hx : x < 4294967296) (hn : ¬ Share x) (w : World) :
    Calls Try.prog 70 #[.agg (fls c), .agg (fls d), .float .f32 x] w fun e w' => e = .returned (.tuple #[.agg (fls (fun _ => 0)), .int .i64 2]) ∧ Below w.heap.size w w' := by
  have A0 := hid (((arrAt.new w c 26).alloc (.cells (fls d) 26)).alloc (.cells (fls (fun _ => 0)) 26))
  have A1 := hid ((new1 w (.cells (fls c) 26) d 26).alloc (.cells (fls (fun _ => 0)) 26))
  have A2 := hid (new2 w (.cells (fls c) 26) (.cells (fls d) 26) (fun _ => 0) 26)
  have b0 := boxed3 w (.cells (fls c) 26) (.cells (fls d) 26) (.cells (fls (fun _ => 0)) 26)
  have Hh := hid h
  have Hhd := hid hd
  have Hhx := hid hx
  have Hhn := hid hn
  clear h hd hx hn
  go_enter Try.func70, Try.ntmps70
  go_wp2_with fail
  refine (loose (sOk_t c Hh.out _ w.heap.size 26 A0.out)).mono ?_
  rintro e w0 ⟨rfl, hb0⟩
  have A0 := hid (A0.out.stay hb0)
  have A1 := hid (A1.out.stay hb0)
  have A2 := hid (A2.out.stay hb0)
  have c0 := stp b0 (Nat.le_refl _) hb0
  go_wp2_with fail
  refine (loose (sOk_t d Hhd.out _ (w.heap.size + 1) 26 A1.out)).mono ?_
  rintro e w1 ⟨rfl, hb1⟩
  have A0 := hid (A0.out.stay hb1)
  have A1 := hid (A1.out.stay hb1)
  have A2 := hid (A2.out.stay hb1)
  have c1 := stp c0 (Nat.le_refl _) hb1
  go_wp2_with fail
  refine (sShare_f x Hhx.out Hhn.out _).mono ?_
  rintro e w2 ⟨rfl, hb2⟩
  have A0 := hid (A0.out.stay hb2)
  have A1 := hid (A1.out.stay hb2)
  have A2 := hid (A2.out.stay hb2)
  have c2 := stp c1 (Nat.le_refl _) hb2
  go_wp2_with (first | (refine wpList_store_row rfl 26 _ _ rfl (w.heap.size + 1 + 1) (fls (fun _ => 0)) rfl rfl 26 _ A2.out (by rw [fls_size]; exact info_arr) (by simp) (fls_one (fun _ => 0)) ?_))
  have A0 := hid (A0.out.setRowOther (k := w.heap.size + 1 + 1) (by first | omega | (simp; done) | (simp; omega)) (fls (fun _ => 0)))
  have A1 := hid (A1.out.setRowOther (k := w.heap.size + 1 + 1) (by first | omega | (simp; done) | (simp; omega)) (fls (fun _ => 0)))
  have A2 := hid (A2.out.setRow (fun _ => 0))
  have c2 := below_row c2 (by first | omega | (simp; done) | (simp; omega)) (g := w.heap.size + 1 + 1) (fls (fun _ => 0))
  exact bodyPost_ret (results_row_tmp rfl _ _ (w.heap.size + 1 + 1) 26 (fls (fun _ => 0)) (0, 0) _ rfl A2.out Try.underlying26 rfl (by rw [fls_size]; exact info_arr)) rfl ⟨rfl, c2⟩

set_option maxRecDepth 100000 in
theorem iMixSizes_bad1 (c : Nat → Nat) (hb : ∀ i, i < 20 → c i < 4294967296) (h : ¬ Amts c) (d : Nat → Nat) (x : Nat) (w : World) :
    Calls Try.prog 34 #[.agg (fls c), .agg (fls d), .float .f32 x] w fun e w' => e = .returned (.tuple #[.agg (fls (fun _ => 0)), .int .i64 1]) ∧ Below w.heap.size w w' := by
  have A0 := hid (((arrAt.new w c 26).alloc (.cells (fls d) 26)).alloc (.cells (fls (fun _ => 0)) 26))
  have A1 := hid ((new1 w (.cells (fls c) 26) d 26).alloc (.cells (fls (fun _ => 0)) 26))
  have A2 := hid (new2 w (.cells (fls c) 26) (.cells (fls d) 26) (fun _ => 0) 26)
  have b0 := boxed3 w (.cells (fls c) 26) (.cells (fls d) 26) (.cells (fls (fun _ => 0)) 26)
  have Hhb := hid hb
  have Hh := hid h
  clear hb h
  go_enter Try.func34, Try.ntmps34
  go_wp2_with (first | (refine wpList_load_row rfl 26 _ rfl (w.heap.size) rfl 26 (fls c) (0, 0) _ A0.out Try.underlying26 rfl (by rw [fls_size]; exact info_arr) ?_))
  refine (validSizes_f c Hhb.out Hh.out _).mono ?_
  rintro e w0 ⟨rfl, hb0⟩
  have A0 := hid (A0.out.stay hb0)
  have A1 := hid (A1.out.stay hb0)
  have A2 := hid (A2.out.stay hb0)
  have c0 := stp b0 (Nat.le_refl _) hb0
  go_wp2_with (first | (refine wpList_store_row rfl 26 _ _ rfl (w.heap.size + 1 + 1) (fls (fun _ => 0)) rfl rfl 26 _ A2.out (by rw [fls_size]; exact info_arr) (by simp) (fls_one (fun _ => 0)) ?_))
  have A0 := hid (A0.out.setRowOther (k := w.heap.size + 1 + 1) (by first | omega | (simp; done) | (simp; omega)) (fls (fun _ => 0)))
  have A1 := hid (A1.out.setRowOther (k := w.heap.size + 1 + 1) (by first | omega | (simp; done) | (simp; omega)) (fls (fun _ => 0)))
  have A2 := hid (A2.out.setRow (fun _ => 0))
  have c0 := below_row c0 (by first | omega | (simp; done) | (simp; omega)) (g := w.heap.size + 1 + 1) (fls (fun _ => 0))
  exact bodyPost_ret (results_row_tmp rfl _ _ (w.heap.size + 1 + 1) 26 (fls (fun _ => 0)) (0, 0) _ rfl A2.out Try.underlying26 rfl (by rw [fls_size]; exact info_arr)) rfl ⟨rfl, c0⟩

set_option maxRecDepth 100000 in
theorem iMixSizes_bad2 (c : Nat → Nat) (h : Amts c) (d : Nat → Nat) (hb : ∀ i, i < 20 → d i < 4294967296) (hd : ¬ Amts d) (x : Nat) (w : World) :
    Calls Try.prog 34 #[.agg (fls c), .agg (fls d), .float .f32 x] w fun e w' => e = .returned (.tuple #[.agg (fls (fun _ => 0)), .int .i64 1]) ∧ Below w.heap.size w w' := by
  have A0 := hid (((arrAt.new w c 26).alloc (.cells (fls d) 26)).alloc (.cells (fls (fun _ => 0)) 26))
  have A1 := hid ((new1 w (.cells (fls c) 26) d 26).alloc (.cells (fls (fun _ => 0)) 26))
  have A2 := hid (new2 w (.cells (fls c) 26) (.cells (fls d) 26) (fun _ => 0) 26)
  have b0 := boxed3 w (.cells (fls c) 26) (.cells (fls d) 26) (.cells (fls (fun _ => 0)) 26)
  have Hhb := hid hb
  have Hh := hid h
  have Hhd := hid hd
  clear hb h hd
  go_enter Try.func34, Try.ntmps34
  go_wp2_with (first | (refine wpList_load_row rfl 26 _ rfl (w.heap.size) rfl 26 (fls c) (0, 0) _ A0.out Try.underlying26 rfl (by rw [fls_size]; exact info_arr) ?_))
  refine (validSizes_t c Hh.out _).mono ?_
  rintro e w0 ⟨rfl, hb0⟩
  have A0 := hid (A0.out.stay hb0)
  have A1 := hid (A1.out.stay hb0)
  have A2 := hid (A2.out.stay hb0)
  have c0 := stp b0 (Nat.le_refl _) hb0
  go_wp2_with (first | (refine wpList_load_g rfl 26 _ rfl (w.heap.size + 1) rfl 26 (fls d) (0, 0) _ A1.out Try.underlying26 rfl (by rw [fls_size]; exact info_arr) ?_))
  refine (validSizes_f d Hhb.out Hhd.out _).mono ?_
  rintro e w1 ⟨rfl, hb1⟩
  have A0 := hid (A0.out.stay hb1)
  have A1 := hid (A1.out.stay hb1)
  have A2 := hid (A2.out.stay hb1)
  have c1 := stp c0 (Nat.le_refl _) hb1
  go_wp2_with (first | (refine wpList_store_row rfl 26 _ _ rfl (w.heap.size + 1 + 1) (fls (fun _ => 0)) rfl rfl 26 _ A2.out (by rw [fls_size]; exact info_arr) (by simp) (fls_one (fun _ => 0)) ?_))
  have A0 := hid (A0.out.setRowOther (k := w.heap.size + 1 + 1) (by first | omega | (simp; done) | (simp; omega)) (fls (fun _ => 0)))
  have A1 := hid (A1.out.setRowOther (k := w.heap.size + 1 + 1) (by first | omega | (simp; done) | (simp; omega)) (fls (fun _ => 0)))
  have A2 := hid (A2.out.setRow (fun _ => 0))
  have c1 := below_row c1 (by first | omega | (simp; done) | (simp; omega)) (g := w.heap.size + 1 + 1) (fls (fun _ => 0))
  exact bodyPost_ret (results_row_tmp rfl _ _ (w.heap.size + 1 + 1) 26 (fls (fun _ => 0)) (0, 0) _ rfl A2.out Try.underlying26 rfl (by rw [fls_size]; exact info_arr)) rfl ⟨rfl, c1⟩

set_option maxRecDepth 100000 in
theorem iMixSizes_range (c : Nat → Nat) (h : Amts c) (d : Nat → Nat) (hd : Amts d) (x : Nat) (hx : x < 4294967296) (hn : ¬ Share x) (w : World) :
    Calls Try.prog 34 #[.agg (fls c), .agg (fls d), .float .f32 x] w fun e w' => e = .returned (.tuple #[.agg (fls (fun _ => 0)), .int .i64 2]) ∧ Below w.heap.size w w' := by
  have A0 := hid (((arrAt.new w c 26).alloc (.cells (fls d) 26)).alloc (.cells (fls (fun _ => 0)) 26))
  have A1 := hid ((new1 w (.cells (fls c) 26) d 26).alloc (.cells (fls (fun _ => 0)) 26))
  have A2 := hid (new2 w (.cells (fls c) 26) (.cells (fls d) 26) (fun _ => 0) 26)
  have b0 := boxed3 w (.cells (fls c) 26) (.cells (fls d) 26) (.cells (fls (fun _ => 0)) 26)
  have Hh := hid h
  have Hhd := hid hd
  have Hhx := hid hx
  have Hhn := hid hn
  clear h hd hx hn
  go_enter Try.func34, Try.ntmps34
  go_wp2_with (first | (refine wpList_load_row rfl 26 _ rfl (w.heap.size) rfl 26 (fls c) (0, 0) _ A0.out Try.underlying26 rfl (by rw [fls_size]; exact info_arr) ?_))
  refine (validSizes_t c Hh.out _).mono ?_
  rintro e w0 ⟨rfl, hb0⟩
  have A0 := hid (A0.out.stay hb0)
  have A1 := hid (A1.out.stay hb0)
  have A2 := hid (A2.out.stay hb0)
  have c0 := stp b0 (Nat.le_refl _) hb0
  go_wp2_with (first | (refine wpList_load_g rfl 26 _ rfl (w.heap.size + 1) rfl 26 (fls d) (0, 0) _ A1.out Try.underlying26 rfl (by rw [fls_size]; exact info_arr) ?_))
  refine (validSizes_t d Hhd.out _).mono ?_
  rintro e w1 ⟨rfl, hb1⟩
  have A0 := hid (A0.out.stay hb1)
  have A1 := hid (A1.out.stay hb1)
  have A2 := hid (A2.out.stay hb1)
  have c1 := stp c0 (Nat.le_refl _) hb1
  go_wp2_with fail
  refine (iShare_f x Hhx.out Hhn.out _).mono ?_
  rintro e w2 ⟨rfl, hb2⟩
  have A0 := hid (A0.out.stay hb2)
  have A1 := hid (A1.out.stay hb2)
  have A2 := hid (A2.out.stay hb2)
  have c2 := stp c1 (Nat.le_refl _) hb2
  go_wp2_with (first | (refine wpList_store_row rfl 26 _ _ rfl (w.heap.size + 1 + 1) (fls (fun _ => 0)) rfl rfl 26 _ A2.out (by rw [fls_size]; exact info_arr) (by simp) (fls_one (fun _ => 0)) ?_))
  have A0 := hid (A0.out.setRowOther (k := w.heap.size + 1 + 1) (by first | omega | (simp; done) | (simp; omega)) (fls (fun _ => 0)))
  have A1 := hid (A1.out.setRowOther (k := w.heap.size + 1 + 1) (by first | omega | (simp; done) | (simp; omega)) (fls (fun _ => 0)))
  have A2 := hid (A2.out.setRow (fun _ => 0))
  have c2 := below_row c2 (by first | omega | (simp; done) | (simp; omega)) (g := w.heap.size + 1 + 1) (fls (fun _ => 0))
  exact bodyPost_ret (results_row_tmp rfl _ _ (w.heap.size + 1 + 1) 26 (fls (fun _ => 0)) (0, 0) _ rfl A2.out Try.underlying26 rfl (by rw [fls_size]; exact info_arr)) rfl ⟨rfl, c2⟩

theorem run_sMixSizes3 (a : Act) (x0 : Operand) (v0 : Value) (h0 : a.eval x0 = v0) (x1 : Operand) (v1 : Value) (h1 : a.eval x1 = v1) (x2 : Operand) (v2 : Value) (h2 : a.eval x2 = v2) (d : Option Tmp) (ats : Array TypeId) (t : TypeId) (ps : String) (af : Array Edge) (gd : Option (Nat × Bool)) (w : World) :
    (execOp a.eval ⟨d, .call { callee := .value (.func 70), args := #[x0, x1, x2], argTypes := ats }, t, ps, af, gd⟩).run Try.prog w = .ok (.enter 70 #[v0, v1, v2]) w := by
  subst h0 h1 h2
  unfold execOp
  go_simp

theorem run_iMixSizes3 (a : Act) (x0 : Operand) (v0 : Value) (h0 : a.eval x0 = v0) (x1 : Operand) (v1 : Value) (h1 : a.eval x1 = v1) (x2 : Operand) (v2 : Value) (h2 : a.eval x2 = v2) (d : Option Tmp) (ats : Array TypeId) (t : TypeId) (ps : String) (af : Array Edge) (gd : Option (Nat × Bool)) (w : World) :
    (execOp a.eval ⟨d, .call { callee := .value (.func 34), args := #[x0, x1, x2], argTypes := ats }, t, ps, af, gd⟩).run Try.prog w = .ok (.enter 34 #[v0, v1, v2]) w := by
  subst h0 h1 h2
  unfold execOp
  go_simp

set_option maxRecDepth 100000 in
set_option maxHeartbeats 2000000 in
theorem coreMixSizes (x0 : Nat → Nat) (x1 : Nat → Nat) (x2 : Nat) (r0 : Nat → Nat) (hl0 : ∀ i, i < 20 → r0 i < 4294967296) (hf0 : ∀ i, i < 20 → finB (r0 i) = true) (r1 : Int)
    (hS : ∀ w, Calls Try.prog 70 #[.agg (fls x0), .agg (fls x1), .float .f32 x2] w fun e w' => e = .returned (.tuple #[.agg (fls r0), .int .i64 r1]) ∧ Below w.heap.size w w')
    (hI : ∀ w, Calls Try.prog 34 #[.agg (fls x0), .agg (fls x1), .float .f32 x2] w fun e w' => e = .returned (.tuple #[.agg (fls r0), .int .i64 r1]) ∧ Below w.heap.size w w') (w : World) :
    Calls Try.prog 13 #[.agg (fls x0), .agg (fls x1), .float .f32 x2] w fun e w' => e = .returned (.bool true) ∧ Below w.heap.size w w' := by
  have k0 : Hid (Kept w [(w.heap.size, fls x0, 25), (w.heap.size + 1, fls x1, 25)] ((w.alloc (.cells (fls x0) 25)).alloc (.cells (fls x1) 25))) := hid ((((Kept.nil w).push (fls x0) 25).push (fls x1) 25).sub (by simp))
  have HS := hid hS
  have HI := hid hI
  clear hS hI
  have Hl0 := hid hl0
  have Hf0 := hid hf0
  clear hl0 hf0
  go_enter Try.func13, Try.ntmps13
  go_wp2_with fail
  rename_i Q1 K1 hK1
  have key1 : ∀ (a0 : Nat) (w1 : World), Hid (Kept w [(a0, fls r0, 26), (w.heap.size, fls x0, 25), (w.heap.size + 1, fls x1, 25)] w1) → K1 { tmps := (.agg (fls x0) :: .agg (fls x1) :: .float .f32 x2 :: .pointer (some ⟨w.heap.size, 0, none⟩) :: .pointer (some ⟨w.heap.size + 1, 0, none⟩) :: undef :: .bool false :: .pointer (some ⟨a0, 0, none⟩) :: .int .i64 r1 :: undef :: undef :: .tuple #[.agg (fls r0), .int .i64 r1] :: .agg (fls x0) :: .agg (fls x0) :: .agg (fls x1) :: .agg (fls x1) :: .float .f32 x2 :: .tuple #[.agg (fls r0), .int .i64 r1] :: .agg (fls r0) :: .int .i64 r1 :: undef :: undef :: undef :: undef :: undef :: undef :: undef :: undef :: undef :: undef :: undef :: undef :: undef :: undef :: undef :: undef :: undef :: undef :: []).toArray, defers := [] } w1 := by
    intro a0 w1 k1
    clear k0
    go_wp2_with fail
    rename_i K2 hK2
    have key2 : ∀ (b0 : Nat) (w2 : World), Hid (Kept w [(b0, fls r0, 26), (a0, fls r0, 26), (w.heap.size, fls x0, 25), (w.heap.size + 1, fls x1, 25)] w2) → K2 { tmps := (.agg (fls x0) :: .agg (fls x1) :: .float .f32 x2 :: .pointer (some ⟨w.heap.size, 0, none⟩) :: .pointer (some ⟨w.heap.size + 1, 0, none⟩) :: undef :: .bool false :: .pointer (some ⟨a0, 0, none⟩) :: .int .i64 r1 :: .pointer (some ⟨b0, 0, none⟩) :: .int .i64 r1 :: .tuple #[.agg (fls r0), .int .i64 r1] :: .agg (fls x0) :: .agg (fls x0) :: .agg (fls x1) :: .agg (fls x1) :: .float .f32 x2 :: .tuple #[.agg (fls r0), .int .i64 r1] :: .agg (fls r0) :: .int .i64 r1 :: .tuple #[.agg (fls r0), .int .i64 r1] :: .agg (fls x0) :: .agg (fls x0) :: .agg (fls x1) :: .agg (fls x1) :: .float .f32 x2 :: .tuple #[.agg (fls r0), .int .i64 r1] :: .agg (fls r0) :: .int .i64 r1 :: undef :: undef :: undef :: undef :: undef :: undef :: undef :: undef :: undef :: []).toArray, defers := [] } w2 := by
      intro b0 w2 k2
      clear k1 HS HI
      go_wp2_with (first | (refine wpList_load_row rfl 26 _ rfl (b0) rfl 26 (fls r0) (0, 0) _ (k2.out.at (x := (b0, fls r0, 26)) (by simp)) Try.underlying26 rfl (by rw [fls_size]; exact info_arr) ?_) | (refine wpList_load_row rfl 26 _ rfl (a0) rfl 26 (fls r0) (0, 0) _ (k2.out.at (x := (a0, fls r0, 26)) (by simp)) Try.underlying26 rfl (by rw [fls_size]; exact info_arr) ?_))
      refine (eqSizes r0 Hl0.out Hf0.out _).mono ?_
      rintro e w3 ⟨rfl, hb3⟩
      have k3 := hid (k2.out.stay hb3)
      go_wp2
      all_goals go_ret
      all_goals exact ⟨rfl, k3.out.1⟩
    refine region_kept (w0 := w) (l := [(a0, fls r0, 26), (w.heap.size, fls x0, 25), (w.heap.size + 1, fls x1, 25)]) 12 #[false, false, false, false, false, false, false, false, false, false, false, false] (by kernel_rfl) rfl rfl ?_
    have kd := k1.out.drew
    clear k1
    generalize w1.drew = wd at kd ⊢
    refine take_load 0 { tmps := (.agg (fls x0) :: .agg (fls x1) :: .float .f32 x2 :: .pointer (some ⟨w.heap.size, 0, none⟩) :: .pointer (some ⟨w.heap.size + 1, 0, none⟩) :: undef :: .bool false :: .pointer (some ⟨a0, 0, none⟩) :: .int .i64 r1 :: undef :: undef :: .tuple #[.agg (fls r0), .int .i64 r1] :: .agg (fls x0) :: .agg (fls x0) :: .agg (fls x1) :: .agg (fls x1) :: .float .f32 x2 :: .tuple #[.agg (fls r0), .int .i64 r1] :: .agg (fls r0) :: .int .i64 r1 :: undef :: .agg (fls x0) :: undef :: undef :: undef :: undef :: undef :: undef :: undef :: undef :: undef :: undef :: undef :: undef :: undef :: undef :: undef :: undef :: []).toArray, defers := [] } #[true, false, false, false, false, false, false, false, false, false, false, false] rfl (by rfl) (by kernel_rfl) (by kernel_rfl) (by kernel_rfl) 25 _ rfl (w.heap.size) (fls x0) 25 (by rfl) (by simp) _ Try.underlying25 rfl (by rw [fls_size]; exact info_a20) (by rfl) (by rfl) (kd) ?_
    refine take_load 2 { tmps := (.agg (fls x0) :: .agg (fls x1) :: .float .f32 x2 :: .pointer (some ⟨w.heap.size, 0, none⟩) :: .pointer (some ⟨w.heap.size + 1, 0, none⟩) :: undef :: .bool false :: .pointer (some ⟨a0, 0, none⟩) :: .int .i64 r1 :: undef :: undef :: .tuple #[.agg (fls r0), .int .i64 r1] :: .agg (fls x0) :: .agg (fls x0) :: .agg (fls x1) :: .agg (fls x1) :: .float .f32 x2 :: .tuple #[.agg (fls r0), .int .i64 r1] :: .agg (fls r0) :: .int .i64 r1 :: undef :: .agg (fls x0) :: undef :: .agg (fls x1) :: undef :: undef :: undef :: undef :: undef :: undef :: undef :: undef :: undef :: undef :: undef :: undef :: undef :: undef :: []).toArray, defers := [] } #[true, false, true, false, false, false, false, false, false, false, false, false] rfl (by rfl) (by kernel_rfl) (by kernel_rfl) (by kernel_rfl) 25 _ rfl (w.heap.size + 1) (fls x1) 25 (by rfl) (by simp) _ Try.underlying25 rfl (by rw [fls_size]; exact info_a20) (by rfl) (by rfl) (kd) ?_
    refine take_val 4 { tmps := (.agg (fls x0) :: .agg (fls x1) :: .float .f32 x2 :: .pointer (some ⟨w.heap.size, 0, none⟩) :: .pointer (some ⟨w.heap.size + 1, 0, none⟩) :: undef :: .bool false :: .pointer (some ⟨a0, 0, none⟩) :: .int .i64 r1 :: undef :: undef :: .tuple #[.agg (fls r0), .int .i64 r1] :: .agg (fls x0) :: .agg (fls x0) :: .agg (fls x1) :: .agg (fls x1) :: .float .f32 x2 :: .tuple #[.agg (fls r0), .int .i64 r1] :: .agg (fls r0) :: .int .i64 r1 :: undef :: .agg (fls x0) :: undef :: .agg (fls x1) :: undef :: .float .f32 x2 :: undef :: undef :: undef :: undef :: undef :: undef :: undef :: undef :: undef :: undef :: undef :: undef :: []).toArray, defers := [] } #[true, false, true, false, true, false, false, false, false, false, false, false] (.float .f32 x2) rfl (by rfl) (by kernel_rfl) (by kernel_rfl) (by kernel_rfl) (fun w => by rfl) (by rfl) (by rfl) (kd) ?_
    refine wpAnyH_ready (rs := [1, 9]) (by kernel_rfl) (by simp) ?_
    refine callK 1 { tmps := (.agg (fls x0) :: .agg (fls x1) :: .float .f32 x2 :: .pointer (some ⟨w.heap.size, 0, none⟩) :: .pointer (some ⟨w.heap.size + 1, 0, none⟩) :: undef :: .bool false :: .pointer (some ⟨a0, 0, none⟩) :: .int .i64 r1 :: undef :: undef :: .tuple #[.agg (fls r0), .int .i64 r1] :: .agg (fls x0) :: .agg (fls x0) :: .agg (fls x1) :: .agg (fls x1) :: .float .f32 x2 :: .tuple #[.agg (fls r0), .int .i64 r1] :: .agg (fls r0) :: .int .i64 r1 :: undef :: .agg (fls x0) :: .agg (fls x0) :: .agg (fls x1) :: undef :: .float .f32 x2 :: undef :: undef :: undef :: undef :: undef :: undef :: undef :: undef :: undef :: undef :: undef :: undef :: []).toArray, defers := [] } #[true, true, true, false, true, false, false, false, false, false, false, false] (.agg (fls x0)) kd rfl (by rfl) 58 #[.agg (fls x0)] (run_toSizes1 _ _ _ rfl _ _ _ _ _ _) (by rfl) (by rfl) (toSizes _ _) (fun w1 k1 => ?_) ?_
    · refine ⟨k1, ?_⟩
      refine wpAnyH_ready (rs := [3, 9]) (by kernel_rfl) (by simp) ?_
      refine callK 3 { tmps := (.agg (fls x0) :: .agg (fls x1) :: .float .f32 x2 :: .pointer (some ⟨w.heap.size, 0, none⟩) :: .pointer (some ⟨w.heap.size + 1, 0, none⟩) :: undef :: .bool false :: .pointer (some ⟨a0, 0, none⟩) :: .int .i64 r1 :: undef :: undef :: .tuple #[.agg (fls r0), .int .i64 r1] :: .agg (fls x0) :: .agg (fls x0) :: .agg (fls x1) :: .agg (fls x1) :: .float .f32 x2 :: .tuple #[.agg (fls r0), .int .i64 r1] :: .agg (fls r0) :: .int .i64 r1 :: undef :: .agg (fls x0) :: .agg (fls x0) :: .agg (fls x1) :: .agg (fls x1) :: .float .f32 x2 :: undef :: undef :: undef :: undef :: undef :: undef :: undef :: undef :: undef :: undef :: undef :: undef :: []).toArray, defers := [] } #[true, true, true, true, true, false, false, false, false, false, false, false] (.agg (fls x1)) k1 rfl (by rfl) 58 #[.agg (fls x1)] (run_toSizes1 _ _ _ rfl _ _ _ _ _ _) (by rfl) (by rfl) (toSizes _ _) (fun w2 k2 => ?_) ?_
      · refine ⟨k2, ?_⟩
        refine wpAnyH_ready (rs := [5, 9]) (by kernel_rfl) (by simp) ?_
        refine callK 5 { tmps := (.agg (fls x0) :: .agg (fls x1) :: .float .f32 x2 :: .pointer (some ⟨w.heap.size, 0, none⟩) :: .pointer (some ⟨w.heap.size + 1, 0, none⟩) :: undef :: .bool false :: .pointer (some ⟨a0, 0, none⟩) :: .int .i64 r1 :: undef :: undef :: .tuple #[.agg (fls r0), .int .i64 r1] :: .agg (fls x0) :: .agg (fls x0) :: .agg (fls x1) :: .agg (fls x1) :: .float .f32 x2 :: .tuple #[.agg (fls r0), .int .i64 r1] :: .agg (fls r0) :: .int .i64 r1 :: undef :: .agg (fls x0) :: .agg (fls x0) :: .agg (fls x1) :: .agg (fls x1) :: .float .f32 x2 :: .tuple #[.agg (fls r0), .int .i64 r1] :: undef :: undef :: undef :: undef :: undef :: undef :: undef :: undef :: undef :: undef :: undef :: []).toArray, defers := [] } #[true, true, true, true, true, true, false, false, false, false, false, false] (.tuple #[.agg (fls r0), .int .i64 r1]) k2 rfl (by rfl) 34 #[.agg (fls x0), .agg (fls x1), .float .f32 x2] (run_iMixSizes3 _ _ _ rfl _ _ rfl _ _ rfl _ _ _ _ _ _) (by rfl) (by rfl) (HI.out _) (fun w3 k3 => ?_) ?_
        · refine ⟨k3, ?_⟩
          refine take_val 6 { tmps := (.agg (fls x0) :: .agg (fls x1) :: .float .f32 x2 :: .pointer (some ⟨w.heap.size, 0, none⟩) :: .pointer (some ⟨w.heap.size + 1, 0, none⟩) :: undef :: .bool false :: .pointer (some ⟨a0, 0, none⟩) :: .int .i64 r1 :: undef :: undef :: .tuple #[.agg (fls r0), .int .i64 r1] :: .agg (fls x0) :: .agg (fls x0) :: .agg (fls x1) :: .agg (fls x1) :: .float .f32 x2 :: .tuple #[.agg (fls r0), .int .i64 r1] :: .agg (fls r0) :: .int .i64 r1 :: .tuple #[.agg (fls r0), .int .i64 r1] :: .agg (fls x0) :: .agg (fls x0) :: .agg (fls x1) :: .agg (fls x1) :: .float .f32 x2 :: .tuple #[.agg (fls r0), .int .i64 r1] :: undef :: undef :: undef :: undef :: undef :: undef :: undef :: undef :: undef :: undef :: undef :: []).toArray, defers := [] } #[true, true, true, true, true, true, true, false, false, false, false, false] (.tuple #[.agg (fls r0), .int .i64 r1]) rfl (by rfl) (by kernel_rfl) (by kernel_rfl) (by kernel_rfl) (fun w => by rfl) (by rfl) (by rfl) (k3) ?_
          refine take_val 7 { tmps := (.agg (fls x0) :: .agg (fls x1) :: .float .f32 x2 :: .pointer (some ⟨w.heap.size, 0, none⟩) :: .pointer (some ⟨w.heap.size + 1, 0, none⟩) :: undef :: .bool false :: .pointer (some ⟨a0, 0, none⟩) :: .int .i64 r1 :: undef :: undef :: .tuple #[.agg (fls r0), .int .i64 r1] :: .agg (fls x0) :: .agg (fls x0) :: .agg (fls x1) :: .agg (fls x1) :: .float .f32 x2 :: .tuple #[.agg (fls r0), .int .i64 r1] :: .agg (fls r0) :: .int .i64 r1 :: .tuple #[.agg (fls r0), .int .i64 r1] :: .agg (fls x0) :: .agg (fls x0) :: .agg (fls x1) :: .agg (fls x1) :: .float .f32 x2 :: .tuple #[.agg (fls r0), .int .i64 r1] :: .agg (fls r0) :: undef :: undef :: undef :: undef :: undef :: undef :: undef :: undef :: undef :: undef :: []).toArray, defers := [] } #[true, true, true, true, true, true, true, true, false, false, false, false] (.agg (fls r0)) rfl (by rfl) (by kernel_rfl) (by kernel_rfl) (by kernel_rfl) (fun w => by rfl) (by rfl) (by rfl) (k3) ?_
          refine take_val 8 { tmps := (.agg (fls x0) :: .agg (fls x1) :: .float .f32 x2 :: .pointer (some ⟨w.heap.size, 0, none⟩) :: .pointer (some ⟨w.heap.size + 1, 0, none⟩) :: undef :: .bool false :: .pointer (some ⟨a0, 0, none⟩) :: .int .i64 r1 :: undef :: undef :: .tuple #[.agg (fls r0), .int .i64 r1] :: .agg (fls x0) :: .agg (fls x0) :: .agg (fls x1) :: .agg (fls x1) :: .float .f32 x2 :: .tuple #[.agg (fls r0), .int .i64 r1] :: .agg (fls r0) :: .int .i64 r1 :: .tuple #[.agg (fls r0), .int .i64 r1] :: .agg (fls x0) :: .agg (fls x0) :: .agg (fls x1) :: .agg (fls x1) :: .float .f32 x2 :: .tuple #[.agg (fls r0), .int .i64 r1] :: .agg (fls r0) :: .int .i64 r1 :: undef :: undef :: undef :: undef :: undef :: undef :: undef :: undef :: undef :: []).toArray, defers := [] } #[true, true, true, true, true, true, true, true, true, false, false, false] (.int .i64 r1) rfl (by rfl) (by kernel_rfl) (by kernel_rfl) (by kernel_rfl) (fun w => by rfl) (by rfl) (by rfl) (k3) ?_
          refine wpAnyH_ready (rs := [9]) (by kernel_rfl) (by simp) ?_
          refine allocK 9 (fun g4 => { tmps := (.agg (fls x0) :: .agg (fls x1) :: .float .f32 x2 :: .pointer (some ⟨w.heap.size, 0, none⟩) :: .pointer (some ⟨w.heap.size + 1, 0, none⟩) :: undef :: .bool false :: .pointer (some ⟨a0, 0, none⟩) :: .int .i64 r1 :: .pointer (some ⟨g4, 0, none⟩) :: undef :: .tuple #[.agg (fls r0), .int .i64 r1] :: .agg (fls x0) :: .agg (fls x0) :: .agg (fls x1) :: .agg (fls x1) :: .float .f32 x2 :: .tuple #[.agg (fls r0), .int .i64 r1] :: .agg (fls r0) :: .int .i64 r1 :: .tuple #[.agg (fls r0), .int .i64 r1] :: .agg (fls x0) :: .agg (fls x0) :: .agg (fls x1) :: .agg (fls x1) :: .float .f32 x2 :: .tuple #[.agg (fls r0), .int .i64 r1] :: .agg (fls r0) :: .int .i64 r1 :: undef :: undef :: undef :: undef :: undef :: undef :: undef :: undef :: undef :: []).toArray, defers := [] }) #[true, true, true, true, true, true, true, true, true, true, false, false] k3 rfl (by rfl) (fls fun _ => 0) 26 (alloc_sizes _ _ _ _ _ _ _) (fun g => by rfl) (by rfl) (fun w4 g4 k4 hB4 hn4 => ?_) AllReadyH.nil
          refine ⟨k4.tail, ?_⟩
          refine wpAnyH_ready (rs := [10]) (by kernel_rfl) (by simp) ?_
          refine storeK 10 { tmps := (.agg (fls x0) :: .agg (fls x1) :: .float .f32 x2 :: .pointer (some ⟨w.heap.size, 0, none⟩) :: .pointer (some ⟨w.heap.size + 1, 0, none⟩) :: undef :: .bool false :: .pointer (some ⟨a0, 0, none⟩) :: .int .i64 r1 :: .pointer (some ⟨g4, 0, none⟩) :: undef :: .tuple #[.agg (fls r0), .int .i64 r1] :: .agg (fls x0) :: .agg (fls x0) :: .agg (fls x1) :: .agg (fls x1) :: .float .f32 x2 :: .tuple #[.agg (fls r0), .int .i64 r1] :: .agg (fls r0) :: .int .i64 r1 :: .tuple #[.agg (fls r0), .int .i64 r1] :: .agg (fls x0) :: .agg (fls x0) :: .agg (fls x1) :: .agg (fls x1) :: .float .f32 x2 :: .tuple #[.agg (fls r0), .int .i64 r1] :: .agg (fls r0) :: .int .i64 r1 :: undef :: undef :: undef :: undef :: undef :: undef :: undef :: undef :: undef :: []).toArray, defers := [] } #[true, true, true, true, true, true, true, true, true, true, true, false] k4 hB4 hn4 rfl (by rfl) 26 _ _ rfl (fls r0) (by rfl) (by rfl) (by rw [fls_size]; exact info_arr) (by simp) (fls_one _) (by rfl) (by rfl) (fun w5 k5 => ?_) AllReadyH.nil
          refine ⟨k5.tail, ?_⟩
          refine take_val 11 { tmps := (.agg (fls x0) :: .agg (fls x1) :: .float .f32 x2 :: .pointer (some ⟨w.heap.size, 0, none⟩) :: .pointer (some ⟨w.heap.size + 1, 0, none⟩) :: undef :: .bool false :: .pointer (some ⟨a0, 0, none⟩) :: .int .i64 r1 :: .pointer (some ⟨g4, 0, none⟩) :: .int .i64 r1 :: .tuple #[.agg (fls r0), .int .i64 r1] :: .agg (fls x0) :: .agg (fls x0) :: .agg (fls x1) :: .agg (fls x1) :: .float .f32 x2 :: .tuple #[.agg (fls r0), .int .i64 r1] :: .agg (fls r0) :: .int .i64 r1 :: .tuple #[.agg (fls r0), .int .i64 r1] :: .agg (fls x0) :: .agg (fls x0) :: .agg (fls x1) :: .agg (fls x1) :: .float .f32 x2 :: .tuple #[.agg (fls r0), .int .i64 r1] :: .agg (fls r0) :: .int .i64 r1 :: undef :: undef :: undef :: undef :: undef :: undef :: undef :: undef :: undef :: []).toArray, defers := [] } #[true, true, true, true, true, true, true, true, true, true, true, true] (.int .i64 r1) rfl (by rfl) (by kernel_rfl) (by kernel_rfl) (by kernel_rfl) (fun w => by rfl) (by rfl) (by rfl) (k5.tail) ?_
          exact wpAnyH_done (by kernel_rfl) (NoPanic.normal (key2 g4 _ (hid k5))) _
        refine allocK 9 (fun g6 => { tmps := (.agg (fls x0) :: .agg (fls x1) :: .float .f32 x2 :: .pointer (some ⟨w.heap.size, 0, none⟩) :: .pointer (some ⟨w.heap.size + 1, 0, none⟩) :: undef :: .bool false :: .pointer (some ⟨a0, 0, none⟩) :: .int .i64 r1 :: .pointer (some ⟨g6, 0, none⟩) :: undef :: .tuple #[.agg (fls r0), .int .i64 r1] :: .agg (fls x0) :: .agg (fls x0) :: .agg (fls x1) :: .agg (fls x1) :: .float .f32 x2 :: .tuple #[.agg (fls r0), .int .i64 r1] :: .agg (fls r0) :: .int .i64 r1 :: undef :: .agg (fls x0) :: .agg (fls x0) :: .agg (fls x1) :: .agg (fls x1) :: .float .f32 x2 :: undef :: undef :: undef :: undef :: undef :: undef :: undef :: undef :: undef :: undef :: undef :: undef :: []).toArray, defers := [] }) #[true, true, true, true, true, false, false, false, false, true, false, false] k2 rfl (by rfl) (fls fun _ => 0) 26 (alloc_sizes _ _ _ _ _ _ _) (fun g => by rfl) (by rfl) (fun w6 g6 k6 hB6 hn6 => ?_) AllReadyH.nil
        refine ⟨k6.tail, ?_⟩
        refine wpAnyH_ready (rs := [5]) (by kernel_rfl) (by simp) ?_
        refine callK 5 { tmps := (.agg (fls x0) :: .agg (fls x1) :: .float .f32 x2 :: .pointer (some ⟨w.heap.size, 0, none⟩) :: .pointer (some ⟨w.heap.size + 1, 0, none⟩) :: undef :: .bool false :: .pointer (some ⟨a0, 0, none⟩) :: .int .i64 r1 :: .pointer (some ⟨g6, 0, none⟩) :: undef :: .tuple #[.agg (fls r0), .int .i64 r1] :: .agg (fls x0) :: .agg (fls x0) :: .agg (fls x1) :: .agg (fls x1) :: .float .f32 x2 :: .tuple #[.agg (fls r0), .int .i64 r1] :: .agg (fls r0) :: .int .i64 r1 :: undef :: .agg (fls x0) :: .agg (fls x0) :: .agg (fls x1) :: .agg (fls x1) :: .float .f32 x2 :: .tuple #[.agg (fls r0), .int .i64 r1] :: undef :: undef :: undef :: undef :: undef :: undef :: undef :: undef :: undef :: undef :: undef :: []).toArray, defers := [] } #[true, true, true, true, true, true, false, false, false, true, false, false] (.tuple #[.agg (fls r0), .int .i64 r1]) k6 rfl (by rfl) 34 #[.agg (fls x0), .agg (fls x1), .float .f32 x2] (run_iMixSizes3 _ _ _ rfl _ _ rfl _ _ rfl _ _ _ _ _ _) (by rfl) (by rfl) (HI.out _) (fun w7 k7 => ?_) AllReadyH.nil
        refine ⟨k7.tail, ?_⟩
        refine take_val 6 { tmps := (.agg (fls x0) :: .agg (fls x1) :: .float .f32 x2 :: .pointer (some ⟨w.heap.size, 0, none⟩) :: .pointer (some ⟨w.heap.size + 1, 0, none⟩) :: undef :: .bool false :: .pointer (some ⟨a0, 0, none⟩) :: .int .i64 r1 :: .pointer (some ⟨g6, 0, none⟩) :: undef :: .tuple #[.agg (fls r0), .int .i64 r1] :: .agg (fls x0) :: .agg (fls x0) :: .agg (fls x1) :: .agg (fls x1) :: .float .f32 x2 :: .tuple #[.agg (fls r0), .int .i64 r1] :: .agg (fls r0) :: .int .i64 r1 :: .tuple #[.agg (fls r0), .int .i64 r1] :: .agg (fls x0) :: .agg (fls x0) :: .agg (fls x1) :: .agg (fls x1) :: .float .f32 x2 :: .tuple #[.agg (fls r0), .int .i64 r1] :: undef :: undef :: undef :: undef :: undef :: undef :: undef :: undef :: undef :: undef :: undef :: []).toArray, defers := [] } #[true, true, true, true, true, true, true, false, false, true, false, false] (.tuple #[.agg (fls r0), .int .i64 r1]) rfl (by rfl) (by kernel_rfl) (by kernel_rfl) (by kernel_rfl) (fun w => by rfl) (by rfl) (by rfl) (k7.tail) ?_
        refine take_val 7 { tmps := (.agg (fls x0) :: .agg (fls x1) :: .float .f32 x2 :: .pointer (some ⟨w.heap.size, 0, none⟩) :: .pointer (some ⟨w.heap.size + 1, 0, none⟩) :: undef :: .bool false :: .pointer (some ⟨a0, 0, none⟩) :: .int .i64 r1 :: .pointer (some ⟨g6, 0, none⟩) :: undef :: .tuple #[.agg (fls r0), .int .i64 r1] :: .agg (fls x0) :: .agg (fls x0) :: .agg (fls x1) :: .agg (fls x1) :: .float .f32 x2 :: .tuple #[.agg (fls r0), .int .i64 r1] :: .agg (fls r0) :: .int .i64 r1 :: .tuple #[.agg (fls r0), .int .i64 r1] :: .agg (fls x0) :: .agg (fls x0) :: .agg (fls x1) :: .agg (fls x1) :: .float .f32 x2 :: .tuple #[.agg (fls r0), .int .i64 r1] :: .agg (fls r0) :: undef :: undef :: undef :: undef :: undef :: undef :: undef :: undef :: undef :: undef :: []).toArray, defers := [] } #[true, true, true, true, true, true, true, true, false, true, false, false] (.agg (fls r0)) rfl (by rfl) (by kernel_rfl) (by kernel_rfl) (by kernel_rfl) (fun w => by rfl) (by rfl) (by rfl) (k7.tail) ?_
        refine take_val 8 { tmps := (.agg (fls x0) :: .agg (fls x1) :: .float .f32 x2 :: .pointer (some ⟨w.heap.size, 0, none⟩) :: .pointer (some ⟨w.heap.size + 1, 0, none⟩) :: undef :: .bool false :: .pointer (some ⟨a0, 0, none⟩) :: .int .i64 r1 :: .pointer (some ⟨g6, 0, none⟩) :: undef :: .tuple #[.agg (fls r0), .int .i64 r1] :: .agg (fls x0) :: .agg (fls x0) :: .agg (fls x1) :: .agg (fls x1) :: .float .f32 x2 :: .tuple #[.agg (fls r0), .int .i64 r1] :: .agg (fls r0) :: .int .i64 r1 :: .tuple #[.agg (fls r0), .int .i64 r1] :: .agg (fls x0) :: .agg (fls x0) :: .agg (fls x1) :: .agg (fls x1) :: .float .f32 x2 :: .tuple #[.agg (fls r0), .int .i64 r1] :: .agg (fls r0) :: .int .i64 r1 :: undef :: undef :: undef :: undef :: undef :: undef :: undef :: undef :: undef :: []).toArray, defers := [] } #[true, true, true, true, true, true, true, true, true, true, false, false] (.int .i64 r1) rfl (by rfl) (by kernel_rfl) (by kernel_rfl) (by kernel_rfl) (fun w => by rfl) (by rfl) (by rfl) (k7.tail) ?_
        refine wpAnyH_ready (rs := [10]) (by kernel_rfl) (by simp) ?_
        refine storeK 10 { tmps := (.agg (fls x0) :: .agg (fls x1) :: .float .f32 x2 :: .pointer (some ⟨w.heap.size, 0, none⟩) :: .pointer (some ⟨w.heap.size + 1, 0, none⟩) :: undef :: .bool false :: .pointer (some ⟨a0, 0, none⟩) :: .int .i64 r1 :: .pointer (some ⟨g6, 0, none⟩) :: undef :: .tuple #[.agg (fls r0), .int .i64 r1] :: .agg (fls x0) :: .agg (fls x0) :: .agg (fls x1) :: .agg (fls x1) :: .float .f32 x2 :: .tuple #[.agg (fls r0), .int .i64 r1] :: .agg (fls r0) :: .int .i64 r1 :: .tuple #[.agg (fls r0), .int .i64 r1] :: .agg (fls x0) :: .agg (fls x0) :: .agg (fls x1) :: .agg (fls x1) :: .float .f32 x2 :: .tuple #[.agg (fls r0), .int .i64 r1] :: .agg (fls r0) :: .int .i64 r1 :: undef :: undef :: undef :: undef :: undef :: undef :: undef :: undef :: undef :: []).toArray, defers := [] } #[true, true, true, true, true, true, true, true, true, true, true, false] k7 hB6 hn6 rfl (by rfl) 26 _ _ rfl (fls r0) (by rfl) (by rfl) (by rw [fls_size]; exact info_arr) (by simp) (fls_one _) (by rfl) (by rfl) (fun w8 k8 => ?_) AllReadyH.nil
        refine ⟨k8.tail, ?_⟩
        refine take_val 11 { tmps := (.agg (fls x0) :: .agg (fls x1) :: .float .f32 x2 :: .pointer (some ⟨w.heap.size, 0, none⟩) :: .pointer (some ⟨w.heap.size + 1, 0, none⟩) :: undef :: .bool false :: .pointer (some ⟨a0, 0, none⟩) :: .int .i64 r1 :: .pointer (some ⟨g6, 0, none⟩) :: .int .i64 r1 :: .tuple #[.agg (fls r0), .int .i64 r1] :: .agg (fls x0) :: .agg (fls x0) :: .agg (fls x1) :: .agg (fls x1) :: .float .f32 x2 :: .tuple #[.agg (fls r0), .int .i64 r1] :: .agg (fls r0) :: .int .i64 r1 :: .tuple #[.agg (fls r0), .int .i64 r1] :: .agg (fls x0) :: .agg (fls x0) :: .agg (fls x1) :: .agg (fls x1) :: .float .f32 x2 :: .tuple #[.agg (fls r0), .int .i64 r1] :: .agg (fls r0) :: .int .i64 r1 :: undef :: undef :: undef :: undef :: undef :: undef :: undef :: undef :: undef :: []).toArray, defers := [] } #[true, true, true, true, true, true, true, true, true, true, true, true] (.int .i64 r1) rfl (by rfl) (by kernel_rfl) (by kernel_rfl) (by kernel_rfl) (fun w => by rfl) (by rfl) (by rfl) (k8.tail) ?_
        exact wpAnyH_done (by kernel_rfl) (NoPanic.normal (key2 g6 _ (hid k8))) _
      refine allocK 9 (fun g9 => { tmps := (.agg (fls x0) :: .agg (fls x1) :: .float .f32 x2 :: .pointer (some ⟨w.heap.size, 0, none⟩) :: .pointer (some ⟨w.heap.size + 1, 0, none⟩) :: undef :: .bool false :: .pointer (some ⟨a0, 0, none⟩) :: .int .i64 r1 :: .pointer (some ⟨g9, 0, none⟩) :: undef :: .tuple #[.agg (fls r0), .int .i64 r1] :: .agg (fls x0) :: .agg (fls x0) :: .agg (fls x1) :: .agg (fls x1) :: .float .f32 x2 :: .tuple #[.agg (fls r0), .int .i64 r1] :: .agg (fls r0) :: .int .i64 r1 :: undef :: .agg (fls x0) :: .agg (fls x0) :: .agg (fls x1) :: undef :: .float .f32 x2 :: undef :: undef :: undef :: undef :: undef :: undef :: undef :: undef :: undef :: undef :: undef :: undef :: []).toArray, defers := [] }) #[true, true, true, false, true, false, false, false, false, true, false, false] k1 rfl (by rfl) (fls fun _ => 0) 26 (alloc_sizes _ _ _ _ _ _ _) (fun g => by rfl) (by rfl) (fun w9 g9 k9 hB9 hn9 => ?_) AllReadyH.nil
      refine ⟨k9.tail, ?_⟩
      refine wpAnyH_ready (rs := [3]) (by kernel_rfl) (by simp) ?_
      refine callK 3 { tmps := (.agg (fls x0) :: .agg (fls x1) :: .float .f32 x2 :: .pointer (some ⟨w.heap.size, 0, none⟩) :: .pointer (some ⟨w.heap.size + 1, 0, none⟩) :: undef :: .bool false :: .pointer (some ⟨a0, 0, none⟩) :: .int .i64 r1 :: .pointer (some ⟨g9, 0, none⟩) :: undef :: .tuple #[.agg (fls r0), .int .i64 r1] :: .agg (fls x0) :: .agg (fls x0) :: .agg (fls x1) :: .agg (fls x1) :: .float .f32 x2 :: .tuple #[.agg (fls r0), .int .i64 r1] :: .agg (fls r0) :: .int .i64 r1 :: undef :: .agg (fls x0) :: .agg (fls x0) :: .agg (fls x1) :: .agg (fls x1) :: .float .f32 x2 :: undef :: undef :: undef :: undef :: undef :: undef :: undef :: undef :: undef :: undef :: undef :: undef :: []).toArray, defers := [] } #[true, true, true, true, true, false, false, false, false, true, false, false] (.agg (fls x1)) k9 rfl (by rfl) 58 #[.agg (fls x1)] (run_toSizes1 _ _ _ rfl _ _ _ _ _ _) (by rfl) (by rfl) (toSizes _ _) (fun w10 k10 => ?_) AllReadyH.nil
      refine ⟨k10.tail, ?_⟩
      refine wpAnyH_ready (rs := [5]) (by kernel_rfl) (by simp) ?_
      refine callK 5 { tmps := (.agg (fls x0) :: .agg (fls x1) :: .float .f32 x2 :: .pointer (some ⟨w.heap.size, 0, none⟩) :: .pointer (some ⟨w.heap.size + 1, 0, none⟩) :: undef :: .bool false :: .pointer (some ⟨a0, 0, none⟩) :: .int .i64 r1 :: .pointer (some ⟨g9, 0, none⟩) :: undef :: .tuple #[.agg (fls r0), .int .i64 r1] :: .agg (fls x0) :: .agg (fls x0) :: .agg (fls x1) :: .agg (fls x1) :: .float .f32 x2 :: .tuple #[.agg (fls r0), .int .i64 r1] :: .agg (fls r0) :: .int .i64 r1 :: undef :: .agg (fls x0) :: .agg (fls x0) :: .agg (fls x1) :: .agg (fls x1) :: .float .f32 x2 :: .tuple #[.agg (fls r0), .int .i64 r1] :: undef :: undef :: undef :: undef :: undef :: undef :: undef :: undef :: undef :: undef :: undef :: []).toArray, defers := [] } #[true, true, true, true, true, true, false, false, false, true, false, false] (.tuple #[.agg (fls r0), .int .i64 r1]) k10 rfl (by rfl) 34 #[.agg (fls x0), .agg (fls x1), .float .f32 x2] (run_iMixSizes3 _ _ _ rfl _ _ rfl _ _ rfl _ _ _ _ _ _) (by rfl) (by rfl) (HI.out _) (fun w11 k11 => ?_) AllReadyH.nil
      refine ⟨k11.tail, ?_⟩
      refine take_val 6 { tmps := (.agg (fls x0) :: .agg (fls x1) :: .float .f32 x2 :: .pointer (some ⟨w.heap.size, 0, none⟩) :: .pointer (some ⟨w.heap.size + 1, 0, none⟩) :: undef :: .bool false :: .pointer (some ⟨a0, 0, none⟩) :: .int .i64 r1 :: .pointer (some ⟨g9, 0, none⟩) :: undef :: .tuple #[.agg (fls r0), .int .i64 r1] :: .agg (fls x0) :: .agg (fls x0) :: .agg (fls x1) :: .agg (fls x1) :: .float .f32 x2 :: .tuple #[.agg (fls r0), .int .i64 r1] :: .agg (fls r0) :: .int .i64 r1 :: .tuple #[.agg (fls r0), .int .i64 r1] :: .agg (fls x0) :: .agg (fls x0) :: .agg (fls x1) :: .agg (fls x1) :: .float .f32 x2 :: .tuple #[.agg (fls r0), .int .i64 r1] :: undef :: undef :: undef :: undef :: undef :: undef :: undef :: undef :: undef :: undef :: undef :: []).toArray, defers := [] } #[true, true, true, true, true, true, true, false, false, true, false, false] (.tuple #[.agg (fls r0), .int .i64 r1]) rfl (by rfl) (by kernel_rfl) (by kernel_rfl) (by kernel_rfl) (fun w => by rfl) (by rfl) (by rfl) (k11.tail) ?_
      refine take_val 7 { tmps := (.agg (fls x0) :: .agg (fls x1) :: .float .f32 x2 :: .pointer (some ⟨w.heap.size, 0, none⟩) :: .pointer (some ⟨w.heap.size + 1, 0, none⟩) :: undef :: .bool false :: .pointer (some ⟨a0, 0, none⟩) :: .int .i64 r1 :: .pointer (some ⟨g9, 0, none⟩) :: undef :: .tuple #[.agg (fls r0), .int .i64 r1] :: .agg (fls x0) :: .agg (fls x0) :: .agg (fls x1) :: .agg (fls x1) :: .float .f32 x2 :: .tuple #[.agg (fls r0), .int .i64 r1] :: .agg (fls r0) :: .int .i64 r1 :: .tuple #[.agg (fls r0), .int .i64 r1] :: .agg (fls x0) :: .agg (fls x0) :: .agg (fls x1) :: .agg (fls x1) :: .float .f32 x2 :: .tuple #[.agg (fls r0), .int .i64 r1] :: .agg (fls r0) :: undef :: undef :: undef :: undef :: undef :: undef :: undef :: undef :: undef :: undef :: []).toArray, defers := [] } #[true, true, true, true, true, true, true, true, false, true, false, false] (.agg (fls r0)) rfl (by rfl) (by kernel_rfl) (by kernel_rfl) (by kernel_rfl) (fun w => by rfl) (by rfl) (by rfl) (k11.tail) ?_
      refine take_val 8 { tmps := (.agg (fls x0) :: .agg (fls x1) :: .float .f32 x2 :: .pointer (some ⟨w.heap.size, 0, none⟩) :: .pointer (some ⟨w.heap.size + 1, 0, none⟩) :: undef :: .bool false :: .pointer (some ⟨a0, 0, none⟩) :: .int .i64 r1 :: .pointer (some ⟨g9, 0, none⟩) :: undef :: .tuple #[.agg (fls r0), .int .i64 r1] :: .agg (fls x0) :: .agg (fls x0) :: .agg (fls x1) :: .agg (fls x1) :: .float .f32 x2 :: .tuple #[.agg (fls r0), .int .i64 r1] :: .agg (fls r0) :: .int .i64 r1 :: .tuple #[.agg (fls r0), .int .i64 r1] :: .agg (fls x0) :: .agg (fls x0) :: .agg (fls x1) :: .agg (fls x1) :: .float .f32 x2 :: .tuple #[.agg (fls r0), .int .i64 r1] :: .agg (fls r0) :: .int .i64 r1 :: undef :: undef :: undef :: undef :: undef :: undef :: undef :: undef :: undef :: []).toArray, defers := [] } #[true, true, true, true, true, true, true, true, true, true, false, false] (.int .i64 r1) rfl (by rfl) (by kernel_rfl) (by kernel_rfl) (by kernel_rfl) (fun w => by rfl) (by rfl) (by rfl) (k11.tail) ?_
      refine wpAnyH_ready (rs := [10]) (by kernel_rfl) (by simp) ?_
      refine storeK 10 { tmps := (.agg (fls x0) :: .agg (fls x1) :: .float .f32 x2 :: .pointer (some ⟨w.heap.size, 0, none⟩) :: .pointer (some ⟨w.heap.size + 1, 0, none⟩) :: undef :: .bool false :: .pointer (some ⟨a0, 0, none⟩) :: .int .i64 r1 :: .pointer (some ⟨g9, 0, none⟩) :: undef :: .tuple #[.agg (fls r0), .int .i64 r1] :: .agg (fls x0) :: .agg (fls x0) :: .agg (fls x1) :: .agg (fls x1) :: .float .f32 x2 :: .tuple #[.agg (fls r0), .int .i64 r1] :: .agg (fls r0) :: .int .i64 r1 :: .tuple #[.agg (fls r0), .int .i64 r1] :: .agg (fls x0) :: .agg (fls x0) :: .agg (fls x1) :: .agg (fls x1) :: .float .f32 x2 :: .tuple #[.agg (fls r0), .int .i64 r1] :: .agg (fls r0) :: .int .i64 r1 :: undef :: undef :: undef :: undef :: undef :: undef :: undef :: undef :: undef :: []).toArray, defers := [] } #[true, true, true, true, true, true, true, true, true, true, true, false] k11 hB9 hn9 rfl (by rfl) 26 _ _ rfl (fls r0) (by rfl) (by rfl) (by rw [fls_size]; exact info_arr) (by simp) (fls_one _) (by rfl) (by rfl) (fun w12 k12 => ?_) AllReadyH.nil
      refine ⟨k12.tail, ?_⟩
      refine take_val 11 { tmps := (.agg (fls x0) :: .agg (fls x1) :: .float .f32 x2 :: .pointer (some ⟨w.heap.size, 0, none⟩) :: .pointer (some ⟨w.heap.size + 1, 0, none⟩) :: undef :: .bool false :: .pointer (some ⟨a0, 0, none⟩) :: .int .i64 r1 :: .pointer (some ⟨g9, 0, none⟩) :: .int .i64 r1 :: .tuple #[.agg (fls r0), .int .i64 r1] :: .agg (fls x0) :: .agg (fls x0) :: .agg (fls x1) :: .agg (fls x1) :: .float .f32 x2 :: .tuple #[.agg (fls r0), .int .i64 r1] :: .agg (fls r0) :: .int .i64 r1 :: .tuple #[.agg (fls r0), .int .i64 r1] :: .agg (fls x0) :: .agg (fls x0) :: .agg (fls x1) :: .agg (fls x1) :: .float .f32 x2 :: .tuple #[.agg (fls r0), .int .i64 r1] :: .agg (fls r0) :: .int .i64 r1 :: undef :: undef :: undef :: undef :: undef :: undef :: undef :: undef :: undef :: []).toArray, defers := [] } #[true, true, true, true, true, true, true, true, true, true, true, true] (.int .i64 r1) rfl (by rfl) (by kernel_rfl) (by kernel_rfl) (by kernel_rfl) (fun w => by rfl) (by rfl) (by rfl) (k12.tail) ?_
      exact wpAnyH_done (by kernel_rfl) (NoPanic.normal (key2 g9 _ (hid k12))) _
    refine allocK 9 (fun g13 => { tmps := (.agg (fls x0) :: .agg (fls x1) :: .float .f32 x2 :: .pointer (some ⟨w.heap.size, 0, none⟩) :: .pointer (some ⟨w.heap.size + 1, 0, none⟩) :: undef :: .bool false :: .pointer (some ⟨a0, 0, none⟩) :: .int .i64 r1 :: .pointer (some ⟨g13, 0, none⟩) :: undef :: .tuple #[.agg (fls r0), .int .i64 r1] :: .agg (fls x0) :: .agg (fls x0) :: .agg (fls x1) :: .agg (fls x1) :: .float .f32 x2 :: .tuple #[.agg (fls r0), .int .i64 r1] :: .agg (fls r0) :: .int .i64 r1 :: undef :: .agg (fls x0) :: undef :: .agg (fls x1) :: undef :: .float .f32 x2 :: undef :: undef :: undef :: undef :: undef :: undef :: undef :: undef :: undef :: undef :: undef :: undef :: []).toArray, defers := [] }) #[true, false, true, false, true, false, false, false, false, true, false, false] kd rfl (by rfl) (fls fun _ => 0) 26 (alloc_sizes _ _ _ _ _ _ _) (fun g => by rfl) (by rfl) (fun w13 g13 k13 hB13 hn13 => ?_) AllReadyH.nil
    refine ⟨k13.tail, ?_⟩
    refine wpAnyH_ready (rs := [1]) (by kernel_rfl) (by simp) ?_
    refine callK 1 { tmps := (.agg (fls x0) :: .agg (fls x1) :: .float .f32 x2 :: .pointer (some ⟨w.heap.size, 0, none⟩) :: .pointer (some ⟨w.heap.size + 1, 0, none⟩) :: undef :: .bool false :: .pointer (some ⟨a0, 0, none⟩) :: .int .i64 r1 :: .pointer (some ⟨g13, 0, none⟩) :: undef :: .tuple #[.agg (fls r0), .int .i64 r1] :: .agg (fls x0) :: .agg (fls x0) :: .agg (fls x1) :: .agg (fls x1) :: .float .f32 x2 :: .tuple #[.agg (fls r0), .int .i64 r1] :: .agg (fls r0) :: .int .i64 r1 :: undef :: .agg (fls x0) :: .agg (fls x0) :: .agg (fls x1) :: undef :: .float .f32 x2 :: undef :: undef :: undef :: undef :: undef :: undef :: undef :: undef :: undef :: undef :: undef :: undef :: []).toArray, defers := [] } #[true, true, true, false, true, false, false, false, false, true, false, false] (.agg (fls x0)) k13 rfl (by rfl) 58 #[.agg (fls x0)] (run_toSizes1 _ _ _ rfl _ _ _ _ _ _) (by rfl) (by rfl) (toSizes _ _) (fun w14 k14 => ?_) AllReadyH.nil
    refine ⟨k14.tail, ?_⟩
    refine wpAnyH_ready (rs := [3]) (by kernel_rfl) (by simp) ?_
    refine callK 3 { tmps := (.agg (fls x0) :: .agg (fls x1) :: .float .f32 x2 :: .pointer (some ⟨w.heap.size, 0, none⟩) :: .pointer (some ⟨w.heap.size + 1, 0, none⟩) :: undef :: .bool false :: .pointer (some ⟨a0, 0, none⟩) :: .int .i64 r1 :: .pointer (some ⟨g13, 0, none⟩) :: undef :: .tuple #[.agg (fls r0), .int .i64 r1] :: .agg (fls x0) :: .agg (fls x0) :: .agg (fls x1) :: .agg (fls x1) :: .float .f32 x2 :: .tuple #[.agg (fls r0), .int .i64 r1] :: .agg (fls r0) :: .int .i64 r1 :: undef :: .agg (fls x0) :: .agg (fls x0) :: .agg (fls x1) :: .agg (fls x1) :: .float .f32 x2 :: undef :: undef :: undef :: undef :: undef :: undef :: undef :: undef :: undef :: undef :: undef :: undef :: []).toArray, defers := [] } #[true, true, true, true, true, false, false, false, false, true, false, false] (.agg (fls x1)) k14 rfl (by rfl) 58 #[.agg (fls x1)] (run_toSizes1 _ _ _ rfl _ _ _ _ _ _) (by rfl) (by rfl) (toSizes _ _) (fun w15 k15 => ?_) AllReadyH.nil
    refine ⟨k15.tail, ?_⟩
    refine wpAnyH_ready (rs := [5]) (by kernel_rfl) (by simp) ?_
    refine callK 5 { tmps := (.agg (fls x0) :: .agg (fls x1) :: .float .f32 x2 :: .pointer (some ⟨w.heap.size, 0, none⟩) :: .pointer (some ⟨w.heap.size + 1, 0, none⟩) :: undef :: .bool false :: .pointer (some ⟨a0, 0, none⟩) :: .int .i64 r1 :: .pointer (some ⟨g13, 0, none⟩) :: undef :: .tuple #[.agg (fls r0), .int .i64 r1] :: .agg (fls x0) :: .agg (fls x0) :: .agg (fls x1) :: .agg (fls x1) :: .float .f32 x2 :: .tuple #[.agg (fls r0), .int .i64 r1] :: .agg (fls r0) :: .int .i64 r1 :: undef :: .agg (fls x0) :: .agg (fls x0) :: .agg (fls x1) :: .agg (fls x1) :: .float .f32 x2 :: .tuple #[.agg (fls r0), .int .i64 r1] :: undef :: undef :: undef :: undef :: undef :: undef :: undef :: undef :: undef :: undef :: undef :: []).toArray, defers := [] } #[true, true, true, true, true, true, false, false, false, true, false, false] (.tuple #[.agg (fls r0), .int .i64 r1]) k15 rfl (by rfl) 34 #[.agg (fls x0), .agg (fls x1), .float .f32 x2] (run_iMixSizes3 _ _ _ rfl _ _ rfl _ _ rfl _ _ _ _ _ _) (by rfl) (by rfl) (HI.out _) (fun w16 k16 => ?_) AllReadyH.nil
    refine ⟨k16.tail, ?_⟩
    refine take_val 6 { tmps := (.agg (fls x0) :: .agg (fls x1) :: .float .f32 x2 :: .pointer (some ⟨w.heap.size, 0, none⟩) :: .pointer (some ⟨w.heap.size + 1, 0, none⟩) :: undef :: .bool false :: .pointer (some ⟨a0, 0, none⟩) :: .int .i64 r1 :: .pointer (some ⟨g13, 0, none⟩) :: undef :: .tuple #[.agg (fls r0), .int .i64 r1] :: .agg (fls x0) :: .agg (fls x0) :: .agg (fls x1) :: .agg (fls x1) :: .float .f32 x2 :: .tuple #[.agg (fls r0), .int .i64 r1] :: .agg (fls r0) :: .int .i64 r1 :: .tuple #[.agg (fls r0), .int .i64 r1] :: .agg (fls x0) :: .agg (fls x0) :: .agg (fls x1) :: .agg (fls x1) :: .float .f32 x2 :: .tuple #[.agg (fls r0), .int .i64 r1] :: undef :: undef :: undef :: undef :: undef :: undef :: undef :: undef :: undef :: undef :: undef :: []).toArray, defers := [] } #[true, true, true, true, true, true, true, false, false, true, false, false] (.tuple #[.agg (fls r0), .int .i64 r1]) rfl (by rfl) (by kernel_rfl) (by kernel_rfl) (by kernel_rfl) (fun w => by rfl) (by rfl) (by rfl) (k16.tail) ?_
    refine take_val 7 { tmps := (.agg (fls x0) :: .agg (fls x1) :: .float .f32 x2 :: .pointer (some ⟨w.heap.size, 0, none⟩) :: .pointer (some ⟨w.heap.size + 1, 0, none⟩) :: undef :: .bool false :: .pointer (some ⟨a0, 0, none⟩) :: .int .i64 r1 :: .pointer (some ⟨g13, 0, none⟩) :: undef :: .tuple #[.agg (fls r0), .int .i64 r1] :: .agg (fls x0) :: .agg (fls x0) :: .agg (fls x1) :: .agg (fls x1) :: .float .f32 x2 :: .tuple #[.agg (fls r0), .int .i64 r1] :: .agg (fls r0) :: .int .i64 r1 :: .tuple #[.agg (fls r0), .int .i64 r1] :: .agg (fls x0) :: .agg (fls x0) :: .agg (fls x1) :: .agg (fls x1) :: .float .f32 x2 :: .tuple #[.agg (fls r0), .int .i64 r1] :: .agg (fls r0) :: undef :: undef :: undef :: undef :: undef :: undef :: undef :: undef :: undef :: undef :: []).toArray, defers := [] } #[true, true, true, true, true, true, true, true, false, true, false, false] (.agg (fls r0)) rfl (by rfl) (by kernel_rfl) (by kernel_rfl) (by kernel_rfl) (fun w => by rfl) (by rfl) (by rfl) (k16.tail) ?_
    refine take_val 8 { tmps := (.agg (fls x0) :: .agg (fls x1) :: .float .f32 x2 :: .pointer (some ⟨w.heap.size, 0, none⟩) :: .pointer (some ⟨w.heap.size + 1, 0, none⟩) :: undef :: .bool false :: .pointer (some ⟨a0, 0, none⟩) :: .int .i64 r1 :: .pointer (some ⟨g13, 0, none⟩) :: undef :: .tuple #[.agg (fls r0), .int .i64 r1] :: .agg (fls x0) :: .agg (fls x0) :: .agg (fls x1) :: .agg (fls x1) :: .float .f32 x2 :: .tuple #[.agg (fls r0), .int .i64 r1] :: .agg (fls r0) :: .int .i64 r1 :: .tuple #[.agg (fls r0), .int .i64 r1] :: .agg (fls x0) :: .agg (fls x0) :: .agg (fls x1) :: .agg (fls x1) :: .float .f32 x2 :: .tuple #[.agg (fls r0), .int .i64 r1] :: .agg (fls r0) :: .int .i64 r1 :: undef :: undef :: undef :: undef :: undef :: undef :: undef :: undef :: undef :: []).toArray, defers := [] } #[true, true, true, true, true, true, true, true, true, true, false, false] (.int .i64 r1) rfl (by rfl) (by kernel_rfl) (by kernel_rfl) (by kernel_rfl) (fun w => by rfl) (by rfl) (by rfl) (k16.tail) ?_
    refine wpAnyH_ready (rs := [10]) (by kernel_rfl) (by simp) ?_
    refine storeK 10 { tmps := (.agg (fls x0) :: .agg (fls x1) :: .float .f32 x2 :: .pointer (some ⟨w.heap.size, 0, none⟩) :: .pointer (some ⟨w.heap.size + 1, 0, none⟩) :: undef :: .bool false :: .pointer (some ⟨a0, 0, none⟩) :: .int .i64 r1 :: .pointer (some ⟨g13, 0, none⟩) :: undef :: .tuple #[.agg (fls r0), .int .i64 r1] :: .agg (fls x0) :: .agg (fls x0) :: .agg (fls x1) :: .agg (fls x1) :: .float .f32 x2 :: .tuple #[.agg (fls r0), .int .i64 r1] :: .agg (fls r0) :: .int .i64 r1 :: .tuple #[.agg (fls r0), .int .i64 r1] :: .agg (fls x0) :: .agg (fls x0) :: .agg (fls x1) :: .agg (fls x1) :: .float .f32 x2 :: .tuple #[.agg (fls r0), .int .i64 r1] :: .agg (fls r0) :: .int .i64 r1 :: undef :: undef :: undef :: undef :: undef :: undef :: undef :: undef :: undef :: []).toArray, defers := [] } #[true, true, true, true, true, true, true, true, true, true, true, false] k16 hB13 hn13 rfl (by rfl) 26 _ _ rfl (fls r0) (by rfl) (by rfl) (by rw [fls_size]; exact info_arr) (by simp) (fls_one _) (by rfl) (by rfl) (fun w17 k17 => ?_) AllReadyH.nil
    refine ⟨k17.tail, ?_⟩
    refine take_val 11 { tmps := (.agg (fls x0) :: .agg (fls x1) :: .float .f32 x2 :: .pointer (some ⟨w.heap.size, 0, none⟩) :: .pointer (some ⟨w.heap.size + 1, 0, none⟩) :: undef :: .bool false :: .pointer (some ⟨a0, 0, none⟩) :: .int .i64 r1 :: .pointer (some ⟨g13, 0, none⟩) :: .int .i64 r1 :: .tuple #[.agg (fls r0), .int .i64 r1] :: .agg (fls x0) :: .agg (fls x0) :: .agg (fls x1) :: .agg (fls x1) :: .float .f32 x2 :: .tuple #[.agg (fls r0), .int .i64 r1] :: .agg (fls r0) :: .int .i64 r1 :: .tuple #[.agg (fls r0), .int .i64 r1] :: .agg (fls x0) :: .agg (fls x0) :: .agg (fls x1) :: .agg (fls x1) :: .float .f32 x2 :: .tuple #[.agg (fls r0), .int .i64 r1] :: .agg (fls r0) :: .int .i64 r1 :: undef :: undef :: undef :: undef :: undef :: undef :: undef :: undef :: undef :: []).toArray, defers := [] } #[true, true, true, true, true, true, true, true, true, true, true, true] (.int .i64 r1) rfl (by rfl) (by kernel_rfl) (by kernel_rfl) (by kernel_rfl) (fun w => by rfl) (by rfl) (by rfl) (k17.tail) ?_
    exact wpAnyH_done (by kernel_rfl) (NoPanic.normal (key2 g13 _ (hid k17))) _
  refine region_kept (w0 := w) (l := [(w.heap.size, fls x0, 25), (w.heap.size + 1, fls x1, 25)]) 12 #[false, false, false, false, false, false, false, false, false, false, false, false] (by kernel_rfl) rfl rfl ?_
  have kd := k0.out.drew
  clear k0
  generalize ((w.alloc (.cells (fls x0) 25)).alloc (.cells (fls x1) 25)).drew = wd at kd ⊢
  refine take_load 0 { tmps := (.agg (fls x0) :: .agg (fls x1) :: .float .f32 x2 :: .pointer (some ⟨w.heap.size, 0, none⟩) :: .pointer (some ⟨w.heap.size + 1, 0, none⟩) :: undef :: .bool false :: undef :: undef :: undef :: undef :: undef :: .agg (fls x0) :: undef :: undef :: undef :: undef :: undef :: undef :: undef :: undef :: undef :: undef :: undef :: undef :: undef :: undef :: undef :: undef :: undef :: undef :: undef :: undef :: undef :: undef :: undef :: undef :: undef :: []).toArray, defers := [] } #[true, false, false, false, false, false, false, false, false, false, false, false] rfl (by rfl) (by kernel_rfl) (by kernel_rfl) (by kernel_rfl) 25 _ rfl (w.heap.size) (fls x0) 25 (by rfl) (by simp) _ Try.underlying25 rfl (by rw [fls_size]; exact info_a20) (by rfl) (by rfl) (kd) ?_
  refine take_load 2 { tmps := (.agg (fls x0) :: .agg (fls x1) :: .float .f32 x2 :: .pointer (some ⟨w.heap.size, 0, none⟩) :: .pointer (some ⟨w.heap.size + 1, 0, none⟩) :: undef :: .bool false :: undef :: undef :: undef :: undef :: undef :: .agg (fls x0) :: undef :: .agg (fls x1) :: undef :: undef :: undef :: undef :: undef :: undef :: undef :: undef :: undef :: undef :: undef :: undef :: undef :: undef :: undef :: undef :: undef :: undef :: undef :: undef :: undef :: undef :: undef :: []).toArray, defers := [] } #[true, false, true, false, false, false, false, false, false, false, false, false] rfl (by rfl) (by kernel_rfl) (by kernel_rfl) (by kernel_rfl) 25 _ rfl (w.heap.size + 1) (fls x1) 25 (by rfl) (by simp) _ Try.underlying25 rfl (by rw [fls_size]; exact info_a20) (by rfl) (by rfl) (kd) ?_
  refine take_val 4 { tmps := (.agg (fls x0) :: .agg (fls x1) :: .float .f32 x2 :: .pointer (some ⟨w.heap.size, 0, none⟩) :: .pointer (some ⟨w.heap.size + 1, 0, none⟩) :: undef :: .bool false :: undef :: undef :: undef :: undef :: undef :: .agg (fls x0) :: undef :: .agg (fls x1) :: undef :: .float .f32 x2 :: undef :: undef :: undef :: undef :: undef :: undef :: undef :: undef :: undef :: undef :: undef :: undef :: undef :: undef :: undef :: undef :: undef :: undef :: undef :: undef :: undef :: []).toArray, defers := [] } #[true, false, true, false, true, false, false, false, false, false, false, false] (.float .f32 x2) rfl (by rfl) (by kernel_rfl) (by kernel_rfl) (by kernel_rfl) (fun w => by rfl) (by rfl) (by rfl) (kd) ?_
  refine wpAnyH_ready (rs := [1, 9]) (by kernel_rfl) (by simp) ?_
  refine callK 1 { tmps := (.agg (fls x0) :: .agg (fls x1) :: .float .f32 x2 :: .pointer (some ⟨w.heap.size, 0, none⟩) :: .pointer (some ⟨w.heap.size + 1, 0, none⟩) :: undef :: .bool false :: undef :: undef :: undef :: undef :: undef :: .agg (fls x0) :: .agg (fls x0) :: .agg (fls x1) :: undef :: .float .f32 x2 :: undef :: undef :: undef :: undef :: undef :: undef :: undef :: undef :: undef :: undef :: undef :: undef :: undef :: undef :: undef :: undef :: undef :: undef :: undef :: undef :: undef :: []).toArray, defers := [] } #[true, true, true, false, true, false, false, false, false, false, false, false] (.agg (fls x0)) kd rfl (by rfl) 58 #[.agg (fls x0)] (run_toSizes1 _ _ _ rfl _ _ _ _ _ _) (by rfl) (by rfl) (toSizes _ _) (fun w1 k1 => ?_) ?_
  · refine ⟨k1, ?_⟩
    refine wpAnyH_ready (rs := [3, 9]) (by kernel_rfl) (by simp) ?_
    refine callK 3 { tmps := (.agg (fls x0) :: .agg (fls x1) :: .float .f32 x2 :: .pointer (some ⟨w.heap.size, 0, none⟩) :: .pointer (some ⟨w.heap.size + 1, 0, none⟩) :: undef :: .bool false :: undef :: undef :: undef :: undef :: undef :: .agg (fls x0) :: .agg (fls x0) :: .agg (fls x1) :: .agg (fls x1) :: .float .f32 x2 :: undef :: undef :: undef :: undef :: undef :: undef :: undef :: undef :: undef :: undef :: undef :: undef :: undef :: undef :: undef :: undef :: undef :: undef :: undef :: undef :: undef :: []).toArray, defers := [] } #[true, true, true, true, true, false, false, false, false, false, false, false] (.agg (fls x1)) k1 rfl (by rfl) 58 #[.agg (fls x1)] (run_toSizes1 _ _ _ rfl _ _ _ _ _ _) (by rfl) (by rfl) (toSizes _ _) (fun w2 k2 => ?_) ?_
    · refine ⟨k2, ?_⟩
      refine wpAnyH_ready (rs := [5, 9]) (by kernel_rfl) (by simp) ?_
      refine callK 5 { tmps := (.agg (fls x0) :: .agg (fls x1) :: .float .f32 x2 :: .pointer (some ⟨w.heap.size, 0, none⟩) :: .pointer (some ⟨w.heap.size + 1, 0, none⟩) :: undef :: .bool false :: undef :: undef :: undef :: undef :: undef :: .agg (fls x0) :: .agg (fls x0) :: .agg (fls x1) :: .agg (fls x1) :: .float .f32 x2 :: .tuple #[.agg (fls r0), .int .i64 r1] :: undef :: undef :: undef :: undef :: undef :: undef :: undef :: undef :: undef :: undef :: undef :: undef :: undef :: undef :: undef :: undef :: undef :: undef :: undef :: undef :: []).toArray, defers := [] } #[true, true, true, true, true, true, false, false, false, false, false, false] (.tuple #[.agg (fls r0), .int .i64 r1]) k2 rfl (by rfl) 70 #[.agg (fls x0), .agg (fls x1), .float .f32 x2] (run_sMixSizes3 _ _ _ rfl _ _ rfl _ _ rfl _ _ _ _ _ _) (by rfl) (by rfl) (HS.out _) (fun w3 k3 => ?_) ?_
      · refine ⟨k3, ?_⟩
        refine take_val 6 { tmps := (.agg (fls x0) :: .agg (fls x1) :: .float .f32 x2 :: .pointer (some ⟨w.heap.size, 0, none⟩) :: .pointer (some ⟨w.heap.size + 1, 0, none⟩) :: undef :: .bool false :: undef :: undef :: undef :: undef :: .tuple #[.agg (fls r0), .int .i64 r1] :: .agg (fls x0) :: .agg (fls x0) :: .agg (fls x1) :: .agg (fls x1) :: .float .f32 x2 :: .tuple #[.agg (fls r0), .int .i64 r1] :: undef :: undef :: undef :: undef :: undef :: undef :: undef :: undef :: undef :: undef :: undef :: undef :: undef :: undef :: undef :: undef :: undef :: undef :: undef :: undef :: []).toArray, defers := [] } #[true, true, true, true, true, true, true, false, false, false, false, false] (.tuple #[.agg (fls r0), .int .i64 r1]) rfl (by rfl) (by kernel_rfl) (by kernel_rfl) (by kernel_rfl) (fun w => by rfl) (by rfl) (by rfl) (k3) ?_
        refine take_val 7 { tmps := (.agg (fls x0) :: .agg (fls x1) :: .float .f32 x2 :: .pointer (some ⟨w.heap.size, 0, none⟩) :: .pointer (some ⟨w.heap.size + 1, 0, none⟩) :: undef :: .bool false :: undef :: undef :: undef :: undef :: .tuple #[.agg (fls r0), .int .i64 r1] :: .agg (fls x0) :: .agg (fls x0) :: .agg (fls x1) :: .agg (fls x1) :: .float .f32 x2 :: .tuple #[.agg (fls r0), .int .i64 r1] :: .agg (fls r0) :: undef :: undef :: undef :: undef :: undef :: undef :: undef :: undef :: undef :: undef :: undef :: undef :: undef :: undef :: undef :: undef :: undef :: undef :: undef :: []).toArray, defers := [] } #[true, true, true, true, true, true, true, true, false, false, false, false] (.agg (fls r0)) rfl (by rfl) (by kernel_rfl) (by kernel_rfl) (by kernel_rfl) (fun w => by rfl) (by rfl) (by rfl) (k3) ?_
        refine take_val 8 { tmps := (.agg (fls x0) :: .agg (fls x1) :: .float .f32 x2 :: .pointer (some ⟨w.heap.size, 0, none⟩) :: .pointer (some ⟨w.heap.size + 1, 0, none⟩) :: undef :: .bool false :: undef :: undef :: undef :: undef :: .tuple #[.agg (fls r0), .int .i64 r1] :: .agg (fls x0) :: .agg (fls x0) :: .agg (fls x1) :: .agg (fls x1) :: .float .f32 x2 :: .tuple #[.agg (fls r0), .int .i64 r1] :: .agg (fls r0) :: .int .i64 r1 :: undef :: undef :: undef :: undef :: undef :: undef :: undef :: undef :: undef :: undef :: undef :: undef :: undef :: undef :: undef :: undef :: undef :: undef :: []).toArray, defers := [] } #[true, true, true, true, true, true, true, true, true, false, false, false] (.int .i64 r1) rfl (by rfl) (by kernel_rfl) (by kernel_rfl) (by kernel_rfl) (fun w => by rfl) (by rfl) (by rfl) (k3) ?_
        refine wpAnyH_ready (rs := [9]) (by kernel_rfl) (by simp) ?_
        refine allocK 9 (fun g4 => { tmps := (.agg (fls x0) :: .agg (fls x1) :: .float .f32 x2 :: .pointer (some ⟨w.heap.size, 0, none⟩) :: .pointer (some ⟨w.heap.size + 1, 0, none⟩) :: undef :: .bool false :: .pointer (some ⟨g4, 0, none⟩) :: undef :: undef :: undef :: .tuple #[.agg (fls r0), .int .i64 r1] :: .agg (fls x0) :: .agg (fls x0) :: .agg (fls x1) :: .agg (fls x1) :: .float .f32 x2 :: .tuple #[.agg (fls r0), .int .i64 r1] :: .agg (fls r0) :: .int .i64 r1 :: undef :: undef :: undef :: undef :: undef :: undef :: undef :: undef :: undef :: undef :: undef :: undef :: undef :: undef :: undef :: undef :: undef :: undef :: []).toArray, defers := [] }) #[true, true, true, true, true, true, true, true, true, true, false, false] k3 rfl (by rfl) (fls fun _ => 0) 26 (alloc_sizes _ _ _ _ _ _ _) (fun g => by rfl) (by rfl) (fun w4 g4 k4 hB4 hn4 => ?_) AllReadyH.nil
        refine ⟨k4.tail, ?_⟩
        refine wpAnyH_ready (rs := [10]) (by kernel_rfl) (by simp) ?_
        refine storeK 10 { tmps := (.agg (fls x0) :: .agg (fls x1) :: .float .f32 x2 :: .pointer (some ⟨w.heap.size, 0, none⟩) :: .pointer (some ⟨w.heap.size + 1, 0, none⟩) :: undef :: .bool false :: .pointer (some ⟨g4, 0, none⟩) :: undef :: undef :: undef :: .tuple #[.agg (fls r0), .int .i64 r1] :: .agg (fls x0) :: .agg (fls x0) :: .agg (fls x1) :: .agg (fls x1) :: .float .f32 x2 :: .tuple #[.agg (fls r0), .int .i64 r1] :: .agg (fls r0) :: .int .i64 r1 :: undef :: undef :: undef :: undef :: undef :: undef :: undef :: undef :: undef :: undef :: undef :: undef :: undef :: undef :: undef :: undef :: undef :: undef :: []).toArray, defers := [] } #[true, true, true, true, true, true, true, true, true, true, true, false] k4 hB4 hn4 rfl (by rfl) 26 _ _ rfl (fls r0) (by rfl) (by rfl) (by rw [fls_size]; exact info_arr) (by simp) (fls_one _) (by rfl) (by rfl) (fun w5 k5 => ?_) AllReadyH.nil
        refine ⟨k5.tail, ?_⟩
        refine take_val 11 { tmps := (.agg (fls x0) :: .agg (fls x1) :: .float .f32 x2 :: .pointer (some ⟨w.heap.size, 0, none⟩) :: .pointer (some ⟨w.heap.size + 1, 0, none⟩) :: undef :: .bool false :: .pointer (some ⟨g4, 0, none⟩) :: .int .i64 r1 :: undef :: undef :: .tuple #[.agg (fls r0), .int .i64 r1] :: .agg (fls x0) :: .agg (fls x0) :: .agg (fls x1) :: .agg (fls x1) :: .float .f32 x2 :: .tuple #[.agg (fls r0), .int .i64 r1] :: .agg (fls r0) :: .int .i64 r1 :: undef :: undef :: undef :: undef :: undef :: undef :: undef :: undef :: undef :: undef :: undef :: undef :: undef :: undef :: undef :: undef :: undef :: undef :: []).toArray, defers := [] } #[true, true, true, true, true, true, true, true, true, true, true, true] (.int .i64 r1) rfl (by rfl) (by kernel_rfl) (by kernel_rfl) (by kernel_rfl) (fun w => by rfl) (by rfl) (by rfl) (k5.tail) ?_
        exact wpAnyH_done (by kernel_rfl) (NoPanic.normal (key1 g4 _ (hid k5))) _
      refine allocK 9 (fun g6 => { tmps := (.agg (fls x0) :: .agg (fls x1) :: .float .f32 x2 :: .pointer (some ⟨w.heap.size, 0, none⟩) :: .pointer (some ⟨w.heap.size + 1, 0, none⟩) :: undef :: .bool false :: .pointer (some ⟨g6, 0, none⟩) :: undef :: undef :: undef :: undef :: .agg (fls x0) :: .agg (fls x0) :: .agg (fls x1) :: .agg (fls x1) :: .float .f32 x2 :: undef :: undef :: undef :: undef :: undef :: undef :: undef :: undef :: undef :: undef :: undef :: undef :: undef :: undef :: undef :: undef :: undef :: undef :: undef :: undef :: undef :: []).toArray, defers := [] }) #[true, true, true, true, true, false, false, false, false, true, false, false] k2 rfl (by rfl) (fls fun _ => 0) 26 (alloc_sizes _ _ _ _ _ _ _) (fun g => by rfl) (by rfl) (fun w6 g6 k6 hB6 hn6 => ?_) AllReadyH.nil
      refine ⟨k6.tail, ?_⟩
      refine wpAnyH_ready (rs := [5]) (by kernel_rfl) (by simp) ?_
      refine callK 5 { tmps := (.agg (fls x0) :: .agg (fls x1) :: .float .f32 x2 :: .pointer (some ⟨w.heap.size, 0, none⟩) :: .pointer (some ⟨w.heap.size + 1, 0, none⟩) :: undef :: .bool false :: .pointer (some ⟨g6, 0, none⟩) :: undef :: undef :: undef :: undef :: .agg (fls x0) :: .agg (fls x0) :: .agg (fls x1) :: .agg (fls x1) :: .float .f32 x2 :: .tuple #[.agg (fls r0), .int .i64 r1] :: undef :: undef :: undef :: undef :: undef :: undef :: undef :: undef :: undef :: undef :: undef :: undef :: undef :: undef :: undef :: undef :: undef :: undef :: undef :: undef :: []).toArray, defers := [] } #[true, true, true, true, true, true, false, false, false, true, false, false] (.tuple #[.agg (fls r0), .int .i64 r1]) k6 rfl (by rfl) 70 #[.agg (fls x0), .agg (fls x1), .float .f32 x2] (run_sMixSizes3 _ _ _ rfl _ _ rfl _ _ rfl _ _ _ _ _ _) (by rfl) (by rfl) (HS.out _) (fun w7 k7 => ?_) AllReadyH.nil
      refine ⟨k7.tail, ?_⟩
      refine take_val 6 { tmps := (.agg (fls x0) :: .agg (fls x1) :: .float .f32 x2 :: .pointer (some ⟨w.heap.size, 0, none⟩) :: .pointer (some ⟨w.heap.size + 1, 0, none⟩) :: undef :: .bool false :: .pointer (some ⟨g6, 0, none⟩) :: undef :: undef :: undef :: .tuple #[.agg (fls r0), .int .i64 r1] :: .agg (fls x0) :: .agg (fls x0) :: .agg (fls x1) :: .agg (fls x1) :: .float .f32 x2 :: .tuple #[.agg (fls r0), .int .i64 r1] :: undef :: undef :: undef :: undef :: undef :: undef :: undef :: undef :: undef :: undef :: undef :: undef :: undef :: undef :: undef :: undef :: undef :: undef :: undef :: undef :: []).toArray, defers := [] } #[true, true, true, true, true, true, true, false, false, true, false, false] (.tuple #[.agg (fls r0), .int .i64 r1]) rfl (by rfl) (by kernel_rfl) (by kernel_rfl) (by kernel_rfl) (fun w => by rfl) (by rfl) (by rfl) (k7.tail) ?_
      refine take_val 7 { tmps := (.agg (fls x0) :: .agg (fls x1) :: .float .f32 x2 :: .pointer (some ⟨w.heap.size, 0, none⟩) :: .pointer (some ⟨w.heap.size + 1, 0, none⟩) :: undef :: .bool false :: .pointer (some ⟨g6, 0, none⟩) :: undef :: undef :: undef :: .tuple #[.agg (fls r0), .int .i64 r1] :: .agg (fls x0) :: .agg (fls x0) :: .agg (fls x1) :: .agg (fls x1) :: .float .f32 x2 :: .tuple #[.agg (fls r0), .int .i64 r1] :: .agg (fls r0) :: undef :: undef :: undef :: undef :: undef :: undef :: undef :: undef :: undef :: undef :: undef :: undef :: undef :: undef :: undef :: undef :: undef :: undef :: undef :: []).toArray, defers := [] } #[true, true, true, true, true, true, true, true, false, true, false, false] (.agg (fls r0)) rfl (by rfl) (by kernel_rfl) (by kernel_rfl) (by kernel_rfl) (fun w => by rfl) (by rfl) (by rfl) (k7.tail) ?_
      refine take_val 8 { tmps := (.agg (fls x0) :: .agg (fls x1) :: .float .f32 x2 :: .pointer (some ⟨w.heap.size, 0, none⟩) :: .pointer (some ⟨w.heap.size + 1, 0, none⟩) :: undef :: .bool false :: .pointer (some ⟨g6, 0, none⟩) :: undef :: undef :: undef :: .tuple #[.agg (fls r0), .int .i64 r1] :: .agg (fls x0) :: .agg (fls x0) :: .agg (fls x1) :: .agg (fls x1) :: .float .f32 x2 :: .tuple #[.agg (fls r0), .int .i64 r1] :: .agg (fls r0) :: .int .i64 r1 :: undef :: undef :: undef :: undef :: undef :: undef :: undef :: undef :: undef :: undef :: undef :: undef :: undef :: undef :: undef :: undef :: undef :: undef :: []).toArray, defers := [] } #[true, true, true, true, true, true, true, true, true, true, false, false] (.int .i64 r1) rfl (by rfl) (by kernel_rfl) (by kernel_rfl) (by kernel_rfl) (fun w => by rfl) (by rfl) (by rfl) (k7.tail) ?_
      refine wpAnyH_ready (rs := [10]) (by kernel_rfl) (by simp) ?_
      refine storeK 10 { tmps := (.agg (fls x0) :: .agg (fls x1) :: .float .f32 x2 :: .pointer (some ⟨w.heap.size, 0, none⟩) :: .pointer (some ⟨w.heap.size + 1, 0, none⟩) :: undef :: .bool false :: .pointer (some ⟨g6, 0, none⟩) :: undef :: undef :: undef :: .tuple #[.agg (fls r0), .int .i64 r1] :: .agg (fls x0) :: .agg (fls x0) :: .agg (fls x1) :: .agg (fls x1) :: .float .f32 x2 :: .tuple #[.agg (fls r0), .int .i64 r1] :: .agg (fls r0) :: .int .i64 r1 :: undef :: undef :: undef :: undef :: undef :: undef :: undef :: undef :: undef :: undef :: undef :: undef :: undef :: undef :: undef :: undef :: undef :: undef :: []).toArray, defers := [] } #[true, true, true, true, true, true, true, true, true, true, true, false] k7 hB6 hn6 rfl (by rfl) 26 _ _ rfl (fls r0) (by rfl) (by rfl) (by rw [fls_size]; exact info_arr) (by simp) (fls_one _) (by rfl) (by rfl) (fun w8 k8 => ?_) AllReadyH.nil
      refine ⟨k8.tail, ?_⟩
      refine take_val 11 { tmps := (.agg (fls x0) :: .agg (fls x1) :: .float .f32 x2 :: .pointer (some ⟨w.heap.size, 0, none⟩) :: .pointer (some ⟨w.heap.size + 1, 0, none⟩) :: undef :: .bool false :: .pointer (some ⟨g6, 0, none⟩) :: .int .i64 r1 :: undef :: undef :: .tuple #[.agg (fls r0), .int .i64 r1] :: .agg (fls x0) :: .agg (fls x0) :: .agg (fls x1) :: .agg (fls x1) :: .float .f32 x2 :: .tuple #[.agg (fls r0), .int .i64 r1] :: .agg (fls r0) :: .int .i64 r1 :: undef :: undef :: undef :: undef :: undef :: undef :: undef :: undef :: undef :: undef :: undef :: undef :: undef :: undef :: undef :: undef :: undef :: undef :: []).toArray, defers := [] } #[true, true, true, true, true, true, true, true, true, true, true, true] (.int .i64 r1) rfl (by rfl) (by kernel_rfl) (by kernel_rfl) (by kernel_rfl) (fun w => by rfl) (by rfl) (by rfl) (k8.tail) ?_
      exact wpAnyH_done (by kernel_rfl) (NoPanic.normal (key1 g6 _ (hid k8))) _
    refine allocK 9 (fun g9 => { tmps := (.agg (fls x0) :: .agg (fls x1) :: .float .f32 x2 :: .pointer (some ⟨w.heap.size, 0, none⟩) :: .pointer (some ⟨w.heap.size + 1, 0, none⟩) :: undef :: .bool false :: .pointer (some ⟨g9, 0, none⟩) :: undef :: undef :: undef :: undef :: .agg (fls x0) :: .agg (fls x0) :: .agg (fls x1) :: undef :: .float .f32 x2 :: undef :: undef :: undef :: undef :: undef :: undef :: undef :: undef :: undef :: undef :: undef :: undef :: undef :: undef :: undef :: undef :: undef :: undef :: undef :: undef :: undef :: []).toArray, defers := [] }) #[true, true, true, false, true, false, false, false, false, true, false, false] k1 rfl (by rfl) (fls fun _ => 0) 26 (alloc_sizes _ _ _ _ _ _ _) (fun g => by rfl) (by rfl) (fun w9 g9 k9 hB9 hn9 => ?_) AllReadyH.nil
    refine ⟨k9.tail, ?_⟩
    refine wpAnyH_ready (rs := [3]) (by kernel_rfl) (by simp) ?_
    refine callK 3 { tmps := (.agg (fls x0) :: .agg (fls x1) :: .float .f32 x2 :: .pointer (some ⟨w.heap.size, 0, none⟩) :: .pointer (some ⟨w.heap.size + 1, 0, none⟩) :: undef :: .bool false :: .pointer (some ⟨g9, 0, none⟩) :: undef :: undef :: undef :: undef :: .agg (fls x0) :: .agg (fls x0) :: .agg (fls x1) :: .agg (fls x1) :: .float .f32 x2 :: undef :: undef :: undef :: undef :: undef :: undef :: undef :: undef :: undef :: undef :: undef :: undef :: undef :: undef :: undef :: undef :: undef :: undef :: undef :: undef :: undef :: []).toArray, defers := [] } #[true, true, true, true, true, false, false, false, false, true, false, false] (.agg (fls x1)) k9 rfl (by rfl) 58 #[.agg (fls x1)] (run_toSizes1 _ _ _ rfl _ _ _ _ _ _) (by rfl) (by rfl) (toSizes _ _) (fun w10 k10 => ?_) AllReadyH.nil
    refine ⟨k10.tail, ?_⟩
    refine wpAnyH_ready (rs := [5]) (by kernel_rfl) (by simp) ?_
    refine callK 5 { tmps := (.agg (fls x0) :: .agg (fls x1) :: .float .f32 x2 :: .pointer (some ⟨w.heap.size, 0, none⟩) :: .pointer (some ⟨w.heap.size + 1, 0, none⟩) :: undef :: .bool false :: .pointer (some ⟨g9, 0, none⟩) :: undef :: undef :: undef :: undef :: .agg (fls x0) :: .agg (fls x0) :: .agg (fls x1) :: .agg (fls x1) :: .float .f32 x2 :: .tuple #[.agg (fls r0), .int .i64 r1] :: undef :: undef :: undef :: undef :: undef :: undef :: undef :: undef :: undef :: undef :: undef :: undef :: undef :: undef :: undef :: undef :: undef :: undef :: undef :: undef :: []).toArray, defers := [] } #[true, true, true, true, true, true, false, false, false, true, false, false] (.tuple #[.agg (fls r0), .int .i64 r1]) k10 rfl (by rfl) 70 #[.agg (fls x0), .agg (fls x1), .float .f32 x2] (run_sMixSizes3 _ _ _ rfl _ _ rfl _ _ rfl _ _ _ _ _ _) (by rfl) (by rfl) (HS.out _) (fun w11 k11 => ?_) AllReadyH.nil
    refine ⟨k11.tail, ?_⟩
    refine take_val 6 { tmps := (.agg (fls x0) :: .agg (fls x1) :: .float .f32 x2 :: .pointer (some ⟨w.heap.size, 0, none⟩) :: .pointer (some ⟨w.heap.size + 1, 0, none⟩) :: undef :: .bool false :: .pointer (some ⟨g9, 0, none⟩) :: undef :: undef :: undef :: .tuple #[.agg (fls r0), .int .i64 r1] :: .agg (fls x0) :: .agg (fls x0) :: .agg (fls x1) :: .agg (fls x1) :: .float .f32 x2 :: .tuple #[.agg (fls r0), .int .i64 r1] :: undef :: undef :: undef :: undef :: undef :: undef :: undef :: undef :: undef :: undef :: undef :: undef :: undef :: undef :: undef :: undef :: undef :: undef :: undef :: undef :: []).toArray, defers := [] } #[true, true, true, true, true, true, true, false, false, true, false, false] (.tuple #[.agg (fls r0), .int .i64 r1]) rfl (by rfl) (by kernel_rfl) (by kernel_rfl) (by kernel_rfl) (fun w => by rfl) (by rfl) (by rfl) (k11.tail) ?_
    refine take_val 7 { tmps := (.agg (fls x0) :: .agg (fls x1) :: .float .f32 x2 :: .pointer (some ⟨w.heap.size, 0, none⟩) :: .pointer (some ⟨w.heap.size + 1, 0, none⟩) :: undef :: .bool false :: .pointer (some ⟨g9, 0, none⟩) :: undef :: undef :: undef :: .tuple #[.agg (fls r0), .int .i64 r1] :: .agg (fls x0) :: .agg (fls x0) :: .agg (fls x1) :: .agg (fls x1) :: .float .f32 x2 :: .tuple #[.agg (fls r0), .int .i64 r1] :: .agg (fls r0) :: undef :: undef :: undef :: undef :: undef :: undef :: undef :: undef :: undef :: undef :: undef :: undef :: undef :: undef :: undef :: undef :: undef :: undef :: undef :: []).toArray, defers := [] } #[true, true, true, true, true, true, true, true, false, true, false, false] (.agg (fls r0)) rfl (by rfl) (by kernel_rfl) (by kernel_rfl) (by kernel_rfl) (fun w => by rfl) (by rfl) (by rfl) (k11.tail) ?_
    refine take_val 8 { tmps := (.agg (fls x0) :: .agg (fls x1) :: .float .f32 x2 :: .pointer (some ⟨w.heap.size, 0, none⟩) :: .pointer (some ⟨w.heap.size + 1, 0, none⟩) :: undef :: .bool false :: .pointer (some ⟨g9, 0, none⟩) :: undef :: undef :: undef :: .tuple #[.agg (fls r0), .int .i64 r1] :: .agg (fls x0) :: .agg (fls x0) :: .agg (fls x1) :: .agg (fls x1) :: .float .f32 x2 :: .tuple #[.agg (fls r0), .int .i64 r1] :: .agg (fls r0) :: .int .i64 r1 :: undef :: undef :: undef :: undef :: undef :: undef :: undef :: undef :: undef :: undef :: undef :: undef :: undef :: undef :: undef :: undef :: undef :: undef :: []).toArray, defers := [] } #[true, true, true, true, true, true, true, true, true, true, false, false] (.int .i64 r1) rfl (by rfl) (by kernel_rfl) (by kernel_rfl) (by kernel_rfl) (fun w => by rfl) (by rfl) (by rfl) (k11.tail) ?_
    refine wpAnyH_ready (rs := [10]) (by kernel_rfl) (by simp) ?_
    refine storeK 10 { tmps := (.agg (fls x0) :: .agg (fls x1) :: .float .f32 x2 :: .pointer (some ⟨w.heap.size, 0, none⟩) :: .pointer (some ⟨w.heap.size + 1, 0, none⟩) :: undef :: .bool false :: .pointer (some ⟨g9, 0, none⟩) :: undef :: undef :: undef :: .tuple #[.agg (fls r0), .int .i64 r1] :: .agg (fls x0) :: .agg (fls x0) :: .agg (fls x1) :: .agg (fls x1) :: .float .f32 x2 :: .tuple #[.agg (fls r0), .int .i64 r1] :: .agg (fls r0) :: .int .i64 r1 :: undef :: undef :: undef :: undef :: undef :: undef :: undef :: undef :: undef :: undef :: undef :: undef :: undef :: undef :: undef :: undef :: undef :: undef :: []).toArray, defers := [] } #[true, true, true, true, true, true, true, true, true, true, true, false] k11 hB9 hn9 rfl (by rfl) 26 _ _ rfl (fls r0) (by rfl) (by rfl) (by rw [fls_size]; exact info_arr) (by simp) (fls_one _) (by rfl) (by rfl) (fun w12 k12 => ?_) AllReadyH.nil
    refine ⟨k12.tail, ?_⟩
    refine take_val 11 { tmps := (.agg (fls x0) :: .agg (fls x1) :: .float .f32 x2 :: .pointer (some ⟨w.heap.size, 0, none⟩) :: .pointer (some ⟨w.heap.size + 1, 0, none⟩) :: undef :: .bool false :: .pointer (some ⟨g9, 0, none⟩) :: .int .i64 r1 :: undef :: undef :: .tuple #[.agg (fls r0), .int .i64 r1] :: .agg (fls x0) :: .agg (fls x0) :: .agg (fls x1) :: .agg (fls x1) :: .float .f32 x2 :: .tuple #[.agg (fls r0), .int .i64 r1] :: .agg (fls r0) :: .int .i64 r1 :: undef :: undef :: undef :: undef :: undef :: undef :: undef :: undef :: undef :: undef :: undef :: undef :: undef :: undef :: undef :: undef :: undef :: undef :: []).toArray, defers := [] } #[true, true, true, true, true, true, true, true, true, true, true, true] (.int .i64 r1) rfl (by rfl) (by kernel_rfl) (by kernel_rfl) (by kernel_rfl) (fun w => by rfl) (by rfl) (by rfl) (k12.tail) ?_
    exact wpAnyH_done (by kernel_rfl) (NoPanic.normal (key1 g9 _ (hid k12))) _
  refine allocK 9 (fun g13 => { tmps := (.agg (fls x0) :: .agg (fls x1) :: .float .f32 x2 :: .pointer (some ⟨w.heap.size, 0, none⟩) :: .pointer (some ⟨w.heap.size + 1, 0, none⟩) :: undef :: .bool false :: .pointer (some ⟨g13, 0, none⟩) :: undef :: undef :: undef :: undef :: .agg (fls x0) :: undef :: .agg (fls x1) :: undef :: .float .f32 x2 :: undef :: undef :: undef :: undef :: undef :: undef :: undef :: undef :: undef :: undef :: undef :: undef :: undef :: undef :: undef :: undef :: undef :: undef :: undef :: undef :: undef :: []).toArray, defers := [] }) #[true, false, true, false, true, false, false, false, false, true, false, false] kd rfl (by rfl) (fls fun _ => 0) 26 (alloc_sizes _ _ _ _ _ _ _) (fun g => by rfl) (by rfl) (fun w13 g13 k13 hB13 hn13 => ?_) AllReadyH.nil
  refine ⟨k13.tail, ?_⟩
  refine wpAnyH_ready (rs := [1]) (by kernel_rfl) (by simp) ?_
  refine callK 1 { tmps := (.agg (fls x0) :: .agg (fls x1) :: .float .f32 x2 :: .pointer (some ⟨w.heap.size, 0, none⟩) :: .pointer (some ⟨w.heap.size + 1, 0, none⟩) :: undef :: .bool false :: .pointer (some ⟨g13, 0, none⟩) :: undef :: undef :: undef :: undef :: .agg (fls x0) :: .agg (fls x0) :: .agg (fls x1) :: undef :: .float .f32 x2 :: undef :: undef :: undef :: undef :: undef :: undef :: undef :: undef :: undef :: undef :: undef :: undef :: undef :: undef :: undef :: undef :: undef :: undef :: undef :: undef :: undef :: []).toArray, defers := [] } #[true, true, true, false, true, false, false, false, false, true, false, false] (.agg (fls x0)) k13 rfl (by rfl) 58 #[.agg (fls x0)] (run_toSizes1 _ _ _ rfl _ _ _ _ _ _) (by rfl) (by rfl) (toSizes _ _) (fun w14 k14 => ?_) AllReadyH.nil
  refine ⟨k14.tail, ?_⟩
  refine wpAnyH_ready (rs := [3]) (by kernel_rfl) (by simp) ?_
  refine callK 3 { tmps := (.agg (fls x0) :: .agg (fls x1) :: .float .f32 x2 :: .pointer (some ⟨w.heap.size, 0, none⟩) :: .pointer (some ⟨w.heap.size + 1, 0, none⟩) :: undef :: .bool false :: .pointer (some ⟨g13, 0, none⟩) :: undef :: undef :: undef :: undef :: .agg (fls x0) :: .agg (fls x0) :: .agg (fls x1) :: .agg (fls x1) :: .float .f32 x2 :: undef :: undef :: undef :: undef :: undef :: undef :: undef :: undef :: undef :: undef :: undef :: undef :: undef :: undef :: undef :: undef :: undef :: undef :: undef :: undef :: undef :: []).toArray, defers := [] } #[true, true, true, true, true, false, false, false, false, true, false, false] (.agg (fls x1)) k14 rfl (by rfl) 58 #[.agg (fls x1)] (run_toSizes1 _ _ _ rfl _ _ _ _ _ _) (by rfl) (by rfl) (toSizes _ _) (fun w15 k15 => ?_) AllReadyH.nil
  refine ⟨k15.tail, ?_⟩
  refine wpAnyH_ready (rs := [5]) (by kernel_rfl) (by simp) ?_
  refine callK 5 { tmps := (.agg (fls x0) :: .agg (fls x1) :: .float .f32 x2 :: .pointer (some ⟨w.heap.size, 0, none⟩) :: .pointer (some ⟨w.heap.size + 1, 0, none⟩) :: undef :: .bool false :: .pointer (some ⟨g13, 0, none⟩) :: undef :: undef :: undef :: undef :: .agg (fls x0) :: .agg (fls x0) :: .agg (fls x1) :: .agg (fls x1) :: .float .f32 x2 :: .tuple #[.agg (fls r0), .int .i64 r1] :: undef :: undef :: undef :: undef :: undef :: undef :: undef :: undef :: undef :: undef :: undef :: undef :: undef :: undef :: undef :: undef :: undef :: undef :: undef :: undef :: []).toArray, defers := [] } #[true, true, true, true, true, true, false, false, false, true, false, false] (.tuple #[.agg (fls r0), .int .i64 r1]) k15 rfl (by rfl) 70 #[.agg (fls x0), .agg (fls x1), .float .f32 x2] (run_sMixSizes3 _ _ _ rfl _ _ rfl _ _ rfl _ _ _ _ _ _) (by rfl) (by rfl) (HS.out _) (fun w16 k16 => ?_) AllReadyH.nil
  refine ⟨k16.tail, ?_⟩
  refine take_val 6 { tmps := (.agg (fls x0) :: .agg (fls x1) :: .float .f32 x2 :: .pointer (some ⟨w.heap.size, 0, none⟩) :: .pointer (some ⟨w.heap.size + 1, 0, none⟩) :: undef :: .bool false :: .pointer (some ⟨g13, 0, none⟩) :: undef :: undef :: undef :: .tuple #[.agg (fls r0), .int .i64 r1] :: .agg (fls x0) :: .agg (fls x0) :: .agg (fls x1) :: .agg (fls x1) :: .float .f32 x2 :: .tuple #[.agg (fls r0), .int .i64 r1] :: undef :: undef :: undef :: undef :: undef :: undef :: undef :: undef :: undef :: undef :: undef :: undef :: undef :: undef :: undef :: undef :: undef :: undef :: undef :: undef :: []).toArray, defers := [] } #[true, true, true, true, true, true, true, false, false, true, false, false] (.tuple #[.agg (fls r0), .int .i64 r1]) rfl (by rfl) (by kernel_rfl) (by kernel_rfl) (by kernel_rfl) (fun w => by rfl) (by rfl) (by rfl) (k16.tail) ?_
  refine take_val 7 { tmps := (.agg (fls x0) :: .agg (fls x1) :: .float .f32 x2 :: .pointer (some ⟨w.heap.size, 0, none⟩) :: .pointer (some ⟨w.heap.size + 1, 0, none⟩) :: undef :: .bool false :: .pointer (some ⟨g13, 0, none⟩) :: undef :: undef :: undef :: .tuple #[.agg (fls r0), .int .i64 r1] :: .agg (fls x0) :: .agg (fls x0) :: .agg (fls x1) :: .agg (fls x1) :: .float .f32 x2 :: .tuple #[.agg (fls r0), .int .i64 r1] :: .agg (fls r0) :: undef :: undef :: undef :: undef :: undef :: undef :: undef :: undef :: undef :: undef :: undef :: undef :: undef :: undef :: undef :: undef :: undef :: undef :: undef :: []).toArray, defers := [] } #[true, true, true, true, true, true, true, true, false, true, false, false] (.agg (fls r0)) rfl (by rfl) (by kernel_rfl) (by kernel_rfl) (by kernel_rfl) (fun w => by rfl) (by rfl) (by rfl) (k16.tail) ?_
  refine take_val 8 { tmps := (.agg (fls x0) :: .agg (fls x1) :: .float .f32 x2 :: .pointer (some ⟨w.heap.size, 0, none⟩) :: .pointer (some ⟨w.heap.size + 1, 0, none⟩) :: undef :: .bool false :: .pointer (some ⟨g13, 0, none⟩) :: undef :: undef :: undef :: .tuple #[.agg (fls r0), .int .i64 r1] :: .agg (fls x0) :: .agg (fls x0) :: .agg (fls x1) :: .agg (fls x1) :: .float .f32 x2 :: .tuple #[.agg (fls r0), .int .i64 r1] :: .agg (fls r0) :: .int .i64 r1 :: undef :: undef :: undef :: undef :: undef :: undef :: undef :: undef :: undef :: undef :: undef :: undef :: undef :: undef :: undef :: undef :: undef :: undef :: []).toArray, defers := [] } #[true, true, true, true, true, true, true, true, true, true, false, false] (.int .i64 r1) rfl (by rfl) (by kernel_rfl) (by kernel_rfl) (by kernel_rfl) (fun w => by rfl) (by rfl) (by rfl) (k16.tail) ?_
  refine wpAnyH_ready (rs := [10]) (by kernel_rfl) (by simp) ?_
  refine storeK 10 { tmps := (.agg (fls x0) :: .agg (fls x1) :: .float .f32 x2 :: .pointer (some ⟨w.heap.size, 0, none⟩) :: .pointer (some ⟨w.heap.size + 1, 0, none⟩) :: undef :: .bool false :: .pointer (some ⟨g13, 0, none⟩) :: undef :: undef :: undef :: .tuple #[.agg (fls r0), .int .i64 r1] :: .agg (fls x0) :: .agg (fls x0) :: .agg (fls x1) :: .agg (fls x1) :: .float .f32 x2 :: .tuple #[.agg (fls r0), .int .i64 r1] :: .agg (fls r0) :: .int .i64 r1 :: undef :: undef :: undef :: undef :: undef :: undef :: undef :: undef :: undef :: undef :: undef :: undef :: undef :: undef :: undef :: undef :: undef :: undef :: []).toArray, defers := [] } #[true, true, true, true, true, true, true, true, true, true, true, false] k16 hB13 hn13 rfl (by rfl) 26 _ _ rfl (fls r0) (by rfl) (by rfl) (by rw [fls_size]; exact info_arr) (by simp) (fls_one _) (by rfl) (by rfl) (fun w17 k17 => ?_) AllReadyH.nil
  refine ⟨k17.tail, ?_⟩
  refine take_val 11 { tmps := (.agg (fls x0) :: .agg (fls x1) :: .float .f32 x2 :: .pointer (some ⟨w.heap.size, 0, none⟩) :: .pointer (some ⟨w.heap.size + 1, 0, none⟩) :: undef :: .bool false :: .pointer (some ⟨g13, 0, none⟩) :: .int .i64 r1 :: undef :: undef :: .tuple #[.agg (fls r0), .int .i64 r1] :: .agg (fls x0) :: .agg (fls x0) :: .agg (fls x1) :: .agg (fls x1) :: .float .f32 x2 :: .tuple #[.agg (fls r0), .int .i64 r1] :: .agg (fls r0) :: .int .i64 r1 :: undef :: undef :: undef :: undef :: undef :: undef :: undef :: undef :: undef :: undef :: undef :: undef :: undef :: undef :: undef :: undef :: undef :: undef :: []).toArray, defers := [] } #[true, true, true, true, true, true, true, true, true, true, true, true] (.int .i64 r1) rfl (by rfl) (by kernel_rfl) (by kernel_rfl) (by kernel_rfl) (fun w => by rfl) (by rfl) (by rfl) (k17.tail) ?_
  exact wpAnyH_done (by kernel_rfl) (NoPanic.normal (key1 g13 _ (hid k17))) _

theorem mixed_lt {c d : Nat → Nat} (hc : Amts c) (hd : Amts d) {x : Nat} (hx : Share x) : ∀ i, i < 20 → mixed c d x i < 4294967296 := fun _ hi => nn_lt (mixed_nn hc hd hx hi)

theorem lawMixSizes (c : Nat → Nat) (hb : ∀ i, i < 20 → c i < 4294967296) (d : Nat → Nat) (hb2 : ∀ i, i < 20 → d i < 4294967296) (x : Nat) (hx : x < 4294967296) (w : World) :
    Calls Try.prog 13 #[.agg (fls c), .agg (fls d), .float .f32 x] w fun e w' => e = .returned (.bool true) ∧ Below w.heap.size w w' := by
  by_cases h : Amts c
  · by_cases h2 : Amts d
    · by_cases h3 : Share x
      · obtain ⟨r, n, e1, e2, hd, hl⟩ := made_lit (mixed c d x) (mixed_lt h h2 h3)
        exact coreMixSizes c d x r hl hd n (sMixSizes_ok c h d h2 x h3 r n e1 e2) (iMixSizes_ok c h d h2 x h3 r n e1 e2) w
      · exact coreMixSizes c d x (fun _ => 0) zl zf 2 (sMixSizes_range c h d h2 x hx h3) (iMixSizes_range c h d h2 x hx h3) w
    · exact coreMixSizes c d x (fun _ => 0) zl zf 1 (sMixSizes_bad2 c h d hb2 h2 x) (iMixSizes_bad2 c h d hb2 h2 x) w
  · exact coreMixSizes c d x (fun _ => 0) zl zf 1 (sMixSizes_bad1 c hb h d x) (iMixSizes_bad1 c hb h d x) w

theorem words_cons : ∀ (v : List Char) (r : List Char), (∀ c ∈ v, c ≠ Char.ofNat 32) → wordsSigns (v ++ Char.ofNat 32 :: r) = v :: wordsSigns r
  | [], r, _ => rfl
  | c :: v, r, h => by
    have ih := words_cons v r (fun x hx => h x (by simp [hx]))
    have hc : c ≠ Char.ofNat 32 := h c (by simp)
    show wordsSigns (c :: (v ++ Char.ofNat 32 :: r)) = _
    rw [wordsSigns.eq_3 _ _ (fun e => hc e), ih]

def w0 : List Nat := [104, 97, 114, 110, 101, 115, 115]

def w1 : List Nat := [53, 101, 102, 56, 48, 48, 53, 56, 54, 100, 51, 48, 49, 98, 54, 54, 57, 52, 99, 102, 99, 101, 101, 57, 49, 48, 101, 49, 57, 55, 100, 55, 99, 55, 55, 54, 97, 53, 53, 48, 97, 51, 54, 101, 49, 50, 100, 50, 52, 98, 98, 98, 48, 49, 57, 99, 101, 102, 98, 54, 99, 51, 99, 55]

def w2 : List Nat := [99, 117, 116]

def w3 : List Nat := [97, 116, 32, 108, 111, 111, 112, 46, 101, 120, 97, 109, 112, 108, 101, 47, 103, 48, 49, 50, 50, 52, 47, 108, 97, 119, 115, 46, 70, 110, 83, 117, 109, 115, 32, 108, 111, 111, 112, 46, 101, 120, 97, 109, 112, 108, 101, 47, 103, 48, 49, 50, 50, 52, 47, 108, 97, 119, 115, 46, 70, 110, 83, 104, 105, 102, 116, 101, 100, 32, 108, 111, 111, 112, 46, 101, 120, 97, 109, 112, 108, 101, 47, 103, 48, 49, 50, 50, 52, 47, 108, 97, 119, 115, 46, 70, 110, 71, 114, 111, 119, 110, 32, 108, 111, 111, 112, 46, 101, 120, 97, 109, 112, 108, 101, 47, 103, 48, 49, 50, 50, 52, 47, 108, 97, 119, 115, 46, 70, 110, 78, 117, 99, 108, 101, 105, 32, 108, 111, 111, 112, 46, 101, 120, 97, 109, 112, 108, 101, 47, 103, 48, 49, 50, 50, 52, 47, 108, 97, 119, 115, 46, 70, 110, 69, 120, 97, 99, 116, 83, 97, 109, 101, 83, 105, 122, 101, 115, 32, 108, 111, 111, 112, 46, 101, 120, 97, 109, 112, 108, 101, 47, 103, 48, 49, 50, 50, 52, 47, 108, 97, 119, 115, 46, 70, 110, 69, 120, 97, 99, 116, 84, 104, 105, 114, 100, 82, 111, 111, 116, 32, 108, 111, 111, 112, 46, 101, 120, 97, 109, 112, 108, 101, 47, 103, 48, 49, 50, 50, 52, 47, 108, 97, 119, 115, 46, 70, 110, 69, 120, 97, 99, 116, 82, 97, 100, 105, 117, 115, 79, 102, 32, 108, 111, 111, 112, 46, 101, 120, 97, 109, 112, 108, 101, 47, 103, 48, 49, 50, 50, 52, 47, 108, 97, 119, 115, 46, 70, 110, 69, 120, 97, 99, 116, 77, 111, 109, 101, 110, 116, 79, 102, 32, 108, 111, 111, 112, 46, 101, 120, 97, 109, 112, 108, 101, 47, 103, 48, 49, 50, 50, 52, 47, 108, 97, 119, 115, 46, 70, 110, 69, 120, 97, 99, 116, 80, 117, 116, 68, 114, 111, 112, 108, 101, 116, 115, 32, 108, 111, 111, 112, 46, 101, 120, 97, 109, 112, 108, 101, 47, 103, 48, 49, 50, 50, 52, 47, 108, 97, 119, 115, 46, 70, 110, 69, 120, 97, 99, 116, 65, 100, 100, 83, 105, 122, 101, 115, 32, 108, 111, 111, 112, 46, 101, 120, 97, 109, 112, 108, 101, 47, 103, 48, 49, 50, 50, 52, 47, 108, 97, 119, 115, 46, 70, 110, 69, 120, 97, 99, 116, 77, 105, 120, 83, 105, 122, 101, 115, 32, 108, 111, 111, 112, 46, 101, 120, 97, 109, 112, 108, 101, 47, 103, 48, 49, 50, 50, 52, 47, 108, 97, 119, 115, 46, 70, 110, 69, 120, 97, 99, 116, 83, 104, 105, 102, 116, 77, 97, 115, 115, 101, 115, 32, 108, 111, 111, 112, 46, 101, 120, 97, 109, 112, 108, 101, 47, 103, 48, 49, 50, 50, 52, 47, 108, 97, 119, 115, 46, 70, 110, 69, 120, 97, 99, 116, 84, 119, 111, 84, 111, 32, 108, 111, 111, 112, 46, 101, 120, 97, 109, 112, 108, 101, 47, 103, 48, 49, 50, 50, 52, 47, 108, 97, 119, 115, 46, 70, 110, 69, 120, 97, 99, 116, 86, 97, 108, 105, 100, 65, 105, 114, 32, 108, 111, 111, 112, 46, 101, 120, 97, 109, 112, 108, 101, 47, 103, 48, 49, 50, 50, 52, 47, 108, 97, 119, 115, 46, 70, 110, 69, 120, 97, 99, 116, 83, 97, 109, 101, 65, 105, 114, 32, 108, 111, 111, 112, 46, 101, 120, 97, 109, 112, 108, 101, 47, 103, 48, 49, 50, 50, 52, 47, 108, 97, 119, 115, 46, 70, 110, 69, 120, 97, 99, 116, 83, 97, 116, 117, 114, 97, 116, 105, 111, 110, 65, 116, 32, 108, 111, 111, 112, 46, 101, 120, 97, 109, 112, 108, 101, 47, 103, 48, 49, 50, 50, 52, 47, 108, 97, 119, 115, 46, 70, 110, 69, 120, 97, 99, 116, 69, 120, 99, 101, 115, 115, 79, 102, 32, 108, 111, 111, 112, 46, 101, 120, 97, 109, 112, 108, 101, 47, 103, 48, 49, 50, 50, 52, 47, 108, 97, 119, 115, 46, 70, 110, 69, 120, 97, 99, 116, 72, 117, 109, 105, 100, 105, 116, 121, 79, 102, 32, 108, 111, 111, 112, 46, 101, 120, 97, 109, 112, 108, 101, 47, 103, 48, 49, 50, 50, 52, 47, 108, 97, 119, 115, 46, 70, 110, 69, 120, 97, 99, 116, 71, 97, 105, 110, 115, 65, 116, 32, 108, 111, 111, 112, 46, 101, 120, 97, 109, 112, 108, 101, 47, 103, 48, 49, 50, 50, 52, 47, 108, 97, 119, 115, 46, 70, 110, 69, 120, 97, 99, 116, 71, 114, 111, 119, 79, 110, 99, 101, 32, 108, 111, 111, 112, 46, 101, 120, 97, 109, 112, 108, 101, 47, 103, 48, 49, 50, 50, 52, 47, 108, 97, 119, 115, 46, 70, 110, 69, 120, 97, 99, 116, 71, 114, 111, 119, 83, 116, 101, 112, 115, 32, 108, 111, 111, 112, 46, 101, 120, 97, 109, 112, 108, 101, 47, 103, 48, 49, 50, 50, 52, 47, 108, 97, 119, 115, 46, 70, 110, 69, 120, 97, 99, 116, 65, 99, 116, 105, 118, 97, 116, 101, 32, 108, 111, 111, 112, 46, 101, 120, 97, 109, 112, 108, 101, 47, 103, 48, 49, 50, 50, 52, 47, 108, 97, 119, 115, 46, 70, 110, 69, 120, 97, 99, 116, 87, 97, 116, 101, 114, 73, 110, 32, 108, 111, 111, 112, 46, 101, 120, 97, 109, 112, 108, 101, 47, 103, 48, 49, 50, 50, 52, 47, 108, 97, 119, 115, 46, 70, 110, 69, 120, 97, 99, 116, 77, 105, 120, 65, 105, 114, 32, 108, 111, 111, 112, 46, 101, 120, 97, 109, 112, 108, 101, 47, 103, 48, 49, 50, 50, 52, 47, 108, 97, 119, 115, 46, 70, 110, 69, 120, 97, 99, 116, 83, 116, 101, 112, 115, 84, 111, 68, 114, 121, 32, 108, 111, 111, 112, 46, 101, 120, 97, 109, 112, 108, 101, 47, 103, 48, 49, 50, 50, 52, 47, 108, 97, 119, 115, 46, 70, 110, 69, 120, 97, 99, 116, 68, 101, 119, 72, 101, 97, 116]

def letters (l : List Nat) : List Char := l.map Char.ofNat

theorem head_reads : Try.prog.initOrder = String.ofList (letters w0 ++ Char.ofNat 32 :: (letters w1 ++ Char.ofNat 32 :: (letters w2 ++ Char.ofNat 32 :: letters w3))) := by kernel_rfl

theorem no_blank {l : List Nat} (h : l.all (fun n => Char.ofNat n != Char.ofNat 32) = true) : ∀ c ∈ letters l, c ≠ Char.ofNat 32 := by
  intro c hc
  obtain ⟨n, hn, rfl⟩ := List.mem_map.1 hc
  have := List.all_eq_true.1 h n hn
  simpa using this

theorem h0 : letters w0 = "harness".toList := by kernel_rfl

theorem h2 : letters w2 = "cut".toList := by kernel_rfl

theorem sums : isSumSigns (letters w1) = true := by kernel_rfl

theorem words : wordsSigns Try.prog.initOrder.toList = "harness".toList :: letters w1 :: "cut".toList :: wordsSigns (letters w3) := by
  rw [head_reads, String.toList_ofList, words_cons _ _ (no_blank (by decide +kernel)), words_cons _ _ (no_blank (by decide +kernel)), words_cons _ _ (no_blank (by decide +kernel)), h0, h2]

theorem behind : ∃ r, behindMainWord (wordsSigns Try.prog.initOrder.toList) = "cut".toList :: r := by
  refine ⟨wordsSigns (letters w3), ?_⟩
  rw [words]
  generalize wordsSigns (letters w3) = r
  have hs := sums
  generalize letters w1 = v at hs
  unfold behindMainWord
  simp [hs]

theorem not_later : Try.prog.laysLater = false := by kernel_rfl

theorem no_reflect : Try.prog.bearsReflect = false := by kernel_rfl

theorem no_doors : Try.prog.doorFits [] = true := by kernel_rfl

theorem strips (r : List (List Char)) : stripLifts liftWords ("cut".toList :: r) = ([], "cut".toList :: r) := by kernel_rfl

theorem may_enter_of (P : Program) (r : List (List Char)) (h : behindMainWord (wordsSigns P.initOrder.toList) = "cut".toList :: r) (h1 : P.laysLater = false) (h2 : P.bearsReflect = false) (h3 : P.doorFits [] = true) : P.mayEnter = true := by
  unfold Program.mayEnter
  rw [h]
  dsimp only
  rw [strips, h1, h2, h3]
  kernel_rfl

theorem lifts_final_of (P : Program) (r : List (List Char)) (h : behindMainWord (wordsSigns P.initOrder.toList) = "cut".toList :: r) : P.liftsFinal = false := by
  unfold Program.liftsFinal Program.headLifts
  rw [h]
  dsimp only
  rw [strips]
  kernel_rfl

theorem made_of (P : Program) (r : List (List Char)) (h : behindMainWord (wordsSigns P.initOrder.toList) = "cut".toList :: r) : P.make = some .cut := by
  unfold Program.make
  rw [h]
  kernel_rfl

theorem may_enter : Try.prog.mayEnter = true := let ⟨r, h⟩ := behind; may_enter_of _ r h not_later no_reflect no_doors

theorem lifts_final : Try.prog.liftsFinal = false := let ⟨r, h⟩ := behind; lifts_final_of _ r h

theorem made : Try.prog.make = some .cut := let ⟨r, h⟩ := behind; made_of _ r h

theorem laid : laidOutB Try.prog = true := by kernel_rfl

theorem rowed : mapsRowed Try.prog = true := by kernel_rfl

theorem no_stops : Try.prog.stops = [] := by kernel_rfl

theorem no_knobs : Try.prog.stopKnobs = [] := by kernel_rfl

theorem plain_keys : Try.prog.plainKeys = true := by kernel_rfl

theorem stops_heard : Try.prog.stopsHeard = true := by kernel_rfl

theorem arr3 {α : Type} {cs : Array α} (h : cs.size = 3) : ∃ c0 c1 c2, cs = #[c0, c1, c2] := by
  obtain ⟨l⟩ := cs
  match l, h with
  | [a, b, c], _ => exact ⟨a, b, c, rfl⟩

theorem own : ownKnob Try.prog.godebug = none := by kernel_rfl

theorem cells20 : Try.prog.cellsOf 25 = 20 := by kernel_rfl

theorem types20 : Try.prog.cellTypes Try.prog.depth 25 = some (List.replicate 20 24) := by kernel_rfl

theorem rda : Try.prog.readableRec 25 = true ∧ 25 < Try.prog.types.size := ⟨by kernel_rfl, of_decide_eq_true (by kernel_rfl)⟩

theorem rdf : Try.prog.readableRec 24 = true ∧ 24 < Try.prog.types.size := ⟨by kernel_rfl, of_decide_eq_true (by kernel_rfl)⟩

theorem rdi : Try.prog.readableRec 2 = true ∧ 2 < Try.prog.types.size := ⟨by kernel_rfl, of_decide_eq_true (by kernel_rfl)⟩
end Go.Proofs.Ytgocemjopmgnaaa

namespace Go.Proofs.Ytgocemjopmgnaaa.fnExactMixSizes
open Go.RowKit Go.Fl Go.ChangeShapes Go.WideShapes Go.ChangeAt

theorem closed : joinedFacts Try.prog 13 Try.f13 Rows.fnExactMixSizesSpec Rows.fnExactMixSizesRow = true := by
  unfold joinedFacts
  simp only [Bool.and_eq_true]
  exact ⟨⟨⟨⟨⟨⟨⟨⟨⟨⟨⟨⟨⟨⟨⟨⟨⟨⟨⟨⟨⟨⟨⟨⟨⟨⟨⟨⟨⟨⟨⟨(by as_aux_lemma => kernel_rfl),
    laid⟩,
    rowed⟩,
    (by as_aux_lemma => kernel_rfl)⟩,
    (by as_aux_lemma => kernel_rfl)⟩,
    (by as_aux_lemma => kernel_rfl)⟩,
    (by rw [no_stops]; rfl)⟩,
    (by as_aux_lemma => kernel_rfl)⟩,
    (by rw [no_knobs]; rfl)⟩,
    (by as_aux_lemma => kernel_rfl)⟩,
    (by as_aux_lemma => kernel_rfl)⟩,
    (by as_aux_lemma => kernel_rfl)⟩,
    (by as_aux_lemma => kernel_rfl)⟩,
    (by as_aux_lemma => kernel_rfl)⟩,
    (by as_aux_lemma => kernel_rfl)⟩,
    (by as_aux_lemma => kernel_rfl)⟩,
    (by as_aux_lemma => kernel_rfl)⟩,
    (by as_aux_lemma => kernel_rfl)⟩,
    (by as_aux_lemma => kernel_rfl)⟩,
    (by as_aux_lemma => kernel_rfl)⟩,
    (by as_aux_lemma => kernel_rfl)⟩,
    (by as_aux_lemma => kernel_rfl)⟩,
    (show (Rows.fnExactMixSizesRow.plainKeys == Try.prog.plainKeys) = true by rw [plain_keys]; rfl)⟩,
    (by as_aux_lemma => kernel_rfl)⟩,
    stops_heard⟩,
    may_enter⟩,
    (show (Rows.fnExactMixSizesRow.lifted == Try.prog.liftsFinal) = true by rw [lifts_final]; rfl)⟩,
    (show (Try.prog.make == some Rows.fnExactMixSizesRow.make) = true by rw [made]; rfl)⟩,
    (by as_aux_lemma => kernel_rfl)⟩,
    (by as_aux_lemma => kernel_rfl)⟩,
    (by as_aux_lemma => kernel_rfl)⟩,
    (by as_aux_lemma => kernel_rfl)⟩

set_option maxRecDepth 100000 in
theorem lifted (os : Os) (started : os.Started) (H : Type) (enc : TypeId × Value → H) :
    ReturnsInHanded {} Try.checked os 13 .any (Rows.fnExactMixSizesSpec.pre6 enc Try.prog Try.f13 Rows.fnExactMixSizesRow.domain false) (Rows.fnExactMixSizesSpec.post enc Try.prog Try.f13 false true false false) := by
  refine LawFrame.lifted (C := Try.checked) (fn := Try.f13) (n := 3) (tb := 4) started own (by kernel_rfl) Try.func13 laid ?_ rfl rfl ?_ rfl Try.underlying4
    (ChangeSpec.witness6 (enc := enc) (C := Try.checked) false ⟨#[], #[.agg (Array.replicate 20 (.float .f32 0)), .agg (Array.replicate 20 (.float .f32 0)), .float .f32 0], []⟩ 8 (by kernel_rfl) (by kernel_rfl) (by kernel_rfl) (by kernel_rfl)) ?_
  · intro t ht
    simp only [Try.params13, List.mem_cons, List.not_mem_nil, or_false] at ht
    rcases ht with rfl | rfl | rfl <;> first | exact rda | exact rdf | exact rdi
  · intro ds hd
    match ds, hd with
    | [_, _, _], _ => rfl
  · intro W base args ds ps hval hn _
    obtain ⟨v0, v1, v2, rfl⟩ : ∃ v0 v1 v2, args = #[v0, v1, v2] := arr3 hn
    obtain ⟨c0, rfl, hb0⟩ := open_fls Try.underlying25 Try.underlying24 cells20 types20 (hval 0 25 v0 rfl rfl)
    obtain ⟨c1, rfl, hb1⟩ := open_fls Try.underlying25 Try.underlying24 cells20 types20 (hval 1 25 v1 rfl rfl)
    obtain ⟨c2, rfl, hb2⟩ := open_f32 Try.underlying24 (hval 2 24 v2 rfl rfl)
    exact lawMixSizes c0 hb0 c1 hb1 c2 hb2 W

theorem over : Rows.fnExactMixSizesRow.holds Try.pinned (OpenSpec.ofChange Rows.fnExactMixSizesSpec) :=
  OpenClaim.holds_of_wide 13 Try.f13 rfl rfl rfl rfl rfl rfl rfl ⟨rfl, rfl, rfl, rfl, rfl⟩ rfl rfl rfl rfl rfl (by kernel_rfl) Try.func13 closed
    (of_decide_eq_true (by kernel_rfl)) (by unfold Func.isWrapper; rw [if_neg (by decide +kernel)]; exact ⟨rfl, rfl⟩)
    (fun os started H enc _ => lifted os started H enc)

theorem proved : Rows.FnExactMixSizesSaid := over
#print axioms proved
end Go.Proofs.Ytgocemjopmgnaaa.fnExactMixSizes
