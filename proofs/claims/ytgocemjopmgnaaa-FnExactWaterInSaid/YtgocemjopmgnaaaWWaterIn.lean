import Derived.Test.YtgocemjopmgnaaaBWaterIn
import Derived.Test.YtgocemjopmgnaaaChecked
import Derived.Test.YtgocemjopmgnaaaRows
import Derived.Laws.FloatArith
import Derived.ProofKit
import Derived.WalkKit
import Derived.WalkLawsBesides
import Derived.WalkSpells
import Derived.Deep.QuietTactic
import Derived.BigQuiet
import Derived.Deep.RegionHeld3
import Derived.ChangeKeysEq
import Derived.OpenShut
/- The law FnExactWaterIn of chapter 1: at every argument the call returns true, and what was there before it is as it was. -/
namespace Go.Proofs.Ytgocemjopmgnaaa
open Go.RowKit Go.Fl

@[go_sem] theorem ext_f64bits (y : Nat) (w : World) : (callFunc 169 #[.float .f64 y]).run Try.prog w = .ok (.value (.int .u64 y)) w := by
  rw [run_callFunc_extern Try.func169 (by kernel_rfl) (by kernel_rfl) (by kernel_rfl) (e := Extern.MathFloatBits.float64bits) (by kernel_rfl)]
  rfl

@[go_sem] theorem ext_f64from (n : Int) (w : World) : (callFunc 177 #[.int .u64 n]).run Try.prog w = .ok (.value (.float .f64 n.toNat)) w := by
  rw [run_callFunc_extern Try.func177 (by kernel_rfl) (by kernel_rfl) (by kernel_rfl) (e := Extern.MathFloatBits.float64frombits) (by kernel_rfl)]
  rfl

theorem hid {p : Prop} (h : p) : Hid p := h

theorem clear_sign (y : Nat) (h : y < 18446744073709551616) : (bits BinOp.andNot IntKind.u64 (y : Int) 9223372036854775808).toNat = y % 9223372036854775808 := by
  rw [u64_andNot _ _ (by omega) (by omega) (by omega) (by omega)]
  rw [Int.toNat_natCast, Int.toNat_natCast]
  exact Nat.and_two_pow_sub_one_eq_mod y 63

theorem abs_f64 (y : Nat) (h : y < 18446744073709551616) (w : World) :
    Calls Try.prog 170 #[.float .f64 y] w fun e w' => e = .returned (.float .f64 (y % 9223372036854775808)) ∧ w = w' := by
  have hc := hid (clear_sign y h)
  clear h
  go_enter Try.func170, Try.ntmps170
  go_wp2
  go_ret
  exact ⟨by simp [hc.out], rfl⟩

theorem isNaN_f64 (y : Nat) (w : World) :
    Calls Try.prog 155 #[.float .f64 y] w fun e w' => e = .returned (.bool (FloatKind.f64.format.order y y != some .eq)) ∧ w = w' := by
  go_enter Try.func155, Try.ntmps155
  go_wp2
  go_ret
  exact ⟨rfl, rfl⟩

theorem isInf_f64 (y : Nat) (h : y < 18446744073709551616) (w : World) :
    Calls Try.prog 156 #[.float .f64 y, .int .i64 0] w fun e w' => e = .returned (.bool (FloatKind.f64.format.order (y % 9223372036854775808) 9218868437227405311 == some .gt)) ∧ w = w' := by
  have hc := hid h
  clear h
  go_enter Try.func156, Try.ntmps156
  go_wp2_with (go_at_call 170; refine (abs_f64 y hc.out _).mono ?_; rintro e w' ⟨rfl, rfl⟩)
  go_ret
  exact ⟨rfl, rfl⟩

theorem isFinite_t (x : Nat) (hx : x < 4294967296) (h : finB x = true) (w : World) :
    Calls Try.prog 106 #[.float .f32 x] w fun e w' => e = .returned (.bool true) ∧ w = w' := by
  rw [finB_iff] at h
  have hc := fun w => run_conv_wid (P := Try.prog) w 24 62 x hx Try.underlying24 Try.underlying62 h
  obtain ⟨a, b, m, e, hr⟩ := read_wid_fin hx h
  have hn : (FloatKind.f64.format.order (wid x) (wid x) != some .eq) = false := by
    show (D.order (wid x) (wid x) != some .eq) = false
    rw [order_self hr]; rfl
  have hi : (FloatKind.f64.format.order (wid x % 9223372036854775808) 9218868437227405311 == some .gt) = false := by
    show (D.order (wid x % 9223372036854775808) 9218868437227405311 == some .gt) = false
    rw [b, order_ltD a (by decide)]
    rw [DINF_val] at a
    have hle : wid (mg x) ≤ 9218868437227405311 := by omega
    rcases Nat.lt_or_eq_of_le hle with h' | h'
    · rw [Nat.compare_eq_lt.2 h']; rfl
    · rw [Nat.compare_eq_eq.2 h']; rfl
  have hw : wid x < 18446744073709551616 := D.write_lt _
  have Hn := hid hn
  have Hi := hid hi
  have Hw := hid hw
  clear hn hi hw hr a b h hx
  go_enter Try.func106, Try.ntmps106
  go_wp2_with (first | (go_at_call 155; refine (isNaN_f64 (wid x) _).mono ?_; rintro e w' ⟨rfl, rfl⟩; rw [Hn.out]) | (go_at_call 156; refine (isInf_f64 (wid x) Hw.out _).mono ?_; rintro e w' ⟨rfl, rfl⟩; rw [Hi.out]))
  go_ret
  exact ⟨rfl, rfl⟩

theorem isFinite_f (x : Nat) (hx : x < 4294967296) (h : finB x = false) (w : World) :
    Calls Try.prog 106 #[.float .f32 x] w fun e w' => e = .returned (.bool false) ∧ Below w.heap.size w w' := by
  rw [finB_iff'] at h
  rcases Nat.lt_or_eq_of_le h with h | h
  · obtain ⟨z, hc, h1, _⟩ := run_conv_nan (P := Try.prog) w 24 62 x Try.underlying24 Try.underlying62 h
    obtain ⟨s, t, hr⟩ := read_nanD h1
    have Hn := hid (show (FloatKind.f64.format.order z z != some .eq) = true by
      show (D.order z z != some .eq) = true
      rw [order_nan hr]; rfl)
    clear h h1 hr hx
    go_enter Try.func106, Try.ntmps106
    go_wp2_with (go_at_call 155; refine (isNaN_f64 z _).mono ?_; rintro e w' ⟨rfl, rfl⟩; rw [Hn.out])
    go_ret
    exact ⟨rfl, (Below.refl _ _).drew⟩
  · obtain ⟨z, hc, h1, h2⟩ := run_conv_inf (P := Try.prog) w 24 62 x hx Try.underlying24 Try.underlying62 h.symm
    have hr : D.read z = .infinity (decide (9223372036854775808 ≤ z)) := by rw [read_signD h2, h1, read_DINF]
    have Hn := hid (show (FloatKind.f64.format.order z z != some .eq) = false by
      show (D.order z z != some .eq) = false
      rw [order_inf hr]; rfl)
    have Hi := hid (show (FloatKind.f64.format.order (z % 9223372036854775808) 9218868437227405311 == some .gt) = true by
      rw [h1]; decide)
    have H2 := hid h2
    clear h h1 hr hx h2
    go_enter Try.func106, Try.ntmps106
    go_wp2_with (first | (go_at_call 155; refine (isNaN_f64 z _).mono ?_; rintro e w' ⟨rfl, rfl⟩; rw [Hn.out]) | (go_at_call 156; refine (isInf_f64 z H2.out _).mono ?_; rintro e w' ⟨rfl, rfl⟩; rw [Hi.out]))
    go_ret
    exact ⟨rfl, Below.refl _ _⟩

theorem signbit_f64 (y : Nat) (w : World) :
    Calls Try.prog 154 #[.float .f64 y] w fun e w' => e = .returned (.bool (decide (wrap64 (y : Int) < 0))) ∧ w = w' := by
  go_enter Try.func154, Try.ntmps154
  go_wp2
  go_ret
  exact ⟨rfl, rfl⟩

theorem and_sign (y : Nat) (h : y < 18446744073709551616) : (decide (wrap64 (y : Int) < 0)) = decide (9223372036854775808 ≤ y) := by
  unfold wrap64
  by_cases h' : 9223372036854775808 ≤ y
  · rw [decide_eq_true h']; simp; omega
  · rw [decide_eq_false h']; simp; omega

theorem isAmount_t (x : Nat) (h : amtB x = true) (w : World) :
    Calls Try.prog 104 #[.float .f32 x] w fun e w' => e = .returned (.bool true) ∧ w = w' := by
  have hf := amt_fin h
  rw [amtB_iff, INF_val] at h
  have hx : x < 4294967296 := by omega
  have hc := fun w => run_conv_wid (P := Try.prog) w 24 62 x hx Try.underlying24 Try.underlying62 (finB_iff.1 hf)
  have hw : wid x < 18446744073709551616 := D.write_lt _
  have Hs := hid (show (decide (wrap64 (wid x : Int) < 0)) = false by
    rw [and_sign _ hw]
    have := (wid_val (x := x) (by rw [INF_val]; omega)).1
    rw [DINF_val] at this
    simp; omega)
  have Hx := hid hx
  have Hf := hid hf
  clear h hf hx hw
  go_enter Try.func104, Try.ntmps104
  go_wp2_with (first | (go_at_call 106; refine (isFinite_t x Hx.out Hf.out _).mono ?_; rintro e w' ⟨rfl, rfl⟩) | (go_at_call 154; refine (signbit_f64 (wid x) _).mono ?_; rintro e w' ⟨rfl, rfl⟩; rw [Hs.out]))
  go_ret
  exact ⟨rfl, rfl⟩

theorem isAmount_f (x : Nat) (hx : x < 4294967296) (h : amtB x = false) (w : World) :
    Calls Try.prog 104 #[.float .f32 x] w fun e w' => e = .returned (.bool false) ∧ Below w.heap.size w w' := by
  rcases hf : finB x with _ | _
  · have Hx := hid hx
    have Hf := hid hf
    clear h hf hx
    go_enter Try.func104, Try.ntmps104
    go_wp2_with (go_at_call 106; refine (isFinite_f x Hx.out Hf.out _).mono ?_; rintro e w' ⟨rfl, hb⟩)
    go_ret
    exact ⟨rfl, hb⟩
  · have hc := fun w => run_conv_wid (P := Try.prog) w 24 62 x hx Try.underlying24 Try.underlying62 (finB_iff.1 hf)
    have hw : wid x < 18446744073709551616 := D.write_lt _
    have Hs := hid (show (decide (wrap64 (wid x : Int) < 0)) = true by
      rw [and_sign _ hw, wid_fin hx (finB_iff.1 hf)]
      rw [amtB_iff', INF_val] at h
      rw [finB_iff, INF_val] at hf
      unfold mg at hf ⊢
      rw [if_pos (by omega)]
      simp)
    have Hx := hid hx
    have Hf := hid hf
    clear h hf hx hw
    go_enter Try.func104, Try.ntmps104
    go_wp2_with (first | (go_at_call 106; refine (isFinite_t x Hx.out Hf.out _).mono ?_; rintro e w' ⟨rfl, rfl⟩) | (go_at_call 154; refine (signbit_f64 (wid x) _).mono ?_; rintro e w' ⟨rfl, rfl⟩; rw [Hs.out]))
    go_ret
    exact ⟨rfl, Below.refl _ _⟩

theorem info_f32 : ∃ i, Try.prog.info? 24 = some i ∧ i.size = 1 := by
  have h : (Try.prog.info? 24).map (·.size) = some 1 := by kernel_rfl
  cases hi : Try.prog.info? 24 with
  | none => rw [hi] at h; cases h
  | some i => rw [hi] at h; exact ⟨i, rfl, Option.some.inj h⟩

theorem ix (T : TypeId) (hT : Try.prog.underlying T = some (.array 20 24)) (c : Nat → Nat) (k : Nat) (hk : k < 20) (w : World) :
    (Instr.index T (.agg (fls c)) (.int .i64 (k : Int))).run Try.prog w = .ok (.float .f32 (c k)) w := by
  obtain ⟨i, h1, h2⟩ := info_f32
  exact run_index_arr hT Try.underlying24 rfl h1 h2 _ _ hk _ (fls_get c hk) w

theorem info_arr : (Try.prog.info? 26).map (·.size) = some 20 := by kernel_rfl

set_option maxRecDepth 100000 in
theorem validSizes_t (c : Nat → Nat) (h : ∀ i, i < 20 → amtB (c i) = true) (w : World) :
    Calls Try.prog 53 #[.agg (fls c)] w fun e w' => e = .returned (.bool true) ∧ Below w.heap.size w w' := by
  have H := hid h
  clear h
  go_enter Try.func53, Try.ntmps53
  go_wp2_with (refine wpList_load_row rfl 26 _ rfl w.heap.size rfl 26 (fls c) (0, 0) _ (heap_alloc_new _ _) Try.underlying26 rfl (by rw [fls_size]; exact info_arr) ?_)
  go_loop [6] (fun i => ∃ k : Nat, k ≤ 20 ∧ i = .int .i64 k) (fun i => 20 - (intOf i).toNat)
  case atStart => exact ⟨0, by omega, rfl⟩
  case round =>
    obtain ⟨k, hk, rfl⟩ := hrel
    by_cases hlt : k < 20
    · have hix := ix 26 Try.underlying26 c k hlt
      go_wp2_with (go_at_call 104; refine (isAmount_t (c k) (H.out k hlt) _).mono ?_; rintro e w' ⟨rfl, rfl⟩)
      go_round
      case rel => exact ⟨k + 1, by omega, by go_num⟩
      case measure => simp [intOf]; omega
    · go_wp2
      go_ret
      exact ⟨rfl, (Below.refl _ _).alloc (Nat.le_refl _) _⟩

@[go_sem] theorem ext_f32bits (y : Nat) (w : World) : (callFunc 159 #[.float .f32 y]).run Try.prog w = .ok (.value (.int .u32 y)) w := by
  rw [run_callFunc_extern Try.func159 (by kernel_rfl) (by kernel_rfl) (by kernel_rfl) (e := Extern.MathFloatBits.float32bits) (by kernel_rfl)]
  rfl

theorem sFinite_t (x : Nat) (hx : x < 4294967296) (h : finB x = true) (w : World) :
    Calls Try.prog 110 #[.float .f32 x] w fun e w' => e = .returned (.bool true) ∧ w = w' := by
  have hr := fun w => run_float_arith (P := Try.prog) w .sub 24 .f32 x x 0 (sub_self_fin hx h)
  clear h hx
  go_enter Try.func110, Try.ntmps110
  go_wp2
  go_ret
  exact ⟨rfl, rfl⟩

theorem sFinite_f (x : Nat) (hx : x < 4294967296) (h : finB x = false) (w : World) :
    Calls Try.prog 110 #[.float .f32 x] w fun e w' => e = .returned (.bool false) ∧ Below w.heap.size w w' := by
  obtain ⟨z, hr, h1, _⟩ := run_arith_nan (P := Try.prog) w .sub (by simp) 24 x x (sub_self_none hx h)
  have Hn := hid (show (FloatKind.f32.format.order z 0 == some .eq) = false by
    show (S.order z 0 == some .eq) = false
    rw [order_nan32 h1]; rfl)
  clear h hx h1
  go_enter Try.func110, Try.ntmps110
  go_wp2
  go_ret
  exact ⟨by simp [Hn.out], (Below.refl _ _).drew⟩

theorem sAmount_t (x : Nat) (h : amtB x = true) (w : World) :
    Calls Try.prog 114 #[.float .f32 x] w fun e w' => e = .returned (.bool true) ∧ w = w' := by
  have hf := amt_fin h
  have h' := amtB_iff.1 h
  have hx : x < 4294967296 := by rw [INF_val] at h'; omega
  have Hx := hid hx
  have Hf := hid hf
  by_cases h0 : x = 0
  · subst h0
    clear h hf h' hx
    go_enter Try.func114, Try.ntmps114
    go_wp2_with (go_at_call 110; refine (sFinite_t 0 Hx.out Hf.out _).mono ?_; rintro e w' ⟨rfl, rfl⟩)
    go_ret
    exact ⟨rfl, rfl⟩
  · have hg : (FloatKind.f32.format.order x 0 == some .gt) = true := by
      show (S.order x 0 == some .gt) = true
      rw [order_zero_pos h', Nat.compare_eq_gt.2 (by omega)]; rfl
    clear h hf h' hx h0
    go_enter Try.func114, Try.ntmps114
    go_wp2_with (go_at_call 110; refine (sFinite_t x Hx.out Hf.out _).mono ?_; rintro e w' ⟨rfl, rfl⟩)
    go_ret
    exact ⟨rfl, rfl⟩

theorem sAmount_f (x : Nat) (hx : x < 4294967296) (h : amtB x = false) (w : World) :
    Calls Try.prog 114 #[.float .f32 x] w fun e w' => e = .returned (.bool false) ∧ Below w.heap.size w w' := by
  rcases hf : finB x with _ | _
  · have Hx := hid hx
    have Hf := hid hf
    clear h hf hx
    go_enter Try.func114, Try.ntmps114
    go_wp2_with (go_at_call 110; refine (sFinite_f x Hx.out Hf.out _).mono ?_; rintro e w' ⟨rfl, hb⟩)
    go_ret
    exact ⟨rfl, hb⟩
  · have hs : 2147483648 ≤ x := by
      rw [amtB_iff', INF_val] at h
      have := finB_iff.1 hf
      rw [INF_val] at this
      unfold mg at this
      omega
    have hg : (FloatKind.f32.format.order x 0 == some .gt) = false := order_neg_zero hx hf hs
    have hb : ((x : Int) == 0) = false := by simp; omega
    have Hx := hid hx
    have Hf := hid hf
    clear h hf hx hs
    go_enter Try.func114, Try.ntmps114
    go_wp2_with (go_at_call 110; refine (sFinite_t x Hx.out Hf.out _).mono ?_; rintro e w' ⟨rfl, rfl⟩)
    go_ret
    exact ⟨rfl, Below.refl _ _⟩

set_option maxRecDepth 100000 in
theorem validSizes_f (c : Nat → Nat) (hb : ∀ i, i < 20 → c i < 4294967296) (h : ¬ ∀ i, i < 20 → amtB (c i) = true) (w : World) :
    Calls Try.prog 53 #[.agg (fls c)] w fun e w' => e = .returned (.bool false) ∧ Below w.heap.size w w' := by
  have H := hid h
  have HB := hid hb
  clear h hb
  go_enter Try.func53, Try.ntmps53
  go_wp2_with (refine wpList_load_row rfl 26 _ rfl w.heap.size rfl 26 (fls c) (0, 0) _ (heap_alloc_new _ _) Try.underlying26 rfl (by rw [fls_size]; exact info_arr) ?_)
  go_loop [6] (fun i => ∃ k : Nat, k ≤ 20 ∧ Hid (∀ i, i < k → amtB (c i) = true) ∧ i = .int .i64 k) (fun i => 20 - (intOf i).toNat)
  case atStart => exact ⟨0, by omega, hid (fun i hi => by omega), rfl⟩
  case round =>
    obtain ⟨k, hk, HK, rfl⟩ := hrel
    by_cases hlt : k < 20
    · have hix := ix 26 Try.underlying26 c k hlt
      rcases hac : amtB (c k) with _ | _
      · have HA := hid hac
        clear hac
        go_wp2_with (go_at_call 104; refine (isAmount_f (c k) (HB.out k hlt) HA.out _).mono ?_; rintro e w' ⟨rfl, hb⟩)
        go_ret
        exact ⟨rfl, (((Below.refl _ _).alloc (Nat.le_refl _) _).trans (hb.mono (by simp)))⟩
      · have HA := hid hac
        clear hac
        go_wp2_with (go_at_call 104; refine (isAmount_t (c k) HA.out _).mono ?_; rintro e w' ⟨rfl, rfl⟩)
        go_round
        case rel =>
          refine ⟨k + 1, by omega, hid (fun i hi => ?_), by go_num⟩
          by_cases e : i = k
          · subst e; exact HA.out
          · exact HK.out i (by omega)
        case measure => simp [intOf]; omega
    · have hk20 : k = 20 := by omega
      exact (H.out (fun i hi => HK.out i (by omega))).elim

set_option maxRecDepth 100000 in
theorem sOk_t (c : Nat → Nat) (h : ∀ i, i < 20 → amtB (c i) = true) (w : World) (g : Nat) (T : TypeId) (hg : w.heap[g]? = some (.cells (fls c) T (0, 0))) :
    Calls Try.prog 109 #[.pointer (some ⟨g, 0, none⟩)] w fun e w' => e = .returned (.bool true) ∧ w = w' := by
  have H := hid h
  have HG := hid hg
  clear h hg
  go_enter Try.func109, Try.ntmps109
  go_wp2
  go_loop [3] (fun i => ∃ k : Nat, k ≤ 20 ∧ i = .int .i64 k) (fun i => 20 - (intOf i).toNat)
  case atStart => exact ⟨0, by omega, rfl⟩
  case round =>
    obtain ⟨k, hk, rfl⟩ := hrel
    by_cases hlt : k < 20
    · have hcell : w.cell? ⟨g, k, none⟩ = some (.float .f32 (c k)) := by rw [cell_of_row w g k _ _ _ HG.out, fls_get c hlt]
      go_wp2_with (go_at_call 114; refine (sAmount_t (c k) (H.out k hlt) _).mono ?_; rintro e w' ⟨rfl, rfl⟩)
      go_round
      case rel => exact ⟨k + 1, by omega, by go_num⟩
      case measure => simp [intOf]; omega
    · go_wp2
      go_ret
      exact ⟨rfl, rfl⟩

set_option maxRecDepth 100000 in
theorem sOk_f (c : Nat → Nat) (hb : ∀ i, i < 20 → c i < 4294967296) (h : ¬ ∀ i, i < 20 → amtB (c i) = true) (w : World) (g : Nat) (T : TypeId) (hg : w.heap[g]? = some (.cells (fls c) T (0, 0))) :
    Calls Try.prog 109 #[.pointer (some ⟨g, 0, none⟩)] w fun e w' => e = .returned (.bool false) ∧ Below w.heap.size w w' := by
  have H := hid h
  have HB := hid hb
  have HG := hid hg
  clear h hb hg
  go_enter Try.func109, Try.ntmps109
  go_wp2
  go_loop [3] (fun i => ∃ k : Nat, k ≤ 20 ∧ Hid (∀ i, i < k → amtB (c i) = true) ∧ i = .int .i64 k) (fun i => 20 - (intOf i).toNat)
  case atStart => exact ⟨0, by omega, hid (fun i hi => by omega), rfl⟩
  case round =>
    obtain ⟨k, hk, HK, rfl⟩ := hrel
    by_cases hlt : k < 20
    · have hcell : w.cell? ⟨g, k, none⟩ = some (.float .f32 (c k)) := by rw [cell_of_row w g k _ _ _ HG.out, fls_get c hlt]
      rcases hac : amtB (c k) with _ | _
      · have HA := hid hac
        clear hac
        go_wp2_with (go_at_call 114; refine (sAmount_f (c k) (HB.out k hlt) HA.out _).mono ?_; rintro e w' ⟨rfl, hb⟩)
        go_ret
        exact ⟨rfl, hb⟩
      · have HA := hid hac
        clear hac
        go_wp2_with (go_at_call 114; refine (sAmount_t (c k) HA.out _).mono ?_; rintro e w' ⟨rfl, rfl⟩)
        go_round
        case rel =>
          refine ⟨k + 1, by omega, hid (fun i hi => ?_), by go_num⟩
          by_cases e : i = k
          · subst e; exact HA.out
          · exact HK.out i (by omega)
        case measure => simp [intOf]; omega
    · have hk20 : k = 20 := by omega
      exact (H.out (fun i hi => HK.out i (by omega))).elim

set_option maxRecDepth 100000 in
theorem iSum (c : Nat → Nat) (h : ∀ i, i < 20 → nnB (c i) = true) (w : World) :
    Calls Try.prog 96 #[.agg (fls c)] w fun e w' => e = .returned (.float .f32 (sumF c 19)) ∧ Below w.heap.size w w' := by
  have H := hid h
  clear h
  have hcell : ∀ k, k < 20 → (w.alloc (.cells (fls c) 25)).cell? ⟨w.heap.size, k, none⟩ = some (.float .f32 (c k)) := fun k hk => by
    rw [cell_of_row _ _ k _ _ _ (heap_alloc_new _ _), fls_get c hk]
  have h0 := hcell 0 (by omega)
  have HC := hid hcell
  clear hcell
  go_enter Try.func96, Try.ntmps96
  go_wp2
  go_loop [3, 4] (fun s i => ∃ k : Nat, k ≤ 19 ∧ i = .int .i64 (k + 1 : Nat) ∧ s = .float .f32 (sumF c k)) (fun _ i => 20 - (intOf i).toNat)
  case atStart => exact ⟨0, by omega, rfl, rfl⟩
  case round =>
    obtain ⟨k, hk, rfl, rfl⟩ := hrel
    by_cases hlt : k < 19
    · have hcell := HC.out (k + 1) (by omega)
      have hadd := fun w => run_add (P := Try.prog) 24 (sumF_nn k (fun i hi => H.out i (by omega))) (H.out (k + 1) (by omega)) w
      go_wp2
      go_round
      case rel => exact ⟨k + 1, by omega, by go_num, rfl⟩
      case measure => simp [intOf]; omega
    · obtain rfl : k = 19 := by omega
      go_wp2
      go_ret
      exact ⟨rfl, (Below.refl _ _).alloc (Nat.le_refl _) _⟩

theorem info_a20 : (Try.prog.info? 25).map (·.size) = some 20 := by kernel_rfl

set_option maxRecDepth 100000 in
theorem toSizes (c : Nat → Nat) (w : World) :
    Calls Try.prog 58 #[.agg (fls c)] w fun e w' => e = .returned (.agg (fls c)) ∧ Below w.heap.size w w' := by
  have b0 : Below w.heap.size w (w.alloc (.cells (fls c) 25)) := (Below.refl _ _).alloc (Nat.le_refl _) _
  have a0 := hid (arrAt.new w c 25)
  go_enter Try.func58, Try.ntmps58
  go_wp2
  go_loopw [4] (fun i wr => ∃ k : Nat, k ≤ 20 ∧ i = .int .i64 k ∧ Hid (arrAt wr w.heap.size c 25) ∧ Hid (arrAt wr (w.heap.size + 1) (fun _ => 0) 26) ∧ Hid (arrAt wr (w.heap.size + 1 + 1) (cut c k) 26) ∧ Hid (Below w.heap.size w wr)) (fun i _ => 20 - (intOf i).toNat)
  case atStart =>
    refine ⟨0, by omega, rfl, hid ((a0.out.alloc _).alloc _), hid ?_, hid ?_, hid ((b0.alloc (by simp) _).alloc (by simp; omega) _)⟩
    · have := arrAt.new (w.alloc (.cells (fls c) 25)) (fun _ => 0) 26
      have e : (w.alloc (.cells (fls c) 25)).heap.size = w.heap.size + 1 := by simp
      rw [e] at this
      exact this.alloc _
    · have := arrAt.new ((w.alloc (.cells (fls c) 25)).alloc (.cells (fls fun _ => 0) 26)) (fun _ => 0) 26
      have e : ((w.alloc (.cells (fls c) 25)).alloc (.cells (fls fun _ => 0) 26)).heap.size = w.heap.size + 1 + 1 := by simp
      rw [e] at this
      exact this.ext (fun i _ => (cut_zero' c i).symm)
  case round =>
    obtain ⟨k, hk, rfl, h0, h1, h2, hb⟩ := hrel
    by_cases hlt : k < 20
    · have q0 := h0.out.cell hlt
      have q2 := h2.out.cell hlt
      have f2 := h2.out.frozen k
      go_wp2
      go_roundw
      case rel => exact ⟨k + 1, by omega, by go_num, hid (h0.out.setOther (by simp; omega) _), hid (h1.out.setOther (by simp) _), hid ((h2.out.set k (c k)).ext (fun i _ => cut_succ c k i)), hid (hb.out.setCell (by simp; omega) _)⟩
      case measure => simp [intOf]; omega
    · obtain rfl : k = 20 := by omega
      have h2' := hid (h2.out.ext (cut_all c))
      clear h2
      go_wp2_with (first | (refine wpList_load_row rfl 26 _ rfl (w.heap.size + 1 + 1) rfl 26 (fls c) (0, 0) _ h2'.out Try.underlying26 rfl (by rw [fls_size]; exact info_arr) ?_) | (refine wpList_store_row rfl 26 _ _ rfl (w.heap.size + 1) (fls c) rfl rfl 26 _ h1.out (by rw [fls_size]; exact info_arr) (by simp) (fls_one c) ?_))
      exact bodyPost_ret (results_cell_row rfl _ _ (w.heap.size + 1) 26 (fls c) (0, 0) _ rfl (h1.out.setRow c) Try.underlying26 rfl (by rw [fls_size]; exact info_arr)) rfl ⟨rfl, below_row hb.out (by omega) _⟩

theorem div_one_some {y m : Nat} {s : Bool} {e : Int} (h : D.read y = .number s m e) : ∃ q, floatBits .quo .f64 4607182418800017408 y = some q := by
  have h1 : D.read 4607182418800017408 = .number false 4503599627370496 (-52) := by decide
  show ∃ q, D.div 4607182418800017408 y = some q
  unfold Ieee.Format.div
  rw [h, h1]
  simp only [Ieee.Datum.quotient]
  by_cases hm : m = 0
  · rw [if_pos hm]; exact ⟨_, rfl⟩
  · rw [if_neg hm]; exact ⟨_, rfl⟩

set_option maxRecDepth 100000 in
theorem sameFloat (x : Nat) (hx : x < 4294967296) (h : finB x = true) (w : World) :
    Calls Try.prog 62 #[.float .f64 (wid x), .float .f64 (wid x)] w fun e w' => e = .returned (.bool true) ∧ w = w' := by
  obtain ⟨a, b, m, e, hr⟩ := read_wid_fin hx (finB_iff.1 h)
  have hn : (FloatKind.f64.format.order (wid x) (wid x) != some .eq) = false := by
    show (D.order (wid x) (wid x) != some .eq) = false
    rw [order_self hr]; rfl
  have hq : (FloatKind.f64.format.order (wid x) (wid x) == some .eq) = true := by
    show (D.order (wid x) (wid x) == some .eq) = true
    rw [order_self hr]; rfl
  obtain ⟨q, hd⟩ := div_one_some hr
  have hdiv := fun w => run_float_arith (P := Try.prog) w .quo 62 .f64 4607182418800017408 (wid x) q hd
  clear hd hr a b h hx
  rcases hz : (FloatKind.f64.format.order (wid x) 0 == some .eq) with _ | _
  · go_enter Try.func62, Try.ntmps62
    go_wp2
    go_ret
    exact ⟨by simp, rfl⟩
  · go_enter Try.func62, Try.ntmps62
    go_wp2
    go_ret
    exact ⟨by simp, rfl⟩

theorem back {P : Program} {f : FuncId} {args : Array Value} {w : World} {v : Value} (h : Calls P f args w fun e w' => e = .returned v ∧ w = w') : Calls P f args w fun e w' => e = .returned v ∧ w' = w :=
  h.mono fun _ _ ⟨a, b⟩ => ⟨a, b.symm⟩

theorem iTold_t (x : Nat) (hx : x < 4294967296) (h : finB x = true) (w : World) :
    Calls Try.prog 95 #[.float .f32 x] w fun e w' => e = .returned (.tuple #[.float .f32 x, .int .i64 0]) ∧ w = w' := by
  have H := hid h
  have Hx := hid hx
  clear h hx
  go_enter Try.func95, Try.ntmps95
  go_wp2_with (go_at_call 106; refine (isFinite_t x Hx.out H.out _).mono ?_; rintro e w' ⟨rfl, rfl⟩)
  go_ret2
  exact ⟨rfl, rfl⟩

theorem iTold_f (x : Nat) (hx : x < 4294967296) (h : finB x = false) (w : World) :
    Calls Try.prog 95 #[.float .f32 x] w fun e w' => e = .returned (.tuple #[.float .f32 0, .int .i64 4]) ∧ Below w.heap.size w w' := by
  have H := hid h
  have Hx := hid hx
  clear h hx
  go_enter Try.func95, Try.ntmps95
  go_wp2_with (go_at_call 106; refine (isFinite_f x Hx.out H.out _).mono ?_; rintro e w' ⟨rfl, hb⟩)
  go_ret2
  exact ⟨rfl, hb⟩

theorem iTold (x : Nat) (hx : x < 4294967296) (w : World) :
    Calls Try.prog 95 #[.float .f32 x] w fun e w' => e = .returned (told x) ∧ Below w.heap.size w w' := by
  rcases h : finB x with _ | _
  · rw [told_f h]; exact iTold_f x hx h w
  · rw [told_t h]; exact (iTold_t x hx h w).mono fun e w' ⟨a, b⟩ => ⟨a, b ▸ Below.refl _ _⟩

theorem sTold_t (x : Nat) (hx : x < 4294967296) (h : finB x = true) (w : World) :
    Calls Try.prog 132 #[.float .f32 x] w fun e w' => e = .returned (.tuple #[.float .f32 x, .int .i64 0]) ∧ w = w' := by
  have H := hid h
  have Hx := hid hx
  clear h hx
  go_enter Try.func132, Try.ntmps132
  go_wp2_with (go_at_call 110; refine (sFinite_t x Hx.out H.out _).mono ?_; rintro e w' ⟨rfl, rfl⟩)
  go_ret2
  exact ⟨rfl, rfl⟩

theorem sTold_f (x : Nat) (hx : x < 4294967296) (h : finB x = false) (w : World) :
    Calls Try.prog 132 #[.float .f32 x] w fun e w' => e = .returned (.tuple #[.float .f32 0, .int .i64 4]) ∧ Below w.heap.size w w' := by
  have H := hid h
  have Hx := hid hx
  clear h hx
  go_enter Try.func132, Try.ntmps132
  go_wp2_with (go_at_call 110; refine (sFinite_f x Hx.out H.out _).mono ?_; rintro e w' ⟨rfl, hb⟩)
  go_ret2
  exact ⟨rfl, hb⟩

theorem sTold (x : Nat) (hx : x < 4294967296) (w : World) :
    Calls Try.prog 132 #[.float .f32 x] w fun e w' => e = .returned (told x) ∧ Below w.heap.size w w' := by
  rcases h : finB x with _ | _
  · rw [told_f h]; exact sTold_f x hx h w
  · rw [told_t h]; exact (sTold_t x hx h w).mono fun e w' ⟨a, b⟩ => ⟨a, b ▸ Below.refl _ _⟩

/-- The mass of a class, as a word. -/
theorem iMass (k : Nat) (hk : k < 20) (w : World) :
    Calls Try.prog 102 #[.int .i64 (k : Int)] w fun e w' => e = .returned (.float .f32 (mass k)) ∧ w = w' := by
  have H : k = 0 ∨ k = 1 ∨ k = 2 ∨ k = 3 ∨ k = 4 ∨ k = 5 ∨ k = 6 ∨ k = 7 ∨ k = 8 ∨ k = 9 ∨ k = 10 ∨ k = 11 ∨ k = 12 ∨ k = 13 ∨ k = 14 ∨ k = 15 ∨ k = 16 ∨ k = 17 ∨ k = 18 ∨ k = 19 := by omega
  rcases H with rfl | rfl | rfl | rfl | rfl | rfl | rfl | rfl | rfl | rfl | rfl | rfl | rfl | rfl | rfl | rfl | rfl | rfl | rfl | rfl
  all_goals
    go_enter Try.func102, Try.ntmps102
    go_wp2
    go_ret
    exact ⟨rfl, rfl⟩

def Amts (c : Nat → Nat) : Prop := ∀ i, i < 20 → amtB (c i) = true

theorem told_lit (x : Nat) : ∃ r n, told x = .tuple #[.float .f32 r, .int .i64 n] ∧ finB r = true ∧ (x < 4294967296 → r < 4294967296) := by
  rcases h : finB x with _ | _
  · exact ⟨0, 4, told_f h, by decide, fun _ => by decide⟩
  · exact ⟨x, 0, told_t h, h, fun hx => hx⟩

theorem sMass (k : Nat) (hk : k < 20) (w : World) :
    Calls Try.prog 158 #[.int .i64 (k : Int)] w fun e w' => e = .returned (.float .f32 (mass k)) ∧ w = w' := by
  have H : k = 0 ∨ k = 1 ∨ k = 2 ∨ k = 3 ∨ k = 4 ∨ k = 5 ∨ k = 6 ∨ k = 7 ∨ k = 8 ∨ k = 9 ∨ k = 10 ∨ k = 11 ∨ k = 12 ∨ k = 13 ∨ k = 14 ∨ k = 15 ∨ k = 16 ∨ k = 17 ∨ k = 18 ∨ k = 19 := by omega
  rcases H with rfl | rfl | rfl | rfl | rfl | rfl | rfl | rfl | rfl | rfl | rfl | rfl | rfl | rfl | rfl | rfl | rfl | rfl | rfl | rfl
  all_goals
    go_enter Try.func158, Try.ntmps158
    go_wp2
    go_ret
    exact ⟨rfl, rfl⟩

set_option maxRecDepth 100000 in
theorem sWater (c : Nat → Nat) (h : Amts c) (a : Nat) (ha : a < 20) (w : World) (g : Nat) (T : TypeId) (hg : arrAt w g c T) :
    Calls Try.prog 144 #[.pointer (some ⟨g, 0, none⟩), .int .i64 (a : Int)] w fun e w' => e = .returned (.float .f32 (sumA (wat c) a (19 - a))) ∧ Below w.heap.size w w' := by
  have H := hid h
  have HG := hid hg
  have q0 := hg.cell ha
  have hmul := fun w => run_mul (P := Try.prog) 24 (h a ha) (mass_amt ha) w
  clear h hg
  go_enter Try.func144, Try.ntmps144
  go_wp2_with fail
  go_quiet ((go_at_call 158; exact Calls.quiet_of_same (back (sMass a ha _))))
  go_wp2_with fail
  go_loopw [5, 6] (fun s i wr => ∃ q : Nat, a + 1 ≤ q ∧ q ≤ 20 ∧ i = .int .i64 q ∧ s = .float .f32 (sumA (wat c) a (q - (a + 1))) ∧ Hid (arrAt wr g c T) ∧ Hid (Below w.heap.size w wr)) (fun _ i _ => 20 - (intOf i).toNat)
  case atStart => exact ⟨a + 1, by omega, by omega, by go_num, by rw [Nat.sub_self]; rfl, HG, hid (below_drewN (Below.refl _ _) _)⟩
  case round =>
    obtain ⟨q, hq1, hq2, rfl, rfl, h1, h2⟩ := hrel
    by_cases hlt : q < 20
    · have q1 := h1.out.cell hlt
      have hm2 := fun w => run_mul (P := Try.prog) 24 (H.out q hlt) (mass_amt hlt) w
      have hadd := fun w => run_add (P := Try.prog) 24 (sumA_nn (c := wat c) (a := a) (q - (a + 1)) (fun i hi => wat_nn (by omega) (H.out i (by omega)))) (wat_nn hlt (H.out q hlt)) w
      have hw : fmul (c q) (mass q) = wat c q := rfl
      go_wp2_with fail
      go_quiet ((go_at_call 158; exact Calls.quiet_of_same (back (sMass q hlt _))))
      go_wp2_with fail
      go_roundw
      case rel =>
        refine ⟨q + 1, by omega, by omega, by go_num, ?_, h1, hid (below_drewN h2.out _)⟩
        rw [show q + 1 - (a + 1) = (q - (a + 1)) + 1 by omega]
        show _ = Value.float .f32 (fadd (sumA (wat c) a (q - (a + 1))) (wat c (a + (q - (a + 1)) + 1)))
        rw [show a + (q - (a + 1)) + 1 = q by omega]
      case measure => simp [intOf]; omega
    · obtain rfl : q = 20 := by omega
      go_wp2
      go_ret
      exact ⟨by simp [show 20 - (a + 1) = 19 - a by omega], h2.out⟩

set_option maxRecDepth 100000 in
theorem iWaters (c : Nat → Nat) (h : Amts c) (w : World) :
    Calls Try.prog 99 #[.agg (fls c)] w fun e w' => e = .returned (.agg (fls (wat c))) ∧ Below w.heap.size w w' := by
  have A0 := hid (((arrAt.new w c 26).alloc (.cells (fls fun _ => 0) 25)).alloc (.cells (fls fun _ => 0) 25))
  have A1 := hid ((new1 w (.cells (fls c) 26) (fun _ => 0) 25).alloc (.cells (fls fun _ => 0) 25))
  have A2 := hid (new2 w (.cells (fls c) 26) (.cells (fls fun _ => 0) 25) (fun _ => 0) 25)
  have b0 := boxed3 w (.cells (fls c) 26) (.cells (fls fun _ => 0) 25) (.cells (fls fun _ => 0) 25)
  have H := hid h
  clear h
  go_enter Try.func99, Try.ntmps99
  go_wp2_with (refine wpList_load_row rfl 26 _ rfl (w.heap.size) rfl 26 (fls c) (0, 0) _ A0.out Try.underlying26 rfl (by rw [fls_size]; exact info_arr) ?_)
  go_loopw [7] (fun i wr => ∃ k : Nat, k ≤ 20 ∧ i = .int .i64 k ∧ Hid (arrAt wr (w.heap.size + 1) (fun _ => 0) 25) ∧ Hid (arrAt wr (w.heap.size + 1 + 1) (cut (wat c) k) 25) ∧ Hid (Below w.heap.size w wr)) (fun i _ => 20 - (intOf i).toNat)
  case atStart => exact ⟨0, by omega, rfl, A1, hid (A2.out.ext (fun i _ => (cut_zero' (wat c) i).symm)), hid b0⟩
  case round =>
    obtain ⟨k, hk, rfl, h1, h2, hb⟩ := hrel
    by_cases hlt : k < 20
    · have hix := ix 26 Try.underlying26 c k hlt
      have hm := fun w => run_mul (P := Try.prog) 24 (H.out k hlt) (mass_amt hlt) w
      have q2 := h2.out.cell hlt
      have f2 := h2.out.frozen k
      go_wp2_with (go_at_call 102; refine (iMass k hlt _).mono ?_; rintro e w' ⟨rfl, rfl⟩)
      go_roundw
      case rel => exact ⟨k + 1, by omega, by go_num, hid (h1.out.setOther (by simp) _), hid ((h2.out.set k (wat c k)).ext (fun i _ => cut_succ (wat c) k i)), hid (hb.out.setCell (by simp; omega) _)⟩
      case measure => simp [intOf]; omega
    · obtain rfl : k = 20 := by omega
      have h2' := hid (h2.out.ext (cut_all (wat c)))
      clear h2
      go_wp2_with (first | (refine wpList_load_row rfl 25 _ rfl (w.heap.size + 1 + 1) rfl 25 (fls (wat c)) (0, 0) _ h2'.out Try.underlying25 rfl (by rw [fls_size]; exact info_a20) ?_) | (refine wpList_store_row rfl 25 _ _ rfl (w.heap.size + 1) (fls (wat c)) rfl rfl 25 _ h1.out (by rw [fls_size]; exact info_a20) (by simp) (fls_one (wat c)) ?_))
      exact bodyPost_ret (results_cell_row rfl _ _ (w.heap.size + 1) 25 (fls (wat c)) (0, 0) _ rfl (h1.out.setRow (wat c)) Try.underlying25 rfl (by rw [fls_size]; exact info_a20)) rfl ⟨rfl, below_row hb.out (by omega) _⟩

set_option maxRecDepth 100000 in
theorem iWaterOf_ok (c : Nat → Nat) (h : Amts c) (w : World) :
    Calls Try.prog 36 #[.agg (fls c)] w fun e w' => e = .returned (told (sumF (wat c) 19)) ∧ Below w.heap.size w w' := by
  have hn : ∀ i, i < 20 → nnB (wat c i) = true := fun i hi => wat_nn hi (h i hi)
  have hx := hid (nn_lt (sumF_nn 19 (fun i hi => hn i (by omega))))
  have Hn := hid hn
  have H := hid h
  clear h hn
  obtain ⟨r, n, ht, hr, _⟩ := told_lit (sumF (wat c) 19)
  have hC := fun w => (iTold (sumF (wat c) 19) hx.out w)
  rw [ht] at hC ⊢
  have HC := hid hC
  clear hC ht hr
  have A0 := hid (arrAt.new w c 26)
  have b0 := boxed w (.cells (fls c) 26)
  go_enter Try.func36, Try.ntmps36
  go_wp2_with (first | (refine wpList_load_row rfl 26 _ rfl (w.heap.size) rfl 26 (fls c) (0, 0) _ A0.out Try.underlying26 rfl (by rw [fls_size]; exact info_arr) ?_))
  refine (validSizes_t c H.out _).mono ?_
  rintro e w0 ⟨rfl, hb0⟩
  have A0 := hid (A0.out.stay hb0)
  have c0 := stp b0 (Nat.le_refl _) hb0
  go_wp2_with (first | (refine wpList_load_row rfl 26 _ rfl (w.heap.size) rfl 26 (fls c) (0, 0) _ A0.out Try.underlying26 rfl (by rw [fls_size]; exact info_arr) ?_))
  refine (iWaters c H.out _).mono ?_
  rintro e w1 ⟨rfl, hb1⟩
  have A0 := hid (A0.out.stay hb1)
  have c1 := stp c0 (Nat.le_refl _) hb1
  go_wp2_with fail
  refine (iSum (wat c) Hn.out _).mono ?_
  rintro e w2 ⟨rfl, hb2⟩
  have A0 := hid (A0.out.stay hb2)
  have c2 := stp c1 (Nat.le_refl _) hb2
  go_wp2_with fail
  refine (HC.out _).mono ?_
  rintro e w3 ⟨rfl, hb3⟩
  have A0 := hid (A0.out.stay hb3)
  have c3 := stp c2 (Nat.le_refl _) hb3
  go_wp2
  go_ret2
  exact ⟨rfl, c3⟩

theorem loose {P : Program} {f : FuncId} {args : Array Value} {w : World} {v : Value} (h : Calls P f args w fun e w' => e = .returned v ∧ w = w') : Calls P f args w fun e w' => e = .returned v ∧ Below w.heap.size w w' :=
  h.mono fun _ _ ⟨a, b⟩ => ⟨a, b ▸ Below.refl _ _⟩

theorem run_toSizes1 (a : Act) (x0 : Operand) (v0 : Value) (h0 : a.eval x0 = v0) (d : Option Tmp) (ats : Array TypeId) (t : TypeId) (ps : String) (af : Array Edge) (gd : Option (Nat × Bool)) (w : World) :
    (execOp a.eval ⟨d, .call { callee := .value (.func 58), args := #[x0], argTypes := ats }, t, ps, af, gd⟩).run Try.prog w = .ok (.enter 58 #[v0]) w := by
  subst h0
  unfold execOp
  go_simp

theorem run_toAir1 (a : Act) (x0 : Operand) (v0 : Value) (h0 : a.eval x0 = v0) (d : Option Tmp) (ats : Array TypeId) (t : TypeId) (ps : String) (af : Array Edge) (gd : Option (Nat × Bool)) (w : World) :
    (execOp a.eval ⟨d, .call { callee := .value (.func 75), args := #[x0], argTypes := ats }, t, ps, af, gd⟩).run Try.prog w = .ok (.enter 75 #[v0]) w := by
  subst h0
  unfold execOp
  go_simp

theorem info_air : (Try.prog.info? 44).map (·.size) = some 2 := by kernel_rfl

theorem info_lair : (Try.prog.info? 70).map (·.size) = some 2 := by kernel_rfl

set_option maxRecDepth 100000 in
theorem toAir (h v : Nat) (w : World) :
    Calls Try.prog 75 #[.agg #[.float .f32 h, .float .f32 v]] w fun e w' => e = .returned (.agg #[.float .f32 h, .float .f32 v]) ∧ Below w.heap.size w w' := by
  have k0 : Hid (Kept w [(w.heap.size + 1, #[.float .f32 h, .float .f32 v], 44)] (((w.alloc (.cells #[.float .f32 h, .float .f32 v] 70)).alloc (.cells #[.float .f32 h, .float .f32 v] 44)).alloc (.cells #[.float .f32 h, .float .f32 v] 44))) := hid (((((Kept.nil w).push _ _).push _ _).push _ _).sub (by simp))
  go_enter Try.func75, Try.ntmps75
  go_wp2
  exact bodyPost_ret (results_cell_row rfl _ _ (w.heap.size + 1) 44 #[.float .f32 h, .float .f32 v] (0, 0) _ rfl (k0.out.at (x := (w.heap.size + 1, #[.float .f32 h, .float .f32 v], 44)) (by simp)) Try.underlying44 rfl info_air) rfl ⟨rfl, k0.out.1⟩

theorem iHeat (x : Nat) (q : Bool) (hq : heatB x = q) (w : World) :
    Calls Try.prog 118 #[.float .f32 x] w fun e w' => e = .returned (.bool q) ∧ w = w' := by
  have h1 : heatB x = ((FloatKind.f32.format.order x 3262119936 == some .gt || FloatKind.f32.format.order x 3262119936 == some .eq) && (FloatKind.f32.format.order x 1114636288 == some .lt || FloatKind.f32.format.order x 1114636288 == some .eq)) := rfl
  rw [h1] at hq
  clear h1
  rcases a : (FloatKind.f32.format.order x 3262119936 == some .gt || FloatKind.f32.format.order x 3262119936 == some .eq) with _ | _
  · rw [a] at hq
    simp only [Bool.false_and] at hq
    subst hq
    go_enter Try.func118, Try.ntmps118
    go_wp2
    go_ret
    exact ⟨rfl, rfl⟩
  · rw [a] at hq
    simp only [Bool.true_and] at hq
    cases q
    all_goals
      go_enter Try.func118, Try.ntmps118
      go_wp2
      go_ret
      exact ⟨rfl, rfl⟩

theorem sHeat (x : Nat) (q : Bool) (hq : heatB x = q) (w : World) :
    Calls Try.prog 140 #[.float .f32 x] w fun e w' => e = .returned (.bool q) ∧ w = w' := by
  have h1 : heatB x = ((FloatKind.f32.format.order x 3262119936 == some .gt || FloatKind.f32.format.order x 3262119936 == some .eq) && (FloatKind.f32.format.order x 1114636288 == some .lt || FloatKind.f32.format.order x 1114636288 == some .eq)) := rfl
  rw [h1] at hq
  clear h1
  rcases a : (FloatKind.f32.format.order x 3262119936 == some .gt || FloatKind.f32.format.order x 3262119936 == some .eq) with _ | _
  · rw [a] at hq
    simp only [Bool.false_and] at hq
    subst hq
    go_enter Try.func140, Try.ntmps140
    go_wp2
    go_ret
    exact ⟨rfl, rfl⟩
  · rw [a] at hq
    simp only [Bool.true_and] at hq
    cases q
    all_goals
      go_enter Try.func140, Try.ntmps140
      go_wp2
      go_ret
      exact ⟨rfl, rfl⟩

set_option maxRecDepth 100000 in
theorem iValidAir (h v : Nat) (hv : v < 4294967296) (q : Bool) (hq : airB h v = q) (w : World) :
    Calls Try.prog 52 #[.agg #[.float .f32 h, .float .f32 v]] w fun e w' => e = .returned (.bool q) ∧ Below w.heap.size w w' := by
  have b0 := boxed w (.cells #[.float .f32 h, .float .f32 v] 44)
  have Hv := hid hv
  have e1 : airB h v = (heatB h && amtB v && vapB v) := rfl
  rw [e1] at hq
  clear hv e1
  rcases a : heatB h with _ | _
  · have Ha := hid a
    rw [a] at hq
    simp only [Bool.false_and] at hq
    subst hq
    clear a
    go_enter Try.func52, Try.ntmps52
    go_wp2_with fail
    refine (iHeat h false Ha.out _).mono ?_
    rintro e w1 ⟨rfl, rfl⟩
    go_wp2
    go_ret
    exact ⟨rfl, b0⟩
  · have Ha := hid a
    rw [a] at hq
    clear a
    rcases b : amtB v with _ | _
    · have Hb := hid b
      rw [b] at hq
      simp only [Bool.and_false, Bool.false_and] at hq
      subst hq
      clear b
      go_enter Try.func52, Try.ntmps52
      go_wp2_with fail
      refine (iHeat h true Ha.out _).mono ?_
      rintro e w1 ⟨rfl, rfl⟩
      go_wp2_with fail
      refine (isAmount_f v Hv.out Hb.out _).mono ?_
      rintro e w1 ⟨rfl, hb1⟩
      go_wp2
      go_ret
      exact ⟨rfl, stp b0 (Nat.le_refl _) hb1⟩
    · have Hb := hid b
      rw [b] at hq
      simp only [Bool.true_and] at hq
      have hc : (FloatKind.f32.format.order v 1148846080 == some .lt || FloatKind.f32.format.order v 1148846080 == some .eq) = q := hq
      clear b hq
      cases q
      all_goals
        go_enter Try.func52, Try.ntmps52
        go_wp2_with fail
        refine (iHeat h true Ha.out _).mono ?_
        rintro e w1 ⟨rfl, rfl⟩
        go_wp2_with fail
        refine (isAmount_t v Hb.out _).mono ?_
        rintro e w1 ⟨rfl, rfl⟩
        go_wp2
        go_ret
        exact ⟨rfl, b0⟩

set_option maxRecDepth 100000 in
theorem sAirOk_f (h v : Nat) (hv : v < 4294967296) (hq : airB h v = false) (w : World) (g : Nat) (T : TypeId) (hg : airAt w g h v T) :
    Calls Try.prog 113 #[.pointer (some ⟨g, 0, none⟩)] w fun e w' => e = .returned (.bool false) ∧ Below w.heap.size w w' := by
  have c0 := hg.c0
  have c1 := hg.c1
  have Hv := hid hv
  have e1 : airB h v = (heatB h && amtB v && vapB v) := rfl
  rw [e1] at hq
  clear hv e1 hg
  rcases a : heatB h with _ | _
  · have Ha := hid a
    clear a hq
    go_enter Try.func113, Try.ntmps113
    go_wp2_with fail
    refine (sHeat h false Ha.out _).mono ?_
    rintro e w1 ⟨rfl, rfl⟩
    go_wp2
    go_ret
    exact ⟨rfl, Below.refl _ _⟩
  · have Ha := hid a
    rw [a] at hq
    clear a
    rcases b : amtB v with _ | _
    · have Hb := hid b
      clear b hq
      go_enter Try.func113, Try.ntmps113
      go_wp2_with fail
      refine (sHeat h true Ha.out _).mono ?_
      rintro e w1 ⟨rfl, rfl⟩
      go_wp2_with fail
      refine (sAmount_f v Hv.out Hb.out _).mono ?_
      rintro e w1 ⟨rfl, hb1⟩
      go_wp2
      go_ret
      exact ⟨rfl, hb1⟩
    · have Hb := hid b
      rw [b] at hq
      simp only [Bool.true_and] at hq
      have hc : (FloatKind.f32.format.order v 1148846080 == some .lt || FloatKind.f32.format.order v 1148846080 == some .eq) = false := hq
      clear b hq
      go_enter Try.func113, Try.ntmps113
      go_wp2_with fail
      refine (sHeat h true Ha.out _).mono ?_
      rintro e w1 ⟨rfl, rfl⟩
      go_wp2_with fail
      refine (sAmount_t v Hb.out _).mono ?_
      rintro e w1 ⟨rfl, rfl⟩
      go_wp2
      go_ret
      exact ⟨rfl, Below.refl _ _⟩

set_option maxRecDepth 100000 in
theorem sAirOk_t (h v : Nat) (hq : airB h v = true) (w : World) (g : Nat) (T : TypeId) (hg : airAt w g h v T) :
    Calls Try.prog 113 #[.pointer (some ⟨g, 0, none⟩)] w fun e w' => e = .returned (.bool true) ∧ w = w' := by
  have c0 := hg.c0
  have c1 := hg.c1
  obtain ⟨a, b, c⟩ := airB_iff.1 hq
  have hc : (FloatKind.f32.format.order v 1148846080 == some .lt || FloatKind.f32.format.order v 1148846080 == some .eq) = true := c
  have Ha := hid a
  have Hb := hid b
  clear a b c hq hg
  go_enter Try.func113, Try.ntmps113
  go_wp2_with fail
  refine (sHeat h true Ha.out _).mono ?_
  rintro e w1 ⟨rfl, rfl⟩
  go_wp2_with fail
  refine (sAmount_t v Hb.out _).mono ?_
  rintro e w1 ⟨rfl, rfl⟩
  go_wp2
  go_ret
  exact ⟨rfl, rfl⟩

theorem sAirOk (h v : Nat) (hv : v < 4294967296) (q : Bool) (hq : airB h v = q) (w : World) (g : Nat) (T : TypeId) (hg : airAt w g h v T) :
    Calls Try.prog 113 #[.pointer (some ⟨g, 0, none⟩)] w fun e w' => e = .returned (.bool q) ∧ Below w.heap.size w w' := by
  cases q
  · exact sAirOk_f h v hv hq w g T hg
  · exact loose (sAirOk_t h v hq w g T hg)

theorem div_inf_u : S.div 2139095040 1199570944 = some 2139095040 := by decide +kernel

theorem sWater0 (c : Nat → Nat) (h : Amts c) (W : Nat) (hW : sumF (wat c) 19 = W) (w : World) (g : Nat) (T : TypeId) (hg : arrAt w g c T) :
    Calls Try.prog 144 #[.pointer (some ⟨g, 0, none⟩), .int .i64 0] w fun e w' => e = .returned (.float .f32 W) ∧ Below w.heap.size w w' := by
  have := sWater c h 0 (by decide) w g T hg
  rw [sumA_zero, hW] at this
  exact this

/-- The water of droplets and air. -/
def watIn (v W : Nat) : Nat := fadd v (fdiv W 1199570944)

theorem watIn_facts {v W : Nat} (hv : amtB v = true) (hW : nnB W = true) : S.div W 1199570944 = some (fdiv W 1199570944) ∧ nnB (fdiv W 1199570944) = true ∧ nnB (watIn v W) = true := by
  obtain ⟨a, b⟩ := div_eq hW (by decide : amtB 1199570944 = true) (by decide)
  exact ⟨a, b, (add_eq (amt_nn hv) b).2⟩

theorem watIn_inf {v : Nat} (hv : amtB v = true) : finB (watIn v 2139095040) = false := by
  have e : fdiv 2139095040 1199570944 = INF := by unfold fdiv; rw [div_inf_u]; rfl
  unfold watIn
  rw [e, add_inf_right (Nat.le_of_lt (amtB_iff.1 hv))]
  decide

set_option maxRecDepth 100000 in
theorem iWaterIn_bad1 (c : Nat → Nat) (hb : ∀ i, i < 20 → c i < 4294967296) (hc : ¬ Amts c) (h v : Nat) (w : World) :
    Calls Try.prog 51 #[.agg (fls c), .agg #[.float .f32 h, .float .f32 v]] w fun e w' => e = .returned (.tuple #[.float .f32 0, .int .i64 1]) ∧ Below w.heap.size w w' := by
  have k0 : Hid (Kept w [(w.heap.size, fls c, 26), (w.heap.size + 1, #[.float .f32 h, .float .f32 v], 44)] ((w.alloc (.cells (fls c) 26)).alloc (.cells (#[.float .f32 h, .float .f32 v]) 44))) := hid ((((Kept.nil w).push (fls c) 26).push (#[.float .f32 h, .float .f32 v]) 44).sub (by simp))
  have Hhb := hid hb
  have Hhc := hid hc
  clear hb hc
  go_enter Try.func51, Try.ntmps51
  go_wp2_with (first | (refine wpList_load_row rfl 26 _ rfl (w.heap.size) rfl 26 (fls c) (0, 0) _ (k0.out.at (x := (w.heap.size, fls c, 26)) (by simp)) Try.underlying26 rfl (by rw [fls_size]; exact info_arr) ?_))
  refine (validSizes_f c Hhb.out Hhc.out _).mono ?_
  rintro e w0 ⟨rfl, hb0⟩
  have k1 := hid (k0.out.stay hb0)
  clear hb0
  go_wp2
  go_ret2
  exact ⟨rfl, k1.out.1⟩

set_option maxRecDepth 100000 in
theorem iWaterIn_bad2 (c : Nat → Nat) (hc : Amts c) (h v : Nat) (hv : v < 4294967296) (hq : airB h v = false) (w : World) :
    Calls Try.prog 51 #[.agg (fls c), .agg #[.float .f32 h, .float .f32 v]] w fun e w' => e = .returned (.tuple #[.float .f32 0, .int .i64 1]) ∧ Below w.heap.size w w' := by
  have k0 : Hid (Kept w [(w.heap.size, fls c, 26), (w.heap.size + 1, #[.float .f32 h, .float .f32 v], 44)] ((w.alloc (.cells (fls c) 26)).alloc (.cells (#[.float .f32 h, .float .f32 v]) 44))) := hid ((((Kept.nil w).push (fls c) 26).push (#[.float .f32 h, .float .f32 v]) 44).sub (by simp))
  have Hhc := hid hc
  have Hhv := hid hv
  have Hhq := hid hq
  clear hc hv hq
  go_enter Try.func51, Try.ntmps51
  go_wp2_with (first | (refine wpList_load_row rfl 26 _ rfl (w.heap.size) rfl 26 (fls c) (0, 0) _ (k0.out.at (x := (w.heap.size, fls c, 26)) (by simp)) Try.underlying26 rfl (by rw [fls_size]; exact info_arr) ?_))
  refine (validSizes_t c Hhc.out _).mono ?_
  rintro e w0 ⟨rfl, hb0⟩
  have k1 := hid (k0.out.stay hb0)
  clear hb0
  go_wp2_with (first | (refine wpList_load_g rfl 44 _ rfl (w.heap.size + 1) rfl 44 (#[.float .f32 h, .float .f32 v]) (0, 0) _ (k1.out.at (x := (w.heap.size + 1, #[.float .f32 h, .float .f32 v], 44)) (by simp)) Try.underlying44 rfl (info_air) ?_))
  refine (iValidAir h v Hhv.out false Hhq.out _).mono ?_
  rintro e w1 ⟨rfl, hb1⟩
  have k2 := hid (k1.out.stay hb1)
  clear hb1
  go_wp2
  go_ret2
  exact ⟨rfl, k2.out.1⟩

set_option maxRecDepth 100000 in
theorem iWaterIn_inf (c : Nat → Nat) (hc : Amts c) (h v : Nat) (hv : v < 4294967296) (hq : airB h v = true) (hW : finB (sumF (wat c) 19) = false) (w : World) :
    Calls Try.prog 51 #[.agg (fls c), .agg #[.float .f32 h, .float .f32 v]] w fun e w' => e = .returned (.tuple #[.float .f32 0, .int .i64 4]) ∧ Below w.heap.size w w' := by
  have hC := fun w => iWaterOf_ok c hc w
  rw [told_f hW] at hC
  have HC := hid hC
  clear hC hW
  have k0 : Hid (Kept w [(w.heap.size, fls c, 26), (w.heap.size + 1, #[.float .f32 h, .float .f32 v], 44)] ((w.alloc (.cells (fls c) 26)).alloc (.cells (#[.float .f32 h, .float .f32 v]) 44))) := hid ((((Kept.nil w).push (fls c) 26).push (#[.float .f32 h, .float .f32 v]) 44).sub (by simp))
  have Hhc := hid hc
  have Hhv := hid hv
  have Hhq := hid hq
  clear hc hv hq
  go_enter Try.func51, Try.ntmps51
  go_wp2_with (first | (refine wpList_load_row rfl 26 _ rfl (w.heap.size) rfl 26 (fls c) (0, 0) _ (k0.out.at (x := (w.heap.size, fls c, 26)) (by simp)) Try.underlying26 rfl (by rw [fls_size]; exact info_arr) ?_))
  refine (validSizes_t c Hhc.out _).mono ?_
  rintro e w0 ⟨rfl, hb0⟩
  have k1 := hid (k0.out.stay hb0)
  clear hb0
  go_wp2_with (first | (refine wpList_load_g rfl 44 _ rfl (w.heap.size + 1) rfl 44 (#[.float .f32 h, .float .f32 v]) (0, 0) _ (k1.out.at (x := (w.heap.size + 1, #[.float .f32 h, .float .f32 v], 44)) (by simp)) Try.underlying44 rfl (info_air) ?_))
  refine (iValidAir h v Hhv.out true Hhq.out _).mono ?_
  rintro e w1 ⟨rfl, hb1⟩
  have k2 := hid (k1.out.stay hb1)
  clear hb1
  go_wp2_with (first | (refine wpList_load_row rfl 26 _ rfl (w.heap.size) rfl 26 (fls c) (0, 0) _ (k2.out.at (x := (w.heap.size, fls c, 26)) (by simp)) Try.underlying26 rfl (by rw [fls_size]; exact info_arr) ?_))
  refine (HC.out _).mono ?_
  rintro e w2 ⟨rfl, hb2⟩
  have k3 := hid (k2.out.stay hb2)
  clear hb2
  go_wp2
  go_ret2
  exact ⟨rfl, k3.out.1⟩

set_option maxRecDepth 100000 in
theorem iWaterIn_ok (c : Nat → Nat) (hc : Amts c) (h v : Nat) (hq : airB h v = true) (W : Nat) (hW : sumF (wat c) 19 = W) (hn : nnB W = true) (hf : finB W = true) (r : Nat) (n : Int) (ht : told (watIn v W) = .tuple #[.float .f32 r, .int .i64 n]) (w : World) :
    Calls Try.prog 51 #[.agg (fls c), .agg #[.float .f32 h, .float .f32 v]] w fun e w' => e = .returned (.tuple #[.float .f32 r, .int .i64 n]) ∧ Below w.heap.size w w' := by
  have hav := (airB_iff.1 hq).2.1
  have hv := amt_lt hav
  obtain ⟨e1, e2, e3⟩ := watIn_facts hav hn
  have hC := fun w => iWaterOf_ok c hc w
  rw [hW, told_t hf] at hC
  have hT := fun w => iTold (watIn v W) (nn_lt e3) w
  rw [ht] at hT
  have HC := hid hC
  have HT := hid hT
  have hd := fun w => run_float_arith (P := Try.prog) w .quo 24 .f32 _ _ _ e1
  have ha := fun w => run_add (P := Try.prog) 24 (amt_nn hav) e2 w
  rw [show fadd v (fdiv W 1199570944) = watIn v W from rfl] at ha
  clear hC hW hT ht hav e1 e2 e3 hn hf
  have k0 : Hid (Kept w [(w.heap.size, fls c, 26), (w.heap.size + 1, #[.float .f32 h, .float .f32 v], 44)] ((w.alloc (.cells (fls c) 26)).alloc (.cells (#[.float .f32 h, .float .f32 v]) 44))) := hid ((((Kept.nil w).push (fls c) 26).push (#[.float .f32 h, .float .f32 v]) 44).sub (by simp))
  have Hhc := hid hc
  have Hhv := hid hv
  have Hhq := hid hq
  clear hc hv hq
  go_enter Try.func51, Try.ntmps51
  go_wp2_with (first | (refine wpList_load_row rfl 26 _ rfl (w.heap.size) rfl 26 (fls c) (0, 0) _ (k0.out.at (x := (w.heap.size, fls c, 26)) (by simp)) Try.underlying26 rfl (by rw [fls_size]; exact info_arr) ?_))
  refine (validSizes_t c Hhc.out _).mono ?_
  rintro e w0 ⟨rfl, hb0⟩
  have k1 := hid (k0.out.stay hb0)
  clear hb0
  go_wp2_with (first | (refine wpList_load_g rfl 44 _ rfl (w.heap.size + 1) rfl 44 (#[.float .f32 h, .float .f32 v]) (0, 0) _ (k1.out.at (x := (w.heap.size + 1, #[.float .f32 h, .float .f32 v], 44)) (by simp)) Try.underlying44 rfl (info_air) ?_))
  refine (iValidAir h v Hhv.out true Hhq.out _).mono ?_
  rintro e w1 ⟨rfl, hb1⟩
  have k2 := hid (k1.out.stay hb1)
  clear hb1
  go_wp2_with (first | (refine wpList_load_row rfl 26 _ rfl (w.heap.size) rfl 26 (fls c) (0, 0) _ (k2.out.at (x := (w.heap.size, fls c, 26)) (by simp)) Try.underlying26 rfl (by rw [fls_size]; exact info_arr) ?_))
  refine (HC.out _).mono ?_
  rintro e w2 ⟨rfl, hb2⟩
  have k3 := hid (k2.out.stay hb2)
  clear hb2
  have hcell : World.cell? w2 ⟨w.heap.size + 1, 1, none⟩ = some (.float .f32 v) := (cell_of_row _ (w.heap.size + 1) 1 _ _ _ (k3.out.at (x := (w.heap.size + 1, #[.float .f32 h, .float .f32 v], 44)) (by simp))).trans rfl
  go_wp2_with fail
  refine (HT.out _).mono ?_
  rintro e w3 ⟨rfl, hb3⟩
  have k4 := hid (k3.out.stay hb3)
  clear hb3
  go_wp2
  go_ret2
  exact ⟨rfl, k4.out.1⟩

set_option maxRecDepth 100000 in
theorem sWaterIn_bad1 (c : Nat → Nat) (hb : ∀ i, i < 20 → c i < 4294967296) (hc : ¬ Amts c) (h v : Nat) (w : World) :
    Calls Try.prog 86 #[.agg (fls c), .agg #[.float .f32 h, .float .f32 v]] w fun e w' => e = .returned (.tuple #[.float .f32 0, .int .i64 1]) ∧ Below w.heap.size w w' := by
  have k0 : Hid (Kept w [(w.heap.size, fls c, 26), (w.heap.size + 1, #[.float .f32 h, .float .f32 v], 44)] ((w.alloc (.cells (fls c) 26)).alloc (.cells (#[.float .f32 h, .float .f32 v]) 44))) := hid ((((Kept.nil w).push (fls c) 26).push (#[.float .f32 h, .float .f32 v]) 44).sub (by simp))
  have Hhb := hid hb
  have Hhc := hid hc
  clear hb hc
  go_enter Try.func86, Try.ntmps86
  go_wp2_with fail
  refine (sOk_f c Hhb.out Hhc.out _ w.heap.size 26 (k0.out.at (x := (w.heap.size, fls c, 26)) (by simp))).mono ?_
  rintro e w0 ⟨rfl, hb0⟩
  have k1 := hid (k0.out.stay hb0)
  clear hb0
  go_wp2
  go_ret2
  exact ⟨rfl, k1.out.1⟩

set_option maxRecDepth 100000 in
theorem sWaterIn_bad2 (c : Nat → Nat) (hc : Amts c) (h v : Nat) (hv : v < 4294967296) (hq : airB h v = false) (w : World) :
    Calls Try.prog 86 #[.agg (fls c), .agg #[.float .f32 h, .float .f32 v]] w fun e w' => e = .returned (.tuple #[.float .f32 0, .int .i64 1]) ∧ Below w.heap.size w w' := by
  have k0 : Hid (Kept w [(w.heap.size, fls c, 26), (w.heap.size + 1, #[.float .f32 h, .float .f32 v], 44)] ((w.alloc (.cells (fls c) 26)).alloc (.cells (#[.float .f32 h, .float .f32 v]) 44))) := hid ((((Kept.nil w).push (fls c) 26).push (#[.float .f32 h, .float .f32 v]) 44).sub (by simp))
  have Hhc := hid hc
  have Hhv := hid hv
  have Hhq := hid hq
  clear hc hv hq
  go_enter Try.func86, Try.ntmps86
  go_wp2_with fail
  refine (loose (sOk_t c Hhc.out _ w.heap.size 26 (k0.out.at (x := (w.heap.size, fls c, 26)) (by simp)))).mono ?_
  rintro e w0 ⟨rfl, hb0⟩
  have k1 := hid (k0.out.stay hb0)
  clear hb0
  go_wp2_with fail
  refine (sAirOk h v Hhv.out false Hhq.out _ (w.heap.size + 1) 44 (k1.out.at (x := (w.heap.size + 1, #[.float .f32 h, .float .f32 v], 44)) (by simp))).mono ?_
  rintro e w1 ⟨rfl, hb1⟩
  have k2 := hid (k1.out.stay hb1)
  clear hb1
  go_wp2
  go_ret2
  exact ⟨rfl, k2.out.1⟩

theorem run_sWater2 (a : Act) (x0 : Operand) (v0 : Value) (h0 : a.eval x0 = v0) (x1 : Operand) (v1 : Value) (h1 : a.eval x1 = v1) (d : Option Tmp) (ats : Array TypeId) (t : TypeId) (ps : String) (af : Array Edge) (gd : Option (Nat × Bool)) (w : World) :
    (execOp a.eval ⟨d, .call { callee := .value (.func 144), args := #[x0, x1], argTypes := ats }, t, ps, af, gd⟩).run Try.prog w = .ok (.enter 144 #[v0, v1]) w := by
  subst h0 h1
  unfold execOp
  go_simp

theorem run_sTold1 (a : Act) (x0 : Operand) (v0 : Value) (h0 : a.eval x0 = v0) (d : Option Tmp) (ats : Array TypeId) (t : TypeId) (ps : String) (af : Array Edge) (gd : Option (Nat × Bool)) (w : World) :
    (execOp a.eval ⟨d, .call { callee := .value (.func 132), args := #[x0], argTypes := ats }, t, ps, af, gd⟩).run Try.prog w = .ok (.enter 132 #[v0]) w := by
  subst h0
  unfold execOp
  go_simp

set_option maxRecDepth 100000 in
set_option maxHeartbeats 1000000 in
theorem sWaterIn_ok (c : Nat → Nat) (hc : Amts c) (h v : Nat) (hq : airB h v = true) (W : Nat) (hW : sumF (wat c) 19 = W) (hn : nnB W = true) (r : Nat) (n : Int) (ht : told (watIn v W) = .tuple #[.float .f32 r, .int .i64 n]) (w : World) :
    Calls Try.prog 86 #[.agg (fls c), .agg #[.float .f32 h, .float .f32 v]] w fun e w' => e = .returned (.tuple #[.float .f32 r, .int .i64 n]) ∧ Below w.heap.size w w' := by
  have hav := (airB_iff.1 hq).2.1
  have hv := amt_lt hav
  obtain ⟨e1, e2, e3⟩ := watIn_facts hav hn
  have hT := fun w => sTold (watIn v W) (nn_lt e3) w
  rw [ht] at hT
  have HT := hid hT
  have hd := hid (fun w => run_float_arith (P := Try.prog) w .quo 24 .f32 _ _ _ e1)
  have ha := fun w => run_add (P := Try.prog) 24 (amt_nn hav) e2 w
  rw [show fadd v (fdiv W 1199570944) = watIn v W from rfl] at ha
  have Ha := hid ha
  clear hT ht hav e1 e2 e3 hn ha
  have k0 : Hid (Kept w [(w.heap.size, fls c, 26), (w.heap.size + 1, #[.float .f32 h, .float .f32 v], 44)] ((w.alloc (.cells (fls c) 26)).alloc (.cells (#[.float .f32 h, .float .f32 v]) 44))) := hid ((((Kept.nil w).push (fls c) 26).push (#[.float .f32 h, .float .f32 v]) 44).sub (by simp))
  have Hhc := hid hc
  have Hhv := hid hv
  have Hhq := hid hq
  have HhW := hid hW
  clear hc hv hq hW
  go_enter Try.func86, Try.ntmps86
  go_wp2_with fail
  refine (loose (sOk_t c Hhc.out _ w.heap.size 26 (k0.out.at (x := (w.heap.size, fls c, 26)) (by simp)))).mono ?_
  rintro e w0 ⟨rfl, hb0⟩
  have k1 := hid (k0.out.stay hb0)
  clear hb0
  go_wp2_with fail
  refine (sAirOk h v Hhv.out true Hhq.out _ (w.heap.size + 1) 44 (k1.out.at (x := (w.heap.size + 1, #[.float .f32 h, .float .f32 v], 44)) (by simp))).mono ?_
  rintro e w1 ⟨rfl, hb1⟩
  have k2 := hid (k1.out.stay hb1)
  clear hb1
  go_wp2_with fail
  refine region_kept (w0 := w) (l := [(w.heap.size, fls c, 26), (w.heap.size + 1, #[.float .f32 h, .float .f32 v], 44)]) 10 #[false, false, false, false, false, false, false, false, false, false] (by kernel_rfl) rfl rfl ?_
  have kd := k2.out.drew
  clear k2
  generalize World.drew _ = wd at kd ⊢
  refine take_val 0 { tmps := (.agg (fls c) :: .agg #[.float .f32 h, .float .f32 v] :: .pointer (some ⟨w.heap.size, 0, none⟩) :: .pointer (some ⟨w.heap.size + 1, 0, none⟩) :: .float .f32 0 :: .int .i64 0 :: .bool true :: .bool false :: .bool false :: .bool true :: .bool false :: .bool false :: .pointer (some ⟨w.heap.size + 1, 1, none⟩) :: undef :: undef :: undef :: undef :: undef :: undef :: undef :: []).toArray, defers := [] } #[true, false, false, false, false, false, false, false, false, false] (.pointer (some ⟨w.heap.size + 1, 1, none⟩)) rfl (by rfl) (by kernel_rfl) (by kernel_rfl) (by kernel_rfl) (fun w => by unfold execOp; go_simp) (by rfl) (by rfl) (kd) ?_
  refine take_cell 1 { tmps := (.agg (fls c) :: .agg #[.float .f32 h, .float .f32 v] :: .pointer (some ⟨w.heap.size, 0, none⟩) :: .pointer (some ⟨w.heap.size + 1, 0, none⟩) :: .float .f32 0 :: .int .i64 0 :: .bool true :: .bool false :: .bool false :: .bool true :: .bool false :: .bool false :: .pointer (some ⟨w.heap.size + 1, 1, none⟩) :: .float .f32 v :: undef :: undef :: undef :: undef :: undef :: undef :: []).toArray, defers := [] } #[true, true, false, false, false, false, false, false, false, false] (.float .f32 v) rfl (by rfl) (by kernel_rfl) (by kernel_rfl) (by kernel_rfl) (fun wq hS => by have hcell : wq.cell? ⟨w.heap.size + 1, 1, none⟩ = some (.float .f32 v) := (cell_of_row wq (w.heap.size + 1) 1 _ _ _ (hS.at (x := (w.heap.size + 1, #[.float .f32 h, .float .f32 v], 44)) (by simp))).trans rfl; clear hS; unfold execOp; go_simp) (by rfl) (by rfl) (kd) ?_
  refine wpAnyH_ready (rs := [2]) (by kernel_rfl) (by simp) ?_
  refine callK 2 { tmps := (.agg (fls c) :: .agg #[.float .f32 h, .float .f32 v] :: .pointer (some ⟨w.heap.size, 0, none⟩) :: .pointer (some ⟨w.heap.size + 1, 0, none⟩) :: .float .f32 0 :: .int .i64 0 :: .bool true :: .bool false :: .bool false :: .bool true :: .bool false :: .bool false :: .pointer (some ⟨w.heap.size + 1, 1, none⟩) :: .float .f32 v :: .float .f32 W :: undef :: undef :: undef :: undef :: undef :: []).toArray, defers := [] } #[true, true, true, false, false, false, false, false, false, false] (.float .f32 W) kd rfl (by rfl) 144 #[.pointer (some ⟨w.heap.size, 0, none⟩), .int .i64 0] (run_sWater2 _ _ _ rfl _ _ rfl _ _ _ _ _ _) (by rfl) (by rfl) (sWater0 c Hhc.out W HhW.out _ w.heap.size 26 (kd.at (x := (w.heap.size, fls c, 26)) (by simp))) (fun w1 k1 => ?_) AllReadyH.nil
  refine ⟨k1, ?_⟩
  refine take_val 3 { tmps := (.agg (fls c) :: .agg #[.float .f32 h, .float .f32 v] :: .pointer (some ⟨w.heap.size, 0, none⟩) :: .pointer (some ⟨w.heap.size + 1, 0, none⟩) :: .float .f32 0 :: .int .i64 0 :: .bool true :: .bool false :: .bool false :: .bool true :: .bool false :: .bool false :: .pointer (some ⟨w.heap.size + 1, 1, none⟩) :: .float .f32 v :: .float .f32 W :: .float .f32 (fdiv W 1199570944) :: undef :: undef :: undef :: undef :: []).toArray, defers := [] } #[true, true, true, true, false, false, false, false, false, false] (.float .f32 (fdiv W 1199570944)) rfl (by rfl) (by kernel_rfl) (by kernel_rfl) (by kernel_rfl) (fun w => run_binop_val _ _ _ _ (by rfl) (by rfl) (by simp [eqGuard]) (hd.out w)) (by rfl) (by rfl) (k1) ?_
  refine take_val 4 { tmps := (.agg (fls c) :: .agg #[.float .f32 h, .float .f32 v] :: .pointer (some ⟨w.heap.size, 0, none⟩) :: .pointer (some ⟨w.heap.size + 1, 0, none⟩) :: .float .f32 0 :: .int .i64 0 :: .bool true :: .bool false :: .bool false :: .bool true :: .bool false :: .bool false :: .pointer (some ⟨w.heap.size + 1, 1, none⟩) :: .float .f32 v :: .float .f32 W :: .float .f32 (fdiv W 1199570944) :: .float .f32 (watIn v W) :: undef :: undef :: undef :: []).toArray, defers := [] } #[true, true, true, true, true, false, false, false, false, false] (.float .f32 (watIn v W)) rfl (by rfl) (by kernel_rfl) (by kernel_rfl) (by kernel_rfl) (fun w => run_binop_val _ _ _ _ (by rfl) (by rfl) (by simp [eqGuard]) (Ha.out w)) (by rfl) (by rfl) (k1) ?_
  refine wpAnyH_ready (rs := [5]) (by kernel_rfl) (by simp) ?_
  refine callK 5 { tmps := (.agg (fls c) :: .agg #[.float .f32 h, .float .f32 v] :: .pointer (some ⟨w.heap.size, 0, none⟩) :: .pointer (some ⟨w.heap.size + 1, 0, none⟩) :: .float .f32 0 :: .int .i64 0 :: .bool true :: .bool false :: .bool false :: .bool true :: .bool false :: .bool false :: .pointer (some ⟨w.heap.size + 1, 1, none⟩) :: .float .f32 v :: .float .f32 W :: .float .f32 (fdiv W 1199570944) :: .float .f32 (watIn v W) :: .tuple #[.float .f32 r, .int .i64 n] :: undef :: undef :: []).toArray, defers := [] } #[true, true, true, true, true, true, false, false, false, false] (.tuple #[.float .f32 r, .int .i64 n]) k1 rfl (by rfl) 132 #[.float .f32 (watIn v W)] (run_sTold1 _ _ _ rfl _ _ _ _ _ _) (by rfl) (by rfl) (HT.out _) (fun w2 k2 => ?_) AllReadyH.nil
  refine ⟨k2, ?_⟩
  refine take_val 6 { tmps := (.agg (fls c) :: .agg #[.float .f32 h, .float .f32 v] :: .pointer (some ⟨w.heap.size, 0, none⟩) :: .pointer (some ⟨w.heap.size + 1, 0, none⟩) :: .float .f32 0 :: .int .i64 0 :: .bool true :: .bool false :: .bool false :: .bool true :: .bool false :: .bool false :: .pointer (some ⟨w.heap.size + 1, 1, none⟩) :: .float .f32 v :: .float .f32 W :: .float .f32 (fdiv W 1199570944) :: .float .f32 (watIn v W) :: .tuple #[.float .f32 r, .int .i64 n] :: .float .f32 r :: undef :: []).toArray, defers := [] } #[true, true, true, true, true, true, true, false, false, false] (.float .f32 r) rfl (by rfl) (by kernel_rfl) (by kernel_rfl) (by kernel_rfl) (fun w => by rfl) (by rfl) (by rfl) (k2) ?_
  refine take_val 7 { tmps := (.agg (fls c) :: .agg #[.float .f32 h, .float .f32 v] :: .pointer (some ⟨w.heap.size, 0, none⟩) :: .pointer (some ⟨w.heap.size + 1, 0, none⟩) :: .float .f32 0 :: .int .i64 0 :: .bool true :: .bool false :: .bool false :: .bool true :: .bool false :: .bool false :: .pointer (some ⟨w.heap.size + 1, 1, none⟩) :: .float .f32 v :: .float .f32 W :: .float .f32 (fdiv W 1199570944) :: .float .f32 (watIn v W) :: .tuple #[.float .f32 r, .int .i64 n] :: .float .f32 r :: .int .i64 n :: []).toArray, defers := [] } #[true, true, true, true, true, true, true, true, false, false] (.int .i64 n) rfl (by rfl) (by kernel_rfl) (by kernel_rfl) (by kernel_rfl) (fun w => by rfl) (by rfl) (by rfl) (k2) ?_
  refine take_val 8 { tmps := (.agg (fls c) :: .agg #[.float .f32 h, .float .f32 v] :: .pointer (some ⟨w.heap.size, 0, none⟩) :: .pointer (some ⟨w.heap.size + 1, 0, none⟩) :: .float .f32 r :: .int .i64 0 :: .bool true :: .bool false :: .bool false :: .bool true :: .bool false :: .bool false :: .pointer (some ⟨w.heap.size + 1, 1, none⟩) :: .float .f32 v :: .float .f32 W :: .float .f32 (fdiv W 1199570944) :: .float .f32 (watIn v W) :: .tuple #[.float .f32 r, .int .i64 n] :: .float .f32 r :: .int .i64 n :: []).toArray, defers := [] } #[true, true, true, true, true, true, true, true, true, false] (.float .f32 r) rfl (by rfl) (by kernel_rfl) (by kernel_rfl) (by kernel_rfl) (fun w => by rfl) (by rfl) (by rfl) (k2) ?_
  refine take_val 9 { tmps := (.agg (fls c) :: .agg #[.float .f32 h, .float .f32 v] :: .pointer (some ⟨w.heap.size, 0, none⟩) :: .pointer (some ⟨w.heap.size + 1, 0, none⟩) :: .float .f32 r :: .int .i64 n :: .bool true :: .bool false :: .bool false :: .bool true :: .bool false :: .bool false :: .pointer (some ⟨w.heap.size + 1, 1, none⟩) :: .float .f32 v :: .float .f32 W :: .float .f32 (fdiv W 1199570944) :: .float .f32 (watIn v W) :: .tuple #[.float .f32 r, .int .i64 n] :: .float .f32 r :: .int .i64 n :: []).toArray, defers := [] } #[true, true, true, true, true, true, true, true, true, true] (.int .i64 n) rfl (by rfl) (by kernel_rfl) (by kernel_rfl) (by kernel_rfl) (fun w => by rfl) (by rfl) (by rfl) (k2) ?_
  refine wpAnyH_done (by kernel_rfl) (NoPanic.normal ?_) _
  go_wp2
  go_ret2
  exact ⟨rfl, k2.1⟩

theorem run_sWaterIn2 (a : Act) (x0 : Operand) (v0 : Value) (h0 : a.eval x0 = v0) (x1 : Operand) (v1 : Value) (h1 : a.eval x1 = v1) (d : Option Tmp) (ats : Array TypeId) (t : TypeId) (ps : String) (af : Array Edge) (gd : Option (Nat × Bool)) (w : World) :
    (execOp a.eval ⟨d, .call { callee := .value (.func 86), args := #[x0, x1], argTypes := ats }, t, ps, af, gd⟩).run Try.prog w = .ok (.enter 86 #[v0, v1]) w := by
  subst h0 h1
  unfold execOp
  go_simp

theorem run_iWaterIn2 (a : Act) (x0 : Operand) (v0 : Value) (h0 : a.eval x0 = v0) (x1 : Operand) (v1 : Value) (h1 : a.eval x1 = v1) (d : Option Tmp) (ats : Array TypeId) (t : TypeId) (ps : String) (af : Array Edge) (gd : Option (Nat × Bool)) (w : World) :
    (execOp a.eval ⟨d, .call { callee := .value (.func 51), args := #[x0, x1], argTypes := ats }, t, ps, af, gd⟩).run Try.prog w = .ok (.enter 51 #[v0, v1]) w := by
  subst h0 h1
  unfold execOp
  go_simp

set_option maxRecDepth 100000 in
set_option maxHeartbeats 2000000 in
theorem coreWaterIn (x0 : Nat → Nat) (x1h x1v : Nat) (r0 : Nat) (hl0 : r0 < 4294967296) (hf0 : finB r0 = true) (r1 : Int)
    (hS : ∀ w, Calls Try.prog 86 #[.agg (fls x0), .agg #[.float .f32 x1h, .float .f32 x1v]] w fun e w' => e = .returned (.tuple #[.float .f32 r0, .int .i64 r1]) ∧ Below w.heap.size w w')
    (hI : ∀ w, Calls Try.prog 51 #[.agg (fls x0), .agg #[.float .f32 x1h, .float .f32 x1v]] w fun e w' => e = .returned (.tuple #[.float .f32 r0, .int .i64 r1]) ∧ Below w.heap.size w w') (w : World) :
    Calls Try.prog 25 #[.agg (fls x0), .agg #[.float .f32 x1h, .float .f32 x1v]] w fun e w' => e = .returned (.bool true) ∧ Below w.heap.size w w' := by
  have k0 : Hid (Kept w [(w.heap.size, fls x0, 25), (w.heap.size + 1, #[.float .f32 x1h, .float .f32 x1v], 70)] ((w.alloc (.cells (fls x0) 25)).alloc (.cells (#[.float .f32 x1h, .float .f32 x1v]) 70))) := hid ((((Kept.nil w).push (fls x0) 25).push (#[.float .f32 x1h, .float .f32 x1v]) 70).sub (by simp))
  have HS := hid hS
  have HI := hid hI
  clear hS hI
  have hc0 := fun w => run_conv_wid (P := Try.prog) w 24 62 r0 hl0 Try.underlying24 Try.underlying62 (finB_iff.1 hf0)
  have Hl0 := hid hl0
  have Hf0 := hid hf0
  clear hl0 hf0
  go_enter Try.func25, Try.ntmps25
  go_wp2_with fail
  rename_i Q1 K1 hK1
  have key1 : ∀  (w1 : World), Hid (Kept w [(w.heap.size, fls x0, 25), (w.heap.size + 1, #[.float .f32 x1h, .float .f32 x1v], 70)] w1) → K1 { tmps := (.agg (fls x0) :: .agg #[.float .f32 x1h, .float .f32 x1v] :: .pointer (some ⟨w.heap.size, 0, none⟩) :: .pointer (some ⟨w.heap.size + 1, 0, none⟩) :: .bool false :: .float .f32 r0 :: .int .i64 r1 :: undef :: undef :: .tuple #[.float .f32 r0, .int .i64 r1] :: .agg (fls x0) :: .agg (fls x0) :: .agg (#[.float .f32 x1h, .float .f32 x1v]) :: .agg (#[.float .f32 x1h, .float .f32 x1v]) :: .tuple #[.float .f32 r0, .int .i64 r1] :: .float .f32 r0 :: .int .i64 r1 :: undef :: undef :: undef :: undef :: undef :: undef :: undef :: undef :: undef :: undef :: undef :: undef :: undef :: undef :: undef :: undef :: undef :: undef :: undef :: []).toArray, defers := [] } w1 := by
    intro  w1 k1
    clear k0
    go_wp2_with fail
    rename_i K2 hK2
    have key2 : ∀  (w2 : World), Hid (Kept w [(w.heap.size, fls x0, 25), (w.heap.size + 1, #[.float .f32 x1h, .float .f32 x1v], 70)] w2) → K2 { tmps := (.agg (fls x0) :: .agg #[.float .f32 x1h, .float .f32 x1v] :: .pointer (some ⟨w.heap.size, 0, none⟩) :: .pointer (some ⟨w.heap.size + 1, 0, none⟩) :: .bool false :: .float .f32 r0 :: .int .i64 r1 :: .float .f32 r0 :: .int .i64 r1 :: .tuple #[.float .f32 r0, .int .i64 r1] :: .agg (fls x0) :: .agg (fls x0) :: .agg (#[.float .f32 x1h, .float .f32 x1v]) :: .agg (#[.float .f32 x1h, .float .f32 x1v]) :: .tuple #[.float .f32 r0, .int .i64 r1] :: .float .f32 r0 :: .int .i64 r1 :: .tuple #[.float .f32 r0, .int .i64 r1] :: .agg (fls x0) :: .agg (fls x0) :: .agg (#[.float .f32 x1h, .float .f32 x1v]) :: .agg (#[.float .f32 x1h, .float .f32 x1v]) :: .tuple #[.float .f32 r0, .int .i64 r1] :: .float .f32 r0 :: .int .i64 r1 :: undef :: undef :: undef :: undef :: undef :: undef :: undef :: undef :: undef :: undef :: undef :: []).toArray, defers := [] } w2 := by
      intro  w2 k2
      clear k1 HS HI
      go_wp2_with fail
      refine (sameFloat r0 Hl0.out Hf0.out _).mono ?_
      rintro e w3 ⟨rfl, rfl⟩
      go_wp2
      all_goals go_ret
      all_goals exact ⟨rfl, k2.out.1⟩
    refine region_kept (w0 := w) (l := [(w.heap.size, fls x0, 25), (w.heap.size + 1, #[.float .f32 x1h, .float .f32 x1v], 70)]) 10 #[false, false, false, false, false, false, false, false, false, false] (by kernel_rfl) rfl rfl ?_
    have kd := k1.out.drew
    clear k1
    generalize w1.drew = wd at kd ⊢
    refine take_load 0 { tmps := (.agg (fls x0) :: .agg #[.float .f32 x1h, .float .f32 x1v] :: .pointer (some ⟨w.heap.size, 0, none⟩) :: .pointer (some ⟨w.heap.size + 1, 0, none⟩) :: .bool false :: .float .f32 r0 :: .int .i64 r1 :: undef :: undef :: .tuple #[.float .f32 r0, .int .i64 r1] :: .agg (fls x0) :: .agg (fls x0) :: .agg (#[.float .f32 x1h, .float .f32 x1v]) :: .agg (#[.float .f32 x1h, .float .f32 x1v]) :: .tuple #[.float .f32 r0, .int .i64 r1] :: .float .f32 r0 :: .int .i64 r1 :: undef :: .agg (fls x0) :: undef :: undef :: undef :: undef :: undef :: undef :: undef :: undef :: undef :: undef :: undef :: undef :: undef :: undef :: undef :: undef :: undef :: []).toArray, defers := [] } #[true, false, false, false, false, false, false, false, false, false] rfl (by rfl) (by kernel_rfl) (by kernel_rfl) (by kernel_rfl) 25 _ rfl (w.heap.size) (fls x0) 25 (by rfl) (by simp) _ Try.underlying25 rfl (by rw [fls_size]; exact info_a20) (by rfl) (by rfl) (kd) ?_
    refine take_load 2 { tmps := (.agg (fls x0) :: .agg #[.float .f32 x1h, .float .f32 x1v] :: .pointer (some ⟨w.heap.size, 0, none⟩) :: .pointer (some ⟨w.heap.size + 1, 0, none⟩) :: .bool false :: .float .f32 r0 :: .int .i64 r1 :: undef :: undef :: .tuple #[.float .f32 r0, .int .i64 r1] :: .agg (fls x0) :: .agg (fls x0) :: .agg (#[.float .f32 x1h, .float .f32 x1v]) :: .agg (#[.float .f32 x1h, .float .f32 x1v]) :: .tuple #[.float .f32 r0, .int .i64 r1] :: .float .f32 r0 :: .int .i64 r1 :: undef :: .agg (fls x0) :: undef :: .agg (#[.float .f32 x1h, .float .f32 x1v]) :: undef :: undef :: undef :: undef :: undef :: undef :: undef :: undef :: undef :: undef :: undef :: undef :: undef :: undef :: undef :: []).toArray, defers := [] } #[true, false, true, false, false, false, false, false, false, false] rfl (by rfl) (by kernel_rfl) (by kernel_rfl) (by kernel_rfl) 70 _ rfl (w.heap.size + 1) (#[.float .f32 x1h, .float .f32 x1v]) 70 (by rfl) (by simp) _ Try.underlying70 rfl (info_lair) (by rfl) (by rfl) (kd) ?_
    refine wpAnyH_ready (rs := [1]) (by kernel_rfl) (by simp) ?_
    refine callK 1 { tmps := (.agg (fls x0) :: .agg #[.float .f32 x1h, .float .f32 x1v] :: .pointer (some ⟨w.heap.size, 0, none⟩) :: .pointer (some ⟨w.heap.size + 1, 0, none⟩) :: .bool false :: .float .f32 r0 :: .int .i64 r1 :: undef :: undef :: .tuple #[.float .f32 r0, .int .i64 r1] :: .agg (fls x0) :: .agg (fls x0) :: .agg (#[.float .f32 x1h, .float .f32 x1v]) :: .agg (#[.float .f32 x1h, .float .f32 x1v]) :: .tuple #[.float .f32 r0, .int .i64 r1] :: .float .f32 r0 :: .int .i64 r1 :: undef :: .agg (fls x0) :: .agg (fls x0) :: .agg (#[.float .f32 x1h, .float .f32 x1v]) :: undef :: undef :: undef :: undef :: undef :: undef :: undef :: undef :: undef :: undef :: undef :: undef :: undef :: undef :: undef :: []).toArray, defers := [] } #[true, true, true, false, false, false, false, false, false, false] (.agg (fls x0)) kd rfl (by rfl) 58 #[.agg (fls x0)] (run_toSizes1 _ _ _ rfl _ _ _ _ _ _) (by rfl) (by rfl) (toSizes _ _) (fun w1 k1 => ?_) AllReadyH.nil
    refine ⟨k1, ?_⟩
    refine wpAnyH_ready (rs := [3]) (by kernel_rfl) (by simp) ?_
    refine callK 3 { tmps := (.agg (fls x0) :: .agg #[.float .f32 x1h, .float .f32 x1v] :: .pointer (some ⟨w.heap.size, 0, none⟩) :: .pointer (some ⟨w.heap.size + 1, 0, none⟩) :: .bool false :: .float .f32 r0 :: .int .i64 r1 :: undef :: undef :: .tuple #[.float .f32 r0, .int .i64 r1] :: .agg (fls x0) :: .agg (fls x0) :: .agg (#[.float .f32 x1h, .float .f32 x1v]) :: .agg (#[.float .f32 x1h, .float .f32 x1v]) :: .tuple #[.float .f32 r0, .int .i64 r1] :: .float .f32 r0 :: .int .i64 r1 :: undef :: .agg (fls x0) :: .agg (fls x0) :: .agg (#[.float .f32 x1h, .float .f32 x1v]) :: .agg (#[.float .f32 x1h, .float .f32 x1v]) :: undef :: undef :: undef :: undef :: undef :: undef :: undef :: undef :: undef :: undef :: undef :: undef :: undef :: undef :: []).toArray, defers := [] } #[true, true, true, true, false, false, false, false, false, false] (.agg (#[.float .f32 x1h, .float .f32 x1v])) k1 rfl (by rfl) 75 #[.agg (#[.float .f32 x1h, .float .f32 x1v])] (run_toAir1 _ _ _ rfl _ _ _ _ _ _) (by rfl) (by rfl) (toAir _ _ _) (fun w2 k2 => ?_) AllReadyH.nil
    refine ⟨k2, ?_⟩
    refine wpAnyH_ready (rs := [4]) (by kernel_rfl) (by simp) ?_
    refine callK 4 { tmps := (.agg (fls x0) :: .agg #[.float .f32 x1h, .float .f32 x1v] :: .pointer (some ⟨w.heap.size, 0, none⟩) :: .pointer (some ⟨w.heap.size + 1, 0, none⟩) :: .bool false :: .float .f32 r0 :: .int .i64 r1 :: undef :: undef :: .tuple #[.float .f32 r0, .int .i64 r1] :: .agg (fls x0) :: .agg (fls x0) :: .agg (#[.float .f32 x1h, .float .f32 x1v]) :: .agg (#[.float .f32 x1h, .float .f32 x1v]) :: .tuple #[.float .f32 r0, .int .i64 r1] :: .float .f32 r0 :: .int .i64 r1 :: undef :: .agg (fls x0) :: .agg (fls x0) :: .agg (#[.float .f32 x1h, .float .f32 x1v]) :: .agg (#[.float .f32 x1h, .float .f32 x1v]) :: .tuple #[.float .f32 r0, .int .i64 r1] :: undef :: undef :: undef :: undef :: undef :: undef :: undef :: undef :: undef :: undef :: undef :: undef :: undef :: []).toArray, defers := [] } #[true, true, true, true, true, false, false, false, false, false] (.tuple #[.float .f32 r0, .int .i64 r1]) k2 rfl (by rfl) 51 #[.agg (fls x0), .agg (#[.float .f32 x1h, .float .f32 x1v])] (run_iWaterIn2 _ _ _ rfl _ _ rfl _ _ _ _ _ _) (by rfl) (by rfl) (HI.out _) (fun w3 k3 => ?_) AllReadyH.nil
    refine ⟨k3, ?_⟩
    refine take_val 5 { tmps := (.agg (fls x0) :: .agg #[.float .f32 x1h, .float .f32 x1v] :: .pointer (some ⟨w.heap.size, 0, none⟩) :: .pointer (some ⟨w.heap.size + 1, 0, none⟩) :: .bool false :: .float .f32 r0 :: .int .i64 r1 :: undef :: undef :: .tuple #[.float .f32 r0, .int .i64 r1] :: .agg (fls x0) :: .agg (fls x0) :: .agg (#[.float .f32 x1h, .float .f32 x1v]) :: .agg (#[.float .f32 x1h, .float .f32 x1v]) :: .tuple #[.float .f32 r0, .int .i64 r1] :: .float .f32 r0 :: .int .i64 r1 :: .tuple #[.float .f32 r0, .int .i64 r1] :: .agg (fls x0) :: .agg (fls x0) :: .agg (#[.float .f32 x1h, .float .f32 x1v]) :: .agg (#[.float .f32 x1h, .float .f32 x1v]) :: .tuple #[.float .f32 r0, .int .i64 r1] :: undef :: undef :: undef :: undef :: undef :: undef :: undef :: undef :: undef :: undef :: undef :: undef :: undef :: []).toArray, defers := [] } #[true, true, true, true, true, true, false, false, false, false] (.tuple #[.float .f32 r0, .int .i64 r1]) rfl (by rfl) (by kernel_rfl) (by kernel_rfl) (by kernel_rfl) (fun w => by rfl) (by rfl) (by rfl) (k3) ?_
    refine take_val 6 { tmps := (.agg (fls x0) :: .agg #[.float .f32 x1h, .float .f32 x1v] :: .pointer (some ⟨w.heap.size, 0, none⟩) :: .pointer (some ⟨w.heap.size + 1, 0, none⟩) :: .bool false :: .float .f32 r0 :: .int .i64 r1 :: undef :: undef :: .tuple #[.float .f32 r0, .int .i64 r1] :: .agg (fls x0) :: .agg (fls x0) :: .agg (#[.float .f32 x1h, .float .f32 x1v]) :: .agg (#[.float .f32 x1h, .float .f32 x1v]) :: .tuple #[.float .f32 r0, .int .i64 r1] :: .float .f32 r0 :: .int .i64 r1 :: .tuple #[.float .f32 r0, .int .i64 r1] :: .agg (fls x0) :: .agg (fls x0) :: .agg (#[.float .f32 x1h, .float .f32 x1v]) :: .agg (#[.float .f32 x1h, .float .f32 x1v]) :: .tuple #[.float .f32 r0, .int .i64 r1] :: .float .f32 r0 :: undef :: undef :: undef :: undef :: undef :: undef :: undef :: undef :: undef :: undef :: undef :: undef :: []).toArray, defers := [] } #[true, true, true, true, true, true, true, false, false, false] (.float .f32 r0) rfl (by rfl) (by kernel_rfl) (by kernel_rfl) (by kernel_rfl) (fun w => by rfl) (by rfl) (by rfl) (k3) ?_
    refine take_val 7 { tmps := (.agg (fls x0) :: .agg #[.float .f32 x1h, .float .f32 x1v] :: .pointer (some ⟨w.heap.size, 0, none⟩) :: .pointer (some ⟨w.heap.size + 1, 0, none⟩) :: .bool false :: .float .f32 r0 :: .int .i64 r1 :: undef :: undef :: .tuple #[.float .f32 r0, .int .i64 r1] :: .agg (fls x0) :: .agg (fls x0) :: .agg (#[.float .f32 x1h, .float .f32 x1v]) :: .agg (#[.float .f32 x1h, .float .f32 x1v]) :: .tuple #[.float .f32 r0, .int .i64 r1] :: .float .f32 r0 :: .int .i64 r1 :: .tuple #[.float .f32 r0, .int .i64 r1] :: .agg (fls x0) :: .agg (fls x0) :: .agg (#[.float .f32 x1h, .float .f32 x1v]) :: .agg (#[.float .f32 x1h, .float .f32 x1v]) :: .tuple #[.float .f32 r0, .int .i64 r1] :: .float .f32 r0 :: .int .i64 r1 :: undef :: undef :: undef :: undef :: undef :: undef :: undef :: undef :: undef :: undef :: undef :: []).toArray, defers := [] } #[true, true, true, true, true, true, true, true, false, false] (.int .i64 r1) rfl (by rfl) (by kernel_rfl) (by kernel_rfl) (by kernel_rfl) (fun w => by rfl) (by rfl) (by rfl) (k3) ?_
    refine take_val 8 { tmps := (.agg (fls x0) :: .agg #[.float .f32 x1h, .float .f32 x1v] :: .pointer (some ⟨w.heap.size, 0, none⟩) :: .pointer (some ⟨w.heap.size + 1, 0, none⟩) :: .bool false :: .float .f32 r0 :: .int .i64 r1 :: .float .f32 r0 :: undef :: .tuple #[.float .f32 r0, .int .i64 r1] :: .agg (fls x0) :: .agg (fls x0) :: .agg (#[.float .f32 x1h, .float .f32 x1v]) :: .agg (#[.float .f32 x1h, .float .f32 x1v]) :: .tuple #[.float .f32 r0, .int .i64 r1] :: .float .f32 r0 :: .int .i64 r1 :: .tuple #[.float .f32 r0, .int .i64 r1] :: .agg (fls x0) :: .agg (fls x0) :: .agg (#[.float .f32 x1h, .float .f32 x1v]) :: .agg (#[.float .f32 x1h, .float .f32 x1v]) :: .tuple #[.float .f32 r0, .int .i64 r1] :: .float .f32 r0 :: .int .i64 r1 :: undef :: undef :: undef :: undef :: undef :: undef :: undef :: undef :: undef :: undef :: undef :: []).toArray, defers := [] } #[true, true, true, true, true, true, true, true, true, false] (.float .f32 r0) rfl (by rfl) (by kernel_rfl) (by kernel_rfl) (by kernel_rfl) (fun w => by rfl) (by rfl) (by rfl) (k3) ?_
    refine take_val 9 { tmps := (.agg (fls x0) :: .agg #[.float .f32 x1h, .float .f32 x1v] :: .pointer (some ⟨w.heap.size, 0, none⟩) :: .pointer (some ⟨w.heap.size + 1, 0, none⟩) :: .bool false :: .float .f32 r0 :: .int .i64 r1 :: .float .f32 r0 :: .int .i64 r1 :: .tuple #[.float .f32 r0, .int .i64 r1] :: .agg (fls x0) :: .agg (fls x0) :: .agg (#[.float .f32 x1h, .float .f32 x1v]) :: .agg (#[.float .f32 x1h, .float .f32 x1v]) :: .tuple #[.float .f32 r0, .int .i64 r1] :: .float .f32 r0 :: .int .i64 r1 :: .tuple #[.float .f32 r0, .int .i64 r1] :: .agg (fls x0) :: .agg (fls x0) :: .agg (#[.float .f32 x1h, .float .f32 x1v]) :: .agg (#[.float .f32 x1h, .float .f32 x1v]) :: .tuple #[.float .f32 r0, .int .i64 r1] :: .float .f32 r0 :: .int .i64 r1 :: undef :: undef :: undef :: undef :: undef :: undef :: undef :: undef :: undef :: undef :: undef :: []).toArray, defers := [] } #[true, true, true, true, true, true, true, true, true, true] (.int .i64 r1) rfl (by rfl) (by kernel_rfl) (by kernel_rfl) (by kernel_rfl) (fun w => by rfl) (by rfl) (by rfl) (k3) ?_
    exact wpAnyH_done (by kernel_rfl) (NoPanic.normal (key2  _ (hid k3))) _
  refine region_kept (w0 := w) (l := [(w.heap.size, fls x0, 25), (w.heap.size + 1, #[.float .f32 x1h, .float .f32 x1v], 70)]) 10 #[false, false, false, false, false, false, false, false, false, false] (by kernel_rfl) rfl rfl ?_
  have kd := k0.out.drew
  clear k0
  generalize ((w.alloc (.cells (fls x0) 25)).alloc (.cells (#[.float .f32 x1h, .float .f32 x1v]) 70)).drew = wd at kd ⊢
  refine take_load 0 { tmps := (.agg (fls x0) :: .agg #[.float .f32 x1h, .float .f32 x1v] :: .pointer (some ⟨w.heap.size, 0, none⟩) :: .pointer (some ⟨w.heap.size + 1, 0, none⟩) :: .bool false :: undef :: undef :: undef :: undef :: undef :: .agg (fls x0) :: undef :: undef :: undef :: undef :: undef :: undef :: undef :: undef :: undef :: undef :: undef :: undef :: undef :: undef :: undef :: undef :: undef :: undef :: undef :: undef :: undef :: undef :: undef :: undef :: undef :: []).toArray, defers := [] } #[true, false, false, false, false, false, false, false, false, false] rfl (by rfl) (by kernel_rfl) (by kernel_rfl) (by kernel_rfl) 25 _ rfl (w.heap.size) (fls x0) 25 (by rfl) (by simp) _ Try.underlying25 rfl (by rw [fls_size]; exact info_a20) (by rfl) (by rfl) (kd) ?_
  refine take_load 2 { tmps := (.agg (fls x0) :: .agg #[.float .f32 x1h, .float .f32 x1v] :: .pointer (some ⟨w.heap.size, 0, none⟩) :: .pointer (some ⟨w.heap.size + 1, 0, none⟩) :: .bool false :: undef :: undef :: undef :: undef :: undef :: .agg (fls x0) :: undef :: .agg (#[.float .f32 x1h, .float .f32 x1v]) :: undef :: undef :: undef :: undef :: undef :: undef :: undef :: undef :: undef :: undef :: undef :: undef :: undef :: undef :: undef :: undef :: undef :: undef :: undef :: undef :: undef :: undef :: undef :: []).toArray, defers := [] } #[true, false, true, false, false, false, false, false, false, false] rfl (by rfl) (by kernel_rfl) (by kernel_rfl) (by kernel_rfl) 70 _ rfl (w.heap.size + 1) (#[.float .f32 x1h, .float .f32 x1v]) 70 (by rfl) (by simp) _ Try.underlying70 rfl (info_lair) (by rfl) (by rfl) (kd) ?_
  refine wpAnyH_ready (rs := [1]) (by kernel_rfl) (by simp) ?_
  refine callK 1 { tmps := (.agg (fls x0) :: .agg #[.float .f32 x1h, .float .f32 x1v] :: .pointer (some ⟨w.heap.size, 0, none⟩) :: .pointer (some ⟨w.heap.size + 1, 0, none⟩) :: .bool false :: undef :: undef :: undef :: undef :: undef :: .agg (fls x0) :: .agg (fls x0) :: .agg (#[.float .f32 x1h, .float .f32 x1v]) :: undef :: undef :: undef :: undef :: undef :: undef :: undef :: undef :: undef :: undef :: undef :: undef :: undef :: undef :: undef :: undef :: undef :: undef :: undef :: undef :: undef :: undef :: undef :: []).toArray, defers := [] } #[true, true, true, false, false, false, false, false, false, false] (.agg (fls x0)) kd rfl (by rfl) 58 #[.agg (fls x0)] (run_toSizes1 _ _ _ rfl _ _ _ _ _ _) (by rfl) (by rfl) (toSizes _ _) (fun w1 k1 => ?_) AllReadyH.nil
  refine ⟨k1, ?_⟩
  refine wpAnyH_ready (rs := [3]) (by kernel_rfl) (by simp) ?_
  refine callK 3 { tmps := (.agg (fls x0) :: .agg #[.float .f32 x1h, .float .f32 x1v] :: .pointer (some ⟨w.heap.size, 0, none⟩) :: .pointer (some ⟨w.heap.size + 1, 0, none⟩) :: .bool false :: undef :: undef :: undef :: undef :: undef :: .agg (fls x0) :: .agg (fls x0) :: .agg (#[.float .f32 x1h, .float .f32 x1v]) :: .agg (#[.float .f32 x1h, .float .f32 x1v]) :: undef :: undef :: undef :: undef :: undef :: undef :: undef :: undef :: undef :: undef :: undef :: undef :: undef :: undef :: undef :: undef :: undef :: undef :: undef :: undef :: undef :: undef :: []).toArray, defers := [] } #[true, true, true, true, false, false, false, false, false, false] (.agg (#[.float .f32 x1h, .float .f32 x1v])) k1 rfl (by rfl) 75 #[.agg (#[.float .f32 x1h, .float .f32 x1v])] (run_toAir1 _ _ _ rfl _ _ _ _ _ _) (by rfl) (by rfl) (toAir _ _ _) (fun w2 k2 => ?_) AllReadyH.nil
  refine ⟨k2, ?_⟩
  refine wpAnyH_ready (rs := [4]) (by kernel_rfl) (by simp) ?_
  refine callK 4 { tmps := (.agg (fls x0) :: .agg #[.float .f32 x1h, .float .f32 x1v] :: .pointer (some ⟨w.heap.size, 0, none⟩) :: .pointer (some ⟨w.heap.size + 1, 0, none⟩) :: .bool false :: undef :: undef :: undef :: undef :: undef :: .agg (fls x0) :: .agg (fls x0) :: .agg (#[.float .f32 x1h, .float .f32 x1v]) :: .agg (#[.float .f32 x1h, .float .f32 x1v]) :: .tuple #[.float .f32 r0, .int .i64 r1] :: undef :: undef :: undef :: undef :: undef :: undef :: undef :: undef :: undef :: undef :: undef :: undef :: undef :: undef :: undef :: undef :: undef :: undef :: undef :: undef :: undef :: []).toArray, defers := [] } #[true, true, true, true, true, false, false, false, false, false] (.tuple #[.float .f32 r0, .int .i64 r1]) k2 rfl (by rfl) 86 #[.agg (fls x0), .agg (#[.float .f32 x1h, .float .f32 x1v])] (run_sWaterIn2 _ _ _ rfl _ _ rfl _ _ _ _ _ _) (by rfl) (by rfl) (HS.out _) (fun w3 k3 => ?_) AllReadyH.nil
  refine ⟨k3, ?_⟩
  refine take_val 5 { tmps := (.agg (fls x0) :: .agg #[.float .f32 x1h, .float .f32 x1v] :: .pointer (some ⟨w.heap.size, 0, none⟩) :: .pointer (some ⟨w.heap.size + 1, 0, none⟩) :: .bool false :: undef :: undef :: undef :: undef :: .tuple #[.float .f32 r0, .int .i64 r1] :: .agg (fls x0) :: .agg (fls x0) :: .agg (#[.float .f32 x1h, .float .f32 x1v]) :: .agg (#[.float .f32 x1h, .float .f32 x1v]) :: .tuple #[.float .f32 r0, .int .i64 r1] :: undef :: undef :: undef :: undef :: undef :: undef :: undef :: undef :: undef :: undef :: undef :: undef :: undef :: undef :: undef :: undef :: undef :: undef :: undef :: undef :: undef :: []).toArray, defers := [] } #[true, true, true, true, true, true, false, false, false, false] (.tuple #[.float .f32 r0, .int .i64 r1]) rfl (by rfl) (by kernel_rfl) (by kernel_rfl) (by kernel_rfl) (fun w => by rfl) (by rfl) (by rfl) (k3) ?_
  refine take_val 6 { tmps := (.agg (fls x0) :: .agg #[.float .f32 x1h, .float .f32 x1v] :: .pointer (some ⟨w.heap.size, 0, none⟩) :: .pointer (some ⟨w.heap.size + 1, 0, none⟩) :: .bool false :: undef :: undef :: undef :: undef :: .tuple #[.float .f32 r0, .int .i64 r1] :: .agg (fls x0) :: .agg (fls x0) :: .agg (#[.float .f32 x1h, .float .f32 x1v]) :: .agg (#[.float .f32 x1h, .float .f32 x1v]) :: .tuple #[.float .f32 r0, .int .i64 r1] :: .float .f32 r0 :: undef :: undef :: undef :: undef :: undef :: undef :: undef :: undef :: undef :: undef :: undef :: undef :: undef :: undef :: undef :: undef :: undef :: undef :: undef :: undef :: []).toArray, defers := [] } #[true, true, true, true, true, true, true, false, false, false] (.float .f32 r0) rfl (by rfl) (by kernel_rfl) (by kernel_rfl) (by kernel_rfl) (fun w => by rfl) (by rfl) (by rfl) (k3) ?_
  refine take_val 7 { tmps := (.agg (fls x0) :: .agg #[.float .f32 x1h, .float .f32 x1v] :: .pointer (some ⟨w.heap.size, 0, none⟩) :: .pointer (some ⟨w.heap.size + 1, 0, none⟩) :: .bool false :: undef :: undef :: undef :: undef :: .tuple #[.float .f32 r0, .int .i64 r1] :: .agg (fls x0) :: .agg (fls x0) :: .agg (#[.float .f32 x1h, .float .f32 x1v]) :: .agg (#[.float .f32 x1h, .float .f32 x1v]) :: .tuple #[.float .f32 r0, .int .i64 r1] :: .float .f32 r0 :: .int .i64 r1 :: undef :: undef :: undef :: undef :: undef :: undef :: undef :: undef :: undef :: undef :: undef :: undef :: undef :: undef :: undef :: undef :: undef :: undef :: undef :: []).toArray, defers := [] } #[true, true, true, true, true, true, true, true, false, false] (.int .i64 r1) rfl (by rfl) (by kernel_rfl) (by kernel_rfl) (by kernel_rfl) (fun w => by rfl) (by rfl) (by rfl) (k3) ?_
  refine take_val 8 { tmps := (.agg (fls x0) :: .agg #[.float .f32 x1h, .float .f32 x1v] :: .pointer (some ⟨w.heap.size, 0, none⟩) :: .pointer (some ⟨w.heap.size + 1, 0, none⟩) :: .bool false :: .float .f32 r0 :: undef :: undef :: undef :: .tuple #[.float .f32 r0, .int .i64 r1] :: .agg (fls x0) :: .agg (fls x0) :: .agg (#[.float .f32 x1h, .float .f32 x1v]) :: .agg (#[.float .f32 x1h, .float .f32 x1v]) :: .tuple #[.float .f32 r0, .int .i64 r1] :: .float .f32 r0 :: .int .i64 r1 :: undef :: undef :: undef :: undef :: undef :: undef :: undef :: undef :: undef :: undef :: undef :: undef :: undef :: undef :: undef :: undef :: undef :: undef :: undef :: []).toArray, defers := [] } #[true, true, true, true, true, true, true, true, true, false] (.float .f32 r0) rfl (by rfl) (by kernel_rfl) (by kernel_rfl) (by kernel_rfl) (fun w => by rfl) (by rfl) (by rfl) (k3) ?_
  refine take_val 9 { tmps := (.agg (fls x0) :: .agg #[.float .f32 x1h, .float .f32 x1v] :: .pointer (some ⟨w.heap.size, 0, none⟩) :: .pointer (some ⟨w.heap.size + 1, 0, none⟩) :: .bool false :: .float .f32 r0 :: .int .i64 r1 :: undef :: undef :: .tuple #[.float .f32 r0, .int .i64 r1] :: .agg (fls x0) :: .agg (fls x0) :: .agg (#[.float .f32 x1h, .float .f32 x1v]) :: .agg (#[.float .f32 x1h, .float .f32 x1v]) :: .tuple #[.float .f32 r0, .int .i64 r1] :: .float .f32 r0 :: .int .i64 r1 :: undef :: undef :: undef :: undef :: undef :: undef :: undef :: undef :: undef :: undef :: undef :: undef :: undef :: undef :: undef :: undef :: undef :: undef :: undef :: []).toArray, defers := [] } #[true, true, true, true, true, true, true, true, true, true] (.int .i64 r1) rfl (by rfl) (by kernel_rfl) (by kernel_rfl) (by kernel_rfl) (fun w => by rfl) (by rfl) (by rfl) (k3) ?_
  exact wpAnyH_done (by kernel_rfl) (NoPanic.normal (key1  _ (hid k3))) _

theorem lawWaterIn (c : Nat → Nat) (hb : ∀ i, i < 20 → c i < 4294967296) (h v : Nat) (_hh : h < 4294967296) (hv : v < 4294967296) (w : World) :
    Calls Try.prog 25 #[.agg (fls c), .agg #[.float .f32 h, .float .f32 v]] w fun e w' => e = .returned (.bool true) ∧ Below w.heap.size w w' := by
  by_cases hc : Amts c
  · rcases hq : airB h v with _ | _
    · exact coreWaterIn c h v 0 (by decide) (by decide) 1 (sWaterIn_bad2 c hc h v hv hq) (iWaterIn_bad2 c hc h v hv hq) w
    · have hn := sumF_nn 19 (fun i hi => wat_nn (c := c) (k := i) (by omega) (hc i (by omega)))
      have hav := (airB_iff.1 hq).2.1
      rcases hf : finB (sumF (wat c) 19) with _ | _
      · have hinf : sumF (wat c) 19 = 2139095040 := by
          have h1 := nnB_iff.1 hn
          rw [finB_iff', INF_val] at hf
          rw [INF_val] at h1
          unfold mg at hf
          generalize sumF (wat c) 19 = W at *
          omega
        have hs := sWaterIn_ok c hc h v hq _ hinf (by decide) 0 4 (told_f (watIn_inf hav))
        exact coreWaterIn c h v 0 (by decide) (by decide) 4 hs (iWaterIn_inf c hc h v hv hq hf) w
      · obtain ⟨r, n, ht, hr, hl⟩ := told_lit (watIn v (sumF (wat c) 19))
        exact coreWaterIn c h v r (hl (nn_lt (watIn_facts hav hn).2.2)) hr n (sWaterIn_ok c hc h v hq _ rfl hn r n ht) (iWaterIn_ok c hc h v hq _ rfl hn hf r n ht) w
  · exact coreWaterIn c h v 0 (by decide) (by decide) 1 (sWaterIn_bad1 c hb hc h v) (iWaterIn_bad1 c hb hc h v) w

theorem words_cons : ∀ (v : List Char) (r : List Char), (∀ c ∈ v, c ≠ Char.ofNat 32) → wordsSigns (v ++ Char.ofNat 32 :: r) = v :: wordsSigns r
  | [], r, _ => rfl
  | c :: v, r, h => by
    have ih := words_cons v r (fun x hx => h x (by simp [hx]))
    have hc : c ≠ Char.ofNat 32 := h c (by simp)
    show wordsSigns (c :: (v ++ Char.ofNat 32 :: r)) = _
    rw [wordsSigns.eq_3 _ _ (fun e => hc e), ih]

def w0 : List Nat := [104, 97, 114, 110, 101, 115, 115]

def w1 : List Nat := [53, 101, 102, 56, 48, 48, 53, 56, 54, 100, 51, 48, 49, 98, 54, 54, 57, 52, 99, 102, 99, 101, 101, 57, 49, 48, 101, 49, 57, 55, 100, 55, 99, 55, 55, 54, 97, 53, 53, 48, 97, 51, 54, 101, 49, 50, 100, 50, 52, 98, 98, 98, 48, 49, 57, 99, 101, 102, 98, 54, 99, 51, 99, 55]

def w2 : List Nat := [99, 117, 116]

def w3 : List Nat := [97, 116, 32, 108, 111, 111, 112, 46, 101, 120, 97, 109, 112, 108, 101, 47, 103, 48, 49, 50, 50, 52, 47, 108, 97, 119, 115, 46, 70, 110, 83, 117, 109, 115, 32, 108, 111, 111, 112, 46, 101, 120, 97, 109, 112, 108, 101, 47, 103, 48, 49, 50, 50, 52, 47, 108, 97, 119, 115, 46, 70, 110, 83, 104, 105, 102, 116, 101, 100, 32, 108, 111, 111, 112, 46, 101, 120, 97, 109, 112, 108, 101, 47, 103, 48, 49, 50, 50, 52, 47, 108, 97, 119, 115, 46, 70, 110, 71, 114, 111, 119, 110, 32, 108, 111, 111, 112, 46, 101, 120, 97, 109, 112, 108, 101, 47, 103, 48, 49, 50, 50, 52, 47, 108, 97, 119, 115, 46, 70, 110, 78, 117, 99, 108, 101, 105, 32, 108, 111, 111, 112, 46, 101, 120, 97, 109, 112, 108, 101, 47, 103, 48, 49, 50, 50, 52, 47, 108, 97, 119, 115, 46, 70, 110, 69, 120, 97, 99, 116, 83, 97, 109, 101, 83, 105, 122, 101, 115, 32, 108, 111, 111, 112, 46, 101, 120, 97, 109, 112, 108, 101, 47, 103, 48, 49, 50, 50, 52, 47, 108, 97, 119, 115, 46, 70, 110, 69, 120, 97, 99, 116, 84, 104, 105, 114, 100, 82, 111, 111, 116, 32, 108, 111, 111, 112, 46, 101, 120, 97, 109, 112, 108, 101, 47, 103, 48, 49, 50, 50, 52, 47, 108, 97, 119, 115, 46, 70, 110, 69, 120, 97, 99, 116, 82, 97, 100, 105, 117, 115, 79, 102, 32, 108, 111, 111, 112, 46, 101, 120, 97, 109, 112, 108, 101, 47, 103, 48, 49, 50, 50, 52, 47, 108, 97, 119, 115, 46, 70, 110, 69, 120, 97, 99, 116, 77, 111, 109, 101, 110, 116, 79, 102, 32, 108, 111, 111, 112, 46, 101, 120, 97, 109, 112, 108, 101, 47, 103, 48, 49, 50, 50, 52, 47, 108, 97, 119, 115, 46, 70, 110, 69, 120, 97, 99, 116, 80, 117, 116, 68, 114, 111, 112, 108, 101, 116, 115, 32, 108, 111, 111, 112, 46, 101, 120, 97, 109, 112, 108, 101, 47, 103, 48, 49, 50, 50, 52, 47, 108, 97, 119, 115, 46, 70, 110, 69, 120, 97, 99, 116, 65, 100, 100, 83, 105, 122, 101, 115, 32, 108, 111, 111, 112, 46, 101, 120, 97, 109, 112, 108, 101, 47, 103, 48, 49, 50, 50, 52, 47, 108, 97, 119, 115, 46, 70, 110, 69, 120, 97, 99, 116, 77, 105, 120, 83, 105, 122, 101, 115, 32, 108, 111, 111, 112, 46, 101, 120, 97, 109, 112, 108, 101, 47, 103, 48, 49, 50, 50, 52, 47, 108, 97, 119, 115, 46, 70, 110, 69, 120, 97, 99, 116, 83, 104, 105, 102, 116, 77, 97, 115, 115, 101, 115, 32, 108, 111, 111, 112, 46, 101, 120, 97, 109, 112, 108, 101, 47, 103, 48, 49, 50, 50, 52, 47, 108, 97, 119, 115, 46, 70, 110, 69, 120, 97, 99, 116, 84, 119, 111, 84, 111, 32, 108, 111, 111, 112, 46, 101, 120, 97, 109, 112, 108, 101, 47, 103, 48, 49, 50, 50, 52, 47, 108, 97, 119, 115, 46, 70, 110, 69, 120, 97, 99, 116, 86, 97, 108, 105, 100, 65, 105, 114, 32, 108, 111, 111, 112, 46, 101, 120, 97, 109, 112, 108, 101, 47, 103, 48, 49, 50, 50, 52, 47, 108, 97, 119, 115, 46, 70, 110, 69, 120, 97, 99, 116, 83, 97, 109, 101, 65, 105, 114, 32, 108, 111, 111, 112, 46, 101, 120, 97, 109, 112, 108, 101, 47, 103, 48, 49, 50, 50, 52, 47, 108, 97, 119, 115, 46, 70, 110, 69, 120, 97, 99, 116, 83, 97, 116, 117, 114, 97, 116, 105, 111, 110, 65, 116, 32, 108, 111, 111, 112, 46, 101, 120, 97, 109, 112, 108, 101, 47, 103, 48, 49, 50, 50, 52, 47, 108, 97, 119, 115, 46, 70, 110, 69, 120, 97, 99, 116, 69, 120, 99, 101, 115, 115, 79, 102, 32, 108, 111, 111, 112, 46, 101, 120, 97, 109, 112, 108, 101, 47, 103, 48, 49, 50, 50, 52, 47, 108, 97, 119, 115, 46, 70, 110, 69, 120, 97, 99, 116, 72, 117, 109, 105, 100, 105, 116, 121, 79, 102, 32, 108, 111, 111, 112, 46, 101, 120, 97, 109, 112, 108, 101, 47, 103, 48, 49, 50, 50, 52, 47, 108, 97, 119, 115, 46, 70, 110, 69, 120, 97, 99, 116, 71, 97, 105, 110, 115, 65, 116, 32, 108, 111, 111, 112, 46, 101, 120, 97, 109, 112, 108, 101, 47, 103, 48, 49, 50, 50, 52, 47, 108, 97, 119, 115, 46, 70, 110, 69, 120, 97, 99, 116, 71, 114, 111, 119, 79, 110, 99, 101, 32, 108, 111, 111, 112, 46, 101, 120, 97, 109, 112, 108, 101, 47, 103, 48, 49, 50, 50, 52, 47, 108, 97, 119, 115, 46, 70, 110, 69, 120, 97, 99, 116, 71, 114, 111, 119, 83, 116, 101, 112, 115, 32, 108, 111, 111, 112, 46, 101, 120, 97, 109, 112, 108, 101, 47, 103, 48, 49, 50, 50, 52, 47, 108, 97, 119, 115, 46, 70, 110, 69, 120, 97, 99, 116, 65, 99, 116, 105, 118, 97, 116, 101, 32, 108, 111, 111, 112, 46, 101, 120, 97, 109, 112, 108, 101, 47, 103, 48, 49, 50, 50, 52, 47, 108, 97, 119, 115, 46, 70, 110, 69, 120, 97, 99, 116, 87, 97, 116, 101, 114, 73, 110, 32, 108, 111, 111, 112, 46, 101, 120, 97, 109, 112, 108, 101, 47, 103, 48, 49, 50, 50, 52, 47, 108, 97, 119, 115, 46, 70, 110, 69, 120, 97, 99, 116, 77, 105, 120, 65, 105, 114, 32, 108, 111, 111, 112, 46, 101, 120, 97, 109, 112, 108, 101, 47, 103, 48, 49, 50, 50, 52, 47, 108, 97, 119, 115, 46, 70, 110, 69, 120, 97, 99, 116, 83, 116, 101, 112, 115, 84, 111, 68, 114, 121, 32, 108, 111, 111, 112, 46, 101, 120, 97, 109, 112, 108, 101, 47, 103, 48, 49, 50, 50, 52, 47, 108, 97, 119, 115, 46, 70, 110, 69, 120, 97, 99, 116, 68, 101, 119, 72, 101, 97, 116]

def letters (l : List Nat) : List Char := l.map Char.ofNat

theorem head_reads : Try.prog.initOrder = String.ofList (letters w0 ++ Char.ofNat 32 :: (letters w1 ++ Char.ofNat 32 :: (letters w2 ++ Char.ofNat 32 :: letters w3))) := by kernel_rfl

theorem no_blank {l : List Nat} (h : l.all (fun n => Char.ofNat n != Char.ofNat 32) = true) : ∀ c ∈ letters l, c ≠ Char.ofNat 32 := by
  intro c hc
  obtain ⟨n, hn, rfl⟩ := List.mem_map.1 hc
  have := List.all_eq_true.1 h n hn
  simpa using this

theorem h0 : letters w0 = "harness".toList := by kernel_rfl

theorem h2 : letters w2 = "cut".toList := by kernel_rfl

theorem sums : isSumSigns (letters w1) = true := by kernel_rfl

theorem words : wordsSigns Try.prog.initOrder.toList = "harness".toList :: letters w1 :: "cut".toList :: wordsSigns (letters w3) := by
  rw [head_reads, String.toList_ofList, words_cons _ _ (no_blank (by decide +kernel)), words_cons _ _ (no_blank (by decide +kernel)), words_cons _ _ (no_blank (by decide +kernel)), h0, h2]

theorem behind : ∃ r, behindMainWord (wordsSigns Try.prog.initOrder.toList) = "cut".toList :: r := by
  refine ⟨wordsSigns (letters w3), ?_⟩
  rw [words]
  generalize wordsSigns (letters w3) = r
  have hs := sums
  generalize letters w1 = v at hs
  unfold behindMainWord
  simp [hs]

theorem not_later : Try.prog.laysLater = false := by kernel_rfl

theorem no_reflect : Try.prog.bearsReflect = false := by kernel_rfl

theorem no_doors : Try.prog.doorFits [] = true := by kernel_rfl

theorem strips (r : List (List Char)) : stripLifts liftWords ("cut".toList :: r) = ([], "cut".toList :: r) := by kernel_rfl

theorem may_enter_of (P : Program) (r : List (List Char)) (h : behindMainWord (wordsSigns P.initOrder.toList) = "cut".toList :: r) (h1 : P.laysLater = false) (h2 : P.bearsReflect = false) (h3 : P.doorFits [] = true) : P.mayEnter = true := by
  unfold Program.mayEnter
  rw [h]
  dsimp only
  rw [strips, h1, h2, h3]
  kernel_rfl

theorem lifts_final_of (P : Program) (r : List (List Char)) (h : behindMainWord (wordsSigns P.initOrder.toList) = "cut".toList :: r) : P.liftsFinal = false := by
  unfold Program.liftsFinal Program.headLifts
  rw [h]
  dsimp only
  rw [strips]
  kernel_rfl

theorem made_of (P : Program) (r : List (List Char)) (h : behindMainWord (wordsSigns P.initOrder.toList) = "cut".toList :: r) : P.make = some .cut := by
  unfold Program.make
  rw [h]
  kernel_rfl

theorem may_enter : Try.prog.mayEnter = true := let ⟨r, h⟩ := behind; may_enter_of _ r h not_later no_reflect no_doors

theorem lifts_final : Try.prog.liftsFinal = false := let ⟨r, h⟩ := behind; lifts_final_of _ r h

theorem made : Try.prog.make = some .cut := let ⟨r, h⟩ := behind; made_of _ r h

theorem laid : laidOutB Try.prog = true := by kernel_rfl

theorem rowed : mapsRowed Try.prog = true := by kernel_rfl

theorem no_stops : Try.prog.stops = [] := by kernel_rfl

theorem no_knobs : Try.prog.stopKnobs = [] := by kernel_rfl

theorem plain_keys : Try.prog.plainKeys = true := by kernel_rfl

theorem stops_heard : Try.prog.stopsHeard = true := by kernel_rfl

theorem arr2 {α : Type} {cs : Array α} (h : cs.size = 2) : ∃ c0 c1, cs = #[c0, c1] := by
  obtain ⟨l⟩ := cs
  match l, h with
  | [a, b], _ => exact ⟨a, b, rfl⟩

theorem own : ownKnob Try.prog.godebug = none := by kernel_rfl

theorem cells20 : Try.prog.cellsOf 25 = 20 := by kernel_rfl

theorem types20 : Try.prog.cellTypes Try.prog.depth 25 = some (List.replicate 20 24) := by kernel_rfl

theorem rda : Try.prog.readableRec 25 = true ∧ 25 < Try.prog.types.size := ⟨by kernel_rfl, of_decide_eq_true (by kernel_rfl)⟩

theorem rdf : Try.prog.readableRec 24 = true ∧ 24 < Try.prog.types.size := ⟨by kernel_rfl, of_decide_eq_true (by kernel_rfl)⟩

theorem cells2 : Try.prog.cellsOf 70 = 2 := by kernel_rfl

theorem types2 : Try.prog.cellTypes Try.prog.depth 70 = some [24, 24] := by kernel_rfl

theorem rdA : Try.prog.readableRec 70 = true ∧ 70 < Try.prog.types.size := ⟨by kernel_rfl, of_decide_eq_true (by kernel_rfl)⟩

theorem rdi : Try.prog.readableRec 2 = true ∧ 2 < Try.prog.types.size := ⟨by kernel_rfl, of_decide_eq_true (by kernel_rfl)⟩
end Go.Proofs.Ytgocemjopmgnaaa

namespace Go.Proofs.Ytgocemjopmgnaaa.fnExactWaterIn
open Go.RowKit Go.Fl Go.ChangeShapes Go.WideShapes Go.ChangeAt

theorem closed : joinedFacts Try.prog 25 Try.f25 Rows.fnExactWaterInSpec Rows.fnExactWaterInRow = true := by
  unfold joinedFacts
  simp only [Bool.and_eq_true]
  exact ⟨⟨⟨⟨⟨⟨⟨⟨⟨⟨⟨⟨⟨⟨⟨⟨⟨⟨⟨⟨⟨⟨⟨⟨⟨⟨⟨⟨⟨⟨⟨(by as_aux_lemma => kernel_rfl),
    laid⟩,
    rowed⟩,
    (by as_aux_lemma => kernel_rfl)⟩,
    (by as_aux_lemma => kernel_rfl)⟩,
    (by as_aux_lemma => kernel_rfl)⟩,
    (by rw [no_stops]; rfl)⟩,
    (by as_aux_lemma => kernel_rfl)⟩,
    (by rw [no_knobs]; rfl)⟩,
    (by as_aux_lemma => kernel_rfl)⟩,
    (by as_aux_lemma => kernel_rfl)⟩,
    (by as_aux_lemma => kernel_rfl)⟩,
    (by as_aux_lemma => kernel_rfl)⟩,
    (by as_aux_lemma => kernel_rfl)⟩,
    (by as_aux_lemma => kernel_rfl)⟩,
    (by as_aux_lemma => kernel_rfl)⟩,
    (by as_aux_lemma => kernel_rfl)⟩,
    (by as_aux_lemma => kernel_rfl)⟩,
    (by as_aux_lemma => kernel_rfl)⟩,
    (by as_aux_lemma => kernel_rfl)⟩,
    (by as_aux_lemma => kernel_rfl)⟩,
    (by as_aux_lemma => kernel_rfl)⟩,
    (show (Rows.fnExactWaterInRow.plainKeys == Try.prog.plainKeys) = true by rw [plain_keys]; rfl)⟩,
    (by as_aux_lemma => kernel_rfl)⟩,
    stops_heard⟩,
    may_enter⟩,
    (show (Rows.fnExactWaterInRow.lifted == Try.prog.liftsFinal) = true by rw [lifts_final]; rfl)⟩,
    (show (Try.prog.make == some Rows.fnExactWaterInRow.make) = true by rw [made]; rfl)⟩,
    (by as_aux_lemma => kernel_rfl)⟩,
    (by as_aux_lemma => kernel_rfl)⟩,
    (by as_aux_lemma => kernel_rfl)⟩,
    (by as_aux_lemma => kernel_rfl)⟩

set_option maxRecDepth 100000 in
theorem lifted (os : Os) (started : os.Started) (H : Type) (enc : TypeId × Value → H) :
    ReturnsInHanded {} Try.checked os 25 .any (Rows.fnExactWaterInSpec.pre6 enc Try.prog Try.f25 Rows.fnExactWaterInRow.domain false) (Rows.fnExactWaterInSpec.post enc Try.prog Try.f25 false true false false) := by
  refine LawFrame.lifted (C := Try.checked) (fn := Try.f25) (n := 2) (tb := 4) started own (by kernel_rfl) Try.func25 laid ?_ rfl rfl ?_ rfl Try.underlying4
    (ChangeSpec.witness6 (enc := enc) (C := Try.checked) false ⟨#[], #[.agg (Array.replicate 20 (.float .f32 0)), .agg #[.float .f32 0, .float .f32 0]], []⟩ 8 (by kernel_rfl) (by kernel_rfl) (by kernel_rfl) (by kernel_rfl)) ?_
  · intro t ht
    simp only [Try.params25, List.mem_cons, List.not_mem_nil, or_false] at ht
    rcases ht with rfl | rfl <;> first | exact rda | exact rdf | exact rdi | exact rdA
  · intro ds hd
    match ds, hd with
    | [_, _], _ => rfl
  · intro W base args ds ps hval hn _
    obtain ⟨v0, v1, rfl⟩ : ∃ v0 v1, args = #[v0, v1] := arr2 hn
    obtain ⟨c0, rfl, hb0⟩ := open_fls Try.underlying25 Try.underlying24 cells20 types20 (hval 0 25 v0 rfl rfl)
    obtain ⟨c1h, c1v, rfl, hh1, hv1⟩ := open_two Try.underlying70 Try.underlying24 cells2 types2 (hval 1 70 v1 rfl rfl)
    exact lawWaterIn c0 hb0 c1h c1v hh1 hv1 W

theorem over : Rows.fnExactWaterInRow.holds Try.pinned (OpenSpec.ofChange Rows.fnExactWaterInSpec) :=
  OpenClaim.holds_of_wide 25 Try.f25 rfl rfl rfl rfl rfl rfl rfl ⟨rfl, rfl, rfl, rfl, rfl⟩ rfl rfl rfl rfl rfl (by kernel_rfl) Try.func25 closed
    (of_decide_eq_true (by kernel_rfl)) (by unfold Func.isWrapper; rw [if_neg (by decide +kernel)]; exact ⟨rfl, rfl⟩)
    (fun os started H enc _ => lifted os started H enc)

theorem proved : Rows.FnExactWaterInSaid := over
#print axioms proved
end Go.Proofs.Ytgocemjopmgnaaa.fnExactWaterIn
