import Derived.Test.YtgocemjopmgnaaaBActivate
import Derived.Test.YtgocemjopmgnaaaChecked
import Derived.Test.YtgocemjopmgnaaaRows
import Derived.Laws.FloatArith
import Derived.ProofKit
import Derived.WalkKit
import Derived.WalkLawsBesides
import Derived.WalkSpells
import Derived.Deep.QuietTactic
import Derived.BigQuiet
import Derived.Deep.RegionHeld3
import Derived.ChangeKeysEq
import Derived.Laws.BitsAllLaws
import Derived.OpenShut
/- The law FnExactActivate of chapter 1: at every argument the call returns true, and what was there before it is as it was. -/
namespace Go.Proofs.Ytgocemjopmgnaaa
open Go.RowKit Go.Fl

@[go_sem] theorem ext_f64bits (y : Nat) (w : World) : (callFunc 169 #[.float .f64 y]).run Try.prog w = .ok (.value (.int .u64 y)) w := by
  rw [run_callFunc_extern Try.func169 (by kernel_rfl) (by kernel_rfl) (by kernel_rfl) (e := Extern.MathFloatBits.float64bits) (by kernel_rfl)]
  rfl

@[go_sem] theorem ext_f64from (n : Int) (w : World) : (callFunc 177 #[.int .u64 n]).run Try.prog w = .ok (.value (.float .f64 n.toNat)) w := by
  rw [run_callFunc_extern Try.func177 (by kernel_rfl) (by kernel_rfl) (by kernel_rfl) (e := Extern.MathFloatBits.float64frombits) (by kernel_rfl)]
  rfl

theorem hid {p : Prop} (h : p) : Hid p := h

theorem clear_sign (y : Nat) (h : y < 18446744073709551616) : (bits BinOp.andNot IntKind.u64 (y : Int) 9223372036854775808).toNat = y % 9223372036854775808 := by
  rw [u64_andNot _ _ (by omega) (by omega) (by omega) (by omega)]
  rw [Int.toNat_natCast, Int.toNat_natCast]
  exact Nat.and_two_pow_sub_one_eq_mod y 63

theorem abs_f64 (y : Nat) (h : y < 18446744073709551616) (w : World) :
    Calls Try.prog 170 #[.float .f64 y] w fun e w' => e = .returned (.float .f64 (y % 9223372036854775808)) ∧ w = w' := by
  have hc := hid (clear_sign y h)
  clear h
  go_enter Try.func170, Try.ntmps170
  go_wp2
  go_ret
  exact ⟨by simp [hc.out], rfl⟩

theorem isNaN_f64 (y : Nat) (w : World) :
    Calls Try.prog 155 #[.float .f64 y] w fun e w' => e = .returned (.bool (FloatKind.f64.format.order y y != some .eq)) ∧ w = w' := by
  go_enter Try.func155, Try.ntmps155
  go_wp2
  go_ret
  exact ⟨rfl, rfl⟩

theorem isInf_f64 (y : Nat) (h : y < 18446744073709551616) (w : World) :
    Calls Try.prog 156 #[.float .f64 y, .int .i64 0] w fun e w' => e = .returned (.bool (FloatKind.f64.format.order (y % 9223372036854775808) 9218868437227405311 == some .gt)) ∧ w = w' := by
  have hc := hid h
  clear h
  go_enter Try.func156, Try.ntmps156
  go_wp2_with (go_at_call 170; refine (abs_f64 y hc.out _).mono ?_; rintro e w' ⟨rfl, rfl⟩)
  go_ret
  exact ⟨rfl, rfl⟩

theorem isFinite_t (x : Nat) (hx : x < 4294967296) (h : finB x = true) (w : World) :
    Calls Try.prog 106 #[.float .f32 x] w fun e w' => e = .returned (.bool true) ∧ w = w' := by
  rw [finB_iff] at h
  have hc := fun w => run_conv_wid (P := Try.prog) w 24 62 x hx Try.underlying24 Try.underlying62 h
  obtain ⟨a, b, m, e, hr⟩ := read_wid_fin hx h
  have hn : (FloatKind.f64.format.order (wid x) (wid x) != some .eq) = false := by
    show (D.order (wid x) (wid x) != some .eq) = false
    rw [order_self hr]; rfl
  have hi : (FloatKind.f64.format.order (wid x % 9223372036854775808) 9218868437227405311 == some .gt) = false := by
    show (D.order (wid x % 9223372036854775808) 9218868437227405311 == some .gt) = false
    rw [b, order_ltD a (by decide)]
    rw [DINF_val] at a
    have hle : wid (mg x) ≤ 9218868437227405311 := by omega
    rcases Nat.lt_or_eq_of_le hle with h' | h'
    · rw [Nat.compare_eq_lt.2 h']; rfl
    · rw [Nat.compare_eq_eq.2 h']; rfl
  have hw : wid x < 18446744073709551616 := D.write_lt _
  have Hn := hid hn
  have Hi := hid hi
  have Hw := hid hw
  clear hn hi hw hr a b h hx
  go_enter Try.func106, Try.ntmps106
  go_wp2_with (first | (go_at_call 155; refine (isNaN_f64 (wid x) _).mono ?_; rintro e w' ⟨rfl, rfl⟩; rw [Hn.out]) | (go_at_call 156; refine (isInf_f64 (wid x) Hw.out _).mono ?_; rintro e w' ⟨rfl, rfl⟩; rw [Hi.out]))
  go_ret
  exact ⟨rfl, rfl⟩

theorem isFinite_f (x : Nat) (hx : x < 4294967296) (h : finB x = false) (w : World) :
    Calls Try.prog 106 #[.float .f32 x] w fun e w' => e = .returned (.bool false) ∧ Below w.heap.size w w' := by
  rw [finB_iff'] at h
  rcases Nat.lt_or_eq_of_le h with h | h
  · obtain ⟨z, hc, h1, _⟩ := run_conv_nan (P := Try.prog) w 24 62 x Try.underlying24 Try.underlying62 h
    obtain ⟨s, t, hr⟩ := read_nanD h1
    have Hn := hid (show (FloatKind.f64.format.order z z != some .eq) = true by
      show (D.order z z != some .eq) = true
      rw [order_nan hr]; rfl)
    clear h h1 hr hx
    go_enter Try.func106, Try.ntmps106
    go_wp2_with (go_at_call 155; refine (isNaN_f64 z _).mono ?_; rintro e w' ⟨rfl, rfl⟩; rw [Hn.out])
    go_ret
    exact ⟨rfl, (Below.refl _ _).drew⟩
  · obtain ⟨z, hc, h1, h2⟩ := run_conv_inf (P := Try.prog) w 24 62 x hx Try.underlying24 Try.underlying62 h.symm
    have hr : D.read z = .infinity (decide (9223372036854775808 ≤ z)) := by rw [read_signD h2, h1, read_DINF]
    have Hn := hid (show (FloatKind.f64.format.order z z != some .eq) = false by
      show (D.order z z != some .eq) = false
      rw [order_inf hr]; rfl)
    have Hi := hid (show (FloatKind.f64.format.order (z % 9223372036854775808) 9218868437227405311 == some .gt) = true by
      rw [h1]; decide)
    have H2 := hid h2
    clear h h1 hr hx h2
    go_enter Try.func106, Try.ntmps106
    go_wp2_with (first | (go_at_call 155; refine (isNaN_f64 z _).mono ?_; rintro e w' ⟨rfl, rfl⟩; rw [Hn.out]) | (go_at_call 156; refine (isInf_f64 z H2.out _).mono ?_; rintro e w' ⟨rfl, rfl⟩; rw [Hi.out]))
    go_ret
    exact ⟨rfl, Below.refl _ _⟩

theorem signbit_f64 (y : Nat) (w : World) :
    Calls Try.prog 154 #[.float .f64 y] w fun e w' => e = .returned (.bool (decide (wrap64 (y : Int) < 0))) ∧ w = w' := by
  go_enter Try.func154, Try.ntmps154
  go_wp2
  go_ret
  exact ⟨rfl, rfl⟩

theorem and_sign (y : Nat) (h : y < 18446744073709551616) : (decide (wrap64 (y : Int) < 0)) = decide (9223372036854775808 ≤ y) := by
  unfold wrap64
  by_cases h' : 9223372036854775808 ≤ y
  · rw [decide_eq_true h']; simp; omega
  · rw [decide_eq_false h']; simp; omega

theorem isAmount_t (x : Nat) (h : amtB x = true) (w : World) :
    Calls Try.prog 104 #[.float .f32 x] w fun e w' => e = .returned (.bool true) ∧ w = w' := by
  have hf := amt_fin h
  rw [amtB_iff, INF_val] at h
  have hx : x < 4294967296 := by omega
  have hc := fun w => run_conv_wid (P := Try.prog) w 24 62 x hx Try.underlying24 Try.underlying62 (finB_iff.1 hf)
  have hw : wid x < 18446744073709551616 := D.write_lt _
  have Hs := hid (show (decide (wrap64 (wid x : Int) < 0)) = false by
    rw [and_sign _ hw]
    have := (wid_val (x := x) (by rw [INF_val]; omega)).1
    rw [DINF_val] at this
    simp; omega)
  have Hx := hid hx
  have Hf := hid hf
  clear h hf hx hw
  go_enter Try.func104, Try.ntmps104
  go_wp2_with (first | (go_at_call 106; refine (isFinite_t x Hx.out Hf.out _).mono ?_; rintro e w' ⟨rfl, rfl⟩) | (go_at_call 154; refine (signbit_f64 (wid x) _).mono ?_; rintro e w' ⟨rfl, rfl⟩; rw [Hs.out]))
  go_ret
  exact ⟨rfl, rfl⟩

theorem isAmount_f (x : Nat) (hx : x < 4294967296) (h : amtB x = false) (w : World) :
    Calls Try.prog 104 #[.float .f32 x] w fun e w' => e = .returned (.bool false) ∧ Below w.heap.size w w' := by
  rcases hf : finB x with _ | _
  · have Hx := hid hx
    have Hf := hid hf
    clear h hf hx
    go_enter Try.func104, Try.ntmps104
    go_wp2_with (go_at_call 106; refine (isFinite_f x Hx.out Hf.out _).mono ?_; rintro e w' ⟨rfl, hb⟩)
    go_ret
    exact ⟨rfl, hb⟩
  · have hc := fun w => run_conv_wid (P := Try.prog) w 24 62 x hx Try.underlying24 Try.underlying62 (finB_iff.1 hf)
    have hw : wid x < 18446744073709551616 := D.write_lt _
    have Hs := hid (show (decide (wrap64 (wid x : Int) < 0)) = true by
      rw [and_sign _ hw, wid_fin hx (finB_iff.1 hf)]
      rw [amtB_iff', INF_val] at h
      rw [finB_iff, INF_val] at hf
      unfold mg at hf ⊢
      rw [if_pos (by omega)]
      simp)
    have Hx := hid hx
    have Hf := hid hf
    clear h hf hx hw
    go_enter Try.func104, Try.ntmps104
    go_wp2_with (first | (go_at_call 106; refine (isFinite_t x Hx.out Hf.out _).mono ?_; rintro e w' ⟨rfl, rfl⟩) | (go_at_call 154; refine (signbit_f64 (wid x) _).mono ?_; rintro e w' ⟨rfl, rfl⟩; rw [Hs.out]))
    go_ret
    exact ⟨rfl, Below.refl _ _⟩

theorem info_f32 : ∃ i, Try.prog.info? 24 = some i ∧ i.size = 1 := by
  have h : (Try.prog.info? 24).map (·.size) = some 1 := by kernel_rfl
  cases hi : Try.prog.info? 24 with
  | none => rw [hi] at h; cases h
  | some i => rw [hi] at h; exact ⟨i, rfl, Option.some.inj h⟩

theorem ix (T : TypeId) (hT : Try.prog.underlying T = some (.array 20 24)) (c : Nat → Nat) (k : Nat) (hk : k < 20) (w : World) :
    (Instr.index T (.agg (fls c)) (.int .i64 (k : Int))).run Try.prog w = .ok (.float .f32 (c k)) w := by
  obtain ⟨i, h1, h2⟩ := info_f32
  exact run_index_arr hT Try.underlying24 rfl h1 h2 _ _ hk _ (fls_get c hk) w

theorem info_arr : (Try.prog.info? 26).map (·.size) = some 20 := by kernel_rfl

set_option maxRecDepth 100000 in
theorem validSizes_t (c : Nat → Nat) (h : ∀ i, i < 20 → amtB (c i) = true) (w : World) :
    Calls Try.prog 53 #[.agg (fls c)] w fun e w' => e = .returned (.bool true) ∧ Below w.heap.size w w' := by
  have H := hid h
  clear h
  go_enter Try.func53, Try.ntmps53
  go_wp2_with (refine wpList_load_row rfl 26 _ rfl w.heap.size rfl 26 (fls c) (0, 0) _ (heap_alloc_new _ _) Try.underlying26 rfl (by rw [fls_size]; exact info_arr) ?_)
  go_loop [6] (fun i => ∃ k : Nat, k ≤ 20 ∧ i = .int .i64 k) (fun i => 20 - (intOf i).toNat)
  case atStart => exact ⟨0, by omega, rfl⟩
  case round =>
    obtain ⟨k, hk, rfl⟩ := hrel
    by_cases hlt : k < 20
    · have hix := ix 26 Try.underlying26 c k hlt
      go_wp2_with (go_at_call 104; refine (isAmount_t (c k) (H.out k hlt) _).mono ?_; rintro e w' ⟨rfl, rfl⟩)
      go_round
      case rel => exact ⟨k + 1, by omega, by go_num⟩
      case measure => simp [intOf]; omega
    · go_wp2
      go_ret
      exact ⟨rfl, (Below.refl _ _).alloc (Nat.le_refl _) _⟩

@[go_sem] theorem ext_f32bits (y : Nat) (w : World) : (callFunc 159 #[.float .f32 y]).run Try.prog w = .ok (.value (.int .u32 y)) w := by
  rw [run_callFunc_extern Try.func159 (by kernel_rfl) (by kernel_rfl) (by kernel_rfl) (e := Extern.MathFloatBits.float32bits) (by kernel_rfl)]
  rfl

theorem sFinite_t (x : Nat) (hx : x < 4294967296) (h : finB x = true) (w : World) :
    Calls Try.prog 110 #[.float .f32 x] w fun e w' => e = .returned (.bool true) ∧ w = w' := by
  have hr := fun w => run_float_arith (P := Try.prog) w .sub 24 .f32 x x 0 (sub_self_fin hx h)
  clear h hx
  go_enter Try.func110, Try.ntmps110
  go_wp2
  go_ret
  exact ⟨rfl, rfl⟩

theorem sFinite_f (x : Nat) (hx : x < 4294967296) (h : finB x = false) (w : World) :
    Calls Try.prog 110 #[.float .f32 x] w fun e w' => e = .returned (.bool false) ∧ Below w.heap.size w w' := by
  obtain ⟨z, hr, h1, _⟩ := run_arith_nan (P := Try.prog) w .sub (by simp) 24 x x (sub_self_none hx h)
  have Hn := hid (show (FloatKind.f32.format.order z 0 == some .eq) = false by
    show (S.order z 0 == some .eq) = false
    rw [order_nan32 h1]; rfl)
  clear h hx h1
  go_enter Try.func110, Try.ntmps110
  go_wp2
  go_ret
  exact ⟨by simp [Hn.out], (Below.refl _ _).drew⟩

theorem sAmount_t (x : Nat) (h : amtB x = true) (w : World) :
    Calls Try.prog 114 #[.float .f32 x] w fun e w' => e = .returned (.bool true) ∧ w = w' := by
  have hf := amt_fin h
  have h' := amtB_iff.1 h
  have hx : x < 4294967296 := by rw [INF_val] at h'; omega
  have Hx := hid hx
  have Hf := hid hf
  by_cases h0 : x = 0
  · subst h0
    clear h hf h' hx
    go_enter Try.func114, Try.ntmps114
    go_wp2_with (go_at_call 110; refine (sFinite_t 0 Hx.out Hf.out _).mono ?_; rintro e w' ⟨rfl, rfl⟩)
    go_ret
    exact ⟨rfl, rfl⟩
  · have hg : (FloatKind.f32.format.order x 0 == some .gt) = true := by
      show (S.order x 0 == some .gt) = true
      rw [order_zero_pos h', Nat.compare_eq_gt.2 (by omega)]; rfl
    clear h hf h' hx h0
    go_enter Try.func114, Try.ntmps114
    go_wp2_with (go_at_call 110; refine (sFinite_t x Hx.out Hf.out _).mono ?_; rintro e w' ⟨rfl, rfl⟩)
    go_ret
    exact ⟨rfl, rfl⟩

theorem sAmount_f (x : Nat) (hx : x < 4294967296) (h : amtB x = false) (w : World) :
    Calls Try.prog 114 #[.float .f32 x] w fun e w' => e = .returned (.bool false) ∧ Below w.heap.size w w' := by
  rcases hf : finB x with _ | _
  · have Hx := hid hx
    have Hf := hid hf
    clear h hf hx
    go_enter Try.func114, Try.ntmps114
    go_wp2_with (go_at_call 110; refine (sFinite_f x Hx.out Hf.out _).mono ?_; rintro e w' ⟨rfl, hb⟩)
    go_ret
    exact ⟨rfl, hb⟩
  · have hs : 2147483648 ≤ x := by
      rw [amtB_iff', INF_val] at h
      have := finB_iff.1 hf
      rw [INF_val] at this
      unfold mg at this
      omega
    have hg : (FloatKind.f32.format.order x 0 == some .gt) = false := order_neg_zero hx hf hs
    have hb : ((x : Int) == 0) = false := by simp; omega
    have Hx := hid hx
    have Hf := hid hf
    clear h hf hx hs
    go_enter Try.func114, Try.ntmps114
    go_wp2_with (go_at_call 110; refine (sFinite_t x Hx.out Hf.out _).mono ?_; rintro e w' ⟨rfl, rfl⟩)
    go_ret
    exact ⟨rfl, Below.refl _ _⟩

set_option maxRecDepth 100000 in
theorem validSizes_f (c : Nat → Nat) (hb : ∀ i, i < 20 → c i < 4294967296) (h : ¬ ∀ i, i < 20 → amtB (c i) = true) (w : World) :
    Calls Try.prog 53 #[.agg (fls c)] w fun e w' => e = .returned (.bool false) ∧ Below w.heap.size w w' := by
  have H := hid h
  have HB := hid hb
  clear h hb
  go_enter Try.func53, Try.ntmps53
  go_wp2_with (refine wpList_load_row rfl 26 _ rfl w.heap.size rfl 26 (fls c) (0, 0) _ (heap_alloc_new _ _) Try.underlying26 rfl (by rw [fls_size]; exact info_arr) ?_)
  go_loop [6] (fun i => ∃ k : Nat, k ≤ 20 ∧ Hid (∀ i, i < k → amtB (c i) = true) ∧ i = .int .i64 k) (fun i => 20 - (intOf i).toNat)
  case atStart => exact ⟨0, by omega, hid (fun i hi => by omega), rfl⟩
  case round =>
    obtain ⟨k, hk, HK, rfl⟩ := hrel
    by_cases hlt : k < 20
    · have hix := ix 26 Try.underlying26 c k hlt
      rcases hac : amtB (c k) with _ | _
      · have HA := hid hac
        clear hac
        go_wp2_with (go_at_call 104; refine (isAmount_f (c k) (HB.out k hlt) HA.out _).mono ?_; rintro e w' ⟨rfl, hb⟩)
        go_ret
        exact ⟨rfl, (((Below.refl _ _).alloc (Nat.le_refl _) _).trans (hb.mono (by simp)))⟩
      · have HA := hid hac
        clear hac
        go_wp2_with (go_at_call 104; refine (isAmount_t (c k) HA.out _).mono ?_; rintro e w' ⟨rfl, rfl⟩)
        go_round
        case rel =>
          refine ⟨k + 1, by omega, hid (fun i hi => ?_), by go_num⟩
          by_cases e : i = k
          · subst e; exact HA.out
          · exact HK.out i (by omega)
        case measure => simp [intOf]; omega
    · have hk20 : k = 20 := by omega
      exact (H.out (fun i hi => HK.out i (by omega))).elim

set_option maxRecDepth 100000 in
theorem sOk_t (c : Nat → Nat) (h : ∀ i, i < 20 → amtB (c i) = true) (w : World) (g : Nat) (T : TypeId) (hg : w.heap[g]? = some (.cells (fls c) T (0, 0))) :
    Calls Try.prog 109 #[.pointer (some ⟨g, 0, none⟩)] w fun e w' => e = .returned (.bool true) ∧ w = w' := by
  have H := hid h
  have HG := hid hg
  clear h hg
  go_enter Try.func109, Try.ntmps109
  go_wp2
  go_loop [3] (fun i => ∃ k : Nat, k ≤ 20 ∧ i = .int .i64 k) (fun i => 20 - (intOf i).toNat)
  case atStart => exact ⟨0, by omega, rfl⟩
  case round =>
    obtain ⟨k, hk, rfl⟩ := hrel
    by_cases hlt : k < 20
    · have hcell : w.cell? ⟨g, k, none⟩ = some (.float .f32 (c k)) := by rw [cell_of_row w g k _ _ _ HG.out, fls_get c hlt]
      go_wp2_with (go_at_call 114; refine (sAmount_t (c k) (H.out k hlt) _).mono ?_; rintro e w' ⟨rfl, rfl⟩)
      go_round
      case rel => exact ⟨k + 1, by omega, by go_num⟩
      case measure => simp [intOf]; omega
    · go_wp2
      go_ret
      exact ⟨rfl, rfl⟩

set_option maxRecDepth 100000 in
theorem sOk_f (c : Nat → Nat) (hb : ∀ i, i < 20 → c i < 4294967296) (h : ¬ ∀ i, i < 20 → amtB (c i) = true) (w : World) (g : Nat) (T : TypeId) (hg : w.heap[g]? = some (.cells (fls c) T (0, 0))) :
    Calls Try.prog 109 #[.pointer (some ⟨g, 0, none⟩)] w fun e w' => e = .returned (.bool false) ∧ Below w.heap.size w w' := by
  have H := hid h
  have HB := hid hb
  have HG := hid hg
  clear h hb hg
  go_enter Try.func109, Try.ntmps109
  go_wp2
  go_loop [3] (fun i => ∃ k : Nat, k ≤ 20 ∧ Hid (∀ i, i < k → amtB (c i) = true) ∧ i = .int .i64 k) (fun i => 20 - (intOf i).toNat)
  case atStart => exact ⟨0, by omega, hid (fun i hi => by omega), rfl⟩
  case round =>
    obtain ⟨k, hk, HK, rfl⟩ := hrel
    by_cases hlt : k < 20
    · have hcell : w.cell? ⟨g, k, none⟩ = some (.float .f32 (c k)) := by rw [cell_of_row w g k _ _ _ HG.out, fls_get c hlt]
      rcases hac : amtB (c k) with _ | _
      · have HA := hid hac
        clear hac
        go_wp2_with (go_at_call 114; refine (sAmount_f (c k) (HB.out k hlt) HA.out _).mono ?_; rintro e w' ⟨rfl, hb⟩)
        go_ret
        exact ⟨rfl, hb⟩
      · have HA := hid hac
        clear hac
        go_wp2_with (go_at_call 114; refine (sAmount_t (c k) HA.out _).mono ?_; rintro e w' ⟨rfl, rfl⟩)
        go_round
        case rel =>
          refine ⟨k + 1, by omega, hid (fun i hi => ?_), by go_num⟩
          by_cases e : i = k
          · subst e; exact HA.out
          · exact HK.out i (by omega)
        case measure => simp [intOf]; omega
    · have hk20 : k = 20 := by omega
      exact (H.out (fun i hi => HK.out i (by omega))).elim

theorem info_a20 : (Try.prog.info? 25).map (·.size) = some 20 := by kernel_rfl

set_option maxRecDepth 100000 in
theorem toSizes (c : Nat → Nat) (w : World) :
    Calls Try.prog 58 #[.agg (fls c)] w fun e w' => e = .returned (.agg (fls c)) ∧ Below w.heap.size w w' := by
  have b0 : Below w.heap.size w (w.alloc (.cells (fls c) 25)) := (Below.refl _ _).alloc (Nat.le_refl _) _
  have a0 := hid (arrAt.new w c 25)
  go_enter Try.func58, Try.ntmps58
  go_wp2
  go_loopw [4] (fun i wr => ∃ k : Nat, k ≤ 20 ∧ i = .int .i64 k ∧ Hid (arrAt wr w.heap.size c 25) ∧ Hid (arrAt wr (w.heap.size + 1) (fun _ => 0) 26) ∧ Hid (arrAt wr (w.heap.size + 1 + 1) (cut c k) 26) ∧ Hid (Below w.heap.size w wr)) (fun i _ => 20 - (intOf i).toNat)
  case atStart =>
    refine ⟨0, by omega, rfl, hid ((a0.out.alloc _).alloc _), hid ?_, hid ?_, hid ((b0.alloc (by simp) _).alloc (by simp; omega) _)⟩
    · have := arrAt.new (w.alloc (.cells (fls c) 25)) (fun _ => 0) 26
      have e : (w.alloc (.cells (fls c) 25)).heap.size = w.heap.size + 1 := by simp
      rw [e] at this
      exact this.alloc _
    · have := arrAt.new ((w.alloc (.cells (fls c) 25)).alloc (.cells (fls fun _ => 0) 26)) (fun _ => 0) 26
      have e : ((w.alloc (.cells (fls c) 25)).alloc (.cells (fls fun _ => 0) 26)).heap.size = w.heap.size + 1 + 1 := by simp
      rw [e] at this
      exact this.ext (fun i _ => (cut_zero' c i).symm)
  case round =>
    obtain ⟨k, hk, rfl, h0, h1, h2, hb⟩ := hrel
    by_cases hlt : k < 20
    · have q0 := h0.out.cell hlt
      have q2 := h2.out.cell hlt
      have f2 := h2.out.frozen k
      go_wp2
      go_roundw
      case rel => exact ⟨k + 1, by omega, by go_num, hid (h0.out.setOther (by simp; omega) _), hid (h1.out.setOther (by simp) _), hid ((h2.out.set k (c k)).ext (fun i _ => cut_succ c k i)), hid (hb.out.setCell (by simp; omega) _)⟩
      case measure => simp [intOf]; omega
    · obtain rfl : k = 20 := by omega
      have h2' := hid (h2.out.ext (cut_all c))
      clear h2
      go_wp2_with (first | (refine wpList_load_row rfl 26 _ rfl (w.heap.size + 1 + 1) rfl 26 (fls c) (0, 0) _ h2'.out Try.underlying26 rfl (by rw [fls_size]; exact info_arr) ?_) | (refine wpList_store_row rfl 26 _ _ rfl (w.heap.size + 1) (fls c) rfl rfl 26 _ h1.out (by rw [fls_size]; exact info_arr) (by simp) (fls_one c) ?_))
      exact bodyPost_ret (results_cell_row rfl _ _ (w.heap.size + 1) 26 (fls c) (0, 0) _ rfl (h1.out.setRow c) Try.underlying26 rfl (by rw [fls_size]; exact info_arr)) rfl ⟨rfl, below_row hb.out (by omega) _⟩

theorem div_one_some {y m : Nat} {s : Bool} {e : Int} (h : D.read y = .number s m e) : ∃ q, floatBits .quo .f64 4607182418800017408 y = some q := by
  have h1 : D.read 4607182418800017408 = .number false 4503599627370496 (-52) := by decide
  show ∃ q, D.div 4607182418800017408 y = some q
  unfold Ieee.Format.div
  rw [h, h1]
  simp only [Ieee.Datum.quotient]
  by_cases hm : m = 0
  · rw [if_pos hm]; exact ⟨_, rfl⟩
  · rw [if_neg hm]; exact ⟨_, rfl⟩

set_option maxRecDepth 100000 in
theorem sameFloat (x : Nat) (hx : x < 4294967296) (h : finB x = true) (w : World) :
    Calls Try.prog 62 #[.float .f64 (wid x), .float .f64 (wid x)] w fun e w' => e = .returned (.bool true) ∧ w = w' := by
  obtain ⟨a, b, m, e, hr⟩ := read_wid_fin hx (finB_iff.1 h)
  have hn : (FloatKind.f64.format.order (wid x) (wid x) != some .eq) = false := by
    show (D.order (wid x) (wid x) != some .eq) = false
    rw [order_self hr]; rfl
  have hq : (FloatKind.f64.format.order (wid x) (wid x) == some .eq) = true := by
    show (D.order (wid x) (wid x) == some .eq) = true
    rw [order_self hr]; rfl
  obtain ⟨q, hd⟩ := div_one_some hr
  have hdiv := fun w => run_float_arith (P := Try.prog) w .quo 62 .f64 4607182418800017408 (wid x) q hd
  clear hd hr a b h hx
  rcases hz : (FloatKind.f64.format.order (wid x) 0 == some .eq) with _ | _
  · go_enter Try.func62, Try.ntmps62
    go_wp2
    go_ret
    exact ⟨by simp, rfl⟩
  · go_enter Try.func62, Try.ntmps62
    go_wp2
    go_ret
    exact ⟨by simp, rfl⟩

theorem back {P : Program} {f : FuncId} {args : Array Value} {w : World} {v : Value} (h : Calls P f args w fun e w' => e = .returned v ∧ w = w') : Calls P f args w fun e w' => e = .returned v ∧ w' = w :=
  h.mono fun _ _ ⟨a, b⟩ => ⟨a, b.symm⟩

set_option maxRecDepth 100000 in
theorem eqSizes (c : Nat → Nat) (hb : ∀ i, i < 20 → c i < 4294967296) (h : ∀ i, i < 20 → finB (c i) = true) (w : World) :
    Calls Try.prog 68 #[.agg (fls c), .agg (fls c)] w fun e w' => e = .returned (.bool true) ∧ Below w.heap.size w w' := by
  have b0 : Below w.heap.size w (w.alloc (.cells (fls c) 26)) := (Below.refl _ _).alloc (Nat.le_refl _) _
  have a0 := hid (arrAt.new w c 26)
  have H := hid h
  have HB := hid hb
  clear h hb
  go_enter Try.func68, Try.ntmps68
  go_wp2
  go_loopw [5] (fun i wr => ∃ k : Nat, k ≤ 20 ∧ i = .int .i64 k ∧ Hid (arrAt wr w.heap.size c 26) ∧ Hid (arrAt wr (w.heap.size + 1) c 26) ∧ Hid (Below w.heap.size w wr)) (fun i _ => 20 - (intOf i).toNat)
  case atStart =>
    refine ⟨0, by omega, rfl, hid (a0.out.alloc _), hid ?_, hid (b0.alloc (by simp) _)⟩
    have := arrAt.new (w.alloc (.cells (fls c) 26)) c 26
    have e : (w.alloc (.cells (fls c) 26)).heap.size = w.heap.size + 1 := by simp
    rw [e] at this
    exact this
  case round =>
    obtain ⟨k, hk, rfl, h0, h1, hb⟩ := hrel
    by_cases hlt : k < 20
    · have q0 := h0.out.cell hlt
      have q1 := h1.out.cell hlt
      have hc := fun w => run_conv_wid (P := Try.prog) w 24 62 (c k) (HB.out k hlt) Try.underlying24 Try.underlying62 (finB_iff.1 (H.out k hlt))
      go_wp2
      go_quiet ((go_at_call 62; exact Calls.quiet_of_same (back (sameFloat (c k) (HB.out k hlt) (H.out k hlt) _))))
      go_wp2
      go_roundw
      case rel => exact ⟨k + 1, by omega, by go_num, h0, h1, hid (below_drewN hb.out _)⟩
      case measure => simp [intOf]; omega
    · go_wp2
      go_ret
      exact ⟨rfl, hb.out⟩

def Amts (c : Nat → Nat) : Prop := ∀ i, i < 20 → amtB (c i) = true

def Fins (c : Nat → Nat) : Prop := ∀ i, i < 20 → finB (c i) = true

set_option maxRecDepth 100000 in
theorem iFinite_t (c : Nat → Nat) (hb : ∀ i, i < 20 → c i < 4294967296) (h : Fins c) (w : World) :
    Calls Try.prog 97 #[.agg (fls c)] w fun e w' => e = .returned (.tuple #[.agg (fls c), .int .i64 0]) ∧ Below w.heap.size w w' := by
  have A0 := hid ((arrAt.new w c 26).alloc (.cells (fls fun _ => 0) 26))
  have A1 := hid (new1 w (.cells (fls c) 26) (fun _ => 0) 26)
  have b0 := boxed2 w (.cells (fls c) 26) (.cells (fls fun _ => 0) 26)
  have HB := hid hb
  have H := hid h
  clear h hb
  go_enter Try.func97, Try.ntmps97
  go_wp2_with (refine wpList_load_row rfl 26 _ rfl (w.heap.size) rfl 26 (fls c) (0, 0) _ A0.out Try.underlying26 rfl (by rw [fls_size]; exact info_arr) ?_)
  go_loop [7] (fun i => ∃ k : Nat, k ≤ 20 ∧ i = .int .i64 k) (fun i => 20 - (intOf i).toNat)
  case atStart => exact ⟨0, by omega, rfl⟩
  case round =>
    obtain ⟨k, hk, rfl⟩ := hrel
    by_cases hlt : k < 20
    · have hix := ix 26 Try.underlying26 c k hlt
      go_wp2_with (go_at_call 106; refine (isFinite_t (c k) (HB.out k hlt) (H.out k hlt) _).mono ?_; rintro e w' ⟨rfl, rfl⟩)
      go_round
      case rel => exact ⟨k + 1, by omega, by go_num⟩
      case measure => simp [intOf]; omega
    · go_wp2_with (first | (refine wpList_load_row rfl 26 _ rfl (w.heap.size) rfl 26 (fls c) (0, 0) _ A0.out Try.underlying26 rfl (by rw [fls_size]; exact info_arr) ?_) | (refine wpList_store_row rfl 26 _ _ rfl (w.heap.size + 1) (fls c) rfl rfl 26 _ A1.out (by rw [fls_size]; exact info_arr) (by simp) (fls_one c) ?_))
      exact bodyPost_ret (results_row_tmp rfl _ _ (w.heap.size + 1) 26 (fls c) (0, 0) _ rfl (A1.out.setRow c) Try.underlying26 rfl (by rw [fls_size]; exact info_arr)) rfl ⟨rfl, below_row b0 (by simp) _⟩

set_option maxRecDepth 100000 in
theorem iFinite_f (c : Nat → Nat) (hb : ∀ i, i < 20 → c i < 4294967296) (h : ¬ Fins c) (w : World) :
    Calls Try.prog 97 #[.agg (fls c)] w fun e w' => e = .returned (.tuple #[.agg (fls fun _ => 0), .int .i64 4]) ∧ Below w.heap.size w w' := by
  have A0 := hid ((arrAt.new w c 26).alloc (.cells (fls fun _ => 0) 26))
  have A1 := hid (new1 w (.cells (fls c) 26) (fun _ => 0) 26)
  have b0 := boxed2 w (.cells (fls c) 26) (.cells (fls fun _ => 0) 26)
  have HB := hid hb
  have H := hid h
  clear h hb
  go_enter Try.func97, Try.ntmps97
  go_wp2_with (refine wpList_load_row rfl 26 _ rfl (w.heap.size) rfl 26 (fls c) (0, 0) _ A0.out Try.underlying26 rfl (by rw [fls_size]; exact info_arr) ?_)
  go_loop [7] (fun i => ∃ k : Nat, k ≤ 20 ∧ Hid (∀ i, i < k → finB (c i) = true) ∧ i = .int .i64 k) (fun i => 20 - (intOf i).toNat)
  case atStart => exact ⟨0, by omega, hid (fun i hi => by omega), rfl⟩
  case round =>
    obtain ⟨k, hk, HK, rfl⟩ := hrel
    by_cases hlt : k < 20
    · have hix := ix 26 Try.underlying26 c k hlt
      rcases hac : finB (c k) with _ | _
      · have HA := hid hac
        clear hac
        go_wp2_with (fail)
        refine (isFinite_f (c k) (HB.out k hlt) HA.out _).mono ?_
        rintro e w1 ⟨rfl, hb1⟩
        have A2 := hid (A1.out.stay hb1)
        have b1 := stp b0 (Nat.le_refl _) hb1
        go_wp2_with (refine wpList_store_row rfl 26 _ _ rfl (w.heap.size + 1) (fls (fun _ => 0)) rfl rfl 26 _ A2.out (by rw [fls_size]; exact info_arr) (by simp) (fls_one (fun _ => 0)) ?_)
        exact bodyPost_ret (results_row_tmp rfl _ _ (w.heap.size + 1) 26 (fls (fun _ => 0)) (0, 0) _ rfl (A2.out.setRow (fun _ => 0)) Try.underlying26 rfl (by rw [fls_size]; exact info_arr)) rfl ⟨rfl, below_row b1 (by simp) _⟩
      · have HA := hid hac
        clear hac
        go_wp2_with (go_at_call 106; refine (isFinite_t (c k) (HB.out k hlt) HA.out _).mono ?_; rintro e w' ⟨rfl, rfl⟩)
        go_round
        case rel =>
          refine ⟨k + 1, by omega, hid (fun i hi => ?_), by go_num⟩
          by_cases e : i = k
          · subst e; exact HA.out
          · exact HK.out i (by omega)
        case measure => simp [intOf]; omega
    · have hk20 : k = 20 := by omega
      exact (H.out (fun i hi => HK.out i (by omega))).elim

set_option maxRecDepth 100000 in
theorem sMade_t (c : Nat → Nat) (hb : ∀ i, i < 20 → c i < 4294967296) (h : Fins c) (w : World) :
    Calls Try.prog 134 #[.agg (fls c)] w fun e w' => e = .returned (.tuple #[.agg (fls c), .int .i64 0]) ∧ Below w.heap.size w w' := by
  have A0 := hid ((arrAt.new w c 26).alloc (.cells (fls fun _ => 0) 26))
  have A1 := hid (new1 w (.cells (fls c) 26) (fun _ => 0) 26)
  have b0 := boxed2 w (.cells (fls c) 26) (.cells (fls fun _ => 0) 26)
  have HB := hid hb
  have H := hid h
  clear h hb
  go_enter Try.func134, Try.ntmps134
  go_wp2
  go_loop [4] (fun i => ∃ k : Nat, k ≤ 20 ∧ i = .int .i64 k) (fun i => 20 - (intOf i).toNat)
  case atStart => exact ⟨0, by omega, rfl⟩
  case round =>
    obtain ⟨k, hk, rfl⟩ := hrel
    by_cases hlt : k < 20
    · have hix := A0.out.cell hlt
      go_wp2_with (go_at_call 110; refine (sFinite_t (c k) (HB.out k hlt) (H.out k hlt) _).mono ?_; rintro e w' ⟨rfl, rfl⟩)
      go_round
      case rel => exact ⟨k + 1, by omega, by go_num⟩
      case measure => simp [intOf]; omega
    · go_wp2_with (first | (refine wpList_load_row rfl 26 _ rfl (w.heap.size) rfl 26 (fls c) (0, 0) _ A0.out Try.underlying26 rfl (by rw [fls_size]; exact info_arr) ?_) | (refine wpList_store_row rfl 26 _ _ rfl (w.heap.size + 1) (fls c) rfl rfl 26 _ A1.out (by rw [fls_size]; exact info_arr) (by simp) (fls_one c) ?_))
      exact bodyPost_ret (results_row_tmp rfl _ _ (w.heap.size + 1) 26 (fls c) (0, 0) _ rfl (A1.out.setRow c) Try.underlying26 rfl (by rw [fls_size]; exact info_arr)) rfl ⟨rfl, below_row b0 (by simp) _⟩

set_option maxRecDepth 100000 in
theorem sMade_f (c : Nat → Nat) (hb : ∀ i, i < 20 → c i < 4294967296) (h : ¬ Fins c) (w : World) :
    Calls Try.prog 134 #[.agg (fls c)] w fun e w' => e = .returned (.tuple #[.agg (fls fun _ => 0), .int .i64 4]) ∧ Below w.heap.size w w' := by
  have A0 := hid ((arrAt.new w c 26).alloc (.cells (fls fun _ => 0) 26))
  have A1 := hid (new1 w (.cells (fls c) 26) (fun _ => 0) 26)
  have b0 := boxed2 w (.cells (fls c) 26) (.cells (fls fun _ => 0) 26)
  have HB := hid hb
  have H := hid h
  clear h hb
  go_enter Try.func134, Try.ntmps134
  go_wp2
  go_loop [4] (fun i => ∃ k : Nat, k ≤ 20 ∧ Hid (∀ i, i < k → finB (c i) = true) ∧ i = .int .i64 k) (fun i => 20 - (intOf i).toNat)
  case atStart => exact ⟨0, by omega, hid (fun i hi => by omega), rfl⟩
  case round =>
    obtain ⟨k, hk, HK, rfl⟩ := hrel
    by_cases hlt : k < 20
    · have hix := A0.out.cell hlt
      rcases hac : finB (c k) with _ | _
      · have HA := hid hac
        clear hac
        go_wp2_with (fail)
        refine (sFinite_f (c k) (HB.out k hlt) HA.out _).mono ?_
        rintro e w1 ⟨rfl, hb1⟩
        have A2 := hid (A1.out.stay hb1)
        have b1 := stp b0 (Nat.le_refl _) hb1
        go_wp2_with (refine wpList_store_row rfl 26 _ _ rfl (w.heap.size + 1) (fls (fun _ => 0)) rfl rfl 26 _ A2.out (by rw [fls_size]; exact info_arr) (by simp) (fls_one (fun _ => 0)) ?_)
        exact bodyPost_ret (results_row_tmp rfl _ _ (w.heap.size + 1) 26 (fls (fun _ => 0)) (0, 0) _ rfl (A2.out.setRow (fun _ => 0)) Try.underlying26 rfl (by rw [fls_size]; exact info_arr)) rfl ⟨rfl, below_row b1 (by simp) _⟩
      · have HA := hid hac
        clear hac
        go_wp2_with (go_at_call 110; refine (sFinite_t (c k) (HB.out k hlt) HA.out _).mono ?_; rintro e w' ⟨rfl, rfl⟩)
        go_round
        case rel =>
          refine ⟨k + 1, by omega, hid (fun i hi => ?_), by go_num⟩
          by_cases e : i = k
          · subst e; exact HA.out
          · exact HK.out i (by omega)
        case measure => simp [intOf]; omega
    · have hk20 : k = 20 := by omega
      exact (H.out (fun i hi => HK.out i (by omega))).elim

/-- Sizes that would be returned, by either program, are told alike. -/
theorem iFinite (c : Nat → Nat) (hb : ∀ i, i < 20 → c i < 4294967296) (d : Nat → Nat) (n : Int) (h1 : Fins c → d = c ∧ n = 0) (h2 : ¬ Fins c → d = (fun _ => 0) ∧ n = 4) (w : World) :
    Calls Try.prog 97 #[.agg (fls c)] w fun e w' => e = .returned (.tuple #[.agg (fls d), .int .i64 n]) ∧ Below w.heap.size w w' := by
  by_cases h : Fins c
  · obtain ⟨rfl, rfl⟩ := h1 h; exact iFinite_t _ hb h w
  · obtain ⟨rfl, rfl⟩ := h2 h; exact iFinite_f _ hb h w

theorem sMade (c : Nat → Nat) (hb : ∀ i, i < 20 → c i < 4294967296) (d : Nat → Nat) (n : Int) (h1 : Fins c → d = c ∧ n = 0) (h2 : ¬ Fins c → d = (fun _ => 0) ∧ n = 4) (w : World) :
    Calls Try.prog 134 #[.agg (fls c)] w fun e w' => e = .returned (.tuple #[.agg (fls d), .int .i64 n]) ∧ Below w.heap.size w w' := by
  by_cases h : Fins c
  · obtain ⟨rfl, rfl⟩ := h1 h; exact sMade_t _ hb h w
  · obtain ⟨rfl, rfl⟩ := h2 h; exact sMade_f _ hb h w

theorem zf : Fins (fun _ => 0) := fun _ _ => (by decide : finB 0 = true)

theorem zl : ∀ i, i < 20 → (fun _ : Nat => 0) i < 4294967296 := fun _ _ => (by decide : 0 < 4294967296)

theorem loose {P : Program} {f : FuncId} {args : Array Value} {w : World} {v : Value} (h : Calls P f args w fun e w' => e = .returned v ∧ w = w') : Calls P f args w fun e w' => e = .returned v ∧ Below w.heap.size w w' :=
  h.mono fun _ _ ⟨a, b⟩ => ⟨a, b ▸ Below.refl _ _⟩

theorem alloc_sizes (a : Operand → Value) (d : Option Tmp) (t : TypeId) (ps : String) (af : Array Edge) (gd : Option (Nat × Bool)) (w : World) :
    (execOp a ⟨d, .alloc 26, t, ps, af, gd⟩).run Try.prog w = .ok (.value (.pointer (some ⟨w.heap.size, 0, none⟩))) (w.alloc (.cells (fls fun _ => 0) 26)) := by
  unfold execOp
  go_simp

theorem alloc_air (a : Operand → Value) (d : Option Tmp) (t : TypeId) (ps : String) (af : Array Edge) (gd : Option (Nat × Bool)) (w : World) :
    (execOp a ⟨d, .alloc 44, t, ps, af, gd⟩).run Try.prog w = .ok (.value (.pointer (some ⟨w.heap.size, 0, none⟩))) (w.alloc (.cells (#[.float .f32 0, .float .f32 0]) 44)) := by
  unfold execOp
  go_simp

theorem run_toSizes1 (a : Act) (x0 : Operand) (v0 : Value) (h0 : a.eval x0 = v0) (d : Option Tmp) (ats : Array TypeId) (t : TypeId) (ps : String) (af : Array Edge) (gd : Option (Nat × Bool)) (w : World) :
    (execOp a.eval ⟨d, .call { callee := .value (.func 58), args := #[x0], argTypes := ats }, t, ps, af, gd⟩).run Try.prog w = .ok (.enter 58 #[v0]) w := by
  subst h0
  unfold execOp
  go_simp

theorem run_toAir1 (a : Act) (x0 : Operand) (v0 : Value) (h0 : a.eval x0 = v0) (d : Option Tmp) (ats : Array TypeId) (t : TypeId) (ps : String) (af : Array Edge) (gd : Option (Nat × Bool)) (w : World) :
    (execOp a.eval ⟨d, .call { callee := .value (.func 75), args := #[x0], argTypes := ats }, t, ps, af, gd⟩).run Try.prog w = .ok (.enter 75 #[v0]) w := by
  subst h0
  unfold execOp
  go_simp

theorem info_air : (Try.prog.info? 44).map (·.size) = some 2 := by kernel_rfl

theorem info_lair : (Try.prog.info? 70).map (·.size) = some 2 := by kernel_rfl

def fltOf : Value → Nat
  | .float _ b => b
  | _ => 0

set_option maxRecDepth 100000 in
theorem toAir (h v : Nat) (w : World) :
    Calls Try.prog 75 #[.agg #[.float .f32 h, .float .f32 v]] w fun e w' => e = .returned (.agg #[.float .f32 h, .float .f32 v]) ∧ Below w.heap.size w w' := by
  have k0 : Hid (Kept w [(w.heap.size + 1, #[.float .f32 h, .float .f32 v], 44)] (((w.alloc (.cells #[.float .f32 h, .float .f32 v] 70)).alloc (.cells #[.float .f32 h, .float .f32 v] 44)).alloc (.cells #[.float .f32 h, .float .f32 v] 44))) := hid (((((Kept.nil w).push _ _).push _ _).push _ _).sub (by simp))
  go_enter Try.func75, Try.ntmps75
  go_wp2
  exact bodyPost_ret (results_cell_row rfl _ _ (w.heap.size + 1) 44 #[.float .f32 h, .float .f32 v] (0, 0) _ rfl (k0.out.at (x := (w.heap.size + 1, #[.float .f32 h, .float .f32 v], 44)) (by simp)) Try.underlying44 rfl info_air) rfl ⟨rfl, k0.out.1⟩

set_option maxRecDepth 100000 in
theorem eqAir (h v : Nat) (hh : h < 4294967296) (hv : v < 4294967296) (fh : finB h = true) (fv : finB v = true) (w : World) :
    Calls Try.prog 84 #[.agg #[.float .f32 h, .float .f32 v], .agg #[.float .f32 h, .float .f32 v]] w fun e w' => e = .returned (.bool true) ∧ Below w.heap.size w w' := by
  have hc0 := fun w => run_conv_wid (P := Try.prog) w 24 62 h hh Try.underlying24 Try.underlying62 (finB_iff.1 fh)
  have hc1 := fun w => run_conv_wid (P := Try.prog) w 24 62 v hv Try.underlying24 Try.underlying62 (finB_iff.1 fv)
  have Hh := hid hh
  have Hv := hid hv
  have Fh := hid fh
  have Fv := hid fv
  have b0 := boxed2 w (.cells #[.float .f32 h, .float .f32 v] 44) (.cells #[.float .f32 h, .float .f32 v] 44)
  clear hh hv fh fv
  go_enter Try.func84, Try.ntmps84
  go_wp2_with fail
  refine (sameFloat h Hh.out Fh.out _).mono ?_
  rintro e w1 ⟨rfl, rfl⟩
  go_wp2_with fail
  refine (sameFloat v Hv.out Fv.out _).mono ?_
  rintro e w1 ⟨rfl, rfl⟩
  go_wp2
  go_ret
  exact ⟨rfl, b0⟩

theorem iHeat (x : Nat) (q : Bool) (hq : heatB x = q) (w : World) :
    Calls Try.prog 118 #[.float .f32 x] w fun e w' => e = .returned (.bool q) ∧ w = w' := by
  have h1 : heatB x = ((FloatKind.f32.format.order x 3262119936 == some .gt || FloatKind.f32.format.order x 3262119936 == some .eq) && (FloatKind.f32.format.order x 1114636288 == some .lt || FloatKind.f32.format.order x 1114636288 == some .eq)) := rfl
  rw [h1] at hq
  clear h1
  rcases a : (FloatKind.f32.format.order x 3262119936 == some .gt || FloatKind.f32.format.order x 3262119936 == some .eq) with _ | _
  · rw [a] at hq
    simp only [Bool.false_and] at hq
    subst hq
    go_enter Try.func118, Try.ntmps118
    go_wp2
    go_ret
    exact ⟨rfl, rfl⟩
  · rw [a] at hq
    simp only [Bool.true_and] at hq
    cases q
    all_goals
      go_enter Try.func118, Try.ntmps118
      go_wp2
      go_ret
      exact ⟨rfl, rfl⟩

theorem sHeat (x : Nat) (q : Bool) (hq : heatB x = q) (w : World) :
    Calls Try.prog 140 #[.float .f32 x] w fun e w' => e = .returned (.bool q) ∧ w = w' := by
  have h1 : heatB x = ((FloatKind.f32.format.order x 3262119936 == some .gt || FloatKind.f32.format.order x 3262119936 == some .eq) && (FloatKind.f32.format.order x 1114636288 == some .lt || FloatKind.f32.format.order x 1114636288 == some .eq)) := rfl
  rw [h1] at hq
  clear h1
  rcases a : (FloatKind.f32.format.order x 3262119936 == some .gt || FloatKind.f32.format.order x 3262119936 == some .eq) with _ | _
  · rw [a] at hq
    simp only [Bool.false_and] at hq
    subst hq
    go_enter Try.func140, Try.ntmps140
    go_wp2
    go_ret
    exact ⟨rfl, rfl⟩
  · rw [a] at hq
    simp only [Bool.true_and] at hq
    cases q
    all_goals
      go_enter Try.func140, Try.ntmps140
      go_wp2
      go_ret
      exact ⟨rfl, rfl⟩

set_option maxRecDepth 100000 in
theorem iValidAir (h v : Nat) (hv : v < 4294967296) (q : Bool) (hq : airB h v = q) (w : World) :
    Calls Try.prog 52 #[.agg #[.float .f32 h, .float .f32 v]] w fun e w' => e = .returned (.bool q) ∧ Below w.heap.size w w' := by
  have b0 := boxed w (.cells #[.float .f32 h, .float .f32 v] 44)
  have Hv := hid hv
  have e1 : airB h v = (heatB h && amtB v && vapB v) := rfl
  rw [e1] at hq
  clear hv e1
  rcases a : heatB h with _ | _
  · have Ha := hid a
    rw [a] at hq
    simp only [Bool.false_and] at hq
    subst hq
    clear a
    go_enter Try.func52, Try.ntmps52
    go_wp2_with fail
    refine (iHeat h false Ha.out _).mono ?_
    rintro e w1 ⟨rfl, rfl⟩
    go_wp2
    go_ret
    exact ⟨rfl, b0⟩
  · have Ha := hid a
    rw [a] at hq
    clear a
    rcases b : amtB v with _ | _
    · have Hb := hid b
      rw [b] at hq
      simp only [Bool.and_false, Bool.false_and] at hq
      subst hq
      clear b
      go_enter Try.func52, Try.ntmps52
      go_wp2_with fail
      refine (iHeat h true Ha.out _).mono ?_
      rintro e w1 ⟨rfl, rfl⟩
      go_wp2_with fail
      refine (isAmount_f v Hv.out Hb.out _).mono ?_
      rintro e w1 ⟨rfl, hb1⟩
      go_wp2
      go_ret
      exact ⟨rfl, stp b0 (Nat.le_refl _) hb1⟩
    · have Hb := hid b
      rw [b] at hq
      simp only [Bool.true_and] at hq
      have hc : (FloatKind.f32.format.order v 1148846080 == some .lt || FloatKind.f32.format.order v 1148846080 == some .eq) = q := hq
      clear b hq
      cases q
      all_goals
        go_enter Try.func52, Try.ntmps52
        go_wp2_with fail
        refine (iHeat h true Ha.out _).mono ?_
        rintro e w1 ⟨rfl, rfl⟩
        go_wp2_with fail
        refine (isAmount_t v Hb.out _).mono ?_
        rintro e w1 ⟨rfl, rfl⟩
        go_wp2
        go_ret
        exact ⟨rfl, b0⟩

set_option maxRecDepth 100000 in
theorem sAirOk_f (h v : Nat) (hv : v < 4294967296) (hq : airB h v = false) (w : World) (g : Nat) (T : TypeId) (hg : airAt w g h v T) :
    Calls Try.prog 113 #[.pointer (some ⟨g, 0, none⟩)] w fun e w' => e = .returned (.bool false) ∧ Below w.heap.size w w' := by
  have c0 := hg.c0
  have c1 := hg.c1
  have Hv := hid hv
  have e1 : airB h v = (heatB h && amtB v && vapB v) := rfl
  rw [e1] at hq
  clear hv e1 hg
  rcases a : heatB h with _ | _
  · have Ha := hid a
    clear a hq
    go_enter Try.func113, Try.ntmps113
    go_wp2_with fail
    refine (sHeat h false Ha.out _).mono ?_
    rintro e w1 ⟨rfl, rfl⟩
    go_wp2
    go_ret
    exact ⟨rfl, Below.refl _ _⟩
  · have Ha := hid a
    rw [a] at hq
    clear a
    rcases b : amtB v with _ | _
    · have Hb := hid b
      clear b hq
      go_enter Try.func113, Try.ntmps113
      go_wp2_with fail
      refine (sHeat h true Ha.out _).mono ?_
      rintro e w1 ⟨rfl, rfl⟩
      go_wp2_with fail
      refine (sAmount_f v Hv.out Hb.out _).mono ?_
      rintro e w1 ⟨rfl, hb1⟩
      go_wp2
      go_ret
      exact ⟨rfl, hb1⟩
    · have Hb := hid b
      rw [b] at hq
      simp only [Bool.true_and] at hq
      have hc : (FloatKind.f32.format.order v 1148846080 == some .lt || FloatKind.f32.format.order v 1148846080 == some .eq) = false := hq
      clear b hq
      go_enter Try.func113, Try.ntmps113
      go_wp2_with fail
      refine (sHeat h true Ha.out _).mono ?_
      rintro e w1 ⟨rfl, rfl⟩
      go_wp2_with fail
      refine (sAmount_t v Hb.out _).mono ?_
      rintro e w1 ⟨rfl, rfl⟩
      go_wp2
      go_ret
      exact ⟨rfl, Below.refl _ _⟩

set_option maxRecDepth 100000 in
theorem sAirOk_t (h v : Nat) (hq : airB h v = true) (w : World) (g : Nat) (T : TypeId) (hg : airAt w g h v T) :
    Calls Try.prog 113 #[.pointer (some ⟨g, 0, none⟩)] w fun e w' => e = .returned (.bool true) ∧ w = w' := by
  have c0 := hg.c0
  have c1 := hg.c1
  obtain ⟨a, b, c⟩ := airB_iff.1 hq
  have hc : (FloatKind.f32.format.order v 1148846080 == some .lt || FloatKind.f32.format.order v 1148846080 == some .eq) = true := c
  have Ha := hid a
  have Hb := hid b
  clear a b c hq hg
  go_enter Try.func113, Try.ntmps113
  go_wp2_with fail
  refine (sHeat h true Ha.out _).mono ?_
  rintro e w1 ⟨rfl, rfl⟩
  go_wp2_with fail
  refine (sAmount_t v Hb.out _).mono ?_
  rintro e w1 ⟨rfl, rfl⟩
  go_wp2
  go_ret
  exact ⟨rfl, rfl⟩

theorem sAirOk (h v : Nat) (hv : v < 4294967296) (q : Bool) (hq : airB h v = q) (w : World) (g : Nat) (T : TypeId) (hg : airAt w g h v T) :
    Calls Try.prog 113 #[.pointer (some ⟨g, 0, none⟩)] w fun e w' => e = .returned (.bool q) ∧ Below w.heap.size w w' := by
  cases q
  · exact sAirOk_f h v hv hq w g T hg
  · exact loose (sAirOk_t h v hq w g T hg)

theorem ext_floor (X K : Nat) (h : D.write ((D.read X).integral .down) = K) (hn : ∃ s m e, D.read X = .number s m e) (w : World) : (callFunc 173 #[.float .f64 X]).run Try.prog w = .ok (.value (.float .f64 K)) w := by
  rw [run_callFunc_extern Try.func173 (by kernel_rfl) (by kernel_rfl) (by kernel_rfl) (e := Extern.MathFloor.toIntegral "math.archFloor" .down) (by kernel_rfl)]
  obtain ⟨s, m, e, hr⟩ := hn
  have hr' : FloatKind.f64.decode X = .number s m e := hr
  rw [hr] at h
  have h' : FloatKind.f64.encode ((Ieee.Datum.number s m e).integral .down) = K := h
  have e2 : (Extern.MathFloor.toIntegral "math.archFloor" .down #[.float .f64 X]).run Try.prog w = .ok (.float .f64 K) w := by
    rw [← h']
    show Sem.run _ (match FloatKind.f64.decode X with | .nan _ _ => _ | d => (pure (Value.float .f64 (FloatKind.f64.encode (d.integral .down))) : Sem Value)) w = _
    rw [hr']
    rfl
  rw [e2]
  rfl

theorem floor_f64 (X K : Nat) (h : D.write ((D.read X).integral .down) = K) (hn : ∃ s m e, D.read X = .number s m e) (w : World) :
    Calls Try.prog 166 #[.float .f64 X] w fun e w' => e = .returned (.float .f64 K) ∧ w = w' := by
  have hx := fun w => ext_floor X K h hn w
  clear h hn
  go_enter Try.func166, Try.ntmps166
  go_wp2
  go_ret
  exact ⟨rfl, rfl⟩

theorem normalize_f64 (y : Nat) (h0 : 4503599627370496 ≤ y) (h1 : y < 9218868437227405312) (w : World) :
    Calls Try.prog 180 #[.float .f64 y] w fun e w' => e = .returned (.tuple #[.float .f64 y, .int .i64 0]) ∧ w = w' := by
  have hl := hid (show y < 18446744073709551616 by omega)
  have hm : y % 9223372036854775808 = y := Nat.mod_eq_of_lt (by omega)
  have hc : (FloatKind.f64.format.order y 4503599627370496 == some .lt) = false := by
    show (D.order y 4503599627370496 == some .lt) = false
    rw [order_ltD (by rw [DINF_val]; omega) (by rw [DINF_val]; decide)]
    rcases Nat.lt_or_eq_of_le h0 with h | h
    · rw [Nat.compare_eq_gt.2 h]; rfl
    · rw [Nat.compare_eq_eq.2 h.symm]; rfl
  have Hm := hid hm
  clear h0 h1 hm
  go_enter Try.func180, Try.ntmps180
  go_wp2_with fail
  refine (abs_f64 y hl.out _).mono ?_
  rintro e w1 ⟨rfl, rfl⟩
  rw [Hm.out]
  go_wp2
  go_ret2
  exact ⟨rfl, rfl⟩

theorem mul_ONE {r : Nat} (h : r < DINF) : D.mul 4607182418800017408 r = some r := by
  obtain ⟨m1, m2⟩ := mul_eqD (x := 4607182418800017408) (y := r) (by decide) (amtB_iffD.2 h)
  rw [m1, fmul_valD (by rw [DINF_val]; decide) h]
  refine congrArg some (Eq.trans (nearest_congrD (m' := valD r) (E := -1074) (E' := 0) 0 VONED (by have := VONED_val; omega) ?_) (nearest_valD h))
  rw [val_ONED, Nat.pow_zero, Nat.mul_one, Nat.mul_comm]

set_option maxRecDepth 100000 in
theorem ldexp_f64 (y : Nat) (n : Int) (h0 : 4607182418800017408 ≤ y) (h1 : y < 4688246992172703744) (t : Int) (R : Nat) (E : Exps y n t R) (hRf : R < DINF) (hn : -100 ≤ n) (hn2 : n ≤ 100) (w : World) :
    Calls Try.prog 176 #[.float .f64 y, .int .i64 n] w fun e w' => e = .returned (.float .f64 R) ∧ w = w' := by
  have hy0 : (FloatKind.f64.format.order y 0 == some .eq) = false := by
    show (D.order y 0 == some .eq) = false
    rw [order_ltD (by rw [DINF_val]; omega) (by rw [DINF_val]; decide), Nat.compare_eq_gt.2 (by omega)]; rfl
  have hl := hid (show y < 18446744073709551616 by omega)
  have hn1 := hid (show 4503599627370496 ≤ y by omega)
  have hn3 := hid (show y < 9218868437227405312 by omega)
  have hi := hid (show (FloatKind.f64.format.order (y % 9223372036854775808) 9218868437227405311 == some .gt) = false by
    rw [Nat.mod_eq_of_lt (by omega)]
    show (D.order y 9218868437227405311 == some .gt) = false
    rw [order_ltD (by rw [DINF_val]; omega) (by rw [DINF_val]; decide), Nat.compare_eq_lt.2 (by omega)]; rfl)
  have hq := hid (show (FloatKind.f64.format.order y y != some .eq) = false by
    show (D.order y y != some .eq) = false
    rw [order_ltD (by rw [DINF_val]; omega) (by rw [DINF_val]; omega), Nat.compare_eq_eq.2 rfl]; rfl)
  have hm := fun w => run_float_arith (P := Try.prog) w .mul 62 .f64 4607182418800017408 R R (mul_ONE hRf)
  obtain ⟨ht, d1, d2, d3, hR⟩ := E
  clear h0 h1 hRf
  go_enter Try.func176, Try.ntmps176
  go_wp2_with fail
  refine (isInf_f64 y hl.out _).mono ?_
  rintro e w1 ⟨rfl, rfl⟩
  rw [hi.out]
  go_wp2_with fail
  refine (isNaN_f64 y _).mono ?_
  rintro e w1 ⟨rfl, rfl⟩
  rw [hq.out]
  go_wp2_with fail
  refine (normalize_f64 y hn1.out hn3.out _).mono ?_
  rintro e w1 ⟨rfl, rfl⟩
  go_wp2
  go_ret
  exact ⟨rfl, rfl⟩

theorem Ldexp_f64 (y : Nat) (n : Int) (h0 : 4607182418800017408 ≤ y) (h1 : y < 4688246992172703744) (t : Int) (R : Nat) (E : Exps y n t R) (hRf : R < DINF) (hn : -100 ≤ n) (hn2 : n ≤ 100) (w : World) :
    Calls Try.prog 167 #[.float .f64 y, .int .i64 n] w fun e w' => e = .returned (.float .f64 R) ∧ w = w' := by
  have H0 := hid h0
  have H1 := hid h1
  have HE := hid E
  have HR := hid hRf
  have HN := hid hn
  have HN2 := hid hn2
  clear h0 h1 E hRf hn hn2
  go_enter Try.func167, Try.ntmps167
  go_wp2_with fail
  refine (ldexp_f64 y n H0.out H1.out t R HE.out HR.out HN.out HN2.out _).mono ?_
  rintro e w1 ⟨rfl, rfl⟩
  go_wp2
  go_ret
  exact ⟨rfl, rfl⟩

set_option maxRecDepth 100000 in
theorem iTwo (x j : Nat) (hx : x < 4294967296) (hf : finB x = true) (T : TwoF x j) (hj : j ≤ 100) (w : World) :
    Calls Try.prog 138 #[.float .f32 x] w fun e w' => e = .returned (.float .f32 (two x)) ∧ w = w' := by
  have hc := fun w => run_conv_wid (P := Try.prog) w 24 62 x hx Try.underlying24 Try.underlying62 (finB_iff.1 hf)
  have hs := fun w => run_float_arith (P := Try.prog) w .sub 62 .f64 _ _ _ T.sub
  have hm := fun w => run_float_arith (P := Try.prog) w .mul 62 .f64 _ _ _ T.mul
  have hi := fun w => run_convert_float_int (P := Try.prog) w 62 3 .f64 .i64 (kF x) (iF x) (by rw [Try.underlying62]; rfl) Try.underlying3 (iF_conv T hj)
  have ho := fun w => run_convert_float_float (P := Try.prog) w 62 24 .f64 .f32 (rF x) (two x) (by rw [Try.underlying62]; rfl) Try.underlying24 (two_bounds T hj).2.2
  have E := exps T.s1 T.s2 (iF_bd T hj).1 (iF_bd T hj).2
  rw [rF_word T hj] at E
  have HE := hid E
  have HT := hid T
  have HJ := hid hj
  clear hx hf T hj E
  go_enter Try.func138, Try.ntmps138
  go_wp2_with fail
  refine (floor_f64 (wid x) (kF x) HT.out.fl HT.out.num _).mono ?_
  rintro e w1 ⟨rfl, rfl⟩
  go_wp2_with fail
  go_loop [5, 6] (fun s i => ∃ m : Nat, m ≤ 14 ∧ i = .int .i64 m ∧ s = .float .f64 (ser (yF x) (14 - m))) (fun _ i => (intOf i).toNat)
  case atStart => exact ⟨14, by omega, rfl, rfl⟩
  case round =>
    obtain ⟨m, hm14, rfl, rfl⟩ := hrel
    by_cases h1 : 1 ≤ m
    · obtain ⟨q, p, s⟩ := term2 HT.out.y h1 hm14
      have q1 := fun w => run_float_arith (P := Try.prog) w .quo 62 .f64 _ _ _ q
      have q2 := fun w => run_float_arith (P := Try.prog) w .mul 62 .f64 _ _ _ p
      have q3 := fun w => run_float_arith (P := Try.prog) w .add 62 .f64 _ _ _ s
      clear q p s
      go_wp2
      go_round
      case rel => exact ⟨m - 1, by omega, by rw [show ((m - 1 : Nat) : Int) = (m : Int) - 1 by omega], rfl⟩
      case measure => simp [intOf]; omega
    · obtain rfl : m = 0 := by omega
      clear hs hm
      have hS : ser (yF x) (14 - 0) = sF x := rfl
      rw [hS]
      clear hS
      go_wp2_with fail
      refine (Ldexp_f64 (sF x) (iF x) HT.out.s1 HT.out.s2 _ (rF x) HE.out (rF_lt HT.out HJ.out) (iF_bd HT.out HJ.out).1 (iF_bd HT.out HJ.out).2 _).mono ?_
      rintro e w1 ⟨rfl, rfl⟩
      go_wp2
      go_ret
      exact ⟨rfl, rfl⟩

theorem s_pos {x j i : Nat} (T : TwoF x j) (hj : j ≤ 100) (hi : i < nF x) : D.mul (sF x + i * 4503599627370496) 4611686018427387904 = some (sF x + (i + 1) * 4503599627370496) := by
  have h := dbl (s := sF x + i * 4503599627370496) (by have := T.s1; omega) (by have := T.s2; have := T.n; rw [DINF_val]; omega)
  rw [h, Nat.add_mul i 1, Nat.one_mul, Nat.add_assoc]

theorem s_neg {x j i : Nat} (T : TwoF x j) (hj : j ≤ 100) (hi : i < nF x) : D.div (sF x - i * 4503599627370496) 4611686018427387904 = some (sF x - (i + 1) * 4503599627370496) := by
  have h := hlv (s := sF x - i * 4503599627370496) (by have := T.s1; have := T.n; omega) (by have := T.s2; rw [DINF_val]; omega)
  rw [h, Nat.add_mul i 1, Nat.one_mul, Nat.sub_sub]

set_option maxRecDepth 100000 in
set_option maxHeartbeats 1000000 in
theorem sTwo (x j : Nat) (hx : x < 4294967296) (hf : finB x = true) (T : TwoF x j) (hj : j ≤ 100) (w : World) :
    Calls Try.prog 137 #[.float .f32 x] w fun e w' => e = .returned (.float .f32 (two x)) ∧ w = w' := by
  have hc := fun w => run_conv_wid (P := Try.prog) w 24 62 x hx Try.underlying24 Try.underlying62 (finB_iff.1 hf)
  have hs := fun w => run_float_arith (P := Try.prog) w .sub 62 .f64 _ _ _ T.sub
  have hm := fun w => run_float_arith (P := Try.prog) w .mul 62 .f64 _ _ _ T.mul
  have ho := fun w => run_convert_float_float (P := Try.prog) w 62 24 .f64 .f32 (rF x) (two x) (by rw [Try.underlying62]; rfl) Try.underlying24 (two_bounds T hj).2.2
  have hn := hid (show nF x ≤ 100 by have := T.n; omega)
  have HT := hid T
  have HJ := hid hj
  have hk : kF x = kW (sgB x) (nF x) := rfl
  have hr : rF x = if sgB x = true then sF x - nF x * 4503599627370496 else sF x + nF x * 4503599627370496 := rfl
  have HK := hid hk
  have HR := hid hr
  clear hx hf T hj hk hr
  go_enter Try.func137, Try.ntmps137
  go_wp2_with fail
  refine (floor_f64 (wid x) (kF x) HT.out.fl HT.out.num _).mono ?_
  rintro e w1 ⟨rfl, rfl⟩
  go_wp2_with fail
  go_loop [5, 6] (fun s i => ∃ m : Nat, m ≤ 14 ∧ i = .int .i64 m ∧ s = .float .f64 (ser (yF x) (14 - m))) (fun _ i => (intOf i).toNat)
  case atStart => exact ⟨14, by omega, rfl, rfl⟩
  case round =>
    obtain ⟨m, hm14, rfl, rfl⟩ := hrel
    by_cases h1 : 1 ≤ m
    · obtain ⟨q, p, s⟩ := term2 HT.out.y h1 hm14
      have q1 := fun w => run_float_arith (P := Try.prog) w .quo 62 .f64 _ _ _ q
      have q2 := fun w => run_float_arith (P := Try.prog) w .mul 62 .f64 _ _ _ p
      have q3 := fun w => run_float_arith (P := Try.prog) w .add 62 .f64 _ _ _ s
      clear q p s
      go_wp2
      go_round
      case rel => exact ⟨m - 1, by omega, by rw [show ((m - 1 : Nat) : Int) = (m : Int) - 1 by omega], rfl⟩
      case measure => simp [intOf]; omega
    · obtain rfl : m = 0 := by omega
      clear hs hm
      have hS : ser (yF x) (14 - 0) = sF x := rfl
      rw [hS]
      clear hS
      rcases hsg : sgB x with _ | _
      · have hk0 : kF x = kW false (nF x - 0) := by rw [HK.out, hsg]; rfl
        have hr0 := HR.out
        rw [hsg, if_neg (by decide)] at hr0
        have HR0 := hid hr0
        rw [hk0]
        clear hr0 hsg hk0
        go_wp2
        go_loop [3, 5] (fun k s => ∃ i : Nat, i ≤ nF x ∧ k = .float .f64 (kW false (nF x - i)) ∧ s = .float .f64 (sF x + i * 4503599627370496)) (fun k _ => fltOf k)
        case atStart => exact ⟨0, by omega, rfl, by simp⟩
        case round =>
          obtain ⟨i, hi, rfl, rfl⟩ := hrel
          by_cases hlt : i < nF x
          · have K := kFacts (N := nF x - i) (by have := hn.out; omega)
            have q0 : (FloatKind.f64.format.order (kW false (nF x - i)) 0 == some .gt) = true := by
              show (D.order (kW false (nF x - i)) 0 == some .gt) = true
              rw [K.ordP, if_neg (by omega : ¬ nF x - i = 0)]; rfl
            have q1 := fun w => run_float_arith (P := Try.prog) w .mul 62 .f64 _ _ _ (s_pos HT.out HJ.out hlt)
            have q2 := fun w => run_float_arith (P := Try.prog) w .sub 62 .f64 _ _ _ (K.sub (by omega))
            have q3 := hid (show kW false (nF x - i - 1) < kW false (nF x - i) by
              have := kW_lt (N := nF x - i - 1) (by have := hn.out; omega)
              rwa [show nF x - i - 1 + 1 = nF x - i by omega] at this)
            clear K
            go_wp2
            go_round
            case rel => exact ⟨i + 1, by omega, by rw [show nF x - (i + 1) = nF x - i - 1 by omega], rfl⟩
            case measure => exact q3.out
          · obtain rfl : i = nF x := by omega
            rw [Nat.sub_self, ← HR0.out]
            have q0 : (FloatKind.f64.format.order (kW false 0) 0 == some .gt) = false := by decide +kernel
            have q1 : (FloatKind.f64.format.order (kW false 0) 0 == some .lt) = false := by decide +kernel
            go_wp2
            go_loop [3, 5] (fun k s => k = .float .f64 (kW false 0) ∧ s = .float .f64 (rF x)) (fun _ _ => 0)
            case atStart => exact ⟨rfl, rfl⟩
            case round =>
              obtain ⟨rfl, rfl⟩ := hrel
              go_wp2
              go_ret
              exact ⟨rfl, rfl⟩
      · have hk0 : kF x = kU (nF x) 0 := by
          rw [HK.out, hsg]
          unfold kU
          by_cases h0 : nF x = 0
          · rw [if_neg (by omega), if_pos h0, h0]
          · rw [if_pos (by omega)]; rfl
        have hr0 := HR.out
        rw [hsg, if_pos rfl] at hr0
        have HR0 := hid hr0
        rw [hk0]
        have q0 : (FloatKind.f64.format.order (kU (nF x) 0) 0 == some .gt) = false := by
          rw [← hk0, HK.out, hsg]
          show (D.order (kW true (nF x)) 0 == some .gt) = false
          rw [(kFacts hn.out).ordN]
          split <;> rfl
        clear hr0 hsg hk0
        go_wp2
        go_loop [3, 5] (fun k s => k = .float .f64 (kU (nF x) 0) ∧ s = .float .f64 (sF x)) (fun _ _ => 0)
        case atStart => exact ⟨rfl, rfl⟩
        case round =>
          obtain ⟨rfl, rfl⟩ := hrel
          go_wp2
          clear q0
          go_loop [3, 5] (fun k s => ∃ i : Nat, i ≤ nF x ∧ k = .float .f64 (kU (nF x) i) ∧ s = .float .f64 (sF x - i * 4503599627370496)) (fun k _ => fltOf k)
          case atStart => exact ⟨0, by omega, rfl, by simp⟩
          case round =>
            obtain ⟨i, hi, rfl, rfl⟩ := hrel
            by_cases hlt : i < nF x
            · obtain ⟨k1, k2, k3⟩ := kU_step hn.out hlt
              have q0 : (FloatKind.f64.format.order (kU (nF x) i) 0 == some .lt) = true := k3
              have q1 := fun w => run_float_arith (P := Try.prog) w .quo 62 .f64 _ _ _ (s_neg HT.out HJ.out hlt)
              have q2 := fun w => run_float_arith (P := Try.prog) w .add 62 .f64 _ _ _ k1
              have q3 := hid k2
              clear k1 k2 k3
              go_wp2
              go_round
              case rel => exact ⟨i + 1, by omega, rfl, rfl⟩
              case measure => exact q3.out
            · obtain rfl : i = nF x := by omega
              rw [← HR0.out]
              have q1 : (FloatKind.f64.format.order (kU (nF x) (nF x)) 0 == some .lt) = false := kU_end
              go_wp2
              go_ret
              exact ⟨rfl, rfl⟩

theorem iSat (h : Nat) (F : SatF h) (w : World) :
    Calls Try.prog 117 #[.float .f32 h] w fun e w' => e = .returned (.float .f32 (satF h)) ∧ w = w' := by
  have hd := fun w => run_float_arith (P := Try.prog) w .quo 24 .f32 _ _ _ F.div
  have hm := fun w => run_float_arith (P := Try.prog) w .mul 24 .f32 _ _ _ F.mul
  have HF := hid F
  clear F
  go_enter Try.func117, Try.ntmps117
  go_wp2_with fail
  refine (iTwo (hqF h) 16 HF.out.qlt HF.out.qfin HF.out.T (by decide) _).mono ?_
  rintro e w1 ⟨rfl, rfl⟩
  go_wp2
  go_ret
  exact ⟨rfl, rfl⟩

theorem sSat (h : Nat) (F : SatF h) (w : World) :
    Calls Try.prog 141 #[.float .f32 h] w fun e w' => e = .returned (.float .f32 (satF h)) ∧ w = w' := by
  have hd := fun w => run_float_arith (P := Try.prog) w .quo 24 .f32 _ _ _ F.div
  have hm := fun w => run_float_arith (P := Try.prog) w .mul 24 .f32 _ _ _ F.mul
  have HF := hid F
  clear F
  go_enter Try.func141, Try.ntmps141
  go_wp2_with fail
  refine (sTwo (hqF h) 16 HF.out.qlt HF.out.qfin HF.out.T (by decide) _).mono ?_
  rintro e w1 ⟨rfl, rfl⟩
  go_wp2
  go_ret
  exact ⟨rfl, rfl⟩

set_option maxRecDepth 100000 in
theorem iExcessOf_ok (h v : Nat) (hx : h < 4294967296) (hv : v < 4294967296) (hq : airB h v = true) (w : World) :
    Calls Try.prog 50 #[.agg #[.float .f32 h, .float .f32 v]] w fun e w' => e = .returned (.tuple #[.float .f32 (excF h v), .int .i64 0]) ∧ Below w.heap.size w w' := by
  obtain ⟨hh, hav, hvp⟩ := airB_iff.1 hq
  have F := sat_facts hx hh
  obtain ⟨e1, e2, e3⟩ := exc_facts F hav
  have HF := hid F
  have hs := fun w => run_float_arith (P := Try.prog) w .sub 24 .f32 _ _ _ e1
  clear F hh hav hvp e1 e2 e3 hx
  have k0 : Hid (Kept w [(w.heap.size, #[.float .f32 h, .float .f32 v], 44)] (w.alloc (.cells (#[.float .f32 h, .float .f32 v]) 44))) := hid (((Kept.nil w).push (#[.float .f32 h, .float .f32 v]) 44).sub (by simp))
  have Hhv := hid hv
  have Hhq := hid hq
  clear hv hq
  go_enter Try.func50, Try.ntmps50
  go_wp2_with (first | (refine wpList_load_row rfl 44 _ rfl (w.heap.size) rfl 44 (#[.float .f32 h, .float .f32 v]) (0, 0) _ (k0.out.at (x := (w.heap.size, #[.float .f32 h, .float .f32 v], 44)) (by simp)) Try.underlying44 rfl (info_air) ?_))
  refine (iValidAir h v Hhv.out true Hhq.out _).mono ?_
  rintro e w0 ⟨rfl, hb0⟩
  have k1 := hid (k0.out.stay hb0)
  clear hb0
  have c0 : World.cell? w0 ⟨w.heap.size, 0, none⟩ = some (.float .f32 h) := (cell_of_row _ (w.heap.size) 0 _ _ _ (k1.out.at (x := (w.heap.size, #[.float .f32 h, .float .f32 v], 44)) (by simp))).trans rfl
  have c1 : World.cell? w0 ⟨w.heap.size, 1, none⟩ = some (.float .f32 v) := (cell_of_row _ (w.heap.size) 1 _ _ _ (k1.out.at (x := (w.heap.size, #[.float .f32 h, .float .f32 v], 44)) (by simp))).trans rfl
  go_wp2
  go_quiet ((go_at_call 117; exact Calls.quiet_of_same (back (iSat h HF.out _))))
  go_wp2
  go_ret2
  exact ⟨rfl, below_drewN k1.out.1 _⟩

set_option maxRecDepth 100000 in
theorem sExcess (h v : Nat) (hx : h < 4294967296) (hq : airB h v = true) (w : World) (g : Nat) (T : TypeId) (hg : airAt w g h v T) :
    Calls Try.prog 142 #[.pointer (some ⟨g, 0, none⟩)] w fun e w' => e = .returned (.float .f32 (excF h v)) ∧ Below w.heap.size w w' := by
  obtain ⟨hh, hav, hvp⟩ := airB_iff.1 hq
  have F := sat_facts hx hh
  obtain ⟨e1, e2, e3⟩ := exc_facts F hav
  have HF := hid F
  have hs := fun w => run_float_arith (P := Try.prog) w .sub 24 .f32 _ _ _ e1
  have c0 := hg.c0
  have c1 := hg.c1
  clear F hh hav hvp e1 e2 e3 hx hq hg
  go_enter Try.func142, Try.ntmps142
  go_wp2
  go_quiet ((go_at_call 141; exact Calls.quiet_of_same (back (sSat h HF.out _))))
  go_wp2
  go_ret
  exact ⟨rfl, below_drewN (Below.refl _ _) _⟩

set_option maxRecDepth 100000 in
theorem iActivate_bad1 (c : Nat → Nat) (hb : ∀ i, i < 20 → c i < 4294967296) (hc : ¬ Amts c) (h v y : Nat) (w : World) :
    Calls Try.prog 55 #[.agg (fls c), .agg #[.float .f32 h, .float .f32 v], .float .f32 y] w fun e w' => e = .returned (.tuple #[.agg (fls fun _ => 0), .agg #[.float .f32 0, .float .f32 0], .float .f32 0, .int .i64 1]) ∧ Below w.heap.size w w' := by
  have k0 : Hid (Kept w [(w.heap.size, fls c, 26), (w.heap.size + 1, #[.float .f32 h, .float .f32 v], 44), (w.heap.size + 1 + 1, fls fun _ => 0, 26), (w.heap.size + 1 + 1 + 1, #[.float .f32 0, .float .f32 0], 44)] ((((w.alloc (.cells (fls c) 26)).alloc (.cells (#[.float .f32 h, .float .f32 v]) 44)).alloc (.cells (fls fun _ => 0) 26)).alloc (.cells (#[.float .f32 0, .float .f32 0]) 44))) := hid ((((((Kept.nil w).push (fls c) 26).push (#[.float .f32 h, .float .f32 v]) 44).push (fls fun _ => 0) 26).push (#[.float .f32 0, .float .f32 0]) 44).sub (by simp))
  have Hhb := hid hb
  have Hhc := hid hc
  clear hb hc
  go_enter Try.func55, Try.ntmps55
  go_wp2_with (first | (refine wpList_load_row rfl 26 _ rfl (w.heap.size) rfl 26 (fls c) (0, 0) _ (k0.out.at (x := (w.heap.size, fls c, 26)) (by simp)) Try.underlying26 rfl (by rw [fls_size]; exact info_arr) ?_))
  refine (validSizes_f c Hhb.out Hhc.out _).mono ?_
  rintro e w0 ⟨rfl, hb0⟩
  have k1 := hid (k0.out.stay hb0)
  clear hb0
  go_wp2_with (first | (refine store_kept (w0 := w) (l := [(w.heap.size, fls c, 26), (w.heap.size + 1, #[.float .f32 h, .float .f32 v], 44), (w.heap.size + 1 + 1 + 1, #[.float .f32 0, .float .f32 0], 44)]) rfl 26 _ _ rfl (w.heap.size + 1 + 1) (fls fun _ => 0) rfl rfl 26 (fls fun _ => 0) (k1.out.sub (l' := [(w.heap.size + 1 + 1, fls fun _ => 0, 26), (w.heap.size, fls c, 26), (w.heap.size + 1, #[.float .f32 h, .float .f32 v], 44), (w.heap.size + 1 + 1 + 1, #[.float .f32 0, .float .f32 0], 44)]) (by intro x hx; simp only [List.mem_cons, List.not_mem_nil, or_false] at hx; rcases hx with rfl | rfl | rfl | rfl <;> simp)) (by omega) (by intro x hx; simp only [List.mem_cons, List.not_mem_nil, or_false] at hx; rcases hx with rfl | rfl | rfl <;> first | (simp; done) | (simp only []; omega)) (by rw [fls_size]; exact info_arr) (by simp) (fls_one _) ?_; intro wkA kA; have kA := hid kA) | (refine store_kept (w0 := w) (l := [(w.heap.size + 1 + 1, fls fun _ => 0, 26), (w.heap.size, fls c, 26), (w.heap.size + 1, #[.float .f32 h, .float .f32 v], 44)]) rfl 44 _ _ rfl (w.heap.size + 1 + 1 + 1) (#[.float .f32 0, .float .f32 0]) rfl rfl 44 (#[.float .f32 0, .float .f32 0]) (kA.out.sub (l' := [(w.heap.size + 1 + 1 + 1, #[.float .f32 0, .float .f32 0], 44), (w.heap.size + 1 + 1, fls fun _ => 0, 26), (w.heap.size, fls c, 26), (w.heap.size + 1, #[.float .f32 h, .float .f32 v], 44)]) (by intro x hx; simp only [List.mem_cons, List.not_mem_nil, or_false] at hx; rcases hx with rfl | rfl | rfl | rfl <;> simp)) (by omega) (by intro x hx; simp only [List.mem_cons, List.not_mem_nil, or_false] at hx; rcases hx with rfl | rfl | rfl <;> first | (simp; done) | (simp only []; omega)) (info_air) (by simp) (by simp [Value.oneCell']) ?_; intro wkB kB; have kB := hid kB))
  exact bodyPost_ret (results_two rfl _ _ (w.heap.size + 1 + 1) 26 (fls fun _ => 0) (0, 0) _ (w.heap.size + 1 + 1 + 1) 44 (#[.float .f32 0, .float .f32 0]) (0, 0) _ rfl (kB.out.at (x := (w.heap.size + 1 + 1, fls fun _ => 0, 26)) (by simp)) Try.underlying26 rfl (by rw [fls_size]; exact info_arr) rfl (kB.out.at (x := (w.heap.size + 1 + 1 + 1, #[.float .f32 0, .float .f32 0], 44)) (by simp)) Try.underlying44 rfl (info_air)) rfl ⟨rfl, kB.out.1⟩

set_option maxRecDepth 100000 in
theorem iActivate_bad2 (c : Nat → Nat) (hc : Amts c) (h v y : Nat) (hv : v < 4294967296) (hq : airB h v = false) (w : World) :
    Calls Try.prog 55 #[.agg (fls c), .agg #[.float .f32 h, .float .f32 v], .float .f32 y] w fun e w' => e = .returned (.tuple #[.agg (fls fun _ => 0), .agg #[.float .f32 0, .float .f32 0], .float .f32 0, .int .i64 1]) ∧ Below w.heap.size w w' := by
  have k0 : Hid (Kept w [(w.heap.size, fls c, 26), (w.heap.size + 1, #[.float .f32 h, .float .f32 v], 44), (w.heap.size + 1 + 1, fls fun _ => 0, 26), (w.heap.size + 1 + 1 + 1, #[.float .f32 0, .float .f32 0], 44)] ((((w.alloc (.cells (fls c) 26)).alloc (.cells (#[.float .f32 h, .float .f32 v]) 44)).alloc (.cells (fls fun _ => 0) 26)).alloc (.cells (#[.float .f32 0, .float .f32 0]) 44))) := hid ((((((Kept.nil w).push (fls c) 26).push (#[.float .f32 h, .float .f32 v]) 44).push (fls fun _ => 0) 26).push (#[.float .f32 0, .float .f32 0]) 44).sub (by simp))
  have Hhc := hid hc
  have Hhv := hid hv
  have Hhq := hid hq
  clear hc hv hq
  go_enter Try.func55, Try.ntmps55
  go_wp2_with (first | (refine wpList_load_row rfl 26 _ rfl (w.heap.size) rfl 26 (fls c) (0, 0) _ (k0.out.at (x := (w.heap.size, fls c, 26)) (by simp)) Try.underlying26 rfl (by rw [fls_size]; exact info_arr) ?_))
  refine (validSizes_t c Hhc.out _).mono ?_
  rintro e w0 ⟨rfl, hb0⟩
  have k1 := hid (k0.out.stay hb0)
  clear hb0
  go_wp2_with (first | (refine wpList_load_g rfl 44 _ rfl (w.heap.size + 1) rfl 44 (#[.float .f32 h, .float .f32 v]) (0, 0) _ (k1.out.at (x := (w.heap.size + 1, #[.float .f32 h, .float .f32 v], 44)) (by simp)) Try.underlying44 rfl (info_air) ?_))
  refine (iValidAir h v Hhv.out false Hhq.out _).mono ?_
  rintro e w1 ⟨rfl, hb1⟩
  have k2 := hid (k1.out.stay hb1)
  clear hb1
  go_wp2_with (first | (refine store_kept (w0 := w) (l := [(w.heap.size, fls c, 26), (w.heap.size + 1, #[.float .f32 h, .float .f32 v], 44), (w.heap.size + 1 + 1 + 1, #[.float .f32 0, .float .f32 0], 44)]) rfl 26 _ _ rfl (w.heap.size + 1 + 1) (fls fun _ => 0) rfl rfl 26 (fls fun _ => 0) (k2.out.sub (l' := [(w.heap.size + 1 + 1, fls fun _ => 0, 26), (w.heap.size, fls c, 26), (w.heap.size + 1, #[.float .f32 h, .float .f32 v], 44), (w.heap.size + 1 + 1 + 1, #[.float .f32 0, .float .f32 0], 44)]) (by intro x hx; simp only [List.mem_cons, List.not_mem_nil, or_false] at hx; rcases hx with rfl | rfl | rfl | rfl <;> simp)) (by omega) (by intro x hx; simp only [List.mem_cons, List.not_mem_nil, or_false] at hx; rcases hx with rfl | rfl | rfl <;> first | (simp; done) | (simp only []; omega)) (by rw [fls_size]; exact info_arr) (by simp) (fls_one _) ?_; intro wkA kA; have kA := hid kA) | (refine store_kept (w0 := w) (l := [(w.heap.size + 1 + 1, fls fun _ => 0, 26), (w.heap.size, fls c, 26), (w.heap.size + 1, #[.float .f32 h, .float .f32 v], 44)]) rfl 44 _ _ rfl (w.heap.size + 1 + 1 + 1) (#[.float .f32 0, .float .f32 0]) rfl rfl 44 (#[.float .f32 0, .float .f32 0]) (kA.out.sub (l' := [(w.heap.size + 1 + 1 + 1, #[.float .f32 0, .float .f32 0], 44), (w.heap.size + 1 + 1, fls fun _ => 0, 26), (w.heap.size, fls c, 26), (w.heap.size + 1, #[.float .f32 h, .float .f32 v], 44)]) (by intro x hx; simp only [List.mem_cons, List.not_mem_nil, or_false] at hx; rcases hx with rfl | rfl | rfl | rfl <;> simp)) (by omega) (by intro x hx; simp only [List.mem_cons, List.not_mem_nil, or_false] at hx; rcases hx with rfl | rfl | rfl <;> first | (simp; done) | (simp only []; omega)) (info_air) (by simp) (by simp [Value.oneCell']) ?_; intro wkB kB; have kB := hid kB))
  exact bodyPost_ret (results_two rfl _ _ (w.heap.size + 1 + 1) 26 (fls fun _ => 0) (0, 0) _ (w.heap.size + 1 + 1 + 1) 44 (#[.float .f32 0, .float .f32 0]) (0, 0) _ rfl (kB.out.at (x := (w.heap.size + 1 + 1, fls fun _ => 0, 26)) (by simp)) Try.underlying26 rfl (by rw [fls_size]; exact info_arr) rfl (kB.out.at (x := (w.heap.size + 1 + 1 + 1, #[.float .f32 0, .float .f32 0], 44)) (by simp)) Try.underlying44 rfl (info_air)) rfl ⟨rfl, kB.out.1⟩

set_option maxRecDepth 100000 in
theorem iActivate_range (c : Nat → Nat) (hc : Amts c) (h v : Nat) (hh : h < 4294967296) (hv : v < 4294967296) (hq : airB h v = true) (y : Nat) (hy : y < 4294967296) (hn : amtB y = false) (w : World) :
    Calls Try.prog 55 #[.agg (fls c), .agg #[.float .f32 h, .float .f32 v], .float .f32 y] w fun e w' => e = .returned (.tuple #[.agg (fls fun _ => 0), .agg #[.float .f32 0, .float .f32 0], .float .f32 0, .int .i64 2]) ∧ Below w.heap.size w w' := by
  have k0 : Hid (Kept w [(w.heap.size, fls c, 26), (w.heap.size + 1, #[.float .f32 h, .float .f32 v], 44), (w.heap.size + 1 + 1, fls fun _ => 0, 26), (w.heap.size + 1 + 1 + 1, #[.float .f32 0, .float .f32 0], 44)] ((((w.alloc (.cells (fls c) 26)).alloc (.cells (#[.float .f32 h, .float .f32 v]) 44)).alloc (.cells (fls fun _ => 0) 26)).alloc (.cells (#[.float .f32 0, .float .f32 0]) 44))) := hid ((((((Kept.nil w).push (fls c) 26).push (#[.float .f32 h, .float .f32 v]) 44).push (fls fun _ => 0) 26).push (#[.float .f32 0, .float .f32 0]) 44).sub (by simp))
  have Hhc := hid hc
  have Hhh := hid hh
  have Hhv := hid hv
  have Hhq := hid hq
  have Hhy := hid hy
  have Hhn := hid hn
  clear hc hh hv hq hy hn
  go_enter Try.func55, Try.ntmps55
  go_wp2_with (first | (refine wpList_load_row rfl 26 _ rfl (w.heap.size) rfl 26 (fls c) (0, 0) _ (k0.out.at (x := (w.heap.size, fls c, 26)) (by simp)) Try.underlying26 rfl (by rw [fls_size]; exact info_arr) ?_))
  refine (validSizes_t c Hhc.out _).mono ?_
  rintro e w0 ⟨rfl, hb0⟩
  have k1 := hid (k0.out.stay hb0)
  clear hb0
  go_wp2_with (first | (refine wpList_load_g rfl 44 _ rfl (w.heap.size + 1) rfl 44 (#[.float .f32 h, .float .f32 v]) (0, 0) _ (k1.out.at (x := (w.heap.size + 1, #[.float .f32 h, .float .f32 v], 44)) (by simp)) Try.underlying44 rfl (info_air) ?_))
  refine (iValidAir h v Hhv.out true Hhq.out _).mono ?_
  rintro e w1 ⟨rfl, hb1⟩
  have k2 := hid (k1.out.stay hb1)
  clear hb1
  go_wp2_with fail
  refine (isAmount_f y Hhy.out Hhn.out _).mono ?_
  rintro e w2 ⟨rfl, hb2⟩
  have k3 := hid (k2.out.stay hb2)
  clear hb2
  go_wp2_with (first | (refine store_kept (w0 := w) (l := [(w.heap.size, fls c, 26), (w.heap.size + 1, #[.float .f32 h, .float .f32 v], 44), (w.heap.size + 1 + 1 + 1, #[.float .f32 0, .float .f32 0], 44)]) rfl 26 _ _ rfl (w.heap.size + 1 + 1) (fls fun _ => 0) rfl rfl 26 (fls fun _ => 0) (k3.out.sub (l' := [(w.heap.size + 1 + 1, fls fun _ => 0, 26), (w.heap.size, fls c, 26), (w.heap.size + 1, #[.float .f32 h, .float .f32 v], 44), (w.heap.size + 1 + 1 + 1, #[.float .f32 0, .float .f32 0], 44)]) (by intro x hx; simp only [List.mem_cons, List.not_mem_nil, or_false] at hx; rcases hx with rfl | rfl | rfl | rfl <;> simp)) (by omega) (by intro x hx; simp only [List.mem_cons, List.not_mem_nil, or_false] at hx; rcases hx with rfl | rfl | rfl <;> first | (simp; done) | (simp only []; omega)) (by rw [fls_size]; exact info_arr) (by simp) (fls_one _) ?_; intro wkA kA; have kA := hid kA) | (refine store_kept (w0 := w) (l := [(w.heap.size + 1 + 1, fls fun _ => 0, 26), (w.heap.size, fls c, 26), (w.heap.size + 1, #[.float .f32 h, .float .f32 v], 44)]) rfl 44 _ _ rfl (w.heap.size + 1 + 1 + 1) (#[.float .f32 0, .float .f32 0]) rfl rfl 44 (#[.float .f32 0, .float .f32 0]) (kA.out.sub (l' := [(w.heap.size + 1 + 1 + 1, #[.float .f32 0, .float .f32 0], 44), (w.heap.size + 1 + 1, fls fun _ => 0, 26), (w.heap.size, fls c, 26), (w.heap.size + 1, #[.float .f32 h, .float .f32 v], 44)]) (by intro x hx; simp only [List.mem_cons, List.not_mem_nil, or_false] at hx; rcases hx with rfl | rfl | rfl | rfl <;> simp)) (by omega) (by intro x hx; simp only [List.mem_cons, List.not_mem_nil, or_false] at hx; rcases hx with rfl | rfl | rfl <;> first | (simp; done) | (simp only []; omega)) (info_air) (by simp) (by simp [Value.oneCell']) ?_; intro wkB kB; have kB := hid kB))
  exact bodyPost_ret (results_two rfl _ _ (w.heap.size + 1 + 1) 26 (fls fun _ => 0) (0, 0) _ (w.heap.size + 1 + 1 + 1) 44 (#[.float .f32 0, .float .f32 0]) (0, 0) _ rfl (kB.out.at (x := (w.heap.size + 1 + 1, fls fun _ => 0, 26)) (by simp)) Try.underlying26 rfl (by rw [fls_size]; exact info_arr) rfl (kB.out.at (x := (w.heap.size + 1 + 1 + 1, #[.float .f32 0, .float .f32 0], 44)) (by simp)) Try.underlying44 rfl (info_air)) rfl ⟨rfl, kB.out.1⟩

set_option maxRecDepth 100000 in
theorem sActivate_bad1 (c : Nat → Nat) (hb : ∀ i, i < 20 → c i < 4294967296) (hc : ¬ Amts c) (h v y : Nat) (w : World) :
    Calls Try.prog 56 #[.agg (fls c), .agg #[.float .f32 h, .float .f32 v], .float .f32 y] w fun e w' => e = .returned (.tuple #[.agg (fls fun _ => 0), .agg #[.float .f32 0, .float .f32 0], .float .f32 0, .int .i64 1]) ∧ Below w.heap.size w w' := by
  have k0 : Hid (Kept w [(w.heap.size, fls c, 26), (w.heap.size + 1, #[.float .f32 h, .float .f32 v], 44), (w.heap.size + 1 + 1, fls fun _ => 0, 26), (w.heap.size + 1 + 1 + 1, #[.float .f32 0, .float .f32 0], 44)] ((((w.alloc (.cells (fls c) 26)).alloc (.cells (#[.float .f32 h, .float .f32 v]) 44)).alloc (.cells (fls fun _ => 0) 26)).alloc (.cells (#[.float .f32 0, .float .f32 0]) 44))) := hid ((((((Kept.nil w).push (fls c) 26).push (#[.float .f32 h, .float .f32 v]) 44).push (fls fun _ => 0) 26).push (#[.float .f32 0, .float .f32 0]) 44).sub (by simp))
  have Hhb := hid hb
  have Hhc := hid hc
  clear hb hc
  go_enter Try.func56, Try.ntmps56
  go_wp2_with fail
  refine (sOk_f c Hhb.out Hhc.out _ (w.heap.size) 26 (k0.out.at (x := (w.heap.size, fls c, 26)) (by simp))).mono ?_
  rintro e w0 ⟨rfl, hb0⟩
  have k1 := hid (k0.out.stay hb0)
  clear hb0
  go_wp2_with (first | (refine store_kept (w0 := w) (l := [(w.heap.size, fls c, 26), (w.heap.size + 1, #[.float .f32 h, .float .f32 v], 44), (w.heap.size + 1 + 1 + 1, #[.float .f32 0, .float .f32 0], 44)]) rfl 26 _ _ rfl (w.heap.size + 1 + 1) (fls fun _ => 0) rfl rfl 26 (fls fun _ => 0) (k1.out.sub (l' := [(w.heap.size + 1 + 1, fls fun _ => 0, 26), (w.heap.size, fls c, 26), (w.heap.size + 1, #[.float .f32 h, .float .f32 v], 44), (w.heap.size + 1 + 1 + 1, #[.float .f32 0, .float .f32 0], 44)]) (by intro x hx; simp only [List.mem_cons, List.not_mem_nil, or_false] at hx; rcases hx with rfl | rfl | rfl | rfl <;> simp)) (by omega) (by intro x hx; simp only [List.mem_cons, List.not_mem_nil, or_false] at hx; rcases hx with rfl | rfl | rfl <;> first | (simp; done) | (simp only []; omega)) (by rw [fls_size]; exact info_arr) (by simp) (fls_one _) ?_; intro wkA kA; have kA := hid kA) | (refine store_kept (w0 := w) (l := [(w.heap.size + 1 + 1, fls fun _ => 0, 26), (w.heap.size, fls c, 26), (w.heap.size + 1, #[.float .f32 h, .float .f32 v], 44)]) rfl 44 _ _ rfl (w.heap.size + 1 + 1 + 1) (#[.float .f32 0, .float .f32 0]) rfl rfl 44 (#[.float .f32 0, .float .f32 0]) (kA.out.sub (l' := [(w.heap.size + 1 + 1 + 1, #[.float .f32 0, .float .f32 0], 44), (w.heap.size + 1 + 1, fls fun _ => 0, 26), (w.heap.size, fls c, 26), (w.heap.size + 1, #[.float .f32 h, .float .f32 v], 44)]) (by intro x hx; simp only [List.mem_cons, List.not_mem_nil, or_false] at hx; rcases hx with rfl | rfl | rfl | rfl <;> simp)) (by omega) (by intro x hx; simp only [List.mem_cons, List.not_mem_nil, or_false] at hx; rcases hx with rfl | rfl | rfl <;> first | (simp; done) | (simp only []; omega)) (info_air) (by simp) (by simp [Value.oneCell']) ?_; intro wkB kB; have kB := hid kB))
  exact bodyPost_ret (results_two rfl _ _ (w.heap.size + 1 + 1) 26 (fls fun _ => 0) (0, 0) _ (w.heap.size + 1 + 1 + 1) 44 (#[.float .f32 0, .float .f32 0]) (0, 0) _ rfl (kB.out.at (x := (w.heap.size + 1 + 1, fls fun _ => 0, 26)) (by simp)) Try.underlying26 rfl (by rw [fls_size]; exact info_arr) rfl (kB.out.at (x := (w.heap.size + 1 + 1 + 1, #[.float .f32 0, .float .f32 0], 44)) (by simp)) Try.underlying44 rfl (info_air)) rfl ⟨rfl, kB.out.1⟩

set_option maxRecDepth 100000 in
theorem sActivate_bad2 (c : Nat → Nat) (hc : Amts c) (h v y : Nat) (hv : v < 4294967296) (hq : airB h v = false) (w : World) :
    Calls Try.prog 56 #[.agg (fls c), .agg #[.float .f32 h, .float .f32 v], .float .f32 y] w fun e w' => e = .returned (.tuple #[.agg (fls fun _ => 0), .agg #[.float .f32 0, .float .f32 0], .float .f32 0, .int .i64 1]) ∧ Below w.heap.size w w' := by
  have k0 : Hid (Kept w [(w.heap.size, fls c, 26), (w.heap.size + 1, #[.float .f32 h, .float .f32 v], 44), (w.heap.size + 1 + 1, fls fun _ => 0, 26), (w.heap.size + 1 + 1 + 1, #[.float .f32 0, .float .f32 0], 44)] ((((w.alloc (.cells (fls c) 26)).alloc (.cells (#[.float .f32 h, .float .f32 v]) 44)).alloc (.cells (fls fun _ => 0) 26)).alloc (.cells (#[.float .f32 0, .float .f32 0]) 44))) := hid ((((((Kept.nil w).push (fls c) 26).push (#[.float .f32 h, .float .f32 v]) 44).push (fls fun _ => 0) 26).push (#[.float .f32 0, .float .f32 0]) 44).sub (by simp))
  have Hhc := hid hc
  have Hhv := hid hv
  have Hhq := hid hq
  clear hc hv hq
  go_enter Try.func56, Try.ntmps56
  go_wp2_with fail
  refine (loose (sOk_t c Hhc.out _ (w.heap.size) 26 (k0.out.at (x := (w.heap.size, fls c, 26)) (by simp)))).mono ?_
  rintro e w0 ⟨rfl, hb0⟩
  have k1 := hid (k0.out.stay hb0)
  clear hb0
  go_wp2_with fail
  refine (sAirOk h v Hhv.out false Hhq.out _ (w.heap.size + 1) 44 (k1.out.at (x := (w.heap.size + 1, #[.float .f32 h, .float .f32 v], 44)) (by simp))).mono ?_
  rintro e w1 ⟨rfl, hb1⟩
  have k2 := hid (k1.out.stay hb1)
  clear hb1
  go_wp2_with (first | (refine store_kept (w0 := w) (l := [(w.heap.size, fls c, 26), (w.heap.size + 1, #[.float .f32 h, .float .f32 v], 44), (w.heap.size + 1 + 1 + 1, #[.float .f32 0, .float .f32 0], 44)]) rfl 26 _ _ rfl (w.heap.size + 1 + 1) (fls fun _ => 0) rfl rfl 26 (fls fun _ => 0) (k2.out.sub (l' := [(w.heap.size + 1 + 1, fls fun _ => 0, 26), (w.heap.size, fls c, 26), (w.heap.size + 1, #[.float .f32 h, .float .f32 v], 44), (w.heap.size + 1 + 1 + 1, #[.float .f32 0, .float .f32 0], 44)]) (by intro x hx; simp only [List.mem_cons, List.not_mem_nil, or_false] at hx; rcases hx with rfl | rfl | rfl | rfl <;> simp)) (by omega) (by intro x hx; simp only [List.mem_cons, List.not_mem_nil, or_false] at hx; rcases hx with rfl | rfl | rfl <;> first | (simp; done) | (simp only []; omega)) (by rw [fls_size]; exact info_arr) (by simp) (fls_one _) ?_; intro wkA kA; have kA := hid kA) | (refine store_kept (w0 := w) (l := [(w.heap.size + 1 + 1, fls fun _ => 0, 26), (w.heap.size, fls c, 26), (w.heap.size + 1, #[.float .f32 h, .float .f32 v], 44)]) rfl 44 _ _ rfl (w.heap.size + 1 + 1 + 1) (#[.float .f32 0, .float .f32 0]) rfl rfl 44 (#[.float .f32 0, .float .f32 0]) (kA.out.sub (l' := [(w.heap.size + 1 + 1 + 1, #[.float .f32 0, .float .f32 0], 44), (w.heap.size + 1 + 1, fls fun _ => 0, 26), (w.heap.size, fls c, 26), (w.heap.size + 1, #[.float .f32 h, .float .f32 v], 44)]) (by intro x hx; simp only [List.mem_cons, List.not_mem_nil, or_false] at hx; rcases hx with rfl | rfl | rfl | rfl <;> simp)) (by omega) (by intro x hx; simp only [List.mem_cons, List.not_mem_nil, or_false] at hx; rcases hx with rfl | rfl | rfl <;> first | (simp; done) | (simp only []; omega)) (info_air) (by simp) (by simp [Value.oneCell']) ?_; intro wkB kB; have kB := hid kB))
  exact bodyPost_ret (results_two rfl _ _ (w.heap.size + 1 + 1) 26 (fls fun _ => 0) (0, 0) _ (w.heap.size + 1 + 1 + 1) 44 (#[.float .f32 0, .float .f32 0]) (0, 0) _ rfl (kB.out.at (x := (w.heap.size + 1 + 1, fls fun _ => 0, 26)) (by simp)) Try.underlying26 rfl (by rw [fls_size]; exact info_arr) rfl (kB.out.at (x := (w.heap.size + 1 + 1 + 1, #[.float .f32 0, .float .f32 0], 44)) (by simp)) Try.underlying44 rfl (info_air)) rfl ⟨rfl, kB.out.1⟩

set_option maxRecDepth 100000 in
theorem sActivate_range (c : Nat → Nat) (hc : Amts c) (h v : Nat) (hh : h < 4294967296) (hv : v < 4294967296) (hq : airB h v = true) (y : Nat) (hy : y < 4294967296) (hn : amtB y = false) (w : World) :
    Calls Try.prog 56 #[.agg (fls c), .agg #[.float .f32 h, .float .f32 v], .float .f32 y] w fun e w' => e = .returned (.tuple #[.agg (fls fun _ => 0), .agg #[.float .f32 0, .float .f32 0], .float .f32 0, .int .i64 2]) ∧ Below w.heap.size w w' := by
  have k0 : Hid (Kept w [(w.heap.size, fls c, 26), (w.heap.size + 1, #[.float .f32 h, .float .f32 v], 44), (w.heap.size + 1 + 1, fls fun _ => 0, 26), (w.heap.size + 1 + 1 + 1, #[.float .f32 0, .float .f32 0], 44)] ((((w.alloc (.cells (fls c) 26)).alloc (.cells (#[.float .f32 h, .float .f32 v]) 44)).alloc (.cells (fls fun _ => 0) 26)).alloc (.cells (#[.float .f32 0, .float .f32 0]) 44))) := hid ((((((Kept.nil w).push (fls c) 26).push (#[.float .f32 h, .float .f32 v]) 44).push (fls fun _ => 0) 26).push (#[.float .f32 0, .float .f32 0]) 44).sub (by simp))
  have Hhc := hid hc
  have Hhh := hid hh
  have Hhv := hid hv
  have Hhq := hid hq
  have Hhy := hid hy
  have Hhn := hid hn
  clear hc hh hv hq hy hn
  go_enter Try.func56, Try.ntmps56
  go_wp2_with fail
  refine (loose (sOk_t c Hhc.out _ (w.heap.size) 26 (k0.out.at (x := (w.heap.size, fls c, 26)) (by simp)))).mono ?_
  rintro e w0 ⟨rfl, hb0⟩
  have k1 := hid (k0.out.stay hb0)
  clear hb0
  go_wp2_with fail
  refine (sAirOk h v Hhv.out true Hhq.out _ (w.heap.size + 1) 44 (k1.out.at (x := (w.heap.size + 1, #[.float .f32 h, .float .f32 v], 44)) (by simp))).mono ?_
  rintro e w1 ⟨rfl, hb1⟩
  have k2 := hid (k1.out.stay hb1)
  clear hb1
  go_wp2_with fail
  refine (sAmount_f y Hhy.out Hhn.out _).mono ?_
  rintro e w2 ⟨rfl, hb2⟩
  have k3 := hid (k2.out.stay hb2)
  clear hb2
  go_wp2_with (first | (refine store_kept (w0 := w) (l := [(w.heap.size, fls c, 26), (w.heap.size + 1, #[.float .f32 h, .float .f32 v], 44), (w.heap.size + 1 + 1 + 1, #[.float .f32 0, .float .f32 0], 44)]) rfl 26 _ _ rfl (w.heap.size + 1 + 1) (fls fun _ => 0) rfl rfl 26 (fls fun _ => 0) (k3.out.sub (l' := [(w.heap.size + 1 + 1, fls fun _ => 0, 26), (w.heap.size, fls c, 26), (w.heap.size + 1, #[.float .f32 h, .float .f32 v], 44), (w.heap.size + 1 + 1 + 1, #[.float .f32 0, .float .f32 0], 44)]) (by intro x hx; simp only [List.mem_cons, List.not_mem_nil, or_false] at hx; rcases hx with rfl | rfl | rfl | rfl <;> simp)) (by omega) (by intro x hx; simp only [List.mem_cons, List.not_mem_nil, or_false] at hx; rcases hx with rfl | rfl | rfl <;> first | (simp; done) | (simp only []; omega)) (by rw [fls_size]; exact info_arr) (by simp) (fls_one _) ?_; intro wkA kA; have kA := hid kA) | (refine store_kept (w0 := w) (l := [(w.heap.size + 1 + 1, fls fun _ => 0, 26), (w.heap.size, fls c, 26), (w.heap.size + 1, #[.float .f32 h, .float .f32 v], 44)]) rfl 44 _ _ rfl (w.heap.size + 1 + 1 + 1) (#[.float .f32 0, .float .f32 0]) rfl rfl 44 (#[.float .f32 0, .float .f32 0]) (kA.out.sub (l' := [(w.heap.size + 1 + 1 + 1, #[.float .f32 0, .float .f32 0], 44), (w.heap.size + 1 + 1, fls fun _ => 0, 26), (w.heap.size, fls c, 26), (w.heap.size + 1, #[.float .f32 h, .float .f32 v], 44)]) (by intro x hx; simp only [List.mem_cons, List.not_mem_nil, or_false] at hx; rcases hx with rfl | rfl | rfl | rfl <;> simp)) (by omega) (by intro x hx; simp only [List.mem_cons, List.not_mem_nil, or_false] at hx; rcases hx with rfl | rfl | rfl <;> first | (simp; done) | (simp only []; omega)) (info_air) (by simp) (by simp [Value.oneCell']) ?_; intro wkB kB; have kB := hid kB))
  exact bodyPost_ret (results_two rfl _ _ (w.heap.size + 1 + 1) 26 (fls fun _ => 0) (0, 0) _ (w.heap.size + 1 + 1 + 1) 44 (#[.float .f32 0, .float .f32 0]) (0, 0) _ rfl (kB.out.at (x := (w.heap.size + 1 + 1, fls fun _ => 0, 26)) (by simp)) Try.underlying26 rfl (by rw [fls_size]; exact info_arr) rfl (kB.out.at (x := (w.heap.size + 1 + 1 + 1, #[.float .f32 0, .float .f32 0], 44)) (by simp)) Try.underlying44 rfl (info_air)) rfl ⟨rfl, kB.out.1⟩

set_option maxRecDepth 100000 in
set_option maxHeartbeats 1000000 in
theorem iActivate_none (c : Nat → Nat) (hc : Amts c) (h v : Nat) (hh : h < 4294967296) (hv : v < 4294967296) (hq : airB h v = true) (y : Nat) (hy : amtB y = true) (e : Nat) (he : excF h v = e) (ho : (FloatKind.f32.format.order e 0 == some .lt || FloatKind.f32.format.order e 0 == some .eq) = true) (w : World) :
    Calls Try.prog 55 #[.agg (fls c), .agg #[.float .f32 h, .float .f32 v], .float .f32 y] w fun e w' => e = .returned (.tuple #[.agg (fls c), .agg #[.float .f32 h, .float .f32 v], .float .f32 0, .int .i64 0]) ∧ Below w.heap.size w w' := by
  have hE := fun w => iExcessOf_ok h v hh hv hq w
  rw [he] at hE
  have HE := hid hE
  clear hE he
  have k0 : Hid (Kept w [(w.heap.size, fls c, 26), (w.heap.size + 1, #[.float .f32 h, .float .f32 v], 44), (w.heap.size + 1 + 1, fls fun _ => 0, 26), (w.heap.size + 1 + 1 + 1, #[.float .f32 0, .float .f32 0], 44)] ((((w.alloc (.cells (fls c) 26)).alloc (.cells (#[.float .f32 h, .float .f32 v]) 44)).alloc (.cells (fls fun _ => 0) 26)).alloc (.cells (#[.float .f32 0, .float .f32 0]) 44))) := hid ((((((Kept.nil w).push (fls c) 26).push (#[.float .f32 h, .float .f32 v]) 44).push (fls fun _ => 0) 26).push (#[.float .f32 0, .float .f32 0]) 44).sub (by simp))
  have Hhc := hid hc
  have Hhh := hid hh
  have Hhv := hid hv
  have Hhq := hid hq
  have Hhy := hid hy
  clear hc hh hv hq hy
  go_enter Try.func55, Try.ntmps55
  go_wp2_with (first | (refine wpList_load_row rfl 26 _ rfl (w.heap.size) rfl 26 (fls c) (0, 0) _ (k0.out.at (x := (w.heap.size, fls c, 26)) (by simp)) Try.underlying26 rfl (by rw [fls_size]; exact info_arr) ?_))
  refine (validSizes_t c Hhc.out _).mono ?_
  rintro e w0 ⟨rfl, hb0⟩
  have k1 := hid (k0.out.stay hb0)
  clear hb0
  go_wp2_with (first | (refine wpList_load_g rfl 44 _ rfl (w.heap.size + 1) rfl 44 (#[.float .f32 h, .float .f32 v]) (0, 0) _ (k1.out.at (x := (w.heap.size + 1, #[.float .f32 h, .float .f32 v], 44)) (by simp)) Try.underlying44 rfl (info_air) ?_))
  refine (iValidAir h v Hhv.out true Hhq.out _).mono ?_
  rintro e w1 ⟨rfl, hb1⟩
  have k2 := hid (k1.out.stay hb1)
  clear hb1
  go_wp2_with fail
  refine (isAmount_t y Hhy.out _).mono ?_
  rintro e w2 ⟨rfl, rfl⟩
  go_wp2_with (first | (refine wpList_load_row rfl 44 _ rfl (w.heap.size + 1) rfl 44 (#[.float .f32 h, .float .f32 v]) (0, 0) _ (k2.out.at (x := (w.heap.size + 1, #[.float .f32 h, .float .f32 v], 44)) (by simp)) Try.underlying44 rfl (info_air) ?_))
  refine (HE.out _).mono ?_
  rintro e w3 ⟨rfl, hb3⟩
  have k4 := hid (k2.out.stay hb3)
  clear hb3
  go_wp2_with fail
  have kz : Kept w [(w.heap.size + 1 + 1 + 1, #[.float .f32 0, .float .f32 0], 44), (w.heap.size + 1 + 1, fls fun _ => 0, 26), (w.heap.size, fls c, 26), (w.heap.size + 1, #[.float .f32 h, .float .f32 v], 44)] _ := (k4.out.sub (l' := [(w.heap.size + 1 + 1 + 1, #[.float .f32 0, .float .f32 0], 44), (w.heap.size + 1 + 1, fls fun _ => 0, 26), (w.heap.size, fls c, 26), (w.heap.size + 1, #[.float .f32 h, .float .f32 v], 44)]) (by intro x hx; simp only [List.mem_cons, List.not_mem_nil, or_false] at hx; rcases hx with rfl | rfl | rfl | rfl <;> simp))
  have hB1 : w.heap.size ≤ w.heap.size + 1 + 1 := by omega
  have hB2 : w.heap.size ≤ w.heap.size + 1 + 1 + 1 := by omega
  have hn1 : ∀ x ∈ ([(w.heap.size, fls c, 26), (w.heap.size + 1, #[.float .f32 h, .float .f32 v], 44)] : List (Nat × Array Value × TypeId)), x.1 ≠ w.heap.size + 1 + 1 := by intro x hx; simp only [List.mem_cons, List.not_mem_nil, or_false] at hx; rcases hx with rfl | rfl <;> first | (simp; done) | (simp only []; omega)
  have hn2 : ∀ x ∈ ([(w.heap.size + 1 + 1, fls fun _ => 0, 26), (w.heap.size, fls c, 26), (w.heap.size + 1, #[.float .f32 h, .float .f32 v], 44)] : List (Nat × Array Value × TypeId)), x.1 ≠ w.heap.size + 1 + 1 + 1 := by intro x hx; simp only [List.mem_cons, List.not_mem_nil, or_false] at hx; rcases hx with rfl | rfl | rfl <;> first | (simp; done) | (simp only []; omega)
  refine region_kept (w0 := w) (l := [(w.heap.size, fls c, 26), (w.heap.size + 1, #[.float .f32 h, .float .f32 v], 44)]) 6 #[false, false, false, false, false, false] (by kernel_rfl) rfl rfl ?_
  have kd := kz.drew
  clear kz
  generalize World.drew _ = wd at kd ⊢
  refine take_load 0 { tmps := (.agg (fls c) :: .agg #[.float .f32 h, .float .f32 v] :: .float .f32 y :: .pointer (some ⟨w.heap.size, 0, none⟩) :: .pointer (some ⟨w.heap.size + 1, 0, none⟩) :: undef :: .pointer (some ⟨w.heap.size + 1 + 1, 0, none⟩) :: .pointer (some ⟨w.heap.size + 1 + 1 + 1, 0, none⟩) :: .float .f32 0 :: .int .i64 0 :: .float .f32 e :: .int .i64 0 :: undef :: undef :: .agg (fls c) :: .bool true :: .bool false :: .bool false :: .agg #[.float .f32 h, .float .f32 v] :: .bool true :: .bool false :: .bool false :: undef :: undef :: .float .f32 y :: .bool true :: .bool false :: undef :: undef :: .tuple #[.float .f32 e, .int .i64 0] :: .agg #[.float .f32 h, .float .f32 v] :: .tuple #[.float .f32 e, .int .i64 0] :: .float .f32 e :: .int .i64 0 :: .int .i64 0 :: .bool false :: undef :: undef :: undef :: .float .f32 e :: .bool true :: .agg (fls c) :: undef :: undef :: undef :: undef :: undef :: undef :: undef :: undef :: undef :: undef :: undef :: undef :: undef :: undef :: undef :: undef :: undef :: undef :: undef :: undef :: undef :: undef :: undef :: undef :: undef :: undef :: undef :: undef :: undef :: undef :: undef :: undef :: []).toArray, defers := [] } #[true, false, false, false, false, false] rfl (by rfl) (by kernel_rfl) (by kernel_rfl) (by kernel_rfl) 26 _ rfl (w.heap.size) (fls c) 26 (by rfl) (by simp) _ Try.underlying26 rfl (by rw [fls_size]; exact info_arr) (by rfl) (by rfl) (kd.tail.tail) ?_
  refine take_load 1 { tmps := (.agg (fls c) :: .agg #[.float .f32 h, .float .f32 v] :: .float .f32 y :: .pointer (some ⟨w.heap.size, 0, none⟩) :: .pointer (some ⟨w.heap.size + 1, 0, none⟩) :: undef :: .pointer (some ⟨w.heap.size + 1 + 1, 0, none⟩) :: .pointer (some ⟨w.heap.size + 1 + 1 + 1, 0, none⟩) :: .float .f32 0 :: .int .i64 0 :: .float .f32 e :: .int .i64 0 :: undef :: undef :: .agg (fls c) :: .bool true :: .bool false :: .bool false :: .agg #[.float .f32 h, .float .f32 v] :: .bool true :: .bool false :: .bool false :: undef :: undef :: .float .f32 y :: .bool true :: .bool false :: undef :: undef :: .tuple #[.float .f32 e, .int .i64 0] :: .agg #[.float .f32 h, .float .f32 v] :: .tuple #[.float .f32 e, .int .i64 0] :: .float .f32 e :: .int .i64 0 :: .int .i64 0 :: .bool false :: undef :: undef :: undef :: .float .f32 e :: .bool true :: .agg (fls c) :: .agg (#[.float .f32 h, .float .f32 v]) :: undef :: undef :: undef :: undef :: undef :: undef :: undef :: undef :: undef :: undef :: undef :: undef :: undef :: undef :: undef :: undef :: undef :: undef :: undef :: undef :: undef :: undef :: undef :: undef :: undef :: undef :: undef :: undef :: undef :: undef :: undef :: []).toArray, defers := [] } #[true, true, false, false, false, false] rfl (by rfl) (by kernel_rfl) (by kernel_rfl) (by kernel_rfl) 44 _ rfl (w.heap.size + 1) (#[.float .f32 h, .float .f32 v]) 44 (by rfl) (by simp) _ Try.underlying44 rfl (info_air) (by rfl) (by rfl) (kd.tail.tail) ?_
  refine wpAnyH_ready (rs := [2]) (by kernel_rfl) (by simp) ?_
  refine storeK 2 { tmps := (.agg (fls c) :: .agg #[.float .f32 h, .float .f32 v] :: .float .f32 y :: .pointer (some ⟨w.heap.size, 0, none⟩) :: .pointer (some ⟨w.heap.size + 1, 0, none⟩) :: undef :: .pointer (some ⟨w.heap.size + 1 + 1, 0, none⟩) :: .pointer (some ⟨w.heap.size + 1 + 1 + 1, 0, none⟩) :: .float .f32 0 :: .int .i64 0 :: .float .f32 e :: .int .i64 0 :: undef :: undef :: .agg (fls c) :: .bool true :: .bool false :: .bool false :: .agg #[.float .f32 h, .float .f32 v] :: .bool true :: .bool false :: .bool false :: undef :: undef :: .float .f32 y :: .bool true :: .bool false :: undef :: undef :: .tuple #[.float .f32 e, .int .i64 0] :: .agg #[.float .f32 h, .float .f32 v] :: .tuple #[.float .f32 e, .int .i64 0] :: .float .f32 e :: .int .i64 0 :: .int .i64 0 :: .bool false :: undef :: undef :: undef :: .float .f32 e :: .bool true :: .agg (fls c) :: .agg (#[.float .f32 h, .float .f32 v]) :: undef :: undef :: undef :: undef :: undef :: undef :: undef :: undef :: undef :: undef :: undef :: undef :: undef :: undef :: undef :: undef :: undef :: undef :: undef :: undef :: undef :: undef :: undef :: undef :: undef :: undef :: undef :: undef :: undef :: undef :: undef :: []).toArray, defers := [] } #[true, true, true, false, false, false] (kd).swap hB1 (ne_consG (Ne.symm (hn2 _ (List.mem_cons_self ..))) hn1) rfl (by rfl) 26 _ _ rfl (fls c) (by rfl) (by rfl) (by rw [fls_size]; exact info_arr) (by simp) (fls_one _) (by rfl) (by rfl) (fun w1 k1 => ?_) AllReadyH.nil
  refine ⟨k1.tail.tail, ?_⟩
  refine wpAnyH_ready (rs := [3]) (by kernel_rfl) (by simp) ?_
  refine storeK 3 { tmps := (.agg (fls c) :: .agg #[.float .f32 h, .float .f32 v] :: .float .f32 y :: .pointer (some ⟨w.heap.size, 0, none⟩) :: .pointer (some ⟨w.heap.size + 1, 0, none⟩) :: undef :: .pointer (some ⟨w.heap.size + 1 + 1, 0, none⟩) :: .pointer (some ⟨w.heap.size + 1 + 1 + 1, 0, none⟩) :: .float .f32 0 :: .int .i64 0 :: .float .f32 e :: .int .i64 0 :: undef :: undef :: .agg (fls c) :: .bool true :: .bool false :: .bool false :: .agg #[.float .f32 h, .float .f32 v] :: .bool true :: .bool false :: .bool false :: undef :: undef :: .float .f32 y :: .bool true :: .bool false :: undef :: undef :: .tuple #[.float .f32 e, .int .i64 0] :: .agg #[.float .f32 h, .float .f32 v] :: .tuple #[.float .f32 e, .int .i64 0] :: .float .f32 e :: .int .i64 0 :: .int .i64 0 :: .bool false :: undef :: undef :: undef :: .float .f32 e :: .bool true :: .agg (fls c) :: .agg (#[.float .f32 h, .float .f32 v]) :: undef :: undef :: undef :: undef :: undef :: undef :: undef :: undef :: undef :: undef :: undef :: undef :: undef :: undef :: undef :: undef :: undef :: undef :: undef :: undef :: undef :: undef :: undef :: undef :: undef :: undef :: undef :: undef :: undef :: undef :: undef :: []).toArray, defers := [] } #[true, true, true, true, false, false] (k1).swap hB2 (ne_tail hn2 rfl) rfl (by rfl) 44 _ _ rfl (#[.float .f32 h, .float .f32 v]) (by rfl) (by rfl) (info_air) (by simp) (by simp [Value.oneCell']) (by rfl) (by rfl) (fun w2 k2 => ?_) AllReadyH.nil
  refine ⟨k2.tail.tail, ?_⟩
  refine take_val 4 { tmps := (.agg (fls c) :: .agg #[.float .f32 h, .float .f32 v] :: .float .f32 y :: .pointer (some ⟨w.heap.size, 0, none⟩) :: .pointer (some ⟨w.heap.size + 1, 0, none⟩) :: undef :: .pointer (some ⟨w.heap.size + 1 + 1, 0, none⟩) :: .pointer (some ⟨w.heap.size + 1 + 1 + 1, 0, none⟩) :: .float .f32 0 :: .int .i64 0 :: .float .f32 e :: .int .i64 0 :: undef :: undef :: .agg (fls c) :: .bool true :: .bool false :: .bool false :: .agg #[.float .f32 h, .float .f32 v] :: .bool true :: .bool false :: .bool false :: undef :: undef :: .float .f32 y :: .bool true :: .bool false :: undef :: undef :: .tuple #[.float .f32 e, .int .i64 0] :: .agg #[.float .f32 h, .float .f32 v] :: .tuple #[.float .f32 e, .int .i64 0] :: .float .f32 e :: .int .i64 0 :: .int .i64 0 :: .bool false :: undef :: undef :: undef :: .float .f32 e :: .bool true :: .agg (fls c) :: .agg (#[.float .f32 h, .float .f32 v]) :: undef :: undef :: undef :: undef :: undef :: undef :: undef :: undef :: undef :: undef :: undef :: undef :: undef :: undef :: undef :: undef :: undef :: undef :: undef :: undef :: undef :: undef :: undef :: undef :: undef :: undef :: undef :: undef :: undef :: undef :: undef :: []).toArray, defers := [] } #[true, true, true, true, true, false] (.float .f32 0) rfl (by rfl) (by kernel_rfl) (by kernel_rfl) (by kernel_rfl) (fun w => by rfl) (by rfl) (by rfl) (k2.tail.tail) ?_
  refine take_val 5 { tmps := (.agg (fls c) :: .agg #[.float .f32 h, .float .f32 v] :: .float .f32 y :: .pointer (some ⟨w.heap.size, 0, none⟩) :: .pointer (some ⟨w.heap.size + 1, 0, none⟩) :: undef :: .pointer (some ⟨w.heap.size + 1 + 1, 0, none⟩) :: .pointer (some ⟨w.heap.size + 1 + 1 + 1, 0, none⟩) :: .float .f32 0 :: .int .i64 0 :: .float .f32 e :: .int .i64 0 :: undef :: undef :: .agg (fls c) :: .bool true :: .bool false :: .bool false :: .agg #[.float .f32 h, .float .f32 v] :: .bool true :: .bool false :: .bool false :: undef :: undef :: .float .f32 y :: .bool true :: .bool false :: undef :: undef :: .tuple #[.float .f32 e, .int .i64 0] :: .agg #[.float .f32 h, .float .f32 v] :: .tuple #[.float .f32 e, .int .i64 0] :: .float .f32 e :: .int .i64 0 :: .int .i64 0 :: .bool false :: undef :: undef :: undef :: .float .f32 e :: .bool true :: .agg (fls c) :: .agg (#[.float .f32 h, .float .f32 v]) :: undef :: undef :: undef :: undef :: undef :: undef :: undef :: undef :: undef :: undef :: undef :: undef :: undef :: undef :: undef :: undef :: undef :: undef :: undef :: undef :: undef :: undef :: undef :: undef :: undef :: undef :: undef :: undef :: undef :: undef :: undef :: []).toArray, defers := [] } #[true, true, true, true, true, true] (.int .i64 0) rfl (by rfl) (by kernel_rfl) (by kernel_rfl) (by kernel_rfl) (fun w => by rfl) (by rfl) (by rfl) (k2.tail.tail) ?_
  refine wpAnyH_done (by kernel_rfl) (NoPanic.normal ?_) _
  go_wp2
  exact bodyPost_ret (results_two rfl _ _ (w.heap.size + 1 + 1) 26 (fls c) (0, 0) _ (w.heap.size + 1 + 1 + 1) 44 (#[.float .f32 h, .float .f32 v]) (0, 0) _ rfl (k2.at (x := (w.heap.size + 1 + 1, fls c, 26)) (by simp)) Try.underlying26 rfl (by rw [fls_size]; exact info_arr) rfl (k2.at (x := (w.heap.size + 1 + 1 + 1, #[.float .f32 h, .float .f32 v], 44)) (by simp)) Try.underlying44 rfl (info_air)) rfl ⟨rfl, k2.1⟩

set_option maxRecDepth 100000 in
set_option maxHeartbeats 2000000 in
theorem sActivate_none0 (c : Nat → Nat) (hc : Amts c) (h v : Nat) (hh : h < 4294967296) (hq : airB h v = true) (y : Nat) (hy : amtB y = true) (e : Nat) (he : excF h v = e) (ho : (FloatKind.f32.format.order e 0 == some .gt) = false) (w : World) (g k : Nat) (T T' : TypeId) (hg : arrAt w g c T) (hk : airAt w k h v T') :
    Calls Try.prog 124 #[.pointer (some ⟨g, 0, none⟩), .pointer (some ⟨k, 0, none⟩), .float .f32 y] w fun e w' => e = .returned (.tuple #[.agg (fls c), .agg #[.float .f32 h, .float .f32 v], .float .f32 0, .int .i64 0]) ∧ Below w.heap.size w w' := by
  have hE := fun w r U hr => sExcess h v hh hq w r U hr
  rw [he] at hE
  have HE := hid hE
  clear hE he
  have kk : Kept w [(g, fls c, T), (k, #[.float .f32 h, .float .f32 v], T')] w := ⟨Below.refl _ _, fun x hx => by
    simp only [List.mem_cons, List.not_mem_nil, or_false] at hx
    rcases hx with rfl | rfl
    · exact hg
    · exact hk⟩
  have lg : g < w.heap.size := kk.lt (x := (g, fls c, T)) (by simp)
  have lk : k < w.heap.size := kk.lt (x := (k, #[.float .f32 h, .float .f32 v], T')) (by simp)
  have k0 := hid ((kk.push (fls fun _ => 0) 26).push #[.float .f32 0, .float .f32 0] 44)
  have Hhc := hid hc
  have Hhh := hid hh
  have Hhq := hid hq
  have Hhy := hid hy
  clear kk hg hk hc hh hq hy
  go_enter Try.func124, Try.ntmps124
  go_wp2_with fail
  refine (HE.out _ k T' (k0.out.at (x := (k, #[.float .f32 h, .float .f32 v], T')) (by simp))).mono ?_
  rintro e w0 ⟨rfl, hb0⟩
  have k1 := hid (k0.out.stay hb0)
  clear hb0 k0
  go_wp2_with fail
  have kz : Kept w [(w.heap.size + 1, #[.float .f32 0, .float .f32 0], 44), (w.heap.size, fls fun _ => 0, 26), (g, fls c, T), (k, #[.float .f32 h, .float .f32 v], T')] _ := (k1.out.sub (l' := [(w.heap.size + 1, #[.float .f32 0, .float .f32 0], 44), (w.heap.size, fls fun _ => 0, 26), (g, fls c, T), (k, #[.float .f32 h, .float .f32 v], T')]) (by intro x hx; simp only [List.mem_cons, List.not_mem_nil, or_false] at hx; rcases hx with rfl | rfl | rfl | rfl <;> simp))
  have hB1 : w.heap.size ≤ w.heap.size := by omega
  have hB2 : w.heap.size ≤ w.heap.size + 1 := by omega
  have hn1 : ∀ x ∈ ([(g, fls c, T), (k, #[.float .f32 h, .float .f32 v], T')] : List (Nat × Array Value × TypeId)), x.1 ≠ w.heap.size := by intro x hx; simp only [List.mem_cons, List.not_mem_nil, or_false] at hx; rcases hx with rfl | rfl <;> first | (simp; done) | (simp only []; omega)
  have hn2 : ∀ x ∈ ([(w.heap.size, fls fun _ => 0, 26), (g, fls c, T), (k, #[.float .f32 h, .float .f32 v], T')] : List (Nat × Array Value × TypeId)), x.1 ≠ w.heap.size + 1 := by intro x hx; simp only [List.mem_cons, List.not_mem_nil, or_false] at hx; rcases hx with rfl | rfl | rfl <;> first | (simp; done) | (simp only []; omega)
  refine region_kept (w0 := w) (l := [(g, fls c, T), (k, #[.float .f32 h, .float .f32 v], T')]) 10 #[false, false, false, false, false, false, false, false, false, false] (by kernel_rfl) rfl rfl ?_
  have kd := kz.drew
  clear kz
  generalize World.drew _ = wd at kd ⊢
  refine take_val 0 { tmps := (.pointer (some ⟨g, 0, none⟩) :: .pointer (some ⟨k, 0, none⟩) :: .float .f32 y :: undef :: undef :: undef :: .pointer (some ⟨w.heap.size, 0, none⟩) :: .pointer (some ⟨w.heap.size + 1, 0, none⟩) :: .float .f32 0 :: .int .i64 0 :: .float .f32 e :: undef :: undef :: undef :: undef :: .pointer (some ⟨k, 0, none⟩) :: .float .f32 e :: .float .f32 e :: .bool false :: .bool true :: .pointer (some ⟨g, 0, none⟩) :: undef :: undef :: undef :: undef :: undef :: undef :: undef :: undef :: undef :: undef :: undef :: undef :: undef :: undef :: undef :: undef :: undef :: undef :: undef :: undef :: undef :: undef :: undef :: undef :: undef :: undef :: undef :: undef :: undef :: undef :: undef :: undef :: undef :: undef :: undef :: undef :: []).toArray, defers := [] } #[true, false, false, false, false, false, false, false, false, false] (.pointer (some ⟨g, 0, none⟩)) rfl (by rfl) (by kernel_rfl) (by kernel_rfl) (by kernel_rfl) (fun w => by rfl) (by rfl) (by rfl) (kd.tail.tail) ?_
  refine take_val 1 { tmps := (.pointer (some ⟨g, 0, none⟩) :: .pointer (some ⟨k, 0, none⟩) :: .float .f32 y :: undef :: undef :: undef :: .pointer (some ⟨w.heap.size, 0, none⟩) :: .pointer (some ⟨w.heap.size + 1, 0, none⟩) :: .float .f32 0 :: .int .i64 0 :: .float .f32 e :: undef :: undef :: undef :: undef :: .pointer (some ⟨k, 0, none⟩) :: .float .f32 e :: .float .f32 e :: .bool false :: .bool true :: .pointer (some ⟨g, 0, none⟩) :: .pointer (some ⟨g, 0, none⟩) :: undef :: undef :: undef :: undef :: undef :: undef :: undef :: undef :: undef :: undef :: undef :: undef :: undef :: undef :: undef :: undef :: undef :: undef :: undef :: undef :: undef :: undef :: undef :: undef :: undef :: undef :: undef :: undef :: undef :: undef :: undef :: undef :: undef :: undef :: undef :: []).toArray, defers := [] } #[true, true, false, false, false, false, false, false, false, false] (.pointer (some ⟨g, 0, none⟩)) rfl (by rfl) (by kernel_rfl) (by kernel_rfl) (by kernel_rfl) (fun w => by unfold execOp; go_simp) (by rfl) (by rfl) (kd.tail.tail) ?_
  refine take_load 2 { tmps := (.pointer (some ⟨g, 0, none⟩) :: .pointer (some ⟨k, 0, none⟩) :: .float .f32 y :: undef :: undef :: undef :: .pointer (some ⟨w.heap.size, 0, none⟩) :: .pointer (some ⟨w.heap.size + 1, 0, none⟩) :: .float .f32 0 :: .int .i64 0 :: .float .f32 e :: undef :: undef :: undef :: undef :: .pointer (some ⟨k, 0, none⟩) :: .float .f32 e :: .float .f32 e :: .bool false :: .bool true :: .pointer (some ⟨g, 0, none⟩) :: .pointer (some ⟨g, 0, none⟩) :: .agg (fls c) :: undef :: undef :: undef :: undef :: undef :: undef :: undef :: undef :: undef :: undef :: undef :: undef :: undef :: undef :: undef :: undef :: undef :: undef :: undef :: undef :: undef :: undef :: undef :: undef :: undef :: undef :: undef :: undef :: undef :: undef :: undef :: undef :: undef :: undef :: []).toArray, defers := [] } #[true, true, true, false, false, false, false, false, false, false] rfl (by rfl) (by kernel_rfl) (by kernel_rfl) (by kernel_rfl) 26 _ rfl (g) (fls c) T (by rfl) (by simp) _ Try.underlying26 rfl (by rw [fls_size]; exact info_arr) (by rfl) (by rfl) (kd.tail.tail) ?_
  refine take_val 3 { tmps := (.pointer (some ⟨g, 0, none⟩) :: .pointer (some ⟨k, 0, none⟩) :: .float .f32 y :: undef :: undef :: undef :: .pointer (some ⟨w.heap.size, 0, none⟩) :: .pointer (some ⟨w.heap.size + 1, 0, none⟩) :: .float .f32 0 :: .int .i64 0 :: .float .f32 e :: undef :: undef :: undef :: undef :: .pointer (some ⟨k, 0, none⟩) :: .float .f32 e :: .float .f32 e :: .bool false :: .bool true :: .pointer (some ⟨g, 0, none⟩) :: .pointer (some ⟨g, 0, none⟩) :: .agg (fls c) :: .pointer (some ⟨k, 0, none⟩) :: undef :: undef :: undef :: undef :: undef :: undef :: undef :: undef :: undef :: undef :: undef :: undef :: undef :: undef :: undef :: undef :: undef :: undef :: undef :: undef :: undef :: undef :: undef :: undef :: undef :: undef :: undef :: undef :: undef :: undef :: undef :: undef :: undef :: []).toArray, defers := [] } #[true, true, true, true, false, false, false, false, false, false] (.pointer (some ⟨k, 0, none⟩)) rfl (by rfl) (by kernel_rfl) (by kernel_rfl) (by kernel_rfl) (fun w => by rfl) (by rfl) (by rfl) (kd.tail.tail) ?_
  refine take_val 4 { tmps := (.pointer (some ⟨g, 0, none⟩) :: .pointer (some ⟨k, 0, none⟩) :: .float .f32 y :: undef :: undef :: undef :: .pointer (some ⟨w.heap.size, 0, none⟩) :: .pointer (some ⟨w.heap.size + 1, 0, none⟩) :: .float .f32 0 :: .int .i64 0 :: .float .f32 e :: undef :: undef :: undef :: undef :: .pointer (some ⟨k, 0, none⟩) :: .float .f32 e :: .float .f32 e :: .bool false :: .bool true :: .pointer (some ⟨g, 0, none⟩) :: .pointer (some ⟨g, 0, none⟩) :: .agg (fls c) :: .pointer (some ⟨k, 0, none⟩) :: .pointer (some ⟨k, 0, none⟩) :: undef :: undef :: undef :: undef :: undef :: undef :: undef :: undef :: undef :: undef :: undef :: undef :: undef :: undef :: undef :: undef :: undef :: undef :: undef :: undef :: undef :: undef :: undef :: undef :: undef :: undef :: undef :: undef :: undef :: undef :: undef :: undef :: []).toArray, defers := [] } #[true, true, true, true, true, false, false, false, false, false] (.pointer (some ⟨k, 0, none⟩)) rfl (by rfl) (by kernel_rfl) (by kernel_rfl) (by kernel_rfl) (fun w => by unfold execOp; go_simp) (by rfl) (by rfl) (kd.tail.tail) ?_
  refine take_load 5 { tmps := (.pointer (some ⟨g, 0, none⟩) :: .pointer (some ⟨k, 0, none⟩) :: .float .f32 y :: undef :: undef :: undef :: .pointer (some ⟨w.heap.size, 0, none⟩) :: .pointer (some ⟨w.heap.size + 1, 0, none⟩) :: .float .f32 0 :: .int .i64 0 :: .float .f32 e :: undef :: undef :: undef :: undef :: .pointer (some ⟨k, 0, none⟩) :: .float .f32 e :: .float .f32 e :: .bool false :: .bool true :: .pointer (some ⟨g, 0, none⟩) :: .pointer (some ⟨g, 0, none⟩) :: .agg (fls c) :: .pointer (some ⟨k, 0, none⟩) :: .pointer (some ⟨k, 0, none⟩) :: .agg (#[.float .f32 h, .float .f32 v]) :: undef :: undef :: undef :: undef :: undef :: undef :: undef :: undef :: undef :: undef :: undef :: undef :: undef :: undef :: undef :: undef :: undef :: undef :: undef :: undef :: undef :: undef :: undef :: undef :: undef :: undef :: undef :: undef :: undef :: undef :: undef :: []).toArray, defers := [] } #[true, true, true, true, true, true, false, false, false, false] rfl (by rfl) (by kernel_rfl) (by kernel_rfl) (by kernel_rfl) 44 _ rfl (k) (#[.float .f32 h, .float .f32 v]) T' (by rfl) (by simp) _ Try.underlying44 rfl (info_air) (by rfl) (by rfl) (kd.tail.tail) ?_
  refine wpAnyH_ready (rs := [6]) (by kernel_rfl) (by simp) ?_
  refine storeK 6 { tmps := (.pointer (some ⟨g, 0, none⟩) :: .pointer (some ⟨k, 0, none⟩) :: .float .f32 y :: undef :: undef :: undef :: .pointer (some ⟨w.heap.size, 0, none⟩) :: .pointer (some ⟨w.heap.size + 1, 0, none⟩) :: .float .f32 0 :: .int .i64 0 :: .float .f32 e :: undef :: undef :: undef :: undef :: .pointer (some ⟨k, 0, none⟩) :: .float .f32 e :: .float .f32 e :: .bool false :: .bool true :: .pointer (some ⟨g, 0, none⟩) :: .pointer (some ⟨g, 0, none⟩) :: .agg (fls c) :: .pointer (some ⟨k, 0, none⟩) :: .pointer (some ⟨k, 0, none⟩) :: .agg (#[.float .f32 h, .float .f32 v]) :: undef :: undef :: undef :: undef :: undef :: undef :: undef :: undef :: undef :: undef :: undef :: undef :: undef :: undef :: undef :: undef :: undef :: undef :: undef :: undef :: undef :: undef :: undef :: undef :: undef :: undef :: undef :: undef :: undef :: undef :: undef :: []).toArray, defers := [] } #[true, true, true, true, true, true, true, false, false, false] (kd).swap hB1 (ne_consG (Ne.symm (hn2 _ (List.mem_cons_self ..))) hn1) rfl (by rfl) 26 _ _ rfl (fls c) (by rfl) (by rfl) (by rw [fls_size]; exact info_arr) (by simp) (fls_one _) (by rfl) (by rfl) (fun w1 k1 => ?_) AllReadyH.nil
  refine ⟨k1.tail.tail, ?_⟩
  refine wpAnyH_ready (rs := [7]) (by kernel_rfl) (by simp) ?_
  refine storeK 7 { tmps := (.pointer (some ⟨g, 0, none⟩) :: .pointer (some ⟨k, 0, none⟩) :: .float .f32 y :: undef :: undef :: undef :: .pointer (some ⟨w.heap.size, 0, none⟩) :: .pointer (some ⟨w.heap.size + 1, 0, none⟩) :: .float .f32 0 :: .int .i64 0 :: .float .f32 e :: undef :: undef :: undef :: undef :: .pointer (some ⟨k, 0, none⟩) :: .float .f32 e :: .float .f32 e :: .bool false :: .bool true :: .pointer (some ⟨g, 0, none⟩) :: .pointer (some ⟨g, 0, none⟩) :: .agg (fls c) :: .pointer (some ⟨k, 0, none⟩) :: .pointer (some ⟨k, 0, none⟩) :: .agg (#[.float .f32 h, .float .f32 v]) :: undef :: undef :: undef :: undef :: undef :: undef :: undef :: undef :: undef :: undef :: undef :: undef :: undef :: undef :: undef :: undef :: undef :: undef :: undef :: undef :: undef :: undef :: undef :: undef :: undef :: undef :: undef :: undef :: undef :: undef :: undef :: []).toArray, defers := [] } #[true, true, true, true, true, true, true, true, false, false] (k1).swap hB2 (ne_tail hn2 rfl) rfl (by rfl) 44 _ _ rfl (#[.float .f32 h, .float .f32 v]) (by rfl) (by rfl) (info_air) (by simp) (by simp [Value.oneCell']) (by rfl) (by rfl) (fun w2 k2 => ?_) AllReadyH.nil
  refine ⟨k2.tail.tail, ?_⟩
  refine take_val 8 { tmps := (.pointer (some ⟨g, 0, none⟩) :: .pointer (some ⟨k, 0, none⟩) :: .float .f32 y :: undef :: undef :: undef :: .pointer (some ⟨w.heap.size, 0, none⟩) :: .pointer (some ⟨w.heap.size + 1, 0, none⟩) :: .float .f32 0 :: .int .i64 0 :: .float .f32 e :: undef :: undef :: undef :: undef :: .pointer (some ⟨k, 0, none⟩) :: .float .f32 e :: .float .f32 e :: .bool false :: .bool true :: .pointer (some ⟨g, 0, none⟩) :: .pointer (some ⟨g, 0, none⟩) :: .agg (fls c) :: .pointer (some ⟨k, 0, none⟩) :: .pointer (some ⟨k, 0, none⟩) :: .agg (#[.float .f32 h, .float .f32 v]) :: undef :: undef :: undef :: undef :: undef :: undef :: undef :: undef :: undef :: undef :: undef :: undef :: undef :: undef :: undef :: undef :: undef :: undef :: undef :: undef :: undef :: undef :: undef :: undef :: undef :: undef :: undef :: undef :: undef :: undef :: undef :: []).toArray, defers := [] } #[true, true, true, true, true, true, true, true, true, false] (.float .f32 0) rfl (by rfl) (by kernel_rfl) (by kernel_rfl) (by kernel_rfl) (fun w => by rfl) (by rfl) (by rfl) (k2.tail.tail) ?_
  refine take_val 9 { tmps := (.pointer (some ⟨g, 0, none⟩) :: .pointer (some ⟨k, 0, none⟩) :: .float .f32 y :: undef :: undef :: undef :: .pointer (some ⟨w.heap.size, 0, none⟩) :: .pointer (some ⟨w.heap.size + 1, 0, none⟩) :: .float .f32 0 :: .int .i64 0 :: .float .f32 e :: undef :: undef :: undef :: undef :: .pointer (some ⟨k, 0, none⟩) :: .float .f32 e :: .float .f32 e :: .bool false :: .bool true :: .pointer (some ⟨g, 0, none⟩) :: .pointer (some ⟨g, 0, none⟩) :: .agg (fls c) :: .pointer (some ⟨k, 0, none⟩) :: .pointer (some ⟨k, 0, none⟩) :: .agg (#[.float .f32 h, .float .f32 v]) :: undef :: undef :: undef :: undef :: undef :: undef :: undef :: undef :: undef :: undef :: undef :: undef :: undef :: undef :: undef :: undef :: undef :: undef :: undef :: undef :: undef :: undef :: undef :: undef :: undef :: undef :: undef :: undef :: undef :: undef :: undef :: []).toArray, defers := [] } #[true, true, true, true, true, true, true, true, true, true] (.int .i64 0) rfl (by rfl) (by kernel_rfl) (by kernel_rfl) (by kernel_rfl) (fun w => by rfl) (by rfl) (by rfl) (k2.tail.tail) ?_
  refine wpAnyH_done (by kernel_rfl) (NoPanic.normal ?_) _
  go_wp2
  exact bodyPost_ret (results_two rfl _ _ (w.heap.size) 26 (fls c) (0, 0) _ (w.heap.size + 1) 44 (#[.float .f32 h, .float .f32 v]) (0, 0) _ rfl (k2.at (x := (w.heap.size, fls c, 26)) (by simp)) Try.underlying26 rfl (by rw [fls_size]; exact info_arr) rfl (k2.at (x := (w.heap.size + 1, #[.float .f32 h, .float .f32 v], 44)) (by simp)) Try.underlying44 rfl (info_air)) rfl ⟨rfl, k2.1⟩

set_option maxRecDepth 100000 in
theorem sSpend_le (h v g s : Nat) (hv : v ≤ 1148846080) (hg : g < INF) (hs : spendF v g = s) (hle : g ≤ v) (w : World) :
    Calls Try.prog 161 #[.agg #[.float .f32 h, .float .f32 v], .float .f32 g] w fun e w' => e = .returned (.agg #[.float .f32 h, .float .f32 s]) ∧ Below w.heap.size w w' := by
  have F := spend_facts hv hg
  have hb := fun w => run_float_arith (P := Try.prog) w .sub 24 .f32 _ _ _ F.s
  have e : subW v g = s := by rw [← hs]; unfold subW spendF; rw [if_pos hle, if_pos hle]
  rw [e] at hb
  have hl := F.lo
  rw [e, decide_eq_false (by omega)] at hl
  have hh := F.hi
  rw [hs] at hh
  clear F e hs
  have k0 : Hid (Kept w [(w.heap.size, #[.float .f32 h, .float .f32 v], 44), (w.heap.size + 1, #[.float .f32 0, .float .f32 0], 44)] ((w.alloc (.cells (#[.float .f32 h, .float .f32 v]) 44)).alloc (.cells (#[.float .f32 0, .float .f32 0]) 44))) := hid ((((Kept.nil w).push (#[.float .f32 h, .float .f32 v]) 44).push (#[.float .f32 0, .float .f32 0]) 44).sub (by simp))
  clear k0 hv hg
  go_enter Try.func161, Try.ntmps161
  go_wp2
  have kE : Kept w [(w.heap.size, #[.float .f32 h, .float .f32 s], 44), (w.heap.size + 1, #[.float .f32 h, .float .f32 s], 44)] ((w.alloc (.cells (#[.float .f32 h, .float .f32 s]) 44)).alloc (.cells (#[.float .f32 h, .float .f32 s]) 44)) := (((Kept.nil w).push (#[.float .f32 h, .float .f32 s]) 44).push (#[.float .f32 h, .float .f32 s]) 44).sub (by simp)
  exact bodyPost_ret (results_cell_row rfl _ _ (w.heap.size + 1) 44 (#[.float .f32 h, .float .f32 s]) (0, 0) _ rfl (kE.at (x := (w.heap.size + 1, #[.float .f32 h, .float .f32 s], 44)) (by simp)) Try.underlying44 rfl info_air) rfl ⟨rfl, kE.1⟩

set_option maxRecDepth 100000 in
theorem sSpend_lt (h v g : Nat) (hv : v ≤ 1148846080) (hg : g < INF) (hs : spendF v g = 0) (hlt : v < g) (w : World) :
    Calls Try.prog 161 #[.agg #[.float .f32 h, .float .f32 v], .float .f32 g] w fun e w' => e = .returned (.agg #[.float .f32 h, .float .f32 0]) ∧ Below w.heap.size w w' := by
  have F := spend_facts hv hg
  have hb := fun w => run_float_arith (P := Try.prog) w .sub 24 .f32 _ _ _ F.s
  have hl := F.lo
  rw [decide_eq_true hlt] at hl
  have hh := F.hi
  rw [hs] at hh
  clear F hs
  have k0 : Hid (Kept w [(w.heap.size, #[.float .f32 h, .float .f32 v], 44), (w.heap.size + 1, #[.float .f32 0, .float .f32 0], 44)] ((w.alloc (.cells (#[.float .f32 h, .float .f32 v]) 44)).alloc (.cells (#[.float .f32 0, .float .f32 0]) 44))) := hid ((((Kept.nil w).push (#[.float .f32 h, .float .f32 v]) 44).push (#[.float .f32 0, .float .f32 0]) 44).sub (by simp))
  clear k0 hv hg
  go_enter Try.func161, Try.ntmps161
  go_wp2
  have kE : Kept w [(w.heap.size, #[.float .f32 h, .float .f32 0], 44), (w.heap.size + 1, #[.float .f32 h, .float .f32 0], 44)] ((w.alloc (.cells (#[.float .f32 h, .float .f32 0]) 44)).alloc (.cells (#[.float .f32 h, .float .f32 0]) 44)) := (((Kept.nil w).push (#[.float .f32 h, .float .f32 0]) 44).push (#[.float .f32 h, .float .f32 0]) 44).sub (by simp)
  exact bodyPost_ret (results_cell_row rfl _ _ (w.heap.size + 1) 44 (#[.float .f32 h, .float .f32 0]) (0, 0) _ rfl (kE.at (x := (w.heap.size + 1, #[.float .f32 h, .float .f32 0], 44)) (by simp)) Try.underlying44 rfl info_air) rfl ⟨rfl, kE.1⟩

theorem sSpend (h v g : Nat) (hv : v ≤ 1148846080) (hg : g < INF) (w : World) :
    Calls Try.prog 161 #[.agg #[.float .f32 h, .float .f32 v], .float .f32 g] w fun e w' => e = .returned (.agg #[.float .f32 h, .float .f32 (spendF v g)]) ∧ Below w.heap.size w w' := by
  by_cases hle : g ≤ v
  · exact sSpend_le h v g _ hv hg rfl hle w
  · have h0 : spendF v g = 0 := by unfold spendF; rw [if_neg hle]
    rw [h0]
    exact sSpend_lt h v g hv hg h0 (by omega) w

theorem run_sSpend2 (a : Act) (x0 : Operand) (v0 : Value) (h0 : a.eval x0 = v0) (x1 : Operand) (v1 : Value) (h1 : a.eval x1 = v1) (d : Option Tmp) (ats : Array TypeId) (t : TypeId) (ps : String) (af : Array Edge) (gd : Option (Nat × Bool)) (w : World) :
    (execOp a.eval ⟨d, .call { callee := .value (.func 161), args := #[x0, x1], argTypes := ats }, t, ps, af, gd⟩).run Try.prog w = .ok (.enter 161 #[v0, v1]) w := by
  subst h0 h1
  unfold execOp
  go_simp

set_option maxRecDepth 100000 in
set_option maxHeartbeats 2000000 in
theorem sActivate_ok_le (c : Nat → Nat) (hc : Amts c) (h v : Nat) (hh : h < 4294967296) (hq : airB h v = true) (y : Nat) (hy : amtB y = true) (e m : Nat) (he : excF h v = e) (hea : amtB e = true) (h0 : 0 < e) (hm : madeF e y = m) (hma : amtB m = true) (hq1 : e ≤ 1065353216) (hF : Fins (upd c 0 (fadd (c 0) m)))  (w : World) (g k : Nat) (T T' : TypeId) (hg : arrAt w g c T) (hk : airAt w k h v T') :
    Calls Try.prog 124 #[.pointer (some ⟨g, 0, none⟩), .pointer (some ⟨k, 0, none⟩), .float .f32 y] w fun e w' => e = .returned (.tuple #[.agg (fls (upd c 0 (fadd (c 0) m))), .agg #[.float .f32 h, .float .f32 (spendF v (fdiv m 1199570944))], .float .f32 m, .int .i64 0]) ∧ Below w.heap.size w w' := by
  have hE := fun w r U hr => sExcess h v hh hq w r U hr
  rw [he] at hE
  have HE := hid hE
  have hb1 := gt_t hea (y := 0) (by decide) h0
  have hb2 := gt_f hea (y := 1065353216) (by decide) hq1
  have hml := fun w => run_mul (P := Try.prog) 24 hy (hea) w
  rw [show fmul y e = m by rw [← hm]; unfold madeF; rw [Nat.min_eq_left (by omega)]] at hml
  have had := fun w => run_add (P := Try.prog) 24 (amt_nn (hc 0 (by decide))) (amt_nn hma) w
  have Hdv := hid (fun w => run_div (P := Try.prog) 24 (amt_nn hma) (by decide : amtB 1199570944 = true) (by decide) w)
  have Hvl := hid (vap_le (airB_iff.1 hq).2.1 (airB_iff.1 hq).2.2)
  have Hgl : Hid (fdiv m 1199570944 < INF) := hid (Nat.lt_of_le_of_lt (div_less (k := 16) (by decide) (amtB_iff.1 hma)) (amtB_iff.1 hma))
  have HDl := hid (upd_lt (k := 0) (fun i hi => amt_lt (hc i hi)) (nn_lt (add_eq (amt_nn (hc 0 (by decide))) (amt_nn hma)).2))
  clear hE he hea h0 hm hma hq1
  have kk : Kept w [(g, fls c, T), (k, #[.float .f32 h, .float .f32 v], T')] w := ⟨Below.refl _ _, fun x hx => by
    simp only [List.mem_cons, List.not_mem_nil, or_false] at hx
    rcases hx with rfl | rfl
    · exact hg
    · exact hk⟩
  have lg : g < w.heap.size := kk.lt (x := (g, fls c, T)) (by simp)
  have lk : k < w.heap.size := kk.lt (x := (k, #[.float .f32 h, .float .f32 v], T')) (by simp)
  have k0 := hid ((kk.push (fls fun _ => 0) 26).push #[.float .f32 0, .float .f32 0] 44)
  have Hhc := hid hc
  have Hhh := hid hh
  have Hhq := hid hq
  have Hhy := hid hy
  have HhF := hid hF
  clear kk hg hk hc hh hq hy hF
  go_enter Try.func124, Try.ntmps124
  go_wp2_with fail
  refine (HE.out _ k T' (k0.out.at (x := (k, #[.float .f32 h, .float .f32 v], T')) (by simp))).mono ?_
  rintro e w0 ⟨rfl, hb0⟩
  have k1 := hid (k0.out.stay hb0)
  clear hb0 k0
  have hS4 : w.heap.size + 1 < w0.heap.size := k1.out.lt (x := (w.heap.size + 1, #[.float .f32 0, .float .f32 0], 44)) (by simp)
  have ka := hid (k1.out.push (fls fun _ => 0) 26)
  go_wp2_with (first | (refine wpList_load_row rfl 26 _ rfl (w0.heap.size) rfl 26 (fls (upd c 0 (fadd (c 0) m))) (0, 0) _ (kc.out.at (x := (w0.heap.size, fls (upd c 0 (fadd (c 0) m)), 26)) (by simp)) Try.underlying26 rfl (by rw [fls_size]; exact info_arr) ?_) | (refine store_kept (w0 := w) (l := [(w.heap.size + 1, #[.float .f32 0, .float .f32 0], 44), (w.heap.size, fls fun _ => 0, 26), (g, fls c, T), (k, #[.float .f32 h, .float .f32 v], T')]) rfl 26 _ _ rfl (w0.heap.size) (fls c) rfl rfl 26 (fls fun _ => 0) (ka.out.sub (l' := [(w0.heap.size, fls fun _ => 0, 26), (w.heap.size + 1, #[.float .f32 0, .float .f32 0], 44), (w.heap.size, fls fun _ => 0, 26), (g, fls c, T), (k, #[.float .f32 h, .float .f32 v], T')]) (by intro x hx; simp only [List.mem_cons, List.not_mem_nil, or_false] at hx; rcases hx with rfl | rfl | rfl | rfl | rfl <;> simp)) (by omega) (by intro x hx; simp only [List.mem_cons, List.not_mem_nil, or_false] at hx; rcases hx with rfl | rfl | rfl | rfl <;> first | (simp; done) | (simp only []; omega)) (by rw [fls_size]; exact info_arr) (by simp) (fls_one _) ?_; intro wkb kb; have kb := hid kb; have q0 : World.cell? wkb ⟨w0.heap.size, 0, none⟩ = some (.float .f32 (c 0)) := arrAt.cell (c := c) (kb.out.at (x := (w0.heap.size, fls c, 26)) (by simp)) (by decide); have f0 : World.frozen? wkb ⟨w0.heap.size, 0, none⟩ = false := arrAt.frozen (c := c) (kb.out.at (x := (w0.heap.size, fls c, 26)) (by simp)) 0; have kc := hid (kb.out.cell (by omega) (by intro x hx; simp only [List.mem_cons, List.not_mem_nil, or_false] at hx; rcases hx with rfl | rfl | rfl | rfl <;> first | (simp; done) | (simp only []; omega)) 0 (fadd (c 0) m))) | (refine wpList_load_row rfl 26 _ rfl (g) rfl T (fls c) (0, 0) _ (k1.out.at (x := (g, fls c, T)) (by simp)) Try.underlying26 rfl (by rw [fls_size]; exact info_arr) ?_))
  refine (sMade (upd c 0 (fadd (c 0) m)) HDl.out (upd c 0 (fadd (c 0) m)) 0 (fun _ => ⟨rfl, rfl⟩) (fun h => absurd HhF.out h) _).mono ?_
  rintro e wm1 ⟨rfl, hbm1⟩
  have km1z := hid (kc.out.stay hbm1)
  clear hbm1
  have hS5 : w0.heap.size < wm1.heap.size := km1z.out.lt (x := (w0.heap.size, fls (upd c 0 (fadd (c 0) m)), 26)) (by simp)
  have kd := hid (km1z.out.push (fls fun _ => 0) 26)
  go_wp2_with (first | (refine store_kept (w0 := w) (l := [(w0.heap.size, fls (upd c 0 (fadd (c 0) m)), 26), (w.heap.size + 1, #[.float .f32 0, .float .f32 0], 44), (w.heap.size, fls fun _ => 0, 26), (g, fls c, T), (k, #[.float .f32 h, .float .f32 v], T')]) rfl 26 _ _ rfl (wm1.heap.size) (fls (upd c 0 (fadd (c 0) m))) rfl rfl 26 (fls fun _ => 0) (kd.out.sub (l' := [(wm1.heap.size, fls fun _ => 0, 26), (w0.heap.size, fls (upd c 0 (fadd (c 0) m)), 26), (w.heap.size + 1, #[.float .f32 0, .float .f32 0], 44), (w.heap.size, fls fun _ => 0, 26), (g, fls c, T), (k, #[.float .f32 h, .float .f32 v], T')]) (by intro x hx; simp only [List.mem_cons, List.not_mem_nil, or_false] at hx; rcases hx with rfl | rfl | rfl | rfl | rfl | rfl <;> simp)) (by omega) (by intro x hx; simp only [List.mem_cons, List.not_mem_nil, or_false] at hx; rcases hx with rfl | rfl | rfl | rfl | rfl <;> first | (simp; done) | (simp only []; omega)) (by rw [fls_size]; exact info_arr) (by simp) (fls_one _) ?_; intro wke ke; have ke := hid ke))
  have kz : Kept w [(w.heap.size + 1, #[.float .f32 0, .float .f32 0], 44), (w.heap.size, fls fun _ => 0, 26), (wm1.heap.size, fls (upd c 0 (fadd (c 0) m)), 26), (w0.heap.size, fls (upd c 0 (fadd (c 0) m)), 26), (g, fls c, T), (k, #[.float .f32 h, .float .f32 v], T')] _ := (ke.out.sub (l' := [(w.heap.size + 1, #[.float .f32 0, .float .f32 0], 44), (w.heap.size, fls fun _ => 0, 26), (wm1.heap.size, fls (upd c 0 (fadd (c 0) m)), 26), (w0.heap.size, fls (upd c 0 (fadd (c 0) m)), 26), (g, fls c, T), (k, #[.float .f32 h, .float .f32 v], T')]) (by intro x hx; simp only [List.mem_cons, List.not_mem_nil, or_false] at hx; rcases hx with rfl | rfl | rfl | rfl | rfl | rfl <;> simp))
  have hB1 : w.heap.size ≤ w.heap.size := by omega
  have hB2 : w.heap.size ≤ w.heap.size + 1 := by omega
  have hn1 : ∀ x ∈ ([(wm1.heap.size, fls (upd c 0 (fadd (c 0) m)), 26), (w0.heap.size, fls (upd c 0 (fadd (c 0) m)), 26), (g, fls c, T), (k, #[.float .f32 h, .float .f32 v], T')] : List (Nat × Array Value × TypeId)), x.1 ≠ w.heap.size := by intro x hx; simp only [List.mem_cons, List.not_mem_nil, or_false] at hx; rcases hx with rfl | rfl | rfl | rfl <;> first | (simp; done) | (simp only []; omega)
  have hn2 : ∀ x ∈ ([(w.heap.size, fls fun _ => 0, 26), (wm1.heap.size, fls (upd c 0 (fadd (c 0) m)), 26), (w0.heap.size, fls (upd c 0 (fadd (c 0) m)), 26), (g, fls c, T), (k, #[.float .f32 h, .float .f32 v], T')] : List (Nat × Array Value × TypeId)), x.1 ≠ w.heap.size + 1 := by intro x hx; simp only [List.mem_cons, List.not_mem_nil, or_false] at hx; rcases hx with rfl | rfl | rfl | rfl | rfl <;> first | (simp; done) | (simp only []; omega)
  refine region_kept (w0 := w) (l := [(wm1.heap.size, fls (upd c 0 (fadd (c 0) m)), 26), (w0.heap.size, fls (upd c 0 (fadd (c 0) m)), 26), (g, fls c, T), (k, #[.float .f32 h, .float .f32 v], T')]) 12 #[false, false, false, false, false, false, false, false, false, false, false, false] (by kernel_rfl) rfl rfl ?_
  have kd := kz.drew
  clear kz
  generalize World.drew _ = wd at kd ⊢
  refine take_load 0 { tmps := (.pointer (some ⟨g, 0, none⟩) :: .pointer (some ⟨k, 0, none⟩) :: .float .f32 y :: undef :: undef :: undef :: .pointer (some ⟨w.heap.size, 0, none⟩) :: .pointer (some ⟨w.heap.size + 1, 0, none⟩) :: .float .f32 0 :: .int .i64 0 :: .float .f32 e :: .float .f32 m :: .pointer (some ⟨w0.heap.size, 0, none⟩) :: .pointer (some ⟨wm1.heap.size, 0, none⟩) :: .int .i64 0 :: .pointer (some ⟨k, 0, none⟩) :: .float .f32 e :: .float .f32 e :: .bool true :: .bool false :: undef :: undef :: undef :: undef :: undef :: undef :: .float .f32 e :: .bool false :: .float .f32 y :: .float .f32 e :: .float .f32 m :: .pointer (some ⟨g, 0, none⟩) :: .pointer (some ⟨g, 0, none⟩) :: .agg (fls c) :: .pointer (some ⟨w0.heap.size, 0, none⟩) :: .float .f32 (c 0) :: .float .f32 m :: .float .f32 (fadd (c 0) m) :: .pointer (some ⟨w0.heap.size, 0, none⟩) :: .tuple #[.agg (fls (upd c 0 (fadd (c 0) m))), .int .i64 0] :: .agg (fls (upd c 0 (fadd (c 0) m))) :: .tuple #[.agg (fls (upd c 0 (fadd (c 0) m))), .int .i64 0] :: .agg (fls (upd c 0 (fadd (c 0) m))) :: .int .i64 0 :: .int .i64 0 :: .bool false :: undef :: undef :: undef :: .agg (fls (upd c 0 (fadd (c 0) m))) :: undef :: undef :: undef :: undef :: undef :: undef :: undef :: []).toArray, defers := [] } #[true, false, false, false, false, false, false, false, false, false, false, false] rfl (by rfl) (by kernel_rfl) (by kernel_rfl) (by kernel_rfl) 26 _ rfl (wm1.heap.size) (fls (upd c 0 (fadd (c 0) m))) 26 (by rfl) (by simp) _ Try.underlying26 rfl (by rw [fls_size]; exact info_arr) (by rfl) (by rfl) (kd.tail.tail) ?_
  refine take_val 1 { tmps := (.pointer (some ⟨g, 0, none⟩) :: .pointer (some ⟨k, 0, none⟩) :: .float .f32 y :: undef :: undef :: undef :: .pointer (some ⟨w.heap.size, 0, none⟩) :: .pointer (some ⟨w.heap.size + 1, 0, none⟩) :: .float .f32 0 :: .int .i64 0 :: .float .f32 e :: .float .f32 m :: .pointer (some ⟨w0.heap.size, 0, none⟩) :: .pointer (some ⟨wm1.heap.size, 0, none⟩) :: .int .i64 0 :: .pointer (some ⟨k, 0, none⟩) :: .float .f32 e :: .float .f32 e :: .bool true :: .bool false :: undef :: undef :: undef :: undef :: undef :: undef :: .float .f32 e :: .bool false :: .float .f32 y :: .float .f32 e :: .float .f32 m :: .pointer (some ⟨g, 0, none⟩) :: .pointer (some ⟨g, 0, none⟩) :: .agg (fls c) :: .pointer (some ⟨w0.heap.size, 0, none⟩) :: .float .f32 (c 0) :: .float .f32 m :: .float .f32 (fadd (c 0) m) :: .pointer (some ⟨w0.heap.size, 0, none⟩) :: .tuple #[.agg (fls (upd c 0 (fadd (c 0) m))), .int .i64 0] :: .agg (fls (upd c 0 (fadd (c 0) m))) :: .tuple #[.agg (fls (upd c 0 (fadd (c 0) m))), .int .i64 0] :: .agg (fls (upd c 0 (fadd (c 0) m))) :: .int .i64 0 :: .int .i64 0 :: .bool false :: undef :: undef :: undef :: .agg (fls (upd c 0 (fadd (c 0) m))) :: .pointer (some ⟨k, 0, none⟩) :: undef :: undef :: undef :: undef :: undef :: undef :: []).toArray, defers := [] } #[true, true, false, false, false, false, false, false, false, false, false, false] (.pointer (some ⟨k, 0, none⟩)) rfl (by rfl) (by kernel_rfl) (by kernel_rfl) (by kernel_rfl) (fun w => by rfl) (by rfl) (by rfl) (kd.tail.tail) ?_
  refine take_val 2 { tmps := (.pointer (some ⟨g, 0, none⟩) :: .pointer (some ⟨k, 0, none⟩) :: .float .f32 y :: undef :: undef :: undef :: .pointer (some ⟨w.heap.size, 0, none⟩) :: .pointer (some ⟨w.heap.size + 1, 0, none⟩) :: .float .f32 0 :: .int .i64 0 :: .float .f32 e :: .float .f32 m :: .pointer (some ⟨w0.heap.size, 0, none⟩) :: .pointer (some ⟨wm1.heap.size, 0, none⟩) :: .int .i64 0 :: .pointer (some ⟨k, 0, none⟩) :: .float .f32 e :: .float .f32 e :: .bool true :: .bool false :: undef :: undef :: undef :: undef :: undef :: undef :: .float .f32 e :: .bool false :: .float .f32 y :: .float .f32 e :: .float .f32 m :: .pointer (some ⟨g, 0, none⟩) :: .pointer (some ⟨g, 0, none⟩) :: .agg (fls c) :: .pointer (some ⟨w0.heap.size, 0, none⟩) :: .float .f32 (c 0) :: .float .f32 m :: .float .f32 (fadd (c 0) m) :: .pointer (some ⟨w0.heap.size, 0, none⟩) :: .tuple #[.agg (fls (upd c 0 (fadd (c 0) m))), .int .i64 0] :: .agg (fls (upd c 0 (fadd (c 0) m))) :: .tuple #[.agg (fls (upd c 0 (fadd (c 0) m))), .int .i64 0] :: .agg (fls (upd c 0 (fadd (c 0) m))) :: .int .i64 0 :: .int .i64 0 :: .bool false :: undef :: undef :: undef :: .agg (fls (upd c 0 (fadd (c 0) m))) :: .pointer (some ⟨k, 0, none⟩) :: .pointer (some ⟨k, 0, none⟩) :: undef :: undef :: undef :: undef :: undef :: []).toArray, defers := [] } #[true, true, true, false, false, false, false, false, false, false, false, false] (.pointer (some ⟨k, 0, none⟩)) rfl (by rfl) (by kernel_rfl) (by kernel_rfl) (by kernel_rfl) (fun w => by unfold execOp; go_simp) (by rfl) (by rfl) (kd.tail.tail) ?_
  refine take_load 3 { tmps := (.pointer (some ⟨g, 0, none⟩) :: .pointer (some ⟨k, 0, none⟩) :: .float .f32 y :: undef :: undef :: undef :: .pointer (some ⟨w.heap.size, 0, none⟩) :: .pointer (some ⟨w.heap.size + 1, 0, none⟩) :: .float .f32 0 :: .int .i64 0 :: .float .f32 e :: .float .f32 m :: .pointer (some ⟨w0.heap.size, 0, none⟩) :: .pointer (some ⟨wm1.heap.size, 0, none⟩) :: .int .i64 0 :: .pointer (some ⟨k, 0, none⟩) :: .float .f32 e :: .float .f32 e :: .bool true :: .bool false :: undef :: undef :: undef :: undef :: undef :: undef :: .float .f32 e :: .bool false :: .float .f32 y :: .float .f32 e :: .float .f32 m :: .pointer (some ⟨g, 0, none⟩) :: .pointer (some ⟨g, 0, none⟩) :: .agg (fls c) :: .pointer (some ⟨w0.heap.size, 0, none⟩) :: .float .f32 (c 0) :: .float .f32 m :: .float .f32 (fadd (c 0) m) :: .pointer (some ⟨w0.heap.size, 0, none⟩) :: .tuple #[.agg (fls (upd c 0 (fadd (c 0) m))), .int .i64 0] :: .agg (fls (upd c 0 (fadd (c 0) m))) :: .tuple #[.agg (fls (upd c 0 (fadd (c 0) m))), .int .i64 0] :: .agg (fls (upd c 0 (fadd (c 0) m))) :: .int .i64 0 :: .int .i64 0 :: .bool false :: undef :: undef :: undef :: .agg (fls (upd c 0 (fadd (c 0) m))) :: .pointer (some ⟨k, 0, none⟩) :: .pointer (some ⟨k, 0, none⟩) :: .agg (#[.float .f32 h, .float .f32 v]) :: undef :: undef :: undef :: undef :: []).toArray, defers := [] } #[true, true, true, true, false, false, false, false, false, false, false, false] rfl (by rfl) (by kernel_rfl) (by kernel_rfl) (by kernel_rfl) 44 _ rfl (k) (#[.float .f32 h, .float .f32 v]) T' (by rfl) (by simp) _ Try.underlying44 rfl (info_air) (by rfl) (by rfl) (kd.tail.tail) ?_
  refine take_val 4 { tmps := (.pointer (some ⟨g, 0, none⟩) :: .pointer (some ⟨k, 0, none⟩) :: .float .f32 y :: undef :: undef :: undef :: .pointer (some ⟨w.heap.size, 0, none⟩) :: .pointer (some ⟨w.heap.size + 1, 0, none⟩) :: .float .f32 0 :: .int .i64 0 :: .float .f32 e :: .float .f32 m :: .pointer (some ⟨w0.heap.size, 0, none⟩) :: .pointer (some ⟨wm1.heap.size, 0, none⟩) :: .int .i64 0 :: .pointer (some ⟨k, 0, none⟩) :: .float .f32 e :: .float .f32 e :: .bool true :: .bool false :: undef :: undef :: undef :: undef :: undef :: undef :: .float .f32 e :: .bool false :: .float .f32 y :: .float .f32 e :: .float .f32 m :: .pointer (some ⟨g, 0, none⟩) :: .pointer (some ⟨g, 0, none⟩) :: .agg (fls c) :: .pointer (some ⟨w0.heap.size, 0, none⟩) :: .float .f32 (c 0) :: .float .f32 m :: .float .f32 (fadd (c 0) m) :: .pointer (some ⟨w0.heap.size, 0, none⟩) :: .tuple #[.agg (fls (upd c 0 (fadd (c 0) m))), .int .i64 0] :: .agg (fls (upd c 0 (fadd (c 0) m))) :: .tuple #[.agg (fls (upd c 0 (fadd (c 0) m))), .int .i64 0] :: .agg (fls (upd c 0 (fadd (c 0) m))) :: .int .i64 0 :: .int .i64 0 :: .bool false :: undef :: undef :: undef :: .agg (fls (upd c 0 (fadd (c 0) m))) :: .pointer (some ⟨k, 0, none⟩) :: .pointer (some ⟨k, 0, none⟩) :: .agg (#[.float .f32 h, .float .f32 v]) :: .float .f32 m :: undef :: undef :: undef :: []).toArray, defers := [] } #[true, true, true, true, true, false, false, false, false, false, false, false] (.float .f32 m) rfl (by rfl) (by kernel_rfl) (by kernel_rfl) (by kernel_rfl) (fun w => by rfl) (by rfl) (by rfl) (kd.tail.tail) ?_
  refine take_val 5 { tmps := (.pointer (some ⟨g, 0, none⟩) :: .pointer (some ⟨k, 0, none⟩) :: .float .f32 y :: undef :: undef :: undef :: .pointer (some ⟨w.heap.size, 0, none⟩) :: .pointer (some ⟨w.heap.size + 1, 0, none⟩) :: .float .f32 0 :: .int .i64 0 :: .float .f32 e :: .float .f32 m :: .pointer (some ⟨w0.heap.size, 0, none⟩) :: .pointer (some ⟨wm1.heap.size, 0, none⟩) :: .int .i64 0 :: .pointer (some ⟨k, 0, none⟩) :: .float .f32 e :: .float .f32 e :: .bool true :: .bool false :: undef :: undef :: undef :: undef :: undef :: undef :: .float .f32 e :: .bool false :: .float .f32 y :: .float .f32 e :: .float .f32 m :: .pointer (some ⟨g, 0, none⟩) :: .pointer (some ⟨g, 0, none⟩) :: .agg (fls c) :: .pointer (some ⟨w0.heap.size, 0, none⟩) :: .float .f32 (c 0) :: .float .f32 m :: .float .f32 (fadd (c 0) m) :: .pointer (some ⟨w0.heap.size, 0, none⟩) :: .tuple #[.agg (fls (upd c 0 (fadd (c 0) m))), .int .i64 0] :: .agg (fls (upd c 0 (fadd (c 0) m))) :: .tuple #[.agg (fls (upd c 0 (fadd (c 0) m))), .int .i64 0] :: .agg (fls (upd c 0 (fadd (c 0) m))) :: .int .i64 0 :: .int .i64 0 :: .bool false :: undef :: undef :: undef :: .agg (fls (upd c 0 (fadd (c 0) m))) :: .pointer (some ⟨k, 0, none⟩) :: .pointer (some ⟨k, 0, none⟩) :: .agg (#[.float .f32 h, .float .f32 v]) :: .float .f32 m :: .float .f32 (fdiv m 1199570944) :: undef :: undef :: []).toArray, defers := [] } #[true, true, true, true, true, true, false, false, false, false, false, false] (.float .f32 (fdiv m 1199570944)) rfl (by rfl) (by kernel_rfl) (by kernel_rfl) (by kernel_rfl) (fun w => run_binop_val _ _ _ _ (by rfl) (by rfl) (by simp [eqGuard]) (Hdv.out w)) (by rfl) (by rfl) (kd.tail.tail) ?_
  refine take_val 7 { tmps := (.pointer (some ⟨g, 0, none⟩) :: .pointer (some ⟨k, 0, none⟩) :: .float .f32 y :: undef :: undef :: undef :: .pointer (some ⟨w.heap.size, 0, none⟩) :: .pointer (some ⟨w.heap.size + 1, 0, none⟩) :: .float .f32 0 :: .int .i64 0 :: .float .f32 e :: .float .f32 m :: .pointer (some ⟨w0.heap.size, 0, none⟩) :: .pointer (some ⟨wm1.heap.size, 0, none⟩) :: .int .i64 0 :: .pointer (some ⟨k, 0, none⟩) :: .float .f32 e :: .float .f32 e :: .bool true :: .bool false :: undef :: undef :: undef :: undef :: undef :: undef :: .float .f32 e :: .bool false :: .float .f32 y :: .float .f32 e :: .float .f32 m :: .pointer (some ⟨g, 0, none⟩) :: .pointer (some ⟨g, 0, none⟩) :: .agg (fls c) :: .pointer (some ⟨w0.heap.size, 0, none⟩) :: .float .f32 (c 0) :: .float .f32 m :: .float .f32 (fadd (c 0) m) :: .pointer (some ⟨w0.heap.size, 0, none⟩) :: .tuple #[.agg (fls (upd c 0 (fadd (c 0) m))), .int .i64 0] :: .agg (fls (upd c 0 (fadd (c 0) m))) :: .tuple #[.agg (fls (upd c 0 (fadd (c 0) m))), .int .i64 0] :: .agg (fls (upd c 0 (fadd (c 0) m))) :: .int .i64 0 :: .int .i64 0 :: .bool false :: undef :: undef :: undef :: .agg (fls (upd c 0 (fadd (c 0) m))) :: .pointer (some ⟨k, 0, none⟩) :: .pointer (some ⟨k, 0, none⟩) :: .agg (#[.float .f32 h, .float .f32 v]) :: .float .f32 m :: .float .f32 (fdiv m 1199570944) :: undef :: .float .f32 m :: []).toArray, defers := [] } #[true, true, true, true, true, true, false, true, false, false, false, false] (.float .f32 m) rfl (by rfl) (by kernel_rfl) (by kernel_rfl) (by kernel_rfl) (fun w => by rfl) (by rfl) (by rfl) (kd.tail.tail) ?_
  refine wpAnyH_ready (rs := [6]) (by kernel_rfl) (by simp) ?_
  refine callK 6 { tmps := (.pointer (some ⟨g, 0, none⟩) :: .pointer (some ⟨k, 0, none⟩) :: .float .f32 y :: undef :: undef :: undef :: .pointer (some ⟨w.heap.size, 0, none⟩) :: .pointer (some ⟨w.heap.size + 1, 0, none⟩) :: .float .f32 0 :: .int .i64 0 :: .float .f32 e :: .float .f32 m :: .pointer (some ⟨w0.heap.size, 0, none⟩) :: .pointer (some ⟨wm1.heap.size, 0, none⟩) :: .int .i64 0 :: .pointer (some ⟨k, 0, none⟩) :: .float .f32 e :: .float .f32 e :: .bool true :: .bool false :: undef :: undef :: undef :: undef :: undef :: undef :: .float .f32 e :: .bool false :: .float .f32 y :: .float .f32 e :: .float .f32 m :: .pointer (some ⟨g, 0, none⟩) :: .pointer (some ⟨g, 0, none⟩) :: .agg (fls c) :: .pointer (some ⟨w0.heap.size, 0, none⟩) :: .float .f32 (c 0) :: .float .f32 m :: .float .f32 (fadd (c 0) m) :: .pointer (some ⟨w0.heap.size, 0, none⟩) :: .tuple #[.agg (fls (upd c 0 (fadd (c 0) m))), .int .i64 0] :: .agg (fls (upd c 0 (fadd (c 0) m))) :: .tuple #[.agg (fls (upd c 0 (fadd (c 0) m))), .int .i64 0] :: .agg (fls (upd c 0 (fadd (c 0) m))) :: .int .i64 0 :: .int .i64 0 :: .bool false :: undef :: undef :: undef :: .agg (fls (upd c 0 (fadd (c 0) m))) :: .pointer (some ⟨k, 0, none⟩) :: .pointer (some ⟨k, 0, none⟩) :: .agg (#[.float .f32 h, .float .f32 v]) :: .float .f32 m :: .float .f32 (fdiv m 1199570944) :: .agg #[.float .f32 h, .float .f32 (spendF v (fdiv m 1199570944))] :: .float .f32 m :: []).toArray, defers := [] } #[true, true, true, true, true, true, true, true, false, false, false, false] (.agg #[.float .f32 h, .float .f32 (spendF v (fdiv m 1199570944))]) kd rfl (by rfl) 161 #[.agg (#[.float .f32 h, .float .f32 v]), .float .f32 (fdiv m 1199570944)] (run_sSpend2 _ _ _ rfl _ _ rfl _ _ _ _ _ _) (by rfl) (by rfl) (sSpend h v _ Hvl.out Hgl.out _) (fun w1 k1 => ?_) AllReadyH.nil
  refine ⟨k1.tail.tail, ?_⟩
  refine wpAnyH_ready (rs := [8]) (by kernel_rfl) (by simp) ?_
  refine storeK 8 { tmps := (.pointer (some ⟨g, 0, none⟩) :: .pointer (some ⟨k, 0, none⟩) :: .float .f32 y :: undef :: undef :: undef :: .pointer (some ⟨w.heap.size, 0, none⟩) :: .pointer (some ⟨w.heap.size + 1, 0, none⟩) :: .float .f32 0 :: .int .i64 0 :: .float .f32 e :: .float .f32 m :: .pointer (some ⟨w0.heap.size, 0, none⟩) :: .pointer (some ⟨wm1.heap.size, 0, none⟩) :: .int .i64 0 :: .pointer (some ⟨k, 0, none⟩) :: .float .f32 e :: .float .f32 e :: .bool true :: .bool false :: undef :: undef :: undef :: undef :: undef :: undef :: .float .f32 e :: .bool false :: .float .f32 y :: .float .f32 e :: .float .f32 m :: .pointer (some ⟨g, 0, none⟩) :: .pointer (some ⟨g, 0, none⟩) :: .agg (fls c) :: .pointer (some ⟨w0.heap.size, 0, none⟩) :: .float .f32 (c 0) :: .float .f32 m :: .float .f32 (fadd (c 0) m) :: .pointer (some ⟨w0.heap.size, 0, none⟩) :: .tuple #[.agg (fls (upd c 0 (fadd (c 0) m))), .int .i64 0] :: .agg (fls (upd c 0 (fadd (c 0) m))) :: .tuple #[.agg (fls (upd c 0 (fadd (c 0) m))), .int .i64 0] :: .agg (fls (upd c 0 (fadd (c 0) m))) :: .int .i64 0 :: .int .i64 0 :: .bool false :: undef :: undef :: undef :: .agg (fls (upd c 0 (fadd (c 0) m))) :: .pointer (some ⟨k, 0, none⟩) :: .pointer (some ⟨k, 0, none⟩) :: .agg (#[.float .f32 h, .float .f32 v]) :: .float .f32 m :: .float .f32 (fdiv m 1199570944) :: .agg #[.float .f32 h, .float .f32 (spendF v (fdiv m 1199570944))] :: .float .f32 m :: []).toArray, defers := [] } #[true, true, true, true, true, true, true, true, true, false, false, false] (k1).swap hB1 (ne_consG (Ne.symm (hn2 _ (List.mem_cons_self ..))) hn1) rfl (by rfl) 26 _ _ rfl (fls (upd c 0 (fadd (c 0) m))) (by rfl) (by rfl) (by rw [fls_size]; exact info_arr) (by simp) (fls_one _) (by rfl) (by rfl) (fun w2 k2 => ?_) AllReadyH.nil
  refine ⟨k2.tail.tail, ?_⟩
  refine wpAnyH_ready (rs := [9]) (by kernel_rfl) (by simp) ?_
  refine storeK 9 { tmps := (.pointer (some ⟨g, 0, none⟩) :: .pointer (some ⟨k, 0, none⟩) :: .float .f32 y :: undef :: undef :: undef :: .pointer (some ⟨w.heap.size, 0, none⟩) :: .pointer (some ⟨w.heap.size + 1, 0, none⟩) :: .float .f32 0 :: .int .i64 0 :: .float .f32 e :: .float .f32 m :: .pointer (some ⟨w0.heap.size, 0, none⟩) :: .pointer (some ⟨wm1.heap.size, 0, none⟩) :: .int .i64 0 :: .pointer (some ⟨k, 0, none⟩) :: .float .f32 e :: .float .f32 e :: .bool true :: .bool false :: undef :: undef :: undef :: undef :: undef :: undef :: .float .f32 e :: .bool false :: .float .f32 y :: .float .f32 e :: .float .f32 m :: .pointer (some ⟨g, 0, none⟩) :: .pointer (some ⟨g, 0, none⟩) :: .agg (fls c) :: .pointer (some ⟨w0.heap.size, 0, none⟩) :: .float .f32 (c 0) :: .float .f32 m :: .float .f32 (fadd (c 0) m) :: .pointer (some ⟨w0.heap.size, 0, none⟩) :: .tuple #[.agg (fls (upd c 0 (fadd (c 0) m))), .int .i64 0] :: .agg (fls (upd c 0 (fadd (c 0) m))) :: .tuple #[.agg (fls (upd c 0 (fadd (c 0) m))), .int .i64 0] :: .agg (fls (upd c 0 (fadd (c 0) m))) :: .int .i64 0 :: .int .i64 0 :: .bool false :: undef :: undef :: undef :: .agg (fls (upd c 0 (fadd (c 0) m))) :: .pointer (some ⟨k, 0, none⟩) :: .pointer (some ⟨k, 0, none⟩) :: .agg (#[.float .f32 h, .float .f32 v]) :: .float .f32 m :: .float .f32 (fdiv m 1199570944) :: .agg #[.float .f32 h, .float .f32 (spendF v (fdiv m 1199570944))] :: .float .f32 m :: []).toArray, defers := [] } #[true, true, true, true, true, true, true, true, true, true, false, false] (k2).swap hB2 (ne_tail hn2 rfl) rfl (by rfl) 44 _ _ rfl (#[.float .f32 h, .float .f32 (spendF v (fdiv m 1199570944))]) (by rfl) (by rfl) (info_air) (by simp) (by simp [Value.oneCell']) (by rfl) (by rfl) (fun w3 k3 => ?_) AllReadyH.nil
  refine ⟨k3.tail.tail, ?_⟩
  refine take_val 10 { tmps := (.pointer (some ⟨g, 0, none⟩) :: .pointer (some ⟨k, 0, none⟩) :: .float .f32 y :: undef :: undef :: undef :: .pointer (some ⟨w.heap.size, 0, none⟩) :: .pointer (some ⟨w.heap.size + 1, 0, none⟩) :: .float .f32 m :: .int .i64 0 :: .float .f32 e :: .float .f32 m :: .pointer (some ⟨w0.heap.size, 0, none⟩) :: .pointer (some ⟨wm1.heap.size, 0, none⟩) :: .int .i64 0 :: .pointer (some ⟨k, 0, none⟩) :: .float .f32 e :: .float .f32 e :: .bool true :: .bool false :: undef :: undef :: undef :: undef :: undef :: undef :: .float .f32 e :: .bool false :: .float .f32 y :: .float .f32 e :: .float .f32 m :: .pointer (some ⟨g, 0, none⟩) :: .pointer (some ⟨g, 0, none⟩) :: .agg (fls c) :: .pointer (some ⟨w0.heap.size, 0, none⟩) :: .float .f32 (c 0) :: .float .f32 m :: .float .f32 (fadd (c 0) m) :: .pointer (some ⟨w0.heap.size, 0, none⟩) :: .tuple #[.agg (fls (upd c 0 (fadd (c 0) m))), .int .i64 0] :: .agg (fls (upd c 0 (fadd (c 0) m))) :: .tuple #[.agg (fls (upd c 0 (fadd (c 0) m))), .int .i64 0] :: .agg (fls (upd c 0 (fadd (c 0) m))) :: .int .i64 0 :: .int .i64 0 :: .bool false :: undef :: undef :: undef :: .agg (fls (upd c 0 (fadd (c 0) m))) :: .pointer (some ⟨k, 0, none⟩) :: .pointer (some ⟨k, 0, none⟩) :: .agg (#[.float .f32 h, .float .f32 v]) :: .float .f32 m :: .float .f32 (fdiv m 1199570944) :: .agg #[.float .f32 h, .float .f32 (spendF v (fdiv m 1199570944))] :: .float .f32 m :: []).toArray, defers := [] } #[true, true, true, true, true, true, true, true, true, true, true, false] (.float .f32 m) rfl (by rfl) (by kernel_rfl) (by kernel_rfl) (by kernel_rfl) (fun w => by rfl) (by rfl) (by rfl) (k3.tail.tail) ?_
  refine take_val 11 { tmps := (.pointer (some ⟨g, 0, none⟩) :: .pointer (some ⟨k, 0, none⟩) :: .float .f32 y :: undef :: undef :: undef :: .pointer (some ⟨w.heap.size, 0, none⟩) :: .pointer (some ⟨w.heap.size + 1, 0, none⟩) :: .float .f32 m :: .int .i64 0 :: .float .f32 e :: .float .f32 m :: .pointer (some ⟨w0.heap.size, 0, none⟩) :: .pointer (some ⟨wm1.heap.size, 0, none⟩) :: .int .i64 0 :: .pointer (some ⟨k, 0, none⟩) :: .float .f32 e :: .float .f32 e :: .bool true :: .bool false :: undef :: undef :: undef :: undef :: undef :: undef :: .float .f32 e :: .bool false :: .float .f32 y :: .float .f32 e :: .float .f32 m :: .pointer (some ⟨g, 0, none⟩) :: .pointer (some ⟨g, 0, none⟩) :: .agg (fls c) :: .pointer (some ⟨w0.heap.size, 0, none⟩) :: .float .f32 (c 0) :: .float .f32 m :: .float .f32 (fadd (c 0) m) :: .pointer (some ⟨w0.heap.size, 0, none⟩) :: .tuple #[.agg (fls (upd c 0 (fadd (c 0) m))), .int .i64 0] :: .agg (fls (upd c 0 (fadd (c 0) m))) :: .tuple #[.agg (fls (upd c 0 (fadd (c 0) m))), .int .i64 0] :: .agg (fls (upd c 0 (fadd (c 0) m))) :: .int .i64 0 :: .int .i64 0 :: .bool false :: undef :: undef :: undef :: .agg (fls (upd c 0 (fadd (c 0) m))) :: .pointer (some ⟨k, 0, none⟩) :: .pointer (some ⟨k, 0, none⟩) :: .agg (#[.float .f32 h, .float .f32 v]) :: .float .f32 m :: .float .f32 (fdiv m 1199570944) :: .agg #[.float .f32 h, .float .f32 (spendF v (fdiv m 1199570944))] :: .float .f32 m :: []).toArray, defers := [] } #[true, true, true, true, true, true, true, true, true, true, true, true] (.int .i64 0) rfl (by rfl) (by kernel_rfl) (by kernel_rfl) (by kernel_rfl) (fun w => by rfl) (by rfl) (by rfl) (k3.tail.tail) ?_
  refine wpAnyH_done (by kernel_rfl) (NoPanic.normal ?_) _
  go_wp2
  exact bodyPost_ret (results_two rfl _ _ (w.heap.size) 26 (fls (upd c 0 (fadd (c 0) m))) (0, 0) _ (w.heap.size + 1) 44 (#[.float .f32 h, .float .f32 (spendF v (fdiv m 1199570944))]) (0, 0) _ rfl (k3.at (x := (w.heap.size, fls (upd c 0 (fadd (c 0) m)), 26)) (by simp)) Try.underlying26 rfl (by rw [fls_size]; exact info_arr) rfl (k3.at (x := (w.heap.size + 1, #[.float .f32 h, .float .f32 (spendF v (fdiv m 1199570944))], 44)) (by simp)) Try.underlying44 rfl (info_air)) rfl ⟨rfl, k3.1⟩

set_option maxRecDepth 100000 in
set_option maxHeartbeats 2000000 in
theorem sActivate_ok_gt (c : Nat → Nat) (hc : Amts c) (h v : Nat) (hh : h < 4294967296) (hq : airB h v = true) (y : Nat) (hy : amtB y = true) (e m : Nat) (he : excF h v = e) (hea : amtB e = true) (h0 : 0 < e) (hm : madeF e y = m) (hma : amtB m = true) (hq1 : 1065353216 < e) (hF : Fins (upd c 0 (fadd (c 0) m)))  (w : World) (g k : Nat) (T T' : TypeId) (hg : arrAt w g c T) (hk : airAt w k h v T') :
    Calls Try.prog 124 #[.pointer (some ⟨g, 0, none⟩), .pointer (some ⟨k, 0, none⟩), .float .f32 y] w fun e w' => e = .returned (.tuple #[.agg (fls (upd c 0 (fadd (c 0) m))), .agg #[.float .f32 h, .float .f32 (spendF v (fdiv m 1199570944))], .float .f32 m, .int .i64 0]) ∧ Below w.heap.size w w' := by
  have hE := fun w r U hr => sExcess h v hh hq w r U hr
  rw [he] at hE
  have HE := hid hE
  have hb1 := gt_t hea (y := 0) (by decide) h0
  have hb2 := gt_t hea (y := 1065353216) (by decide) hq1
  have hml := fun w => run_mul (P := Try.prog) 24 hy (by decide : amtB 1065353216 = true) w
  rw [show fmul y 1065353216 = m by rw [← hm]; unfold madeF; rw [Nat.min_eq_right (by omega)]] at hml
  have had := fun w => run_add (P := Try.prog) 24 (amt_nn (hc 0 (by decide))) (amt_nn hma) w
  have Hdv := hid (fun w => run_div (P := Try.prog) 24 (amt_nn hma) (by decide : amtB 1199570944 = true) (by decide) w)
  have Hvl := hid (vap_le (airB_iff.1 hq).2.1 (airB_iff.1 hq).2.2)
  have Hgl : Hid (fdiv m 1199570944 < INF) := hid (Nat.lt_of_le_of_lt (div_less (k := 16) (by decide) (amtB_iff.1 hma)) (amtB_iff.1 hma))
  have HDl := hid (upd_lt (k := 0) (fun i hi => amt_lt (hc i hi)) (nn_lt (add_eq (amt_nn (hc 0 (by decide))) (amt_nn hma)).2))
  clear hE he hea h0 hm hma hq1
  have kk : Kept w [(g, fls c, T), (k, #[.float .f32 h, .float .f32 v], T')] w := ⟨Below.refl _ _, fun x hx => by
    simp only [List.mem_cons, List.not_mem_nil, or_false] at hx
    rcases hx with rfl | rfl
    · exact hg
    · exact hk⟩
  have lg : g < w.heap.size := kk.lt (x := (g, fls c, T)) (by simp)
  have lk : k < w.heap.size := kk.lt (x := (k, #[.float .f32 h, .float .f32 v], T')) (by simp)
  have k0 := hid ((kk.push (fls fun _ => 0) 26).push #[.float .f32 0, .float .f32 0] 44)
  have Hhc := hid hc
  have Hhh := hid hh
  have Hhq := hid hq
  have Hhy := hid hy
  have HhF := hid hF
  clear kk hg hk hc hh hq hy hF
  go_enter Try.func124, Try.ntmps124
  go_wp2_with fail
  refine (HE.out _ k T' (k0.out.at (x := (k, #[.float .f32 h, .float .f32 v], T')) (by simp))).mono ?_
  rintro e w0 ⟨rfl, hb0⟩
  have k1 := hid (k0.out.stay hb0)
  clear hb0 k0
  have hS4 : w.heap.size + 1 < w0.heap.size := k1.out.lt (x := (w.heap.size + 1, #[.float .f32 0, .float .f32 0], 44)) (by simp)
  have ka := hid (k1.out.push (fls fun _ => 0) 26)
  go_wp2_with (first | (refine wpList_load_row rfl 26 _ rfl (w0.heap.size) rfl 26 (fls (upd c 0 (fadd (c 0) m))) (0, 0) _ (kc.out.at (x := (w0.heap.size, fls (upd c 0 (fadd (c 0) m)), 26)) (by simp)) Try.underlying26 rfl (by rw [fls_size]; exact info_arr) ?_) | (refine store_kept (w0 := w) (l := [(w.heap.size + 1, #[.float .f32 0, .float .f32 0], 44), (w.heap.size, fls fun _ => 0, 26), (g, fls c, T), (k, #[.float .f32 h, .float .f32 v], T')]) rfl 26 _ _ rfl (w0.heap.size) (fls c) rfl rfl 26 (fls fun _ => 0) (ka.out.sub (l' := [(w0.heap.size, fls fun _ => 0, 26), (w.heap.size + 1, #[.float .f32 0, .float .f32 0], 44), (w.heap.size, fls fun _ => 0, 26), (g, fls c, T), (k, #[.float .f32 h, .float .f32 v], T')]) (by intro x hx; simp only [List.mem_cons, List.not_mem_nil, or_false] at hx; rcases hx with rfl | rfl | rfl | rfl | rfl <;> simp)) (by omega) (by intro x hx; simp only [List.mem_cons, List.not_mem_nil, or_false] at hx; rcases hx with rfl | rfl | rfl | rfl <;> first | (simp; done) | (simp only []; omega)) (by rw [fls_size]; exact info_arr) (by simp) (fls_one _) ?_; intro wkb kb; have kb := hid kb; have q0 : World.cell? wkb ⟨w0.heap.size, 0, none⟩ = some (.float .f32 (c 0)) := arrAt.cell (c := c) (kb.out.at (x := (w0.heap.size, fls c, 26)) (by simp)) (by decide); have f0 : World.frozen? wkb ⟨w0.heap.size, 0, none⟩ = false := arrAt.frozen (c := c) (kb.out.at (x := (w0.heap.size, fls c, 26)) (by simp)) 0; have kc := hid (kb.out.cell (by omega) (by intro x hx; simp only [List.mem_cons, List.not_mem_nil, or_false] at hx; rcases hx with rfl | rfl | rfl | rfl <;> first | (simp; done) | (simp only []; omega)) 0 (fadd (c 0) m))) | (refine wpList_load_row rfl 26 _ rfl (g) rfl T (fls c) (0, 0) _ (k1.out.at (x := (g, fls c, T)) (by simp)) Try.underlying26 rfl (by rw [fls_size]; exact info_arr) ?_))
  refine (sMade (upd c 0 (fadd (c 0) m)) HDl.out (upd c 0 (fadd (c 0) m)) 0 (fun _ => ⟨rfl, rfl⟩) (fun h => absurd HhF.out h) _).mono ?_
  rintro e wm1 ⟨rfl, hbm1⟩
  have km1z := hid (kc.out.stay hbm1)
  clear hbm1
  have hS5 : w0.heap.size < wm1.heap.size := km1z.out.lt (x := (w0.heap.size, fls (upd c 0 (fadd (c 0) m)), 26)) (by simp)
  have kd := hid (km1z.out.push (fls fun _ => 0) 26)
  go_wp2_with (first | (refine store_kept (w0 := w) (l := [(w0.heap.size, fls (upd c 0 (fadd (c 0) m)), 26), (w.heap.size + 1, #[.float .f32 0, .float .f32 0], 44), (w.heap.size, fls fun _ => 0, 26), (g, fls c, T), (k, #[.float .f32 h, .float .f32 v], T')]) rfl 26 _ _ rfl (wm1.heap.size) (fls (upd c 0 (fadd (c 0) m))) rfl rfl 26 (fls fun _ => 0) (kd.out.sub (l' := [(wm1.heap.size, fls fun _ => 0, 26), (w0.heap.size, fls (upd c 0 (fadd (c 0) m)), 26), (w.heap.size + 1, #[.float .f32 0, .float .f32 0], 44), (w.heap.size, fls fun _ => 0, 26), (g, fls c, T), (k, #[.float .f32 h, .float .f32 v], T')]) (by intro x hx; simp only [List.mem_cons, List.not_mem_nil, or_false] at hx; rcases hx with rfl | rfl | rfl | rfl | rfl | rfl <;> simp)) (by omega) (by intro x hx; simp only [List.mem_cons, List.not_mem_nil, or_false] at hx; rcases hx with rfl | rfl | rfl | rfl | rfl <;> first | (simp; done) | (simp only []; omega)) (by rw [fls_size]; exact info_arr) (by simp) (fls_one _) ?_; intro wke ke; have ke := hid ke))
  have kz : Kept w [(w.heap.size + 1, #[.float .f32 0, .float .f32 0], 44), (w.heap.size, fls fun _ => 0, 26), (wm1.heap.size, fls (upd c 0 (fadd (c 0) m)), 26), (w0.heap.size, fls (upd c 0 (fadd (c 0) m)), 26), (g, fls c, T), (k, #[.float .f32 h, .float .f32 v], T')] _ := (ke.out.sub (l' := [(w.heap.size + 1, #[.float .f32 0, .float .f32 0], 44), (w.heap.size, fls fun _ => 0, 26), (wm1.heap.size, fls (upd c 0 (fadd (c 0) m)), 26), (w0.heap.size, fls (upd c 0 (fadd (c 0) m)), 26), (g, fls c, T), (k, #[.float .f32 h, .float .f32 v], T')]) (by intro x hx; simp only [List.mem_cons, List.not_mem_nil, or_false] at hx; rcases hx with rfl | rfl | rfl | rfl | rfl | rfl <;> simp))
  have hB1 : w.heap.size ≤ w.heap.size := by omega
  have hB2 : w.heap.size ≤ w.heap.size + 1 := by omega
  have hn1 : ∀ x ∈ ([(wm1.heap.size, fls (upd c 0 (fadd (c 0) m)), 26), (w0.heap.size, fls (upd c 0 (fadd (c 0) m)), 26), (g, fls c, T), (k, #[.float .f32 h, .float .f32 v], T')] : List (Nat × Array Value × TypeId)), x.1 ≠ w.heap.size := by intro x hx; simp only [List.mem_cons, List.not_mem_nil, or_false] at hx; rcases hx with rfl | rfl | rfl | rfl <;> first | (simp; done) | (simp only []; omega)
  have hn2 : ∀ x ∈ ([(w.heap.size, fls fun _ => 0, 26), (wm1.heap.size, fls (upd c 0 (fadd (c 0) m)), 26), (w0.heap.size, fls (upd c 0 (fadd (c 0) m)), 26), (g, fls c, T), (k, #[.float .f32 h, .float .f32 v], T')] : List (Nat × Array Value × TypeId)), x.1 ≠ w.heap.size + 1 := by intro x hx; simp only [List.mem_cons, List.not_mem_nil, or_false] at hx; rcases hx with rfl | rfl | rfl | rfl | rfl <;> first | (simp; done) | (simp only []; omega)
  refine region_kept (w0 := w) (l := [(wm1.heap.size, fls (upd c 0 (fadd (c 0) m)), 26), (w0.heap.size, fls (upd c 0 (fadd (c 0) m)), 26), (g, fls c, T), (k, #[.float .f32 h, .float .f32 v], T')]) 12 #[false, false, false, false, false, false, false, false, false, false, false, false] (by kernel_rfl) rfl rfl ?_
  have kd := kz.drew
  clear kz
  generalize World.drew _ = wd at kd ⊢
  refine take_load 0 { tmps := (.pointer (some ⟨g, 0, none⟩) :: .pointer (some ⟨k, 0, none⟩) :: .float .f32 y :: undef :: undef :: undef :: .pointer (some ⟨w.heap.size, 0, none⟩) :: .pointer (some ⟨w.heap.size + 1, 0, none⟩) :: .float .f32 0 :: .int .i64 0 :: .float .f32 1065353216 :: .float .f32 m :: .pointer (some ⟨w0.heap.size, 0, none⟩) :: .pointer (some ⟨wm1.heap.size, 0, none⟩) :: .int .i64 0 :: .pointer (some ⟨k, 0, none⟩) :: .float .f32 e :: .float .f32 e :: .bool true :: .bool false :: undef :: undef :: undef :: undef :: undef :: undef :: .float .f32 e :: .bool true :: .float .f32 y :: .float .f32 1065353216 :: .float .f32 m :: .pointer (some ⟨g, 0, none⟩) :: .pointer (some ⟨g, 0, none⟩) :: .agg (fls c) :: .pointer (some ⟨w0.heap.size, 0, none⟩) :: .float .f32 (c 0) :: .float .f32 m :: .float .f32 (fadd (c 0) m) :: .pointer (some ⟨w0.heap.size, 0, none⟩) :: .tuple #[.agg (fls (upd c 0 (fadd (c 0) m))), .int .i64 0] :: .agg (fls (upd c 0 (fadd (c 0) m))) :: .tuple #[.agg (fls (upd c 0 (fadd (c 0) m))), .int .i64 0] :: .agg (fls (upd c 0 (fadd (c 0) m))) :: .int .i64 0 :: .int .i64 0 :: .bool false :: undef :: undef :: undef :: .agg (fls (upd c 0 (fadd (c 0) m))) :: undef :: undef :: undef :: undef :: undef :: undef :: undef :: []).toArray, defers := [] } #[true, false, false, false, false, false, false, false, false, false, false, false] rfl (by rfl) (by kernel_rfl) (by kernel_rfl) (by kernel_rfl) 26 _ rfl (wm1.heap.size) (fls (upd c 0 (fadd (c 0) m))) 26 (by rfl) (by simp) _ Try.underlying26 rfl (by rw [fls_size]; exact info_arr) (by rfl) (by rfl) (kd.tail.tail) ?_
  refine take_val 1 { tmps := (.pointer (some ⟨g, 0, none⟩) :: .pointer (some ⟨k, 0, none⟩) :: .float .f32 y :: undef :: undef :: undef :: .pointer (some ⟨w.heap.size, 0, none⟩) :: .pointer (some ⟨w.heap.size + 1, 0, none⟩) :: .float .f32 0 :: .int .i64 0 :: .float .f32 1065353216 :: .float .f32 m :: .pointer (some ⟨w0.heap.size, 0, none⟩) :: .pointer (some ⟨wm1.heap.size, 0, none⟩) :: .int .i64 0 :: .pointer (some ⟨k, 0, none⟩) :: .float .f32 e :: .float .f32 e :: .bool true :: .bool false :: undef :: undef :: undef :: undef :: undef :: undef :: .float .f32 e :: .bool true :: .float .f32 y :: .float .f32 1065353216 :: .float .f32 m :: .pointer (some ⟨g, 0, none⟩) :: .pointer (some ⟨g, 0, none⟩) :: .agg (fls c) :: .pointer (some ⟨w0.heap.size, 0, none⟩) :: .float .f32 (c 0) :: .float .f32 m :: .float .f32 (fadd (c 0) m) :: .pointer (some ⟨w0.heap.size, 0, none⟩) :: .tuple #[.agg (fls (upd c 0 (fadd (c 0) m))), .int .i64 0] :: .agg (fls (upd c 0 (fadd (c 0) m))) :: .tuple #[.agg (fls (upd c 0 (fadd (c 0) m))), .int .i64 0] :: .agg (fls (upd c 0 (fadd (c 0) m))) :: .int .i64 0 :: .int .i64 0 :: .bool false :: undef :: undef :: undef :: .agg (fls (upd c 0 (fadd (c 0) m))) :: .pointer (some ⟨k, 0, none⟩) :: undef :: undef :: undef :: undef :: undef :: undef :: []).toArray, defers := [] } #[true, true, false, false, false, false, false, false, false, false, false, false] (.pointer (some ⟨k, 0, none⟩)) rfl (by rfl) (by kernel_rfl) (by kernel_rfl) (by kernel_rfl) (fun w => by rfl) (by rfl) (by rfl) (kd.tail.tail) ?_
  refine take_val 2 { tmps := (.pointer (some ⟨g, 0, none⟩) :: .pointer (some ⟨k, 0, none⟩) :: .float .f32 y :: undef :: undef :: undef :: .pointer (some ⟨w.heap.size, 0, none⟩) :: .pointer (some ⟨w.heap.size + 1, 0, none⟩) :: .float .f32 0 :: .int .i64 0 :: .float .f32 1065353216 :: .float .f32 m :: .pointer (some ⟨w0.heap.size, 0, none⟩) :: .pointer (some ⟨wm1.heap.size, 0, none⟩) :: .int .i64 0 :: .pointer (some ⟨k, 0, none⟩) :: .float .f32 e :: .float .f32 e :: .bool true :: .bool false :: undef :: undef :: undef :: undef :: undef :: undef :: .float .f32 e :: .bool true :: .float .f32 y :: .float .f32 1065353216 :: .float .f32 m :: .pointer (some ⟨g, 0, none⟩) :: .pointer (some ⟨g, 0, none⟩) :: .agg (fls c) :: .pointer (some ⟨w0.heap.size, 0, none⟩) :: .float .f32 (c 0) :: .float .f32 m :: .float .f32 (fadd (c 0) m) :: .pointer (some ⟨w0.heap.size, 0, none⟩) :: .tuple #[.agg (fls (upd c 0 (fadd (c 0) m))), .int .i64 0] :: .agg (fls (upd c 0 (fadd (c 0) m))) :: .tuple #[.agg (fls (upd c 0 (fadd (c 0) m))), .int .i64 0] :: .agg (fls (upd c 0 (fadd (c 0) m))) :: .int .i64 0 :: .int .i64 0 :: .bool false :: undef :: undef :: undef :: .agg (fls (upd c 0 (fadd (c 0) m))) :: .pointer (some ⟨k, 0, none⟩) :: .pointer (some ⟨k, 0, none⟩) :: undef :: undef :: undef :: undef :: undef :: []).toArray, defers := [] } #[true, true, true, false, false, false, false, false, false, false, false, false] (.pointer (some ⟨k, 0, none⟩)) rfl (by rfl) (by kernel_rfl) (by kernel_rfl) (by kernel_rfl) (fun w => by unfold execOp; go_simp) (by rfl) (by rfl) (kd.tail.tail) ?_
  refine take_load 3 { tmps := (.pointer (some ⟨g, 0, none⟩) :: .pointer (some ⟨k, 0, none⟩) :: .float .f32 y :: undef :: undef :: undef :: .pointer (some ⟨w.heap.size, 0, none⟩) :: .pointer (some ⟨w.heap.size + 1, 0, none⟩) :: .float .f32 0 :: .int .i64 0 :: .float .f32 1065353216 :: .float .f32 m :: .pointer (some ⟨w0.heap.size, 0, none⟩) :: .pointer (some ⟨wm1.heap.size, 0, none⟩) :: .int .i64 0 :: .pointer (some ⟨k, 0, none⟩) :: .float .f32 e :: .float .f32 e :: .bool true :: .bool false :: undef :: undef :: undef :: undef :: undef :: undef :: .float .f32 e :: .bool true :: .float .f32 y :: .float .f32 1065353216 :: .float .f32 m :: .pointer (some ⟨g, 0, none⟩) :: .pointer (some ⟨g, 0, none⟩) :: .agg (fls c) :: .pointer (some ⟨w0.heap.size, 0, none⟩) :: .float .f32 (c 0) :: .float .f32 m :: .float .f32 (fadd (c 0) m) :: .pointer (some ⟨w0.heap.size, 0, none⟩) :: .tuple #[.agg (fls (upd c 0 (fadd (c 0) m))), .int .i64 0] :: .agg (fls (upd c 0 (fadd (c 0) m))) :: .tuple #[.agg (fls (upd c 0 (fadd (c 0) m))), .int .i64 0] :: .agg (fls (upd c 0 (fadd (c 0) m))) :: .int .i64 0 :: .int .i64 0 :: .bool false :: undef :: undef :: undef :: .agg (fls (upd c 0 (fadd (c 0) m))) :: .pointer (some ⟨k, 0, none⟩) :: .pointer (some ⟨k, 0, none⟩) :: .agg (#[.float .f32 h, .float .f32 v]) :: undef :: undef :: undef :: undef :: []).toArray, defers := [] } #[true, true, true, true, false, false, false, false, false, false, false, false] rfl (by rfl) (by kernel_rfl) (by kernel_rfl) (by kernel_rfl) 44 _ rfl (k) (#[.float .f32 h, .float .f32 v]) T' (by rfl) (by simp) _ Try.underlying44 rfl (info_air) (by rfl) (by rfl) (kd.tail.tail) ?_
  refine take_val 4 { tmps := (.pointer (some ⟨g, 0, none⟩) :: .pointer (some ⟨k, 0, none⟩) :: .float .f32 y :: undef :: undef :: undef :: .pointer (some ⟨w.heap.size, 0, none⟩) :: .pointer (some ⟨w.heap.size + 1, 0, none⟩) :: .float .f32 0 :: .int .i64 0 :: .float .f32 1065353216 :: .float .f32 m :: .pointer (some ⟨w0.heap.size, 0, none⟩) :: .pointer (some ⟨wm1.heap.size, 0, none⟩) :: .int .i64 0 :: .pointer (some ⟨k, 0, none⟩) :: .float .f32 e :: .float .f32 e :: .bool true :: .bool false :: undef :: undef :: undef :: undef :: undef :: undef :: .float .f32 e :: .bool true :: .float .f32 y :: .float .f32 1065353216 :: .float .f32 m :: .pointer (some ⟨g, 0, none⟩) :: .pointer (some ⟨g, 0, none⟩) :: .agg (fls c) :: .pointer (some ⟨w0.heap.size, 0, none⟩) :: .float .f32 (c 0) :: .float .f32 m :: .float .f32 (fadd (c 0) m) :: .pointer (some ⟨w0.heap.size, 0, none⟩) :: .tuple #[.agg (fls (upd c 0 (fadd (c 0) m))), .int .i64 0] :: .agg (fls (upd c 0 (fadd (c 0) m))) :: .tuple #[.agg (fls (upd c 0 (fadd (c 0) m))), .int .i64 0] :: .agg (fls (upd c 0 (fadd (c 0) m))) :: .int .i64 0 :: .int .i64 0 :: .bool false :: undef :: undef :: undef :: .agg (fls (upd c 0 (fadd (c 0) m))) :: .pointer (some ⟨k, 0, none⟩) :: .pointer (some ⟨k, 0, none⟩) :: .agg (#[.float .f32 h, .float .f32 v]) :: .float .f32 m :: undef :: undef :: undef :: []).toArray, defers := [] } #[true, true, true, true, true, false, false, false, false, false, false, false] (.float .f32 m) rfl (by rfl) (by kernel_rfl) (by kernel_rfl) (by kernel_rfl) (fun w => by rfl) (by rfl) (by rfl) (kd.tail.tail) ?_
  refine take_val 5 { tmps := (.pointer (some ⟨g, 0, none⟩) :: .pointer (some ⟨k, 0, none⟩) :: .float .f32 y :: undef :: undef :: undef :: .pointer (some ⟨w.heap.size, 0, none⟩) :: .pointer (some ⟨w.heap.size + 1, 0, none⟩) :: .float .f32 0 :: .int .i64 0 :: .float .f32 1065353216 :: .float .f32 m :: .pointer (some ⟨w0.heap.size, 0, none⟩) :: .pointer (some ⟨wm1.heap.size, 0, none⟩) :: .int .i64 0 :: .pointer (some ⟨k, 0, none⟩) :: .float .f32 e :: .float .f32 e :: .bool true :: .bool false :: undef :: undef :: undef :: undef :: undef :: undef :: .float .f32 e :: .bool true :: .float .f32 y :: .float .f32 1065353216 :: .float .f32 m :: .pointer (some ⟨g, 0, none⟩) :: .pointer (some ⟨g, 0, none⟩) :: .agg (fls c) :: .pointer (some ⟨w0.heap.size, 0, none⟩) :: .float .f32 (c 0) :: .float .f32 m :: .float .f32 (fadd (c 0) m) :: .pointer (some ⟨w0.heap.size, 0, none⟩) :: .tuple #[.agg (fls (upd c 0 (fadd (c 0) m))), .int .i64 0] :: .agg (fls (upd c 0 (fadd (c 0) m))) :: .tuple #[.agg (fls (upd c 0 (fadd (c 0) m))), .int .i64 0] :: .agg (fls (upd c 0 (fadd (c 0) m))) :: .int .i64 0 :: .int .i64 0 :: .bool false :: undef :: undef :: undef :: .agg (fls (upd c 0 (fadd (c 0) m))) :: .pointer (some ⟨k, 0, none⟩) :: .pointer (some ⟨k, 0, none⟩) :: .agg (#[.float .f32 h, .float .f32 v]) :: .float .f32 m :: .float .f32 (fdiv m 1199570944) :: undef :: undef :: []).toArray, defers := [] } #[true, true, true, true, true, true, false, false, false, false, false, false] (.float .f32 (fdiv m 1199570944)) rfl (by rfl) (by kernel_rfl) (by kernel_rfl) (by kernel_rfl) (fun w => run_binop_val _ _ _ _ (by rfl) (by rfl) (by simp [eqGuard]) (Hdv.out w)) (by rfl) (by rfl) (kd.tail.tail) ?_
  refine take_val 7 { tmps := (.pointer (some ⟨g, 0, none⟩) :: .pointer (some ⟨k, 0, none⟩) :: .float .f32 y :: undef :: undef :: undef :: .pointer (some ⟨w.heap.size, 0, none⟩) :: .pointer (some ⟨w.heap.size + 1, 0, none⟩) :: .float .f32 0 :: .int .i64 0 :: .float .f32 1065353216 :: .float .f32 m :: .pointer (some ⟨w0.heap.size, 0, none⟩) :: .pointer (some ⟨wm1.heap.size, 0, none⟩) :: .int .i64 0 :: .pointer (some ⟨k, 0, none⟩) :: .float .f32 e :: .float .f32 e :: .bool true :: .bool false :: undef :: undef :: undef :: undef :: undef :: undef :: .float .f32 e :: .bool true :: .float .f32 y :: .float .f32 1065353216 :: .float .f32 m :: .pointer (some ⟨g, 0, none⟩) :: .pointer (some ⟨g, 0, none⟩) :: .agg (fls c) :: .pointer (some ⟨w0.heap.size, 0, none⟩) :: .float .f32 (c 0) :: .float .f32 m :: .float .f32 (fadd (c 0) m) :: .pointer (some ⟨w0.heap.size, 0, none⟩) :: .tuple #[.agg (fls (upd c 0 (fadd (c 0) m))), .int .i64 0] :: .agg (fls (upd c 0 (fadd (c 0) m))) :: .tuple #[.agg (fls (upd c 0 (fadd (c 0) m))), .int .i64 0] :: .agg (fls (upd c 0 (fadd (c 0) m))) :: .int .i64 0 :: .int .i64 0 :: .bool false :: undef :: undef :: undef :: .agg (fls (upd c 0 (fadd (c 0) m))) :: .pointer (some ⟨k, 0, none⟩) :: .pointer (some ⟨k, 0, none⟩) :: .agg (#[.float .f32 h, .float .f32 v]) :: .float .f32 m :: .float .f32 (fdiv m 1199570944) :: undef :: .float .f32 m :: []).toArray, defers := [] } #[true, true, true, true, true, true, false, true, false, false, false, false] (.float .f32 m) rfl (by rfl) (by kernel_rfl) (by kernel_rfl) (by kernel_rfl) (fun w => by rfl) (by rfl) (by rfl) (kd.tail.tail) ?_
  refine wpAnyH_ready (rs := [6]) (by kernel_rfl) (by simp) ?_
  refine callK 6 { tmps := (.pointer (some ⟨g, 0, none⟩) :: .pointer (some ⟨k, 0, none⟩) :: .float .f32 y :: undef :: undef :: undef :: .pointer (some ⟨w.heap.size, 0, none⟩) :: .pointer (some ⟨w.heap.size + 1, 0, none⟩) :: .float .f32 0 :: .int .i64 0 :: .float .f32 1065353216 :: .float .f32 m :: .pointer (some ⟨w0.heap.size, 0, none⟩) :: .pointer (some ⟨wm1.heap.size, 0, none⟩) :: .int .i64 0 :: .pointer (some ⟨k, 0, none⟩) :: .float .f32 e :: .float .f32 e :: .bool true :: .bool false :: undef :: undef :: undef :: undef :: undef :: undef :: .float .f32 e :: .bool true :: .float .f32 y :: .float .f32 1065353216 :: .float .f32 m :: .pointer (some ⟨g, 0, none⟩) :: .pointer (some ⟨g, 0, none⟩) :: .agg (fls c) :: .pointer (some ⟨w0.heap.size, 0, none⟩) :: .float .f32 (c 0) :: .float .f32 m :: .float .f32 (fadd (c 0) m) :: .pointer (some ⟨w0.heap.size, 0, none⟩) :: .tuple #[.agg (fls (upd c 0 (fadd (c 0) m))), .int .i64 0] :: .agg (fls (upd c 0 (fadd (c 0) m))) :: .tuple #[.agg (fls (upd c 0 (fadd (c 0) m))), .int .i64 0] :: .agg (fls (upd c 0 (fadd (c 0) m))) :: .int .i64 0 :: .int .i64 0 :: .bool false :: undef :: undef :: undef :: .agg (fls (upd c 0 (fadd (c 0) m))) :: .pointer (some ⟨k, 0, none⟩) :: .pointer (some ⟨k, 0, none⟩) :: .agg (#[.float .f32 h, .float .f32 v]) :: .float .f32 m :: .float .f32 (fdiv m 1199570944) :: .agg #[.float .f32 h, .float .f32 (spendF v (fdiv m 1199570944))] :: .float .f32 m :: []).toArray, defers := [] } #[true, true, true, true, true, true, true, true, false, false, false, false] (.agg #[.float .f32 h, .float .f32 (spendF v (fdiv m 1199570944))]) kd rfl (by rfl) 161 #[.agg (#[.float .f32 h, .float .f32 v]), .float .f32 (fdiv m 1199570944)] (run_sSpend2 _ _ _ rfl _ _ rfl _ _ _ _ _ _) (by rfl) (by rfl) (sSpend h v _ Hvl.out Hgl.out _) (fun w1 k1 => ?_) AllReadyH.nil
  refine ⟨k1.tail.tail, ?_⟩
  refine wpAnyH_ready (rs := [8]) (by kernel_rfl) (by simp) ?_
  refine storeK 8 { tmps := (.pointer (some ⟨g, 0, none⟩) :: .pointer (some ⟨k, 0, none⟩) :: .float .f32 y :: undef :: undef :: undef :: .pointer (some ⟨w.heap.size, 0, none⟩) :: .pointer (some ⟨w.heap.size + 1, 0, none⟩) :: .float .f32 0 :: .int .i64 0 :: .float .f32 1065353216 :: .float .f32 m :: .pointer (some ⟨w0.heap.size, 0, none⟩) :: .pointer (some ⟨wm1.heap.size, 0, none⟩) :: .int .i64 0 :: .pointer (some ⟨k, 0, none⟩) :: .float .f32 e :: .float .f32 e :: .bool true :: .bool false :: undef :: undef :: undef :: undef :: undef :: undef :: .float .f32 e :: .bool true :: .float .f32 y :: .float .f32 1065353216 :: .float .f32 m :: .pointer (some ⟨g, 0, none⟩) :: .pointer (some ⟨g, 0, none⟩) :: .agg (fls c) :: .pointer (some ⟨w0.heap.size, 0, none⟩) :: .float .f32 (c 0) :: .float .f32 m :: .float .f32 (fadd (c 0) m) :: .pointer (some ⟨w0.heap.size, 0, none⟩) :: .tuple #[.agg (fls (upd c 0 (fadd (c 0) m))), .int .i64 0] :: .agg (fls (upd c 0 (fadd (c 0) m))) :: .tuple #[.agg (fls (upd c 0 (fadd (c 0) m))), .int .i64 0] :: .agg (fls (upd c 0 (fadd (c 0) m))) :: .int .i64 0 :: .int .i64 0 :: .bool false :: undef :: undef :: undef :: .agg (fls (upd c 0 (fadd (c 0) m))) :: .pointer (some ⟨k, 0, none⟩) :: .pointer (some ⟨k, 0, none⟩) :: .agg (#[.float .f32 h, .float .f32 v]) :: .float .f32 m :: .float .f32 (fdiv m 1199570944) :: .agg #[.float .f32 h, .float .f32 (spendF v (fdiv m 1199570944))] :: .float .f32 m :: []).toArray, defers := [] } #[true, true, true, true, true, true, true, true, true, false, false, false] (k1).swap hB1 (ne_consG (Ne.symm (hn2 _ (List.mem_cons_self ..))) hn1) rfl (by rfl) 26 _ _ rfl (fls (upd c 0 (fadd (c 0) m))) (by rfl) (by rfl) (by rw [fls_size]; exact info_arr) (by simp) (fls_one _) (by rfl) (by rfl) (fun w2 k2 => ?_) AllReadyH.nil
  refine ⟨k2.tail.tail, ?_⟩
  refine wpAnyH_ready (rs := [9]) (by kernel_rfl) (by simp) ?_
  refine storeK 9 { tmps := (.pointer (some ⟨g, 0, none⟩) :: .pointer (some ⟨k, 0, none⟩) :: .float .f32 y :: undef :: undef :: undef :: .pointer (some ⟨w.heap.size, 0, none⟩) :: .pointer (some ⟨w.heap.size + 1, 0, none⟩) :: .float .f32 0 :: .int .i64 0 :: .float .f32 1065353216 :: .float .f32 m :: .pointer (some ⟨w0.heap.size, 0, none⟩) :: .pointer (some ⟨wm1.heap.size, 0, none⟩) :: .int .i64 0 :: .pointer (some ⟨k, 0, none⟩) :: .float .f32 e :: .float .f32 e :: .bool true :: .bool false :: undef :: undef :: undef :: undef :: undef :: undef :: .float .f32 e :: .bool true :: .float .f32 y :: .float .f32 1065353216 :: .float .f32 m :: .pointer (some ⟨g, 0, none⟩) :: .pointer (some ⟨g, 0, none⟩) :: .agg (fls c) :: .pointer (some ⟨w0.heap.size, 0, none⟩) :: .float .f32 (c 0) :: .float .f32 m :: .float .f32 (fadd (c 0) m) :: .pointer (some ⟨w0.heap.size, 0, none⟩) :: .tuple #[.agg (fls (upd c 0 (fadd (c 0) m))), .int .i64 0] :: .agg (fls (upd c 0 (fadd (c 0) m))) :: .tuple #[.agg (fls (upd c 0 (fadd (c 0) m))), .int .i64 0] :: .agg (fls (upd c 0 (fadd (c 0) m))) :: .int .i64 0 :: .int .i64 0 :: .bool false :: undef :: undef :: undef :: .agg (fls (upd c 0 (fadd (c 0) m))) :: .pointer (some ⟨k, 0, none⟩) :: .pointer (some ⟨k, 0, none⟩) :: .agg (#[.float .f32 h, .float .f32 v]) :: .float .f32 m :: .float .f32 (fdiv m 1199570944) :: .agg #[.float .f32 h, .float .f32 (spendF v (fdiv m 1199570944))] :: .float .f32 m :: []).toArray, defers := [] } #[true, true, true, true, true, true, true, true, true, true, false, false] (k2).swap hB2 (ne_tail hn2 rfl) rfl (by rfl) 44 _ _ rfl (#[.float .f32 h, .float .f32 (spendF v (fdiv m 1199570944))]) (by rfl) (by rfl) (info_air) (by simp) (by simp [Value.oneCell']) (by rfl) (by rfl) (fun w3 k3 => ?_) AllReadyH.nil
  refine ⟨k3.tail.tail, ?_⟩
  refine take_val 10 { tmps := (.pointer (some ⟨g, 0, none⟩) :: .pointer (some ⟨k, 0, none⟩) :: .float .f32 y :: undef :: undef :: undef :: .pointer (some ⟨w.heap.size, 0, none⟩) :: .pointer (some ⟨w.heap.size + 1, 0, none⟩) :: .float .f32 m :: .int .i64 0 :: .float .f32 1065353216 :: .float .f32 m :: .pointer (some ⟨w0.heap.size, 0, none⟩) :: .pointer (some ⟨wm1.heap.size, 0, none⟩) :: .int .i64 0 :: .pointer (some ⟨k, 0, none⟩) :: .float .f32 e :: .float .f32 e :: .bool true :: .bool false :: undef :: undef :: undef :: undef :: undef :: undef :: .float .f32 e :: .bool true :: .float .f32 y :: .float .f32 1065353216 :: .float .f32 m :: .pointer (some ⟨g, 0, none⟩) :: .pointer (some ⟨g, 0, none⟩) :: .agg (fls c) :: .pointer (some ⟨w0.heap.size, 0, none⟩) :: .float .f32 (c 0) :: .float .f32 m :: .float .f32 (fadd (c 0) m) :: .pointer (some ⟨w0.heap.size, 0, none⟩) :: .tuple #[.agg (fls (upd c 0 (fadd (c 0) m))), .int .i64 0] :: .agg (fls (upd c 0 (fadd (c 0) m))) :: .tuple #[.agg (fls (upd c 0 (fadd (c 0) m))), .int .i64 0] :: .agg (fls (upd c 0 (fadd (c 0) m))) :: .int .i64 0 :: .int .i64 0 :: .bool false :: undef :: undef :: undef :: .agg (fls (upd c 0 (fadd (c 0) m))) :: .pointer (some ⟨k, 0, none⟩) :: .pointer (some ⟨k, 0, none⟩) :: .agg (#[.float .f32 h, .float .f32 v]) :: .float .f32 m :: .float .f32 (fdiv m 1199570944) :: .agg #[.float .f32 h, .float .f32 (spendF v (fdiv m 1199570944))] :: .float .f32 m :: []).toArray, defers := [] } #[true, true, true, true, true, true, true, true, true, true, true, false] (.float .f32 m) rfl (by rfl) (by kernel_rfl) (by kernel_rfl) (by kernel_rfl) (fun w => by rfl) (by rfl) (by rfl) (k3.tail.tail) ?_
  refine take_val 11 { tmps := (.pointer (some ⟨g, 0, none⟩) :: .pointer (some ⟨k, 0, none⟩) :: .float .f32 y :: undef :: undef :: undef :: .pointer (some ⟨w.heap.size, 0, none⟩) :: .pointer (some ⟨w.heap.size + 1, 0, none⟩) :: .float .f32 m :: .int .i64 0 :: .float .f32 1065353216 :: .float .f32 m :: .pointer (some ⟨w0.heap.size, 0, none⟩) :: .pointer (some ⟨wm1.heap.size, 0, none⟩) :: .int .i64 0 :: .pointer (some ⟨k, 0, none⟩) :: .float .f32 e :: .float .f32 e :: .bool true :: .bool false :: undef :: undef :: undef :: undef :: undef :: undef :: .float .f32 e :: .bool true :: .float .f32 y :: .float .f32 1065353216 :: .float .f32 m :: .pointer (some ⟨g, 0, none⟩) :: .pointer (some ⟨g, 0, none⟩) :: .agg (fls c) :: .pointer (some ⟨w0.heap.size, 0, none⟩) :: .float .f32 (c 0) :: .float .f32 m :: .float .f32 (fadd (c 0) m) :: .pointer (some ⟨w0.heap.size, 0, none⟩) :: .tuple #[.agg (fls (upd c 0 (fadd (c 0) m))), .int .i64 0] :: .agg (fls (upd c 0 (fadd (c 0) m))) :: .tuple #[.agg (fls (upd c 0 (fadd (c 0) m))), .int .i64 0] :: .agg (fls (upd c 0 (fadd (c 0) m))) :: .int .i64 0 :: .int .i64 0 :: .bool false :: undef :: undef :: undef :: .agg (fls (upd c 0 (fadd (c 0) m))) :: .pointer (some ⟨k, 0, none⟩) :: .pointer (some ⟨k, 0, none⟩) :: .agg (#[.float .f32 h, .float .f32 v]) :: .float .f32 m :: .float .f32 (fdiv m 1199570944) :: .agg #[.float .f32 h, .float .f32 (spendF v (fdiv m 1199570944))] :: .float .f32 m :: []).toArray, defers := [] } #[true, true, true, true, true, true, true, true, true, true, true, true] (.int .i64 0) rfl (by rfl) (by kernel_rfl) (by kernel_rfl) (by kernel_rfl) (fun w => by rfl) (by rfl) (by rfl) (k3.tail.tail) ?_
  refine wpAnyH_done (by kernel_rfl) (NoPanic.normal ?_) _
  go_wp2
  exact bodyPost_ret (results_two rfl _ _ (w.heap.size) 26 (fls (upd c 0 (fadd (c 0) m))) (0, 0) _ (w.heap.size + 1) 44 (#[.float .f32 h, .float .f32 (spendF v (fdiv m 1199570944))]) (0, 0) _ rfl (k3.at (x := (w.heap.size, fls (upd c 0 (fadd (c 0) m)), 26)) (by simp)) Try.underlying26 rfl (by rw [fls_size]; exact info_arr) rfl (k3.at (x := (w.heap.size + 1, #[.float .f32 h, .float .f32 (spendF v (fdiv m 1199570944))], 44)) (by simp)) Try.underlying44 rfl (info_air)) rfl ⟨rfl, k3.1⟩

set_option maxRecDepth 100000 in
set_option maxHeartbeats 2000000 in
theorem sActivate_state_le (c : Nat → Nat) (hc : Amts c) (h v : Nat) (hh : h < 4294967296) (hq : airB h v = true) (y : Nat) (hy : amtB y = true) (e m : Nat) (he : excF h v = e) (hea : amtB e = true) (h0 : 0 < e) (hm : madeF e y = m) (hma : amtB m = true) (hq1 : e ≤ 1065353216) (hF : ¬ Fins (upd c 0 (fadd (c 0) m)))  (w : World) (g k : Nat) (T T' : TypeId) (hg : arrAt w g c T) (hk : airAt w k h v T') :
    Calls Try.prog 124 #[.pointer (some ⟨g, 0, none⟩), .pointer (some ⟨k, 0, none⟩), .float .f32 y] w fun e w' => e = .returned (.tuple #[.agg (fls fun _ => 0), .agg #[.float .f32 0, .float .f32 0], .float .f32 0, .int .i64 4]) ∧ Below w.heap.size w w' := by
  have hE := fun w r U hr => sExcess h v hh hq w r U hr
  rw [he] at hE
  have HE := hid hE
  have hb1 := gt_t hea (y := 0) (by decide) h0
  have hb2 := gt_f hea (y := 1065353216) (by decide) hq1
  have hml := fun w => run_mul (P := Try.prog) 24 hy (hea) w
  rw [show fmul y e = m by rw [← hm]; unfold madeF; rw [Nat.min_eq_left (by omega)]] at hml
  have had := fun w => run_add (P := Try.prog) 24 (amt_nn (hc 0 (by decide))) (amt_nn hma) w
  have Hdv := hid (fun w => run_div (P := Try.prog) 24 (amt_nn hma) (by decide : amtB 1199570944 = true) (by decide) w)
  have Hvl := hid (vap_le (airB_iff.1 hq).2.1 (airB_iff.1 hq).2.2)
  have Hgl : Hid (fdiv m 1199570944 < INF) := hid (Nat.lt_of_le_of_lt (div_less (k := 16) (by decide) (amtB_iff.1 hma)) (amtB_iff.1 hma))
  have HDl := hid (upd_lt (k := 0) (fun i hi => amt_lt (hc i hi)) (nn_lt (add_eq (amt_nn (hc 0 (by decide))) (amt_nn hma)).2))
  clear hE he hea h0 hm hma hq1
  have kk : Kept w [(g, fls c, T), (k, #[.float .f32 h, .float .f32 v], T')] w := ⟨Below.refl _ _, fun x hx => by
    simp only [List.mem_cons, List.not_mem_nil, or_false] at hx
    rcases hx with rfl | rfl
    · exact hg
    · exact hk⟩
  have lg : g < w.heap.size := kk.lt (x := (g, fls c, T)) (by simp)
  have lk : k < w.heap.size := kk.lt (x := (k, #[.float .f32 h, .float .f32 v], T')) (by simp)
  have k0 := hid ((kk.push (fls fun _ => 0) 26).push #[.float .f32 0, .float .f32 0] 44)
  have Hhc := hid hc
  have Hhh := hid hh
  have Hhq := hid hq
  have Hhy := hid hy
  have HhF := hid hF
  clear kk hg hk hc hh hq hy hF
  go_enter Try.func124, Try.ntmps124
  go_wp2_with fail
  refine (HE.out _ k T' (k0.out.at (x := (k, #[.float .f32 h, .float .f32 v], T')) (by simp))).mono ?_
  rintro e w0 ⟨rfl, hb0⟩
  have k1 := hid (k0.out.stay hb0)
  clear hb0 k0
  have hS4 : w.heap.size + 1 < w0.heap.size := k1.out.lt (x := (w.heap.size + 1, #[.float .f32 0, .float .f32 0], 44)) (by simp)
  have ka := hid (k1.out.push (fls fun _ => 0) 26)
  go_wp2_with (first | (refine wpList_load_row rfl 26 _ rfl (w0.heap.size) rfl 26 (fls (upd c 0 (fadd (c 0) m))) (0, 0) _ (kc.out.at (x := (w0.heap.size, fls (upd c 0 (fadd (c 0) m)), 26)) (by simp)) Try.underlying26 rfl (by rw [fls_size]; exact info_arr) ?_) | (refine store_kept (w0 := w) (l := [(w.heap.size + 1, #[.float .f32 0, .float .f32 0], 44), (w.heap.size, fls fun _ => 0, 26), (g, fls c, T), (k, #[.float .f32 h, .float .f32 v], T')]) rfl 26 _ _ rfl (w0.heap.size) (fls c) rfl rfl 26 (fls fun _ => 0) (ka.out.sub (l' := [(w0.heap.size, fls fun _ => 0, 26), (w.heap.size + 1, #[.float .f32 0, .float .f32 0], 44), (w.heap.size, fls fun _ => 0, 26), (g, fls c, T), (k, #[.float .f32 h, .float .f32 v], T')]) (by intro x hx; simp only [List.mem_cons, List.not_mem_nil, or_false] at hx; rcases hx with rfl | rfl | rfl | rfl | rfl <;> simp)) (by omega) (by intro x hx; simp only [List.mem_cons, List.not_mem_nil, or_false] at hx; rcases hx with rfl | rfl | rfl | rfl <;> first | (simp; done) | (simp only []; omega)) (by rw [fls_size]; exact info_arr) (by simp) (fls_one _) ?_; intro wkb kb; have kb := hid kb; have q0 : World.cell? wkb ⟨w0.heap.size, 0, none⟩ = some (.float .f32 (c 0)) := arrAt.cell (c := c) (kb.out.at (x := (w0.heap.size, fls c, 26)) (by simp)) (by decide); have f0 : World.frozen? wkb ⟨w0.heap.size, 0, none⟩ = false := arrAt.frozen (c := c) (kb.out.at (x := (w0.heap.size, fls c, 26)) (by simp)) 0; have kc := hid (kb.out.cell (by omega) (by intro x hx; simp only [List.mem_cons, List.not_mem_nil, or_false] at hx; rcases hx with rfl | rfl | rfl | rfl <;> first | (simp; done) | (simp only []; omega)) 0 (fadd (c 0) m))) | (refine wpList_load_row rfl 26 _ rfl (g) rfl T (fls c) (0, 0) _ (k1.out.at (x := (g, fls c, T)) (by simp)) Try.underlying26 rfl (by rw [fls_size]; exact info_arr) ?_))
  refine (sMade (upd c 0 (fadd (c 0) m)) HDl.out (fun _ => 0) 4 (fun h => absurd h HhF.out) (fun _ => ⟨rfl, rfl⟩) _).mono ?_
  rintro e wm1 ⟨rfl, hbm1⟩
  have km1z := hid (kc.out.stay hbm1)
  clear hbm1
  have hS5 : w0.heap.size < wm1.heap.size := km1z.out.lt (x := (w0.heap.size, fls (upd c 0 (fadd (c 0) m)), 26)) (by simp)
  have kd := hid (km1z.out.push (fls fun _ => 0) 26)
  go_wp2_with (first | (refine store_kept (w0 := w) (l := [(w0.heap.size, fls (upd c 0 (fadd (c 0) m)), 26), (w.heap.size + 1, #[.float .f32 0, .float .f32 0], 44), (w.heap.size, fls fun _ => 0, 26), (g, fls c, T), (k, #[.float .f32 h, .float .f32 v], T')]) rfl 26 _ _ rfl (wm1.heap.size) (fls fun _ => 0) rfl rfl 26 (fls fun _ => 0) (kd.out.sub (l' := [(wm1.heap.size, fls fun _ => 0, 26), (w0.heap.size, fls (upd c 0 (fadd (c 0) m)), 26), (w.heap.size + 1, #[.float .f32 0, .float .f32 0], 44), (w.heap.size, fls fun _ => 0, 26), (g, fls c, T), (k, #[.float .f32 h, .float .f32 v], T')]) (by intro x hx; simp only [List.mem_cons, List.not_mem_nil, or_false] at hx; rcases hx with rfl | rfl | rfl | rfl | rfl | rfl <;> simp)) (by omega) (by intro x hx; simp only [List.mem_cons, List.not_mem_nil, or_false] at hx; rcases hx with rfl | rfl | rfl | rfl | rfl <;> first | (simp; done) | (simp only []; omega)) (by rw [fls_size]; exact info_arr) (by simp) (fls_one _) ?_; intro wke ke; have ke := hid ke) | (refine store_kept (w0 := w) (l := [(wm1.heap.size, fls fun _ => 0, 26), (w0.heap.size, fls (upd c 0 (fadd (c 0) m)), 26), (w.heap.size + 1, #[.float .f32 0, .float .f32 0], 44), (g, fls c, T), (k, #[.float .f32 h, .float .f32 v], T')]) rfl 26 _ _ rfl (w.heap.size) (fls fun _ => 0) rfl rfl 26 (fls fun _ => 0) (ke.out.sub (l' := [(w.heap.size, fls fun _ => 0, 26), (wm1.heap.size, fls fun _ => 0, 26), (w0.heap.size, fls (upd c 0 (fadd (c 0) m)), 26), (w.heap.size + 1, #[.float .f32 0, .float .f32 0], 44), (g, fls c, T), (k, #[.float .f32 h, .float .f32 v], T')]) (by intro x hx; simp only [List.mem_cons, List.not_mem_nil, or_false] at hx; rcases hx with rfl | rfl | rfl | rfl | rfl | rfl <;> simp)) (by omega) (by intro x hx; simp only [List.mem_cons, List.not_mem_nil, or_false] at hx; rcases hx with rfl | rfl | rfl | rfl | rfl <;> first | (simp; done) | (simp only []; omega)) (by rw [fls_size]; exact info_arr) (by simp) (fls_one _) ?_; intro wkf kf; have kf := hid kf) | (refine store_kept (w0 := w) (l := [(w.heap.size, fls fun _ => 0, 26), (wm1.heap.size, fls fun _ => 0, 26), (w0.heap.size, fls (upd c 0 (fadd (c 0) m)), 26), (g, fls c, T), (k, #[.float .f32 h, .float .f32 v], T')]) rfl 44 _ _ rfl (w.heap.size + 1) (#[.float .f32 0, .float .f32 0]) rfl rfl 44 (#[.float .f32 0, .float .f32 0]) (kf.out.sub (l' := [(w.heap.size + 1, #[.float .f32 0, .float .f32 0], 44), (w.heap.size, fls fun _ => 0, 26), (wm1.heap.size, fls fun _ => 0, 26), (w0.heap.size, fls (upd c 0 (fadd (c 0) m)), 26), (g, fls c, T), (k, #[.float .f32 h, .float .f32 v], T')]) (by intro x hx; simp only [List.mem_cons, List.not_mem_nil, or_false] at hx; rcases hx with rfl | rfl | rfl | rfl | rfl | rfl <;> simp)) (by omega) (by intro x hx; simp only [List.mem_cons, List.not_mem_nil, or_false] at hx; rcases hx with rfl | rfl | rfl | rfl | rfl <;> first | (simp; done) | (simp only []; omega)) (info_air) (by simp) (by simp [Value.oneCell']) ?_; intro wkg kg; have kg := hid kg))
  exact bodyPost_ret (results_two rfl _ _ (w.heap.size) 26 (fls fun _ => 0) (0, 0) _ (w.heap.size + 1) 44 (#[.float .f32 0, .float .f32 0]) (0, 0) _ rfl (kg.out.at (x := (w.heap.size, fls fun _ => 0, 26)) (by simp)) Try.underlying26 rfl (by rw [fls_size]; exact info_arr) rfl (kg.out.at (x := (w.heap.size + 1, #[.float .f32 0, .float .f32 0], 44)) (by simp)) Try.underlying44 rfl (info_air)) rfl ⟨rfl, kg.out.1⟩

set_option maxRecDepth 100000 in
set_option maxHeartbeats 2000000 in
theorem sActivate_state_gt (c : Nat → Nat) (hc : Amts c) (h v : Nat) (hh : h < 4294967296) (hq : airB h v = true) (y : Nat) (hy : amtB y = true) (e m : Nat) (he : excF h v = e) (hea : amtB e = true) (h0 : 0 < e) (hm : madeF e y = m) (hma : amtB m = true) (hq1 : 1065353216 < e) (hF : ¬ Fins (upd c 0 (fadd (c 0) m)))  (w : World) (g k : Nat) (T T' : TypeId) (hg : arrAt w g c T) (hk : airAt w k h v T') :
    Calls Try.prog 124 #[.pointer (some ⟨g, 0, none⟩), .pointer (some ⟨k, 0, none⟩), .float .f32 y] w fun e w' => e = .returned (.tuple #[.agg (fls fun _ => 0), .agg #[.float .f32 0, .float .f32 0], .float .f32 0, .int .i64 4]) ∧ Below w.heap.size w w' := by
  have hE := fun w r U hr => sExcess h v hh hq w r U hr
  rw [he] at hE
  have HE := hid hE
  have hb1 := gt_t hea (y := 0) (by decide) h0
  have hb2 := gt_t hea (y := 1065353216) (by decide) hq1
  have hml := fun w => run_mul (P := Try.prog) 24 hy (by decide : amtB 1065353216 = true) w
  rw [show fmul y 1065353216 = m by rw [← hm]; unfold madeF; rw [Nat.min_eq_right (by omega)]] at hml
  have had := fun w => run_add (P := Try.prog) 24 (amt_nn (hc 0 (by decide))) (amt_nn hma) w
  have Hdv := hid (fun w => run_div (P := Try.prog) 24 (amt_nn hma) (by decide : amtB 1199570944 = true) (by decide) w)
  have Hvl := hid (vap_le (airB_iff.1 hq).2.1 (airB_iff.1 hq).2.2)
  have Hgl : Hid (fdiv m 1199570944 < INF) := hid (Nat.lt_of_le_of_lt (div_less (k := 16) (by decide) (amtB_iff.1 hma)) (amtB_iff.1 hma))
  have HDl := hid (upd_lt (k := 0) (fun i hi => amt_lt (hc i hi)) (nn_lt (add_eq (amt_nn (hc 0 (by decide))) (amt_nn hma)).2))
  clear hE he hea h0 hm hma hq1
  have kk : Kept w [(g, fls c, T), (k, #[.float .f32 h, .float .f32 v], T')] w := ⟨Below.refl _ _, fun x hx => by
    simp only [List.mem_cons, List.not_mem_nil, or_false] at hx
    rcases hx with rfl | rfl
    · exact hg
    · exact hk⟩
  have lg : g < w.heap.size := kk.lt (x := (g, fls c, T)) (by simp)
  have lk : k < w.heap.size := kk.lt (x := (k, #[.float .f32 h, .float .f32 v], T')) (by simp)
  have k0 := hid ((kk.push (fls fun _ => 0) 26).push #[.float .f32 0, .float .f32 0] 44)
  have Hhc := hid hc
  have Hhh := hid hh
  have Hhq := hid hq
  have Hhy := hid hy
  have HhF := hid hF
  clear kk hg hk hc hh hq hy hF
  go_enter Try.func124, Try.ntmps124
  go_wp2_with fail
  refine (HE.out _ k T' (k0.out.at (x := (k, #[.float .f32 h, .float .f32 v], T')) (by simp))).mono ?_
  rintro e w0 ⟨rfl, hb0⟩
  have k1 := hid (k0.out.stay hb0)
  clear hb0 k0
  have hS4 : w.heap.size + 1 < w0.heap.size := k1.out.lt (x := (w.heap.size + 1, #[.float .f32 0, .float .f32 0], 44)) (by simp)
  have ka := hid (k1.out.push (fls fun _ => 0) 26)
  go_wp2_with (first | (refine wpList_load_row rfl 26 _ rfl (w0.heap.size) rfl 26 (fls (upd c 0 (fadd (c 0) m))) (0, 0) _ (kc.out.at (x := (w0.heap.size, fls (upd c 0 (fadd (c 0) m)), 26)) (by simp)) Try.underlying26 rfl (by rw [fls_size]; exact info_arr) ?_) | (refine store_kept (w0 := w) (l := [(w.heap.size + 1, #[.float .f32 0, .float .f32 0], 44), (w.heap.size, fls fun _ => 0, 26), (g, fls c, T), (k, #[.float .f32 h, .float .f32 v], T')]) rfl 26 _ _ rfl (w0.heap.size) (fls c) rfl rfl 26 (fls fun _ => 0) (ka.out.sub (l' := [(w0.heap.size, fls fun _ => 0, 26), (w.heap.size + 1, #[.float .f32 0, .float .f32 0], 44), (w.heap.size, fls fun _ => 0, 26), (g, fls c, T), (k, #[.float .f32 h, .float .f32 v], T')]) (by intro x hx; simp only [List.mem_cons, List.not_mem_nil, or_false] at hx; rcases hx with rfl | rfl | rfl | rfl | rfl <;> simp)) (by omega) (by intro x hx; simp only [List.mem_cons, List.not_mem_nil, or_false] at hx; rcases hx with rfl | rfl | rfl | rfl <;> first | (simp; done) | (simp only []; omega)) (by rw [fls_size]; exact info_arr) (by simp) (fls_one _) ?_; intro wkb kb; have kb := hid kb; have q0 : World.cell? wkb ⟨w0.heap.size, 0, none⟩ = some (.float .f32 (c 0)) := arrAt.cell (c := c) (kb.out.at (x := (w0.heap.size, fls c, 26)) (by simp)) (by decide); have f0 : World.frozen? wkb ⟨w0.heap.size, 0, none⟩ = false := arrAt.frozen (c := c) (kb.out.at (x := (w0.heap.size, fls c, 26)) (by simp)) 0; have kc := hid (kb.out.cell (by omega) (by intro x hx; simp only [List.mem_cons, List.not_mem_nil, or_false] at hx; rcases hx with rfl | rfl | rfl | rfl <;> first | (simp; done) | (simp only []; omega)) 0 (fadd (c 0) m))) | (refine wpList_load_row rfl 26 _ rfl (g) rfl T (fls c) (0, 0) _ (k1.out.at (x := (g, fls c, T)) (by simp)) Try.underlying26 rfl (by rw [fls_size]; exact info_arr) ?_))
  refine (sMade (upd c 0 (fadd (c 0) m)) HDl.out (fun _ => 0) 4 (fun h => absurd h HhF.out) (fun _ => ⟨rfl, rfl⟩) _).mono ?_
  rintro e wm1 ⟨rfl, hbm1⟩
  have km1z := hid (kc.out.stay hbm1)
  clear hbm1
  have hS5 : w0.heap.size < wm1.heap.size := km1z.out.lt (x := (w0.heap.size, fls (upd c 0 (fadd (c 0) m)), 26)) (by simp)
  have kd := hid (km1z.out.push (fls fun _ => 0) 26)
  go_wp2_with (first | (refine store_kept (w0 := w) (l := [(w0.heap.size, fls (upd c 0 (fadd (c 0) m)), 26), (w.heap.size + 1, #[.float .f32 0, .float .f32 0], 44), (w.heap.size, fls fun _ => 0, 26), (g, fls c, T), (k, #[.float .f32 h, .float .f32 v], T')]) rfl 26 _ _ rfl (wm1.heap.size) (fls fun _ => 0) rfl rfl 26 (fls fun _ => 0) (kd.out.sub (l' := [(wm1.heap.size, fls fun _ => 0, 26), (w0.heap.size, fls (upd c 0 (fadd (c 0) m)), 26), (w.heap.size + 1, #[.float .f32 0, .float .f32 0], 44), (w.heap.size, fls fun _ => 0, 26), (g, fls c, T), (k, #[.float .f32 h, .float .f32 v], T')]) (by intro x hx; simp only [List.mem_cons, List.not_mem_nil, or_false] at hx; rcases hx with rfl | rfl | rfl | rfl | rfl | rfl <;> simp)) (by omega) (by intro x hx; simp only [List.mem_cons, List.not_mem_nil, or_false] at hx; rcases hx with rfl | rfl | rfl | rfl | rfl <;> first | (simp; done) | (simp only []; omega)) (by rw [fls_size]; exact info_arr) (by simp) (fls_one _) ?_; intro wke ke; have ke := hid ke) | (refine store_kept (w0 := w) (l := [(wm1.heap.size, fls fun _ => 0, 26), (w0.heap.size, fls (upd c 0 (fadd (c 0) m)), 26), (w.heap.size + 1, #[.float .f32 0, .float .f32 0], 44), (g, fls c, T), (k, #[.float .f32 h, .float .f32 v], T')]) rfl 26 _ _ rfl (w.heap.size) (fls fun _ => 0) rfl rfl 26 (fls fun _ => 0) (ke.out.sub (l' := [(w.heap.size, fls fun _ => 0, 26), (wm1.heap.size, fls fun _ => 0, 26), (w0.heap.size, fls (upd c 0 (fadd (c 0) m)), 26), (w.heap.size + 1, #[.float .f32 0, .float .f32 0], 44), (g, fls c, T), (k, #[.float .f32 h, .float .f32 v], T')]) (by intro x hx; simp only [List.mem_cons, List.not_mem_nil, or_false] at hx; rcases hx with rfl | rfl | rfl | rfl | rfl | rfl <;> simp)) (by omega) (by intro x hx; simp only [List.mem_cons, List.not_mem_nil, or_false] at hx; rcases hx with rfl | rfl | rfl | rfl | rfl <;> first | (simp; done) | (simp only []; omega)) (by rw [fls_size]; exact info_arr) (by simp) (fls_one _) ?_; intro wkf kf; have kf := hid kf) | (refine store_kept (w0 := w) (l := [(w.heap.size, fls fun _ => 0, 26), (wm1.heap.size, fls fun _ => 0, 26), (w0.heap.size, fls (upd c 0 (fadd (c 0) m)), 26), (g, fls c, T), (k, #[.float .f32 h, .float .f32 v], T')]) rfl 44 _ _ rfl (w.heap.size + 1) (#[.float .f32 0, .float .f32 0]) rfl rfl 44 (#[.float .f32 0, .float .f32 0]) (kf.out.sub (l' := [(w.heap.size + 1, #[.float .f32 0, .float .f32 0], 44), (w.heap.size, fls fun _ => 0, 26), (wm1.heap.size, fls fun _ => 0, 26), (w0.heap.size, fls (upd c 0 (fadd (c 0) m)), 26), (g, fls c, T), (k, #[.float .f32 h, .float .f32 v], T')]) (by intro x hx; simp only [List.mem_cons, List.not_mem_nil, or_false] at hx; rcases hx with rfl | rfl | rfl | rfl | rfl | rfl <;> simp)) (by omega) (by intro x hx; simp only [List.mem_cons, List.not_mem_nil, or_false] at hx; rcases hx with rfl | rfl | rfl | rfl | rfl <;> first | (simp; done) | (simp only []; omega)) (info_air) (by simp) (by simp [Value.oneCell']) ?_; intro wkg kg; have kg := hid kg))
  exact bodyPost_ret (results_two rfl _ _ (w.heap.size) 26 (fls fun _ => 0) (0, 0) _ (w.heap.size + 1) 44 (#[.float .f32 0, .float .f32 0]) (0, 0) _ rfl (kg.out.at (x := (w.heap.size, fls fun _ => 0, 26)) (by simp)) Try.underlying26 rfl (by rw [fls_size]; exact info_arr) rfl (kg.out.at (x := (w.heap.size + 1, #[.float .f32 0, .float .f32 0], 44)) (by simp)) Try.underlying44 rfl (info_air)) rfl ⟨rfl, kg.out.1⟩

set_option maxRecDepth 100000 in
set_option maxHeartbeats 2000000 in
theorem iActivate_ok (c : Nat → Nat) (hc : Amts c) (h v : Nat) (hh : h < 4294967296) (hv : v < 4294967296) (hq : airB h v = true) (y : Nat) (hy : amtB y = true) (e m : Nat) (he : excF h v = e) (hea : amtB e = true) (h0 : 0 < e) (hm : madeF e y = m) (hma : amtB m = true) (hF : Fins (upd c 0 (fadd (c 0) m)))  (w : World) :
    Calls Try.prog 55 #[.agg (fls c), .agg #[.float .f32 h, .float .f32 v], .float .f32 y] w fun e w' => e = .returned (.tuple #[.agg (fls (upd c 0 (fadd (c 0) m))), .agg #[.float .f32 h, .float .f32 (spendF v (fdiv m 1199570944))], .float .f32 m, .int .i64 0]) ∧ Below w.heap.size w w' := by
  have hE := fun w => iExcessOf_ok h v hh hv hq w
  rw [he] at hE
  have HE := hid hE
  have hb1 := leq_f hea (y := 0) (by decide) h0
  have hu := (made_facts (e := e) hy).1
  have hmn := fun ts t w => run_min (P := Try.prog) ts t hea (by decide : amtB 1065353216 = true) w
  have hml := fun w => run_mul (P := Try.prog) 24 hy hu w
  rw [show fmul y (min e 1065353216) = m from hm] at hml
  have had := fun w => run_add (P := Try.prog) 24 (amt_nn (hc 0 (by decide))) (amt_nn hma) w
  have Hdv := hid (fun w => run_div (P := Try.prog) 24 (amt_nn hma) (by decide : amtB 1199570944 = true) (by decide) w)
  have Hvl := hid (vap_le (airB_iff.1 hq).2.1 (airB_iff.1 hq).2.2)
  have Hgl : Hid (fdiv m 1199570944 < INF) := hid (Nat.lt_of_le_of_lt (div_less (k := 16) (by decide) (amtB_iff.1 hma)) (amtB_iff.1 hma))
  have HDl := hid (upd_lt (k := 0) (fun i hi => amt_lt (hc i hi)) (nn_lt (add_eq (amt_nn (hc 0 (by decide))) (amt_nn hma)).2))
  have Hmx := hid (fun ts t w => run_max_spend (P := Try.prog) ts t Hvl.out Hgl.out w)
  have Hsb := hid (fun w => run_float_arith (P := Try.prog) w .sub 24 .f32 _ _ _ (spend_facts Hvl.out Hgl.out).s)
  clear hE he hea h0 hm hma hu
  have k0 : Hid (Kept w [(w.heap.size, fls c, 26), (w.heap.size + 1, #[.float .f32 h, .float .f32 v], 44), (w.heap.size + 1 + 1, fls fun _ => 0, 26), (w.heap.size + 1 + 1 + 1, #[.float .f32 0, .float .f32 0], 44)] ((((w.alloc (.cells (fls c) 26)).alloc (.cells (#[.float .f32 h, .float .f32 v]) 44)).alloc (.cells (fls fun _ => 0) 26)).alloc (.cells (#[.float .f32 0, .float .f32 0]) 44))) := hid ((((((Kept.nil w).push (fls c) 26).push (#[.float .f32 h, .float .f32 v]) 44).push (fls fun _ => 0) 26).push (#[.float .f32 0, .float .f32 0]) 44).sub (by simp))
  have Hhc := hid hc
  have Hhh := hid hh
  have Hhv := hid hv
  have Hhq := hid hq
  have Hhy := hid hy
  have HhF := hid hF
  clear hc hh hv hq hy hF
  go_enter Try.func55, Try.ntmps55
  go_wp2_with (first | (refine wpList_load_row rfl 26 _ rfl (w.heap.size) rfl 26 (fls c) (0, 0) _ (k0.out.at (x := (w.heap.size, fls c, 26)) (by simp)) Try.underlying26 rfl (by rw [fls_size]; exact info_arr) ?_))
  refine (validSizes_t c Hhc.out _).mono ?_
  rintro e w0 ⟨rfl, hb0⟩
  have k1 := hid (k0.out.stay hb0)
  clear hb0
  go_wp2_with (first | (refine wpList_load_g rfl 44 _ rfl (w.heap.size + 1) rfl 44 (#[.float .f32 h, .float .f32 v]) (0, 0) _ (k1.out.at (x := (w.heap.size + 1, #[.float .f32 h, .float .f32 v], 44)) (by simp)) Try.underlying44 rfl (info_air) ?_))
  refine (iValidAir h v Hhv.out true Hhq.out _).mono ?_
  rintro e w1 ⟨rfl, hb1⟩
  have k2 := hid (k1.out.stay hb1)
  clear hb1
  go_wp2_with fail
  refine (isAmount_t y Hhy.out _).mono ?_
  rintro e w2 ⟨rfl, rfl⟩
  go_wp2_with (first | (refine wpList_load_row rfl 44 _ rfl (w.heap.size + 1) rfl 44 (#[.float .f32 h, .float .f32 v]) (0, 0) _ (k2.out.at (x := (w.heap.size + 1, #[.float .f32 h, .float .f32 v], 44)) (by simp)) Try.underlying44 rfl (info_air) ?_))
  refine (HE.out _).mono ?_
  rintro e w3 ⟨rfl, hb3⟩
  have k4 := hid (k2.out.stay hb3)
  clear hb3
  have hS4 : w.heap.size + 1 + 1 + 1 < w3.heap.size := k4.out.lt (x := (w.heap.size + 1 + 1 + 1, #[.float .f32 0, .float .f32 0], 44)) (by simp)
  have ka := hid (k4.out.push (fls fun _ => 0) 26)
  go_wp2_with (first | (refine wpList_load_row rfl 26 _ rfl (w3.heap.size) rfl 26 (fls (upd c 0 (fadd (c 0) m))) (0, 0) _ (kc.out.at (x := (w3.heap.size, fls (upd c 0 (fadd (c 0) m)), 26)) (by simp)) Try.underlying26 rfl (by rw [fls_size]; exact info_arr) ?_) | (refine store_kept (w0 := w) (l := [(w.heap.size, fls c, 26), (w.heap.size + 1, #[.float .f32 h, .float .f32 v], 44), (w.heap.size + 1 + 1, fls fun _ => 0, 26), (w.heap.size + 1 + 1 + 1, #[.float .f32 0, .float .f32 0], 44)]) rfl 26 _ _ rfl (w3.heap.size) (fls c) rfl rfl 26 (fls fun _ => 0) (ka.out.sub (l' := [(w3.heap.size, fls fun _ => 0, 26), (w.heap.size, fls c, 26), (w.heap.size + 1, #[.float .f32 h, .float .f32 v], 44), (w.heap.size + 1 + 1, fls fun _ => 0, 26), (w.heap.size + 1 + 1 + 1, #[.float .f32 0, .float .f32 0], 44)]) (by intro x hx; simp only [List.mem_cons, List.not_mem_nil, or_false] at hx; rcases hx with rfl | rfl | rfl | rfl | rfl <;> simp)) (by omega) (by intro x hx; simp only [List.mem_cons, List.not_mem_nil, or_false] at hx; rcases hx with rfl | rfl | rfl | rfl <;> first | (simp; done) | (simp only []; omega)) (by rw [fls_size]; exact info_arr) (by simp) (fls_one _) ?_; intro wkb kb; have kb := hid kb; have q0 : World.cell? wkb ⟨w3.heap.size, 0, none⟩ = some (.float .f32 (c 0)) := arrAt.cell (c := c) (kb.out.at (x := (w3.heap.size, fls c, 26)) (by simp)) (by decide); have f0 : World.frozen? wkb ⟨w3.heap.size, 0, none⟩ = false := arrAt.frozen (c := c) (kb.out.at (x := (w3.heap.size, fls c, 26)) (by simp)) 0; have kc := hid (kb.out.cell (by omega) (by intro x hx; simp only [List.mem_cons, List.not_mem_nil, or_false] at hx; rcases hx with rfl | rfl | rfl | rfl <;> first | (simp; done) | (simp only []; omega)) 0 (fadd (c 0) m))) | (refine wpList_load_row rfl 26 _ rfl (w.heap.size) rfl 26 (fls c) (0, 0) _ (k4.out.at (x := (w.heap.size, fls c, 26)) (by simp)) Try.underlying26 rfl (by rw [fls_size]; exact info_arr) ?_))
  refine (iFinite (upd c 0 (fadd (c 0) m)) HDl.out (upd c 0 (fadd (c 0) m)) 0 (fun _ => ⟨rfl, rfl⟩) (fun h => absurd HhF.out h) _).mono ?_
  rintro e wm1 ⟨rfl, hbm1⟩
  have km1z := hid (kc.out.stay hbm1)
  clear hbm1
  go_wp2_with (first | (refine store_kept (w0 := w) (l := [(w.heap.size, fls c, 26), (w.heap.size + 1, #[.float .f32 h, .float .f32 v], 44), (w.heap.size + 1 + 1, fls fun _ => 0, 26), (w.heap.size + 1 + 1 + 1, #[.float .f32 0, .float .f32 0], 44)]) rfl 26 _ _ rfl (w3.heap.size) (fls (upd c 0 (fadd (c 0) m))) rfl rfl 26 (fls (upd c 0 (fadd (c 0) m))) (km1z.out.sub (l' := [(w3.heap.size, fls (upd c 0 (fadd (c 0) m)), 26), (w.heap.size, fls c, 26), (w.heap.size + 1, #[.float .f32 h, .float .f32 v], 44), (w.heap.size + 1 + 1, fls fun _ => 0, 26), (w.heap.size + 1 + 1 + 1, #[.float .f32 0, .float .f32 0], 44)]) (by intro x hx; simp only [List.mem_cons, List.not_mem_nil, or_false] at hx; rcases hx with rfl | rfl | rfl | rfl | rfl <;> simp)) (by omega) (by intro x hx; simp only [List.mem_cons, List.not_mem_nil, or_false] at hx; rcases hx with rfl | rfl | rfl | rfl <;> first | (simp; done) | (simp only []; omega)) (by rw [fls_size]; exact info_arr) (by simp) (fls_one _) ?_; intro wke ke; have ke := hid ke))
  have kz : Kept w [(w.heap.size + 1 + 1 + 1, #[.float .f32 0, .float .f32 0], 44), (w.heap.size + 1 + 1, fls fun _ => 0, 26), (w3.heap.size, fls (upd c 0 (fadd (c 0) m)), 26), (w.heap.size, fls c, 26), (w.heap.size + 1, #[.float .f32 h, .float .f32 v], 44)] _ := (ke.out.sub (l' := [(w.heap.size + 1 + 1 + 1, #[.float .f32 0, .float .f32 0], 44), (w.heap.size + 1 + 1, fls fun _ => 0, 26), (w3.heap.size, fls (upd c 0 (fadd (c 0) m)), 26), (w.heap.size, fls c, 26), (w.heap.size + 1, #[.float .f32 h, .float .f32 v], 44)]) (by intro x hx; simp only [List.mem_cons, List.not_mem_nil, or_false] at hx; rcases hx with rfl | rfl | rfl | rfl | rfl <;> simp))
  have hB1 : w.heap.size ≤ w.heap.size + 1 + 1 := by omega
  have hB2 : w.heap.size ≤ w.heap.size + 1 + 1 + 1 := by omega
  have hn1 : ∀ x ∈ ([(w3.heap.size, fls (upd c 0 (fadd (c 0) m)), 26), (w.heap.size, fls c, 26), (w.heap.size + 1, #[.float .f32 h, .float .f32 v], 44)] : List (Nat × Array Value × TypeId)), x.1 ≠ w.heap.size + 1 + 1 := by intro x hx; simp only [List.mem_cons, List.not_mem_nil, or_false] at hx; rcases hx with rfl | rfl | rfl <;> first | (simp; done) | (simp only []; omega)
  have hn2 : ∀ x ∈ ([(w.heap.size + 1 + 1, fls fun _ => 0, 26), (w3.heap.size, fls (upd c 0 (fadd (c 0) m)), 26), (w.heap.size, fls c, 26), (w.heap.size + 1, #[.float .f32 h, .float .f32 v], 44)] : List (Nat × Array Value × TypeId)), x.1 ≠ w.heap.size + 1 + 1 + 1 := by intro x hx; simp only [List.mem_cons, List.not_mem_nil, or_false] at hx; rcases hx with rfl | rfl | rfl | rfl <;> first | (simp; done) | (simp only []; omega)
  refine region_kept (w0 := w) (l := [(w3.heap.size, fls (upd c 0 (fadd (c 0) m)), 26), (w.heap.size, fls c, 26), (w.heap.size + 1, #[.float .f32 h, .float .f32 v], 44)]) 15 #[false, false, false, false, false, false, false, false, false, false, false, false, false, false, false] (by kernel_rfl) rfl rfl ?_
  have kd := kz.drew
  clear kz
  generalize World.drew _ = wd at kd ⊢
  refine take_load 0 { tmps := (.agg (fls c) :: .agg #[.float .f32 h, .float .f32 v] :: .float .f32 y :: .pointer (some ⟨w.heap.size, 0, none⟩) :: .pointer (some ⟨w.heap.size + 1, 0, none⟩) :: undef :: .pointer (some ⟨w.heap.size + 1 + 1, 0, none⟩) :: .pointer (some ⟨w.heap.size + 1 + 1 + 1, 0, none⟩) :: .float .f32 0 :: .int .i64 0 :: .float .f32 e :: .int .i64 0 :: .float .f32 m :: .pointer (some ⟨w3.heap.size, 0, none⟩) :: .agg (fls c) :: .bool true :: .bool false :: .bool false :: .agg #[.float .f32 h, .float .f32 v] :: .bool true :: .bool false :: .bool false :: undef :: undef :: .float .f32 y :: .bool true :: .bool false :: undef :: undef :: .tuple #[.float .f32 e, .int .i64 0] :: .agg #[.float .f32 h, .float .f32 v] :: .tuple #[.float .f32 e, .int .i64 0] :: .float .f32 e :: .int .i64 0 :: .int .i64 0 :: .bool false :: undef :: undef :: undef :: .float .f32 e :: .bool false :: undef :: undef :: .float .f32 y :: .float .f32 e :: .float .f32 (min e 1065353216) :: .float .f32 m :: .agg (fls c) :: .pointer (some ⟨w3.heap.size, 0, none⟩) :: .float .f32 (c 0) :: .float .f32 m :: .float .f32 (fadd (c 0) m) :: .pointer (some ⟨w3.heap.size, 0, none⟩) :: .tuple #[.agg (fls (upd c 0 (fadd (c 0) m))), .int .i64 0] :: .agg (fls (upd c 0 (fadd (c 0) m))) :: .tuple #[.agg (fls (upd c 0 (fadd (c 0) m))), .int .i64 0] :: .agg (fls (upd c 0 (fadd (c 0) m))) :: .int .i64 0 :: .int .i64 0 :: .bool false :: undef :: undef :: undef :: .agg (fls (upd c 0 (fadd (c 0) m))) :: undef :: undef :: undef :: undef :: undef :: undef :: undef :: undef :: undef :: undef :: []).toArray, defers := [] } #[true, false, false, false, false, false, false, false, false, false, false, false, false, false, false] rfl (by rfl) (by kernel_rfl) (by kernel_rfl) (by kernel_rfl) 26 _ rfl (w3.heap.size) (fls (upd c 0 (fadd (c 0) m))) 26 (by rfl) (by simp) _ Try.underlying26 rfl (by rw [fls_size]; exact info_arr) (by rfl) (by rfl) (kd.tail.tail) ?_
  refine take_val 1 { tmps := (.agg (fls c) :: .agg #[.float .f32 h, .float .f32 v] :: .float .f32 y :: .pointer (some ⟨w.heap.size, 0, none⟩) :: .pointer (some ⟨w.heap.size + 1, 0, none⟩) :: undef :: .pointer (some ⟨w.heap.size + 1 + 1, 0, none⟩) :: .pointer (some ⟨w.heap.size + 1 + 1 + 1, 0, none⟩) :: .float .f32 0 :: .int .i64 0 :: .float .f32 e :: .int .i64 0 :: .float .f32 m :: .pointer (some ⟨w3.heap.size, 0, none⟩) :: .agg (fls c) :: .bool true :: .bool false :: .bool false :: .agg #[.float .f32 h, .float .f32 v] :: .bool true :: .bool false :: .bool false :: undef :: undef :: .float .f32 y :: .bool true :: .bool false :: undef :: undef :: .tuple #[.float .f32 e, .int .i64 0] :: .agg #[.float .f32 h, .float .f32 v] :: .tuple #[.float .f32 e, .int .i64 0] :: .float .f32 e :: .int .i64 0 :: .int .i64 0 :: .bool false :: undef :: undef :: undef :: .float .f32 e :: .bool false :: undef :: undef :: .float .f32 y :: .float .f32 e :: .float .f32 (min e 1065353216) :: .float .f32 m :: .agg (fls c) :: .pointer (some ⟨w3.heap.size, 0, none⟩) :: .float .f32 (c 0) :: .float .f32 m :: .float .f32 (fadd (c 0) m) :: .pointer (some ⟨w3.heap.size, 0, none⟩) :: .tuple #[.agg (fls (upd c 0 (fadd (c 0) m))), .int .i64 0] :: .agg (fls (upd c 0 (fadd (c 0) m))) :: .tuple #[.agg (fls (upd c 0 (fadd (c 0) m))), .int .i64 0] :: .agg (fls (upd c 0 (fadd (c 0) m))) :: .int .i64 0 :: .int .i64 0 :: .bool false :: undef :: undef :: undef :: .agg (fls (upd c 0 (fadd (c 0) m))) :: .pointer (some ⟨w.heap.size + 1, 0, none⟩) :: undef :: undef :: undef :: undef :: undef :: undef :: undef :: undef :: undef :: []).toArray, defers := [] } #[true, true, false, false, false, false, false, false, false, false, false, false, false, false, false] (.pointer (some ⟨w.heap.size + 1, 0, none⟩)) rfl (by rfl) (by kernel_rfl) (by kernel_rfl) (by kernel_rfl) (fun w => by unfold execOp; go_simp) (by rfl) (by rfl) (kd.tail.tail) ?_
  refine take_cell 2 { tmps := (.agg (fls c) :: .agg #[.float .f32 h, .float .f32 v] :: .float .f32 y :: .pointer (some ⟨w.heap.size, 0, none⟩) :: .pointer (some ⟨w.heap.size + 1, 0, none⟩) :: undef :: .pointer (some ⟨w.heap.size + 1 + 1, 0, none⟩) :: .pointer (some ⟨w.heap.size + 1 + 1 + 1, 0, none⟩) :: .float .f32 0 :: .int .i64 0 :: .float .f32 e :: .int .i64 0 :: .float .f32 m :: .pointer (some ⟨w3.heap.size, 0, none⟩) :: .agg (fls c) :: .bool true :: .bool false :: .bool false :: .agg #[.float .f32 h, .float .f32 v] :: .bool true :: .bool false :: .bool false :: undef :: undef :: .float .f32 y :: .bool true :: .bool false :: undef :: undef :: .tuple #[.float .f32 e, .int .i64 0] :: .agg #[.float .f32 h, .float .f32 v] :: .tuple #[.float .f32 e, .int .i64 0] :: .float .f32 e :: .int .i64 0 :: .int .i64 0 :: .bool false :: undef :: undef :: undef :: .float .f32 e :: .bool false :: undef :: undef :: .float .f32 y :: .float .f32 e :: .float .f32 (min e 1065353216) :: .float .f32 m :: .agg (fls c) :: .pointer (some ⟨w3.heap.size, 0, none⟩) :: .float .f32 (c 0) :: .float .f32 m :: .float .f32 (fadd (c 0) m) :: .pointer (some ⟨w3.heap.size, 0, none⟩) :: .tuple #[.agg (fls (upd c 0 (fadd (c 0) m))), .int .i64 0] :: .agg (fls (upd c 0 (fadd (c 0) m))) :: .tuple #[.agg (fls (upd c 0 (fadd (c 0) m))), .int .i64 0] :: .agg (fls (upd c 0 (fadd (c 0) m))) :: .int .i64 0 :: .int .i64 0 :: .bool false :: undef :: undef :: undef :: .agg (fls (upd c 0 (fadd (c 0) m))) :: .pointer (some ⟨w.heap.size + 1, 0, none⟩) :: .float .f32 h :: undef :: undef :: undef :: undef :: undef :: undef :: undef :: undef :: []).toArray, defers := [] } #[true, true, true, false, false, false, false, false, false, false, false, false, false, false, false] (.float .f32 h) rfl (by rfl) (by kernel_rfl) (by kernel_rfl) (by kernel_rfl) (fun wq hS => by have hcell : wq.cell? ⟨w.heap.size + 1, 0, none⟩ = some (.float .f32 h) := (cell_of_row wq (w.heap.size + 1) 0 _ _ _ (hS.at (x := (w.heap.size + 1, #[.float .f32 h, .float .f32 v], 44)) (by simp))).trans rfl; clear hS; unfold execOp; go_simp) (by rfl) (by rfl) (kd.tail.tail) ?_
  refine take_val 3 { tmps := (.agg (fls c) :: .agg #[.float .f32 h, .float .f32 v] :: .float .f32 y :: .pointer (some ⟨w.heap.size, 0, none⟩) :: .pointer (some ⟨w.heap.size + 1, 0, none⟩) :: undef :: .pointer (some ⟨w.heap.size + 1 + 1, 0, none⟩) :: .pointer (some ⟨w.heap.size + 1 + 1 + 1, 0, none⟩) :: .float .f32 0 :: .int .i64 0 :: .float .f32 e :: .int .i64 0 :: .float .f32 m :: .pointer (some ⟨w3.heap.size, 0, none⟩) :: .agg (fls c) :: .bool true :: .bool false :: .bool false :: .agg #[.float .f32 h, .float .f32 v] :: .bool true :: .bool false :: .bool false :: undef :: undef :: .float .f32 y :: .bool true :: .bool false :: undef :: undef :: .tuple #[.float .f32 e, .int .i64 0] :: .agg #[.float .f32 h, .float .f32 v] :: .tuple #[.float .f32 e, .int .i64 0] :: .float .f32 e :: .int .i64 0 :: .int .i64 0 :: .bool false :: undef :: undef :: undef :: .float .f32 e :: .bool false :: undef :: undef :: .float .f32 y :: .float .f32 e :: .float .f32 (min e 1065353216) :: .float .f32 m :: .agg (fls c) :: .pointer (some ⟨w3.heap.size, 0, none⟩) :: .float .f32 (c 0) :: .float .f32 m :: .float .f32 (fadd (c 0) m) :: .pointer (some ⟨w3.heap.size, 0, none⟩) :: .tuple #[.agg (fls (upd c 0 (fadd (c 0) m))), .int .i64 0] :: .agg (fls (upd c 0 (fadd (c 0) m))) :: .tuple #[.agg (fls (upd c 0 (fadd (c 0) m))), .int .i64 0] :: .agg (fls (upd c 0 (fadd (c 0) m))) :: .int .i64 0 :: .int .i64 0 :: .bool false :: undef :: undef :: undef :: .agg (fls (upd c 0 (fadd (c 0) m))) :: .pointer (some ⟨w.heap.size + 1, 0, none⟩) :: .float .f32 h :: .pointer (some ⟨w.heap.size + 1, 1, none⟩) :: undef :: undef :: undef :: undef :: undef :: undef :: undef :: []).toArray, defers := [] } #[true, true, true, true, false, false, false, false, false, false, false, false, false, false, false] (.pointer (some ⟨w.heap.size + 1, 1, none⟩)) rfl (by rfl) (by kernel_rfl) (by kernel_rfl) (by kernel_rfl) (fun w => by unfold execOp; go_simp) (by rfl) (by rfl) (kd.tail.tail) ?_
  refine take_cell 4 { tmps := (.agg (fls c) :: .agg #[.float .f32 h, .float .f32 v] :: .float .f32 y :: .pointer (some ⟨w.heap.size, 0, none⟩) :: .pointer (some ⟨w.heap.size + 1, 0, none⟩) :: undef :: .pointer (some ⟨w.heap.size + 1 + 1, 0, none⟩) :: .pointer (some ⟨w.heap.size + 1 + 1 + 1, 0, none⟩) :: .float .f32 0 :: .int .i64 0 :: .float .f32 e :: .int .i64 0 :: .float .f32 m :: .pointer (some ⟨w3.heap.size, 0, none⟩) :: .agg (fls c) :: .bool true :: .bool false :: .bool false :: .agg #[.float .f32 h, .float .f32 v] :: .bool true :: .bool false :: .bool false :: undef :: undef :: .float .f32 y :: .bool true :: .bool false :: undef :: undef :: .tuple #[.float .f32 e, .int .i64 0] :: .agg #[.float .f32 h, .float .f32 v] :: .tuple #[.float .f32 e, .int .i64 0] :: .float .f32 e :: .int .i64 0 :: .int .i64 0 :: .bool false :: undef :: undef :: undef :: .float .f32 e :: .bool false :: undef :: undef :: .float .f32 y :: .float .f32 e :: .float .f32 (min e 1065353216) :: .float .f32 m :: .agg (fls c) :: .pointer (some ⟨w3.heap.size, 0, none⟩) :: .float .f32 (c 0) :: .float .f32 m :: .float .f32 (fadd (c 0) m) :: .pointer (some ⟨w3.heap.size, 0, none⟩) :: .tuple #[.agg (fls (upd c 0 (fadd (c 0) m))), .int .i64 0] :: .agg (fls (upd c 0 (fadd (c 0) m))) :: .tuple #[.agg (fls (upd c 0 (fadd (c 0) m))), .int .i64 0] :: .agg (fls (upd c 0 (fadd (c 0) m))) :: .int .i64 0 :: .int .i64 0 :: .bool false :: undef :: undef :: undef :: .agg (fls (upd c 0 (fadd (c 0) m))) :: .pointer (some ⟨w.heap.size + 1, 0, none⟩) :: .float .f32 h :: .pointer (some ⟨w.heap.size + 1, 1, none⟩) :: .float .f32 v :: undef :: undef :: undef :: undef :: undef :: undef :: []).toArray, defers := [] } #[true, true, true, true, true, false, false, false, false, false, false, false, false, false, false] (.float .f32 v) rfl (by rfl) (by kernel_rfl) (by kernel_rfl) (by kernel_rfl) (fun wq hS => by have hcell : wq.cell? ⟨w.heap.size + 1, 1, none⟩ = some (.float .f32 v) := (cell_of_row wq (w.heap.size + 1) 1 _ _ _ (hS.at (x := (w.heap.size + 1, #[.float .f32 h, .float .f32 v], 44)) (by simp))).trans rfl; clear hS; unfold execOp; go_simp) (by rfl) (by rfl) (kd.tail.tail) ?_
  refine take_val 5 { tmps := (.agg (fls c) :: .agg #[.float .f32 h, .float .f32 v] :: .float .f32 y :: .pointer (some ⟨w.heap.size, 0, none⟩) :: .pointer (some ⟨w.heap.size + 1, 0, none⟩) :: undef :: .pointer (some ⟨w.heap.size + 1 + 1, 0, none⟩) :: .pointer (some ⟨w.heap.size + 1 + 1 + 1, 0, none⟩) :: .float .f32 0 :: .int .i64 0 :: .float .f32 e :: .int .i64 0 :: .float .f32 m :: .pointer (some ⟨w3.heap.size, 0, none⟩) :: .agg (fls c) :: .bool true :: .bool false :: .bool false :: .agg #[.float .f32 h, .float .f32 v] :: .bool true :: .bool false :: .bool false :: undef :: undef :: .float .f32 y :: .bool true :: .bool false :: undef :: undef :: .tuple #[.float .f32 e, .int .i64 0] :: .agg #[.float .f32 h, .float .f32 v] :: .tuple #[.float .f32 e, .int .i64 0] :: .float .f32 e :: .int .i64 0 :: .int .i64 0 :: .bool false :: undef :: undef :: undef :: .float .f32 e :: .bool false :: undef :: undef :: .float .f32 y :: .float .f32 e :: .float .f32 (min e 1065353216) :: .float .f32 m :: .agg (fls c) :: .pointer (some ⟨w3.heap.size, 0, none⟩) :: .float .f32 (c 0) :: .float .f32 m :: .float .f32 (fadd (c 0) m) :: .pointer (some ⟨w3.heap.size, 0, none⟩) :: .tuple #[.agg (fls (upd c 0 (fadd (c 0) m))), .int .i64 0] :: .agg (fls (upd c 0 (fadd (c 0) m))) :: .tuple #[.agg (fls (upd c 0 (fadd (c 0) m))), .int .i64 0] :: .agg (fls (upd c 0 (fadd (c 0) m))) :: .int .i64 0 :: .int .i64 0 :: .bool false :: undef :: undef :: undef :: .agg (fls (upd c 0 (fadd (c 0) m))) :: .pointer (some ⟨w.heap.size + 1, 0, none⟩) :: .float .f32 h :: .pointer (some ⟨w.heap.size + 1, 1, none⟩) :: .float .f32 v :: .float .f32 m :: undef :: undef :: undef :: undef :: undef :: []).toArray, defers := [] } #[true, true, true, true, true, true, false, false, false, false, false, false, false, false, false] (.float .f32 m) rfl (by rfl) (by kernel_rfl) (by kernel_rfl) (by kernel_rfl) (fun w => by rfl) (by rfl) (by rfl) (kd.tail.tail) ?_
  refine take_val 6 { tmps := (.agg (fls c) :: .agg #[.float .f32 h, .float .f32 v] :: .float .f32 y :: .pointer (some ⟨w.heap.size, 0, none⟩) :: .pointer (some ⟨w.heap.size + 1, 0, none⟩) :: undef :: .pointer (some ⟨w.heap.size + 1 + 1, 0, none⟩) :: .pointer (some ⟨w.heap.size + 1 + 1 + 1, 0, none⟩) :: .float .f32 0 :: .int .i64 0 :: .float .f32 e :: .int .i64 0 :: .float .f32 m :: .pointer (some ⟨w3.heap.size, 0, none⟩) :: .agg (fls c) :: .bool true :: .bool false :: .bool false :: .agg #[.float .f32 h, .float .f32 v] :: .bool true :: .bool false :: .bool false :: undef :: undef :: .float .f32 y :: .bool true :: .bool false :: undef :: undef :: .tuple #[.float .f32 e, .int .i64 0] :: .agg #[.float .f32 h, .float .f32 v] :: .tuple #[.float .f32 e, .int .i64 0] :: .float .f32 e :: .int .i64 0 :: .int .i64 0 :: .bool false :: undef :: undef :: undef :: .float .f32 e :: .bool false :: undef :: undef :: .float .f32 y :: .float .f32 e :: .float .f32 (min e 1065353216) :: .float .f32 m :: .agg (fls c) :: .pointer (some ⟨w3.heap.size, 0, none⟩) :: .float .f32 (c 0) :: .float .f32 m :: .float .f32 (fadd (c 0) m) :: .pointer (some ⟨w3.heap.size, 0, none⟩) :: .tuple #[.agg (fls (upd c 0 (fadd (c 0) m))), .int .i64 0] :: .agg (fls (upd c 0 (fadd (c 0) m))) :: .tuple #[.agg (fls (upd c 0 (fadd (c 0) m))), .int .i64 0] :: .agg (fls (upd c 0 (fadd (c 0) m))) :: .int .i64 0 :: .int .i64 0 :: .bool false :: undef :: undef :: undef :: .agg (fls (upd c 0 (fadd (c 0) m))) :: .pointer (some ⟨w.heap.size + 1, 0, none⟩) :: .float .f32 h :: .pointer (some ⟨w.heap.size + 1, 1, none⟩) :: .float .f32 v :: .float .f32 m :: .float .f32 (fdiv m 1199570944) :: undef :: undef :: undef :: undef :: []).toArray, defers := [] } #[true, true, true, true, true, true, true, false, false, false, false, false, false, false, false] (.float .f32 (fdiv m 1199570944)) rfl (by rfl) (by kernel_rfl) (by kernel_rfl) (by kernel_rfl) (fun w => run_binop_val _ _ _ _ (by rfl) (by rfl) (by simp [eqGuard]) (Hdv.out w)) (by rfl) (by rfl) (kd.tail.tail) ?_
  refine take_val 7 { tmps := (.agg (fls c) :: .agg #[.float .f32 h, .float .f32 v] :: .float .f32 y :: .pointer (some ⟨w.heap.size, 0, none⟩) :: .pointer (some ⟨w.heap.size + 1, 0, none⟩) :: undef :: .pointer (some ⟨w.heap.size + 1 + 1, 0, none⟩) :: .pointer (some ⟨w.heap.size + 1 + 1 + 1, 0, none⟩) :: .float .f32 0 :: .int .i64 0 :: .float .f32 e :: .int .i64 0 :: .float .f32 m :: .pointer (some ⟨w3.heap.size, 0, none⟩) :: .agg (fls c) :: .bool true :: .bool false :: .bool false :: .agg #[.float .f32 h, .float .f32 v] :: .bool true :: .bool false :: .bool false :: undef :: undef :: .float .f32 y :: .bool true :: .bool false :: undef :: undef :: .tuple #[.float .f32 e, .int .i64 0] :: .agg #[.float .f32 h, .float .f32 v] :: .tuple #[.float .f32 e, .int .i64 0] :: .float .f32 e :: .int .i64 0 :: .int .i64 0 :: .bool false :: undef :: undef :: undef :: .float .f32 e :: .bool false :: undef :: undef :: .float .f32 y :: .float .f32 e :: .float .f32 (min e 1065353216) :: .float .f32 m :: .agg (fls c) :: .pointer (some ⟨w3.heap.size, 0, none⟩) :: .float .f32 (c 0) :: .float .f32 m :: .float .f32 (fadd (c 0) m) :: .pointer (some ⟨w3.heap.size, 0, none⟩) :: .tuple #[.agg (fls (upd c 0 (fadd (c 0) m))), .int .i64 0] :: .agg (fls (upd c 0 (fadd (c 0) m))) :: .tuple #[.agg (fls (upd c 0 (fadd (c 0) m))), .int .i64 0] :: .agg (fls (upd c 0 (fadd (c 0) m))) :: .int .i64 0 :: .int .i64 0 :: .bool false :: undef :: undef :: undef :: .agg (fls (upd c 0 (fadd (c 0) m))) :: .pointer (some ⟨w.heap.size + 1, 0, none⟩) :: .float .f32 h :: .pointer (some ⟨w.heap.size + 1, 1, none⟩) :: .float .f32 v :: .float .f32 m :: .float .f32 (fdiv m 1199570944) :: .float .f32 (subW v (fdiv m 1199570944)) :: undef :: undef :: undef :: []).toArray, defers := [] } #[true, true, true, true, true, true, true, true, false, false, false, false, false, false, false] (.float .f32 (subW v (fdiv m 1199570944))) rfl (by rfl) (by kernel_rfl) (by kernel_rfl) (by kernel_rfl) (fun w => run_binop_val _ _ _ _ (by rfl) (by rfl) (by simp [eqGuard]) (Hsb.out w)) (by rfl) (by rfl) (kd.tail.tail) ?_
  refine take_val 8 { tmps := (.agg (fls c) :: .agg #[.float .f32 h, .float .f32 v] :: .float .f32 y :: .pointer (some ⟨w.heap.size, 0, none⟩) :: .pointer (some ⟨w.heap.size + 1, 0, none⟩) :: undef :: .pointer (some ⟨w.heap.size + 1 + 1, 0, none⟩) :: .pointer (some ⟨w.heap.size + 1 + 1 + 1, 0, none⟩) :: .float .f32 0 :: .int .i64 0 :: .float .f32 e :: .int .i64 0 :: .float .f32 m :: .pointer (some ⟨w3.heap.size, 0, none⟩) :: .agg (fls c) :: .bool true :: .bool false :: .bool false :: .agg #[.float .f32 h, .float .f32 v] :: .bool true :: .bool false :: .bool false :: undef :: undef :: .float .f32 y :: .bool true :: .bool false :: undef :: undef :: .tuple #[.float .f32 e, .int .i64 0] :: .agg #[.float .f32 h, .float .f32 v] :: .tuple #[.float .f32 e, .int .i64 0] :: .float .f32 e :: .int .i64 0 :: .int .i64 0 :: .bool false :: undef :: undef :: undef :: .float .f32 e :: .bool false :: undef :: undef :: .float .f32 y :: .float .f32 e :: .float .f32 (min e 1065353216) :: .float .f32 m :: .agg (fls c) :: .pointer (some ⟨w3.heap.size, 0, none⟩) :: .float .f32 (c 0) :: .float .f32 m :: .float .f32 (fadd (c 0) m) :: .pointer (some ⟨w3.heap.size, 0, none⟩) :: .tuple #[.agg (fls (upd c 0 (fadd (c 0) m))), .int .i64 0] :: .agg (fls (upd c 0 (fadd (c 0) m))) :: .tuple #[.agg (fls (upd c 0 (fadd (c 0) m))), .int .i64 0] :: .agg (fls (upd c 0 (fadd (c 0) m))) :: .int .i64 0 :: .int .i64 0 :: .bool false :: undef :: undef :: undef :: .agg (fls (upd c 0 (fadd (c 0) m))) :: .pointer (some ⟨w.heap.size + 1, 0, none⟩) :: .float .f32 h :: .pointer (some ⟨w.heap.size + 1, 1, none⟩) :: .float .f32 v :: .float .f32 m :: .float .f32 (fdiv m 1199570944) :: .float .f32 (subW v (fdiv m 1199570944)) :: .float .f32 (spendF v (fdiv m 1199570944)) :: undef :: undef :: []).toArray, defers := [] } #[true, true, true, true, true, true, true, true, true, false, false, false, false, false, false] (.float .f32 (spendF v (fdiv m 1199570944))) rfl (by rfl) (by kernel_rfl) (by kernel_rfl) (by kernel_rfl) (fun w => run_builtin_val _ _ _ (by rfl) (Hmx.out _ _ w)) (by rfl) (by rfl) (kd.tail.tail) ?_
  refine take_val 9 { tmps := (.agg (fls c) :: .agg #[.float .f32 h, .float .f32 v] :: .float .f32 y :: .pointer (some ⟨w.heap.size, 0, none⟩) :: .pointer (some ⟨w.heap.size + 1, 0, none⟩) :: undef :: .pointer (some ⟨w.heap.size + 1 + 1, 0, none⟩) :: .pointer (some ⟨w.heap.size + 1 + 1 + 1, 0, none⟩) :: .float .f32 0 :: .int .i64 0 :: .float .f32 e :: .int .i64 0 :: .float .f32 m :: .pointer (some ⟨w3.heap.size, 0, none⟩) :: .agg (fls c) :: .bool true :: .bool false :: .bool false :: .agg #[.float .f32 h, .float .f32 v] :: .bool true :: .bool false :: .bool false :: undef :: undef :: .float .f32 y :: .bool true :: .bool false :: undef :: undef :: .tuple #[.float .f32 e, .int .i64 0] :: .agg #[.float .f32 h, .float .f32 v] :: .tuple #[.float .f32 e, .int .i64 0] :: .float .f32 e :: .int .i64 0 :: .int .i64 0 :: .bool false :: undef :: undef :: undef :: .float .f32 e :: .bool false :: undef :: undef :: .float .f32 y :: .float .f32 e :: .float .f32 (min e 1065353216) :: .float .f32 m :: .agg (fls c) :: .pointer (some ⟨w3.heap.size, 0, none⟩) :: .float .f32 (c 0) :: .float .f32 m :: .float .f32 (fadd (c 0) m) :: .pointer (some ⟨w3.heap.size, 0, none⟩) :: .tuple #[.agg (fls (upd c 0 (fadd (c 0) m))), .int .i64 0] :: .agg (fls (upd c 0 (fadd (c 0) m))) :: .tuple #[.agg (fls (upd c 0 (fadd (c 0) m))), .int .i64 0] :: .agg (fls (upd c 0 (fadd (c 0) m))) :: .int .i64 0 :: .int .i64 0 :: .bool false :: undef :: undef :: undef :: .agg (fls (upd c 0 (fadd (c 0) m))) :: .pointer (some ⟨w.heap.size + 1, 0, none⟩) :: .float .f32 h :: .pointer (some ⟨w.heap.size + 1, 1, none⟩) :: .float .f32 v :: .float .f32 m :: .float .f32 (fdiv m 1199570944) :: .float .f32 (subW v (fdiv m 1199570944)) :: .float .f32 (spendF v (fdiv m 1199570944)) :: .agg #[.float .f32 h, .float .f32 (spendF v (fdiv m 1199570944))] :: undef :: []).toArray, defers := [] } #[true, true, true, true, true, true, true, true, true, true, false, false, false, false, false] (.agg #[.float .f32 h, .float .f32 (spendF v (fdiv m 1199570944))]) rfl (by rfl) (by kernel_rfl) (by kernel_rfl) (by kernel_rfl) (fun w => by unfold execOp; go_simp) (by rfl) (by rfl) (kd.tail.tail) ?_
  refine take_val 10 { tmps := (.agg (fls c) :: .agg #[.float .f32 h, .float .f32 v] :: .float .f32 y :: .pointer (some ⟨w.heap.size, 0, none⟩) :: .pointer (some ⟨w.heap.size + 1, 0, none⟩) :: undef :: .pointer (some ⟨w.heap.size + 1 + 1, 0, none⟩) :: .pointer (some ⟨w.heap.size + 1 + 1 + 1, 0, none⟩) :: .float .f32 0 :: .int .i64 0 :: .float .f32 e :: .int .i64 0 :: .float .f32 m :: .pointer (some ⟨w3.heap.size, 0, none⟩) :: .agg (fls c) :: .bool true :: .bool false :: .bool false :: .agg #[.float .f32 h, .float .f32 v] :: .bool true :: .bool false :: .bool false :: undef :: undef :: .float .f32 y :: .bool true :: .bool false :: undef :: undef :: .tuple #[.float .f32 e, .int .i64 0] :: .agg #[.float .f32 h, .float .f32 v] :: .tuple #[.float .f32 e, .int .i64 0] :: .float .f32 e :: .int .i64 0 :: .int .i64 0 :: .bool false :: undef :: undef :: undef :: .float .f32 e :: .bool false :: undef :: undef :: .float .f32 y :: .float .f32 e :: .float .f32 (min e 1065353216) :: .float .f32 m :: .agg (fls c) :: .pointer (some ⟨w3.heap.size, 0, none⟩) :: .float .f32 (c 0) :: .float .f32 m :: .float .f32 (fadd (c 0) m) :: .pointer (some ⟨w3.heap.size, 0, none⟩) :: .tuple #[.agg (fls (upd c 0 (fadd (c 0) m))), .int .i64 0] :: .agg (fls (upd c 0 (fadd (c 0) m))) :: .tuple #[.agg (fls (upd c 0 (fadd (c 0) m))), .int .i64 0] :: .agg (fls (upd c 0 (fadd (c 0) m))) :: .int .i64 0 :: .int .i64 0 :: .bool false :: undef :: undef :: undef :: .agg (fls (upd c 0 (fadd (c 0) m))) :: .pointer (some ⟨w.heap.size + 1, 0, none⟩) :: .float .f32 h :: .pointer (some ⟨w.heap.size + 1, 1, none⟩) :: .float .f32 v :: .float .f32 m :: .float .f32 (fdiv m 1199570944) :: .float .f32 (subW v (fdiv m 1199570944)) :: .float .f32 (spendF v (fdiv m 1199570944)) :: .agg #[.float .f32 h, .float .f32 (spendF v (fdiv m 1199570944))] :: .float .f32 m :: []).toArray, defers := [] } #[true, true, true, true, true, true, true, true, true, true, true, false, false, false, false] (.float .f32 m) rfl (by rfl) (by kernel_rfl) (by kernel_rfl) (by kernel_rfl) (fun w => by rfl) (by rfl) (by rfl) (kd.tail.tail) ?_
  refine wpAnyH_ready (rs := [11]) (by kernel_rfl) (by simp) ?_
  refine storeK 11 { tmps := (.agg (fls c) :: .agg #[.float .f32 h, .float .f32 v] :: .float .f32 y :: .pointer (some ⟨w.heap.size, 0, none⟩) :: .pointer (some ⟨w.heap.size + 1, 0, none⟩) :: undef :: .pointer (some ⟨w.heap.size + 1 + 1, 0, none⟩) :: .pointer (some ⟨w.heap.size + 1 + 1 + 1, 0, none⟩) :: .float .f32 0 :: .int .i64 0 :: .float .f32 e :: .int .i64 0 :: .float .f32 m :: .pointer (some ⟨w3.heap.size, 0, none⟩) :: .agg (fls c) :: .bool true :: .bool false :: .bool false :: .agg #[.float .f32 h, .float .f32 v] :: .bool true :: .bool false :: .bool false :: undef :: undef :: .float .f32 y :: .bool true :: .bool false :: undef :: undef :: .tuple #[.float .f32 e, .int .i64 0] :: .agg #[.float .f32 h, .float .f32 v] :: .tuple #[.float .f32 e, .int .i64 0] :: .float .f32 e :: .int .i64 0 :: .int .i64 0 :: .bool false :: undef :: undef :: undef :: .float .f32 e :: .bool false :: undef :: undef :: .float .f32 y :: .float .f32 e :: .float .f32 (min e 1065353216) :: .float .f32 m :: .agg (fls c) :: .pointer (some ⟨w3.heap.size, 0, none⟩) :: .float .f32 (c 0) :: .float .f32 m :: .float .f32 (fadd (c 0) m) :: .pointer (some ⟨w3.heap.size, 0, none⟩) :: .tuple #[.agg (fls (upd c 0 (fadd (c 0) m))), .int .i64 0] :: .agg (fls (upd c 0 (fadd (c 0) m))) :: .tuple #[.agg (fls (upd c 0 (fadd (c 0) m))), .int .i64 0] :: .agg (fls (upd c 0 (fadd (c 0) m))) :: .int .i64 0 :: .int .i64 0 :: .bool false :: undef :: undef :: undef :: .agg (fls (upd c 0 (fadd (c 0) m))) :: .pointer (some ⟨w.heap.size + 1, 0, none⟩) :: .float .f32 h :: .pointer (some ⟨w.heap.size + 1, 1, none⟩) :: .float .f32 v :: .float .f32 m :: .float .f32 (fdiv m 1199570944) :: .float .f32 (subW v (fdiv m 1199570944)) :: .float .f32 (spendF v (fdiv m 1199570944)) :: .agg #[.float .f32 h, .float .f32 (spendF v (fdiv m 1199570944))] :: .float .f32 m :: []).toArray, defers := [] } #[true, true, true, true, true, true, true, true, true, true, true, true, false, false, false] (kd).swap hB1 (ne_consG (Ne.symm (hn2 _ (List.mem_cons_self ..))) hn1) rfl (by rfl) 26 _ _ rfl (fls (upd c 0 (fadd (c 0) m))) (by rfl) (by rfl) (by rw [fls_size]; exact info_arr) (by simp) (fls_one _) (by rfl) (by rfl) (fun w1 k1 => ?_) AllReadyH.nil
  refine ⟨k1.tail.tail, ?_⟩
  refine wpAnyH_ready (rs := [12]) (by kernel_rfl) (by simp) ?_
  refine storeK 12 { tmps := (.agg (fls c) :: .agg #[.float .f32 h, .float .f32 v] :: .float .f32 y :: .pointer (some ⟨w.heap.size, 0, none⟩) :: .pointer (some ⟨w.heap.size + 1, 0, none⟩) :: undef :: .pointer (some ⟨w.heap.size + 1 + 1, 0, none⟩) :: .pointer (some ⟨w.heap.size + 1 + 1 + 1, 0, none⟩) :: .float .f32 0 :: .int .i64 0 :: .float .f32 e :: .int .i64 0 :: .float .f32 m :: .pointer (some ⟨w3.heap.size, 0, none⟩) :: .agg (fls c) :: .bool true :: .bool false :: .bool false :: .agg #[.float .f32 h, .float .f32 v] :: .bool true :: .bool false :: .bool false :: undef :: undef :: .float .f32 y :: .bool true :: .bool false :: undef :: undef :: .tuple #[.float .f32 e, .int .i64 0] :: .agg #[.float .f32 h, .float .f32 v] :: .tuple #[.float .f32 e, .int .i64 0] :: .float .f32 e :: .int .i64 0 :: .int .i64 0 :: .bool false :: undef :: undef :: undef :: .float .f32 e :: .bool false :: undef :: undef :: .float .f32 y :: .float .f32 e :: .float .f32 (min e 1065353216) :: .float .f32 m :: .agg (fls c) :: .pointer (some ⟨w3.heap.size, 0, none⟩) :: .float .f32 (c 0) :: .float .f32 m :: .float .f32 (fadd (c 0) m) :: .pointer (some ⟨w3.heap.size, 0, none⟩) :: .tuple #[.agg (fls (upd c 0 (fadd (c 0) m))), .int .i64 0] :: .agg (fls (upd c 0 (fadd (c 0) m))) :: .tuple #[.agg (fls (upd c 0 (fadd (c 0) m))), .int .i64 0] :: .agg (fls (upd c 0 (fadd (c 0) m))) :: .int .i64 0 :: .int .i64 0 :: .bool false :: undef :: undef :: undef :: .agg (fls (upd c 0 (fadd (c 0) m))) :: .pointer (some ⟨w.heap.size + 1, 0, none⟩) :: .float .f32 h :: .pointer (some ⟨w.heap.size + 1, 1, none⟩) :: .float .f32 v :: .float .f32 m :: .float .f32 (fdiv m 1199570944) :: .float .f32 (subW v (fdiv m 1199570944)) :: .float .f32 (spendF v (fdiv m 1199570944)) :: .agg #[.float .f32 h, .float .f32 (spendF v (fdiv m 1199570944))] :: .float .f32 m :: []).toArray, defers := [] } #[true, true, true, true, true, true, true, true, true, true, true, true, true, false, false] (k1).swap hB2 (ne_tail hn2 rfl) rfl (by rfl) 44 _ _ rfl (#[.float .f32 h, .float .f32 (spendF v (fdiv m 1199570944))]) (by rfl) (by rfl) (info_air) (by simp) (by simp [Value.oneCell']) (by rfl) (by rfl) (fun w2 k2 => ?_) AllReadyH.nil
  refine ⟨k2.tail.tail, ?_⟩
  refine take_val 13 { tmps := (.agg (fls c) :: .agg #[.float .f32 h, .float .f32 v] :: .float .f32 y :: .pointer (some ⟨w.heap.size, 0, none⟩) :: .pointer (some ⟨w.heap.size + 1, 0, none⟩) :: undef :: .pointer (some ⟨w.heap.size + 1 + 1, 0, none⟩) :: .pointer (some ⟨w.heap.size + 1 + 1 + 1, 0, none⟩) :: .float .f32 m :: .int .i64 0 :: .float .f32 e :: .int .i64 0 :: .float .f32 m :: .pointer (some ⟨w3.heap.size, 0, none⟩) :: .agg (fls c) :: .bool true :: .bool false :: .bool false :: .agg #[.float .f32 h, .float .f32 v] :: .bool true :: .bool false :: .bool false :: undef :: undef :: .float .f32 y :: .bool true :: .bool false :: undef :: undef :: .tuple #[.float .f32 e, .int .i64 0] :: .agg #[.float .f32 h, .float .f32 v] :: .tuple #[.float .f32 e, .int .i64 0] :: .float .f32 e :: .int .i64 0 :: .int .i64 0 :: .bool false :: undef :: undef :: undef :: .float .f32 e :: .bool false :: undef :: undef :: .float .f32 y :: .float .f32 e :: .float .f32 (min e 1065353216) :: .float .f32 m :: .agg (fls c) :: .pointer (some ⟨w3.heap.size, 0, none⟩) :: .float .f32 (c 0) :: .float .f32 m :: .float .f32 (fadd (c 0) m) :: .pointer (some ⟨w3.heap.size, 0, none⟩) :: .tuple #[.agg (fls (upd c 0 (fadd (c 0) m))), .int .i64 0] :: .agg (fls (upd c 0 (fadd (c 0) m))) :: .tuple #[.agg (fls (upd c 0 (fadd (c 0) m))), .int .i64 0] :: .agg (fls (upd c 0 (fadd (c 0) m))) :: .int .i64 0 :: .int .i64 0 :: .bool false :: undef :: undef :: undef :: .agg (fls (upd c 0 (fadd (c 0) m))) :: .pointer (some ⟨w.heap.size + 1, 0, none⟩) :: .float .f32 h :: .pointer (some ⟨w.heap.size + 1, 1, none⟩) :: .float .f32 v :: .float .f32 m :: .float .f32 (fdiv m 1199570944) :: .float .f32 (subW v (fdiv m 1199570944)) :: .float .f32 (spendF v (fdiv m 1199570944)) :: .agg #[.float .f32 h, .float .f32 (spendF v (fdiv m 1199570944))] :: .float .f32 m :: []).toArray, defers := [] } #[true, true, true, true, true, true, true, true, true, true, true, true, true, true, false] (.float .f32 m) rfl (by rfl) (by kernel_rfl) (by kernel_rfl) (by kernel_rfl) (fun w => by rfl) (by rfl) (by rfl) (k2.tail.tail) ?_
  refine take_val 14 { tmps := (.agg (fls c) :: .agg #[.float .f32 h, .float .f32 v] :: .float .f32 y :: .pointer (some ⟨w.heap.size, 0, none⟩) :: .pointer (some ⟨w.heap.size + 1, 0, none⟩) :: undef :: .pointer (some ⟨w.heap.size + 1 + 1, 0, none⟩) :: .pointer (some ⟨w.heap.size + 1 + 1 + 1, 0, none⟩) :: .float .f32 m :: .int .i64 0 :: .float .f32 e :: .int .i64 0 :: .float .f32 m :: .pointer (some ⟨w3.heap.size, 0, none⟩) :: .agg (fls c) :: .bool true :: .bool false :: .bool false :: .agg #[.float .f32 h, .float .f32 v] :: .bool true :: .bool false :: .bool false :: undef :: undef :: .float .f32 y :: .bool true :: .bool false :: undef :: undef :: .tuple #[.float .f32 e, .int .i64 0] :: .agg #[.float .f32 h, .float .f32 v] :: .tuple #[.float .f32 e, .int .i64 0] :: .float .f32 e :: .int .i64 0 :: .int .i64 0 :: .bool false :: undef :: undef :: undef :: .float .f32 e :: .bool false :: undef :: undef :: .float .f32 y :: .float .f32 e :: .float .f32 (min e 1065353216) :: .float .f32 m :: .agg (fls c) :: .pointer (some ⟨w3.heap.size, 0, none⟩) :: .float .f32 (c 0) :: .float .f32 m :: .float .f32 (fadd (c 0) m) :: .pointer (some ⟨w3.heap.size, 0, none⟩) :: .tuple #[.agg (fls (upd c 0 (fadd (c 0) m))), .int .i64 0] :: .agg (fls (upd c 0 (fadd (c 0) m))) :: .tuple #[.agg (fls (upd c 0 (fadd (c 0) m))), .int .i64 0] :: .agg (fls (upd c 0 (fadd (c 0) m))) :: .int .i64 0 :: .int .i64 0 :: .bool false :: undef :: undef :: undef :: .agg (fls (upd c 0 (fadd (c 0) m))) :: .pointer (some ⟨w.heap.size + 1, 0, none⟩) :: .float .f32 h :: .pointer (some ⟨w.heap.size + 1, 1, none⟩) :: .float .f32 v :: .float .f32 m :: .float .f32 (fdiv m 1199570944) :: .float .f32 (subW v (fdiv m 1199570944)) :: .float .f32 (spendF v (fdiv m 1199570944)) :: .agg #[.float .f32 h, .float .f32 (spendF v (fdiv m 1199570944))] :: .float .f32 m :: []).toArray, defers := [] } #[true, true, true, true, true, true, true, true, true, true, true, true, true, true, true] (.int .i64 0) rfl (by rfl) (by kernel_rfl) (by kernel_rfl) (by kernel_rfl) (fun w => by rfl) (by rfl) (by rfl) (k2.tail.tail) ?_
  refine wpAnyH_done (by kernel_rfl) (NoPanic.normal ?_) _
  go_wp2
  exact bodyPost_ret (results_two rfl _ _ (w.heap.size + 1 + 1) 26 (fls (upd c 0 (fadd (c 0) m))) (0, 0) _ (w.heap.size + 1 + 1 + 1) 44 (#[.float .f32 h, .float .f32 (spendF v (fdiv m 1199570944))]) (0, 0) _ rfl (k2.at (x := (w.heap.size + 1 + 1, fls (upd c 0 (fadd (c 0) m)), 26)) (by simp)) Try.underlying26 rfl (by rw [fls_size]; exact info_arr) rfl (k2.at (x := (w.heap.size + 1 + 1 + 1, #[.float .f32 h, .float .f32 (spendF v (fdiv m 1199570944))], 44)) (by simp)) Try.underlying44 rfl (info_air)) rfl ⟨rfl, k2.1⟩

set_option maxRecDepth 100000 in
set_option maxHeartbeats 2000000 in
theorem iActivate_state (c : Nat → Nat) (hc : Amts c) (h v : Nat) (hh : h < 4294967296) (hv : v < 4294967296) (hq : airB h v = true) (y : Nat) (hy : amtB y = true) (e m : Nat) (he : excF h v = e) (hea : amtB e = true) (h0 : 0 < e) (hm : madeF e y = m) (hma : amtB m = true) (hF : ¬ Fins (upd c 0 (fadd (c 0) m)))  (w : World) :
    Calls Try.prog 55 #[.agg (fls c), .agg #[.float .f32 h, .float .f32 v], .float .f32 y] w fun e w' => e = .returned (.tuple #[.agg (fls fun _ => 0), .agg #[.float .f32 0, .float .f32 0], .float .f32 0, .int .i64 4]) ∧ Below w.heap.size w w' := by
  have hE := fun w => iExcessOf_ok h v hh hv hq w
  rw [he] at hE
  have HE := hid hE
  have hb1 := leq_f hea (y := 0) (by decide) h0
  have hu := (made_facts (e := e) hy).1
  have hmn := fun ts t w => run_min (P := Try.prog) ts t hea (by decide : amtB 1065353216 = true) w
  have hml := fun w => run_mul (P := Try.prog) 24 hy hu w
  rw [show fmul y (min e 1065353216) = m from hm] at hml
  have had := fun w => run_add (P := Try.prog) 24 (amt_nn (hc 0 (by decide))) (amt_nn hma) w
  have Hdv := hid (fun w => run_div (P := Try.prog) 24 (amt_nn hma) (by decide : amtB 1199570944 = true) (by decide) w)
  have Hvl := hid (vap_le (airB_iff.1 hq).2.1 (airB_iff.1 hq).2.2)
  have Hgl : Hid (fdiv m 1199570944 < INF) := hid (Nat.lt_of_le_of_lt (div_less (k := 16) (by decide) (amtB_iff.1 hma)) (amtB_iff.1 hma))
  have HDl := hid (upd_lt (k := 0) (fun i hi => amt_lt (hc i hi)) (nn_lt (add_eq (amt_nn (hc 0 (by decide))) (amt_nn hma)).2))
  have Hmx := hid (fun ts t w => run_max_spend (P := Try.prog) ts t Hvl.out Hgl.out w)
  have Hsb := hid (fun w => run_float_arith (P := Try.prog) w .sub 24 .f32 _ _ _ (spend_facts Hvl.out Hgl.out).s)
  clear hE he hea h0 hm hma hu
  have k0 : Hid (Kept w [(w.heap.size, fls c, 26), (w.heap.size + 1, #[.float .f32 h, .float .f32 v], 44), (w.heap.size + 1 + 1, fls fun _ => 0, 26), (w.heap.size + 1 + 1 + 1, #[.float .f32 0, .float .f32 0], 44)] ((((w.alloc (.cells (fls c) 26)).alloc (.cells (#[.float .f32 h, .float .f32 v]) 44)).alloc (.cells (fls fun _ => 0) 26)).alloc (.cells (#[.float .f32 0, .float .f32 0]) 44))) := hid ((((((Kept.nil w).push (fls c) 26).push (#[.float .f32 h, .float .f32 v]) 44).push (fls fun _ => 0) 26).push (#[.float .f32 0, .float .f32 0]) 44).sub (by simp))
  have Hhc := hid hc
  have Hhh := hid hh
  have Hhv := hid hv
  have Hhq := hid hq
  have Hhy := hid hy
  have HhF := hid hF
  clear hc hh hv hq hy hF
  go_enter Try.func55, Try.ntmps55
  go_wp2_with (first | (refine wpList_load_row rfl 26 _ rfl (w.heap.size) rfl 26 (fls c) (0, 0) _ (k0.out.at (x := (w.heap.size, fls c, 26)) (by simp)) Try.underlying26 rfl (by rw [fls_size]; exact info_arr) ?_))
  refine (validSizes_t c Hhc.out _).mono ?_
  rintro e w0 ⟨rfl, hb0⟩
  have k1 := hid (k0.out.stay hb0)
  clear hb0
  go_wp2_with (first | (refine wpList_load_g rfl 44 _ rfl (w.heap.size + 1) rfl 44 (#[.float .f32 h, .float .f32 v]) (0, 0) _ (k1.out.at (x := (w.heap.size + 1, #[.float .f32 h, .float .f32 v], 44)) (by simp)) Try.underlying44 rfl (info_air) ?_))
  refine (iValidAir h v Hhv.out true Hhq.out _).mono ?_
  rintro e w1 ⟨rfl, hb1⟩
  have k2 := hid (k1.out.stay hb1)
  clear hb1
  go_wp2_with fail
  refine (isAmount_t y Hhy.out _).mono ?_
  rintro e w2 ⟨rfl, rfl⟩
  go_wp2_with (first | (refine wpList_load_row rfl 44 _ rfl (w.heap.size + 1) rfl 44 (#[.float .f32 h, .float .f32 v]) (0, 0) _ (k2.out.at (x := (w.heap.size + 1, #[.float .f32 h, .float .f32 v], 44)) (by simp)) Try.underlying44 rfl (info_air) ?_))
  refine (HE.out _).mono ?_
  rintro e w3 ⟨rfl, hb3⟩
  have k4 := hid (k2.out.stay hb3)
  clear hb3
  have hS4 : w.heap.size + 1 + 1 + 1 < w3.heap.size := k4.out.lt (x := (w.heap.size + 1 + 1 + 1, #[.float .f32 0, .float .f32 0], 44)) (by simp)
  have ka := hid (k4.out.push (fls fun _ => 0) 26)
  go_wp2_with (first | (refine wpList_load_row rfl 26 _ rfl (w3.heap.size) rfl 26 (fls (upd c 0 (fadd (c 0) m))) (0, 0) _ (kc.out.at (x := (w3.heap.size, fls (upd c 0 (fadd (c 0) m)), 26)) (by simp)) Try.underlying26 rfl (by rw [fls_size]; exact info_arr) ?_) | (refine store_kept (w0 := w) (l := [(w.heap.size, fls c, 26), (w.heap.size + 1, #[.float .f32 h, .float .f32 v], 44), (w.heap.size + 1 + 1, fls fun _ => 0, 26), (w.heap.size + 1 + 1 + 1, #[.float .f32 0, .float .f32 0], 44)]) rfl 26 _ _ rfl (w3.heap.size) (fls c) rfl rfl 26 (fls fun _ => 0) (ka.out.sub (l' := [(w3.heap.size, fls fun _ => 0, 26), (w.heap.size, fls c, 26), (w.heap.size + 1, #[.float .f32 h, .float .f32 v], 44), (w.heap.size + 1 + 1, fls fun _ => 0, 26), (w.heap.size + 1 + 1 + 1, #[.float .f32 0, .float .f32 0], 44)]) (by intro x hx; simp only [List.mem_cons, List.not_mem_nil, or_false] at hx; rcases hx with rfl | rfl | rfl | rfl | rfl <;> simp)) (by omega) (by intro x hx; simp only [List.mem_cons, List.not_mem_nil, or_false] at hx; rcases hx with rfl | rfl | rfl | rfl <;> first | (simp; done) | (simp only []; omega)) (by rw [fls_size]; exact info_arr) (by simp) (fls_one _) ?_; intro wkb kb; have kb := hid kb; have q0 : World.cell? wkb ⟨w3.heap.size, 0, none⟩ = some (.float .f32 (c 0)) := arrAt.cell (c := c) (kb.out.at (x := (w3.heap.size, fls c, 26)) (by simp)) (by decide); have f0 : World.frozen? wkb ⟨w3.heap.size, 0, none⟩ = false := arrAt.frozen (c := c) (kb.out.at (x := (w3.heap.size, fls c, 26)) (by simp)) 0; have kc := hid (kb.out.cell (by omega) (by intro x hx; simp only [List.mem_cons, List.not_mem_nil, or_false] at hx; rcases hx with rfl | rfl | rfl | rfl <;> first | (simp; done) | (simp only []; omega)) 0 (fadd (c 0) m))) | (refine wpList_load_row rfl 26 _ rfl (w.heap.size) rfl 26 (fls c) (0, 0) _ (k4.out.at (x := (w.heap.size, fls c, 26)) (by simp)) Try.underlying26 rfl (by rw [fls_size]; exact info_arr) ?_))
  refine (iFinite (upd c 0 (fadd (c 0) m)) HDl.out (fun _ => 0) 4 (fun h => absurd h HhF.out) (fun _ => ⟨rfl, rfl⟩) _).mono ?_
  rintro e wm1 ⟨rfl, hbm1⟩
  have km1z := hid (kc.out.stay hbm1)
  clear hbm1
  go_wp2_with (first | (refine store_kept (w0 := w) (l := [(w.heap.size, fls c, 26), (w.heap.size + 1, #[.float .f32 h, .float .f32 v], 44), (w.heap.size + 1 + 1, fls fun _ => 0, 26), (w.heap.size + 1 + 1 + 1, #[.float .f32 0, .float .f32 0], 44)]) rfl 26 _ _ rfl (w3.heap.size) (fls fun _ => 0) rfl rfl 26 (fls (upd c 0 (fadd (c 0) m))) (km1z.out.sub (l' := [(w3.heap.size, fls (upd c 0 (fadd (c 0) m)), 26), (w.heap.size, fls c, 26), (w.heap.size + 1, #[.float .f32 h, .float .f32 v], 44), (w.heap.size + 1 + 1, fls fun _ => 0, 26), (w.heap.size + 1 + 1 + 1, #[.float .f32 0, .float .f32 0], 44)]) (by intro x hx; simp only [List.mem_cons, List.not_mem_nil, or_false] at hx; rcases hx with rfl | rfl | rfl | rfl | rfl <;> simp)) (by omega) (by intro x hx; simp only [List.mem_cons, List.not_mem_nil, or_false] at hx; rcases hx with rfl | rfl | rfl | rfl <;> first | (simp; done) | (simp only []; omega)) (by rw [fls_size]; exact info_arr) (by simp) (fls_one _) ?_; intro wke ke; have ke := hid ke) | (refine store_kept (w0 := w) (l := [(w3.heap.size, fls fun _ => 0, 26), (w.heap.size, fls c, 26), (w.heap.size + 1, #[.float .f32 h, .float .f32 v], 44), (w.heap.size + 1 + 1 + 1, #[.float .f32 0, .float .f32 0], 44)]) rfl 26 _ _ rfl (w.heap.size + 1 + 1) (fls fun _ => 0) rfl rfl 26 (fls fun _ => 0) (ke.out.sub (l' := [(w.heap.size + 1 + 1, fls fun _ => 0, 26), (w3.heap.size, fls fun _ => 0, 26), (w.heap.size, fls c, 26), (w.heap.size + 1, #[.float .f32 h, .float .f32 v], 44), (w.heap.size + 1 + 1 + 1, #[.float .f32 0, .float .f32 0], 44)]) (by intro x hx; simp only [List.mem_cons, List.not_mem_nil, or_false] at hx; rcases hx with rfl | rfl | rfl | rfl | rfl <;> simp)) (by omega) (by intro x hx; simp only [List.mem_cons, List.not_mem_nil, or_false] at hx; rcases hx with rfl | rfl | rfl | rfl <;> first | (simp; done) | (simp only []; omega)) (by rw [fls_size]; exact info_arr) (by simp) (fls_one _) ?_; intro wkf kf; have kf := hid kf) | (refine store_kept (w0 := w) (l := [(w.heap.size + 1 + 1, fls fun _ => 0, 26), (w3.heap.size, fls fun _ => 0, 26), (w.heap.size, fls c, 26), (w.heap.size + 1, #[.float .f32 h, .float .f32 v], 44)]) rfl 44 _ _ rfl (w.heap.size + 1 + 1 + 1) (#[.float .f32 0, .float .f32 0]) rfl rfl 44 (#[.float .f32 0, .float .f32 0]) (kf.out.sub (l' := [(w.heap.size + 1 + 1 + 1, #[.float .f32 0, .float .f32 0], 44), (w.heap.size + 1 + 1, fls fun _ => 0, 26), (w3.heap.size, fls fun _ => 0, 26), (w.heap.size, fls c, 26), (w.heap.size + 1, #[.float .f32 h, .float .f32 v], 44)]) (by intro x hx; simp only [List.mem_cons, List.not_mem_nil, or_false] at hx; rcases hx with rfl | rfl | rfl | rfl | rfl <;> simp)) (by omega) (by intro x hx; simp only [List.mem_cons, List.not_mem_nil, or_false] at hx; rcases hx with rfl | rfl | rfl | rfl <;> first | (simp; done) | (simp only []; omega)) (info_air) (by simp) (by simp [Value.oneCell']) ?_; intro wkg kg; have kg := hid kg))
  exact bodyPost_ret (results_two rfl _ _ (w.heap.size + 1 + 1) 26 (fls fun _ => 0) (0, 0) _ (w.heap.size + 1 + 1 + 1) 44 (#[.float .f32 0, .float .f32 0]) (0, 0) _ rfl (kg.out.at (x := (w.heap.size + 1 + 1, fls fun _ => 0, 26)) (by simp)) Try.underlying26 rfl (by rw [fls_size]; exact info_arr) rfl (kg.out.at (x := (w.heap.size + 1 + 1 + 1, #[.float .f32 0, .float .f32 0], 44)) (by simp)) Try.underlying44 rfl (info_air)) rfl ⟨rfl, kg.out.1⟩

theorem words_cons : ∀ (v : List Char) (r : List Char), (∀ c ∈ v, c ≠ Char.ofNat 32) → wordsSigns (v ++ Char.ofNat 32 :: r) = v :: wordsSigns r
  | [], r, _ => rfl
  | c :: v, r, h => by
    have ih := words_cons v r (fun x hx => h x (by simp [hx]))
    have hc : c ≠ Char.ofNat 32 := h c (by simp)
    show wordsSigns (c :: (v ++ Char.ofNat 32 :: r)) = _
    rw [wordsSigns.eq_3 _ _ (fun e => hc e), ih]

def w0 : List Nat := [104, 97, 114, 110, 101, 115, 115]

def w1 : List Nat := [53, 101, 102, 56, 48, 48, 53, 56, 54, 100, 51, 48, 49, 98, 54, 54, 57, 52, 99, 102, 99, 101, 101, 57, 49, 48, 101, 49, 57, 55, 100, 55, 99, 55, 55, 54, 97, 53, 53, 48, 97, 51, 54, 101, 49, 50, 100, 50, 52, 98, 98, 98, 48, 49, 57, 99, 101, 102, 98, 54, 99, 51, 99, 55]

def w2 : List Nat := [99, 117, 116]

def w3 : List Nat := [97, 116, 32, 108, 111, 111, 112, 46, 101, 120, 97, 109, 112, 108, 101, 47, 103, 48, 49, 50, 50, 52, 47, 108, 97, 119, 115, 46, 70, 110, 83, 117, 109, 115, 32, 108, 111, 111, 112, 46, 101, 120, 97, 109, 112, 108, 101, 47, 103, 48, 49, 50, 50, 52, 47, 108, 97, 119, 115, 46, 70, 110, 83, 104, 105, 102, 116, 101, 100, 32, 108, 111, 111, 112, 46, 101, 120, 97, 109, 112, 108, 101, 47, 103, 48, 49, 50, 50, 52, 47, 108, 97, 119, 115, 46, 70, 110, 71, 114, 111, 119, 110, 32, 108, 111, 111, 112, 46, 101, 120, 97, 109, 112, 108, 101, 47, 103, 48, 49, 50, 50, 52, 47, 108, 97, 119, 115, 46, 70, 110, 78, 117, 99, 108, 101, 105, 32, 108, 111, 111, 112, 46, 101, 120, 97, 109, 112, 108, 101, 47, 103, 48, 49, 50, 50, 52, 47, 108, 97, 119, 115, 46, 70, 110, 69, 120, 97, 99, 116, 83, 97, 109, 101, 83, 105, 122, 101, 115, 32, 108, 111, 111, 112, 46, 101, 120, 97, 109, 112, 108, 101, 47, 103, 48, 49, 50, 50, 52, 47, 108, 97, 119, 115, 46, 70, 110, 69, 120, 97, 99, 116, 84, 104, 105, 114, 100, 82, 111, 111, 116, 32, 108, 111, 111, 112, 46, 101, 120, 97, 109, 112, 108, 101, 47, 103, 48, 49, 50, 50, 52, 47, 108, 97, 119, 115, 46, 70, 110, 69, 120, 97, 99, 116, 82, 97, 100, 105, 117, 115, 79, 102, 32, 108, 111, 111, 112, 46, 101, 120, 97, 109, 112, 108, 101, 47, 103, 48, 49, 50, 50, 52, 47, 108, 97, 119, 115, 46, 70, 110, 69, 120, 97, 99, 116, 77, 111, 109, 101, 110, 116, 79, 102, 32, 108, 111, 111, 112, 46, 101, 120, 97, 109, 112, 108, 101, 47, 103, 48, 49, 50, 50, 52, 47, 108, 97, 119, 115, 46, 70, 110, 69, 120, 97, 99, 116, 80, 117, 116, 68, 114, 111, 112, 108, 101, 116, 115, 32, 108, 111, 111, 112, 46, 101, 120, 97, 109, 112, 108, 101, 47, 103, 48, 49, 50, 50, 52, 47, 108, 97, 119, 115, 46, 70, 110, 69, 120, 97, 99, 116, 65, 100, 100, 83, 105, 122, 101, 115, 32, 108, 111, 111, 112, 46, 101, 120, 97, 109, 112, 108, 101, 47, 103, 48, 49, 50, 50, 52, 47, 108, 97, 119, 115, 46, 70, 110, 69, 120, 97, 99, 116, 77, 105, 120, 83, 105, 122, 101, 115, 32, 108, 111, 111, 112, 46, 101, 120, 97, 109, 112, 108, 101, 47, 103, 48, 49, 50, 50, 52, 47, 108, 97, 119, 115, 46, 70, 110, 69, 120, 97, 99, 116, 83, 104, 105, 102, 116, 77, 97, 115, 115, 101, 115, 32, 108, 111, 111, 112, 46, 101, 120, 97, 109, 112, 108, 101, 47, 103, 48, 49, 50, 50, 52, 47, 108, 97, 119, 115, 46, 70, 110, 69, 120, 97, 99, 116, 84, 119, 111, 84, 111, 32, 108, 111, 111, 112, 46, 101, 120, 97, 109, 112, 108, 101, 47, 103, 48, 49, 50, 50, 52, 47, 108, 97, 119, 115, 46, 70, 110, 69, 120, 97, 99, 116, 86, 97, 108, 105, 100, 65, 105, 114, 32, 108, 111, 111, 112, 46, 101, 120, 97, 109, 112, 108, 101, 47, 103, 48, 49, 50, 50, 52, 47, 108, 97, 119, 115, 46, 70, 110, 69, 120, 97, 99, 116, 83, 97, 109, 101, 65, 105, 114, 32, 108, 111, 111, 112, 46, 101, 120, 97, 109, 112, 108, 101, 47, 103, 48, 49, 50, 50, 52, 47, 108, 97, 119, 115, 46, 70, 110, 69, 120, 97, 99, 116, 83, 97, 116, 117, 114, 97, 116, 105, 111, 110, 65, 116, 32, 108, 111, 111, 112, 46, 101, 120, 97, 109, 112, 108, 101, 47, 103, 48, 49, 50, 50, 52, 47, 108, 97, 119, 115, 46, 70, 110, 69, 120, 97, 99, 116, 69, 120, 99, 101, 115, 115, 79, 102, 32, 108, 111, 111, 112, 46, 101, 120, 97, 109, 112, 108, 101, 47, 103, 48, 49, 50, 50, 52, 47, 108, 97, 119, 115, 46, 70, 110, 69, 120, 97, 99, 116, 72, 117, 109, 105, 100, 105, 116, 121, 79, 102, 32, 108, 111, 111, 112, 46, 101, 120, 97, 109, 112, 108, 101, 47, 103, 48, 49, 50, 50, 52, 47, 108, 97, 119, 115, 46, 70, 110, 69, 120, 97, 99, 116, 71, 97, 105, 110, 115, 65, 116, 32, 108, 111, 111, 112, 46, 101, 120, 97, 109, 112, 108, 101, 47, 103, 48, 49, 50, 50, 52, 47, 108, 97, 119, 115, 46, 70, 110, 69, 120, 97, 99, 116, 71, 114, 111, 119, 79, 110, 99, 101, 32, 108, 111, 111, 112, 46, 101, 120, 97, 109, 112, 108, 101, 47, 103, 48, 49, 50, 50, 52, 47, 108, 97, 119, 115, 46, 70, 110, 69, 120, 97, 99, 116, 71, 114, 111, 119, 83, 116, 101, 112, 115, 32, 108, 111, 111, 112, 46, 101, 120, 97, 109, 112, 108, 101, 47, 103, 48, 49, 50, 50, 52, 47, 108, 97, 119, 115, 46, 70, 110, 69, 120, 97, 99, 116, 65, 99, 116, 105, 118, 97, 116, 101, 32, 108, 111, 111, 112, 46, 101, 120, 97, 109, 112, 108, 101, 47, 103, 48, 49, 50, 50, 52, 47, 108, 97, 119, 115, 46, 70, 110, 69, 120, 97, 99, 116, 87, 97, 116, 101, 114, 73, 110, 32, 108, 111, 111, 112, 46, 101, 120, 97, 109, 112, 108, 101, 47, 103, 48, 49, 50, 50, 52, 47, 108, 97, 119, 115, 46, 70, 110, 69, 120, 97, 99, 116, 77, 105, 120, 65, 105, 114, 32, 108, 111, 111, 112, 46, 101, 120, 97, 109, 112, 108, 101, 47, 103, 48, 49, 50, 50, 52, 47, 108, 97, 119, 115, 46, 70, 110, 69, 120, 97, 99, 116, 83, 116, 101, 112, 115, 84, 111, 68, 114, 121, 32, 108, 111, 111, 112, 46, 101, 120, 97, 109, 112, 108, 101, 47, 103, 48, 49, 50, 50, 52, 47, 108, 97, 119, 115, 46, 70, 110, 69, 120, 97, 99, 116, 68, 101, 119, 72, 101, 97, 116]

def letters (l : List Nat) : List Char := l.map Char.ofNat

theorem head_reads : Try.prog.initOrder = String.ofList (letters w0 ++ Char.ofNat 32 :: (letters w1 ++ Char.ofNat 32 :: (letters w2 ++ Char.ofNat 32 :: letters w3))) := by kernel_rfl

theorem no_blank {l : List Nat} (h : l.all (fun n => Char.ofNat n != Char.ofNat 32) = true) : ∀ c ∈ letters l, c ≠ Char.ofNat 32 := by
  intro c hc
  obtain ⟨n, hn, rfl⟩ := List.mem_map.1 hc
  have := List.all_eq_true.1 h n hn
  simpa using this

theorem h0 : letters w0 = "harness".toList := by kernel_rfl

theorem h2 : letters w2 = "cut".toList := by kernel_rfl

theorem sums : isSumSigns (letters w1) = true := by kernel_rfl

theorem words : wordsSigns Try.prog.initOrder.toList = "harness".toList :: letters w1 :: "cut".toList :: wordsSigns (letters w3) := by
  rw [head_reads, String.toList_ofList, words_cons _ _ (no_blank (by decide +kernel)), words_cons _ _ (no_blank (by decide +kernel)), words_cons _ _ (no_blank (by decide +kernel)), h0, h2]

theorem behind : ∃ r, behindMainWord (wordsSigns Try.prog.initOrder.toList) = "cut".toList :: r := by
  refine ⟨wordsSigns (letters w3), ?_⟩
  rw [words]
  generalize wordsSigns (letters w3) = r
  have hs := sums
  generalize letters w1 = v at hs
  unfold behindMainWord
  simp [hs]

theorem not_later : Try.prog.laysLater = false := by kernel_rfl

theorem no_reflect : Try.prog.bearsReflect = false := by kernel_rfl

theorem no_doors : Try.prog.doorFits [] = true := by kernel_rfl

theorem strips (r : List (List Char)) : stripLifts liftWords ("cut".toList :: r) = ([], "cut".toList :: r) := by kernel_rfl

theorem may_enter_of (P : Program) (r : List (List Char)) (h : behindMainWord (wordsSigns P.initOrder.toList) = "cut".toList :: r) (h1 : P.laysLater = false) (h2 : P.bearsReflect = false) (h3 : P.doorFits [] = true) : P.mayEnter = true := by
  unfold Program.mayEnter
  rw [h]
  dsimp only
  rw [strips, h1, h2, h3]
  kernel_rfl

theorem lifts_final_of (P : Program) (r : List (List Char)) (h : behindMainWord (wordsSigns P.initOrder.toList) = "cut".toList :: r) : P.liftsFinal = false := by
  unfold Program.liftsFinal Program.headLifts
  rw [h]
  dsimp only
  rw [strips]
  kernel_rfl

theorem made_of (P : Program) (r : List (List Char)) (h : behindMainWord (wordsSigns P.initOrder.toList) = "cut".toList :: r) : P.make = some .cut := by
  unfold Program.make
  rw [h]
  kernel_rfl

theorem may_enter : Try.prog.mayEnter = true := let ⟨r, h⟩ := behind; may_enter_of _ r h not_later no_reflect no_doors

theorem lifts_final : Try.prog.liftsFinal = false := let ⟨r, h⟩ := behind; lifts_final_of _ r h

theorem made : Try.prog.make = some .cut := let ⟨r, h⟩ := behind; made_of _ r h

theorem laid : laidOutB Try.prog = true := by kernel_rfl

theorem rowed : mapsRowed Try.prog = true := by kernel_rfl

theorem no_stops : Try.prog.stops = [] := by kernel_rfl

theorem no_knobs : Try.prog.stopKnobs = [] := by kernel_rfl

theorem plain_keys : Try.prog.plainKeys = true := by kernel_rfl

theorem stops_heard : Try.prog.stopsHeard = true := by kernel_rfl

theorem arr3 {α : Type} {cs : Array α} (h : cs.size = 3) : ∃ c0 c1 c2, cs = #[c0, c1, c2] := by
  obtain ⟨l⟩ := cs
  match l, h with
  | [a, b, c], _ => exact ⟨a, b, c, rfl⟩

theorem own : ownKnob Try.prog.godebug = none := by kernel_rfl

theorem cells20 : Try.prog.cellsOf 25 = 20 := by kernel_rfl

theorem types20 : Try.prog.cellTypes Try.prog.depth 25 = some (List.replicate 20 24) := by kernel_rfl

theorem rda : Try.prog.readableRec 25 = true ∧ 25 < Try.prog.types.size := ⟨by kernel_rfl, of_decide_eq_true (by kernel_rfl)⟩

theorem rdf : Try.prog.readableRec 24 = true ∧ 24 < Try.prog.types.size := ⟨by kernel_rfl, of_decide_eq_true (by kernel_rfl)⟩

theorem cells2 : Try.prog.cellsOf 70 = 2 := by kernel_rfl

theorem types2 : Try.prog.cellTypes Try.prog.depth 70 = some [24, 24] := by kernel_rfl

theorem rdA : Try.prog.readableRec 70 = true ∧ 70 < Try.prog.types.size := ⟨by kernel_rfl, of_decide_eq_true (by kernel_rfl)⟩

theorem rdi : Try.prog.readableRec 2 = true ∧ 2 < Try.prog.types.size := ⟨by kernel_rfl, of_decide_eq_true (by kernel_rfl)⟩
end Go.Proofs.Ytgocemjopmgnaaa
