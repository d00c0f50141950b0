import Derived.Test.YtgocemjopmgnaaaBPutDroplets
import Derived.Test.YtgocemjopmgnaaaChecked
import Derived.Test.YtgocemjopmgnaaaRows
import Derived.Laws.FloatArith
import Derived.ProofKit
import Derived.WalkKit
import Derived.WalkLawsBesides
import Derived.WalkSpells
import Derived.Deep.QuietTactic
import Derived.BigQuiet
import Derived.Deep.RegionHeld3
import Derived.ChangeKeysEq
import Derived.Laws.BitsAllLaws
import Derived.OpenShut
/- The law FnExactPutDroplets of chapter 1: at every argument the call returns true, and what was there before it is as it was. -/
namespace Go.Proofs.Ytgocemjopmgnaaa
open Go.RowKit Go.Fl

@[go_sem] theorem ext_f64bits (y : Nat) (w : World) : (callFunc 169 #[.float .f64 y]).run Try.prog w = .ok (.value (.int .u64 y)) w := by
  rw [run_callFunc_extern Try.func169 (by kernel_rfl) (by kernel_rfl) (by kernel_rfl) (e := Extern.MathFloatBits.float64bits) (by kernel_rfl)]
  rfl

@[go_sem] theorem ext_f64from (n : Int) (w : World) : (callFunc 177 #[.int .u64 n]).run Try.prog w = .ok (.value (.float .f64 n.toNat)) w := by
  rw [run_callFunc_extern Try.func177 (by kernel_rfl) (by kernel_rfl) (by kernel_rfl) (e := Extern.MathFloatBits.float64frombits) (by kernel_rfl)]
  rfl

theorem hid {p : Prop} (h : p) : Hid p := h

theorem clear_sign (y : Nat) (h : y < 18446744073709551616) : (bits BinOp.andNot IntKind.u64 (y : Int) 9223372036854775808).toNat = y % 9223372036854775808 := by
  rw [u64_andNot _ _ (by omega) (by omega) (by omega) (by omega)]
  rw [Int.toNat_natCast, Int.toNat_natCast]
  exact Nat.and_two_pow_sub_one_eq_mod y 63

theorem abs_f64 (y : Nat) (h : y < 18446744073709551616) (w : World) :
    Calls Try.prog 170 #[.float .f64 y] w fun e w' => e = .returned (.float .f64 (y % 9223372036854775808)) ∧ w = w' := by
  have hc := hid (clear_sign y h)
  clear h
  go_enter Try.func170, Try.ntmps170
  go_wp2
  go_ret
  exact ⟨by simp [hc.out], rfl⟩

theorem isNaN_f64 (y : Nat) (w : World) :
    Calls Try.prog 155 #[.float .f64 y] w fun e w' => e = .returned (.bool (FloatKind.f64.format.order y y != some .eq)) ∧ w = w' := by
  go_enter Try.func155, Try.ntmps155
  go_wp2
  go_ret
  exact ⟨rfl, rfl⟩

theorem isInf_f64 (y : Nat) (h : y < 18446744073709551616) (w : World) :
    Calls Try.prog 156 #[.float .f64 y, .int .i64 0] w fun e w' => e = .returned (.bool (FloatKind.f64.format.order (y % 9223372036854775808) 9218868437227405311 == some .gt)) ∧ w = w' := by
  have hc := hid h
  clear h
  go_enter Try.func156, Try.ntmps156
  go_wp2_with (go_at_call 170; refine (abs_f64 y hc.out _).mono ?_; rintro e w' ⟨rfl, rfl⟩)
  go_ret
  exact ⟨rfl, rfl⟩

theorem isFinite_t (x : Nat) (hx : x < 4294967296) (h : finB x = true) (w : World) :
    Calls Try.prog 106 #[.float .f32 x] w fun e w' => e = .returned (.bool true) ∧ w = w' := by
  rw [finB_iff] at h
  have hc := fun w => run_conv_wid (P := Try.prog) w 24 62 x hx Try.underlying24 Try.underlying62 h
  obtain ⟨a, b, m, e, hr⟩ := read_wid_fin hx h
  have hn : (FloatKind.f64.format.order (wid x) (wid x) != some .eq) = false := by
    show (D.order (wid x) (wid x) != some .eq) = false
    rw [order_self hr]; rfl
  have hi : (FloatKind.f64.format.order (wid x % 9223372036854775808) 9218868437227405311 == some .gt) = false := by
    show (D.order (wid x % 9223372036854775808) 9218868437227405311 == some .gt) = false
    rw [b, order_ltD a (by decide)]
    rw [DINF_val] at a
    have hle : wid (mg x) ≤ 9218868437227405311 := by omega
    rcases Nat.lt_or_eq_of_le hle with h' | h'
    · rw [Nat.compare_eq_lt.2 h']; rfl
    · rw [Nat.compare_eq_eq.2 h']; rfl
  have hw : wid x < 18446744073709551616 := D.write_lt _
  have Hn := hid hn
  have Hi := hid hi
  have Hw := hid hw
  clear hn hi hw hr a b h hx
  go_enter Try.func106, Try.ntmps106
  go_wp2_with (first | (go_at_call 155; refine (isNaN_f64 (wid x) _).mono ?_; rintro e w' ⟨rfl, rfl⟩; rw [Hn.out]) | (go_at_call 156; refine (isInf_f64 (wid x) Hw.out _).mono ?_; rintro e w' ⟨rfl, rfl⟩; rw [Hi.out]))
  go_ret
  exact ⟨rfl, rfl⟩

theorem isFinite_f (x : Nat) (hx : x < 4294967296) (h : finB x = false) (w : World) :
    Calls Try.prog 106 #[.float .f32 x] w fun e w' => e = .returned (.bool false) ∧ Below w.heap.size w w' := by
  rw [finB_iff'] at h
  rcases Nat.lt_or_eq_of_le h with h | h
  · obtain ⟨z, hc, h1, _⟩ := run_conv_nan (P := Try.prog) w 24 62 x Try.underlying24 Try.underlying62 h
    obtain ⟨s, t, hr⟩ := read_nanD h1
    have Hn := hid (show (FloatKind.f64.format.order z z != some .eq) = true by
      show (D.order z z != some .eq) = true
      rw [order_nan hr]; rfl)
    clear h h1 hr hx
    go_enter Try.func106, Try.ntmps106
    go_wp2_with (go_at_call 155; refine (isNaN_f64 z _).mono ?_; rintro e w' ⟨rfl, rfl⟩; rw [Hn.out])
    go_ret
    exact ⟨rfl, (Below.refl _ _).drew⟩
  · obtain ⟨z, hc, h1, h2⟩ := run_conv_inf (P := Try.prog) w 24 62 x hx Try.underlying24 Try.underlying62 h.symm
    have hr : D.read z = .infinity (decide (9223372036854775808 ≤ z)) := by rw [read_signD h2, h1, read_DINF]
    have Hn := hid (show (FloatKind.f64.format.order z z != some .eq) = false by
      show (D.order z z != some .eq) = false
      rw [order_inf hr]; rfl)
    have Hi := hid (show (FloatKind.f64.format.order (z % 9223372036854775808) 9218868437227405311 == some .gt) = true by
      rw [h1]; decide)
    have H2 := hid h2
    clear h h1 hr hx h2
    go_enter Try.func106, Try.ntmps106
    go_wp2_with (first | (go_at_call 155; refine (isNaN_f64 z _).mono ?_; rintro e w' ⟨rfl, rfl⟩; rw [Hn.out]) | (go_at_call 156; refine (isInf_f64 z H2.out _).mono ?_; rintro e w' ⟨rfl, rfl⟩; rw [Hi.out]))
    go_ret
    exact ⟨rfl, Below.refl _ _⟩

theorem signbit_f64 (y : Nat) (w : World) :
    Calls Try.prog 154 #[.float .f64 y] w fun e w' => e = .returned (.bool (decide (wrap64 (y : Int) < 0))) ∧ w = w' := by
  go_enter Try.func154, Try.ntmps154
  go_wp2
  go_ret
  exact ⟨rfl, rfl⟩

theorem and_sign (y : Nat) (h : y < 18446744073709551616) : (decide (wrap64 (y : Int) < 0)) = decide (9223372036854775808 ≤ y) := by
  unfold wrap64
  by_cases h' : 9223372036854775808 ≤ y
  · rw [decide_eq_true h']; simp; omega
  · rw [decide_eq_false h']; simp; omega

theorem isAmount_t (x : Nat) (h : amtB x = true) (w : World) :
    Calls Try.prog 104 #[.float .f32 x] w fun e w' => e = .returned (.bool true) ∧ w = w' := by
  have hf := amt_fin h
  rw [amtB_iff, INF_val] at h
  have hx : x < 4294967296 := by omega
  have hc := fun w => run_conv_wid (P := Try.prog) w 24 62 x hx Try.underlying24 Try.underlying62 (finB_iff.1 hf)
  have hw : wid x < 18446744073709551616 := D.write_lt _
  have Hs := hid (show (decide (wrap64 (wid x : Int) < 0)) = false by
    rw [and_sign _ hw]
    have := (wid_val (x := x) (by rw [INF_val]; omega)).1
    rw [DINF_val] at this
    simp; omega)
  have Hx := hid hx
  have Hf := hid hf
  clear h hf hx hw
  go_enter Try.func104, Try.ntmps104
  go_wp2_with (first | (go_at_call 106; refine (isFinite_t x Hx.out Hf.out _).mono ?_; rintro e w' ⟨rfl, rfl⟩) | (go_at_call 154; refine (signbit_f64 (wid x) _).mono ?_; rintro e w' ⟨rfl, rfl⟩; rw [Hs.out]))
  go_ret
  exact ⟨rfl, rfl⟩

theorem isAmount_f (x : Nat) (hx : x < 4294967296) (h : amtB x = false) (w : World) :
    Calls Try.prog 104 #[.float .f32 x] w fun e w' => e = .returned (.bool false) ∧ Below w.heap.size w w' := by
  rcases hf : finB x with _ | _
  · have Hx := hid hx
    have Hf := hid hf
    clear h hf hx
    go_enter Try.func104, Try.ntmps104
    go_wp2_with (go_at_call 106; refine (isFinite_f x Hx.out Hf.out _).mono ?_; rintro e w' ⟨rfl, hb⟩)
    go_ret
    exact ⟨rfl, hb⟩
  · have hc := fun w => run_conv_wid (P := Try.prog) w 24 62 x hx Try.underlying24 Try.underlying62 (finB_iff.1 hf)
    have hw : wid x < 18446744073709551616 := D.write_lt _
    have Hs := hid (show (decide (wrap64 (wid x : Int) < 0)) = true by
      rw [and_sign _ hw, wid_fin hx (finB_iff.1 hf)]
      rw [amtB_iff', INF_val] at h
      rw [finB_iff, INF_val] at hf
      unfold mg at hf ⊢
      rw [if_pos (by omega)]
      simp)
    have Hx := hid hx
    have Hf := hid hf
    clear h hf hx hw
    go_enter Try.func104, Try.ntmps104
    go_wp2_with (first | (go_at_call 106; refine (isFinite_t x Hx.out Hf.out _).mono ?_; rintro e w' ⟨rfl, rfl⟩) | (go_at_call 154; refine (signbit_f64 (wid x) _).mono ?_; rintro e w' ⟨rfl, rfl⟩; rw [Hs.out]))
    go_ret
    exact ⟨rfl, Below.refl _ _⟩

theorem info_f32 : ∃ i, Try.prog.info? 24 = some i ∧ i.size = 1 := by
  have h : (Try.prog.info? 24).map (·.size) = some 1 := by kernel_rfl
  cases hi : Try.prog.info? 24 with
  | none => rw [hi] at h; cases h
  | some i => rw [hi] at h; exact ⟨i, rfl, Option.some.inj h⟩

theorem ix (T : TypeId) (hT : Try.prog.underlying T = some (.array 20 24)) (c : Nat → Nat) (k : Nat) (hk : k < 20) (w : World) :
    (Instr.index T (.agg (fls c)) (.int .i64 (k : Int))).run Try.prog w = .ok (.float .f32 (c k)) w := by
  obtain ⟨i, h1, h2⟩ := info_f32
  exact run_index_arr hT Try.underlying24 rfl h1 h2 _ _ hk _ (fls_get c hk) w

theorem info_arr : (Try.prog.info? 26).map (·.size) = some 20 := by kernel_rfl

set_option maxRecDepth 100000 in
theorem validSizes_t (c : Nat → Nat) (h : ∀ i, i < 20 → amtB (c i) = true) (w : World) :
    Calls Try.prog 53 #[.agg (fls c)] w fun e w' => e = .returned (.bool true) ∧ Below w.heap.size w w' := by
  have H := hid h
  clear h
  go_enter Try.func53, Try.ntmps53
  go_wp2_with (refine wpList_load_row rfl 26 _ rfl w.heap.size rfl 26 (fls c) (0, 0) _ (heap_alloc_new _ _) Try.underlying26 rfl (by rw [fls_size]; exact info_arr) ?_)
  go_loop [6] (fun i => ∃ k : Nat, k ≤ 20 ∧ i = .int .i64 k) (fun i => 20 - (intOf i).toNat)
  case atStart => exact ⟨0, by omega, rfl⟩
  case round =>
    obtain ⟨k, hk, rfl⟩ := hrel
    by_cases hlt : k < 20
    · have hix := ix 26 Try.underlying26 c k hlt
      go_wp2_with (go_at_call 104; refine (isAmount_t (c k) (H.out k hlt) _).mono ?_; rintro e w' ⟨rfl, rfl⟩)
      go_round
      case rel => exact ⟨k + 1, by omega, by go_num⟩
      case measure => simp [intOf]; omega
    · go_wp2
      go_ret
      exact ⟨rfl, (Below.refl _ _).alloc (Nat.le_refl _) _⟩

@[go_sem] theorem ext_f32bits (y : Nat) (w : World) : (callFunc 159 #[.float .f32 y]).run Try.prog w = .ok (.value (.int .u32 y)) w := by
  rw [run_callFunc_extern Try.func159 (by kernel_rfl) (by kernel_rfl) (by kernel_rfl) (e := Extern.MathFloatBits.float32bits) (by kernel_rfl)]
  rfl

theorem sFinite_t (x : Nat) (hx : x < 4294967296) (h : finB x = true) (w : World) :
    Calls Try.prog 110 #[.float .f32 x] w fun e w' => e = .returned (.bool true) ∧ w = w' := by
  have hr := fun w => run_float_arith (P := Try.prog) w .sub 24 .f32 x x 0 (sub_self_fin hx h)
  clear h hx
  go_enter Try.func110, Try.ntmps110
  go_wp2
  go_ret
  exact ⟨rfl, rfl⟩

theorem sFinite_f (x : Nat) (hx : x < 4294967296) (h : finB x = false) (w : World) :
    Calls Try.prog 110 #[.float .f32 x] w fun e w' => e = .returned (.bool false) ∧ Below w.heap.size w w' := by
  obtain ⟨z, hr, h1, _⟩ := run_arith_nan (P := Try.prog) w .sub (by simp) 24 x x (sub_self_none hx h)
  have Hn := hid (show (FloatKind.f32.format.order z 0 == some .eq) = false by
    show (S.order z 0 == some .eq) = false
    rw [order_nan32 h1]; rfl)
  clear h hx h1
  go_enter Try.func110, Try.ntmps110
  go_wp2
  go_ret
  exact ⟨by simp [Hn.out], (Below.refl _ _).drew⟩

theorem sAmount_t (x : Nat) (h : amtB x = true) (w : World) :
    Calls Try.prog 114 #[.float .f32 x] w fun e w' => e = .returned (.bool true) ∧ w = w' := by
  have hf := amt_fin h
  have h' := amtB_iff.1 h
  have hx : x < 4294967296 := by rw [INF_val] at h'; omega
  have Hx := hid hx
  have Hf := hid hf
  by_cases h0 : x = 0
  · subst h0
    clear h hf h' hx
    go_enter Try.func114, Try.ntmps114
    go_wp2_with (go_at_call 110; refine (sFinite_t 0 Hx.out Hf.out _).mono ?_; rintro e w' ⟨rfl, rfl⟩)
    go_ret
    exact ⟨rfl, rfl⟩
  · have hg : (FloatKind.f32.format.order x 0 == some .gt) = true := by
      show (S.order x 0 == some .gt) = true
      rw [order_zero_pos h', Nat.compare_eq_gt.2 (by omega)]; rfl
    clear h hf h' hx h0
    go_enter Try.func114, Try.ntmps114
    go_wp2_with (go_at_call 110; refine (sFinite_t x Hx.out Hf.out _).mono ?_; rintro e w' ⟨rfl, rfl⟩)
    go_ret
    exact ⟨rfl, rfl⟩

theorem sAmount_f (x : Nat) (hx : x < 4294967296) (h : amtB x = false) (w : World) :
    Calls Try.prog 114 #[.float .f32 x] w fun e w' => e = .returned (.bool false) ∧ Below w.heap.size w w' := by
  rcases hf : finB x with _ | _
  · have Hx := hid hx
    have Hf := hid hf
    clear h hf hx
    go_enter Try.func114, Try.ntmps114
    go_wp2_with (go_at_call 110; refine (sFinite_f x Hx.out Hf.out _).mono ?_; rintro e w' ⟨rfl, hb⟩)
    go_ret
    exact ⟨rfl, hb⟩
  · have hs : 2147483648 ≤ x := by
      rw [amtB_iff', INF_val] at h
      have := finB_iff.1 hf
      rw [INF_val] at this
      unfold mg at this
      omega
    have hg : (FloatKind.f32.format.order x 0 == some .gt) = false := order_neg_zero hx hf hs
    have hb : ((x : Int) == 0) = false := by simp; omega
    have Hx := hid hx
    have Hf := hid hf
    clear h hf hx hs
    go_enter Try.func114, Try.ntmps114
    go_wp2_with (go_at_call 110; refine (sFinite_t x Hx.out Hf.out _).mono ?_; rintro e w' ⟨rfl, rfl⟩)
    go_ret
    exact ⟨rfl, Below.refl _ _⟩

set_option maxRecDepth 100000 in
theorem validSizes_f (c : Nat → Nat) (hb : ∀ i, i < 20 → c i < 4294967296) (h : ¬ ∀ i, i < 20 → amtB (c i) = true) (w : World) :
    Calls Try.prog 53 #[.agg (fls c)] w fun e w' => e = .returned (.bool false) ∧ Below w.heap.size w w' := by
  have H := hid h
  have HB := hid hb
  clear h hb
  go_enter Try.func53, Try.ntmps53
  go_wp2_with (refine wpList_load_row rfl 26 _ rfl w.heap.size rfl 26 (fls c) (0, 0) _ (heap_alloc_new _ _) Try.underlying26 rfl (by rw [fls_size]; exact info_arr) ?_)
  go_loop [6] (fun i => ∃ k : Nat, k ≤ 20 ∧ Hid (∀ i, i < k → amtB (c i) = true) ∧ i = .int .i64 k) (fun i => 20 - (intOf i).toNat)
  case atStart => exact ⟨0, by omega, hid (fun i hi => by omega), rfl⟩
  case round =>
    obtain ⟨k, hk, HK, rfl⟩ := hrel
    by_cases hlt : k < 20
    · have hix := ix 26 Try.underlying26 c k hlt
      rcases hac : amtB (c k) with _ | _
      · have HA := hid hac
        clear hac
        go_wp2_with (go_at_call 104; refine (isAmount_f (c k) (HB.out k hlt) HA.out _).mono ?_; rintro e w' ⟨rfl, hb⟩)
        go_ret
        exact ⟨rfl, (((Below.refl _ _).alloc (Nat.le_refl _) _).trans (hb.mono (by simp)))⟩
      · have HA := hid hac
        clear hac
        go_wp2_with (go_at_call 104; refine (isAmount_t (c k) HA.out _).mono ?_; rintro e w' ⟨rfl, rfl⟩)
        go_round
        case rel =>
          refine ⟨k + 1, by omega, hid (fun i hi => ?_), by go_num⟩
          by_cases e : i = k
          · subst e; exact HA.out
          · exact HK.out i (by omega)
        case measure => simp [intOf]; omega
    · have hk20 : k = 20 := by omega
      exact (H.out (fun i hi => HK.out i (by omega))).elim

set_option maxRecDepth 100000 in
theorem sOk_t (c : Nat → Nat) (h : ∀ i, i < 20 → amtB (c i) = true) (w : World) (g : Nat) (T : TypeId) (hg : w.heap[g]? = some (.cells (fls c) T (0, 0))) :
    Calls Try.prog 109 #[.pointer (some ⟨g, 0, none⟩)] w fun e w' => e = .returned (.bool true) ∧ w = w' := by
  have H := hid h
  have HG := hid hg
  clear h hg
  go_enter Try.func109, Try.ntmps109
  go_wp2
  go_loop [3] (fun i => ∃ k : Nat, k ≤ 20 ∧ i = .int .i64 k) (fun i => 20 - (intOf i).toNat)
  case atStart => exact ⟨0, by omega, rfl⟩
  case round =>
    obtain ⟨k, hk, rfl⟩ := hrel
    by_cases hlt : k < 20
    · have hcell : w.cell? ⟨g, k, none⟩ = some (.float .f32 (c k)) := by rw [cell_of_row w g k _ _ _ HG.out, fls_get c hlt]
      go_wp2_with (go_at_call 114; refine (sAmount_t (c k) (H.out k hlt) _).mono ?_; rintro e w' ⟨rfl, rfl⟩)
      go_round
      case rel => exact ⟨k + 1, by omega, by go_num⟩
      case measure => simp [intOf]; omega
    · go_wp2
      go_ret
      exact ⟨rfl, rfl⟩

set_option maxRecDepth 100000 in
theorem sOk_f (c : Nat → Nat) (hb : ∀ i, i < 20 → c i < 4294967296) (h : ¬ ∀ i, i < 20 → amtB (c i) = true) (w : World) (g : Nat) (T : TypeId) (hg : w.heap[g]? = some (.cells (fls c) T (0, 0))) :
    Calls Try.prog 109 #[.pointer (some ⟨g, 0, none⟩)] w fun e w' => e = .returned (.bool false) ∧ Below w.heap.size w w' := by
  have H := hid h
  have HB := hid hb
  have HG := hid hg
  clear h hb hg
  go_enter Try.func109, Try.ntmps109
  go_wp2
  go_loop [3] (fun i => ∃ k : Nat, k ≤ 20 ∧ Hid (∀ i, i < k → amtB (c i) = true) ∧ i = .int .i64 k) (fun i => 20 - (intOf i).toNat)
  case atStart => exact ⟨0, by omega, hid (fun i hi => by omega), rfl⟩
  case round =>
    obtain ⟨k, hk, HK, rfl⟩ := hrel
    by_cases hlt : k < 20
    · have hcell : w.cell? ⟨g, k, none⟩ = some (.float .f32 (c k)) := by rw [cell_of_row w g k _ _ _ HG.out, fls_get c hlt]
      rcases hac : amtB (c k) with _ | _
      · have HA := hid hac
        clear hac
        go_wp2_with (go_at_call 114; refine (sAmount_f (c k) (HB.out k hlt) HA.out _).mono ?_; rintro e w' ⟨rfl, hb⟩)
        go_ret
        exact ⟨rfl, hb⟩
      · have HA := hid hac
        clear hac
        go_wp2_with (go_at_call 114; refine (sAmount_t (c k) HA.out _).mono ?_; rintro e w' ⟨rfl, rfl⟩)
        go_round
        case rel =>
          refine ⟨k + 1, by omega, hid (fun i hi => ?_), by go_num⟩
          by_cases e : i = k
          · subst e; exact HA.out
          · exact HK.out i (by omega)
        case measure => simp [intOf]; omega
    · have hk20 : k = 20 := by omega
      exact (H.out (fun i hi => HK.out i (by omega))).elim

theorem info_a20 : (Try.prog.info? 25).map (·.size) = some 20 := by kernel_rfl

set_option maxRecDepth 100000 in
theorem toSizes (c : Nat → Nat) (w : World) :
    Calls Try.prog 58 #[.agg (fls c)] w fun e w' => e = .returned (.agg (fls c)) ∧ Below w.heap.size w w' := by
  have b0 : Below w.heap.size w (w.alloc (.cells (fls c) 25)) := (Below.refl _ _).alloc (Nat.le_refl _) _
  have a0 := hid (arrAt.new w c 25)
  go_enter Try.func58, Try.ntmps58
  go_wp2
  go_loopw [4] (fun i wr => ∃ k : Nat, k ≤ 20 ∧ i = .int .i64 k ∧ Hid (arrAt wr w.heap.size c 25) ∧ Hid (arrAt wr (w.heap.size + 1) (fun _ => 0) 26) ∧ Hid (arrAt wr (w.heap.size + 1 + 1) (cut c k) 26) ∧ Hid (Below w.heap.size w wr)) (fun i _ => 20 - (intOf i).toNat)
  case atStart =>
    refine ⟨0, by omega, rfl, hid ((a0.out.alloc _).alloc _), hid ?_, hid ?_, hid ((b0.alloc (by simp) _).alloc (by simp; omega) _)⟩
    · have := arrAt.new (w.alloc (.cells (fls c) 25)) (fun _ => 0) 26
      have e : (w.alloc (.cells (fls c) 25)).heap.size = w.heap.size + 1 := by simp
      rw [e] at this
      exact this.alloc _
    · have := arrAt.new ((w.alloc (.cells (fls c) 25)).alloc (.cells (fls fun _ => 0) 26)) (fun _ => 0) 26
      have e : ((w.alloc (.cells (fls c) 25)).alloc (.cells (fls fun _ => 0) 26)).heap.size = w.heap.size + 1 + 1 := by simp
      rw [e] at this
      exact this.ext (fun i _ => (cut_zero' c i).symm)
  case round =>
    obtain ⟨k, hk, rfl, h0, h1, h2, hb⟩ := hrel
    by_cases hlt : k < 20
    · have q0 := h0.out.cell hlt
      have q2 := h2.out.cell hlt
      have f2 := h2.out.frozen k
      go_wp2
      go_roundw
      case rel => exact ⟨k + 1, by omega, by go_num, hid (h0.out.setOther (by simp; omega) _), hid (h1.out.setOther (by simp) _), hid ((h2.out.set k (c k)).ext (fun i _ => cut_succ c k i)), hid (hb.out.setCell (by simp; omega) _)⟩
      case measure => simp [intOf]; omega
    · obtain rfl : k = 20 := by omega
      have h2' := hid (h2.out.ext (cut_all c))
      clear h2
      go_wp2_with (first | (refine wpList_load_row rfl 26 _ rfl (w.heap.size + 1 + 1) rfl 26 (fls c) (0, 0) _ h2'.out Try.underlying26 rfl (by rw [fls_size]; exact info_arr) ?_) | (refine wpList_store_row rfl 26 _ _ rfl (w.heap.size + 1) (fls c) rfl rfl 26 _ h1.out (by rw [fls_size]; exact info_arr) (by simp) (fls_one c) ?_))
      exact bodyPost_ret (results_cell_row rfl _ _ (w.heap.size + 1) 26 (fls c) (0, 0) _ rfl (h1.out.setRow c) Try.underlying26 rfl (by rw [fls_size]; exact info_arr)) rfl ⟨rfl, below_row hb.out (by omega) _⟩

theorem div_one_some {y m : Nat} {s : Bool} {e : Int} (h : D.read y = .number s m e) : ∃ q, floatBits .quo .f64 4607182418800017408 y = some q := by
  have h1 : D.read 4607182418800017408 = .number false 4503599627370496 (-52) := by decide
  show ∃ q, D.div 4607182418800017408 y = some q
  unfold Ieee.Format.div
  rw [h, h1]
  simp only [Ieee.Datum.quotient]
  by_cases hm : m = 0
  · rw [if_pos hm]; exact ⟨_, rfl⟩
  · rw [if_neg hm]; exact ⟨_, rfl⟩

set_option maxRecDepth 100000 in
theorem sameFloat (x : Nat) (hx : x < 4294967296) (h : finB x = true) (w : World) :
    Calls Try.prog 62 #[.float .f64 (wid x), .float .f64 (wid x)] w fun e w' => e = .returned (.bool true) ∧ w = w' := by
  obtain ⟨a, b, m, e, hr⟩ := read_wid_fin hx (finB_iff.1 h)
  have hn : (FloatKind.f64.format.order (wid x) (wid x) != some .eq) = false := by
    show (D.order (wid x) (wid x) != some .eq) = false
    rw [order_self hr]; rfl
  have hq : (FloatKind.f64.format.order (wid x) (wid x) == some .eq) = true := by
    show (D.order (wid x) (wid x) == some .eq) = true
    rw [order_self hr]; rfl
  obtain ⟨q, hd⟩ := div_one_some hr
  have hdiv := fun w => run_float_arith (P := Try.prog) w .quo 62 .f64 4607182418800017408 (wid x) q hd
  clear hd hr a b h hx
  rcases hz : (FloatKind.f64.format.order (wid x) 0 == some .eq) with _ | _
  · go_enter Try.func62, Try.ntmps62
    go_wp2
    go_ret
    exact ⟨by simp, rfl⟩
  · go_enter Try.func62, Try.ntmps62
    go_wp2
    go_ret
    exact ⟨by simp, rfl⟩

theorem back {P : Program} {f : FuncId} {args : Array Value} {w : World} {v : Value} (h : Calls P f args w fun e w' => e = .returned v ∧ w = w') : Calls P f args w fun e w' => e = .returned v ∧ w' = w :=
  h.mono fun _ _ ⟨a, b⟩ => ⟨a, b.symm⟩

set_option maxRecDepth 100000 in
theorem eqSizes (c : Nat → Nat) (hb : ∀ i, i < 20 → c i < 4294967296) (h : ∀ i, i < 20 → finB (c i) = true) (w : World) :
    Calls Try.prog 68 #[.agg (fls c), .agg (fls c)] w fun e w' => e = .returned (.bool true) ∧ Below w.heap.size w w' := by
  have b0 : Below w.heap.size w (w.alloc (.cells (fls c) 26)) := (Below.refl _ _).alloc (Nat.le_refl _) _
  have a0 := hid (arrAt.new w c 26)
  have H := hid h
  have HB := hid hb
  clear h hb
  go_enter Try.func68, Try.ntmps68
  go_wp2
  go_loopw [5] (fun i wr => ∃ k : Nat, k ≤ 20 ∧ i = .int .i64 k ∧ Hid (arrAt wr w.heap.size c 26) ∧ Hid (arrAt wr (w.heap.size + 1) c 26) ∧ Hid (Below w.heap.size w wr)) (fun i _ => 20 - (intOf i).toNat)
  case atStart =>
    refine ⟨0, by omega, rfl, hid (a0.out.alloc _), hid ?_, hid (b0.alloc (by simp) _)⟩
    have := arrAt.new (w.alloc (.cells (fls c) 26)) c 26
    have e : (w.alloc (.cells (fls c) 26)).heap.size = w.heap.size + 1 := by simp
    rw [e] at this
    exact this
  case round =>
    obtain ⟨k, hk, rfl, h0, h1, hb⟩ := hrel
    by_cases hlt : k < 20
    · have q0 := h0.out.cell hlt
      have q1 := h1.out.cell hlt
      have hc := fun w => run_conv_wid (P := Try.prog) w 24 62 (c k) (HB.out k hlt) Try.underlying24 Try.underlying62 (finB_iff.1 (H.out k hlt))
      go_wp2
      go_quiet ((go_at_call 62; exact Calls.quiet_of_same (back (sameFloat (c k) (HB.out k hlt) (H.out k hlt) _))))
      go_wp2
      go_roundw
      case rel => exact ⟨k + 1, by omega, by go_num, h0, h1, hid (below_drewN hb.out _)⟩
      case measure => simp [intOf]; omega
    · go_wp2
      go_ret
      exact ⟨rfl, hb.out⟩

/-- The mass of a class, as a word. -/
theorem iMass (k : Nat) (hk : k < 20) (w : World) :
    Calls Try.prog 102 #[.int .i64 (k : Int)] w fun e w' => e = .returned (.float .f32 (mass k)) ∧ w = w' := by
  have H : k = 0 ∨ k = 1 ∨ k = 2 ∨ k = 3 ∨ k = 4 ∨ k = 5 ∨ k = 6 ∨ k = 7 ∨ k = 8 ∨ k = 9 ∨ k = 10 ∨ k = 11 ∨ k = 12 ∨ k = 13 ∨ k = 14 ∨ k = 15 ∨ k = 16 ∨ k = 17 ∨ k = 18 ∨ k = 19 := by omega
  rcases H with rfl | rfl | rfl | rfl | rfl | rfl | rfl | rfl | rfl | rfl | rfl | rfl | rfl | rfl | rfl | rfl | rfl | rfl | rfl | rfl
  all_goals
    go_enter Try.func102, Try.ntmps102
    go_wp2
    go_ret
    exact ⟨rfl, rfl⟩

def Amts (c : Nat → Nat) : Prop := ∀ i, i < 20 → amtB (c i) = true

theorem sMass (k : Nat) (hk : k < 20) (w : World) :
    Calls Try.prog 158 #[.int .i64 (k : Int)] w fun e w' => e = .returned (.float .f32 (mass k)) ∧ w = w' := by
  have H : k = 0 ∨ k = 1 ∨ k = 2 ∨ k = 3 ∨ k = 4 ∨ k = 5 ∨ k = 6 ∨ k = 7 ∨ k = 8 ∨ k = 9 ∨ k = 10 ∨ k = 11 ∨ k = 12 ∨ k = 13 ∨ k = 14 ∨ k = 15 ∨ k = 16 ∨ k = 17 ∨ k = 18 ∨ k = 19 := by omega
  rcases H with rfl | rfl | rfl | rfl | rfl | rfl | rfl | rfl | rfl | rfl | rfl | rfl | rfl | rfl | rfl | rfl | rfl | rfl | rfl | rfl
  all_goals
    go_enter Try.func158, Try.ntmps158
    go_wp2
    go_ret
    exact ⟨rfl, rfl⟩

def Fins (c : Nat → Nat) : Prop := ∀ i, i < 20 → finB (c i) = true

set_option maxRecDepth 100000 in
theorem iFinite_t (c : Nat → Nat) (hb : ∀ i, i < 20 → c i < 4294967296) (h : Fins c) (w : World) :
    Calls Try.prog 97 #[.agg (fls c)] w fun e w' => e = .returned (.tuple #[.agg (fls c), .int .i64 0]) ∧ Below w.heap.size w w' := by
  have A0 := hid ((arrAt.new w c 26).alloc (.cells (fls fun _ => 0) 26))
  have A1 := hid (new1 w (.cells (fls c) 26) (fun _ => 0) 26)
  have b0 := boxed2 w (.cells (fls c) 26) (.cells (fls fun _ => 0) 26)
  have HB := hid hb
  have H := hid h
  clear h hb
  go_enter Try.func97, Try.ntmps97
  go_wp2_with (refine wpList_load_row rfl 26 _ rfl (w.heap.size) rfl 26 (fls c) (0, 0) _ A0.out Try.underlying26 rfl (by rw [fls_size]; exact info_arr) ?_)
  go_loop [7] (fun i => ∃ k : Nat, k ≤ 20 ∧ i = .int .i64 k) (fun i => 20 - (intOf i).toNat)
  case atStart => exact ⟨0, by omega, rfl⟩
  case round =>
    obtain ⟨k, hk, rfl⟩ := hrel
    by_cases hlt : k < 20
    · have hix := ix 26 Try.underlying26 c k hlt
      go_wp2_with (go_at_call 106; refine (isFinite_t (c k) (HB.out k hlt) (H.out k hlt) _).mono ?_; rintro e w' ⟨rfl, rfl⟩)
      go_round
      case rel => exact ⟨k + 1, by omega, by go_num⟩
      case measure => simp [intOf]; omega
    · go_wp2_with (first | (refine wpList_load_row rfl 26 _ rfl (w.heap.size) rfl 26 (fls c) (0, 0) _ A0.out Try.underlying26 rfl (by rw [fls_size]; exact info_arr) ?_) | (refine wpList_store_row rfl 26 _ _ rfl (w.heap.size + 1) (fls c) rfl rfl 26 _ A1.out (by rw [fls_size]; exact info_arr) (by simp) (fls_one c) ?_))
      exact bodyPost_ret (results_row_tmp rfl _ _ (w.heap.size + 1) 26 (fls c) (0, 0) _ rfl (A1.out.setRow c) Try.underlying26 rfl (by rw [fls_size]; exact info_arr)) rfl ⟨rfl, below_row b0 (by simp) _⟩

set_option maxRecDepth 100000 in
theorem iFinite_f (c : Nat → Nat) (hb : ∀ i, i < 20 → c i < 4294967296) (h : ¬ Fins c) (w : World) :
    Calls Try.prog 97 #[.agg (fls c)] w fun e w' => e = .returned (.tuple #[.agg (fls fun _ => 0), .int .i64 4]) ∧ Below w.heap.size w w' := by
  have A0 := hid ((arrAt.new w c 26).alloc (.cells (fls fun _ => 0) 26))
  have A1 := hid (new1 w (.cells (fls c) 26) (fun _ => 0) 26)
  have b0 := boxed2 w (.cells (fls c) 26) (.cells (fls fun _ => 0) 26)
  have HB := hid hb
  have H := hid h
  clear h hb
  go_enter Try.func97, Try.ntmps97
  go_wp2_with (refine wpList_load_row rfl 26 _ rfl (w.heap.size) rfl 26 (fls c) (0, 0) _ A0.out Try.underlying26 rfl (by rw [fls_size]; exact info_arr) ?_)
  go_loop [7] (fun i => ∃ k : Nat, k ≤ 20 ∧ Hid (∀ i, i < k → finB (c i) = true) ∧ i = .int .i64 k) (fun i => 20 - (intOf i).toNat)
  case atStart => exact ⟨0, by omega, hid (fun i hi => by omega), rfl⟩
  case round =>
    obtain ⟨k, hk, HK, rfl⟩ := hrel
    by_cases hlt : k < 20
    · have hix := ix 26 Try.underlying26 c k hlt
      rcases hac : finB (c k) with _ | _
      · have HA := hid hac
        clear hac
        go_wp2_with (fail)
        refine (isFinite_f (c k) (HB.out k hlt) HA.out _).mono ?_
        rintro e w1 ⟨rfl, hb1⟩
        have A2 := hid (A1.out.stay hb1)
        have b1 := stp b0 (Nat.le_refl _) hb1
        go_wp2_with (refine wpList_store_row rfl 26 _ _ rfl (w.heap.size + 1) (fls (fun _ => 0)) rfl rfl 26 _ A2.out (by rw [fls_size]; exact info_arr) (by simp) (fls_one (fun _ => 0)) ?_)
        exact bodyPost_ret (results_row_tmp rfl _ _ (w.heap.size + 1) 26 (fls (fun _ => 0)) (0, 0) _ rfl (A2.out.setRow (fun _ => 0)) Try.underlying26 rfl (by rw [fls_size]; exact info_arr)) rfl ⟨rfl, below_row b1 (by simp) _⟩
      · have HA := hid hac
        clear hac
        go_wp2_with (go_at_call 106; refine (isFinite_t (c k) (HB.out k hlt) HA.out _).mono ?_; rintro e w' ⟨rfl, rfl⟩)
        go_round
        case rel =>
          refine ⟨k + 1, by omega, hid (fun i hi => ?_), by go_num⟩
          by_cases e : i = k
          · subst e; exact HA.out
          · exact HK.out i (by omega)
        case measure => simp [intOf]; omega
    · have hk20 : k = 20 := by omega
      exact (H.out (fun i hi => HK.out i (by omega))).elim

set_option maxRecDepth 100000 in
theorem sMade_t (c : Nat → Nat) (hb : ∀ i, i < 20 → c i < 4294967296) (h : Fins c) (w : World) :
    Calls Try.prog 134 #[.agg (fls c)] w fun e w' => e = .returned (.tuple #[.agg (fls c), .int .i64 0]) ∧ Below w.heap.size w w' := by
  have A0 := hid ((arrAt.new w c 26).alloc (.cells (fls fun _ => 0) 26))
  have A1 := hid (new1 w (.cells (fls c) 26) (fun _ => 0) 26)
  have b0 := boxed2 w (.cells (fls c) 26) (.cells (fls fun _ => 0) 26)
  have HB := hid hb
  have H := hid h
  clear h hb
  go_enter Try.func134, Try.ntmps134
  go_wp2
  go_loop [4] (fun i => ∃ k : Nat, k ≤ 20 ∧ i = .int .i64 k) (fun i => 20 - (intOf i).toNat)
  case atStart => exact ⟨0, by omega, rfl⟩
  case round =>
    obtain ⟨k, hk, rfl⟩ := hrel
    by_cases hlt : k < 20
    · have hix := A0.out.cell hlt
      go_wp2_with (go_at_call 110; refine (sFinite_t (c k) (HB.out k hlt) (H.out k hlt) _).mono ?_; rintro e w' ⟨rfl, rfl⟩)
      go_round
      case rel => exact ⟨k + 1, by omega, by go_num⟩
      case measure => simp [intOf]; omega
    · go_wp2_with (first | (refine wpList_load_row rfl 26 _ rfl (w.heap.size) rfl 26 (fls c) (0, 0) _ A0.out Try.underlying26 rfl (by rw [fls_size]; exact info_arr) ?_) | (refine wpList_store_row rfl 26 _ _ rfl (w.heap.size + 1) (fls c) rfl rfl 26 _ A1.out (by rw [fls_size]; exact info_arr) (by simp) (fls_one c) ?_))
      exact bodyPost_ret (results_row_tmp rfl _ _ (w.heap.size + 1) 26 (fls c) (0, 0) _ rfl (A1.out.setRow c) Try.underlying26 rfl (by rw [fls_size]; exact info_arr)) rfl ⟨rfl, below_row b0 (by simp) _⟩

set_option maxRecDepth 100000 in
theorem sMade_f (c : Nat → Nat) (hb : ∀ i, i < 20 → c i < 4294967296) (h : ¬ Fins c) (w : World) :
    Calls Try.prog 134 #[.agg (fls c)] w fun e w' => e = .returned (.tuple #[.agg (fls fun _ => 0), .int .i64 4]) ∧ Below w.heap.size w w' := by
  have A0 := hid ((arrAt.new w c 26).alloc (.cells (fls fun _ => 0) 26))
  have A1 := hid (new1 w (.cells (fls c) 26) (fun _ => 0) 26)
  have b0 := boxed2 w (.cells (fls c) 26) (.cells (fls fun _ => 0) 26)
  have HB := hid hb
  have H := hid h
  clear h hb
  go_enter Try.func134, Try.ntmps134
  go_wp2
  go_loop [4] (fun i => ∃ k : Nat, k ≤ 20 ∧ Hid (∀ i, i < k → finB (c i) = true) ∧ i = .int .i64 k) (fun i => 20 - (intOf i).toNat)
  case atStart => exact ⟨0, by omega, hid (fun i hi => by omega), rfl⟩
  case round =>
    obtain ⟨k, hk, HK, rfl⟩ := hrel
    by_cases hlt : k < 20
    · have hix := A0.out.cell hlt
      rcases hac : finB (c k) with _ | _
      · have HA := hid hac
        clear hac
        go_wp2_with (fail)
        refine (sFinite_f (c k) (HB.out k hlt) HA.out _).mono ?_
        rintro e w1 ⟨rfl, hb1⟩
        have A2 := hid (A1.out.stay hb1)
        have b1 := stp b0 (Nat.le_refl _) hb1
        go_wp2_with (refine wpList_store_row rfl 26 _ _ rfl (w.heap.size + 1) (fls (fun _ => 0)) rfl rfl 26 _ A2.out (by rw [fls_size]; exact info_arr) (by simp) (fls_one (fun _ => 0)) ?_)
        exact bodyPost_ret (results_row_tmp rfl _ _ (w.heap.size + 1) 26 (fls (fun _ => 0)) (0, 0) _ rfl (A2.out.setRow (fun _ => 0)) Try.underlying26 rfl (by rw [fls_size]; exact info_arr)) rfl ⟨rfl, below_row b1 (by simp) _⟩
      · have HA := hid hac
        clear hac
        go_wp2_with (go_at_call 110; refine (sFinite_t (c k) (HB.out k hlt) HA.out _).mono ?_; rintro e w' ⟨rfl, rfl⟩)
        go_round
        case rel =>
          refine ⟨k + 1, by omega, hid (fun i hi => ?_), by go_num⟩
          by_cases e : i = k
          · subst e; exact HA.out
          · exact HK.out i (by omega)
        case measure => simp [intOf]; omega
    · have hk20 : k = 20 := by omega
      exact (H.out (fun i hi => HK.out i (by omega))).elim

/-- Sizes that would be returned, by either program, are told alike. -/
theorem iFinite (c : Nat → Nat) (hb : ∀ i, i < 20 → c i < 4294967296) (d : Nat → Nat) (n : Int) (h1 : Fins c → d = c ∧ n = 0) (h2 : ¬ Fins c → d = (fun _ => 0) ∧ n = 4) (w : World) :
    Calls Try.prog 97 #[.agg (fls c)] w fun e w' => e = .returned (.tuple #[.agg (fls d), .int .i64 n]) ∧ Below w.heap.size w w' := by
  by_cases h : Fins c
  · obtain ⟨rfl, rfl⟩ := h1 h; exact iFinite_t _ hb h w
  · obtain ⟨rfl, rfl⟩ := h2 h; exact iFinite_f _ hb h w

theorem sMade (c : Nat → Nat) (hb : ∀ i, i < 20 → c i < 4294967296) (d : Nat → Nat) (n : Int) (h1 : Fins c → d = c ∧ n = 0) (h2 : ¬ Fins c → d = (fun _ => 0) ∧ n = 4) (w : World) :
    Calls Try.prog 134 #[.agg (fls c)] w fun e w' => e = .returned (.tuple #[.agg (fls d), .int .i64 n]) ∧ Below w.heap.size w w' := by
  by_cases h : Fins c
  · obtain ⟨rfl, rfl⟩ := h1 h; exact sMade_t _ hb h w
  · obtain ⟨rfl, rfl⟩ := h2 h; exact sMade_f _ hb h w

theorem zf : Fins (fun _ => 0) := fun _ _ => (by decide : finB 0 = true)

theorem zl : ∀ i, i < 20 → (fun _ : Nat => 0) i < 4294967296 := fun _ _ => (by decide : 0 < 4294967296)

theorem sMassI (n : Int) (h0 : 0 ≤ n) (h1 : n < 20) (w : World) :
    Calls Try.prog 158 #[.int .i64 n] w fun e w' => e = .returned (.float .f32 (mass n.toNat)) ∧ w = w' := by
  obtain ⟨k, rfl⟩ := Int.eq_ofNat_of_zero_le h0
  exact sMass k (by omega) w

set_option maxRecDepth 100000 in
theorem sFor (x : Nat) (ha : amtB x = true) (h1 : ONE ≤ x) (w : World) :
    Calls Try.prog 165 #[.float .f32 x] w fun e w' => e = .returned (.int .i64 (forF x : Int)) ∧ w = w' := by
  have Ha := hid ha
  have H1 := hid h1
  clear ha h1
  go_enter Try.func165, Try.ntmps165
  go_wp2
  go_loop [3] (fun i => ∃ k : Nat, k ≤ 19 ∧ i = .int .i64 k ∧ Hid (mass k ≤ x)) (fun i => 20 - (intOf i).toNat)
  case atStart => exact ⟨0, by omega, rfl, H1⟩
  case round =>
    obtain ⟨k, hk, rfl, hm⟩ := hrel
    by_cases hlt : k < 19
    · by_cases hle : mass (k + 1) ≤ x
      · have ho := leq_t (mass_amt (k := k + 1) (by omega)) Ha.out hle
        have HL := hid hle
        clear hle
        have e1 : ((k : Int) + 1).toNat = k + 1 := by omega
        have E1 := hid e1
        clear e1
        go_wp2_with (go_at_call 158; refine (sMassI _ (by omega) (by omega) _).mono ?_; rintro e w' ⟨rfl, rfl⟩; rw [E1.out])
        go_round
        case rel => exact ⟨k + 1, by omega, by go_num, HL⟩
        case measure => simp [intOf]; omega
      · have hgt : x < mass (k + 1) := by omega
        have ho := leq_f (mass_amt (k := k + 1) (by omega)) Ha.out hgt
        have hf := hid (forF_eq (by omega) hm.out (.inr hgt))
        clear hle hgt
        have e1 : ((k : Int) + 1).toNat = k + 1 := by omega
        have E1 := hid e1
        clear e1
        go_wp2_with (go_at_call 158; refine (sMassI _ (by omega) (by omega) _).mono ?_; rintro e w' ⟨rfl, rfl⟩; rw [E1.out])
        go_ret
        exact ⟨by simp [hf.out], rfl⟩
    · obtain rfl : k = 19 := by omega
      have hf := hid (forF_eq (by omega) hm.out (.inl rfl))
      go_wp2
      go_ret
      exact ⟨by simp [hf.out], rfl⟩

set_option maxRecDepth 100000 in
theorem iClassFor_ok (x : Nat) (ha : amtB x = true) (h1 : ONE ≤ x) (w : World) :
    Calls Try.prog 103 #[.float .f32 x] w fun e w' => e = .returned (.tuple #[.int .i64 (forF x : Int), .int .i64 0]) ∧ w = w' := by
  have Hx := hid (amt_lt ha)
  have Hf := hid (amt_fin ha)
  have ho := lt_f ha (y := 1065353216) (by decide) h1
  have Ha := hid ha
  have H1 := hid h1
  clear ha h1
  go_enter Try.func103, Try.ntmps103
  go_wp2_with fail
  go_step3
  go_wp2_with fail
  refine (isFinite_t x Hx.out Hf.out _).mono ?_
  rintro e w1 ⟨rfl, rfl⟩
  go_wp2_with fail
  go_step3
  go_wp2_with fail
  go_loop [4] (fun i => ∃ k : Nat, k ≤ 19 ∧ i = .int .i64 k ∧ Hid (k = 19 ∨ x < mass (k + 1))) (fun i => (intOf i).toNat)
  case atStart => exact ⟨19, by omega, rfl, hid (.inl rfl)⟩
  case round =>
    obtain ⟨k, hk, rfl, hm⟩ := hrel
    by_cases hlt : 0 < k
    · by_cases hle : mass k ≤ x
      · have hg := gt_f (mass_amt (k := k) (by omega)) Ha.out hle
        have hf := hid (forF_eq (by omega) hle hm.out)
        clear hle
        go_wp2_with (go_at_call 102; refine (iMass k (by omega) _).mono ?_; rintro e w' ⟨rfl, rfl⟩)
        rw [Exit.noGoto_ret]
        go_ret2
        exact ⟨by simp [hf.out], rfl⟩
      · have hgt : x < mass k := by omega
        have hg := gt_t (mass_amt (k := k) (by omega)) Ha.out hgt
        have HG := hid hgt
        clear hle hgt
        go_wp2_with (go_at_call 102; refine (iMass k (by omega) _).mono ?_; rintro e w' ⟨rfl, rfl⟩)
        go_round
        case rel => exact ⟨k - 1, by omega, by congr 1; omega, hid (.inr (by rw [show k - 1 + 1 = k by omega]; exact HG.out))⟩
        case measure => simp [intOf]; omega
    · obtain rfl : k = 0 := by omega
      have hf := hid (forF_eq (by omega) H1.out hm.out)
      go_wp2
      go_ret2
      exact ⟨by simp [hf.out], rfl⟩

theorem loose {P : Program} {f : FuncId} {args : Array Value} {w : World} {v : Value} (h : Calls P f args w fun e w' => e = .returned v ∧ w = w') : Calls P f args w fun e w' => e = .returned v ∧ Below w.heap.size w w' :=
  h.mono fun _ _ ⟨a, b⟩ => ⟨a, b ▸ Below.refl _ _⟩

/-- A whole array stored: the world behind it under a name of its own. -/
theorem store_abs {P : Program} {ops : Array Oper} {rest : List Oper} {o : Oper} {a : Act} {w : World} {Q : Exit → Act → World → Prop} (hgd : o.guard = none) (ty : TypeId) (x y : Operand) (ho : o.op = .store ty x y)
    (g : Nat) (d : Nat → Nat) (hx : a.eval x = .pointer (some ⟨g, 0, none⟩)) (hy : a.eval y = .agg (fls d)) (t : TypeId) (old : Nat → Nat) (hg : arrAt w g old t) (hi : (P.info? ty).map (·.size) = some 20)
    (h : ∀ w', w' = w.setRow g (fls d) → wpList P ops Q rest (a.put o.dst undef) w') : wpList P ops Q (o :: rest) a w :=
  wpList_store_row hgd ty x y ho g (fls d) hx hy t (fls old) hg (by rw [fls_size]; exact hi) (by simp) (fls_one d) (h _ rfl)

theorem iPut (c : Nat → Nat) (k : Nat) (hk : k < 20) (v : Nat) (hc : nnB (c k) = true) (hv : nnB v = true) (w : World) (g : Nat) (t : TypeId) (h : arrAt w g c t) :
    Calls Try.prog 135 #[.int .i64 (k : Int), .float .f32 v, .pointer (some ⟨g, 0, none⟩)] w fun e w' => e = .returned (.tuple #[]) ∧ w' = w.setCell ⟨g, k, none⟩ (.float .f32 (fadd (c k) v)) := by
  have q0 := h.cell hk
  have f0 := h.frozen k
  have hm := fun w => run_add (P := Try.prog) 24 hc hv w
  go_enter Try.func135, Try.ntmps135
  go_wp2
  go_end0
  exact ⟨rfl, rfl⟩

/-- What a write through a pointer leaves behind, orders that were drawn aside. -/
def Wrote (w1 w' : World) : Prop := (∀ g c t, arrAt w1 g c t → arrAt w' g c t) ∧ (∀ n w0, Below n w0 w1 → Below n w0 w')

theorem sPutB (c : Nat → Nat) (hc : nnB (c 0) = true) (x y : Nat) (hx : amtB x = true) (hlt : x < 1065353216) (hy : amtB y = true) (w : World) (g : Nat) (t : TypeId) (h : arrAt w g c t) :
    Calls Try.prog 133 #[.pointer (some ⟨g, 0, none⟩), .float .f32 x, .float .f32 y] w fun e w' => e = .returned (.tuple #[]) ∧ Wrote (w.setCell ⟨g, 0, none⟩ (.float .f32 (putB c x y 0))) w' := by
  have q0 := h.cell (k := 0) (by decide)
  have f0 := h.frozen 0
  have hl := lt_t hx (y := 1065353216) (by decide) hlt
  have h1 := fun w => run_mul (P := Try.prog) 24 hy hx w
  have h2 := fun w => run_add (P := Try.prog) 24 hc (mul_eq hy hx).2 w
  go_enter Try.func133, Try.ntmps133
  go_wp2_with fail
  go_region
  all_goals go_wp2
  all_goals exact bodyPost_ret (results_none (by rfl) _ _ _) rfl ⟨rfl, fun _ _ _ h => h, fun _ _ h => h.drew⟩

theorem sPutT (c : Nat → Nat) (hc : nnB (c 19) = true) (x y : Nat) (hx : amtB x = true) (h1 : ONE ≤ x) (hk : forF x = 19) (hy : amtB y = true) (w : World) (g : Nat) (t : TypeId) (h : arrAt w g c t) :
    Calls Try.prog 133 #[.pointer (some ⟨g, 0, none⟩), .float .f32 x, .float .f32 y] w fun e w' => e = .returned (.tuple #[]) ∧ Wrote (w.setCell ⟨g, 19, none⟩ (.float .f32 (putT c x y 19))) w' := by
  have q0 := h.cell (k := 19) (by decide)
  have f0 := h.frozen 19
  have hl := lt_f hx (y := 1065353216) (by decide) h1
  have hq := div_less (k := 19) (by decide) (amtB_iff.1 hx)
  have hqa : amtB (fdiv x (mass 19)) = true := amtB_iff.2 (Nat.lt_of_le_of_lt hq (amtB_iff.1 hx))
  have h0 := fun w => run_div (P := Try.prog) 24 (amt_nn hx) (mass_amt (k := 19) (by decide)) (mass_ne 19) w
  have h3 := fun w => run_mul (P := Try.prog) 24 hy hqa w
  have h2 := fun w => run_add (P := Try.prog) 24 hc (mul_eq hy hqa).2 w
  have hC := fun w => sFor x hx h1 w
  rw [hk] at hC
  have HC := hid hC
  clear hC hk hq hqa hx h1 hy
  go_enter Try.func133, Try.ntmps133
  go_wp2_with fail
  refine (HC.out _).mono ?_
  rintro e w1 ⟨rfl, rfl⟩
  go_wp2_with fail
  go_region_with (go_at_call 158; refine (sMass 19 (by decide) _).mono ?_; rintro e w' ⟨rfl, rfl⟩)
  all_goals go_wp2
  all_goals exact bodyPost_ret (results_none (by rfl) _ _ _) rfl ⟨rfl, fun _ _ _ h => h, fun _ _ h => h.drew⟩

/-- The runs of PutDroplets' arithmetic between two classes. -/
theorem put_runs (x y k : Nat) (hx : amtB x = true) (h1 : ONE ≤ x) (hk : forF x = k) (hlt : k < 19) (hy : amtB y = true) :
    (∀ w, (binOp .sub 24 (.float .f32 x) (.float .f32 (mass k))).run Try.prog w = .ok (.float .f32 (fsub x (mass k))) w)
    ∧ (∀ w, (binOp .quo 24 (.float .f32 (fsub x (mass k))) (.float .f32 (mass k))).run Try.prog w = .ok (.float .f32 (fdiv (fsub x (mass k)) (mass k))) w)
    ∧ (∀ w, (binOp .sub 24 (.float .f32 1065353216) (.float .f32 (fdiv (fsub x (mass k)) (mass k)))).run Try.prog w = .ok (.float .f32 (fsub 1065353216 (fdiv (fsub x (mass k)) (mass k)))) w)
    ∧ (∀ w, (binOp .mul 24 (.float .f32 y) (.float .f32 (fsub 1065353216 (fdiv (fsub x (mass k)) (mass k))))).run Try.prog w = .ok (.float .f32 (fmul y (fsub 1065353216 (fdiv (fsub x (mass k)) (mass k))))) w)
    ∧ (∀ w, (binOp .mul 24 (.float .f32 y) (.float .f32 (fdiv (fsub x (mass k)) (mass k)))).run Try.prog w = .ok (.float .f32 (fmul y (fdiv (fsub x (mass k)) (mass k)))) w)
    ∧ nnB (fmul y (fsub 1065353216 (fdiv (fsub x (mass k)) (mass k)))) = true ∧ nnB (fmul y (fdiv (fsub x (mass k)) (mass k))) = true := by
  subst hk
  obtain ⟨a1, a2, a3, a4, a5⟩ := put_facts (y := y) h1 (by omega)
  exact ⟨fun w => run_sub _ (amtB_iff.1 hx) a1 w, fun w => run_div _ (amt_nn a2) (mass_amt (forF_lt x)) (mass_ne _) w, fun w => run_sub _ (by decide) a4 w, fun w => run_mul _ hy a5 w, fun w => run_mul _ hy a3 w, (mul_eq hy a5).2, (mul_eq hy a3).2⟩

theorem sPutM (c : Nat → Nat) (hc : Amts c) (x y k : Nat) (hx : amtB x = true) (h1 : ONE ≤ x) (hk : forF x = k) (hlt : k < 19) (hy : amtB y = true) (w : World) (g : Nat) (t : TypeId) (h : arrAt w g c t) :
    Calls Try.prog 133 #[.pointer (some ⟨g, 0, none⟩), .float .f32 x, .float .f32 y] w fun e w' => e = .returned (.tuple #[]) ∧ Wrote ((w.setCell ⟨g, k, none⟩ (.float .f32 (putL c x y k))).setCell ⟨g, k + 1, none⟩ (.float .f32 (putM c x y (k + 1)))) w' := by
  have hl := lt_f hx (y := 1065353216) (by decide) h1
  have e1 : putL c x y k = fadd (c k) (fmul y (fsub 1065353216 (fdiv (fsub x (mass k)) (mass k)))) := by subst hk; simp [putL, upd]
  have e2 : putM c x y (k + 1) = fadd (c (k + 1)) (fmul y (fdiv (fsub x (mass k)) (mass k))) := by subst hk; simp [putM, upd]
  rw [e1, e2]
  obtain ⟨r1, r2, r3, r4, r5, n1, n2⟩ := put_runs x y k hx h1 hk hlt hy
  have h2 := fun w => run_add (P := Try.prog) 24 (amt_nn (hc k (by omega))) n1 w
  have h3 := fun w => run_add (P := Try.prog) 24 (amt_nn (hc (k + 1) (by omega))) n2 w
  have hC := fun w => sFor x hx h1 w
  rw [hk] at hC
  have HC := hid hC
  have h' := h.set k (fadd (c k) (fmul y (fsub 1065353216 (fdiv (fsub x (mass k)) (mass k)))))
  have q0 := h.cell (k := k) (by omega)
  have f0 := h.frozen k
  have q1 : World.cell? (World.drew (w.setCell ⟨g, k, none⟩ (.float .f32 (fadd (c k) (fmul y (fsub 1065353216 (fdiv (fsub x (mass k)) (mass k)))))))) ⟨g, k + 1, none⟩ = _ := h'.cell (k := k + 1) (by omega)
  rw [show upd c k (fadd (c k) (fmul y (fsub 1065353216 (fdiv (fsub x (mass k)) (mass k))))) (k + 1) = c (k + 1) by simp [upd]] at q1
  have f1 : World.frozen? (World.drew (w.setCell ⟨g, k, none⟩ (.float .f32 (fadd (c k) (fmul y (fsub 1065353216 (fdiv (fsub x (mass k)) (mass k)))))))) ⟨g, k + 1, none⟩ = _ := h'.frozen (k + 1)
  generalize hw2 : World.drew (w.setCell ⟨g, k, none⟩ (.float .f32 (fadd (c k) (fmul y (fsub 1065353216 (fdiv (fsub x (mass k)) (mass k))))))) = w2 at q1 f1
  have hend : ∀ v, Wrote ((w.setCell ⟨g, k, none⟩ (.float .f32 (fadd (c k) (fmul y (fsub 1065353216 (fdiv (fsub x (mass k)) (mass k))))))).setCell ⟨g, k + 1, none⟩ v) (w2.setCell ⟨g, k + 1, none⟩ v).drew := by
    intro v
    subst hw2
    rw [World.setCell_drew]
    exact ⟨fun _ _ _ h => h, fun _ _ h => h.drew.drew⟩
  have Hend := hid hend
  clear hend
  have hne : ¬ (k : Int) = 19 := by omega
  clear hC hx h1 hy e1 e2 n1 n2 hk h h' hc
  go_enter Try.func133, Try.ntmps133
  go_wp2_with fail
  refine (HC.out _).mono ?_
  rintro e w1 ⟨rfl, rfl⟩
  go_wp2_with fail
  refine (sMass k (by omega) _).mono ?_
  rintro e w1 ⟨rfl, rfl⟩
  go_wp2_with fail
  refine (sMass k (by omega) _).mono ?_
  rintro e w1 ⟨rfl, rfl⟩
  go_wp2_with fail
  go_region
  all_goals go_wp2
  try rw [hw2]
  clear hw2
  go_region
  all_goals go_wp2
  exact bodyPost_end (results_none (by rfl) _ _ _) rfl ⟨rfl, Hend.out _⟩

set_option maxRecDepth 100000 in
theorem sPutDroplets_bad (c : Nat → Nat) (hb : ∀ i, i < 20 → c i < 4294967296) (h : ¬ Amts c) (x y : Nat) (w : World) :
    Calls Try.prog 66 #[.agg (fls c), .float .f32 x, .float .f32 y] w fun e w' => e = .returned (.tuple #[.agg (fls (fun _ => 0)), .int .i64 1]) ∧ Below w.heap.size w w' := by
  have A0 := hid ((arrAt.new w c 26).alloc (.cells (fls (fun _ => 0)) 26))
  have A1 := hid (new1 w (.cells (fls c) 26) (fun _ => 0) 26)
  have b0 := boxed2 w (.cells (fls c) 26) (.cells (fls (fun _ => 0)) 26)
  have Hhb := hid hb
  have Hh := hid h
  clear hb h
  go_enter Try.func66, Try.ntmps66
  go_wp2_with fail
  refine (sOk_f c Hhb.out Hh.out _ w.heap.size 26 A0.out).mono ?_
  rintro e w0 ⟨rfl, hb0⟩
  have A0 := hid (A0.out.stay hb0)
  have A1 := hid (A1.out.stay hb0)
  have c0 := stp b0 (Nat.le_refl _) hb0
  go_wp2_with (first | (refine wpList_store_row rfl 26 _ _ rfl (w.heap.size + 1) (fls (fun _ => 0)) rfl rfl 26 _ A1.out (by rw [fls_size]; exact info_arr) (by simp) (fls_one (fun _ => 0)) ?_))
  have A0 := hid (A0.out.setRowOther (k := w.heap.size + 1) (by first | omega | (simp; done) | (simp; omega)) (fls (fun _ => 0)))
  have A1 := hid (A1.out.setRow (fun _ => 0))
  have c0 := below_row c0 (by first | omega | (simp; done) | (simp; omega)) (g := w.heap.size + 1) (fls (fun _ => 0))
  exact bodyPost_ret (results_row_tmp rfl _ _ (w.heap.size + 1) 26 (fls (fun _ => 0)) (0, 0) _ rfl A1.out Try.underlying26 rfl (by rw [fls_size]; exact info_arr)) rfl ⟨rfl, c0⟩

set_option maxRecDepth 100000 in
theorem sPutDroplets_nofin (c : Nat → Nat) (h : Amts c) (x : Nat) (hx : x < 4294967296) (hf : finB x = false) (y : Nat) (w : World) :
    Calls Try.prog 66 #[.agg (fls c), .float .f32 x, .float .f32 y] w fun e w' => e = .returned (.tuple #[.agg (fls (fun _ => 0)), .int .i64 2]) ∧ Below w.heap.size w w' := by
  have A0 := hid ((arrAt.new w c 26).alloc (.cells (fls (fun _ => 0)) 26))
  have A1 := hid (new1 w (.cells (fls c) 26) (fun _ => 0) 26)
  have b0 := boxed2 w (.cells (fls c) 26) (.cells (fls (fun _ => 0)) 26)
  have Hh := hid h
  have Hhx := hid hx
  have Hhf := hid hf
  clear h hx hf
  go_enter Try.func66, Try.ntmps66
  go_wp2_with fail
  refine (loose (sOk_t c Hh.out _ w.heap.size 26 A0.out)).mono ?_
  rintro e w0 ⟨rfl, hb0⟩
  have A0 := hid (A0.out.stay hb0)
  have A1 := hid (A1.out.stay hb0)
  have c0 := stp b0 (Nat.le_refl _) hb0
  go_wp2_with fail
  refine (sFinite_f x Hhx.out Hhf.out _).mono ?_
  rintro e w1 ⟨rfl, hb1⟩
  have A0 := hid (A0.out.stay hb1)
  have A1 := hid (A1.out.stay hb1)
  have c1 := stp c0 (Nat.le_refl _) hb1
  go_wp2_with (first | (refine wpList_store_row rfl 26 _ _ rfl (w.heap.size + 1) (fls (fun _ => 0)) rfl rfl 26 _ A1.out (by rw [fls_size]; exact info_arr) (by simp) (fls_one (fun _ => 0)) ?_))
  have A0 := hid (A0.out.setRowOther (k := w.heap.size + 1) (by first | omega | (simp; done) | (simp; omega)) (fls (fun _ => 0)))
  have A1 := hid (A1.out.setRow (fun _ => 0))
  have c1 := below_row c1 (by first | omega | (simp; done) | (simp; omega)) (g := w.heap.size + 1) (fls (fun _ => 0))
  exact bodyPost_ret (results_row_tmp rfl _ _ (w.heap.size + 1) 26 (fls (fun _ => 0)) (0, 0) _ rfl A1.out Try.underlying26 rfl (by rw [fls_size]; exact info_arr)) rfl ⟨rfl, c1⟩

set_option maxRecDepth 100000 in
theorem sPutDroplets_low (c : Nat → Nat) (h : Amts c) (x : Nat) (hx : x < 4294967296) (hf : finB x = true) (hn : ¬ (amtB x = true ∧ x ≠ 0)) (y : Nat) (w : World) :
    Calls Try.prog 66 #[.agg (fls c), .float .f32 x, .float .f32 y] w fun e w' => e = .returned (.tuple #[.agg (fls (fun _ => 0)), .int .i64 2]) ∧ Below w.heap.size w w' := by
  obtain ⟨ho1, ho2⟩ := low0_cases hx hf hn
  clear hn
  have A0 := hid ((arrAt.new w c 26).alloc (.cells (fls (fun _ => 0)) 26))
  have A1 := hid (new1 w (.cells (fls c) 26) (fun _ => 0) 26)
  have b0 := boxed2 w (.cells (fls c) 26) (.cells (fls (fun _ => 0)) 26)
  have Hh := hid h
  have Hhx := hid hx
  have Hhf := hid hf
  clear h hx hf
  go_enter Try.func66, Try.ntmps66
  go_wp2_with fail
  refine (loose (sOk_t c Hh.out _ w.heap.size 26 A0.out)).mono ?_
  rintro e w0 ⟨rfl, hb0⟩
  have A0 := hid (A0.out.stay hb0)
  have A1 := hid (A1.out.stay hb0)
  have c0 := stp b0 (Nat.le_refl _) hb0
  go_wp2_with fail
  refine (sFinite_t x Hhx.out Hhf.out _).mono ?_
  rintro e w1 ⟨rfl, rfl⟩
  go_wp2_with (first | (refine wpList_store_row rfl 26 _ _ rfl (w.heap.size + 1) (fls (fun _ => 0)) rfl rfl 26 _ A1.out (by rw [fls_size]; exact info_arr) (by simp) (fls_one (fun _ => 0)) ?_))
  have A0 := hid (A0.out.setRowOther (k := w.heap.size + 1) (by first | omega | (simp; done) | (simp; omega)) (fls (fun _ => 0)))
  have A1 := hid (A1.out.setRow (fun _ => 0))
  have c0 := below_row c0 (by first | omega | (simp; done) | (simp; omega)) (g := w.heap.size + 1) (fls (fun _ => 0))
  exact bodyPost_ret (results_row_tmp rfl _ _ (w.heap.size + 1) 26 (fls (fun _ => 0)) (0, 0) _ rfl A1.out Try.underlying26 rfl (by rw [fls_size]; exact info_arr)) rfl ⟨rfl, c0⟩

set_option maxRecDepth 100000 in
theorem sPutDroplets_count (c : Nat → Nat) (h : Amts c) (x : Nat) (hx : amtB x = true) (h0 : x ≠ 0) (y : Nat) (hy : y < 4294967296) (hn : amtB y = false) (w : World) :
    Calls Try.prog 66 #[.agg (fls c), .float .f32 x, .float .f32 y] w fun e w' => e = .returned (.tuple #[.agg (fls (fun _ => 0)), .int .i64 2]) ∧ Below w.heap.size w w' := by
  have hf := amt_fin hx
  have ho1 := leq_f hx (y := 0) (by decide) (Nat.pos_of_ne_zero h0)
  have ho2 := gt_t hx (y := 0) (by decide) (Nat.pos_of_ne_zero h0)
  have hx := amt_lt hx
  clear h0
  have A0 := hid ((arrAt.new w c 26).alloc (.cells (fls (fun _ => 0)) 26))
  have A1 := hid (new1 w (.cells (fls c) 26) (fun _ => 0) 26)
  have b0 := boxed2 w (.cells (fls c) 26) (.cells (fls (fun _ => 0)) 26)
  have Hh := hid h
  have Hhx := hid hx
  have Hhf := hid hf
  have Hhy := hid hy
  have Hhn := hid hn
  clear h hx hf hy hn
  go_enter Try.func66, Try.ntmps66
  go_wp2_with fail
  refine (loose (sOk_t c Hh.out _ w.heap.size 26 A0.out)).mono ?_
  rintro e w0 ⟨rfl, hb0⟩
  have A0 := hid (A0.out.stay hb0)
  have A1 := hid (A1.out.stay hb0)
  have c0 := stp b0 (Nat.le_refl _) hb0
  go_wp2_with fail
  refine (sFinite_t x Hhx.out Hhf.out _).mono ?_
  rintro e w1 ⟨rfl, rfl⟩
  go_wp2_with fail
  refine (sAmount_f y Hhy.out Hhn.out _).mono ?_
  rintro e w2 ⟨rfl, hb2⟩
  have A0 := hid (A0.out.stay hb2)
  have A1 := hid (A1.out.stay hb2)
  have c2 := stp c0 (Nat.le_refl _) hb2
  go_wp2_with (first | (refine wpList_store_row rfl 26 _ _ rfl (w.heap.size + 1) (fls (fun _ => 0)) rfl rfl 26 _ A1.out (by rw [fls_size]; exact info_arr) (by simp) (fls_one (fun _ => 0)) ?_))
  have A0 := hid (A0.out.setRowOther (k := w.heap.size + 1) (by first | omega | (simp; done) | (simp; omega)) (fls (fun _ => 0)))
  have A1 := hid (A1.out.setRow (fun _ => 0))
  have c2 := below_row c2 (by first | omega | (simp; done) | (simp; omega)) (g := w.heap.size + 1) (fls (fun _ => 0))
  exact bodyPost_ret (results_row_tmp rfl _ _ (w.heap.size + 1) 26 (fls (fun _ => 0)) (0, 0) _ rfl A1.out Try.underlying26 rfl (by rw [fls_size]; exact info_arr)) rfl ⟨rfl, c2⟩

set_option maxRecDepth 100000 in
theorem iPutDroplets_bad (c : Nat → Nat) (hb : ∀ i, i < 20 → c i < 4294967296) (h : ¬ Amts c) (x y : Nat) (w : World) :
    Calls Try.prog 67 #[.agg (fls c), .float .f32 x, .float .f32 y] w fun e w' => e = .returned (.tuple #[.agg (fls (fun _ => 0)), .int .i64 1]) ∧ Below w.heap.size w w' := by
  have A0 := hid ((arrAt.new w c 26).alloc (.cells (fls (fun _ => 0)) 26))
  have A1 := hid (new1 w (.cells (fls c) 26) (fun _ => 0) 26)
  have b0 := boxed2 w (.cells (fls c) 26) (.cells (fls (fun _ => 0)) 26)
  have Hhb := hid hb
  have Hh := hid h
  clear hb h
  go_enter Try.func67, Try.ntmps67
  go_wp2_with (first | (refine wpList_load_row rfl 26 _ rfl (w.heap.size) rfl 26 (fls c) (0, 0) _ A0.out Try.underlying26 rfl (by rw [fls_size]; exact info_arr) ?_))
  refine (validSizes_f c Hhb.out Hh.out _).mono ?_
  rintro e w0 ⟨rfl, hb0⟩
  have A0 := hid (A0.out.stay hb0)
  have A1 := hid (A1.out.stay hb0)
  have c0 := stp b0 (Nat.le_refl _) hb0
  go_wp2_with (first | (refine wpList_store_row rfl 26 _ _ rfl (w.heap.size + 1) (fls (fun _ => 0)) rfl rfl 26 _ A1.out (by rw [fls_size]; exact info_arr) (by simp) (fls_one (fun _ => 0)) ?_))
  have A0 := hid (A0.out.setRowOther (k := w.heap.size + 1) (by first | omega | (simp; done) | (simp; omega)) (fls (fun _ => 0)))
  have A1 := hid (A1.out.setRow (fun _ => 0))
  have c0 := below_row c0 (by first | omega | (simp; done) | (simp; omega)) (g := w.heap.size + 1) (fls (fun _ => 0))
  exact bodyPost_ret (results_row_tmp rfl _ _ (w.heap.size + 1) 26 (fls (fun _ => 0)) (0, 0) _ rfl A1.out Try.underlying26 rfl (by rw [fls_size]; exact info_arr)) rfl ⟨rfl, c0⟩

set_option maxRecDepth 100000 in
theorem iPutDroplets_nofin (c : Nat → Nat) (h : Amts c) (x : Nat) (hx : x < 4294967296) (hf : finB x = false) (y : Nat) (w : World) :
    Calls Try.prog 67 #[.agg (fls c), .float .f32 x, .float .f32 y] w fun e w' => e = .returned (.tuple #[.agg (fls (fun _ => 0)), .int .i64 2]) ∧ Below w.heap.size w w' := by
  have A0 := hid ((arrAt.new w c 26).alloc (.cells (fls (fun _ => 0)) 26))
  have A1 := hid (new1 w (.cells (fls c) 26) (fun _ => 0) 26)
  have b0 := boxed2 w (.cells (fls c) 26) (.cells (fls (fun _ => 0)) 26)
  have Hh := hid h
  have Hhx := hid hx
  have Hhf := hid hf
  clear h hx hf
  go_enter Try.func67, Try.ntmps67
  go_wp2_with (first | (refine wpList_load_row rfl 26 _ rfl (w.heap.size) rfl 26 (fls c) (0, 0) _ A0.out Try.underlying26 rfl (by rw [fls_size]; exact info_arr) ?_))
  refine (validSizes_t c Hh.out _).mono ?_
  rintro e w0 ⟨rfl, hb0⟩
  have A0 := hid (A0.out.stay hb0)
  have A1 := hid (A1.out.stay hb0)
  have c0 := stp b0 (Nat.le_refl _) hb0
  go_wp2_with fail
  refine (isFinite_f x Hhx.out Hhf.out _).mono ?_
  rintro e w1 ⟨rfl, hb1⟩
  have A0 := hid (A0.out.stay hb1)
  have A1 := hid (A1.out.stay hb1)
  have c1 := stp c0 (Nat.le_refl _) hb1
  go_wp2_with (first | (refine wpList_store_row rfl 26 _ _ rfl (w.heap.size + 1) (fls (fun _ => 0)) rfl rfl 26 _ A1.out (by rw [fls_size]; exact info_arr) (by simp) (fls_one (fun _ => 0)) ?_))
  have A0 := hid (A0.out.setRowOther (k := w.heap.size + 1) (by first | omega | (simp; done) | (simp; omega)) (fls (fun _ => 0)))
  have A1 := hid (A1.out.setRow (fun _ => 0))
  have c1 := below_row c1 (by first | omega | (simp; done) | (simp; omega)) (g := w.heap.size + 1) (fls (fun _ => 0))
  exact bodyPost_ret (results_row_tmp rfl _ _ (w.heap.size + 1) 26 (fls (fun _ => 0)) (0, 0) _ rfl A1.out Try.underlying26 rfl (by rw [fls_size]; exact info_arr)) rfl ⟨rfl, c1⟩

set_option maxRecDepth 100000 in
theorem iPutDroplets_low (c : Nat → Nat) (h : Amts c) (x : Nat) (hx : x < 4294967296) (hf : finB x = true) (hn : ¬ (amtB x = true ∧ x ≠ 0)) (y : Nat) (w : World) :
    Calls Try.prog 67 #[.agg (fls c), .float .f32 x, .float .f32 y] w fun e w' => e = .returned (.tuple #[.agg (fls (fun _ => 0)), .int .i64 2]) ∧ Below w.heap.size w w' := by
  obtain ⟨ho1, ho2⟩ := low0_cases hx hf hn
  clear hn
  have A0 := hid ((arrAt.new w c 26).alloc (.cells (fls (fun _ => 0)) 26))
  have A1 := hid (new1 w (.cells (fls c) 26) (fun _ => 0) 26)
  have b0 := boxed2 w (.cells (fls c) 26) (.cells (fls (fun _ => 0)) 26)
  have Hh := hid h
  have Hhx := hid hx
  have Hhf := hid hf
  clear h hx hf
  go_enter Try.func67, Try.ntmps67
  go_wp2_with (first | (refine wpList_load_row rfl 26 _ rfl (w.heap.size) rfl 26 (fls c) (0, 0) _ A0.out Try.underlying26 rfl (by rw [fls_size]; exact info_arr) ?_))
  refine (validSizes_t c Hh.out _).mono ?_
  rintro e w0 ⟨rfl, hb0⟩
  have A0 := hid (A0.out.stay hb0)
  have A1 := hid (A1.out.stay hb0)
  have c0 := stp b0 (Nat.le_refl _) hb0
  go_wp2_with fail
  refine (isFinite_t x Hhx.out Hhf.out _).mono ?_
  rintro e w1 ⟨rfl, rfl⟩
  go_wp2_with (first | (refine wpList_store_row rfl 26 _ _ rfl (w.heap.size + 1) (fls (fun _ => 0)) rfl rfl 26 _ A1.out (by rw [fls_size]; exact info_arr) (by simp) (fls_one (fun _ => 0)) ?_))
  have A0 := hid (A0.out.setRowOther (k := w.heap.size + 1) (by first | omega | (simp; done) | (simp; omega)) (fls (fun _ => 0)))
  have A1 := hid (A1.out.setRow (fun _ => 0))
  have c0 := below_row c0 (by first | omega | (simp; done) | (simp; omega)) (g := w.heap.size + 1) (fls (fun _ => 0))
  exact bodyPost_ret (results_row_tmp rfl _ _ (w.heap.size + 1) 26 (fls (fun _ => 0)) (0, 0) _ rfl A1.out Try.underlying26 rfl (by rw [fls_size]; exact info_arr)) rfl ⟨rfl, c0⟩

set_option maxRecDepth 100000 in
theorem iPutDroplets_count (c : Nat → Nat) (h : Amts c) (x : Nat) (hx : amtB x = true) (h0 : x ≠ 0) (y : Nat) (hy : y < 4294967296) (hn : amtB y = false) (w : World) :
    Calls Try.prog 67 #[.agg (fls c), .float .f32 x, .float .f32 y] w fun e w' => e = .returned (.tuple #[.agg (fls (fun _ => 0)), .int .i64 2]) ∧ Below w.heap.size w w' := by
  have hf := amt_fin hx
  have ho1 := leq_f hx (y := 0) (by decide) (Nat.pos_of_ne_zero h0)
  have ho2 := gt_t hx (y := 0) (by decide) (Nat.pos_of_ne_zero h0)
  have hx := amt_lt hx
  clear h0
  have A0 := hid ((arrAt.new w c 26).alloc (.cells (fls (fun _ => 0)) 26))
  have A1 := hid (new1 w (.cells (fls c) 26) (fun _ => 0) 26)
  have b0 := boxed2 w (.cells (fls c) 26) (.cells (fls (fun _ => 0)) 26)
  have Hh := hid h
  have Hhx := hid hx
  have Hhf := hid hf
  have Hhy := hid hy
  have Hhn := hid hn
  clear h hx hf hy hn
  go_enter Try.func67, Try.ntmps67
  go_wp2_with (first | (refine wpList_load_row rfl 26 _ rfl (w.heap.size) rfl 26 (fls c) (0, 0) _ A0.out Try.underlying26 rfl (by rw [fls_size]; exact info_arr) ?_))
  refine (validSizes_t c Hh.out _).mono ?_
  rintro e w0 ⟨rfl, hb0⟩
  have A0 := hid (A0.out.stay hb0)
  have A1 := hid (A1.out.stay hb0)
  have c0 := stp b0 (Nat.le_refl _) hb0
  go_wp2_with fail
  refine (isFinite_t x Hhx.out Hhf.out _).mono ?_
  rintro e w1 ⟨rfl, rfl⟩
  go_wp2_with fail
  refine (isAmount_f y Hhy.out Hhn.out _).mono ?_
  rintro e w2 ⟨rfl, hb2⟩
  have A0 := hid (A0.out.stay hb2)
  have A1 := hid (A1.out.stay hb2)
  have c2 := stp c0 (Nat.le_refl _) hb2
  go_wp2_with (first | (refine wpList_store_row rfl 26 _ _ rfl (w.heap.size + 1) (fls (fun _ => 0)) rfl rfl 26 _ A1.out (by rw [fls_size]; exact info_arr) (by simp) (fls_one (fun _ => 0)) ?_))
  have A0 := hid (A0.out.setRowOther (k := w.heap.size + 1) (by first | omega | (simp; done) | (simp; omega)) (fls (fun _ => 0)))
  have A1 := hid (A1.out.setRow (fun _ => 0))
  have c2 := below_row c2 (by first | omega | (simp; done) | (simp; omega)) (g := w.heap.size + 1) (fls (fun _ => 0))
  exact bodyPost_ret (results_row_tmp rfl _ _ (w.heap.size + 1) 26 (fls (fun _ => 0)) (0, 0) _ rfl A1.out Try.underlying26 rfl (by rw [fls_size]; exact info_arr)) rfl ⟨rfl, c2⟩

theorem putB_nn {c : Nat → Nat} (h : Amts c) {x y : Nat} (hx : amtB x = true) (hy : amtB y = true) : ∀ i, i < 20 → nnB (putB c x y i) = true := by
  intro i hi
  unfold putB upd
  split
  · exact (add_eq (amt_nn (h 0 (by decide))) (mul_eq hy hx).2).2
  · exact amt_nn (h i hi)

theorem putT_nn {c : Nat → Nat} (h : Amts c) {x y : Nat} (hx : amtB x = true) (hy : amtB y = true) : ∀ i, i < 20 → nnB (putT c x y i) = true := by
  intro i hi
  have hq := div_less (k := 19) (by decide) (amtB_iff.1 hx)
  unfold putT upd
  split
  · exact (add_eq (amt_nn (h 19 (by decide))) (mul_eq hy (amtB_iff.2 (Nat.lt_of_le_of_lt hq (amtB_iff.1 hx)))).2).2
  · exact amt_nn (h i hi)

theorem putL_nn {c : Nat → Nat} (h : Amts c) {x y : Nat} (h1 : ONE ≤ x) (hk : forF x ≠ 19) (hy : amtB y = true) : ∀ i, i < 20 → nnB (putL c x y i) = true := by
  intro i hi
  obtain ⟨a1, a2, a3, a4, a5⟩ := put_facts (y := y) h1 hk
  unfold putL upd
  split
  · exact (add_eq (amt_nn (h _ (forF_lt x))) (mul_eq hy a5).2).2
  · exact amt_nn (h i hi)

theorem putM_nn {c : Nat → Nat} (h : Amts c) {x y : Nat} (h1 : ONE ≤ x) (hk : forF x ≠ 19) (hy : amtB y = true) : ∀ i, i < 20 → nnB (putM c x y i) = true := by
  intro i hi
  obtain ⟨a1, a2, a3, a4, a5⟩ := put_facts (y := y) h1 hk
  unfold putM upd
  split
  · exact (add_eq (amt_nn (h _ (by have := forF_lt x; omega))) (mul_eq hy a3).2).2
  · exact putL_nn h h1 hk hy i hi

theorem Wrote.arr {w w' : World} {g k v : Nat} {c : Nat → Nat} {t : TypeId} (hw : Wrote (w.setCell ⟨g, k, none⟩ (.float .f32 v)) w') (h : arrAt w g c t) : arrAt w' g (upd c k v) t := hw.1 _ _ _ (h.set k v)

theorem Wrote.other {w w' : World} {g g' k v : Nat} {c : Nat → Nat} {t : TypeId} (hw : Wrote (w.setCell ⟨g, k, none⟩ (.float .f32 v)) w') (h : arrAt w g' c t) (hg : g' ≠ g) : arrAt w' g' c t := hw.1 _ _ _ (h.setOther (a := ⟨g, k, none⟩) hg _)

theorem putB_eq (c : Nat → Nat) (x y : Nat) : upd c 0 (putB c x y 0) = putB c x y := by funext i; simp [putB, upd]

theorem putT_eq (c : Nat → Nat) (x y : Nat) : upd c 19 (putT c x y 19) = putT c x y := by funext i; simp [putT, upd]

theorem putL_eq (c : Nat → Nat) (x y : Nat) : upd c (forF x) (putL c x y (forF x)) = putL c x y := by funext i; simp [putL, upd]

theorem putM_eq (c : Nat → Nat) (x y : Nat) : upd (putL c x y) (forF x + 1) (putM c x y (forF x + 1)) = putM c x y := by funext i; simp [putM, upd]

theorem putL_val (c : Nat → Nat) (x y k : Nat) (hk : forF x = k) : upd c k (fadd (c k) (fmul y (fsub 1065353216 (fdiv (fsub x (mass k)) (mass k))))) = putL c x y := by subst hk; rfl

theorem putM_val (c : Nat → Nat) (x y k : Nat) (hk : forF x = k) : upd (putL c x y) (k + 1) (fadd (putL c x y (k + 1)) (fmul y (fdiv (fsub x (mass k)) (mass k)))) = putM c x y := by
  subst hk
  have : putL c x y (forF x + 1) = c (forF x + 1) := by simp [putL, upd]
  rw [this]
  rfl

/-- A write that the walk saw, in the facts of the blocks. -/
theorem iPutI (c : Nat → Nat) (n : Int) (k : Nat) (hn : n = (k : Int)) (hk : k < 20) (v : Nat) (hc : nnB (c k) = true) (hv : nnB v = true) (w : World) (g : Nat) (t : TypeId) (h : arrAt w g c t) :
    Calls Try.prog 135 #[.int .i64 n, .float .f32 v, .pointer (some ⟨g, 0, none⟩)] w fun e w' => e = .returned (.tuple #[]) ∧ Wrote (w.setCell ⟨g, k, none⟩ (.float .f32 (fadd (c k) v))) w' := by
  subst hn
  refine (iPut c k hk v hc hv w g t h).mono ?_
  rintro e w' ⟨rfl, rfl⟩
  exact ⟨rfl, fun _ _ _ h => h, fun _ _ h => h⟩

set_option maxRecDepth 100000 in
theorem sPutDroplets_okB (c : Nat → Nat) (h : Amts c) (x : Nat) (hx : amtB x = true) (h0 : x ≠ 0) (hlt : x < 1065353216) (y : Nat) (hy : amtB y = true) (r : Nat → Nat) (n : Int) (g1 : Fins (putB c x y) → r = putB c x y ∧ n = 0) (g2 : ¬ Fins (putB c x y) → r = (fun _ => 0) ∧ n = 4) (w : World) :
    Calls Try.prog 66 #[.agg (fls c), .float .f32 x, .float .f32 y] w fun e w' => e = .returned (.tuple #[.agg (fls r), .int .i64 n]) ∧ Below w.heap.size w w' := by
  have hnn := putB_nn h hx hy
  have hf := amt_fin hx
  have ho1 := leq_f hx (y := 0) (by decide) (Nat.pos_of_ne_zero h0)
  have ho2 := gt_t hx (y := 0) (by decide) (Nat.pos_of_ne_zero h0)
  have hxl := amt_lt hx
  have hl := lt_t hx (y := 1065353216) (by decide) hlt
  clear h0 ho1
  have A0 := hid ((arrAt.new w c 26).alloc (.cells (fls (fun _ => 0)) 26))
  have A1 := hid (new1 w (.cells (fls c) 26) (fun _ => 0) 26)
  have b0 := boxed2 w (.cells (fls c) 26) (.cells (fls (fun _ => 0)) 26)
  have Hh := hid h
  have Hhx := hid hx
  have Hhf := hid hf
  have Hhxl := hid hxl
  have Hhy := hid hy
  have Hg1 := hid g1
  have Hg2 := hid g2
  have Hhnn := hid hnn
  have Hhlt := hid hlt
  clear h hx hf hxl hy g1 g2 hnn hlt
  go_enter Try.func66, Try.ntmps66
  go_wp2_with fail
  refine (loose (sOk_t c Hh.out _ w.heap.size 26 A0.out)).mono ?_
  rintro e w0 ⟨rfl, hb0⟩
  have A0 := hid (A0.out.stay hb0)
  have A1 := hid (A1.out.stay hb0)
  have c0 := stp b0 (Nat.le_refl _) hb0
  go_wp2_with fail
  refine (sFinite_t x Hhxl.out Hhf.out _).mono ?_
  rintro e w1 ⟨rfl, rfl⟩
  go_wp2_with fail
  refine (sAmount_t y Hhy.out _).mono ?_
  rintro e w2 ⟨rfl, rfl⟩
  go_wp2_with fail
  refine (sPutB c (amt_nn (Hh.out 0 (by decide))) x y Hhx.out Hhlt.out Hhy.out _ w.heap.size 26 A0.out).mono ?_
  rintro e w5 ⟨rfl, hw5⟩
  have P1 := hid (hw5.arr A0.out)
  rw [putB_eq] at P1
  have B1 := hid (hw5.other A1.out (by simp))
  have c5 := hw5.2 _ _ (c0.setCell (p := ⟨w.heap.size, 0, none⟩) (Nat.le_refl _) (.float .f32 (putB c x y 0)))
  clear hw5 A0 A1 c0
  go_wp2_with (first | (refine wpList_load_row rfl 26 _ rfl (w.heap.size) rfl 26 (fls (putB c x y)) (0, 0) _ P1.out Try.underlying26 rfl (by rw [fls_size]; exact info_arr) ?_))
  refine (sMade (putB c x y) (fun i hi => nn_lt (Hhnn.out i hi)) r n Hg1.out Hg2.out _).mono ?_
  rintro e w9 ⟨rfl, hb9⟩
  have A9 := hid (B1.out.stay hb9)
  have b9 := stp c5 (Nat.le_refl _) hb9
  go_wp2_with (first | (refine wpList_store_row rfl 26 _ _ rfl (w.heap.size + 1) (fls r) rfl rfl 26 _ A9.out (by rw [fls_size]; exact info_arr) (by simp) (fls_one r) ?_))
  exact bodyPost_ret (results_row_tmp rfl _ _ (w.heap.size + 1) 26 (fls r) (0, 0) _ rfl (A9.out.setRow r) Try.underlying26 rfl (by rw [fls_size]; exact info_arr)) rfl ⟨rfl, below_row b9 (by omega) _⟩

set_option maxRecDepth 100000 in
theorem iPutDroplets_okB (c : Nat → Nat) (h : Amts c) (x : Nat) (hx : amtB x = true) (h0 : x ≠ 0) (hlt : x < 1065353216) (y : Nat) (hy : amtB y = true) (r : Nat → Nat) (n : Int) (g1 : Fins (putB c x y) → r = putB c x y ∧ n = 0) (g2 : ¬ Fins (putB c x y) → r = (fun _ => 0) ∧ n = 4) (w : World) :
    Calls Try.prog 67 #[.agg (fls c), .float .f32 x, .float .f32 y] w fun e w' => e = .returned (.tuple #[.agg (fls r), .int .i64 n]) ∧ Below w.heap.size w w' := by
  have hnn := putB_nn h hx hy
  have hf := amt_fin hx
  have ho1 := leq_f hx (y := 0) (by decide) (Nat.pos_of_ne_zero h0)
  have ho2 := gt_t hx (y := 0) (by decide) (Nat.pos_of_ne_zero h0)
  have hxl := amt_lt hx
  have hl := lt_t hx (y := 1065353216) (by decide) hlt
  have hr1 := fun w => run_mul (P := Try.prog) 24 hy hx w
  have hv1 := (mul_eq hy hx).2
  clear h0 ho2
  have A0 := hid ((arrAt.new w c 26).alloc (.cells (fls (fun _ => 0)) 26))
  have A1 := hid (new1 w (.cells (fls c) 26) (fun _ => 0) 26)
  have b0 := boxed2 w (.cells (fls c) 26) (.cells (fls (fun _ => 0)) 26)
  have Hh := hid h
  have Hhx := hid hx
  have Hhf := hid hf
  have Hhxl := hid hxl
  have Hhy := hid hy
  have Hg1 := hid g1
  have Hg2 := hid g2
  have Hhnn := hid hnn
  have Hhv1 := hid hv1
  have Hhlt := hid hlt
  clear h hx hf hxl hy g1 g2 hnn hv1 hlt
  go_enter Try.func67, Try.ntmps67
  go_wp2_with (first | (refine wpList_load_row rfl 26 _ rfl (w.heap.size) rfl 26 (fls c) (0, 0) _ A0.out Try.underlying26 rfl (by rw [fls_size]; exact info_arr) ?_))
  refine (validSizes_t c Hh.out _).mono ?_
  rintro e w0 ⟨rfl, hb0⟩
  have A0 := hid (A0.out.stay hb0)
  have A1 := hid (A1.out.stay hb0)
  have c0 := stp b0 (Nat.le_refl _) hb0
  go_wp2_with fail
  refine (isFinite_t x Hhxl.out Hhf.out _).mono ?_
  rintro e w1 ⟨rfl, rfl⟩
  go_wp2_with fail
  refine (isAmount_t y Hhy.out _).mono ?_
  rintro e w2 ⟨rfl, rfl⟩
  have lx := A0.out.lt
  have ly := A1.out.lt
  have N0 := hid (arrAt.new w0 (fun _ => 0) 26)
  have P0 := hid (N0.out.setRow c)
  have B1 := hid ((A1.out.alloc (.cells (fls fun _ => 0) 26)).setRowOther (k := w0.heap.size) (Nat.ne_of_lt ly) (fls c))
  have bX : Below w.heap.size w ((w0.alloc (.cells (fls fun _ => 0) 26)).setRow w0.heap.size (fls c)) := below_row (c0.alloc c0.size _) c0.size _
  have S0 := hid c0.size
  have LY := hid ly
  clear lx ly
  have tok1 : True := trivial
  go_wp2_with (first | (refine wpList_load_row rfl 26 _ rfl (w.heap.size) rfl 26 (fls c) (0, 0) _ A0.out Try.underlying26 rfl (by rw [fls_size]; exact info_arr) ?_) | (have _t := tok1; refine store_abs rfl 26 _ _ rfl w0.heap.size c rfl rfl 26 _ N0.out info_arr ?_; intro w9 hw9; rw [← hw9] at P0 B1 bX; clear hw9; clear N0; clear hb0 b0 tok1))
  refine (iPutI (c) _ 0 (by omega) (by omega) (fmul y x) (amt_nn (Hh.out 0 (by omega))) Hhv1.out _ w0.heap.size 26 P0.out).mono ?_
  rintro e wp0 ⟨rfl, hwp⟩
  have P1 := hid (hwp.arr P0.out)
  have B2 := hid (hwp.other B1.out (Nat.ne_of_lt LY.out))
  have bY0 := hwp.2 _ _ (bX.setCell (p := ⟨w0.heap.size, 0, none⟩) S0.out (.float .f32 (fadd ((c) 0) (fmul y x))))
  clear hwp P0 B1 bX
  go_wp2_with (first | (refine wpList_load_row rfl 26 _ rfl (w0.heap.size) rfl 26 (fls (putB c x y)) (0, 0) _ P1.out Try.underlying26 rfl (by rw [fls_size]; exact info_arr) ?_))
  refine (iFinite (putB c x y) (fun i hi => nn_lt (Hhnn.out i hi)) r n Hg1.out Hg2.out _).mono ?_
  rintro e w9 ⟨rfl, hb9⟩
  have A9 := hid (B2.out.stay hb9)
  have b9 := stp bY0 (Nat.le_refl _) hb9
  go_wp2_with (first | (refine wpList_store_row rfl 26 _ _ rfl (w.heap.size + 1) (fls r) rfl rfl 26 _ A9.out (by rw [fls_size]; exact info_arr) (by simp) (fls_one r) ?_))
  exact bodyPost_ret (results_row_tmp rfl _ _ (w.heap.size + 1) 26 (fls r) (0, 0) _ rfl (A9.out.setRow r) Try.underlying26 rfl (by rw [fls_size]; exact info_arr)) rfl ⟨rfl, below_row b9 (by omega) _⟩

set_option maxRecDepth 100000 in
theorem sPutDroplets_okT (c : Nat → Nat) (h : Amts c) (x : Nat) (hx : amtB x = true) (h0 : x ≠ 0) (h1 : ONE ≤ x) (hk : forF x = 19) (y : Nat) (hy : amtB y = true) (r : Nat → Nat) (n : Int) (g1 : Fins (putT c x y) → r = putT c x y ∧ n = 0) (g2 : ¬ Fins (putT c x y) → r = (fun _ => 0) ∧ n = 4) (w : World) :
    Calls Try.prog 66 #[.agg (fls c), .float .f32 x, .float .f32 y] w fun e w' => e = .returned (.tuple #[.agg (fls r), .int .i64 n]) ∧ Below w.heap.size w w' := by
  have hnn := putT_nn h hx hy
  have hf := amt_fin hx
  have ho1 := leq_f hx (y := 0) (by decide) (Nat.pos_of_ne_zero h0)
  have ho2 := gt_t hx (y := 0) (by decide) (Nat.pos_of_ne_zero h0)
  have hxl := amt_lt hx
  have hl := lt_f hx (y := 1065353216) (by decide) h1
  clear h0 ho1
  have A0 := hid ((arrAt.new w c 26).alloc (.cells (fls (fun _ => 0)) 26))
  have A1 := hid (new1 w (.cells (fls c) 26) (fun _ => 0) 26)
  have b0 := boxed2 w (.cells (fls c) 26) (.cells (fls (fun _ => 0)) 26)
  have Hh := hid h
  have Hhx := hid hx
  have Hhf := hid hf
  have Hhxl := hid hxl
  have Hhy := hid hy
  have Hg1 := hid g1
  have Hg2 := hid g2
  have Hhnn := hid hnn
  have Hh1 := hid h1
  have Hhk := hid hk
  clear h hx hf hxl hy g1 g2 hnn h1 hk
  go_enter Try.func66, Try.ntmps66
  go_wp2_with fail
  refine (loose (sOk_t c Hh.out _ w.heap.size 26 A0.out)).mono ?_
  rintro e w0 ⟨rfl, hb0⟩
  have A0 := hid (A0.out.stay hb0)
  have A1 := hid (A1.out.stay hb0)
  have c0 := stp b0 (Nat.le_refl _) hb0
  go_wp2_with fail
  refine (sFinite_t x Hhxl.out Hhf.out _).mono ?_
  rintro e w1 ⟨rfl, rfl⟩
  go_wp2_with fail
  refine (sAmount_t y Hhy.out _).mono ?_
  rintro e w2 ⟨rfl, rfl⟩
  go_wp2_with fail
  refine (sPutT c (amt_nn (Hh.out 19 (by decide))) x y Hhx.out Hh1.out Hhk.out Hhy.out _ w.heap.size 26 A0.out).mono ?_
  rintro e w5 ⟨rfl, hw5⟩
  have P1 := hid (hw5.arr A0.out)
  rw [putT_eq] at P1
  have B1 := hid (hw5.other A1.out (by simp))
  have c5 := hw5.2 _ _ (c0.setCell (p := ⟨w.heap.size, 19, none⟩) (Nat.le_refl _) (.float .f32 (putT c x y 19)))
  clear hw5 A0 A1 c0
  go_wp2_with (first | (refine wpList_load_row rfl 26 _ rfl (w.heap.size) rfl 26 (fls (putT c x y)) (0, 0) _ P1.out Try.underlying26 rfl (by rw [fls_size]; exact info_arr) ?_))
  refine (sMade (putT c x y) (fun i hi => nn_lt (Hhnn.out i hi)) r n Hg1.out Hg2.out _).mono ?_
  rintro e w9 ⟨rfl, hb9⟩
  have A9 := hid (B1.out.stay hb9)
  have b9 := stp c5 (Nat.le_refl _) hb9
  go_wp2_with (first | (refine wpList_store_row rfl 26 _ _ rfl (w.heap.size + 1) (fls r) rfl rfl 26 _ A9.out (by rw [fls_size]; exact info_arr) (by simp) (fls_one r) ?_))
  exact bodyPost_ret (results_row_tmp rfl _ _ (w.heap.size + 1) 26 (fls r) (0, 0) _ rfl (A9.out.setRow r) Try.underlying26 rfl (by rw [fls_size]; exact info_arr)) rfl ⟨rfl, below_row b9 (by omega) _⟩

set_option maxRecDepth 100000 in
theorem iPutDroplets_okT (c : Nat → Nat) (h : Amts c) (x : Nat) (hx : amtB x = true) (h0 : x ≠ 0) (h1 : ONE ≤ x) (hk : forF x = 19) (y : Nat) (hy : amtB y = true) (r : Nat → Nat) (n : Int) (g1 : Fins (putT c x y) → r = putT c x y ∧ n = 0) (g2 : ¬ Fins (putT c x y) → r = (fun _ => 0) ∧ n = 4) (w : World) :
    Calls Try.prog 67 #[.agg (fls c), .float .f32 x, .float .f32 y] w fun e w' => e = .returned (.tuple #[.agg (fls r), .int .i64 n]) ∧ Below w.heap.size w w' := by
  have hnn := putT_nn h hx hy
  have hf := amt_fin hx
  have ho1 := leq_f hx (y := 0) (by decide) (Nat.pos_of_ne_zero h0)
  have ho2 := gt_t hx (y := 0) (by decide) (Nat.pos_of_ne_zero h0)
  have hxl := amt_lt hx
  have hl := lt_f hx (y := 1065353216) (by decide) h1
  have hq := div_less (k := 19) (by decide) (amtB_iff.1 hx)
  have hqa : amtB (fdiv x (mass 19)) = true := amtB_iff.2 (Nat.lt_of_le_of_lt hq (amtB_iff.1 hx))
  have hr1 := fun w => run_div (P := Try.prog) 24 (amt_nn hx) (mass_amt (k := 19) (by decide)) (mass_ne 19) w
  have hr2 := fun w => run_mul (P := Try.prog) 24 hy hqa w
  have hv1 := (mul_eq hy hqa).2
  have hC := fun w => iClassFor_ok x hx h1 w
  rw [hk] at hC
  have HC := hid hC
  clear hC hk hq hqa
  clear h0 ho2
  have A0 := hid ((arrAt.new w c 26).alloc (.cells (fls (fun _ => 0)) 26))
  have A1 := hid (new1 w (.cells (fls c) 26) (fun _ => 0) 26)
  have b0 := boxed2 w (.cells (fls c) 26) (.cells (fls (fun _ => 0)) 26)
  have Hh := hid h
  have Hhx := hid hx
  have Hhf := hid hf
  have Hhxl := hid hxl
  have Hhy := hid hy
  have Hg1 := hid g1
  have Hg2 := hid g2
  have Hhnn := hid hnn
  have Hh1 := hid h1
  have Hhv1 := hid hv1
  clear h hx hf hxl hy g1 g2 hnn h1 hv1
  go_enter Try.func67, Try.ntmps67
  go_wp2_with (first | (refine wpList_load_row rfl 26 _ rfl (w.heap.size) rfl 26 (fls c) (0, 0) _ A0.out Try.underlying26 rfl (by rw [fls_size]; exact info_arr) ?_))
  refine (validSizes_t c Hh.out _).mono ?_
  rintro e w0 ⟨rfl, hb0⟩
  have A0 := hid (A0.out.stay hb0)
  have A1 := hid (A1.out.stay hb0)
  have c0 := stp b0 (Nat.le_refl _) hb0
  go_wp2_with fail
  refine (isFinite_t x Hhxl.out Hhf.out _).mono ?_
  rintro e w1 ⟨rfl, rfl⟩
  go_wp2_with fail
  refine (isAmount_t y Hhy.out _).mono ?_
  rintro e w2 ⟨rfl, rfl⟩
  have lx := A0.out.lt
  have ly := A1.out.lt
  have N0 := hid (arrAt.new w0 (fun _ => 0) 26)
  have P0 := hid (N0.out.setRow c)
  have B1 := hid ((A1.out.alloc (.cells (fls fun _ => 0) 26)).setRowOther (k := w0.heap.size) (Nat.ne_of_lt ly) (fls c))
  have bX : Below w.heap.size w ((w0.alloc (.cells (fls fun _ => 0) 26)).setRow w0.heap.size (fls c)) := below_row (c0.alloc c0.size _) c0.size _
  have S0 := hid c0.size
  have LY := hid ly
  clear lx ly
  have tok1 : True := trivial
  go_wp2_with (first | (refine wpList_load_row rfl 26 _ rfl (w.heap.size) rfl 26 (fls c) (0, 0) _ A0.out Try.underlying26 rfl (by rw [fls_size]; exact info_arr) ?_) | (have _t := tok1; refine store_abs rfl 26 _ _ rfl w0.heap.size c rfl rfl 26 _ N0.out info_arr ?_; intro w9 hw9; rw [← hw9] at P0 B1 bX; clear hw9; clear N0; clear hb0 b0 tok1))
  refine (HC.out _).mono ?_
  rintro e wq ⟨rfl, rfl⟩
  go_wp2_with fail
  refine (iMass 19 (by omega) _).mono ?_
  rintro e wq ⟨rfl, rfl⟩
  go_wp2_with fail
  refine (iPutI (c) _ 19 (by omega) (by omega) (fmul y (fdiv x (mass 19))) (amt_nn (Hh.out 19 (by omega))) Hhv1.out _ w0.heap.size 26 P0.out).mono ?_
  rintro e wp0 ⟨rfl, hwp⟩
  have P1 := hid (hwp.arr P0.out)
  have B2 := hid (hwp.other B1.out (Nat.ne_of_lt LY.out))
  have bY0 := hwp.2 _ _ (bX.setCell (p := ⟨w0.heap.size, 19, none⟩) S0.out (.float .f32 (fadd ((c) 19) (fmul y (fdiv x (mass 19))))))
  clear hwp P0 B1 bX
  go_wp2_with (first | (refine wpList_load_row rfl 26 _ rfl (w0.heap.size) rfl 26 (fls (putT c x y)) (0, 0) _ P1.out Try.underlying26 rfl (by rw [fls_size]; exact info_arr) ?_))
  refine (iFinite (putT c x y) (fun i hi => nn_lt (Hhnn.out i hi)) r n Hg1.out Hg2.out _).mono ?_
  rintro e w9 ⟨rfl, hb9⟩
  have A9 := hid (B2.out.stay hb9)
  have b9 := stp bY0 (Nat.le_refl _) hb9
  go_wp2_with (first | (refine wpList_store_row rfl 26 _ _ rfl (w.heap.size + 1) (fls r) rfl rfl 26 _ A9.out (by rw [fls_size]; exact info_arr) (by simp) (fls_one r) ?_))
  exact bodyPost_ret (results_row_tmp rfl _ _ (w.heap.size + 1) 26 (fls r) (0, 0) _ rfl (A9.out.setRow r) Try.underlying26 rfl (by rw [fls_size]; exact info_arr)) rfl ⟨rfl, below_row b9 (by omega) _⟩

set_option maxRecDepth 100000 in
theorem sPutDroplets_okM (c : Nat → Nat) (h : Amts c) (x : Nat) (hx : amtB x = true) (h0 : x ≠ 0) (h1 : ONE ≤ x) (k : Nat) (hk : forF x = k) (hlt : k < 19) (y : Nat) (hy : amtB y = true) (r : Nat → Nat) (n : Int) (g1 : Fins (putM c x y) → r = putM c x y ∧ n = 0) (g2 : ¬ Fins (putM c x y) → r = (fun _ => 0) ∧ n = 4) (w : World) :
    Calls Try.prog 66 #[.agg (fls c), .float .f32 x, .float .f32 y] w fun e w' => e = .returned (.tuple #[.agg (fls r), .int .i64 n]) ∧ Below w.heap.size w w' := by
  have hnn := putM_nn h h1 (by omega) hy
  have hf := amt_fin hx
  have ho1 := leq_f hx (y := 0) (by decide) (Nat.pos_of_ne_zero h0)
  have ho2 := gt_t hx (y := 0) (by decide) (Nat.pos_of_ne_zero h0)
  have hxl := amt_lt hx
  have hl := lt_f hx (y := 1065353216) (by decide) h1
  clear h0 ho1
  have A0 := hid ((arrAt.new w c 26).alloc (.cells (fls (fun _ => 0)) 26))
  have A1 := hid (new1 w (.cells (fls c) 26) (fun _ => 0) 26)
  have b0 := boxed2 w (.cells (fls c) 26) (.cells (fls (fun _ => 0)) 26)
  have Hh := hid h
  have Hhx := hid hx
  have Hhf := hid hf
  have Hhxl := hid hxl
  have Hhy := hid hy
  have Hg1 := hid g1
  have Hg2 := hid g2
  have Hhnn := hid hnn
  have Hh1 := hid h1
  have Hhk := hid hk
  have Hhlt := hid hlt
  clear h hx hf hxl hy g1 g2 hnn h1 hk hlt
  go_enter Try.func66, Try.ntmps66
  go_wp2_with fail
  refine (loose (sOk_t c Hh.out _ w.heap.size 26 A0.out)).mono ?_
  rintro e w0 ⟨rfl, hb0⟩
  have A0 := hid (A0.out.stay hb0)
  have A1 := hid (A1.out.stay hb0)
  have c0 := stp b0 (Nat.le_refl _) hb0
  go_wp2_with fail
  refine (sFinite_t x Hhxl.out Hhf.out _).mono ?_
  rintro e w1 ⟨rfl, rfl⟩
  go_wp2_with fail
  refine (sAmount_t y Hhy.out _).mono ?_
  rintro e w2 ⟨rfl, rfl⟩
  go_wp2_with fail
  refine (sPutM c Hh.out x y k Hhx.out Hh1.out Hhk.out Hhlt.out Hhy.out _ w.heap.size 26 A0.out).mono ?_
  rintro e w5 ⟨rfl, hw5⟩
  have P1 := hid (hw5.1 _ _ _ ((A0.out.set k (putL c x y k)).set (k + 1) (putM c x y (k + 1))))
  rw [show upd (upd c k (putL c x y k)) (k + 1) (putM c x y (k + 1)) = putM c x y by have := Hhk.out; subst this; rw [putL_eq, putM_eq]] at P1
  have B1 := hid (hw5.1 _ _ _ ((A1.out.setOther (a := ⟨w.heap.size, k, none⟩) (by simp) (.float .f32 (putL c x y k))).setOther (a := ⟨w.heap.size, k + 1, none⟩) (by simp) (.float .f32 (putM c x y (k + 1)))))
  have c5 := hw5.2 _ _ ((c0.setCell (p := ⟨w.heap.size, k, none⟩) (Nat.le_refl _) (.float .f32 (putL c x y k))).setCell (p := ⟨w.heap.size, k + 1, none⟩) (Nat.le_refl _) (.float .f32 (putM c x y (k + 1))))
  clear hw5 A0 A1 c0
  go_wp2_with (first | (refine wpList_load_row rfl 26 _ rfl (w.heap.size) rfl 26 (fls (putM c x y)) (0, 0) _ P1.out Try.underlying26 rfl (by rw [fls_size]; exact info_arr) ?_))
  refine (sMade (putM c x y) (fun i hi => nn_lt (Hhnn.out i hi)) r n Hg1.out Hg2.out _).mono ?_
  rintro e w9 ⟨rfl, hb9⟩
  have A9 := hid (B1.out.stay hb9)
  have b9 := stp c5 (Nat.le_refl _) hb9
  go_wp2_with (first | (refine wpList_store_row rfl 26 _ _ rfl (w.heap.size + 1) (fls r) rfl rfl 26 _ A9.out (by rw [fls_size]; exact info_arr) (by simp) (fls_one r) ?_))
  exact bodyPost_ret (results_row_tmp rfl _ _ (w.heap.size + 1) 26 (fls r) (0, 0) _ rfl (A9.out.setRow r) Try.underlying26 rfl (by rw [fls_size]; exact info_arr)) rfl ⟨rfl, below_row b9 (by omega) _⟩

set_option maxRecDepth 100000 in
theorem iPutDroplets_okM (c : Nat → Nat) (h : Amts c) (x : Nat) (hx : amtB x = true) (h0 : x ≠ 0) (h1 : ONE ≤ x) (k : Nat) (hk : forF x = k) (hlt : k < 19) (y : Nat) (hy : amtB y = true) (r : Nat → Nat) (n : Int) (g1 : Fins (putM c x y) → r = putM c x y ∧ n = 0) (g2 : ¬ Fins (putM c x y) → r = (fun _ => 0) ∧ n = 4) (w : World) :
    Calls Try.prog 67 #[.agg (fls c), .float .f32 x, .float .f32 y] w fun e w' => e = .returned (.tuple #[.agg (fls r), .int .i64 n]) ∧ Below w.heap.size w w' := by
  have hnn := putM_nn h h1 (by omega) hy
  have hf := amt_fin hx
  have ho1 := leq_f hx (y := 0) (by decide) (Nat.pos_of_ne_zero h0)
  have ho2 := gt_t hx (y := 0) (by decide) (Nat.pos_of_ne_zero h0)
  have hxl := amt_lt hx
  have hl := lt_f hx (y := 1065353216) (by decide) h1
  obtain ⟨hr1, hr2, hr3, hr4, hr5, hv1, hv2⟩ := put_runs x y k hx h1 hk hlt hy
  have hlnn := putL_nn h h1 (by omega) hy
  have hC := fun w => iClassFor_ok x hx h1 w
  rw [hk] at hC
  have HC := hid hC
  have hne : ¬ (k : Int) = 19 := by omega
  clear hC
  clear h0 ho2
  have A0 := hid ((arrAt.new w c 26).alloc (.cells (fls (fun _ => 0)) 26))
  have A1 := hid (new1 w (.cells (fls c) 26) (fun _ => 0) 26)
  have b0 := boxed2 w (.cells (fls c) 26) (.cells (fls (fun _ => 0)) 26)
  have Hh := hid h
  have Hhx := hid hx
  have Hhf := hid hf
  have Hhxl := hid hxl
  have Hhy := hid hy
  have Hg1 := hid g1
  have Hg2 := hid g2
  have Hhnn := hid hnn
  have Hh1 := hid h1
  have Hhv1 := hid hv1
  have Hhk := hid hk
  have Hhv2 := hid hv2
  have Hhlnn := hid hlnn
  clear h hx hf hxl hy g1 g2 hnn h1 hv1 hk hv2 hlnn
  go_enter Try.func67, Try.ntmps67
  go_wp2_with (first | (refine wpList_load_row rfl 26 _ rfl (w.heap.size) rfl 26 (fls c) (0, 0) _ A0.out Try.underlying26 rfl (by rw [fls_size]; exact info_arr) ?_))
  refine (validSizes_t c Hh.out _).mono ?_
  rintro e w0 ⟨rfl, hb0⟩
  have A0 := hid (A0.out.stay hb0)
  have A1 := hid (A1.out.stay hb0)
  have c0 := stp b0 (Nat.le_refl _) hb0
  go_wp2_with fail
  refine (isFinite_t x Hhxl.out Hhf.out _).mono ?_
  rintro e w1 ⟨rfl, rfl⟩
  go_wp2_with fail
  refine (isAmount_t y Hhy.out _).mono ?_
  rintro e w2 ⟨rfl, rfl⟩
  have lx := A0.out.lt
  have ly := A1.out.lt
  have N0 := hid (arrAt.new w0 (fun _ => 0) 26)
  have P0 := hid (N0.out.setRow c)
  have B1 := hid ((A1.out.alloc (.cells (fls fun _ => 0) 26)).setRowOther (k := w0.heap.size) (Nat.ne_of_lt ly) (fls c))
  have bX : Below w.heap.size w ((w0.alloc (.cells (fls fun _ => 0) 26)).setRow w0.heap.size (fls c)) := below_row (c0.alloc c0.size _) c0.size _
  have S0 := hid c0.size
  have LY := hid ly
  clear lx ly
  have tok1 : True := trivial
  go_wp2_with (first | (refine wpList_load_row rfl 26 _ rfl (w.heap.size) rfl 26 (fls c) (0, 0) _ A0.out Try.underlying26 rfl (by rw [fls_size]; exact info_arr) ?_) | (have _t := tok1; refine store_abs rfl 26 _ _ rfl w0.heap.size c rfl rfl 26 _ N0.out info_arr ?_; intro w9 hw9; rw [← hw9] at P0 B1 bX; clear hw9; clear N0; clear hb0 b0 tok1))
  refine (HC.out _).mono ?_
  rintro e wq ⟨rfl, rfl⟩
  go_wp2_with fail
  refine (iMass k (by omega) _).mono ?_
  rintro e wq ⟨rfl, rfl⟩
  go_wp2_with fail
  refine (iPutI (c) _ k (by omega) (by omega) (fmul y (fsub 1065353216 (fdiv (fsub x (mass k)) (mass k)))) (amt_nn (Hh.out k (by omega))) Hhv1.out _ w0.heap.size 26 P0.out).mono ?_
  rintro e wp0 ⟨rfl, hwp⟩
  have P1 := hid (hwp.arr P0.out)
  have B2 := hid (hwp.other B1.out (Nat.ne_of_lt LY.out))
  have bY0 := hwp.2 _ _ (bX.setCell (p := ⟨w0.heap.size, k, none⟩) S0.out (.float .f32 (fadd ((c) k) (fmul y (fsub 1065353216 (fdiv (fsub x (mass k)) (mass k)))))))
  rw [putL_val c x y k Hhk.out] at P1
  clear hwp P0 B1 bX
  go_wp2_with fail
  refine (iPutI (putL c x y) _ (k + 1) (by omega) (by omega) (fmul y (fdiv (fsub x (mass k)) (mass k))) (Hhlnn.out (k + 1) (by omega)) Hhv2.out _ w0.heap.size 26 P1.out).mono ?_
  rintro e wp1 ⟨rfl, hwp⟩
  have P2 := hid (hwp.arr P1.out)
  have B3 := hid (hwp.other B2.out (Nat.ne_of_lt LY.out))
  have bY1 := hwp.2 _ _ (bY0.setCell (p := ⟨w0.heap.size, (k + 1), none⟩) S0.out (.float .f32 (fadd ((putL c x y) (k + 1)) (fmul y (fdiv (fsub x (mass k)) (mass k))))))
  rw [putM_val c x y k Hhk.out] at P2
  clear hwp P1 B2 bY0
  go_wp2_with (first | (refine wpList_load_row rfl 26 _ rfl (w0.heap.size) rfl 26 (fls (putM c x y)) (0, 0) _ P2.out Try.underlying26 rfl (by rw [fls_size]; exact info_arr) ?_))
  refine (iFinite (putM c x y) (fun i hi => nn_lt (Hhnn.out i hi)) r n Hg1.out Hg2.out _).mono ?_
  rintro e w9 ⟨rfl, hb9⟩
  have A9 := hid (B3.out.stay hb9)
  have b9 := stp bY1 (Nat.le_refl _) hb9
  go_wp2_with (first | (refine wpList_store_row rfl 26 _ _ rfl (w.heap.size + 1) (fls r) rfl rfl 26 _ A9.out (by rw [fls_size]; exact info_arr) (by simp) (fls_one r) ?_))
  exact bodyPost_ret (results_row_tmp rfl _ _ (w.heap.size + 1) 26 (fls r) (0, 0) _ rfl (A9.out.setRow r) Try.underlying26 rfl (by rw [fls_size]; exact info_arr)) rfl ⟨rfl, below_row b9 (by omega) _⟩

set_option maxRecDepth 100000 in
theorem corePutDroplets (x0 : Nat → Nat) (x1 : Nat) (x2 : Nat) (r0 : Nat → Nat) (hl0 : ∀ i, i < 20 → r0 i < 4294967296) (hf0 : ∀ i, i < 20 → finB (r0 i) = true) (r1 : Int)
    (hS : ∀ w, Calls Try.prog 66 #[.agg (fls x0), .float .f32 x1, .float .f32 x2] w fun e w' => e = .returned (.tuple #[.agg (fls r0), .int .i64 r1]) ∧ Below w.heap.size w w')
    (hI : ∀ w, Calls Try.prog 67 #[.agg (fls x0), .float .f32 x1, .float .f32 x2] w fun e w' => e = .returned (.tuple #[.agg (fls r0), .int .i64 r1]) ∧ Below w.heap.size w w') (w : World) :
    Calls Try.prog 11 #[.agg (fls x0), .float .f32 x1, .float .f32 x2] w fun e w' => e = .returned (.bool true) ∧ Below w.heap.size w w' := by
  have A0 := hid (arrAt.new w x0 25)
  have b0 := boxed w (.cells (fls x0) 25)
  have HS := hid hS
  have HI := hid hI
  clear hS hI
  have Hl0 := hid hl0
  have Hf0 := hid hf0
  clear hl0 hf0
  go_enter Try.func11, Try.ntmps11
  go_wp2_with (first | (refine wpList_load_row rfl 25 _ rfl (w.heap.size) rfl 25 (fls x0) (0, 0) _ A0.out Try.underlying25 rfl (by rw [fls_size]; exact info_a20) ?_))
  refine (toSizes x0 _).mono ?_
  rintro e u0 ⟨rfl, hbu0⟩
  have bu0 := stp b0 (Nat.le_refl _) hbu0
  have Au0 := hid (A0.out.stay hbu0)
  go_wp2_with fail
  refine (HS.out _).mono ?_
  rintro e v0 ⟨rfl, hbv0⟩
  have bv0 := stp bu0 (Nat.le_refl _) hbv0
  have Av0 := hid (Au0.out.stay hbv0)
  have N0 := hid (arrAt.new v0 (fun _ => 0) 26)
  have R0 := hid (N0.out.setRow r0)
  have AX0 := hid ((Av0.out.alloc (.cells (fls fun _ => 0) 26)).setRowOther (k := v0.heap.size) (Nat.ne_of_lt Av0.out.lt) (fls r0))
  have bX0 : Below w.heap.size w ((v0.alloc (.cells (fls fun _ => 0) 26)).setRow v0.heap.size (fls r0)) := below_row (bv0.alloc bv0.size _) bv0.size _
  go_wp2_with (first | (refine wpList_load_row rfl 25 _ rfl (w.heap.size) rfl 25 (fls x0) (0, 0) _ AX0.out Try.underlying25 rfl (by rw [fls_size]; exact info_a20) ?_) | (refine wpList_store_row rfl 26 _ _ rfl (v0.heap.size) (fls r0) rfl rfl 26 _ N0.out (by rw [fls_size]; exact info_arr) (by simp) (fls_one r0) ?_))
  refine (toSizes x0 _).mono ?_
  rintro e u1 ⟨rfl, hbu1⟩
  have bu1 := stp bX0 (Nat.le_refl _) hbu1
  have Au1 := hid (AX0.out.stay hbu1)
  go_wp2_with fail
  refine (HI.out _).mono ?_
  rintro e v1 ⟨rfl, hbv1⟩
  have bv1 := stp bu1 (Nat.le_refl _) hbv1
  have Av1 := hid (Au1.out.stay hbv1)
  have R1 := hid ((R0.out.stay hbu1).stay hbv1)
  have N1 := hid (arrAt.new v1 (fun _ => 0) 26)
  have T1 := hid (N1.out.setRow r0)
  have R2 := hid ((R1.out.alloc (.cells (fls fun _ => 0) 26)).setRowOther (k := v1.heap.size) (Nat.ne_of_lt R1.out.lt) (fls r0))
  have bX1 : Below w.heap.size w ((v1.alloc (.cells (fls fun _ => 0) 26)).setRow v1.heap.size (fls r0)) := below_row (bv1.alloc bv1.size _) bv1.size _
  go_wp2_with (first | (refine wpList_store_row rfl 26 _ _ rfl (v1.heap.size) (fls r0) rfl rfl 26 _ N1.out (by rw [fls_size]; exact info_arr) (by simp) (fls_one r0) ?_) | (refine wpList_load_row rfl 26 _ rfl (v1.heap.size) rfl 26 (fls r0) (0, 0) _ T1.out Try.underlying26 rfl (by rw [fls_size]; exact info_arr) ?_) | (refine wpList_load_row rfl 26 _ rfl (v0.heap.size) rfl 26 (fls r0) (0, 0) _ R2.out Try.underlying26 rfl (by rw [fls_size]; exact info_arr) ?_))
  refine (eqSizes r0 Hl0.out Hf0.out _).mono ?_
  rintro e z ⟨rfl, hbz⟩
  have bz := stp bX1 (Nat.le_refl _) hbz
  go_wp2
  go_ret
  exact ⟨rfl, bz⟩

theorem lawPutDroplets (c : Nat → Nat) (hb : ∀ i, i < 20 → c i < 4294967296) (x : Nat) (hx : x < 4294967296) (y : Nat) (hy : y < 4294967296) (w : World) :
    Calls Try.prog 11 #[.agg (fls c), .float .f32 x, .float .f32 y] w fun e w' => e = .returned (.bool true) ∧ Below w.heap.size w w' := by
  by_cases h : Amts c
  · rcases hf : finB x with _ | _
    · exact corePutDroplets c x y (fun _ => 0) zl zf 2 (sPutDroplets_nofin c h x hx hf y) (iPutDroplets_nofin c h x hx hf y) w
    · by_cases hp : amtB x = true ∧ x ≠ 0
      · obtain ⟨ha, h0⟩ := hp
        rcases hq : amtB y with _ | _
        · exact corePutDroplets c x y (fun _ => 0) zl zf 2 (sPutDroplets_count c h x ha h0 y hy hq) (iPutDroplets_count c h x ha h0 y hy hq) w
        · have fin : ∀ d : Nat → Nat, (∀ i, i < 20 → nnB (d i) = true) →
            (∀ r n, (Fins d → r = d ∧ n = 0) → (¬ Fins d → r = (fun _ => 0) ∧ n = 4) → (∀ w, Calls Try.prog 66 #[.agg (fls c), .float .f32 x, .float .f32 y] w fun e w' => e = .returned (.tuple #[.agg (fls r), .int .i64 n]) ∧ Below w.heap.size w w')) →
            (∀ r n, (Fins d → r = d ∧ n = 0) → (¬ Fins d → r = (fun _ => 0) ∧ n = 4) → (∀ w, Calls Try.prog 67 #[.agg (fls c), .float .f32 x, .float .f32 y] w fun e w' => e = .returned (.tuple #[.agg (fls r), .int .i64 n]) ∧ Below w.heap.size w w')) →
            Calls Try.prog 11 #[.agg (fls c), .float .f32 x, .float .f32 y] w fun e w' => e = .returned (.bool true) ∧ Below w.heap.size w w' := by
            intro d hd hS hI
            by_cases hF : Fins d
            · exact corePutDroplets c x y d (fun i hi => nn_lt (hd i hi)) hF 0 (hS d 0 (fun _ => ⟨rfl, rfl⟩) (fun h => absurd hF h)) (hI d 0 (fun _ => ⟨rfl, rfl⟩) (fun h => absurd hF h)) w
            · exact corePutDroplets c x y (fun _ => 0) zl zf 4 (hS (fun _ => 0) 4 (fun h => absurd h hF) (fun _ => ⟨rfl, rfl⟩)) (hI (fun _ => 0) 4 (fun h => absurd h hF) (fun _ => ⟨rfl, rfl⟩)) w
          by_cases hlt : x < 1065353216
          · exact fin (putB c x y) (putB_nn h ha hq) (fun r n g1 g2 => sPutDroplets_okB c h x ha h0 hlt y hq r n g1 g2) (fun r n g1 g2 => iPutDroplets_okB c h x ha h0 hlt y hq r n g1 g2)
          · have h1 : ONE ≤ x := by unfold ONE; omega
            by_cases hk : forF x = 19
            · exact fin (putT c x y) (putT_nn h ha hq) (fun r n g1 g2 => sPutDroplets_okT c h x ha h0 h1 hk y hq r n g1 g2) (fun r n g1 g2 => iPutDroplets_okT c h x ha h0 h1 hk y hq r n g1 g2)
            · have hl : forF x < 19 := by have := forF_lt x; omega
              exact fin (putM c x y) (putM_nn h h1 hk hq) (fun r n g1 g2 => sPutDroplets_okM c h x ha h0 h1 _ rfl hl y hq r n g1 g2) (fun r n g1 g2 => iPutDroplets_okM c h x ha h0 h1 _ rfl hl y hq r n g1 g2)
      · exact corePutDroplets c x y (fun _ => 0) zl zf 2 (sPutDroplets_low c h x hx hf hp y) (iPutDroplets_low c h x hx hf hp y) w
  · exact corePutDroplets c x y (fun _ => 0) zl zf 1 (sPutDroplets_bad c hb h x y) (iPutDroplets_bad c hb h x y) w

theorem words_cons : ∀ (v : List Char) (r : List Char), (∀ c ∈ v, c ≠ Char.ofNat 32) → wordsSigns (v ++ Char.ofNat 32 :: r) = v :: wordsSigns r
  | [], r, _ => rfl
  | c :: v, r, h => by
    have ih := words_cons v r (fun x hx => h x (by simp [hx]))
    have hc : c ≠ Char.ofNat 32 := h c (by simp)
    show wordsSigns (c :: (v ++ Char.ofNat 32 :: r)) = _
    rw [wordsSigns.eq_3 _ _ (fun e => hc e), ih]

def w0 : List Nat := [104, 97, 114, 110, 101, 115, 115]

def w1 : List Nat := [53, 101, 102, 56, 48, 48, 53, 56, 54, 100, 51, 48, 49, 98, 54, 54, 57, 52, 99, 102, 99, 101, 101, 57, 49, 48, 101, 49, 57, 55, 100, 55, 99, 55, 55, 54, 97, 53, 53, 48, 97, 51, 54, 101, 49, 50, 100, 50, 52, 98, 98, 98, 48, 49, 57, 99, 101, 102, 98, 54, 99, 51, 99, 55]

def w2 : List Nat := [99, 117, 116]

def w3 : List Nat := [97, 116, 32, 108, 111, 111, 112, 46, 101, 120, 97, 109, 112, 108, 101, 47, 103, 48, 49, 50, 50, 52, 47, 108, 97, 119, 115, 46, 70, 110, 83, 117, 109, 115, 32, 108, 111, 111, 112, 46, 101, 120, 97, 109, 112, 108, 101, 47, 103, 48, 49, 50, 50, 52, 47, 108, 97, 119, 115, 46, 70, 110, 83, 104, 105, 102, 116, 101, 100, 32, 108, 111, 111, 112, 46, 101, 120, 97, 109, 112, 108, 101, 47, 103, 48, 49, 50, 50, 52, 47, 108, 97, 119, 115, 46, 70, 110, 71, 114, 111, 119, 110, 32, 108, 111, 111, 112, 46, 101, 120, 97, 109, 112, 108, 101, 47, 103, 48, 49, 50, 50, 52, 47, 108, 97, 119, 115, 46, 70, 110, 78, 117, 99, 108, 101, 105, 32, 108, 111, 111, 112, 46, 101, 120, 97, 109, 112, 108, 101, 47, 103, 48, 49, 50, 50, 52, 47, 108, 97, 119, 115, 46, 70, 110, 69, 120, 97, 99, 116, 83, 97, 109, 101, 83, 105, 122, 101, 115, 32, 108, 111, 111, 112, 46, 101, 120, 97, 109, 112, 108, 101, 47, 103, 48, 49, 50, 50, 52, 47, 108, 97, 119, 115, 46, 70, 110, 69, 120, 97, 99, 116, 84, 104, 105, 114, 100, 82, 111, 111, 116, 32, 108, 111, 111, 112, 46, 101, 120, 97, 109, 112, 108, 101, 47, 103, 48, 49, 50, 50, 52, 47, 108, 97, 119, 115, 46, 70, 110, 69, 120, 97, 99, 116, 82, 97, 100, 105, 117, 115, 79, 102, 32, 108, 111, 111, 112, 46, 101, 120, 97, 109, 112, 108, 101, 47, 103, 48, 49, 50, 50, 52, 47, 108, 97, 119, 115, 46, 70, 110, 69, 120, 97, 99, 116, 77, 111, 109, 101, 110, 116, 79, 102, 32, 108, 111, 111, 112, 46, 101, 120, 97, 109, 112, 108, 101, 47, 103, 48, 49, 50, 50, 52, 47, 108, 97, 119, 115, 46, 70, 110, 69, 120, 97, 99, 116, 80, 117, 116, 68, 114, 111, 112, 108, 101, 116, 115, 32, 108, 111, 111, 112, 46, 101, 120, 97, 109, 112, 108, 101, 47, 103, 48, 49, 50, 50, 52, 47, 108, 97, 119, 115, 46, 70, 110, 69, 120, 97, 99, 116, 65, 100, 100, 83, 105, 122, 101, 115, 32, 108, 111, 111, 112, 46, 101, 120, 97, 109, 112, 108, 101, 47, 103, 48, 49, 50, 50, 52, 47, 108, 97, 119, 115, 46, 70, 110, 69, 120, 97, 99, 116, 77, 105, 120, 83, 105, 122, 101, 115, 32, 108, 111, 111, 112, 46, 101, 120, 97, 109, 112, 108, 101, 47, 103, 48, 49, 50, 50, 52, 47, 108, 97, 119, 115, 46, 70, 110, 69, 120, 97, 99, 116, 83, 104, 105, 102, 116, 77, 97, 115, 115, 101, 115, 32, 108, 111, 111, 112, 46, 101, 120, 97, 109, 112, 108, 101, 47, 103, 48, 49, 50, 50, 52, 47, 108, 97, 119, 115, 46, 70, 110, 69, 120, 97, 99, 116, 84, 119, 111, 84, 111, 32, 108, 111, 111, 112, 46, 101, 120, 97, 109, 112, 108, 101, 47, 103, 48, 49, 50, 50, 52, 47, 108, 97, 119, 115, 46, 70, 110, 69, 120, 97, 99, 116, 86, 97, 108, 105, 100, 65, 105, 114, 32, 108, 111, 111, 112, 46, 101, 120, 97, 109, 112, 108, 101, 47, 103, 48, 49, 50, 50, 52, 47, 108, 97, 119, 115, 46, 70, 110, 69, 120, 97, 99, 116, 83, 97, 109, 101, 65, 105, 114, 32, 108, 111, 111, 112, 46, 101, 120, 97, 109, 112, 108, 101, 47, 103, 48, 49, 50, 50, 52, 47, 108, 97, 119, 115, 46, 70, 110, 69, 120, 97, 99, 116, 83, 97, 116, 117, 114, 97, 116, 105, 111, 110, 65, 116, 32, 108, 111, 111, 112, 46, 101, 120, 97, 109, 112, 108, 101, 47, 103, 48, 49, 50, 50, 52, 47, 108, 97, 119, 115, 46, 70, 110, 69, 120, 97, 99, 116, 69, 120, 99, 101, 115, 115, 79, 102, 32, 108, 111, 111, 112, 46, 101, 120, 97, 109, 112, 108, 101, 47, 103, 48, 49, 50, 50, 52, 47, 108, 97, 119, 115, 46, 70, 110, 69, 120, 97, 99, 116, 72, 117, 109, 105, 100, 105, 116, 121, 79, 102, 32, 108, 111, 111, 112, 46, 101, 120, 97, 109, 112, 108, 101, 47, 103, 48, 49, 50, 50, 52, 47, 108, 97, 119, 115, 46, 70, 110, 69, 120, 97, 99, 116, 71, 97, 105, 110, 115, 65, 116, 32, 108, 111, 111, 112, 46, 101, 120, 97, 109, 112, 108, 101, 47, 103, 48, 49, 50, 50, 52, 47, 108, 97, 119, 115, 46, 70, 110, 69, 120, 97, 99, 116, 71, 114, 111, 119, 79, 110, 99, 101, 32, 108, 111, 111, 112, 46, 101, 120, 97, 109, 112, 108, 101, 47, 103, 48, 49, 50, 50, 52, 47, 108, 97, 119, 115, 46, 70, 110, 69, 120, 97, 99, 116, 71, 114, 111, 119, 83, 116, 101, 112, 115, 32, 108, 111, 111, 112, 46, 101, 120, 97, 109, 112, 108, 101, 47, 103, 48, 49, 50, 50, 52, 47, 108, 97, 119, 115, 46, 70, 110, 69, 120, 97, 99, 116, 65, 99, 116, 105, 118, 97, 116, 101, 32, 108, 111, 111, 112, 46, 101, 120, 97, 109, 112, 108, 101, 47, 103, 48, 49, 50, 50, 52, 47, 108, 97, 119, 115, 46, 70, 110, 69, 120, 97, 99, 116, 87, 97, 116, 101, 114, 73, 110, 32, 108, 111, 111, 112, 46, 101, 120, 97, 109, 112, 108, 101, 47, 103, 48, 49, 50, 50, 52, 47, 108, 97, 119, 115, 46, 70, 110, 69, 120, 97, 99, 116, 77, 105, 120, 65, 105, 114, 32, 108, 111, 111, 112, 46, 101, 120, 97, 109, 112, 108, 101, 47, 103, 48, 49, 50, 50, 52, 47, 108, 97, 119, 115, 46, 70, 110, 69, 120, 97, 99, 116, 83, 116, 101, 112, 115, 84, 111, 68, 114, 121, 32, 108, 111, 111, 112, 46, 101, 120, 97, 109, 112, 108, 101, 47, 103, 48, 49, 50, 50, 52, 47, 108, 97, 119, 115, 46, 70, 110, 69, 120, 97, 99, 116, 68, 101, 119, 72, 101, 97, 116]

def letters (l : List Nat) : List Char := l.map Char.ofNat

theorem head_reads : Try.prog.initOrder = String.ofList (letters w0 ++ Char.ofNat 32 :: (letters w1 ++ Char.ofNat 32 :: (letters w2 ++ Char.ofNat 32 :: letters w3))) := by kernel_rfl

theorem no_blank {l : List Nat} (h : l.all (fun n => Char.ofNat n != Char.ofNat 32) = true) : ∀ c ∈ letters l, c ≠ Char.ofNat 32 := by
  intro c hc
  obtain ⟨n, hn, rfl⟩ := List.mem_map.1 hc
  have := List.all_eq_true.1 h n hn
  simpa using this

theorem h0 : letters w0 = "harness".toList := by kernel_rfl

theorem h2 : letters w2 = "cut".toList := by kernel_rfl

theorem sums : isSumSigns (letters w1) = true := by kernel_rfl

theorem words : wordsSigns Try.prog.initOrder.toList = "harness".toList :: letters w1 :: "cut".toList :: wordsSigns (letters w3) := by
  rw [head_reads, String.toList_ofList, words_cons _ _ (no_blank (by decide +kernel)), words_cons _ _ (no_blank (by decide +kernel)), words_cons _ _ (no_blank (by decide +kernel)), h0, h2]

theorem behind : ∃ r, behindMainWord (wordsSigns Try.prog.initOrder.toList) = "cut".toList :: r := by
  refine ⟨wordsSigns (letters w3), ?_⟩
  rw [words]
  generalize wordsSigns (letters w3) = r
  have hs := sums
  generalize letters w1 = v at hs
  unfold behindMainWord
  simp [hs]

theorem not_later : Try.prog.laysLater = false := by kernel_rfl

theorem no_reflect : Try.prog.bearsReflect = false := by kernel_rfl

theorem no_doors : Try.prog.doorFits [] = true := by kernel_rfl

theorem strips (r : List (List Char)) : stripLifts liftWords ("cut".toList :: r) = ([], "cut".toList :: r) := by kernel_rfl

theorem may_enter_of (P : Program) (r : List (List Char)) (h : behindMainWord (wordsSigns P.initOrder.toList) = "cut".toList :: r) (h1 : P.laysLater = false) (h2 : P.bearsReflect = false) (h3 : P.doorFits [] = true) : P.mayEnter = true := by
  unfold Program.mayEnter
  rw [h]
  dsimp only
  rw [strips, h1, h2, h3]
  kernel_rfl

theorem lifts_final_of (P : Program) (r : List (List Char)) (h : behindMainWord (wordsSigns P.initOrder.toList) = "cut".toList :: r) : P.liftsFinal = false := by
  unfold Program.liftsFinal Program.headLifts
  rw [h]
  dsimp only
  rw [strips]
  kernel_rfl

theorem made_of (P : Program) (r : List (List Char)) (h : behindMainWord (wordsSigns P.initOrder.toList) = "cut".toList :: r) : P.make = some .cut := by
  unfold Program.make
  rw [h]
  kernel_rfl

theorem may_enter : Try.prog.mayEnter = true := let ⟨r, h⟩ := behind; may_enter_of _ r h not_later no_reflect no_doors

theorem lifts_final : Try.prog.liftsFinal = false := let ⟨r, h⟩ := behind; lifts_final_of _ r h

theorem made : Try.prog.make = some .cut := let ⟨r, h⟩ := behind; made_of _ r h

theorem laid : laidOutB Try.prog = true := by kernel_rfl

theorem rowed : mapsRowed Try.prog = true := by kernel_rfl

theorem no_stops : Try.prog.stops = [] := by kernel_rfl

theorem no_knobs : Try.prog.stopKnobs = [] := by kernel_rfl

theorem plain_keys : Try.prog.plainKeys = true := by kernel_rfl

theorem stops_heard : Try.prog.stopsHeard = true := by kernel_rfl

theorem arr3 {α : Type} {cs : Array α} (h : cs.size = 3) : ∃ c0 c1 c2, cs = #[c0, c1, c2] := by
  obtain ⟨l⟩ := cs
  match l, h with
  | [a, b, c], _ => exact ⟨a, b, c, rfl⟩

theorem own : ownKnob Try.prog.godebug = none := by kernel_rfl

theorem cells20 : Try.prog.cellsOf 25 = 20 := by kernel_rfl

theorem types20 : Try.prog.cellTypes Try.prog.depth 25 = some (List.replicate 20 24) := by kernel_rfl

theorem rda : Try.prog.readableRec 25 = true ∧ 25 < Try.prog.types.size := ⟨by kernel_rfl, of_decide_eq_true (by kernel_rfl)⟩

theorem rdf : Try.prog.readableRec 24 = true ∧ 24 < Try.prog.types.size := ⟨by kernel_rfl, of_decide_eq_true (by kernel_rfl)⟩

theorem rdA : Try.prog.readableRec 70 = true ∧ 70 < Try.prog.types.size := ⟨by kernel_rfl, of_decide_eq_true (by kernel_rfl)⟩

theorem rdi : Try.prog.readableRec 2 = true ∧ 2 < Try.prog.types.size := ⟨by kernel_rfl, of_decide_eq_true (by kernel_rfl)⟩
end Go.Proofs.Ytgocemjopmgnaaa

namespace Go.Proofs.Ytgocemjopmgnaaa.fnExactPutDroplets
open Go.RowKit Go.Fl Go.ChangeShapes Go.WideShapes Go.ChangeAt

theorem closed : joinedFacts Try.prog 11 Try.f11 Rows.fnExactPutDropletsSpec Rows.fnExactPutDropletsRow = true := by
  unfold joinedFacts
  simp only [Bool.and_eq_true]
  exact ⟨⟨⟨⟨⟨⟨⟨⟨⟨⟨⟨⟨⟨⟨⟨⟨⟨⟨⟨⟨⟨⟨⟨⟨⟨⟨⟨⟨⟨⟨⟨(by as_aux_lemma => kernel_rfl),
    laid⟩,
    rowed⟩,
    (by as_aux_lemma => kernel_rfl)⟩,
    (by as_aux_lemma => kernel_rfl)⟩,
    (by as_aux_lemma => kernel_rfl)⟩,
    (by rw [no_stops]; rfl)⟩,
    (by as_aux_lemma => kernel_rfl)⟩,
    (by rw [no_knobs]; rfl)⟩,
    (by as_aux_lemma => kernel_rfl)⟩,
    (by as_aux_lemma => kernel_rfl)⟩,
    (by as_aux_lemma => kernel_rfl)⟩,
    (by as_aux_lemma => kernel_rfl)⟩,
    (by as_aux_lemma => kernel_rfl)⟩,
    (by as_aux_lemma => kernel_rfl)⟩,
    (by as_aux_lemma => kernel_rfl)⟩,
    (by as_aux_lemma => kernel_rfl)⟩,
    (by as_aux_lemma => kernel_rfl)⟩,
    (by as_aux_lemma => kernel_rfl)⟩,
    (by as_aux_lemma => kernel_rfl)⟩,
    (by as_aux_lemma => kernel_rfl)⟩,
    (by as_aux_lemma => kernel_rfl)⟩,
    (show (Rows.fnExactPutDropletsRow.plainKeys == Try.prog.plainKeys) = true by rw [plain_keys]; rfl)⟩,
    (by as_aux_lemma => kernel_rfl)⟩,
    stops_heard⟩,
    may_enter⟩,
    (show (Rows.fnExactPutDropletsRow.lifted == Try.prog.liftsFinal) = true by rw [lifts_final]; rfl)⟩,
    (show (Try.prog.make == some Rows.fnExactPutDropletsRow.make) = true by rw [made]; rfl)⟩,
    (by as_aux_lemma => kernel_rfl)⟩,
    (by as_aux_lemma => kernel_rfl)⟩,
    (by as_aux_lemma => kernel_rfl)⟩,
    (by as_aux_lemma => kernel_rfl)⟩

set_option maxRecDepth 100000 in
theorem lifted (os : Os) (started : os.Started) (H : Type) (enc : TypeId × Value → H) :
    ReturnsInHanded {} Try.checked os 11 .any (Rows.fnExactPutDropletsSpec.pre6 enc Try.prog Try.f11 Rows.fnExactPutDropletsRow.domain false) (Rows.fnExactPutDropletsSpec.post enc Try.prog Try.f11 false true false false) := by
  refine LawFrame.lifted (C := Try.checked) (fn := Try.f11) (n := 3) (tb := 4) started own (by kernel_rfl) Try.func11 laid ?_ rfl rfl ?_ rfl Try.underlying4
    (ChangeSpec.witness6 (enc := enc) (C := Try.checked) false ⟨#[], #[.agg (Array.replicate 20 (.float .f32 0)), .float .f32 0, .float .f32 0], []⟩ 8 (by kernel_rfl) (by kernel_rfl) (by kernel_rfl) (by kernel_rfl)) ?_
  · intro t ht
    simp only [Try.params11, List.mem_cons, List.not_mem_nil, or_false] at ht
    rcases ht with rfl | rfl | rfl <;> first | exact rda | exact rdf | exact rdi | exact rdA
  · intro ds hd
    match ds, hd with
    | [_, _, _], _ => rfl
  · intro W base args ds ps hval hn _
    obtain ⟨v0, v1, v2, rfl⟩ : ∃ v0 v1 v2, args = #[v0, v1, v2] := arr3 hn
    obtain ⟨c0, rfl, hb0⟩ := open_fls Try.underlying25 Try.underlying24 cells20 types20 (hval 0 25 v0 rfl rfl)
    obtain ⟨c1, rfl, hb1⟩ := open_f32 Try.underlying24 (hval 1 24 v1 rfl rfl)
    obtain ⟨c2, rfl, hb2⟩ := open_f32 Try.underlying24 (hval 2 24 v2 rfl rfl)
    exact lawPutDroplets c0 hb0 c1 hb1 c2 hb2 W

theorem over : Rows.fnExactPutDropletsRow.holds Try.pinned (OpenSpec.ofChange Rows.fnExactPutDropletsSpec) :=
  OpenClaim.holds_of_wide 11 Try.f11 rfl rfl rfl rfl rfl rfl rfl ⟨rfl, rfl, rfl, rfl, rfl⟩ rfl rfl rfl rfl rfl (by kernel_rfl) Try.func11 closed
    (of_decide_eq_true (by kernel_rfl)) (by unfold Func.isWrapper; rw [if_neg (by decide +kernel)]; exact ⟨rfl, rfl⟩)
    (fun os started H enc _ => lifted os started H enc)

theorem proved : Rows.FnExactPutDropletsSaid := over
#print axioms proved
end Go.Proofs.Ytgocemjopmgnaaa.fnExactPutDroplets
