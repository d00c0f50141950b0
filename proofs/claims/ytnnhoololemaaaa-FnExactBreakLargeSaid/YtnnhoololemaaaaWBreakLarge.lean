import Derived.Test.YtnnhoololemaaaaBBreakLarge
import Derived.Test.YtnnhoololemaaaaChecked
import Derived.Test.YtnnhoololemaaaaRows
import Derived.Laws.FloatArith
import Derived.ProofKit
import Derived.WalkKit
import Derived.WalkLawsBesides
import Derived.WalkSpells
import Derived.Deep.QuietTactic
import Derived.BigQuiet
import Derived.Deep.RegionHeld3
import Derived.ChangeKeysEq
import Derived.Laws.BitsAllLaws
import Derived.Deep.MidRow
import Derived.Deep.WholeRow
import Derived.StillTailTactics
import Derived.OpenShut
/- The law FnExactBreakLarge of chapter 1: at every argument the call returns true, and what was there before it is as it was. -/
namespace Go.Proofs.Ytnnhoololemaaaa
open Go.RowKit Go.Fl

@[go_sem] theorem ext_f64bits (y : Nat) (w : World) : (callFunc 203 #[.float .f64 y]).run Try.prog w = .ok (.value (.int .u64 y)) w := by
  rw [run_callFunc_extern Try.func203 (by kernel_rfl) (by kernel_rfl) (by kernel_rfl) (e := Extern.MathFloatBits.float64bits) (by kernel_rfl)]
  rfl

@[go_sem] theorem ext_f64from (n : Int) (w : World) : (callFunc 202 #[.int .u64 n]).run Try.prog w = .ok (.value (.float .f64 n.toNat)) w := by
  rw [run_callFunc_extern Try.func202 (by kernel_rfl) (by kernel_rfl) (by kernel_rfl) (e := Extern.MathFloatBits.float64frombits) (by kernel_rfl)]
  rfl

theorem hid {p : Prop} (h : p) : Hid p := h

theorem clear_sign (y : Nat) (h : y < 18446744073709551616) : (bits BinOp.andNot IntKind.u64 (y : Int) 9223372036854775808).toNat = y % 9223372036854775808 := by
  rw [u64_andNot _ _ (by omega) (by omega) (by omega) (by omega)]
  rw [Int.toNat_natCast, Int.toNat_natCast]
  exact Nat.and_two_pow_sub_one_eq_mod y 63

theorem abs_f64 (y : Nat) (h : y < 18446744073709551616) (w : World) :
    Calls Try.prog 145 #[.float .f64 y] w fun e w' => e = .returned (.float .f64 (y % 9223372036854775808)) ∧ w = w' := by
  have hc := hid (clear_sign y h)
  clear h
  go_enter Try.func145, Try.ntmps145
  go_wp2
  go_ret
  exact ⟨by simp [hc.out], rfl⟩

theorem isNaN_f64 (y : Nat) (w : World) :
    Calls Try.prog 187 #[.float .f64 y] w fun e w' => e = .returned (.bool (FloatKind.f64.format.order y y != some .eq)) ∧ w = w' := by
  go_enter Try.func187, Try.ntmps187
  go_wp2
  go_ret
  exact ⟨rfl, rfl⟩

theorem isInf_f64 (y : Nat) (h : y < 18446744073709551616) (w : World) :
    Calls Try.prog 188 #[.float .f64 y, .int .i64 0] w fun e w' => e = .returned (.bool (FloatKind.f64.format.order (y % 9223372036854775808) 9218868437227405311 == some .gt)) ∧ w = w' := by
  have hc := hid h
  clear h
  go_enter Try.func188, Try.ntmps188
  go_wp2_with (go_at_call 145; refine (abs_f64 y hc.out _).mono ?_; rintro e w' ⟨rfl, rfl⟩)
  go_ret
  exact ⟨rfl, rfl⟩

theorem isFinite_t (x : Nat) (hx : x < 4294967296) (h : finB x = true) (w : World) :
    Calls Try.prog 112 #[.float .f32 x] w fun e w' => e = .returned (.bool true) ∧ w = w' := by
  rw [finB_iff] at h
  have hc := fun w => run_conv_wid (P := Try.prog) w 22 26 x hx Try.underlying22 Try.underlying26 h
  obtain ⟨a, b, m, e, hr⟩ := read_wid_fin hx h
  have hn : (FloatKind.f64.format.order (wid x) (wid x) != some .eq) = false := by
    show (D.order (wid x) (wid x) != some .eq) = false
    rw [order_self hr]; rfl
  have hi : (FloatKind.f64.format.order (wid x % 9223372036854775808) 9218868437227405311 == some .gt) = false := by
    show (D.order (wid x % 9223372036854775808) 9218868437227405311 == some .gt) = false
    rw [b, order_ltD a (by decide)]
    rw [DINF_val] at a
    have hle : wid (mg x) ≤ 9218868437227405311 := by omega
    rcases Nat.lt_or_eq_of_le hle with h' | h'
    · rw [Nat.compare_eq_lt.2 h']; rfl
    · rw [Nat.compare_eq_eq.2 h']; rfl
  have hw : wid x < 18446744073709551616 := D.write_lt _
  have Hn := hid hn
  have Hi := hid hi
  have Hw := hid hw
  clear hn hi hw hr a b h hx
  go_enter Try.func112, Try.ntmps112
  go_wp2_with (first | (go_at_call 187; refine (isNaN_f64 (wid x) _).mono ?_; rintro e w' ⟨rfl, rfl⟩; rw [Hn.out]) | (go_at_call 188; refine (isInf_f64 (wid x) Hw.out _).mono ?_; rintro e w' ⟨rfl, rfl⟩; rw [Hi.out]))
  go_ret
  exact ⟨rfl, rfl⟩

theorem isFinite_f (x : Nat) (hx : x < 4294967296) (h : finB x = false) (w : World) :
    Calls Try.prog 112 #[.float .f32 x] w fun e w' => e = .returned (.bool false) ∧ Below w.heap.size w w' := by
  rw [finB_iff'] at h
  rcases Nat.lt_or_eq_of_le h with h | h
  · obtain ⟨z, hc, h1, _⟩ := run_conv_nan (P := Try.prog) w 22 26 x Try.underlying22 Try.underlying26 h
    obtain ⟨s, t, hr⟩ := read_nanD h1
    have Hn := hid (show (FloatKind.f64.format.order z z != some .eq) = true by
      show (D.order z z != some .eq) = true
      rw [order_nan hr]; rfl)
    clear h h1 hr hx
    go_enter Try.func112, Try.ntmps112
    go_wp2_with (go_at_call 187; refine (isNaN_f64 z _).mono ?_; rintro e w' ⟨rfl, rfl⟩; rw [Hn.out])
    go_ret
    exact ⟨rfl, (Below.refl _ _).drew⟩
  · obtain ⟨z, hc, h1, h2⟩ := run_conv_inf (P := Try.prog) w 22 26 x hx Try.underlying22 Try.underlying26 h.symm
    have hr : D.read z = .infinity (decide (9223372036854775808 ≤ z)) := by rw [read_signD h2, h1, read_DINF]
    have Hn := hid (show (FloatKind.f64.format.order z z != some .eq) = false by
      show (D.order z z != some .eq) = false
      rw [order_inf hr]; rfl)
    have Hi := hid (show (FloatKind.f64.format.order (z % 9223372036854775808) 9218868437227405311 == some .gt) = true by
      rw [h1]; decide)
    have H2 := hid h2
    clear h h1 hr hx h2
    go_enter Try.func112, Try.ntmps112
    go_wp2_with (first | (go_at_call 187; refine (isNaN_f64 z _).mono ?_; rintro e w' ⟨rfl, rfl⟩; rw [Hn.out]) | (go_at_call 188; refine (isInf_f64 z H2.out _).mono ?_; rintro e w' ⟨rfl, rfl⟩; rw [Hi.out]))
    go_ret
    exact ⟨rfl, Below.refl _ _⟩

theorem signbit_f64 (y : Nat) (w : World) :
    Calls Try.prog 184 #[.float .f64 y] w fun e w' => e = .returned (.bool (decide (wrap64 (y : Int) < 0))) ∧ w = w' := by
  go_enter Try.func184, Try.ntmps184
  go_wp2
  go_ret
  exact ⟨rfl, rfl⟩

theorem and_sign (y : Nat) (h : y < 18446744073709551616) : (decide (wrap64 (y : Int) < 0)) = decide (9223372036854775808 ≤ y) := by
  unfold wrap64
  by_cases h' : 9223372036854775808 ≤ y
  · rw [decide_eq_true h']; simp; omega
  · rw [decide_eq_false h']; simp; omega

theorem isAmount_t (x : Nat) (h : amtB x = true) (w : World) :
    Calls Try.prog 106 #[.float .f32 x] w fun e w' => e = .returned (.bool true) ∧ w = w' := by
  have hf := amt_fin h
  rw [amtB_iff, INF_val] at h
  have hx : x < 4294967296 := by omega
  have hc := fun w => run_conv_wid (P := Try.prog) w 22 26 x hx Try.underlying22 Try.underlying26 (finB_iff.1 hf)
  have hw : wid x < 18446744073709551616 := D.write_lt _
  have Hs := hid (show (decide (wrap64 (wid x : Int) < 0)) = false by
    rw [and_sign _ hw]
    have := (wid_val (x := x) (by rw [INF_val]; omega)).1
    rw [DINF_val] at this
    simp; omega)
  have Hx := hid hx
  have Hf := hid hf
  clear h hf hx hw
  go_enter Try.func106, Try.ntmps106
  go_wp2_with (first | (go_at_call 112; refine (isFinite_t x Hx.out Hf.out _).mono ?_; rintro e w' ⟨rfl, rfl⟩) | (go_at_call 184; refine (signbit_f64 (wid x) _).mono ?_; rintro e w' ⟨rfl, rfl⟩; rw [Hs.out]))
  go_ret
  exact ⟨rfl, rfl⟩

theorem isAmount_f (x : Nat) (hx : x < 4294967296) (h : amtB x = false) (w : World) :
    Calls Try.prog 106 #[.float .f32 x] w fun e w' => e = .returned (.bool false) ∧ Below w.heap.size w w' := by
  rcases hf : finB x with _ | _
  · have Hx := hid hx
    have Hf := hid hf
    clear h hf hx
    go_enter Try.func106, Try.ntmps106
    go_wp2_with (go_at_call 112; refine (isFinite_f x Hx.out Hf.out _).mono ?_; rintro e w' ⟨rfl, hb⟩)
    go_ret
    exact ⟨rfl, hb⟩
  · have hc := fun w => run_conv_wid (P := Try.prog) w 22 26 x hx Try.underlying22 Try.underlying26 (finB_iff.1 hf)
    have hw : wid x < 18446744073709551616 := D.write_lt _
    have Hs := hid (show (decide (wrap64 (wid x : Int) < 0)) = true by
      rw [and_sign _ hw, wid_fin hx (finB_iff.1 hf)]
      rw [amtB_iff', INF_val] at h
      rw [finB_iff, INF_val] at hf
      unfold mg at hf ⊢
      rw [if_pos (by omega)]
      simp)
    have Hx := hid hx
    have Hf := hid hf
    clear h hf hx hw
    go_enter Try.func106, Try.ntmps106
    go_wp2_with (first | (go_at_call 112; refine (isFinite_t x Hx.out Hf.out _).mono ?_; rintro e w' ⟨rfl, rfl⟩) | (go_at_call 184; refine (signbit_f64 (wid x) _).mono ?_; rintro e w' ⟨rfl, rfl⟩; rw [Hs.out]))
    go_ret
    exact ⟨rfl, Below.refl _ _⟩

theorem info_f32 : ∃ i, Try.prog.info? 22 = some i ∧ i.size = 1 := by
  have h : (Try.prog.info? 22).map (·.size) = some 1 := by kernel_rfl
  cases hi : Try.prog.info? 22 with
  | none => rw [hi] at h; cases h
  | some i => rw [hi] at h; exact ⟨i, rfl, Option.some.inj h⟩

theorem ix (T : TypeId) (hT : Try.prog.underlying T = some (.array 20 22)) (c : Nat → Nat) (k : Nat) (hk : k < 20) (w : World) :
    (Instr.index T (.agg (fls c)) (.int .i64 (k : Int))).run Try.prog w = .ok (.float .f32 (c k)) w := by
  obtain ⟨i, h1, h2⟩ := info_f32
  exact run_index_arr hT Try.underlying22 rfl h1 h2 _ _ hk _ (fls_get c hk) w

theorem info_arr : (Try.prog.info? 29).map (·.size) = some 20 := by kernel_rfl

set_option maxRecDepth 100000 in
theorem validSizes_t (c : Nat → Nat) (h : ∀ i, i < 20 → amtB (c i) = true) (w : World) :
    Calls Try.prog 111 #[.agg (fls c)] w fun e w' => e = .returned (.bool true) ∧ Below w.heap.size w w' := by
  have H := hid h
  clear h
  go_enter Try.func111, Try.ntmps111
  go_wp2_with (refine wpList_load_row rfl 29 _ rfl w.heap.size rfl 29 (fls c) (0, 0) _ (heap_alloc_new _ _) Try.underlying29 rfl (by rw [fls_size]; exact info_arr) ?_)
  go_loop [6] (fun i => ∃ k : Nat, k ≤ 20 ∧ i = .int .i64 k) (fun i => 20 - (intOf i).toNat)
  case atStart => exact ⟨0, by omega, rfl⟩
  case round =>
    obtain ⟨k, hk, rfl⟩ := hrel
    by_cases hlt : k < 20
    · have hix := ix 29 Try.underlying29 c k hlt
      go_wp2_with (go_at_call 106; refine (isAmount_t (c k) (H.out k hlt) _).mono ?_; rintro e w' ⟨rfl, rfl⟩)
      go_round
      case rel => exact ⟨k + 1, by omega, by go_num⟩
      case measure => simp [intOf]; omega
    · go_wp2
      go_ret
      exact ⟨rfl, (Below.refl _ _).alloc (Nat.le_refl _) _⟩

@[go_sem] theorem ext_f32bits (y : Nat) (w : World) : (callFunc 183 #[.float .f32 y]).run Try.prog w = .ok (.value (.int .u32 y)) w := by
  rw [run_callFunc_extern Try.func183 (by kernel_rfl) (by kernel_rfl) (by kernel_rfl) (e := Extern.MathFloatBits.float32bits) (by kernel_rfl)]
  rfl

theorem sFinite_t (x : Nat) (hx : x < 4294967296) (h : finB x = true) (w : World) :
    Calls Try.prog 109 #[.float .f32 x] w fun e w' => e = .returned (.bool true) ∧ w = w' := by
  have hr := fun w => run_float_arith (P := Try.prog) w .sub 22 .f32 x x 0 (sub_self_fin hx h)
  clear h hx
  go_enter Try.func109, Try.ntmps109
  go_wp2
  go_ret
  exact ⟨rfl, rfl⟩

theorem sFinite_f (x : Nat) (hx : x < 4294967296) (h : finB x = false) (w : World) :
    Calls Try.prog 109 #[.float .f32 x] w fun e w' => e = .returned (.bool false) ∧ Below w.heap.size w w' := by
  obtain ⟨z, hr, h1, _⟩ := run_arith_nan (P := Try.prog) w .sub (by simp) 22 x x (sub_self_none hx h)
  have Hn := hid (show (FloatKind.f32.format.order z 0 == some .eq) = false by
    show (S.order z 0 == some .eq) = false
    rw [order_nan32 h1]; rfl)
  clear h hx h1
  go_enter Try.func109, Try.ntmps109
  go_wp2
  go_ret
  exact ⟨by simp [Hn.out], (Below.refl _ _).drew⟩

theorem sAmount_t (x : Nat) (h : amtB x = true) (w : World) :
    Calls Try.prog 104 #[.float .f32 x] w fun e w' => e = .returned (.bool true) ∧ w = w' := by
  have hf := amt_fin h
  have h' := amtB_iff.1 h
  have hx : x < 4294967296 := by rw [INF_val] at h'; omega
  have Hx := hid hx
  have Hf := hid hf
  by_cases h0 : x = 0
  · subst h0
    clear h hf h' hx
    go_enter Try.func104, Try.ntmps104
    go_wp2_with (go_at_call 109; refine (sFinite_t 0 Hx.out Hf.out _).mono ?_; rintro e w' ⟨rfl, rfl⟩)
    go_ret
    exact ⟨rfl, rfl⟩
  · have hg : (FloatKind.f32.format.order x 0 == some .gt) = true := by
      show (S.order x 0 == some .gt) = true
      rw [order_zero_pos h', Nat.compare_eq_gt.2 (by omega)]; rfl
    clear h hf h' hx h0
    go_enter Try.func104, Try.ntmps104
    go_wp2_with (go_at_call 109; refine (sFinite_t x Hx.out Hf.out _).mono ?_; rintro e w' ⟨rfl, rfl⟩)
    go_ret
    exact ⟨rfl, rfl⟩

theorem sAmount_f (x : Nat) (hx : x < 4294967296) (h : amtB x = false) (w : World) :
    Calls Try.prog 104 #[.float .f32 x] w fun e w' => e = .returned (.bool false) ∧ Below w.heap.size w w' := by
  rcases hf : finB x with _ | _
  · have Hx := hid hx
    have Hf := hid hf
    clear h hf hx
    go_enter Try.func104, Try.ntmps104
    go_wp2_with (go_at_call 109; refine (sFinite_f x Hx.out Hf.out _).mono ?_; rintro e w' ⟨rfl, hb⟩)
    go_ret
    exact ⟨rfl, hb⟩
  · have hs : 2147483648 ≤ x := by
      rw [amtB_iff', INF_val] at h
      have := finB_iff.1 hf
      rw [INF_val] at this
      unfold mg at this
      omega
    have hg : (FloatKind.f32.format.order x 0 == some .gt) = false := order_neg_zero hx hf hs
    have hb : ((x : Int) == 0) = false := by simp; omega
    have Hx := hid hx
    have Hf := hid hf
    clear h hf hx hs
    go_enter Try.func104, Try.ntmps104
    go_wp2_with (go_at_call 109; refine (sFinite_t x Hx.out Hf.out _).mono ?_; rintro e w' ⟨rfl, rfl⟩)
    go_ret
    exact ⟨rfl, Below.refl _ _⟩

set_option maxRecDepth 100000 in
theorem validSizes_f (c : Nat → Nat) (hb : ∀ i, i < 20 → c i < 4294967296) (h : ¬ ∀ i, i < 20 → amtB (c i) = true) (w : World) :
    Calls Try.prog 111 #[.agg (fls c)] w fun e w' => e = .returned (.bool false) ∧ Below w.heap.size w w' := by
  have H := hid h
  have HB := hid hb
  clear h hb
  go_enter Try.func111, Try.ntmps111
  go_wp2_with (refine wpList_load_row rfl 29 _ rfl w.heap.size rfl 29 (fls c) (0, 0) _ (heap_alloc_new _ _) Try.underlying29 rfl (by rw [fls_size]; exact info_arr) ?_)
  go_loop [6] (fun i => ∃ k : Nat, k ≤ 20 ∧ Hid (∀ i, i < k → amtB (c i) = true) ∧ i = .int .i64 k) (fun i => 20 - (intOf i).toNat)
  case atStart => exact ⟨0, by omega, hid (fun i hi => by omega), rfl⟩
  case round =>
    obtain ⟨k, hk, HK, rfl⟩ := hrel
    by_cases hlt : k < 20
    · have hix := ix 29 Try.underlying29 c k hlt
      rcases hac : amtB (c k) with _ | _
      · have HA := hid hac
        clear hac
        go_wp2_with (go_at_call 106; refine (isAmount_f (c k) (HB.out k hlt) HA.out _).mono ?_; rintro e w' ⟨rfl, hb⟩)
        go_ret
        exact ⟨rfl, (((Below.refl _ _).alloc (Nat.le_refl _) _).trans (hb.mono (by simp)))⟩
      · have HA := hid hac
        clear hac
        go_wp2_with (go_at_call 106; refine (isAmount_t (c k) HA.out _).mono ?_; rintro e w' ⟨rfl, rfl⟩)
        go_round
        case rel =>
          refine ⟨k + 1, by omega, hid (fun i hi => ?_), by go_num⟩
          by_cases e : i = k
          · subst e; exact HA.out
          · exact HK.out i (by omega)
        case measure => simp [intOf]; omega
    · have hk20 : k = 20 := by omega
      exact (H.out (fun i hi => HK.out i (by omega))).elim

set_option maxRecDepth 100000 in
theorem sOk_t (c : Nat → Nat) (h : ∀ i, i < 20 → amtB (c i) = true) (w : World) (g : Nat) (T : TypeId) (hg : w.heap[g]? = some (.cells (fls c) T (0, 0))) :
    Calls Try.prog 108 #[.pointer (some ⟨g, 0, none⟩)] w fun e w' => e = .returned (.bool true) ∧ w = w' := by
  have H := hid h
  have HG := hid hg
  clear h hg
  go_enter Try.func108, Try.ntmps108
  go_wp2
  go_loop [3] (fun i => ∃ k : Nat, k ≤ 20 ∧ i = .int .i64 k) (fun i => 20 - (intOf i).toNat)
  case atStart => exact ⟨0, by omega, rfl⟩
  case round =>
    obtain ⟨k, hk, rfl⟩ := hrel
    by_cases hlt : k < 20
    · have hcell : w.cell? ⟨g, k, none⟩ = some (.float .f32 (c k)) := by rw [cell_of_row w g k _ _ _ HG.out, fls_get c hlt]
      go_wp2_with (go_at_call 104; refine (sAmount_t (c k) (H.out k hlt) _).mono ?_; rintro e w' ⟨rfl, rfl⟩)
      go_round
      case rel => exact ⟨k + 1, by omega, by go_num⟩
      case measure => simp [intOf]; omega
    · go_wp2
      go_ret
      exact ⟨rfl, rfl⟩

set_option maxRecDepth 100000 in
theorem sOk_f (c : Nat → Nat) (hb : ∀ i, i < 20 → c i < 4294967296) (h : ¬ ∀ i, i < 20 → amtB (c i) = true) (w : World) (g : Nat) (T : TypeId) (hg : w.heap[g]? = some (.cells (fls c) T (0, 0))) :
    Calls Try.prog 108 #[.pointer (some ⟨g, 0, none⟩)] w fun e w' => e = .returned (.bool false) ∧ Below w.heap.size w w' := by
  have H := hid h
  have HB := hid hb
  have HG := hid hg
  clear h hb hg
  go_enter Try.func108, Try.ntmps108
  go_wp2
  go_loop [3] (fun i => ∃ k : Nat, k ≤ 20 ∧ Hid (∀ i, i < k → amtB (c i) = true) ∧ i = .int .i64 k) (fun i => 20 - (intOf i).toNat)
  case atStart => exact ⟨0, by omega, hid (fun i hi => by omega), rfl⟩
  case round =>
    obtain ⟨k, hk, HK, rfl⟩ := hrel
    by_cases hlt : k < 20
    · have hcell : w.cell? ⟨g, k, none⟩ = some (.float .f32 (c k)) := by rw [cell_of_row w g k _ _ _ HG.out, fls_get c hlt]
      rcases hac : amtB (c k) with _ | _
      · have HA := hid hac
        clear hac
        go_wp2_with (go_at_call 104; refine (sAmount_f (c k) (HB.out k hlt) HA.out _).mono ?_; rintro e w' ⟨rfl, hb⟩)
        go_ret
        exact ⟨rfl, hb⟩
      · have HA := hid hac
        clear hac
        go_wp2_with (go_at_call 104; refine (sAmount_t (c k) HA.out _).mono ?_; rintro e w' ⟨rfl, rfl⟩)
        go_round
        case rel =>
          refine ⟨k + 1, by omega, hid (fun i hi => ?_), by go_num⟩
          by_cases e : i = k
          · subst e; exact HA.out
          · exact HK.out i (by omega)
        case measure => simp [intOf]; omega
    · have hk20 : k = 20 := by omega
      exact (H.out (fun i hi => HK.out i (by omega))).elim

theorem info_a20 : (Try.prog.info? 28).map (·.size) = some 20 := by kernel_rfl

set_option maxRecDepth 100000 in
theorem toSizes (c : Nat → Nat) (w : World) :
    Calls Try.prog 35 #[.agg (fls c)] w fun e w' => e = .returned (.agg (fls c)) ∧ Below w.heap.size w w' := by
  have b0 : Below w.heap.size w (w.alloc (.cells (fls c) 28)) := (Below.refl _ _).alloc (Nat.le_refl _) _
  have a0 := hid (arrAt.new w c 28)
  go_enter Try.func35, Try.ntmps35
  go_wp2
  go_loopw [4] (fun i wr => ∃ k : Nat, k ≤ 20 ∧ i = .int .i64 k ∧ Hid (arrAt wr w.heap.size c 28) ∧ Hid (arrAt wr (w.heap.size + 1) (fun _ => 0) 29) ∧ Hid (arrAt wr (w.heap.size + 1 + 1) (cut c k) 29) ∧ Hid (Below w.heap.size w wr)) (fun i _ => 20 - (intOf i).toNat)
  case atStart =>
    refine ⟨0, by omega, rfl, hid ((a0.out.alloc _).alloc _), hid ?_, hid ?_, hid ((b0.alloc (by simp) _).alloc (by simp; omega) _)⟩
    · have := arrAt.new (w.alloc (.cells (fls c) 28)) (fun _ => 0) 29
      have e : (w.alloc (.cells (fls c) 28)).heap.size = w.heap.size + 1 := by simp
      rw [e] at this
      exact this.alloc _
    · have := arrAt.new ((w.alloc (.cells (fls c) 28)).alloc (.cells (fls fun _ => 0) 29)) (fun _ => 0) 29
      have e : ((w.alloc (.cells (fls c) 28)).alloc (.cells (fls fun _ => 0) 29)).heap.size = w.heap.size + 1 + 1 := by simp
      rw [e] at this
      exact this.ext (fun i _ => (cut_zero' c i).symm)
  case round =>
    obtain ⟨k, hk, rfl, h0, h1, h2, hb⟩ := hrel
    by_cases hlt : k < 20
    · have q0 := h0.out.cell hlt
      have q2 := h2.out.cell hlt
      have f2 := h2.out.frozen k
      go_wp2
      go_roundw
      case rel => exact ⟨k + 1, by omega, by go_num, hid (h0.out.setOther (by simp; omega) _), hid (h1.out.setOther (by simp) _), hid ((h2.out.set k (c k)).ext (fun i _ => cut_succ c k i)), hid (hb.out.setCell (by simp; omega) _)⟩
      case measure => simp [intOf]; omega
    · obtain rfl : k = 20 := by omega
      have h2' := hid (h2.out.ext (cut_all c))
      clear h2
      go_wp2_with (first | (refine wpList_load_row rfl 29 _ rfl (w.heap.size + 1 + 1) rfl 29 (fls c) (0, 0) _ h2'.out Try.underlying29 rfl (by rw [fls_size]; exact info_arr) ?_) | (refine wpList_store_row rfl 29 _ _ rfl (w.heap.size + 1) (fls c) rfl rfl 29 _ h1.out (by rw [fls_size]; exact info_arr) (by simp) (fls_one c) ?_))
      exact bodyPost_ret (results_cell_row rfl _ _ (w.heap.size + 1) 29 (fls c) (0, 0) _ rfl (h1.out.setRow c) Try.underlying29 rfl (by rw [fls_size]; exact info_arr)) rfl ⟨rfl, below_row hb.out (by omega) _⟩

theorem div_one_some {y m : Nat} {s : Bool} {e : Int} (h : D.read y = .number s m e) : ∃ q, floatBits .quo .f64 4607182418800017408 y = some q := by
  have h1 : D.read 4607182418800017408 = .number false 4503599627370496 (-52) := by decide
  show ∃ q, D.div 4607182418800017408 y = some q
  unfold Ieee.Format.div
  rw [h, h1]
  simp only [Ieee.Datum.quotient]
  by_cases hm : m = 0
  · rw [if_pos hm]; exact ⟨_, rfl⟩
  · rw [if_neg hm]; exact ⟨_, rfl⟩

set_option maxRecDepth 100000 in
theorem sameFloat (x : Nat) (hx : x < 4294967296) (h : finB x = true) (w : World) :
    Calls Try.prog 33 #[.float .f64 (wid x), .float .f64 (wid x)] w fun e w' => e = .returned (.bool true) ∧ w = w' := by
  obtain ⟨a, b, m, e, hr⟩ := read_wid_fin hx (finB_iff.1 h)
  have hn : (FloatKind.f64.format.order (wid x) (wid x) != some .eq) = false := by
    show (D.order (wid x) (wid x) != some .eq) = false
    rw [order_self hr]; rfl
  have hq : (FloatKind.f64.format.order (wid x) (wid x) == some .eq) = true := by
    show (D.order (wid x) (wid x) == some .eq) = true
    rw [order_self hr]; rfl
  obtain ⟨q, hd⟩ := div_one_some hr
  have hdiv := fun w => run_float_arith (P := Try.prog) w .quo 26 .f64 4607182418800017408 (wid x) q hd
  clear hd hr a b h hx
  rcases hz : (FloatKind.f64.format.order (wid x) 0 == some .eq) with _ | _
  · go_enter Try.func33, Try.ntmps33
    go_wp2
    go_ret
    exact ⟨by simp, rfl⟩
  · go_enter Try.func33, Try.ntmps33
    go_wp2
    go_ret
    exact ⟨by simp, rfl⟩

theorem back {P : Program} {f : FuncId} {args : Array Value} {w : World} {v : Value} (h : Calls P f args w fun e w' => e = .returned v ∧ w = w') : Calls P f args w fun e w' => e = .returned v ∧ w' = w :=
  h.mono fun _ _ ⟨a, b⟩ => ⟨a, b.symm⟩

set_option maxRecDepth 100000 in
theorem eqSizes (c : Nat → Nat) (hb : ∀ i, i < 20 → c i < 4294967296) (h : ∀ i, i < 20 → finB (c i) = true) (w : World) :
    Calls Try.prog 38 #[.agg (fls c), .agg (fls c)] w fun e w' => e = .returned (.bool true) ∧ Below w.heap.size w w' := by
  have b0 : Below w.heap.size w (w.alloc (.cells (fls c) 29)) := (Below.refl _ _).alloc (Nat.le_refl _) _
  have a0 := hid (arrAt.new w c 29)
  have H := hid h
  have HB := hid hb
  clear h hb
  go_enter Try.func38, Try.ntmps38
  go_wp2
  go_loopw [5] (fun i wr => ∃ k : Nat, k ≤ 20 ∧ i = .int .i64 k ∧ Hid (arrAt wr w.heap.size c 29) ∧ Hid (arrAt wr (w.heap.size + 1) c 29) ∧ Hid (Below w.heap.size w wr)) (fun i _ => 20 - (intOf i).toNat)
  case atStart =>
    refine ⟨0, by omega, rfl, hid (a0.out.alloc _), hid ?_, hid (b0.alloc (by simp) _)⟩
    have := arrAt.new (w.alloc (.cells (fls c) 29)) c 29
    have e : (w.alloc (.cells (fls c) 29)).heap.size = w.heap.size + 1 := by simp
    rw [e] at this
    exact this
  case round =>
    obtain ⟨k, hk, rfl, h0, h1, hb⟩ := hrel
    by_cases hlt : k < 20
    · have q0 := h0.out.cell hlt
      have q1 := h1.out.cell hlt
      have hc := fun w => run_conv_wid (P := Try.prog) w 22 26 (c k) (HB.out k hlt) Try.underlying22 Try.underlying26 (finB_iff.1 (H.out k hlt))
      go_wp2
      go_quiet ((go_at_call 33; exact Calls.quiet_of_same (back (sameFloat (c k) (HB.out k hlt) (H.out k hlt) _))))
      go_wp2
      go_roundw
      case rel => exact ⟨k + 1, by omega, by go_num, h0, h1, hid (below_drewN hb.out _)⟩
      case measure => simp [intOf]; omega
    · go_wp2
      go_ret
      exact ⟨rfl, hb.out⟩

def Amts (c : Nat → Nat) : Prop := ∀ i, i < 20 → amtB (c i) = true

def Share (x : Nat) : Prop := x ≤ 1065353216

theorem share_amt {x : Nat} (h : Share x) : amtB x = true := by unfold Share at h; rw [amtB_iff, INF_val]; omega

theorem isClass_t (k : Nat) (hk : k < 20) (w : World) :
    Calls Try.prog 172 #[.int .i64 (k : Int)] w fun e w' => e = .returned (.bool true) ∧ w = w' := by
  have h1 : decide ((0 : Int) ≤ (k : Int)) = true := by simp
  go_enter Try.func172, Try.ntmps172
  go_wp2
  go_ret
  exact ⟨by first | rfl | (simp; done) | (simp; omega), rfl⟩

theorem isClass_f (n : Int) (hn : ¬ (0 ≤ n ∧ n < 20)) (w : World) :
    Calls Try.prog 172 #[.int .i64 n] w fun e w' => e = .returned (.bool false) ∧ w = w' := by
  by_cases h0 : 0 ≤ n
  · have h2 : ¬ n < 20 := by omega
    have h3 : 20 ≤ n := by omega
    clear hn h2
    go_enter Try.func172, Try.ntmps172
    go_wp2
    go_ret
    exact ⟨by first | rfl | (simp; done) | (simp; omega), rfl⟩
  · have h3 : n < 0 := by omega
    have h4 : decide (0 ≤ n) = false := by simp; omega
    clear hn h0
    go_enter Try.func172, Try.ntmps172
    go_wp2
    go_ret
    exact ⟨by simp, rfl⟩

theorem l00In_t (n a b : Int) (h1 : a ≤ n) (h2 : n ≤ b) (w : World) :
    Calls Try.prog 121 #[.int .i64 n, .int .i64 a, .int .i64 b] w fun e w' => e = .returned (.bool true) ∧ w = w' := by
  go_enter Try.func121, Try.ntmps121
  go_wp2
  go_ret
  exact ⟨by first | rfl | (simp; done) | (simp; omega), rfl⟩

theorem l00In_f (n a b : Int) (hn : ¬ (a ≤ n ∧ n ≤ b)) (w : World) :
    Calls Try.prog 121 #[.int .i64 n, .int .i64 a, .int .i64 b] w fun e w' => e = .returned (.bool false) ∧ w = w' := by
  by_cases h0 : a ≤ n
  · have h3 : b < n := by omega
    clear hn
    go_enter Try.func121, Try.ntmps121
    go_wp2
    go_ret
    exact ⟨by first | rfl | (simp; done) | (simp; omega), rfl⟩
  · have h3 : n < a := by omega
    have h4 : decide (a ≤ n) = false := by simp; omega
    clear hn h0
    go_enter Try.func121, Try.ntmps121
    go_wp2
    go_ret
    exact ⟨by simp, rfl⟩

theorem leq_one_t {x : Nat} (h : Share x) : (FloatKind.f32.format.order x 1065353216 == some .lt || FloatKind.f32.format.order x 1065353216 == some .eq) = true := by
  show (S.order x 1065353216 == some .lt || S.order x 1065353216 == some .eq) = true
  rw [order_lt (amtB_iff.1 (share_amt h)) (by decide)]
  unfold Share at h
  rcases Nat.lt_or_eq_of_le h with h | h
  · rw [Nat.compare_eq_lt.2 h]; rfl
  · rw [Nat.compare_eq_eq.2 h]; rfl

theorem leq_one_f {x : Nat} (ha : amtB x = true) (h : ¬ Share x) : (FloatKind.f32.format.order x 1065353216 == some .lt || FloatKind.f32.format.order x 1065353216 == some .eq) = false := by
  show (S.order x 1065353216 == some .lt || S.order x 1065353216 == some .eq) = false
  rw [order_lt (amtB_iff.1 ha) (by decide)]
  unfold Share at h
  rw [Nat.compare_eq_gt.2 (by omega)]; rfl

theorem iShare_t (x : Nat) (h : Share x) (w : World) :
    Calls Try.prog 208 #[.float .f32 x] w fun e w' => e = .returned (.bool true) ∧ w = w' := by
  have ho := leq_one_t h
  have Ha := hid (share_amt h)
  clear h
  go_enter Try.func208, Try.ntmps208
  go_wp2_with fail
  refine (isAmount_t x Ha.out _).mono ?_
  rintro e w1 ⟨rfl, rfl⟩
  go_wp2
  go_ret
  exact ⟨by first | rfl | (simp; done), rfl⟩

theorem iShare_f (x : Nat) (hx : x < 4294967296) (h : ¬ Share x) (w : World) :
    Calls Try.prog 208 #[.float .f32 x] w fun e w' => e = .returned (.bool false) ∧ Below w.heap.size w w' := by
  rcases ha : amtB x with _ | _
  · have Ha := hid ha
    have Hx := hid hx
    clear h ha hx
    go_enter Try.func208, Try.ntmps208
    go_wp2_with fail
    refine (isAmount_f x Hx.out Ha.out _).mono ?_
    rintro e w1 ⟨rfl, hb⟩
    go_wp2
    go_ret
    exact ⟨rfl, hb⟩
  · have ho := leq_one_f ha h
    have Ha := hid ha
    clear h ha hx
    go_enter Try.func208, Try.ntmps208
    go_wp2_with fail
    refine (isAmount_t x Ha.out _).mono ?_
    rintro e w1 ⟨rfl, rfl⟩
    go_wp2
    go_ret
    exact ⟨by first | rfl | (simp; done), Below.refl _ _⟩

theorem sShare_t (x : Nat) (h : Share x) (w : World) :
    Calls Try.prog 207 #[.float .f32 x] w fun e w' => e = .returned (.bool true) ∧ w = w' := by
  have ho := leq_one_t h
  have Ha := hid (share_amt h)
  clear h
  go_enter Try.func207, Try.ntmps207
  go_wp2_with fail
  refine (sAmount_t x Ha.out _).mono ?_
  rintro e w1 ⟨rfl, rfl⟩
  go_wp2
  go_ret
  exact ⟨by first | rfl | (simp; done), rfl⟩

theorem sShare_f (x : Nat) (hx : x < 4294967296) (h : ¬ Share x) (w : World) :
    Calls Try.prog 207 #[.float .f32 x] w fun e w' => e = .returned (.bool false) ∧ Below w.heap.size w w' := by
  rcases ha : amtB x with _ | _
  · have Ha := hid ha
    have Hx := hid hx
    clear h ha hx
    go_enter Try.func207, Try.ntmps207
    go_wp2_with fail
    refine (sAmount_f x Hx.out Ha.out _).mono ?_
    rintro e w1 ⟨rfl, hb⟩
    go_wp2
    go_ret
    exact ⟨rfl, hb⟩
  · have ho := leq_one_f ha h
    have Ha := hid ha
    clear h ha hx
    go_enter Try.func207, Try.ntmps207
    go_wp2_with fail
    refine (sAmount_t x Ha.out _).mono ?_
    rintro e w1 ⟨rfl, rfl⟩
    go_wp2
    go_ret
    exact ⟨by first | rfl | (simp; done), Below.refl _ _⟩

def Fins (c : Nat → Nat) : Prop := ∀ i, i < 20 → finB (c i) = true

set_option maxRecDepth 100000 in
theorem iFinite_t (c : Nat → Nat) (hb : ∀ i, i < 20 → c i < 4294967296) (h : Fins c) (w : World) :
    Calls Try.prog 166 #[.agg (fls c)] w fun e w' => e = .returned (.tuple #[.agg (fls c), .int .i64 0]) ∧ Below w.heap.size w w' := by
  have A0 := hid ((arrAt.new w c 29).alloc (.cells (fls fun _ => 0) 29))
  have A1 := hid (new1 w (.cells (fls c) 29) (fun _ => 0) 29)
  have b0 := boxed2 w (.cells (fls c) 29) (.cells (fls fun _ => 0) 29)
  have HB := hid hb
  have H := hid h
  clear h hb
  go_enter Try.func166, Try.ntmps166
  go_wp2_with (refine wpList_load_row rfl 29 _ rfl (w.heap.size) rfl 29 (fls c) (0, 0) _ A0.out Try.underlying29 rfl (by rw [fls_size]; exact info_arr) ?_)
  go_loop [7] (fun i => ∃ k : Nat, k ≤ 20 ∧ i = .int .i64 k) (fun i => 20 - (intOf i).toNat)
  case atStart => exact ⟨0, by omega, rfl⟩
  case round =>
    obtain ⟨k, hk, rfl⟩ := hrel
    by_cases hlt : k < 20
    · have hix := ix 29 Try.underlying29 c k hlt
      go_wp2_with (go_at_call 112; refine (isFinite_t (c k) (HB.out k hlt) (H.out k hlt) _).mono ?_; rintro e w' ⟨rfl, rfl⟩)
      go_round
      case rel => exact ⟨k + 1, by omega, by go_num⟩
      case measure => simp [intOf]; omega
    · go_wp2_with (first | (refine wpList_load_row rfl 29 _ rfl (w.heap.size) rfl 29 (fls c) (0, 0) _ A0.out Try.underlying29 rfl (by rw [fls_size]; exact info_arr) ?_) | (refine wpList_store_row rfl 29 _ _ rfl (w.heap.size + 1) (fls c) rfl rfl 29 _ A1.out (by rw [fls_size]; exact info_arr) (by simp) (fls_one c) ?_))
      exact bodyPost_ret (results_row_tmp rfl _ _ (w.heap.size + 1) 29 (fls c) (0, 0) _ rfl (A1.out.setRow c) Try.underlying29 rfl (by rw [fls_size]; exact info_arr)) rfl ⟨rfl, below_row b0 (by simp) _⟩

set_option maxRecDepth 100000 in
theorem iFinite_f (c : Nat → Nat) (hb : ∀ i, i < 20 → c i < 4294967296) (h : ¬ Fins c) (w : World) :
    Calls Try.prog 166 #[.agg (fls c)] w fun e w' => e = .returned (.tuple #[.agg (fls fun _ => 0), .int .i64 4]) ∧ Below w.heap.size w w' := by
  have A0 := hid ((arrAt.new w c 29).alloc (.cells (fls fun _ => 0) 29))
  have A1 := hid (new1 w (.cells (fls c) 29) (fun _ => 0) 29)
  have b0 := boxed2 w (.cells (fls c) 29) (.cells (fls fun _ => 0) 29)
  have HB := hid hb
  have H := hid h
  clear h hb
  go_enter Try.func166, Try.ntmps166
  go_wp2_with (refine wpList_load_row rfl 29 _ rfl (w.heap.size) rfl 29 (fls c) (0, 0) _ A0.out Try.underlying29 rfl (by rw [fls_size]; exact info_arr) ?_)
  go_loop [7] (fun i => ∃ k : Nat, k ≤ 20 ∧ Hid (∀ i, i < k → finB (c i) = true) ∧ i = .int .i64 k) (fun i => 20 - (intOf i).toNat)
  case atStart => exact ⟨0, by omega, hid (fun i hi => by omega), rfl⟩
  case round =>
    obtain ⟨k, hk, HK, rfl⟩ := hrel
    by_cases hlt : k < 20
    · have hix := ix 29 Try.underlying29 c k hlt
      rcases hac : finB (c k) with _ | _
      · have HA := hid hac
        clear hac
        go_wp2_with (fail)
        refine (isFinite_f (c k) (HB.out k hlt) HA.out _).mono ?_
        rintro e w1 ⟨rfl, hb1⟩
        have A2 := hid (A1.out.stay hb1)
        have b1 := stp b0 (Nat.le_refl _) hb1
        go_wp2_with (refine wpList_store_row rfl 29 _ _ rfl (w.heap.size + 1) (fls (fun _ => 0)) rfl rfl 29 _ A2.out (by rw [fls_size]; exact info_arr) (by simp) (fls_one (fun _ => 0)) ?_)
        exact bodyPost_ret (results_row_tmp rfl _ _ (w.heap.size + 1) 29 (fls (fun _ => 0)) (0, 0) _ rfl (A2.out.setRow (fun _ => 0)) Try.underlying29 rfl (by rw [fls_size]; exact info_arr)) rfl ⟨rfl, below_row b1 (by simp) _⟩
      · have HA := hid hac
        clear hac
        go_wp2_with (go_at_call 112; refine (isFinite_t (c k) (HB.out k hlt) HA.out _).mono ?_; rintro e w' ⟨rfl, rfl⟩)
        go_round
        case rel =>
          refine ⟨k + 1, by omega, hid (fun i hi => ?_), by go_num⟩
          by_cases e : i = k
          · subst e; exact HA.out
          · exact HK.out i (by omega)
        case measure => simp [intOf]; omega
    · have hk20 : k = 20 := by omega
      exact (H.out (fun i hi => HK.out i (by omega))).elim

set_option maxRecDepth 100000 in
theorem sMade_t (c : Nat → Nat) (hb : ∀ i, i < 20 → c i < 4294967296) (h : Fins c) (w : World) :
    Calls Try.prog 162 #[.agg (fls c)] w fun e w' => e = .returned (.tuple #[.agg (fls c), .int .i64 0]) ∧ Below w.heap.size w w' := by
  have A0 := hid ((arrAt.new w c 29).alloc (.cells (fls fun _ => 0) 29))
  have A1 := hid (new1 w (.cells (fls c) 29) (fun _ => 0) 29)
  have b0 := boxed2 w (.cells (fls c) 29) (.cells (fls fun _ => 0) 29)
  have HB := hid hb
  have H := hid h
  clear h hb
  go_enter Try.func162, Try.ntmps162
  go_wp2
  go_loop [4] (fun i => ∃ k : Nat, k ≤ 20 ∧ i = .int .i64 k) (fun i => 20 - (intOf i).toNat)
  case atStart => exact ⟨0, by omega, rfl⟩
  case round =>
    obtain ⟨k, hk, rfl⟩ := hrel
    by_cases hlt : k < 20
    · have hix := A0.out.cell hlt
      go_wp2_with (go_at_call 109; refine (sFinite_t (c k) (HB.out k hlt) (H.out k hlt) _).mono ?_; rintro e w' ⟨rfl, rfl⟩)
      go_round
      case rel => exact ⟨k + 1, by omega, by go_num⟩
      case measure => simp [intOf]; omega
    · go_wp2_with (first | (refine wpList_load_row rfl 29 _ rfl (w.heap.size) rfl 29 (fls c) (0, 0) _ A0.out Try.underlying29 rfl (by rw [fls_size]; exact info_arr) ?_) | (refine wpList_store_row rfl 29 _ _ rfl (w.heap.size + 1) (fls c) rfl rfl 29 _ A1.out (by rw [fls_size]; exact info_arr) (by simp) (fls_one c) ?_))
      exact bodyPost_ret (results_row_tmp rfl _ _ (w.heap.size + 1) 29 (fls c) (0, 0) _ rfl (A1.out.setRow c) Try.underlying29 rfl (by rw [fls_size]; exact info_arr)) rfl ⟨rfl, below_row b0 (by simp) _⟩

set_option maxRecDepth 100000 in
theorem sMade_f (c : Nat → Nat) (hb : ∀ i, i < 20 → c i < 4294967296) (h : ¬ Fins c) (w : World) :
    Calls Try.prog 162 #[.agg (fls c)] w fun e w' => e = .returned (.tuple #[.agg (fls fun _ => 0), .int .i64 4]) ∧ Below w.heap.size w w' := by
  have A0 := hid ((arrAt.new w c 29).alloc (.cells (fls fun _ => 0) 29))
  have A1 := hid (new1 w (.cells (fls c) 29) (fun _ => 0) 29)
  have b0 := boxed2 w (.cells (fls c) 29) (.cells (fls fun _ => 0) 29)
  have HB := hid hb
  have H := hid h
  clear h hb
  go_enter Try.func162, Try.ntmps162
  go_wp2
  go_loop [4] (fun i => ∃ k : Nat, k ≤ 20 ∧ Hid (∀ i, i < k → finB (c i) = true) ∧ i = .int .i64 k) (fun i => 20 - (intOf i).toNat)
  case atStart => exact ⟨0, by omega, hid (fun i hi => by omega), rfl⟩
  case round =>
    obtain ⟨k, hk, HK, rfl⟩ := hrel
    by_cases hlt : k < 20
    · have hix := A0.out.cell hlt
      rcases hac : finB (c k) with _ | _
      · have HA := hid hac
        clear hac
        go_wp2_with (fail)
        refine (sFinite_f (c k) (HB.out k hlt) HA.out _).mono ?_
        rintro e w1 ⟨rfl, hb1⟩
        have A2 := hid (A1.out.stay hb1)
        have b1 := stp b0 (Nat.le_refl _) hb1
        go_wp2_with (refine wpList_store_row rfl 29 _ _ rfl (w.heap.size + 1) (fls (fun _ => 0)) rfl rfl 29 _ A2.out (by rw [fls_size]; exact info_arr) (by simp) (fls_one (fun _ => 0)) ?_)
        exact bodyPost_ret (results_row_tmp rfl _ _ (w.heap.size + 1) 29 (fls (fun _ => 0)) (0, 0) _ rfl (A2.out.setRow (fun _ => 0)) Try.underlying29 rfl (by rw [fls_size]; exact info_arr)) rfl ⟨rfl, below_row b1 (by simp) _⟩
      · have HA := hid hac
        clear hac
        go_wp2_with (go_at_call 109; refine (sFinite_t (c k) (HB.out k hlt) HA.out _).mono ?_; rintro e w' ⟨rfl, rfl⟩)
        go_round
        case rel =>
          refine ⟨k + 1, by omega, hid (fun i hi => ?_), by go_num⟩
          by_cases e : i = k
          · subst e; exact HA.out
          · exact HK.out i (by omega)
        case measure => simp [intOf]; omega
    · have hk20 : k = 20 := by omega
      exact (H.out (fun i hi => HK.out i (by omega))).elim

/-- Sizes that would be returned, by either program, are told alike. -/
theorem iFinite (c : Nat → Nat) (hb : ∀ i, i < 20 → c i < 4294967296) (d : Nat → Nat) (n : Int) (h1 : Fins c → d = c ∧ n = 0) (h2 : ¬ Fins c → d = (fun _ => 0) ∧ n = 4) (w : World) :
    Calls Try.prog 166 #[.agg (fls c)] w fun e w' => e = .returned (.tuple #[.agg (fls d), .int .i64 n]) ∧ Below w.heap.size w w' := by
  by_cases h : Fins c
  · obtain ⟨rfl, rfl⟩ := h1 h; exact iFinite_t _ hb h w
  · obtain ⟨rfl, rfl⟩ := h2 h; exact iFinite_f _ hb h w

theorem sMade (c : Nat → Nat) (hb : ∀ i, i < 20 → c i < 4294967296) (d : Nat → Nat) (n : Int) (h1 : Fins c → d = c ∧ n = 0) (h2 : ¬ Fins c → d = (fun _ => 0) ∧ n = 4) (w : World) :
    Calls Try.prog 162 #[.agg (fls c)] w fun e w' => e = .returned (.tuple #[.agg (fls d), .int .i64 n]) ∧ Below w.heap.size w w' := by
  by_cases h : Fins c
  · obtain ⟨rfl, rfl⟩ := h1 h; exact sMade_t _ hb h w
  · obtain ⟨rfl, rfl⟩ := h2 h; exact sMade_f _ hb h w

theorem zf : Fins (fun _ => 0) := fun _ _ => (by decide : finB 0 = true)

theorem zl : ∀ i, i < 20 → (fun _ : Nat => 0) i < 4294967296 := fun _ _ => (by decide : 0 < 4294967296)

/-- A whole array stored: the world behind it under a name of its own. -/
theorem store_abs {P : Program} {ops : Array Oper} {rest : List Oper} {o : Oper} {a : Act} {w : World} {Q : Exit → Act → World → Prop} (hgd : o.guard = none) (ty : TypeId) (x y : Operand) (ho : o.op = .store ty x y)
    (g : Nat) (d : Nat → Nat) (hx : a.eval x = .pointer (some ⟨g, 0, none⟩)) (hy : a.eval y = .agg (fls d)) (t : TypeId) (old : Nat → Nat) (hg : arrAt w g old t) (hi : (P.info? ty).map (·.size) = some 20)
    (h : ∀ w', w' = w.setRow g (fls d) → wpList P ops Q rest (a.put o.dst undef) w') : wpList P ops Q (o :: rest) a w :=
  wpList_store_row hgd ty x y ho g (fls d) hx hy t (fls old) hg (by rw [fls_size]; exact hi) (by simp) (fls_one d) (h _ rfl)

def left (c : Nat → Nat) (k x : Nat) : Nat → Nat := upd c k (fsub (c k) (fmul x (c k)))

theorem left_amt {c : Nat → Nat} (h : Amts c) {k x : Nat} (hk : k < 20) (hx : Share x) : Amts (left c k x) := by
  intro i hi
  unfold left upd
  by_cases e : i = k
  · subst e
    rw [if_pos rfl]
    have h1 := amtB_iff.1 (h i hi)
    have := fsub_le h1 (fmul_le hx h1)
    exact amtB_iff.2 (by omega)
  · rw [if_neg e]; exact h i hi

set_option maxRecDepth 100000 in
theorem iTakeShare_ok (c : Nat → Nat) (h : Amts c) (k : Nat) (hk : k < 20) (x : Nat) (hx : Share x) (w : World) :
    Calls Try.prog 165 #[.agg (fls c), .int .i64 (k : Int), .float .f32 x] w fun e w' => e = .returned (.tuple #[.agg (fls (left c k x)), .float .f32 (fmul x (c k)), .int .i64 0]) ∧ Below w.heap.size w w' := by
  have hck := amtB_iff.1 (h k hk)
  have hmul := fun w => run_mul (P := Try.prog) 22 (share_amt hx) (h k hk) w
  have hsub := fun w => run_sub (P := Try.prog) 22 hck (fmul_le hx hck) w
  clear hck
  have A0 := hid ((arrAt.new w c 29).alloc (.cells (fls (fun _ => 0)) 29))
  have A1 := hid (new1 w (.cells (fls c) 29) (fun _ => 0) 29)
  have b0 := boxed2 w (.cells (fls c) 29) (.cells (fls (fun _ => 0)) 29)
  have Hh := hid h
  have Hhx := hid hx
  clear h hx
  go_enter Try.func165, Try.ntmps165
  go_wp2_with (first | (refine wpList_load_row rfl 29 _ rfl (w.heap.size) rfl 29 (fls c) (0, 0) _ A0.out Try.underlying29 rfl (by rw [fls_size]; exact info_arr) ?_))
  refine (validSizes_t c Hh.out _).mono ?_
  rintro e w0 ⟨rfl, hb0⟩
  have A0 := hid (A0.out.stay hb0)
  have A1 := hid (A1.out.stay hb0)
  have c0 := stp b0 (Nat.le_refl _) hb0
  go_wp2_with fail
  refine (isClass_t k hk _).mono ?_
  rintro e w1 ⟨rfl, rfl⟩
  go_wp2_with fail
  refine (iShare_t x Hhx.out _).mono ?_
  rintro e w2 ⟨rfl, rfl⟩
  have lx := A0.out.lt
  have ly := A1.out.lt
  have N0 := hid (arrAt.new w0 (fun _ => 0) 29)
  have P0 := hid (N0.out.setRow c)
  have B1 := hid ((A1.out.alloc (.cells (fls fun _ => 0) 29)).setRowOther (k := w0.heap.size) (Nat.ne_of_lt ly) (fls c))
  have B0 := hid ((A0.out.alloc (.cells (fls fun _ => 0) 29)).setRowOther (k := w0.heap.size) (Nat.ne_of_lt lx) (fls c))
  have bX : Below w.heap.size w ((w0.alloc (.cells (fls fun _ => 0) 29)).setRow w0.heap.size (fls c)) := below_row (c0.alloc c0.size _) c0.size _
  have LY := hid ly
  clear lx ly
  have tok1 : True := trivial
  go_wp2_with (first | (have _t := P1; (refine wpList_load_row rfl 29 _ rfl (w0.heap.size) rfl 29 (fls (left c k x)) (0, 0) _ P1.out Try.underlying29 rfl (by rw [fls_size]; exact info_arr) ?_)) | (have _t := P1; (refine wpList_store_row rfl 29 _ _ rfl (w.heap.size + 1) (fls (left c k x)) rfl rfl 29 _ B2.out (by rw [fls_size]; exact info_arr) (by simp) (fls_one (left c k x)) ?_)) | (refine wpList_load_row rfl 29 _ rfl (w.heap.size) rfl 29 (fls c) (0, 0) _ A0.out Try.underlying29 rfl (by rw [fls_size]; exact info_arr) ?_) | (have _t := tok1; refine store_abs rfl 29 _ _ rfl w0.heap.size c rfl rfl 29 _ N0.out info_arr ?_; intro w9 hw9; rw [← hw9] at P0 B0 B1 bX; clear hw9; clear N0; have q0 := B0.out.cell hk; have q1 := P0.out.cell hk; have f1 := P0.out.frozen k; have P1 := hid (P0.out.set k (fsub (c k) (fmul x (c k)))); have B2 := hid (B1.out.setOther (a := ⟨w0.heap.size, k, none⟩) (Nat.ne_of_lt LY.out) (.float .f32 (fsub (c k) (fmul x (c k))))); have bY := hid (bX.setCell (p := ⟨w0.heap.size, k, none⟩) c0.size (.float .f32 (fsub (c k) (fmul x (c k))))); clear hb0 b0 tok1))
  exact bodyPost_ret (results_row_tmp2 rfl _ _ (w.heap.size + 1) 29 (fls (left c k x)) (0, 0) _ rfl (B2.out.setRow (left c k x)) Try.underlying29 rfl (by rw [fls_size]; exact info_arr)) rfl ⟨rfl, below_row bY.out (by omega) _⟩

/-- Droplets of the class k break. -/
def brk (c : Nat → Nat) (k x : Nat) : Nat → Nat := upd (left c k x) (k - 1) (fadd (left c k x (k - 1)) (fmul 1073741824 (fmul x (c k))))

theorem left_prev (c : Nat → Nat) {k : Nat} (h1 : 1 ≤ k) (x : Nat) : left c k x (k - 1) = c (k - 1) := by
  unfold left upd
  rw [if_neg (by omega)]

theorem brk_nn {c : Nat → Nat} (h : Amts c) {k x : Nat} (h1 : 1 ≤ k) (hk : k < 20) (hx : Share x) {i : Nat} (hi : i < 20) : nnB (brk c k x i) = true := by
  have hl := left_amt h hk hx
  have hck := amtB_iff.1 (h k hk)
  have hm : amtB (fmul x (c k)) = true := amtB_iff.2 (by have := fmul_le hx hck; omega)
  unfold brk upd
  by_cases e : i = k - 1
  · rw [if_pos e]
    exact (add_eq (amt_nn (hl (k - 1) (by omega))) (mul_eq (x := 1073741824) (by decide) hm).2).2
  · rw [if_neg e]
    exact amt_nn (hl i hi)

theorem iBreaks_ok (c : Nat → Nat) (h : Amts c) (k : Nat) (h1 : 1 ≤ k) (hk : k < 20) (x : Nat) (hx : Share x) (w : World) :
    Calls Try.prog 164 #[.agg (fls c), .int .i64 (k : Int), .float .f32 x] w fun e w' => e = .returned (.int .i64 0) ∧ Below w.heap.size w w' := by
  have A0 := hid (arrAt.new w c 29)
  have b0 := boxed w (.cells (fls c) 29)
  have H := hid h
  have HX := hid hx
  have HK := hid hk
  have hd : decide ((k : Int) < 1) = false := decide_eq_false (by omega)
  clear h hx h1 hk
  go_enter Try.func164, Try.ntmps164
  go_wp2_with (refine wpList_load_row rfl 29 _ rfl (w.heap.size) rfl 29 (fls c) (0, 0) _ A0.out Try.underlying29 rfl (by rw [fls_size]; exact info_arr) ?_)
  refine (validSizes_t c H.out _).mono ?_
  rintro e w1 ⟨rfl, hb1⟩
  have c0 := stp b0 (Nat.le_refl _) hb1
  go_wp2_with fail
  refine (isClass_t k HK.out _).mono ?_
  rintro e w2 ⟨rfl, rfl⟩
  go_wp2_with fail
  refine (iShare_t x HX.out _).mono ?_
  rintro e w3 ⟨rfl, rfl⟩
  go_wp2
  go_ret
  exact ⟨rfl, c0⟩

theorem iBreaks_bad (c : Nat → Nat) (hb : ∀ i, i < 20 → c i < 4294967296) (h : ¬ Amts c) (n : Int) (x : Nat) (w : World) :
    Calls Try.prog 164 #[.agg (fls c), .int .i64 n, .float .f32 x] w fun e w' => e = .returned (.int .i64 1) ∧ Below w.heap.size w w' := by
  have A0 := hid (arrAt.new w c 29)
  have b0 := boxed w (.cells (fls c) 29)
  have H := hid h
  have HB := hid hb
  clear h hb
  go_enter Try.func164, Try.ntmps164
  go_wp2_with (refine wpList_load_row rfl 29 _ rfl (w.heap.size) rfl 29 (fls c) (0, 0) _ A0.out Try.underlying29 rfl (by rw [fls_size]; exact info_arr) ?_)
  refine (validSizes_f c HB.out H.out _).mono ?_
  rintro e w1 ⟨rfl, hb1⟩
  have c0 := stp b0 (Nat.le_refl _) hb1
  go_wp2
  go_ret
  exact ⟨rfl, c0⟩

theorem iBreaks_class (c : Nat → Nat) (h : Amts c) (n : Int) (hn : ¬ (1 ≤ n ∧ n < 20)) (x : Nat) (w : World) :
    Calls Try.prog 164 #[.agg (fls c), .int .i64 n, .float .f32 x] w fun e w' => e = .returned (.int .i64 2) ∧ Below w.heap.size w w' := by
  have A0 := hid (arrAt.new w c 29)
  have b0 := boxed w (.cells (fls c) 29)
  have H := hid h
  by_cases h1 : n < 1
  · have hd : decide (n < 1) = true := decide_eq_true h1
    clear h hn h1
    go_enter Try.func164, Try.ntmps164
    go_wp2_with (refine wpList_load_row rfl 29 _ rfl (w.heap.size) rfl 29 (fls c) (0, 0) _ A0.out Try.underlying29 rfl (by rw [fls_size]; exact info_arr) ?_)
    refine (validSizes_t c H.out _).mono ?_
    rintro e w1 ⟨rfl, hb1⟩
    have c0 := stp b0 (Nat.le_refl _) hb1
    go_wp2
    go_ret
    exact ⟨rfl, c0⟩
  · have hd : decide (n < 1) = false := decide_eq_false h1
    have HN := hid (show ¬ (0 ≤ n ∧ n < 20) by omega)
    clear h hn h1
    go_enter Try.func164, Try.ntmps164
    go_wp2_with (refine wpList_load_row rfl 29 _ rfl (w.heap.size) rfl 29 (fls c) (0, 0) _ A0.out Try.underlying29 rfl (by rw [fls_size]; exact info_arr) ?_)
    refine (validSizes_t c H.out _).mono ?_
    rintro e w1 ⟨rfl, hb1⟩
    have c0 := stp b0 (Nat.le_refl _) hb1
    go_wp2_with fail
    refine (isClass_f n HN.out _).mono ?_
    rintro e w2 ⟨rfl, rfl⟩
    go_wp2
    go_ret
    exact ⟨rfl, c0⟩

theorem iBreaks_share (c : Nat → Nat) (h : Amts c) (k : Nat) (h1 : 1 ≤ k) (hk : k < 20) (x : Nat) (hx : x < 4294967296) (hn : ¬ Share x) (w : World) :
    Calls Try.prog 164 #[.agg (fls c), .int .i64 (k : Int), .float .f32 x] w fun e w' => e = .returned (.int .i64 2) ∧ Below w.heap.size w w' := by
  have A0 := hid (arrAt.new w c 29)
  have b0 := boxed w (.cells (fls c) 29)
  have H := hid h
  have HX := hid hx
  have HN := hid hn
  have HK := hid hk
  have hd : decide ((k : Int) < 1) = false := decide_eq_false (by omega)
  clear h hx h1 hk hn
  go_enter Try.func164, Try.ntmps164
  go_wp2_with (refine wpList_load_row rfl 29 _ rfl (w.heap.size) rfl 29 (fls c) (0, 0) _ A0.out Try.underlying29 rfl (by rw [fls_size]; exact info_arr) ?_)
  refine (validSizes_t c H.out _).mono ?_
  rintro e w1 ⟨rfl, hb1⟩
  have c0 := stp b0 (Nat.le_refl _) hb1
  go_wp2_with fail
  refine (isClass_t k HK.out _).mono ?_
  rintro e w2 ⟨rfl, rfl⟩
  go_wp2_with fail
  refine (iShare_f x HX.out HN.out _).mono ?_
  rintro e w3 ⟨rfl, hb3⟩
  have c1 := stp c0 (Nat.le_refl _) hb3
  go_wp2
  go_ret
  exact ⟨rfl, c1⟩

theorem sBreaks_ok (c : Nat → Nat) (h : Amts c) (k : Nat) (h1 : 1 ≤ k) (hk : k < 20) (x : Nat) (hx : Share x) (w : World) (g : Nat) (T : TypeId) (hg : arrAt w g c T) :
    Calls Try.prog 161 #[.pointer (some ⟨g, 0, none⟩), .int .i64 (k : Int), .float .f32 x] w fun e w' => e = .returned (.int .i64 0) ∧ w = w' := by
  have G := hid hg
  have H := hid h
  have HX := hid hx
  have K1 := hid (show (1 : Int) ≤ (k : Int) by omega)
  have K2 := hid (show (k : Int) ≤ 19 by omega)
  clear h hx h1 hk hg
  go_enter Try.func161, Try.ntmps161
  go_wp2_with fail
  refine (sOk_t c H.out _ g T G.out).mono ?_
  rintro e w1 ⟨rfl, rfl⟩
  go_wp2_with fail
  refine (l00In_t k 1 19 K1.out K2.out _).mono ?_
  rintro e w2 ⟨rfl, rfl⟩
  go_wp2_with fail
  refine (sShare_t x HX.out _).mono ?_
  rintro e w3 ⟨rfl, rfl⟩
  go_wp2
  go_ret
  exact ⟨rfl, rfl⟩

theorem sBreaks_bad (c : Nat → Nat) (hb : ∀ i, i < 20 → c i < 4294967296) (h : ¬ Amts c) (n : Int) (x : Nat) (w : World) (g : Nat) (T : TypeId) (hg : arrAt w g c T) :
    Calls Try.prog 161 #[.pointer (some ⟨g, 0, none⟩), .int .i64 n, .float .f32 x] w fun e w' => e = .returned (.int .i64 1) ∧ Below w.heap.size w w' := by
  have G := hid hg
  have H := hid h
  have HB := hid hb
  clear h hb hg
  go_enter Try.func161, Try.ntmps161
  go_wp2_with fail
  refine (sOk_f c HB.out H.out _ g T G.out).mono ?_
  rintro e w1 ⟨rfl, hb1⟩
  go_wp2
  go_ret
  exact ⟨rfl, hb1⟩

theorem sBreaks_class (c : Nat → Nat) (h : Amts c) (n : Int) (hn : ¬ (1 ≤ n ∧ n < 20)) (x : Nat) (w : World) (g : Nat) (T : TypeId) (hg : arrAt w g c T) :
    Calls Try.prog 161 #[.pointer (some ⟨g, 0, none⟩), .int .i64 n, .float .f32 x] w fun e w' => e = .returned (.int .i64 2) ∧ Below w.heap.size w w' := by
  have G := hid hg
  have H := hid h
  have HN := hid (show ¬ (1 ≤ n ∧ n ≤ 19) by omega)
  clear h hn hg
  go_enter Try.func161, Try.ntmps161
  go_wp2_with fail
  refine (sOk_t c H.out _ g T G.out).mono ?_
  rintro e w1 ⟨rfl, rfl⟩
  go_wp2_with fail
  refine (l00In_f n 1 19 HN.out _).mono ?_
  rintro e w2 ⟨rfl, rfl⟩
  go_wp2
  go_ret
  exact ⟨rfl, Below.refl _ _⟩

theorem sBreaks_share (c : Nat → Nat) (h : Amts c) (k : Nat) (h1 : 1 ≤ k) (hk : k < 20) (x : Nat) (hx : x < 4294967296) (hn : ¬ Share x) (w : World) (g : Nat) (T : TypeId) (hg : arrAt w g c T) :
    Calls Try.prog 161 #[.pointer (some ⟨g, 0, none⟩), .int .i64 (k : Int), .float .f32 x] w fun e w' => e = .returned (.int .i64 2) ∧ Below w.heap.size w w' := by
  have G := hid hg
  have H := hid h
  have HX := hid hx
  have HN := hid hn
  have K1 := hid (show (1 : Int) ≤ (k : Int) by omega)
  have K2 := hid (show (k : Int) ≤ 19 by omega)
  clear h hx h1 hk hg hn
  go_enter Try.func161, Try.ntmps161
  go_wp2_with fail
  refine (sOk_t c H.out _ g T G.out).mono ?_
  rintro e w1 ⟨rfl, rfl⟩
  go_wp2_with fail
  refine (l00In_t k 1 19 K1.out K2.out _).mono ?_
  rintro e w2 ⟨rfl, rfl⟩
  go_wp2_with fail
  refine (sShare_f x HX.out HN.out _).mono ?_
  rintro e w3 ⟨rfl, hb3⟩
  go_wp2
  go_ret
  exact ⟨rfl, hb3⟩

theorem brk_is (c : Nat → Nat) (m x : Nat) (i : Nat) (_ : i < 20) : upd (left c (m + 1) x) m (fadd (c m) (fmul 1073741824 (fmul x (c (m + 1))))) i = brk c (m + 1) x i := by
  unfold brk
  rw [left_prev c (by omega) x]
  rfl

set_option maxRecDepth 100000 in
theorem iLa_bad (c : Nat → Nat) (hb : ∀ i, i < 20 → c i < 4294967296) (h : ¬ Amts c) (n : Int) (x : Nat) (w : World) :
    Calls Try.prog 81 #[.agg (fls c), .int .i64 n, .float .f32 x] w fun e w' => e = .returned (.tuple #[.agg (fls fun _ => 0), .int .i64 1]) ∧ Below w.heap.size w w' := by
  have A0 := hid ((arrAt.new w c 29).alloc (.cells (fls fun _ => 0) 29))
  have A1 := hid (new1 w (.cells (fls c) 29) (fun _ => 0) 29)
  have b0 := boxed2 w (.cells (fls c) 29) (.cells (fls fun _ => 0) 29)
  have HC := hid (iBreaks_bad c hb h n x)
  clear hb h
  go_enter Try.func81, Try.ntmps81
  go_wp2_with (refine wpList_load_row rfl 29 _ rfl (w.heap.size) rfl 29 (fls c) (0, 0) _ A0.out Try.underlying29 rfl (by rw [fls_size]; exact info_arr) ?_)
  refine (HC.out _).mono ?_
  rintro e w1 ⟨rfl, hb1⟩
  have A1 := hid (A1.out.stay hb1)
  have c0 := stp b0 (Nat.le_refl _) hb1
  go_wp2_with (refine wpList_store_row rfl 29 _ _ rfl (w.heap.size + 1) (fls (fun _ => 0)) rfl rfl 29 _ A1.out (by rw [fls_size]; exact info_arr) (by simp) (fls_one _) ?_)
  exact bodyPost_ret (results_row_tmp rfl _ _ (w.heap.size + 1) 29 (fls (fun _ => 0)) (0, 0) _ rfl (A1.out.setRow (fun _ => 0)) Try.underlying29 rfl (by rw [fls_size]; exact info_arr)) rfl ⟨rfl, below_row c0 (by omega) _⟩

set_option maxRecDepth 100000 in
theorem sLa_bad (c : Nat → Nat) (hb : ∀ i, i < 20 → c i < 4294967296) (h : ¬ Amts c) (n : Int) (x : Nat) (w : World) :
    Calls Try.prog 80 #[.agg (fls c), .int .i64 n, .float .f32 x] w fun e w' => e = .returned (.tuple #[.agg (fls fun _ => 0), .int .i64 1]) ∧ Below w.heap.size w w' := by
  have A0 := hid ((arrAt.new w c 29).alloc (.cells (fls fun _ => 0) 29))
  have A1 := hid (new1 w (.cells (fls c) 29) (fun _ => 0) 29)
  have b0 := boxed2 w (.cells (fls c) 29) (.cells (fls fun _ => 0) 29)
  have HC := hid (sBreaks_bad c hb h n x)
  clear hb h
  go_enter Try.func80, Try.ntmps80
  go_wp2_with fail
  refine (HC.out _ w.heap.size 29 A0.out).mono ?_
  rintro e w1 ⟨rfl, hb1⟩
  have A1 := hid (A1.out.stay hb1)
  have c0 := stp b0 (Nat.le_refl _) hb1
  go_wp2_with (refine wpList_store_row rfl 29 _ _ rfl (w.heap.size + 1) (fls (fun _ => 0)) rfl rfl 29 _ A1.out (by rw [fls_size]; exact info_arr) (by simp) (fls_one _) ?_)
  exact bodyPost_ret (results_row_tmp rfl _ _ (w.heap.size + 1) 29 (fls (fun _ => 0)) (0, 0) _ rfl (A1.out.setRow (fun _ => 0)) Try.underlying29 rfl (by rw [fls_size]; exact info_arr)) rfl ⟨rfl, below_row c0 (by omega) _⟩

set_option maxRecDepth 100000 in
theorem iLa_class (c : Nat → Nat) (h : Amts c) (n : Int) (hn : ¬ (1 ≤ n ∧ n < 20)) (x : Nat) (w : World) :
    Calls Try.prog 81 #[.agg (fls c), .int .i64 n, .float .f32 x] w fun e w' => e = .returned (.tuple #[.agg (fls fun _ => 0), .int .i64 2]) ∧ Below w.heap.size w w' := by
  have A0 := hid ((arrAt.new w c 29).alloc (.cells (fls fun _ => 0) 29))
  have A1 := hid (new1 w (.cells (fls c) 29) (fun _ => 0) 29)
  have b0 := boxed2 w (.cells (fls c) 29) (.cells (fls fun _ => 0) 29)
  have HC := hid (iBreaks_class c h n hn x)
  clear h hn
  go_enter Try.func81, Try.ntmps81
  go_wp2_with (refine wpList_load_row rfl 29 _ rfl (w.heap.size) rfl 29 (fls c) (0, 0) _ A0.out Try.underlying29 rfl (by rw [fls_size]; exact info_arr) ?_)
  refine (HC.out _).mono ?_
  rintro e w1 ⟨rfl, hb1⟩
  have A1 := hid (A1.out.stay hb1)
  have c0 := stp b0 (Nat.le_refl _) hb1
  go_wp2_with (refine wpList_store_row rfl 29 _ _ rfl (w.heap.size + 1) (fls (fun _ => 0)) rfl rfl 29 _ A1.out (by rw [fls_size]; exact info_arr) (by simp) (fls_one _) ?_)
  exact bodyPost_ret (results_row_tmp rfl _ _ (w.heap.size + 1) 29 (fls (fun _ => 0)) (0, 0) _ rfl (A1.out.setRow (fun _ => 0)) Try.underlying29 rfl (by rw [fls_size]; exact info_arr)) rfl ⟨rfl, below_row c0 (by omega) _⟩

set_option maxRecDepth 100000 in
theorem sLa_class (c : Nat → Nat) (h : Amts c) (n : Int) (hn : ¬ (1 ≤ n ∧ n < 20)) (x : Nat) (w : World) :
    Calls Try.prog 80 #[.agg (fls c), .int .i64 n, .float .f32 x] w fun e w' => e = .returned (.tuple #[.agg (fls fun _ => 0), .int .i64 2]) ∧ Below w.heap.size w w' := by
  have A0 := hid ((arrAt.new w c 29).alloc (.cells (fls fun _ => 0) 29))
  have A1 := hid (new1 w (.cells (fls c) 29) (fun _ => 0) 29)
  have b0 := boxed2 w (.cells (fls c) 29) (.cells (fls fun _ => 0) 29)
  have HC := hid (sBreaks_class c h n hn x)
  clear h hn
  go_enter Try.func80, Try.ntmps80
  go_wp2_with fail
  refine (HC.out _ w.heap.size 29 A0.out).mono ?_
  rintro e w1 ⟨rfl, hb1⟩
  have A1 := hid (A1.out.stay hb1)
  have c0 := stp b0 (Nat.le_refl _) hb1
  go_wp2_with (refine wpList_store_row rfl 29 _ _ rfl (w.heap.size + 1) (fls (fun _ => 0)) rfl rfl 29 _ A1.out (by rw [fls_size]; exact info_arr) (by simp) (fls_one _) ?_)
  exact bodyPost_ret (results_row_tmp rfl _ _ (w.heap.size + 1) 29 (fls (fun _ => 0)) (0, 0) _ rfl (A1.out.setRow (fun _ => 0)) Try.underlying29 rfl (by rw [fls_size]; exact info_arr)) rfl ⟨rfl, below_row c0 (by omega) _⟩

set_option maxRecDepth 100000 in
theorem iLa_share (c : Nat → Nat) (h : Amts c) (k : Nat) (h1 : 1 ≤ k) (hk : k < 20) (x : Nat) (hx : x < 4294967296) (hn : ¬ Share x) (w : World) :
    Calls Try.prog 81 #[.agg (fls c), .int .i64 (k : Int), .float .f32 x] w fun e w' => e = .returned (.tuple #[.agg (fls fun _ => 0), .int .i64 2]) ∧ Below w.heap.size w w' := by
  have A0 := hid ((arrAt.new w c 29).alloc (.cells (fls fun _ => 0) 29))
  have A1 := hid (new1 w (.cells (fls c) 29) (fun _ => 0) 29)
  have b0 := boxed2 w (.cells (fls c) 29) (.cells (fls fun _ => 0) 29)
  have HC := hid (iBreaks_share c h k h1 hk x hx hn)
  clear h h1 hk hx hn
  go_enter Try.func81, Try.ntmps81
  go_wp2_with (refine wpList_load_row rfl 29 _ rfl (w.heap.size) rfl 29 (fls c) (0, 0) _ A0.out Try.underlying29 rfl (by rw [fls_size]; exact info_arr) ?_)
  refine (HC.out _).mono ?_
  rintro e w1 ⟨rfl, hb1⟩
  have A1 := hid (A1.out.stay hb1)
  have c0 := stp b0 (Nat.le_refl _) hb1
  go_wp2_with (refine wpList_store_row rfl 29 _ _ rfl (w.heap.size + 1) (fls (fun _ => 0)) rfl rfl 29 _ A1.out (by rw [fls_size]; exact info_arr) (by simp) (fls_one _) ?_)
  exact bodyPost_ret (results_row_tmp rfl _ _ (w.heap.size + 1) 29 (fls (fun _ => 0)) (0, 0) _ rfl (A1.out.setRow (fun _ => 0)) Try.underlying29 rfl (by rw [fls_size]; exact info_arr)) rfl ⟨rfl, below_row c0 (by omega) _⟩

set_option maxRecDepth 100000 in
theorem sLa_share (c : Nat → Nat) (h : Amts c) (k : Nat) (h1 : 1 ≤ k) (hk : k < 20) (x : Nat) (hx : x < 4294967296) (hn : ¬ Share x) (w : World) :
    Calls Try.prog 80 #[.agg (fls c), .int .i64 (k : Int), .float .f32 x] w fun e w' => e = .returned (.tuple #[.agg (fls fun _ => 0), .int .i64 2]) ∧ Below w.heap.size w w' := by
  have A0 := hid ((arrAt.new w c 29).alloc (.cells (fls fun _ => 0) 29))
  have A1 := hid (new1 w (.cells (fls c) 29) (fun _ => 0) 29)
  have b0 := boxed2 w (.cells (fls c) 29) (.cells (fls fun _ => 0) 29)
  have HC := hid (sBreaks_share c h k h1 hk x hx hn)
  clear h h1 hk hx hn
  go_enter Try.func80, Try.ntmps80
  go_wp2_with fail
  refine (HC.out _ w.heap.size 29 A0.out).mono ?_
  rintro e w1 ⟨rfl, hb1⟩
  have A1 := hid (A1.out.stay hb1)
  have c0 := stp b0 (Nat.le_refl _) hb1
  go_wp2_with (refine wpList_store_row rfl 29 _ _ rfl (w.heap.size + 1) (fls (fun _ => 0)) rfl rfl 29 _ A1.out (by rw [fls_size]; exact info_arr) (by simp) (fls_one _) ?_)
  exact bodyPost_ret (results_row_tmp rfl _ _ (w.heap.size + 1) 29 (fls (fun _ => 0)) (0, 0) _ rfl (A1.out.setRow (fun _ => 0)) Try.underlying29 rfl (by rw [fls_size]; exact info_arr)) rfl ⟨rfl, below_row c0 (by omega) _⟩

set_option maxRecDepth 100000 in
theorem iCl_ok (c : Nat → Nat) (h : Amts c) (m : Nat) (hm : m < 19) (x : Nat) (hx : Share x) (r : Nat → Nat) (n : Int) (h1 : Fins (brk c (m + 1) x) → r = brk c (m + 1) x ∧ n = 0) (h2 : ¬ Fins (brk c (m + 1) x) → r = (fun _ => 0) ∧ n = 4) (w : World) :
    Calls Try.prog 79 #[.agg (fls c), .int .i64 ((m + 1 : Nat) : Int), .float .f32 x] w fun e w' => e = .returned (.tuple #[.agg (fls r), .int .i64 n]) ∧ Below w.heap.size w w' := by
  have A0 := hid ((arrAt.new w c 29).alloc (.cells (fls fun _ => 0) 29))
  have A1 := hid (new1 w (.cells (fls c) 29) (fun _ => 0) 29)
  have b0 := boxed2 w (.cells (fls c) 29) (.cells (fls fun _ => 0) 29)
  have HB := hid (iBreaks_ok c h (m + 1) (by omega) (by omega) x hx)
  have HT := hid (iTakeShare_ok c h (m + 1) (by omega) x hx)
  have HF := hid (iFinite (brk c (m + 1) x) (fun i hi => nn_lt (brk_nn h (k := m + 1) (by omega) (by omega) hx hi)) r n h1 h2)
  have hck := amtB_iff.1 (h (m + 1) (by omega))
  have hma : amtB (fmul x (c (m + 1))) = true := amtB_iff.2 (by have := fmul_le hx hck; omega)
  have hm1 := fun w => run_mul (P := Try.prog) 22 (x := 1073741824) (y := fmul x (c (m + 1))) (by decide) hma w
  have hm2 := fun w => run_add (P := Try.prog) 22 (amt_nn (left_amt h (k := m + 1) (by omega) hx m (by omega))) (mul_eq (x := 1073741824) (by decide) hma).2 w
  have HM := hid hm
  have hm3 : (m : Int) < 20 := by omega
  clear h hx h1 h2 hck hma hm
  go_enter Try.func79, Try.ntmps79
  go_wp2_with (refine wpList_load_row rfl 29 _ rfl (w.heap.size) rfl 29 (fls c) (0, 0) _ A0.out Try.underlying29 rfl (by rw [fls_size]; exact info_arr) ?_)
  refine (HB.out _).mono ?_
  rintro e w1 ⟨rfl, hb1⟩
  have A0 := hid (A0.out.stay hb1)
  have A1 := hid (A1.out.stay hb1)
  have c0 := stp b0 (Nat.le_refl _) hb1
  go_wp2_with (refine wpList_load_row rfl 29 _ rfl (w.heap.size) rfl 29 (fls c) (0, 0) _ A0.out Try.underlying29 rfl (by rw [fls_size]; exact info_arr) ?_)
  refine (HT.out _).mono ?_
  rintro e w2 ⟨rfl, hb2⟩
  have A1 := hid (A1.out.stay hb2)
  have c1 := stp c0 (Nat.le_refl _) hb2
  have l1 := A1.out.lt
  have L1 := hid l1
  have N0 := hid (arrAt.new w2 (fun _ => 0) 29)
  have P0 := hid (N0.out.setRow (left c (m + 1) x))
  have B1 := hid ((A1.out.alloc (.cells (fls fun _ => 0) 29)).setRowOther (k := w2.heap.size) (Nat.ne_of_lt l1) (fls (left c (m + 1) x)))
  have bX : Below w.heap.size w ((w2.alloc (.cells (fls fun _ => 0) 29)).setRow w2.heap.size (fls (left c (m + 1) x))) := below_row (c1.alloc c1.size _) c1.size _
  have S1 := hid c1.size
  clear l1 b0 c0 hb1 hb2 A0 HB HT
  have tok1 : True := trivial
  go_wp2_with (first | (have _t := P1; refine wpList_load_row rfl 29 _ rfl (w2.heap.size) rfl 29 (fls (brk c (m + 1) x)) (0, 0) _ P1.out Try.underlying29 rfl (by rw [fls_size]; exact info_arr) ?_) | (have _t := tok1; refine store_abs rfl 29 _ _ rfl w2.heap.size (left c (m + 1) x) rfl rfl 29 _ N0.out info_arr ?_; intro w9 hw9; rw [← hw9] at P0 B1 bX; clear hw9 N0 tok1; have q1 := P0.out.cell (k := m) (by have := HM.out; omega); have f1 := P0.out.frozen m; have P1 : Hid (arrAt _ w2.heap.size (brk c (m + 1) x) 29) := hid (P0.out.set m (fadd (left c (m + 1) x m) (fmul 1073741824 (fmul x (c (m + 1)))))); have B2 := hid (B1.out.setOther (a := ⟨w2.heap.size, m, none⟩) (Nat.ne_of_lt L1.out) (.float .f32 (fadd (left c (m + 1) x m) (fmul 1073741824 (fmul x (c (m + 1))))))); have bY := bX.setCell (p := ⟨w2.heap.size, m, none⟩) S1.out (.float .f32 (fadd (left c (m + 1) x m) (fmul 1073741824 (fmul x (c (m + 1))))))))
  refine (HF.out _).mono ?_
  rintro e w5 ⟨rfl, hb5⟩
  have B3 := hid (B2.out.stay hb5)
  have b5 := stp bY (Nat.le_refl _) hb5
  go_wp2_with (refine wpList_store_row rfl 29 _ _ rfl (w.heap.size + 1) (fls r) rfl rfl 29 _ B3.out (by rw [fls_size]; exact info_arr) (by simp) (fls_one _) ?_)
  exact bodyPost_ret (results_row_tmp rfl _ _ (w.heap.size + 1) 29 (fls r) (0, 0) _ rfl (B3.out.setRow r) Try.underlying29 rfl (by rw [fls_size]; exact info_arr)) rfl ⟨rfl, below_row b5 (by omega) _⟩

set_option maxRecDepth 100000 in
theorem sBreak (c : Nat → Nat) (h : Amts c) (m : Nat) (hm : m < 19) (x : Nat) (hx : Share x) (w : World) :
    Calls Try.prog 163 #[.agg (fls c), .int .i64 ((m + 1 : Nat) : Int), .float .f32 x] w fun e w' => e = .returned (.agg (fls (brk c (m + 1) x))) ∧ Below w.heap.size w w' := by
  have A0 := hid ((arrAt.new w c 29).alloc (.cells (fls fun _ => 0) 29))
  have A1 := hid (new1 w (.cells (fls c) 29) (fun _ => 0) 29)
  have b0 := boxed2 w (.cells (fls c) 29) (.cells (fls fun _ => 0) 29)
  have hck := amtB_iff.1 (h (m + 1) (by omega))
  have hma : amtB (fmul x (c (m + 1))) = true := amtB_iff.2 (by have := fmul_le hx hck; omega)
  have hx1 := fun w => run_mul (P := Try.prog) 22 (share_amt hx) (h (m + 1) (by omega)) w
  have hx2 := fun w => run_sub (P := Try.prog) 22 hck (fmul_le hx hck) w
  have hm1 := fun w => run_mul (P := Try.prog) 22 (x := 1073741824) (y := fmul x (c (m + 1))) (by decide) hma w
  have hm2 := fun w => run_add (P := Try.prog) 22 (amt_nn (h m (by omega))) (mul_eq (x := 1073741824) (by decide) hma).2 w
  have hm3 : (m : Int) < 20 := by omega
  have hm4 : (m : Int) + 1 < 20 := by omega
  have HM := hid hm
  clear hck hma h hx hm
  have tok1 : True := trivial
  go_enter Try.func163, Try.ntmps163
  go_wp2_with (first | (have _t := C0; refine wpList_load_row rfl 29 _ rfl (w.heap.size) rfl 29 (fls (brk c (m + 1) x)) (0, 0) _ C0.out Try.underlying29 rfl (by rw [fls_size]; exact info_arr) ?_) | (have _t := C0; refine wpList_store_row rfl 29 _ _ rfl (w.heap.size + 1) (fls (brk c (m + 1) x)) rfl rfl 29 _ C1.out (by rw [fls_size]; exact info_arr) (by simp) (fls_one _) ?_) | (have _t := tok1; refine gen_at ((w.alloc (.cells (fls c) 29)).alloc (.cells (fls fun _ => 0) 29)) ?_; intro w1 hw1; rw [← hw1] at A0 A1 b0; clear hw1 tok1; have q0 := A0.out.cell (k := m + 1) (by have := HM.out; omega); have q2 := A0.out.cell (k := m) (by have := HM.out; omega); have f0 := A0.out.frozen (m + 1); have f2 := A0.out.frozen m; have B0 : Hid (arrAt _ w.heap.size (left c (m + 1) x) 29) := hid (A0.out.set (m + 1) (fsub (c (m + 1)) (fmul x (c (m + 1))))); have B1 := hid (A1.out.setOther (a := ⟨w.heap.size, m + 1, none⟩) (by simp) (.float .f32 (fsub (c (m + 1)) (fmul x (c (m + 1)))))); have b1 := b0.setCell (p := ⟨w.heap.size, m + 1, none⟩) (Nat.le_refl _) (.float .f32 (fsub (c (m + 1)) (fmul x (c (m + 1))))); have C0 := hid ((B0.out.set m (fadd (c m) (fmul 1073741824 (fmul x (c (m + 1)))))).ext (d := brk c (m + 1) x) (brk_is c m x)); have C1 := hid (B1.out.setOther (a := ⟨w.heap.size, m, none⟩) (by simp) (.float .f32 (fadd (c m) (fmul 1073741824 (fmul x (c (m + 1))))))); have d1 := b1.setCell (p := ⟨w.heap.size, m, none⟩) (Nat.le_refl _) (.float .f32 (fadd (c m) (fmul 1073741824 (fmul x (c (m + 1)))))); clear A0 A1 B0 B1 b0 b1))
  exact bodyPost_ret (results_cell_row rfl _ _ (w.heap.size + 1) 29 (fls (brk c (m + 1) x)) (0, 0) _ rfl (C1.out.setRow (brk c (m + 1) x)) Try.underlying29 rfl (by rw [fls_size]; exact info_arr)) rfl ⟨rfl, below_row d1 (by omega) _⟩

def brks (c : Nat → Nat) (x : Nat) : Nat → Nat → Nat
  | 0 => c
  | j + 1 => brk (brks c x j) (19 - j) x

/-- The first j steps stay finite. -/
def Good (c : Nat → Nat) (x j : Nat) : Prop := ∀ i, i ≤ j → Fins (brks c x i)

theorem good_amts {c : Nat → Nat} (h : Amts c) {x : Nat} (hx : Share x) : ∀ j, j ≤ 19 → Good c x j → Amts (brks c x j)
  | 0, _, _ => h
  | j + 1, hj, hg => by
    have ih := good_amts h hx j (by omega) fun i hi => hg i (by omega)
    intro i hi
    have hn := brk_nn ih (k := 19 - j) (by omega) (by omega) hx hi
    show amtB (brk (brks c x j) (19 - j) x i) = true
    rw [nn_amt hn]
    exact hg (j + 1) (Nat.le_refl _) i hi

theorem good_step {c : Nat → Nat} {x j : Nat} (hg : Good c x j) (hf : Fins (brks c x (j + 1))) : Good c x (j + 1) := fun i hi => by
  rcases Nat.lt_or_eq_of_le hi with h | h
  · exact hg i (by omega)
  · rw [h]; exact hf

/-- What is not finite behind a step is the class below, and that is infinite. -/
theorem brk_bad {c : Nat → Nat} (h : Amts c) {m x : Nat} (hm : m < 19) (hx : Share x) (hf : ¬ Fins (brk c (m + 1) x)) : brk c (m + 1) x m = IW ∧ (∀ i, i < 20 → i ≠ m → amtB (brk c (m + 1) x i) = true) := by
  have ha : ∀ i, i < 20 → i ≠ m → amtB (brk c (m + 1) x i) = true := fun i hi hne => by
    have hl := left_amt h (k := m + 1) (by omega) hx i hi
    have : brk c (m + 1) x i = left c (m + 1) x i := by unfold brk upd; rw [if_neg (by omega)]
    rw [this]; exact hl
  refine ⟨?_, ha⟩
  have hn := nnB_iff.1 (brk_nn h (k := m + 1) (by omega) (by omega) hx (i := m) (by omega))
  rcases Nat.lt_or_eq_of_le hn with hlt | he
  · refine absurd (fun i hi => ?_) hf
    by_cases e : i = m
    · rw [e]; exact amt_fin (amtB_iff.2 hlt)
    · exact amt_fin (ha i hi e)
  · rw [IW_INF]; exact he

theorem share_pos {c : Nat → Nat} (h : Amts c) {m x : Nat} (hm : m < 19) (hx : Share x) (hf : ¬ Fins (brk c (m + 1) x)) : x ≠ 0 := by
  intro h0
  have hb := (brk_bad h hm hx hf).1
  have hc1 := amtB_iff.1 (h (m + 1) (by omega))
  have hc0 := amtB_iff.1 (h m (by omega))
  have e1 : fmul x (c (m + 1)) = 0 := by rw [h0]; exact mul_zero_l hc1
  rw [← brk_is c m x m (by omega)] at hb
  unfold upd at hb
  rw [if_pos rfl, e1, show fmul 1073741824 0 = 0 from by decide, fadd_zero_right (nnB_iff.2 (Nat.le_of_lt hc0))] at hb
  rw [hb, IW_INF] at hc0
  exact Nat.lt_irrefl _ hc0

set_option maxRecDepth 100000 in
theorem sBreakInf (c : Nat → Nat) (hb : ∀ i, i < 20 → c i < 4294967296) (m : Nat) (hm : m < 19) (hi : c (m + 1) = IW) (hc : amtB (c m) = true) (x : Nat) (hx : Share x) (h0 : x ≠ 0) (w : World) :
    Calls Try.prog 163 #[.agg (fls c), .int .i64 ((m + 1 : Nat) : Int), .float .f32 x] w fun e w' => ∃ d, e = .returned (.agg (fls d)) ∧ (∀ i, i < 20 → d i < 4294967296) ∧ d m = IW ∧ finB (d (m + 1)) = false ∧ (∀ i, i < m → d i = c i) ∧ Below w.heap.size w w' := by
  have A0 := hid ((arrAt.new w c 29).alloc (.cells (fls fun _ => 0) 29))
  have A1 := hid (new1 w (.cells (fls c) 29) (fun _ => 0) 29)
  have b0 := boxed2 w (.cells (fls c) 29) (.cells (fls fun _ => 0) 29)
  have hx1 := fun w => run_float_arith (P := Try.prog) w .mul 22 .f32 x IW IW (mul_inf (amtB_iff.1 (share_amt hx)) h0)
  have hm1 := fun w => run_float_arith (P := Try.prog) w .mul 22 .f32 1073741824 IW IW two_inf
  have hm2 := fun w => run_float_arith (P := Try.prog) w .add 22 .f32 (c m) IW IW (add_inf (amtB_iff.1 hc))
  have hm3 : (m : Int) < 20 := by omega
  have hm4 : (m : Int) + 1 < 20 := by omega
  have HM := hid hm
  have HI := hid hi
  have HB := hid hb
  clear hc hx hm hi h0 hb
  have tok1 : True := trivial
  go_enter Try.func163, Try.ntmps163
  go_wp2_with (first | (have _t := C0; refine wpList_load_row rfl 29 _ rfl (w.heap.size) rfl 29 (fls (upd (upd c (m + 1) z) m IW)) (0, 0) _ C0.out Try.underlying29 rfl (by rw [fls_size]; exact info_arr) ?_) | (have _t := C0; refine wpList_store_row rfl 29 _ _ rfl (w.heap.size + 1) (fls (upd (upd c (m + 1) z) m IW)) rfl rfl 29 _ C1.out (by rw [fls_size]; exact info_arr) (by simp) (fls_one _) ?_) | (have _t := tok1; refine gen_at ((w.alloc (.cells (fls c) 29)).alloc (.cells (fls fun _ => 0) 29)) ?_; intro w1 hw1; rw [← hw1] at A0 A1 b0; clear hw1 tok1; have q0 := A0.out.cell (k := m + 1) (by have := HM.out; omega); rw [HI.out] at q0; have q2 := A0.out.cell (k := m) (by have := HM.out; omega); have f0 := A0.out.frozen (m + 1); have f2 := A0.out.frozen m; obtain ⟨z, hz, hz1, hz2⟩ := run_arith_nan (P := Try.prog) w1 .sub (by simp) 22 IW IW sub_inf; have HZ1 := hid hz1; have HZ2 := hid hz2; clear hz1 hz2; have A0 := hid A0.out.drew; have A1 := hid A1.out.drew; have b0 := b0.drew; have B0 := hid (A0.out.set (m + 1) z); have B1 := hid (A1.out.setOther (a := ⟨w.heap.size, m + 1, none⟩) (by simp) (.float .f32 z)); have b1 := b0.setCell (p := ⟨w.heap.size, m + 1, none⟩) (Nat.le_refl _) (.float .f32 z); have C0 := hid (B0.out.set m IW); have C1 := hid (B1.out.setOther (a := ⟨w.heap.size, m, none⟩) (by simp) (.float .f32 IW)); have d1 := b1.setCell (p := ⟨w.heap.size, m, none⟩) (Nat.le_refl _) (.float .f32 IW); clear A0 A1 B0 B1 b0 b1))
  refine bodyPost_ret (results_cell_row rfl _ _ (w.heap.size + 1) 29 (fls (upd (upd c (m + 1) z) m IW)) (0, 0) _ rfl (C1.out.setRow (upd (upd c (m + 1) z) m IW)) Try.underlying29 rfl (by rw [fls_size]; exact info_arr)) rfl ⟨_, rfl, fun i hi => ?_, by simp [upd], ?_, fun i hi => ?_, below_row d1 (by omega) _⟩
  · unfold upd
    split
    · decide
    · split
      · exact HZ2.out
      · exact HB.out i hi
  · have e : upd (upd c (m + 1) z) m IW (m + 1) = z := by unfold upd; rw [if_neg (by omega), if_pos rfl]
    rw [e]
    exact finB_iff'.2 (Nat.le_of_lt HZ1.out)
  · unfold upd
    rw [if_neg (by omega), if_neg (by omega)]

set_option maxHeartbeats 1000000 in
set_option maxRecDepth 100000 in
theorem iLa_ok (c : Nat → Nat) (h : Amts c) (N : Nat) (hN1 : 1 ≤ N) (hN : N < 20) (x : Nat) (hx : Share x) (r : Nat → Nat) (q : Int) (h1 : Good c x (20 - N) → r = brks c x (20 - N) ∧ q = 0) (h2 : ¬ Good c x (20 - N) → r = (fun _ => 0) ∧ q = 4) (w : World) :
    Calls Try.prog 81 #[.agg (fls c), .int .i64 (N : Int), .float .f32 x] w fun e w' => e = .returned (.tuple #[.agg (fls r), .int .i64 q]) ∧ Below w.heap.size w w' := by
  have A0 := hid ((arrAt.new w c 29).alloc (.cells (fls fun _ => 0) 29))
  have A1 := hid (new1 w (.cells (fls c) 29) (fun _ => 0) 29)
  have b0 := boxed2 w (.cells (fls c) 29) (.cells (fls fun _ => 0) 29)
  have HB := hid (iBreaks_ok c h N hN1 hN x hx)
  have HA := hid h
  have HX := hid hx
  have HN1 := hid hN1
  have HN := hid hN
  have H1 := hid h1
  have H2 := hid h2
  clear h hx h1 h2 hN hN1
  go_enter Try.func81, Try.ntmps81
  go_wp2_with (refine wpList_load_row rfl 29 _ rfl (w.heap.size) rfl 29 (fls c) (0, 0) _ A0.out Try.underlying29 rfl (by rw [fls_size]; exact info_arr) ?_)
  refine (HB.out _).mono ?_
  rintro e w1 ⟨rfl, hb1⟩
  have A0 := hid (A0.out.stay hb1)
  have A1 := hid (A1.out.stay hb1)
  have c0 := stp b0 (Nat.le_refl _) hb1
  have hl := hb1.size
  simp at hl
  have HL := hid hl
  clear hl b0 hb1
  have N0 := hid (arrAt.new w1 (fun _ => 0) 29)
  have P0 := hid (N0.out.setRow c)
  have B1 := hid ((A1.out.alloc (.cells (fls fun _ => 0) 29)).setRowOther (k := w1.heap.size) (Nat.ne_of_lt A1.out.lt) (fls c))
  have bX : Below w.heap.size w ((w1.alloc (.cells (fls fun _ => 0) 29)).setRow w1.heap.size (fls c)) := below_row (c0.alloc c0.size _) c0.size _
  have tok1 : True := trivial
  go_wp2_with (first | (have _t := tok1; refine wpList_load_row rfl 29 _ rfl (w.heap.size) rfl 29 (fls c) (0, 0) _ A0.out Try.underlying29 rfl (by rw [fls_size]; exact info_arr) ?_) | (have _t := tok1; refine store_abs rfl 29 _ _ rfl w1.heap.size c rfl rfl 29 _ N0.out info_arr ?_; intro w9 hw9; rw [← hw9] at P0 B1 bX; clear hw9 N0 A0 A1 tok1))
  have hl := HL.out
  go_loopw [10] (fun i wr => ∃ j : Nat, j ≤ 20 - N ∧ i = .int .i64 (19 - (j : Int)) ∧ Hid (arrAt wr w1.heap.size (brks c x j) 29) ∧ Hid (arrAt wr (w.heap.size + 1) (fun _ => 0) 29) ∧ Hid (Good c x j) ∧ Hid (Below w.heap.size w wr)) (fun i _ => (intOf i + 1).toNat)
  case atStart => exact ⟨0, by omega, rfl, P0, B1, hid (fun i hi => by obtain rfl : i = 0 := (by omega); exact fun k hk => amt_fin (HA.out k hk)), hid bX⟩
  case round =>
    obtain ⟨j, hj, rfl, g0, g1, hG, hb⟩ := hrel
    have hNN := HN.out
    have hNN1 := HN1.out
    by_cases hlt : j < 20 - N
    · obtain ⟨m, hm, hm2, hm3⟩ : ∃ m : Nat, (19 - (j : Int)) = ((m + 1 : Nat) : Int) ∧ m < 19 ∧ 19 - j = m + 1 := ⟨18 - j, by omega, by omega, by omega⟩
      have hge : (N : Int) ≤ ((m + 1 : Nat) : Int) := by omega
      have HM := hid hm
      have HM3 := hid hm3
      have HJ := hid hlt
      rw [hm]
      have ha := good_amts HA.out HX.out j (by omega) hG.out
      have hstep : brks c x (j + 1) = brk (brks c x j) (m + 1) x := by show brk (brks c x j) (19 - j) x = _; rw [hm3]
      rcases Classical.em (Fins (brk (brks c x j) (m + 1) x)) with hf | hf
      · have HC := hid (iCl_ok (brks c x j) ha m hm2 x HX.out (brk (brks c x j) (m + 1) x) 0 (fun _ => ⟨rfl, rfl⟩) (fun h => absurd hf h))
        have HG2 := hid (good_step hG.out (by rw [hstep]; exact hf))
        have HS := hid hstep
        clear ha hf hstep hm hm3
        go_wp2_with (refine wpList_load_row rfl 29 _ rfl (w1.heap.size) rfl 29 (fls (brks c x j)) (0, 0) _ g0.out Try.underlying29 rfl (by rw [fls_size]; exact info_arr) ?_)
        refine (HC.out _).mono ?_
        rintro e w3 ⟨rfl, hb3⟩
        have g0 := hid (g0.out.stay hb3)
        have g1 := hid (g1.out.stay hb3)
        have hb := stp hb.out (Nat.le_refl _) hb3
        have n0 := hid (g0.out.setRow (brk (brks c x j) (m + 1) x))
        have n1 := hid (g1.out.setRowOther (k := w1.heap.size) (by omega) (fls (brk (brks c x j) (m + 1) x)))
        have nb := below_row hb (by omega) (g := w1.heap.size) (fls (brk (brks c x j) (m + 1) x))
        go_wp2_with (refine store_abs rfl 29 _ _ rfl w1.heap.size (brk (brks c x j) (m + 1) x) rfl rfl 29 _ g0.out info_arr ?_; intro w9 hw9; rw [← hw9] at n0 n1 nb; clear hw9 g0 g1 hb)
        go_roundw
        case rel => exact ⟨j + 1, by omega, by have := HM.out; first | (simp; omega) | (congr 1; omega), by rw [HS.out]; exact n0, n1, HG2, hid nb⟩
        case measure => first | (simp [intOf]; done) | (simp [intOf]; omega)
      · have HC := hid (iCl_ok (brks c x j) ha m hm2 x HX.out (fun _ => 0) 4 (fun h => absurd h hf) (fun _ => ⟨rfl, rfl⟩))
        have hng : ¬ Good c x (20 - N) := fun hg => hf (by rw [← hstep]; exact hg (j + 1) (by omega))
        obtain ⟨rfl, rfl⟩ := H2.out hng
        clear ha hf hstep hm hm3 hng
        go_wp2_with (refine wpList_load_row rfl 29 _ rfl (w1.heap.size) rfl 29 (fls (brks c x j)) (0, 0) _ g0.out Try.underlying29 rfl (by rw [fls_size]; exact info_arr) ?_)
        refine (HC.out _).mono ?_
        rintro e w3 ⟨rfl, hb3⟩
        have g0 := hid (g0.out.stay hb3)
        have g1 := hid (g1.out.stay hb3)
        have hb := stp hb.out (Nat.le_refl _) hb3
        have n1 := hid (g1.out.setRowOther (k := w1.heap.size) (by omega) (fls (fun _ => 0)))
        have nb := below_row hb (by omega) (g := w1.heap.size) (fls (fun _ => 0))
        have tok2 : True := trivial
        go_wp2_with (first | (have _t := tok2; refine store_abs rfl 29 _ _ rfl w1.heap.size (fun _ => 0) rfl rfl 29 _ g0.out info_arr ?_; intro w9 hw9; rw [← hw9] at n1 nb; clear hw9 g0 g1 hb tok2) | (refine wpList_store_row rfl 29 _ _ rfl (w.heap.size + 1) (fls (fun _ => 0)) rfl rfl 29 _ n1.out (by rw [fls_size]; exact info_arr) (by simp) (fls_one _) ?_))
        exact bodyPost_ret (results_row_tmp rfl _ _ (w.heap.size + 1) 29 (fls (fun _ => 0)) (0, 0) _ rfl (n1.out.setRow (fun _ => 0)) Try.underlying29 rfl (by rw [fls_size]; exact info_arr)) rfl ⟨rfl, below_row nb (by omega) _⟩
    · obtain rfl : j = 20 - N := by omega
      have hge : ¬ (N : Int) ≤ (19 - ((20 - N : Nat) : Int)) := by omega
      obtain ⟨rfl, rfl⟩ := H1.out hG.out
      go_wp2_with (first | (refine wpList_load_row rfl 29 _ rfl (w1.heap.size) rfl 29 (fls (brks c x (20 - N))) (0, 0) _ g0.out Try.underlying29 rfl (by rw [fls_size]; exact info_arr) ?_) | (refine wpList_store_row rfl 29 _ _ rfl (w.heap.size + 1) (fls (brks c x (20 - N))) rfl rfl 29 _ g1.out (by rw [fls_size]; exact info_arr) (by simp) (fls_one _) ?_))
      exact bodyPost_ret (results_row_tmp rfl _ _ (w.heap.size + 1) 29 (fls (brks c x (20 - N))) (0, 0) _ rfl (g1.out.setRow (brks c x (20 - N))) Try.underlying29 rfl (by rw [fls_size]; exact info_arr)) rfl ⟨rfl, below_row hb.out (by omega) _⟩

/-- What the model has once a number was not finite: the class that comes next is infinite. -/
def Gone (d : Nat → Nat) (j : Nat) : Prop := (∀ i, i < 20 → d i < 4294967296) ∧ ¬ Fins d ∧ (d (19 - j) = IW) ∧ (∀ i, i < 19 - j → amtB (d i) = true)

theorem gone_first {b : Nat → Nat} (h : Amts b) {m x j : Nat} (hm : m < 19) (hj : 19 - j = m + 1) (hx : Share x) (hf : ¬ Fins (brk b (m + 1) x)) : Gone (brk b (m + 1) x) (j + 1) := by
  obtain ⟨h1, h2⟩ := brk_bad h hm hx hf
  refine ⟨fun i hi => ?_, hf, ?_, fun i hi => h2 i (by omega) (by omega)⟩
  · exact nn_lt (brk_nn h (k := m + 1) (by omega) (by omega) hx hi)
  · rw [show 19 - (j + 1) = m by omega]; exact h1

theorem gone_next {c d : Nat → Nat} {m j : Nat} (hg : Gone c j) (hm : m < 19) (hj : 19 - j = m + 1) (h1 : ∀ i, i < 20 → d i < 4294967296) (h2 : d m = IW) (h3 : finB (d (m + 1)) = false) (h4 : ∀ i, i < m → d i = c i) : Gone d (j + 1) := by
  refine ⟨h1, fun hf => ?_, ?_, fun i hi => ?_⟩
  · rw [hf (m + 1) (by omega)] at h3; cases h3
  · rw [show 19 - (j + 1) = m by omega]; exact h2
  · rw [h4 i (by omega)]; exact hg.2.2.2 i (by omega)

set_option maxHeartbeats 1000000 in
set_option maxRecDepth 100000 in
theorem sLa_ok (c : Nat → Nat) (h : Amts c) (N : Nat) (hN1 : 1 ≤ N) (hN : N < 20) (x : Nat) (hx : Share x) (r : Nat → Nat) (q : Int) (h1 : Good c x (20 - N) → r = brks c x (20 - N) ∧ q = 0) (h2 : ¬ Good c x (20 - N) → r = (fun _ => 0) ∧ q = 4) (w : World) :
    Calls Try.prog 80 #[.agg (fls c), .int .i64 (N : Int), .float .f32 x] w fun e w' => e = .returned (.tuple #[.agg (fls r), .int .i64 q]) ∧ Below w.heap.size w w' := by
  have A0 := hid ((arrAt.new w c 29).alloc (.cells (fls fun _ => 0) 29))
  have A1 := hid (new1 w (.cells (fls c) 29) (fun _ => 0) 29)
  have b0 := boxed2 w (.cells (fls c) 29) (.cells (fls fun _ => 0) 29)
  have HB := hid (sBreaks_ok c h N hN1 hN x hx)
  have HA := hid h
  have HX := hid hx
  have HN1 := hid hN1
  have HN := hid hN
  have H1 := hid h1
  have H2 := hid h2
  clear h hx h1 h2 hN hN1
  go_enter Try.func80, Try.ntmps80
  go_wp2_with fail
  refine (HB.out _ w.heap.size 29 A0.out).mono ?_
  rintro e w1 ⟨rfl, rfl⟩
  generalize ((w.alloc (.cells (fls c) 29)).alloc (.cells (fls fun _ => 0) 29)) = w1 at A0 A1 b0 ⊢
  go_wp2_with fail
  go_loopw [9] (fun i wr => ∃ (j : Nat) (d : Nat → Nat), j ≤ 20 - N ∧ i = .int .i64 (19 - (j : Int)) ∧ Hid (arrAt wr w.heap.size d 29) ∧ Hid ((Good c x j ∧ d = brks c x j) ∨ (¬ Good c x (20 - N) ∧ x ≠ 0 ∧ Gone d j)) ∧ Hid (arrAt wr (w.heap.size + 1) (fun _ => 0) 29) ∧ Hid (Below w.heap.size w wr)) (fun i _ => (intOf i + 1).toNat)
  case atStart => exact ⟨0, c, by omega, rfl, A0, hid (.inl ⟨fun i hi => by obtain rfl : i = 0 := (by omega); exact fun k hk => amt_fin (HA.out k hk), rfl⟩), A1, hid b0⟩
  case round =>
    obtain ⟨j, d, hj, rfl, g0, hG, g1, hb⟩ := hrel
    have hNN := HN.out
    have hNN1 := HN1.out
    by_cases hlt : j < 20 - N
    · obtain ⟨m, hm, hm2, hm3⟩ : ∃ m : Nat, (19 - (j : Int)) = ((m + 1 : Nat) : Int) ∧ m < 19 ∧ 19 - j = m + 1 := ⟨18 - j, by omega, by omega, by omega⟩
      have hge : (N : Int) ≤ ((m + 1 : Nat) : Int) := by omega
      have HM := hid hm
      have HM3 := hid hm3
      have HM2 := hid hm2
      rw [hm]
      rcases hG.out with ⟨hg, rfl⟩ | ⟨hg, hx0, hgo⟩
      · have ha := good_amts HA.out HX.out j (by omega) hg
        have hstep : brks c x (j + 1) = brk (brks c x j) (m + 1) x := by show brk (brks c x j) (19 - j) x = _; rw [hm3]
        have HC := hid (sBreak (brks c x j) ha m hm2 x HX.out)
        have HNX : Hid ((Good c x (j + 1) ∧ brk (brks c x j) (m + 1) x = brks c x (j + 1)) ∨ (¬ Good c x (20 - N) ∧ x ≠ 0 ∧ Gone (brk (brks c x j) (m + 1) x) (j + 1))) := by
          rcases Classical.em (Fins (brk (brks c x j) (m + 1) x)) with hf | hf
          · exact hid (.inl ⟨good_step hg (by rw [hstep]; exact hf), hstep.symm⟩)
          · exact hid (.inr ⟨fun hg' => hf (by rw [← hstep]; exact hg' (j + 1) (by omega)), share_pos ha hm2 HX.out hf, gone_first ha hm2 hm3 HX.out hf⟩)
        clear ha hstep hm hm3 hG hg
        go_wp2_with (refine wpList_load_row rfl 29 _ rfl (w.heap.size) rfl 29 (fls (brks c x j)) (0, 0) _ g0.out Try.underlying29 rfl (by rw [fls_size]; exact info_arr) ?_)
        refine (HC.out _).mono ?_
        rintro e w3 ⟨rfl, hb3⟩
        have g0 := hid (g0.out.stay hb3)
        have g1 := hid (g1.out.stay hb3)
        have hb := stp hb.out (Nat.le_refl _) hb3
        have n0 := hid (g0.out.setRow (brk (brks c x j) (m + 1) x))
        have n1 := hid (g1.out.setRowOther (k := w.heap.size) (by omega) (fls (brk (brks c x j) (m + 1) x)))
        have nb := below_row hb (Nat.le_refl _) (g := w.heap.size) (fls (brk (brks c x j) (m + 1) x))
        go_wp2_with (refine store_abs rfl 29 _ _ rfl w.heap.size (brk (brks c x j) (m + 1) x) rfl rfl 29 _ g0.out info_arr ?_; intro w9 hw9; rw [← hw9] at n0 n1 nb; clear hw9 g0 g1 hb)
        go_roundw
        case rel => exact ⟨j + 1, _, by omega, by have := HM.out; first | (simp; omega) | (congr 1; omega), n0, HNX, n1, hid nb⟩
        case measure => first | (simp [intOf]; done) | (simp [intOf]; omega)
      · have HC := hid (sBreakInf d hgo.1 m hm2 (by rw [← hm3]; exact hgo.2.2.1) (hgo.2.2.2 m (by omega)) x HX.out hx0)
        have HGO := hid hgo
        have HG := hid hg
        have HX0 := hid hx0
        clear hm hm3 hG hg hx0 hgo
        go_wp2_with (refine wpList_load_row rfl 29 _ rfl (w.heap.size) rfl 29 (fls d) (0, 0) _ g0.out Try.underlying29 rfl (by rw [fls_size]; exact info_arr) ?_)
        refine (HC.out _).mono ?_
        rintro e w3 ⟨d2, rfl, e1, e2, e3, e4, hb3⟩
        have HNX := hid (gone_next HGO.out HM2.out HM3.out e1 e2 e3 e4)
        clear e1 e2 e3 e4
        have g0 := hid (g0.out.stay hb3)
        have g1 := hid (g1.out.stay hb3)
        have hb := stp hb.out (Nat.le_refl _) hb3
        have n0 := hid (g0.out.setRow d2)
        have n1 := hid (g1.out.setRowOther (k := w.heap.size) (by omega) (fls d2))
        have nb := below_row hb (Nat.le_refl _) (g := w.heap.size) (fls d2)
        go_wp2_with (refine store_abs rfl 29 _ _ rfl w.heap.size d2 rfl rfl 29 _ g0.out info_arr ?_; intro w9 hw9; rw [← hw9] at n0 n1 nb; clear hw9 g0 g1 hb)
        go_roundw
        case rel => exact ⟨j + 1, d2, by omega, by have := HM.out; first | (simp; omega) | (congr 1; omega), n0, hid (.inr ⟨HG.out, HX0.out, HNX.out⟩), n1, hid nb⟩
        case measure => first | (simp [intOf]; done) | (simp [intOf]; omega)
    · obtain rfl : j = 20 - N := by omega
      have hge : ¬ (N : Int) ≤ (19 - ((20 - N : Nat) : Int)) := by omega
      have HF : Hid (∀ w, Calls Try.prog 162 #[.agg (fls d)] w fun e w' => e = .returned (.tuple #[.agg (fls r), .int .i64 q]) ∧ Below w.heap.size w w') := by
        rcases hG.out with ⟨hg, rfl⟩ | ⟨hg, hx0, hgo⟩
        · obtain ⟨rfl, rfl⟩ := H1.out hg
          have hf := hg (20 - N) (Nat.le_refl _)
          exact hid (sMade _ (fun i hi => amt_lt (good_amts HA.out HX.out (20 - N) (by omega) hg i hi)) _ _ (fun _ => ⟨rfl, rfl⟩) (fun h => absurd hf h))
        · obtain ⟨rfl, rfl⟩ := H2.out hg
          exact hid (sMade d hgo.1 _ _ (fun h => absurd h hgo.2.1) (fun _ => ⟨rfl, rfl⟩))
      clear hG
      go_wp2_with (refine wpList_load_row rfl 29 _ rfl (w.heap.size) rfl 29 (fls d) (0, 0) _ g0.out Try.underlying29 rfl (by rw [fls_size]; exact info_arr) ?_)
      refine (HF.out _).mono ?_
      rintro e w5 ⟨rfl, hb5⟩
      have B3 := hid (g1.out.stay hb5)
      have b5 := stp hb.out (Nat.le_refl _) hb5
      go_wp2_with (refine wpList_store_row rfl 29 _ _ rfl (w.heap.size + 1) (fls r) rfl rfl 29 _ B3.out (by rw [fls_size]; exact info_arr) (by simp) (fls_one _) ?_)
      exact bodyPost_ret (results_row_tmp rfl _ _ (w.heap.size + 1) 29 (fls r) (0, 0) _ rfl (B3.out.setRow r) Try.underlying29 rfl (by rw [fls_size]; exact info_arr)) rfl ⟨rfl, below_row b5 (by omega) _⟩

set_option maxRecDepth 100000 in
theorem coreBreakLarge (x0 : Nat → Nat) (x1 : Int) (x2 : Nat) (r0 : Nat → Nat) (hl0 : ∀ i, i < 20 → r0 i < 4294967296) (hf0 : ∀ i, i < 20 → finB (r0 i) = true) (r1 : Int)
    (hS : ∀ w, Calls Try.prog 80 #[.agg (fls x0), .int .i64 x1, .float .f32 x2] w fun e w' => e = .returned (.tuple #[.agg (fls r0), .int .i64 r1]) ∧ Below w.heap.size w w')
    (hI : ∀ w, Calls Try.prog 81 #[.agg (fls x0), .int .i64 x1, .float .f32 x2] w fun e w' => e = .returned (.tuple #[.agg (fls r0), .int .i64 r1]) ∧ Below w.heap.size w w') (w : World) :
    Calls Try.prog 23 #[.agg (fls x0), .int .i64 x1, .float .f32 x2] w fun e w' => e = .returned (.bool true) ∧ Below w.heap.size w w' := by
  have A0 := hid (heap_alloc_new w (.cells (fls x0) 28))
  have b0 := boxed w (.cells (fls x0) 28)
  have HS := hid hS
  have HI := hid hI
  clear hS hI
  have Hl0 := hid hl0
  have Hf0 := hid hf0
  clear hl0 hf0
  go_enter Try.func23, Try.ntmps23
  go_wp2_with (first | (refine wpList_load_row rfl 28 _ rfl (w.heap.size) rfl 28 (fls x0) (0, 0) _ A0.out Try.underlying28 rfl (by rw [fls_size]; exact info_a20) ?_))
  refine (toSizes x0 _).mono ?_
  rintro e u0 ⟨rfl, hbu0⟩
  have bu0 := stp b0 (Nat.le_refl _) hbu0
  have A0 := hid (stayB A0.out hbu0)
  go_wp2_with fail
  refine (HS.out _).mono ?_
  rintro e v0 ⟨rfl, hbv0⟩
  have bv0 := stp bu0 (Nat.le_refl _) hbv0
  have A0 := hid (stayB A0.out hbv0)
  have N0 := hid (heap_alloc_new v0 (.cells (fls fun _ => 0) 29))
  have A0 := hid (rowOther (allocB A0.out (.cells (fls fun _ => 0) 29)) (k := v0.heap.size) (Nat.ne_of_lt (lt_of_block A0.out)) (fls r0))
  have R0 := hid (setRow_heap (v0.alloc (.cells (fls fun _ => 0) 29)) v0.heap.size _ (fls r0) _ _ N0.out)
  have bX0 : Below w.heap.size w ((v0.alloc (.cells (fls fun _ => 0) 29)).setRow v0.heap.size (fls r0)) := below_row (bv0.alloc bv0.size _) bv0.size _
  go_wp2_with (first | (refine wpList_load_row rfl 28 _ rfl (w.heap.size) rfl 28 (fls x0) (0, 0) _ A0.out Try.underlying28 rfl (by rw [fls_size]; exact info_a20) ?_) | (refine wpList_store_row rfl 29 _ _ rfl (v0.heap.size) (fls r0) rfl rfl 29 _ N0.out (by rw [fls_size]; exact info_arr) (by simp) (fls_one r0) ?_))
  refine (toSizes x0 _).mono ?_
  rintro e u1 ⟨rfl, hbu1⟩
  have bu1 := stp bX0 (Nat.le_refl _) hbu1
  have A0 := hid (stayB A0.out hbu1)
  have R0 := hid (stayB R0.out hbu1)
  go_wp2_with fail
  refine (HI.out _).mono ?_
  rintro e v1 ⟨rfl, hbv1⟩
  have bv1 := stp bu1 (Nat.le_refl _) hbv1
  have A0 := hid (stayB A0.out hbv1)
  have R0 := hid (stayB R0.out hbv1)
  have N1 := hid (heap_alloc_new v1 (.cells (fls fun _ => 0) 29))
  have A0 := hid (rowOther (allocB A0.out (.cells (fls fun _ => 0) 29)) (k := v1.heap.size) (Nat.ne_of_lt (lt_of_block A0.out)) (fls r0))
  have R0 := hid (rowOther (allocB R0.out (.cells (fls fun _ => 0) 29)) (k := v1.heap.size) (Nat.ne_of_lt (lt_of_block R0.out)) (fls r0))
  have R1 := hid (setRow_heap (v1.alloc (.cells (fls fun _ => 0) 29)) v1.heap.size _ (fls r0) _ _ N1.out)
  have bX1 : Below w.heap.size w ((v1.alloc (.cells (fls fun _ => 0) 29)).setRow v1.heap.size (fls r0)) := below_row (bv1.alloc bv1.size _) bv1.size _
  go_wp2_with (first | (refine wpList_store_row rfl 29 _ _ rfl (v1.heap.size) (fls r0) rfl rfl 29 _ N1.out (by rw [fls_size]; exact info_arr) (by simp) (fls_one r0) ?_) | (refine wpList_load_row rfl 29 _ rfl (v1.heap.size) rfl 29 (fls r0) (0, 0) _ R1.out Try.underlying29 rfl (by rw [fls_size]; exact info_arr) ?_) | (refine wpList_load_row rfl 29 _ rfl (v0.heap.size) rfl 29 (fls r0) (0, 0) _ R0.out Try.underlying29 rfl (by rw [fls_size]; exact info_arr) ?_))
  refine (eqSizes r0 Hl0.out Hf0.out _).mono ?_
  rintro e z ⟨rfl, hbz⟩
  have bz := stp bX1 (Nat.le_refl _) hbz
  go_wp2
  go_ret
  exact ⟨rfl, bz⟩

theorem large_lit (c : Nat → Nat) (h : Amts c) (x s : Nat) (hx : Share x) (hs : s ≤ 19) : ∃ (r : Nat → Nat) (q : Int), (Good c x s → r = brks c x s ∧ q = 0) ∧ (¬ Good c x s → r = (fun _ => 0) ∧ q = 4) ∧ Fins r ∧ (∀ i, i < 20 → r i < 4294967296) := by
  rcases Classical.em (Good c x s) with hg | hg
  · exact ⟨brks c x s, 0, fun _ => ⟨rfl, rfl⟩, fun h' => absurd hg h', hg s (Nat.le_refl _), fun i hi => amt_lt (good_amts h hx s hs hg i hi)⟩
  · exact ⟨fun _ => 0, 4, fun h' => absurd h' hg, fun _ => ⟨rfl, rfl⟩, zf, zl⟩

theorem lawBreakLarge (c : Nat → Nat) (hb : ∀ i, i < 20 → c i < 4294967296) (n : Int) (_h1 : -9223372036854775808 ≤ n) (_h2 : n ≤ 9223372036854775807) (x : Nat) (hx : x < 4294967296) (w : World) :
    Calls Try.prog 23 #[.agg (fls c), .int .i64 n, .float .f32 x] w fun e w' => e = .returned (.bool true) ∧ Below w.heap.size w w' := by
  by_cases h : Amts c
  · by_cases hn : 1 ≤ n ∧ n < 20
    · obtain ⟨N, rfl⟩ := Int.eq_ofNat_of_zero_le (show 0 ≤ n by omega)
      have hN1 : 1 ≤ N := by omega
      have hN : N < 20 := by omega
      by_cases hs : Share x
      · obtain ⟨r, q, h1, h2, h3, h4⟩ := large_lit c h x (20 - N) hs (by omega)
        exact coreBreakLarge c N x r h4 h3 q (sLa_ok c h N hN1 hN x hs r q h1 h2) (iLa_ok c h N hN1 hN x hs r q h1 h2) w
      · exact coreBreakLarge c N x (fun _ => 0) zl zf 2 (sLa_share c h N hN1 hN x hx hs) (iLa_share c h N hN1 hN x hx hs) w
    · exact coreBreakLarge c n x (fun _ => 0) zl zf 2 (sLa_class c h n hn x) (iLa_class c h n hn x) w
  · exact coreBreakLarge c n x (fun _ => 0) zl zf 1 (sLa_bad c hb h n x) (iLa_bad c hb h n x) w

theorem words_cons : ∀ (v : List Char) (r : List Char), (∀ c ∈ v, c ≠ Char.ofNat 32) → wordsSigns (v ++ Char.ofNat 32 :: r) = v :: wordsSigns r
  | [], r, _ => rfl
  | c :: v, r, h => by
    have ih := words_cons v r (fun x hx => h x (by simp [hx]))
    have hc : c ≠ Char.ofNat 32 := h c (by simp)
    show wordsSigns (c :: (v ++ Char.ofNat 32 :: r)) = _
    rw [wordsSigns.eq_3 _ _ (fun e => hc e), ih]

def w0 : List Nat := [104, 97, 114, 110, 101, 115, 115]

def w1 : List Nat := [97, 97, 48, 52, 102, 49, 99, 51, 50, 54, 56, 53, 56, 53, 102, 57, 99, 56, 55, 101, 50, 56, 99, 101, 57, 99, 99, 99, 52, 98, 56, 57, 52, 51, 53, 102, 101, 102, 99, 51, 54, 98, 102, 57, 51, 50, 53, 51, 57, 101, 54, 98, 50, 101, 98, 55, 50, 53, 53, 97, 54, 51, 54, 55]

def w2 : List Nat := [99, 117, 116]

def w3 : List Nat := [97, 116, 32, 108, 111, 111, 112, 46, 101, 120, 97, 109, 112, 108, 101, 47, 103, 48, 49, 50, 50, 52, 47, 108, 97, 119, 115, 46, 70, 110, 69, 120, 97, 99, 116, 84, 104, 105, 114, 100, 82, 111, 111, 116, 32, 108, 111, 111, 112, 46, 101, 120, 97, 109, 112, 108, 101, 47, 103, 48, 49, 50, 50, 52, 47, 108, 97, 119, 115, 46, 70, 110, 69, 120, 97, 99, 116, 83, 104, 105, 102, 116, 77, 97, 115, 115, 101, 115, 32, 108, 111, 111, 112, 46, 101, 120, 97, 109, 112, 108, 101, 47, 103, 48, 49, 50, 50, 52, 47, 108, 97, 119, 115, 46, 70, 110, 69, 120, 97, 99, 116, 71, 97, 105, 110, 115, 65, 116, 32, 108, 111, 111, 112, 46, 101, 120, 97, 109, 112, 108, 101, 47, 103, 48, 49, 50, 50, 52, 47, 108, 97, 119, 115, 46, 70, 110, 69, 120, 97, 99, 116, 71, 114, 111, 119, 79, 110, 99, 101, 32, 108, 111, 111, 112, 46, 101, 120, 97, 109, 112, 108, 101, 47, 103, 48, 49, 50, 50, 52, 47, 108, 97, 119, 115, 46, 70, 110, 69, 120, 97, 99, 116, 71, 114, 111, 119, 83, 116, 101, 112, 115, 32, 108, 111, 111, 112, 46, 101, 120, 97, 109, 112, 108, 101, 47, 103, 48, 49, 50, 50, 52, 47, 108, 97, 119, 115, 46, 70, 110, 69, 120, 97, 99, 116, 83, 116, 101, 112, 115, 84, 111, 68, 114, 121, 32, 108, 111, 111, 112, 46, 101, 120, 97, 109, 112, 108, 101, 47, 103, 48, 49, 50, 50, 52, 47, 108, 97, 119, 115, 46, 70, 110, 69, 120, 97, 99, 116, 86, 97, 108, 105, 100, 75, 101, 114, 110, 101, 108, 32, 108, 111, 111, 112, 46, 101, 120, 97, 109, 112, 108, 101, 47, 103, 48, 49, 50, 50, 52, 47, 108, 97, 119, 115, 46, 70, 110, 69, 120, 97, 99, 116, 83, 97, 109, 101, 75, 101, 114, 110, 101, 108, 32, 108, 111, 111, 112, 46, 101, 120, 97, 109, 112, 108, 101, 47, 103, 48, 49, 50, 50, 52, 47, 108, 97, 119, 115, 46, 70, 110, 69, 120, 97, 99, 116, 70, 97, 108, 108, 79, 102, 32, 108, 111, 111, 112, 46, 101, 120, 97, 109, 112, 108, 101, 47, 103, 48, 49, 50, 50, 52, 47, 108, 97, 119, 115, 46, 70, 110, 69, 120, 97, 99, 116, 70, 108, 97, 116, 75, 101, 114, 110, 101, 108, 32, 108, 111, 111, 112, 46, 101, 120, 97, 109, 112, 108, 101, 47, 103, 48, 49, 50, 50, 52, 47, 108, 97, 119, 115, 46, 70, 110, 69, 120, 97, 99, 116, 83, 117, 109, 75, 101, 114, 110, 101, 108, 32, 108, 111, 111, 112, 46, 101, 120, 97, 109, 112, 108, 101, 47, 103, 48, 49, 50, 50, 52, 47, 108, 97, 119, 115, 46, 70, 110, 69, 120, 97, 99, 116, 70, 97, 108, 108, 75, 101, 114, 110, 101, 108, 32, 108, 111, 111, 112, 46, 101, 120, 97, 109, 112, 108, 101, 47, 103, 48, 49, 50, 50, 52, 47, 108, 97, 119, 115, 46, 70, 110, 69, 120, 97, 99, 116, 65, 100, 100, 75, 101, 114, 110, 101, 108, 115, 32, 108, 111, 111, 112, 46, 101, 120, 97, 109, 112, 108, 101, 47, 103, 48, 49, 50, 50, 52, 47, 108, 97, 119, 115, 46, 70, 110, 69, 120, 97, 99, 116, 83, 99, 97, 108, 101, 75, 101, 114, 110, 101, 108, 32, 108, 111, 111, 112, 46, 101, 120, 97, 109, 112, 108, 101, 47, 103, 48, 49, 50, 50, 52, 47, 108, 97, 119, 115, 46, 70, 110, 69, 120, 97, 99, 116, 69, 118, 101, 110, 116, 115, 79, 102, 32, 108, 111, 111, 112, 46, 101, 120, 97, 109, 112, 108, 101, 47, 103, 48, 49, 50, 50, 52, 47, 108, 97, 119, 115, 46, 70, 110, 69, 120, 97, 99, 116, 76, 111, 115, 115, 101, 115, 79, 102, 32, 108, 111, 111, 112, 46, 101, 120, 97, 109, 112, 108, 101, 47, 103, 48, 49, 50, 50, 52, 47, 108, 97, 119, 115, 46, 70, 110, 69, 120, 97, 99, 116, 67, 111, 108, 108, 105, 100, 101, 32, 108, 111, 111, 112, 46, 101, 120, 97, 109, 112, 108, 101, 47, 103, 48, 49, 50, 50, 52, 47, 108, 97, 119, 115, 46, 70, 110, 69, 120, 97, 99, 116, 67, 111, 108, 108, 105, 100, 101, 83, 116, 101, 112, 115, 32, 108, 111, 111, 112, 46, 101, 120, 97, 109, 112, 108, 101, 47, 103, 48, 49, 50, 50, 52, 47, 108, 97, 119, 115, 46, 70, 110, 69, 120, 97, 99, 116, 82, 97, 105, 110, 77, 97, 100, 101, 32, 108, 111, 111, 112, 46, 101, 120, 97, 109, 112, 108, 101, 47, 103, 48, 49, 50, 50, 52, 47, 108, 97, 119, 115, 46, 70, 110, 69, 120, 97, 99, 116, 66, 114, 101, 97, 107, 67, 108, 97, 115, 115, 32, 108, 111, 111, 112, 46, 101, 120, 97, 109, 112, 108, 101, 47, 103, 48, 49, 50, 50, 52, 47, 108, 97, 119, 115, 46, 70, 110, 69, 120, 97, 99, 116, 66, 114, 101, 97, 107, 76, 97, 114, 103, 101, 32, 108, 111, 111, 112, 46, 101, 120, 97, 109, 112, 108, 101, 47, 103, 48, 49, 50, 50, 52, 47, 108, 97, 119, 115, 46, 70, 110, 69, 120, 97, 99, 116, 86, 97, 108, 105, 100, 66, 111, 120, 32, 108, 111, 111, 112, 46, 101, 120, 97, 109, 112, 108, 101, 47, 103, 48, 49, 50, 50, 52, 47, 108, 97, 119, 115, 46, 70, 110, 69, 120, 97, 99, 116, 77, 97, 115, 115, 79, 102, 66, 111, 120, 32, 108, 111, 111, 112, 46, 101, 120, 97, 109, 112, 108, 101, 47, 103, 48, 49, 50, 50, 52, 47, 108, 97, 119, 115, 46, 70, 110, 69, 120, 97, 99, 116, 83, 105, 122, 101, 115, 79, 102, 66, 111, 120, 32, 108, 111, 111, 112, 46, 101, 120, 97, 109, 112, 108, 101, 47, 103, 48, 49, 50, 50, 52, 47, 108, 97, 119, 115, 46, 70, 110, 69, 120, 97, 99, 116, 67, 111, 108, 108, 105, 100, 101, 80, 97, 105, 114, 32, 108, 111, 111, 112, 46, 101, 120, 97, 109, 112, 108, 101, 47, 103, 48, 49, 50, 50, 52, 47, 108, 97, 119, 115, 46, 70, 110, 69, 120, 97, 99, 116, 67, 111, 108, 108, 105, 100, 101, 80, 97, 105, 114, 115, 32, 108, 111, 111, 112, 46, 101, 120, 97, 109, 112, 108, 101, 47, 103, 48, 49, 50, 50, 52, 47, 108, 97, 119, 115, 46, 70, 110, 69, 120, 97, 99, 116, 68, 114, 97, 119, 80, 97, 105, 114, 115, 32, 108, 111, 111, 112, 46, 101, 120, 97, 109, 112, 108, 101, 47, 103, 48, 49, 50, 50, 52, 47, 108, 97, 119, 115, 46, 70, 110, 69, 120, 97, 99, 116, 71, 97, 116, 104, 101, 114, 68, 117, 115, 116]

def letters (l : List Nat) : List Char := l.map Char.ofNat

theorem head_reads : Try.prog.initOrder = String.ofList (letters w0 ++ Char.ofNat 32 :: (letters w1 ++ Char.ofNat 32 :: (letters w2 ++ Char.ofNat 32 :: letters w3))) := by kernel_rfl

theorem no_blank {l : List Nat} (h : l.all (fun n => Char.ofNat n != Char.ofNat 32) = true) : ∀ c ∈ letters l, c ≠ Char.ofNat 32 := by
  intro c hc
  obtain ⟨n, hn, rfl⟩ := List.mem_map.1 hc
  have := List.all_eq_true.1 h n hn
  simpa using this

theorem h0 : letters w0 = "harness".toList := by kernel_rfl

theorem h2 : letters w2 = "cut".toList := by kernel_rfl

theorem sums : isSumSigns (letters w1) = true := by kernel_rfl

theorem words : wordsSigns Try.prog.initOrder.toList = "harness".toList :: letters w1 :: "cut".toList :: wordsSigns (letters w3) := by
  rw [head_reads, String.toList_ofList, words_cons _ _ (no_blank (by decide +kernel)), words_cons _ _ (no_blank (by decide +kernel)), words_cons _ _ (no_blank (by decide +kernel)), h0, h2]

theorem behind : ∃ r, behindMainWord (wordsSigns Try.prog.initOrder.toList) = "cut".toList :: r := by
  refine ⟨wordsSigns (letters w3), ?_⟩
  rw [words]
  generalize wordsSigns (letters w3) = r
  have hs := sums
  generalize letters w1 = v at hs
  unfold behindMainWord
  simp [hs]

theorem not_later : Try.prog.laysLater = false := by kernel_rfl

theorem no_reflect : Try.prog.bearsReflect = false := by kernel_rfl

theorem no_doors : Try.prog.doorFits [] = true := by kernel_rfl

theorem strips (r : List (List Char)) : stripLifts liftWords ("cut".toList :: r) = ([], "cut".toList :: r) := by kernel_rfl

theorem may_enter_of (P : Program) (r : List (List Char)) (h : behindMainWord (wordsSigns P.initOrder.toList) = "cut".toList :: r) (h1 : P.laysLater = false) (h2 : P.bearsReflect = false) (h3 : P.doorFits [] = true) : P.mayEnter = true := by
  unfold Program.mayEnter
  rw [h]
  dsimp only
  rw [strips, h1, h2, h3]
  kernel_rfl

theorem lifts_final_of (P : Program) (r : List (List Char)) (h : behindMainWord (wordsSigns P.initOrder.toList) = "cut".toList :: r) : P.liftsFinal = false := by
  unfold Program.liftsFinal Program.headLifts
  rw [h]
  dsimp only
  rw [strips]
  kernel_rfl

theorem made_of (P : Program) (r : List (List Char)) (h : behindMainWord (wordsSigns P.initOrder.toList) = "cut".toList :: r) : P.make = some .cut := by
  unfold Program.make
  rw [h]
  kernel_rfl

theorem may_enter : Try.prog.mayEnter = true := let ⟨r, h⟩ := behind; may_enter_of _ r h not_later no_reflect no_doors

theorem lifts_final : Try.prog.liftsFinal = false := let ⟨r, h⟩ := behind; lifts_final_of _ r h

theorem made : Try.prog.make = some .cut := let ⟨r, h⟩ := behind; made_of _ r h

theorem laid : laidOutB Try.prog = true := by kernel_rfl

theorem rowed : mapsRowed Try.prog = true := by kernel_rfl

theorem no_stops : Try.prog.stops = [] := by kernel_rfl

theorem no_knobs : Try.prog.stopKnobs = [] := by kernel_rfl

theorem plain_keys : Try.prog.plainKeys = false := by kernel_rfl

theorem stops_heard : Try.prog.stopsHeard = true := by kernel_rfl

theorem arr3 {α : Type} {cs : Array α} (h : cs.size = 3) : ∃ c0 c1 c2, cs = #[c0, c1, c2] := by
  obtain ⟨l⟩ := cs
  match l, h with
  | [a, b, c], _ => exact ⟨a, b, c, rfl⟩

theorem own : ownKnob Try.prog.godebug = none := by kernel_rfl

theorem cells20 : Try.prog.cellsOf 28 = 20 := by kernel_rfl

theorem types20 : Try.prog.cellTypes Try.prog.depth 28 = some (List.replicate 20 22) := by kernel_rfl

theorem rda : Try.prog.readableRec 28 = true ∧ 28 < Try.prog.types.size := ⟨by kernel_rfl, of_decide_eq_true (by kernel_rfl)⟩

theorem rdf : Try.prog.readableRec 22 = true ∧ 22 < Try.prog.types.size := ⟨by kernel_rfl, of_decide_eq_true (by kernel_rfl)⟩

theorem rdA : Try.prog.readableRec 40 = true ∧ 40 < Try.prog.types.size := ⟨by kernel_rfl, of_decide_eq_true (by kernel_rfl)⟩

theorem rdi : Try.prog.readableRec 2 = true ∧ 2 < Try.prog.types.size := ⟨by kernel_rfl, of_decide_eq_true (by kernel_rfl)⟩

theorem rdb : Try.prog.readableRec 76 = true ∧ 76 < Try.prog.types.size := ⟨by kernel_rfl, of_decide_eq_true (by kernel_rfl)⟩

theorem rdp : Try.prog.readableRec 86 = true ∧ 86 < Try.prog.types.size := ⟨by kernel_rfl, of_decide_eq_true (by kernel_rfl)⟩

theorem rdk : Try.prog.readableRec 51 = true ∧ 51 < Try.prog.types.size := ⟨by kernel_rfl, of_decide_eq_true (by kernel_rfl)⟩
end Go.Proofs.Ytnnhoololemaaaa

namespace Go.Proofs.Ytnnhoololemaaaa.fnExactBreakLarge
open Go.RowKit Go.Fl Go.ChangeShapes Go.WideShapes Go.ChangeAt

theorem closed : joinedFacts Try.prog 23 Try.f23 Rows.fnExactBreakLargeSpec Rows.fnExactBreakLargeRow = true := by
  unfold joinedFacts
  simp only [Bool.and_eq_true]
  exact ⟨⟨⟨⟨⟨⟨⟨⟨⟨⟨⟨⟨⟨⟨⟨⟨⟨⟨⟨⟨⟨⟨⟨⟨⟨⟨⟨⟨⟨⟨⟨(by as_aux_lemma => kernel_rfl),
    laid⟩,
    rowed⟩,
    (by as_aux_lemma => kernel_rfl)⟩,
    (by as_aux_lemma => kernel_rfl)⟩,
    (by as_aux_lemma => kernel_rfl)⟩,
    (by rw [no_stops]; rfl)⟩,
    (by as_aux_lemma => kernel_rfl)⟩,
    (by rw [no_knobs]; rfl)⟩,
    (by as_aux_lemma => kernel_rfl)⟩,
    (by as_aux_lemma => kernel_rfl)⟩,
    (by as_aux_lemma => kernel_rfl)⟩,
    (by as_aux_lemma => kernel_rfl)⟩,
    (by as_aux_lemma => kernel_rfl)⟩,
    (by as_aux_lemma => kernel_rfl)⟩,
    (by as_aux_lemma => kernel_rfl)⟩,
    (by as_aux_lemma => kernel_rfl)⟩,
    (by as_aux_lemma => kernel_rfl)⟩,
    (by as_aux_lemma => kernel_rfl)⟩,
    (by as_aux_lemma => kernel_rfl)⟩,
    (by as_aux_lemma => kernel_rfl)⟩,
    (by as_aux_lemma => kernel_rfl)⟩,
    (show (Rows.fnExactBreakLargeRow.plainKeys == Try.prog.plainKeys) = true by rw [plain_keys]; rfl)⟩,
    (by as_aux_lemma => kernel_rfl)⟩,
    stops_heard⟩,
    may_enter⟩,
    (show (Rows.fnExactBreakLargeRow.lifted == Try.prog.liftsFinal) = true by rw [lifts_final]; rfl)⟩,
    (show (Try.prog.make == some Rows.fnExactBreakLargeRow.make) = true by rw [made]; rfl)⟩,
    (by as_aux_lemma => kernel_rfl)⟩,
    (by as_aux_lemma => kernel_rfl)⟩,
    (by as_aux_lemma => kernel_rfl)⟩,
    (by as_aux_lemma => kernel_rfl)⟩

set_option maxRecDepth 100000 in
theorem lifted (os : Os) (started : os.Started) (H : Type) (enc : TypeId × Value → H) :
    ReturnsInHanded {} Try.checked os 23 .any (Rows.fnExactBreakLargeSpec.pre6 enc Try.prog Try.f23 Rows.fnExactBreakLargeRow.domain false) (Rows.fnExactBreakLargeSpec.post enc Try.prog Try.f23 false true false false) := by
  refine LawFrame.lifted (C := Try.checked) (fn := Try.f23) (n := 3) (tb := 4) started own (by kernel_rfl) Try.func23 laid ?_ rfl rfl ?_ rfl Try.underlying4
    (ChangeSpec.witness6 (enc := enc) (C := Try.checked) false ⟨#[], #[.agg (Array.replicate 20 (.float .f32 0)), .int .i64 0, .float .f32 0], []⟩ 8 (by kernel_rfl) (by kernel_rfl) (by kernel_rfl) (by kernel_rfl)) ?_
  · intro t ht
    simp only [Try.params23, List.mem_cons, List.not_mem_nil, or_false] at ht
    rcases ht with rfl | rfl | rfl <;> first | exact rda | exact rdf | exact rdi | exact rdA | exact rdb | exact rdp | exact rdk
  · intro ds hd
    match ds, hd with
    | [_, _, _], _ => rfl
  · intro W base args ds ps hval hn _
    obtain ⟨v0, v1, v2, rfl⟩ : ∃ v0 v1 v2, args = #[v0, v1, v2] := arr3 hn
    obtain ⟨c0, rfl, hb0⟩ := open_fls Try.underlying28 Try.underlying22 cells20 types20 (hval 0 28 v0 rfl rfl)
    obtain ⟨c1, rfl, hb1, hc1⟩ := open_i64 Try.underlying2 (hval 1 2 v1 rfl rfl)
    obtain ⟨c2, rfl, hb2⟩ := open_f32 Try.underlying22 (hval 2 22 v2 rfl rfl)
    exact lawBreakLarge c0 hb0 c1 hb1 hc1 c2 hb2 W

theorem over : Rows.fnExactBreakLargeRow.holds Try.pinned (OpenSpec.ofChange Rows.fnExactBreakLargeSpec) :=
  OpenClaim.holds_of_wide 23 Try.f23 rfl rfl rfl rfl rfl rfl rfl ⟨rfl, rfl, rfl, rfl, rfl⟩ rfl rfl rfl rfl rfl (by kernel_rfl) Try.func23 closed
    (of_decide_eq_true (by kernel_rfl)) (by unfold Func.isWrapper; rw [if_neg (by decide +kernel)]; exact ⟨rfl, rfl⟩)
    (fun os started H enc _ => lifted os started H enc)

theorem proved : Rows.FnExactBreakLargeSaid := over
#print axioms proved
end Go.Proofs.Ytnnhoololemaaaa.fnExactBreakLarge
