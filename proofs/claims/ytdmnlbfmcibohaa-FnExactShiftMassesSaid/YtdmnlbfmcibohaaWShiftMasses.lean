import Derived.Test.YtdmnlbfmcibohaaCShiftMasses
import Derived.Test.YtdmnlbfmcibohaaChecked
import Derived.Test.YtdmnlbfmcibohaaRows
import Derived.Laws.FloatArith
import Derived.ProofKit
import Derived.WalkKit
import Derived.WalkLawsBesides
import Derived.WalkSpells
import Derived.Deep.QuietTactic
import Derived.BigQuiet
import Derived.Deep.RegionHeld3
import Derived.ChangeKeysEq
import Derived.Laws.BitsAllLaws
import Derived.Deep.MidRow
import Derived.Deep.WholeRow
import Derived.StillTailTactics
import Derived.Deep.Slices
import Derived.ChangeSame
import Derived.OrdersIn
import Derived.ControlIn
import Derived.RangeFuncSeq
import Derived.RangeFuncNested
import Derived.ArgAppend
import Derived.OwnWalkIn
import Derived.TacticsInMore
import Derived.Below
import Derived.Laws.AppendOwn
import Derived.OpenShut
/- The law FnExactShiftMasses of chapter 1: at every argument the call returns true, and what was there before it is as it was. -/
namespace Go.Proofs.Ytdmnlbfmcibohaa
open Go.RowKit Go.Fl

@[go_sem] theorem ext_f64bits (y : Nat) (w : World) : (callFunc 170 #[.float .f64 y]).run Try.prog w = .ok (.value (.int .u64 y)) w := by
  rw [run_callFunc_extern Try.func170 (by kernel_rfl) (by kernel_rfl) (by kernel_rfl) (e := Extern.MathFloatBits.float64bits) (by kernel_rfl)]
  rfl

@[go_sem] theorem ext_f64from (n : Int) (w : World) : (callFunc 172 #[.int .u64 n]).run Try.prog w = .ok (.value (.float .f64 n.toNat)) w := by
  rw [run_callFunc_extern Try.func172 (by kernel_rfl) (by kernel_rfl) (by kernel_rfl) (e := Extern.MathFloatBits.float64frombits) (by kernel_rfl)]
  rfl

theorem hid {p : Prop} (h : p) : Hid p := h

theorem clear_sign (y : Nat) (h : y < 18446744073709551616) : (bits BinOp.andNot IntKind.u64 (y : Int) 9223372036854775808).toNat = y % 9223372036854775808 := by
  rw [u64_andNot _ _ (by omega) (by omega) (by omega) (by omega)]
  rw [Int.toNat_natCast, Int.toNat_natCast]
  exact Nat.and_two_pow_sub_one_eq_mod y 63

theorem abs_f64 (y : Nat) (h : y < 18446744073709551616) (w : World) :
    Calls Try.prog 157 #[.float .f64 y] w fun e w' => e = .returned (.float .f64 (y % 9223372036854775808)) ∧ w = w' := by
  have hc := hid (clear_sign y h)
  clear h
  go_enter Try.func157, Try.ntmps157
  go_wp2
  go_ret
  exact ⟨by simp [hc.out], rfl⟩

theorem isNaN_f64 (y : Nat) (w : World) :
    Calls Try.prog 125 #[.float .f64 y] w fun e w' => e = .returned (.bool (FloatKind.f64.format.order y y != some .eq)) ∧ w = w' := by
  go_enter Try.func125, Try.ntmps125
  go_wp2
  go_ret
  exact ⟨rfl, rfl⟩

theorem isInf_f64 (y : Nat) (h : y < 18446744073709551616) (w : World) :
    Calls Try.prog 126 #[.float .f64 y, .int .i64 0] w fun e w' => e = .returned (.bool (FloatKind.f64.format.order (y % 9223372036854775808) 9218868437227405311 == some .gt)) ∧ w = w' := by
  have hc := hid h
  clear h
  go_enter Try.func126, Try.ntmps126
  go_wp2_with (go_at_call 157; refine (abs_f64 y hc.out _).mono ?_; rintro e w' ⟨rfl, rfl⟩)
  go_ret
  exact ⟨rfl, rfl⟩

theorem isFinite_t (x : Nat) (hx : x < 4294967296) (h : finB x = true) (w : World) :
    Calls Try.prog 78 #[.float .f32 x] w fun e w' => e = .returned (.bool true) ∧ w = w' := by
  rw [finB_iff] at h
  have hc := fun w => run_conv_wid (P := Try.prog) w 22 29 x hx Try.underlying22 Try.underlying29 h
  obtain ⟨a, b, m, e, hr⟩ := read_wid_fin hx h
  have hn : (FloatKind.f64.format.order (wid x) (wid x) != some .eq) = false := by
    show (D.order (wid x) (wid x) != some .eq) = false
    rw [order_self hr]; rfl
  have hi : (FloatKind.f64.format.order (wid x % 9223372036854775808) 9218868437227405311 == some .gt) = false := by
    show (D.order (wid x % 9223372036854775808) 9218868437227405311 == some .gt) = false
    rw [b, order_ltD a (by decide)]
    rw [DINF_val] at a
    have hle : wid (mg x) ≤ 9218868437227405311 := by omega
    rcases Nat.lt_or_eq_of_le hle with h' | h'
    · rw [Nat.compare_eq_lt.2 h']; rfl
    · rw [Nat.compare_eq_eq.2 h']; rfl
  have hw : wid x < 18446744073709551616 := D.write_lt _
  have Hn := hid hn
  have Hi := hid hi
  have Hw := hid hw
  clear hn hi hw hr a b h hx
  go_enter Try.func78, Try.ntmps78
  go_wp2_with (first | (go_at_call 125; refine (isNaN_f64 (wid x) _).mono ?_; rintro e w' ⟨rfl, rfl⟩; rw [Hn.out]) | (go_at_call 126; refine (isInf_f64 (wid x) Hw.out _).mono ?_; rintro e w' ⟨rfl, rfl⟩; rw [Hi.out]))
  go_ret
  exact ⟨rfl, rfl⟩

theorem isFinite_f (x : Nat) (hx : x < 4294967296) (h : finB x = false) (w : World) :
    Calls Try.prog 78 #[.float .f32 x] w fun e w' => e = .returned (.bool false) ∧ Below w.heap.size w w' := by
  rw [finB_iff'] at h
  rcases Nat.lt_or_eq_of_le h with h | h
  · obtain ⟨z, hc, h1, _⟩ := run_conv_nan (P := Try.prog) w 22 29 x Try.underlying22 Try.underlying29 h
    obtain ⟨s, t, hr⟩ := read_nanD h1
    have Hn := hid (show (FloatKind.f64.format.order z z != some .eq) = true by
      show (D.order z z != some .eq) = true
      rw [order_nan hr]; rfl)
    clear h h1 hr hx
    go_enter Try.func78, Try.ntmps78
    go_wp2_with (go_at_call 125; refine (isNaN_f64 z _).mono ?_; rintro e w' ⟨rfl, rfl⟩; rw [Hn.out])
    go_ret
    exact ⟨rfl, (Below.refl _ _).drew⟩
  · obtain ⟨z, hc, h1, h2⟩ := run_conv_inf (P := Try.prog) w 22 29 x hx Try.underlying22 Try.underlying29 h.symm
    have hr : D.read z = .infinity (decide (9223372036854775808 ≤ z)) := by rw [read_signD h2, h1, read_DINF]
    have Hn := hid (show (FloatKind.f64.format.order z z != some .eq) = false by
      show (D.order z z != some .eq) = false
      rw [order_inf hr]; rfl)
    have Hi := hid (show (FloatKind.f64.format.order (z % 9223372036854775808) 9218868437227405311 == some .gt) = true by
      rw [h1]; decide)
    have H2 := hid h2
    clear h h1 hr hx h2
    go_enter Try.func78, Try.ntmps78
    go_wp2_with (first | (go_at_call 125; refine (isNaN_f64 z _).mono ?_; rintro e w' ⟨rfl, rfl⟩; rw [Hn.out]) | (go_at_call 126; refine (isInf_f64 z H2.out _).mono ?_; rintro e w' ⟨rfl, rfl⟩; rw [Hi.out]))
    go_ret
    exact ⟨rfl, Below.refl _ _⟩

theorem signbit_f64 (y : Nat) (w : World) :
    Calls Try.prog 152 #[.float .f64 y] w fun e w' => e = .returned (.bool (decide (wrap64 (y : Int) < 0))) ∧ w = w' := by
  go_enter Try.func152, Try.ntmps152
  go_wp2
  go_ret
  exact ⟨rfl, rfl⟩

theorem and_sign (y : Nat) (h : y < 18446744073709551616) : (decide (wrap64 (y : Int) < 0)) = decide (9223372036854775808 ≤ y) := by
  unfold wrap64
  by_cases h' : 9223372036854775808 ≤ y
  · rw [decide_eq_true h']; simp; omega
  · rw [decide_eq_false h']; simp; omega

theorem isAmount_t (x : Nat) (h : amtB x = true) (w : World) :
    Calls Try.prog 115 #[.float .f32 x] w fun e w' => e = .returned (.bool true) ∧ w = w' := by
  have hf := amt_fin h
  rw [amtB_iff, INF_val] at h
  have hx : x < 4294967296 := by omega
  have hc := fun w => run_conv_wid (P := Try.prog) w 22 29 x hx Try.underlying22 Try.underlying29 (finB_iff.1 hf)
  have hw : wid x < 18446744073709551616 := D.write_lt _
  have Hs := hid (show (decide (wrap64 (wid x : Int) < 0)) = false by
    rw [and_sign _ hw]
    have := (wid_val (x := x) (by rw [INF_val]; omega)).1
    rw [DINF_val] at this
    simp; omega)
  have Hx := hid hx
  have Hf := hid hf
  clear h hf hx hw
  go_enter Try.func115, Try.ntmps115
  go_wp2_with (first | (go_at_call 78; refine (isFinite_t x Hx.out Hf.out _).mono ?_; rintro e w' ⟨rfl, rfl⟩) | (go_at_call 152; refine (signbit_f64 (wid x) _).mono ?_; rintro e w' ⟨rfl, rfl⟩; rw [Hs.out]))
  go_ret
  exact ⟨rfl, rfl⟩

theorem isAmount_f (x : Nat) (hx : x < 4294967296) (h : amtB x = false) (w : World) :
    Calls Try.prog 115 #[.float .f32 x] w fun e w' => e = .returned (.bool false) ∧ Below w.heap.size w w' := by
  rcases hf : finB x with _ | _
  · have Hx := hid hx
    have Hf := hid hf
    clear h hf hx
    go_enter Try.func115, Try.ntmps115
    go_wp2_with (go_at_call 78; refine (isFinite_f x Hx.out Hf.out _).mono ?_; rintro e w' ⟨rfl, hb⟩)
    go_ret
    exact ⟨rfl, hb⟩
  · have hc := fun w => run_conv_wid (P := Try.prog) w 22 29 x hx Try.underlying22 Try.underlying29 (finB_iff.1 hf)
    have hw : wid x < 18446744073709551616 := D.write_lt _
    have Hs := hid (show (decide (wrap64 (wid x : Int) < 0)) = true by
      rw [and_sign _ hw, wid_fin hx (finB_iff.1 hf)]
      rw [amtB_iff', INF_val] at h
      rw [finB_iff, INF_val] at hf
      unfold mg at hf ⊢
      rw [if_pos (by omega)]
      simp)
    have Hx := hid hx
    have Hf := hid hf
    clear h hf hx hw
    go_enter Try.func115, Try.ntmps115
    go_wp2_with (first | (go_at_call 78; refine (isFinite_t x Hx.out Hf.out _).mono ?_; rintro e w' ⟨rfl, rfl⟩) | (go_at_call 152; refine (signbit_f64 (wid x) _).mono ?_; rintro e w' ⟨rfl, rfl⟩; rw [Hs.out]))
    go_ret
    exact ⟨rfl, Below.refl _ _⟩

theorem info_f32 : ∃ i, Try.prog.info? 22 = some i ∧ i.size = 1 := by
  have h : (Try.prog.info? 22).map (·.size) = some 1 := by kernel_rfl
  cases hi : Try.prog.info? 22 with
  | none => rw [hi] at h; cases h
  | some i => rw [hi] at h; exact ⟨i, rfl, Option.some.inj h⟩

theorem ix (T : TypeId) (hT : Try.prog.underlying T = some (.array 20 22)) (c : Nat → Nat) (k : Nat) (hk : k < 20) (w : World) :
    (Instr.index T (.agg (fls c)) (.int .i64 (k : Int))).run Try.prog w = .ok (.float .f32 (c k)) w := by
  obtain ⟨i, h1, h2⟩ := info_f32
  exact run_index_arr hT Try.underlying22 rfl h1 h2 _ _ hk _ (fls_get c hk) w

theorem info_arr : (Try.prog.info? 26).map (·.size) = some 20 := by kernel_rfl

set_option maxRecDepth 100000 in
theorem validSizes_t (c : Nat → Nat) (h : ∀ i, i < 20 → amtB (c i) = true) (w : World) :
    Calls Try.prog 96 #[.agg (fls c)] w fun e w' => e = .returned (.bool true) ∧ Below w.heap.size w w' := by
  have H := hid h
  clear h
  go_enter Try.func96, Try.ntmps96
  go_wp2_with (refine wpList_load_row rfl 26 _ rfl w.heap.size rfl 26 (fls c) (0, 0) _ (heap_alloc_new _ _) Try.underlying26 rfl (by rw [fls_size]; exact info_arr) ?_)
  go_loop [6] (fun i => ∃ k : Nat, k ≤ 20 ∧ i = .int .i64 k) (fun i => 20 - (intOf i).toNat)
  case atStart => exact ⟨0, by omega, rfl⟩
  case round =>
    obtain ⟨k, hk, rfl⟩ := hrel
    by_cases hlt : k < 20
    · have hix := ix 26 Try.underlying26 c k hlt
      go_wp2_with (go_at_call 115; refine (isAmount_t (c k) (H.out k hlt) _).mono ?_; rintro e w' ⟨rfl, rfl⟩)
      go_round
      case rel => exact ⟨k + 1, by omega, by go_num⟩
      case measure => simp [intOf]; omega
    · go_wp2
      go_ret
      exact ⟨rfl, (Below.refl _ _).alloc (Nat.le_refl _) _⟩

@[go_sem] theorem ext_f32bits (y : Nat) (w : World) : (callFunc 151 #[.float .f32 y]).run Try.prog w = .ok (.value (.int .u32 y)) w := by
  rw [run_callFunc_extern Try.func151 (by kernel_rfl) (by kernel_rfl) (by kernel_rfl) (e := Extern.MathFloatBits.float32bits) (by kernel_rfl)]
  rfl

theorem sFinite_t (x : Nat) (hx : x < 4294967296) (h : finB x = true) (w : World) :
    Calls Try.prog 75 #[.float .f32 x] w fun e w' => e = .returned (.bool true) ∧ w = w' := by
  have hr := fun w => run_float_arith (P := Try.prog) w .sub 22 .f32 x x 0 (sub_self_fin hx h)
  clear h hx
  go_enter Try.func75, Try.ntmps75
  go_wp2
  go_ret
  exact ⟨rfl, rfl⟩

theorem sFinite_f (x : Nat) (hx : x < 4294967296) (h : finB x = false) (w : World) :
    Calls Try.prog 75 #[.float .f32 x] w fun e w' => e = .returned (.bool false) ∧ Below w.heap.size w w' := by
  obtain ⟨z, hr, h1, _⟩ := run_arith_nan (P := Try.prog) w .sub (by simp) 22 x x (sub_self_none hx h)
  have Hn := hid (show (FloatKind.f32.format.order z 0 == some .eq) = false by
    show (S.order z 0 == some .eq) = false
    rw [order_nan32 h1]; rfl)
  clear h hx h1
  go_enter Try.func75, Try.ntmps75
  go_wp2
  go_ret
  exact ⟨by simp [Hn.out], (Below.refl _ _).drew⟩

theorem sAmount_t (x : Nat) (h : amtB x = true) (w : World) :
    Calls Try.prog 112 #[.float .f32 x] w fun e w' => e = .returned (.bool true) ∧ w = w' := by
  have hf := amt_fin h
  have h' := amtB_iff.1 h
  have hx : x < 4294967296 := by rw [INF_val] at h'; omega
  have Hx := hid hx
  have Hf := hid hf
  by_cases h0 : x = 0
  · subst h0
    clear h hf h' hx
    go_enter Try.func112, Try.ntmps112
    go_wp2_with (go_at_call 75; refine (sFinite_t 0 Hx.out Hf.out _).mono ?_; rintro e w' ⟨rfl, rfl⟩)
    go_ret
    exact ⟨rfl, rfl⟩
  · have hg : (FloatKind.f32.format.order x 0 == some .gt) = true := by
      show (S.order x 0 == some .gt) = true
      rw [order_zero_pos h', Nat.compare_eq_gt.2 (by omega)]; rfl
    clear h hf h' hx h0
    go_enter Try.func112, Try.ntmps112
    go_wp2_with (go_at_call 75; refine (sFinite_t x Hx.out Hf.out _).mono ?_; rintro e w' ⟨rfl, rfl⟩)
    go_ret
    exact ⟨rfl, rfl⟩

theorem sAmount_f (x : Nat) (hx : x < 4294967296) (h : amtB x = false) (w : World) :
    Calls Try.prog 112 #[.float .f32 x] w fun e w' => e = .returned (.bool false) ∧ Below w.heap.size w w' := by
  rcases hf : finB x with _ | _
  · have Hx := hid hx
    have Hf := hid hf
    clear h hf hx
    go_enter Try.func112, Try.ntmps112
    go_wp2_with (go_at_call 75; refine (sFinite_f x Hx.out Hf.out _).mono ?_; rintro e w' ⟨rfl, hb⟩)
    go_ret
    exact ⟨rfl, hb⟩
  · have hs : 2147483648 ≤ x := by
      rw [amtB_iff', INF_val] at h
      have := finB_iff.1 hf
      rw [INF_val] at this
      unfold mg at this
      omega
    have hg : (FloatKind.f32.format.order x 0 == some .gt) = false := order_neg_zero hx hf hs
    have hb : ((x : Int) == 0) = false := by simp; omega
    have Hx := hid hx
    have Hf := hid hf
    clear h hf hx hs
    go_enter Try.func112, Try.ntmps112
    go_wp2_with (go_at_call 75; refine (sFinite_t x Hx.out Hf.out _).mono ?_; rintro e w' ⟨rfl, rfl⟩)
    go_ret
    exact ⟨rfl, Below.refl _ _⟩

set_option maxRecDepth 100000 in
theorem validSizes_f (c : Nat → Nat) (hb : ∀ i, i < 20 → c i < 4294967296) (h : ¬ ∀ i, i < 20 → amtB (c i) = true) (w : World) :
    Calls Try.prog 96 #[.agg (fls c)] w fun e w' => e = .returned (.bool false) ∧ Below w.heap.size w w' := by
  have H := hid h
  have HB := hid hb
  clear h hb
  go_enter Try.func96, Try.ntmps96
  go_wp2_with (refine wpList_load_row rfl 26 _ rfl w.heap.size rfl 26 (fls c) (0, 0) _ (heap_alloc_new _ _) Try.underlying26 rfl (by rw [fls_size]; exact info_arr) ?_)
  go_loop [6] (fun i => ∃ k : Nat, k ≤ 20 ∧ Hid (∀ i, i < k → amtB (c i) = true) ∧ i = .int .i64 k) (fun i => 20 - (intOf i).toNat)
  case atStart => exact ⟨0, by omega, hid (fun i hi => by omega), rfl⟩
  case round =>
    obtain ⟨k, hk, HK, rfl⟩ := hrel
    by_cases hlt : k < 20
    · have hix := ix 26 Try.underlying26 c k hlt
      rcases hac : amtB (c k) with _ | _
      · have HA := hid hac
        clear hac
        go_wp2_with (go_at_call 115; refine (isAmount_f (c k) (HB.out k hlt) HA.out _).mono ?_; rintro e w' ⟨rfl, hb⟩)
        go_ret
        exact ⟨rfl, (((Below.refl _ _).alloc (Nat.le_refl _) _).trans (hb.mono (by simp)))⟩
      · have HA := hid hac
        clear hac
        go_wp2_with (go_at_call 115; refine (isAmount_t (c k) HA.out _).mono ?_; rintro e w' ⟨rfl, rfl⟩)
        go_round
        case rel =>
          refine ⟨k + 1, by omega, hid (fun i hi => ?_), by go_num⟩
          by_cases e : i = k
          · subst e; exact HA.out
          · exact HK.out i (by omega)
        case measure => simp [intOf]; omega
    · have hk20 : k = 20 := by omega
      exact (H.out (fun i hi => HK.out i (by omega))).elim

set_option maxRecDepth 100000 in
theorem sOk_t (c : Nat → Nat) (h : ∀ i, i < 20 → amtB (c i) = true) (w : World) (g : Nat) (T : TypeId) (hg : w.heap[g]? = some (.cells (fls c) T (0, 0))) :
    Calls Try.prog 94 #[.pointer (some ⟨g, 0, none⟩)] w fun e w' => e = .returned (.bool true) ∧ w = w' := by
  have H := hid h
  have HG := hid hg
  clear h hg
  go_enter Try.func94, Try.ntmps94
  go_wp2
  go_loop [3] (fun i => ∃ k : Nat, k ≤ 20 ∧ i = .int .i64 k) (fun i => 20 - (intOf i).toNat)
  case atStart => exact ⟨0, by omega, rfl⟩
  case round =>
    obtain ⟨k, hk, rfl⟩ := hrel
    by_cases hlt : k < 20
    · have hcell : w.cell? ⟨g, k, none⟩ = some (.float .f32 (c k)) := by rw [cell_of_row w g k _ _ _ HG.out, fls_get c hlt]
      go_wp2_with (go_at_call 112; refine (sAmount_t (c k) (H.out k hlt) _).mono ?_; rintro e w' ⟨rfl, rfl⟩)
      go_round
      case rel => exact ⟨k + 1, by omega, by go_num⟩
      case measure => simp [intOf]; omega
    · go_wp2
      go_ret
      exact ⟨rfl, rfl⟩

set_option maxRecDepth 100000 in
theorem sOk_f (c : Nat → Nat) (hb : ∀ i, i < 20 → c i < 4294967296) (h : ¬ ∀ i, i < 20 → amtB (c i) = true) (w : World) (g : Nat) (T : TypeId) (hg : w.heap[g]? = some (.cells (fls c) T (0, 0))) :
    Calls Try.prog 94 #[.pointer (some ⟨g, 0, none⟩)] w fun e w' => e = .returned (.bool false) ∧ Below w.heap.size w w' := by
  have H := hid h
  have HB := hid hb
  have HG := hid hg
  clear h hb hg
  go_enter Try.func94, Try.ntmps94
  go_wp2
  go_loop [3] (fun i => ∃ k : Nat, k ≤ 20 ∧ Hid (∀ i, i < k → amtB (c i) = true) ∧ i = .int .i64 k) (fun i => 20 - (intOf i).toNat)
  case atStart => exact ⟨0, by omega, hid (fun i hi => by omega), rfl⟩
  case round =>
    obtain ⟨k, hk, HK, rfl⟩ := hrel
    by_cases hlt : k < 20
    · have hcell : w.cell? ⟨g, k, none⟩ = some (.float .f32 (c k)) := by rw [cell_of_row w g k _ _ _ HG.out, fls_get c hlt]
      rcases hac : amtB (c k) with _ | _
      · have HA := hid hac
        clear hac
        go_wp2_with (go_at_call 112; refine (sAmount_f (c k) (HB.out k hlt) HA.out _).mono ?_; rintro e w' ⟨rfl, hb⟩)
        go_ret
        exact ⟨rfl, hb⟩
      · have HA := hid hac
        clear hac
        go_wp2_with (go_at_call 112; refine (sAmount_t (c k) HA.out _).mono ?_; rintro e w' ⟨rfl, rfl⟩)
        go_round
        case rel =>
          refine ⟨k + 1, by omega, hid (fun i hi => ?_), by go_num⟩
          by_cases e : i = k
          · subst e; exact HA.out
          · exact HK.out i (by omega)
        case measure => simp [intOf]; omega
    · have hk20 : k = 20 := by omega
      exact (H.out (fun i hi => HK.out i (by omega))).elim

set_option maxRecDepth 100000 in
theorem iSum (c : Nat → Nat) (h : ∀ i, i < 20 → nnB (c i) = true) (w : World) :
    Calls Try.prog 111 #[.agg (fls c)] w fun e w' => e = .returned (.float .f32 (sumF c 19)) ∧ Below w.heap.size w w' := by
  have H := hid h
  clear h
  have hcell : ∀ k, k < 20 → (w.alloc (.cells (fls c) 23)).cell? ⟨w.heap.size, k, none⟩ = some (.float .f32 (c k)) := fun k hk => by
    rw [cell_of_row _ _ k _ _ _ (heap_alloc_new _ _), fls_get c hk]
  have h0 := hcell 0 (by omega)
  have HC := hid hcell
  clear hcell
  go_enter Try.func111, Try.ntmps111
  go_wp2
  go_loop [3, 4] (fun s i => ∃ k : Nat, k ≤ 19 ∧ i = .int .i64 (k + 1 : Nat) ∧ s = .float .f32 (sumF c k)) (fun _ i => 20 - (intOf i).toNat)
  case atStart => exact ⟨0, by omega, rfl, rfl⟩
  case round =>
    obtain ⟨k, hk, rfl, rfl⟩ := hrel
    by_cases hlt : k < 19
    · have hcell := HC.out (k + 1) (by omega)
      have hadd := fun w => run_add (P := Try.prog) 22 (sumF_nn k (fun i hi => H.out i (by omega))) (H.out (k + 1) (by omega)) w
      go_wp2
      go_round
      case rel => exact ⟨k + 1, by omega, by go_num, rfl⟩
      case measure => simp [intOf]; omega
    · obtain rfl : k = 19 := by omega
      go_wp2
      go_ret
      exact ⟨rfl, (Below.refl _ _).alloc (Nat.le_refl _) _⟩

theorem info_a20 : (Try.prog.info? 23).map (·.size) = some 20 := by kernel_rfl

set_option maxRecDepth 100000 in
theorem toSizes (c : Nat → Nat) (w : World) :
    Calls Try.prog 15 #[.agg (fls c)] w fun e w' => e = .returned (.agg (fls c)) ∧ Below w.heap.size w w' := by
  have b0 : Below w.heap.size w (w.alloc (.cells (fls c) 23)) := (Below.refl _ _).alloc (Nat.le_refl _) _
  have a0 := hid (arrAt.new w c 23)
  go_enter Try.func15, Try.ntmps15
  go_wp2
  go_loopw [4] (fun i wr => ∃ k : Nat, k ≤ 20 ∧ i = .int .i64 k ∧ Hid (arrAt wr w.heap.size c 23) ∧ Hid (arrAt wr (w.heap.size + 1) (fun _ => 0) 26) ∧ Hid (arrAt wr (w.heap.size + 1 + 1) (cut c k) 26) ∧ Hid (Below w.heap.size w wr)) (fun i _ => 20 - (intOf i).toNat)
  case atStart =>
    refine ⟨0, by omega, rfl, hid ((a0.out.alloc _).alloc _), hid ?_, hid ?_, hid ((b0.alloc (by simp) _).alloc (by simp; omega) _)⟩
    · have := arrAt.new (w.alloc (.cells (fls c) 23)) (fun _ => 0) 26
      have e : (w.alloc (.cells (fls c) 23)).heap.size = w.heap.size + 1 := by simp
      rw [e] at this
      exact this.alloc _
    · have := arrAt.new ((w.alloc (.cells (fls c) 23)).alloc (.cells (fls fun _ => 0) 26)) (fun _ => 0) 26
      have e : ((w.alloc (.cells (fls c) 23)).alloc (.cells (fls fun _ => 0) 26)).heap.size = w.heap.size + 1 + 1 := by simp
      rw [e] at this
      exact this.ext (fun i _ => (cut_zero' c i).symm)
  case round =>
    obtain ⟨k, hk, rfl, h0, h1, h2, hb⟩ := hrel
    by_cases hlt : k < 20
    · have q0 := h0.out.cell hlt
      have q2 := h2.out.cell hlt
      have f2 := h2.out.frozen k
      go_wp2
      go_roundw
      case rel => exact ⟨k + 1, by omega, by go_num, hid (h0.out.setOther (by simp; omega) _), hid (h1.out.setOther (by simp) _), hid ((h2.out.set k (c k)).ext (fun i _ => cut_succ c k i)), hid (hb.out.setCell (by simp; omega) _)⟩
      case measure => simp [intOf]; omega
    · obtain rfl : k = 20 := by omega
      have h2' := hid (h2.out.ext (cut_all c))
      clear h2
      go_wp2_with (first | (refine wpList_load_row rfl 26 _ rfl (w.heap.size + 1 + 1) rfl 26 (fls c) (0, 0) _ h2'.out Try.underlying26 rfl (by rw [fls_size]; exact info_arr) ?_) | (refine wpList_store_row rfl 26 _ _ rfl (w.heap.size + 1) (fls c) rfl rfl 26 _ h1.out (by rw [fls_size]; exact info_arr) (by simp) (fls_one c) ?_))
      exact bodyPost_ret (results_cell_row rfl _ _ (w.heap.size + 1) 26 (fls c) (0, 0) _ rfl (h1.out.setRow c) Try.underlying26 rfl (by rw [fls_size]; exact info_arr)) rfl ⟨rfl, below_row hb.out (by omega) _⟩

theorem div_one_some {y m : Nat} {s : Bool} {e : Int} (h : D.read y = .number s m e) : ∃ q, floatBits .quo .f64 4607182418800017408 y = some q := by
  have h1 : D.read 4607182418800017408 = .number false 4503599627370496 (-52) := by decide
  show ∃ q, D.div 4607182418800017408 y = some q
  unfold Ieee.Format.div
  rw [h, h1]
  simp only [Ieee.Datum.quotient]
  by_cases hm : m = 0
  · rw [if_pos hm]; exact ⟨_, rfl⟩
  · rw [if_neg hm]; exact ⟨_, rfl⟩

set_option maxRecDepth 100000 in
theorem sameFloat (x : Nat) (hx : x < 4294967296) (h : finB x = true) (w : World) :
    Calls Try.prog 17 #[.float .f64 (wid x), .float .f64 (wid x)] w fun e w' => e = .returned (.bool true) ∧ w = w' := by
  obtain ⟨a, b, m, e, hr⟩ := read_wid_fin hx (finB_iff.1 h)
  have hn : (FloatKind.f64.format.order (wid x) (wid x) != some .eq) = false := by
    show (D.order (wid x) (wid x) != some .eq) = false
    rw [order_self hr]; rfl
  have hq : (FloatKind.f64.format.order (wid x) (wid x) == some .eq) = true := by
    show (D.order (wid x) (wid x) == some .eq) = true
    rw [order_self hr]; rfl
  obtain ⟨q, hd⟩ := div_one_some hr
  have hdiv := fun w => run_float_arith (P := Try.prog) w .quo 29 .f64 4607182418800017408 (wid x) q hd
  clear hd hr a b h hx
  rcases hz : (FloatKind.f64.format.order (wid x) 0 == some .eq) with _ | _
  · go_enter Try.func17, Try.ntmps17
    go_wp2
    go_ret
    exact ⟨by simp, rfl⟩
  · go_enter Try.func17, Try.ntmps17
    go_wp2
    go_ret
    exact ⟨by simp, rfl⟩

theorem back {P : Program} {f : FuncId} {args : Array Value} {w : World} {v : Value} (h : Calls P f args w fun e w' => e = .returned v ∧ w = w') : Calls P f args w fun e w' => e = .returned v ∧ w' = w :=
  h.mono fun _ _ ⟨a, b⟩ => ⟨a, b.symm⟩

set_option maxRecDepth 100000 in
theorem eqSizes (c : Nat → Nat) (hb : ∀ i, i < 20 → c i < 4294967296) (h : ∀ i, i < 20 → finB (c i) = true) (w : World) :
    Calls Try.prog 44 #[.agg (fls c), .agg (fls c)] w fun e w' => e = .returned (.bool true) ∧ Below w.heap.size w w' := by
  have b0 : Below w.heap.size w (w.alloc (.cells (fls c) 26)) := (Below.refl _ _).alloc (Nat.le_refl _) _
  have a0 := hid (arrAt.new w c 26)
  have H := hid h
  have HB := hid hb
  clear h hb
  go_enter Try.func44, Try.ntmps44
  go_wp2
  go_loopw [5] (fun i wr => ∃ k : Nat, k ≤ 20 ∧ i = .int .i64 k ∧ Hid (arrAt wr w.heap.size c 26) ∧ Hid (arrAt wr (w.heap.size + 1) c 26) ∧ Hid (Below w.heap.size w wr)) (fun i _ => 20 - (intOf i).toNat)
  case atStart =>
    refine ⟨0, by omega, rfl, hid (a0.out.alloc _), hid ?_, hid (b0.alloc (by simp) _)⟩
    have := arrAt.new (w.alloc (.cells (fls c) 26)) c 26
    have e : (w.alloc (.cells (fls c) 26)).heap.size = w.heap.size + 1 := by simp
    rw [e] at this
    exact this
  case round =>
    obtain ⟨k, hk, rfl, h0, h1, hb⟩ := hrel
    by_cases hlt : k < 20
    · have q0 := h0.out.cell hlt
      have q1 := h1.out.cell hlt
      have hc := fun w => run_conv_wid (P := Try.prog) w 22 29 (c k) (HB.out k hlt) Try.underlying22 Try.underlying29 (finB_iff.1 (H.out k hlt))
      go_wp2
      go_quiet ((go_at_call 17; exact Calls.quiet_of_same (back (sameFloat (c k) (HB.out k hlt) (H.out k hlt) _))))
      go_wp2
      go_roundw
      case rel => exact ⟨k + 1, by omega, by go_num, h0, h1, hid (below_drewN hb.out _)⟩
      case measure => simp [intOf]; omega
    · go_wp2
      go_ret
      exact ⟨rfl, hb.out⟩

theorem iTold_t (x : Nat) (hx : x < 4294967296) (h : finB x = true) (w : World) :
    Calls Try.prog 110 #[.float .f32 x] w fun e w' => e = .returned (.tuple #[.float .f32 x, .int .i64 0]) ∧ w = w' := by
  have H := hid h
  have Hx := hid hx
  clear h hx
  go_enter Try.func110, Try.ntmps110
  go_wp2_with (go_at_call 78; refine (isFinite_t x Hx.out H.out _).mono ?_; rintro e w' ⟨rfl, rfl⟩)
  go_ret2
  exact ⟨rfl, rfl⟩

theorem iTold_f (x : Nat) (hx : x < 4294967296) (h : finB x = false) (w : World) :
    Calls Try.prog 110 #[.float .f32 x] w fun e w' => e = .returned (.tuple #[.float .f32 0, .int .i64 4]) ∧ Below w.heap.size w w' := by
  have H := hid h
  have Hx := hid hx
  clear h hx
  go_enter Try.func110, Try.ntmps110
  go_wp2_with (go_at_call 78; refine (isFinite_f x Hx.out H.out _).mono ?_; rintro e w' ⟨rfl, hb⟩)
  go_ret2
  exact ⟨rfl, hb⟩

theorem iTold (x : Nat) (hx : x < 4294967296) (w : World) :
    Calls Try.prog 110 #[.float .f32 x] w fun e w' => e = .returned (told x) ∧ Below w.heap.size w w' := by
  rcases h : finB x with _ | _
  · rw [told_f h]; exact iTold_f x hx h w
  · rw [told_t h]; exact (iTold_t x hx h w).mono fun e w' ⟨a, b⟩ => ⟨a, b ▸ Below.refl _ _⟩

/-- The mass of a class, as a word. -/
theorem iMass (k : Nat) (hk : k < 20) (w : World) :
    Calls Try.prog 139 #[.int .i64 (k : Int)] w fun e w' => e = .returned (.float .f32 (mass k)) ∧ w = w' := by
  have H : k = 0 ∨ k = 1 ∨ k = 2 ∨ k = 3 ∨ k = 4 ∨ k = 5 ∨ k = 6 ∨ k = 7 ∨ k = 8 ∨ k = 9 ∨ k = 10 ∨ k = 11 ∨ k = 12 ∨ k = 13 ∨ k = 14 ∨ k = 15 ∨ k = 16 ∨ k = 17 ∨ k = 18 ∨ k = 19 := by omega
  rcases H with rfl | rfl | rfl | rfl | rfl | rfl | rfl | rfl | rfl | rfl | rfl | rfl | rfl | rfl | rfl | rfl | rfl | rfl | rfl | rfl
  all_goals
    go_enter Try.func139, Try.ntmps139
    go_wp2
    go_ret
    exact ⟨rfl, rfl⟩

def Amts (c : Nat → Nat) : Prop := ∀ i, i < 20 → amtB (c i) = true

theorem told_lit (x : Nat) : ∃ r n, told x = .tuple #[.float .f32 r, .int .i64 n] ∧ finB r = true ∧ (x < 4294967296 → r < 4294967296) := by
  rcases h : finB x with _ | _
  · exact ⟨0, 4, told_f h, by decide, fun _ => by decide⟩
  · exact ⟨x, 0, told_t h, h, fun hx => hx⟩

theorem sMass (k : Nat) (hk : k < 20) (w : World) :
    Calls Try.prog 135 #[.int .i64 (k : Int)] w fun e w' => e = .returned (.float .f32 (mass k)) ∧ w = w' := by
  have H : k = 0 ∨ k = 1 ∨ k = 2 ∨ k = 3 ∨ k = 4 ∨ k = 5 ∨ k = 6 ∨ k = 7 ∨ k = 8 ∨ k = 9 ∨ k = 10 ∨ k = 11 ∨ k = 12 ∨ k = 13 ∨ k = 14 ∨ k = 15 ∨ k = 16 ∨ k = 17 ∨ k = 18 ∨ k = 19 := by omega
  rcases H with rfl | rfl | rfl | rfl | rfl | rfl | rfl | rfl | rfl | rfl | rfl | rfl | rfl | rfl | rfl | rfl | rfl | rfl | rfl | rfl
  all_goals
    go_enter Try.func135, Try.ntmps135
    go_wp2
    go_ret
    exact ⟨rfl, rfl⟩

set_option maxRecDepth 100000 in
theorem iWaters (c : Nat → Nat) (h : Amts c) (w : World) :
    Calls Try.prog 141 #[.agg (fls c)] w fun e w' => e = .returned (.agg (fls (wat c))) ∧ Below w.heap.size w w' := by
  have A0 := hid (((arrAt.new w c 26).alloc (.cells (fls fun _ => 0) 23)).alloc (.cells (fls fun _ => 0) 23))
  have A1 := hid ((new1 w (.cells (fls c) 26) (fun _ => 0) 23).alloc (.cells (fls fun _ => 0) 23))
  have A2 := hid (new2 w (.cells (fls c) 26) (.cells (fls fun _ => 0) 23) (fun _ => 0) 23)
  have b0 := boxed3 w (.cells (fls c) 26) (.cells (fls fun _ => 0) 23) (.cells (fls fun _ => 0) 23)
  have H := hid h
  clear h
  go_enter Try.func141, Try.ntmps141
  go_wp2_with (refine wpList_load_row rfl 26 _ rfl (w.heap.size) rfl 26 (fls c) (0, 0) _ A0.out Try.underlying26 rfl (by rw [fls_size]; exact info_arr) ?_)
  go_loopw [7] (fun i wr => ∃ k : Nat, k ≤ 20 ∧ i = .int .i64 k ∧ Hid (arrAt wr (w.heap.size + 1) (fun _ => 0) 23) ∧ Hid (arrAt wr (w.heap.size + 1 + 1) (cut (wat c) k) 23) ∧ Hid (Below w.heap.size w wr)) (fun i _ => 20 - (intOf i).toNat)
  case atStart => exact ⟨0, by omega, rfl, A1, hid (A2.out.ext (fun i _ => (cut_zero' (wat c) i).symm)), hid b0⟩
  case round =>
    obtain ⟨k, hk, rfl, h1, h2, hb⟩ := hrel
    by_cases hlt : k < 20
    · have hix := ix 26 Try.underlying26 c k hlt
      have hm := fun w => run_mul (P := Try.prog) 22 (H.out k hlt) (mass_amt hlt) w
      have q2 := h2.out.cell hlt
      have f2 := h2.out.frozen k
      go_wp2_with (go_at_call 139; refine (iMass k hlt _).mono ?_; rintro e w' ⟨rfl, rfl⟩)
      go_roundw
      case rel => exact ⟨k + 1, by omega, by go_num, hid (h1.out.setOther (by simp) _), hid ((h2.out.set k (wat c k)).ext (fun i _ => cut_succ (wat c) k i)), hid (hb.out.setCell (by simp; omega) _)⟩
      case measure => simp [intOf]; omega
    · obtain rfl : k = 20 := by omega
      have h2' := hid (h2.out.ext (cut_all (wat c)))
      clear h2
      go_wp2_with (first | (refine wpList_load_row rfl 23 _ rfl (w.heap.size + 1 + 1) rfl 23 (fls (wat c)) (0, 0) _ h2'.out Try.underlying23 rfl (by rw [fls_size]; exact info_a20) ?_) | (refine wpList_store_row rfl 23 _ _ rfl (w.heap.size + 1) (fls (wat c)) rfl rfl 23 _ h1.out (by rw [fls_size]; exact info_a20) (by simp) (fls_one (wat c)) ?_))
      exact bodyPost_ret (results_cell_row rfl _ _ (w.heap.size + 1) 23 (fls (wat c)) (0, 0) _ rfl (h1.out.setRow (wat c)) Try.underlying23 rfl (by rw [fls_size]; exact info_a20)) rfl ⟨rfl, below_row hb.out (by omega) _⟩

set_option maxRecDepth 100000 in
theorem iWaterOf_ok (c : Nat → Nat) (h : Amts c) (w : World) :
    Calls Try.prog 98 #[.agg (fls c)] w fun e w' => e = .returned (told (sumF (wat c) 19)) ∧ Below w.heap.size w w' := by
  have hn : ∀ i, i < 20 → nnB (wat c i) = true := fun i hi => wat_nn hi (h i hi)
  have hx := hid (nn_lt (sumF_nn 19 (fun i hi => hn i (by omega))))
  have Hn := hid hn
  have H := hid h
  clear h hn
  obtain ⟨r, n, ht, hr, _⟩ := told_lit (sumF (wat c) 19)
  have hC := fun w => (iTold (sumF (wat c) 19) hx.out w)
  rw [ht] at hC ⊢
  have HC := hid hC
  clear hC ht hr
  have A0 := hid (arrAt.new w c 26)
  have b0 := boxed w (.cells (fls c) 26)
  go_enter Try.func98, Try.ntmps98
  go_wp2_with (first | (refine wpList_load_row rfl 26 _ rfl (w.heap.size) rfl 26 (fls c) (0, 0) _ A0.out Try.underlying26 rfl (by rw [fls_size]; exact info_arr) ?_))
  refine (validSizes_t c H.out _).mono ?_
  rintro e w0 ⟨rfl, hb0⟩
  have A0 := hid (A0.out.stay hb0)
  have c0 := stp b0 (Nat.le_refl _) hb0
  go_wp2_with (first | (refine wpList_load_row rfl 26 _ rfl (w.heap.size) rfl 26 (fls c) (0, 0) _ A0.out Try.underlying26 rfl (by rw [fls_size]; exact info_arr) ?_))
  refine (iWaters c H.out _).mono ?_
  rintro e w1 ⟨rfl, hb1⟩
  have A0 := hid (A0.out.stay hb1)
  have c1 := stp c0 (Nat.le_refl _) hb1
  go_wp2_with fail
  refine (iSum (wat c) Hn.out _).mono ?_
  rintro e w2 ⟨rfl, hb2⟩
  have A0 := hid (A0.out.stay hb2)
  have c2 := stp c1 (Nat.le_refl _) hb2
  go_wp2_with fail
  refine (HC.out _).mono ?_
  rintro e w3 ⟨rfl, hb3⟩
  have A0 := hid (A0.out.stay hb3)
  have c3 := stp c2 (Nat.le_refl _) hb3
  go_wp2
  go_ret2
  exact ⟨rfl, c3⟩

def Fins (c : Nat → Nat) : Prop := ∀ i, i < 20 → finB (c i) = true

set_option maxRecDepth 100000 in
theorem iFinite_t (c : Nat → Nat) (hb : ∀ i, i < 20 → c i < 4294967296) (h : Fins c) (w : World) :
    Calls Try.prog 163 #[.agg (fls c)] w fun e w' => e = .returned (.tuple #[.agg (fls c), .int .i64 0]) ∧ Below w.heap.size w w' := by
  have A0 := hid ((arrAt.new w c 26).alloc (.cells (fls fun _ => 0) 26))
  have A1 := hid (new1 w (.cells (fls c) 26) (fun _ => 0) 26)
  have b0 := boxed2 w (.cells (fls c) 26) (.cells (fls fun _ => 0) 26)
  have HB := hid hb
  have H := hid h
  clear h hb
  go_enter Try.func163, Try.ntmps163
  go_wp2_with (refine wpList_load_row rfl 26 _ rfl (w.heap.size) rfl 26 (fls c) (0, 0) _ A0.out Try.underlying26 rfl (by rw [fls_size]; exact info_arr) ?_)
  go_loop [7] (fun i => ∃ k : Nat, k ≤ 20 ∧ i = .int .i64 k) (fun i => 20 - (intOf i).toNat)
  case atStart => exact ⟨0, by omega, rfl⟩
  case round =>
    obtain ⟨k, hk, rfl⟩ := hrel
    by_cases hlt : k < 20
    · have hix := ix 26 Try.underlying26 c k hlt
      go_wp2_with (go_at_call 78; refine (isFinite_t (c k) (HB.out k hlt) (H.out k hlt) _).mono ?_; rintro e w' ⟨rfl, rfl⟩)
      go_round
      case rel => exact ⟨k + 1, by omega, by go_num⟩
      case measure => simp [intOf]; omega
    · go_wp2_with (first | (refine wpList_load_row rfl 26 _ rfl (w.heap.size) rfl 26 (fls c) (0, 0) _ A0.out Try.underlying26 rfl (by rw [fls_size]; exact info_arr) ?_) | (refine wpList_store_row rfl 26 _ _ rfl (w.heap.size + 1) (fls c) rfl rfl 26 _ A1.out (by rw [fls_size]; exact info_arr) (by simp) (fls_one c) ?_))
      exact bodyPost_ret (results_row_tmp rfl _ _ (w.heap.size + 1) 26 (fls c) (0, 0) _ rfl (A1.out.setRow c) Try.underlying26 rfl (by rw [fls_size]; exact info_arr)) rfl ⟨rfl, below_row b0 (by simp) _⟩

set_option maxRecDepth 100000 in
theorem iFinite_f (c : Nat → Nat) (hb : ∀ i, i < 20 → c i < 4294967296) (h : ¬ Fins c) (w : World) :
    Calls Try.prog 163 #[.agg (fls c)] w fun e w' => e = .returned (.tuple #[.agg (fls fun _ => 0), .int .i64 4]) ∧ Below w.heap.size w w' := by
  have A0 := hid ((arrAt.new w c 26).alloc (.cells (fls fun _ => 0) 26))
  have A1 := hid (new1 w (.cells (fls c) 26) (fun _ => 0) 26)
  have b0 := boxed2 w (.cells (fls c) 26) (.cells (fls fun _ => 0) 26)
  have HB := hid hb
  have H := hid h
  clear h hb
  go_enter Try.func163, Try.ntmps163
  go_wp2_with (refine wpList_load_row rfl 26 _ rfl (w.heap.size) rfl 26 (fls c) (0, 0) _ A0.out Try.underlying26 rfl (by rw [fls_size]; exact info_arr) ?_)
  go_loop [7] (fun i => ∃ k : Nat, k ≤ 20 ∧ Hid (∀ i, i < k → finB (c i) = true) ∧ i = .int .i64 k) (fun i => 20 - (intOf i).toNat)
  case atStart => exact ⟨0, by omega, hid (fun i hi => by omega), rfl⟩
  case round =>
    obtain ⟨k, hk, HK, rfl⟩ := hrel
    by_cases hlt : k < 20
    · have hix := ix 26 Try.underlying26 c k hlt
      rcases hac : finB (c k) with _ | _
      · have HA := hid hac
        clear hac
        go_wp2_with (fail)
        refine (isFinite_f (c k) (HB.out k hlt) HA.out _).mono ?_
        rintro e w1 ⟨rfl, hb1⟩
        have A2 := hid (A1.out.stay hb1)
        have b1 := stp b0 (Nat.le_refl _) hb1
        go_wp2_with (refine wpList_store_row rfl 26 _ _ rfl (w.heap.size + 1) (fls (fun _ => 0)) rfl rfl 26 _ A2.out (by rw [fls_size]; exact info_arr) (by simp) (fls_one (fun _ => 0)) ?_)
        exact bodyPost_ret (results_row_tmp rfl _ _ (w.heap.size + 1) 26 (fls (fun _ => 0)) (0, 0) _ rfl (A2.out.setRow (fun _ => 0)) Try.underlying26 rfl (by rw [fls_size]; exact info_arr)) rfl ⟨rfl, below_row b1 (by simp) _⟩
      · have HA := hid hac
        clear hac
        go_wp2_with (go_at_call 78; refine (isFinite_t (c k) (HB.out k hlt) HA.out _).mono ?_; rintro e w' ⟨rfl, rfl⟩)
        go_round
        case rel =>
          refine ⟨k + 1, by omega, hid (fun i hi => ?_), by go_num⟩
          by_cases e : i = k
          · subst e; exact HA.out
          · exact HK.out i (by omega)
        case measure => simp [intOf]; omega
    · have hk20 : k = 20 := by omega
      exact (H.out (fun i hi => HK.out i (by omega))).elim

set_option maxRecDepth 100000 in
theorem sMade_t (c : Nat → Nat) (hb : ∀ i, i < 20 → c i < 4294967296) (h : Fins c) (w : World) :
    Calls Try.prog 138 #[.agg (fls c)] w fun e w' => e = .returned (.tuple #[.agg (fls c), .int .i64 0]) ∧ Below w.heap.size w w' := by
  have A0 := hid ((arrAt.new w c 26).alloc (.cells (fls fun _ => 0) 26))
  have A1 := hid (new1 w (.cells (fls c) 26) (fun _ => 0) 26)
  have b0 := boxed2 w (.cells (fls c) 26) (.cells (fls fun _ => 0) 26)
  have HB := hid hb
  have H := hid h
  clear h hb
  go_enter Try.func138, Try.ntmps138
  go_wp2
  go_loop [4] (fun i => ∃ k : Nat, k ≤ 20 ∧ i = .int .i64 k) (fun i => 20 - (intOf i).toNat)
  case atStart => exact ⟨0, by omega, rfl⟩
  case round =>
    obtain ⟨k, hk, rfl⟩ := hrel
    by_cases hlt : k < 20
    · have hix := A0.out.cell hlt
      go_wp2_with (go_at_call 75; refine (sFinite_t (c k) (HB.out k hlt) (H.out k hlt) _).mono ?_; rintro e w' ⟨rfl, rfl⟩)
      go_round
      case rel => exact ⟨k + 1, by omega, by go_num⟩
      case measure => simp [intOf]; omega
    · go_wp2_with (first | (refine wpList_load_row rfl 26 _ rfl (w.heap.size) rfl 26 (fls c) (0, 0) _ A0.out Try.underlying26 rfl (by rw [fls_size]; exact info_arr) ?_) | (refine wpList_store_row rfl 26 _ _ rfl (w.heap.size + 1) (fls c) rfl rfl 26 _ A1.out (by rw [fls_size]; exact info_arr) (by simp) (fls_one c) ?_))
      exact bodyPost_ret (results_row_tmp rfl _ _ (w.heap.size + 1) 26 (fls c) (0, 0) _ rfl (A1.out.setRow c) Try.underlying26 rfl (by rw [fls_size]; exact info_arr)) rfl ⟨rfl, below_row b0 (by simp) _⟩

set_option maxRecDepth 100000 in
theorem sMade_f (c : Nat → Nat) (hb : ∀ i, i < 20 → c i < 4294967296) (h : ¬ Fins c) (w : World) :
    Calls Try.prog 138 #[.agg (fls c)] w fun e w' => e = .returned (.tuple #[.agg (fls fun _ => 0), .int .i64 4]) ∧ Below w.heap.size w w' := by
  have A0 := hid ((arrAt.new w c 26).alloc (.cells (fls fun _ => 0) 26))
  have A1 := hid (new1 w (.cells (fls c) 26) (fun _ => 0) 26)
  have b0 := boxed2 w (.cells (fls c) 26) (.cells (fls fun _ => 0) 26)
  have HB := hid hb
  have H := hid h
  clear h hb
  go_enter Try.func138, Try.ntmps138
  go_wp2
  go_loop [4] (fun i => ∃ k : Nat, k ≤ 20 ∧ Hid (∀ i, i < k → finB (c i) = true) ∧ i = .int .i64 k) (fun i => 20 - (intOf i).toNat)
  case atStart => exact ⟨0, by omega, hid (fun i hi => by omega), rfl⟩
  case round =>
    obtain ⟨k, hk, HK, rfl⟩ := hrel
    by_cases hlt : k < 20
    · have hix := A0.out.cell hlt
      rcases hac : finB (c k) with _ | _
      · have HA := hid hac
        clear hac
        go_wp2_with (fail)
        refine (sFinite_f (c k) (HB.out k hlt) HA.out _).mono ?_
        rintro e w1 ⟨rfl, hb1⟩
        have A2 := hid (A1.out.stay hb1)
        have b1 := stp b0 (Nat.le_refl _) hb1
        go_wp2_with (refine wpList_store_row rfl 26 _ _ rfl (w.heap.size + 1) (fls (fun _ => 0)) rfl rfl 26 _ A2.out (by rw [fls_size]; exact info_arr) (by simp) (fls_one (fun _ => 0)) ?_)
        exact bodyPost_ret (results_row_tmp rfl _ _ (w.heap.size + 1) 26 (fls (fun _ => 0)) (0, 0) _ rfl (A2.out.setRow (fun _ => 0)) Try.underlying26 rfl (by rw [fls_size]; exact info_arr)) rfl ⟨rfl, below_row b1 (by simp) _⟩
      · have HA := hid hac
        clear hac
        go_wp2_with (go_at_call 75; refine (sFinite_t (c k) (HB.out k hlt) HA.out _).mono ?_; rintro e w' ⟨rfl, rfl⟩)
        go_round
        case rel =>
          refine ⟨k + 1, by omega, hid (fun i hi => ?_), by go_num⟩
          by_cases e : i = k
          · subst e; exact HA.out
          · exact HK.out i (by omega)
        case measure => simp [intOf]; omega
    · have hk20 : k = 20 := by omega
      exact (H.out (fun i hi => HK.out i (by omega))).elim

/-- Sizes that would be returned, by either program, are told alike. -/
theorem iFinite (c : Nat → Nat) (hb : ∀ i, i < 20 → c i < 4294967296) (d : Nat → Nat) (n : Int) (h1 : Fins c → d = c ∧ n = 0) (h2 : ¬ Fins c → d = (fun _ => 0) ∧ n = 4) (w : World) :
    Calls Try.prog 163 #[.agg (fls c)] w fun e w' => e = .returned (.tuple #[.agg (fls d), .int .i64 n]) ∧ Below w.heap.size w w' := by
  by_cases h : Fins c
  · obtain ⟨rfl, rfl⟩ := h1 h; exact iFinite_t _ hb h w
  · obtain ⟨rfl, rfl⟩ := h2 h; exact iFinite_f _ hb h w

theorem zf : Fins (fun _ => 0) := fun _ _ => (by decide : finB 0 = true)

theorem zl : ∀ i, i < 20 → (fun _ : Nat => 0) i < 4294967296 := fun _ _ => (by decide : 0 < 4294967296)

theorem sMassI (n : Int) (h0 : 0 ≤ n) (h1 : n < 20) (w : World) :
    Calls Try.prog 135 #[.int .i64 n] w fun e w' => e = .returned (.float .f32 (mass n.toNat)) ∧ w = w' := by
  obtain ⟨k, rfl⟩ := Int.eq_ofNat_of_zero_le h0
  exact sMass k (by omega) w

set_option maxRecDepth 100000 in
theorem sFor (x : Nat) (ha : amtB x = true) (h1 : ONE ≤ x) (w : World) :
    Calls Try.prog 161 #[.float .f32 x] w fun e w' => e = .returned (.int .i64 (forF x : Int)) ∧ w = w' := by
  have Ha := hid ha
  have H1 := hid h1
  clear ha h1
  go_enter Try.func161, Try.ntmps161
  go_wp2
  go_loop [3] (fun i => ∃ k : Nat, k ≤ 19 ∧ i = .int .i64 k ∧ Hid (mass k ≤ x)) (fun i => 20 - (intOf i).toNat)
  case atStart => exact ⟨0, by omega, rfl, H1⟩
  case round =>
    obtain ⟨k, hk, rfl, hm⟩ := hrel
    by_cases hlt : k < 19
    · by_cases hle : mass (k + 1) ≤ x
      · have ho := leq_t (mass_amt (k := k + 1) (by omega)) Ha.out hle
        have HL := hid hle
        clear hle
        have e1 : ((k : Int) + 1).toNat = k + 1 := by omega
        have E1 := hid e1
        clear e1
        go_wp2_with (go_at_call 135; refine (sMassI _ (by omega) (by omega) _).mono ?_; rintro e w' ⟨rfl, rfl⟩; rw [E1.out])
        go_round
        case rel => exact ⟨k + 1, by omega, by go_num, HL⟩
        case measure => simp [intOf]; omega
      · have hgt : x < mass (k + 1) := by omega
        have ho := leq_f (mass_amt (k := k + 1) (by omega)) Ha.out hgt
        have hf := hid (forF_eq (by omega) hm.out (.inr hgt))
        clear hle hgt
        have e1 : ((k : Int) + 1).toNat = k + 1 := by omega
        have E1 := hid e1
        clear e1
        go_wp2_with (go_at_call 135; refine (sMassI _ (by omega) (by omega) _).mono ?_; rintro e w' ⟨rfl, rfl⟩; rw [E1.out])
        go_ret
        exact ⟨by simp [hf.out], rfl⟩
    · obtain rfl : k = 19 := by omega
      have hf := hid (forF_eq (by omega) hm.out (.inl rfl))
      go_wp2
      go_ret
      exact ⟨by simp [hf.out], rfl⟩

set_option maxRecDepth 100000 in
theorem iClassFor_ok (x : Nat) (ha : amtB x = true) (h1 : ONE ≤ x) (w : World) :
    Calls Try.prog 164 #[.float .f32 x] w fun e w' => e = .returned (.tuple #[.int .i64 (forF x : Int), .int .i64 0]) ∧ w = w' := by
  have Hx := hid (amt_lt ha)
  have Hf := hid (amt_fin ha)
  have ho := lt_f ha (y := 1065353216) (by decide) h1
  have Ha := hid ha
  have H1 := hid h1
  clear ha h1
  go_enter Try.func164, Try.ntmps164
  go_wp2_with fail
  go_step3
  go_wp2_with fail
  refine (isFinite_t x Hx.out Hf.out _).mono ?_
  rintro e w1 ⟨rfl, rfl⟩
  go_wp2_with fail
  go_step3
  go_wp2_with fail
  go_loop [4] (fun i => ∃ k : Nat, k ≤ 19 ∧ i = .int .i64 k ∧ Hid (k = 19 ∨ x < mass (k + 1))) (fun i => (intOf i).toNat)
  case atStart => exact ⟨19, by omega, rfl, hid (.inl rfl)⟩
  case round =>
    obtain ⟨k, hk, rfl, hm⟩ := hrel
    by_cases hlt : 0 < k
    · by_cases hle : mass k ≤ x
      · have hg := gt_f (mass_amt (k := k) (by omega)) Ha.out hle
        have hf := hid (forF_eq (by omega) hle hm.out)
        clear hle
        go_wp2_with (go_at_call 139; refine (iMass k (by omega) _).mono ?_; rintro e w' ⟨rfl, rfl⟩)
        rw [Exit.noGoto_ret]
        go_ret2
        exact ⟨by simp [hf.out], rfl⟩
      · have hgt : x < mass k := by omega
        have hg := gt_t (mass_amt (k := k) (by omega)) Ha.out hgt
        have HG := hid hgt
        clear hle hgt
        go_wp2_with (go_at_call 139; refine (iMass k (by omega) _).mono ?_; rintro e w' ⟨rfl, rfl⟩)
        go_round
        case rel => exact ⟨k - 1, by omega, by congr 1; omega, hid (.inr (by rw [show k - 1 + 1 = k by omega]; exact HG.out))⟩
        case measure => simp [intOf]; omega
    · obtain rfl : k = 0 := by omega
      have hf := hid (forF_eq (by omega) H1.out hm.out)
      go_wp2
      go_ret2
      exact ⟨by simp [hf.out], rfl⟩

theorem loose {P : Program} {f : FuncId} {args : Array Value} {w : World} {v : Value} (h : Calls P f args w fun e w' => e = .returned v ∧ w = w') : Calls P f args w fun e w' => e = .returned v ∧ Below w.heap.size w w' :=
  h.mono fun _ _ ⟨a, b⟩ => ⟨a, b ▸ Below.refl _ _⟩

/-- A whole array stored: the world behind it under a name of its own. -/
theorem store_abs {P : Program} {ops : Array Oper} {rest : List Oper} {o : Oper} {a : Act} {w : World} {Q : Exit → Act → World → Prop} (hgd : o.guard = none) (ty : TypeId) (x y : Operand) (ho : o.op = .store ty x y)
    (g : Nat) (d : Nat → Nat) (hx : a.eval x = .pointer (some ⟨g, 0, none⟩)) (hy : a.eval y = .agg (fls d)) (t : TypeId) (old : Nat → Nat) (hg : arrAt w g old t) (hi : (P.info? ty).map (·.size) = some 20)
    (h : ∀ w', w' = w.setRow g (fls d) → wpList P ops Q rest (a.put o.dst undef) w') : wpList P ops Q (o :: rest) a w :=
  wpList_store_row hgd ty x y ho g (fls d) hx hy t (fls old) hg (by rw [fls_size]; exact hi) (by simp) (fls_one d) (h _ rfl)

theorem alloc_sizes (a : Operand → Value) (d : Option Tmp) (t : TypeId) (ps : String) (af : Array Edge) (gd : Option (Nat × Bool)) (w : World) :
    (execOp a ⟨d, .alloc 26, t, ps, af, gd⟩).run Try.prog w = .ok (.value (.pointer (some ⟨w.heap.size, 0, none⟩))) (w.alloc (.cells (fls fun _ => 0) 26)) := by
  unfold execOp
  go_simp

theorem run_toSizes1 (a : Act) (x0 : Operand) (v0 : Value) (h0 : a.eval x0 = v0) (d : Option Tmp) (ats : Array TypeId) (t : TypeId) (ps : String) (af : Array Edge) (gd : Option (Nat × Bool)) (w : World) :
    (execOp a.eval ⟨d, .call { callee := .value (.func 15), args := #[x0], argTypes := ats }, t, ps, af, gd⟩).run Try.prog w = .ok (.enter 15 #[v0]) w := by
  subst h0
  unfold execOp
  go_simp

theorem run_toA201 (a : Act) (x0 : Operand) (v0 : Value) (h0 : a.eval x0 = v0) (d : Option Tmp) (ats : Array TypeId) (t : TypeId) (ps : String) (af : Array Edge) (gd : Option (Nat × Bool)) (w : World) :
    (execOp a.eval ⟨d, .call { callee := .value (.func 46), args := #[x0], argTypes := ats }, t, ps, af, gd⟩).run Try.prog w = .ok (.enter 46 #[v0]) w := by
  subst h0
  unfold execOp
  go_simp

theorem iPut (c : Nat → Nat) (k : Nat) (hk : k < 20) (v : Nat) (hc : nnB (c k) = true) (hv : nnB v = true) (w : World) (g : Nat) (t : TypeId) (h : arrAt w g c t) :
    Calls Try.prog 162 #[.int .i64 (k : Int), .float .f32 v, .pointer (some ⟨g, 0, none⟩)] w fun e w' => e = .returned (.tuple #[]) ∧ w' = w.setCell ⟨g, k, none⟩ (.float .f32 (fadd (c k) v)) := by
  have q0 := h.cell hk
  have f0 := h.frozen k
  have hm := fun w => run_add (P := Try.prog) 22 hc hv w
  go_enter Try.func162, Try.ntmps162
  go_wp2
  go_end0
  exact ⟨rfl, rfl⟩

/-- What a write through a pointer leaves behind, orders that were drawn aside. -/
def Wrote (w1 w' : World) : Prop := (∀ g c t, arrAt w1 g c t → arrAt w' g c t) ∧ (∀ n w0, Below n w0 w1 → Below n w0 w')

theorem sPutB (c : Nat → Nat) (hc : nnB (c 0) = true) (x y : Nat) (hx : amtB x = true) (hlt : x < 1065353216) (hy : amtB y = true) (w : World) (g : Nat) (t : TypeId) (h : arrAt w g c t) :
    Calls Try.prog 136 #[.pointer (some ⟨g, 0, none⟩), .float .f32 x, .float .f32 y] w fun e w' => e = .returned (.tuple #[]) ∧ Wrote (w.setCell ⟨g, 0, none⟩ (.float .f32 (putB c x y 0))) w' := by
  have q0 := h.cell (k := 0) (by decide)
  have f0 := h.frozen 0
  have hl := lt_t hx (y := 1065353216) (by decide) hlt
  have h1 := fun w => run_mul (P := Try.prog) 22 hy hx w
  have h2 := fun w => run_add (P := Try.prog) 22 hc (mul_eq hy hx).2 w
  go_enter Try.func136, Try.ntmps136
  go_wp2_with fail
  go_region
  all_goals go_wp2
  all_goals exact bodyPost_ret (results_none (by rfl) _ _ _) rfl ⟨rfl, fun _ _ _ h => h, fun _ _ h => h.drew⟩

theorem sPutT (c : Nat → Nat) (hc : nnB (c 19) = true) (x y : Nat) (hx : amtB x = true) (h1 : ONE ≤ x) (hk : forF x = 19) (hy : amtB y = true) (w : World) (g : Nat) (t : TypeId) (h : arrAt w g c t) :
    Calls Try.prog 136 #[.pointer (some ⟨g, 0, none⟩), .float .f32 x, .float .f32 y] w fun e w' => e = .returned (.tuple #[]) ∧ Wrote (w.setCell ⟨g, 19, none⟩ (.float .f32 (putT c x y 19))) w' := by
  have q0 := h.cell (k := 19) (by decide)
  have f0 := h.frozen 19
  have hl := lt_f hx (y := 1065353216) (by decide) h1
  have hq := div_less (k := 19) (by decide) (amtB_iff.1 hx)
  have hqa : amtB (fdiv x (mass 19)) = true := amtB_iff.2 (Nat.lt_of_le_of_lt hq (amtB_iff.1 hx))
  have h0 := fun w => run_div (P := Try.prog) 22 (amt_nn hx) (mass_amt (k := 19) (by decide)) (mass_ne 19) w
  have h3 := fun w => run_mul (P := Try.prog) 22 hy hqa w
  have h2 := fun w => run_add (P := Try.prog) 22 hc (mul_eq hy hqa).2 w
  have hC := fun w => sFor x hx h1 w
  rw [hk] at hC
  have HC := hid hC
  clear hC hk hq hqa hx h1 hy
  go_enter Try.func136, Try.ntmps136
  go_wp2_with fail
  refine (HC.out _).mono ?_
  rintro e w1 ⟨rfl, rfl⟩
  go_wp2_with fail
  go_region_with (go_at_call 135; refine (sMass 19 (by decide) _).mono ?_; rintro e w' ⟨rfl, rfl⟩)
  all_goals go_wp2
  all_goals exact bodyPost_ret (results_none (by rfl) _ _ _) rfl ⟨rfl, fun _ _ _ h => h, fun _ _ h => h.drew⟩

/-- The runs of PutDroplets' arithmetic between two classes. -/
theorem put_runs (x y k : Nat) (hx : amtB x = true) (h1 : ONE ≤ x) (hk : forF x = k) (hlt : k < 19) (hy : amtB y = true) :
    (∀ w, (binOp .sub 22 (.float .f32 x) (.float .f32 (mass k))).run Try.prog w = .ok (.float .f32 (fsub x (mass k))) w)
    ∧ (∀ w, (binOp .quo 22 (.float .f32 (fsub x (mass k))) (.float .f32 (mass k))).run Try.prog w = .ok (.float .f32 (fdiv (fsub x (mass k)) (mass k))) w)
    ∧ (∀ w, (binOp .sub 22 (.float .f32 1065353216) (.float .f32 (fdiv (fsub x (mass k)) (mass k)))).run Try.prog w = .ok (.float .f32 (fsub 1065353216 (fdiv (fsub x (mass k)) (mass k)))) w)
    ∧ (∀ w, (binOp .mul 22 (.float .f32 y) (.float .f32 (fsub 1065353216 (fdiv (fsub x (mass k)) (mass k))))).run Try.prog w = .ok (.float .f32 (fmul y (fsub 1065353216 (fdiv (fsub x (mass k)) (mass k))))) w)
    ∧ (∀ w, (binOp .mul 22 (.float .f32 y) (.float .f32 (fdiv (fsub x (mass k)) (mass k)))).run Try.prog w = .ok (.float .f32 (fmul y (fdiv (fsub x (mass k)) (mass k)))) w)
    ∧ nnB (fmul y (fsub 1065353216 (fdiv (fsub x (mass k)) (mass k)))) = true ∧ nnB (fmul y (fdiv (fsub x (mass k)) (mass k))) = true := by
  subst hk
  obtain ⟨a1, a2, a3, a4, a5⟩ := put_facts (y := y) h1 (by omega)
  exact ⟨fun w => run_sub _ (amtB_iff.1 hx) a1 w, fun w => run_div _ (amt_nn a2) (mass_amt (forF_lt x)) (mass_ne _) w, fun w => run_sub _ (by decide) a4 w, fun w => run_mul _ hy a5 w, fun w => run_mul _ hy a3 w, (mul_eq hy a5).2, (mul_eq hy a3).2⟩

theorem putB_nn {c : Nat → Nat} (h : Amts c) {x y : Nat} (hx : amtB x = true) (hy : amtB y = true) : ∀ i, i < 20 → nnB (putB c x y i) = true := by
  intro i hi
  unfold putB upd
  split
  · exact (add_eq (amt_nn (h 0 (by decide))) (mul_eq hy hx).2).2
  · exact amt_nn (h i hi)

theorem putT_nn {c : Nat → Nat} (h : Amts c) {x y : Nat} (hx : amtB x = true) (hy : amtB y = true) : ∀ i, i < 20 → nnB (putT c x y i) = true := by
  intro i hi
  have hq := div_less (k := 19) (by decide) (amtB_iff.1 hx)
  unfold putT upd
  split
  · exact (add_eq (amt_nn (h 19 (by decide))) (mul_eq hy (amtB_iff.2 (Nat.lt_of_le_of_lt hq (amtB_iff.1 hx)))).2).2
  · exact amt_nn (h i hi)

theorem putL_nn {c : Nat → Nat} (h : Amts c) {x y : Nat} (h1 : ONE ≤ x) (hk : forF x ≠ 19) (hy : amtB y = true) : ∀ i, i < 20 → nnB (putL c x y i) = true := by
  intro i hi
  obtain ⟨a1, a2, a3, a4, a5⟩ := put_facts (y := y) h1 hk
  unfold putL upd
  split
  · exact (add_eq (amt_nn (h _ (forF_lt x))) (mul_eq hy a5).2).2
  · exact amt_nn (h i hi)

theorem putM_nn {c : Nat → Nat} (h : Amts c) {x y : Nat} (h1 : ONE ≤ x) (hk : forF x ≠ 19) (hy : amtB y = true) : ∀ i, i < 20 → nnB (putM c x y i) = true := by
  intro i hi
  obtain ⟨a1, a2, a3, a4, a5⟩ := put_facts (y := y) h1 hk
  unfold putM upd
  split
  · exact (add_eq (amt_nn (h _ (by have := forF_lt x; omega))) (mul_eq hy a3).2).2
  · exact putL_nn h h1 hk hy i hi

theorem Wrote.arr {w w' : World} {g k v : Nat} {c : Nat → Nat} {t : TypeId} (hw : Wrote (w.setCell ⟨g, k, none⟩ (.float .f32 v)) w') (h : arrAt w g c t) : arrAt w' g (upd c k v) t := hw.1 _ _ _ (h.set k v)

theorem Wrote.other {w w' : World} {g g' k v : Nat} {c : Nat → Nat} {t : TypeId} (hw : Wrote (w.setCell ⟨g, k, none⟩ (.float .f32 v)) w') (h : arrAt w g' c t) (hg : g' ≠ g) : arrAt w' g' c t := hw.1 _ _ _ (h.setOther (a := ⟨g, k, none⟩) hg _)

theorem putB_eq (c : Nat → Nat) (x y : Nat) : upd c 0 (putB c x y 0) = putB c x y := by funext i; simp [putB, upd]

theorem putT_eq (c : Nat → Nat) (x y : Nat) : upd c 19 (putT c x y 19) = putT c x y := by funext i; simp [putT, upd]

theorem putL_eq (c : Nat → Nat) (x y : Nat) : upd c (forF x) (putL c x y (forF x)) = putL c x y := by funext i; simp [putL, upd]

theorem putM_eq (c : Nat → Nat) (x y : Nat) : upd (putL c x y) (forF x + 1) (putM c x y (forF x + 1)) = putM c x y := by funext i; simp [putM, upd]

theorem putL_val (c : Nat → Nat) (x y k : Nat) (hk : forF x = k) : upd c k (fadd (c k) (fmul y (fsub 1065353216 (fdiv (fsub x (mass k)) (mass k))))) = putL c x y := by subst hk; rfl

theorem putM_val (c : Nat → Nat) (x y k : Nat) (hk : forF x = k) : upd (putL c x y) (k + 1) (fadd (putL c x y (k + 1)) (fmul y (fdiv (fsub x (mass k)) (mass k)))) = putM c x y := by
  subst hk
  have : putL c x y (forF x + 1) = c (forF x + 1) := by simp [putL, upd]
  rw [this]
  rfl

/-- A write that the walk saw, in the facts of the blocks. -/
theorem iPutI (c : Nat → Nat) (n : Int) (k : Nat) (hn : n = (k : Int)) (hk : k < 20) (v : Nat) (hc : nnB (c k) = true) (hv : nnB v = true) (w : World) (g : Nat) (t : TypeId) (h : arrAt w g c t) :
    Calls Try.prog 162 #[.int .i64 n, .float .f32 v, .pointer (some ⟨g, 0, none⟩)] w fun e w' => e = .returned (.tuple #[]) ∧ Wrote (w.setCell ⟨g, k, none⟩ (.float .f32 (fadd (c k) v))) w' := by
  subst hn
  refine (iPut c k hk v hc hv w g t h).mono ?_
  rintro e w' ⟨rfl, rfl⟩
  exact ⟨rfl, fun _ _ _ h => h, fun _ _ h => h⟩

set_option maxRecDepth 100000 in
theorem iPutDroplets_okB (c : Nat → Nat) (h : Amts c) (x : Nat) (hx : amtB x = true) (h0 : x ≠ 0) (hlt : x < 1065353216) (y : Nat) (hy : amtB y = true) (r : Nat → Nat) (n : Int) (g1 : Fins (putB c x y) → r = putB c x y ∧ n = 0) (g2 : ¬ Fins (putB c x y) → r = (fun _ => 0) ∧ n = 4) (w : World) :
    Calls Try.prog 140 #[.agg (fls c), .float .f32 x, .float .f32 y] w fun e w' => e = .returned (.tuple #[.agg (fls r), .int .i64 n]) ∧ Below w.heap.size w w' := by
  have hnn := putB_nn h hx hy
  have hf := amt_fin hx
  have ho1 := leq_f hx (y := 0) (by decide) (Nat.pos_of_ne_zero h0)
  have ho2 := gt_t hx (y := 0) (by decide) (Nat.pos_of_ne_zero h0)
  have hxl := amt_lt hx
  have hl := lt_t hx (y := 1065353216) (by decide) hlt
  have hr1 := fun w => run_mul (P := Try.prog) 22 hy hx w
  have hv1 := (mul_eq hy hx).2
  clear h0 ho2
  have A0 := hid ((arrAt.new w c 26).alloc (.cells (fls (fun _ => 0)) 26))
  have A1 := hid (new1 w (.cells (fls c) 26) (fun _ => 0) 26)
  have b0 := boxed2 w (.cells (fls c) 26) (.cells (fls (fun _ => 0)) 26)
  have Hh := hid h
  have Hhx := hid hx
  have Hhf := hid hf
  have Hhxl := hid hxl
  have Hhy := hid hy
  have Hg1 := hid g1
  have Hg2 := hid g2
  have Hhnn := hid hnn
  have Hhv1 := hid hv1
  have Hhlt := hid hlt
  clear h hx hf hxl hy g1 g2 hnn hv1 hlt
  go_enter Try.func140, Try.ntmps140
  go_wp2_with (first | (refine wpList_load_row rfl 26 _ rfl (w.heap.size) rfl 26 (fls c) (0, 0) _ A0.out Try.underlying26 rfl (by rw [fls_size]; exact info_arr) ?_))
  refine (validSizes_t c Hh.out _).mono ?_
  rintro e w0 ⟨rfl, hb0⟩
  have A0 := hid (A0.out.stay hb0)
  have A1 := hid (A1.out.stay hb0)
  have c0 := stp b0 (Nat.le_refl _) hb0
  go_wp2_with fail
  refine (isFinite_t x Hhxl.out Hhf.out _).mono ?_
  rintro e w1 ⟨rfl, rfl⟩
  go_wp2_with fail
  refine (isAmount_t y Hhy.out _).mono ?_
  rintro e w2 ⟨rfl, rfl⟩
  have lx := A0.out.lt
  have ly := A1.out.lt
  have N0 := hid (arrAt.new w0 (fun _ => 0) 26)
  have P0 := hid (N0.out.setRow c)
  have B1 := hid ((A1.out.alloc (.cells (fls fun _ => 0) 26)).setRowOther (k := w0.heap.size) (Nat.ne_of_lt ly) (fls c))
  have bX : Below w.heap.size w ((w0.alloc (.cells (fls fun _ => 0) 26)).setRow w0.heap.size (fls c)) := below_row (c0.alloc c0.size _) c0.size _
  have S0 := hid c0.size
  have LY := hid ly
  clear lx ly
  have tok1 : True := trivial
  go_wp2_with (first | (refine wpList_load_row rfl 26 _ rfl (w.heap.size) rfl 26 (fls c) (0, 0) _ A0.out Try.underlying26 rfl (by rw [fls_size]; exact info_arr) ?_) | (have _t := tok1; refine store_abs rfl 26 _ _ rfl w0.heap.size c rfl rfl 26 _ N0.out info_arr ?_; intro w9 hw9; rw [← hw9] at P0 B1 bX; clear hw9; clear N0; clear hb0 b0 tok1))
  refine (iPutI (c) _ 0 (by omega) (by omega) (fmul y x) (amt_nn (Hh.out 0 (by omega))) Hhv1.out _ w0.heap.size 26 P0.out).mono ?_
  rintro e wp0 ⟨rfl, hwp⟩
  have P1 := hid (hwp.arr P0.out)
  have B2 := hid (hwp.other B1.out (Nat.ne_of_lt LY.out))
  have bY0 := hwp.2 _ _ (bX.setCell (p := ⟨w0.heap.size, 0, none⟩) S0.out (.float .f32 (fadd ((c) 0) (fmul y x))))
  clear hwp P0 B1 bX
  go_wp2_with (first | (refine wpList_load_row rfl 26 _ rfl (w0.heap.size) rfl 26 (fls (putB c x y)) (0, 0) _ P1.out Try.underlying26 rfl (by rw [fls_size]; exact info_arr) ?_))
  refine (iFinite (putB c x y) (fun i hi => nn_lt (Hhnn.out i hi)) r n Hg1.out Hg2.out _).mono ?_
  rintro e w9 ⟨rfl, hb9⟩
  have A9 := hid (B2.out.stay hb9)
  have b9 := stp bY0 (Nat.le_refl _) hb9
  go_wp2_with (first | (refine wpList_store_row rfl 26 _ _ rfl (w.heap.size + 1) (fls r) rfl rfl 26 _ A9.out (by rw [fls_size]; exact info_arr) (by simp) (fls_one r) ?_))
  exact bodyPost_ret (results_row_tmp rfl _ _ (w.heap.size + 1) 26 (fls r) (0, 0) _ rfl (A9.out.setRow r) Try.underlying26 rfl (by rw [fls_size]; exact info_arr)) rfl ⟨rfl, below_row b9 (by omega) _⟩

set_option maxRecDepth 100000 in
theorem iPutDroplets_okT (c : Nat → Nat) (h : Amts c) (x : Nat) (hx : amtB x = true) (h0 : x ≠ 0) (h1 : ONE ≤ x) (hk : forF x = 19) (y : Nat) (hy : amtB y = true) (r : Nat → Nat) (n : Int) (g1 : Fins (putT c x y) → r = putT c x y ∧ n = 0) (g2 : ¬ Fins (putT c x y) → r = (fun _ => 0) ∧ n = 4) (w : World) :
    Calls Try.prog 140 #[.agg (fls c), .float .f32 x, .float .f32 y] w fun e w' => e = .returned (.tuple #[.agg (fls r), .int .i64 n]) ∧ Below w.heap.size w w' := by
  have hnn := putT_nn h hx hy
  have hf := amt_fin hx
  have ho1 := leq_f hx (y := 0) (by decide) (Nat.pos_of_ne_zero h0)
  have ho2 := gt_t hx (y := 0) (by decide) (Nat.pos_of_ne_zero h0)
  have hxl := amt_lt hx
  have hl := lt_f hx (y := 1065353216) (by decide) h1
  have hq := div_less (k := 19) (by decide) (amtB_iff.1 hx)
  have hqa : amtB (fdiv x (mass 19)) = true := amtB_iff.2 (Nat.lt_of_le_of_lt hq (amtB_iff.1 hx))
  have hr1 := fun w => run_div (P := Try.prog) 22 (amt_nn hx) (mass_amt (k := 19) (by decide)) (mass_ne 19) w
  have hr2 := fun w => run_mul (P := Try.prog) 22 hy hqa w
  have hv1 := (mul_eq hy hqa).2
  have hC := fun w => iClassFor_ok x hx h1 w
  rw [hk] at hC
  have HC := hid hC
  clear hC hk hq hqa
  clear h0 ho2
  have A0 := hid ((arrAt.new w c 26).alloc (.cells (fls (fun _ => 0)) 26))
  have A1 := hid (new1 w (.cells (fls c) 26) (fun _ => 0) 26)
  have b0 := boxed2 w (.cells (fls c) 26) (.cells (fls (fun _ => 0)) 26)
  have Hh := hid h
  have Hhx := hid hx
  have Hhf := hid hf
  have Hhxl := hid hxl
  have Hhy := hid hy
  have Hg1 := hid g1
  have Hg2 := hid g2
  have Hhnn := hid hnn
  have Hh1 := hid h1
  have Hhv1 := hid hv1
  clear h hx hf hxl hy g1 g2 hnn h1 hv1
  go_enter Try.func140, Try.ntmps140
  go_wp2_with (first | (refine wpList_load_row rfl 26 _ rfl (w.heap.size) rfl 26 (fls c) (0, 0) _ A0.out Try.underlying26 rfl (by rw [fls_size]; exact info_arr) ?_))
  refine (validSizes_t c Hh.out _).mono ?_
  rintro e w0 ⟨rfl, hb0⟩
  have A0 := hid (A0.out.stay hb0)
  have A1 := hid (A1.out.stay hb0)
  have c0 := stp b0 (Nat.le_refl _) hb0
  go_wp2_with fail
  refine (isFinite_t x Hhxl.out Hhf.out _).mono ?_
  rintro e w1 ⟨rfl, rfl⟩
  go_wp2_with fail
  refine (isAmount_t y Hhy.out _).mono ?_
  rintro e w2 ⟨rfl, rfl⟩
  have lx := A0.out.lt
  have ly := A1.out.lt
  have N0 := hid (arrAt.new w0 (fun _ => 0) 26)
  have P0 := hid (N0.out.setRow c)
  have B1 := hid ((A1.out.alloc (.cells (fls fun _ => 0) 26)).setRowOther (k := w0.heap.size) (Nat.ne_of_lt ly) (fls c))
  have bX : Below w.heap.size w ((w0.alloc (.cells (fls fun _ => 0) 26)).setRow w0.heap.size (fls c)) := below_row (c0.alloc c0.size _) c0.size _
  have S0 := hid c0.size
  have LY := hid ly
  clear lx ly
  have tok1 : True := trivial
  go_wp2_with (first | (refine wpList_load_row rfl 26 _ rfl (w.heap.size) rfl 26 (fls c) (0, 0) _ A0.out Try.underlying26 rfl (by rw [fls_size]; exact info_arr) ?_) | (have _t := tok1; refine store_abs rfl 26 _ _ rfl w0.heap.size c rfl rfl 26 _ N0.out info_arr ?_; intro w9 hw9; rw [← hw9] at P0 B1 bX; clear hw9; clear N0; clear hb0 b0 tok1))
  refine (HC.out _).mono ?_
  rintro e wq ⟨rfl, rfl⟩
  go_wp2_with fail
  refine (iMass 19 (by omega) _).mono ?_
  rintro e wq ⟨rfl, rfl⟩
  go_wp2_with fail
  refine (iPutI (c) _ 19 (by omega) (by omega) (fmul y (fdiv x (mass 19))) (amt_nn (Hh.out 19 (by omega))) Hhv1.out _ w0.heap.size 26 P0.out).mono ?_
  rintro e wp0 ⟨rfl, hwp⟩
  have P1 := hid (hwp.arr P0.out)
  have B2 := hid (hwp.other B1.out (Nat.ne_of_lt LY.out))
  have bY0 := hwp.2 _ _ (bX.setCell (p := ⟨w0.heap.size, 19, none⟩) S0.out (.float .f32 (fadd ((c) 19) (fmul y (fdiv x (mass 19))))))
  clear hwp P0 B1 bX
  go_wp2_with (first | (refine wpList_load_row rfl 26 _ rfl (w0.heap.size) rfl 26 (fls (putT c x y)) (0, 0) _ P1.out Try.underlying26 rfl (by rw [fls_size]; exact info_arr) ?_))
  refine (iFinite (putT c x y) (fun i hi => nn_lt (Hhnn.out i hi)) r n Hg1.out Hg2.out _).mono ?_
  rintro e w9 ⟨rfl, hb9⟩
  have A9 := hid (B2.out.stay hb9)
  have b9 := stp bY0 (Nat.le_refl _) hb9
  go_wp2_with (first | (refine wpList_store_row rfl 26 _ _ rfl (w.heap.size + 1) (fls r) rfl rfl 26 _ A9.out (by rw [fls_size]; exact info_arr) (by simp) (fls_one r) ?_))
  exact bodyPost_ret (results_row_tmp rfl _ _ (w.heap.size + 1) 26 (fls r) (0, 0) _ rfl (A9.out.setRow r) Try.underlying26 rfl (by rw [fls_size]; exact info_arr)) rfl ⟨rfl, below_row b9 (by omega) _⟩

set_option maxRecDepth 100000 in
theorem iPutDroplets_okM (c : Nat → Nat) (h : Amts c) (x : Nat) (hx : amtB x = true) (h0 : x ≠ 0) (h1 : ONE ≤ x) (k : Nat) (hk : forF x = k) (hlt : k < 19) (y : Nat) (hy : amtB y = true) (r : Nat → Nat) (n : Int) (g1 : Fins (putM c x y) → r = putM c x y ∧ n = 0) (g2 : ¬ Fins (putM c x y) → r = (fun _ => 0) ∧ n = 4) (w : World) :
    Calls Try.prog 140 #[.agg (fls c), .float .f32 x, .float .f32 y] w fun e w' => e = .returned (.tuple #[.agg (fls r), .int .i64 n]) ∧ Below w.heap.size w w' := by
  have hnn := putM_nn h h1 (by omega) hy
  have hf := amt_fin hx
  have ho1 := leq_f hx (y := 0) (by decide) (Nat.pos_of_ne_zero h0)
  have ho2 := gt_t hx (y := 0) (by decide) (Nat.pos_of_ne_zero h0)
  have hxl := amt_lt hx
  have hl := lt_f hx (y := 1065353216) (by decide) h1
  obtain ⟨hr1, hr2, hr3, hr4, hr5, hv1, hv2⟩ := put_runs x y k hx h1 hk hlt hy
  have hlnn := putL_nn h h1 (by omega) hy
  have hC := fun w => iClassFor_ok x hx h1 w
  rw [hk] at hC
  have HC := hid hC
  have hne : ¬ (k : Int) = 19 := by omega
  clear hC
  clear h0 ho2
  have A0 := hid ((arrAt.new w c 26).alloc (.cells (fls (fun _ => 0)) 26))
  have A1 := hid (new1 w (.cells (fls c) 26) (fun _ => 0) 26)
  have b0 := boxed2 w (.cells (fls c) 26) (.cells (fls (fun _ => 0)) 26)
  have Hh := hid h
  have Hhx := hid hx
  have Hhf := hid hf
  have Hhxl := hid hxl
  have Hhy := hid hy
  have Hg1 := hid g1
  have Hg2 := hid g2
  have Hhnn := hid hnn
  have Hh1 := hid h1
  have Hhv1 := hid hv1
  have Hhk := hid hk
  have Hhv2 := hid hv2
  have Hhlnn := hid hlnn
  clear h hx hf hxl hy g1 g2 hnn h1 hv1 hk hv2 hlnn
  go_enter Try.func140, Try.ntmps140
  go_wp2_with (first | (refine wpList_load_row rfl 26 _ rfl (w.heap.size) rfl 26 (fls c) (0, 0) _ A0.out Try.underlying26 rfl (by rw [fls_size]; exact info_arr) ?_))
  refine (validSizes_t c Hh.out _).mono ?_
  rintro e w0 ⟨rfl, hb0⟩
  have A0 := hid (A0.out.stay hb0)
  have A1 := hid (A1.out.stay hb0)
  have c0 := stp b0 (Nat.le_refl _) hb0
  go_wp2_with fail
  refine (isFinite_t x Hhxl.out Hhf.out _).mono ?_
  rintro e w1 ⟨rfl, rfl⟩
  go_wp2_with fail
  refine (isAmount_t y Hhy.out _).mono ?_
  rintro e w2 ⟨rfl, rfl⟩
  have lx := A0.out.lt
  have ly := A1.out.lt
  have N0 := hid (arrAt.new w0 (fun _ => 0) 26)
  have P0 := hid (N0.out.setRow c)
  have B1 := hid ((A1.out.alloc (.cells (fls fun _ => 0) 26)).setRowOther (k := w0.heap.size) (Nat.ne_of_lt ly) (fls c))
  have bX : Below w.heap.size w ((w0.alloc (.cells (fls fun _ => 0) 26)).setRow w0.heap.size (fls c)) := below_row (c0.alloc c0.size _) c0.size _
  have S0 := hid c0.size
  have LY := hid ly
  clear lx ly
  have tok1 : True := trivial
  go_wp2_with (first | (refine wpList_load_row rfl 26 _ rfl (w.heap.size) rfl 26 (fls c) (0, 0) _ A0.out Try.underlying26 rfl (by rw [fls_size]; exact info_arr) ?_) | (have _t := tok1; refine store_abs rfl 26 _ _ rfl w0.heap.size c rfl rfl 26 _ N0.out info_arr ?_; intro w9 hw9; rw [← hw9] at P0 B1 bX; clear hw9; clear N0; clear hb0 b0 tok1))
  refine (HC.out _).mono ?_
  rintro e wq ⟨rfl, rfl⟩
  go_wp2_with fail
  refine (iMass k (by omega) _).mono ?_
  rintro e wq ⟨rfl, rfl⟩
  go_wp2_with fail
  refine (iPutI (c) _ k (by omega) (by omega) (fmul y (fsub 1065353216 (fdiv (fsub x (mass k)) (mass k)))) (amt_nn (Hh.out k (by omega))) Hhv1.out _ w0.heap.size 26 P0.out).mono ?_
  rintro e wp0 ⟨rfl, hwp⟩
  have P1 := hid (hwp.arr P0.out)
  have B2 := hid (hwp.other B1.out (Nat.ne_of_lt LY.out))
  have bY0 := hwp.2 _ _ (bX.setCell (p := ⟨w0.heap.size, k, none⟩) S0.out (.float .f32 (fadd ((c) k) (fmul y (fsub 1065353216 (fdiv (fsub x (mass k)) (mass k)))))))
  rw [putL_val c x y k Hhk.out] at P1
  clear hwp P0 B1 bX
  go_wp2_with fail
  refine (iPutI (putL c x y) _ (k + 1) (by omega) (by omega) (fmul y (fdiv (fsub x (mass k)) (mass k))) (Hhlnn.out (k + 1) (by omega)) Hhv2.out _ w0.heap.size 26 P1.out).mono ?_
  rintro e wp1 ⟨rfl, hwp⟩
  have P2 := hid (hwp.arr P1.out)
  have B3 := hid (hwp.other B2.out (Nat.ne_of_lt LY.out))
  have bY1 := hwp.2 _ _ (bY0.setCell (p := ⟨w0.heap.size, (k + 1), none⟩) S0.out (.float .f32 (fadd ((putL c x y) (k + 1)) (fmul y (fdiv (fsub x (mass k)) (mass k))))))
  rw [putM_val c x y k Hhk.out] at P2
  clear hwp P1 B2 bY0
  go_wp2_with (first | (refine wpList_load_row rfl 26 _ rfl (w0.heap.size) rfl 26 (fls (putM c x y)) (0, 0) _ P2.out Try.underlying26 rfl (by rw [fls_size]; exact info_arr) ?_))
  refine (iFinite (putM c x y) (fun i hi => nn_lt (Hhnn.out i hi)) r n Hg1.out Hg2.out _).mono ?_
  rintro e w9 ⟨rfl, hb9⟩
  have A9 := hid (B3.out.stay hb9)
  have b9 := stp bY1 (Nat.le_refl _) hb9
  go_wp2_with (first | (refine wpList_store_row rfl 26 _ _ rfl (w.heap.size + 1) (fls r) rfl rfl 26 _ A9.out (by rw [fls_size]; exact info_arr) (by simp) (fls_one r) ?_))
  exact bodyPost_ret (results_row_tmp rfl _ _ (w.heap.size + 1) 26 (fls r) (0, 0) _ rfl (A9.out.setRow r) Try.underlying26 rfl (by rw [fls_size]; exact info_arr)) rfl ⟨rfl, below_row b9 (by omega) _⟩

theorem big_near : S.nearest false (val 2139095039 + val (mass 19)) (-149 + (0 : Int)) = 2139095039 := by decide +kernel

theorem abs_sum {V M : Nat} {a b : Int} (h1 : a.natAbs ≤ M) (h2 : b.natAbs ≤ V) : (a + b).natAbs ≤ V + M := by
  have := Int.natAbs_add_le a b
  omega

theorem sv_abs (x : Nat) : (sv x).natAbs = val (mg x) := by unfold sv; split <;> simp

/-- A class's mass, more by a gain. -/
def gm (k g : Nat) : Nat := fadd (mass k) g

theorem add_some {x y r : Nat} (h : S.add x y = some r) (hr : FW r) : S.add x y = some (fadd x y) ∧ FW (fadd x y) := by
  unfold fadd
  rw [h]
  exact ⟨rfl, hr⟩

theorem gm_eq {k g : Nat} (hk : k < 20) (hg : FW g) : S.add (mass k) g = some (gm k g) ∧ FW (gm k g) := by
  have hg2 : mg g ≤ 2139095039 := by
    have := hg.2
    rw [INF_val] at this
    omega
  have hml : mass k ≤ mass 19 := by unfold mass; omega
  have hmm : mass k < 2147483648 := by unfold mass; omega
  have hm := mass_amt hk
  have hfm := fw_amt hm
  have h := add_sv hfm hg
  have hv1 : val (mg (mass k)) ≤ val (mass 19) := by
    rw [show mg (mass k) = mass k from Nat.mod_eq_of_lt hmm]
    exact val_le hml
  have hv2 : val (mg g) ≤ val 2139095039 := val_le hg2
  have hab : (sv (mass k) + sv g).natAbs ≤ val 2139095039 + val (mass 19) := abs_sum (by rw [sv_abs]; exact hv1) (by rw [sv_abs]; exact hv2)
  have hN : S.nearest false (sv (mass k) + sv g).natAbs (-149 + (0 : Int)) ≤ 2139095039 := by
    have := nearest_mono (m := (sv (mass k) + sv g).natAbs) (m' := val 2139095039 + val (mass 19)) (E := 0) (E' := 0) 0 0 (by rfl) (by rw [Nat.pow_zero, Nat.mul_one, Nat.mul_one]; exact hab)
    rwa [big_near] at this
  generalize (if sv (mass k) + sv g = 0 then decide (2147483648 ≤ mass k) && decide (2147483648 ≤ g) else decide (sv (mass k) + sv g < 0)) = b at h
  have hw := (sv_mk b (N := S.nearest false (sv (mass k) + sv g).natAbs (-149 + (0 : Int))) (Nat.lt_of_le_of_lt hN (by decide))).1
  exact add_some h hw

theorem gm_pos {x : Nat} (hx : FW x) (h : 0 < sv x) : amtB x = true ∧ x ≠ 0 := by
  have h1 : ¬ 2147483648 ≤ x := by
    intro h2
    unfold sv at h
    rw [if_pos h2] at h
    omega
  have e : mg x = x := Nat.mod_eq_of_lt (by omega)
  refine ⟨amtB_iff.2 (by rw [← e]; exact hx.2), ?_⟩
  rintro rfl
  have : sv 0 = 0 := by decide
  omega

def put1 (c : Nat → Nat) (x y : Nat) : Nat → Nat := if x < 1065353216 then putB c x y else if forF x = 19 then putT c x y else putM c x y

def NNs (c : Nat → Nat) : Prop := ∀ i, i < 20 → nnB (c i) = true

theorem Amts.nn {c : Nat → Nat} (h : Amts c) : NNs c := fun i hi => amt_nn (h i hi)

theorem upd_nn {c : Nat → Nat} (h : NNs c) {k v : Nat} (hk : k < 20) (hv : nnB v = true) : NNs (upd c k (fadd (c k) v)) := by
  intro i hi
  unfold upd
  split
  · exact (add_eq (h k hk) hv).2
  · exact h i hi

theorem put1_nn {c : Nat → Nat} (h : NNs c) {x y : Nat} (hx : amtB x = true) (hy : amtB y = true) : NNs (put1 c x y) := by
  unfold put1
  split
  · exact upd_nn h (by decide) (mul_eq hy hx).2
  · rename_i h1
    have h1' : ONE ≤ x := by unfold ONE; omega
    split
    · have hq := div_less (k := 19) (by decide) (amtB_iff.1 hx)
      exact upd_nn h (by decide) (mul_eq hy (amtB_iff.2 (Nat.lt_of_le_of_lt hq (amtB_iff.1 hx)))).2
    · rename_i hk
      obtain ⟨a1, a2, a3, a4, a5⟩ := put_facts (y := y) h1' hk
      have hlt := forF_lt x
      have hL : NNs (putL c x y) := upd_nn h hlt (mul_eq hy a5).2
      intro i hi
      unfold putM upd
      split
      · exact (add_eq (h _ (by omega)) (mul_eq hy a3).2).2
      · exact hL i hi

theorem nn_inf2 {x : Nat} (h : nnB x = true) (hf : finB x = false) : x = INF := by
  rw [nnB_iff] at h
  by_cases hx : x < INF
  · have := amt_fin (amtB_iff.2 hx)
    rw [this] at hf; cases hf
  · omega

theorem inf_add {y : Nat} (hy : nnB y = true) : finB (fadd INF y) = false := by
  have h := (add_eq (x := INF) (y := y) (by decide) hy).1
  rw [nnB_iff] at hy
  rcases Nat.lt_or_eq_of_le hy with h1 | rfl
  · obtain ⟨m, e, h2⟩ := read_lt h1
    unfold Ieee.Format.add at h
    rw [read_pINF, h2] at h
    have e2 : fadd INF y = S.write (.infinity false) := by
      have := h
      simp only [Ieee.Datum.sum] at this
      exact (Option.some.inj this).symm
    rw [e2]; decide
  · decide

theorem upd_bad {c : Nat → Nat} (h : NNs c) (hb : ¬ Fins c) {k v : Nat} (hk : k < 20) (hv : nnB v = true) : ¬ Fins (upd c k (fadd (c k) v)) := by
  intro hF
  refine hb fun i hi => ?_
  have := hF i hi
  unfold upd at this
  split at this
  · rename_i he
    subst he
    cases hc : finB (c i) with
    | true => rfl
    | false =>
      rw [nn_inf2 (h i hi) hc, inf_add hv] at this
      cases this
  · exact this

theorem put1_bad {c : Nat → Nat} (h : NNs c) (hb : ¬ Fins c) {x y : Nat} (hx : amtB x = true) (hy : amtB y = true) : ¬ Fins (put1 c x y) := by
  unfold put1
  split
  · exact upd_bad h hb (by decide) (mul_eq hy hx).2
  · rename_i h1
    have h1' : ONE ≤ x := by unfold ONE; omega
    split
    · have hq := div_less (k := 19) (by decide) (amtB_iff.1 hx)
      exact upd_bad h hb (by decide) (mul_eq hy (amtB_iff.2 (Nat.lt_of_le_of_lt hq (amtB_iff.1 hx)))).2
    · rename_i hk
      obtain ⟨a1, a2, a3, a4, a5⟩ := put_facts (y := y) h1' hk
      have hlt := forF_lt x
      have e : putM c x y = upd (putL c x y) (forF x + 1) (fadd (putL c x y (forF x + 1)) (fmul y (fdiv (fsub x (mass (forF x))) (mass (forF x))))) := by
        have : putL c x y (forF x + 1) = c (forF x + 1) := by simp [putL, upd]
        rw [this]; rfl
      rw [e]
      exact upd_bad (c := putL c x y) (upd_nn h hlt (mul_eq hy a5).2) (upd_bad h hb hlt (mul_eq hy a5).2) (by omega) (mul_eq hy a3).2

/-- The sizes behind the first n classes. -/
def shN (c g : Nat → Nat) : Nat → Nat → Nat
  | 0 => fun _ => 0
  | n + 1 => if c n ≠ 0 ∧ 0 < sv (gm n (g n)) then put1 (shN c g n) (gm n (g n)) (c n) else shN c g n

theorem shN_on {c g : Nat → Nat} {n : Nat} (h0 : c n ≠ 0) (h : 0 < sv (gm n (g n))) : shN c g (n + 1) = put1 (shN c g n) (gm n (g n)) (c n) := if_pos ⟨h0, h⟩

theorem shN_off {c g : Nat → Nat} {n : Nat} (h : ¬ (c n ≠ 0 ∧ 0 < sv (gm n (g n)))) : shN c g (n + 1) = shN c g n := if_neg h

theorem shN_nn {c g : Nat → Nat} (hc : Amts c) (hg : ∀ i, i < 20 → FW (g i)) : ∀ n, n ≤ 20 → NNs (shN c g n) := by
  intro n
  induction n with
  | zero => intro _ i _; show nnB 0 = true; decide
  | succ n ih =>
    intro hn
    by_cases h : c n ≠ 0 ∧ 0 < sv (gm n (g n))
    · rw [shN_on h.1 h.2]
      exact put1_nn (ih (by omega)) (gm_pos (gm_eq (by omega) (hg n (by omega))).2 h.2).1 (hc n (by omega))
    · rw [shN_off h]; exact ih (by omega)

theorem shN_bad {c g : Nat → Nat} (hc : Amts c) (hg : ∀ i, i < 20 → FW (g i)) {n : Nat} (h0 : ¬ Fins (shN c g n)) : ∀ m, n ≤ m → m ≤ 20 → ¬ Fins (shN c g m) := by
  intro m hm
  induction m with
  | zero =>
    intro _
    have hn : n = 0 := by omega
    rw [hn] at h0
    exact h0
  | succ m ih =>
    intro hle
    by_cases he : n = m + 1
    · subst he; exact h0
    · have hb := ih (by omega) (by omega)
      by_cases h : c m ≠ 0 ∧ 0 < sv (gm m (g m))
      · rw [shN_on h.1 h.2]
        exact put1_bad (shN_nn hc hg m (by omega)) hb (gm_pos (gm_eq (by omega) (hg m (by omega))).2 h.2).1 (hc m (by omega))
      · rw [shN_off h]; exact hb

theorem fins_amts {c : Nat → Nat} (h : NNs c) (hf : Fins c) : Amts c := fun i hi => by rw [nn_amt (h i hi)]; exact hf i hi

set_option maxRecDepth 100000 in
theorem sPutM2 (c : Nat → Nat) (hc : NNs c) (x y k : Nat) (hx : amtB x = true) (h1 : ONE ≤ x) (hk : forF x = k) (hlt : k < 19) (hy : amtB y = true) (w : World) (g : Nat) (t : TypeId) (h : arrAt w g c t) :
    Calls Try.prog 136 #[.pointer (some ⟨g, 0, none⟩), .float .f32 x, .float .f32 y] w fun e w' => e = .returned (.tuple #[]) ∧ Wrote ((w.setCell ⟨g, k, none⟩ (.float .f32 (putL c x y k))).setCell ⟨g, k + 1, none⟩ (.float .f32 (putM c x y (k + 1)))) w' := by
  have hl := lt_f hx (y := 1065353216) (by decide) h1
  have e1 : putL c x y k = fadd (c k) (fmul y (fsub 1065353216 (fdiv (fsub x (mass k)) (mass k)))) := by subst hk; simp [putL, upd]
  have e2 : putM c x y (k + 1) = fadd (c (k + 1)) (fmul y (fdiv (fsub x (mass k)) (mass k))) := by subst hk; simp [putM, upd]
  rw [e1, e2]
  obtain ⟨r1, r2, r3, r4, r5, n1, n2⟩ := put_runs x y k hx h1 hk hlt hy
  have h2 := fun w => run_add (P := Try.prog) 22 (hc k (by omega)) n1 w
  have h3 := fun w => run_add (P := Try.prog) 22 (hc (k + 1) (by omega)) n2 w
  have hC := fun w => sFor x hx h1 w
  rw [hk] at hC
  have HC := hid hC
  have h' := h.set k (fadd (c k) (fmul y (fsub 1065353216 (fdiv (fsub x (mass k)) (mass k)))))
  have q0 := h.cell (k := k) (by omega)
  have f0 := h.frozen k
  have q1 : World.cell? (World.drew (w.setCell ⟨g, k, none⟩ (.float .f32 (fadd (c k) (fmul y (fsub 1065353216 (fdiv (fsub x (mass k)) (mass k)))))))) ⟨g, k + 1, none⟩ = _ := h'.cell (k := k + 1) (by omega)
  rw [show upd c k (fadd (c k) (fmul y (fsub 1065353216 (fdiv (fsub x (mass k)) (mass k))))) (k + 1) = c (k + 1) by simp [upd]] at q1
  have f1 : World.frozen? (World.drew (w.setCell ⟨g, k, none⟩ (.float .f32 (fadd (c k) (fmul y (fsub 1065353216 (fdiv (fsub x (mass k)) (mass k)))))))) ⟨g, k + 1, none⟩ = _ := h'.frozen (k + 1)
  generalize hw2 : World.drew (w.setCell ⟨g, k, none⟩ (.float .f32 (fadd (c k) (fmul y (fsub 1065353216 (fdiv (fsub x (mass k)) (mass k))))))) = w2 at q1 f1
  have hend : ∀ v, Wrote ((w.setCell ⟨g, k, none⟩ (.float .f32 (fadd (c k) (fmul y (fsub 1065353216 (fdiv (fsub x (mass k)) (mass k))))))).setCell ⟨g, k + 1, none⟩ v) (w2.setCell ⟨g, k + 1, none⟩ v).drew := by
    intro v
    subst hw2
    rw [World.setCell_drew]
    exact ⟨fun _ _ _ h => h, fun _ _ h => h.drew.drew⟩
  have Hend := hid hend
  clear hend
  have hne : ¬ (k : Int) = 19 := by omega
  clear hC hx h1 hy e1 e2 n1 n2 hk h h' hc
  go_enter Try.func136, Try.ntmps136
  go_wp2_with fail
  refine (HC.out _).mono ?_
  rintro e w1 ⟨rfl, rfl⟩
  go_wp2_with fail
  refine (sMass k (by omega) _).mono ?_
  rintro e w1 ⟨rfl, rfl⟩
  go_wp2_with fail
  refine (sMass k (by omega) _).mono ?_
  rintro e w1 ⟨rfl, rfl⟩
  go_wp2_with fail
  go_region
  all_goals go_wp2
  try rw [hw2]
  clear hw2
  go_region
  all_goals go_wp2
  exact bodyPost_end (results_none (by rfl) _ _ _) rfl ⟨rfl, Hend.out _⟩

/-- What a call that writes into one array leaves behind. -/
def Own1 (w w' : World) (g : Nat) (d : Nat → Nat) (t : TypeId) : Prop := arrAt w' g d t ∧ (∀ g' c' t', g' ≠ g → arrAt w g' c' t' → arrAt w' g' c' t') ∧ (∀ n w0, n ≤ g → Below n w0 w → Below n w0 w')

theorem own_of1 {w w' : World} {g k v : Nat} {c d : Nat → Nat} {t : TypeId} (h : arrAt w g c t) (hw : Wrote (w.setCell ⟨g, k, none⟩ (.float .f32 v)) w') (he : upd c k v = d) : Own1 w w' g d t :=
  ⟨he ▸ hw.arr h, fun _ _ _ hg h' => hw.other h' hg, fun _ _ hn hb => hw.2 _ _ (hb.setCell hn _)⟩

theorem own_of2 {w w' : World} {g k k' v v' : Nat} {c d : Nat → Nat} {t : TypeId} (h : arrAt w g c t) (hw : Wrote ((w.setCell ⟨g, k, none⟩ (.float .f32 v)).setCell ⟨g, k', none⟩ (.float .f32 v')) w') (he : upd (upd c k v) k' v' = d) : Own1 w w' g d t :=
  ⟨he ▸ hw.1 _ _ _ ((h.set k v).set k' v'), fun _ _ _ hg h' => hw.1 _ _ _ ((h'.setOther (a := ⟨g, k, none⟩) hg _).setOther (a := ⟨g, k', none⟩) hg _), fun _ _ hn hb => hw.2 _ _ ((hb.setCell hn _).setCell hn _)⟩

theorem sPut_any (c : Nat → Nat) (hc : NNs c) (x y : Nat) (hx : amtB x = true) (hy : amtB y = true) (w : World) (g : Nat) (t : TypeId) (h : arrAt w g c t) :
    Calls Try.prog 136 #[.pointer (some ⟨g, 0, none⟩), .float .f32 x, .float .f32 y] w fun e w' => e = .returned (.tuple #[]) ∧ Own1 w w' g (put1 c x y) t := by
  by_cases h1 : x < 1065353216
  · refine (sPutB c (hc 0 (by decide)) x y hx h1 hy w g t h).mono ?_
    rintro e w' ⟨rfl, hw⟩
    exact ⟨rfl, own_of1 h hw ((putB_eq c x y).trans (if_pos h1).symm)⟩
  · have h1' : ONE ≤ x := by unfold ONE; omega
    by_cases hk : forF x = 19
    · refine (sPutT c (hc 19 (by decide)) x y hx h1' hk hy w g t h).mono ?_
      rintro e w' ⟨rfl, hw⟩
      exact ⟨rfl, own_of1 h hw ((putT_eq c x y).trans (by unfold put1; rw [if_neg h1, if_pos hk]))⟩
    · have hlt := forF_lt x
      refine (sPutM2 c hc x y (forF x) hx h1' rfl (by omega) hy w g t h).mono ?_
      rintro e w' ⟨rfl, hw⟩
      exact ⟨rfl, own_of2 h hw (by rw [putL_eq, putM_eq]; unfold put1; rw [if_neg h1, if_neg hk])⟩

theorem iPut_any (c : Nat → Nat) (h : Amts c) (x : Nat) (hx : amtB x = true) (h0 : x ≠ 0) (y : Nat) (hy : amtB y = true) (r : Nat → Nat) (n : Int) (g1 : Fins (put1 c x y) → r = put1 c x y ∧ n = 0) (g2 : ¬ Fins (put1 c x y) → r = (fun _ => 0) ∧ n = 4) (w : World) :
    Calls Try.prog 140 #[.agg (fls c), .float .f32 x, .float .f32 y] w fun e w' => e = .returned (.tuple #[.agg (fls r), .int .i64 n]) ∧ Below w.heap.size w w' := by
  by_cases h1 : x < 1065353216
  · have e : put1 c x y = putB c x y := if_pos h1
    rw [e] at g1 g2
    exact iPutDroplets_okB c h x hx h0 h1 y hy r n g1 g2 w
  · have h1' : ONE ≤ x := by unfold ONE; omega
    by_cases hk : forF x = 19
    · have e : put1 c x y = putT c x y := by unfold put1; rw [if_neg h1, if_pos hk]
      rw [e] at g1 g2
      exact iPutDroplets_okT c h x hx h0 h1' hk y hy r n g1 g2 w
    · have hlt := forF_lt x
      have e : put1 c x y = putM c x y := by unfold put1; rw [if_neg h1, if_neg hk]
      rw [e] at g1 g2
      exact iPutDroplets_okM c h x hx h0 h1' (forF x) rfl (by omega) y hy r n g1 g2 w

theorem inf_mass {k : Nat} (hk : k < 20) : S.mul INF (mass k) = some INF := by
  have h : ∀ k, k < 20 → S.mul INF (mass k) = some INF := by decide +kernel
  exact h k hk

theorem mul_mass {x k : Nat} (hx : nnB x = true) (hk : k < 20) : S.mul x (mass k) = some (fmul x (mass k)) ∧ nnB (fmul x (mass k)) = true := by
  cases hf : finB x with
  | true => exact mul_eq (by rw [nn_amt hx]; exact hf) (mass_amt hk)
  | false =>
    rw [nn_inf2 hx hf]
    unfold fmul
    rw [inf_mass hk]
    exact ⟨rfl, by decide⟩

theorem run_mul_mass {P : Program} (t : TypeId) {x k : Nat} (hx : nnB x = true) (hk : k < 20) (w : World) : (binOp .mul t (.float .f32 x) (.float .f32 (mass k))).run P w = .ok (.float .f32 (fmul x (mass k))) w :=
  run_float_arith w .mul t .f32 x (mass k) _ (mul_mass hx hk).1

set_option maxRecDepth 100000 in
theorem sWater2 (c : Nat → Nat) (h : NNs c) (a : Nat) (ha : a < 20) (w : World) (g : Nat) (T : TypeId) (hg : arrAt w g c T) :
    Calls Try.prog 137 #[.pointer (some ⟨g, 0, none⟩), .int .i64 (a : Int)] w fun e w' => e = .returned (.float .f32 (sumA (wat c) a (19 - a))) ∧ Below w.heap.size w w' := by
  have H := hid h
  have HG := hid hg
  have q0 := hg.cell ha
  have hmul := fun w => run_mul_mass (P := Try.prog) 22 (h a ha) ha w
  clear h hg
  go_enter Try.func137, Try.ntmps137
  go_wp2_with fail
  go_quiet ((go_at_call 135; exact Calls.quiet_of_same (back (sMass a ha _))))
  go_wp2_with fail
  go_loopw [5, 6] (fun s i wr => ∃ q : Nat, a + 1 ≤ q ∧ q ≤ 20 ∧ i = .int .i64 q ∧ s = .float .f32 (sumA (wat c) a (q - (a + 1))) ∧ Hid (arrAt wr g c T) ∧ Hid (Below w.heap.size w wr)) (fun _ i _ => 20 - (intOf i).toNat)
  case atStart => exact ⟨a + 1, by omega, by omega, by go_num, by rw [Nat.sub_self]; rfl, HG, hid (below_drewN (Below.refl _ _) _)⟩
  case round =>
    obtain ⟨q, hq1, hq2, rfl, rfl, h1, h2⟩ := hrel
    by_cases hlt : q < 20
    · have q1 := h1.out.cell hlt
      have hm2 := fun w => run_mul_mass (P := Try.prog) 22 (H.out q hlt) hlt w
      have hadd := fun w => run_add (P := Try.prog) 22 (sumA_nn (c := wat c) (a := a) (q - (a + 1)) (fun i hi => (show nnB (wat c _) = true from (mul_mass (H.out _ (by omega)) (by omega)).2))) (show nnB (wat c q) = true from (mul_mass (H.out q hlt) hlt).2) w
      have hw : fmul (c q) (mass q) = wat c q := rfl
      go_wp2_with fail
      go_quiet ((go_at_call 135; exact Calls.quiet_of_same (back (sMass q hlt _))))
      go_wp2_with fail
      go_roundw
      case rel =>
        refine ⟨q + 1, by omega, by omega, by go_num, ?_, h1, hid (below_drewN h2.out _)⟩
        rw [show q + 1 - (a + 1) = (q - (a + 1)) + 1 by omega]
        show _ = Value.float .f32 (fadd (sumA (wat c) a (q - (a + 1))) (wat c (a + (q - (a + 1)) + 1)))
        rw [show a + (q - (a + 1)) + 1 = q by omega]
      case measure => simp [intOf]; omega
    · obtain rfl : q = 20 := by omega
      go_wp2
      go_ret
      exact ⟨by simp [show 20 - (a + 1) = 19 - a by omega], h2.out⟩

theorem eq0_t : (FloatKind.f32.format.order 0 0 == some .eq) = true := by decide

theorem eq0_f {x : Nat} (hx : amtB x = true) (h : x ≠ 0) : (FloatKind.f32.format.order x 0 == some .eq) = false := by
  show (S.order x 0 == some .eq) = false
  rw [order_lt (amtB_iff.1 hx) (by decide), Nat.compare_eq_gt.2 (by omega)]; rfl

theorem sv_zero : sv 0 = 0 := by decide

theorem fw_zero : FW 0 := ⟨by decide, by decide⟩

theorem gt0_t {x : Nat} (hx : FW x) (h : 0 < sv x) : (FloatKind.f32.format.order x 0 == some .gt) = true := (gt_sv hx fw_zero).2 (by rw [sv_zero]; exact h)

theorem gt0_f {x : Nat} (hx : FW x) (h : ¬ 0 < sv x) : (FloatKind.f32.format.order x 0 == some .gt) = false := Bool.eq_false_iff.2 fun h' => h (by have := (gt_sv hx fw_zero).1 h'; rwa [sv_zero] at this)

theorem le0_t {x : Nat} (hx : FW x) (h : ¬ 0 < sv x) : (FloatKind.f32.format.order x 0 == some .lt || FloatKind.f32.format.order x 0 == some .eq) = true := (le_sv hx fw_zero).2 (by rw [sv_zero]; exact Int.not_lt.1 h)

theorem le0_f {x : Nat} (hx : FW x) (h : 0 < sv x) : (FloatKind.f32.format.order x 0 == some .lt || FloatKind.f32.format.order x 0 == some .eq) = false := Bool.eq_false_iff.2 fun h' => absurd ((le_sv hx fw_zero).1 h') (by rw [sv_zero]; exact Int.not_le.2 h)

theorem sub_fin4 {x y : Nat} (hx : nnB x = true) (hy : nnB y = true) (fx : finB x = true) (fy : finB y = true) : S.sub x y = some (fsb x y) ∧ FW (fsb x y) := by
  have ax : amtB x = true := by rw [nn_amt hx]; exact fx
  have ay : amtB y = true := by rw [nn_amt hy]; exact fy
  have wx := fw_amt ax
  have wy := fw_amt ay
  have px : 0 ≤ sv x := by
    have := amtB_iff.1 ax
    rw [INF_val] at this
    unfold sv
    rw [if_neg (by omega)]
    exact Int.natCast_nonneg _
  have py : 0 ≤ sv y := by
    have := amtB_iff.1 ay
    rw [INF_val] at this
    unfold sv
    rw [if_neg (by omega)]
    exact Int.natCast_nonneg _
  obtain ⟨h1, h2, _, _⟩ := sub_bd wx wy (ng_fw wy).1 wx (by rw [(ng_fw wy).2]; omega) (by omega)
  exact ⟨h1, h2⟩

theorem sub_fin2 {x y : Nat} (hx : nnB x = true) (hy : nnB y = true) (fx : finB x = true) (fy : finB y = true) : S.sub x y = some (fsb x y) ∧ finB (fsb x y) = true := ⟨(sub_fin4 hx hy fx fy).1, (sub_fin4 hx hy fx fy).2.fin⟩

theorem sub_fin3 {x y : Nat} (hx : nnB x = true) (hy : nnB y = true) (fx : finB x = true) (fy : finB y = true) : FW (fsb x y) := (sub_fin4 hx hy fx fy).2

/-- When the sizes and what came can be told. -/
def ShOk (c g : Nat → Nat) : Prop := Fins (shN c g 20) ∧ finB (sumF (wat (shN c g 20)) 19) = true ∧ finB (sumF (wat c) 19) = true

set_option maxHeartbeats 1000000 in
set_option maxRecDepth 100000 in
theorem sShift (c g : Nat → Nat) (hc : Amts c) (hg : ∀ i, i < 20 → FW (g i)) (R : Nat → Nat) (z : Nat) (n : Int) (g1 : ShOk c g → R = shN c g 20 ∧ z = fsb (sumF (wat (shN c g 20)) 19) (sumF (wat c) 19) ∧ n = 0) (g2 : ¬ ShOk c g → R = (fun _ => 0) ∧ z = 0 ∧ n = 4) (w : World) (p q : Nat) (T1 T2 : TypeId) (hp : arrAt w p c T1) (hq : arrAt w q g T2) :
    Calls Try.prog 95 #[.pointer (some ⟨p, 0, none⟩), .pointer (some ⟨q, 0, none⟩)] w fun e w' => e = .returned (.tuple #[.agg (fls R), .float .f32 z, .int .i64 n]) ∧ Below w.heap.size w w' := by
  have A0 := hid ((arrAt.new w (fun _ => 0) 26).alloc (.cells (fls fun _ => 0) 26))
  have A1 := hid (new1 w (.cells (fls fun _ => 0) 26) (fun _ => 0) 26)
  have b0 := boxed2 w (.cells (fls fun _ => 0) 26) (.cells (fls fun _ => 0) 26)
  have P0 := hid ((hp.alloc (.cells (fls fun _ => 0) 26)).alloc (.cells (fls fun _ => 0) 26))
  have Q0 := hid ((hq.alloc (.cells (fls fun _ => 0) 26)).alloc (.cells (fls fun _ => 0) 26))
  have Lp := hid hp.lt
  have Lq := hid hq.lt
  have Hc := hid hc
  have Hg := hid hg
  have G1 := hid g1
  have G2 := hid g2
  have Hnn := hid (shN_nn hc hg)
  clear hp hq hc hg g1 g2
  go_enter Try.func95, Try.ntmps95
  have M0 := hid (A0.out.setRowOther (k := w.heap.size + 1) (by omega) (fls fun _ => 0))
  have M1 := hid (A1.out.setRow (fun _ => 0))
  have MP := hid (P0.out.setRowOther (k := w.heap.size + 1) (by have := Lp.out; omega) (fls fun _ => 0))
  have MQ := hid (Q0.out.setRowOther (k := w.heap.size + 1) (by have := Lq.out; omega) (fls fun _ => 0))
  have mb := hid (below_row b0 (Nat.le_succ _) (g := w.heap.size + 1) (fls fun _ => 0))
  have tok1 : True := trivial
  go_wp2_with (have _t := tok1; refine wpList_store_row rfl 26 _ _ rfl (w.heap.size + 1) (fls fun _ => 0) rfl rfl 26 _ A1.out (by rw [fls_size]; exact info_arr) (by simp) (fls_one _) ?_; generalize (((w.alloc (.cells (fls fun _ => 0) 26)).alloc (.cells (fls fun _ => 0) 26)).setRow (w.heap.size + 1) (fls fun _ => 0)) = w2 at M0 M1 MP MQ mb ⊢; clear A0 A1 b0 P0 Q0 tok1)
  go_loopw [8] (fun i wr => ∃ k : Nat, k ≤ 20 ∧ i = .int .i64 k ∧ Hid (arrAt wr p c T1) ∧ Hid (arrAt wr q g T2) ∧ Hid (arrAt wr w.heap.size (fun _ => 0) 26) ∧ Hid (arrAt wr (w.heap.size + 1) (shN c g k) 26) ∧ Hid (Below w.heap.size w wr)) (fun i _ => 20 - (intOf i).toNat)
  case atStart => exact ⟨0, by omega, rfl, MP, MQ, M0, M1, mb⟩
  case round =>
    obtain ⟨k, hk, rfl, hp, hq, h0, h1, hb⟩ := hrel
    clear M0 M1 MP MQ mb
    by_cases hlt : k < 20
    · have HK := hid hlt
      have hk3 : (k : Int) < 20 := by omega
      have q1 := hp.out.cell hlt
      have q2 := hq.out.cell hlt
      have hgm := hid (gm_eq hlt (Hg.out k hlt))
      have r1 := fun w => run_float_arith (P := Try.prog) w .add 22 .f32 _ _ _ hgm.out.1
      by_cases hz : c k = 0
      · have hoff := hid (shN_off (c := c) (g := g) (n := k) fun h => h.1 hz)
        rw [hz] at q1
        have e0 := eq0_t
        go_wp2_with fail
        go_roundw
        case rel => exact ⟨k + 1, by omega, by go_num, hp, hq, h0, hid (hoff.out ▸ h1.out), hb⟩
        case measure => simp [intOf]; omega
      · have e0 := eq0_f (Hc.out k hlt) hz
        by_cases hs : 0 < sv (gm k (g k))
        · have e1 := gt0_t hgm.out.2 hs
          have hon := hid (shN_on (c := c) (g := g) hz hs)
          have hpos := hid (gm_pos hgm.out.2 hs)
          clear hs hz
          go_wp2_with fail
          go_quiet ((go_at_call 135; exact Calls.quiet_of_same (back (sMass k HK.out _))))
          go_wp2_with fail
          refine (sPut_any (shN c g k) (Hnn.out k (by have := HK.out; omega)) _ _ hpos.out.1 (Hc.out k HK.out) _ (w.heap.size + 1) 26 (show arrAt (World.drewN _ _) _ _ _ from h1.out)).mono ?_
          rintro e wn ⟨rfl, hw⟩
          have NP : p ≠ w.heap.size + 1 := by have := Lp.out; omega
          have NQ : q ≠ w.heap.size + 1 := by have := Lq.out; omega
          have hp2 := hid (hw.2.1 p c T1 NP (show arrAt (World.drewN _ _) _ _ _ from hp.out))
          have hq2 := hid (hw.2.1 q g T2 NQ (show arrAt (World.drewN _ _) _ _ _ from hq.out))
          have h02 := hid (hw.2.1 w.heap.size _ _ (by omega) (show arrAt (World.drewN _ _) _ _ _ from h0.out))
          have h12 := hid (hon.out ▸ hw.1)
          have hb2 := hid (hw.2.2 w.heap.size w (by omega) (below_drewN hb.out _))
          clear hw hp hq h0 h1 hb NP NQ q1 q2
          go_wp2_with fail
          go_roundw
          case rel => exact ⟨k + 1, by have := HK.out; omega, by go_num, hp2, hq2, h02, h12, hb2⟩
          case measure => have := HK.out; simp [intOf]; omega
        · have e1 := gt0_f hgm.out.2 hs
          have hoff := hid (shN_off (c := c) (g := g) (n := k) fun h => hs h.2)
          clear hs hz
          go_wp2_with fail
          go_quiet ((go_at_call 135; exact Calls.quiet_of_same (back (sMass k HK.out _))))
          go_wp2_with fail
          go_roundw
          case rel => exact ⟨k + 1, by omega, by go_num, hid hp.out, hid hq.out, hid h0.out, hid (hoff.out ▸ h1.out), hid (below_drewN hb.out _)⟩
          case measure => simp [intOf]; omega
    · obtain rfl : k = 20 := by omega
      have HN := hid (Hnn.out 20 (by omega))
      unfold ShOk at G1 G2
      generalize shN c g 20 = d at h1 HN G1 G2
      clear Hnn hlt hk
      have ha := hid (show nnB (sumF (wat (d)) 19) = true from sumF_nn 19 fun i hi => (mul_mass (HN.out i (by omega)) (by omega)).2)
      have hbn := hid (show nnB (sumF (wat c) 19) = true from sumF_nn 19 fun i hi => (mul_mass (Hc.out.nn i (by omega)) (by omega)).2)
      have hW2 := fun w y T hy => sWater2 c Hc.out.nn 0 (by omega) w y T hy
      rw [show 19 - 0 = 19 from rfl, sumA_zero] at hW2
      have HW1 := hid (show ∀ (w : World) (y : Nat) (T : TypeId), arrAt w y (d) T → Calls Try.prog 137 #[.pointer (some ⟨y, 0, none⟩), .int .i64 (0 : Int)] w fun e w' => e = .returned (.float .f32 (sumF (wat (d)) 19)) ∧ Below w.heap.size w w' from fun w y T hy => by
        have := sWater2 (d) HN.out 0 (by omega) w y T hy
        rw [show 19 - 0 = 19 from rfl, sumA_zero] at this
        exact this)
      have HW2 := hid hW2
      clear hW2
      generalize sumF (wat d) 19 = sa at G1 G2 ha HW1
      generalize sumF (wat c) 19 = sb at G1 G2 hbn HW2
      go_wp2_with fail
      refine (HW1.out _ _ _ h1.out).mono ?_
      rintro e wa ⟨rfl, ha1⟩
      have p1 := hid (hp.out.stay ha1)
      have o1 := hid (h1.out.stay ha1)
      have r1 := hid (h0.out.stay ha1)
      have b1 := hid (stp hb.out (Nat.le_refl _) ha1)
      clear hp hq h0 h1 hb ha1
      go_wp2_with fail
      refine (HW2.out _ _ _ p1.out).mono ?_
      rintro e wb ⟨rfl, hb1⟩
      have o2 := hid (o1.out.stay hb1)
      have r2 := hid (r1.out.stay hb1)
      have b2 := hid (stp b1.out (Nat.le_refl _) hb1)
      clear p1 o1 r1 b1 hb1
      obtain ⟨zz, u, hr, hzz, hu, hsome, hnone⟩ := run_any3 (P := Try.prog) .sub (.inr (.inl rfl)) 22 sa sb wb
      have o3 : Hid (arrAt u (w.heap.size + 1) (d) 26) := by rcases hu with rfl | rfl; exact o2; exact hid o2.out.drew
      have r3 : Hid (arrAt u w.heap.size (fun _ => 0) 26) := by rcases hu with rfl | rfl; exact r2; exact hid r2.out.drew
      have b3 : Hid (Below w.heap.size w u) := by rcases hu with rfl | rfl; exact b2; exact hid b2.out.drew
      have Hzz := hid hzz
      clear o2 r2 b2 hu hzz
      have HB := hid (fun i (hi : i < 20) => nn_lt (HN.out i hi))
      by_cases hF : Fins (d)
      · have HF := hid hF
        by_cases hab : finB sa = true ∧ finB sb = true
        · obtain ⟨hR, hz', hn'⟩ := G1.out ⟨hF, hab.1, hab.2⟩
          have hR := hR.symm
          subst hR
          subst hn'
          have hfz := sub_fin2 ha.out hbn.out hab.1 hab.2
          have hzz2 : zz = z := (hsome _ hfz.1).trans hz'.symm
          have HZ := hid (show finB zz = true by rw [hsome _ hfz.1]; exact hfz.2)
          clear hz' hfz
          subst hzz2
          clear hab hF hsome hnone G1 G2
          go_wp2_with (first | (refine wpList_load_row rfl 26 _ rfl (w.heap.size + 1) rfl 26 (fls (d)) (0, 0) _ o3.out Try.underlying26 rfl (by rw [fls_size]; exact info_arr) ?_))
          refine (sMade_t d HB.out HF.out _).mono ?_
          rintro e wm ⟨rfl, hm1⟩
          have r4 := hid (r3.out.stay hm1)
          have b4 := hid (stp b3.out (Nat.le_refl _) hm1)
          clear o3 r3 b3 hm1
          have r5 := hid (r4.out.alloc (.cells (fls fun _ => 0) 26))
          have N5 : Hid (arrAt (wm.alloc (.cells (fls fun _ => 0) 26)) wm.heap.size (fun _ => 0) 26) := hid (arrAt.new wm (fun _ => 0) 26)
          have b5 := hid (b4.out.alloc b4.out.size (.cells (fls fun _ => 0) 26))
          have L5 := hid r4.out.lt
          have r6 := hid (r5.out.setRowOther (k := wm.heap.size) (by have := L5.out; omega) (fls (d)))
          have N6 := hid (N5.out.setRow (d))
          have b6 := hid (below_row b5.out b4.out.size (g := wm.heap.size) (fls (d)))
          have tok2 : True := trivial
          go_wp2_with (have _t := tok2; refine wpList_store_row rfl 26 _ _ rfl (wm.heap.size) (fls (d)) rfl rfl 26 _ N5.out (by rw [fls_size]; exact info_arr) (by simp) (fls_one _) ?_; generalize ((wm.alloc (.cells (fls fun _ => 0) 26)).setRow (wm.heap.size) (fls (d))) = wz at r6 N6 b6 ⊢; clear r4 b4 r5 N5 b5 tok2)
          refine (sFinite_t _ Hzz.out HZ.out _).mono ?_
          rintro e wf ⟨rfl, rfl⟩
          go_wp2_with (first | (refine wpList_load_row rfl 26 _ rfl (wm.heap.size) rfl 26 (fls (d)) (0, 0) _ N6.out Try.underlying26 rfl (by rw [fls_size]; exact info_arr) ?_) | (refine wpList_store_row rfl 26 _ _ rfl (w.heap.size) (fls (d)) rfl rfl 26 _ r6.out (by rw [fls_size]; exact info_arr) (by simp) (fls_one _) ?_))
          exact bodyPost_ret (results_row_tmp2 rfl _ _ (w.heap.size) 26 (fls (d)) (0, 0) _ rfl (r6.out.setRow (d)) Try.underlying26 rfl (by rw [fls_size]; exact info_arr)) rfl ⟨rfl, below_row b6.out (Nat.le_refl _) _⟩
        · obtain ⟨rfl, rfl, rfl⟩ := G2.out fun h => hab h.2
          have HZ := hid (show finB zz = false from any_bad hsome hnone fun r h => sub_bad (nn_lt ha.out) (nn_lt hbn.out) (by
            rcases h1 : finB sa with _ | _
            · exact .inl rfl
            · rcases h2 : finB sb with _ | _
              · exact .inr rfl
              · exact absurd ⟨h1, h2⟩ hab) h)
          clear hab hF hsome hnone G1 G2
          go_wp2_with (first | (refine wpList_load_row rfl 26 _ rfl (w.heap.size + 1) rfl 26 (fls (d)) (0, 0) _ o3.out Try.underlying26 rfl (by rw [fls_size]; exact info_arr) ?_))
          refine (sMade_t d HB.out HF.out _).mono ?_
          rintro e wm ⟨rfl, hm1⟩
          have r4 := hid (r3.out.stay hm1)
          have b4 := hid (stp b3.out (Nat.le_refl _) hm1)
          clear o3 r3 b3 hm1
          have r5 := hid (r4.out.alloc (.cells (fls fun _ => 0) 26))
          have N5 : Hid (arrAt (wm.alloc (.cells (fls fun _ => 0) 26)) wm.heap.size (fun _ => 0) 26) := hid (arrAt.new wm (fun _ => 0) 26)
          have b5 := hid (b4.out.alloc b4.out.size (.cells (fls fun _ => 0) 26))
          have L5 := hid r4.out.lt
          have r6 := hid (r5.out.setRowOther (k := wm.heap.size) (by have := L5.out; omega) (fls (d)))
          have N6 := hid (N5.out.setRow (d))
          have b6 := hid (below_row b5.out b4.out.size (g := wm.heap.size) (fls (d)))
          have tok2 : True := trivial
          go_wp2_with (have _t := tok2; refine wpList_store_row rfl 26 _ _ rfl (wm.heap.size) (fls (d)) rfl rfl 26 _ N5.out (by rw [fls_size]; exact info_arr) (by simp) (fls_one _) ?_; generalize ((wm.alloc (.cells (fls fun _ => 0) 26)).setRow (wm.heap.size) (fls (d))) = wz at r6 N6 b6 ⊢; clear r4 b4 r5 N5 b5 tok2)
          refine (sFinite_f _ Hzz.out HZ.out _).mono ?_
          rintro e wf ⟨rfl, hff⟩
          have r7 := hid (r6.out.stay hff)
          have b7 := hid (stp b6.out (Nat.le_refl _) hff)
          go_wp2_with (first | (refine wpList_store_row rfl 26 _ _ rfl (w.heap.size) (fls fun _ => 0) rfl rfl 26 _ r7.out (by rw [fls_size]; exact info_arr) (by simp) (fls_one _) ?_))
          exact bodyPost_ret (results_row_tmp2 rfl _ _ (w.heap.size) 26 (fls fun _ => 0) (0, 0) _ rfl ((r7.out).setRow (fun _ => 0)) Try.underlying26 rfl (by rw [fls_size]; exact info_arr)) rfl ⟨rfl, below_row b7.out (Nat.le_refl _) _⟩
      · obtain ⟨rfl, rfl, rfl⟩ := G2.out fun h => hF h.1
        have HF := hid hF
        clear hF hsome hnone G1 G2
        go_wp2_with (first | (refine wpList_load_row rfl 26 _ rfl (w.heap.size + 1) rfl 26 (fls (d)) (0, 0) _ o3.out Try.underlying26 rfl (by rw [fls_size]; exact info_arr) ?_))
        refine (sMade_f (d) HB.out HF.out _).mono ?_
        rintro e wm ⟨rfl, hm1⟩
        have r4 := hid (r3.out.stay hm1)
        have b4 := hid (stp b3.out (Nat.le_refl _) hm1)
        clear o3 r3 b3 hm1
        have r5 := hid (r4.out.alloc (.cells (fls fun _ => 0) 26))
        have N5 : Hid (arrAt (wm.alloc (.cells (fls fun _ => 0) 26)) wm.heap.size (fun _ => 0) 26) := hid (arrAt.new wm (fun _ => 0) 26)
        have b5 := hid (b4.out.alloc b4.out.size (.cells (fls fun _ => 0) 26))
        have L5 := hid r4.out.lt
        have r6 := hid (r5.out.setRowOther (k := wm.heap.size) (by have := L5.out; omega) (fls (fun _ => 0)))
        have N6 := hid (N5.out.setRow (fun _ => 0))
        have b6 := hid (below_row b5.out b4.out.size (g := wm.heap.size) (fls (fun _ => 0)))
        have tok2 : True := trivial
        go_wp2_with (first | (have _t := tok2; refine wpList_store_row rfl 26 _ _ rfl (wm.heap.size) (fls (fun _ => 0)) rfl rfl 26 _ N5.out (by rw [fls_size]; exact info_arr) (by simp) (fls_one _) ?_; generalize ((wm.alloc (.cells (fls fun _ => 0) 26)).setRow (wm.heap.size) (fls (fun _ => 0))) = wz at r6 N6 b6 ⊢; clear r4 b4 r5 N5 b5 tok2) | (refine wpList_store_row rfl 26 _ _ rfl (w.heap.size) (fls fun _ => 0) rfl rfl 26 _ r6.out (by rw [fls_size]; exact info_arr) (by simp) (fls_one _) ?_))
        exact bodyPost_ret (results_row_tmp2 rfl _ _ (w.heap.size) 26 (fls fun _ => 0) (0, 0) _ rfl ((r6.out).setRow (fun _ => 0)) Try.underlying26 rfl (by rw [fls_size]; exact info_arr)) rfl ⟨rfl, below_row b6.out (Nat.le_refl _) _⟩

set_option maxHeartbeats 1000000 in
set_option maxRecDepth 100000 in
theorem iShiftEach (c g : Nat → Nat) (hc : Amts c) (hg : ∀ i, i < 20 → FW (g i)) (R : Nat → Nat) (n : Int) (g1 : Fins (shN c g 20) → R = shN c g 20 ∧ n = 0) (g2 : ¬ Fins (shN c g 20) → R = (fun _ => 0) ∧ n = 4) (w : World) :
    Calls Try.prog 97 #[.agg (fls c), .agg (fls g)] w fun e w' => e = .returned (.tuple #[.agg (fls R), .int .i64 n]) ∧ Below w.heap.size w w' := by
  have k0 : Hid (Kept w [(w.heap.size, fls c, 26), (w.heap.size + 1, fls g, 23), (w.heap.size + 1 + 1, fls fun _ => 0, 26), (w.heap.size + 1 + 1 + 1, fls fun _ => 0, 26)] ((((w.alloc (.cells (fls c) 26)).alloc (.cells (fls g) 23)).alloc (.cells (fls fun _ => 0) 26)).alloc (.cells (fls fun _ => 0) 26))) := hid ((((((Kept.nil w).push _ _).push _ _).push _ _).push _ _).sub (by simp))
  have c0 : Hid (arrAt _ w.heap.size c 26) := hid (k0.out.at (x := (w.heap.size, fls c, 26)) (by simp))
  have g0 : Hid (arrAt _ (w.heap.size + 1) g 23) := hid (k0.out.at (x := (w.heap.size + 1, fls g, 23)) (by simp))
  have r0 : Hid (arrAt _ (w.heap.size + 1 + 1) (fun _ => 0) 26) := hid (k0.out.at (x := (w.heap.size + 1 + 1, fls fun _ => 0, 26)) (by simp))
  have s0 : Hid (arrAt _ (w.heap.size + 1 + 1 + 1) (fun _ => 0) 26) := hid (k0.out.at (x := (w.heap.size + 1 + 1 + 1, fls fun _ => 0, 26)) (by simp))
  have b0 := hid k0.out.1
  clear k0
  have Hc := hid hc
  have Hg := hid hg
  have G1 := hid g1
  have G2 := hid g2
  have Hnn := hid (shN_nn hc hg)
  clear hc hg g1 g2
  go_enter Try.func97, Try.ntmps97
  go_wp2_with (refine wpList_load_row rfl 26 _ rfl (w.heap.size) rfl 26 (fls c) (0, 0) _ c0.out Try.underlying26 rfl (by rw [fls_size]; exact info_arr) ?_; generalize ((((w.alloc (.cells (fls c) 26)).alloc (.cells (fls g) 23)).alloc (.cells (fls fun _ => 0) 26)).alloc (.cells (fls fun _ => 0) 26)) = w3 at c0 g0 r0 s0 b0 ⊢)
  go_loopw [13] (fun i wr => ∃ k : Nat, k ≤ 20 ∧ i = .int .i64 k ∧ Hid (Fins (shN c g k)) ∧ Hid (arrAt wr w.heap.size c 26) ∧ Hid (arrAt wr (w.heap.size + 1) g 23) ∧ Hid (arrAt wr (w.heap.size + 1 + 1) (fun _ => 0) 26) ∧ Hid (arrAt wr (w.heap.size + 1 + 1 + 1) (shN c g k) 26) ∧ Hid (Below w.heap.size w wr)) (fun i _ => 20 - (intOf i).toNat)
  case atStart => exact ⟨0, by omega, rfl, hid (fun i _ => (by decide : finB 0 = true)), c0, g0, r0, s0, b0⟩
  case round =>
    obtain ⟨k, hk, rfl, HF, c1, g1, r1, s1, b1⟩ := hrel
    clear c0 g0 r0 s0 b0
    by_cases hlt : k < 20
    · have HK := hid hlt
      have hk3 : (k : Int) < 20 := by omega
      have hix := ix 26 Try.underlying26 c k hlt
      have q2 := g1.out.cell hlt
      have hgm := hid (gm_eq hlt (Hg.out k hlt))
      have ra := fun w => run_float_arith (P := Try.prog) w .add 22 .f32 _ _ _ hgm.out.1
      by_cases hz : c k = 0
      · have hoff := hid (shN_off (c := c) (g := g) (n := k) fun h => h.1 hz)
        rw [hz] at hix
        have e0 := eq0_t
        go_wp2_with fail
        go_quiet ((go_at_call 139; exact Calls.quiet_of_same (back (iMass k HK.out _))))
        go_wp2_with fail
        go_roundw
        case rel => exact ⟨k + 1, by have := HK.out; omega, by go_num, hid (hoff.out ▸ HF.out), hid c1.out, hid g1.out, hid r1.out, hid (hoff.out ▸ s1.out), hid (below_drewN b1.out _)⟩
        case measure => have := HK.out; simp [intOf]; omega
      · have e0 := eq0_f (Hc.out k hlt) hz
        by_cases hs : 0 < sv (gm k (g k))
        · have e1 := le0_f hgm.out.2 hs
          have hon := hid (shN_on (c := c) (g := g) hz hs)
          have hpos := hid (gm_pos hgm.out.2 hs)
          clear hs hz
          go_wp2_with fail
          go_quiet ((go_at_call 139; exact Calls.quiet_of_same (back (iMass k HK.out _))))
          have s1' := hid (show arrAt (World.drewN wr nq) (w.heap.size + 1 + 1 + 1) (shN c g k) 26 from s1.out)
          go_wp2_with (first | (refine wpList_load_row rfl 26 _ rfl (w.heap.size + 1 + 1 + 1) rfl 26 (fls (shN c g k)) (0, 0) _ s1'.out Try.underlying26 rfl (by rw [fls_size]; exact info_arr) ?_))
          have hA := hid (fins_amts (Hnn.out k (by have := HK.out; omega)) HF.out)
          by_cases hF : Fins (put1 (shN c g k) (gm k (g k)) (c k))
          · have HF2 := hid hF
            refine (iPut_any (shN c g k) hA.out (gm k (g k)) hpos.out.1 hpos.out.2 (c k) (Hc.out k HK.out) (put1 (shN c g k) (gm k (g k)) (c k)) 0 (fun _ => ⟨rfl, rfl⟩) (fun h => absurd hF h) _).mono ?_
            clear hF
            rintro e wm ⟨rfl, hm⟩
            have c4 : Hid (arrAt wm w.heap.size c 26) := hid (arrAt.stay (show arrAt (World.drewN wr nq) _ _ _ from c1.out) hm)
            have g4 : Hid (arrAt wm (w.heap.size + 1) g 23) := hid (arrAt.stay (show arrAt (World.drewN wr nq) _ _ _ from g1.out) hm)
            have r4 : Hid (arrAt wm (w.heap.size + 1 + 1) (fun _ => 0) 26) := hid (arrAt.stay (show arrAt (World.drewN wr nq) _ _ _ from r1.out) hm)
            have s4 : Hid (arrAt wm (w.heap.size + 1 + 1 + 1) (shN c g k) 26) := hid (arrAt.stay (show arrAt (World.drewN wr nq) _ _ _ from s1.out) hm)
            have b4 : Hid (Below w.heap.size w wm) := hid (stp (below_drewN b1.out _) (Nat.le_refl _) hm)
            clear c1 g1 r1 s1 s1' b1 hm
            have c5 := hid ((c4.out.alloc (.cells (fls fun _ => 0) 26)).setRowOther (k := wm.heap.size) (by have := c4.out.lt; omega) (fls (put1 (shN c g k) (gm k (g k)) (c k))))
            have g5 := hid ((g4.out.alloc (.cells (fls fun _ => 0) 26)).setRowOther (k := wm.heap.size) (by have := g4.out.lt; omega) (fls (put1 (shN c g k) (gm k (g k)) (c k))))
            have r5 := hid ((r4.out.alloc (.cells (fls fun _ => 0) 26)).setRowOther (k := wm.heap.size) (by have := r4.out.lt; omega) (fls (put1 (shN c g k) (gm k (g k)) (c k))))
            have s5 := hid ((s4.out.alloc (.cells (fls fun _ => 0) 26)).setRowOther (k := wm.heap.size) (by have := s4.out.lt; omega) (fls (put1 (shN c g k) (gm k (g k)) (c k))))
            have N4 : Hid (arrAt (wm.alloc (.cells (fls fun _ => 0) 26)) wm.heap.size (fun _ => 0) 26) := hid (arrAt.new wm (fun _ => 0) 26)
            have N5 := hid (N4.out.setRow (put1 (shN c g k) (gm k (g k)) (c k)))
            have b5 := hid (below_row (b4.out.alloc b4.out.size (.cells (fls fun _ => 0) 26)) b4.out.size (g := wm.heap.size) (fls (put1 (shN c g k) (gm k (g k)) (c k))))
            have tok2 : True := trivial
            go_wp2_with (first | (have _t := tok2; refine wpList_store_row rfl 26 _ _ rfl (wm.heap.size) (fls (put1 (shN c g k) (gm k (g k)) (c k))) rfl rfl 26 _ N4.out (by rw [fls_size]; exact info_arr) (by simp) (fls_one _) ?_; generalize ((wm.alloc (.cells (fls fun _ => 0) 26)).setRow (wm.heap.size) (fls (put1 (shN c g k) (gm k (g k)) (c k)))) = wz at c5 g5 r5 s5 N5 b5 ⊢; clear c4 g4 r4 s4 N4 b4 tok2) | (refine wpList_load_row rfl 26 _ rfl (wm.heap.size) rfl 26 (fls (put1 (shN c g k) (gm k (g k)) (c k))) (0, 0) _ N5.out Try.underlying26 rfl (by rw [fls_size]; exact info_arr) ?_) | (refine wpList_store_row rfl 26 _ _ rfl (w.heap.size + 1 + 1 + 1) (fls (put1 (shN c g k) (gm k (g k)) (c k))) rfl rfl 26 _ s5.out (by rw [fls_size]; exact info_arr) (by simp) (fls_one _) ?_))
            go_roundw
            case rel => exact ⟨k + 1, by have := HK.out; omega, by go_num, hid (hon.out.symm ▸ HF2.out), hid (c5.out.setRowOther (by omega) _), hid (g5.out.setRowOther (by omega) _), hid (r5.out.setRowOther (by omega) _), hid (hon.out.symm ▸ s5.out.setRow _), hid (below_row b5.out (by omega) _)⟩
            case measure => have := HK.out; simp [intOf]; omega
          · have HF2 := hid hF
            refine (iPut_any (shN c g k) hA.out (gm k (g k)) hpos.out.1 hpos.out.2 (c k) (Hc.out k HK.out) (fun _ => 0) 4 (fun h => absurd h hF) (fun _ => ⟨rfl, rfl⟩) _).mono ?_
            clear hF
            obtain ⟨rfl, rfl⟩ := G2.out (shN_bad Hc.out Hg.out (n := k + 1) (by rw [hon.out]; exact HF2.out) 20 (by have := HK.out; omega) (Nat.le_refl _))
            rintro e wm ⟨rfl, hm⟩
            have c4 : Hid (arrAt wm w.heap.size c 26) := hid (arrAt.stay (show arrAt (World.drewN wr nq) _ _ _ from c1.out) hm)
            have g4 : Hid (arrAt wm (w.heap.size + 1) g 23) := hid (arrAt.stay (show arrAt (World.drewN wr nq) _ _ _ from g1.out) hm)
            have r4 : Hid (arrAt wm (w.heap.size + 1 + 1) (fun _ => 0) 26) := hid (arrAt.stay (show arrAt (World.drewN wr nq) _ _ _ from r1.out) hm)
            have s4 : Hid (arrAt wm (w.heap.size + 1 + 1 + 1) (shN c g k) 26) := hid (arrAt.stay (show arrAt (World.drewN wr nq) _ _ _ from s1.out) hm)
            have b4 : Hid (Below w.heap.size w wm) := hid (stp (below_drewN b1.out _) (Nat.le_refl _) hm)
            clear c1 g1 r1 s1 s1' b1 hm
            have c5 := hid ((c4.out.alloc (.cells (fls fun _ => 0) 26)).setRowOther (k := wm.heap.size) (by have := c4.out.lt; omega) (fls (fun _ => 0)))
            have g5 := hid ((g4.out.alloc (.cells (fls fun _ => 0) 26)).setRowOther (k := wm.heap.size) (by have := g4.out.lt; omega) (fls (fun _ => 0)))
            have r5 := hid ((r4.out.alloc (.cells (fls fun _ => 0) 26)).setRowOther (k := wm.heap.size) (by have := r4.out.lt; omega) (fls (fun _ => 0)))
            have s5 := hid ((s4.out.alloc (.cells (fls fun _ => 0) 26)).setRowOther (k := wm.heap.size) (by have := s4.out.lt; omega) (fls (fun _ => 0)))
            have N4 : Hid (arrAt (wm.alloc (.cells (fls fun _ => 0) 26)) wm.heap.size (fun _ => 0) 26) := hid (arrAt.new wm (fun _ => 0) 26)
            have N5 := hid (N4.out.setRow (fun _ => 0))
            have b5 := hid (below_row (b4.out.alloc b4.out.size (.cells (fls fun _ => 0) 26)) b4.out.size (g := wm.heap.size) (fls (fun _ => 0)))
            have tok2 : True := trivial
            go_wp2_with (first | (have _t := tok2; refine wpList_store_row rfl 26 _ _ rfl (wm.heap.size) (fls (fun _ => 0)) rfl rfl 26 _ N4.out (by rw [fls_size]; exact info_arr) (by simp) (fls_one _) ?_; generalize ((wm.alloc (.cells (fls fun _ => 0) 26)).setRow (wm.heap.size) (fls (fun _ => 0))) = wz at c5 g5 r5 s5 N5 b5 ⊢; clear c4 g4 r4 s4 N4 b4 tok2) | (refine wpList_store_row rfl 26 _ _ rfl (w.heap.size + 1 + 1) (fls (fun _ => 0)) rfl rfl 26 _ r5.out (by rw [fls_size]; exact info_arr) (by simp) (fls_one _) ?_))
            exact bodyPost_ret (results_row_tmp rfl _ _ (w.heap.size + 1 + 1) 26 (fls fun _ => 0) (0, 0) _ rfl (r5.out.setRow (fun _ => 0)) Try.underlying26 rfl (by rw [fls_size]; exact info_arr)) rfl ⟨rfl, below_row b5.out (by omega) _⟩
        · have e1 := le0_t hgm.out.2 hs
          have hoff := hid (shN_off (c := c) (g := g) (n := k) fun h => hs h.2)
          clear hs hz
          go_wp2_with fail
          go_quiet ((go_at_call 139; exact Calls.quiet_of_same (back (iMass k HK.out _))))
          go_wp2_with fail
          go_roundw
          case rel => exact ⟨k + 1, by have := HK.out; omega, by go_num, hid (hoff.out ▸ HF.out), hid c1.out, hid g1.out, hid r1.out, hid (hoff.out ▸ s1.out), hid (below_drewN b1.out _)⟩
          case measure => have := HK.out; simp [intOf]; omega
    · obtain rfl : k = 20 := by omega
      obtain ⟨hR, hn⟩ := G1.out HF.out
      subst hn
      have hR' := hR.symm
      clear G1 G2 Hnn HF hlt hk hR
      generalize shN c g 20 = d at s1 hR'
      subst hR'
      go_wp2_with (first | (refine wpList_load_row rfl 26 _ rfl (w.heap.size + 1 + 1 + 1) rfl 26 (fls d) (0, 0) _ s1.out Try.underlying26 rfl (by rw [fls_size]; exact info_arr) ?_) | (refine wpList_store_row rfl 26 _ _ rfl (w.heap.size + 1 + 1) (fls d) rfl rfl 26 _ r1.out (by rw [fls_size]; exact info_arr) (by simp) (fls_one _) ?_))
      exact bodyPost_ret (results_row_tmp rfl _ _ (w.heap.size + 1 + 1) 26 (fls d) (0, 0) _ rfl (r1.out.setRow d) Try.underlying26 rfl (by rw [fls_size]; exact info_arr)) rfl ⟨rfl, below_row b1.out (by omega) _⟩

set_option maxHeartbeats 1000000 in
set_option maxRecDepth 100000 in
theorem sShiftMasses_bad (c g : Nat → Nat) (hb : ∀ i, i < 20 → c i < 4294967296) (h : ¬ Amts c) (w : World) :
    Calls Try.prog 45 #[.agg (fls c), .agg (fls g)] w fun e w' => e = .returned (.tuple #[.agg (fls fun _ => 0), .float .f32 0, .int .i64 1]) ∧ Below w.heap.size w w' := by
  have k0 : Hid (Kept w [(w.heap.size, fls c, 26), (w.heap.size + 1, fls g, 23), (w.heap.size + 1 + 1, fls fun _ => 0, 26)] (((w.alloc (.cells (fls c) 26)).alloc (.cells (fls g) 23)).alloc (.cells (fls fun _ => 0) 26))) := hid (((((Kept.nil w).push _ _).push _ _).push _ _).sub (by simp))
  have c0 : Hid (arrAt _ w.heap.size c 26) := hid (k0.out.at (x := (w.heap.size, fls c, 26)) (by simp))
  have g0 : Hid (arrAt _ (w.heap.size + 1) g 23) := hid (k0.out.at (x := (w.heap.size + 1, fls g, 23)) (by simp))
  have r0 : Hid (arrAt _ (w.heap.size + 1 + 1) (fun _ => 0) 26) := hid (k0.out.at (x := (w.heap.size + 1 + 1, fls fun _ => 0, 26)) (by simp))
  have b0 := hid k0.out.1
  clear k0
  have Hb := hid hb
  have Hh := hid h
  clear hb h
  go_enter Try.func45, Try.ntmps45
  go_wp2_with fail
  refine (sOk_f c Hb.out Hh.out _ w.heap.size 26 c0.out).mono ?_
  rintro e w1 ⟨rfl, h1⟩
  have c9 := hid (c0.out.stay h1)
  have g9 := hid (g0.out.stay h1)
  have r9 := hid (r0.out.stay h1)
  have b9 := hid (stp b0.out (Nat.le_refl _) h1)
  clear c0 g0 r0 b0 h1
  go_wp2_with ((refine wpList_store_row rfl 26 _ _ rfl (w.heap.size + 1 + 1) (fls (fun _ => 0)) rfl rfl 26 _ r9.out (by rw [fls_size]; exact info_arr) (by simp) (fls_one _) ?_))
  exact bodyPost_ret (results_row_tmp2 rfl _ _ (w.heap.size + 1 + 1) 26 (fls (fun _ => 0)) (0, 0) _ rfl (r9.out.setRow (fun _ => 0)) Try.underlying26 rfl (by rw [fls_size]; exact info_arr)) rfl ⟨rfl, below_row b9.out (by omega) _⟩

set_option maxHeartbeats 1000000 in
set_option maxRecDepth 100000 in
theorem sShiftMasses_range (c g : Nat → Nat) (hc : Amts c) (hb : ∀ i, i < 20 → g i < 4294967296) (h : ¬ Fins g) (w : World) :
    Calls Try.prog 45 #[.agg (fls c), .agg (fls g)] w fun e w' => e = .returned (.tuple #[.agg (fls fun _ => 0), .float .f32 0, .int .i64 2]) ∧ Below w.heap.size w w' := by
  have k0 : Hid (Kept w [(w.heap.size, fls c, 26), (w.heap.size + 1, fls g, 23), (w.heap.size + 1 + 1, fls fun _ => 0, 26)] (((w.alloc (.cells (fls c) 26)).alloc (.cells (fls g) 23)).alloc (.cells (fls fun _ => 0) 26))) := hid (((((Kept.nil w).push _ _).push _ _).push _ _).sub (by simp))
  have c0 : Hid (arrAt _ w.heap.size c 26) := hid (k0.out.at (x := (w.heap.size, fls c, 26)) (by simp))
  have g0 : Hid (arrAt _ (w.heap.size + 1) g 23) := hid (k0.out.at (x := (w.heap.size + 1, fls g, 23)) (by simp))
  have r0 : Hid (arrAt _ (w.heap.size + 1 + 1) (fun _ => 0) 26) := hid (k0.out.at (x := (w.heap.size + 1 + 1, fls fun _ => 0, 26)) (by simp))
  have b0 := hid k0.out.1
  clear k0
  have Hc := hid hc
  have Hb := hid hb
  have Hh := hid h
  clear hc hb h
  go_enter Try.func45, Try.ntmps45
  go_wp2_with fail
  refine (loose (sOk_t c Hc.out _ w.heap.size 26 c0.out)).mono ?_
  rintro e w1 ⟨rfl, h1⟩
  have c1 := hid (c0.out.stay h1)
  have g1 := hid (g0.out.stay h1)
  have r1 := hid (r0.out.stay h1)
  have b1 := hid (stp b0.out (Nat.le_refl _) h1)
  clear c0 g0 r0 b0 h1
  go_wp2_with fail
  go_loopw [7] (fun i wr => ∃ k : Nat, k ≤ 20 ∧ i = .int .i64 k ∧ Hid (∀ i, i < k → finB (g i) = true) ∧ Hid (arrAt wr w.heap.size c 26) ∧ Hid (arrAt wr (w.heap.size + 1) g 23) ∧ Hid (arrAt wr (w.heap.size + 1 + 1) (fun _ => 0) 26) ∧ Hid (Below w.heap.size w wr)) (fun i _ => 20 - (intOf i).toNat)
  case atStart => exact ⟨0, by omega, rfl, hid (fun i hi => absurd hi (Nat.not_lt_zero _)), c1, g1, r1, b1⟩
  case round =>
    obtain ⟨k, hk, rfl, HK, c2, g2, r2, b2⟩ := hrel
    clear c1 g1 r1 b1
    by_cases hlt : k < 20
    · have hk3 : (k : Int) < 20 := by omega
      have q2 := g2.out.cell hlt
      rcases hac : finB (g k) with _ | _
      · have HA := hid hac
        clear hac
        go_wp2_with fail
        refine (sFinite_f (g k) (Hb.out k hlt) HA.out _).mono ?_
        rintro e w3 ⟨rfl, h3⟩
        have c9 := hid (c2.out.stay h3)
        have g9 := hid (g2.out.stay h3)
        have r9 := hid (r2.out.stay h3)
        have b9 := hid (stp b2.out (Nat.le_refl _) h3)
        clear c2 g2 r2 b2 h3
        go_wp2_with ((refine wpList_store_row rfl 26 _ _ rfl (w.heap.size + 1 + 1) (fls (fun _ => 0)) rfl rfl 26 _ r9.out (by rw [fls_size]; exact info_arr) (by simp) (fls_one _) ?_))
        exact bodyPost_ret (results_row_tmp2 rfl _ _ (w.heap.size + 1 + 1) 26 (fls (fun _ => 0)) (0, 0) _ rfl (r9.out.setRow (fun _ => 0)) Try.underlying26 rfl (by rw [fls_size]; exact info_arr)) rfl ⟨rfl, below_row b9.out (by omega) _⟩
      · have HA := hid hac
        clear hac
        go_wp2_with fail
        refine (sFinite_t (g k) (Hb.out k hlt) HA.out _).mono ?_
        rintro e w3 ⟨rfl, rfl⟩
        go_wp2_with fail
        go_roundw
        case rel =>
          refine ⟨k + 1, by omega, by go_num, hid (fun i hi => ?_), c2, g2, r2, b2⟩
          by_cases e : i = k
          · subst e; exact HA.out
          · exact HK.out i (by omega)
        case measure => simp [intOf]; omega
    · exact (Hh.out (fun i hi => HK.out i (by omega))).elim

set_option maxHeartbeats 1000000 in
set_option maxRecDepth 100000 in
theorem sShiftMasses_ok (c g : Nat → Nat) (hc : Amts c) (hg : ∀ i, i < 20 → FW (g i)) (R : Nat → Nat) (z : Nat) (n : Int) (g1 : ShOk c g → R = shN c g 20 ∧ z = fsb (sumF (wat (shN c g 20)) 19) (sumF (wat c) 19) ∧ n = 0) (g2 : ¬ ShOk c g → R = (fun _ => 0) ∧ z = 0 ∧ n = 4) (w : World) :
    Calls Try.prog 45 #[.agg (fls c), .agg (fls g)] w fun e w' => e = .returned (.tuple #[.agg (fls R), .float .f32 z, .int .i64 n]) ∧ Below w.heap.size w w' := by
  have k0 : Hid (Kept w [(w.heap.size, fls c, 26), (w.heap.size + 1, fls g, 23), (w.heap.size + 1 + 1, fls fun _ => 0, 26)] (((w.alloc (.cells (fls c) 26)).alloc (.cells (fls g) 23)).alloc (.cells (fls fun _ => 0) 26))) := hid (((((Kept.nil w).push _ _).push _ _).push _ _).sub (by simp))
  have c0 : Hid (arrAt _ w.heap.size c 26) := hid (k0.out.at (x := (w.heap.size, fls c, 26)) (by simp))
  have g0 : Hid (arrAt _ (w.heap.size + 1) g 23) := hid (k0.out.at (x := (w.heap.size + 1, fls g, 23)) (by simp))
  have r0 : Hid (arrAt _ (w.heap.size + 1 + 1) (fun _ => 0) 26) := hid (k0.out.at (x := (w.heap.size + 1 + 1, fls fun _ => 0, 26)) (by simp))
  have b0 := hid k0.out.1
  clear k0
  have Hc := hid hc
  have Hg := hid hg
  have G1 := hid g1
  have G2 := hid g2
  clear hc hg g1 g2
  go_enter Try.func45, Try.ntmps45
  go_wp2_with fail
  refine (loose (sOk_t c Hc.out _ w.heap.size 26 c0.out)).mono ?_
  rintro e w1 ⟨rfl, h1⟩
  have c1 := hid (c0.out.stay h1)
  have g1 := hid (g0.out.stay h1)
  have r1 := hid (r0.out.stay h1)
  have b1 := hid (stp b0.out (Nat.le_refl _) h1)
  clear c0 g0 r0 b0 h1
  go_wp2_with fail
  go_loopw [7] (fun i wr => ∃ k : Nat, k ≤ 20 ∧ i = .int .i64 k ∧ Hid (arrAt wr w.heap.size c 26) ∧ Hid (arrAt wr (w.heap.size + 1) g 23) ∧ Hid (arrAt wr (w.heap.size + 1 + 1) (fun _ => 0) 26) ∧ Hid (Below w.heap.size w wr)) (fun i _ => 20 - (intOf i).toNat)
  case atStart => exact ⟨0, by omega, rfl, c1, g1, r1, b1⟩
  case round =>
    obtain ⟨k, hk, rfl, c2, g2, r2, b2⟩ := hrel
    clear c1 g1 r1 b1
    by_cases hlt : k < 20
    · have hk3 : (k : Int) < 20 := by omega
      have q2 := g2.out.cell hlt
      have hf := Hg.out k hlt
      go_wp2_with fail
      refine (sFinite_t (g k) hf.1 hf.fin _).mono ?_
      rintro e w3 ⟨rfl, rfl⟩
      go_wp2_with fail
      go_roundw
      case rel => exact ⟨k + 1, by omega, by go_num, c2, g2, r2, b2⟩
      case measure => simp [intOf]; omega
    · obtain rfl : k = 20 := by omega
      clear hlt hk
      go_wp2_with fail
      refine (sShift c g Hc.out Hg.out R z n G1.out G2.out _ _ _ _ _ c2.out g2.out).mono ?_
      rintro e w4 ⟨rfl, h4⟩
      have c9 := hid (c2.out.stay h4)
      have g9 := hid (g2.out.stay h4)
      have r9 := hid (r2.out.stay h4)
      have b9 := hid (stp b2.out (Nat.le_refl _) h4)
      clear c2 g2 r2 b2 h4
      go_wp2_with ((refine wpList_store_row rfl 26 _ _ rfl (w.heap.size + 1 + 1) (fls R) rfl rfl 26 _ r9.out (by rw [fls_size]; exact info_arr) (by simp) (fls_one _) ?_))
      exact bodyPost_ret (results_row_tmp2 rfl _ _ (w.heap.size + 1 + 1) 26 (fls R) (0, 0) _ rfl (r9.out.setRow R) Try.underlying26 rfl (by rw [fls_size]; exact info_arr)) rfl ⟨rfl, below_row b9.out (by omega) _⟩

set_option maxHeartbeats 1000000 in
set_option maxRecDepth 100000 in
theorem iShiftMasses_bad (c g : Nat → Nat) (hb : ∀ i, i < 20 → c i < 4294967296) (h : ¬ Amts c) (w : World) :
    Calls Try.prog 47 #[.agg (fls c), .agg (fls g)] w fun e w' => e = .returned (.tuple #[.agg (fls fun _ => 0), .float .f32 0, .int .i64 1]) ∧ Below w.heap.size w w' := by
  have k0 : Hid (Kept w [(w.heap.size, fls c, 26), (w.heap.size + 1, fls g, 23), (w.heap.size + 1 + 1, fls fun _ => 0, 26)] (((w.alloc (.cells (fls c) 26)).alloc (.cells (fls g) 23)).alloc (.cells (fls fun _ => 0) 26))) := hid (((((Kept.nil w).push _ _).push _ _).push _ _).sub (by simp))
  have c0 : Hid (arrAt _ w.heap.size c 26) := hid (k0.out.at (x := (w.heap.size, fls c, 26)) (by simp))
  have g0 : Hid (arrAt _ (w.heap.size + 1) g 23) := hid (k0.out.at (x := (w.heap.size + 1, fls g, 23)) (by simp))
  have r0 : Hid (arrAt _ (w.heap.size + 1 + 1) (fun _ => 0) 26) := hid (k0.out.at (x := (w.heap.size + 1 + 1, fls fun _ => 0, 26)) (by simp))
  have b0 := hid k0.out.1
  clear k0
  have Hb := hid hb
  have Hh := hid h
  clear hb h
  go_enter Try.func47, Try.ntmps47
  go_wp2_with ((refine wpList_load_row rfl 26 _ rfl (w.heap.size) rfl 26 (fls c) (0, 0) _ c0.out Try.underlying26 rfl (by rw [fls_size]; exact info_arr) ?_))
  refine (validSizes_f c Hb.out Hh.out _).mono ?_
  rintro e w1 ⟨rfl, h1⟩
  have c9 := hid (c0.out.stay h1)
  have g9 := hid (g0.out.stay h1)
  have r9 := hid (r0.out.stay h1)
  have b9 := hid (stp b0.out (Nat.le_refl _) h1)
  clear c0 g0 r0 b0 h1
  go_wp2_with ((refine wpList_store_row rfl 26 _ _ rfl (w.heap.size + 1 + 1) (fls (fun _ => 0)) rfl rfl 26 _ r9.out (by rw [fls_size]; exact info_arr) (by simp) (fls_one _) ?_))
  exact bodyPost_ret (results_row_tmp2 rfl _ _ (w.heap.size + 1 + 1) 26 (fls (fun _ => 0)) (0, 0) _ rfl (r9.out.setRow (fun _ => 0)) Try.underlying26 rfl (by rw [fls_size]; exact info_arr)) rfl ⟨rfl, below_row b9.out (by omega) _⟩

set_option maxHeartbeats 1000000 in
set_option maxRecDepth 100000 in
theorem iShiftMasses_range (c g : Nat → Nat) (hc : Amts c) (hb : ∀ i, i < 20 → g i < 4294967296) (h : ¬ Fins g) (w : World) :
    Calls Try.prog 47 #[.agg (fls c), .agg (fls g)] w fun e w' => e = .returned (.tuple #[.agg (fls fun _ => 0), .float .f32 0, .int .i64 2]) ∧ Below w.heap.size w w' := by
  have k0 : Hid (Kept w [(w.heap.size, fls c, 26), (w.heap.size + 1, fls g, 23), (w.heap.size + 1 + 1, fls fun _ => 0, 26)] (((w.alloc (.cells (fls c) 26)).alloc (.cells (fls g) 23)).alloc (.cells (fls fun _ => 0) 26))) := hid (((((Kept.nil w).push _ _).push _ _).push _ _).sub (by simp))
  have c0 : Hid (arrAt _ w.heap.size c 26) := hid (k0.out.at (x := (w.heap.size, fls c, 26)) (by simp))
  have g0 : Hid (arrAt _ (w.heap.size + 1) g 23) := hid (k0.out.at (x := (w.heap.size + 1, fls g, 23)) (by simp))
  have r0 : Hid (arrAt _ (w.heap.size + 1 + 1) (fun _ => 0) 26) := hid (k0.out.at (x := (w.heap.size + 1 + 1, fls fun _ => 0, 26)) (by simp))
  have b0 := hid k0.out.1
  clear k0
  have Hc := hid hc
  have Hb := hid hb
  have Hh := hid h
  clear hc hb h
  go_enter Try.func47, Try.ntmps47
  go_wp2_with ((refine wpList_load_row rfl 26 _ rfl (w.heap.size) rfl 26 (fls c) (0, 0) _ c0.out Try.underlying26 rfl (by rw [fls_size]; exact info_arr) ?_))
  refine (validSizes_t c Hc.out _).mono ?_
  rintro e w1 ⟨rfl, h1⟩
  have c1 := hid (c0.out.stay h1)
  have g1 := hid (g0.out.stay h1)
  have r1 := hid (r0.out.stay h1)
  have b1 := hid (stp b0.out (Nat.le_refl _) h1)
  clear c0 g0 r0 b0 h1
  go_wp2_with ((refine wpList_load_row rfl 23 _ rfl (w.heap.size + 1) rfl 23 (fls g) (0, 0) _ g1.out Try.underlying23 rfl (by rw [fls_size]; exact info_a20) ?_))
  go_loopw [18] (fun i wr => ∃ k : Nat, k ≤ 20 ∧ i = .int .i64 k ∧ Hid (∀ i, i < k → finB (g i) = true) ∧ Hid (arrAt wr w.heap.size c 26) ∧ Hid (arrAt wr (w.heap.size + 1) g 23) ∧ Hid (arrAt wr (w.heap.size + 1 + 1) (fun _ => 0) 26) ∧ Hid (Below w.heap.size w wr)) (fun i _ => 20 - (intOf i).toNat)
  case atStart => exact ⟨0, by omega, rfl, hid (fun i hi => absurd hi (Nat.not_lt_zero _)), c1, g1, r1, b1⟩
  case round =>
    obtain ⟨k, hk, rfl, HK, c2, g2, r2, b2⟩ := hrel
    clear c1 g1 r1 b1
    by_cases hlt : k < 20
    · have hk3 : (k : Int) < 20 := by omega
      have q2 := ix 23 Try.underlying23 g k hlt
      rcases hac : finB (g k) with _ | _
      · have HA := hid hac
        clear hac
        go_wp2_with fail
        refine (isFinite_f (g k) (Hb.out k hlt) HA.out _).mono ?_
        rintro e w3 ⟨rfl, h3⟩
        have c9 := hid (c2.out.stay h3)
        have g9 := hid (g2.out.stay h3)
        have r9 := hid (r2.out.stay h3)
        have b9 := hid (stp b2.out (Nat.le_refl _) h3)
        clear c2 g2 r2 b2 h3
        go_wp2_with ((refine wpList_store_row rfl 26 _ _ rfl (w.heap.size + 1 + 1) (fls (fun _ => 0)) rfl rfl 26 _ r9.out (by rw [fls_size]; exact info_arr) (by simp) (fls_one _) ?_))
        exact bodyPost_ret (results_row_tmp2 rfl _ _ (w.heap.size + 1 + 1) 26 (fls (fun _ => 0)) (0, 0) _ rfl (r9.out.setRow (fun _ => 0)) Try.underlying26 rfl (by rw [fls_size]; exact info_arr)) rfl ⟨rfl, below_row b9.out (by omega) _⟩
      · have HA := hid hac
        clear hac
        go_wp2_with fail
        refine (isFinite_t (g k) (Hb.out k hlt) HA.out _).mono ?_
        rintro e w3 ⟨rfl, rfl⟩
        go_wp2_with fail
        go_roundw
        case rel =>
          refine ⟨k + 1, by omega, by go_num, hid (fun i hi => ?_), c2, g2, r2, b2⟩
          by_cases e : i = k
          · subst e; exact HA.out
          · exact HK.out i (by omega)
        case measure => simp [intOf]; omega
    · exact (Hh.out (fun i hi => HK.out i (by omega))).elim

set_option maxHeartbeats 1000000 in
set_option maxRecDepth 100000 in
theorem iShiftMasses_ok (c g : Nat → Nat) (hc : Amts c) (hg : ∀ i, i < 20 → FW (g i)) (R : Nat → Nat) (z : Nat) (n : Int) (g1 : ShOk c g → R = shN c g 20 ∧ z = fsb (sumF (wat (shN c g 20)) 19) (sumF (wat c) 19) ∧ n = 0) (g2 : ¬ ShOk c g → R = (fun _ => 0) ∧ z = 0 ∧ n = 4) (w : World) :
    Calls Try.prog 47 #[.agg (fls c), .agg (fls g)] w fun e w' => e = .returned (.tuple #[.agg (fls R), .float .f32 z, .int .i64 n]) ∧ Below w.heap.size w w' := by
  have k0 : Hid (Kept w [(w.heap.size, fls c, 26), (w.heap.size + 1, fls g, 23), (w.heap.size + 1 + 1, fls fun _ => 0, 26)] (((w.alloc (.cells (fls c) 26)).alloc (.cells (fls g) 23)).alloc (.cells (fls fun _ => 0) 26))) := hid (((((Kept.nil w).push _ _).push _ _).push _ _).sub (by simp))
  have c0 : Hid (arrAt _ w.heap.size c 26) := hid (k0.out.at (x := (w.heap.size, fls c, 26)) (by simp))
  have g0 : Hid (arrAt _ (w.heap.size + 1) g 23) := hid (k0.out.at (x := (w.heap.size + 1, fls g, 23)) (by simp))
  have r0 : Hid (arrAt _ (w.heap.size + 1 + 1) (fun _ => 0) 26) := hid (k0.out.at (x := (w.heap.size + 1 + 1, fls fun _ => 0, 26)) (by simp))
  have b0 := hid k0.out.1
  clear k0
  have Hc := hid hc
  have Hg := hid hg
  have G1 := hid g1
  have G2 := hid g2
  clear hc hg g1 g2
  go_enter Try.func47, Try.ntmps47
  go_wp2_with ((refine wpList_load_row rfl 26 _ rfl (w.heap.size) rfl 26 (fls c) (0, 0) _ c0.out Try.underlying26 rfl (by rw [fls_size]; exact info_arr) ?_))
  refine (validSizes_t c Hc.out _).mono ?_
  rintro e w1 ⟨rfl, h1⟩
  have c1 := hid (c0.out.stay h1)
  have g1 := hid (g0.out.stay h1)
  have r1 := hid (r0.out.stay h1)
  have b1 := hid (stp b0.out (Nat.le_refl _) h1)
  clear c0 g0 r0 b0 h1
  go_wp2_with ((refine wpList_load_row rfl 23 _ rfl (w.heap.size + 1) rfl 23 (fls g) (0, 0) _ g1.out Try.underlying23 rfl (by rw [fls_size]; exact info_a20) ?_))
  go_loopw [18] (fun i wr => ∃ k : Nat, k ≤ 20 ∧ i = .int .i64 k ∧ Hid (arrAt wr w.heap.size c 26) ∧ Hid (arrAt wr (w.heap.size + 1) g 23) ∧ Hid (arrAt wr (w.heap.size + 1 + 1) (fun _ => 0) 26) ∧ Hid (Below w.heap.size w wr)) (fun i _ => 20 - (intOf i).toNat)
  case atStart => exact ⟨0, by omega, rfl, c1, g1, r1, b1⟩
  case round =>
    obtain ⟨k, hk, rfl, c2, g2, r2, b2⟩ := hrel
    clear c1 g1 r1 b1
    by_cases hlt : k < 20
    · have hk3 : (k : Int) < 20 := by omega
      have q2 := ix 23 Try.underlying23 g k hlt
      have hf := Hg.out k hlt
      go_wp2_with fail
      refine (isFinite_t (g k) hf.1 hf.fin _).mono ?_
      rintro e w3 ⟨rfl, rfl⟩
      go_wp2_with fail
      go_roundw
      case rel => exact ⟨k + 1, by omega, by go_num, c2, g2, r2, b2⟩
      case measure => simp [intOf]; omega
    · obtain rfl : k = 20 := by omega
      clear hlt hk
      have HN := hid (shN_nn Hc.out Hg.out 20 (Nat.le_refl _))
      have HS := hid (fun R n h1 h2 w => iShiftEach c g Hc.out Hg.out R n h1 h2 w)
      unfold ShOk at G1 G2
      generalize shN c g 20 = d at HN HS G1 G2
      have ha := hid (show nnB (sumF (wat d) 19) = true from sumF_nn 19 fun i hi => (mul_mass (HN.out i (by omega)) (by omega)).2)
      have hbn := hid (show nnB (sumF (wat c) 19) = true from sumF_nn 19 fun i hi => (mul_mass (Hc.out.nn i (by omega)) (by omega)).2)
      have HW2 := hid (fun w => iWaterOf_ok c Hc.out w)
      have HW1 := hid (fun (h : Amts d) w => iWaterOf_ok d h w)
      generalize sumF (wat d) 19 = sa at G1 G2 ha HW1
      generalize sumF (wat c) 19 = sb at G1 G2 hbn HW2
      by_cases hF : Fins d
      · have HA := hid (fins_amts HN.out hF)
        go_wp2_with (first | (refine wpList_load_row rfl 26 _ rfl (w.heap.size) rfl 26 (fls c) (0, 0) _ c2.out Try.underlying26 rfl (by rw [fls_size]; exact info_arr) ?_) | (refine wpList_load_row rfl 23 _ rfl (w.heap.size + 1) rfl 23 (fls g) (0, 0) _ g2.out Try.underlying23 rfl (by rw [fls_size]; exact info_a20) ?_))
        refine (HS.out d 0 (fun _ => ⟨rfl, rfl⟩) (fun h => absurd hF h) _).mono ?_
        clear HS
        rintro e wm ⟨rfl, hm⟩
        have c4 := hid (c2.out.stay hm)
        have g4 := hid (g2.out.stay hm)
        have r4 := hid (r2.out.stay hm)
        have b4 := hid (stp b2.out (Nat.le_refl _) hm)
        clear c2 g2 r2 b2 hm
        have c5 := hid ((c4.out.alloc (.cells (fls fun _ => 0) 26)).setRowOther (k := wm.heap.size) (by have := c4.out.lt; omega) (fls d))
        have g5 := hid ((g4.out.alloc (.cells (fls fun _ => 0) 26)).setRowOther (k := wm.heap.size) (by have := g4.out.lt; omega) (fls d))
        have r5 := hid ((r4.out.alloc (.cells (fls fun _ => 0) 26)).setRowOther (k := wm.heap.size) (by have := r4.out.lt; omega) (fls d))
        have N4 : Hid (arrAt (wm.alloc (.cells (fls fun _ => 0) 26)) wm.heap.size (fun _ => 0) 26) := hid (arrAt.new wm (fun _ => 0) 26)
        have N5 := hid (N4.out.setRow d)
        have b5 := hid (below_row (b4.out.alloc b4.out.size (.cells (fls fun _ => 0) 26)) b4.out.size (g := wm.heap.size) (fls d))
        have tok2 : True := trivial
        rcases hfb : finB sb with _ | _
        · obtain ⟨rfl, rfl, rfl⟩ := G2.out fun h => absurd (h.2.2.symm.trans hfb) Bool.noConfusion
          rw [told_f hfb] at HW2
          clear G1 hfb hF
          go_wp2_with (first | (have _t := tok2; refine wpList_store_row rfl 26 _ _ rfl (wm.heap.size) (fls d) rfl rfl 26 _ N4.out (by rw [fls_size]; exact info_arr) (by simp) (fls_one _) ?_; generalize ((wm.alloc (.cells (fls fun _ => 0) 26)).setRow (wm.heap.size) (fls d)) = wz at c5 g5 r5 N5 b5 ⊢; clear c4 g4 r4 N4 b4 tok2) | (refine wpList_load_row rfl 26 _ rfl (w.heap.size) rfl 26 (fls c) (0, 0) _ c5.out Try.underlying26 rfl (by rw [fls_size]; exact info_arr) ?_))
          refine (HW2.out _).mono ?_
          rintro e wn ⟨rfl, hn⟩
          have N9 := hid (N5.out.stay hn)
          clear N5
          have c9 := hid (c5.out.stay hn)
          have g9 := hid (g5.out.stay hn)
          have r9 := hid (r5.out.stay hn)
          have b9 := hid (stp b5.out (Nat.le_refl _) hn)
          clear c5 g5 r5 b5 hn
          go_wp2_with ((refine wpList_store_row rfl 26 _ _ rfl (w.heap.size + 1 + 1) (fls (fun _ => 0)) rfl rfl 26 _ r9.out (by rw [fls_size]; exact info_arr) (by simp) (fls_one _) ?_))
          exact bodyPost_ret (results_row_tmp2 rfl _ _ (w.heap.size + 1 + 1) 26 (fls (fun _ => 0)) (0, 0) _ rfl (r9.out.setRow (fun _ => 0)) Try.underlying26 rfl (by rw [fls_size]; exact info_arr)) rfl ⟨rfl, below_row b9.out (by omega) _⟩
        · have hzb := hid hfb
          rw [told_t hfb] at HW2
          go_wp2_with (first | (have _t := tok2; refine wpList_store_row rfl 26 _ _ rfl (wm.heap.size) (fls d) rfl rfl 26 _ N4.out (by rw [fls_size]; exact info_arr) (by simp) (fls_one _) ?_; generalize ((wm.alloc (.cells (fls fun _ => 0) 26)).setRow (wm.heap.size) (fls d)) = wz at c5 g5 r5 N5 b5 ⊢; clear c4 g4 r4 N4 b4 tok2) | (refine wpList_load_row rfl 26 _ rfl (w.heap.size) rfl 26 (fls c) (0, 0) _ c5.out Try.underlying26 rfl (by rw [fls_size]; exact info_arr) ?_))
          refine (HW2.out _).mono ?_
          rintro e wn ⟨rfl, hn⟩
          have N6 := hid (N5.out.stay hn)
          clear N5
          have c6 := hid (c5.out.stay hn)
          have g6 := hid (g5.out.stay hn)
          have r6 := hid (r5.out.stay hn)
          have b6 := hid (stp b5.out (Nat.le_refl _) hn)
          clear c5 g5 r5 b5 hn
          rcases hfa : finB sa with _ | _
          · obtain ⟨rfl, rfl, rfl⟩ := G2.out fun h => absurd (h.2.1.symm.trans hfa) Bool.noConfusion
            rw [told_f hfa] at HW1
            clear G1 hfb hF hfa
            go_wp2_with ((refine wpList_load_row rfl 26 _ rfl (wm.heap.size) rfl 26 (fls d) (0, 0) _ N6.out Try.underlying26 rfl (by rw [fls_size]; exact info_arr) ?_))
            refine (HW1.out HA.out _).mono ?_
            rintro e wo ⟨rfl, ho⟩
            have N9 := hid (N6.out.stay ho)
            clear N6
            have c9 := hid (c6.out.stay ho)
            have g9 := hid (g6.out.stay ho)
            have r9 := hid (r6.out.stay ho)
            have b9 := hid (stp b6.out (Nat.le_refl _) ho)
            clear c6 g6 r6 b6 ho
            go_wp2_with ((refine wpList_store_row rfl 26 _ _ rfl (w.heap.size + 1 + 1) (fls (fun _ => 0)) rfl rfl 26 _ r9.out (by rw [fls_size]; exact info_arr) (by simp) (fls_one _) ?_))
            exact bodyPost_ret (results_row_tmp2 rfl _ _ (w.heap.size + 1 + 1) 26 (fls (fun _ => 0)) (0, 0) _ rfl (r9.out.setRow (fun _ => 0)) Try.underlying26 rfl (by rw [fls_size]; exact info_arr)) rfl ⟨rfl, below_row b9.out (by omega) _⟩
          · obtain ⟨hR, hz', hn'⟩ := G1.out ⟨hF, hfa, hfb⟩
            have hR' := hR.symm
            clear hR
            subst hR'
            subst hn'
            rw [told_t hfa] at HW1
            have hfz := sub_fin2 ha.out hbn.out hfa hfb
            rw [← hz'] at hfz
            have hr := fun w => run_float_arith (P := Try.prog) w .sub 22 .f32 _ _ _ hfz.1
            clear hfz hz' hfb hF hfa G2
            go_wp2_with ((refine wpList_load_row rfl 26 _ rfl (wm.heap.size) rfl 26 (fls d) (0, 0) _ N6.out Try.underlying26 rfl (by rw [fls_size]; exact info_arr) ?_))
            refine (HW1.out HA.out _).mono ?_
            rintro e wo ⟨rfl, ho⟩
            have N9 := hid (N6.out.stay ho)
            clear N6
            have c9 := hid (c6.out.stay ho)
            have g9 := hid (g6.out.stay ho)
            have r9 := hid (r6.out.stay ho)
            have b9 := hid (stp b6.out (Nat.le_refl _) ho)
            clear c6 g6 r6 b6 ho
            go_wp2_with (first | (refine wpList_load_row rfl 26 _ rfl (wm.heap.size) rfl 26 (fls d) (0, 0) _ N9.out Try.underlying26 rfl (by rw [fls_size]; exact info_arr) ?_) | (refine wpList_store_row rfl 26 _ _ rfl (w.heap.size + 1 + 1) (fls d) rfl rfl 26 _ r9.out (by rw [fls_size]; exact info_arr) (by simp) (fls_one _) ?_))
            exact bodyPost_ret (results_row_tmp2 rfl _ _ (w.heap.size + 1 + 1) 26 (fls d) (0, 0) _ rfl (r9.out.setRow d) Try.underlying26 rfl (by rw [fls_size]; exact info_arr)) rfl ⟨rfl, below_row b9.out (by omega) _⟩
      · obtain ⟨rfl, rfl, rfl⟩ := G2.out fun h => hF h.1
        go_wp2_with (first | (refine wpList_load_row rfl 26 _ rfl (w.heap.size) rfl 26 (fls c) (0, 0) _ c2.out Try.underlying26 rfl (by rw [fls_size]; exact info_arr) ?_) | (refine wpList_load_row rfl 23 _ rfl (w.heap.size + 1) rfl 23 (fls g) (0, 0) _ g2.out Try.underlying23 rfl (by rw [fls_size]; exact info_a20) ?_))
        refine (HS.out (fun _ => 0) 4 (fun h => absurd h hF) (fun _ => ⟨rfl, rfl⟩) _).mono ?_
        clear HS hF
        rintro e wm ⟨rfl, hm⟩
        have c4 := hid (c2.out.stay hm)
        have g4 := hid (g2.out.stay hm)
        have r4 := hid (r2.out.stay hm)
        have b4 := hid (stp b2.out (Nat.le_refl _) hm)
        clear c2 g2 r2 b2 hm
        have c5 := hid ((c4.out.alloc (.cells (fls fun _ => 0) 26)).setRowOther (k := wm.heap.size) (by have := c4.out.lt; omega) (fls (fun _ => 0)))
        have g5 := hid ((g4.out.alloc (.cells (fls fun _ => 0) 26)).setRowOther (k := wm.heap.size) (by have := g4.out.lt; omega) (fls (fun _ => 0)))
        have r5 := hid ((r4.out.alloc (.cells (fls fun _ => 0) 26)).setRowOther (k := wm.heap.size) (by have := r4.out.lt; omega) (fls (fun _ => 0)))
        have N4 : Hid (arrAt (wm.alloc (.cells (fls fun _ => 0) 26)) wm.heap.size (fun _ => 0) 26) := hid (arrAt.new wm (fun _ => 0) 26)
        have N5 := hid (N4.out.setRow (fun _ => 0))
        have b5 := hid (below_row (b4.out.alloc b4.out.size (.cells (fls fun _ => 0) 26)) b4.out.size (g := wm.heap.size) (fls (fun _ => 0)))
        have tok2 : True := trivial
        go_wp2_with (first | (have _t := tok2; refine wpList_store_row rfl 26 _ _ rfl (wm.heap.size) (fls (fun _ => 0)) rfl rfl 26 _ N4.out (by rw [fls_size]; exact info_arr) (by simp) (fls_one _) ?_; generalize ((wm.alloc (.cells (fls fun _ => 0) 26)).setRow (wm.heap.size) (fls (fun _ => 0))) = wz at c5 g5 r5 N5 b5 ⊢; clear c4 g4 r4 N4 b4 tok2) | (refine wpList_store_row rfl 26 _ _ rfl (w.heap.size + 1 + 1) (fls (fun _ => 0)) rfl rfl 26 _ r5.out (by rw [fls_size]; exact info_arr) (by simp) (fls_one _) ?_))
        exact bodyPost_ret (results_row_tmp2 rfl _ _ (w.heap.size + 1 + 1) 26 (fls (fun _ => 0)) (0, 0) _ rfl (r5.out.setRow (fun _ => 0)) Try.underlying26 rfl (by rw [fls_size]; exact info_arr)) rfl ⟨rfl, below_row b5.out (by omega) _⟩

set_option maxRecDepth 100000 in
theorem toA20 (c : Nat → Nat) (w : World) :
    Calls Try.prog 46 #[.agg (fls c)] w fun e w' => e = .returned (.agg (fls c)) ∧ Below w.heap.size w w' := by
  have b0 : Below w.heap.size w (w.alloc (.cells (fls c) 23)) := (Below.refl _ _).alloc (Nat.le_refl _) _
  have a0 := hid (arrAt.new w c 23)
  go_enter Try.func46, Try.ntmps46
  go_wp2
  go_loopw [4] (fun i wr => ∃ k : Nat, k ≤ 20 ∧ i = .int .i64 k ∧ Hid (arrAt wr w.heap.size c 23) ∧ Hid (arrAt wr (w.heap.size + 1) (fun _ => 0) 23) ∧ Hid (arrAt wr (w.heap.size + 1 + 1) (cut c k) 23) ∧ Hid (Below w.heap.size w wr)) (fun i _ => 20 - (intOf i).toNat)
  case atStart =>
    refine ⟨0, by omega, rfl, hid ((a0.out.alloc _).alloc _), hid ?_, hid ?_, hid ((b0.alloc (by simp) _).alloc (by simp; omega) _)⟩
    · have := arrAt.new (w.alloc (.cells (fls c) 23)) (fun _ => 0) 23
      have e : (w.alloc (.cells (fls c) 23)).heap.size = w.heap.size + 1 := by simp
      rw [e] at this
      exact this.alloc _
    · have := arrAt.new ((w.alloc (.cells (fls c) 23)).alloc (.cells (fls fun _ => 0) 23)) (fun _ => 0) 23
      have e : ((w.alloc (.cells (fls c) 23)).alloc (.cells (fls fun _ => 0) 23)).heap.size = w.heap.size + 1 + 1 := by simp
      rw [e] at this
      exact this.ext (fun i _ => (cut_zero' c i).symm)
  case round =>
    obtain ⟨k, hk, rfl, h0, h1, h2, hb⟩ := hrel
    by_cases hlt : k < 20
    · have q0 := h0.out.cell hlt
      have q2 := h2.out.cell hlt
      have f2 := h2.out.frozen k
      go_wp2
      go_roundw
      case rel => exact ⟨k + 1, by omega, by go_num, hid (h0.out.setOther (by simp; omega) _), hid (h1.out.setOther (by simp) _), hid ((h2.out.set k (c k)).ext (fun i _ => cut_succ c k i)), hid (hb.out.setCell (by simp; omega) _)⟩
      case measure => simp [intOf]; omega
    · obtain rfl : k = 20 := by omega
      have h2' := hid (h2.out.ext (cut_all c))
      clear h2
      go_wp2_with (first | (refine wpList_load_row rfl 23 _ rfl (w.heap.size + 1 + 1) rfl 23 (fls c) (0, 0) _ h2'.out Try.underlying23 rfl (by rw [fls_size]; exact info_a20) ?_) | (refine wpList_store_row rfl 23 _ _ rfl (w.heap.size + 1) (fls c) rfl rfl 23 _ h1.out (by rw [fls_size]; exact info_a20) (by simp) (fls_one c) ?_))
      exact bodyPost_ret (results_cell_row rfl _ _ (w.heap.size + 1) 23 (fls c) (0, 0) _ rfl (h1.out.setRow c) Try.underlying23 rfl (by rw [fls_size]; exact info_a20)) rfl ⟨rfl, below_row hb.out (by omega) _⟩

@[go_sem] theorem zero_kern : Try.zeroCells64 = vls 400 (flw fun _ => 0) := by kernel_rfl

theorem sh_amts {c g : Nat → Nat} (hc : Amts c) (hg : ∀ i, i < 20 → FW (g i)) (h : ShOk c g) : Amts (shN c g 20) := fins_amts (shN_nn hc hg 20 (Nat.le_refl _)) h.1

theorem run_sShiftMasses2 (a : Act) (x0 : Operand) (v0 : Value) (h0 : a.eval x0 = v0) (x1 : Operand) (v1 : Value) (h1 : a.eval x1 = v1) (d : Option Tmp) (ats : Array TypeId) (t : TypeId) (ps : String) (af : Array Edge) (gd : Option (Nat × Bool)) (w : World) :
    (execOp a.eval ⟨d, .call { callee := .value (.func 45), args := #[x0, x1], argTypes := ats }, t, ps, af, gd⟩).run Try.prog w = .ok (.enter 45 #[v0, v1]) w := by
  subst h0 h1
  unfold execOp
  go_simp

theorem run_iShiftMasses2 (a : Act) (x0 : Operand) (v0 : Value) (h0 : a.eval x0 = v0) (x1 : Operand) (v1 : Value) (h1 : a.eval x1 = v1) (d : Option Tmp) (ats : Array TypeId) (t : TypeId) (ps : String) (af : Array Edge) (gd : Option (Nat × Bool)) (w : World) :
    (execOp a.eval ⟨d, .call { callee := .value (.func 47), args := #[x0, x1], argTypes := ats }, t, ps, af, gd⟩).run Try.prog w = .ok (.enter 47 #[v0, v1]) w := by
  subst h0 h1
  unfold execOp
  go_simp

set_option maxRecDepth 100000 in
set_option maxHeartbeats 2000000 in
theorem coreShiftMasses (x0 : Nat → Nat) (x1 : Nat → Nat) (r0 : Nat → Nat) (hl0 : ∀ i, i < 20 → r0 i < 4294967296) (hf0 : ∀ i, i < 20 → finB (r0 i) = true) (r1 : Nat) (hl1 : r1 < 4294967296) (hf1 : finB r1 = true) (r2 : Int)
    (hS : ∀ w, Calls Try.prog 45 #[.agg (fls x0), .agg (fls x1)] w fun e w' => e = .returned (.tuple #[.agg (fls r0), .float .f32 r1, .int .i64 r2]) ∧ Below w.heap.size w w')
    (hI : ∀ w, Calls Try.prog 47 #[.agg (fls x0), .agg (fls x1)] w fun e w' => e = .returned (.tuple #[.agg (fls r0), .float .f32 r1, .int .i64 r2]) ∧ Below w.heap.size w w') (w : World) :
    Calls Try.prog 11 #[.agg (fls x0), .agg (fls x1)] w fun e w' => e = .returned (.bool true) ∧ Below w.heap.size w w' := by
  have k0 : Hid (Kept w [(w.heap.size, fls x0, 23), (w.heap.size + 1, fls x1, 23)] ((w.alloc (.cells (fls x0) 23)).alloc (.cells (fls x1) 23))) := hid ((((Kept.nil w).push (fls x0) 23).push (fls x1) 23).sub (by simp))
  have HS := hid hS
  have HI := hid hI
  clear hS hI
  have Hl0 := hid hl0
  have Hf0 := hid hf0
  clear hl0 hf0
  have hc1 := fun w => run_conv_wid (P := Try.prog) w 22 29 r1 hl1 Try.underlying22 Try.underlying29 (finB_iff.1 hf1)
  have Hl1 := hid hl1
  have Hf1 := hid hf1
  clear hl1 hf1
  go_enter Try.func11, Try.ntmps11
  go_wp2_with fail
  rename_i Q1 K1 hK1
  have key1 : ∀ (a0 : Nat) (w1 : World), Hid (Kept w [(a0, fls r0, 26), (w.heap.size, fls x0, 23), (w.heap.size + 1, fls x1, 23)] w1) → K1 { tmps := (.agg (fls x0) :: .agg (fls x1) :: .pointer (some ⟨w.heap.size, 0, none⟩) :: .pointer (some ⟨w.heap.size + 1, 0, none⟩) :: .bool false :: .pointer (some ⟨a0, 0, none⟩) :: .float .f32 r1 :: .int .i64 r2 :: undef :: undef :: undef :: .tuple #[.agg (fls r0), .float .f32 r1, .int .i64 r2] :: .agg (fls x0) :: .agg (fls x0) :: .agg (fls x1) :: .agg (fls x1) :: .tuple #[.agg (fls r0), .float .f32 r1, .int .i64 r2] :: .agg (fls r0) :: .float .f32 r1 :: .int .i64 r2 :: undef :: undef :: undef :: undef :: undef :: undef :: undef :: undef :: undef :: undef :: undef :: undef :: undef :: undef :: undef :: undef :: undef :: undef :: undef :: undef :: undef :: undef :: undef :: undef :: undef :: undef :: []).toArray, defers := [] } w1 := by
    intro a0 w1 k1
    clear k0
    go_wp2_with fail
    rename_i K2 hK2
    have key2 : ∀ (b0 : Nat) (w2 : World), Hid (Kept w [(b0, fls r0, 26), (a0, fls r0, 26), (w.heap.size, fls x0, 23), (w.heap.size + 1, fls x1, 23)] w2) → K2 { tmps := (.agg (fls x0) :: .agg (fls x1) :: .pointer (some ⟨w.heap.size, 0, none⟩) :: .pointer (some ⟨w.heap.size + 1, 0, none⟩) :: .bool false :: .pointer (some ⟨a0, 0, none⟩) :: .float .f32 r1 :: .int .i64 r2 :: .pointer (some ⟨b0, 0, none⟩) :: .float .f32 r1 :: .int .i64 r2 :: .tuple #[.agg (fls r0), .float .f32 r1, .int .i64 r2] :: .agg (fls x0) :: .agg (fls x0) :: .agg (fls x1) :: .agg (fls x1) :: .tuple #[.agg (fls r0), .float .f32 r1, .int .i64 r2] :: .agg (fls r0) :: .float .f32 r1 :: .int .i64 r2 :: .tuple #[.agg (fls r0), .float .f32 r1, .int .i64 r2] :: .agg (fls x0) :: .agg (fls x0) :: .agg (fls x1) :: .agg (fls x1) :: .tuple #[.agg (fls r0), .float .f32 r1, .int .i64 r2] :: .agg (fls r0) :: .float .f32 r1 :: .int .i64 r2 :: undef :: undef :: undef :: undef :: undef :: undef :: undef :: undef :: undef :: undef :: undef :: undef :: undef :: undef :: undef :: undef :: undef :: []).toArray, defers := [] } w2 := by
      intro b0 w2 k2
      clear k1 HS HI
      go_wp2_with (first | (refine wpList_load_row rfl 26 _ rfl (b0) rfl 26 (fls r0) (0, 0) _ (k2.out.at (x := (b0, fls r0, 26)) (by simp)) Try.underlying26 rfl (by rw [fls_size]; exact info_arr) ?_) | (refine wpList_load_row rfl 26 _ rfl (a0) rfl 26 (fls r0) (0, 0) _ (k2.out.at (x := (a0, fls r0, 26)) (by simp)) Try.underlying26 rfl (by rw [fls_size]; exact info_arr) ?_))
      refine (eqSizes r0 Hl0.out Hf0.out _).mono ?_
      rintro e w3 ⟨rfl, hb3⟩
      have k3 := hid (k2.out.stay hb3)
      go_wp2_with (first | (refine wpList_load_row rfl 26 _ rfl (b0) rfl 26 (fls r0) (0, 0) _ (k3.out.at (x := (b0, fls r0, 26)) (by simp)) Try.underlying26 rfl (by rw [fls_size]; exact info_arr) ?_) | (refine wpList_load_row rfl 26 _ rfl (a0) rfl 26 (fls r0) (0, 0) _ (k3.out.at (x := (a0, fls r0, 26)) (by simp)) Try.underlying26 rfl (by rw [fls_size]; exact info_arr) ?_))
      refine (sameFloat r1 Hl1.out Hf1.out _).mono ?_
      rintro e w4 ⟨rfl, rfl⟩
      go_wp2
      all_goals go_ret
      all_goals exact ⟨rfl, k3.out.1⟩
    refine region_kept (w0 := w) (l := [(a0, fls r0, 26), (w.heap.size, fls x0, 23), (w.heap.size + 1, fls x1, 23)]) 13 #[false, false, false, false, false, false, false, false, false, false, false, false, false] (by kernel_rfl) rfl rfl ?_
    have kd := k1.out.drew
    clear k1
    generalize w1.drew = wd at kd ⊢
    refine take_load 0 { tmps := (.agg (fls x0) :: .agg (fls x1) :: .pointer (some ⟨w.heap.size, 0, none⟩) :: .pointer (some ⟨w.heap.size + 1, 0, none⟩) :: .bool false :: .pointer (some ⟨a0, 0, none⟩) :: .float .f32 r1 :: .int .i64 r2 :: undef :: undef :: undef :: .tuple #[.agg (fls r0), .float .f32 r1, .int .i64 r2] :: .agg (fls x0) :: .agg (fls x0) :: .agg (fls x1) :: .agg (fls x1) :: .tuple #[.agg (fls r0), .float .f32 r1, .int .i64 r2] :: .agg (fls r0) :: .float .f32 r1 :: .int .i64 r2 :: undef :: .agg (fls x0) :: undef :: undef :: undef :: undef :: undef :: undef :: undef :: undef :: undef :: undef :: undef :: undef :: undef :: undef :: undef :: undef :: undef :: undef :: undef :: undef :: undef :: undef :: undef :: undef :: []).toArray, defers := [] } #[true, false, false, false, false, false, false, false, false, false, false, false, false] rfl (by rfl) (by kernel_rfl) (by kernel_rfl) (by kernel_rfl) 23 _ rfl (w.heap.size) (fls x0) 23 (by rfl) (by simp) _ Try.underlying23 rfl (by rw [fls_size]; exact info_a20) (by rfl) (by rfl) (kd) ?_
    refine take_load 2 { tmps := (.agg (fls x0) :: .agg (fls x1) :: .pointer (some ⟨w.heap.size, 0, none⟩) :: .pointer (some ⟨w.heap.size + 1, 0, none⟩) :: .bool false :: .pointer (some ⟨a0, 0, none⟩) :: .float .f32 r1 :: .int .i64 r2 :: undef :: undef :: undef :: .tuple #[.agg (fls r0), .float .f32 r1, .int .i64 r2] :: .agg (fls x0) :: .agg (fls x0) :: .agg (fls x1) :: .agg (fls x1) :: .tuple #[.agg (fls r0), .float .f32 r1, .int .i64 r2] :: .agg (fls r0) :: .float .f32 r1 :: .int .i64 r2 :: undef :: .agg (fls x0) :: undef :: .agg (fls x1) :: undef :: undef :: undef :: undef :: undef :: undef :: undef :: undef :: undef :: undef :: undef :: undef :: undef :: undef :: undef :: undef :: undef :: undef :: undef :: undef :: undef :: undef :: []).toArray, defers := [] } #[true, false, true, false, false, false, false, false, false, false, false, false, false] rfl (by rfl) (by kernel_rfl) (by kernel_rfl) (by kernel_rfl) 23 _ rfl (w.heap.size + 1) (fls x1) 23 (by rfl) (by simp) _ Try.underlying23 rfl (by rw [fls_size]; exact info_a20) (by rfl) (by rfl) (kd) ?_
    refine wpAnyH_ready (rs := [1, 9]) (by kernel_rfl) (by simp) ?_
    refine callK 1 { tmps := (.agg (fls x0) :: .agg (fls x1) :: .pointer (some ⟨w.heap.size, 0, none⟩) :: .pointer (some ⟨w.heap.size + 1, 0, none⟩) :: .bool false :: .pointer (some ⟨a0, 0, none⟩) :: .float .f32 r1 :: .int .i64 r2 :: undef :: undef :: undef :: .tuple #[.agg (fls r0), .float .f32 r1, .int .i64 r2] :: .agg (fls x0) :: .agg (fls x0) :: .agg (fls x1) :: .agg (fls x1) :: .tuple #[.agg (fls r0), .float .f32 r1, .int .i64 r2] :: .agg (fls r0) :: .float .f32 r1 :: .int .i64 r2 :: undef :: .agg (fls x0) :: .agg (fls x0) :: .agg (fls x1) :: undef :: undef :: undef :: undef :: undef :: undef :: undef :: undef :: undef :: undef :: undef :: undef :: undef :: undef :: undef :: undef :: undef :: undef :: undef :: undef :: undef :: undef :: []).toArray, defers := [] } #[true, true, true, false, false, false, false, false, false, false, false, false, false] (.agg (fls x0)) kd rfl (by rfl) 15 #[.agg (fls x0)] (run_toSizes1 _ _ _ rfl _ _ _ _ _ _) (by rfl) (by rfl) (toSizes _ _) (fun w1 k1 => ?_) ?_
    · refine ⟨k1, ?_⟩
      refine wpAnyH_ready (rs := [3, 9]) (by kernel_rfl) (by simp) ?_
      refine callK 3 { tmps := (.agg (fls x0) :: .agg (fls x1) :: .pointer (some ⟨w.heap.size, 0, none⟩) :: .pointer (some ⟨w.heap.size + 1, 0, none⟩) :: .bool false :: .pointer (some ⟨a0, 0, none⟩) :: .float .f32 r1 :: .int .i64 r2 :: undef :: undef :: undef :: .tuple #[.agg (fls r0), .float .f32 r1, .int .i64 r2] :: .agg (fls x0) :: .agg (fls x0) :: .agg (fls x1) :: .agg (fls x1) :: .tuple #[.agg (fls r0), .float .f32 r1, .int .i64 r2] :: .agg (fls r0) :: .float .f32 r1 :: .int .i64 r2 :: undef :: .agg (fls x0) :: .agg (fls x0) :: .agg (fls x1) :: .agg (fls x1) :: undef :: undef :: undef :: undef :: undef :: undef :: undef :: undef :: undef :: undef :: undef :: undef :: undef :: undef :: undef :: undef :: undef :: undef :: undef :: undef :: undef :: []).toArray, defers := [] } #[true, true, true, true, false, false, false, false, false, false, false, false, false] (.agg (fls x1)) k1 rfl (by rfl) 46 #[.agg (fls x1)] (run_toA201 _ _ _ rfl _ _ _ _ _ _) (by rfl) (by rfl) (toA20 _ _) (fun w2 k2 => ?_) ?_
      · refine ⟨k2, ?_⟩
        refine wpAnyH_ready (rs := [4, 9]) (by kernel_rfl) (by simp) ?_
        refine callK 4 { tmps := (.agg (fls x0) :: .agg (fls x1) :: .pointer (some ⟨w.heap.size, 0, none⟩) :: .pointer (some ⟨w.heap.size + 1, 0, none⟩) :: .bool false :: .pointer (some ⟨a0, 0, none⟩) :: .float .f32 r1 :: .int .i64 r2 :: undef :: undef :: undef :: .tuple #[.agg (fls r0), .float .f32 r1, .int .i64 r2] :: .agg (fls x0) :: .agg (fls x0) :: .agg (fls x1) :: .agg (fls x1) :: .tuple #[.agg (fls r0), .float .f32 r1, .int .i64 r2] :: .agg (fls r0) :: .float .f32 r1 :: .int .i64 r2 :: undef :: .agg (fls x0) :: .agg (fls x0) :: .agg (fls x1) :: .agg (fls x1) :: .tuple #[.agg (fls r0), .float .f32 r1, .int .i64 r2] :: undef :: undef :: undef :: undef :: undef :: undef :: undef :: undef :: undef :: undef :: undef :: undef :: undef :: undef :: undef :: undef :: undef :: undef :: undef :: undef :: []).toArray, defers := [] } #[true, true, true, true, true, false, false, false, false, false, false, false, false] (.tuple #[.agg (fls r0), .float .f32 r1, .int .i64 r2]) k2 rfl (by rfl) 47 #[.agg (fls x0), .agg (fls x1)] (run_iShiftMasses2 _ _ _ rfl _ _ rfl _ _ _ _ _ _) (by rfl) (by rfl) (HI.out _) (fun w3 k3 => ?_) ?_
        · refine ⟨k3, ?_⟩
          refine take_val 5 { tmps := (.agg (fls x0) :: .agg (fls x1) :: .pointer (some ⟨w.heap.size, 0, none⟩) :: .pointer (some ⟨w.heap.size + 1, 0, none⟩) :: .bool false :: .pointer (some ⟨a0, 0, none⟩) :: .float .f32 r1 :: .int .i64 r2 :: undef :: undef :: undef :: .tuple #[.agg (fls r0), .float .f32 r1, .int .i64 r2] :: .agg (fls x0) :: .agg (fls x0) :: .agg (fls x1) :: .agg (fls x1) :: .tuple #[.agg (fls r0), .float .f32 r1, .int .i64 r2] :: .agg (fls r0) :: .float .f32 r1 :: .int .i64 r2 :: .tuple #[.agg (fls r0), .float .f32 r1, .int .i64 r2] :: .agg (fls x0) :: .agg (fls x0) :: .agg (fls x1) :: .agg (fls x1) :: .tuple #[.agg (fls r0), .float .f32 r1, .int .i64 r2] :: undef :: undef :: undef :: undef :: undef :: undef :: undef :: undef :: undef :: undef :: undef :: undef :: undef :: undef :: undef :: undef :: undef :: undef :: undef :: undef :: []).toArray, defers := [] } #[true, true, true, true, true, true, false, false, false, false, false, false, false] (.tuple #[.agg (fls r0), .float .f32 r1, .int .i64 r2]) rfl (by rfl) (by kernel_rfl) (by kernel_rfl) (by kernel_rfl) (fun w => by rfl) (by rfl) (by rfl) (k3) ?_
          refine take_val 6 { tmps := (.agg (fls x0) :: .agg (fls x1) :: .pointer (some ⟨w.heap.size, 0, none⟩) :: .pointer (some ⟨w.heap.size + 1, 0, none⟩) :: .bool false :: .pointer (some ⟨a0, 0, none⟩) :: .float .f32 r1 :: .int .i64 r2 :: undef :: undef :: undef :: .tuple #[.agg (fls r0), .float .f32 r1, .int .i64 r2] :: .agg (fls x0) :: .agg (fls x0) :: .agg (fls x1) :: .agg (fls x1) :: .tuple #[.agg (fls r0), .float .f32 r1, .int .i64 r2] :: .agg (fls r0) :: .float .f32 r1 :: .int .i64 r2 :: .tuple #[.agg (fls r0), .float .f32 r1, .int .i64 r2] :: .agg (fls x0) :: .agg (fls x0) :: .agg (fls x1) :: .agg (fls x1) :: .tuple #[.agg (fls r0), .float .f32 r1, .int .i64 r2] :: .agg (fls r0) :: undef :: undef :: undef :: undef :: undef :: undef :: undef :: undef :: undef :: undef :: undef :: undef :: undef :: undef :: undef :: undef :: undef :: undef :: undef :: []).toArray, defers := [] } #[true, true, true, true, true, true, true, false, false, false, false, false, false] (.agg (fls r0)) rfl (by rfl) (by kernel_rfl) (by kernel_rfl) (by kernel_rfl) (fun w => by rfl) (by rfl) (by rfl) (k3) ?_
          refine take_val 7 { tmps := (.agg (fls x0) :: .agg (fls x1) :: .pointer (some ⟨w.heap.size, 0, none⟩) :: .pointer (some ⟨w.heap.size + 1, 0, none⟩) :: .bool false :: .pointer (some ⟨a0, 0, none⟩) :: .float .f32 r1 :: .int .i64 r2 :: undef :: undef :: undef :: .tuple #[.agg (fls r0), .float .f32 r1, .int .i64 r2] :: .agg (fls x0) :: .agg (fls x0) :: .agg (fls x1) :: .agg (fls x1) :: .tuple #[.agg (fls r0), .float .f32 r1, .int .i64 r2] :: .agg (fls r0) :: .float .f32 r1 :: .int .i64 r2 :: .tuple #[.agg (fls r0), .float .f32 r1, .int .i64 r2] :: .agg (fls x0) :: .agg (fls x0) :: .agg (fls x1) :: .agg (fls x1) :: .tuple #[.agg (fls r0), .float .f32 r1, .int .i64 r2] :: .agg (fls r0) :: .float .f32 r1 :: undef :: undef :: undef :: undef :: undef :: undef :: undef :: undef :: undef :: undef :: undef :: undef :: undef :: undef :: undef :: undef :: undef :: undef :: []).toArray, defers := [] } #[true, true, true, true, true, true, true, true, false, false, false, false, false] (.float .f32 r1) rfl (by rfl) (by kernel_rfl) (by kernel_rfl) (by kernel_rfl) (fun w => by rfl) (by rfl) (by rfl) (k3) ?_
          refine take_val 8 { tmps := (.agg (fls x0) :: .agg (fls x1) :: .pointer (some ⟨w.heap.size, 0, none⟩) :: .pointer (some ⟨w.heap.size + 1, 0, none⟩) :: .bool false :: .pointer (some ⟨a0, 0, none⟩) :: .float .f32 r1 :: .int .i64 r2 :: undef :: undef :: undef :: .tuple #[.agg (fls r0), .float .f32 r1, .int .i64 r2] :: .agg (fls x0) :: .agg (fls x0) :: .agg (fls x1) :: .agg (fls x1) :: .tuple #[.agg (fls r0), .float .f32 r1, .int .i64 r2] :: .agg (fls r0) :: .float .f32 r1 :: .int .i64 r2 :: .tuple #[.agg (fls r0), .float .f32 r1, .int .i64 r2] :: .agg (fls x0) :: .agg (fls x0) :: .agg (fls x1) :: .agg (fls x1) :: .tuple #[.agg (fls r0), .float .f32 r1, .int .i64 r2] :: .agg (fls r0) :: .float .f32 r1 :: .int .i64 r2 :: undef :: undef :: undef :: undef :: undef :: undef :: undef :: undef :: undef :: undef :: undef :: undef :: undef :: undef :: undef :: undef :: undef :: []).toArray, defers := [] } #[true, true, true, true, true, true, true, true, true, false, false, false, false] (.int .i64 r2) rfl (by rfl) (by kernel_rfl) (by kernel_rfl) (by kernel_rfl) (fun w => by rfl) (by rfl) (by rfl) (k3) ?_
          refine wpAnyH_ready (rs := [9]) (by kernel_rfl) (by simp) ?_
          refine allocK 9 (fun g4 => { tmps := (.agg (fls x0) :: .agg (fls x1) :: .pointer (some ⟨w.heap.size, 0, none⟩) :: .pointer (some ⟨w.heap.size + 1, 0, none⟩) :: .bool false :: .pointer (some ⟨a0, 0, none⟩) :: .float .f32 r1 :: .int .i64 r2 :: .pointer (some ⟨g4, 0, none⟩) :: undef :: undef :: .tuple #[.agg (fls r0), .float .f32 r1, .int .i64 r2] :: .agg (fls x0) :: .agg (fls x0) :: .agg (fls x1) :: .agg (fls x1) :: .tuple #[.agg (fls r0), .float .f32 r1, .int .i64 r2] :: .agg (fls r0) :: .float .f32 r1 :: .int .i64 r2 :: .tuple #[.agg (fls r0), .float .f32 r1, .int .i64 r2] :: .agg (fls x0) :: .agg (fls x0) :: .agg (fls x1) :: .agg (fls x1) :: .tuple #[.agg (fls r0), .float .f32 r1, .int .i64 r2] :: .agg (fls r0) :: .float .f32 r1 :: .int .i64 r2 :: undef :: undef :: undef :: undef :: undef :: undef :: undef :: undef :: undef :: undef :: undef :: undef :: undef :: undef :: undef :: undef :: undef :: []).toArray, defers := [] }) #[true, true, true, true, true, true, true, true, true, true, false, false, false] k3 rfl (by rfl) (fls fun _ => 0) 26 (alloc_sizes _ _ _ _ _ _ _) (fun g => by rfl) (by rfl) (fun w4 g4 k4 hB4 hn4 => ?_) AllReadyH.nil
          refine ⟨k4.tail, ?_⟩
          refine wpAnyH_ready (rs := [10]) (by kernel_rfl) (by simp) ?_
          refine storeK 10 { tmps := (.agg (fls x0) :: .agg (fls x1) :: .pointer (some ⟨w.heap.size, 0, none⟩) :: .pointer (some ⟨w.heap.size + 1, 0, none⟩) :: .bool false :: .pointer (some ⟨a0, 0, none⟩) :: .float .f32 r1 :: .int .i64 r2 :: .pointer (some ⟨g4, 0, none⟩) :: undef :: undef :: .tuple #[.agg (fls r0), .float .f32 r1, .int .i64 r2] :: .agg (fls x0) :: .agg (fls x0) :: .agg (fls x1) :: .agg (fls x1) :: .tuple #[.agg (fls r0), .float .f32 r1, .int .i64 r2] :: .agg (fls r0) :: .float .f32 r1 :: .int .i64 r2 :: .tuple #[.agg (fls r0), .float .f32 r1, .int .i64 r2] :: .agg (fls x0) :: .agg (fls x0) :: .agg (fls x1) :: .agg (fls x1) :: .tuple #[.agg (fls r0), .float .f32 r1, .int .i64 r2] :: .agg (fls r0) :: .float .f32 r1 :: .int .i64 r2 :: undef :: undef :: undef :: undef :: undef :: undef :: undef :: undef :: undef :: undef :: undef :: undef :: undef :: undef :: undef :: undef :: undef :: []).toArray, defers := [] } #[true, true, true, true, true, true, true, true, true, true, true, false, false] k4 hB4 hn4 rfl (by rfl) 26 _ _ rfl (fls r0) (by rfl) (by rfl) (by rw [fls_size]; exact info_arr) (by simp) (fls_one _) (by rfl) (by rfl) (fun w5 k5 => ?_) AllReadyH.nil
          refine ⟨k5.tail, ?_⟩
          refine take_val 11 { tmps := (.agg (fls x0) :: .agg (fls x1) :: .pointer (some ⟨w.heap.size, 0, none⟩) :: .pointer (some ⟨w.heap.size + 1, 0, none⟩) :: .bool false :: .pointer (some ⟨a0, 0, none⟩) :: .float .f32 r1 :: .int .i64 r2 :: .pointer (some ⟨g4, 0, none⟩) :: .float .f32 r1 :: undef :: .tuple #[.agg (fls r0), .float .f32 r1, .int .i64 r2] :: .agg (fls x0) :: .agg (fls x0) :: .agg (fls x1) :: .agg (fls x1) :: .tuple #[.agg (fls r0), .float .f32 r1, .int .i64 r2] :: .agg (fls r0) :: .float .f32 r1 :: .int .i64 r2 :: .tuple #[.agg (fls r0), .float .f32 r1, .int .i64 r2] :: .agg (fls x0) :: .agg (fls x0) :: .agg (fls x1) :: .agg (fls x1) :: .tuple #[.agg (fls r0), .float .f32 r1, .int .i64 r2] :: .agg (fls r0) :: .float .f32 r1 :: .int .i64 r2 :: undef :: undef :: undef :: undef :: undef :: undef :: undef :: undef :: undef :: undef :: undef :: undef :: undef :: undef :: undef :: undef :: undef :: []).toArray, defers := [] } #[true, true, true, true, true, true, true, true, true, true, true, true, false] (.float .f32 r1) rfl (by rfl) (by kernel_rfl) (by kernel_rfl) (by kernel_rfl) (fun w => by rfl) (by rfl) (by rfl) (k5.tail) ?_
          refine take_val 12 { tmps := (.agg (fls x0) :: .agg (fls x1) :: .pointer (some ⟨w.heap.size, 0, none⟩) :: .pointer (some ⟨w.heap.size + 1, 0, none⟩) :: .bool false :: .pointer (some ⟨a0, 0, none⟩) :: .float .f32 r1 :: .int .i64 r2 :: .pointer (some ⟨g4, 0, none⟩) :: .float .f32 r1 :: .int .i64 r2 :: .tuple #[.agg (fls r0), .float .f32 r1, .int .i64 r2] :: .agg (fls x0) :: .agg (fls x0) :: .agg (fls x1) :: .agg (fls x1) :: .tuple #[.agg (fls r0), .float .f32 r1, .int .i64 r2] :: .agg (fls r0) :: .float .f32 r1 :: .int .i64 r2 :: .tuple #[.agg (fls r0), .float .f32 r1, .int .i64 r2] :: .agg (fls x0) :: .agg (fls x0) :: .agg (fls x1) :: .agg (fls x1) :: .tuple #[.agg (fls r0), .float .f32 r1, .int .i64 r2] :: .agg (fls r0) :: .float .f32 r1 :: .int .i64 r2 :: undef :: undef :: undef :: undef :: undef :: undef :: undef :: undef :: undef :: undef :: undef :: undef :: undef :: undef :: undef :: undef :: undef :: []).toArray, defers := [] } #[true, true, true, true, true, true, true, true, true, true, true, true, true] (.int .i64 r2) rfl (by rfl) (by kernel_rfl) (by kernel_rfl) (by kernel_rfl) (fun w => by rfl) (by rfl) (by rfl) (k5.tail) ?_
          exact wpAnyH_done (by kernel_rfl) (NoPanic.normal (key2 g4 _ (hid k5))) _
        refine allocK 9 (fun g6 => { tmps := (.agg (fls x0) :: .agg (fls x1) :: .pointer (some ⟨w.heap.size, 0, none⟩) :: .pointer (some ⟨w.heap.size + 1, 0, none⟩) :: .bool false :: .pointer (some ⟨a0, 0, none⟩) :: .float .f32 r1 :: .int .i64 r2 :: .pointer (some ⟨g6, 0, none⟩) :: undef :: undef :: .tuple #[.agg (fls r0), .float .f32 r1, .int .i64 r2] :: .agg (fls x0) :: .agg (fls x0) :: .agg (fls x1) :: .agg (fls x1) :: .tuple #[.agg (fls r0), .float .f32 r1, .int .i64 r2] :: .agg (fls r0) :: .float .f32 r1 :: .int .i64 r2 :: undef :: .agg (fls x0) :: .agg (fls x0) :: .agg (fls x1) :: .agg (fls x1) :: undef :: undef :: undef :: undef :: undef :: undef :: undef :: undef :: undef :: undef :: undef :: undef :: undef :: undef :: undef :: undef :: undef :: undef :: undef :: undef :: undef :: []).toArray, defers := [] }) #[true, true, true, true, false, false, false, false, false, true, false, false, false] k2 rfl (by rfl) (fls fun _ => 0) 26 (alloc_sizes _ _ _ _ _ _ _) (fun g => by rfl) (by rfl) (fun w6 g6 k6 hB6 hn6 => ?_) AllReadyH.nil
        refine ⟨k6.tail, ?_⟩
        refine wpAnyH_ready (rs := [4]) (by kernel_rfl) (by simp) ?_
        refine callK 4 { tmps := (.agg (fls x0) :: .agg (fls x1) :: .pointer (some ⟨w.heap.size, 0, none⟩) :: .pointer (some ⟨w.heap.size + 1, 0, none⟩) :: .bool false :: .pointer (some ⟨a0, 0, none⟩) :: .float .f32 r1 :: .int .i64 r2 :: .pointer (some ⟨g6, 0, none⟩) :: undef :: undef :: .tuple #[.agg (fls r0), .float .f32 r1, .int .i64 r2] :: .agg (fls x0) :: .agg (fls x0) :: .agg (fls x1) :: .agg (fls x1) :: .tuple #[.agg (fls r0), .float .f32 r1, .int .i64 r2] :: .agg (fls r0) :: .float .f32 r1 :: .int .i64 r2 :: undef :: .agg (fls x0) :: .agg (fls x0) :: .agg (fls x1) :: .agg (fls x1) :: .tuple #[.agg (fls r0), .float .f32 r1, .int .i64 r2] :: undef :: undef :: undef :: undef :: undef :: undef :: undef :: undef :: undef :: undef :: undef :: undef :: undef :: undef :: undef :: undef :: undef :: undef :: undef :: undef :: []).toArray, defers := [] } #[true, true, true, true, true, false, false, false, false, true, false, false, false] (.tuple #[.agg (fls r0), .float .f32 r1, .int .i64 r2]) k6 rfl (by rfl) 47 #[.agg (fls x0), .agg (fls x1)] (run_iShiftMasses2 _ _ _ rfl _ _ rfl _ _ _ _ _ _) (by rfl) (by rfl) (HI.out _) (fun w7 k7 => ?_) AllReadyH.nil
        refine ⟨k7.tail, ?_⟩
        refine take_val 5 { tmps := (.agg (fls x0) :: .agg (fls x1) :: .pointer (some ⟨w.heap.size, 0, none⟩) :: .pointer (some ⟨w.heap.size + 1, 0, none⟩) :: .bool false :: .pointer (some ⟨a0, 0, none⟩) :: .float .f32 r1 :: .int .i64 r2 :: .pointer (some ⟨g6, 0, none⟩) :: undef :: undef :: .tuple #[.agg (fls r0), .float .f32 r1, .int .i64 r2] :: .agg (fls x0) :: .agg (fls x0) :: .agg (fls x1) :: .agg (fls x1) :: .tuple #[.agg (fls r0), .float .f32 r1, .int .i64 r2] :: .agg (fls r0) :: .float .f32 r1 :: .int .i64 r2 :: .tuple #[.agg (fls r0), .float .f32 r1, .int .i64 r2] :: .agg (fls x0) :: .agg (fls x0) :: .agg (fls x1) :: .agg (fls x1) :: .tuple #[.agg (fls r0), .float .f32 r1, .int .i64 r2] :: undef :: undef :: undef :: undef :: undef :: undef :: undef :: undef :: undef :: undef :: undef :: undef :: undef :: undef :: undef :: undef :: undef :: undef :: undef :: undef :: []).toArray, defers := [] } #[true, true, true, true, true, true, false, false, false, true, false, false, false] (.tuple #[.agg (fls r0), .float .f32 r1, .int .i64 r2]) rfl (by rfl) (by kernel_rfl) (by kernel_rfl) (by kernel_rfl) (fun w => by rfl) (by rfl) (by rfl) (k7.tail) ?_
        refine take_val 6 { tmps := (.agg (fls x0) :: .agg (fls x1) :: .pointer (some ⟨w.heap.size, 0, none⟩) :: .pointer (some ⟨w.heap.size + 1, 0, none⟩) :: .bool false :: .pointer (some ⟨a0, 0, none⟩) :: .float .f32 r1 :: .int .i64 r2 :: .pointer (some ⟨g6, 0, none⟩) :: undef :: undef :: .tuple #[.agg (fls r0), .float .f32 r1, .int .i64 r2] :: .agg (fls x0) :: .agg (fls x0) :: .agg (fls x1) :: .agg (fls x1) :: .tuple #[.agg (fls r0), .float .f32 r1, .int .i64 r2] :: .agg (fls r0) :: .float .f32 r1 :: .int .i64 r2 :: .tuple #[.agg (fls r0), .float .f32 r1, .int .i64 r2] :: .agg (fls x0) :: .agg (fls x0) :: .agg (fls x1) :: .agg (fls x1) :: .tuple #[.agg (fls r0), .float .f32 r1, .int .i64 r2] :: .agg (fls r0) :: undef :: undef :: undef :: undef :: undef :: undef :: undef :: undef :: undef :: undef :: undef :: undef :: undef :: undef :: undef :: undef :: undef :: undef :: undef :: []).toArray, defers := [] } #[true, true, true, true, true, true, true, false, false, true, false, false, false] (.agg (fls r0)) rfl (by rfl) (by kernel_rfl) (by kernel_rfl) (by kernel_rfl) (fun w => by rfl) (by rfl) (by rfl) (k7.tail) ?_
        refine take_val 7 { tmps := (.agg (fls x0) :: .agg (fls x1) :: .pointer (some ⟨w.heap.size, 0, none⟩) :: .pointer (some ⟨w.heap.size + 1, 0, none⟩) :: .bool false :: .pointer (some ⟨a0, 0, none⟩) :: .float .f32 r1 :: .int .i64 r2 :: .pointer (some ⟨g6, 0, none⟩) :: undef :: undef :: .tuple #[.agg (fls r0), .float .f32 r1, .int .i64 r2] :: .agg (fls x0) :: .agg (fls x0) :: .agg (fls x1) :: .agg (fls x1) :: .tuple #[.agg (fls r0), .float .f32 r1, .int .i64 r2] :: .agg (fls r0) :: .float .f32 r1 :: .int .i64 r2 :: .tuple #[.agg (fls r0), .float .f32 r1, .int .i64 r2] :: .agg (fls x0) :: .agg (fls x0) :: .agg (fls x1) :: .agg (fls x1) :: .tuple #[.agg (fls r0), .float .f32 r1, .int .i64 r2] :: .agg (fls r0) :: .float .f32 r1 :: undef :: undef :: undef :: undef :: undef :: undef :: undef :: undef :: undef :: undef :: undef :: undef :: undef :: undef :: undef :: undef :: undef :: undef :: []).toArray, defers := [] } #[true, true, true, true, true, true, true, true, false, true, false, false, false] (.float .f32 r1) rfl (by rfl) (by kernel_rfl) (by kernel_rfl) (by kernel_rfl) (fun w => by rfl) (by rfl) (by rfl) (k7.tail) ?_
        refine take_val 8 { tmps := (.agg (fls x0) :: .agg (fls x1) :: .pointer (some ⟨w.heap.size, 0, none⟩) :: .pointer (some ⟨w.heap.size + 1, 0, none⟩) :: .bool false :: .pointer (some ⟨a0, 0, none⟩) :: .float .f32 r1 :: .int .i64 r2 :: .pointer (some ⟨g6, 0, none⟩) :: undef :: undef :: .tuple #[.agg (fls r0), .float .f32 r1, .int .i64 r2] :: .agg (fls x0) :: .agg (fls x0) :: .agg (fls x1) :: .agg (fls x1) :: .tuple #[.agg (fls r0), .float .f32 r1, .int .i64 r2] :: .agg (fls r0) :: .float .f32 r1 :: .int .i64 r2 :: .tuple #[.agg (fls r0), .float .f32 r1, .int .i64 r2] :: .agg (fls x0) :: .agg (fls x0) :: .agg (fls x1) :: .agg (fls x1) :: .tuple #[.agg (fls r0), .float .f32 r1, .int .i64 r2] :: .agg (fls r0) :: .float .f32 r1 :: .int .i64 r2 :: undef :: undef :: undef :: undef :: undef :: undef :: undef :: undef :: undef :: undef :: undef :: undef :: undef :: undef :: undef :: undef :: undef :: []).toArray, defers := [] } #[true, true, true, true, true, true, true, true, true, true, false, false, false] (.int .i64 r2) rfl (by rfl) (by kernel_rfl) (by kernel_rfl) (by kernel_rfl) (fun w => by rfl) (by rfl) (by rfl) (k7.tail) ?_
        refine wpAnyH_ready (rs := [10]) (by kernel_rfl) (by simp) ?_
        refine storeK 10 { tmps := (.agg (fls x0) :: .agg (fls x1) :: .pointer (some ⟨w.heap.size, 0, none⟩) :: .pointer (some ⟨w.heap.size + 1, 0, none⟩) :: .bool false :: .pointer (some ⟨a0, 0, none⟩) :: .float .f32 r1 :: .int .i64 r2 :: .pointer (some ⟨g6, 0, none⟩) :: undef :: undef :: .tuple #[.agg (fls r0), .float .f32 r1, .int .i64 r2] :: .agg (fls x0) :: .agg (fls x0) :: .agg (fls x1) :: .agg (fls x1) :: .tuple #[.agg (fls r0), .float .f32 r1, .int .i64 r2] :: .agg (fls r0) :: .float .f32 r1 :: .int .i64 r2 :: .tuple #[.agg (fls r0), .float .f32 r1, .int .i64 r2] :: .agg (fls x0) :: .agg (fls x0) :: .agg (fls x1) :: .agg (fls x1) :: .tuple #[.agg (fls r0), .float .f32 r1, .int .i64 r2] :: .agg (fls r0) :: .float .f32 r1 :: .int .i64 r2 :: undef :: undef :: undef :: undef :: undef :: undef :: undef :: undef :: undef :: undef :: undef :: undef :: undef :: undef :: undef :: undef :: undef :: []).toArray, defers := [] } #[true, true, true, true, true, true, true, true, true, true, true, false, false] k7 hB6 hn6 rfl (by rfl) 26 _ _ rfl (fls r0) (by rfl) (by rfl) (by rw [fls_size]; exact info_arr) (by simp) (fls_one _) (by rfl) (by rfl) (fun w8 k8 => ?_) AllReadyH.nil
        refine ⟨k8.tail, ?_⟩
        refine take_val 11 { tmps := (.agg (fls x0) :: .agg (fls x1) :: .pointer (some ⟨w.heap.size, 0, none⟩) :: .pointer (some ⟨w.heap.size + 1, 0, none⟩) :: .bool false :: .pointer (some ⟨a0, 0, none⟩) :: .float .f32 r1 :: .int .i64 r2 :: .pointer (some ⟨g6, 0, none⟩) :: .float .f32 r1 :: undef :: .tuple #[.agg (fls r0), .float .f32 r1, .int .i64 r2] :: .agg (fls x0) :: .agg (fls x0) :: .agg (fls x1) :: .agg (fls x1) :: .tuple #[.agg (fls r0), .float .f32 r1, .int .i64 r2] :: .agg (fls r0) :: .float .f32 r1 :: .int .i64 r2 :: .tuple #[.agg (fls r0), .float .f32 r1, .int .i64 r2] :: .agg (fls x0) :: .agg (fls x0) :: .agg (fls x1) :: .agg (fls x1) :: .tuple #[.agg (fls r0), .float .f32 r1, .int .i64 r2] :: .agg (fls r0) :: .float .f32 r1 :: .int .i64 r2 :: undef :: undef :: undef :: undef :: undef :: undef :: undef :: undef :: undef :: undef :: undef :: undef :: undef :: undef :: undef :: undef :: undef :: []).toArray, defers := [] } #[true, true, true, true, true, true, true, true, true, true, true, true, false] (.float .f32 r1) rfl (by rfl) (by kernel_rfl) (by kernel_rfl) (by kernel_rfl) (fun w => by rfl) (by rfl) (by rfl) (k8.tail) ?_
        refine take_val 12 { tmps := (.agg (fls x0) :: .agg (fls x1) :: .pointer (some ⟨w.heap.size, 0, none⟩) :: .pointer (some ⟨w.heap.size + 1, 0, none⟩) :: .bool false :: .pointer (some ⟨a0, 0, none⟩) :: .float .f32 r1 :: .int .i64 r2 :: .pointer (some ⟨g6, 0, none⟩) :: .float .f32 r1 :: .int .i64 r2 :: .tuple #[.agg (fls r0), .float .f32 r1, .int .i64 r2] :: .agg (fls x0) :: .agg (fls x0) :: .agg (fls x1) :: .agg (fls x1) :: .tuple #[.agg (fls r0), .float .f32 r1, .int .i64 r2] :: .agg (fls r0) :: .float .f32 r1 :: .int .i64 r2 :: .tuple #[.agg (fls r0), .float .f32 r1, .int .i64 r2] :: .agg (fls x0) :: .agg (fls x0) :: .agg (fls x1) :: .agg (fls x1) :: .tuple #[.agg (fls r0), .float .f32 r1, .int .i64 r2] :: .agg (fls r0) :: .float .f32 r1 :: .int .i64 r2 :: undef :: undef :: undef :: undef :: undef :: undef :: undef :: undef :: undef :: undef :: undef :: undef :: undef :: undef :: undef :: undef :: undef :: []).toArray, defers := [] } #[true, true, true, true, true, true, true, true, true, true, true, true, true] (.int .i64 r2) rfl (by rfl) (by kernel_rfl) (by kernel_rfl) (by kernel_rfl) (fun w => by rfl) (by rfl) (by rfl) (k8.tail) ?_
        exact wpAnyH_done (by kernel_rfl) (NoPanic.normal (key2 g6 _ (hid k8))) _
      refine allocK 9 (fun g9 => { tmps := (.agg (fls x0) :: .agg (fls x1) :: .pointer (some ⟨w.heap.size, 0, none⟩) :: .pointer (some ⟨w.heap.size + 1, 0, none⟩) :: .bool false :: .pointer (some ⟨a0, 0, none⟩) :: .float .f32 r1 :: .int .i64 r2 :: .pointer (some ⟨g9, 0, none⟩) :: undef :: undef :: .tuple #[.agg (fls r0), .float .f32 r1, .int .i64 r2] :: .agg (fls x0) :: .agg (fls x0) :: .agg (fls x1) :: .agg (fls x1) :: .tuple #[.agg (fls r0), .float .f32 r1, .int .i64 r2] :: .agg (fls r0) :: .float .f32 r1 :: .int .i64 r2 :: undef :: .agg (fls x0) :: .agg (fls x0) :: .agg (fls x1) :: undef :: undef :: undef :: undef :: undef :: undef :: undef :: undef :: undef :: undef :: undef :: undef :: undef :: undef :: undef :: undef :: undef :: undef :: undef :: undef :: undef :: undef :: []).toArray, defers := [] }) #[true, true, true, false, false, false, false, false, false, true, false, false, false] k1 rfl (by rfl) (fls fun _ => 0) 26 (alloc_sizes _ _ _ _ _ _ _) (fun g => by rfl) (by rfl) (fun w9 g9 k9 hB9 hn9 => ?_) AllReadyH.nil
      refine ⟨k9.tail, ?_⟩
      refine wpAnyH_ready (rs := [3]) (by kernel_rfl) (by simp) ?_
      refine callK 3 { tmps := (.agg (fls x0) :: .agg (fls x1) :: .pointer (some ⟨w.heap.size, 0, none⟩) :: .pointer (some ⟨w.heap.size + 1, 0, none⟩) :: .bool false :: .pointer (some ⟨a0, 0, none⟩) :: .float .f32 r1 :: .int .i64 r2 :: .pointer (some ⟨g9, 0, none⟩) :: undef :: undef :: .tuple #[.agg (fls r0), .float .f32 r1, .int .i64 r2] :: .agg (fls x0) :: .agg (fls x0) :: .agg (fls x1) :: .agg (fls x1) :: .tuple #[.agg (fls r0), .float .f32 r1, .int .i64 r2] :: .agg (fls r0) :: .float .f32 r1 :: .int .i64 r2 :: undef :: .agg (fls x0) :: .agg (fls x0) :: .agg (fls x1) :: .agg (fls x1) :: undef :: undef :: undef :: undef :: undef :: undef :: undef :: undef :: undef :: undef :: undef :: undef :: undef :: undef :: undef :: undef :: undef :: undef :: undef :: undef :: undef :: []).toArray, defers := [] } #[true, true, true, true, false, false, false, false, false, true, false, false, false] (.agg (fls x1)) k9 rfl (by rfl) 46 #[.agg (fls x1)] (run_toA201 _ _ _ rfl _ _ _ _ _ _) (by rfl) (by rfl) (toA20 _ _) (fun w10 k10 => ?_) AllReadyH.nil
      refine ⟨k10.tail, ?_⟩
      refine wpAnyH_ready (rs := [4]) (by kernel_rfl) (by simp) ?_
      refine callK 4 { tmps := (.agg (fls x0) :: .agg (fls x1) :: .pointer (some ⟨w.heap.size, 0, none⟩) :: .pointer (some ⟨w.heap.size + 1, 0, none⟩) :: .bool false :: .pointer (some ⟨a0, 0, none⟩) :: .float .f32 r1 :: .int .i64 r2 :: .pointer (some ⟨g9, 0, none⟩) :: undef :: undef :: .tuple #[.agg (fls r0), .float .f32 r1, .int .i64 r2] :: .agg (fls x0) :: .agg (fls x0) :: .agg (fls x1) :: .agg (fls x1) :: .tuple #[.agg (fls r0), .float .f32 r1, .int .i64 r2] :: .agg (fls r0) :: .float .f32 r1 :: .int .i64 r2 :: undef :: .agg (fls x0) :: .agg (fls x0) :: .agg (fls x1) :: .agg (fls x1) :: .tuple #[.agg (fls r0), .float .f32 r1, .int .i64 r2] :: undef :: undef :: undef :: undef :: undef :: undef :: undef :: undef :: undef :: undef :: undef :: undef :: undef :: undef :: undef :: undef :: undef :: undef :: undef :: undef :: []).toArray, defers := [] } #[true, true, true, true, true, false, false, false, false, true, false, false, false] (.tuple #[.agg (fls r0), .float .f32 r1, .int .i64 r2]) k10 rfl (by rfl) 47 #[.agg (fls x0), .agg (fls x1)] (run_iShiftMasses2 _ _ _ rfl _ _ rfl _ _ _ _ _ _) (by rfl) (by rfl) (HI.out _) (fun w11 k11 => ?_) AllReadyH.nil
      refine ⟨k11.tail, ?_⟩
      refine take_val 5 { tmps := (.agg (fls x0) :: .agg (fls x1) :: .pointer (some ⟨w.heap.size, 0, none⟩) :: .pointer (some ⟨w.heap.size + 1, 0, none⟩) :: .bool false :: .pointer (some ⟨a0, 0, none⟩) :: .float .f32 r1 :: .int .i64 r2 :: .pointer (some ⟨g9, 0, none⟩) :: undef :: undef :: .tuple #[.agg (fls r0), .float .f32 r1, .int .i64 r2] :: .agg (fls x0) :: .agg (fls x0) :: .agg (fls x1) :: .agg (fls x1) :: .tuple #[.agg (fls r0), .float .f32 r1, .int .i64 r2] :: .agg (fls r0) :: .float .f32 r1 :: .int .i64 r2 :: .tuple #[.agg (fls r0), .float .f32 r1, .int .i64 r2] :: .agg (fls x0) :: .agg (fls x0) :: .agg (fls x1) :: .agg (fls x1) :: .tuple #[.agg (fls r0), .float .f32 r1, .int .i64 r2] :: undef :: undef :: undef :: undef :: undef :: undef :: undef :: undef :: undef :: undef :: undef :: undef :: undef :: undef :: undef :: undef :: undef :: undef :: undef :: undef :: []).toArray, defers := [] } #[true, true, true, true, true, true, false, false, false, true, false, false, false] (.tuple #[.agg (fls r0), .float .f32 r1, .int .i64 r2]) rfl (by rfl) (by kernel_rfl) (by kernel_rfl) (by kernel_rfl) (fun w => by rfl) (by rfl) (by rfl) (k11.tail) ?_
      refine take_val 6 { tmps := (.agg (fls x0) :: .agg (fls x1) :: .pointer (some ⟨w.heap.size, 0, none⟩) :: .pointer (some ⟨w.heap.size + 1, 0, none⟩) :: .bool false :: .pointer (some ⟨a0, 0, none⟩) :: .float .f32 r1 :: .int .i64 r2 :: .pointer (some ⟨g9, 0, none⟩) :: undef :: undef :: .tuple #[.agg (fls r0), .float .f32 r1, .int .i64 r2] :: .agg (fls x0) :: .agg (fls x0) :: .agg (fls x1) :: .agg (fls x1) :: .tuple #[.agg (fls r0), .float .f32 r1, .int .i64 r2] :: .agg (fls r0) :: .float .f32 r1 :: .int .i64 r2 :: .tuple #[.agg (fls r0), .float .f32 r1, .int .i64 r2] :: .agg (fls x0) :: .agg (fls x0) :: .agg (fls x1) :: .agg (fls x1) :: .tuple #[.agg (fls r0), .float .f32 r1, .int .i64 r2] :: .agg (fls r0) :: undef :: undef :: undef :: undef :: undef :: undef :: undef :: undef :: undef :: undef :: undef :: undef :: undef :: undef :: undef :: undef :: undef :: undef :: undef :: []).toArray, defers := [] } #[true, true, true, true, true, true, true, false, false, true, false, false, false] (.agg (fls r0)) rfl (by rfl) (by kernel_rfl) (by kernel_rfl) (by kernel_rfl) (fun w => by rfl) (by rfl) (by rfl) (k11.tail) ?_
      refine take_val 7 { tmps := (.agg (fls x0) :: .agg (fls x1) :: .pointer (some ⟨w.heap.size, 0, none⟩) :: .pointer (some ⟨w.heap.size + 1, 0, none⟩) :: .bool false :: .pointer (some ⟨a0, 0, none⟩) :: .float .f32 r1 :: .int .i64 r2 :: .pointer (some ⟨g9, 0, none⟩) :: undef :: undef :: .tuple #[.agg (fls r0), .float .f32 r1, .int .i64 r2] :: .agg (fls x0) :: .agg (fls x0) :: .agg (fls x1) :: .agg (fls x1) :: .tuple #[.agg (fls r0), .float .f32 r1, .int .i64 r2] :: .agg (fls r0) :: .float .f32 r1 :: .int .i64 r2 :: .tuple #[.agg (fls r0), .float .f32 r1, .int .i64 r2] :: .agg (fls x0) :: .agg (fls x0) :: .agg (fls x1) :: .agg (fls x1) :: .tuple #[.agg (fls r0), .float .f32 r1, .int .i64 r2] :: .agg (fls r0) :: .float .f32 r1 :: undef :: undef :: undef :: undef :: undef :: undef :: undef :: undef :: undef :: undef :: undef :: undef :: undef :: undef :: undef :: undef :: undef :: undef :: []).toArray, defers := [] } #[true, true, true, true, true, true, true, true, false, true, false, false, false] (.float .f32 r1) rfl (by rfl) (by kernel_rfl) (by kernel_rfl) (by kernel_rfl) (fun w => by rfl) (by rfl) (by rfl) (k11.tail) ?_
      refine take_val 8 { tmps := (.agg (fls x0) :: .agg (fls x1) :: .pointer (some ⟨w.heap.size, 0, none⟩) :: .pointer (some ⟨w.heap.size + 1, 0, none⟩) :: .bool false :: .pointer (some ⟨a0, 0, none⟩) :: .float .f32 r1 :: .int .i64 r2 :: .pointer (some ⟨g9, 0, none⟩) :: undef :: undef :: .tuple #[.agg (fls r0), .float .f32 r1, .int .i64 r2] :: .agg (fls x0) :: .agg (fls x0) :: .agg (fls x1) :: .agg (fls x1) :: .tuple #[.agg (fls r0), .float .f32 r1, .int .i64 r2] :: .agg (fls r0) :: .float .f32 r1 :: .int .i64 r2 :: .tuple #[.agg (fls r0), .float .f32 r1, .int .i64 r2] :: .agg (fls x0) :: .agg (fls x0) :: .agg (fls x1) :: .agg (fls x1) :: .tuple #[.agg (fls r0), .float .f32 r1, .int .i64 r2] :: .agg (fls r0) :: .float .f32 r1 :: .int .i64 r2 :: undef :: undef :: undef :: undef :: undef :: undef :: undef :: undef :: undef :: undef :: undef :: undef :: undef :: undef :: undef :: undef :: undef :: []).toArray, defers := [] } #[true, true, true, true, true, true, true, true, true, true, false, false, false] (.int .i64 r2) rfl (by rfl) (by kernel_rfl) (by kernel_rfl) (by kernel_rfl) (fun w => by rfl) (by rfl) (by rfl) (k11.tail) ?_
      refine wpAnyH_ready (rs := [10]) (by kernel_rfl) (by simp) ?_
      refine storeK 10 { tmps := (.agg (fls x0) :: .agg (fls x1) :: .pointer (some ⟨w.heap.size, 0, none⟩) :: .pointer (some ⟨w.heap.size + 1, 0, none⟩) :: .bool false :: .pointer (some ⟨a0, 0, none⟩) :: .float .f32 r1 :: .int .i64 r2 :: .pointer (some ⟨g9, 0, none⟩) :: undef :: undef :: .tuple #[.agg (fls r0), .float .f32 r1, .int .i64 r2] :: .agg (fls x0) :: .agg (fls x0) :: .agg (fls x1) :: .agg (fls x1) :: .tuple #[.agg (fls r0), .float .f32 r1, .int .i64 r2] :: .agg (fls r0) :: .float .f32 r1 :: .int .i64 r2 :: .tuple #[.agg (fls r0), .float .f32 r1, .int .i64 r2] :: .agg (fls x0) :: .agg (fls x0) :: .agg (fls x1) :: .agg (fls x1) :: .tuple #[.agg (fls r0), .float .f32 r1, .int .i64 r2] :: .agg (fls r0) :: .float .f32 r1 :: .int .i64 r2 :: undef :: undef :: undef :: undef :: undef :: undef :: undef :: undef :: undef :: undef :: undef :: undef :: undef :: undef :: undef :: undef :: undef :: []).toArray, defers := [] } #[true, true, true, true, true, true, true, true, true, true, true, false, false] k11 hB9 hn9 rfl (by rfl) 26 _ _ rfl (fls r0) (by rfl) (by rfl) (by rw [fls_size]; exact info_arr) (by simp) (fls_one _) (by rfl) (by rfl) (fun w12 k12 => ?_) AllReadyH.nil
      refine ⟨k12.tail, ?_⟩
      refine take_val 11 { tmps := (.agg (fls x0) :: .agg (fls x1) :: .pointer (some ⟨w.heap.size, 0, none⟩) :: .pointer (some ⟨w.heap.size + 1, 0, none⟩) :: .bool false :: .pointer (some ⟨a0, 0, none⟩) :: .float .f32 r1 :: .int .i64 r2 :: .pointer (some ⟨g9, 0, none⟩) :: .float .f32 r1 :: undef :: .tuple #[.agg (fls r0), .float .f32 r1, .int .i64 r2] :: .agg (fls x0) :: .agg (fls x0) :: .agg (fls x1) :: .agg (fls x1) :: .tuple #[.agg (fls r0), .float .f32 r1, .int .i64 r2] :: .agg (fls r0) :: .float .f32 r1 :: .int .i64 r2 :: .tuple #[.agg (fls r0), .float .f32 r1, .int .i64 r2] :: .agg (fls x0) :: .agg (fls x0) :: .agg (fls x1) :: .agg (fls x1) :: .tuple #[.agg (fls r0), .float .f32 r1, .int .i64 r2] :: .agg (fls r0) :: .float .f32 r1 :: .int .i64 r2 :: undef :: undef :: undef :: undef :: undef :: undef :: undef :: undef :: undef :: undef :: undef :: undef :: undef :: undef :: undef :: undef :: undef :: []).toArray, defers := [] } #[true, true, true, true, true, true, true, true, true, true, true, true, false] (.float .f32 r1) rfl (by rfl) (by kernel_rfl) (by kernel_rfl) (by kernel_rfl) (fun w => by rfl) (by rfl) (by rfl) (k12.tail) ?_
      refine take_val 12 { tmps := (.agg (fls x0) :: .agg (fls x1) :: .pointer (some ⟨w.heap.size, 0, none⟩) :: .pointer (some ⟨w.heap.size + 1, 0, none⟩) :: .bool false :: .pointer (some ⟨a0, 0, none⟩) :: .float .f32 r1 :: .int .i64 r2 :: .pointer (some ⟨g9, 0, none⟩) :: .float .f32 r1 :: .int .i64 r2 :: .tuple #[.agg (fls r0), .float .f32 r1, .int .i64 r2] :: .agg (fls x0) :: .agg (fls x0) :: .agg (fls x1) :: .agg (fls x1) :: .tuple #[.agg (fls r0), .float .f32 r1, .int .i64 r2] :: .agg (fls r0) :: .float .f32 r1 :: .int .i64 r2 :: .tuple #[.agg (fls r0), .float .f32 r1, .int .i64 r2] :: .agg (fls x0) :: .agg (fls x0) :: .agg (fls x1) :: .agg (fls x1) :: .tuple #[.agg (fls r0), .float .f32 r1, .int .i64 r2] :: .agg (fls r0) :: .float .f32 r1 :: .int .i64 r2 :: undef :: undef :: undef :: undef :: undef :: undef :: undef :: undef :: undef :: undef :: undef :: undef :: undef :: undef :: undef :: undef :: undef :: []).toArray, defers := [] } #[true, true, true, true, true, true, true, true, true, true, true, true, true] (.int .i64 r2) rfl (by rfl) (by kernel_rfl) (by kernel_rfl) (by kernel_rfl) (fun w => by rfl) (by rfl) (by rfl) (k12.tail) ?_
      exact wpAnyH_done (by kernel_rfl) (NoPanic.normal (key2 g9 _ (hid k12))) _
    refine allocK 9 (fun g13 => { tmps := (.agg (fls x0) :: .agg (fls x1) :: .pointer (some ⟨w.heap.size, 0, none⟩) :: .pointer (some ⟨w.heap.size + 1, 0, none⟩) :: .bool false :: .pointer (some ⟨a0, 0, none⟩) :: .float .f32 r1 :: .int .i64 r2 :: .pointer (some ⟨g13, 0, none⟩) :: undef :: undef :: .tuple #[.agg (fls r0), .float .f32 r1, .int .i64 r2] :: .agg (fls x0) :: .agg (fls x0) :: .agg (fls x1) :: .agg (fls x1) :: .tuple #[.agg (fls r0), .float .f32 r1, .int .i64 r2] :: .agg (fls r0) :: .float .f32 r1 :: .int .i64 r2 :: undef :: .agg (fls x0) :: undef :: .agg (fls x1) :: undef :: undef :: undef :: undef :: undef :: undef :: undef :: undef :: undef :: undef :: undef :: undef :: undef :: undef :: undef :: undef :: undef :: undef :: undef :: undef :: undef :: undef :: []).toArray, defers := [] }) #[true, false, true, false, false, false, false, false, false, true, false, false, false] kd rfl (by rfl) (fls fun _ => 0) 26 (alloc_sizes _ _ _ _ _ _ _) (fun g => by rfl) (by rfl) (fun w13 g13 k13 hB13 hn13 => ?_) AllReadyH.nil
    refine ⟨k13.tail, ?_⟩
    refine wpAnyH_ready (rs := [1]) (by kernel_rfl) (by simp) ?_
    refine callK 1 { tmps := (.agg (fls x0) :: .agg (fls x1) :: .pointer (some ⟨w.heap.size, 0, none⟩) :: .pointer (some ⟨w.heap.size + 1, 0, none⟩) :: .bool false :: .pointer (some ⟨a0, 0, none⟩) :: .float .f32 r1 :: .int .i64 r2 :: .pointer (some ⟨g13, 0, none⟩) :: undef :: undef :: .tuple #[.agg (fls r0), .float .f32 r1, .int .i64 r2] :: .agg (fls x0) :: .agg (fls x0) :: .agg (fls x1) :: .agg (fls x1) :: .tuple #[.agg (fls r0), .float .f32 r1, .int .i64 r2] :: .agg (fls r0) :: .float .f32 r1 :: .int .i64 r2 :: undef :: .agg (fls x0) :: .agg (fls x0) :: .agg (fls x1) :: undef :: undef :: undef :: undef :: undef :: undef :: undef :: undef :: undef :: undef :: undef :: undef :: undef :: undef :: undef :: undef :: undef :: undef :: undef :: undef :: undef :: undef :: []).toArray, defers := [] } #[true, true, true, false, false, false, false, false, false, true, false, false, false] (.agg (fls x0)) k13 rfl (by rfl) 15 #[.agg (fls x0)] (run_toSizes1 _ _ _ rfl _ _ _ _ _ _) (by rfl) (by rfl) (toSizes _ _) (fun w14 k14 => ?_) AllReadyH.nil
    refine ⟨k14.tail, ?_⟩
    refine wpAnyH_ready (rs := [3]) (by kernel_rfl) (by simp) ?_
    refine callK 3 { tmps := (.agg (fls x0) :: .agg (fls x1) :: .pointer (some ⟨w.heap.size, 0, none⟩) :: .pointer (some ⟨w.heap.size + 1, 0, none⟩) :: .bool false :: .pointer (some ⟨a0, 0, none⟩) :: .float .f32 r1 :: .int .i64 r2 :: .pointer (some ⟨g13, 0, none⟩) :: undef :: undef :: .tuple #[.agg (fls r0), .float .f32 r1, .int .i64 r2] :: .agg (fls x0) :: .agg (fls x0) :: .agg (fls x1) :: .agg (fls x1) :: .tuple #[.agg (fls r0), .float .f32 r1, .int .i64 r2] :: .agg (fls r0) :: .float .f32 r1 :: .int .i64 r2 :: undef :: .agg (fls x0) :: .agg (fls x0) :: .agg (fls x1) :: .agg (fls x1) :: undef :: undef :: undef :: undef :: undef :: undef :: undef :: undef :: undef :: undef :: undef :: undef :: undef :: undef :: undef :: undef :: undef :: undef :: undef :: undef :: undef :: []).toArray, defers := [] } #[true, true, true, true, false, false, false, false, false, true, false, false, false] (.agg (fls x1)) k14 rfl (by rfl) 46 #[.agg (fls x1)] (run_toA201 _ _ _ rfl _ _ _ _ _ _) (by rfl) (by rfl) (toA20 _ _) (fun w15 k15 => ?_) AllReadyH.nil
    refine ⟨k15.tail, ?_⟩
    refine wpAnyH_ready (rs := [4]) (by kernel_rfl) (by simp) ?_
    refine callK 4 { tmps := (.agg (fls x0) :: .agg (fls x1) :: .pointer (some ⟨w.heap.size, 0, none⟩) :: .pointer (some ⟨w.heap.size + 1, 0, none⟩) :: .bool false :: .pointer (some ⟨a0, 0, none⟩) :: .float .f32 r1 :: .int .i64 r2 :: .pointer (some ⟨g13, 0, none⟩) :: undef :: undef :: .tuple #[.agg (fls r0), .float .f32 r1, .int .i64 r2] :: .agg (fls x0) :: .agg (fls x0) :: .agg (fls x1) :: .agg (fls x1) :: .tuple #[.agg (fls r0), .float .f32 r1, .int .i64 r2] :: .agg (fls r0) :: .float .f32 r1 :: .int .i64 r2 :: undef :: .agg (fls x0) :: .agg (fls x0) :: .agg (fls x1) :: .agg (fls x1) :: .tuple #[.agg (fls r0), .float .f32 r1, .int .i64 r2] :: undef :: undef :: undef :: undef :: undef :: undef :: undef :: undef :: undef :: undef :: undef :: undef :: undef :: undef :: undef :: undef :: undef :: undef :: undef :: undef :: []).toArray, defers := [] } #[true, true, true, true, true, false, false, false, false, true, false, false, false] (.tuple #[.agg (fls r0), .float .f32 r1, .int .i64 r2]) k15 rfl (by rfl) 47 #[.agg (fls x0), .agg (fls x1)] (run_iShiftMasses2 _ _ _ rfl _ _ rfl _ _ _ _ _ _) (by rfl) (by rfl) (HI.out _) (fun w16 k16 => ?_) AllReadyH.nil
    refine ⟨k16.tail, ?_⟩
    refine take_val 5 { tmps := (.agg (fls x0) :: .agg (fls x1) :: .pointer (some ⟨w.heap.size, 0, none⟩) :: .pointer (some ⟨w.heap.size + 1, 0, none⟩) :: .bool false :: .pointer (some ⟨a0, 0, none⟩) :: .float .f32 r1 :: .int .i64 r2 :: .pointer (some ⟨g13, 0, none⟩) :: undef :: undef :: .tuple #[.agg (fls r0), .float .f32 r1, .int .i64 r2] :: .agg (fls x0) :: .agg (fls x0) :: .agg (fls x1) :: .agg (fls x1) :: .tuple #[.agg (fls r0), .float .f32 r1, .int .i64 r2] :: .agg (fls r0) :: .float .f32 r1 :: .int .i64 r2 :: .tuple #[.agg (fls r0), .float .f32 r1, .int .i64 r2] :: .agg (fls x0) :: .agg (fls x0) :: .agg (fls x1) :: .agg (fls x1) :: .tuple #[.agg (fls r0), .float .f32 r1, .int .i64 r2] :: undef :: undef :: undef :: undef :: undef :: undef :: undef :: undef :: undef :: undef :: undef :: undef :: undef :: undef :: undef :: undef :: undef :: undef :: undef :: undef :: []).toArray, defers := [] } #[true, true, true, true, true, true, false, false, false, true, false, false, false] (.tuple #[.agg (fls r0), .float .f32 r1, .int .i64 r2]) rfl (by rfl) (by kernel_rfl) (by kernel_rfl) (by kernel_rfl) (fun w => by rfl) (by rfl) (by rfl) (k16.tail) ?_
    refine take_val 6 { tmps := (.agg (fls x0) :: .agg (fls x1) :: .pointer (some ⟨w.heap.size, 0, none⟩) :: .pointer (some ⟨w.heap.size + 1, 0, none⟩) :: .bool false :: .pointer (some ⟨a0, 0, none⟩) :: .float .f32 r1 :: .int .i64 r2 :: .pointer (some ⟨g13, 0, none⟩) :: undef :: undef :: .tuple #[.agg (fls r0), .float .f32 r1, .int .i64 r2] :: .agg (fls x0) :: .agg (fls x0) :: .agg (fls x1) :: .agg (fls x1) :: .tuple #[.agg (fls r0), .float .f32 r1, .int .i64 r2] :: .agg (fls r0) :: .float .f32 r1 :: .int .i64 r2 :: .tuple #[.agg (fls r0), .float .f32 r1, .int .i64 r2] :: .agg (fls x0) :: .agg (fls x0) :: .agg (fls x1) :: .agg (fls x1) :: .tuple #[.agg (fls r0), .float .f32 r1, .int .i64 r2] :: .agg (fls r0) :: undef :: undef :: undef :: undef :: undef :: undef :: undef :: undef :: undef :: undef :: undef :: undef :: undef :: undef :: undef :: undef :: undef :: undef :: undef :: []).toArray, defers := [] } #[true, true, true, true, true, true, true, false, false, true, false, false, false] (.agg (fls r0)) rfl (by rfl) (by kernel_rfl) (by kernel_rfl) (by kernel_rfl) (fun w => by rfl) (by rfl) (by rfl) (k16.tail) ?_
    refine take_val 7 { tmps := (.agg (fls x0) :: .agg (fls x1) :: .pointer (some ⟨w.heap.size, 0, none⟩) :: .pointer (some ⟨w.heap.size + 1, 0, none⟩) :: .bool false :: .pointer (some ⟨a0, 0, none⟩) :: .float .f32 r1 :: .int .i64 r2 :: .pointer (some ⟨g13, 0, none⟩) :: undef :: undef :: .tuple #[.agg (fls r0), .float .f32 r1, .int .i64 r2] :: .agg (fls x0) :: .agg (fls x0) :: .agg (fls x1) :: .agg (fls x1) :: .tuple #[.agg (fls r0), .float .f32 r1, .int .i64 r2] :: .agg (fls r0) :: .float .f32 r1 :: .int .i64 r2 :: .tuple #[.agg (fls r0), .float .f32 r1, .int .i64 r2] :: .agg (fls x0) :: .agg (fls x0) :: .agg (fls x1) :: .agg (fls x1) :: .tuple #[.agg (fls r0), .float .f32 r1, .int .i64 r2] :: .agg (fls r0) :: .float .f32 r1 :: undef :: undef :: undef :: undef :: undef :: undef :: undef :: undef :: undef :: undef :: undef :: undef :: undef :: undef :: undef :: undef :: undef :: undef :: []).toArray, defers := [] } #[true, true, true, true, true, true, true, true, false, true, false, false, false] (.float .f32 r1) rfl (by rfl) (by kernel_rfl) (by kernel_rfl) (by kernel_rfl) (fun w => by rfl) (by rfl) (by rfl) (k16.tail) ?_
    refine take_val 8 { tmps := (.agg (fls x0) :: .agg (fls x1) :: .pointer (some ⟨w.heap.size, 0, none⟩) :: .pointer (some ⟨w.heap.size + 1, 0, none⟩) :: .bool false :: .pointer (some ⟨a0, 0, none⟩) :: .float .f32 r1 :: .int .i64 r2 :: .pointer (some ⟨g13, 0, none⟩) :: undef :: undef :: .tuple #[.agg (fls r0), .float .f32 r1, .int .i64 r2] :: .agg (fls x0) :: .agg (fls x0) :: .agg (fls x1) :: .agg (fls x1) :: .tuple #[.agg (fls r0), .float .f32 r1, .int .i64 r2] :: .agg (fls r0) :: .float .f32 r1 :: .int .i64 r2 :: .tuple #[.agg (fls r0), .float .f32 r1, .int .i64 r2] :: .agg (fls x0) :: .agg (fls x0) :: .agg (fls x1) :: .agg (fls x1) :: .tuple #[.agg (fls r0), .float .f32 r1, .int .i64 r2] :: .agg (fls r0) :: .float .f32 r1 :: .int .i64 r2 :: undef :: undef :: undef :: undef :: undef :: undef :: undef :: undef :: undef :: undef :: undef :: undef :: undef :: undef :: undef :: undef :: undef :: []).toArray, defers := [] } #[true, true, true, true, true, true, true, true, true, true, false, false, false] (.int .i64 r2) rfl (by rfl) (by kernel_rfl) (by kernel_rfl) (by kernel_rfl) (fun w => by rfl) (by rfl) (by rfl) (k16.tail) ?_
    refine wpAnyH_ready (rs := [10]) (by kernel_rfl) (by simp) ?_
    refine storeK 10 { tmps := (.agg (fls x0) :: .agg (fls x1) :: .pointer (some ⟨w.heap.size, 0, none⟩) :: .pointer (some ⟨w.heap.size + 1, 0, none⟩) :: .bool false :: .pointer (some ⟨a0, 0, none⟩) :: .float .f32 r1 :: .int .i64 r2 :: .pointer (some ⟨g13, 0, none⟩) :: undef :: undef :: .tuple #[.agg (fls r0), .float .f32 r1, .int .i64 r2] :: .agg (fls x0) :: .agg (fls x0) :: .agg (fls x1) :: .agg (fls x1) :: .tuple #[.agg (fls r0), .float .f32 r1, .int .i64 r2] :: .agg (fls r0) :: .float .f32 r1 :: .int .i64 r2 :: .tuple #[.agg (fls r0), .float .f32 r1, .int .i64 r2] :: .agg (fls x0) :: .agg (fls x0) :: .agg (fls x1) :: .agg (fls x1) :: .tuple #[.agg (fls r0), .float .f32 r1, .int .i64 r2] :: .agg (fls r0) :: .float .f32 r1 :: .int .i64 r2 :: undef :: undef :: undef :: undef :: undef :: undef :: undef :: undef :: undef :: undef :: undef :: undef :: undef :: undef :: undef :: undef :: undef :: []).toArray, defers := [] } #[true, true, true, true, true, true, true, true, true, true, true, false, false] k16 hB13 hn13 rfl (by rfl) 26 _ _ rfl (fls r0) (by rfl) (by rfl) (by rw [fls_size]; exact info_arr) (by simp) (fls_one _) (by rfl) (by rfl) (fun w17 k17 => ?_) AllReadyH.nil
    refine ⟨k17.tail, ?_⟩
    refine take_val 11 { tmps := (.agg (fls x0) :: .agg (fls x1) :: .pointer (some ⟨w.heap.size, 0, none⟩) :: .pointer (some ⟨w.heap.size + 1, 0, none⟩) :: .bool false :: .pointer (some ⟨a0, 0, none⟩) :: .float .f32 r1 :: .int .i64 r2 :: .pointer (some ⟨g13, 0, none⟩) :: .float .f32 r1 :: undef :: .tuple #[.agg (fls r0), .float .f32 r1, .int .i64 r2] :: .agg (fls x0) :: .agg (fls x0) :: .agg (fls x1) :: .agg (fls x1) :: .tuple #[.agg (fls r0), .float .f32 r1, .int .i64 r2] :: .agg (fls r0) :: .float .f32 r1 :: .int .i64 r2 :: .tuple #[.agg (fls r0), .float .f32 r1, .int .i64 r2] :: .agg (fls x0) :: .agg (fls x0) :: .agg (fls x1) :: .agg (fls x1) :: .tuple #[.agg (fls r0), .float .f32 r1, .int .i64 r2] :: .agg (fls r0) :: .float .f32 r1 :: .int .i64 r2 :: undef :: undef :: undef :: undef :: undef :: undef :: undef :: undef :: undef :: undef :: undef :: undef :: undef :: undef :: undef :: undef :: undef :: []).toArray, defers := [] } #[true, true, true, true, true, true, true, true, true, true, true, true, false] (.float .f32 r1) rfl (by rfl) (by kernel_rfl) (by kernel_rfl) (by kernel_rfl) (fun w => by rfl) (by rfl) (by rfl) (k17.tail) ?_
    refine take_val 12 { tmps := (.agg (fls x0) :: .agg (fls x1) :: .pointer (some ⟨w.heap.size, 0, none⟩) :: .pointer (some ⟨w.heap.size + 1, 0, none⟩) :: .bool false :: .pointer (some ⟨a0, 0, none⟩) :: .float .f32 r1 :: .int .i64 r2 :: .pointer (some ⟨g13, 0, none⟩) :: .float .f32 r1 :: .int .i64 r2 :: .tuple #[.agg (fls r0), .float .f32 r1, .int .i64 r2] :: .agg (fls x0) :: .agg (fls x0) :: .agg (fls x1) :: .agg (fls x1) :: .tuple #[.agg (fls r0), .float .f32 r1, .int .i64 r2] :: .agg (fls r0) :: .float .f32 r1 :: .int .i64 r2 :: .tuple #[.agg (fls r0), .float .f32 r1, .int .i64 r2] :: .agg (fls x0) :: .agg (fls x0) :: .agg (fls x1) :: .agg (fls x1) :: .tuple #[.agg (fls r0), .float .f32 r1, .int .i64 r2] :: .agg (fls r0) :: .float .f32 r1 :: .int .i64 r2 :: undef :: undef :: undef :: undef :: undef :: undef :: undef :: undef :: undef :: undef :: undef :: undef :: undef :: undef :: undef :: undef :: undef :: []).toArray, defers := [] } #[true, true, true, true, true, true, true, true, true, true, true, true, true] (.int .i64 r2) rfl (by rfl) (by kernel_rfl) (by kernel_rfl) (by kernel_rfl) (fun w => by rfl) (by rfl) (by rfl) (k17.tail) ?_
    exact wpAnyH_done (by kernel_rfl) (NoPanic.normal (key2 g13 _ (hid k17))) _
  refine region_kept (w0 := w) (l := [(w.heap.size, fls x0, 23), (w.heap.size + 1, fls x1, 23)]) 13 #[false, false, false, false, false, false, false, false, false, false, false, false, false] (by kernel_rfl) rfl rfl ?_
  have kd := k0.out.drew
  clear k0
  generalize ((w.alloc (.cells (fls x0) 23)).alloc (.cells (fls x1) 23)).drew = wd at kd ⊢
  refine take_load 0 { tmps := (.agg (fls x0) :: .agg (fls x1) :: .pointer (some ⟨w.heap.size, 0, none⟩) :: .pointer (some ⟨w.heap.size + 1, 0, none⟩) :: .bool false :: undef :: undef :: undef :: undef :: undef :: undef :: undef :: .agg (fls x0) :: undef :: undef :: undef :: undef :: undef :: undef :: undef :: undef :: undef :: undef :: undef :: undef :: undef :: undef :: undef :: undef :: undef :: undef :: undef :: undef :: undef :: undef :: undef :: undef :: undef :: undef :: undef :: undef :: undef :: undef :: undef :: undef :: undef :: []).toArray, defers := [] } #[true, false, false, false, false, false, false, false, false, false, false, false, false] rfl (by rfl) (by kernel_rfl) (by kernel_rfl) (by kernel_rfl) 23 _ rfl (w.heap.size) (fls x0) 23 (by rfl) (by simp) _ Try.underlying23 rfl (by rw [fls_size]; exact info_a20) (by rfl) (by rfl) (kd) ?_
  refine take_load 2 { tmps := (.agg (fls x0) :: .agg (fls x1) :: .pointer (some ⟨w.heap.size, 0, none⟩) :: .pointer (some ⟨w.heap.size + 1, 0, none⟩) :: .bool false :: undef :: undef :: undef :: undef :: undef :: undef :: undef :: .agg (fls x0) :: undef :: .agg (fls x1) :: undef :: undef :: undef :: undef :: undef :: undef :: undef :: undef :: undef :: undef :: undef :: undef :: undef :: undef :: undef :: undef :: undef :: undef :: undef :: undef :: undef :: undef :: undef :: undef :: undef :: undef :: undef :: undef :: undef :: undef :: undef :: []).toArray, defers := [] } #[true, false, true, false, false, false, false, false, false, false, false, false, false] rfl (by rfl) (by kernel_rfl) (by kernel_rfl) (by kernel_rfl) 23 _ rfl (w.heap.size + 1) (fls x1) 23 (by rfl) (by simp) _ Try.underlying23 rfl (by rw [fls_size]; exact info_a20) (by rfl) (by rfl) (kd) ?_
  refine wpAnyH_ready (rs := [1, 9]) (by kernel_rfl) (by simp) ?_
  refine callK 1 { tmps := (.agg (fls x0) :: .agg (fls x1) :: .pointer (some ⟨w.heap.size, 0, none⟩) :: .pointer (some ⟨w.heap.size + 1, 0, none⟩) :: .bool false :: undef :: undef :: undef :: undef :: undef :: undef :: undef :: .agg (fls x0) :: .agg (fls x0) :: .agg (fls x1) :: undef :: undef :: undef :: undef :: undef :: undef :: undef :: undef :: undef :: undef :: undef :: undef :: undef :: undef :: undef :: undef :: undef :: undef :: undef :: undef :: undef :: undef :: undef :: undef :: undef :: undef :: undef :: undef :: undef :: undef :: undef :: []).toArray, defers := [] } #[true, true, true, false, false, false, false, false, false, false, false, false, false] (.agg (fls x0)) kd rfl (by rfl) 15 #[.agg (fls x0)] (run_toSizes1 _ _ _ rfl _ _ _ _ _ _) (by rfl) (by rfl) (toSizes _ _) (fun w1 k1 => ?_) ?_
  · refine ⟨k1, ?_⟩
    refine wpAnyH_ready (rs := [3, 9]) (by kernel_rfl) (by simp) ?_
    refine callK 3 { tmps := (.agg (fls x0) :: .agg (fls x1) :: .pointer (some ⟨w.heap.size, 0, none⟩) :: .pointer (some ⟨w.heap.size + 1, 0, none⟩) :: .bool false :: undef :: undef :: undef :: undef :: undef :: undef :: undef :: .agg (fls x0) :: .agg (fls x0) :: .agg (fls x1) :: .agg (fls x1) :: undef :: undef :: undef :: undef :: undef :: undef :: undef :: undef :: undef :: undef :: undef :: undef :: undef :: undef :: undef :: undef :: undef :: undef :: undef :: undef :: undef :: undef :: undef :: undef :: undef :: undef :: undef :: undef :: undef :: undef :: []).toArray, defers := [] } #[true, true, true, true, false, false, false, false, false, false, false, false, false] (.agg (fls x1)) k1 rfl (by rfl) 46 #[.agg (fls x1)] (run_toA201 _ _ _ rfl _ _ _ _ _ _) (by rfl) (by rfl) (toA20 _ _) (fun w2 k2 => ?_) ?_
    · refine ⟨k2, ?_⟩
      refine wpAnyH_ready (rs := [4, 9]) (by kernel_rfl) (by simp) ?_
      refine callK 4 { tmps := (.agg (fls x0) :: .agg (fls x1) :: .pointer (some ⟨w.heap.size, 0, none⟩) :: .pointer (some ⟨w.heap.size + 1, 0, none⟩) :: .bool false :: undef :: undef :: undef :: undef :: undef :: undef :: undef :: .agg (fls x0) :: .agg (fls x0) :: .agg (fls x1) :: .agg (fls x1) :: .tuple #[.agg (fls r0), .float .f32 r1, .int .i64 r2] :: undef :: undef :: undef :: undef :: undef :: undef :: undef :: undef :: undef :: undef :: undef :: undef :: undef :: undef :: undef :: undef :: undef :: undef :: undef :: undef :: undef :: undef :: undef :: undef :: undef :: undef :: undef :: undef :: undef :: []).toArray, defers := [] } #[true, true, true, true, true, false, false, false, false, false, false, false, false] (.tuple #[.agg (fls r0), .float .f32 r1, .int .i64 r2]) k2 rfl (by rfl) 45 #[.agg (fls x0), .agg (fls x1)] (run_sShiftMasses2 _ _ _ rfl _ _ rfl _ _ _ _ _ _) (by rfl) (by rfl) (HS.out _) (fun w3 k3 => ?_) ?_
      · refine ⟨k3, ?_⟩
        refine take_val 5 { tmps := (.agg (fls x0) :: .agg (fls x1) :: .pointer (some ⟨w.heap.size, 0, none⟩) :: .pointer (some ⟨w.heap.size + 1, 0, none⟩) :: .bool false :: undef :: undef :: undef :: undef :: undef :: undef :: .tuple #[.agg (fls r0), .float .f32 r1, .int .i64 r2] :: .agg (fls x0) :: .agg (fls x0) :: .agg (fls x1) :: .agg (fls x1) :: .tuple #[.agg (fls r0), .float .f32 r1, .int .i64 r2] :: undef :: undef :: undef :: undef :: undef :: undef :: undef :: undef :: undef :: undef :: undef :: undef :: undef :: undef :: undef :: undef :: undef :: undef :: undef :: undef :: undef :: undef :: undef :: undef :: undef :: undef :: undef :: undef :: undef :: []).toArray, defers := [] } #[true, true, true, true, true, true, false, false, false, false, false, false, false] (.tuple #[.agg (fls r0), .float .f32 r1, .int .i64 r2]) rfl (by rfl) (by kernel_rfl) (by kernel_rfl) (by kernel_rfl) (fun w => by rfl) (by rfl) (by rfl) (k3) ?_
        refine take_val 6 { tmps := (.agg (fls x0) :: .agg (fls x1) :: .pointer (some ⟨w.heap.size, 0, none⟩) :: .pointer (some ⟨w.heap.size + 1, 0, none⟩) :: .bool false :: undef :: undef :: undef :: undef :: undef :: undef :: .tuple #[.agg (fls r0), .float .f32 r1, .int .i64 r2] :: .agg (fls x0) :: .agg (fls x0) :: .agg (fls x1) :: .agg (fls x1) :: .tuple #[.agg (fls r0), .float .f32 r1, .int .i64 r2] :: .agg (fls r0) :: undef :: undef :: undef :: undef :: undef :: undef :: undef :: undef :: undef :: undef :: undef :: undef :: undef :: undef :: undef :: undef :: undef :: undef :: undef :: undef :: undef :: undef :: undef :: undef :: undef :: undef :: undef :: undef :: []).toArray, defers := [] } #[true, true, true, true, true, true, true, false, false, false, false, false, false] (.agg (fls r0)) rfl (by rfl) (by kernel_rfl) (by kernel_rfl) (by kernel_rfl) (fun w => by rfl) (by rfl) (by rfl) (k3) ?_
        refine take_val 7 { tmps := (.agg (fls x0) :: .agg (fls x1) :: .pointer (some ⟨w.heap.size, 0, none⟩) :: .pointer (some ⟨w.heap.size + 1, 0, none⟩) :: .bool false :: undef :: undef :: undef :: undef :: undef :: undef :: .tuple #[.agg (fls r0), .float .f32 r1, .int .i64 r2] :: .agg (fls x0) :: .agg (fls x0) :: .agg (fls x1) :: .agg (fls x1) :: .tuple #[.agg (fls r0), .float .f32 r1, .int .i64 r2] :: .agg (fls r0) :: .float .f32 r1 :: undef :: undef :: undef :: undef :: undef :: undef :: undef :: undef :: undef :: undef :: undef :: undef :: undef :: undef :: undef :: undef :: undef :: undef :: undef :: undef :: undef :: undef :: undef :: undef :: undef :: undef :: undef :: []).toArray, defers := [] } #[true, true, true, true, true, true, true, true, false, false, false, false, false] (.float .f32 r1) rfl (by rfl) (by kernel_rfl) (by kernel_rfl) (by kernel_rfl) (fun w => by rfl) (by rfl) (by rfl) (k3) ?_
        refine take_val 8 { tmps := (.agg (fls x0) :: .agg (fls x1) :: .pointer (some ⟨w.heap.size, 0, none⟩) :: .pointer (some ⟨w.heap.size + 1, 0, none⟩) :: .bool false :: undef :: undef :: undef :: undef :: undef :: undef :: .tuple #[.agg (fls r0), .float .f32 r1, .int .i64 r2] :: .agg (fls x0) :: .agg (fls x0) :: .agg (fls x1) :: .agg (fls x1) :: .tuple #[.agg (fls r0), .float .f32 r1, .int .i64 r2] :: .agg (fls r0) :: .float .f32 r1 :: .int .i64 r2 :: undef :: undef :: undef :: undef :: undef :: undef :: undef :: undef :: undef :: undef :: undef :: undef :: undef :: undef :: undef :: undef :: undef :: undef :: undef :: undef :: undef :: undef :: undef :: undef :: undef :: undef :: []).toArray, defers := [] } #[true, true, true, true, true, true, true, true, true, false, false, false, false] (.int .i64 r2) rfl (by rfl) (by kernel_rfl) (by kernel_rfl) (by kernel_rfl) (fun w => by rfl) (by rfl) (by rfl) (k3) ?_
        refine wpAnyH_ready (rs := [9]) (by kernel_rfl) (by simp) ?_
        refine allocK 9 (fun g4 => { tmps := (.agg (fls x0) :: .agg (fls x1) :: .pointer (some ⟨w.heap.size, 0, none⟩) :: .pointer (some ⟨w.heap.size + 1, 0, none⟩) :: .bool false :: .pointer (some ⟨g4, 0, none⟩) :: undef :: undef :: undef :: undef :: undef :: .tuple #[.agg (fls r0), .float .f32 r1, .int .i64 r2] :: .agg (fls x0) :: .agg (fls x0) :: .agg (fls x1) :: .agg (fls x1) :: .tuple #[.agg (fls r0), .float .f32 r1, .int .i64 r2] :: .agg (fls r0) :: .float .f32 r1 :: .int .i64 r2 :: undef :: undef :: undef :: undef :: undef :: undef :: undef :: undef :: undef :: undef :: undef :: undef :: undef :: undef :: undef :: undef :: undef :: undef :: undef :: undef :: undef :: undef :: undef :: undef :: undef :: undef :: []).toArray, defers := [] }) #[true, true, true, true, true, true, true, true, true, true, false, false, false] k3 rfl (by rfl) (fls fun _ => 0) 26 (alloc_sizes _ _ _ _ _ _ _) (fun g => by rfl) (by rfl) (fun w4 g4 k4 hB4 hn4 => ?_) AllReadyH.nil
        refine ⟨k4.tail, ?_⟩
        refine wpAnyH_ready (rs := [10]) (by kernel_rfl) (by simp) ?_
        refine storeK 10 { tmps := (.agg (fls x0) :: .agg (fls x1) :: .pointer (some ⟨w.heap.size, 0, none⟩) :: .pointer (some ⟨w.heap.size + 1, 0, none⟩) :: .bool false :: .pointer (some ⟨g4, 0, none⟩) :: undef :: undef :: undef :: undef :: undef :: .tuple #[.agg (fls r0), .float .f32 r1, .int .i64 r2] :: .agg (fls x0) :: .agg (fls x0) :: .agg (fls x1) :: .agg (fls x1) :: .tuple #[.agg (fls r0), .float .f32 r1, .int .i64 r2] :: .agg (fls r0) :: .float .f32 r1 :: .int .i64 r2 :: undef :: undef :: undef :: undef :: undef :: undef :: undef :: undef :: undef :: undef :: undef :: undef :: undef :: undef :: undef :: undef :: undef :: undef :: undef :: undef :: undef :: undef :: undef :: undef :: undef :: undef :: []).toArray, defers := [] } #[true, true, true, true, true, true, true, true, true, true, true, false, false] k4 hB4 hn4 rfl (by rfl) 26 _ _ rfl (fls r0) (by rfl) (by rfl) (by rw [fls_size]; exact info_arr) (by simp) (fls_one _) (by rfl) (by rfl) (fun w5 k5 => ?_) AllReadyH.nil
        refine ⟨k5.tail, ?_⟩
        refine take_val 11 { tmps := (.agg (fls x0) :: .agg (fls x1) :: .pointer (some ⟨w.heap.size, 0, none⟩) :: .pointer (some ⟨w.heap.size + 1, 0, none⟩) :: .bool false :: .pointer (some ⟨g4, 0, none⟩) :: .float .f32 r1 :: undef :: undef :: undef :: undef :: .tuple #[.agg (fls r0), .float .f32 r1, .int .i64 r2] :: .agg (fls x0) :: .agg (fls x0) :: .agg (fls x1) :: .agg (fls x1) :: .tuple #[.agg (fls r0), .float .f32 r1, .int .i64 r2] :: .agg (fls r0) :: .float .f32 r1 :: .int .i64 r2 :: undef :: undef :: undef :: undef :: undef :: undef :: undef :: undef :: undef :: undef :: undef :: undef :: undef :: undef :: undef :: undef :: undef :: undef :: undef :: undef :: undef :: undef :: undef :: undef :: undef :: undef :: []).toArray, defers := [] } #[true, true, true, true, true, true, true, true, true, true, true, true, false] (.float .f32 r1) rfl (by rfl) (by kernel_rfl) (by kernel_rfl) (by kernel_rfl) (fun w => by rfl) (by rfl) (by rfl) (k5.tail) ?_
        refine take_val 12 { tmps := (.agg (fls x0) :: .agg (fls x1) :: .pointer (some ⟨w.heap.size, 0, none⟩) :: .pointer (some ⟨w.heap.size + 1, 0, none⟩) :: .bool false :: .pointer (some ⟨g4, 0, none⟩) :: .float .f32 r1 :: .int .i64 r2 :: undef :: undef :: undef :: .tuple #[.agg (fls r0), .float .f32 r1, .int .i64 r2] :: .agg (fls x0) :: .agg (fls x0) :: .agg (fls x1) :: .agg (fls x1) :: .tuple #[.agg (fls r0), .float .f32 r1, .int .i64 r2] :: .agg (fls r0) :: .float .f32 r1 :: .int .i64 r2 :: undef :: undef :: undef :: undef :: undef :: undef :: undef :: undef :: undef :: undef :: undef :: undef :: undef :: undef :: undef :: undef :: undef :: undef :: undef :: undef :: undef :: undef :: undef :: undef :: undef :: undef :: []).toArray, defers := [] } #[true, true, true, true, true, true, true, true, true, true, true, true, true] (.int .i64 r2) rfl (by rfl) (by kernel_rfl) (by kernel_rfl) (by kernel_rfl) (fun w => by rfl) (by rfl) (by rfl) (k5.tail) ?_
        exact wpAnyH_done (by kernel_rfl) (NoPanic.normal (key1 g4 _ (hid k5))) _
      refine allocK 9 (fun g6 => { tmps := (.agg (fls x0) :: .agg (fls x1) :: .pointer (some ⟨w.heap.size, 0, none⟩) :: .pointer (some ⟨w.heap.size + 1, 0, none⟩) :: .bool false :: .pointer (some ⟨g6, 0, none⟩) :: undef :: undef :: undef :: undef :: undef :: undef :: .agg (fls x0) :: .agg (fls x0) :: .agg (fls x1) :: .agg (fls x1) :: undef :: undef :: undef :: undef :: undef :: undef :: undef :: undef :: undef :: undef :: undef :: undef :: undef :: undef :: undef :: undef :: undef :: undef :: undef :: undef :: undef :: undef :: undef :: undef :: undef :: undef :: undef :: undef :: undef :: undef :: []).toArray, defers := [] }) #[true, true, true, true, false, false, false, false, false, true, false, false, false] k2 rfl (by rfl) (fls fun _ => 0) 26 (alloc_sizes _ _ _ _ _ _ _) (fun g => by rfl) (by rfl) (fun w6 g6 k6 hB6 hn6 => ?_) AllReadyH.nil
      refine ⟨k6.tail, ?_⟩
      refine wpAnyH_ready (rs := [4]) (by kernel_rfl) (by simp) ?_
      refine callK 4 { tmps := (.agg (fls x0) :: .agg (fls x1) :: .pointer (some ⟨w.heap.size, 0, none⟩) :: .pointer (some ⟨w.heap.size + 1, 0, none⟩) :: .bool false :: .pointer (some ⟨g6, 0, none⟩) :: undef :: undef :: undef :: undef :: undef :: undef :: .agg (fls x0) :: .agg (fls x0) :: .agg (fls x1) :: .agg (fls x1) :: .tuple #[.agg (fls r0), .float .f32 r1, .int .i64 r2] :: undef :: undef :: undef :: undef :: undef :: undef :: undef :: undef :: undef :: undef :: undef :: undef :: undef :: undef :: undef :: undef :: undef :: undef :: undef :: undef :: undef :: undef :: undef :: undef :: undef :: undef :: undef :: undef :: undef :: []).toArray, defers := [] } #[true, true, true, true, true, false, false, false, false, true, false, false, false] (.tuple #[.agg (fls r0), .float .f32 r1, .int .i64 r2]) k6 rfl (by rfl) 45 #[.agg (fls x0), .agg (fls x1)] (run_sShiftMasses2 _ _ _ rfl _ _ rfl _ _ _ _ _ _) (by rfl) (by rfl) (HS.out _) (fun w7 k7 => ?_) AllReadyH.nil
      refine ⟨k7.tail, ?_⟩
      refine take_val 5 { tmps := (.agg (fls x0) :: .agg (fls x1) :: .pointer (some ⟨w.heap.size, 0, none⟩) :: .pointer (some ⟨w.heap.size + 1, 0, none⟩) :: .bool false :: .pointer (some ⟨g6, 0, none⟩) :: undef :: undef :: undef :: undef :: undef :: .tuple #[.agg (fls r0), .float .f32 r1, .int .i64 r2] :: .agg (fls x0) :: .agg (fls x0) :: .agg (fls x1) :: .agg (fls x1) :: .tuple #[.agg (fls r0), .float .f32 r1, .int .i64 r2] :: undef :: undef :: undef :: undef :: undef :: undef :: undef :: undef :: undef :: undef :: undef :: undef :: undef :: undef :: undef :: undef :: undef :: undef :: undef :: undef :: undef :: undef :: undef :: undef :: undef :: undef :: undef :: undef :: undef :: []).toArray, defers := [] } #[true, true, true, true, true, true, false, false, false, true, false, false, false] (.tuple #[.agg (fls r0), .float .f32 r1, .int .i64 r2]) rfl (by rfl) (by kernel_rfl) (by kernel_rfl) (by kernel_rfl) (fun w => by rfl) (by rfl) (by rfl) (k7.tail) ?_
      refine take_val 6 { tmps := (.agg (fls x0) :: .agg (fls x1) :: .pointer (some ⟨w.heap.size, 0, none⟩) :: .pointer (some ⟨w.heap.size + 1, 0, none⟩) :: .bool false :: .pointer (some ⟨g6, 0, none⟩) :: undef :: undef :: undef :: undef :: undef :: .tuple #[.agg (fls r0), .float .f32 r1, .int .i64 r2] :: .agg (fls x0) :: .agg (fls x0) :: .agg (fls x1) :: .agg (fls x1) :: .tuple #[.agg (fls r0), .float .f32 r1, .int .i64 r2] :: .agg (fls r0) :: undef :: undef :: undef :: undef :: undef :: undef :: undef :: undef :: undef :: undef :: undef :: undef :: undef :: undef :: undef :: undef :: undef :: undef :: undef :: undef :: undef :: undef :: undef :: undef :: undef :: undef :: undef :: undef :: []).toArray, defers := [] } #[true, true, true, true, true, true, true, false, false, true, false, false, false] (.agg (fls r0)) rfl (by rfl) (by kernel_rfl) (by kernel_rfl) (by kernel_rfl) (fun w => by rfl) (by rfl) (by rfl) (k7.tail) ?_
      refine take_val 7 { tmps := (.agg (fls x0) :: .agg (fls x1) :: .pointer (some ⟨w.heap.size, 0, none⟩) :: .pointer (some ⟨w.heap.size + 1, 0, none⟩) :: .bool false :: .pointer (some ⟨g6, 0, none⟩) :: undef :: undef :: undef :: undef :: undef :: .tuple #[.agg (fls r0), .float .f32 r1, .int .i64 r2] :: .agg (fls x0) :: .agg (fls x0) :: .agg (fls x1) :: .agg (fls x1) :: .tuple #[.agg (fls r0), .float .f32 r1, .int .i64 r2] :: .agg (fls r0) :: .float .f32 r1 :: undef :: undef :: undef :: undef :: undef :: undef :: undef :: undef :: undef :: undef :: undef :: undef :: undef :: undef :: undef :: undef :: undef :: undef :: undef :: undef :: undef :: undef :: undef :: undef :: undef :: undef :: undef :: []).toArray, defers := [] } #[true, true, true, true, true, true, true, true, false, true, false, false, false] (.float .f32 r1) rfl (by rfl) (by kernel_rfl) (by kernel_rfl) (by kernel_rfl) (fun w => by rfl) (by rfl) (by rfl) (k7.tail) ?_
      refine take_val 8 { tmps := (.agg (fls x0) :: .agg (fls x1) :: .pointer (some ⟨w.heap.size, 0, none⟩) :: .pointer (some ⟨w.heap.size + 1, 0, none⟩) :: .bool false :: .pointer (some ⟨g6, 0, none⟩) :: undef :: undef :: undef :: undef :: undef :: .tuple #[.agg (fls r0), .float .f32 r1, .int .i64 r2] :: .agg (fls x0) :: .agg (fls x0) :: .agg (fls x1) :: .agg (fls x1) :: .tuple #[.agg (fls r0), .float .f32 r1, .int .i64 r2] :: .agg (fls r0) :: .float .f32 r1 :: .int .i64 r2 :: undef :: undef :: undef :: undef :: undef :: undef :: undef :: undef :: undef :: undef :: undef :: undef :: undef :: undef :: undef :: undef :: undef :: undef :: undef :: undef :: undef :: undef :: undef :: undef :: undef :: undef :: []).toArray, defers := [] } #[true, true, true, true, true, true, true, true, true, true, false, false, false] (.int .i64 r2) rfl (by rfl) (by kernel_rfl) (by kernel_rfl) (by kernel_rfl) (fun w => by rfl) (by rfl) (by rfl) (k7.tail) ?_
      refine wpAnyH_ready (rs := [10]) (by kernel_rfl) (by simp) ?_
      refine storeK 10 { tmps := (.agg (fls x0) :: .agg (fls x1) :: .pointer (some ⟨w.heap.size, 0, none⟩) :: .pointer (some ⟨w.heap.size + 1, 0, none⟩) :: .bool false :: .pointer (some ⟨g6, 0, none⟩) :: undef :: undef :: undef :: undef :: undef :: .tuple #[.agg (fls r0), .float .f32 r1, .int .i64 r2] :: .agg (fls x0) :: .agg (fls x0) :: .agg (fls x1) :: .agg (fls x1) :: .tuple #[.agg (fls r0), .float .f32 r1, .int .i64 r2] :: .agg (fls r0) :: .float .f32 r1 :: .int .i64 r2 :: undef :: undef :: undef :: undef :: undef :: undef :: undef :: undef :: undef :: undef :: undef :: undef :: undef :: undef :: undef :: undef :: undef :: undef :: undef :: undef :: undef :: undef :: undef :: undef :: undef :: undef :: []).toArray, defers := [] } #[true, true, true, true, true, true, true, true, true, true, true, false, false] k7 hB6 hn6 rfl (by rfl) 26 _ _ rfl (fls r0) (by rfl) (by rfl) (by rw [fls_size]; exact info_arr) (by simp) (fls_one _) (by rfl) (by rfl) (fun w8 k8 => ?_) AllReadyH.nil
      refine ⟨k8.tail, ?_⟩
      refine take_val 11 { tmps := (.agg (fls x0) :: .agg (fls x1) :: .pointer (some ⟨w.heap.size, 0, none⟩) :: .pointer (some ⟨w.heap.size + 1, 0, none⟩) :: .bool false :: .pointer (some ⟨g6, 0, none⟩) :: .float .f32 r1 :: undef :: undef :: undef :: undef :: .tuple #[.agg (fls r0), .float .f32 r1, .int .i64 r2] :: .agg (fls x0) :: .agg (fls x0) :: .agg (fls x1) :: .agg (fls x1) :: .tuple #[.agg (fls r0), .float .f32 r1, .int .i64 r2] :: .agg (fls r0) :: .float .f32 r1 :: .int .i64 r2 :: undef :: undef :: undef :: undef :: undef :: undef :: undef :: undef :: undef :: undef :: undef :: undef :: undef :: undef :: undef :: undef :: undef :: undef :: undef :: undef :: undef :: undef :: undef :: undef :: undef :: undef :: []).toArray, defers := [] } #[true, true, true, true, true, true, true, true, true, true, true, true, false] (.float .f32 r1) rfl (by rfl) (by kernel_rfl) (by kernel_rfl) (by kernel_rfl) (fun w => by rfl) (by rfl) (by rfl) (k8.tail) ?_
      refine take_val 12 { tmps := (.agg (fls x0) :: .agg (fls x1) :: .pointer (some ⟨w.heap.size, 0, none⟩) :: .pointer (some ⟨w.heap.size + 1, 0, none⟩) :: .bool false :: .pointer (some ⟨g6, 0, none⟩) :: .float .f32 r1 :: .int .i64 r2 :: undef :: undef :: undef :: .tuple #[.agg (fls r0), .float .f32 r1, .int .i64 r2] :: .agg (fls x0) :: .agg (fls x0) :: .agg (fls x1) :: .agg (fls x1) :: .tuple #[.agg (fls r0), .float .f32 r1, .int .i64 r2] :: .agg (fls r0) :: .float .f32 r1 :: .int .i64 r2 :: undef :: undef :: undef :: undef :: undef :: undef :: undef :: undef :: undef :: undef :: undef :: undef :: undef :: undef :: undef :: undef :: undef :: undef :: undef :: undef :: undef :: undef :: undef :: undef :: undef :: undef :: []).toArray, defers := [] } #[true, true, true, true, true, true, true, true, true, true, true, true, true] (.int .i64 r2) rfl (by rfl) (by kernel_rfl) (by kernel_rfl) (by kernel_rfl) (fun w => by rfl) (by rfl) (by rfl) (k8.tail) ?_
      exact wpAnyH_done (by kernel_rfl) (NoPanic.normal (key1 g6 _ (hid k8))) _
    refine allocK 9 (fun g9 => { tmps := (.agg (fls x0) :: .agg (fls x1) :: .pointer (some ⟨w.heap.size, 0, none⟩) :: .pointer (some ⟨w.heap.size + 1, 0, none⟩) :: .bool false :: .pointer (some ⟨g9, 0, none⟩) :: undef :: undef :: undef :: undef :: undef :: undef :: .agg (fls x0) :: .agg (fls x0) :: .agg (fls x1) :: undef :: undef :: undef :: undef :: undef :: undef :: undef :: undef :: undef :: undef :: undef :: undef :: undef :: undef :: undef :: undef :: undef :: undef :: undef :: undef :: undef :: undef :: undef :: undef :: undef :: undef :: undef :: undef :: undef :: undef :: undef :: []).toArray, defers := [] }) #[true, true, true, false, false, false, false, false, false, true, false, false, false] k1 rfl (by rfl) (fls fun _ => 0) 26 (alloc_sizes _ _ _ _ _ _ _) (fun g => by rfl) (by rfl) (fun w9 g9 k9 hB9 hn9 => ?_) AllReadyH.nil
    refine ⟨k9.tail, ?_⟩
    refine wpAnyH_ready (rs := [3]) (by kernel_rfl) (by simp) ?_
    refine callK 3 { tmps := (.agg (fls x0) :: .agg (fls x1) :: .pointer (some ⟨w.heap.size, 0, none⟩) :: .pointer (some ⟨w.heap.size + 1, 0, none⟩) :: .bool false :: .pointer (some ⟨g9, 0, none⟩) :: undef :: undef :: undef :: undef :: undef :: undef :: .agg (fls x0) :: .agg (fls x0) :: .agg (fls x1) :: .agg (fls x1) :: undef :: undef :: undef :: undef :: undef :: undef :: undef :: undef :: undef :: undef :: undef :: undef :: undef :: undef :: undef :: undef :: undef :: undef :: undef :: undef :: undef :: undef :: undef :: undef :: undef :: undef :: undef :: undef :: undef :: undef :: []).toArray, defers := [] } #[true, true, true, true, false, false, false, false, false, true, false, false, false] (.agg (fls x1)) k9 rfl (by rfl) 46 #[.agg (fls x1)] (run_toA201 _ _ _ rfl _ _ _ _ _ _) (by rfl) (by rfl) (toA20 _ _) (fun w10 k10 => ?_) AllReadyH.nil
    refine ⟨k10.tail, ?_⟩
    refine wpAnyH_ready (rs := [4]) (by kernel_rfl) (by simp) ?_
    refine callK 4 { tmps := (.agg (fls x0) :: .agg (fls x1) :: .pointer (some ⟨w.heap.size, 0, none⟩) :: .pointer (some ⟨w.heap.size + 1, 0, none⟩) :: .bool false :: .pointer (some ⟨g9, 0, none⟩) :: undef :: undef :: undef :: undef :: undef :: undef :: .agg (fls x0) :: .agg (fls x0) :: .agg (fls x1) :: .agg (fls x1) :: .tuple #[.agg (fls r0), .float .f32 r1, .int .i64 r2] :: undef :: undef :: undef :: undef :: undef :: undef :: undef :: undef :: undef :: undef :: undef :: undef :: undef :: undef :: undef :: undef :: undef :: undef :: undef :: undef :: undef :: undef :: undef :: undef :: undef :: undef :: undef :: undef :: undef :: []).toArray, defers := [] } #[true, true, true, true, true, false, false, false, false, true, false, false, false] (.tuple #[.agg (fls r0), .float .f32 r1, .int .i64 r2]) k10 rfl (by rfl) 45 #[.agg (fls x0), .agg (fls x1)] (run_sShiftMasses2 _ _ _ rfl _ _ rfl _ _ _ _ _ _) (by rfl) (by rfl) (HS.out _) (fun w11 k11 => ?_) AllReadyH.nil
    refine ⟨k11.tail, ?_⟩
    refine take_val 5 { tmps := (.agg (fls x0) :: .agg (fls x1) :: .pointer (some ⟨w.heap.size, 0, none⟩) :: .pointer (some ⟨w.heap.size + 1, 0, none⟩) :: .bool false :: .pointer (some ⟨g9, 0, none⟩) :: undef :: undef :: undef :: undef :: undef :: .tuple #[.agg (fls r0), .float .f32 r1, .int .i64 r2] :: .agg (fls x0) :: .agg (fls x0) :: .agg (fls x1) :: .agg (fls x1) :: .tuple #[.agg (fls r0), .float .f32 r1, .int .i64 r2] :: undef :: undef :: undef :: undef :: undef :: undef :: undef :: undef :: undef :: undef :: undef :: undef :: undef :: undef :: undef :: undef :: undef :: undef :: undef :: undef :: undef :: undef :: undef :: undef :: undef :: undef :: undef :: undef :: undef :: []).toArray, defers := [] } #[true, true, true, true, true, true, false, false, false, true, false, false, false] (.tuple #[.agg (fls r0), .float .f32 r1, .int .i64 r2]) rfl (by rfl) (by kernel_rfl) (by kernel_rfl) (by kernel_rfl) (fun w => by rfl) (by rfl) (by rfl) (k11.tail) ?_
    refine take_val 6 { tmps := (.agg (fls x0) :: .agg (fls x1) :: .pointer (some ⟨w.heap.size, 0, none⟩) :: .pointer (some ⟨w.heap.size + 1, 0, none⟩) :: .bool false :: .pointer (some ⟨g9, 0, none⟩) :: undef :: undef :: undef :: undef :: undef :: .tuple #[.agg (fls r0), .float .f32 r1, .int .i64 r2] :: .agg (fls x0) :: .agg (fls x0) :: .agg (fls x1) :: .agg (fls x1) :: .tuple #[.agg (fls r0), .float .f32 r1, .int .i64 r2] :: .agg (fls r0) :: undef :: undef :: undef :: undef :: undef :: undef :: undef :: undef :: undef :: undef :: undef :: undef :: undef :: undef :: undef :: undef :: undef :: undef :: undef :: undef :: undef :: undef :: undef :: undef :: undef :: undef :: undef :: undef :: []).toArray, defers := [] } #[true, true, true, true, true, true, true, false, false, true, false, false, false] (.agg (fls r0)) rfl (by rfl) (by kernel_rfl) (by kernel_rfl) (by kernel_rfl) (fun w => by rfl) (by rfl) (by rfl) (k11.tail) ?_
    refine take_val 7 { tmps := (.agg (fls x0) :: .agg (fls x1) :: .pointer (some ⟨w.heap.size, 0, none⟩) :: .pointer (some ⟨w.heap.size + 1, 0, none⟩) :: .bool false :: .pointer (some ⟨g9, 0, none⟩) :: undef :: undef :: undef :: undef :: undef :: .tuple #[.agg (fls r0), .float .f32 r1, .int .i64 r2] :: .agg (fls x0) :: .agg (fls x0) :: .agg (fls x1) :: .agg (fls x1) :: .tuple #[.agg (fls r0), .float .f32 r1, .int .i64 r2] :: .agg (fls r0) :: .float .f32 r1 :: undef :: undef :: undef :: undef :: undef :: undef :: undef :: undef :: undef :: undef :: undef :: undef :: undef :: undef :: undef :: undef :: undef :: undef :: undef :: undef :: undef :: undef :: undef :: undef :: undef :: undef :: undef :: []).toArray, defers := [] } #[true, true, true, true, true, true, true, true, false, true, false, false, false] (.float .f32 r1) rfl (by rfl) (by kernel_rfl) (by kernel_rfl) (by kernel_rfl) (fun w => by rfl) (by rfl) (by rfl) (k11.tail) ?_
    refine take_val 8 { tmps := (.agg (fls x0) :: .agg (fls x1) :: .pointer (some ⟨w.heap.size, 0, none⟩) :: .pointer (some ⟨w.heap.size + 1, 0, none⟩) :: .bool false :: .pointer (some ⟨g9, 0, none⟩) :: undef :: undef :: undef :: undef :: undef :: .tuple #[.agg (fls r0), .float .f32 r1, .int .i64 r2] :: .agg (fls x0) :: .agg (fls x0) :: .agg (fls x1) :: .agg (fls x1) :: .tuple #[.agg (fls r0), .float .f32 r1, .int .i64 r2] :: .agg (fls r0) :: .float .f32 r1 :: .int .i64 r2 :: undef :: undef :: undef :: undef :: undef :: undef :: undef :: undef :: undef :: undef :: undef :: undef :: undef :: undef :: undef :: undef :: undef :: undef :: undef :: undef :: undef :: undef :: undef :: undef :: undef :: undef :: []).toArray, defers := [] } #[true, true, true, true, true, true, true, true, true, true, false, false, false] (.int .i64 r2) rfl (by rfl) (by kernel_rfl) (by kernel_rfl) (by kernel_rfl) (fun w => by rfl) (by rfl) (by rfl) (k11.tail) ?_
    refine wpAnyH_ready (rs := [10]) (by kernel_rfl) (by simp) ?_
    refine storeK 10 { tmps := (.agg (fls x0) :: .agg (fls x1) :: .pointer (some ⟨w.heap.size, 0, none⟩) :: .pointer (some ⟨w.heap.size + 1, 0, none⟩) :: .bool false :: .pointer (some ⟨g9, 0, none⟩) :: undef :: undef :: undef :: undef :: undef :: .tuple #[.agg (fls r0), .float .f32 r1, .int .i64 r2] :: .agg (fls x0) :: .agg (fls x0) :: .agg (fls x1) :: .agg (fls x1) :: .tuple #[.agg (fls r0), .float .f32 r1, .int .i64 r2] :: .agg (fls r0) :: .float .f32 r1 :: .int .i64 r2 :: undef :: undef :: undef :: undef :: undef :: undef :: undef :: undef :: undef :: undef :: undef :: undef :: undef :: undef :: undef :: undef :: undef :: undef :: undef :: undef :: undef :: undef :: undef :: undef :: undef :: undef :: []).toArray, defers := [] } #[true, true, true, true, true, true, true, true, true, true, true, false, false] k11 hB9 hn9 rfl (by rfl) 26 _ _ rfl (fls r0) (by rfl) (by rfl) (by rw [fls_size]; exact info_arr) (by simp) (fls_one _) (by rfl) (by rfl) (fun w12 k12 => ?_) AllReadyH.nil
    refine ⟨k12.tail, ?_⟩
    refine take_val 11 { tmps := (.agg (fls x0) :: .agg (fls x1) :: .pointer (some ⟨w.heap.size, 0, none⟩) :: .pointer (some ⟨w.heap.size + 1, 0, none⟩) :: .bool false :: .pointer (some ⟨g9, 0, none⟩) :: .float .f32 r1 :: undef :: undef :: undef :: undef :: .tuple #[.agg (fls r0), .float .f32 r1, .int .i64 r2] :: .agg (fls x0) :: .agg (fls x0) :: .agg (fls x1) :: .agg (fls x1) :: .tuple #[.agg (fls r0), .float .f32 r1, .int .i64 r2] :: .agg (fls r0) :: .float .f32 r1 :: .int .i64 r2 :: undef :: undef :: undef :: undef :: undef :: undef :: undef :: undef :: undef :: undef :: undef :: undef :: undef :: undef :: undef :: undef :: undef :: undef :: undef :: undef :: undef :: undef :: undef :: undef :: undef :: undef :: []).toArray, defers := [] } #[true, true, true, true, true, true, true, true, true, true, true, true, false] (.float .f32 r1) rfl (by rfl) (by kernel_rfl) (by kernel_rfl) (by kernel_rfl) (fun w => by rfl) (by rfl) (by rfl) (k12.tail) ?_
    refine take_val 12 { tmps := (.agg (fls x0) :: .agg (fls x1) :: .pointer (some ⟨w.heap.size, 0, none⟩) :: .pointer (some ⟨w.heap.size + 1, 0, none⟩) :: .bool false :: .pointer (some ⟨g9, 0, none⟩) :: .float .f32 r1 :: .int .i64 r2 :: undef :: undef :: undef :: .tuple #[.agg (fls r0), .float .f32 r1, .int .i64 r2] :: .agg (fls x0) :: .agg (fls x0) :: .agg (fls x1) :: .agg (fls x1) :: .tuple #[.agg (fls r0), .float .f32 r1, .int .i64 r2] :: .agg (fls r0) :: .float .f32 r1 :: .int .i64 r2 :: undef :: undef :: undef :: undef :: undef :: undef :: undef :: undef :: undef :: undef :: undef :: undef :: undef :: undef :: undef :: undef :: undef :: undef :: undef :: undef :: undef :: undef :: undef :: undef :: undef :: undef :: []).toArray, defers := [] } #[true, true, true, true, true, true, true, true, true, true, true, true, true] (.int .i64 r2) rfl (by rfl) (by kernel_rfl) (by kernel_rfl) (by kernel_rfl) (fun w => by rfl) (by rfl) (by rfl) (k12.tail) ?_
    exact wpAnyH_done (by kernel_rfl) (NoPanic.normal (key1 g9 _ (hid k12))) _
  refine allocK 9 (fun g13 => { tmps := (.agg (fls x0) :: .agg (fls x1) :: .pointer (some ⟨w.heap.size, 0, none⟩) :: .pointer (some ⟨w.heap.size + 1, 0, none⟩) :: .bool false :: .pointer (some ⟨g13, 0, none⟩) :: undef :: undef :: undef :: undef :: undef :: undef :: .agg (fls x0) :: undef :: .agg (fls x1) :: undef :: undef :: undef :: undef :: undef :: undef :: undef :: undef :: undef :: undef :: undef :: undef :: undef :: undef :: undef :: undef :: undef :: undef :: undef :: undef :: undef :: undef :: undef :: undef :: undef :: undef :: undef :: undef :: undef :: undef :: undef :: []).toArray, defers := [] }) #[true, false, true, false, false, false, false, false, false, true, false, false, false] kd rfl (by rfl) (fls fun _ => 0) 26 (alloc_sizes _ _ _ _ _ _ _) (fun g => by rfl) (by rfl) (fun w13 g13 k13 hB13 hn13 => ?_) AllReadyH.nil
  refine ⟨k13.tail, ?_⟩
  refine wpAnyH_ready (rs := [1]) (by kernel_rfl) (by simp) ?_
  refine callK 1 { tmps := (.agg (fls x0) :: .agg (fls x1) :: .pointer (some ⟨w.heap.size, 0, none⟩) :: .pointer (some ⟨w.heap.size + 1, 0, none⟩) :: .bool false :: .pointer (some ⟨g13, 0, none⟩) :: undef :: undef :: undef :: undef :: undef :: undef :: .agg (fls x0) :: .agg (fls x0) :: .agg (fls x1) :: undef :: undef :: undef :: undef :: undef :: undef :: undef :: undef :: undef :: undef :: undef :: undef :: undef :: undef :: undef :: undef :: undef :: undef :: undef :: undef :: undef :: undef :: undef :: undef :: undef :: undef :: undef :: undef :: undef :: undef :: undef :: []).toArray, defers := [] } #[true, true, true, false, false, false, false, false, false, true, false, false, false] (.agg (fls x0)) k13 rfl (by rfl) 15 #[.agg (fls x0)] (run_toSizes1 _ _ _ rfl _ _ _ _ _ _) (by rfl) (by rfl) (toSizes _ _) (fun w14 k14 => ?_) AllReadyH.nil
  refine ⟨k14.tail, ?_⟩
  refine wpAnyH_ready (rs := [3]) (by kernel_rfl) (by simp) ?_
  refine callK 3 { tmps := (.agg (fls x0) :: .agg (fls x1) :: .pointer (some ⟨w.heap.size, 0, none⟩) :: .pointer (some ⟨w.heap.size + 1, 0, none⟩) :: .bool false :: .pointer (some ⟨g13, 0, none⟩) :: undef :: undef :: undef :: undef :: undef :: undef :: .agg (fls x0) :: .agg (fls x0) :: .agg (fls x1) :: .agg (fls x1) :: undef :: undef :: undef :: undef :: undef :: undef :: undef :: undef :: undef :: undef :: undef :: undef :: undef :: undef :: undef :: undef :: undef :: undef :: undef :: undef :: undef :: undef :: undef :: undef :: undef :: undef :: undef :: undef :: undef :: undef :: []).toArray, defers := [] } #[true, true, true, true, false, false, false, false, false, true, false, false, false] (.agg (fls x1)) k14 rfl (by rfl) 46 #[.agg (fls x1)] (run_toA201 _ _ _ rfl _ _ _ _ _ _) (by rfl) (by rfl) (toA20 _ _) (fun w15 k15 => ?_) AllReadyH.nil
  refine ⟨k15.tail, ?_⟩
  refine wpAnyH_ready (rs := [4]) (by kernel_rfl) (by simp) ?_
  refine callK 4 { tmps := (.agg (fls x0) :: .agg (fls x1) :: .pointer (some ⟨w.heap.size, 0, none⟩) :: .pointer (some ⟨w.heap.size + 1, 0, none⟩) :: .bool false :: .pointer (some ⟨g13, 0, none⟩) :: undef :: undef :: undef :: undef :: undef :: undef :: .agg (fls x0) :: .agg (fls x0) :: .agg (fls x1) :: .agg (fls x1) :: .tuple #[.agg (fls r0), .float .f32 r1, .int .i64 r2] :: undef :: undef :: undef :: undef :: undef :: undef :: undef :: undef :: undef :: undef :: undef :: undef :: undef :: undef :: undef :: undef :: undef :: undef :: undef :: undef :: undef :: undef :: undef :: undef :: undef :: undef :: undef :: undef :: undef :: []).toArray, defers := [] } #[true, true, true, true, true, false, false, false, false, true, false, false, false] (.tuple #[.agg (fls r0), .float .f32 r1, .int .i64 r2]) k15 rfl (by rfl) 45 #[.agg (fls x0), .agg (fls x1)] (run_sShiftMasses2 _ _ _ rfl _ _ rfl _ _ _ _ _ _) (by rfl) (by rfl) (HS.out _) (fun w16 k16 => ?_) AllReadyH.nil
  refine ⟨k16.tail, ?_⟩
  refine take_val 5 { tmps := (.agg (fls x0) :: .agg (fls x1) :: .pointer (some ⟨w.heap.size, 0, none⟩) :: .pointer (some ⟨w.heap.size + 1, 0, none⟩) :: .bool false :: .pointer (some ⟨g13, 0, none⟩) :: undef :: undef :: undef :: undef :: undef :: .tuple #[.agg (fls r0), .float .f32 r1, .int .i64 r2] :: .agg (fls x0) :: .agg (fls x0) :: .agg (fls x1) :: .agg (fls x1) :: .tuple #[.agg (fls r0), .float .f32 r1, .int .i64 r2] :: undef :: undef :: undef :: undef :: undef :: undef :: undef :: undef :: undef :: undef :: undef :: undef :: undef :: undef :: undef :: undef :: undef :: undef :: undef :: undef :: undef :: undef :: undef :: undef :: undef :: undef :: undef :: undef :: undef :: []).toArray, defers := [] } #[true, true, true, true, true, true, false, false, false, true, false, false, false] (.tuple #[.agg (fls r0), .float .f32 r1, .int .i64 r2]) rfl (by rfl) (by kernel_rfl) (by kernel_rfl) (by kernel_rfl) (fun w => by rfl) (by rfl) (by rfl) (k16.tail) ?_
  refine take_val 6 { tmps := (.agg (fls x0) :: .agg (fls x1) :: .pointer (some ⟨w.heap.size, 0, none⟩) :: .pointer (some ⟨w.heap.size + 1, 0, none⟩) :: .bool false :: .pointer (some ⟨g13, 0, none⟩) :: undef :: undef :: undef :: undef :: undef :: .tuple #[.agg (fls r0), .float .f32 r1, .int .i64 r2] :: .agg (fls x0) :: .agg (fls x0) :: .agg (fls x1) :: .agg (fls x1) :: .tuple #[.agg (fls r0), .float .f32 r1, .int .i64 r2] :: .agg (fls r0) :: undef :: undef :: undef :: undef :: undef :: undef :: undef :: undef :: undef :: undef :: undef :: undef :: undef :: undef :: undef :: undef :: undef :: undef :: undef :: undef :: undef :: undef :: undef :: undef :: undef :: undef :: undef :: undef :: []).toArray, defers := [] } #[true, true, true, true, true, true, true, false, false, true, false, false, false] (.agg (fls r0)) rfl (by rfl) (by kernel_rfl) (by kernel_rfl) (by kernel_rfl) (fun w => by rfl) (by rfl) (by rfl) (k16.tail) ?_
  refine take_val 7 { tmps := (.agg (fls x0) :: .agg (fls x1) :: .pointer (some ⟨w.heap.size, 0, none⟩) :: .pointer (some ⟨w.heap.size + 1, 0, none⟩) :: .bool false :: .pointer (some ⟨g13, 0, none⟩) :: undef :: undef :: undef :: undef :: undef :: .tuple #[.agg (fls r0), .float .f32 r1, .int .i64 r2] :: .agg (fls x0) :: .agg (fls x0) :: .agg (fls x1) :: .agg (fls x1) :: .tuple #[.agg (fls r0), .float .f32 r1, .int .i64 r2] :: .agg (fls r0) :: .float .f32 r1 :: undef :: undef :: undef :: undef :: undef :: undef :: undef :: undef :: undef :: undef :: undef :: undef :: undef :: undef :: undef :: undef :: undef :: undef :: undef :: undef :: undef :: undef :: undef :: undef :: undef :: undef :: undef :: []).toArray, defers := [] } #[true, true, true, true, true, true, true, true, false, true, false, false, false] (.float .f32 r1) rfl (by rfl) (by kernel_rfl) (by kernel_rfl) (by kernel_rfl) (fun w => by rfl) (by rfl) (by rfl) (k16.tail) ?_
  refine take_val 8 { tmps := (.agg (fls x0) :: .agg (fls x1) :: .pointer (some ⟨w.heap.size, 0, none⟩) :: .pointer (some ⟨w.heap.size + 1, 0, none⟩) :: .bool false :: .pointer (some ⟨g13, 0, none⟩) :: undef :: undef :: undef :: undef :: undef :: .tuple #[.agg (fls r0), .float .f32 r1, .int .i64 r2] :: .agg (fls x0) :: .agg (fls x0) :: .agg (fls x1) :: .agg (fls x1) :: .tuple #[.agg (fls r0), .float .f32 r1, .int .i64 r2] :: .agg (fls r0) :: .float .f32 r1 :: .int .i64 r2 :: undef :: undef :: undef :: undef :: undef :: undef :: undef :: undef :: undef :: undef :: undef :: undef :: undef :: undef :: undef :: undef :: undef :: undef :: undef :: undef :: undef :: undef :: undef :: undef :: undef :: undef :: []).toArray, defers := [] } #[true, true, true, true, true, true, true, true, true, true, false, false, false] (.int .i64 r2) rfl (by rfl) (by kernel_rfl) (by kernel_rfl) (by kernel_rfl) (fun w => by rfl) (by rfl) (by rfl) (k16.tail) ?_
  refine wpAnyH_ready (rs := [10]) (by kernel_rfl) (by simp) ?_
  refine storeK 10 { tmps := (.agg (fls x0) :: .agg (fls x1) :: .pointer (some ⟨w.heap.size, 0, none⟩) :: .pointer (some ⟨w.heap.size + 1, 0, none⟩) :: .bool false :: .pointer (some ⟨g13, 0, none⟩) :: undef :: undef :: undef :: undef :: undef :: .tuple #[.agg (fls r0), .float .f32 r1, .int .i64 r2] :: .agg (fls x0) :: .agg (fls x0) :: .agg (fls x1) :: .agg (fls x1) :: .tuple #[.agg (fls r0), .float .f32 r1, .int .i64 r2] :: .agg (fls r0) :: .float .f32 r1 :: .int .i64 r2 :: undef :: undef :: undef :: undef :: undef :: undef :: undef :: undef :: undef :: undef :: undef :: undef :: undef :: undef :: undef :: undef :: undef :: undef :: undef :: undef :: undef :: undef :: undef :: undef :: undef :: undef :: []).toArray, defers := [] } #[true, true, true, true, true, true, true, true, true, true, true, false, false] k16 hB13 hn13 rfl (by rfl) 26 _ _ rfl (fls r0) (by rfl) (by rfl) (by rw [fls_size]; exact info_arr) (by simp) (fls_one _) (by rfl) (by rfl) (fun w17 k17 => ?_) AllReadyH.nil
  refine ⟨k17.tail, ?_⟩
  refine take_val 11 { tmps := (.agg (fls x0) :: .agg (fls x1) :: .pointer (some ⟨w.heap.size, 0, none⟩) :: .pointer (some ⟨w.heap.size + 1, 0, none⟩) :: .bool false :: .pointer (some ⟨g13, 0, none⟩) :: .float .f32 r1 :: undef :: undef :: undef :: undef :: .tuple #[.agg (fls r0), .float .f32 r1, .int .i64 r2] :: .agg (fls x0) :: .agg (fls x0) :: .agg (fls x1) :: .agg (fls x1) :: .tuple #[.agg (fls r0), .float .f32 r1, .int .i64 r2] :: .agg (fls r0) :: .float .f32 r1 :: .int .i64 r2 :: undef :: undef :: undef :: undef :: undef :: undef :: undef :: undef :: undef :: undef :: undef :: undef :: undef :: undef :: undef :: undef :: undef :: undef :: undef :: undef :: undef :: undef :: undef :: undef :: undef :: undef :: []).toArray, defers := [] } #[true, true, true, true, true, true, true, true, true, true, true, true, false] (.float .f32 r1) rfl (by rfl) (by kernel_rfl) (by kernel_rfl) (by kernel_rfl) (fun w => by rfl) (by rfl) (by rfl) (k17.tail) ?_
  refine take_val 12 { tmps := (.agg (fls x0) :: .agg (fls x1) :: .pointer (some ⟨w.heap.size, 0, none⟩) :: .pointer (some ⟨w.heap.size + 1, 0, none⟩) :: .bool false :: .pointer (some ⟨g13, 0, none⟩) :: .float .f32 r1 :: .int .i64 r2 :: undef :: undef :: undef :: .tuple #[.agg (fls r0), .float .f32 r1, .int .i64 r2] :: .agg (fls x0) :: .agg (fls x0) :: .agg (fls x1) :: .agg (fls x1) :: .tuple #[.agg (fls r0), .float .f32 r1, .int .i64 r2] :: .agg (fls r0) :: .float .f32 r1 :: .int .i64 r2 :: undef :: undef :: undef :: undef :: undef :: undef :: undef :: undef :: undef :: undef :: undef :: undef :: undef :: undef :: undef :: undef :: undef :: undef :: undef :: undef :: undef :: undef :: undef :: undef :: undef :: undef :: []).toArray, defers := [] } #[true, true, true, true, true, true, true, true, true, true, true, true, true] (.int .i64 r2) rfl (by rfl) (by kernel_rfl) (by kernel_rfl) (by kernel_rfl) (fun w => by rfl) (by rfl) (by rfl) (k17.tail) ?_
  exact wpAnyH_done (by kernel_rfl) (NoPanic.normal (key1 g13 _ (hid k17))) _

theorem lawShiftMasses (c : Nat → Nat) (hb : ∀ i, i < 20 → c i < 4294967296) (g : Nat → Nat) (hb2 : ∀ i, i < 20 → g i < 4294967296) (w : World) :
    Calls Try.prog 11 #[.agg (fls c), .agg (fls g)] w fun e w' => e = .returned (.bool true) ∧ Below w.heap.size w w' := by
  by_cases h : Amts c
  · by_cases h2 : Fins g
    · have hg : ∀ i, i < 20 → FW (g i) := fun i hi => fw_of (hb2 i hi) (h2 i hi)
      by_cases h3 : ShOk c g
      · have hA := sh_amts h hg h3
        have ha : nnB (sumF (wat (shN c g 20)) 19) = true := sumF_nn 19 fun i hi => (mul_mass (hA.nn i (by omega)) (by omega)).2
        have hbn : nnB (sumF (wat c) 19) = true := sumF_nn 19 fun i hi => (mul_mass (h.nn i (by omega)) (by omega)).2
        have hz := sub_fin3 ha hbn h3.2.1 h3.2.2
        exact coreShiftMasses c g (shN c g 20) (fun i hi => amt_lt (hA i hi)) (fun i hi => amt_fin (hA i hi)) (fsb (sumF (wat (shN c g 20)) 19) (sumF (wat c) 19)) hz.1 hz.fin 0 (sShiftMasses_ok c g h hg _ _ _ (fun _ => ⟨rfl, rfl, rfl⟩) (fun k => absurd h3 k)) (iShiftMasses_ok c g h hg _ _ _ (fun _ => ⟨rfl, rfl, rfl⟩) (fun k => absurd h3 k)) w
      · exact coreShiftMasses c g (fun _ => 0) zl zf 0 (by decide) (by decide) 4 (sShiftMasses_ok c g h hg _ _ _ (fun k => absurd k h3) (fun _ => ⟨rfl, rfl, rfl⟩)) (iShiftMasses_ok c g h hg _ _ _ (fun k => absurd k h3) (fun _ => ⟨rfl, rfl, rfl⟩)) w
    · exact coreShiftMasses c g (fun _ => 0) zl zf 0 (by decide) (by decide) 2 (sShiftMasses_range c g h hb2 h2) (iShiftMasses_range c g h hb2 h2) w
  · exact coreShiftMasses c g (fun _ => 0) zl zf 0 (by decide) (by decide) 1 (sShiftMasses_bad c g hb h) (iShiftMasses_bad c g hb h) w

theorem words_cons : ∀ (v : List Char) (r : List Char), (∀ c ∈ v, c ≠ Char.ofNat 32) → wordsSigns (v ++ Char.ofNat 32 :: r) = v :: wordsSigns r
  | [], r, _ => rfl
  | c :: v, r, h => by
    have ih := words_cons v r (fun x hx => h x (by simp [hx]))
    have hc : c ≠ Char.ofNat 32 := h c (by simp)
    show wordsSigns (c :: (v ++ Char.ofNat 32 :: r)) = _
    rw [wordsSigns.eq_3 _ _ (fun e => hc e), ih]

def w0 : List Nat := [104, 97, 114, 110, 101, 115, 115]

def w1 : List Nat := [50, 100, 48, 57, 50, 102, 99, 102, 97, 99, 97, 99, 50, 101, 100, 100, 53, 52, 97, 48, 102, 48, 57, 48, 49, 57, 102, 53, 102, 102, 50, 50, 51, 101, 101, 48, 55, 99, 48, 53, 53, 57, 48, 53, 54, 97, 98, 51, 52, 54, 98, 102, 54, 98, 53, 57, 51, 98, 48, 54, 49, 48, 102, 52]

def w2 : List Nat := [99, 117, 116]

def w3 : List Nat := [97, 116, 32, 108, 111, 111, 112, 46, 101, 120, 97, 109, 112, 108, 101, 47, 103, 48, 49, 50, 50, 52, 47, 108, 97, 119, 115, 46, 70, 110, 69, 120, 97, 99, 116, 69, 99, 104, 111, 79, 102, 32, 108, 111, 111, 112, 46, 101, 120, 97, 109, 112, 108, 101, 47, 103, 48, 49, 50, 50, 52, 47, 108, 97, 119, 115, 46, 70, 110, 69, 120, 97, 99, 116, 86, 97, 108, 105, 100, 69, 99, 104, 111, 77, 97, 112, 32, 108, 111, 111, 112, 46, 101, 120, 97, 109, 112, 108, 101, 47, 103, 48, 49, 50, 50, 52, 47, 108, 97, 119, 115, 46, 70, 110, 69, 120, 97, 99, 116, 76, 105, 102, 116, 79, 102, 32, 108, 111, 111, 112, 46, 101, 120, 97, 109, 112, 108, 101, 47, 103, 48, 49, 50, 50, 52, 47, 108, 97, 119, 115, 46, 70, 110, 69, 120, 97, 99, 116, 86, 97, 112, 111, 117, 114, 65, 98, 111, 118, 101, 32, 108, 111, 111, 112, 46, 101, 120, 97, 109, 112, 108, 101, 47, 103, 48, 49, 50, 50, 52, 47, 108, 97, 119, 115, 46, 70, 110, 69, 120, 97, 99, 116, 69, 118, 101, 110, 83, 111, 117, 110, 100, 105, 110, 103, 32, 108, 111, 111, 112, 46, 101, 120, 97, 109, 112, 108, 101, 47, 103, 48, 49, 50, 50, 52, 47, 108, 97, 119, 115, 46, 70, 110, 69, 120, 97, 99, 116, 82, 105, 115, 101, 73, 110, 32, 108, 111, 111, 112, 46, 101, 120, 97, 109, 112, 108, 101, 47, 103, 48, 49, 50, 50, 52, 47, 108, 97, 119, 115, 46, 70, 110, 69, 120, 97, 99, 116, 69, 118, 101, 110, 116, 115, 79, 102, 32, 108, 111, 111, 112, 46, 101, 120, 97, 109, 112, 108, 101, 47, 103, 48, 49, 50, 50, 52, 47, 108, 97, 119, 115, 46, 70, 110, 69, 120, 97, 99, 116, 76, 111, 115, 115, 101, 115, 79, 102, 32, 108, 111, 111, 112, 46, 101, 120, 97, 109, 112, 108, 101, 47, 103, 48, 49, 50, 50, 52, 47, 108, 97, 119, 115, 46, 70, 110, 69, 120, 97, 99, 116, 83, 104, 105, 102, 116, 77, 97, 115, 115, 101, 115, 32, 108, 111, 111, 112, 46, 101, 120, 97, 109, 112, 108, 101, 47, 103, 48, 49, 50, 50, 52, 47, 108, 97, 119, 115, 46, 70, 110, 69, 120, 97, 99, 116, 82, 97, 105, 115, 101, 68, 114, 121, 32, 108, 111, 111, 112, 46, 101, 120, 97, 109, 112, 108, 101, 47, 103, 48, 49, 50, 50, 52, 47, 108, 97, 119, 115, 46, 70, 110, 69, 120, 97, 99, 116, 82, 97, 105, 115, 101, 77, 111, 105, 115, 116]

def letters (l : List Nat) : List Char := l.map Char.ofNat

theorem head_reads : Try.prog.initOrder = String.ofList (letters w0 ++ Char.ofNat 32 :: (letters w1 ++ Char.ofNat 32 :: (letters w2 ++ Char.ofNat 32 :: letters w3))) := by kernel_rfl

theorem no_blank {l : List Nat} (h : l.all (fun n => Char.ofNat n != Char.ofNat 32) = true) : ∀ c ∈ letters l, c ≠ Char.ofNat 32 := by
  intro c hc
  obtain ⟨n, hn, rfl⟩ := List.mem_map.1 hc
  have := List.all_eq_true.1 h n hn
  simpa using this

theorem h0 : letters w0 = "harness".toList := by kernel_rfl

theorem h2 : letters w2 = "cut".toList := by kernel_rfl

theorem sums : isSumSigns (letters w1) = true := by kernel_rfl

theorem words : wordsSigns Try.prog.initOrder.toList = "harness".toList :: letters w1 :: "cut".toList :: wordsSigns (letters w3) := by
  rw [head_reads, String.toList_ofList, words_cons _ _ (no_blank (by decide +kernel)), words_cons _ _ (no_blank (by decide +kernel)), words_cons _ _ (no_blank (by decide +kernel)), h0, h2]

theorem behind : ∃ r, behindMainWord (wordsSigns Try.prog.initOrder.toList) = "cut".toList :: r := by
  refine ⟨wordsSigns (letters w3), ?_⟩
  rw [words]
  generalize wordsSigns (letters w3) = r
  have hs := sums
  generalize letters w1 = v at hs
  unfold behindMainWord
  simp [hs]

theorem not_later : Try.prog.laysLater = false := by kernel_rfl

theorem no_reflect : Try.prog.bearsReflect = false := by kernel_rfl

theorem no_doors : Try.prog.doorFits [] = true := by kernel_rfl

theorem strips (r : List (List Char)) : stripLifts liftWords ("cut".toList :: r) = ([], "cut".toList :: r) := by kernel_rfl

theorem may_enter_of (P : Program) (r : List (List Char)) (h : behindMainWord (wordsSigns P.initOrder.toList) = "cut".toList :: r) (h1 : P.laysLater = false) (h2 : P.bearsReflect = false) (h3 : P.doorFits [] = true) : P.mayEnter = true := by
  unfold Program.mayEnter
  rw [h]
  dsimp only
  rw [strips, h1, h2, h3]
  kernel_rfl

theorem lifts_final_of (P : Program) (r : List (List Char)) (h : behindMainWord (wordsSigns P.initOrder.toList) = "cut".toList :: r) : P.liftsFinal = false := by
  unfold Program.liftsFinal Program.headLifts
  rw [h]
  dsimp only
  rw [strips]
  kernel_rfl

theorem made_of (P : Program) (r : List (List Char)) (h : behindMainWord (wordsSigns P.initOrder.toList) = "cut".toList :: r) : P.make = some .cut := by
  unfold Program.make
  rw [h]
  kernel_rfl

theorem may_enter : Try.prog.mayEnter = true := let ⟨r, h⟩ := behind; may_enter_of _ r h not_later no_reflect no_doors

theorem lifts_final : Try.prog.liftsFinal = false := let ⟨r, h⟩ := behind; lifts_final_of _ r h

theorem made : Try.prog.make = some .cut := let ⟨r, h⟩ := behind; made_of _ r h

theorem laid : laidOutB Try.prog = true := by kernel_rfl

theorem rowed : mapsRowed Try.prog = true := by kernel_rfl

theorem no_stops : Try.prog.stops = [] := by kernel_rfl

theorem no_knobs : Try.prog.stopKnobs = [] := by kernel_rfl

theorem plain_keys : Try.prog.plainKeys = true := by kernel_rfl

theorem stops_heard : Try.prog.stopsHeard = true := by kernel_rfl

theorem arr2 {α : Type} {cs : Array α} (h : cs.size = 2) : ∃ c0 c1, cs = #[c0, c1] := by
  obtain ⟨l⟩ := cs
  match l, h with
  | [a, b], _ => exact ⟨a, b, rfl⟩

theorem own : ownKnob Try.prog.godebug = none := by kernel_rfl

theorem cells20 : Try.prog.cellsOf 23 = 20 := by kernel_rfl

theorem types20 : Try.prog.cellTypes Try.prog.depth 23 = some (List.replicate 20 22) := by kernel_rfl

theorem rda : Try.prog.readableRec 23 = true ∧ 23 < Try.prog.types.size := ⟨by kernel_rfl, of_decide_eq_true (by kernel_rfl)⟩
end Go.Proofs.Ytdmnlbfmcibohaa

namespace Go.Proofs.Ytdmnlbfmcibohaa.fnExactShiftMasses
open Go.RowKit Go.Fl Go.ChangeShapes Go.WideShapes Go.ChangeAt

set_option maxHeartbeats 2000000 in
theorem closed : joinedFacts Try.prog 11 Try.f11 Rows.fnExactShiftMassesSpec Rows.fnExactShiftMassesRow = true := by
  unfold joinedFacts
  simp only [Bool.and_eq_true]
  exact ⟨⟨⟨⟨⟨⟨⟨⟨⟨⟨⟨⟨⟨⟨⟨⟨⟨⟨⟨⟨⟨⟨⟨⟨⟨⟨⟨⟨⟨⟨⟨(by as_aux_lemma => kernel_rfl),
    laid⟩,
    rowed⟩,
    (by as_aux_lemma => kernel_rfl)⟩,
    (by as_aux_lemma => kernel_rfl)⟩,
    (by as_aux_lemma => kernel_rfl)⟩,
    (by rw [no_stops]; rfl)⟩,
    (by as_aux_lemma => kernel_rfl)⟩,
    (by rw [no_knobs]; rfl)⟩,
    (by as_aux_lemma => kernel_rfl)⟩,
    (by as_aux_lemma => kernel_rfl)⟩,
    (by as_aux_lemma => kernel_rfl)⟩,
    (by as_aux_lemma => kernel_rfl)⟩,
    (by as_aux_lemma => kernel_rfl)⟩,
    (by as_aux_lemma => kernel_rfl)⟩,
    (by as_aux_lemma => kernel_rfl)⟩,
    (by as_aux_lemma => kernel_rfl)⟩,
    (by as_aux_lemma => kernel_rfl)⟩,
    (by as_aux_lemma => kernel_rfl)⟩,
    (by as_aux_lemma => kernel_rfl)⟩,
    (by as_aux_lemma => kernel_rfl)⟩,
    (by as_aux_lemma => kernel_rfl)⟩,
    (show (Rows.fnExactShiftMassesRow.plainKeys == Try.prog.plainKeys) = true by rw [plain_keys]; rfl)⟩,
    (by as_aux_lemma => kernel_rfl)⟩,
    stops_heard⟩,
    may_enter⟩,
    (show (Rows.fnExactShiftMassesRow.lifted == Try.prog.liftsFinal) = true by rw [lifts_final]; rfl)⟩,
    (show (Try.prog.make == some Rows.fnExactShiftMassesRow.make) = true by rw [made]; rfl)⟩,
    (by as_aux_lemma => kernel_rfl)⟩,
    (by as_aux_lemma => kernel_rfl)⟩,
    (by as_aux_lemma => kernel_rfl)⟩,
    (by as_aux_lemma => kernel_rfl)⟩

set_option maxRecDepth 100000 in
theorem lifted (os : Os) (started : os.Started) (H : Type) (enc : TypeId × Value → H) :
    ReturnsInHanded {} Try.checked os 11 .any (Rows.fnExactShiftMassesSpec.pre6 enc Try.prog Try.f11 Rows.fnExactShiftMassesRow.domain false) (Rows.fnExactShiftMassesSpec.post enc Try.prog Try.f11 false true false false) := by
  refine LawFrame.lifted (C := Try.checked) (fn := Try.f11) (n := 2) (tb := 4) started own (by kernel_rfl) Try.func11 laid ?_ rfl rfl ?_ rfl Try.underlying4
    (ChangeSpec.witness6 (enc := enc) (C := Try.checked) false ⟨#[], #[.agg (Array.replicate 20 (.float .f32 0)), .agg (Array.replicate 20 (.float .f32 0))], []⟩ 8 (by kernel_rfl) (by kernel_rfl) (by kernel_rfl) (by kernel_rfl)) ?_
  · intro t ht
    simp only [Try.params11, List.mem_cons, List.not_mem_nil, or_false] at ht
    rcases ht with rfl | rfl <;> first | exact rda
  · intro ds hd
    match ds, hd with
    | [_, _], _ => rfl
  · intro W base args ds ps hval hn _
    obtain ⟨v0, v1, rfl⟩ : ∃ v0 v1, args = #[v0, v1] := arr2 hn
    obtain ⟨c0, rfl, hb0⟩ := open_fls Try.underlying23 Try.underlying22 cells20 types20 (hval 0 23 v0 rfl rfl)
    obtain ⟨c1, rfl, hb1⟩ := open_fls Try.underlying23 Try.underlying22 cells20 types20 (hval 1 23 v1 rfl rfl)
    exact lawShiftMasses c0 hb0 c1 hb1 W

theorem over : Rows.fnExactShiftMassesRow.holds Try.pinned (OpenSpec.ofChange Rows.fnExactShiftMassesSpec) :=
  OpenClaim.holds_of_wide 11 Try.f11 rfl rfl rfl rfl rfl rfl rfl ⟨rfl, rfl, rfl, rfl, rfl⟩ rfl rfl rfl rfl rfl (by kernel_rfl) Try.func11 closed
    (of_decide_eq_true (by kernel_rfl)) (by unfold Func.isWrapper; rw [if_neg (by decide +kernel)]; exact ⟨rfl, rfl⟩)
    (fun os started H enc _ => lifted os started H enc)

theorem proved : Rows.FnExactShiftMassesSaid := over
#print axioms proved
end Go.Proofs.Ytdmnlbfmcibohaa.fnExactShiftMasses
