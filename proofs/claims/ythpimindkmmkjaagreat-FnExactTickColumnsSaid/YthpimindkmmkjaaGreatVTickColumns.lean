import Derived.Test.YthpimindkmmkjaaGreatCTickColumns
import Derived.Test.YthpimindkmmkjaaGreatChecked
import Derived.Test.YthpimindkmmkjaaGreatRows
import Derived.Laws.FloatArith
import Derived.ProofKit
import Derived.WalkKit
import Derived.WalkLawsBesides
import Derived.WalkSpells
import Derived.Deep.QuietTactic
import Derived.BigQuiet
import Derived.Deep.RegionHeld3
import Derived.ChangeKeysEq
import Derived.Laws.BitsAllLaws
import Derived.Deep.MidRow
import Derived.Deep.WholeRow
import Derived.StillTailTactics
import Derived.Deep.Slices
import Derived.ChangeSame
import Derived.OrdersIn
import Derived.ControlIn
import Derived.RangeFuncSeq
import Derived.RangeFuncNested
import Derived.ArgAppend
import Derived.OwnWalkIn
import Derived.TacticsInMore
import Derived.Below
import Derived.Laws.AppendOwn
import Derived.RangeFuncLeaves
import Derived.RangeFuncBox
import Derived.MapKept
import Derived.StillTail
import Derived.Carry
import Derived.Shelf.Abstract
import Derived.OpenShut
/- The law FnExactTickColumns of chapter 1: at every argument the call returns true, and what was there before it is as it was. -/
namespace Go.Proofs.YthpimindkmmkjaaGreat
open Go.RowKit Go.Fl

@[go_sem] theorem ext_f64bits (y : Nat) (w : World) : (callFunc 121 #[.float .f64 y]).run Tryz.prog w = .ok (.value (.int .u64 y)) w := by
  rw [run_callFunc_extern Tryz.func121 (by kernel_rfl) (by kernel_rfl) (by kernel_rfl) (e := Extern.MathFloatBits.float64bits) (by kernel_rfl)]
  rfl

@[go_sem] theorem ext_f64from (n : Int) (w : World) : (callFunc 146 #[.int .u64 n]).run Tryz.prog w = .ok (.value (.float .f64 n.toNat)) w := by
  rw [run_callFunc_extern Tryz.func146 (by kernel_rfl) (by kernel_rfl) (by kernel_rfl) (e := Extern.MathFloatBits.float64frombits) (by kernel_rfl)]
  rfl

theorem hid {p : Prop} (h : p) : Hid p := h

theorem clear_sign (y : Nat) (h : y < 18446744073709551616) : (bits BinOp.andNot IntKind.u64 (y : Int) 9223372036854775808).toNat = y % 9223372036854775808 := by
  rw [u64_andNot _ _ (by omega) (by omega) (by omega) (by omega)]
  rw [Int.toNat_natCast, Int.toNat_natCast]
  exact Nat.and_two_pow_sub_one_eq_mod y 63

theorem abs_f64 (y : Nat) (h : y < 18446744073709551616) (w : World) :
    Calls Tryz.prog 140 #[.float .f64 y] w fun e w' => e = .returned (.float .f64 (y % 9223372036854775808)) ∧ w = w' := by
  have hc := hid (clear_sign y h)
  clear h
  go_enter Tryz.func140, Tryz.ntmps140
  go_wp2
  go_ret
  exact ⟨by simp [hc.out], rfl⟩

theorem isNaN_f64 (y : Nat) (w : World) :
    Calls Tryz.prog 119 #[.float .f64 y] w fun e w' => e = .returned (.bool (FloatKind.f64.format.order y y != some .eq)) ∧ w = w' := by
  go_enter Tryz.func119, Tryz.ntmps119
  go_wp2
  go_ret
  exact ⟨rfl, rfl⟩

theorem isInf_f64 (y : Nat) (h : y < 18446744073709551616) (w : World) :
    Calls Tryz.prog 120 #[.float .f64 y, .int .i64 0] w fun e w' => e = .returned (.bool (FloatKind.f64.format.order (y % 9223372036854775808) 9218868437227405311 == some .gt)) ∧ w = w' := by
  have hc := hid h
  clear h
  go_enter Tryz.func120, Tryz.ntmps120
  go_wp2_with (go_at_call 140; refine (abs_f64 y hc.out _).mono ?_; rintro e w' ⟨rfl, rfl⟩)
  go_ret
  exact ⟨rfl, rfl⟩

theorem isFinite_t (x : Nat) (hx : x < 4294967296) (h : finB x = true) (w : World) :
    Calls Tryz.prog 87 #[.float .f32 x] w fun e w' => e = .returned (.bool true) ∧ w = w' := by
  rw [finB_iff] at h
  have hc := fun w => run_conv_wid (P := Tryz.prog) w 22 65 x hx Tryz.underlying22 Tryz.underlying65 h
  obtain ⟨a, b, m, e, hr⟩ := read_wid_fin hx h
  have hn : (FloatKind.f64.format.order (wid x) (wid x) != some .eq) = false := by
    show (D.order (wid x) (wid x) != some .eq) = false
    rw [order_self hr]; rfl
  have hi : (FloatKind.f64.format.order (wid x % 9223372036854775808) 9218868437227405311 == some .gt) = false := by
    show (D.order (wid x % 9223372036854775808) 9218868437227405311 == some .gt) = false
    rw [b, order_ltD a (by decide)]
    rw [DINF_val] at a
    have hle : wid (mg x) ≤ 9218868437227405311 := by omega
    rcases Nat.lt_or_eq_of_le hle with h' | h'
    · rw [Nat.compare_eq_lt.2 h']; rfl
    · rw [Nat.compare_eq_eq.2 h']; rfl
  have hw : wid x < 18446744073709551616 := D.write_lt _
  have Hn := hid hn
  have Hi := hid hi
  have Hw := hid hw
  clear hn hi hw hr a b h hx
  go_enter Tryz.func87, Tryz.ntmps87
  go_wp2_with (first | (go_at_call 119; refine (isNaN_f64 (wid x) _).mono ?_; rintro e w' ⟨rfl, rfl⟩; rw [Hn.out]) | (go_at_call 120; refine (isInf_f64 (wid x) Hw.out _).mono ?_; rintro e w' ⟨rfl, rfl⟩; rw [Hi.out]))
  go_ret
  exact ⟨rfl, rfl⟩

theorem isFinite_f (x : Nat) (hx : x < 4294967296) (h : finB x = false) (w : World) :
    Calls Tryz.prog 87 #[.float .f32 x] w fun e w' => e = .returned (.bool false) ∧ Below w.heap.size w w' := by
  rw [finB_iff'] at h
  rcases Nat.lt_or_eq_of_le h with h | h
  · obtain ⟨z, hc, h1, _⟩ := run_conv_nan (P := Tryz.prog) w 22 65 x Tryz.underlying22 Tryz.underlying65 h
    obtain ⟨s, t, hr⟩ := read_nanD h1
    have Hn := hid (show (FloatKind.f64.format.order z z != some .eq) = true by
      show (D.order z z != some .eq) = true
      rw [order_nan hr]; rfl)
    clear h h1 hr hx
    go_enter Tryz.func87, Tryz.ntmps87
    go_wp2_with (go_at_call 119; refine (isNaN_f64 z _).mono ?_; rintro e w' ⟨rfl, rfl⟩; rw [Hn.out])
    go_ret
    exact ⟨rfl, (Below.refl _ _).drew⟩
  · obtain ⟨z, hc, h1, h2⟩ := run_conv_inf (P := Tryz.prog) w 22 65 x hx Tryz.underlying22 Tryz.underlying65 h.symm
    have hr : D.read z = .infinity (decide (9223372036854775808 ≤ z)) := by rw [read_signD h2, h1, read_DINF]
    have Hn := hid (show (FloatKind.f64.format.order z z != some .eq) = false by
      show (D.order z z != some .eq) = false
      rw [order_inf hr]; rfl)
    have Hi := hid (show (FloatKind.f64.format.order (z % 9223372036854775808) 9218868437227405311 == some .gt) = true by
      rw [h1]; decide)
    have H2 := hid h2
    clear h h1 hr hx h2
    go_enter Tryz.func87, Tryz.ntmps87
    go_wp2_with (first | (go_at_call 119; refine (isNaN_f64 z _).mono ?_; rintro e w' ⟨rfl, rfl⟩; rw [Hn.out]) | (go_at_call 120; refine (isInf_f64 z H2.out _).mono ?_; rintro e w' ⟨rfl, rfl⟩; rw [Hi.out]))
    go_ret
    exact ⟨rfl, Below.refl _ _⟩

theorem signbit_f64 (y : Nat) (w : World) :
    Calls Tryz.prog 88 #[.float .f64 y] w fun e w' => e = .returned (.bool (decide (wrap64 (y : Int) < 0))) ∧ w = w' := by
  go_enter Tryz.func88, Tryz.ntmps88
  go_wp2
  go_ret
  exact ⟨rfl, rfl⟩

theorem and_sign (y : Nat) (h : y < 18446744073709551616) : (decide (wrap64 (y : Int) < 0)) = decide (9223372036854775808 ≤ y) := by
  unfold wrap64
  by_cases h' : 9223372036854775808 ≤ y
  · rw [decide_eq_true h']; simp; omega
  · rw [decide_eq_false h']; simp; omega

theorem isAmount_t (x : Nat) (h : amtB x = true) (w : World) :
    Calls Tryz.prog 62 #[.float .f32 x] w fun e w' => e = .returned (.bool true) ∧ w = w' := by
  have hf := amt_fin h
  rw [amtB_iff, INF_val] at h
  have hx : x < 4294967296 := by omega
  have hc := fun w => run_conv_wid (P := Tryz.prog) w 22 65 x hx Tryz.underlying22 Tryz.underlying65 (finB_iff.1 hf)
  have hw : wid x < 18446744073709551616 := D.write_lt _
  have Hs := hid (show (decide (wrap64 (wid x : Int) < 0)) = false by
    rw [and_sign _ hw]
    have := (wid_val (x := x) (by rw [INF_val]; omega)).1
    rw [DINF_val] at this
    simp; omega)
  have Hx := hid hx
  have Hf := hid hf
  clear h hf hx hw
  go_enter Tryz.func62, Tryz.ntmps62
  go_wp2_with (first | (go_at_call 87; refine (isFinite_t x Hx.out Hf.out _).mono ?_; rintro e w' ⟨rfl, rfl⟩) | (go_at_call 88; refine (signbit_f64 (wid x) _).mono ?_; rintro e w' ⟨rfl, rfl⟩; rw [Hs.out]))
  go_ret
  exact ⟨rfl, rfl⟩

theorem isAmount_f (x : Nat) (hx : x < 4294967296) (h : amtB x = false) (w : World) :
    Calls Tryz.prog 62 #[.float .f32 x] w fun e w' => e = .returned (.bool false) ∧ Below w.heap.size w w' := by
  rcases hf : finB x with _ | _
  · have Hx := hid hx
    have Hf := hid hf
    clear h hf hx
    go_enter Tryz.func62, Tryz.ntmps62
    go_wp2_with (go_at_call 87; refine (isFinite_f x Hx.out Hf.out _).mono ?_; rintro e w' ⟨rfl, hb⟩)
    go_ret
    exact ⟨rfl, hb⟩
  · have hc := fun w => run_conv_wid (P := Tryz.prog) w 22 65 x hx Tryz.underlying22 Tryz.underlying65 (finB_iff.1 hf)
    have hw : wid x < 18446744073709551616 := D.write_lt _
    have Hs := hid (show (decide (wrap64 (wid x : Int) < 0)) = true by
      rw [and_sign _ hw, wid_fin hx (finB_iff.1 hf)]
      rw [amtB_iff', INF_val] at h
      rw [finB_iff, INF_val] at hf
      unfold mg at hf ⊢
      rw [if_pos (by omega)]
      simp)
    have Hx := hid hx
    have Hf := hid hf
    clear h hf hx hw
    go_enter Tryz.func62, Tryz.ntmps62
    go_wp2_with (first | (go_at_call 87; refine (isFinite_t x Hx.out Hf.out _).mono ?_; rintro e w' ⟨rfl, rfl⟩) | (go_at_call 88; refine (signbit_f64 (wid x) _).mono ?_; rintro e w' ⟨rfl, rfl⟩; rw [Hs.out]))
    go_ret
    exact ⟨rfl, Below.refl _ _⟩

theorem info_f32 : ∃ i, Tryz.prog.info? 22 = some i ∧ i.size = 1 := by
  have h : (Tryz.prog.info? 22).map (·.size) = some 1 := by kernel_rfl
  cases hi : Tryz.prog.info? 22 with
  | none => rw [hi] at h; cases h
  | some i => rw [hi] at h; exact ⟨i, rfl, Option.some.inj h⟩

theorem ix (T : TypeId) (hT : Tryz.prog.underlying T = some (.array 20 22)) (c : Nat → Nat) (k : Nat) (hk : k < 20) (w : World) :
    (Instr.index T (.agg (fls c)) (.int .i64 (k : Int))).run Tryz.prog w = .ok (.float .f32 (c k)) w := by
  obtain ⟨i, h1, h2⟩ := info_f32
  exact run_index_arr hT Tryz.underlying22 rfl h1 h2 _ _ hk _ (fls_get c hk) w

theorem info_arr : (Tryz.prog.info? 30).map (·.size) = some 20 := by kernel_rfl

set_option maxRecDepth 100000 in
theorem validSizes_t (c : Nat → Nat) (h : ∀ i, i < 20 → amtB (c i) = true) (w : World) :
    Calls Tryz.prog 60 #[.agg (fls c)] w fun e w' => e = .returned (.bool true) ∧ Below w.heap.size w w' := by
  have H := hid h
  clear h
  go_enter Tryz.func60, Tryz.ntmps60
  go_wp2_with (refine wpList_load_row rfl 30 _ rfl w.heap.size rfl 30 (fls c) (0, 0) _ (heap_alloc_new _ _) Tryz.underlying30 rfl (by rw [fls_size]; exact info_arr) ?_)
  go_loop [6] (fun i => ∃ k : Nat, k ≤ 20 ∧ i = .int .i64 k) (fun i => 20 - (intOf i).toNat)
  case atStart => exact ⟨0, by omega, rfl⟩
  case round =>
    obtain ⟨k, hk, rfl⟩ := hrel
    by_cases hlt : k < 20
    · have hix := ix 30 Tryz.underlying30 c k hlt
      go_wp2_with (go_at_call 62; refine (isAmount_t (c k) (H.out k hlt) _).mono ?_; rintro e w' ⟨rfl, rfl⟩)
      go_round
      case rel => exact ⟨k + 1, by omega, by go_num⟩
      case measure => simp [intOf]; omega
    · go_wp2
      go_ret
      exact ⟨rfl, (Below.refl _ _).alloc (Nat.le_refl _) _⟩

@[go_sem] theorem ext_f32bits (y : Nat) (w : World) : (callFunc 80 #[.float .f32 y]).run Tryz.prog w = .ok (.value (.int .u32 y)) w := by
  rw [run_callFunc_extern Tryz.func80 (by kernel_rfl) (by kernel_rfl) (by kernel_rfl) (e := Extern.MathFloatBits.float32bits) (by kernel_rfl)]
  rfl

theorem sFinite_t (x : Nat) (hx : x < 4294967296) (h : finB x = true) (w : World) :
    Calls Tryz.prog 79 #[.float .f32 x] w fun e w' => e = .returned (.bool true) ∧ w = w' := by
  have hr := fun w => run_float_arith (P := Tryz.prog) w .sub 22 .f32 x x 0 (sub_self_fin hx h)
  clear h hx
  go_enter Tryz.func79, Tryz.ntmps79
  go_wp2
  go_ret
  exact ⟨rfl, rfl⟩

theorem sFinite_f (x : Nat) (hx : x < 4294967296) (h : finB x = false) (w : World) :
    Calls Tryz.prog 79 #[.float .f32 x] w fun e w' => e = .returned (.bool false) ∧ Below w.heap.size w w' := by
  obtain ⟨z, hr, h1, _⟩ := run_arith_nan (P := Tryz.prog) w .sub (by simp) 22 x x (sub_self_none hx h)
  have Hn := hid (show (FloatKind.f32.format.order z 0 == some .eq) = false by
    show (S.order z 0 == some .eq) = false
    rw [order_nan32 h1]; rfl)
  clear h hx h1
  go_enter Tryz.func79, Tryz.ntmps79
  go_wp2
  go_ret
  exact ⟨by simp [Hn.out], (Below.refl _ _).drew⟩

theorem sAmount_t (x : Nat) (h : amtB x = true) (w : World) :
    Calls Tryz.prog 49 #[.float .f32 x] w fun e w' => e = .returned (.bool true) ∧ w = w' := by
  have hf := amt_fin h
  have h' := amtB_iff.1 h
  have hx : x < 4294967296 := by rw [INF_val] at h'; omega
  have Hx := hid hx
  have Hf := hid hf
  by_cases h0 : x = 0
  · subst h0
    clear h hf h' hx
    go_enter Tryz.func49, Tryz.ntmps49
    go_wp2_with (go_at_call 79; refine (sFinite_t 0 Hx.out Hf.out _).mono ?_; rintro e w' ⟨rfl, rfl⟩)
    go_ret
    exact ⟨rfl, rfl⟩
  · have hg : (FloatKind.f32.format.order x 0 == some .gt) = true := by
      show (S.order x 0 == some .gt) = true
      rw [order_zero_pos h', Nat.compare_eq_gt.2 (by omega)]; rfl
    clear h hf h' hx h0
    go_enter Tryz.func49, Tryz.ntmps49
    go_wp2_with (go_at_call 79; refine (sFinite_t x Hx.out Hf.out _).mono ?_; rintro e w' ⟨rfl, rfl⟩)
    go_ret
    exact ⟨rfl, rfl⟩

theorem sAmount_f (x : Nat) (hx : x < 4294967296) (h : amtB x = false) (w : World) :
    Calls Tryz.prog 49 #[.float .f32 x] w fun e w' => e = .returned (.bool false) ∧ Below w.heap.size w w' := by
  rcases hf : finB x with _ | _
  · have Hx := hid hx
    have Hf := hid hf
    clear h hf hx
    go_enter Tryz.func49, Tryz.ntmps49
    go_wp2_with (go_at_call 79; refine (sFinite_f x Hx.out Hf.out _).mono ?_; rintro e w' ⟨rfl, hb⟩)
    go_ret
    exact ⟨rfl, hb⟩
  · have hs : 2147483648 ≤ x := by
      rw [amtB_iff', INF_val] at h
      have := finB_iff.1 hf
      rw [INF_val] at this
      unfold mg at this
      omega
    have hg : (FloatKind.f32.format.order x 0 == some .gt) = false := order_neg_zero hx hf hs
    have hb : ((x : Int) == 0) = false := by simp; omega
    have Hx := hid hx
    have Hf := hid hf
    clear h hf hx hs
    go_enter Tryz.func49, Tryz.ntmps49
    go_wp2_with (go_at_call 79; refine (sFinite_t x Hx.out Hf.out _).mono ?_; rintro e w' ⟨rfl, rfl⟩)
    go_ret
    exact ⟨rfl, Below.refl _ _⟩

set_option maxRecDepth 100000 in
theorem validSizes_f (c : Nat → Nat) (hb : ∀ i, i < 20 → c i < 4294967296) (h : ¬ ∀ i, i < 20 → amtB (c i) = true) (w : World) :
    Calls Tryz.prog 60 #[.agg (fls c)] w fun e w' => e = .returned (.bool false) ∧ Below w.heap.size w w' := by
  have H := hid h
  have HB := hid hb
  clear h hb
  go_enter Tryz.func60, Tryz.ntmps60
  go_wp2_with (refine wpList_load_row rfl 30 _ rfl w.heap.size rfl 30 (fls c) (0, 0) _ (heap_alloc_new _ _) Tryz.underlying30 rfl (by rw [fls_size]; exact info_arr) ?_)
  go_loop [6] (fun i => ∃ k : Nat, k ≤ 20 ∧ Hid (∀ i, i < k → amtB (c i) = true) ∧ i = .int .i64 k) (fun i => 20 - (intOf i).toNat)
  case atStart => exact ⟨0, by omega, hid (fun i hi => by omega), rfl⟩
  case round =>
    obtain ⟨k, hk, HK, rfl⟩ := hrel
    by_cases hlt : k < 20
    · have hix := ix 30 Tryz.underlying30 c k hlt
      rcases hac : amtB (c k) with _ | _
      · have HA := hid hac
        clear hac
        go_wp2_with (go_at_call 62; refine (isAmount_f (c k) (HB.out k hlt) HA.out _).mono ?_; rintro e w' ⟨rfl, hb⟩)
        go_ret
        exact ⟨rfl, (((Below.refl _ _).alloc (Nat.le_refl _) _).trans (hb.mono (by simp)))⟩
      · have HA := hid hac
        clear hac
        go_wp2_with (go_at_call 62; refine (isAmount_t (c k) HA.out _).mono ?_; rintro e w' ⟨rfl, rfl⟩)
        go_round
        case rel =>
          refine ⟨k + 1, by omega, hid (fun i hi => ?_), by go_num⟩
          by_cases e : i = k
          · subst e; exact HA.out
          · exact HK.out i (by omega)
        case measure => simp [intOf]; omega
    · have hk20 : k = 20 := by omega
      exact (H.out (fun i hi => HK.out i (by omega))).elim

set_option maxRecDepth 100000 in
theorem iSum (c : Nat → Nat) (h : ∀ i, i < 20 → nnB (c i) = true) (w : World) :
    Calls Tryz.prog 99 #[.agg (fls c)] w fun e w' => e = .returned (.float .f32 (sumF c 19)) ∧ Below w.heap.size w w' := by
  have H := hid h
  clear h
  have hcell : ∀ k, k < 20 → (w.alloc (.cells (fls c) 23)).cell? ⟨w.heap.size, k, none⟩ = some (.float .f32 (c k)) := fun k hk => by
    rw [cell_of_row _ _ k _ _ _ (heap_alloc_new _ _), fls_get c hk]
  have h0 := hcell 0 (by omega)
  have HC := hid hcell
  clear hcell
  go_enter Tryz.func99, Tryz.ntmps99
  go_wp2
  go_loop [3, 4] (fun s i => ∃ k : Nat, k ≤ 19 ∧ i = .int .i64 (k + 1 : Nat) ∧ s = .float .f32 (sumF c k)) (fun _ i => 20 - (intOf i).toNat)
  case atStart => exact ⟨0, by omega, rfl, rfl⟩
  case round =>
    obtain ⟨k, hk, rfl, rfl⟩ := hrel
    by_cases hlt : k < 19
    · have hcell := HC.out (k + 1) (by omega)
      have hadd := fun w => run_add (P := Tryz.prog) 22 (sumF_nn k (fun i hi => H.out i (by omega))) (H.out (k + 1) (by omega)) w
      go_wp2
      go_round
      case rel => exact ⟨k + 1, by omega, by go_num, rfl⟩
      case measure => simp [intOf]; omega
    · obtain rfl : k = 19 := by omega
      go_wp2
      go_ret
      exact ⟨rfl, (Below.refl _ _).alloc (Nat.le_refl _) _⟩

theorem info_a20 : (Tryz.prog.info? 23).map (·.size) = some 20 := by kernel_rfl

set_option maxRecDepth 100000 in
theorem toSizes (c : Nat → Nat) (w : World) :
    Calls Tryz.prog 53 #[.agg (fls c)] w fun e w' => e = .returned (.agg (fls c)) ∧ Below w.heap.size w w' := by
  have b0 : Below w.heap.size w (w.alloc (.cells (fls c) 23)) := (Below.refl _ _).alloc (Nat.le_refl _) _
  have a0 := hid (arrAt.new w c 23)
  go_enter Tryz.func53, Tryz.ntmps53
  go_wp2
  go_loopw [4] (fun i wr => ∃ k : Nat, k ≤ 20 ∧ i = .int .i64 k ∧ Hid (arrAt wr w.heap.size c 23) ∧ Hid (arrAt wr (w.heap.size + 1) (fun _ => 0) 30) ∧ Hid (arrAt wr (w.heap.size + 1 + 1) (cut c k) 30) ∧ Hid (Below w.heap.size w wr)) (fun i _ => 20 - (intOf i).toNat)
  case atStart =>
    refine ⟨0, by omega, rfl, hid ((a0.out.alloc _).alloc _), hid ?_, hid ?_, hid ((b0.alloc (by simp) _).alloc (by simp; omega) _)⟩
    · have := arrAt.new (w.alloc (.cells (fls c) 23)) (fun _ => 0) 30
      have e : (w.alloc (.cells (fls c) 23)).heap.size = w.heap.size + 1 := by simp
      rw [e] at this
      exact this.alloc _
    · have := arrAt.new ((w.alloc (.cells (fls c) 23)).alloc (.cells (fls fun _ => 0) 30)) (fun _ => 0) 30
      have e : ((w.alloc (.cells (fls c) 23)).alloc (.cells (fls fun _ => 0) 30)).heap.size = w.heap.size + 1 + 1 := by simp
      rw [e] at this
      exact this.ext (fun i _ => (cut_zero' c i).symm)
  case round =>
    obtain ⟨k, hk, rfl, h0, h1, h2, hb⟩ := hrel
    by_cases hlt : k < 20
    · have q0 := h0.out.cell hlt
      have q2 := h2.out.cell hlt
      have f2 := h2.out.frozen k
      go_wp2
      go_roundw
      case rel => exact ⟨k + 1, by omega, by go_num, hid (h0.out.setOther (by simp; omega) _), hid (h1.out.setOther (by simp) _), hid ((h2.out.set k (c k)).ext (fun i _ => cut_succ c k i)), hid (hb.out.setCell (by simp; omega) _)⟩
      case measure => simp [intOf]; omega
    · obtain rfl : k = 20 := by omega
      have h2' := hid (h2.out.ext (cut_all c))
      clear h2
      go_wp2_with (first | (refine wpList_load_row rfl 30 _ rfl (w.heap.size + 1 + 1) rfl 30 (fls c) (0, 0) _ h2'.out Tryz.underlying30 rfl (by rw [fls_size]; exact info_arr) ?_) | (refine wpList_store_row rfl 30 _ _ rfl (w.heap.size + 1) (fls c) rfl rfl 30 _ h1.out (by rw [fls_size]; exact info_arr) (by simp) (fls_one c) ?_))
      exact bodyPost_ret (results_cell_row rfl _ _ (w.heap.size + 1) 30 (fls c) (0, 0) _ rfl (h1.out.setRow c) Tryz.underlying30 rfl (by rw [fls_size]; exact info_arr)) rfl ⟨rfl, below_row hb.out (by omega) _⟩

theorem div_one_some {y m : Nat} {s : Bool} {e : Int} (h : D.read y = .number s m e) : ∃ q, floatBits .quo .f64 4607182418800017408 y = some q := by
  have h1 : D.read 4607182418800017408 = .number false 4503599627370496 (-52) := by decide
  show ∃ q, D.div 4607182418800017408 y = some q
  unfold Ieee.Format.div
  rw [h, h1]
  simp only [Ieee.Datum.quotient]
  by_cases hm : m = 0
  · rw [if_pos hm]; exact ⟨_, rfl⟩
  · rw [if_neg hm]; exact ⟨_, rfl⟩

set_option maxRecDepth 100000 in
theorem sameFloat (x : Nat) (hx : x < 4294967296) (h : finB x = true) (w : World) :
    Calls Tryz.prog 30 #[.float .f64 (wid x), .float .f64 (wid x)] w fun e w' => e = .returned (.bool true) ∧ w = w' := by
  obtain ⟨a, b, m, e, hr⟩ := read_wid_fin hx (finB_iff.1 h)
  have hn : (FloatKind.f64.format.order (wid x) (wid x) != some .eq) = false := by
    show (D.order (wid x) (wid x) != some .eq) = false
    rw [order_self hr]; rfl
  have hq : (FloatKind.f64.format.order (wid x) (wid x) == some .eq) = true := by
    show (D.order (wid x) (wid x) == some .eq) = true
    rw [order_self hr]; rfl
  obtain ⟨q, hd⟩ := div_one_some hr
  have hdiv := fun w => run_float_arith (P := Tryz.prog) w .quo 65 .f64 4607182418800017408 (wid x) q hd
  clear hd hr a b h hx
  rcases hz : (FloatKind.f64.format.order (wid x) 0 == some .eq) with _ | _
  · go_enter Tryz.func30, Tryz.ntmps30
    go_wp2
    go_ret
    exact ⟨by simp, rfl⟩
  · go_enter Tryz.func30, Tryz.ntmps30
    go_wp2
    go_ret
    exact ⟨by simp, rfl⟩

theorem back {P : Program} {f : FuncId} {args : Array Value} {w : World} {v : Value} (h : Calls P f args w fun e w' => e = .returned v ∧ w = w') : Calls P f args w fun e w' => e = .returned v ∧ w' = w :=
  h.mono fun _ _ ⟨a, b⟩ => ⟨a, b.symm⟩

set_option maxRecDepth 100000 in
theorem eqSizes (c : Nat → Nat) (hb : ∀ i, i < 20 → c i < 4294967296) (h : ∀ i, i < 20 → finB (c i) = true) (w : World) :
    Calls Tryz.prog 58 #[.agg (fls c), .agg (fls c)] w fun e w' => e = .returned (.bool true) ∧ Below w.heap.size w w' := by
  have b0 : Below w.heap.size w (w.alloc (.cells (fls c) 30)) := (Below.refl _ _).alloc (Nat.le_refl _) _
  have a0 := hid (arrAt.new w c 30)
  have H := hid h
  have HB := hid hb
  clear h hb
  go_enter Tryz.func58, Tryz.ntmps58
  go_wp2
  go_loopw [5] (fun i wr => ∃ k : Nat, k ≤ 20 ∧ i = .int .i64 k ∧ Hid (arrAt wr w.heap.size c 30) ∧ Hid (arrAt wr (w.heap.size + 1) c 30) ∧ Hid (Below w.heap.size w wr)) (fun i _ => 20 - (intOf i).toNat)
  case atStart =>
    refine ⟨0, by omega, rfl, hid (a0.out.alloc _), hid ?_, hid (b0.alloc (by simp) _)⟩
    have := arrAt.new (w.alloc (.cells (fls c) 30)) c 30
    have e : (w.alloc (.cells (fls c) 30)).heap.size = w.heap.size + 1 := by simp
    rw [e] at this
    exact this
  case round =>
    obtain ⟨k, hk, rfl, h0, h1, hb⟩ := hrel
    by_cases hlt : k < 20
    · have q0 := h0.out.cell hlt
      have q1 := h1.out.cell hlt
      have hc := fun w => run_conv_wid (P := Tryz.prog) w 22 65 (c k) (HB.out k hlt) Tryz.underlying22 Tryz.underlying65 (finB_iff.1 (H.out k hlt))
      go_wp2
      go_quiet ((go_at_call 30; exact Calls.quiet_of_same (back (sameFloat (c k) (HB.out k hlt) (H.out k hlt) _))))
      go_wp2
      go_roundw
      case rel => exact ⟨k + 1, by omega, by go_num, h0, h1, hid (below_drewN hb.out _)⟩
      case measure => simp [intOf]; omega
    · go_wp2
      go_ret
      exact ⟨rfl, hb.out⟩

theorem iTold_t (x : Nat) (hx : x < 4294967296) (h : finB x = true) (w : World) :
    Calls Tryz.prog 171 #[.float .f32 x] w fun e w' => e = .returned (.tuple #[.float .f32 x, .int .i64 0]) ∧ w = w' := by
  have H := hid h
  have Hx := hid hx
  clear h hx
  go_enter Tryz.func171, Tryz.ntmps171
  go_wp2_with (go_at_call 87; refine (isFinite_t x Hx.out H.out _).mono ?_; rintro e w' ⟨rfl, rfl⟩)
  go_ret2
  exact ⟨rfl, rfl⟩

theorem iTold_f (x : Nat) (hx : x < 4294967296) (h : finB x = false) (w : World) :
    Calls Tryz.prog 171 #[.float .f32 x] w fun e w' => e = .returned (.tuple #[.float .f32 0, .int .i64 4]) ∧ Below w.heap.size w w' := by
  have H := hid h
  have Hx := hid hx
  clear h hx
  go_enter Tryz.func171, Tryz.ntmps171
  go_wp2_with (go_at_call 87; refine (isFinite_f x Hx.out H.out _).mono ?_; rintro e w' ⟨rfl, hb⟩)
  go_ret2
  exact ⟨rfl, hb⟩

theorem iTold (x : Nat) (hx : x < 4294967296) (w : World) :
    Calls Tryz.prog 171 #[.float .f32 x] w fun e w' => e = .returned (told x) ∧ Below w.heap.size w w' := by
  rcases h : finB x with _ | _
  · rw [told_f h]; exact iTold_f x hx h w
  · rw [told_t h]; exact (iTold_t x hx h w).mono fun e w' ⟨a, b⟩ => ⟨a, b ▸ Below.refl _ _⟩

/-- The mass of a class, as a word. -/
theorem iMass (k : Nat) (hk : k < 20) (w : World) :
    Calls Tryz.prog 57 #[.int .i64 (k : Int)] w fun e w' => e = .returned (.float .f32 (mass k)) ∧ w = w' := by
  have H : k = 0 ∨ k = 1 ∨ k = 2 ∨ k = 3 ∨ k = 4 ∨ k = 5 ∨ k = 6 ∨ k = 7 ∨ k = 8 ∨ k = 9 ∨ k = 10 ∨ k = 11 ∨ k = 12 ∨ k = 13 ∨ k = 14 ∨ k = 15 ∨ k = 16 ∨ k = 17 ∨ k = 18 ∨ k = 19 := by omega
  rcases H with rfl | rfl | rfl | rfl | rfl | rfl | rfl | rfl | rfl | rfl | rfl | rfl | rfl | rfl | rfl | rfl | rfl | rfl | rfl | rfl
  all_goals
    go_enter Tryz.func57, Tryz.ntmps57
    go_wp2
    go_ret
    exact ⟨rfl, rfl⟩

def Amts (c : Nat → Nat) : Prop := ∀ i, i < 20 → amtB (c i) = true

theorem told_lit (x : Nat) : ∃ r n, told x = .tuple #[.float .f32 r, .int .i64 n] ∧ finB r = true ∧ (x < 4294967296 → r < 4294967296) := by
  rcases h : finB x with _ | _
  · exact ⟨0, 4, told_f h, by decide, fun _ => by decide⟩
  · exact ⟨x, 0, told_t h, h, fun hx => hx⟩

theorem sMass (k : Nat) (hk : k < 20) (w : World) :
    Calls Tryz.prog 83 #[.int .i64 (k : Int)] w fun e w' => e = .returned (.float .f32 (mass k)) ∧ w = w' := by
  have H : k = 0 ∨ k = 1 ∨ k = 2 ∨ k = 3 ∨ k = 4 ∨ k = 5 ∨ k = 6 ∨ k = 7 ∨ k = 8 ∨ k = 9 ∨ k = 10 ∨ k = 11 ∨ k = 12 ∨ k = 13 ∨ k = 14 ∨ k = 15 ∨ k = 16 ∨ k = 17 ∨ k = 18 ∨ k = 19 := by omega
  rcases H with rfl | rfl | rfl | rfl | rfl | rfl | rfl | rfl | rfl | rfl | rfl | rfl | rfl | rfl | rfl | rfl | rfl | rfl | rfl | rfl
  all_goals
    go_enter Tryz.func83, Tryz.ntmps83
    go_wp2
    go_ret
    exact ⟨rfl, rfl⟩

theorem isClass_t (k : Nat) (hk : k < 20) (w : World) :
    Calls Tryz.prog 117 #[.int .i64 (k : Int)] w fun e w' => e = .returned (.bool true) ∧ w = w' := by
  have h1 : decide ((0 : Int) ≤ (k : Int)) = true := by simp
  go_enter Tryz.func117, Tryz.ntmps117
  go_wp2
  go_ret
  exact ⟨by first | rfl | (simp; done) | (simp; omega), rfl⟩

theorem l00In_t (n a b : Int) (h1 : a ≤ n) (h2 : n ≤ b) (w : World) :
    Calls Tryz.prog 31 #[.int .i64 n, .int .i64 a, .int .i64 b] w fun e w' => e = .returned (.bool true) ∧ w = w' := by
  go_enter Tryz.func31, Tryz.ntmps31
  go_wp2
  go_ret
  exact ⟨by first | rfl | (simp; done) | (simp; omega), rfl⟩

theorem l00In_f (n a b : Int) (hn : ¬ (a ≤ n ∧ n ≤ b)) (w : World) :
    Calls Tryz.prog 31 #[.int .i64 n, .int .i64 a, .int .i64 b] w fun e w' => e = .returned (.bool false) ∧ w = w' := by
  by_cases h0 : a ≤ n
  · have h3 : b < n := by omega
    clear hn
    go_enter Tryz.func31, Tryz.ntmps31
    go_wp2
    go_ret
    exact ⟨by first | rfl | (simp; done) | (simp; omega), rfl⟩
  · have h3 : n < a := by omega
    have h4 : decide (a ≤ n) = false := by simp; omega
    clear hn h0
    go_enter Tryz.func31, Tryz.ntmps31
    go_wp2
    go_ret
    exact ⟨by simp, rfl⟩

set_option maxRecDepth 100000 in
theorem iWaters (c : Nat → Nat) (h : Amts c) (w : World) :
    Calls Tryz.prog 172 #[.agg (fls c)] w fun e w' => e = .returned (.agg (fls (wat c))) ∧ Below w.heap.size w w' := by
  have A0 := hid (((arrAt.new w c 30).alloc (.cells (fls fun _ => 0) 23)).alloc (.cells (fls fun _ => 0) 23))
  have A1 := hid ((new1 w (.cells (fls c) 30) (fun _ => 0) 23).alloc (.cells (fls fun _ => 0) 23))
  have A2 := hid (new2 w (.cells (fls c) 30) (.cells (fls fun _ => 0) 23) (fun _ => 0) 23)
  have b0 := boxed3 w (.cells (fls c) 30) (.cells (fls fun _ => 0) 23) (.cells (fls fun _ => 0) 23)
  have H := hid h
  clear h
  go_enter Tryz.func172, Tryz.ntmps172
  go_wp2_with (refine wpList_load_row rfl 30 _ rfl (w.heap.size) rfl 30 (fls c) (0, 0) _ A0.out Tryz.underlying30 rfl (by rw [fls_size]; exact info_arr) ?_)
  go_loopw [7] (fun i wr => ∃ k : Nat, k ≤ 20 ∧ i = .int .i64 k ∧ Hid (arrAt wr (w.heap.size + 1) (fun _ => 0) 23) ∧ Hid (arrAt wr (w.heap.size + 1 + 1) (cut (wat c) k) 23) ∧ Hid (Below w.heap.size w wr)) (fun i _ => 20 - (intOf i).toNat)
  case atStart => exact ⟨0, by omega, rfl, A1, hid (A2.out.ext (fun i _ => (cut_zero' (wat c) i).symm)), hid b0⟩
  case round =>
    obtain ⟨k, hk, rfl, h1, h2, hb⟩ := hrel
    by_cases hlt : k < 20
    · have hix := ix 30 Tryz.underlying30 c k hlt
      have hm := fun w => run_mul (P := Tryz.prog) 22 (H.out k hlt) (mass_amt hlt) w
      have q2 := h2.out.cell hlt
      have f2 := h2.out.frozen k
      go_wp2_with (go_at_call 57; refine (iMass k hlt _).mono ?_; rintro e w' ⟨rfl, rfl⟩)
      go_roundw
      case rel => exact ⟨k + 1, by omega, by go_num, hid (h1.out.setOther (by simp) _), hid ((h2.out.set k (wat c k)).ext (fun i _ => cut_succ (wat c) k i)), hid (hb.out.setCell (by simp; omega) _)⟩
      case measure => simp [intOf]; omega
    · obtain rfl : k = 20 := by omega
      have h2' := hid (h2.out.ext (cut_all (wat c)))
      clear h2
      go_wp2_with (first | (refine wpList_load_row rfl 23 _ rfl (w.heap.size + 1 + 1) rfl 23 (fls (wat c)) (0, 0) _ h2'.out Tryz.underlying23 rfl (by rw [fls_size]; exact info_a20) ?_) | (refine wpList_store_row rfl 23 _ _ rfl (w.heap.size + 1) (fls (wat c)) rfl rfl 23 _ h1.out (by rw [fls_size]; exact info_a20) (by simp) (fls_one (wat c)) ?_))
      exact bodyPost_ret (results_cell_row rfl _ _ (w.heap.size + 1) 23 (fls (wat c)) (0, 0) _ rfl (h1.out.setRow (wat c)) Tryz.underlying23 rfl (by rw [fls_size]; exact info_a20)) rfl ⟨rfl, below_row hb.out (by omega) _⟩

set_option maxRecDepth 100000 in
theorem iWaterOf_ok (c : Nat → Nat) (h : Amts c) (w : World) :
    Calls Tryz.prog 166 #[.agg (fls c)] w fun e w' => e = .returned (told (sumF (wat c) 19)) ∧ Below w.heap.size w w' := by
  have hn : ∀ i, i < 20 → nnB (wat c i) = true := fun i hi => wat_nn hi (h i hi)
  have hx := hid (nn_lt (sumF_nn 19 (fun i hi => hn i (by omega))))
  have Hn := hid hn
  have H := hid h
  clear h hn
  obtain ⟨r, n, ht, hr, _⟩ := told_lit (sumF (wat c) 19)
  have hC := fun w => (iTold (sumF (wat c) 19) hx.out w)
  rw [ht] at hC ⊢
  have HC := hid hC
  clear hC ht hr
  have A0 := hid (arrAt.new w c 30)
  have b0 := boxed w (.cells (fls c) 30)
  go_enter Tryz.func166, Tryz.ntmps166
  go_wp2_with (first | (refine wpList_load_row rfl 30 _ rfl (w.heap.size) rfl 30 (fls c) (0, 0) _ A0.out Tryz.underlying30 rfl (by rw [fls_size]; exact info_arr) ?_))
  refine (validSizes_t c H.out _).mono ?_
  rintro e w0 ⟨rfl, hb0⟩
  have A0 := hid (A0.out.stay hb0)
  have c0 := stp b0 (Nat.le_refl _) hb0
  go_wp2_with (first | (refine wpList_load_row rfl 30 _ rfl (w.heap.size) rfl 30 (fls c) (0, 0) _ A0.out Tryz.underlying30 rfl (by rw [fls_size]; exact info_arr) ?_))
  refine (iWaters c H.out _).mono ?_
  rintro e w1 ⟨rfl, hb1⟩
  have A0 := hid (A0.out.stay hb1)
  have c1 := stp c0 (Nat.le_refl _) hb1
  go_wp2_with fail
  refine (iSum (wat c) Hn.out _).mono ?_
  rintro e w2 ⟨rfl, hb2⟩
  have A0 := hid (A0.out.stay hb2)
  have c2 := stp c1 (Nat.le_refl _) hb2
  go_wp2_with fail
  refine (HC.out _).mono ?_
  rintro e w3 ⟨rfl, hb3⟩
  have A0 := hid (A0.out.stay hb3)
  have c3 := stp c2 (Nat.le_refl _) hb3
  go_wp2
  go_ret2
  exact ⟨rfl, c3⟩

def Fins (c : Nat → Nat) : Prop := ∀ i, i < 20 → finB (c i) = true

set_option maxRecDepth 100000 in
theorem iFinite_t (c : Nat → Nat) (hb : ∀ i, i < 20 → c i < 4294967296) (h : Fins c) (w : World) :
    Calls Tryz.prog 100 #[.agg (fls c)] w fun e w' => e = .returned (.tuple #[.agg (fls c), .int .i64 0]) ∧ Below w.heap.size w w' := by
  have A0 := hid ((arrAt.new w c 30).alloc (.cells (fls fun _ => 0) 30))
  have A1 := hid (new1 w (.cells (fls c) 30) (fun _ => 0) 30)
  have b0 := boxed2 w (.cells (fls c) 30) (.cells (fls fun _ => 0) 30)
  have HB := hid hb
  have H := hid h
  clear h hb
  go_enter Tryz.func100, Tryz.ntmps100
  go_wp2_with (refine wpList_load_row rfl 30 _ rfl (w.heap.size) rfl 30 (fls c) (0, 0) _ A0.out Tryz.underlying30 rfl (by rw [fls_size]; exact info_arr) ?_)
  go_loop [7] (fun i => ∃ k : Nat, k ≤ 20 ∧ i = .int .i64 k) (fun i => 20 - (intOf i).toNat)
  case atStart => exact ⟨0, by omega, rfl⟩
  case round =>
    obtain ⟨k, hk, rfl⟩ := hrel
    by_cases hlt : k < 20
    · have hix := ix 30 Tryz.underlying30 c k hlt
      go_wp2_with (go_at_call 87; refine (isFinite_t (c k) (HB.out k hlt) (H.out k hlt) _).mono ?_; rintro e w' ⟨rfl, rfl⟩)
      go_round
      case rel => exact ⟨k + 1, by omega, by go_num⟩
      case measure => simp [intOf]; omega
    · go_wp2_with (first | (refine wpList_load_row rfl 30 _ rfl (w.heap.size) rfl 30 (fls c) (0, 0) _ A0.out Tryz.underlying30 rfl (by rw [fls_size]; exact info_arr) ?_) | (refine wpList_store_row rfl 30 _ _ rfl (w.heap.size + 1) (fls c) rfl rfl 30 _ A1.out (by rw [fls_size]; exact info_arr) (by simp) (fls_one c) ?_))
      exact bodyPost_ret (results_row_tmp rfl _ _ (w.heap.size + 1) 30 (fls c) (0, 0) _ rfl (A1.out.setRow c) Tryz.underlying30 rfl (by rw [fls_size]; exact info_arr)) rfl ⟨rfl, below_row b0 (by simp) _⟩

set_option maxRecDepth 100000 in
theorem iFinite_f (c : Nat → Nat) (hb : ∀ i, i < 20 → c i < 4294967296) (h : ¬ Fins c) (w : World) :
    Calls Tryz.prog 100 #[.agg (fls c)] w fun e w' => e = .returned (.tuple #[.agg (fls fun _ => 0), .int .i64 4]) ∧ Below w.heap.size w w' := by
  have A0 := hid ((arrAt.new w c 30).alloc (.cells (fls fun _ => 0) 30))
  have A1 := hid (new1 w (.cells (fls c) 30) (fun _ => 0) 30)
  have b0 := boxed2 w (.cells (fls c) 30) (.cells (fls fun _ => 0) 30)
  have HB := hid hb
  have H := hid h
  clear h hb
  go_enter Tryz.func100, Tryz.ntmps100
  go_wp2_with (refine wpList_load_row rfl 30 _ rfl (w.heap.size) rfl 30 (fls c) (0, 0) _ A0.out Tryz.underlying30 rfl (by rw [fls_size]; exact info_arr) ?_)
  go_loop [7] (fun i => ∃ k : Nat, k ≤ 20 ∧ Hid (∀ i, i < k → finB (c i) = true) ∧ i = .int .i64 k) (fun i => 20 - (intOf i).toNat)
  case atStart => exact ⟨0, by omega, hid (fun i hi => by omega), rfl⟩
  case round =>
    obtain ⟨k, hk, HK, rfl⟩ := hrel
    by_cases hlt : k < 20
    · have hix := ix 30 Tryz.underlying30 c k hlt
      rcases hac : finB (c k) with _ | _
      · have HA := hid hac
        clear hac
        go_wp2_with (fail)
        refine (isFinite_f (c k) (HB.out k hlt) HA.out _).mono ?_
        rintro e w1 ⟨rfl, hb1⟩
        have A2 := hid (A1.out.stay hb1)
        have b1 := stp b0 (Nat.le_refl _) hb1
        go_wp2_with (refine wpList_store_row rfl 30 _ _ rfl (w.heap.size + 1) (fls (fun _ => 0)) rfl rfl 30 _ A2.out (by rw [fls_size]; exact info_arr) (by simp) (fls_one (fun _ => 0)) ?_)
        exact bodyPost_ret (results_row_tmp rfl _ _ (w.heap.size + 1) 30 (fls (fun _ => 0)) (0, 0) _ rfl (A2.out.setRow (fun _ => 0)) Tryz.underlying30 rfl (by rw [fls_size]; exact info_arr)) rfl ⟨rfl, below_row b1 (by simp) _⟩
      · have HA := hid hac
        clear hac
        go_wp2_with (go_at_call 87; refine (isFinite_t (c k) (HB.out k hlt) HA.out _).mono ?_; rintro e w' ⟨rfl, rfl⟩)
        go_round
        case rel =>
          refine ⟨k + 1, by omega, hid (fun i hi => ?_), by go_num⟩
          by_cases e : i = k
          · subst e; exact HA.out
          · exact HK.out i (by omega)
        case measure => simp [intOf]; omega
    · have hk20 : k = 20 := by omega
      exact (H.out (fun i hi => HK.out i (by omega))).elim

set_option maxRecDepth 100000 in
theorem sMade_t (c : Nat → Nat) (hb : ∀ i, i < 20 → c i < 4294967296) (h : Fins c) (w : World) :
    Calls Tryz.prog 89 #[.agg (fls c)] w fun e w' => e = .returned (.tuple #[.agg (fls c), .int .i64 0]) ∧ Below w.heap.size w w' := by
  have A0 := hid ((arrAt.new w c 30).alloc (.cells (fls fun _ => 0) 30))
  have A1 := hid (new1 w (.cells (fls c) 30) (fun _ => 0) 30)
  have b0 := boxed2 w (.cells (fls c) 30) (.cells (fls fun _ => 0) 30)
  have HB := hid hb
  have H := hid h
  clear h hb
  go_enter Tryz.func89, Tryz.ntmps89
  go_wp2
  go_loop [4] (fun i => ∃ k : Nat, k ≤ 20 ∧ i = .int .i64 k) (fun i => 20 - (intOf i).toNat)
  case atStart => exact ⟨0, by omega, rfl⟩
  case round =>
    obtain ⟨k, hk, rfl⟩ := hrel
    by_cases hlt : k < 20
    · have hix := A0.out.cell hlt
      go_wp2_with (go_at_call 79; refine (sFinite_t (c k) (HB.out k hlt) (H.out k hlt) _).mono ?_; rintro e w' ⟨rfl, rfl⟩)
      go_round
      case rel => exact ⟨k + 1, by omega, by go_num⟩
      case measure => simp [intOf]; omega
    · go_wp2_with (first | (refine wpList_load_row rfl 30 _ rfl (w.heap.size) rfl 30 (fls c) (0, 0) _ A0.out Tryz.underlying30 rfl (by rw [fls_size]; exact info_arr) ?_) | (refine wpList_store_row rfl 30 _ _ rfl (w.heap.size + 1) (fls c) rfl rfl 30 _ A1.out (by rw [fls_size]; exact info_arr) (by simp) (fls_one c) ?_))
      exact bodyPost_ret (results_row_tmp rfl _ _ (w.heap.size + 1) 30 (fls c) (0, 0) _ rfl (A1.out.setRow c) Tryz.underlying30 rfl (by rw [fls_size]; exact info_arr)) rfl ⟨rfl, below_row b0 (by simp) _⟩

set_option maxRecDepth 100000 in
theorem sMade_f (c : Nat → Nat) (hb : ∀ i, i < 20 → c i < 4294967296) (h : ¬ Fins c) (w : World) :
    Calls Tryz.prog 89 #[.agg (fls c)] w fun e w' => e = .returned (.tuple #[.agg (fls fun _ => 0), .int .i64 4]) ∧ Below w.heap.size w w' := by
  have A0 := hid ((arrAt.new w c 30).alloc (.cells (fls fun _ => 0) 30))
  have A1 := hid (new1 w (.cells (fls c) 30) (fun _ => 0) 30)
  have b0 := boxed2 w (.cells (fls c) 30) (.cells (fls fun _ => 0) 30)
  have HB := hid hb
  have H := hid h
  clear h hb
  go_enter Tryz.func89, Tryz.ntmps89
  go_wp2
  go_loop [4] (fun i => ∃ k : Nat, k ≤ 20 ∧ Hid (∀ i, i < k → finB (c i) = true) ∧ i = .int .i64 k) (fun i => 20 - (intOf i).toNat)
  case atStart => exact ⟨0, by omega, hid (fun i hi => by omega), rfl⟩
  case round =>
    obtain ⟨k, hk, HK, rfl⟩ := hrel
    by_cases hlt : k < 20
    · have hix := A0.out.cell hlt
      rcases hac : finB (c k) with _ | _
      · have HA := hid hac
        clear hac
        go_wp2_with (fail)
        refine (sFinite_f (c k) (HB.out k hlt) HA.out _).mono ?_
        rintro e w1 ⟨rfl, hb1⟩
        have A2 := hid (A1.out.stay hb1)
        have b1 := stp b0 (Nat.le_refl _) hb1
        go_wp2_with (refine wpList_store_row rfl 30 _ _ rfl (w.heap.size + 1) (fls (fun _ => 0)) rfl rfl 30 _ A2.out (by rw [fls_size]; exact info_arr) (by simp) (fls_one (fun _ => 0)) ?_)
        exact bodyPost_ret (results_row_tmp rfl _ _ (w.heap.size + 1) 30 (fls (fun _ => 0)) (0, 0) _ rfl (A2.out.setRow (fun _ => 0)) Tryz.underlying30 rfl (by rw [fls_size]; exact info_arr)) rfl ⟨rfl, below_row b1 (by simp) _⟩
      · have HA := hid hac
        clear hac
        go_wp2_with (go_at_call 79; refine (sFinite_t (c k) (HB.out k hlt) HA.out _).mono ?_; rintro e w' ⟨rfl, rfl⟩)
        go_round
        case rel =>
          refine ⟨k + 1, by omega, hid (fun i hi => ?_), by go_num⟩
          by_cases e : i = k
          · subst e; exact HA.out
          · exact HK.out i (by omega)
        case measure => simp [intOf]; omega
    · have hk20 : k = 20 := by omega
      exact (H.out (fun i hi => HK.out i (by omega))).elim

/-- Sizes that would be returned, by either program, are told alike. -/
theorem iFinite (c : Nat → Nat) (hb : ∀ i, i < 20 → c i < 4294967296) (d : Nat → Nat) (n : Int) (h1 : Fins c → d = c ∧ n = 0) (h2 : ¬ Fins c → d = (fun _ => 0) ∧ n = 4) (w : World) :
    Calls Tryz.prog 100 #[.agg (fls c)] w fun e w' => e = .returned (.tuple #[.agg (fls d), .int .i64 n]) ∧ Below w.heap.size w w' := by
  by_cases h : Fins c
  · obtain ⟨rfl, rfl⟩ := h1 h; exact iFinite_t _ hb h w
  · obtain ⟨rfl, rfl⟩ := h2 h; exact iFinite_f _ hb h w

theorem sMassI (n : Int) (h0 : 0 ≤ n) (h1 : n < 20) (w : World) :
    Calls Tryz.prog 83 #[.int .i64 n] w fun e w' => e = .returned (.float .f32 (mass n.toNat)) ∧ w = w' := by
  obtain ⟨k, rfl⟩ := Int.eq_ofNat_of_zero_le h0
  exact sMass k (by omega) w

set_option maxRecDepth 100000 in
theorem sFor (x : Nat) (ha : amtB x = true) (h1 : ONE ≤ x) (w : World) :
    Calls Tryz.prog 122 #[.float .f32 x] w fun e w' => e = .returned (.int .i64 (forF x : Int)) ∧ w = w' := by
  have Ha := hid ha
  have H1 := hid h1
  clear ha h1
  go_enter Tryz.func122, Tryz.ntmps122
  go_wp2
  go_loop [3] (fun i => ∃ k : Nat, k ≤ 19 ∧ i = .int .i64 k ∧ Hid (mass k ≤ x)) (fun i => 20 - (intOf i).toNat)
  case atStart => exact ⟨0, by omega, rfl, H1⟩
  case round =>
    obtain ⟨k, hk, rfl, hm⟩ := hrel
    by_cases hlt : k < 19
    · by_cases hle : mass (k + 1) ≤ x
      · have ho := leq_t (mass_amt (k := k + 1) (by omega)) Ha.out hle
        have HL := hid hle
        clear hle
        have e1 : ((k : Int) + 1).toNat = k + 1 := by omega
        have E1 := hid e1
        clear e1
        go_wp2_with (go_at_call 83; refine (sMassI _ (by omega) (by omega) _).mono ?_; rintro e w' ⟨rfl, rfl⟩; rw [E1.out])
        go_round
        case rel => exact ⟨k + 1, by omega, by go_num, HL⟩
        case measure => simp [intOf]; omega
      · have hgt : x < mass (k + 1) := by omega
        have ho := leq_f (mass_amt (k := k + 1) (by omega)) Ha.out hgt
        have hf := hid (forF_eq (by omega) hm.out (.inr hgt))
        clear hle hgt
        have e1 : ((k : Int) + 1).toNat = k + 1 := by omega
        have E1 := hid e1
        clear e1
        go_wp2_with (go_at_call 83; refine (sMassI _ (by omega) (by omega) _).mono ?_; rintro e w' ⟨rfl, rfl⟩; rw [E1.out])
        go_ret
        exact ⟨by simp [hf.out], rfl⟩
    · obtain rfl : k = 19 := by omega
      have hf := hid (forF_eq (by omega) hm.out (.inl rfl))
      go_wp2
      go_ret
      exact ⟨by simp [hf.out], rfl⟩

set_option maxRecDepth 100000 in
theorem iClassFor_ok (x : Nat) (ha : amtB x = true) (h1 : ONE ≤ x) (w : World) :
    Calls Tryz.prog 97 #[.float .f32 x] w fun e w' => e = .returned (.tuple #[.int .i64 (forF x : Int), .int .i64 0]) ∧ w = w' := by
  have Hx := hid (amt_lt ha)
  have Hf := hid (amt_fin ha)
  have ho := lt_f ha (y := 1065353216) (by decide) h1
  have Ha := hid ha
  have H1 := hid h1
  clear ha h1
  go_enter Tryz.func97, Tryz.ntmps97
  go_wp2_with fail
  go_step3
  go_wp2_with fail
  refine (isFinite_t x Hx.out Hf.out _).mono ?_
  rintro e w1 ⟨rfl, rfl⟩
  go_wp2_with fail
  go_step3
  go_wp2_with fail
  go_loop [4] (fun i => ∃ k : Nat, k ≤ 19 ∧ i = .int .i64 k ∧ Hid (k = 19 ∨ x < mass (k + 1))) (fun i => (intOf i).toNat)
  case atStart => exact ⟨19, by omega, rfl, hid (.inl rfl)⟩
  case round =>
    obtain ⟨k, hk, rfl, hm⟩ := hrel
    by_cases hlt : 0 < k
    · by_cases hle : mass k ≤ x
      · have hg := gt_f (mass_amt (k := k) (by omega)) Ha.out hle
        have hf := hid (forF_eq (by omega) hle hm.out)
        clear hle
        go_wp2_with (go_at_call 57; refine (iMass k (by omega) _).mono ?_; rintro e w' ⟨rfl, rfl⟩)
        rw [Exit.noGoto_ret]
        go_ret2
        exact ⟨by simp [hf.out], rfl⟩
      · have hgt : x < mass k := by omega
        have hg := gt_t (mass_amt (k := k) (by omega)) Ha.out hgt
        have HG := hid hgt
        clear hle hgt
        go_wp2_with (go_at_call 57; refine (iMass k (by omega) _).mono ?_; rintro e w' ⟨rfl, rfl⟩)
        go_round
        case rel => exact ⟨k - 1, by omega, by congr 1; omega, hid (.inr (by rw [show k - 1 + 1 = k by omega]; exact HG.out))⟩
        case measure => simp [intOf]; omega
    · obtain rfl : k = 0 := by omega
      have hf := hid (forF_eq (by omega) H1.out hm.out)
      go_wp2
      go_ret2
      exact ⟨by simp [hf.out], rfl⟩

theorem iBits (x : Nat) (hx : x < 4294967296) (w : World) :
    Calls Tryz.prog 159 #[.float .f32 x] w fun e w' => e = .returned (.int .u32 (nb x : Int)) ∧ Below w.heap.size w w' := by
  have hnb : nb x = if nanB x = true then 2143289344 else x := rfl
  rcases hn : nanB x with _ | _
  · have hle : mg x ≤ INF := by simpa [nanB] using hn
    rw [hn] at hnb
    have Hnb := hid hnb
    rcases Nat.lt_or_eq_of_le hle with h | h
    · have hc := fun w => run_conv_wid (P := Tryz.prog) w 22 65 x hx Tryz.underlying22 Tryz.underlying65 h
      obtain ⟨_, _, m, e, hr⟩ := read_wid_fin hx h
      have Hn := hid (show (FloatKind.f64.format.order (wid x) (wid x) != some .eq) = false by
        show (D.order (wid x) (wid x) != some .eq) = false
        rw [order_self hr]; rfl)
      clear hnb hn hle h hr hx
      go_enter Tryz.func159, Tryz.ntmps159
      go_wp2_with (go_at_call 119; refine (isNaN_f64 (wid x) _).mono ?_; rintro e w' ⟨rfl, rfl⟩; rw [Hn.out])
      go_ret
      exact ⟨by rw [Hnb.out]; simp, Below.refl _ _⟩
    · obtain ⟨z, hc, h1, h2⟩ := run_conv_inf (P := Tryz.prog) w 22 65 x hx Tryz.underlying22 Tryz.underlying65 h
      have hr : D.read z = .infinity (decide (9223372036854775808 ≤ z)) := by rw [read_signD h2, h1, read_DINF]
      have Hn := hid (show (FloatKind.f64.format.order z z != some .eq) = false by
        show (D.order z z != some .eq) = false
        rw [order_inf hr]; rfl)
      clear hnb hn hle h hr hx h1 h2
      go_enter Tryz.func159, Tryz.ntmps159
      go_wp2_with (go_at_call 119; refine (isNaN_f64 z _).mono ?_; rintro e w' ⟨rfl, rfl⟩; rw [Hn.out])
      go_ret
      exact ⟨by rw [Hnb.out]; simp, Below.refl _ _⟩
  · have h : INF < mg x := by simpa [nanB] using hn
    rw [hn] at hnb
    have Hnb := hid hnb
    obtain ⟨z, hc, h1, _⟩ := run_conv_nan (P := Tryz.prog) w 22 65 x Tryz.underlying22 Tryz.underlying65 h
    obtain ⟨s, t, hr⟩ := read_nanD h1
    have Hn := hid (show (FloatKind.f64.format.order z z != some .eq) = true by
      show (D.order z z != some .eq) = true
      rw [order_nan hr]; rfl)
    clear hnb hn h hr hx h1
    go_enter Tryz.func159, Tryz.ntmps159
    go_wp2_with (go_at_call 119; refine (isNaN_f64 z _).mono ?_; rintro e w' ⟨rfl, rfl⟩; rw [Hn.out])
    go_ret
    exact ⟨by rw [Hnb.out]; simp, (Below.refl _ _).drew⟩

theorem loose {P : Program} {f : FuncId} {args : Array Value} {w : World} {v : Value} (h : Calls P f args w fun e w' => e = .returned v ∧ w = w') : Calls P f args w fun e w' => e = .returned v ∧ Below w.heap.size w w' :=
  h.mono fun _ _ ⟨a, b⟩ => ⟨a, b ▸ Below.refl _ _⟩

/-- A whole array stored: the world behind it under a name of its own. -/
theorem store_abs {P : Program} {ops : Array Oper} {rest : List Oper} {o : Oper} {a : Act} {w : World} {Q : Exit → Act → World → Prop} (hgd : o.guard = none) (ty : TypeId) (x y : Operand) (ho : o.op = .store ty x y)
    (g : Nat) (d : Nat → Nat) (hx : a.eval x = .pointer (some ⟨g, 0, none⟩)) (hy : a.eval y = .agg (fls d)) (t : TypeId) (old : Nat → Nat) (hg : arrAt w g old t) (hi : (P.info? ty).map (·.size) = some 20)
    (h : ∀ w', w' = w.setRow g (fls d) → wpList P ops Q rest (a.put o.dst undef) w') : wpList P ops Q (o :: rest) a w :=
  wpList_store_row hgd ty x y ho g (fls d) hx hy t (fls old) hg (by rw [fls_size]; exact hi) (by simp) (fls_one d) (h _ rfl)

def left (c : Nat → Nat) (k x : Nat) : Nat → Nat := upd c k (fsub (c k) (fmul x (c k)))

theorem info_air : (Tryz.prog.info? 32).map (·.size) = some 2 := by kernel_rfl

theorem info_lair : (Tryz.prog.info? 26).map (·.size) = some 2 := by kernel_rfl

def fltOf : Value → Nat
  | .float _ b => b
  | _ => 0

theorem nearer (b r : Nat) (h : okR b r) (w : World) :
    Calls Tryz.prog 139 #[.float .f64 r, .float .f64 b] w fun e w' => e = .returned (.float .f64 (rNext b r)) ∧ w = w' := by
  obtain ⟨h1, h2, h3, h4, h5, h6, h7⟩ := h
  have q1 := fun w => run_float_arith (P := Tryz.prog) w .mul 65 .f64 _ _ _ h1
  have q2 := fun w => run_float_arith (P := Tryz.prog) w .mul 65 .f64 _ _ _ h2
  have q3 := fun w => run_float_arith (P := Tryz.prog) w .sub 65 .f64 _ _ _ h3
  have q4 := fun w => run_float_arith (P := Tryz.prog) w .mul 65 .f64 _ _ _ h4
  have q5 := fun w => run_float_arith (P := Tryz.prog) w .mul 65 .f64 _ _ _ h5
  have q6 := fun w => run_float_arith (P := Tryz.prog) w .quo 65 .f64 _ _ _ h6
  have q7 := fun w => run_float_arith (P := Tryz.prog) w .sub 65 .f64 _ _ _ h7
  clear h1 h2 h3 h4 h5 h6 h7
  go_enter Tryz.func139, Tryz.ntmps139
  go_wp2
  go_ret
  exact ⟨rfl, rfl⟩

set_option maxRecDepth 100000 in
theorem iThird (a n m z root : Nat) (ha : amtB a = true) (h0 : a ≠ 0) (T : RootTr a n m z root) (w : World) :
    Calls Tryz.prog 118 #[.float .f32 a] w fun e w' => e = .returned (.tuple #[.float .f32 root, .int .i64 0]) ∧ w = w' := by
  have hc := fun w => run_conv_wid (P := Tryz.prog) w 22 65 a (amt_lt ha) Tryz.underlying22 Tryz.underlying65 (finB_iff.1 (amt_fin ha))
  have he : (FloatKind.f32.format.order a 0 == some .eq) = false := by
    show (S.order a 0 == some .eq) = false
    rw [order_zero_pos (amtB_iff.1 ha), Nat.compare_eq_gt.2 (by omega)]; rfl
  have hz := fun w => run_float_arith (P := Tryz.prog) w .mul 65 .f64 _ _ _ T.hz
  have ho := fun w => run_convert_float_float (P := Tryz.prog) w 65 22 .f64 .f32 z root (by rw [Tryz.underlying65]; rfl) Tryz.underlying22 T.out
  have HA := hid ha
  have HT := hid T
  clear ha h0 T
  go_enter Tryz.func118, Tryz.ntmps118
  go_wp2_with (go_at_call 62; refine (isAmount_t a HA.out _).mono ?_; rintro e w' ⟨rfl, rfl⟩)
  go_loop [4, 5] (fun b x => ∃ j : Nat, j ≤ n ∧ b = .float .f64 (bS (wid a) j) ∧ x = .float .f64 (xS 4607182418800017408 j)) (fun b _ => fltOf b)
  case atStart => exact ⟨0, Nat.zero_le _, rfl, rfl⟩
  case round =>
    obtain ⟨j, hj, rfl, rfl⟩ := hrel
    by_cases hlt : j < n
    · obtain ⟨g1, g2, g3, g4⟩ := HT.out.l1 j hlt
      have q0 : (FloatKind.f64.format.order (bS (wid a) j) 4620693217682128896 == some .gt || FloatKind.f64.format.order (bS (wid a) j) 4620693217682128896 == some .eq) = true := g1
      have q1 := fun w => run_float_arith (P := Tryz.prog) w .quo 65 .f64 _ _ _ g2
      have q2 := fun w => run_float_arith (P := Tryz.prog) w .mul 65 .f64 _ _ _ g3
      have G4 := hid g4
      clear g1 g2 g3 g4
      go_wp2
      go_round
      case rel => exact ⟨j + 1, by omega, rfl, rfl⟩
      case measure => exact G4.out
    · obtain rfl : j = n := by omega
      have q0 : (FloatKind.f64.format.order (bS (wid a) j) 4620693217682128896 == some .gt || FloatKind.f64.format.order (bS (wid a) j) 4620693217682128896 == some .eq) = false := HT.out.e1
      go_wp2
      clear q0
      go_loop [4, 5] (fun b x => ∃ i : Nat, i ≤ m ∧ b = .float .f64 (cS (bS (wid a) j) i) ∧ x = .float .f64 (yS (xS 4607182418800017408 j) i)) (fun b _ => 9218868437227405312 - fltOf b)
      case atStart => exact ⟨0, Nat.zero_le _, rfl, rfl⟩
      case round =>
        obtain ⟨i, hi, rfl, rfl⟩ := hrel
        by_cases hlt : i < m
        · obtain ⟨g1, g2, g3, g4, g5⟩ := HT.out.l2 i hlt
          have q0 : (FloatKind.f64.format.order (cS (bS (wid a) j) i) 4607182418800017408 == some .lt) = true := g1
          have q1 := fun w => run_float_arith (P := Tryz.prog) w .mul 65 .f64 _ _ _ g2
          have q2 := fun w => run_float_arith (P := Tryz.prog) w .quo 65 .f64 _ _ _ g3
          have G4 := hid g4
          have G5 := hid g5
          clear g1 g2 g3 g4 g5
          go_wp2
          go_round
          case rel => exact ⟨i + 1, by omega, rfl, rfl⟩
          case measure => have := G4.out; have := G5.out; simp only [fltOf]; omega
        · obtain rfl : i = m := by omega
          have q0 : (FloatKind.f64.format.order (cS (bS (wid a) j) i) 4607182418800017408 == some .lt) = false := HT.out.e2
          go_wp2
          clear q0
          go_loop [6, 26] (fun r k => ∃ q : Nat, q ≤ 6 ∧ k = .int .i64 q ∧ r = .float .f64 (rS (cS (bS (wid a) j) i) q)) (fun _ k => 6 - (intOf k).toNat)
          case atStart => exact ⟨0, by omega, rfl, rfl⟩
          case round =>
            obtain ⟨q, hq, rfl, rfl⟩ := hrel
            by_cases hlt : q < 6
            · have HN := hid (HT.out.l3 q hlt)
              go_wp2_with fail
              refine (nearer (cS (bS (wid a) j) i) (rS (cS (bS (wid a) j) i) q) HN.out _).mono ?_
              rintro e w' ⟨rfl, rfl⟩
              go_wp2
              go_round
              case rel => exact ⟨q + 1, by omega, by go_num, rfl⟩
              case measure => simp [intOf]; omega
            · obtain rfl : q = 6 := by omega
              go_wp2
              go_ret2
              exact ⟨rfl, rfl⟩

set_option maxRecDepth 100000 in
theorem sThird (a n m z root : Nat) (ha : amtB a = true) (h0 : a ≠ 0) (T : RootTr a n m z root) (w : World) :
    Calls Tryz.prog 136 #[.float .f32 a] w fun e w' => e = .returned (.float .f32 root) ∧ w = w' := by
  have hc := fun w => run_conv_wid (P := Tryz.prog) w 22 65 a (amt_lt ha) Tryz.underlying22 Tryz.underlying65 (finB_iff.1 (amt_fin ha))
  have he : (FloatKind.f32.format.order a 0 == some .eq) = false := by
    show (S.order a 0 == some .eq) = false
    rw [order_zero_pos (amtB_iff.1 ha), Nat.compare_eq_gt.2 (by omega)]; rfl
  have hz := fun w => run_float_arith (P := Tryz.prog) w .mul 65 .f64 _ _ _ T.hz
  have ho := fun w => run_convert_float_float (P := Tryz.prog) w 65 22 .f64 .f32 z root (by rw [Tryz.underlying65]; rfl) Tryz.underlying22 T.out
  have HT := hid T
  clear ha h0 T
  go_enter Tryz.func136, Tryz.ntmps136
  go_wp2
  go_loop [3, 4] (fun b x => ∃ j : Nat, j ≤ n ∧ b = .float .f64 (bS (wid a) j) ∧ x = .float .f64 (xS 4607182418800017408 j)) (fun b _ => fltOf b)
  case atStart => exact ⟨0, Nat.zero_le _, rfl, rfl⟩
  case round =>
    obtain ⟨j, hj, rfl, rfl⟩ := hrel
    by_cases hlt : j < n
    · obtain ⟨g1, g2, g3, g4⟩ := HT.out.l1 j hlt
      have q0 : (FloatKind.f64.format.order (bS (wid a) j) 4620693217682128896 == some .gt || FloatKind.f64.format.order (bS (wid a) j) 4620693217682128896 == some .eq) = true := g1
      have q1 := fun w => run_float_arith (P := Tryz.prog) w .quo 65 .f64 _ _ _ g2
      have q2 := fun w => run_float_arith (P := Tryz.prog) w .mul 65 .f64 _ _ _ g3
      have G4 := hid g4
      clear g1 g2 g3 g4
      go_wp2
      go_round
      case rel => exact ⟨j + 1, by omega, rfl, rfl⟩
      case measure => exact G4.out
    · obtain rfl : j = n := by omega
      have q0 : (FloatKind.f64.format.order (bS (wid a) j) 4620693217682128896 == some .gt || FloatKind.f64.format.order (bS (wid a) j) 4620693217682128896 == some .eq) = false := HT.out.e1
      go_wp2
      clear q0
      go_loop [3, 4] (fun b x => ∃ i : Nat, i ≤ m ∧ b = .float .f64 (cS (bS (wid a) j) i) ∧ x = .float .f64 (yS (xS 4607182418800017408 j) i)) (fun b _ => 9218868437227405312 - fltOf b)
      case atStart => exact ⟨0, Nat.zero_le _, rfl, rfl⟩
      case round =>
        obtain ⟨i, hi, rfl, rfl⟩ := hrel
        by_cases hlt : i < m
        · obtain ⟨g1, g2, g3, g4, g5⟩ := HT.out.l2 i hlt
          have q0 : (FloatKind.f64.format.order (cS (bS (wid a) j) i) 4607182418800017408 == some .lt) = true := g1
          have q1 := fun w => run_float_arith (P := Tryz.prog) w .mul 65 .f64 _ _ _ g2
          have q2 := fun w => run_float_arith (P := Tryz.prog) w .quo 65 .f64 _ _ _ g3
          have G4 := hid g4
          have G5 := hid g5
          clear g1 g2 g3 g4 g5
          go_wp2
          go_round
          case rel => exact ⟨i + 1, by omega, rfl, rfl⟩
          case measure => have := G4.out; have := G5.out; simp only [fltOf]; omega
        · obtain rfl : i = m := by omega
          have q0 : (FloatKind.f64.format.order (cS (bS (wid a) j) i) 4607182418800017408 == some .lt) = false := HT.out.e2
          go_wp2
          clear q0
          go_loop [5, 6] (fun r k => ∃ q : Nat, q ≤ 6 ∧ k = .int .i64 q ∧ r = .float .f64 (rS (cS (bS (wid a) j) i) q)) (fun _ k => 6 - (intOf k).toNat)
          case atStart => exact ⟨0, by omega, rfl, rfl⟩
          case round =>
            obtain ⟨q, hq, rfl, rfl⟩ := hrel
            by_cases hlt : q < 6
            · obtain ⟨h1, h2, h3, h4, h5, h6, h7⟩ := HT.out.l3 q hlt
              have q1 := fun w => run_float_arith (P := Tryz.prog) w .mul 65 .f64 _ _ _ h1
              have q2 := fun w => run_float_arith (P := Tryz.prog) w .mul 65 .f64 _ _ _ h2
              have q3 := fun w => run_float_arith (P := Tryz.prog) w .sub 65 .f64 _ _ _ h3
              have q4 := fun w => run_float_arith (P := Tryz.prog) w .mul 65 .f64 _ _ _ h4
              have q5 := fun w => run_float_arith (P := Tryz.prog) w .mul 65 .f64 _ _ _ h5
              have q6 := fun w => run_float_arith (P := Tryz.prog) w .quo 65 .f64 _ _ _ h6
              have q7 := fun w => run_float_arith (P := Tryz.prog) w .sub 65 .f64 _ _ _ h7
              clear h1 h2 h3 h4 h5 h6 h7
              go_wp2
              go_round
              case rel => exact ⟨q + 1, by omega, by go_num, rfl⟩
              case measure => simp [intOf]; omega
            · obtain rfl : q = 6 := by omega
              go_wp2
              go_ret
              exact ⟨rfl, rfl⟩

theorem mass_ne33 {k : Nat} : mass k ≠ 0 := by unfold mass; omega

theorem iThirdMass (k : Nat) (hk : k < 20) (w : World) :
    Calls Tryz.prog 118 #[.float .f32 (mass k)] w fun e w' => e = .returned (.tuple #[.float .f32 (rad k), .int .i64 0]) ∧ w = w' :=
  iThird (mass k) (k / 3) 0 (rz k) (rad k) (mass_amt hk) mass_ne33 (tr_one hk).1 w

theorem sThirdMass (k : Nat) (hk : k < 20) (w : World) :
    Calls Tryz.prog 136 #[.float .f32 (mass k)] w fun e w' => e = .returned (.float .f32 (rad k)) ∧ w = w' :=
  sThird (mass k) (k / 3) 0 (rz k) (rad k) (mass_amt hk) mass_ne33 (tr_one hk).1 w

theorem iRadius (k : Nat) (hk : k < 20) (w : World) :
    Calls Tryz.prog 85 #[.int .i64 (k : Int)] w fun e w' => e = .returned (.tuple #[.float .f32 (rad k), .int .i64 0]) ∧ w = w' := by
  have HK := hid hk
  clear hk
  go_enter Tryz.func85, Tryz.ntmps85
  go_wp2_with (first | (go_at_call 117; refine (isClass_t k HK.out _).mono ?_; rintro e w' ⟨rfl, rfl⟩) | (go_at_call 57; refine (iMass k HK.out _).mono ?_; rintro e w' ⟨rfl, rfl⟩) | (go_at_call 118; refine (iThirdMass k HK.out _).mono ?_; rintro e w' ⟨rfl, rfl⟩))
  go_ret2
  exact ⟨rfl, rfl⟩

theorem sRad (k : Nat) (hk : k < 20) (w : World) :
    Calls Tryz.prog 111 #[.int .i64 (k : Int)] w fun e w' => e = .returned (.float .f32 (rad k)) ∧ w = w' := by
  have HK := hid hk
  clear hk
  go_enter Tryz.func111, Tryz.ntmps111
  go_wp2_with (first | (go_at_call 83; refine (sMass k HK.out _).mono ?_; rintro e w' ⟨rfl, rfl⟩) | (go_at_call 136; refine (sThirdMass k HK.out _).mono ?_; rintro e w' ⟨rfl, rfl⟩))
  go_ret
  exact ⟨rfl, rfl⟩

set_option maxRecDepth 100000 in
theorem toAir (h v : Nat) (w : World) :
    Calls Tryz.prog 54 #[.agg #[.float .f32 h, .float .f32 v]] w fun e w' => e = .returned (.agg #[.float .f32 h, .float .f32 v]) ∧ Below w.heap.size w w' := by
  have k0 : Hid (Kept w [(w.heap.size + 1, #[.float .f32 h, .float .f32 v], 32)] (((w.alloc (.cells #[.float .f32 h, .float .f32 v] 26)).alloc (.cells #[.float .f32 h, .float .f32 v] 32)).alloc (.cells #[.float .f32 h, .float .f32 v] 32))) := hid (((((Kept.nil w).push _ _).push _ _).push _ _).sub (by simp))
  go_enter Tryz.func54, Tryz.ntmps54
  go_wp2
  exact bodyPost_ret (results_cell_row rfl _ _ (w.heap.size + 1) 32 #[.float .f32 h, .float .f32 v] (0, 0) _ rfl (k0.out.at (x := (w.heap.size + 1, #[.float .f32 h, .float .f32 v], 32)) (by simp)) Tryz.underlying32 rfl info_air) rfl ⟨rfl, k0.out.1⟩

set_option maxRecDepth 100000 in
theorem eqAir (h v : Nat) (hh : h < 4294967296) (hv : v < 4294967296) (fh : finB h = true) (fv : finB v = true) (w : World) :
    Calls Tryz.prog 59 #[.agg #[.float .f32 h, .float .f32 v], .agg #[.float .f32 h, .float .f32 v]] w fun e w' => e = .returned (.bool true) ∧ Below w.heap.size w w' := by
  have hc0 := fun w => run_conv_wid (P := Tryz.prog) w 22 65 h hh Tryz.underlying22 Tryz.underlying65 (finB_iff.1 fh)
  have hc1 := fun w => run_conv_wid (P := Tryz.prog) w 22 65 v hv Tryz.underlying22 Tryz.underlying65 (finB_iff.1 fv)
  have Hh := hid hh
  have Hv := hid hv
  have Fh := hid fh
  have Fv := hid fv
  have b0 := boxed2 w (.cells #[.float .f32 h, .float .f32 v] 32) (.cells #[.float .f32 h, .float .f32 v] 32)
  clear hh hv fh fv
  go_enter Tryz.func59, Tryz.ntmps59
  go_wp2_with fail
  refine (sameFloat h Hh.out Fh.out _).mono ?_
  rintro e w1 ⟨rfl, rfl⟩
  go_wp2_with fail
  refine (sameFloat v Hv.out Fv.out _).mono ?_
  rintro e w1 ⟨rfl, rfl⟩
  go_wp2
  go_ret
  exact ⟨rfl, b0⟩

theorem iHeat (x : Nat) (q : Bool) (hq : heatB x = q) (w : World) :
    Calls Tryz.prog 86 #[.float .f32 x] w fun e w' => e = .returned (.bool q) ∧ w = w' := by
  have h1 : heatB x = ((FloatKind.f32.format.order x 3262119936 == some .gt || FloatKind.f32.format.order x 3262119936 == some .eq) && (FloatKind.f32.format.order x 1114636288 == some .lt || FloatKind.f32.format.order x 1114636288 == some .eq)) := rfl
  rw [h1] at hq
  clear h1
  rcases a : (FloatKind.f32.format.order x 3262119936 == some .gt || FloatKind.f32.format.order x 3262119936 == some .eq) with _ | _
  · rw [a] at hq
    simp only [Bool.false_and] at hq
    subst hq
    go_enter Tryz.func86, Tryz.ntmps86
    go_wp2
    go_ret
    exact ⟨rfl, rfl⟩
  · rw [a] at hq
    simp only [Bool.true_and] at hq
    cases q
    all_goals
      go_enter Tryz.func86, Tryz.ntmps86
      go_wp2
      go_ret
      exact ⟨rfl, rfl⟩

theorem sHeat (x : Nat) (q : Bool) (hq : heatB x = q) (w : World) :
    Calls Tryz.prog 78 #[.float .f32 x] w fun e w' => e = .returned (.bool q) ∧ w = w' := by
  have h1 : heatB x = ((FloatKind.f32.format.order x 3262119936 == some .gt || FloatKind.f32.format.order x 3262119936 == some .eq) && (FloatKind.f32.format.order x 1114636288 == some .lt || FloatKind.f32.format.order x 1114636288 == some .eq)) := rfl
  rw [h1] at hq
  clear h1
  rcases a : (FloatKind.f32.format.order x 3262119936 == some .gt || FloatKind.f32.format.order x 3262119936 == some .eq) with _ | _
  · rw [a] at hq
    simp only [Bool.false_and] at hq
    subst hq
    go_enter Tryz.func78, Tryz.ntmps78
    go_wp2
    go_ret
    exact ⟨rfl, rfl⟩
  · rw [a] at hq
    simp only [Bool.true_and] at hq
    cases q
    all_goals
      go_enter Tryz.func78, Tryz.ntmps78
      go_wp2
      go_ret
      exact ⟨rfl, rfl⟩

set_option maxRecDepth 100000 in
theorem iValidAir (h v : Nat) (hv : v < 4294967296) (q : Bool) (hq : airB h v = q) (w : World) :
    Calls Tryz.prog 61 #[.agg #[.float .f32 h, .float .f32 v]] w fun e w' => e = .returned (.bool q) ∧ Below w.heap.size w w' := by
  have b0 := boxed w (.cells #[.float .f32 h, .float .f32 v] 32)
  have Hv := hid hv
  have e1 : airB h v = (heatB h && amtB v && vapB v) := rfl
  rw [e1] at hq
  clear hv e1
  rcases a : heatB h with _ | _
  · have Ha := hid a
    rw [a] at hq
    simp only [Bool.false_and] at hq
    subst hq
    clear a
    go_enter Tryz.func61, Tryz.ntmps61
    go_wp2_with fail
    refine (iHeat h false Ha.out _).mono ?_
    rintro e w1 ⟨rfl, rfl⟩
    go_wp2
    go_ret
    exact ⟨rfl, b0⟩
  · have Ha := hid a
    rw [a] at hq
    clear a
    rcases b : amtB v with _ | _
    · have Hb := hid b
      rw [b] at hq
      simp only [Bool.and_false, Bool.false_and] at hq
      subst hq
      clear b
      go_enter Tryz.func61, Tryz.ntmps61
      go_wp2_with fail
      refine (iHeat h true Ha.out _).mono ?_
      rintro e w1 ⟨rfl, rfl⟩
      go_wp2_with fail
      refine (isAmount_f v Hv.out Hb.out _).mono ?_
      rintro e w1 ⟨rfl, hb1⟩
      go_wp2
      go_ret
      exact ⟨rfl, stp b0 (Nat.le_refl _) hb1⟩
    · have Hb := hid b
      rw [b] at hq
      simp only [Bool.true_and] at hq
      have hc : (FloatKind.f32.format.order v 1148846080 == some .lt || FloatKind.f32.format.order v 1148846080 == some .eq) = q := hq
      clear b hq
      cases q
      all_goals
        go_enter Tryz.func61, Tryz.ntmps61
        go_wp2_with fail
        refine (iHeat h true Ha.out _).mono ?_
        rintro e w1 ⟨rfl, rfl⟩
        go_wp2_with fail
        refine (isAmount_t v Hb.out _).mono ?_
        rintro e w1 ⟨rfl, rfl⟩
        go_wp2
        go_ret
        exact ⟨rfl, b0⟩

set_option maxRecDepth 100000 in
theorem sAirOk_f (h v : Nat) (hv : v < 4294967296) (hq : airB h v = false) (w : World) (g : Nat) (T : TypeId) (hg : airAt w g h v T) :
    Calls Tryz.prog 48 #[.pointer (some ⟨g, 0, none⟩)] w fun e w' => e = .returned (.bool false) ∧ Below w.heap.size w w' := by
  have c0 := hg.c0
  have c1 := hg.c1
  have Hv := hid hv
  have e1 : airB h v = (heatB h && amtB v && vapB v) := rfl
  rw [e1] at hq
  clear hv e1 hg
  rcases a : heatB h with _ | _
  · have Ha := hid a
    clear a hq
    go_enter Tryz.func48, Tryz.ntmps48
    go_wp2_with fail
    refine (sHeat h false Ha.out _).mono ?_
    rintro e w1 ⟨rfl, rfl⟩
    go_wp2
    go_ret
    exact ⟨rfl, Below.refl _ _⟩
  · have Ha := hid a
    rw [a] at hq
    clear a
    rcases b : amtB v with _ | _
    · have Hb := hid b
      clear b hq
      go_enter Tryz.func48, Tryz.ntmps48
      go_wp2_with fail
      refine (sHeat h true Ha.out _).mono ?_
      rintro e w1 ⟨rfl, rfl⟩
      go_wp2_with fail
      refine (sAmount_f v Hv.out Hb.out _).mono ?_
      rintro e w1 ⟨rfl, hb1⟩
      go_wp2
      go_ret
      exact ⟨rfl, hb1⟩
    · have Hb := hid b
      rw [b] at hq
      simp only [Bool.true_and] at hq
      have hc : (FloatKind.f32.format.order v 1148846080 == some .lt || FloatKind.f32.format.order v 1148846080 == some .eq) = false := hq
      clear b hq
      go_enter Tryz.func48, Tryz.ntmps48
      go_wp2_with fail
      refine (sHeat h true Ha.out _).mono ?_
      rintro e w1 ⟨rfl, rfl⟩
      go_wp2_with fail
      refine (sAmount_t v Hb.out _).mono ?_
      rintro e w1 ⟨rfl, rfl⟩
      go_wp2
      go_ret
      exact ⟨rfl, Below.refl _ _⟩

set_option maxRecDepth 100000 in
theorem sAirOk_t (h v : Nat) (hq : airB h v = true) (w : World) (g : Nat) (T : TypeId) (hg : airAt w g h v T) :
    Calls Tryz.prog 48 #[.pointer (some ⟨g, 0, none⟩)] w fun e w' => e = .returned (.bool true) ∧ w = w' := by
  have c0 := hg.c0
  have c1 := hg.c1
  obtain ⟨a, b, c⟩ := airB_iff.1 hq
  have hc : (FloatKind.f32.format.order v 1148846080 == some .lt || FloatKind.f32.format.order v 1148846080 == some .eq) = true := c
  have Ha := hid a
  have Hb := hid b
  clear a b c hq hg
  go_enter Tryz.func48, Tryz.ntmps48
  go_wp2_with fail
  refine (sHeat h true Ha.out _).mono ?_
  rintro e w1 ⟨rfl, rfl⟩
  go_wp2_with fail
  refine (sAmount_t v Hb.out _).mono ?_
  rintro e w1 ⟨rfl, rfl⟩
  go_wp2
  go_ret
  exact ⟨rfl, rfl⟩

theorem sAirOk (h v : Nat) (hv : v < 4294967296) (q : Bool) (hq : airB h v = q) (w : World) (g : Nat) (T : TypeId) (hg : airAt w g h v T) :
    Calls Tryz.prog 48 #[.pointer (some ⟨g, 0, none⟩)] w fun e w' => e = .returned (.bool q) ∧ Below w.heap.size w w' := by
  cases q
  · exact sAirOk_f h v hv hq w g T hg
  · exact loose (sAirOk_t h v hq w g T hg)

theorem ext_floor (X K : Nat) (h : D.write ((D.read X).integral .down) = K) (hn : ∃ s m e, D.read X = .number s m e) (w : World) : (callFunc 161 #[.float .f64 X]).run Tryz.prog w = .ok (.value (.float .f64 K)) w := by
  rw [run_callFunc_extern Tryz.func161 (by kernel_rfl) (by kernel_rfl) (by kernel_rfl) (e := Extern.MathFloor.toIntegral "math.archFloor" .down) (by kernel_rfl)]
  obtain ⟨s, m, e, hr⟩ := hn
  have hr' : FloatKind.f64.decode X = .number s m e := hr
  rw [hr] at h
  have h' : FloatKind.f64.encode ((Ieee.Datum.number s m e).integral .down) = K := h
  have e2 : (Extern.MathFloor.toIntegral "math.archFloor" .down #[.float .f64 X]).run Tryz.prog w = .ok (.float .f64 K) w := by
    rw [← h']
    show Sem.run _ (match FloatKind.f64.decode X with | .nan _ _ => _ | d => (pure (Value.float .f64 (FloatKind.f64.encode (d.integral .down))) : Sem Value)) w = _
    rw [hr']
    rfl
  rw [e2]
  rfl

theorem floor_f64 (X K : Nat) (h : D.write ((D.read X).integral .down) = K) (hn : ∃ s m e, D.read X = .number s m e) (w : World) :
    Calls Tryz.prog 155 #[.float .f64 X] w fun e w' => e = .returned (.float .f64 K) ∧ w = w' := by
  have hx := fun w => ext_floor X K h hn w
  clear h hn
  go_enter Tryz.func155, Tryz.ntmps155
  go_wp2
  go_ret
  exact ⟨rfl, rfl⟩

theorem normalize_f64 (y : Nat) (h0 : 4503599627370496 ≤ y) (h1 : y < 9218868437227405312) (w : World) :
    Calls Tryz.prog 168 #[.float .f64 y] w fun e w' => e = .returned (.tuple #[.float .f64 y, .int .i64 0]) ∧ w = w' := by
  have hl := hid (show y < 18446744073709551616 by omega)
  have hm : y % 9223372036854775808 = y := Nat.mod_eq_of_lt (by omega)
  have hc : (FloatKind.f64.format.order y 4503599627370496 == some .lt) = false := by
    show (D.order y 4503599627370496 == some .lt) = false
    rw [order_ltD (by rw [DINF_val]; omega) (by rw [DINF_val]; decide)]
    rcases Nat.lt_or_eq_of_le h0 with h | h
    · rw [Nat.compare_eq_gt.2 h]; rfl
    · rw [Nat.compare_eq_eq.2 h.symm]; rfl
  have Hm := hid hm
  clear h0 h1 hm
  go_enter Tryz.func168, Tryz.ntmps168
  go_wp2_with fail
  refine (abs_f64 y hl.out _).mono ?_
  rintro e w1 ⟨rfl, rfl⟩
  rw [Hm.out]
  go_wp2
  go_ret2
  exact ⟨rfl, rfl⟩

theorem mul_ONE {r : Nat} (h : r < DINF) : D.mul 4607182418800017408 r = some r := by
  obtain ⟨m1, m2⟩ := mul_eqD (x := 4607182418800017408) (y := r) (by decide) (amtB_iffD.2 h)
  rw [m1, fmul_valD (by rw [DINF_val]; decide) h]
  refine congrArg some (Eq.trans (nearest_congrD (m' := valD r) (E := -1074) (E' := 0) 0 VONED (by have := VONED_val; omega) ?_) (nearest_valD h))
  rw [val_ONED, Nat.pow_zero, Nat.mul_one, Nat.mul_comm]

set_option maxRecDepth 100000 in
theorem ldexp_f64 (y : Nat) (n : Int) (h0 : 4607182418800017408 ≤ y) (h1 : y < 4688246992172703744) (t : Int) (R : Nat) (E : Exps y n t R) (hRf : R < DINF) (hn : -100 ≤ n) (hn2 : n ≤ 100) (w : World) :
    Calls Tryz.prog 164 #[.float .f64 y, .int .i64 n] w fun e w' => e = .returned (.float .f64 R) ∧ w = w' := by
  have hy0 : (FloatKind.f64.format.order y 0 == some .eq) = false := by
    show (D.order y 0 == some .eq) = false
    rw [order_ltD (by rw [DINF_val]; omega) (by rw [DINF_val]; decide), Nat.compare_eq_gt.2 (by omega)]; rfl
  have hl := hid (show y < 18446744073709551616 by omega)
  have hn1 := hid (show 4503599627370496 ≤ y by omega)
  have hn3 := hid (show y < 9218868437227405312 by omega)
  have hi := hid (show (FloatKind.f64.format.order (y % 9223372036854775808) 9218868437227405311 == some .gt) = false by
    rw [Nat.mod_eq_of_lt (by omega)]
    show (D.order y 9218868437227405311 == some .gt) = false
    rw [order_ltD (by rw [DINF_val]; omega) (by rw [DINF_val]; decide), Nat.compare_eq_lt.2 (by omega)]; rfl)
  have hq := hid (show (FloatKind.f64.format.order y y != some .eq) = false by
    show (D.order y y != some .eq) = false
    rw [order_ltD (by rw [DINF_val]; omega) (by rw [DINF_val]; omega), Nat.compare_eq_eq.2 rfl]; rfl)
  have hm := fun w => run_float_arith (P := Tryz.prog) w .mul 65 .f64 4607182418800017408 R R (mul_ONE hRf)
  obtain ⟨ht, d1, d2, d3, hR⟩ := E
  clear h0 h1 hRf
  go_enter Tryz.func164, Tryz.ntmps164
  go_wp2_with fail
  refine (isInf_f64 y hl.out _).mono ?_
  rintro e w1 ⟨rfl, rfl⟩
  rw [hi.out]
  go_wp2_with fail
  refine (isNaN_f64 y _).mono ?_
  rintro e w1 ⟨rfl, rfl⟩
  rw [hq.out]
  go_wp2_with fail
  refine (normalize_f64 y hn1.out hn3.out _).mono ?_
  rintro e w1 ⟨rfl, rfl⟩
  go_wp2
  go_ret
  exact ⟨rfl, rfl⟩

theorem Ldexp_f64 (y : Nat) (n : Int) (h0 : 4607182418800017408 ≤ y) (h1 : y < 4688246992172703744) (t : Int) (R : Nat) (E : Exps y n t R) (hRf : R < DINF) (hn : -100 ≤ n) (hn2 : n ≤ 100) (w : World) :
    Calls Tryz.prog 156 #[.float .f64 y, .int .i64 n] w fun e w' => e = .returned (.float .f64 R) ∧ w = w' := by
  have H0 := hid h0
  have H1 := hid h1
  have HE := hid E
  have HR := hid hRf
  have HN := hid hn
  have HN2 := hid hn2
  clear h0 h1 E hRf hn hn2
  go_enter Tryz.func156, Tryz.ntmps156
  go_wp2_with fail
  refine (ldexp_f64 y n H0.out H1.out t R HE.out HR.out HN.out HN2.out _).mono ?_
  rintro e w1 ⟨rfl, rfl⟩
  go_wp2
  go_ret
  exact ⟨rfl, rfl⟩

set_option maxRecDepth 100000 in
theorem iTwo (x j : Nat) (hx : x < 4294967296) (hf : finB x = true) (T : TwoF x j) (hj : j ≤ 100) (w : World) :
    Calls Tryz.prog 147 #[.float .f32 x] w fun e w' => e = .returned (.float .f32 (two x)) ∧ w = w' := by
  have hc := fun w => run_conv_wid (P := Tryz.prog) w 22 65 x hx Tryz.underlying22 Tryz.underlying65 (finB_iff.1 hf)
  have hs := fun w => run_float_arith (P := Tryz.prog) w .sub 65 .f64 _ _ _ T.sub
  have hm := fun w => run_float_arith (P := Tryz.prog) w .mul 65 .f64 _ _ _ T.mul
  have hi := fun w => run_convert_float_int (P := Tryz.prog) w 65 3 .f64 .i64 (kF x) (iF x) (by rw [Tryz.underlying65]; rfl) Tryz.underlying3 (iF_conv T hj)
  have ho := fun w => run_convert_float_float (P := Tryz.prog) w 65 22 .f64 .f32 (rF x) (two x) (by rw [Tryz.underlying65]; rfl) Tryz.underlying22 (two_bounds T hj).2.2
  have E := exps T.s1 T.s2 (iF_bd T hj).1 (iF_bd T hj).2
  rw [rF_word T hj] at E
  have HE := hid E
  have HT := hid T
  have HJ := hid hj
  clear hx hf T hj E
  go_enter Tryz.func147, Tryz.ntmps147
  go_wp2_with fail
  refine (floor_f64 (wid x) (kF x) HT.out.fl HT.out.num _).mono ?_
  rintro e w1 ⟨rfl, rfl⟩
  go_wp2_with fail
  go_loop [5, 6] (fun s i => ∃ m : Nat, m ≤ 14 ∧ i = .int .i64 m ∧ s = .float .f64 (ser (yF x) (14 - m))) (fun _ i => (intOf i).toNat)
  case atStart => exact ⟨14, by omega, rfl, rfl⟩
  case round =>
    obtain ⟨m, hm14, rfl, rfl⟩ := hrel
    by_cases h1 : 1 ≤ m
    · obtain ⟨q, p, s⟩ := term2 HT.out.y h1 hm14
      have q1 := fun w => run_float_arith (P := Tryz.prog) w .quo 65 .f64 _ _ _ q
      have q2 := fun w => run_float_arith (P := Tryz.prog) w .mul 65 .f64 _ _ _ p
      have q3 := fun w => run_float_arith (P := Tryz.prog) w .add 65 .f64 _ _ _ s
      clear q p s
      go_wp2
      go_round
      case rel => exact ⟨m - 1, by omega, by rw [show ((m - 1 : Nat) : Int) = (m : Int) - 1 by omega], rfl⟩
      case measure => simp [intOf]; omega
    · obtain rfl : m = 0 := by omega
      clear hs hm
      have hS : ser (yF x) (14 - 0) = sF x := rfl
      rw [hS]
      clear hS
      go_wp2_with fail
      refine (Ldexp_f64 (sF x) (iF x) HT.out.s1 HT.out.s2 _ (rF x) HE.out (rF_lt HT.out HJ.out) (iF_bd HT.out HJ.out).1 (iF_bd HT.out HJ.out).2 _).mono ?_
      rintro e w1 ⟨rfl, rfl⟩
      go_wp2
      go_ret
      exact ⟨rfl, rfl⟩

theorem s_pos {x j i : Nat} (T : TwoF x j) (hj : j ≤ 100) (hi : i < nF x) : D.mul (sF x + i * 4503599627370496) 4611686018427387904 = some (sF x + (i + 1) * 4503599627370496) := by
  have h := dbl (s := sF x + i * 4503599627370496) (by have := T.s1; omega) (by have := T.s2; have := T.n; rw [DINF_val]; omega)
  rw [h, Nat.add_mul i 1, Nat.one_mul, Nat.add_assoc]

theorem s_neg {x j i : Nat} (T : TwoF x j) (hj : j ≤ 100) (hi : i < nF x) : D.div (sF x - i * 4503599627370496) 4611686018427387904 = some (sF x - (i + 1) * 4503599627370496) := by
  have h := hlv (s := sF x - i * 4503599627370496) (by have := T.s1; have := T.n; omega) (by have := T.s2; rw [DINF_val]; omega)
  rw [h, Nat.add_mul i 1, Nat.one_mul, Nat.sub_sub]

set_option maxRecDepth 100000 in
set_option maxHeartbeats 1000000 in
theorem sTwo (x j : Nat) (hx : x < 4294967296) (hf : finB x = true) (T : TwoF x j) (hj : j ≤ 100) (w : World) :
    Calls Tryz.prog 150 #[.float .f32 x] w fun e w' => e = .returned (.float .f32 (two x)) ∧ w = w' := by
  have hc := fun w => run_conv_wid (P := Tryz.prog) w 22 65 x hx Tryz.underlying22 Tryz.underlying65 (finB_iff.1 hf)
  have hs := fun w => run_float_arith (P := Tryz.prog) w .sub 65 .f64 _ _ _ T.sub
  have hm := fun w => run_float_arith (P := Tryz.prog) w .mul 65 .f64 _ _ _ T.mul
  have ho := fun w => run_convert_float_float (P := Tryz.prog) w 65 22 .f64 .f32 (rF x) (two x) (by rw [Tryz.underlying65]; rfl) Tryz.underlying22 (two_bounds T hj).2.2
  have hn := hid (show nF x ≤ 100 by have := T.n; omega)
  have HT := hid T
  have HJ := hid hj
  have hk : kF x = kW (sgB x) (nF x) := rfl
  have hr : rF x = if sgB x = true then sF x - nF x * 4503599627370496 else sF x + nF x * 4503599627370496 := rfl
  have HK := hid hk
  have HR := hid hr
  clear hx hf T hj hk hr
  go_enter Tryz.func150, Tryz.ntmps150
  go_wp2_with fail
  refine (floor_f64 (wid x) (kF x) HT.out.fl HT.out.num _).mono ?_
  rintro e w1 ⟨rfl, rfl⟩
  go_wp2_with fail
  go_loop [5, 6] (fun s i => ∃ m : Nat, m ≤ 14 ∧ i = .int .i64 m ∧ s = .float .f64 (ser (yF x) (14 - m))) (fun _ i => (intOf i).toNat)
  case atStart => exact ⟨14, by omega, rfl, rfl⟩
  case round =>
    obtain ⟨m, hm14, rfl, rfl⟩ := hrel
    by_cases h1 : 1 ≤ m
    · obtain ⟨q, p, s⟩ := term2 HT.out.y h1 hm14
      have q1 := fun w => run_float_arith (P := Tryz.prog) w .quo 65 .f64 _ _ _ q
      have q2 := fun w => run_float_arith (P := Tryz.prog) w .mul 65 .f64 _ _ _ p
      have q3 := fun w => run_float_arith (P := Tryz.prog) w .add 65 .f64 _ _ _ s
      clear q p s
      go_wp2
      go_round
      case rel => exact ⟨m - 1, by omega, by rw [show ((m - 1 : Nat) : Int) = (m : Int) - 1 by omega], rfl⟩
      case measure => simp [intOf]; omega
    · obtain rfl : m = 0 := by omega
      clear hs hm
      have hS : ser (yF x) (14 - 0) = sF x := rfl
      rw [hS]
      clear hS
      rcases hsg : sgB x with _ | _
      · have hk0 : kF x = kW false (nF x - 0) := by rw [HK.out, hsg]; rfl
        have hr0 := HR.out
        rw [hsg, if_neg (by decide)] at hr0
        have HR0 := hid hr0
        rw [hk0]
        clear hr0 hsg hk0
        go_wp2
        go_loop [3, 5] (fun k s => ∃ i : Nat, i ≤ nF x ∧ k = .float .f64 (kW false (nF x - i)) ∧ s = .float .f64 (sF x + i * 4503599627370496)) (fun k _ => fltOf k)
        case atStart => exact ⟨0, by omega, rfl, by simp⟩
        case round =>
          obtain ⟨i, hi, rfl, rfl⟩ := hrel
          by_cases hlt : i < nF x
          · have K := kFacts (N := nF x - i) (by have := hn.out; omega)
            have q0 : (FloatKind.f64.format.order (kW false (nF x - i)) 0 == some .gt) = true := by
              show (D.order (kW false (nF x - i)) 0 == some .gt) = true
              rw [K.ordP, if_neg (by omega : ¬ nF x - i = 0)]; rfl
            have q1 := fun w => run_float_arith (P := Tryz.prog) w .mul 65 .f64 _ _ _ (s_pos HT.out HJ.out hlt)
            have q2 := fun w => run_float_arith (P := Tryz.prog) w .sub 65 .f64 _ _ _ (K.sub (by omega))
            have q3 := hid (show kW false (nF x - i - 1) < kW false (nF x - i) by
              have := kW_lt (N := nF x - i - 1) (by have := hn.out; omega)
              rwa [show nF x - i - 1 + 1 = nF x - i by omega] at this)
            clear K
            go_wp2
            go_round
            case rel => exact ⟨i + 1, by omega, by rw [show nF x - (i + 1) = nF x - i - 1 by omega], rfl⟩
            case measure => exact q3.out
          · obtain rfl : i = nF x := by omega
            rw [Nat.sub_self, ← HR0.out]
            have q0 : (FloatKind.f64.format.order (kW false 0) 0 == some .gt) = false := by decide +kernel
            have q1 : (FloatKind.f64.format.order (kW false 0) 0 == some .lt) = false := by decide +kernel
            go_wp2
            go_loop [3, 5] (fun k s => k = .float .f64 (kW false 0) ∧ s = .float .f64 (rF x)) (fun _ _ => 0)
            case atStart => exact ⟨rfl, rfl⟩
            case round =>
              obtain ⟨rfl, rfl⟩ := hrel
              go_wp2
              go_ret
              exact ⟨rfl, rfl⟩
      · have hk0 : kF x = kU (nF x) 0 := by
          rw [HK.out, hsg]
          unfold kU
          by_cases h0 : nF x = 0
          · rw [if_neg (by omega), if_pos h0, h0]
          · rw [if_pos (by omega)]; rfl
        have hr0 := HR.out
        rw [hsg, if_pos rfl] at hr0
        have HR0 := hid hr0
        rw [hk0]
        have q0 : (FloatKind.f64.format.order (kU (nF x) 0) 0 == some .gt) = false := by
          rw [← hk0, HK.out, hsg]
          show (D.order (kW true (nF x)) 0 == some .gt) = false
          rw [(kFacts hn.out).ordN]
          split <;> rfl
        clear hr0 hsg hk0
        go_wp2
        go_loop [3, 5] (fun k s => k = .float .f64 (kU (nF x) 0) ∧ s = .float .f64 (sF x)) (fun _ _ => 0)
        case atStart => exact ⟨rfl, rfl⟩
        case round =>
          obtain ⟨rfl, rfl⟩ := hrel
          go_wp2
          clear q0
          go_loop [3, 5] (fun k s => ∃ i : Nat, i ≤ nF x ∧ k = .float .f64 (kU (nF x) i) ∧ s = .float .f64 (sF x - i * 4503599627370496)) (fun k _ => fltOf k)
          case atStart => exact ⟨0, by omega, rfl, by simp⟩
          case round =>
            obtain ⟨i, hi, rfl, rfl⟩ := hrel
            by_cases hlt : i < nF x
            · obtain ⟨k1, k2, k3⟩ := kU_step hn.out hlt
              have q0 : (FloatKind.f64.format.order (kU (nF x) i) 0 == some .lt) = true := k3
              have q1 := fun w => run_float_arith (P := Tryz.prog) w .quo 65 .f64 _ _ _ (s_neg HT.out HJ.out hlt)
              have q2 := fun w => run_float_arith (P := Tryz.prog) w .add 65 .f64 _ _ _ k1
              have q3 := hid k2
              clear k1 k2 k3
              go_wp2
              go_round
              case rel => exact ⟨i + 1, by omega, rfl, rfl⟩
              case measure => exact q3.out
            · obtain rfl : i = nF x := by omega
              rw [← HR0.out]
              have q1 : (FloatKind.f64.format.order (kU (nF x) (nF x)) 0 == some .lt) = false := kU_end
              go_wp2
              go_ret
              exact ⟨rfl, rfl⟩

theorem iSat (h : Nat) (F : SatF h) (w : World) :
    Calls Tryz.prog 127 #[.float .f32 h] w fun e w' => e = .returned (.float .f32 (satF h)) ∧ w = w' := by
  have hd := fun w => run_float_arith (P := Tryz.prog) w .quo 22 .f32 _ _ _ F.div
  have hm := fun w => run_float_arith (P := Tryz.prog) w .mul 22 .f32 _ _ _ F.mul
  have HF := hid F
  clear F
  go_enter Tryz.func127, Tryz.ntmps127
  go_wp2_with fail
  refine (iTwo (hqF h) 16 HF.out.qlt HF.out.qfin HF.out.T (by decide) _).mono ?_
  rintro e w1 ⟨rfl, rfl⟩
  go_wp2
  go_ret
  exact ⟨rfl, rfl⟩

theorem sSat (h : Nat) (F : SatF h) (w : World) :
    Calls Tryz.prog 133 #[.float .f32 h] w fun e w' => e = .returned (.float .f32 (satF h)) ∧ w = w' := by
  have hd := fun w => run_float_arith (P := Tryz.prog) w .quo 22 .f32 _ _ _ F.div
  have hm := fun w => run_float_arith (P := Tryz.prog) w .mul 22 .f32 _ _ _ F.mul
  have HF := hid F
  clear F
  go_enter Tryz.func133, Tryz.ntmps133
  go_wp2_with fail
  refine (sTwo (hqF h) 16 HF.out.qlt HF.out.qfin HF.out.T (by decide) _).mono ?_
  rintro e w1 ⟨rfl, rfl⟩
  go_wp2
  go_ret
  exact ⟨rfl, rfl⟩

/-- Words of heats that air may have. -/
def IsHeat (h : Nat) : Prop := h < 4294967296 ∧ heatB h = true

theorem nb_heat {h : Nat} (hh : IsHeat h) : nb h = h := by
  have := finB_iff.1 (heat_fin hh.1 hh.2)
  unfold nb
  rw [if_neg]
  unfold nanB
  simp
  omega

set_option maxRecDepth 100000 in
set_option maxHeartbeats 1000000 in
theorem iExcG (t r h v : Nat) (hh : IsHeat h) (hv : amtB v = true) (w : World) (hm : MapOf satF IsHeat w r) :
    Calls Tryz.prog 152 #[.agg #[.float .f32 t, .map (some r)], .agg #[.float .f32 h, .float .f32 v]] w fun e w' => e = .returned (.float .f32 (excF h v)) ∧ Keeps (fun k => k = r) w w' ∧ MapOf satF IsHeat w' r := by
  have k0 : Hid (Kept w [(w.heap.size + 1, #[.float .f32 h, .float .f32 v], 32), (w.heap.size, #[.float .f32 t, .map (some r)], 148)] ((w.alloc (.cells #[.float .f32 t, .map (some r)] 148)).alloc (.cells #[.float .f32 h, .float .f32 v] 32))) := hid ((((Kept.nil w).push _ _).push _ _).sub (by simp))
  have F := sat_facts hh.1 hh.2
  have E := exc_facts F hv
  have FS := hid F
  have r1 := fun w => run_float_arith (P := Tryz.prog) w .sub 22 .f32 _ _ _ E.1
  have c0 : World.cell? ((w.alloc (.cells #[.float .f32 t, .map (some r)] 148)).alloc (.cells #[.float .f32 h, .float .f32 v] 32)) ⟨w.heap.size + 1, 0, none⟩ = some (.float .f32 h) := (cell_of_row _ _ 0 _ _ _ (k0.out.at (x := (w.heap.size + 1, #[.float .f32 h, .float .f32 v], 32)) in0)).trans rfl
  have HH := hid hh
  have HM := hid hm
  clear hh hv F E hm
  go_enter Tryz.func152, Tryz.ntmps152
  go_wp2_with fail
  refine (iBits h HH.out.1 _).mono ?_
  rintro e u ⟨rfl, hb1⟩
  rw [nb_heat HH.out]
  have k1 := hid (k0.out.stay hb1)
  have m1 : MapOf satF IsHeat u r := (HM.out.keeps ((Keeps.alloc (X := fun _ => False) _).trans (Keeps.alloc _)) (fun x => x)).keeps (Keeps.of (X := fun _ => False) (hb1.mono (by simp))) (fun x => x)
  clear c0 k0 hb1
  have d0 : u.cell? ⟨w.heap.size, 1, none⟩ = some (.map (some r)) := (cell_of_row u _ 1 _ _ _ (k1.out.at (x := (w.heap.size, #[.float .f32 t, .map (some r)], 148)) in1)).trans rfl
  have d1 : u.cell? ⟨w.heap.size + 1, 0, none⟩ = some (.float .f32 h) := (cell_of_row u _ 0 _ _ _ (k1.out.at (x := (w.heap.size + 1, #[.float .f32 h, .float .f32 v], 32)) in0)).trans rfl
  have d2 : u.cell? ⟨w.heap.size + 1, 1, none⟩ = some (.float .f32 v) := (cell_of_row u _ 1 _ _ _ (k1.out.at (x := (w.heap.size + 1, #[.float .f32 h, .float .f32 v], 32)) in0)).trans rfl
  have M1 := hid m1
  have hz : ∀ w, (zeroValue 22).run Tryz.prog w = .ok (.float .f32 0) w := fun w => by kernel_rfl
  have hmt : Tryz.prog.underlying 146 = some (.map 111 22) := by kernel_rfl
  have hkt : Tryz.prog.underlying 111 = some (.int .u32) := by kernel_rfl
  have HR : Hid (r ≠ w.heap.size ∧ r ≠ w.heap.size + 1) := hid (by
    obtain ⟨_, _, hb, _⟩ := HM.out
    have := lt_of_block hb
    omega)
  rcases run_lookup_map hmt hkt hz m1 h with ⟨hl, hno⟩ | hl
  · have HNO := hid hno
    clear hno m1
    go_wp2_with fail
    refine (iSat h FS.out _).mono ?_
    rintro e u2 ⟨rfl, rfl⟩
    obtain ⟨u3, hup, hk3, hm3⟩ := run_update_map (P := Tryz.prog) (mty := 146) hmt hkt M1.out h HH.out HNO.out
    have K3 := hid hk3
    have M3 := hid hm3
    have d3 : u3.cell? ⟨w.heap.size + 1, 1, none⟩ = some (.float .f32 v) := hk3.cell d2 HR.out.2.symm
    clear hm3 hk3 hz hmt hkt
    go_wp2
    go_ret
    exact ⟨rfl, ((Keeps.of k1.out.1).trans K3.out), M3.out⟩
  · clear m1 hz hmt hkt
    go_wp2
    go_ret
    exact ⟨rfl, Keeps.of k1.out.1, M1.out⟩

theorem iPut (c : Nat → Nat) (k : Nat) (hk : k < 20) (v : Nat) (hc : nnB (c k) = true) (hv : nnB v = true) (w : World) (g : Nat) (t : TypeId) (h : arrAt w g c t) :
    Calls Tryz.prog 173 #[.int .i64 (k : Int), .float .f32 v, .pointer (some ⟨g, 0, none⟩)] w fun e w' => e = .returned (.tuple #[]) ∧ w' = w.setCell ⟨g, k, none⟩ (.float .f32 (fadd (c k) v)) := by
  have q0 := h.cell hk
  have f0 := h.frozen k
  have hm := fun w => run_add (P := Tryz.prog) 22 hc hv w
  go_enter Tryz.func173, Tryz.ntmps173
  go_wp2
  go_end0
  exact ⟨rfl, rfl⟩

/-- What a write through a pointer leaves behind, orders that were drawn aside. -/
def Wrote (w1 w' : World) : Prop := (∀ g c t, arrAt w1 g c t → arrAt w' g c t) ∧ (∀ n w0, Below n w0 w1 → Below n w0 w')

theorem sPutB (c : Nat → Nat) (hc : nnB (c 0) = true) (x y : Nat) (hx : amtB x = true) (hlt : x < 1065353216) (hy : amtB y = true) (w : World) (g : Nat) (t : TypeId) (h : arrAt w g c t) :
    Calls Tryz.prog 134 #[.pointer (some ⟨g, 0, none⟩), .float .f32 x, .float .f32 y] w fun e w' => e = .returned (.tuple #[]) ∧ Wrote (w.setCell ⟨g, 0, none⟩ (.float .f32 (putB c x y 0))) w' := by
  have q0 := h.cell (k := 0) (by decide)
  have f0 := h.frozen 0
  have hl := lt_t hx (y := 1065353216) (by decide) hlt
  have h1 := fun w => run_mul (P := Tryz.prog) 22 hy hx w
  have h2 := fun w => run_add (P := Tryz.prog) 22 hc (mul_eq hy hx).2 w
  go_enter Tryz.func134, Tryz.ntmps134
  go_wp2_with fail
  go_region
  all_goals go_wp2
  all_goals exact bodyPost_ret (results_none (by rfl) _ _ _) rfl ⟨rfl, fun _ _ _ h => h, fun _ _ h => h.drew⟩

theorem sPutT (c : Nat → Nat) (hc : nnB (c 19) = true) (x y : Nat) (hx : amtB x = true) (h1 : ONE ≤ x) (hk : forF x = 19) (hy : amtB y = true) (w : World) (g : Nat) (t : TypeId) (h : arrAt w g c t) :
    Calls Tryz.prog 134 #[.pointer (some ⟨g, 0, none⟩), .float .f32 x, .float .f32 y] w fun e w' => e = .returned (.tuple #[]) ∧ Wrote (w.setCell ⟨g, 19, none⟩ (.float .f32 (putT c x y 19))) w' := by
  have q0 := h.cell (k := 19) (by decide)
  have f0 := h.frozen 19
  have hl := lt_f hx (y := 1065353216) (by decide) h1
  have hq := div_less (k := 19) (by decide) (amtB_iff.1 hx)
  have hqa : amtB (fdiv x (mass 19)) = true := amtB_iff.2 (Nat.lt_of_le_of_lt hq (amtB_iff.1 hx))
  have h0 := fun w => run_div (P := Tryz.prog) 22 (amt_nn hx) (mass_amt (k := 19) (by decide)) (mass_ne 19) w
  have h3 := fun w => run_mul (P := Tryz.prog) 22 hy hqa w
  have h2 := fun w => run_add (P := Tryz.prog) 22 hc (mul_eq hy hqa).2 w
  have hC := fun w => sFor x hx h1 w
  rw [hk] at hC
  have HC := hid hC
  clear hC hk hq hqa hx h1 hy
  go_enter Tryz.func134, Tryz.ntmps134
  go_wp2_with fail
  refine (HC.out _).mono ?_
  rintro e w1 ⟨rfl, rfl⟩
  go_wp2_with fail
  go_region_with (go_at_call 83; refine (sMass 19 (by decide) _).mono ?_; rintro e w' ⟨rfl, rfl⟩)
  all_goals go_wp2
  all_goals exact bodyPost_ret (results_none (by rfl) _ _ _) rfl ⟨rfl, fun _ _ _ h => h, fun _ _ h => h.drew⟩

/-- The runs of PutDroplets' arithmetic between two classes. -/
theorem put_runs (x y k : Nat) (hx : amtB x = true) (h1 : ONE ≤ x) (hk : forF x = k) (hlt : k < 19) (hy : amtB y = true) :
    (∀ w, (binOp .sub 22 (.float .f32 x) (.float .f32 (mass k))).run Tryz.prog w = .ok (.float .f32 (fsub x (mass k))) w)
    ∧ (∀ w, (binOp .quo 22 (.float .f32 (fsub x (mass k))) (.float .f32 (mass k))).run Tryz.prog w = .ok (.float .f32 (fdiv (fsub x (mass k)) (mass k))) w)
    ∧ (∀ w, (binOp .sub 22 (.float .f32 1065353216) (.float .f32 (fdiv (fsub x (mass k)) (mass k)))).run Tryz.prog w = .ok (.float .f32 (fsub 1065353216 (fdiv (fsub x (mass k)) (mass k)))) w)
    ∧ (∀ w, (binOp .mul 22 (.float .f32 y) (.float .f32 (fsub 1065353216 (fdiv (fsub x (mass k)) (mass k))))).run Tryz.prog w = .ok (.float .f32 (fmul y (fsub 1065353216 (fdiv (fsub x (mass k)) (mass k))))) w)
    ∧ (∀ w, (binOp .mul 22 (.float .f32 y) (.float .f32 (fdiv (fsub x (mass k)) (mass k)))).run Tryz.prog w = .ok (.float .f32 (fmul y (fdiv (fsub x (mass k)) (mass k)))) w)
    ∧ nnB (fmul y (fsub 1065353216 (fdiv (fsub x (mass k)) (mass k)))) = true ∧ nnB (fmul y (fdiv (fsub x (mass k)) (mass k))) = true := by
  subst hk
  obtain ⟨a1, a2, a3, a4, a5⟩ := put_facts (y := y) h1 (by omega)
  exact ⟨fun w => run_sub _ (amtB_iff.1 hx) a1 w, fun w => run_div _ (amt_nn a2) (mass_amt (forF_lt x)) (mass_ne _) w, fun w => run_sub _ (by decide) a4 w, fun w => run_mul _ hy a5 w, fun w => run_mul _ hy a3 w, (mul_eq hy a5).2, (mul_eq hy a3).2⟩

theorem putB_nn {c : Nat → Nat} (h : Amts c) {x y : Nat} (hx : amtB x = true) (hy : amtB y = true) : ∀ i, i < 20 → nnB (putB c x y i) = true := by
  intro i hi
  unfold putB upd
  split
  · exact (add_eq (amt_nn (h 0 (by decide))) (mul_eq hy hx).2).2
  · exact amt_nn (h i hi)

theorem putT_nn {c : Nat → Nat} (h : Amts c) {x y : Nat} (hx : amtB x = true) (hy : amtB y = true) : ∀ i, i < 20 → nnB (putT c x y i) = true := by
  intro i hi
  have hq := div_less (k := 19) (by decide) (amtB_iff.1 hx)
  unfold putT upd
  split
  · exact (add_eq (amt_nn (h 19 (by decide))) (mul_eq hy (amtB_iff.2 (Nat.lt_of_le_of_lt hq (amtB_iff.1 hx)))).2).2
  · exact amt_nn (h i hi)

theorem putL_nn {c : Nat → Nat} (h : Amts c) {x y : Nat} (h1 : ONE ≤ x) (hk : forF x ≠ 19) (hy : amtB y = true) : ∀ i, i < 20 → nnB (putL c x y i) = true := by
  intro i hi
  obtain ⟨a1, a2, a3, a4, a5⟩ := put_facts (y := y) h1 hk
  unfold putL upd
  split
  · exact (add_eq (amt_nn (h _ (forF_lt x))) (mul_eq hy a5).2).2
  · exact amt_nn (h i hi)

theorem putM_nn {c : Nat → Nat} (h : Amts c) {x y : Nat} (h1 : ONE ≤ x) (hk : forF x ≠ 19) (hy : amtB y = true) : ∀ i, i < 20 → nnB (putM c x y i) = true := by
  intro i hi
  obtain ⟨a1, a2, a3, a4, a5⟩ := put_facts (y := y) h1 hk
  unfold putM upd
  split
  · exact (add_eq (amt_nn (h _ (by have := forF_lt x; omega))) (mul_eq hy a3).2).2
  · exact putL_nn h h1 hk hy i hi

theorem Wrote.arr {w w' : World} {g k v : Nat} {c : Nat → Nat} {t : TypeId} (hw : Wrote (w.setCell ⟨g, k, none⟩ (.float .f32 v)) w') (h : arrAt w g c t) : arrAt w' g (upd c k v) t := hw.1 _ _ _ (h.set k v)

theorem Wrote.other {w w' : World} {g g' k v : Nat} {c : Nat → Nat} {t : TypeId} (hw : Wrote (w.setCell ⟨g, k, none⟩ (.float .f32 v)) w') (h : arrAt w g' c t) (hg : g' ≠ g) : arrAt w' g' c t := hw.1 _ _ _ (h.setOther (a := ⟨g, k, none⟩) hg _)

theorem putB_eq (c : Nat → Nat) (x y : Nat) : upd c 0 (putB c x y 0) = putB c x y := by funext i; simp [putB, upd]

theorem putT_eq (c : Nat → Nat) (x y : Nat) : upd c 19 (putT c x y 19) = putT c x y := by funext i; simp [putT, upd]

theorem putL_eq (c : Nat → Nat) (x y : Nat) : upd c (forF x) (putL c x y (forF x)) = putL c x y := by funext i; simp [putL, upd]

theorem putM_eq (c : Nat → Nat) (x y : Nat) : upd (putL c x y) (forF x + 1) (putM c x y (forF x + 1)) = putM c x y := by funext i; simp [putM, upd]

theorem putL_val (c : Nat → Nat) (x y k : Nat) (hk : forF x = k) : upd c k (fadd (c k) (fmul y (fsub 1065353216 (fdiv (fsub x (mass k)) (mass k))))) = putL c x y := by subst hk; rfl

theorem putM_val (c : Nat → Nat) (x y k : Nat) (hk : forF x = k) : upd (putL c x y) (k + 1) (fadd (putL c x y (k + 1)) (fmul y (fdiv (fsub x (mass k)) (mass k)))) = putM c x y := by
  subst hk
  have : putL c x y (forF x + 1) = c (forF x + 1) := by simp [putL, upd]
  rw [this]
  rfl

/-- A write that the walk saw, in the facts of the blocks. -/
theorem iPutI (c : Nat → Nat) (n : Int) (k : Nat) (hn : n = (k : Int)) (hk : k < 20) (v : Nat) (hc : nnB (c k) = true) (hv : nnB v = true) (w : World) (g : Nat) (t : TypeId) (h : arrAt w g c t) :
    Calls Tryz.prog 173 #[.int .i64 n, .float .f32 v, .pointer (some ⟨g, 0, none⟩)] w fun e w' => e = .returned (.tuple #[]) ∧ Wrote (w.setCell ⟨g, k, none⟩ (.float .f32 (fadd (c k) v))) w' := by
  subst hn
  refine (iPut c k hk v hc hv w g t h).mono ?_
  rintro e w' ⟨rfl, rfl⟩
  exact ⟨rfl, fun _ _ _ h => h, fun _ _ h => h⟩

set_option maxRecDepth 100000 in
theorem iPutDroplets_okB (c : Nat → Nat) (h : Amts c) (x : Nat) (hx : amtB x = true) (h0 : x ≠ 0) (hlt : x < 1065353216) (y : Nat) (hy : amtB y = true) (r : Nat → Nat) (n : Int) (g1 : Fins (putB c x y) → r = putB c x y ∧ n = 0) (g2 : ¬ Fins (putB c x y) → r = (fun _ => 0) ∧ n = 4) (w : World) :
    Calls Tryz.prog 170 #[.agg (fls c), .float .f32 x, .float .f32 y] w fun e w' => e = .returned (.tuple #[.agg (fls r), .int .i64 n]) ∧ Below w.heap.size w w' := by
  have hnn := putB_nn h hx hy
  have hf := amt_fin hx
  have ho1 := leq_f hx (y := 0) (by decide) (Nat.pos_of_ne_zero h0)
  have ho2 := gt_t hx (y := 0) (by decide) (Nat.pos_of_ne_zero h0)
  have hxl := amt_lt hx
  have hl := lt_t hx (y := 1065353216) (by decide) hlt
  have hr1 := fun w => run_mul (P := Tryz.prog) 22 hy hx w
  have hv1 := (mul_eq hy hx).2
  clear h0 ho2
  have A0 := hid ((arrAt.new w c 30).alloc (.cells (fls (fun _ => 0)) 30))
  have A1 := hid (new1 w (.cells (fls c) 30) (fun _ => 0) 30)
  have b0 := boxed2 w (.cells (fls c) 30) (.cells (fls (fun _ => 0)) 30)
  have Hh := hid h
  have Hhx := hid hx
  have Hhf := hid hf
  have Hhxl := hid hxl
  have Hhy := hid hy
  have Hg1 := hid g1
  have Hg2 := hid g2
  have Hhnn := hid hnn
  have Hhv1 := hid hv1
  have Hhlt := hid hlt
  clear h hx hf hxl hy g1 g2 hnn hv1 hlt
  go_enter Tryz.func170, Tryz.ntmps170
  go_wp2_with (first | (refine wpList_load_row rfl 30 _ rfl (w.heap.size) rfl 30 (fls c) (0, 0) _ A0.out Tryz.underlying30 rfl (by rw [fls_size]; exact info_arr) ?_))
  refine (validSizes_t c Hh.out _).mono ?_
  rintro e w0 ⟨rfl, hb0⟩
  have A0 := hid (A0.out.stay hb0)
  have A1 := hid (A1.out.stay hb0)
  have c0 := stp b0 (Nat.le_refl _) hb0
  go_wp2_with fail
  refine (isFinite_t x Hhxl.out Hhf.out _).mono ?_
  rintro e w1 ⟨rfl, rfl⟩
  go_wp2_with fail
  refine (isAmount_t y Hhy.out _).mono ?_
  rintro e w2 ⟨rfl, rfl⟩
  have lx := A0.out.lt
  have ly := A1.out.lt
  have N0 := hid (arrAt.new w0 (fun _ => 0) 30)
  have P0 := hid (N0.out.setRow c)
  have B1 := hid ((A1.out.alloc (.cells (fls fun _ => 0) 30)).setRowOther (k := w0.heap.size) (Nat.ne_of_lt ly) (fls c))
  have bX : Below w.heap.size w ((w0.alloc (.cells (fls fun _ => 0) 30)).setRow w0.heap.size (fls c)) := below_row (c0.alloc c0.size _) c0.size _
  have S0 := hid c0.size
  have LY := hid ly
  clear lx ly
  have tok1 : True := trivial
  go_wp2_with (first | (refine wpList_load_row rfl 30 _ rfl (w.heap.size) rfl 30 (fls c) (0, 0) _ A0.out Tryz.underlying30 rfl (by rw [fls_size]; exact info_arr) ?_) | (have _t := tok1; refine store_abs rfl 30 _ _ rfl w0.heap.size c rfl rfl 30 _ N0.out info_arr ?_; intro w9 hw9; rw [← hw9] at P0 B1 bX; clear hw9; clear N0; clear hb0 b0 tok1))
  refine (iPutI (c) _ 0 (by omega) (by omega) (fmul y x) (amt_nn (Hh.out 0 (by omega))) Hhv1.out _ w0.heap.size 30 P0.out).mono ?_
  rintro e wp0 ⟨rfl, hwp⟩
  have P1 := hid (hwp.arr P0.out)
  have B2 := hid (hwp.other B1.out (Nat.ne_of_lt LY.out))
  have bY0 := hwp.2 _ _ (bX.setCell (p := ⟨w0.heap.size, 0, none⟩) S0.out (.float .f32 (fadd ((c) 0) (fmul y x))))
  clear hwp P0 B1 bX
  go_wp2_with (first | (refine wpList_load_row rfl 30 _ rfl (w0.heap.size) rfl 30 (fls (putB c x y)) (0, 0) _ P1.out Tryz.underlying30 rfl (by rw [fls_size]; exact info_arr) ?_))
  refine (iFinite (putB c x y) (fun i hi => nn_lt (Hhnn.out i hi)) r n Hg1.out Hg2.out _).mono ?_
  rintro e w9 ⟨rfl, hb9⟩
  have A9 := hid (B2.out.stay hb9)
  have b9 := stp bY0 (Nat.le_refl _) hb9
  go_wp2_with (first | (refine wpList_store_row rfl 30 _ _ rfl (w.heap.size + 1) (fls r) rfl rfl 30 _ A9.out (by rw [fls_size]; exact info_arr) (by simp) (fls_one r) ?_))
  exact bodyPost_ret (results_row_tmp rfl _ _ (w.heap.size + 1) 30 (fls r) (0, 0) _ rfl (A9.out.setRow r) Tryz.underlying30 rfl (by rw [fls_size]; exact info_arr)) rfl ⟨rfl, below_row b9 (by omega) _⟩

set_option maxRecDepth 100000 in
theorem iPutDroplets_okT (c : Nat → Nat) (h : Amts c) (x : Nat) (hx : amtB x = true) (h0 : x ≠ 0) (h1 : ONE ≤ x) (hk : forF x = 19) (y : Nat) (hy : amtB y = true) (r : Nat → Nat) (n : Int) (g1 : Fins (putT c x y) → r = putT c x y ∧ n = 0) (g2 : ¬ Fins (putT c x y) → r = (fun _ => 0) ∧ n = 4) (w : World) :
    Calls Tryz.prog 170 #[.agg (fls c), .float .f32 x, .float .f32 y] w fun e w' => e = .returned (.tuple #[.agg (fls r), .int .i64 n]) ∧ Below w.heap.size w w' := by
  have hnn := putT_nn h hx hy
  have hf := amt_fin hx
  have ho1 := leq_f hx (y := 0) (by decide) (Nat.pos_of_ne_zero h0)
  have ho2 := gt_t hx (y := 0) (by decide) (Nat.pos_of_ne_zero h0)
  have hxl := amt_lt hx
  have hl := lt_f hx (y := 1065353216) (by decide) h1
  have hq := div_less (k := 19) (by decide) (amtB_iff.1 hx)
  have hqa : amtB (fdiv x (mass 19)) = true := amtB_iff.2 (Nat.lt_of_le_of_lt hq (amtB_iff.1 hx))
  have hr1 := fun w => run_div (P := Tryz.prog) 22 (amt_nn hx) (mass_amt (k := 19) (by decide)) (mass_ne 19) w
  have hr2 := fun w => run_mul (P := Tryz.prog) 22 hy hqa w
  have hv1 := (mul_eq hy hqa).2
  have hC := fun w => iClassFor_ok x hx h1 w
  rw [hk] at hC
  have HC := hid hC
  clear hC hk hq hqa
  clear h0 ho2
  have A0 := hid ((arrAt.new w c 30).alloc (.cells (fls (fun _ => 0)) 30))
  have A1 := hid (new1 w (.cells (fls c) 30) (fun _ => 0) 30)
  have b0 := boxed2 w (.cells (fls c) 30) (.cells (fls (fun _ => 0)) 30)
  have Hh := hid h
  have Hhx := hid hx
  have Hhf := hid hf
  have Hhxl := hid hxl
  have Hhy := hid hy
  have Hg1 := hid g1
  have Hg2 := hid g2
  have Hhnn := hid hnn
  have Hh1 := hid h1
  have Hhv1 := hid hv1
  clear h hx hf hxl hy g1 g2 hnn h1 hv1
  go_enter Tryz.func170, Tryz.ntmps170
  go_wp2_with (first | (refine wpList_load_row rfl 30 _ rfl (w.heap.size) rfl 30 (fls c) (0, 0) _ A0.out Tryz.underlying30 rfl (by rw [fls_size]; exact info_arr) ?_))
  refine (validSizes_t c Hh.out _).mono ?_
  rintro e w0 ⟨rfl, hb0⟩
  have A0 := hid (A0.out.stay hb0)
  have A1 := hid (A1.out.stay hb0)
  have c0 := stp b0 (Nat.le_refl _) hb0
  go_wp2_with fail
  refine (isFinite_t x Hhxl.out Hhf.out _).mono ?_
  rintro e w1 ⟨rfl, rfl⟩
  go_wp2_with fail
  refine (isAmount_t y Hhy.out _).mono ?_
  rintro e w2 ⟨rfl, rfl⟩
  have lx := A0.out.lt
  have ly := A1.out.lt
  have N0 := hid (arrAt.new w0 (fun _ => 0) 30)
  have P0 := hid (N0.out.setRow c)
  have B1 := hid ((A1.out.alloc (.cells (fls fun _ => 0) 30)).setRowOther (k := w0.heap.size) (Nat.ne_of_lt ly) (fls c))
  have bX : Below w.heap.size w ((w0.alloc (.cells (fls fun _ => 0) 30)).setRow w0.heap.size (fls c)) := below_row (c0.alloc c0.size _) c0.size _
  have S0 := hid c0.size
  have LY := hid ly
  clear lx ly
  have tok1 : True := trivial
  go_wp2_with (first | (refine wpList_load_row rfl 30 _ rfl (w.heap.size) rfl 30 (fls c) (0, 0) _ A0.out Tryz.underlying30 rfl (by rw [fls_size]; exact info_arr) ?_) | (have _t := tok1; refine store_abs rfl 30 _ _ rfl w0.heap.size c rfl rfl 30 _ N0.out info_arr ?_; intro w9 hw9; rw [← hw9] at P0 B1 bX; clear hw9; clear N0; clear hb0 b0 tok1))
  refine (HC.out _).mono ?_
  rintro e wq ⟨rfl, rfl⟩
  go_wp2_with fail
  refine (iMass 19 (by omega) _).mono ?_
  rintro e wq ⟨rfl, rfl⟩
  go_wp2_with fail
  refine (iPutI (c) _ 19 (by omega) (by omega) (fmul y (fdiv x (mass 19))) (amt_nn (Hh.out 19 (by omega))) Hhv1.out _ w0.heap.size 30 P0.out).mono ?_
  rintro e wp0 ⟨rfl, hwp⟩
  have P1 := hid (hwp.arr P0.out)
  have B2 := hid (hwp.other B1.out (Nat.ne_of_lt LY.out))
  have bY0 := hwp.2 _ _ (bX.setCell (p := ⟨w0.heap.size, 19, none⟩) S0.out (.float .f32 (fadd ((c) 19) (fmul y (fdiv x (mass 19))))))
  clear hwp P0 B1 bX
  go_wp2_with (first | (refine wpList_load_row rfl 30 _ rfl (w0.heap.size) rfl 30 (fls (putT c x y)) (0, 0) _ P1.out Tryz.underlying30 rfl (by rw [fls_size]; exact info_arr) ?_))
  refine (iFinite (putT c x y) (fun i hi => nn_lt (Hhnn.out i hi)) r n Hg1.out Hg2.out _).mono ?_
  rintro e w9 ⟨rfl, hb9⟩
  have A9 := hid (B2.out.stay hb9)
  have b9 := stp bY0 (Nat.le_refl _) hb9
  go_wp2_with (first | (refine wpList_store_row rfl 30 _ _ rfl (w.heap.size + 1) (fls r) rfl rfl 30 _ A9.out (by rw [fls_size]; exact info_arr) (by simp) (fls_one r) ?_))
  exact bodyPost_ret (results_row_tmp rfl _ _ (w.heap.size + 1) 30 (fls r) (0, 0) _ rfl (A9.out.setRow r) Tryz.underlying30 rfl (by rw [fls_size]; exact info_arr)) rfl ⟨rfl, below_row b9 (by omega) _⟩

set_option maxRecDepth 100000 in
theorem iPutDroplets_okM (c : Nat → Nat) (h : Amts c) (x : Nat) (hx : amtB x = true) (h0 : x ≠ 0) (h1 : ONE ≤ x) (k : Nat) (hk : forF x = k) (hlt : k < 19) (y : Nat) (hy : amtB y = true) (r : Nat → Nat) (n : Int) (g1 : Fins (putM c x y) → r = putM c x y ∧ n = 0) (g2 : ¬ Fins (putM c x y) → r = (fun _ => 0) ∧ n = 4) (w : World) :
    Calls Tryz.prog 170 #[.agg (fls c), .float .f32 x, .float .f32 y] w fun e w' => e = .returned (.tuple #[.agg (fls r), .int .i64 n]) ∧ Below w.heap.size w w' := by
  have hnn := putM_nn h h1 (by omega) hy
  have hf := amt_fin hx
  have ho1 := leq_f hx (y := 0) (by decide) (Nat.pos_of_ne_zero h0)
  have ho2 := gt_t hx (y := 0) (by decide) (Nat.pos_of_ne_zero h0)
  have hxl := amt_lt hx
  have hl := lt_f hx (y := 1065353216) (by decide) h1
  obtain ⟨hr1, hr2, hr3, hr4, hr5, hv1, hv2⟩ := put_runs x y k hx h1 hk hlt hy
  have hlnn := putL_nn h h1 (by omega) hy
  have hC := fun w => iClassFor_ok x hx h1 w
  rw [hk] at hC
  have HC := hid hC
  have hne : ¬ (k : Int) = 19 := by omega
  clear hC
  clear h0 ho2
  have A0 := hid ((arrAt.new w c 30).alloc (.cells (fls (fun _ => 0)) 30))
  have A1 := hid (new1 w (.cells (fls c) 30) (fun _ => 0) 30)
  have b0 := boxed2 w (.cells (fls c) 30) (.cells (fls (fun _ => 0)) 30)
  have Hh := hid h
  have Hhx := hid hx
  have Hhf := hid hf
  have Hhxl := hid hxl
  have Hhy := hid hy
  have Hg1 := hid g1
  have Hg2 := hid g2
  have Hhnn := hid hnn
  have Hh1 := hid h1
  have Hhv1 := hid hv1
  have Hhk := hid hk
  have Hhv2 := hid hv2
  have Hhlnn := hid hlnn
  clear h hx hf hxl hy g1 g2 hnn h1 hv1 hk hv2 hlnn
  go_enter Tryz.func170, Tryz.ntmps170
  go_wp2_with (first | (refine wpList_load_row rfl 30 _ rfl (w.heap.size) rfl 30 (fls c) (0, 0) _ A0.out Tryz.underlying30 rfl (by rw [fls_size]; exact info_arr) ?_))
  refine (validSizes_t c Hh.out _).mono ?_
  rintro e w0 ⟨rfl, hb0⟩
  have A0 := hid (A0.out.stay hb0)
  have A1 := hid (A1.out.stay hb0)
  have c0 := stp b0 (Nat.le_refl _) hb0
  go_wp2_with fail
  refine (isFinite_t x Hhxl.out Hhf.out _).mono ?_
  rintro e w1 ⟨rfl, rfl⟩
  go_wp2_with fail
  refine (isAmount_t y Hhy.out _).mono ?_
  rintro e w2 ⟨rfl, rfl⟩
  have lx := A0.out.lt
  have ly := A1.out.lt
  have N0 := hid (arrAt.new w0 (fun _ => 0) 30)
  have P0 := hid (N0.out.setRow c)
  have B1 := hid ((A1.out.alloc (.cells (fls fun _ => 0) 30)).setRowOther (k := w0.heap.size) (Nat.ne_of_lt ly) (fls c))
  have bX : Below w.heap.size w ((w0.alloc (.cells (fls fun _ => 0) 30)).setRow w0.heap.size (fls c)) := below_row (c0.alloc c0.size _) c0.size _
  have S0 := hid c0.size
  have LY := hid ly
  clear lx ly
  have tok1 : True := trivial
  go_wp2_with (first | (refine wpList_load_row rfl 30 _ rfl (w.heap.size) rfl 30 (fls c) (0, 0) _ A0.out Tryz.underlying30 rfl (by rw [fls_size]; exact info_arr) ?_) | (have _t := tok1; refine store_abs rfl 30 _ _ rfl w0.heap.size c rfl rfl 30 _ N0.out info_arr ?_; intro w9 hw9; rw [← hw9] at P0 B1 bX; clear hw9; clear N0; clear hb0 b0 tok1))
  refine (HC.out _).mono ?_
  rintro e wq ⟨rfl, rfl⟩
  go_wp2_with fail
  refine (iMass k (by omega) _).mono ?_
  rintro e wq ⟨rfl, rfl⟩
  go_wp2_with fail
  refine (iPutI (c) _ k (by omega) (by omega) (fmul y (fsub 1065353216 (fdiv (fsub x (mass k)) (mass k)))) (amt_nn (Hh.out k (by omega))) Hhv1.out _ w0.heap.size 30 P0.out).mono ?_
  rintro e wp0 ⟨rfl, hwp⟩
  have P1 := hid (hwp.arr P0.out)
  have B2 := hid (hwp.other B1.out (Nat.ne_of_lt LY.out))
  have bY0 := hwp.2 _ _ (bX.setCell (p := ⟨w0.heap.size, k, none⟩) S0.out (.float .f32 (fadd ((c) k) (fmul y (fsub 1065353216 (fdiv (fsub x (mass k)) (mass k)))))))
  rw [putL_val c x y k Hhk.out] at P1
  clear hwp P0 B1 bX
  go_wp2_with fail
  refine (iPutI (putL c x y) _ (k + 1) (by omega) (by omega) (fmul y (fdiv (fsub x (mass k)) (mass k))) (Hhlnn.out (k + 1) (by omega)) Hhv2.out _ w0.heap.size 30 P1.out).mono ?_
  rintro e wp1 ⟨rfl, hwp⟩
  have P2 := hid (hwp.arr P1.out)
  have B3 := hid (hwp.other B2.out (Nat.ne_of_lt LY.out))
  have bY1 := hwp.2 _ _ (bY0.setCell (p := ⟨w0.heap.size, (k + 1), none⟩) S0.out (.float .f32 (fadd ((putL c x y) (k + 1)) (fmul y (fdiv (fsub x (mass k)) (mass k))))))
  rw [putM_val c x y k Hhk.out] at P2
  clear hwp P1 B2 bY0
  go_wp2_with (first | (refine wpList_load_row rfl 30 _ rfl (w0.heap.size) rfl 30 (fls (putM c x y)) (0, 0) _ P2.out Tryz.underlying30 rfl (by rw [fls_size]; exact info_arr) ?_))
  refine (iFinite (putM c x y) (fun i hi => nn_lt (Hhnn.out i hi)) r n Hg1.out Hg2.out _).mono ?_
  rintro e w9 ⟨rfl, hb9⟩
  have A9 := hid (B3.out.stay hb9)
  have b9 := stp bY1 (Nat.le_refl _) hb9
  go_wp2_with (first | (refine wpList_store_row rfl 30 _ _ rfl (w.heap.size + 1) (fls r) rfl rfl 30 _ A9.out (by rw [fls_size]; exact info_arr) (by simp) (fls_one r) ?_))
  exact bodyPost_ret (results_row_tmp rfl _ _ (w.heap.size + 1) 30 (fls r) (0, 0) _ rfl (A9.out.setRow r) Tryz.underlying30 rfl (by rw [fls_size]; exact info_arr)) rfl ⟨rfl, below_row b9 (by omega) _⟩

theorem big_near : S.nearest false (val 2139095039 + val (mass 19)) (-149 + (0 : Int)) = 2139095039 := by decide +kernel

theorem abs_sum {V M : Nat} {a b : Int} (h1 : a.natAbs ≤ M) (h2 : b.natAbs ≤ V) : (a + b).natAbs ≤ V + M := by
  have := Int.natAbs_add_le a b
  omega

theorem sv_abs (x : Nat) : (sv x).natAbs = val (mg x) := by unfold sv; split <;> simp

/-- A class's mass, more by a gain. -/
def gm (k g : Nat) : Nat := fadd (mass k) g

theorem add_some {x y r : Nat} (h : S.add x y = some r) (hr : FW r) : S.add x y = some (fadd x y) ∧ FW (fadd x y) := by
  unfold fadd
  rw [h]
  exact ⟨rfl, hr⟩

theorem gm_eq {k g : Nat} (hk : k < 20) (hg : FW g) : S.add (mass k) g = some (gm k g) ∧ FW (gm k g) := by
  have hg2 : mg g ≤ 2139095039 := by
    have := hg.2
    rw [INF_val] at this
    omega
  have hml : mass k ≤ mass 19 := by unfold mass; omega
  have hmm : mass k < 2147483648 := by unfold mass; omega
  have hm := mass_amt hk
  have hfm := fw_amt hm
  have h := add_sv hfm hg
  have hv1 : val (mg (mass k)) ≤ val (mass 19) := by
    rw [show mg (mass k) = mass k from Nat.mod_eq_of_lt hmm]
    exact val_le hml
  have hv2 : val (mg g) ≤ val 2139095039 := val_le hg2
  have hab : (sv (mass k) + sv g).natAbs ≤ val 2139095039 + val (mass 19) := abs_sum (by rw [sv_abs]; exact hv1) (by rw [sv_abs]; exact hv2)
  have hN : S.nearest false (sv (mass k) + sv g).natAbs (-149 + (0 : Int)) ≤ 2139095039 := by
    have := nearest_mono (m := (sv (mass k) + sv g).natAbs) (m' := val 2139095039 + val (mass 19)) (E := 0) (E' := 0) 0 0 (by rfl) (by rw [Nat.pow_zero, Nat.mul_one, Nat.mul_one]; exact hab)
    rwa [big_near] at this
  generalize (if sv (mass k) + sv g = 0 then decide (2147483648 ≤ mass k) && decide (2147483648 ≤ g) else decide (sv (mass k) + sv g < 0)) = b at h
  have hw := (sv_mk b (N := S.nearest false (sv (mass k) + sv g).natAbs (-149 + (0 : Int))) (Nat.lt_of_le_of_lt hN (by decide))).1
  exact add_some h hw

theorem gm_pos {x : Nat} (hx : FW x) (h : 0 < sv x) : amtB x = true ∧ x ≠ 0 := by
  have h1 : ¬ 2147483648 ≤ x := by
    intro h2
    unfold sv at h
    rw [if_pos h2] at h
    omega
  have e : mg x = x := Nat.mod_eq_of_lt (by omega)
  refine ⟨amtB_iff.2 (by rw [← e]; exact hx.2), ?_⟩
  rintro rfl
  have : sv 0 = 0 := by decide
  omega

def put1 (c : Nat → Nat) (x y : Nat) : Nat → Nat := if x < 1065353216 then putB c x y else if forF x = 19 then putT c x y else putM c x y

def NNs (c : Nat → Nat) : Prop := ∀ i, i < 20 → nnB (c i) = true

theorem Amts.nn {c : Nat → Nat} (h : Amts c) : NNs c := fun i hi => amt_nn (h i hi)

theorem upd_nn {c : Nat → Nat} (h : NNs c) {k v : Nat} (hk : k < 20) (hv : nnB v = true) : NNs (upd c k (fadd (c k) v)) := by
  intro i hi
  unfold upd
  split
  · exact (add_eq (h k hk) hv).2
  · exact h i hi

theorem put1_nn {c : Nat → Nat} (h : NNs c) {x y : Nat} (hx : amtB x = true) (hy : amtB y = true) : NNs (put1 c x y) := by
  unfold put1
  split
  · exact upd_nn h (by decide) (mul_eq hy hx).2
  · rename_i h1
    have h1' : ONE ≤ x := by unfold ONE; omega
    split
    · have hq := div_less (k := 19) (by decide) (amtB_iff.1 hx)
      exact upd_nn h (by decide) (mul_eq hy (amtB_iff.2 (Nat.lt_of_le_of_lt hq (amtB_iff.1 hx)))).2
    · rename_i hk
      obtain ⟨a1, a2, a3, a4, a5⟩ := put_facts (y := y) h1' hk
      have hlt := forF_lt x
      have hL : NNs (putL c x y) := upd_nn h hlt (mul_eq hy a5).2
      intro i hi
      unfold putM upd
      split
      · exact (add_eq (h _ (by omega)) (mul_eq hy a3).2).2
      · exact hL i hi

theorem nn_inf2 {x : Nat} (h : nnB x = true) (hf : finB x = false) : x = INF := by
  rw [nnB_iff] at h
  by_cases hx : x < INF
  · have := amt_fin (amtB_iff.2 hx)
    rw [this] at hf; cases hf
  · omega

theorem inf_add {y : Nat} (hy : nnB y = true) : finB (fadd INF y) = false := by
  have h := (add_eq (x := INF) (y := y) (by decide) hy).1
  rw [nnB_iff] at hy
  rcases Nat.lt_or_eq_of_le hy with h1 | rfl
  · obtain ⟨m, e, h2⟩ := read_lt h1
    unfold Ieee.Format.add at h
    rw [read_pINF, h2] at h
    have e2 : fadd INF y = S.write (.infinity false) := by
      have := h
      simp only [Ieee.Datum.sum] at this
      exact (Option.some.inj this).symm
    rw [e2]; decide
  · decide

theorem upd_bad {c : Nat → Nat} (h : NNs c) (hb : ¬ Fins c) {k v : Nat} (hk : k < 20) (hv : nnB v = true) : ¬ Fins (upd c k (fadd (c k) v)) := by
  intro hF
  refine hb fun i hi => ?_
  have := hF i hi
  unfold upd at this
  split at this
  · rename_i he
    subst he
    cases hc : finB (c i) with
    | true => rfl
    | false =>
      rw [nn_inf2 (h i hi) hc, inf_add hv] at this
      cases this
  · exact this

theorem put1_bad {c : Nat → Nat} (h : NNs c) (hb : ¬ Fins c) {x y : Nat} (hx : amtB x = true) (hy : amtB y = true) : ¬ Fins (put1 c x y) := by
  unfold put1
  split
  · exact upd_bad h hb (by decide) (mul_eq hy hx).2
  · rename_i h1
    have h1' : ONE ≤ x := by unfold ONE; omega
    split
    · have hq := div_less (k := 19) (by decide) (amtB_iff.1 hx)
      exact upd_bad h hb (by decide) (mul_eq hy (amtB_iff.2 (Nat.lt_of_le_of_lt hq (amtB_iff.1 hx)))).2
    · rename_i hk
      obtain ⟨a1, a2, a3, a4, a5⟩ := put_facts (y := y) h1' hk
      have hlt := forF_lt x
      have e : putM c x y = upd (putL c x y) (forF x + 1) (fadd (putL c x y (forF x + 1)) (fmul y (fdiv (fsub x (mass (forF x))) (mass (forF x))))) := by
        have : putL c x y (forF x + 1) = c (forF x + 1) := by simp [putL, upd]
        rw [this]; rfl
      rw [e]
      exact upd_bad (c := putL c x y) (upd_nn h hlt (mul_eq hy a5).2) (upd_bad h hb hlt (mul_eq hy a5).2) (by omega) (mul_eq hy a3).2

/-- The sizes behind the first n classes. -/
def shN (c g : Nat → Nat) : Nat → Nat → Nat
  | 0 => fun _ => 0
  | n + 1 => if c n ≠ 0 ∧ 0 < sv (gm n (g n)) then put1 (shN c g n) (gm n (g n)) (c n) else shN c g n

theorem shN_on {c g : Nat → Nat} {n : Nat} (h0 : c n ≠ 0) (h : 0 < sv (gm n (g n))) : shN c g (n + 1) = put1 (shN c g n) (gm n (g n)) (c n) := if_pos ⟨h0, h⟩

theorem shN_off {c g : Nat → Nat} {n : Nat} (h : ¬ (c n ≠ 0 ∧ 0 < sv (gm n (g n)))) : shN c g (n + 1) = shN c g n := if_neg h

theorem shN_nn {c g : Nat → Nat} (hc : Amts c) (hg : ∀ i, i < 20 → FW (g i)) : ∀ n, n ≤ 20 → NNs (shN c g n) := by
  intro n
  induction n with
  | zero => intro _ i _; show nnB 0 = true; decide
  | succ n ih =>
    intro hn
    by_cases h : c n ≠ 0 ∧ 0 < sv (gm n (g n))
    · rw [shN_on h.1 h.2]
      exact put1_nn (ih (by omega)) (gm_pos (gm_eq (by omega) (hg n (by omega))).2 h.2).1 (hc n (by omega))
    · rw [shN_off h]; exact ih (by omega)

theorem shN_bad {c g : Nat → Nat} (hc : Amts c) (hg : ∀ i, i < 20 → FW (g i)) {n : Nat} (h0 : ¬ Fins (shN c g n)) : ∀ m, n ≤ m → m ≤ 20 → ¬ Fins (shN c g m) := by
  intro m hm
  induction m with
  | zero =>
    intro _
    have hn : n = 0 := by omega
    rw [hn] at h0
    exact h0
  | succ m ih =>
    intro hle
    by_cases he : n = m + 1
    · subst he; exact h0
    · have hb := ih (by omega) (by omega)
      by_cases h : c m ≠ 0 ∧ 0 < sv (gm m (g m))
      · rw [shN_on h.1 h.2]
        exact put1_bad (shN_nn hc hg m (by omega)) hb (gm_pos (gm_eq (by omega) (hg m (by omega))).2 h.2).1 (hc m (by omega))
      · rw [shN_off h]; exact hb

theorem fins_amts {c : Nat → Nat} (h : NNs c) (hf : Fins c) : Amts c := fun i hi => by rw [nn_amt (h i hi)]; exact hf i hi

set_option maxRecDepth 100000 in
theorem sPutM2 (c : Nat → Nat) (hc : NNs c) (x y k : Nat) (hx : amtB x = true) (h1 : ONE ≤ x) (hk : forF x = k) (hlt : k < 19) (hy : amtB y = true) (w : World) (g : Nat) (t : TypeId) (h : arrAt w g c t) :
    Calls Tryz.prog 134 #[.pointer (some ⟨g, 0, none⟩), .float .f32 x, .float .f32 y] w fun e w' => e = .returned (.tuple #[]) ∧ Wrote ((w.setCell ⟨g, k, none⟩ (.float .f32 (putL c x y k))).setCell ⟨g, k + 1, none⟩ (.float .f32 (putM c x y (k + 1)))) w' := by
  have hl := lt_f hx (y := 1065353216) (by decide) h1
  have e1 : putL c x y k = fadd (c k) (fmul y (fsub 1065353216 (fdiv (fsub x (mass k)) (mass k)))) := by subst hk; simp [putL, upd]
  have e2 : putM c x y (k + 1) = fadd (c (k + 1)) (fmul y (fdiv (fsub x (mass k)) (mass k))) := by subst hk; simp [putM, upd]
  rw [e1, e2]
  obtain ⟨r1, r2, r3, r4, r5, n1, n2⟩ := put_runs x y k hx h1 hk hlt hy
  have h2 := fun w => run_add (P := Tryz.prog) 22 (hc k (by omega)) n1 w
  have h3 := fun w => run_add (P := Tryz.prog) 22 (hc (k + 1) (by omega)) n2 w
  have hC := fun w => sFor x hx h1 w
  rw [hk] at hC
  have HC := hid hC
  have h' := h.set k (fadd (c k) (fmul y (fsub 1065353216 (fdiv (fsub x (mass k)) (mass k)))))
  have q0 := h.cell (k := k) (by omega)
  have f0 := h.frozen k
  have q1 : World.cell? (World.drew (w.setCell ⟨g, k, none⟩ (.float .f32 (fadd (c k) (fmul y (fsub 1065353216 (fdiv (fsub x (mass k)) (mass k)))))))) ⟨g, k + 1, none⟩ = _ := h'.cell (k := k + 1) (by omega)
  rw [show upd c k (fadd (c k) (fmul y (fsub 1065353216 (fdiv (fsub x (mass k)) (mass k))))) (k + 1) = c (k + 1) by simp [upd]] at q1
  have f1 : World.frozen? (World.drew (w.setCell ⟨g, k, none⟩ (.float .f32 (fadd (c k) (fmul y (fsub 1065353216 (fdiv (fsub x (mass k)) (mass k)))))))) ⟨g, k + 1, none⟩ = _ := h'.frozen (k + 1)
  generalize hw2 : World.drew (w.setCell ⟨g, k, none⟩ (.float .f32 (fadd (c k) (fmul y (fsub 1065353216 (fdiv (fsub x (mass k)) (mass k))))))) = w2 at q1 f1
  have hend : ∀ v, Wrote ((w.setCell ⟨g, k, none⟩ (.float .f32 (fadd (c k) (fmul y (fsub 1065353216 (fdiv (fsub x (mass k)) (mass k))))))).setCell ⟨g, k + 1, none⟩ v) (w2.setCell ⟨g, k + 1, none⟩ v).drew := by
    intro v
    subst hw2
    rw [World.setCell_drew]
    exact ⟨fun _ _ _ h => h, fun _ _ h => h.drew.drew⟩
  have Hend := hid hend
  clear hend
  have hne : ¬ (k : Int) = 19 := by omega
  clear hC hx h1 hy e1 e2 n1 n2 hk h h' hc
  go_enter Tryz.func134, Tryz.ntmps134
  go_wp2_with fail
  refine (HC.out _).mono ?_
  rintro e w1 ⟨rfl, rfl⟩
  go_wp2_with fail
  refine (sMass k (by omega) _).mono ?_
  rintro e w1 ⟨rfl, rfl⟩
  go_wp2_with fail
  refine (sMass k (by omega) _).mono ?_
  rintro e w1 ⟨rfl, rfl⟩
  go_wp2_with fail
  go_region
  all_goals go_wp2
  try rw [hw2]
  clear hw2
  go_region
  all_goals go_wp2
  exact bodyPost_end (results_none (by rfl) _ _ _) rfl ⟨rfl, Hend.out _⟩

/-- What a call that writes into one array leaves behind. -/
def Own1 (w w' : World) (g : Nat) (d : Nat → Nat) (t : TypeId) : Prop := arrAt w' g d t ∧ (∀ g' c' t', g' ≠ g → arrAt w g' c' t' → arrAt w' g' c' t') ∧ (∀ n w0, n ≤ g → Below n w0 w → Below n w0 w')

theorem own_of1 {w w' : World} {g k v : Nat} {c d : Nat → Nat} {t : TypeId} (h : arrAt w g c t) (hw : Wrote (w.setCell ⟨g, k, none⟩ (.float .f32 v)) w') (he : upd c k v = d) : Own1 w w' g d t :=
  ⟨he ▸ hw.arr h, fun _ _ _ hg h' => hw.other h' hg, fun _ _ hn hb => hw.2 _ _ (hb.setCell hn _)⟩

theorem own_of2 {w w' : World} {g k k' v v' : Nat} {c d : Nat → Nat} {t : TypeId} (h : arrAt w g c t) (hw : Wrote ((w.setCell ⟨g, k, none⟩ (.float .f32 v)).setCell ⟨g, k', none⟩ (.float .f32 v')) w') (he : upd (upd c k v) k' v' = d) : Own1 w w' g d t :=
  ⟨he ▸ hw.1 _ _ _ ((h.set k v).set k' v'), fun _ _ _ hg h' => hw.1 _ _ _ ((h'.setOther (a := ⟨g, k, none⟩) hg _).setOther (a := ⟨g, k', none⟩) hg _), fun _ _ hn hb => hw.2 _ _ ((hb.setCell hn _).setCell hn _)⟩

theorem sPut_any (c : Nat → Nat) (hc : NNs c) (x y : Nat) (hx : amtB x = true) (hy : amtB y = true) (w : World) (g : Nat) (t : TypeId) (h : arrAt w g c t) :
    Calls Tryz.prog 134 #[.pointer (some ⟨g, 0, none⟩), .float .f32 x, .float .f32 y] w fun e w' => e = .returned (.tuple #[]) ∧ Own1 w w' g (put1 c x y) t := by
  by_cases h1 : x < 1065353216
  · refine (sPutB c (hc 0 (by decide)) x y hx h1 hy w g t h).mono ?_
    rintro e w' ⟨rfl, hw⟩
    exact ⟨rfl, own_of1 h hw ((putB_eq c x y).trans (if_pos h1).symm)⟩
  · have h1' : ONE ≤ x := by unfold ONE; omega
    by_cases hk : forF x = 19
    · refine (sPutT c (hc 19 (by decide)) x y hx h1' hk hy w g t h).mono ?_
      rintro e w' ⟨rfl, hw⟩
      exact ⟨rfl, own_of1 h hw ((putT_eq c x y).trans (by unfold put1; rw [if_neg h1, if_pos hk]))⟩
    · have hlt := forF_lt x
      refine (sPutM2 c hc x y (forF x) hx h1' rfl (by omega) hy w g t h).mono ?_
      rintro e w' ⟨rfl, hw⟩
      exact ⟨rfl, own_of2 h hw (by rw [putL_eq, putM_eq]; unfold put1; rw [if_neg h1, if_neg hk])⟩

theorem iPut_any (c : Nat → Nat) (h : Amts c) (x : Nat) (hx : amtB x = true) (h0 : x ≠ 0) (y : Nat) (hy : amtB y = true) (r : Nat → Nat) (n : Int) (g1 : Fins (put1 c x y) → r = put1 c x y ∧ n = 0) (g2 : ¬ Fins (put1 c x y) → r = (fun _ => 0) ∧ n = 4) (w : World) :
    Calls Tryz.prog 170 #[.agg (fls c), .float .f32 x, .float .f32 y] w fun e w' => e = .returned (.tuple #[.agg (fls r), .int .i64 n]) ∧ Below w.heap.size w w' := by
  by_cases h1 : x < 1065353216
  · have e : put1 c x y = putB c x y := if_pos h1
    rw [e] at g1 g2
    exact iPutDroplets_okB c h x hx h0 h1 y hy r n g1 g2 w
  · have h1' : ONE ≤ x := by unfold ONE; omega
    by_cases hk : forF x = 19
    · have e : put1 c x y = putT c x y := by unfold put1; rw [if_neg h1, if_pos hk]
      rw [e] at g1 g2
      exact iPutDroplets_okT c h x hx h0 h1' hk y hy r n g1 g2 w
    · have hlt := forF_lt x
      have e : put1 c x y = putM c x y := by unfold put1; rw [if_neg h1, if_neg hk]
      rw [e] at g1 g2
      exact iPutDroplets_okM c h x hx h0 h1' (forF x) rfl (by omega) y hy r n g1 g2 w

theorem inf_mass {k : Nat} (hk : k < 20) : S.mul INF (mass k) = some INF := by
  have h : ∀ k, k < 20 → S.mul INF (mass k) = some INF := by decide +kernel
  exact h k hk

theorem mul_mass {x k : Nat} (hx : nnB x = true) (hk : k < 20) : S.mul x (mass k) = some (fmul x (mass k)) ∧ nnB (fmul x (mass k)) = true := by
  cases hf : finB x with
  | true => exact mul_eq (by rw [nn_amt hx]; exact hf) (mass_amt hk)
  | false =>
    rw [nn_inf2 hx hf]
    unfold fmul
    rw [inf_mass hk]
    exact ⟨rfl, by decide⟩

theorem run_mul_mass {P : Program} (t : TypeId) {x k : Nat} (hx : nnB x = true) (hk : k < 20) (w : World) : (binOp .mul t (.float .f32 x) (.float .f32 (mass k))).run P w = .ok (.float .f32 (fmul x (mass k))) w :=
  run_float_arith w .mul t .f32 x (mass k) _ (mul_mass hx hk).1

set_option maxRecDepth 100000 in
theorem sWater2 (c : Nat → Nat) (h : NNs c) (a : Nat) (ha : a < 20) (w : World) (g : Nat) (T : TypeId) (hg : arrAt w g c T) :
    Calls Tryz.prog 135 #[.pointer (some ⟨g, 0, none⟩), .int .i64 (a : Int)] w fun e w' => e = .returned (.float .f32 (sumA (wat c) a (19 - a))) ∧ Below w.heap.size w w' := by
  have H := hid h
  have HG := hid hg
  have q0 := hg.cell ha
  have hmul := fun w => run_mul_mass (P := Tryz.prog) 22 (h a ha) ha w
  clear h hg
  go_enter Tryz.func135, Tryz.ntmps135
  go_wp2_with fail
  go_quiet ((go_at_call 83; exact Calls.quiet_of_same (back (sMass a ha _))))
  go_wp2_with fail
  go_loopw [5, 6] (fun s i wr => ∃ q : Nat, a + 1 ≤ q ∧ q ≤ 20 ∧ i = .int .i64 q ∧ s = .float .f32 (sumA (wat c) a (q - (a + 1))) ∧ Hid (arrAt wr g c T) ∧ Hid (Below w.heap.size w wr)) (fun _ i _ => 20 - (intOf i).toNat)
  case atStart => exact ⟨a + 1, by omega, by omega, by go_num, by rw [Nat.sub_self]; rfl, HG, hid (below_drewN (Below.refl _ _) _)⟩
  case round =>
    obtain ⟨q, hq1, hq2, rfl, rfl, h1, h2⟩ := hrel
    by_cases hlt : q < 20
    · have q1 := h1.out.cell hlt
      have hm2 := fun w => run_mul_mass (P := Tryz.prog) 22 (H.out q hlt) hlt w
      have hadd := fun w => run_add (P := Tryz.prog) 22 (sumA_nn (c := wat c) (a := a) (q - (a + 1)) (fun i hi => (show nnB (wat c _) = true from (mul_mass (H.out _ (by omega)) (by omega)).2))) (show nnB (wat c q) = true from (mul_mass (H.out q hlt) hlt).2) w
      have hw : fmul (c q) (mass q) = wat c q := rfl
      go_wp2_with fail
      go_quiet ((go_at_call 83; exact Calls.quiet_of_same (back (sMass q hlt _))))
      go_wp2_with fail
      go_roundw
      case rel =>
        refine ⟨q + 1, by omega, by omega, by go_num, ?_, h1, hid (below_drewN h2.out _)⟩
        rw [show q + 1 - (a + 1) = (q - (a + 1)) + 1 by omega]
        show _ = Value.float .f32 (fadd (sumA (wat c) a (q - (a + 1))) (wat c (a + (q - (a + 1)) + 1)))
        rw [show a + (q - (a + 1)) + 1 = q by omega]
      case measure => simp [intOf]; omega
    · obtain rfl : q = 20 := by omega
      go_wp2
      go_ret
      exact ⟨by simp [show 20 - (a + 1) = 19 - a by omega], h2.out⟩

theorem eq0_t : (FloatKind.f32.format.order 0 0 == some .eq) = true := by decide

theorem eq0_f {x : Nat} (hx : amtB x = true) (h : x ≠ 0) : (FloatKind.f32.format.order x 0 == some .eq) = false := by
  show (S.order x 0 == some .eq) = false
  rw [order_lt (amtB_iff.1 hx) (by decide), Nat.compare_eq_gt.2 (by omega)]; rfl

theorem sv_zero : sv 0 = 0 := by decide

theorem fw_zero : FW 0 := ⟨by decide, by decide⟩

theorem gt0_t {x : Nat} (hx : FW x) (h : 0 < sv x) : (FloatKind.f32.format.order x 0 == some .gt) = true := (gt_sv hx fw_zero).2 (by rw [sv_zero]; exact h)

theorem gt0_f {x : Nat} (hx : FW x) (h : ¬ 0 < sv x) : (FloatKind.f32.format.order x 0 == some .gt) = false := Bool.eq_false_iff.2 fun h' => h (by have := (gt_sv hx fw_zero).1 h'; rwa [sv_zero] at this)

theorem le0_t {x : Nat} (hx : FW x) (h : ¬ 0 < sv x) : (FloatKind.f32.format.order x 0 == some .lt || FloatKind.f32.format.order x 0 == some .eq) = true := (le_sv hx fw_zero).2 (by rw [sv_zero]; exact Int.not_lt.1 h)

theorem le0_f {x : Nat} (hx : FW x) (h : 0 < sv x) : (FloatKind.f32.format.order x 0 == some .lt || FloatKind.f32.format.order x 0 == some .eq) = false := Bool.eq_false_iff.2 fun h' => absurd ((le_sv hx fw_zero).1 h') (by rw [sv_zero]; exact Int.not_le.2 h)

theorem sub_fin4 {x y : Nat} (hx : nnB x = true) (hy : nnB y = true) (fx : finB x = true) (fy : finB y = true) : S.sub x y = some (fsb x y) ∧ FW (fsb x y) := by
  have ax : amtB x = true := by rw [nn_amt hx]; exact fx
  have ay : amtB y = true := by rw [nn_amt hy]; exact fy
  have wx := fw_amt ax
  have wy := fw_amt ay
  have px : 0 ≤ sv x := by
    have := amtB_iff.1 ax
    rw [INF_val] at this
    unfold sv
    rw [if_neg (by omega)]
    exact Int.natCast_nonneg _
  have py : 0 ≤ sv y := by
    have := amtB_iff.1 ay
    rw [INF_val] at this
    unfold sv
    rw [if_neg (by omega)]
    exact Int.natCast_nonneg _
  obtain ⟨h1, h2, _, _⟩ := sub_bd wx wy (ng_fw wy).1 wx (by rw [(ng_fw wy).2]; omega) (by omega)
  exact ⟨h1, h2⟩

theorem sub_fin2 {x y : Nat} (hx : nnB x = true) (hy : nnB y = true) (fx : finB x = true) (fy : finB y = true) : S.sub x y = some (fsb x y) ∧ finB (fsb x y) = true := ⟨(sub_fin4 hx hy fx fy).1, (sub_fin4 hx hy fx fy).2.fin⟩

/-- When the sizes and what came can be told. -/
def ShOk (c g : Nat → Nat) : Prop := Fins (shN c g 20) ∧ finB (sumF (wat (shN c g 20)) 19) = true ∧ finB (sumF (wat c) 19) = true

set_option maxHeartbeats 1000000 in
set_option maxRecDepth 100000 in
theorem iShiftEach (c g : Nat → Nat) (hc : Amts c) (hg : ∀ i, i < 20 → FW (g i)) (R : Nat → Nat) (n : Int) (g1 : Fins (shN c g 20) → R = shN c g 20 ∧ n = 0) (g2 : ¬ Fins (shN c g 20) → R = (fun _ => 0) ∧ n = 4) (w : World) :
    Calls Tryz.prog 165 #[.agg (fls c), .agg (fls g)] w fun e w' => e = .returned (.tuple #[.agg (fls R), .int .i64 n]) ∧ Below w.heap.size w w' := by
  have k0 : Hid (Kept w [(w.heap.size, fls c, 30), (w.heap.size + 1, fls g, 23), (w.heap.size + 1 + 1, fls fun _ => 0, 30), (w.heap.size + 1 + 1 + 1, fls fun _ => 0, 30)] ((((w.alloc (.cells (fls c) 30)).alloc (.cells (fls g) 23)).alloc (.cells (fls fun _ => 0) 30)).alloc (.cells (fls fun _ => 0) 30))) := hid ((((((Kept.nil w).push _ _).push _ _).push _ _).push _ _).sub (by simp))
  have c0 : Hid (arrAt _ w.heap.size c 30) := hid (k0.out.at (x := (w.heap.size, fls c, 30)) (by simp))
  have g0 : Hid (arrAt _ (w.heap.size + 1) g 23) := hid (k0.out.at (x := (w.heap.size + 1, fls g, 23)) (by simp))
  have r0 : Hid (arrAt _ (w.heap.size + 1 + 1) (fun _ => 0) 30) := hid (k0.out.at (x := (w.heap.size + 1 + 1, fls fun _ => 0, 30)) (by simp))
  have s0 : Hid (arrAt _ (w.heap.size + 1 + 1 + 1) (fun _ => 0) 30) := hid (k0.out.at (x := (w.heap.size + 1 + 1 + 1, fls fun _ => 0, 30)) (by simp))
  have b0 := hid k0.out.1
  clear k0
  have Hc := hid hc
  have Hg := hid hg
  have G1 := hid g1
  have G2 := hid g2
  have Hnn := hid (shN_nn hc hg)
  clear hc hg g1 g2
  go_enter Tryz.func165, Tryz.ntmps165
  go_wp2_with (refine wpList_load_row rfl 30 _ rfl (w.heap.size) rfl 30 (fls c) (0, 0) _ c0.out Tryz.underlying30 rfl (by rw [fls_size]; exact info_arr) ?_; generalize ((((w.alloc (.cells (fls c) 30)).alloc (.cells (fls g) 23)).alloc (.cells (fls fun _ => 0) 30)).alloc (.cells (fls fun _ => 0) 30)) = w3 at c0 g0 r0 s0 b0 ⊢)
  go_loopw [13] (fun i wr => ∃ k : Nat, k ≤ 20 ∧ i = .int .i64 k ∧ Hid (Fins (shN c g k)) ∧ Hid (arrAt wr w.heap.size c 30) ∧ Hid (arrAt wr (w.heap.size + 1) g 23) ∧ Hid (arrAt wr (w.heap.size + 1 + 1) (fun _ => 0) 30) ∧ Hid (arrAt wr (w.heap.size + 1 + 1 + 1) (shN c g k) 30) ∧ Hid (Below w.heap.size w wr)) (fun i _ => 20 - (intOf i).toNat)
  case atStart => exact ⟨0, by omega, rfl, hid (fun i _ => (by decide : finB 0 = true)), c0, g0, r0, s0, b0⟩
  case round =>
    obtain ⟨k, hk, rfl, HF, c1, g1, r1, s1, b1⟩ := hrel
    clear c0 g0 r0 s0 b0
    by_cases hlt : k < 20
    · have HK := hid hlt
      have hk3 : (k : Int) < 20 := by omega
      have hix := ix 30 Tryz.underlying30 c k hlt
      have q2 := g1.out.cell hlt
      have hgm := hid (gm_eq hlt (Hg.out k hlt))
      have ra := fun w => run_float_arith (P := Tryz.prog) w .add 22 .f32 _ _ _ hgm.out.1
      by_cases hz : c k = 0
      · have hoff := hid (shN_off (c := c) (g := g) (n := k) fun h => h.1 hz)
        rw [hz] at hix
        have e0 := eq0_t
        go_wp2_with fail
        go_quiet ((go_at_call 57; exact Calls.quiet_of_same (back (iMass k HK.out _))))
        go_wp2_with fail
        go_roundw
        case rel => exact ⟨k + 1, by have := HK.out; omega, by go_num, hid (hoff.out ▸ HF.out), hid c1.out, hid g1.out, hid r1.out, hid (hoff.out ▸ s1.out), hid (below_drewN b1.out _)⟩
        case measure => have := HK.out; simp [intOf]; omega
      · have e0 := eq0_f (Hc.out k hlt) hz
        by_cases hs : 0 < sv (gm k (g k))
        · have e1 := le0_f hgm.out.2 hs
          have hon := hid (shN_on (c := c) (g := g) hz hs)
          have hpos := hid (gm_pos hgm.out.2 hs)
          clear hs hz
          go_wp2_with fail
          go_quiet ((go_at_call 57; exact Calls.quiet_of_same (back (iMass k HK.out _))))
          have s1' := hid (show arrAt (World.drewN wr nq) (w.heap.size + 1 + 1 + 1) (shN c g k) 30 from s1.out)
          go_wp2_with (first | (refine wpList_load_row rfl 30 _ rfl (w.heap.size + 1 + 1 + 1) rfl 30 (fls (shN c g k)) (0, 0) _ s1'.out Tryz.underlying30 rfl (by rw [fls_size]; exact info_arr) ?_))
          have hA := hid (fins_amts (Hnn.out k (by have := HK.out; omega)) HF.out)
          by_cases hF : Fins (put1 (shN c g k) (gm k (g k)) (c k))
          · have HF2 := hid hF
            refine (iPut_any (shN c g k) hA.out (gm k (g k)) hpos.out.1 hpos.out.2 (c k) (Hc.out k HK.out) (put1 (shN c g k) (gm k (g k)) (c k)) 0 (fun _ => ⟨rfl, rfl⟩) (fun h => absurd hF h) _).mono ?_
            clear hF
            rintro e wm ⟨rfl, hm⟩
            have c4 : Hid (arrAt wm w.heap.size c 30) := hid (arrAt.stay (show arrAt (World.drewN wr nq) _ _ _ from c1.out) hm)
            have g4 : Hid (arrAt wm (w.heap.size + 1) g 23) := hid (arrAt.stay (show arrAt (World.drewN wr nq) _ _ _ from g1.out) hm)
            have r4 : Hid (arrAt wm (w.heap.size + 1 + 1) (fun _ => 0) 30) := hid (arrAt.stay (show arrAt (World.drewN wr nq) _ _ _ from r1.out) hm)
            have s4 : Hid (arrAt wm (w.heap.size + 1 + 1 + 1) (shN c g k) 30) := hid (arrAt.stay (show arrAt (World.drewN wr nq) _ _ _ from s1.out) hm)
            have b4 : Hid (Below w.heap.size w wm) := hid (stp (below_drewN b1.out _) (Nat.le_refl _) hm)
            clear c1 g1 r1 s1 s1' b1 hm
            have c5 := hid ((c4.out.alloc (.cells (fls fun _ => 0) 30)).setRowOther (k := wm.heap.size) (by have := c4.out.lt; omega) (fls (put1 (shN c g k) (gm k (g k)) (c k))))
            have g5 := hid ((g4.out.alloc (.cells (fls fun _ => 0) 30)).setRowOther (k := wm.heap.size) (by have := g4.out.lt; omega) (fls (put1 (shN c g k) (gm k (g k)) (c k))))
            have r5 := hid ((r4.out.alloc (.cells (fls fun _ => 0) 30)).setRowOther (k := wm.heap.size) (by have := r4.out.lt; omega) (fls (put1 (shN c g k) (gm k (g k)) (c k))))
            have s5 := hid ((s4.out.alloc (.cells (fls fun _ => 0) 30)).setRowOther (k := wm.heap.size) (by have := s4.out.lt; omega) (fls (put1 (shN c g k) (gm k (g k)) (c k))))
            have N4 : Hid (arrAt (wm.alloc (.cells (fls fun _ => 0) 30)) wm.heap.size (fun _ => 0) 30) := hid (arrAt.new wm (fun _ => 0) 30)
            have N5 := hid (N4.out.setRow (put1 (shN c g k) (gm k (g k)) (c k)))
            have b5 := hid (below_row (b4.out.alloc b4.out.size (.cells (fls fun _ => 0) 30)) b4.out.size (g := wm.heap.size) (fls (put1 (shN c g k) (gm k (g k)) (c k))))
            have tok2 : True := trivial
            go_wp2_with (first | (have _t := tok2; refine wpList_store_row rfl 30 _ _ rfl (wm.heap.size) (fls (put1 (shN c g k) (gm k (g k)) (c k))) rfl rfl 30 _ N4.out (by rw [fls_size]; exact info_arr) (by simp) (fls_one _) ?_; generalize ((wm.alloc (.cells (fls fun _ => 0) 30)).setRow (wm.heap.size) (fls (put1 (shN c g k) (gm k (g k)) (c k)))) = wz at c5 g5 r5 s5 N5 b5 ⊢; clear c4 g4 r4 s4 N4 b4 tok2) | (refine wpList_load_row rfl 30 _ rfl (wm.heap.size) rfl 30 (fls (put1 (shN c g k) (gm k (g k)) (c k))) (0, 0) _ N5.out Tryz.underlying30 rfl (by rw [fls_size]; exact info_arr) ?_) | (refine wpList_store_row rfl 30 _ _ rfl (w.heap.size + 1 + 1 + 1) (fls (put1 (shN c g k) (gm k (g k)) (c k))) rfl rfl 30 _ s5.out (by rw [fls_size]; exact info_arr) (by simp) (fls_one _) ?_))
            go_roundw
            case rel => exact ⟨k + 1, by have := HK.out; omega, by go_num, hid (hon.out.symm ▸ HF2.out), hid (c5.out.setRowOther (by omega) _), hid (g5.out.setRowOther (by omega) _), hid (r5.out.setRowOther (by omega) _), hid (hon.out.symm ▸ s5.out.setRow _), hid (below_row b5.out (by omega) _)⟩
            case measure => have := HK.out; simp [intOf]; omega
          · have HF2 := hid hF
            refine (iPut_any (shN c g k) hA.out (gm k (g k)) hpos.out.1 hpos.out.2 (c k) (Hc.out k HK.out) (fun _ => 0) 4 (fun h => absurd h hF) (fun _ => ⟨rfl, rfl⟩) _).mono ?_
            clear hF
            obtain ⟨rfl, rfl⟩ := G2.out (shN_bad Hc.out Hg.out (n := k + 1) (by rw [hon.out]; exact HF2.out) 20 (by have := HK.out; omega) (Nat.le_refl _))
            rintro e wm ⟨rfl, hm⟩
            have c4 : Hid (arrAt wm w.heap.size c 30) := hid (arrAt.stay (show arrAt (World.drewN wr nq) _ _ _ from c1.out) hm)
            have g4 : Hid (arrAt wm (w.heap.size + 1) g 23) := hid (arrAt.stay (show arrAt (World.drewN wr nq) _ _ _ from g1.out) hm)
            have r4 : Hid (arrAt wm (w.heap.size + 1 + 1) (fun _ => 0) 30) := hid (arrAt.stay (show arrAt (World.drewN wr nq) _ _ _ from r1.out) hm)
            have s4 : Hid (arrAt wm (w.heap.size + 1 + 1 + 1) (shN c g k) 30) := hid (arrAt.stay (show arrAt (World.drewN wr nq) _ _ _ from s1.out) hm)
            have b4 : Hid (Below w.heap.size w wm) := hid (stp (below_drewN b1.out _) (Nat.le_refl _) hm)
            clear c1 g1 r1 s1 s1' b1 hm
            have c5 := hid ((c4.out.alloc (.cells (fls fun _ => 0) 30)).setRowOther (k := wm.heap.size) (by have := c4.out.lt; omega) (fls (fun _ => 0)))
            have g5 := hid ((g4.out.alloc (.cells (fls fun _ => 0) 30)).setRowOther (k := wm.heap.size) (by have := g4.out.lt; omega) (fls (fun _ => 0)))
            have r5 := hid ((r4.out.alloc (.cells (fls fun _ => 0) 30)).setRowOther (k := wm.heap.size) (by have := r4.out.lt; omega) (fls (fun _ => 0)))
            have s5 := hid ((s4.out.alloc (.cells (fls fun _ => 0) 30)).setRowOther (k := wm.heap.size) (by have := s4.out.lt; omega) (fls (fun _ => 0)))
            have N4 : Hid (arrAt (wm.alloc (.cells (fls fun _ => 0) 30)) wm.heap.size (fun _ => 0) 30) := hid (arrAt.new wm (fun _ => 0) 30)
            have N5 := hid (N4.out.setRow (fun _ => 0))
            have b5 := hid (below_row (b4.out.alloc b4.out.size (.cells (fls fun _ => 0) 30)) b4.out.size (g := wm.heap.size) (fls (fun _ => 0)))
            have tok2 : True := trivial
            go_wp2_with (first | (have _t := tok2; refine wpList_store_row rfl 30 _ _ rfl (wm.heap.size) (fls (fun _ => 0)) rfl rfl 30 _ N4.out (by rw [fls_size]; exact info_arr) (by simp) (fls_one _) ?_; generalize ((wm.alloc (.cells (fls fun _ => 0) 30)).setRow (wm.heap.size) (fls (fun _ => 0))) = wz at c5 g5 r5 s5 N5 b5 ⊢; clear c4 g4 r4 s4 N4 b4 tok2) | (refine wpList_store_row rfl 30 _ _ rfl (w.heap.size + 1 + 1) (fls (fun _ => 0)) rfl rfl 30 _ r5.out (by rw [fls_size]; exact info_arr) (by simp) (fls_one _) ?_))
            exact bodyPost_ret (results_row_tmp rfl _ _ (w.heap.size + 1 + 1) 30 (fls fun _ => 0) (0, 0) _ rfl (r5.out.setRow (fun _ => 0)) Tryz.underlying30 rfl (by rw [fls_size]; exact info_arr)) rfl ⟨rfl, below_row b5.out (by omega) _⟩
        · have e1 := le0_t hgm.out.2 hs
          have hoff := hid (shN_off (c := c) (g := g) (n := k) fun h => hs h.2)
          clear hs hz
          go_wp2_with fail
          go_quiet ((go_at_call 57; exact Calls.quiet_of_same (back (iMass k HK.out _))))
          go_wp2_with fail
          go_roundw
          case rel => exact ⟨k + 1, by have := HK.out; omega, by go_num, hid (hoff.out ▸ HF.out), hid c1.out, hid g1.out, hid r1.out, hid (hoff.out ▸ s1.out), hid (below_drewN b1.out _)⟩
          case measure => have := HK.out; simp [intOf]; omega
    · obtain rfl : k = 20 := by omega
      obtain ⟨hR, hn⟩ := G1.out HF.out
      subst hn
      have hR' := hR.symm
      clear G1 G2 Hnn HF hlt hk hR
      generalize shN c g 20 = d at s1 hR'
      subst hR'
      go_wp2_with (first | (refine wpList_load_row rfl 30 _ rfl (w.heap.size + 1 + 1 + 1) rfl 30 (fls d) (0, 0) _ s1.out Tryz.underlying30 rfl (by rw [fls_size]; exact info_arr) ?_) | (refine wpList_store_row rfl 30 _ _ rfl (w.heap.size + 1 + 1) (fls d) rfl rfl 30 _ r1.out (by rw [fls_size]; exact info_arr) (by simp) (fls_one _) ?_))
      exact bodyPost_ret (results_row_tmp rfl _ _ (w.heap.size + 1 + 1) 30 (fls d) (0, 0) _ rfl (r1.out.setRow d) Tryz.underlying30 rfl (by rw [fls_size]; exact info_arr)) rfl ⟨rfl, below_row b1.out (by omega) _⟩

set_option maxHeartbeats 1000000 in
set_option maxRecDepth 100000 in
theorem iShiftMasses_ok (c g : Nat → Nat) (hc : Amts c) (hg : ∀ i, i < 20 → FW (g i)) (R : Nat → Nat) (z : Nat) (n : Int) (g1 : ShOk c g → R = shN c g 20 ∧ z = fsb (sumF (wat (shN c g 20)) 19) (sumF (wat c) 19) ∧ n = 0) (g2 : ¬ ShOk c g → R = (fun _ => 0) ∧ z = 0 ∧ n = 4) (w : World) :
    Calls Tryz.prog 158 #[.agg (fls c), .agg (fls g)] w fun e w' => e = .returned (.tuple #[.agg (fls R), .float .f32 z, .int .i64 n]) ∧ Below w.heap.size w w' := by
  have k0 : Hid (Kept w [(w.heap.size, fls c, 30), (w.heap.size + 1, fls g, 23), (w.heap.size + 1 + 1, fls fun _ => 0, 30)] (((w.alloc (.cells (fls c) 30)).alloc (.cells (fls g) 23)).alloc (.cells (fls fun _ => 0) 30))) := hid (((((Kept.nil w).push _ _).push _ _).push _ _).sub (by simp))
  have c0 : Hid (arrAt _ w.heap.size c 30) := hid (k0.out.at (x := (w.heap.size, fls c, 30)) (by simp))
  have g0 : Hid (arrAt _ (w.heap.size + 1) g 23) := hid (k0.out.at (x := (w.heap.size + 1, fls g, 23)) (by simp))
  have r0 : Hid (arrAt _ (w.heap.size + 1 + 1) (fun _ => 0) 30) := hid (k0.out.at (x := (w.heap.size + 1 + 1, fls fun _ => 0, 30)) (by simp))
  have b0 := hid k0.out.1
  clear k0
  have Hc := hid hc
  have Hg := hid hg
  have G1 := hid g1
  have G2 := hid g2
  clear hc hg g1 g2
  go_enter Tryz.func158, Tryz.ntmps158
  go_wp2_with ((refine wpList_load_row rfl 30 _ rfl (w.heap.size) rfl 30 (fls c) (0, 0) _ c0.out Tryz.underlying30 rfl (by rw [fls_size]; exact info_arr) ?_))
  refine (validSizes_t c Hc.out _).mono ?_
  rintro e w1 ⟨rfl, h1⟩
  have c1 := hid (c0.out.stay h1)
  have g1 := hid (g0.out.stay h1)
  have r1 := hid (r0.out.stay h1)
  have b1 := hid (stp b0.out (Nat.le_refl _) h1)
  clear c0 g0 r0 b0 h1
  go_wp2_with ((refine wpList_load_row rfl 23 _ rfl (w.heap.size + 1) rfl 23 (fls g) (0, 0) _ g1.out Tryz.underlying23 rfl (by rw [fls_size]; exact info_a20) ?_))
  go_loopw [18] (fun i wr => ∃ k : Nat, k ≤ 20 ∧ i = .int .i64 k ∧ Hid (arrAt wr w.heap.size c 30) ∧ Hid (arrAt wr (w.heap.size + 1) g 23) ∧ Hid (arrAt wr (w.heap.size + 1 + 1) (fun _ => 0) 30) ∧ Hid (Below w.heap.size w wr)) (fun i _ => 20 - (intOf i).toNat)
  case atStart => exact ⟨0, by omega, rfl, c1, g1, r1, b1⟩
  case round =>
    obtain ⟨k, hk, rfl, c2, g2, r2, b2⟩ := hrel
    clear c1 g1 r1 b1
    by_cases hlt : k < 20
    · have hk3 : (k : Int) < 20 := by omega
      have q2 := ix 23 Tryz.underlying23 g k hlt
      have hf := Hg.out k hlt
      go_wp2_with fail
      refine (isFinite_t (g k) hf.1 hf.fin _).mono ?_
      rintro e w3 ⟨rfl, rfl⟩
      go_wp2_with fail
      go_roundw
      case rel => exact ⟨k + 1, by omega, by go_num, c2, g2, r2, b2⟩
      case measure => simp [intOf]; omega
    · obtain rfl : k = 20 := by omega
      clear hlt hk
      have HN := hid (shN_nn Hc.out Hg.out 20 (Nat.le_refl _))
      have HS := hid (fun R n h1 h2 w => iShiftEach c g Hc.out Hg.out R n h1 h2 w)
      unfold ShOk at G1 G2
      generalize shN c g 20 = d at HN HS G1 G2
      have ha := hid (show nnB (sumF (wat d) 19) = true from sumF_nn 19 fun i hi => (mul_mass (HN.out i (by omega)) (by omega)).2)
      have hbn := hid (show nnB (sumF (wat c) 19) = true from sumF_nn 19 fun i hi => (mul_mass (Hc.out.nn i (by omega)) (by omega)).2)
      have HW2 := hid (fun w => iWaterOf_ok c Hc.out w)
      have HW1 := hid (fun (h : Amts d) w => iWaterOf_ok d h w)
      generalize sumF (wat d) 19 = sa at G1 G2 ha HW1
      generalize sumF (wat c) 19 = sb at G1 G2 hbn HW2
      by_cases hF : Fins d
      · have HA := hid (fins_amts HN.out hF)
        go_wp2_with (first | (refine wpList_load_row rfl 30 _ rfl (w.heap.size) rfl 30 (fls c) (0, 0) _ c2.out Tryz.underlying30 rfl (by rw [fls_size]; exact info_arr) ?_) | (refine wpList_load_row rfl 23 _ rfl (w.heap.size + 1) rfl 23 (fls g) (0, 0) _ g2.out Tryz.underlying23 rfl (by rw [fls_size]; exact info_a20) ?_))
        refine (HS.out d 0 (fun _ => ⟨rfl, rfl⟩) (fun h => absurd hF h) _).mono ?_
        clear HS
        rintro e wm ⟨rfl, hm⟩
        have c4 := hid (c2.out.stay hm)
        have g4 := hid (g2.out.stay hm)
        have r4 := hid (r2.out.stay hm)
        have b4 := hid (stp b2.out (Nat.le_refl _) hm)
        clear c2 g2 r2 b2 hm
        have c5 := hid ((c4.out.alloc (.cells (fls fun _ => 0) 30)).setRowOther (k := wm.heap.size) (by have := c4.out.lt; omega) (fls d))
        have g5 := hid ((g4.out.alloc (.cells (fls fun _ => 0) 30)).setRowOther (k := wm.heap.size) (by have := g4.out.lt; omega) (fls d))
        have r5 := hid ((r4.out.alloc (.cells (fls fun _ => 0) 30)).setRowOther (k := wm.heap.size) (by have := r4.out.lt; omega) (fls d))
        have N4 : Hid (arrAt (wm.alloc (.cells (fls fun _ => 0) 30)) wm.heap.size (fun _ => 0) 30) := hid (arrAt.new wm (fun _ => 0) 30)
        have N5 := hid (N4.out.setRow d)
        have b5 := hid (below_row (b4.out.alloc b4.out.size (.cells (fls fun _ => 0) 30)) b4.out.size (g := wm.heap.size) (fls d))
        have tok2 : True := trivial
        rcases hfb : finB sb with _ | _
        · obtain ⟨rfl, rfl, rfl⟩ := G2.out fun h => absurd (h.2.2.symm.trans hfb) Bool.noConfusion
          rw [told_f hfb] at HW2
          clear G1 hfb hF
          go_wp2_with (first | (have _t := tok2; refine wpList_store_row rfl 30 _ _ rfl (wm.heap.size) (fls d) rfl rfl 30 _ N4.out (by rw [fls_size]; exact info_arr) (by simp) (fls_one _) ?_; generalize ((wm.alloc (.cells (fls fun _ => 0) 30)).setRow (wm.heap.size) (fls d)) = wz at c5 g5 r5 N5 b5 ⊢; clear c4 g4 r4 N4 b4 tok2) | (refine wpList_load_row rfl 30 _ rfl (w.heap.size) rfl 30 (fls c) (0, 0) _ c5.out Tryz.underlying30 rfl (by rw [fls_size]; exact info_arr) ?_))
          refine (HW2.out _).mono ?_
          rintro e wn ⟨rfl, hn⟩
          have N9 := hid (N5.out.stay hn)
          clear N5
          have c9 := hid (c5.out.stay hn)
          have g9 := hid (g5.out.stay hn)
          have r9 := hid (r5.out.stay hn)
          have b9 := hid (stp b5.out (Nat.le_refl _) hn)
          clear c5 g5 r5 b5 hn
          go_wp2_with ((refine wpList_store_row rfl 30 _ _ rfl (w.heap.size + 1 + 1) (fls (fun _ => 0)) rfl rfl 30 _ r9.out (by rw [fls_size]; exact info_arr) (by simp) (fls_one _) ?_))
          exact bodyPost_ret (results_row_tmp2 rfl _ _ (w.heap.size + 1 + 1) 30 (fls (fun _ => 0)) (0, 0) _ rfl (r9.out.setRow (fun _ => 0)) Tryz.underlying30 rfl (by rw [fls_size]; exact info_arr)) rfl ⟨rfl, below_row b9.out (by omega) _⟩
        · have hzb := hid hfb
          rw [told_t hfb] at HW2
          go_wp2_with (first | (have _t := tok2; refine wpList_store_row rfl 30 _ _ rfl (wm.heap.size) (fls d) rfl rfl 30 _ N4.out (by rw [fls_size]; exact info_arr) (by simp) (fls_one _) ?_; generalize ((wm.alloc (.cells (fls fun _ => 0) 30)).setRow (wm.heap.size) (fls d)) = wz at c5 g5 r5 N5 b5 ⊢; clear c4 g4 r4 N4 b4 tok2) | (refine wpList_load_row rfl 30 _ rfl (w.heap.size) rfl 30 (fls c) (0, 0) _ c5.out Tryz.underlying30 rfl (by rw [fls_size]; exact info_arr) ?_))
          refine (HW2.out _).mono ?_
          rintro e wn ⟨rfl, hn⟩
          have N6 := hid (N5.out.stay hn)
          clear N5
          have c6 := hid (c5.out.stay hn)
          have g6 := hid (g5.out.stay hn)
          have r6 := hid (r5.out.stay hn)
          have b6 := hid (stp b5.out (Nat.le_refl _) hn)
          clear c5 g5 r5 b5 hn
          rcases hfa : finB sa with _ | _
          · obtain ⟨rfl, rfl, rfl⟩ := G2.out fun h => absurd (h.2.1.symm.trans hfa) Bool.noConfusion
            rw [told_f hfa] at HW1
            clear G1 hfb hF hfa
            go_wp2_with ((refine wpList_load_row rfl 30 _ rfl (wm.heap.size) rfl 30 (fls d) (0, 0) _ N6.out Tryz.underlying30 rfl (by rw [fls_size]; exact info_arr) ?_))
            refine (HW1.out HA.out _).mono ?_
            rintro e wo ⟨rfl, ho⟩
            have N9 := hid (N6.out.stay ho)
            clear N6
            have c9 := hid (c6.out.stay ho)
            have g9 := hid (g6.out.stay ho)
            have r9 := hid (r6.out.stay ho)
            have b9 := hid (stp b6.out (Nat.le_refl _) ho)
            clear c6 g6 r6 b6 ho
            go_wp2_with ((refine wpList_store_row rfl 30 _ _ rfl (w.heap.size + 1 + 1) (fls (fun _ => 0)) rfl rfl 30 _ r9.out (by rw [fls_size]; exact info_arr) (by simp) (fls_one _) ?_))
            exact bodyPost_ret (results_row_tmp2 rfl _ _ (w.heap.size + 1 + 1) 30 (fls (fun _ => 0)) (0, 0) _ rfl (r9.out.setRow (fun _ => 0)) Tryz.underlying30 rfl (by rw [fls_size]; exact info_arr)) rfl ⟨rfl, below_row b9.out (by omega) _⟩
          · obtain ⟨hR, hz', hn'⟩ := G1.out ⟨hF, hfa, hfb⟩
            have hR' := hR.symm
            clear hR
            subst hR'
            subst hn'
            rw [told_t hfa] at HW1
            have hfz := sub_fin2 ha.out hbn.out hfa hfb
            rw [← hz'] at hfz
            have hr := fun w => run_float_arith (P := Tryz.prog) w .sub 22 .f32 _ _ _ hfz.1
            clear hfz hz' hfb hF hfa G2
            go_wp2_with ((refine wpList_load_row rfl 30 _ rfl (wm.heap.size) rfl 30 (fls d) (0, 0) _ N6.out Tryz.underlying30 rfl (by rw [fls_size]; exact info_arr) ?_))
            refine (HW1.out HA.out _).mono ?_
            rintro e wo ⟨rfl, ho⟩
            have N9 := hid (N6.out.stay ho)
            clear N6
            have c9 := hid (c6.out.stay ho)
            have g9 := hid (g6.out.stay ho)
            have r9 := hid (r6.out.stay ho)
            have b9 := hid (stp b6.out (Nat.le_refl _) ho)
            clear c6 g6 r6 b6 ho
            go_wp2_with (first | (refine wpList_load_row rfl 30 _ rfl (wm.heap.size) rfl 30 (fls d) (0, 0) _ N9.out Tryz.underlying30 rfl (by rw [fls_size]; exact info_arr) ?_) | (refine wpList_store_row rfl 30 _ _ rfl (w.heap.size + 1 + 1) (fls d) rfl rfl 30 _ r9.out (by rw [fls_size]; exact info_arr) (by simp) (fls_one _) ?_))
            exact bodyPost_ret (results_row_tmp2 rfl _ _ (w.heap.size + 1 + 1) 30 (fls d) (0, 0) _ rfl (r9.out.setRow d) Tryz.underlying30 rfl (by rw [fls_size]; exact info_arr)) rfl ⟨rfl, below_row b9.out (by omega) _⟩
      · obtain ⟨rfl, rfl, rfl⟩ := G2.out fun h => hF h.1
        go_wp2_with (first | (refine wpList_load_row rfl 30 _ rfl (w.heap.size) rfl 30 (fls c) (0, 0) _ c2.out Tryz.underlying30 rfl (by rw [fls_size]; exact info_arr) ?_) | (refine wpList_load_row rfl 23 _ rfl (w.heap.size + 1) rfl 23 (fls g) (0, 0) _ g2.out Tryz.underlying23 rfl (by rw [fls_size]; exact info_a20) ?_))
        refine (HS.out (fun _ => 0) 4 (fun h => absurd h hF) (fun _ => ⟨rfl, rfl⟩) _).mono ?_
        clear HS hF
        rintro e wm ⟨rfl, hm⟩
        have c4 := hid (c2.out.stay hm)
        have g4 := hid (g2.out.stay hm)
        have r4 := hid (r2.out.stay hm)
        have b4 := hid (stp b2.out (Nat.le_refl _) hm)
        clear c2 g2 r2 b2 hm
        have c5 := hid ((c4.out.alloc (.cells (fls fun _ => 0) 30)).setRowOther (k := wm.heap.size) (by have := c4.out.lt; omega) (fls (fun _ => 0)))
        have g5 := hid ((g4.out.alloc (.cells (fls fun _ => 0) 30)).setRowOther (k := wm.heap.size) (by have := g4.out.lt; omega) (fls (fun _ => 0)))
        have r5 := hid ((r4.out.alloc (.cells (fls fun _ => 0) 30)).setRowOther (k := wm.heap.size) (by have := r4.out.lt; omega) (fls (fun _ => 0)))
        have N4 : Hid (arrAt (wm.alloc (.cells (fls fun _ => 0) 30)) wm.heap.size (fun _ => 0) 30) := hid (arrAt.new wm (fun _ => 0) 30)
        have N5 := hid (N4.out.setRow (fun _ => 0))
        have b5 := hid (below_row (b4.out.alloc b4.out.size (.cells (fls fun _ => 0) 30)) b4.out.size (g := wm.heap.size) (fls (fun _ => 0)))
        have tok2 : True := trivial
        go_wp2_with (first | (have _t := tok2; refine wpList_store_row rfl 30 _ _ rfl (wm.heap.size) (fls (fun _ => 0)) rfl rfl 30 _ N4.out (by rw [fls_size]; exact info_arr) (by simp) (fls_one _) ?_; generalize ((wm.alloc (.cells (fls fun _ => 0) 30)).setRow (wm.heap.size) (fls (fun _ => 0))) = wz at c5 g5 r5 N5 b5 ⊢; clear c4 g4 r4 N4 b4 tok2) | (refine wpList_store_row rfl 30 _ _ rfl (w.heap.size + 1 + 1) (fls (fun _ => 0)) rfl rfl 30 _ r5.out (by rw [fls_size]; exact info_arr) (by simp) (fls_one _) ?_))
        exact bodyPost_ret (results_row_tmp2 rfl _ _ (w.heap.size + 1 + 1) 30 (fls (fun _ => 0)) (0, 0) _ rfl (r5.out.setRow (fun _ => 0)) Tryz.underlying30 rfl (by rw [fls_size]; exact info_arr)) rfl ⟨rfl, below_row b5.out (by omega) _⟩

theorem sh_amts {c g : Nat → Nat} (hc : Amts c) (hg : ∀ i, i < 20 → FW (g i)) (h : ShOk c g) : Amts (shN c g 20) := fins_amts (shN_nn hc hg 20 (Nat.le_refl _)) h.1

theorem iDem0 (w : World) : Calls Tryz.prog 148 #[.int .i64 0] w fun e w' => e = .returned (.tuple #[]) ∧ w = w' := by
  go_enter Tryz.func148, Tryz.ntmps148
  go_wp2
  go_end0
  exact ⟨rfl, rfl⟩

set_option maxRecDepth 100000 in
theorem iDemF (n : Int) (hn : n ≠ 0) (w : World) : Calls Tryz.prog 148 #[.int .i64 n] w fun e w' => e = .panicked [{ v := .iface 185 (.int .i64 n), recovered := false }] ∧ w = w' := by
  have hcon : Tryz.prog.concrete 185 = true := by kernel_rfl
  go_enter Tryz.func148, Tryz.ntmps148
  go_wp2
  exact ⟨rfl, rfl, rfl⟩

theorem iFaultS (n : Int) (w : World) : Calls Tryz.prog 190 #[.int .i64 n] w fun e w' => e = .returned (.int .i64 n) ∧ w = w' := by
  go_enter Tryz.func190, Tryz.ntmps190
  go_wp2
  go_ret
  exact ⟨rfl, rfl⟩

@[go_sem] theorem as_step (v : Value) (w : World) : (Instr.typeAssert (.iface 185 v) 20 168 true).run Tryz.prog w = .ok (.tuple #[.iface 185 v, .bool true]) w := by kernel_rfl

theorem cm_step (v : Value) (w : World) : (callMethod (.iface 185 v) "loop.example/g01224/impl.fault" #[]).run Tryz.prog w = .ok (.enter 190 #[v]) w := by kernel_rfl

set_option maxRecDepth 100000 in
theorem iCodeOfS (n : Int) (w : World) : Calls Tryz.prog 114 #[.iface 185 (.int .i64 n)] w fun e w' => e = .returned (.int .i64 n) ∧ w = w' := by
  have hm := cm_step
  go_enter Tryz.func114, Tryz.ntmps114
  go_wp2_with fail
  refine (iFaultS n _).mono ?_
  rintro e w1 ⟨rfl, rfl⟩
  go_wp2
  go_ret
  exact ⟨rfl, rfl⟩

set_option maxRecDepth 100000 in
theorem iHeld (x : Nat) {q m : Nat} (hq : q ≤ INF) (hm : m < INF) (h0 : 0 < m) (w : World) :
    Calls Tryz.prog 153 #[.float .f32 (sgnW x q), .float .f32 (2147483648 + m), .float .f32 m] w fun e w' => e = .returned (.float .f32 (sgnW x (min q m))) ∧ w = w' := by
  have r1 := fun ts t w => run_max_sgn (P := Tryz.prog) ts t x hq hm h0 w
  have r2 := fun ts t w => run_min_sgn (P := Tryz.prog) ts t x hq hm h0 w
  clear hq hm h0
  go_enter Tryz.func153, Tryz.ntmps153
  go_wp2
  go_ret
  exact ⟨rfl, rfl⟩

set_option maxRecDepth 100000 in
theorem iHeld_nan (z a b : Nat) (hz : INF < mg z) (w : World) :
    Calls Tryz.prog 153 #[.float .f32 z, .float .f32 a, .float .f32 b] w fun e w' => ∃ v, v < 4294967296 ∧ finB v = false ∧ e = .returned (.float .f32 v) ∧ Below w.heap.size w w' := by
  obtain ⟨z1, r1, h1, _⟩ := run_max_nan (P := Tryz.prog) #[22, 22] 22 a hz w
  obtain ⟨z2, r2, h2, h3⟩ := run_min_nan (P := Tryz.prog) #[22, 22] 22 b h1 w.drew
  have HV := hid (show finB z2 = false from finB_iff'.2 (by omega))
  have H3 := hid h3
  clear hz h1 h2 h3
  go_enter Tryz.func153, Tryz.ntmps153
  go_wp2
  go_ret
  exact ⟨z2, H3.out, HV.out, rfl, (Below.refl _ _).drew.drew⟩

set_option maxHeartbeats 1000000 in
set_option maxRecDepth 100000 in
theorem iGains_ok (x t : Nat) (hx : x < 4294967296) (hf : finB x = true) (ht : amtB t = true) (r : Nat → Nat) (q : Int) (h1 : (∀ k, k < 20 → gNan x t k = false) → r = gainW x t ∧ q = 0) (h2 : ¬ (∀ k, k < 20 → gNan x t k = false) → r = (fun _ => 0) ∧ q = 4) (w : World) :
    Calls Tryz.prog 157 #[.float .f32 x, .float .f32 t] w fun e w' => e = .returned (.tuple #[.agg (vls 20 (flw r)), .int .i64 q]) ∧ Below w.heap.size w w' := by
  have A1 : Hid (vAt (w.alloc (.cells (fls fun _ => 0) 23)) w.heap.size 20 (flw fun _ => 0) 23) := hid (vAt.new w 20 (flw fun _ => 0) 23)
  have b0 := boxed w (.cells (fls fun _ => 0) 23)
  have H1 := hid h1
  have H2 := hid h2
  have HX := hid hx
  have HF := hid hf
  have HT := hid ht
  clear h1 h2 hx hf ht
  go_enter Tryz.func157, Tryz.ntmps157
  go_wp2_with fail
  refine (isFinite_t x HX.out HF.out _).mono ?_
  rintro e w1 ⟨rfl, rfl⟩
  go_wp2_with fail
  refine (isAmount_t t HT.out _).mono ?_
  rintro e w1 ⟨rfl, rfl⟩
  generalize hw1 : (w.alloc (.cells (fls fun _ => 0) 23)) = w1 at A1 b0 ⊢
  have hl : w.heap.size + 1 ≤ w1.heap.size := by rw [← hw1]; simp
  have HL := hid hl
  clear hw1 hl
  have N0 : Hid (vAt (w1.alloc (.cells (fls fun _ => 0) 23)) w1.heap.size 20 (flw fun _ => 0) 23) := hid (vAt.new w1 20 (flw fun _ => 0) 23)
  have N1 := hid (A1.out.alloc (.cells (fls fun _ => 0) 23))
  have nb := hid (b0.alloc b0.size (.cells (fls fun _ => 0) 23))
  clear A1 b0
  go_wp2_with fail
  go_loopw [21] (fun i wr => ∃ k : Nat, k ≤ 20 ∧ i = .int .i64 k ∧ Hid (∀ i, i < k → gNan x t i = false) ∧ Hid (vAt wr w1.heap.size 20 (flw (prt (gainW x t) (fun _ => 0) k)) 23) ∧ Hid (vAt wr w.heap.size 20 (flw fun _ => 0) 23) ∧ Hid (Below w.heap.size w wr)) (fun i _ => 20 - (intOf i).toNat)
  case atStart => exact ⟨0, by omega, rfl, hid fun i hi => by omega, hid (N0.out.ext fun i _ => by unfold flw; rw [part_zero]), N1, nb⟩
  case round =>
    obtain ⟨k, hk, rfl, hB, h0, h1, hb⟩ := hrel
    clear N0 N1 nb
    by_cases hlt : k < 20
    · have HK := hid hlt
      have hk3 : (k : Int) < 20 := by omega
      have H := hid (gain_ok HX.out HF.out HT.out HK.out)
      have r1 := fun w => run_float_arith (P := Tryz.prog) w .mul 22 .f32 _ _ _ H.out.r1
      have r3 := fun w => run_neg_mass (P := Tryz.prog) HK.out w
      go_wp2_with fail
      refine (iRadius k HK.out _).mono ?_
      rintro e wa ⟨rfl, rfl⟩
      go_wp2_with fail
      refine (iMass k HK.out _).mono ?_
      rintro e wa ⟨rfl, rfl⟩
      rcases hn : gNan x t k with _ | _
      · have hr2 := H.out.r2 hn
        have HQ := hid hr2.2
        have r2 := fun w => run_float_arith (P := Tryz.prog) w .mul 22 .f32 _ _ _ hr2.1
        have HB := hid (show ∀ i, i < k + 1 → gNan x t i = false from fun i hi => by
          rcases Nat.lt_or_eq_of_le (Nat.le_of_lt_succ hi) with h | rfl
          · exact hB.out i h
          · exact hn)
        clear hn hr2
        go_wp2_with fail
        refine (iHeld x HQ.out H.out.m1 H.out.m0 _).mono ?_
        rintro e wa ⟨rfl, rfl⟩
        go_wp2_with fail
        rw [show sgnW x (min (gqW x t k) (mass k)) = gainW x t k from rfl]
        refine (isFinite_t (gainW x t k) H.out.lt H.out.fin _).mono ?_
        rintro e wa ⟨rfl, rfl⟩
        have q0 := h0.out.cell HK.out
        have f0 := h0.out.frozen k
        have n0 := hid ((h0.out.fset k (gainW x t k)).ext (d := flw (prt (gainW x t) (fun _ => 0) (k + 1))) fun i _ => by unfold flw; rw [← part_succ (gainW x t) (fun _ => 0) k i])
        have n1 := hid (h1.out.setOther (a := ⟨w1.heap.size, k, none⟩) (by have := HL.out; simp; omega) (.float .f32 (gainW x t k)))
        have nb := hb.out.setCell (p := ⟨w1.heap.size, k, none⟩) (by have := HL.out; simp; omega) (.float .f32 (gainW x t k))
        go_wp2
        go_roundw
        case rel => exact ⟨k + 1, by omega, by go_num, HB, n0, n1, hid nb⟩
        case measure => simp [intOf]; omega
      · have hne : ¬ ∀ k, k < 20 → gNan x t k = false := fun hall => by have := hall k HK.out; rw [hn] at this; cases this
        obtain ⟨rfl, rfl⟩ := H2.out hne
        obtain ⟨z, r2, hz, _⟩ := run_arith_nan (P := Tryz.prog) (w := wr) .mul (.inr (.inr (.inl rfl))) 22 _ _ (H.out.r3 hn)
        have HZ := hid hz
        have D1 := hid h1.out.drew
        have db := hb.out.drew
        clear hn hne hz h0 h1 hb
        go_wp2_with fail
        refine (iHeld_nan z _ _ HZ.out _).mono ?_
        rintro e wa ⟨v, hv1, hv2, rfl, hba⟩
        have D1 := hid (D1.out.stay hba)
        have db := stp db (Nat.le_refl _) hba
        have HV1 := hid hv1
        have HV2 := hid hv2
        clear hv1 hv2
        go_wp2_with fail
        refine (isFinite_f v HV1.out HV2.out _).mono ?_
        rintro e wc ⟨rfl, hbc⟩
        have A3 := hid (D1.out.stay hbc)
        have b3 := stp db (Nat.le_refl _) hbc
        go_wp2_with (refine wpList_store_row rfl 23 _ _ rfl (w.heap.size) (vls 20 (flw fun _ => 0)) rfl rfl 23 _ A3.out (by rw [vls_size]; exact info_a20) (by simp) (vls_one (flw_one _)) ?_)
        exact bodyPost_ret (results_row_tmp rfl _ _ (w.heap.size) 23 (vls 20 (flw fun _ => 0)) (0, 0) _ rfl (A3.out.setRow (flw fun _ => 0)) Tryz.underlying23 rfl (by rw [vls_size]; exact info_a20)) rfl ⟨rfl, below_row b3 (by omega) _⟩

    · obtain rfl : k = 20 := by omega
      obtain ⟨rfl, rfl⟩ := H1.out hB.out
      have h0 := hid (h0.out.ext (d := flw (gainW x t)) fun i hi => by unfold flw; rw [show prt (gainW x t) (fun _ => 0) 20 i = gainW x t i from if_pos hi])
      have hl := HL.out
      go_wp2_with (first | (refine wpList_load_row rfl 23 _ rfl (w1.heap.size) rfl 23 (vls 20 (flw (gainW x t))) (0, 0) _ h0.out Tryz.underlying23 rfl (by rw [vls_size]; exact info_a20) ?_) | (refine wpList_store_row rfl 23 _ _ rfl (w.heap.size) (vls 20 (flw (gainW x t))) rfl rfl 23 _ h1.out (by rw [vls_size]; exact info_a20) (by simp) (vls_one (flw_one _)) ?_))
      exact bodyPost_ret (results_row_tmp rfl _ _ (w.heap.size) 23 (vls 20 (flw (gainW x t))) (0, 0) _ rfl (h1.out.setRow (flw (gainW x t))) Tryz.underlying23 rfl (by rw [vls_size]; exact info_a20)) rfl ⟨rfl, below_row hb.out (by omega) _⟩

set_option maxRecDepth 100000 in
theorem iHeldC (a lo hi : Nat) (h : ClOk a lo hi) (w : World) : Calls Tryz.prog 153 #[.float .f32 a, .float .f32 lo, .float .f32 hi] w fun e w' => e = .returned (.float .f32 (cl a lo hi)) ∧ w = w' := by
  have r1 := fun ts t w => run_max_cl (P := Tryz.prog) ts t h.nw h.fl h.el w
  have r2 := fun ts t w => run_min_cl (P := Tryz.prog) ts t h.mid h.fh h.eh w
  have e := h.is
  clear h
  generalize (if sv a < sv lo then lo else a) = b at r1 r2 e
  generalize (if sv hi < sv b then hi else b) = d at r2 e
  subst e
  go_enter Tryz.func153, Tryz.ntmps153
  go_wp2
  go_ret
  exact ⟨rfl, rfl⟩

def watG (c g : Nat → Nat) : Nat := fsb (sumF (wat (shN c g 20)) 19) (sumF (wat c) 19)

def bigG (x G : Nat) : Bool := (FloatKind.f32.format.order x 0 == some .gt) && (FloatKind.f32.format.order G x == some .gt)

def lessG (g : Nat → Nat) (x G : Nat) : Nat → Nat := fun i => fmul (g i) (fdiv x G)

def g1W (x t : Nat) : Nat → Nat := gainW x t

def s1W (c : Nat → Nat) (x t : Nat) : Nat := grW (watG c (g1W x t))

def g2W (c : Nat → Nat) (x t : Nat) : Nat → Nat := lessG (g1W x t) x (s1W c x t)

/-- The droplets can gain. -/
def GainC (c : Nat → Nat) (x t : Nat) : Prop := ShOk c (g1W x t) ∧ (bigG x (s1W c x t) = true → ShOk c (g2W c x t))

def gainR (c : Nat → Nat) (x t : Nat) : Nat → Nat := if bigG x (s1W c x t) = true then shN c (g2W c x t) 20 else shN c (g1W x t) 20

def gainS (c : Nat → Nat) (x t : Nat) : Nat := if bigG x (s1W c x t) = true then grW (watG c (g2W c x t)) else s1W c x t

theorem wat_fw {c g : Nat → Nat} (hc : Amts c) (hg : ∀ i, i < 20 → FW (g i)) (h : ShOk c g) : FW (watG c g) := by
  have hA := sh_amts hc hg h
  have n1 : nnB (sumF (wat (shN c g 20)) 19) = true := sumF_nn 19 fun i hi => wat_nn (by omega) (hA i (by omega))
  have n2 : nnB (sumF (wat c) 19) = true := sumF_nn 19 fun i hi => wat_nn (by omega) (hc i (by omega))
  exact (sub_fw (amt_of n1 h.2.1) (amt_of n2 h.2.2)).2

/-- An excess that droplets may meet. -/
structure ExF (x t : Nat) : Prop where
  lt : x < 4294967296
  fin : finB x = true
  small : mg x ≤ p32 164
  t : amtB t = true

theorem ExF.nan {x t : Nat} (h : ExF x t) : ∀ k, k < 20 → gNan x t k = false := fun _ hk => no_nan h.small hk

theorem ExF.g1 {x t : Nat} (h : ExF x t) : ∀ i, i < 20 → FW (g1W x t i) := fun _ hi => ⟨(gain_ok h.lt h.fin h.t hi).lt, finB_iff.1 (gain_ok h.lt h.fin h.t hi).fin⟩

theorem ExF.fw {x t : Nat} (h : ExF x t) : FW x := ⟨h.lt, finB_iff.1 h.fin⟩

theorem big_by {x t : Nat} {G : Nat} (h : ExF x t) (hG : FW G) (hb : bigG x G = true) : S.div x G = some (fdiv x G) ∧ fdiv x G ≤ 1065353216 := by
  unfold bigG at hb
  rw [Bool.and_eq_true] at hb
  have p := exc_pos h.lt h.fin hb.1
  exact by_le p.1 p.2 hG hb.2

theorem s1_fw {c : Nat → Nat} {x t : Nat} (hc : Amts c) (h : ExF x t) (ho : ShOk c (g1W x t)) : S.div (watG c (g1W x t)) 1199570944 = some (s1W c x t) ∧ FW (s1W c x t) := gr_fw (wat_fw hc h.g1 ho)

theorem g2_fw {c : Nat → Nat} {x t : Nat} (hc : Amts c) (h : ExF x t) (ho : ShOk c (g1W x t)) (hb : bigG x (s1W c x t) = true) : ∀ i, i < 20 → S.mul (g1W x t i) (fdiv x (s1W c x t)) = some (g2W c x t i) ∧ FW (g2W c x t i) := fun i hi =>
  share_fw (h.g1 i hi) (big_by h (s1_fw hc h ho).2 hb).2

theorem gainR_amts {c : Nat → Nat} {x t : Nat} (hc : Amts c) (h : ExF x t) (ho : GainC c x t) : Amts (gainR c x t) := by
  unfold gainR
  by_cases hb : bigG x (s1W c x t) = true
  · rw [if_pos hb]; exact sh_amts hc (fun i hi => (g2_fw hc h ho.1 hb i hi).2) (ho.2 hb)
  · rw [if_neg hb]; exact sh_amts hc h.g1 ho.1

theorem gainS_fw {c : Nat → Nat} {x t : Nat} (hc : Amts c) (h : ExF x t) (ho : GainC c x t) : FW (gainS c x t) := by
  unfold gainS
  by_cases hb : bigG x (s1W c x t) = true
  · rw [if_pos hb]; exact (gr_fw (wat_fw hc (fun i hi => (g2_fw hc h ho.1 hb i hi).2) (ho.2 hb))).2
  · rw [if_neg hb]; exact (s1_fw hc h ho.1).2

set_option maxRecDepth 100000 in
set_option maxHeartbeats 2000000 in
theorem iShiftG_f1 (c : Nat → Nat) (hc : Amts c) (t r x : Nat) (hx : ExF x t) (ho : ¬ ShOk c (g1W x t)) (w : World) :
    Calls Tryz.prog 151 #[.agg #[.float .f32 t, .map (some r)], .agg (fls c), .float .f32 x] w fun e w' => e = .panicked [{ v := .iface 185 (.int .i64 4), recovered := false }] ∧ Below w.heap.size w w' := by
  have k0 : Hid (Kept w [(w.heap.size + 1 + 1, fls fun _ => 0, 30), (w.heap.size + 1, fls c, 30), (w.heap.size, #[.float .f32 t, .map (some r)], 148)] (((w.alloc (.cells #[.float .f32 t, .map (some r)] 148)).alloc (.cells (fls c) 30)).alloc (.cells (fls fun _ => 0) 30))) := hid (((((Kept.nil w).push _ _).push _ _).push _ _).sub (by simp))
  have c0 : World.cell? (((w.alloc (.cells #[.float .f32 t, .map (some r)] 148)).alloc (.cells (fls c) 30)).alloc (.cells (fls fun _ => 0) 30)) ⟨w.heap.size, 0, none⟩ = some (.float .f32 t) := (cell_of_row _ _ 0 _ _ _ (k0.out.at (x := (w.heap.size, #[.float .f32 t, .map (some r)], 148)) in2)).trans rfl
  have HG := hid (fun w => iGains_ok x t hx.lt hx.fin hx.t (g1W x t) 0 (fun _ => ⟨rfl, rfl⟩) (fun h => absurd hx.nan h) w)
  have HX := hid hx
  have HC := hid hc
  have HS := hid (fun w => iShiftMasses_ok c (g1W x t) hc hx.g1 (fun _ => 0) 0 4 (fun h => absurd h ho) (fun _ => ⟨rfl, rfl, rfl⟩) w)
  clear hc hx ho
  go_enter Tryz.func151, Tryz.ntmps151
  go_wp2_with fail
  refine (HG.out _).mono ?_
  rintro e u1 ⟨rfl, hb1⟩
  have k1 := hid (k0.out.stay hb1)
  have k1z := hid (k1.out.push (fls fun _ => 0) 23)
  have p1 := hid (k1.out.lt (x := (w.heap.size + 1 + 1, fls fun _ => 0, 30)) in0)
  clear c0 k0 hb1
  have tok1 : True := trivial
  go_wp2_with (first | (have _t := tok1; clear tok1; refine store_row (by rfl) 23 _ _ (by rfl) (u1.heap.size) (fls (g1W x t)) (fls fun _ => 0) (by rfl) (by rfl) k1z.out (by rw [fls_size]; exact info_a20) (by simp) (vls_one (n := 20) (f := flw ((g1W x t))) (fun _ => rfl)) (k1.out.size) (k1.out.fresh) ?_; intro wB kB; replace kB := hid kB))
  refine (iDem0 _).mono ?_
  rintro e u2 ⟨rfl, rfl⟩
  clear k1 k1z
  have tok2 : True := trivial
  go_wp2_with (first | (have _t := tok2; clear tok2; refine wpList_load_row (by rfl) 30 _ (by rfl) (w.heap.size + 1) (by rfl) 30 (fls c) (0, 0) _ (kB.out.at (x := (w.heap.size + 1, fls c, 30)) in2) Tryz.underlying30 (by rfl) (by rw [fls_size]; exact info_arr) ?_; have tok3 : True := trivial) | (have _t := tok3; clear tok3; refine wpList_load_row (by rfl) 23 _ (by rfl) (u1.heap.size) (by rfl) 23 (fls (g1W x t)) (0, 0) _ (kB.out.at (x := (u1.heap.size, fls (g1W x t), 23)) in0) Tryz.underlying23 (by rfl) (by rw [fls_size]; exact info_a20) ?_))
  refine (HS.out _).mono ?_
  rintro e u3 ⟨rfl, hb3⟩
  have k3 := hid (kB.out.stay hb3)
  have k3z := hid (k3.out.push (fls fun _ => 0) 30)
  clear hb3 kB
  have tok4 : True := trivial
  go_wp2_with (first | (have _t := tok4; clear tok4; refine store_row (by rfl) 30 _ _ (by rfl) (u3.heap.size) (fls fun _ => 0) (fls fun _ => 0) (by rfl) (by rfl) k3z.out (by rw [fls_size]; exact info_arr) (by simp) (vls_one (n := 20) (f := flw (fun _ => 0)) (fun _ => rfl)) (k3.out.size) (k3.out.fresh) ?_; intro wC kC; replace kC := hid kC))
  refine (iDemF 4 (by decide) _).mono ?_
  rintro e u4 ⟨rfl, rfl⟩
  exact ⟨rfl, rfl, kC.out.1⟩

set_option maxRecDepth 100000 in
set_option maxHeartbeats 2000000 in
theorem iShiftG_t1 (c : Nat → Nat) (hc : Amts c) (t r x : Nat) (hx : ExF x t) (ho : ShOk c (g1W x t)) (hb : bigG x (s1W c x t) = false) (w : World) :
    Calls Tryz.prog 151 #[.agg #[.float .f32 t, .map (some r)], .agg (fls c), .float .f32 x] w fun e w' => e = .returned (.tuple #[.agg (fls (shN c (g1W x t) 20)), .float .f32 (s1W c x t)]) ∧ Below w.heap.size w w' := by
  have k0 : Hid (Kept w [(w.heap.size + 1 + 1, fls fun _ => 0, 30), (w.heap.size + 1, fls c, 30), (w.heap.size, #[.float .f32 t, .map (some r)], 148)] (((w.alloc (.cells #[.float .f32 t, .map (some r)] 148)).alloc (.cells (fls c) 30)).alloc (.cells (fls fun _ => 0) 30))) := hid (((((Kept.nil w).push _ _).push _ _).push _ _).sub (by simp))
  have c0 : World.cell? (((w.alloc (.cells #[.float .f32 t, .map (some r)] 148)).alloc (.cells (fls c) 30)).alloc (.cells (fls fun _ => 0) 30)) ⟨w.heap.size, 0, none⟩ = some (.float .f32 t) := (cell_of_row _ _ 0 _ _ _ (k0.out.at (x := (w.heap.size, #[.float .f32 t, .map (some r)], 148)) in2)).trans rfl
  have HG := hid (fun w => iGains_ok x t hx.lt hx.fin hx.t (g1W x t) 0 (fun _ => ⟨rfl, rfl⟩) (fun h => absurd hx.nan h) w)
  have HX := hid hx
  have HC := hid hc
  have HS := hid (fun w => iShiftMasses_ok c (g1W x t) hc hx.g1 (shN c (g1W x t) 20) (watG c (g1W x t)) 0 (fun _ => ⟨rfl, rfl, rfl⟩) (fun h => absurd ho h) w)
  have r1 := fun w => run_float_arith (P := Tryz.prog) w .quo 22 .f32 _ _ _ (s1_fw hc hx ho).1
  have ho1 : (FloatKind.f32.format.order x 0 == some .gt) = false ∨ ((FloatKind.f32.format.order x 0 == some .gt) = true ∧ (FloatKind.f32.format.order (s1W c x t) x == some .gt) = false) := by
    unfold bigG at hb
    cases h1 : (FloatKind.f32.format.order x 0 == some .gt) with
    | false => exact .inl rfl
    | true => rw [h1, Bool.true_and] at hb; exact .inr ⟨rfl, hb⟩
  clear hc hx ho hb
  go_enter Tryz.func151, Tryz.ntmps151
  go_wp2_with fail
  refine (HG.out _).mono ?_
  rintro e u1 ⟨rfl, hb1⟩
  have k1 := hid (k0.out.stay hb1)
  have k1z := hid (k1.out.push (fls fun _ => 0) 23)
  have p1 := hid (k1.out.lt (x := (w.heap.size + 1 + 1, fls fun _ => 0, 30)) in0)
  clear c0 k0 hb1
  have tok1 : True := trivial
  go_wp2_with (first | (have _t := tok1; clear tok1; refine store_row (by rfl) 23 _ _ (by rfl) (u1.heap.size) (fls (g1W x t)) (fls fun _ => 0) (by rfl) (by rfl) k1z.out (by rw [fls_size]; exact info_a20) (by simp) (vls_one (n := 20) (f := flw ((g1W x t))) (fun _ => rfl)) (k1.out.size) (k1.out.fresh) ?_; intro wB kB; replace kB := hid kB))
  refine (iDem0 _).mono ?_
  rintro e u2 ⟨rfl, rfl⟩
  clear k1 k1z
  have tok2 : True := trivial
  go_wp2_with (first | (have _t := tok2; clear tok2; refine wpList_load_row (by rfl) 30 _ (by rfl) (w.heap.size + 1) (by rfl) 30 (fls c) (0, 0) _ (kB.out.at (x := (w.heap.size + 1, fls c, 30)) in2) Tryz.underlying30 (by rfl) (by rw [fls_size]; exact info_arr) ?_; have tok3 : True := trivial) | (have _t := tok3; clear tok3; refine wpList_load_row (by rfl) 23 _ (by rfl) (u1.heap.size) (by rfl) 23 (fls (g1W x t)) (0, 0) _ (kB.out.at (x := (u1.heap.size, fls (g1W x t), 23)) in0) Tryz.underlying23 (by rfl) (by rw [fls_size]; exact info_a20) ?_))
  refine (HS.out _).mono ?_
  rintro e u3 ⟨rfl, hb3⟩
  have k3 := hid (kB.out.stay hb3)
  have k3z := hid (k3.out.push (fls fun _ => 0) 30)
  have q1 := hid (k3.out.lt (x := (u1.heap.size, fls (g1W x t), 23)) in0)
  have q0 := hid (k3.out.lt (x := (w.heap.size + 1 + 1, fls fun _ => 0, 30)) in1)
  clear hb3 kB
  have tok4 : True := trivial
  go_wp2_with (first | (have _t := tok4; clear tok4; refine store_row (by rfl) 30 _ _ (by rfl) (u3.heap.size) (fls (shN c (g1W x t) 20)) (fls fun _ => 0) (by rfl) (by rfl) k3z.out (by rw [fls_size]; exact info_arr) (by simp) (vls_one (n := 20) (f := flw ((shN c (g1W x t) 20))) (fun _ => rfl)) (k3.out.size) (k3.out.fresh) ?_; intro wC kC; replace kC := hid kC))
  refine (iDem0 _).mono ?_
  rintro e u4 ⟨rfl, rfl⟩
  clear k3 k3z
  have kE : Hid (Kept w [(w.heap.size + 1 + 1, fls fun _ => 0, 30), (u3.heap.size, fls (shN c (g1W x t) 20), 30)] wC) := hid (kC.out.sub (by
    intro y hy
    rcases List.mem_cons.1 hy with rfl | hy
    · exact in2
    · rw [List.mem_singleton.1 hy]; exact in0))
  have tok5 : True := trivial
  rcases ho1 with h1 | ⟨h1, h2⟩
  all_goals
    go_wp2_with (first | (have _t := tok5; clear tok5; refine wpList_load_row (by rfl) 30 _ (by rfl) (u3.heap.size) (by rfl) 30 (fls (shN c (g1W x t) 20)) (0, 0) _ (kE.out.at (x := (u3.heap.size, fls (shN c (g1W x t) 20), 30)) in1) Tryz.underlying30 (by rfl) (by rw [fls_size]; exact info_arr) ?_; have tok6 : True := trivial) | (have _t := tok6; clear tok6; refine store_row (by rfl) 30 _ _ (by rfl) (w.heap.size + 1 + 1) (fls (shN c (g1W x t) 20)) (fls fun _ => 0) (by rfl) (by rfl) kE.out (by rw [fls_size]; exact info_arr) (by simp) (vls_one (n := 20) (f := flw ((shN c (g1W x t) 20))) (fun _ => rfl)) (by omega) (neC (Nat.ne_of_gt q0.out) ne0) ?_; intro wD kD; replace kD := hid kD))
    exact bodyPost_ret (results_row_tmp rfl _ _ (w.heap.size + 1 + 1) 30 (fls (shN c (g1W x t) 20)) (0, 0) _ rfl (kD.out.at (x := (w.heap.size + 1 + 1, fls (shN c (g1W x t) 20), 30)) in0) Tryz.underlying30 rfl (by rw [fls_size]; exact info_arr)) rfl ⟨rfl, kD.out.1⟩

theorem prt_upd (d c : Nat → Nat) (k i : Nat) : updV (flw (prt d c k)) k (.float .f32 (d k)) i = flw (prt d c (k + 1)) i := by
  unfold updV flw prt
  by_cases h : i = k
  · subst h; rw [if_pos rfl, if_pos (by omega)]
  · rw [if_neg h]
    by_cases h2 : i < k
    · rw [if_pos h2, if_pos (by omega)]
    · rw [if_neg h2, if_neg (by omega)]

set_option maxRecDepth 100000 in
set_option maxHeartbeats 2000000 in
theorem iShiftG_t2 (c : Nat → Nat) (hc : Amts c) (t r x : Nat) (hx : ExF x t) (ho : ShOk c (g1W x t)) (hb : bigG x (s1W c x t) = true) (ho2 : ShOk c (g2W c x t)) (w : World) :
    Calls Tryz.prog 151 #[.agg #[.float .f32 t, .map (some r)], .agg (fls c), .float .f32 x] w fun e w' => e = .returned (.tuple #[.agg (fls (shN c (g2W c x t) 20)), .float .f32 (grW (watG c (g2W c x t)))]) ∧ Below w.heap.size w w' := by
  have k0 : Hid (Kept w [(w.heap.size + 1 + 1, fls fun _ => 0, 30), (w.heap.size + 1, fls c, 30), (w.heap.size, #[.float .f32 t, .map (some r)], 148)] (((w.alloc (.cells #[.float .f32 t, .map (some r)] 148)).alloc (.cells (fls c) 30)).alloc (.cells (fls fun _ => 0) 30))) := hid (((((Kept.nil w).push _ _).push _ _).push _ _).sub (by simp))
  have c0 : World.cell? (((w.alloc (.cells #[.float .f32 t, .map (some r)] 148)).alloc (.cells (fls c) 30)).alloc (.cells (fls fun _ => 0) 30)) ⟨w.heap.size, 0, none⟩ = some (.float .f32 t) := (cell_of_row _ _ 0 _ _ _ (k0.out.at (x := (w.heap.size, #[.float .f32 t, .map (some r)], 148)) in2)).trans rfl
  have HG := hid (fun w => iGains_ok x t hx.lt hx.fin hx.t (g1W x t) 0 (fun _ => ⟨rfl, rfl⟩) (fun h => absurd hx.nan h) w)
  have HX := hid hx
  have HC := hid hc
  have HS := hid (fun w => iShiftMasses_ok c (g1W x t) hc hx.g1 (shN c (g1W x t) 20) (watG c (g1W x t)) 0 (fun _ => ⟨rfl, rfl, rfl⟩) (fun h => absurd ho h) w)
  have r1 := fun w => run_float_arith (P := Tryz.prog) w .quo 22 .f32 _ _ _ (s1_fw hc hx ho).1
  have hg2 := g2_fw hc hx ho hb
  have r2 := fun w => run_float_arith (P := Tryz.prog) w .quo 22 .f32 _ _ _ (big_by hx (s1_fw hc hx ho).2 hb).1
  have HM := hid hg2
  have HS2 := hid (fun w => iShiftMasses_ok c (g2W c x t) hc (fun i hi => (hg2 i hi).2) (shN c (g2W c x t) 20) (watG c (g2W c x t)) 0 (fun _ => ⟨rfl, rfl, rfl⟩) (fun h => absurd ho2 h) w)
  have r3 := fun w => run_float_arith (P := Tryz.prog) w .quo 22 .f32 _ _ _ (gr_fw (wat_fw hc (fun i hi => (hg2 i hi).2) ho2)).1
  have h1 : (FloatKind.f32.format.order x 0 == some .gt) = true := by unfold bigG at hb; rw [Bool.and_eq_true] at hb; exact hb.1
  have h2 : (FloatKind.f32.format.order (s1W c x t) x == some .gt) = true := by unfold bigG at hb; rw [Bool.and_eq_true] at hb; exact hb.2
  clear hc hx ho hb ho2 hg2
  go_enter Tryz.func151, Tryz.ntmps151
  go_wp2_with fail
  refine (HG.out _).mono ?_
  rintro e u1 ⟨rfl, hb1⟩
  have k1 := hid (k0.out.stay hb1)
  have k1z := hid (k1.out.push (fls fun _ => 0) 23)
  have p1 := hid (k1.out.lt (x := (w.heap.size + 1 + 1, fls fun _ => 0, 30)) in0)
  clear c0 k0 hb1
  have tok1 : True := trivial
  go_wp2_with (first | (have _t := tok1; clear tok1; refine store_row (by rfl) 23 _ _ (by rfl) (u1.heap.size) (fls (g1W x t)) (fls fun _ => 0) (by rfl) (by rfl) k1z.out (by rw [fls_size]; exact info_a20) (by simp) (vls_one (n := 20) (f := flw ((g1W x t))) (fun _ => rfl)) (k1.out.size) (k1.out.fresh) ?_; intro wB kB; replace kB := hid kB))
  refine (iDem0 _).mono ?_
  rintro e u2 ⟨rfl, rfl⟩
  clear k1 k1z
  have tok2 : True := trivial
  go_wp2_with (first | (have _t := tok2; clear tok2; refine wpList_load_row (by rfl) 30 _ (by rfl) (w.heap.size + 1) (by rfl) 30 (fls c) (0, 0) _ (kB.out.at (x := (w.heap.size + 1, fls c, 30)) in2) Tryz.underlying30 (by rfl) (by rw [fls_size]; exact info_arr) ?_; have tok3 : True := trivial) | (have _t := tok3; clear tok3; refine wpList_load_row (by rfl) 23 _ (by rfl) (u1.heap.size) (by rfl) 23 (fls (g1W x t)) (0, 0) _ (kB.out.at (x := (u1.heap.size, fls (g1W x t), 23)) in0) Tryz.underlying23 (by rfl) (by rw [fls_size]; exact info_a20) ?_))
  refine (HS.out _).mono ?_
  rintro e u3 ⟨rfl, hb3⟩
  have k3 := hid (kB.out.stay hb3)
  have k3z := hid (k3.out.push (fls fun _ => 0) 30)
  have q1 := hid (k3.out.lt (x := (u1.heap.size, fls (g1W x t), 23)) in0)
  have q0 := hid (k3.out.lt (x := (w.heap.size + 1 + 1, fls fun _ => 0, 30)) in1)
  clear hb3 kB
  have tok4 : True := trivial
  go_wp2_with (first | (have _t := tok4; clear tok4; refine store_row (by rfl) 30 _ _ (by rfl) (u3.heap.size) (fls (shN c (g1W x t) 20)) (fls fun _ => 0) (by rfl) (by rfl) k3z.out (by rw [fls_size]; exact info_arr) (by simp) (vls_one (n := 20) (f := flw ((shN c (g1W x t) 20))) (fun _ => rfl)) (k3.out.size) (k3.out.fresh) ?_; intro wC kC; replace kC := hid kC))
  refine (iDem0 _).mono ?_
  rintro e u4 ⟨rfl, rfl⟩
  clear k3 k3z
  have kE : Hid (Kept w [(u1.heap.size, vls 20 (flw (prt (g2W c x t) (g1W x t) 0)), 23), (u3.heap.size, fls (shN c (g1W x t) 20), 30), (w.heap.size + 1 + 1, fls fun _ => 0, 30), (w.heap.size + 1, fls c, 30)] wC) := hid (kC.out.sub (by
    intro y hy
    simp only [List.mem_cons, List.not_mem_nil, or_false] at hy ⊢
    rcases hy with rfl | rfl | rfl | rfl
    · exact .inr (.inl rfl)
    · exact .inl rfl
    · exact .inr (.inr (.inl rfl))
    · exact .inr (.inr (.inr (.inl rfl)))))
  clear kC
  go_wp2_with fail
  go_loopw [48] (fun i wr => ∃ k : Nat, k ≤ 20 ∧ i = .int .i64 k ∧ Hid (Kept w [(u1.heap.size, vls 20 (flw (prt (g2W c x t) (g1W x t) k)), 23), (u3.heap.size, fls (shN c (g1W x t) 20), 30), (w.heap.size + 1 + 1, fls fun _ => 0, 30), (w.heap.size + 1, fls c, 30)] wr)) (fun i _ => 20 - (intOf i).toNat)
  case atStart => exact ⟨0, by omega, rfl, hid (Kept.ext (f := flw (g1W x t)) (d := flw (prt (g2W c x t) (g1W x t) 0)) kE.out (fun i _ => by unfold flw prt; rw [if_neg (by omega)]))⟩
  case round =>
    clear kE r1 h1 h2
    obtain ⟨k, hk, rfl, h0⟩ := hrel
    by_cases hlt : k < 20
    · have HL := hid hlt
      have hk3 : (k : Int) < 20 := by omega
      have hcell : wr.cell? ⟨u1.heap.size, k, none⟩ = some (.float .f32 (g1W x t k)) := by
        rw [(h0.out.v in0).cell hlt]
        unfold flw prt
        rw [if_neg (by omega)]
      have rm := fun w => run_float_arith (P := Tryz.prog) w .mul 22 .f32 _ _ _ (HM.out k hlt).1
      clear hk hlt
      go_wp2_with (refine store_one (by rfl) 22 _ _ (by rfl) (by kernel_rfl) (u1.heap.size) k (.float .f32 (g2W c x t k)) (by rfl) (by rfl) rfl rfl h0.out HL.out (by have := p1.out; omega) (neC (Nat.ne_of_gt q1.out) (neC (Nat.ne_of_lt p1.out) (neC (by have := p1.out; omega) ne0))) ?_; intro xk1 k1; replace k1 := hid k1)
      have k2 := hid (k1.out.ext (fun i _ => prt_upd _ _ _ _))
      clear k1 hcell rm h0
      go_roundw
      case rel => exact ⟨k + 1, HL.out, by go_num, k2⟩
      case measure => have := HL.out; simp [intOf]; omega
    · obtain rfl : k = 20 := by omega
      have kF : Hid (Kept w [(u1.heap.size, vls 20 (flw (g2W c x t)), 23), (u3.heap.size, fls (shN c (g1W x t) 20), 30), (w.heap.size + 1 + 1, fls fun _ => 0, 30), (w.heap.size + 1, fls c, 30)] wr) := hid (Kept.ext (d := flw (g2W c x t)) h0.out (fun i hi => by unfold flw prt; rw [if_pos hi]))
      clear h0 hlt hk
      have tok7 : True := trivial
      go_wp2_with (first | (have _t := tok7; clear tok7; refine wpList_load_row (by rfl) 30 _ (by rfl) (w.heap.size + 1) (by rfl) 30 (fls c) (0, 0) _ (kF.out.at (x := (w.heap.size + 1, fls c, 30)) in3) Tryz.underlying30 (by rfl) (by rw [fls_size]; exact info_arr) ?_; have tok8 : True := trivial) | (have _t := tok8; clear tok8; refine wpList_load_row (by rfl) 23 _ (by rfl) (u1.heap.size) (by rfl) 23 (vls 20 (flw (g2W c x t))) (0, 0) _ (kF.out.at (x := (u1.heap.size, vls 20 (flw (g2W c x t)), 23)) in0) Tryz.underlying23 (by rfl) (by rw [vls_size]; exact info_a20) ?_))
      refine (HS2.out _).mono ?_
      rintro e u5 ⟨rfl, hb5⟩
      have k5 := hid (kF.out.stay hb5)
      have kS : Hid (Kept w [(u3.heap.size, fls (shN c (g1W x t) 20), 30), (w.heap.size + 1 + 1, fls fun _ => 0, 30)] u5) := hid (k5.out.sub (by
        intro y hy
        rcases List.mem_cons.1 hy with rfl | hy
        · exact in1
        · rw [List.mem_singleton.1 hy]; exact in2))
      clear hb5 kF k5
      have tok9 : True := trivial
      go_wp2_with (first | (have _t := tok9; clear tok9; refine store_row (by rfl) 30 _ _ (by rfl) (u3.heap.size) (fls (shN c (g2W c x t) 20)) (fls (shN c (g1W x t) 20)) (by rfl) (by rfl) kS.out (by rw [fls_size]; exact info_arr) (by simp) (vls_one (n := 20) (f := flw ((shN c (g2W c x t) 20))) (fun _ => rfl)) (by have := q0.out; omega) (neC (Nat.ne_of_lt q0.out) ne0) ?_; intro wG kG; replace kG := hid kG))
      refine (iDem0 _).mono ?_
      rintro e u6 ⟨rfl, rfl⟩
      have kH : Hid (Kept w [(w.heap.size + 1 + 1, fls fun _ => 0, 30), (u3.heap.size, fls (shN c (g2W c x t) 20), 30)] wG) := hid kG.out.swap
      clear kG kS
      have tok10 : True := trivial
      go_wp2_with (first | (have _t := tok10; clear tok10; refine wpList_load_row (by rfl) 30 _ (by rfl) (u3.heap.size) (by rfl) 30 (fls (shN c (g2W c x t) 20)) (0, 0) _ (kH.out.at (x := (u3.heap.size, fls (shN c (g2W c x t) 20), 30)) in1) Tryz.underlying30 (by rfl) (by rw [fls_size]; exact info_arr) ?_; have tok11 : True := trivial) | (have _t := tok11; clear tok11; refine store_row (by rfl) 30 _ _ (by rfl) (w.heap.size + 1 + 1) (fls (shN c (g2W c x t) 20)) (fls fun _ => 0) (by rfl) (by rfl) kH.out (by rw [fls_size]; exact info_arr) (by simp) (vls_one (n := 20) (f := flw ((shN c (g2W c x t) 20))) (fun _ => rfl)) (by omega) (neC (Nat.ne_of_gt q0.out) ne0) ?_; intro wD kD; replace kD := hid kD))
      exact bodyPost_ret (results_row_tmp rfl _ _ (w.heap.size + 1 + 1) 30 (fls (shN c (g2W c x t) 20)) (0, 0) _ rfl (kD.out.at (x := (w.heap.size + 1 + 1, fls (shN c (g2W c x t) 20), 30)) in0) Tryz.underlying30 rfl (by rw [fls_size]; exact info_arr)) rfl ⟨rfl, kD.out.1⟩

set_option maxRecDepth 100000 in
set_option maxHeartbeats 2000000 in
theorem iShiftG_f2 (c : Nat → Nat) (hc : Amts c) (t r x : Nat) (hx : ExF x t) (ho : ShOk c (g1W x t)) (hb : bigG x (s1W c x t) = true) (ho2 : ¬ ShOk c (g2W c x t)) (w : World) :
    Calls Tryz.prog 151 #[.agg #[.float .f32 t, .map (some r)], .agg (fls c), .float .f32 x] w fun e w' => e = .panicked [{ v := .iface 185 (.int .i64 4), recovered := false }] ∧ Below w.heap.size w w' := by
  have k0 : Hid (Kept w [(w.heap.size + 1 + 1, fls fun _ => 0, 30), (w.heap.size + 1, fls c, 30), (w.heap.size, #[.float .f32 t, .map (some r)], 148)] (((w.alloc (.cells #[.float .f32 t, .map (some r)] 148)).alloc (.cells (fls c) 30)).alloc (.cells (fls fun _ => 0) 30))) := hid (((((Kept.nil w).push _ _).push _ _).push _ _).sub (by simp))
  have c0 : World.cell? (((w.alloc (.cells #[.float .f32 t, .map (some r)] 148)).alloc (.cells (fls c) 30)).alloc (.cells (fls fun _ => 0) 30)) ⟨w.heap.size, 0, none⟩ = some (.float .f32 t) := (cell_of_row _ _ 0 _ _ _ (k0.out.at (x := (w.heap.size, #[.float .f32 t, .map (some r)], 148)) in2)).trans rfl
  have HG := hid (fun w => iGains_ok x t hx.lt hx.fin hx.t (g1W x t) 0 (fun _ => ⟨rfl, rfl⟩) (fun h => absurd hx.nan h) w)
  have HX := hid hx
  have HC := hid hc
  have HS := hid (fun w => iShiftMasses_ok c (g1W x t) hc hx.g1 (shN c (g1W x t) 20) (watG c (g1W x t)) 0 (fun _ => ⟨rfl, rfl, rfl⟩) (fun h => absurd ho h) w)
  have r1 := fun w => run_float_arith (P := Tryz.prog) w .quo 22 .f32 _ _ _ (s1_fw hc hx ho).1
  have hg2 := g2_fw hc hx ho hb
  have r2 := fun w => run_float_arith (P := Tryz.prog) w .quo 22 .f32 _ _ _ (big_by hx (s1_fw hc hx ho).2 hb).1
  have HM := hid hg2
  have HS2 := hid (fun w => iShiftMasses_ok c (g2W c x t) hc (fun i hi => (hg2 i hi).2) (fun _ => 0) 0 4 (fun h => absurd h ho2) (fun _ => ⟨rfl, rfl, rfl⟩) w)
  have h1 : (FloatKind.f32.format.order x 0 == some .gt) = true := by unfold bigG at hb; rw [Bool.and_eq_true] at hb; exact hb.1
  have h2 : (FloatKind.f32.format.order (s1W c x t) x == some .gt) = true := by unfold bigG at hb; rw [Bool.and_eq_true] at hb; exact hb.2
  clear hc hx ho hb ho2 hg2
  go_enter Tryz.func151, Tryz.ntmps151
  go_wp2_with fail
  refine (HG.out _).mono ?_
  rintro e u1 ⟨rfl, hb1⟩
  have k1 := hid (k0.out.stay hb1)
  have k1z := hid (k1.out.push (fls fun _ => 0) 23)
  have p1 := hid (k1.out.lt (x := (w.heap.size + 1 + 1, fls fun _ => 0, 30)) in0)
  clear c0 k0 hb1
  have tok1 : True := trivial
  go_wp2_with (first | (have _t := tok1; clear tok1; refine store_row (by rfl) 23 _ _ (by rfl) (u1.heap.size) (fls (g1W x t)) (fls fun _ => 0) (by rfl) (by rfl) k1z.out (by rw [fls_size]; exact info_a20) (by simp) (vls_one (n := 20) (f := flw ((g1W x t))) (fun _ => rfl)) (k1.out.size) (k1.out.fresh) ?_; intro wB kB; replace kB := hid kB))
  refine (iDem0 _).mono ?_
  rintro e u2 ⟨rfl, rfl⟩
  clear k1 k1z
  have tok2 : True := trivial
  go_wp2_with (first | (have _t := tok2; clear tok2; refine wpList_load_row (by rfl) 30 _ (by rfl) (w.heap.size + 1) (by rfl) 30 (fls c) (0, 0) _ (kB.out.at (x := (w.heap.size + 1, fls c, 30)) in2) Tryz.underlying30 (by rfl) (by rw [fls_size]; exact info_arr) ?_; have tok3 : True := trivial) | (have _t := tok3; clear tok3; refine wpList_load_row (by rfl) 23 _ (by rfl) (u1.heap.size) (by rfl) 23 (fls (g1W x t)) (0, 0) _ (kB.out.at (x := (u1.heap.size, fls (g1W x t), 23)) in0) Tryz.underlying23 (by rfl) (by rw [fls_size]; exact info_a20) ?_))
  refine (HS.out _).mono ?_
  rintro e u3 ⟨rfl, hb3⟩
  have k3 := hid (kB.out.stay hb3)
  have k3z := hid (k3.out.push (fls fun _ => 0) 30)
  have q1 := hid (k3.out.lt (x := (u1.heap.size, fls (g1W x t), 23)) in0)
  have q0 := hid (k3.out.lt (x := (w.heap.size + 1 + 1, fls fun _ => 0, 30)) in1)
  clear hb3 kB
  have tok4 : True := trivial
  go_wp2_with (first | (have _t := tok4; clear tok4; refine store_row (by rfl) 30 _ _ (by rfl) (u3.heap.size) (fls (shN c (g1W x t) 20)) (fls fun _ => 0) (by rfl) (by rfl) k3z.out (by rw [fls_size]; exact info_arr) (by simp) (vls_one (n := 20) (f := flw ((shN c (g1W x t) 20))) (fun _ => rfl)) (k3.out.size) (k3.out.fresh) ?_; intro wC kC; replace kC := hid kC))
  refine (iDem0 _).mono ?_
  rintro e u4 ⟨rfl, rfl⟩
  clear k3 k3z
  have kE : Hid (Kept w [(u1.heap.size, vls 20 (flw (prt (g2W c x t) (g1W x t) 0)), 23), (u3.heap.size, fls (shN c (g1W x t) 20), 30), (w.heap.size + 1 + 1, fls fun _ => 0, 30), (w.heap.size + 1, fls c, 30)] wC) := hid (kC.out.sub (by
    intro y hy
    simp only [List.mem_cons, List.not_mem_nil, or_false] at hy ⊢
    rcases hy with rfl | rfl | rfl | rfl
    · exact .inr (.inl rfl)
    · exact .inl rfl
    · exact .inr (.inr (.inl rfl))
    · exact .inr (.inr (.inr (.inl rfl)))))
  clear kC
  go_wp2_with fail
  go_loopw [48] (fun i wr => ∃ k : Nat, k ≤ 20 ∧ i = .int .i64 k ∧ Hid (Kept w [(u1.heap.size, vls 20 (flw (prt (g2W c x t) (g1W x t) k)), 23), (u3.heap.size, fls (shN c (g1W x t) 20), 30), (w.heap.size + 1 + 1, fls fun _ => 0, 30), (w.heap.size + 1, fls c, 30)] wr)) (fun i _ => 20 - (intOf i).toNat)
  case atStart => exact ⟨0, by omega, rfl, hid (Kept.ext (f := flw (g1W x t)) (d := flw (prt (g2W c x t) (g1W x t) 0)) kE.out (fun i _ => by unfold flw prt; rw [if_neg (by omega)]))⟩
  case round =>
    clear kE r1 h1 h2
    obtain ⟨k, hk, rfl, h0⟩ := hrel
    by_cases hlt : k < 20
    · have HL := hid hlt
      have hk3 : (k : Int) < 20 := by omega
      have hcell : wr.cell? ⟨u1.heap.size, k, none⟩ = some (.float .f32 (g1W x t k)) := by
        rw [(h0.out.v in0).cell hlt]
        unfold flw prt
        rw [if_neg (by omega)]
      have rm := fun w => run_float_arith (P := Tryz.prog) w .mul 22 .f32 _ _ _ (HM.out k hlt).1
      clear hk hlt
      go_wp2_with (refine store_one (by rfl) 22 _ _ (by rfl) (by kernel_rfl) (u1.heap.size) k (.float .f32 (g2W c x t k)) (by rfl) (by rfl) rfl rfl h0.out HL.out (by have := p1.out; omega) (neC (Nat.ne_of_gt q1.out) (neC (Nat.ne_of_lt p1.out) (neC (by have := p1.out; omega) ne0))) ?_; intro xk1 k1; replace k1 := hid k1)
      have k2 := hid (k1.out.ext (fun i _ => prt_upd _ _ _ _))
      clear k1 hcell rm h0
      go_roundw
      case rel => exact ⟨k + 1, HL.out, by go_num, k2⟩
      case measure => have := HL.out; simp [intOf]; omega
    · obtain rfl : k = 20 := by omega
      have kF : Hid (Kept w [(u1.heap.size, vls 20 (flw (g2W c x t)), 23), (u3.heap.size, fls (shN c (g1W x t) 20), 30), (w.heap.size + 1 + 1, fls fun _ => 0, 30), (w.heap.size + 1, fls c, 30)] wr) := hid (Kept.ext (d := flw (g2W c x t)) h0.out (fun i hi => by unfold flw prt; rw [if_pos hi]))
      clear h0 hlt hk
      have tok7 : True := trivial
      go_wp2_with (first | (have _t := tok7; clear tok7; refine wpList_load_row (by rfl) 30 _ (by rfl) (w.heap.size + 1) (by rfl) 30 (fls c) (0, 0) _ (kF.out.at (x := (w.heap.size + 1, fls c, 30)) in3) Tryz.underlying30 (by rfl) (by rw [fls_size]; exact info_arr) ?_; have tok8 : True := trivial) | (have _t := tok8; clear tok8; refine wpList_load_row (by rfl) 23 _ (by rfl) (u1.heap.size) (by rfl) 23 (vls 20 (flw (g2W c x t))) (0, 0) _ (kF.out.at (x := (u1.heap.size, vls 20 (flw (g2W c x t)), 23)) in0) Tryz.underlying23 (by rfl) (by rw [vls_size]; exact info_a20) ?_))
      refine (HS2.out _).mono ?_
      rintro e u5 ⟨rfl, hb5⟩
      have k5 := hid (kF.out.stay hb5)
      have kS : Hid (Kept w [(u3.heap.size, fls (shN c (g1W x t) 20), 30), (w.heap.size + 1 + 1, fls fun _ => 0, 30)] u5) := hid (k5.out.sub (by
        intro y hy
        rcases List.mem_cons.1 hy with rfl | hy
        · exact in1
        · rw [List.mem_singleton.1 hy]; exact in2))
      clear hb5 kF k5
      have tok9 : True := trivial
      go_wp2_with (first | (have _t := tok9; clear tok9; refine store_row (by rfl) 30 _ _ (by rfl) (u3.heap.size) (fls fun _ => 0) (fls (shN c (g1W x t) 20)) (by rfl) (by rfl) kS.out (by rw [fls_size]; exact info_arr) (by simp) (vls_one (n := 20) (f := flw (fun _ => 0)) (fun _ => rfl)) (by have := q0.out; omega) (neC (Nat.ne_of_lt q0.out) ne0) ?_; intro wG kG; replace kG := hid kG))
      refine (iDemF 4 (by decide) _).mono ?_
      rintro e u6 ⟨rfl, rfl⟩
      exact ⟨rfl, rfl, kG.out.1⟩

theorem iShiftG_ok (c : Nat → Nat) (hc : Amts c) (t r x : Nat) (hx : ExF x t) (hg : GainC c x t) (w : World) :
    Calls Tryz.prog 151 #[.agg #[.float .f32 t, .map (some r)], .agg (fls c), .float .f32 x] w fun e w' => e = .returned (.tuple #[.agg (fls (gainR c x t)), .float .f32 (gainS c x t)]) ∧ Below w.heap.size w w' := by
  unfold gainR gainS
  by_cases hb : bigG x (s1W c x t) = true
  · rw [if_pos hb, if_pos hb]
    exact iShiftG_t2 c hc t r x hx hg.1 hb (hg.2 hb) w
  · rw [if_neg hb, if_neg hb]
    exact iShiftG_t1 c hc t r x hx hg.1 (Bool.eq_false_iff.2 hb) w

theorem iShiftG_bad (c : Nat → Nat) (hc : Amts c) (t r x : Nat) (hx : ExF x t) (hg : ¬ GainC c x t) (w : World) :
    Calls Tryz.prog 151 #[.agg #[.float .f32 t, .map (some r)], .agg (fls c), .float .f32 x] w fun e w' => e = .panicked [{ v := .iface 185 (.int .i64 4), recovered := false }] ∧ Below w.heap.size w w' := by
  by_cases h1 : ShOk c (g1W x t)
  · by_cases hb : bigG x (s1W c x t) = true
    · exact iShiftG_f2 c hc t r x hx h1 hb (fun h2 => hg ⟨h1, fun _ => h2⟩) w
    · exact absurd ⟨h1, fun h => absurd h hb⟩ hg
  · exact iShiftG_f1 c hc t r x hx h1 w

theorem exf_of {h v t : Nat} (hh : IsHeat h) (hq : airB h v = true) (ht : amtB t = true) : ExF (excF h v) t := by
  have q := airB_iff.1 hq
  have F := sat_facts hh.1 hh.2
  have E := exc_facts F q.2.1
  exact ⟨E.2.1, E.2.2, exc_small F q.2.1 (vap_le q.2.1 q.2.2), ht⟩

theorem keepsK {w0 w : World} {l : List (Nat × Array Value × TypeId)} (k : Kept w0 l w) : Keeps (fun _ => False) w0 w := .of k.1

set_option maxRecDepth 100000 in
set_option maxHeartbeats 400000 in
theorem iStepG_f (c : Nat → Nat) (hc : Amts c) (t r h v : Nat) (hh : IsHeat h) (hq : airB h v = true) (ht : amtB t = true) (hg : ¬ GainC c (excF h v) t) (w : World) (hm : MapOf satF IsHeat w r) :
    Calls Tryz.prog 138 #[.agg #[.float .f32 t, .map (some r)], .agg (fls c), .agg #[.float .f32 h, .float .f32 v]] w fun e w' => e = .panicked [{ v := .iface 185 (.int .i64 4), recovered := false }] ∧ Keeps (fun k => k = r) w w' := by
  have k0 : Hid (Kept w [(w.heap.size + 1 + 1, #[.float .f32 h, .float .f32 v], 32), (w.heap.size + 1, fls c, 30), (w.heap.size, #[.float .f32 t, .map (some r)], 148), (w.heap.size + 1 + 1 + 1, fls fun _ => 0, 30), (w.heap.size + 1 + 1 + 1 + 1, #[.float .f32 0, .float .f32 0], 32)] (((((w.alloc (.cells #[.float .f32 t, .map (some r)] 148)).alloc (.cells (fls c) 30)).alloc (.cells #[.float .f32 h, .float .f32 v] 32)).alloc (.cells (fls fun _ => 0) 30)).alloc (.cells #[.float .f32 0, .float .f32 0] 32))) := hid (((((((Kept.nil w).push (#[.float .f32 t, .map (some r)]) 148).push (fls c) 30).push (#[.float .f32 h, .float .f32 v]) 32).push (fls fun _ => 0) 30).push (#[.float .f32 0, .float .f32 0]) 32).sub (by
    intro y hy
    simp only [World.size_alloc]
    rcases List.mem_cons.1 hy with rfl | hy
    · exact in2
    rcases List.mem_cons.1 hy with rfl | hy
    · exact in3
    rcases List.mem_cons.1 hy with rfl | hy
    · exact in4
    rcases List.mem_cons.1 hy with rfl | hy
    · exact in1
    · rw [List.mem_singleton.1 hy]; exact in0))
  have HM := hid hm
  have hX := exf_of hh hq ht
  have HE := hid (fun w2 hm2 => iExcG t r h v hh (airB_iff.1 hq).2.1 w2 hm2)
  have HS := hid (fun w2 => iShiftG_bad c hc t r (excF h v) hX hg w2)
  have HR : Hid (r < w.heap.size) := hid (by obtain ⟨_, _, hb, _⟩ := hm; exact lt_of_block hb)
  have HL : Hid (∀ y ∈ [(w.heap.size + 1 + 1, #[.float .f32 h, .float .f32 v], 32), (w.heap.size + 1, fls c, 30), (w.heap.size, #[.float .f32 t, .map (some r)], 148), (w.heap.size + 1 + 1 + 1, fls fun _ => 0, 30), (w.heap.size + 1 + 1 + 1 + 1, #[.float .f32 0, .float .f32 0], 32)], w.heap.size ≤ y.1) := hid (by simp; omega)
  clear hm hh hq ht hX hc hg
  go_enter Tryz.func138, Tryz.ntmps138
  go_wp2_with fail
  refine region_actS (S := fun w2 => HK (fun k => k = r) w [(w.heap.size + 1 + 1, #[.float .f32 h, .float .f32 v], 32), (w.heap.size + 1, fls c, 30), (w.heap.size, #[.float .f32 t, .map (some r)], 148), (w.heap.size + 1 + 1 + 1, fls fun _ => 0, 30), (w.heap.size + 1 + 1 + 1 + 1, #[.float .f32 0, .float .f32 0], 32)] w2 ∧ MapOf satF IsHeat w2 r) (fun _ _ _ => False) 12 #[false, false, false, false, false, false, false, false, false, false, false, false] (by kernel_rfl) rfl rfl (by intro c a d v w h; cases d <;> exact h) (fun Q2 PB HN HP => ?_) ?_
  · have kd := HK.of (X := (fun k => k = r)) k0.out
    replace kd := kd.drew
    have md := (HM.out.keeps (keepsK k0.out) (fun x => x)).keeps (Keeps.drew0 (X := fun _ => False)) (fun x => x)
    generalize World.drew _ = wd at kd md ⊢
    refine takeP_cell PB 0 (.agg (#[.float .f32 t, .map (some r)])) rfl (by rfl) (by kernel_rfl) (by kernel_rfl) (by kernel_rfl) (fun wq hS => run_load_blk 148 _ (w.heap.size) (#[.float .f32 t, .map (some r)]) 148 rfl (hS.1.at (x := (w.heap.size, #[.float .f32 t, .map (some r)], 148)) in2) _ Tryz.underlying148 (by rfl) (by kernel_rfl)) ⟨kd, md⟩ ?_
    simp only [Act.put, List.setIfInBounds_toArray, List.set_cons_zero, List.set_cons_succ]
    refine takeP_cell PB 1 (.agg (fls c)) rfl (by rfl) (by kernel_rfl) (by kernel_rfl) (by kernel_rfl) (fun wq hS => run_load_blk 30 _ (w.heap.size + 1) (fls c) 30 rfl (hS.1.at (x := (w.heap.size + 1, fls c, 30)) in1) _ Tryz.underlying30 (by rfl) (by rw [fls_size]; exact info_arr)) ⟨kd, md⟩ ?_
    simp only [Act.put, List.setIfInBounds_toArray, List.set_cons_zero, List.set_cons_succ]
    refine takeP_cell PB 2 (.agg (#[.float .f32 t, .map (some r)])) rfl (by rfl) (by kernel_rfl) (by kernel_rfl) (by kernel_rfl) (fun wq hS => run_load_blk 148 _ (w.heap.size) (#[.float .f32 t, .map (some r)]) 148 rfl (hS.1.at (x := (w.heap.size, #[.float .f32 t, .map (some r)], 148)) in2) _ Tryz.underlying148 (by rfl) (by kernel_rfl)) ⟨kd, md⟩ ?_
    simp only [Act.put, List.setIfInBounds_toArray, List.set_cons_zero, List.set_cons_succ]
    refine takeP_cell PB 3 (.agg (#[.float .f32 h, .float .f32 v])) rfl (by rfl) (by kernel_rfl) (by kernel_rfl) (by kernel_rfl) (fun wq hS => run_load_blk 32 _ (w.heap.size + 1 + 1) (#[.float .f32 h, .float .f32 v]) 32 rfl (hS.1.at (x := (w.heap.size + 1 + 1, #[.float .f32 h, .float .f32 v], 32)) in0) _ Tryz.underlying32 (by rfl) (info_air)) ⟨kd, md⟩ ?_
    simp only [Act.put, List.setIfInBounds_toArray, List.set_cons_zero, List.set_cons_succ]
    refine wpAnyH_ready (rs := [4, 9]) (by kernel_rfl) (by simp) ?_
    refine callR 4 _ _ (.float .f32 (excF h v)) rfl (by rfl) 152 #[.agg #[.float .f32 t, .map (some r)], .agg #[.float .f32 h, .float .f32 v]] (by unfold execOp; go_simp) rfl rfl (fun w2 => Keeps (fun k => k = r) wd w2 ∧ MapOf satF IsHeat w2 r) (HE.out _ md) (fun w1 hw1 => ?_) ?_
    · have m1 := hw1.2
      have k1 := kd.ahead rfl hw1.1 HR.out HL.out
      refine ⟨⟨k1, m1⟩, ?_⟩
      simp only [Act.put, List.setIfInBounds_toArray, List.set_cons_zero, List.set_cons_succ]
      refine wpAnyH_ready (rs := [5, 9]) (by kernel_rfl) (by simp) ?_
      refine callPS 5 _ (fun w2 => Below w1.heap.size w1 w2) rfl (by rfl) 151 #[.agg #[.float .f32 t, .map (some r)], .agg (fls c), .float .f32 (excF h v)] (by unfold execOp; go_simp) (HS.out _) (fun w2 hw2 => ?_) ?_
      · exact HP _ _ _ ⟨rfl, rfl, (k1.stay hw2).keeps⟩
      refine allocS 9 _ (fls fun _ => 0) 30 rfl (by rfl) (by unfold execOp; go_simp) rfl (fun w3 g3 hw3 hg3 => ?_) AllReadyH.nil
      have k3 : HK (fun k => k = r) w ((g3, fls fun _ => 0, 30) :: [(w.heap.size + 1 + 1, #[.float .f32 h, .float .f32 v], 32), (w.heap.size + 1, fls c, 30), (w.heap.size, #[.float .f32 t, .map (some r)], 148), (w.heap.size + 1 + 1 + 1, fls fun _ => 0, 30), (w.heap.size + 1 + 1 + 1 + 1, #[.float .f32 0, .float .f32 0], 32)]) w3 := by rw [hw3, hg3]; exact k1.push _ _
      have hBg3 : w.heap.size ≤ g3 := by rw [hg3]; exact k1.size
      have hng3 : ∀ y ∈ [(w.heap.size + 1 + 1, #[.float .f32 h, .float .f32 v], 32), (w.heap.size + 1, fls c, 30), (w.heap.size, #[.float .f32 t, .map (some r)], 148), (w.heap.size + 1 + 1 + 1, fls fun _ => 0, 30), (w.heap.size + 1 + 1 + 1 + 1, #[.float .f32 0, .float .f32 0], 32)], y.1 ≠ g3 := by rw [hg3]; exact k1.fresh
      have m3 : MapOf satF IsHeat w3 r := by rw [hw3]; exact m1.keeps (Keeps.alloc (X := fun _ => False) _) (fun x => x)
      clear hw3 hg3
      refine ⟨⟨k3.tail, m3⟩, ?_⟩
      simp only [Act.put, List.setIfInBounds_toArray, List.set_cons_zero, List.set_cons_succ]
      refine wpAnyH_ready (rs := [5]) (by kernel_rfl) (by simp) ?_
      refine callPS 5 _ (fun w2 => Below w3.heap.size w3 w2) rfl (by rfl) 151 #[.agg #[.float .f32 t, .map (some r)], .agg (fls c), .float .f32 (excF h v)] (by unfold execOp; go_simp) (HS.out _) (fun w4 hw4 => ?_) AllReadyH.nil
      exact HP _ _ _ ⟨rfl, rfl, (k3.stay hw4).keeps⟩
    refine allocS 9 _ (fls fun _ => 0) 30 rfl (by rfl) (by unfold execOp; go_simp) rfl (fun w5 g5 hw5 hg5 => ?_) AllReadyH.nil
    have k5 : HK (fun k => k = r) w ((g5, fls fun _ => 0, 30) :: [(w.heap.size + 1 + 1, #[.float .f32 h, .float .f32 v], 32), (w.heap.size + 1, fls c, 30), (w.heap.size, #[.float .f32 t, .map (some r)], 148), (w.heap.size + 1 + 1 + 1, fls fun _ => 0, 30), (w.heap.size + 1 + 1 + 1 + 1, #[.float .f32 0, .float .f32 0], 32)]) w5 := by rw [hw5, hg5]; exact kd.push _ _
    have hBg5 : w.heap.size ≤ g5 := by rw [hg5]; exact kd.size
    have hng5 : ∀ y ∈ [(w.heap.size + 1 + 1, #[.float .f32 h, .float .f32 v], 32), (w.heap.size + 1, fls c, 30), (w.heap.size, #[.float .f32 t, .map (some r)], 148), (w.heap.size + 1 + 1 + 1, fls fun _ => 0, 30), (w.heap.size + 1 + 1 + 1 + 1, #[.float .f32 0, .float .f32 0], 32)], y.1 ≠ g5 := by rw [hg5]; exact kd.fresh
    have m5 : MapOf satF IsHeat w5 r := by rw [hw5]; exact md.keeps (Keeps.alloc (X := fun _ => False) _) (fun x => x)
    clear hw5 hg5
    refine ⟨⟨k5.tail, m5⟩, ?_⟩
    simp only [Act.put, List.setIfInBounds_toArray, List.set_cons_zero, List.set_cons_succ]
    refine wpAnyH_ready (rs := [4]) (by kernel_rfl) (by simp) ?_
    refine callR 4 _ _ (.float .f32 (excF h v)) rfl (by rfl) 152 #[.agg #[.float .f32 t, .map (some r)], .agg #[.float .f32 h, .float .f32 v]] (by unfold execOp; go_simp) rfl rfl (fun w2 => Keeps (fun k => k = r) w5 w2 ∧ MapOf satF IsHeat w2 r) (HE.out _ m5) (fun w6 hw6 => ?_) AllReadyH.nil
    have m6 := hw6.2
    have k6 := k5.ahead rfl hw6.1 HR.out (by intro y hy; rcases List.mem_cons.1 hy with rfl | hy; exact hBg5; exact HL.out y hy)
    refine ⟨⟨k6.tail, m6⟩, ?_⟩
    simp only [Act.put, List.setIfInBounds_toArray, List.set_cons_zero, List.set_cons_succ]
    refine wpAnyH_ready (rs := [5]) (by kernel_rfl) (by simp) ?_
    refine callPS 5 _ (fun w2 => Below w6.heap.size w6 w2) rfl (by rfl) 151 #[.agg #[.float .f32 t, .map (some r)], .agg (fls c), .float .f32 (excF h v)] (by unfold execOp; go_simp) (HS.out _) (fun w7 hw7 => ?_) AllReadyH.nil
    exact HP _ _ _ ⟨rfl, rfl, (k6.stay hw7).keeps⟩
  · rintro a1 w9 h9
    exact h9.elim

set_option maxRecDepth 100000 in
set_option maxHeartbeats 400000 in
theorem iStepG_t (c : Nat → Nat) (hc : Amts c) (t r h v : Nat) (hh : IsHeat h) (hq : airB h v = true) (ht : amtB t = true) (hg : GainC c (excF h v) t) (w : World) (hm : MapOf satF IsHeat w r) :
    Calls Tryz.prog 138 #[.agg #[.float .f32 t, .map (some r)], .agg (fls c), .agg #[.float .f32 h, .float .f32 v]] w fun e w' => e = .returned (.tuple #[.agg (fls (gainR c (excF h v) t)), .agg #[.float .f32 (nhW h (gainS c (excF h v) t)), .float .f32 (nvW v (gainS c (excF h v) t))]]) ∧ Keeps (fun k => k = r) w w' ∧ MapOf satF IsHeat w' r := by
  have k0 : Hid (Kept w [(w.heap.size + 1 + 1, #[.float .f32 h, .float .f32 v], 32), (w.heap.size + 1, fls c, 30), (w.heap.size, #[.float .f32 t, .map (some r)], 148), (w.heap.size + 1 + 1 + 1, fls fun _ => 0, 30), (w.heap.size + 1 + 1 + 1 + 1, #[.float .f32 0, .float .f32 0], 32)] (((((w.alloc (.cells #[.float .f32 t, .map (some r)] 148)).alloc (.cells (fls c) 30)).alloc (.cells #[.float .f32 h, .float .f32 v] 32)).alloc (.cells (fls fun _ => 0) 30)).alloc (.cells #[.float .f32 0, .float .f32 0] 32))) := hid (((((((Kept.nil w).push (#[.float .f32 t, .map (some r)]) 148).push (fls c) 30).push (#[.float .f32 h, .float .f32 v]) 32).push (fls fun _ => 0) 30).push (#[.float .f32 0, .float .f32 0]) 32).sub (by
    intro y hy
    simp only [World.size_alloc]
    rcases List.mem_cons.1 hy with rfl | hy
    · exact in2
    rcases List.mem_cons.1 hy with rfl | hy
    · exact in3
    rcases List.mem_cons.1 hy with rfl | hy
    · exact in4
    rcases List.mem_cons.1 hy with rfl | hy
    · exact in1
    · rw [List.mem_singleton.1 hy]; exact in0))
  have HM := hid hm
  have hX := exf_of hh hq ht
  have HE := hid (fun w2 hm2 => iExcG t r h v hh (airB_iff.1 hq).2.1 w2 hm2)
  have HS := hid (fun w2 => iShiftG_ok c hc t r (excF h v) hX hg w2)
  have HR : Hid (r < w.heap.size) := hid (by obtain ⟨_, _, hb, _⟩ := hm; exact lt_of_block hb)
  have HL : Hid (∀ y ∈ [(w.heap.size + 1 + 1, #[.float .f32 h, .float .f32 v], 32), (w.heap.size + 1, fls c, 30), (w.heap.size, #[.float .f32 t, .map (some r)], 148), (w.heap.size + 1 + 1 + 1, fls fun _ => 0, 30), (w.heap.size + 1 + 1 + 1 + 1, #[.float .f32 0, .float .f32 0], 32)], w.heap.size ≤ y.1) := hid (by simp; omega)
  have sa := step_a hh.1 hq (gainS_fw hc hX hg)
  have SA := hid sa
  have rm := fun w => run_float_arith (P := Tryz.prog) w .mul 22 .f32 _ _ _ sa.m
  have ra := fun w => run_float_arith (P := Tryz.prog) w .add 22 .f32 _ _ _ sa.a
  have rs := fun w => run_float_arith (P := Tryz.prog) w .sub 22 .f32 _ _ _ sa.s
  clear hm hh hq ht hX hc hg sa
  go_enter Tryz.func138, Tryz.ntmps138
  go_wp2_with fail
  refine region_actS (S := fun w2 => HK (fun k => k = r) w [(w.heap.size + 1 + 1, #[.float .f32 h, .float .f32 v], 32), (w.heap.size + 1, fls c, 30), (w.heap.size, #[.float .f32 t, .map (some r)], 148), (w.heap.size + 1 + 1 + 1, fls fun _ => 0, 30), (w.heap.size + 1 + 1 + 1 + 1, #[.float .f32 0, .float .f32 0], 32)] w2 ∧ MapOf satF IsHeat w2 r) (fun a0 a1 w1q => ∃ g, a1 = (((((((((((a0.put (some 11) (.agg #[.float .f32 t, .map (some r)])).put (some 12) (.agg (fls c))).put (some 13) (.agg #[.float .f32 t, .map (some r)])).put (some 14) (.agg #[.float .f32 h, .float .f32 v])).put (some 15) (.float .f32 (excF h v))).put (some 16) (.tuple #[.agg (fls (gainR c (excF h v) t)), .float .f32 (gainS c (excF h v) t)])).put (some 10) (.tuple #[.agg (fls (gainR c (excF h v) t)), .float .f32 (gainS c (excF h v) t)])).put (some 17) (.agg (fls (gainR c (excF h v) t)))).put (some 18) (.float .f32 (gainS c (excF h v) t))).put (some 8) (.pointer (some ⟨g, 0, none⟩))).put (some 9) (.float .f32 (gainS c (excF h v) t))) ∧ w.heap.size ≤ g ∧ HK (fun k => k = r) w ((g, fls (gainR c (excF h v) t), 30) :: [(w.heap.size + 1 + 1, #[.float .f32 h, .float .f32 v], 32), (w.heap.size + 1, fls c, 30), (w.heap.size, #[.float .f32 t, .map (some r)], 148), (w.heap.size + 1 + 1 + 1, fls fun _ => 0, 30), (w.heap.size + 1 + 1 + 1 + 1, #[.float .f32 0, .float .f32 0], 32)]) w1q ∧ MapOf satF IsHeat w1q r ∧ ∀ y ∈ [(w.heap.size + 1 + 1, #[.float .f32 h, .float .f32 v], 32), (w.heap.size + 1, fls c, 30), (w.heap.size, #[.float .f32 t, .map (some r)], 148), (w.heap.size + 1 + 1 + 1, fls fun _ => 0, 30), (w.heap.size + 1 + 1 + 1 + 1, #[.float .f32 0, .float .f32 0], 32)], y.1 ≠ g) 12 #[false, false, false, false, false, false, false, false, false, false, false, false] (by kernel_rfl) rfl rfl (by intro c a d v w h; cases d <;> exact h) (fun Q2 PB HN HP => ?_) ?_
  · have kd := HK.of (X := (fun k => k = r)) k0.out
    replace kd := kd.drew
    have md := (HM.out.keeps (keepsK k0.out) (fun x => x)).keeps (Keeps.drew0 (X := fun _ => False)) (fun x => x)
    generalize World.drew _ = wd at kd md ⊢
    refine takeP_cell PB 0 (.agg (#[.float .f32 t, .map (some r)])) rfl (by rfl) (by kernel_rfl) (by kernel_rfl) (by kernel_rfl) (fun wq hS => run_load_blk 148 _ (w.heap.size) (#[.float .f32 t, .map (some r)]) 148 rfl (hS.1.at (x := (w.heap.size, #[.float .f32 t, .map (some r)], 148)) in2) _ Tryz.underlying148 (by rfl) (by kernel_rfl)) ⟨kd, md⟩ ?_
    simp only [Act.put, List.setIfInBounds_toArray, List.set_cons_zero, List.set_cons_succ]
    refine takeP_cell PB 1 (.agg (fls c)) rfl (by rfl) (by kernel_rfl) (by kernel_rfl) (by kernel_rfl) (fun wq hS => run_load_blk 30 _ (w.heap.size + 1) (fls c) 30 rfl (hS.1.at (x := (w.heap.size + 1, fls c, 30)) in1) _ Tryz.underlying30 (by rfl) (by rw [fls_size]; exact info_arr)) ⟨kd, md⟩ ?_
    simp only [Act.put, List.setIfInBounds_toArray, List.set_cons_zero, List.set_cons_succ]
    refine takeP_cell PB 2 (.agg (#[.float .f32 t, .map (some r)])) rfl (by rfl) (by kernel_rfl) (by kernel_rfl) (by kernel_rfl) (fun wq hS => run_load_blk 148 _ (w.heap.size) (#[.float .f32 t, .map (some r)]) 148 rfl (hS.1.at (x := (w.heap.size, #[.float .f32 t, .map (some r)], 148)) in2) _ Tryz.underlying148 (by rfl) (by kernel_rfl)) ⟨kd, md⟩ ?_
    simp only [Act.put, List.setIfInBounds_toArray, List.set_cons_zero, List.set_cons_succ]
    refine takeP_cell PB 3 (.agg (#[.float .f32 h, .float .f32 v])) rfl (by rfl) (by kernel_rfl) (by kernel_rfl) (by kernel_rfl) (fun wq hS => run_load_blk 32 _ (w.heap.size + 1 + 1) (#[.float .f32 h, .float .f32 v]) 32 rfl (hS.1.at (x := (w.heap.size + 1 + 1, #[.float .f32 h, .float .f32 v], 32)) in0) _ Tryz.underlying32 (by rfl) (info_air)) ⟨kd, md⟩ ?_
    simp only [Act.put, List.setIfInBounds_toArray, List.set_cons_zero, List.set_cons_succ]
    refine wpAnyH_ready (rs := [4, 9]) (by kernel_rfl) (by simp) ?_
    refine callR 4 _ _ (.float .f32 (excF h v)) rfl (by rfl) 152 #[.agg #[.float .f32 t, .map (some r)], .agg #[.float .f32 h, .float .f32 v]] (by unfold execOp; go_simp) rfl rfl (fun w2 => Keeps (fun k => k = r) wd w2 ∧ MapOf satF IsHeat w2 r) (HE.out _ md) (fun w8 hw8 => ?_) ?_
    · have m8 := hw8.2
      have k8 := kd.ahead rfl hw8.1 HR.out HL.out
      refine ⟨⟨k8, m8⟩, ?_⟩
      simp only [Act.put, List.setIfInBounds_toArray, List.set_cons_zero, List.set_cons_succ]
      refine wpAnyH_ready (rs := [5, 9]) (by kernel_rfl) (by simp) ?_
      refine callR 5 _ _ (.tuple #[.agg (fls (gainR c (excF h v) t)), .float .f32 (gainS c (excF h v) t)]) rfl (by rfl) 151 #[.agg #[.float .f32 t, .map (some r)], .agg (fls c), .float .f32 (excF h v)] (by unfold execOp; go_simp) rfl rfl (fun w2 => Below w8.heap.size w8 w2) (HS.out _) (fun w9 hw9 => ?_) ?_
      · have m9 := m8.keeps (Keeps.of (X := fun _ => False) hw9) (fun x => x)
        have k9 := k8.stay hw9
        refine ⟨⟨k9, m9⟩, ?_⟩
        simp only [Act.put, List.setIfInBounds_toArray, List.set_cons_zero, List.set_cons_succ]
        refine takeP_val PB 6 (.tuple #[.agg (fls (gainR c (excF h v) t)), .float .f32 (gainS c (excF h v) t)]) rfl (by rfl) (by kernel_rfl) (by kernel_rfl) (by kernel_rfl) (fun w => by rfl) ⟨k9, m9⟩ ?_
        simp only [Act.put, List.setIfInBounds_toArray, List.set_cons_zero, List.set_cons_succ]
        refine takeP_val PB 7 (.agg (fls (gainR c (excF h v) t))) rfl (by rfl) (by kernel_rfl) (by kernel_rfl) (by kernel_rfl) (fun w => by unfold execOp; go_simp) ⟨k9, m9⟩ ?_
        simp only [Act.put, List.setIfInBounds_toArray, List.set_cons_zero, List.set_cons_succ]
        refine takeP_val PB 8 (.float .f32 (gainS c (excF h v) t)) rfl (by rfl) (by kernel_rfl) (by kernel_rfl) (by kernel_rfl) (fun w => by unfold execOp; go_simp) ⟨k9, m9⟩ ?_
        simp only [Act.put, List.setIfInBounds_toArray, List.set_cons_zero, List.set_cons_succ]
        refine wpAnyH_ready (rs := [9]) (by kernel_rfl) (by simp) ?_
        refine allocS 9 _ (fls fun _ => 0) 30 rfl (by rfl) (by unfold execOp; go_simp) rfl (fun w10 g10 hw10 hg10 => ?_) AllReadyH.nil
        have k10 : HK (fun k => k = r) w ((g10, fls fun _ => 0, 30) :: [(w.heap.size + 1 + 1, #[.float .f32 h, .float .f32 v], 32), (w.heap.size + 1, fls c, 30), (w.heap.size, #[.float .f32 t, .map (some r)], 148), (w.heap.size + 1 + 1 + 1, fls fun _ => 0, 30), (w.heap.size + 1 + 1 + 1 + 1, #[.float .f32 0, .float .f32 0], 32)]) w10 := by rw [hw10, hg10]; exact k9.push _ _
        have hBg10 : w.heap.size ≤ g10 := by rw [hg10]; exact k9.size
        have hng10 : ∀ y ∈ [(w.heap.size + 1 + 1, #[.float .f32 h, .float .f32 v], 32), (w.heap.size + 1, fls c, 30), (w.heap.size, #[.float .f32 t, .map (some r)], 148), (w.heap.size + 1 + 1 + 1, fls fun _ => 0, 30), (w.heap.size + 1 + 1 + 1 + 1, #[.float .f32 0, .float .f32 0], 32)], y.1 ≠ g10 := by rw [hg10]; exact k9.fresh
        have m10 : MapOf satF IsHeat w10 r := by rw [hw10]; exact m9.keeps (Keeps.alloc (X := fun _ => False) _) (fun x => x)
        clear hw10 hg10
        refine ⟨⟨k10.tail, m10⟩, ?_⟩
        simp only [Act.put, List.setIfInBounds_toArray, List.set_cons_zero, List.set_cons_succ]
        refine wpAnyH_ready (rs := [10]) (by kernel_rfl) (by simp) ?_
        refine storeS 10 _ (g := g10) (old := fls fun _ => 0) (T := 30) rfl (by rfl) 30 _ _ rfl (fls (gainR c (excF h v) t)) rfl rfl (k10.at (x := (g10, fls fun _ => 0, 30)) in0) (by rw [fls_size]; exact info_arr) (by simp) (vls_one (n := 20) (f := flw (gainR c (excF h v) t)) (fun _ => rfl)) rfl (fun w11 hw11 => ?_) AllReadyH.nil
        have k11 : HK (fun k => k = r) w ((g10, fls (gainR c (excF h v) t), 30) :: [(w.heap.size + 1 + 1, #[.float .f32 h, .float .f32 v], 32), (w.heap.size + 1, fls c, 30), (w.heap.size, #[.float .f32 t, .map (some r)], 148), (w.heap.size + 1 + 1 + 1, fls fun _ => 0, 30), (w.heap.size + 1 + 1 + 1 + 1, #[.float .f32 0, .float .f32 0], 32)]) w11 := by rw [hw11]; exact k10.set hBg10 hng10 _
        have m11 : MapOf satF IsHeat w11 r := by rw [hw11]; exact m10.keeps (keeps_row _ _ _) (by have := hBg10; have := HR.out; omega)
        refine ⟨⟨k11.tail, m11⟩, ?_⟩
        refine takeP_val PB 11 (.float .f32 (gainS c (excF h v) t)) rfl (by rfl) (by kernel_rfl) (by kernel_rfl) (by kernel_rfl) (fun w => by rfl) ⟨k11.tail, m11⟩ ?_
        simp only [Act.put, List.setIfInBounds_toArray, List.set_cons_zero, List.set_cons_succ]
        refine wpAnyH_done (by kernel_rfl) ?_ _
        exact HN _ _ ⟨g10, by simp only [Act.put, List.setIfInBounds_toArray, List.set_cons_zero, List.set_cons_succ], hBg10, k11, m11, hng10⟩
      refine allocS 9 _ (fls fun _ => 0) 30 rfl (by rfl) (by unfold execOp; go_simp) rfl (fun w12 g12 hw12 hg12 => ?_) AllReadyH.nil
      have k12 : HK (fun k => k = r) w ((g12, fls fun _ => 0, 30) :: [(w.heap.size + 1 + 1, #[.float .f32 h, .float .f32 v], 32), (w.heap.size + 1, fls c, 30), (w.heap.size, #[.float .f32 t, .map (some r)], 148), (w.heap.size + 1 + 1 + 1, fls fun _ => 0, 30), (w.heap.size + 1 + 1 + 1 + 1, #[.float .f32 0, .float .f32 0], 32)]) w12 := by rw [hw12, hg12]; exact k8.push _ _
      have hBg12 : w.heap.size ≤ g12 := by rw [hg12]; exact k8.size
      have hng12 : ∀ y ∈ [(w.heap.size + 1 + 1, #[.float .f32 h, .float .f32 v], 32), (w.heap.size + 1, fls c, 30), (w.heap.size, #[.float .f32 t, .map (some r)], 148), (w.heap.size + 1 + 1 + 1, fls fun _ => 0, 30), (w.heap.size + 1 + 1 + 1 + 1, #[.float .f32 0, .float .f32 0], 32)], y.1 ≠ g12 := by rw [hg12]; exact k8.fresh
      have m12 : MapOf satF IsHeat w12 r := by rw [hw12]; exact m8.keeps (Keeps.alloc (X := fun _ => False) _) (fun x => x)
      clear hw12 hg12
      refine ⟨⟨k12.tail, m12⟩, ?_⟩
      simp only [Act.put, List.setIfInBounds_toArray, List.set_cons_zero, List.set_cons_succ]
      refine wpAnyH_ready (rs := [5]) (by kernel_rfl) (by simp) ?_
      refine callR 5 _ _ (.tuple #[.agg (fls (gainR c (excF h v) t)), .float .f32 (gainS c (excF h v) t)]) rfl (by rfl) 151 #[.agg #[.float .f32 t, .map (some r)], .agg (fls c), .float .f32 (excF h v)] (by unfold execOp; go_simp) rfl rfl (fun w2 => Below w12.heap.size w12 w2) (HS.out _) (fun w13 hw13 => ?_) AllReadyH.nil
      have m13 := m12.keeps (Keeps.of (X := fun _ => False) hw13) (fun x => x)
      have k13 := k12.stay hw13
      refine ⟨⟨k13.tail, m13⟩, ?_⟩
      simp only [Act.put, List.setIfInBounds_toArray, List.set_cons_zero, List.set_cons_succ]
      refine takeP_val PB 6 (.tuple #[.agg (fls (gainR c (excF h v) t)), .float .f32 (gainS c (excF h v) t)]) rfl (by rfl) (by kernel_rfl) (by kernel_rfl) (by kernel_rfl) (fun w => by rfl) ⟨k13.tail, m13⟩ ?_
      simp only [Act.put, List.setIfInBounds_toArray, List.set_cons_zero, List.set_cons_succ]
      refine takeP_val PB 7 (.agg (fls (gainR c (excF h v) t))) rfl (by rfl) (by kernel_rfl) (by kernel_rfl) (by kernel_rfl) (fun w => by unfold execOp; go_simp) ⟨k13.tail, m13⟩ ?_
      simp only [Act.put, List.setIfInBounds_toArray, List.set_cons_zero, List.set_cons_succ]
      refine takeP_val PB 8 (.float .f32 (gainS c (excF h v) t)) rfl (by rfl) (by kernel_rfl) (by kernel_rfl) (by kernel_rfl) (fun w => by unfold execOp; go_simp) ⟨k13.tail, m13⟩ ?_
      simp only [Act.put, List.setIfInBounds_toArray, List.set_cons_zero, List.set_cons_succ]
      refine wpAnyH_ready (rs := [10]) (by kernel_rfl) (by simp) ?_
      refine storeS 10 _ (g := g12) (old := fls fun _ => 0) (T := 30) rfl (by rfl) 30 _ _ rfl (fls (gainR c (excF h v) t)) rfl rfl (k13.at (x := (g12, fls fun _ => 0, 30)) in0) (by rw [fls_size]; exact info_arr) (by simp) (vls_one (n := 20) (f := flw (gainR c (excF h v) t)) (fun _ => rfl)) rfl (fun w14 hw14 => ?_) AllReadyH.nil
      have k14 : HK (fun k => k = r) w ((g12, fls (gainR c (excF h v) t), 30) :: [(w.heap.size + 1 + 1, #[.float .f32 h, .float .f32 v], 32), (w.heap.size + 1, fls c, 30), (w.heap.size, #[.float .f32 t, .map (some r)], 148), (w.heap.size + 1 + 1 + 1, fls fun _ => 0, 30), (w.heap.size + 1 + 1 + 1 + 1, #[.float .f32 0, .float .f32 0], 32)]) w14 := by rw [hw14]; exact k13.set hBg12 hng12 _
      have m14 : MapOf satF IsHeat w14 r := by rw [hw14]; exact m13.keeps (keeps_row _ _ _) (by have := hBg12; have := HR.out; omega)
      refine ⟨⟨k14.tail, m14⟩, ?_⟩
      refine takeP_val PB 11 (.float .f32 (gainS c (excF h v) t)) rfl (by rfl) (by kernel_rfl) (by kernel_rfl) (by kernel_rfl) (fun w => by rfl) ⟨k14.tail, m14⟩ ?_
      simp only [Act.put, List.setIfInBounds_toArray, List.set_cons_zero, List.set_cons_succ]
      refine wpAnyH_done (by kernel_rfl) ?_ _
      exact HN _ _ ⟨g12, by simp only [Act.put, List.setIfInBounds_toArray, List.set_cons_zero, List.set_cons_succ], hBg12, k14, m14, hng12⟩
    refine allocS 9 _ (fls fun _ => 0) 30 rfl (by rfl) (by unfold execOp; go_simp) rfl (fun w15 g15 hw15 hg15 => ?_) AllReadyH.nil
    have k15 : HK (fun k => k = r) w ((g15, fls fun _ => 0, 30) :: [(w.heap.size + 1 + 1, #[.float .f32 h, .float .f32 v], 32), (w.heap.size + 1, fls c, 30), (w.heap.size, #[.float .f32 t, .map (some r)], 148), (w.heap.size + 1 + 1 + 1, fls fun _ => 0, 30), (w.heap.size + 1 + 1 + 1 + 1, #[.float .f32 0, .float .f32 0], 32)]) w15 := by rw [hw15, hg15]; exact kd.push _ _
    have hBg15 : w.heap.size ≤ g15 := by rw [hg15]; exact kd.size
    have hng15 : ∀ y ∈ [(w.heap.size + 1 + 1, #[.float .f32 h, .float .f32 v], 32), (w.heap.size + 1, fls c, 30), (w.heap.size, #[.float .f32 t, .map (some r)], 148), (w.heap.size + 1 + 1 + 1, fls fun _ => 0, 30), (w.heap.size + 1 + 1 + 1 + 1, #[.float .f32 0, .float .f32 0], 32)], y.1 ≠ g15 := by rw [hg15]; exact kd.fresh
    have m15 : MapOf satF IsHeat w15 r := by rw [hw15]; exact md.keeps (Keeps.alloc (X := fun _ => False) _) (fun x => x)
    clear hw15 hg15
    refine ⟨⟨k15.tail, m15⟩, ?_⟩
    simp only [Act.put, List.setIfInBounds_toArray, List.set_cons_zero, List.set_cons_succ]
    refine wpAnyH_ready (rs := [4]) (by kernel_rfl) (by simp) ?_
    refine callR 4 _ _ (.float .f32 (excF h v)) rfl (by rfl) 152 #[.agg #[.float .f32 t, .map (some r)], .agg #[.float .f32 h, .float .f32 v]] (by unfold execOp; go_simp) rfl rfl (fun w2 => Keeps (fun k => k = r) w15 w2 ∧ MapOf satF IsHeat w2 r) (HE.out _ m15) (fun w16 hw16 => ?_) AllReadyH.nil
    have m16 := hw16.2
    have k16 := k15.ahead rfl hw16.1 HR.out (by intro y hy; rcases List.mem_cons.1 hy with rfl | hy; exact hBg15; exact HL.out y hy)
    refine ⟨⟨k16.tail, m16⟩, ?_⟩
    simp only [Act.put, List.setIfInBounds_toArray, List.set_cons_zero, List.set_cons_succ]
    refine wpAnyH_ready (rs := [5]) (by kernel_rfl) (by simp) ?_
    refine callR 5 _ _ (.tuple #[.agg (fls (gainR c (excF h v) t)), .float .f32 (gainS c (excF h v) t)]) rfl (by rfl) 151 #[.agg #[.float .f32 t, .map (some r)], .agg (fls c), .float .f32 (excF h v)] (by unfold execOp; go_simp) rfl rfl (fun w2 => Below w16.heap.size w16 w2) (HS.out _) (fun w17 hw17 => ?_) AllReadyH.nil
    have m17 := m16.keeps (Keeps.of (X := fun _ => False) hw17) (fun x => x)
    have k17 := k16.stay hw17
    refine ⟨⟨k17.tail, m17⟩, ?_⟩
    simp only [Act.put, List.setIfInBounds_toArray, List.set_cons_zero, List.set_cons_succ]
    refine takeP_val PB 6 (.tuple #[.agg (fls (gainR c (excF h v) t)), .float .f32 (gainS c (excF h v) t)]) rfl (by rfl) (by kernel_rfl) (by kernel_rfl) (by kernel_rfl) (fun w => by rfl) ⟨k17.tail, m17⟩ ?_
    simp only [Act.put, List.setIfInBounds_toArray, List.set_cons_zero, List.set_cons_succ]
    refine takeP_val PB 7 (.agg (fls (gainR c (excF h v) t))) rfl (by rfl) (by kernel_rfl) (by kernel_rfl) (by kernel_rfl) (fun w => by unfold execOp; go_simp) ⟨k17.tail, m17⟩ ?_
    simp only [Act.put, List.setIfInBounds_toArray, List.set_cons_zero, List.set_cons_succ]
    refine takeP_val PB 8 (.float .f32 (gainS c (excF h v) t)) rfl (by rfl) (by kernel_rfl) (by kernel_rfl) (by kernel_rfl) (fun w => by unfold execOp; go_simp) ⟨k17.tail, m17⟩ ?_
    simp only [Act.put, List.setIfInBounds_toArray, List.set_cons_zero, List.set_cons_succ]
    refine wpAnyH_ready (rs := [10]) (by kernel_rfl) (by simp) ?_
    refine storeS 10 _ (g := g15) (old := fls fun _ => 0) (T := 30) rfl (by rfl) 30 _ _ rfl (fls (gainR c (excF h v) t)) rfl rfl (k17.at (x := (g15, fls fun _ => 0, 30)) in0) (by rw [fls_size]; exact info_arr) (by simp) (vls_one (n := 20) (f := flw (gainR c (excF h v) t)) (fun _ => rfl)) rfl (fun w18 hw18 => ?_) AllReadyH.nil
    have k18 : HK (fun k => k = r) w ((g15, fls (gainR c (excF h v) t), 30) :: [(w.heap.size + 1 + 1, #[.float .f32 h, .float .f32 v], 32), (w.heap.size + 1, fls c, 30), (w.heap.size, #[.float .f32 t, .map (some r)], 148), (w.heap.size + 1 + 1 + 1, fls fun _ => 0, 30), (w.heap.size + 1 + 1 + 1 + 1, #[.float .f32 0, .float .f32 0], 32)]) w18 := by rw [hw18]; exact k17.set hBg15 hng15 _
    have m18 : MapOf satF IsHeat w18 r := by rw [hw18]; exact m17.keeps (keeps_row _ _ _) (by have := hBg15; have := HR.out; omega)
    refine ⟨⟨k18.tail, m18⟩, ?_⟩
    refine takeP_val PB 11 (.float .f32 (gainS c (excF h v) t)) rfl (by rfl) (by kernel_rfl) (by kernel_rfl) (by kernel_rfl) (fun w => by rfl) ⟨k18.tail, m18⟩ ?_
    simp only [Act.put, List.setIfInBounds_toArray, List.set_cons_zero, List.set_cons_succ]
    refine wpAnyH_done (by kernel_rfl) ?_ _
    exact HN _ _ ⟨g15, by simp only [Act.put, List.setIfInBounds_toArray, List.set_cons_zero, List.set_cons_succ], hBg15, k18, m18, hng15⟩
  rintro a1 w9 ⟨g, rfl, hgB, k9, m9, hn9⟩
  have M9r := hid m9
  have hg6 : g ≠ w.heap.size + 1 + 1 + 1 := fun e => hn9 _ in3 e.symm
  have hg7 : g ≠ w.heap.size + 1 + 1 + 1 + 1 := fun e => hn9 _ in4 e.symm
  have kg : HK (fun k => k = r) w ((w.heap.size + 1 + 1 + 1, fls fun _ => 0, 30) :: (w.heap.size + 1 + 1 + 1 + 1, #[.float .f32 0, .float .f32 0], 32) :: [(g, fls (gainR c (excF h v) t), 30), (w.heap.size + 1 + 1, #[.float .f32 h, .float .f32 v], 32)]) w9 := k9.sub (by
    intro y hy
    rcases List.mem_cons.1 hy with rfl | hy
    · exact in4
    rcases List.mem_cons.1 hy with rfl | hy
    · exact List.mem_cons_of_mem _ in4
    rcases List.mem_cons.1 hy with rfl | hy
    · exact in0
    · rw [List.mem_singleton.1 hy]; exact in1)
  clear k9 hn9 HE HS HM k0 M9r
  simp only [Act.put, List.setIfInBounds_toArray, List.set_cons_zero, List.set_cons_succ]
  go_wp2_with fail
  refine region_S (S := fun w2 => HK (fun k => k = r) w [(g, fls (gainR c (excF h v) t), 30), (w.heap.size + 1 + 1, #[.float .f32 h, .float .f32 v], 32)] w2) 15 #[false, false, false, false, false, false, false, false, false, false, false, false, false, false, false] (by kernel_rfl) rfl rfl (by intro c a d v w h; cases d <;> exact h) (fun Q2 PB HN HP => ?_)
  replace kg := kg.drew
  have mg := m9.keeps (Keeps.drew0 (X := fun _ => False)) (fun x => x)
  generalize World.drew _ = wd at kg mg ⊢
  refine takeP_cell PB 0 (.agg (fls (gainR c (excF h v) t))) rfl (by rfl) (by kernel_rfl) (by kernel_rfl) (by kernel_rfl) (fun wq hS => run_load_blk 30 _ g (fls (gainR c (excF h v) t)) 30 rfl (hS.at (x := (g, fls (gainR c (excF h v) t), 30)) in0) _ Tryz.underlying30 (by rfl) (by rw [fls_size]; exact info_arr)) kg.tail.tail ?_
  simp only [Act.put, List.setIfInBounds_toArray, List.set_cons_zero, List.set_cons_succ]
  refine takeP_val PB 1 (.pointer (some ⟨w.heap.size + 1 + 1, 0, none⟩)) rfl (by rfl) (by kernel_rfl) (by kernel_rfl) (by kernel_rfl) (fun w => by unfold execOp; go_simp) kg.tail.tail ?_
  simp only [Act.put, List.setIfInBounds_toArray, List.set_cons_zero, List.set_cons_succ]
  refine takeP_cell PB 2 (.float .f32 h) rfl (by rfl) (by kernel_rfl) (by kernel_rfl) (by kernel_rfl) (fun wq hS => by have hcell : wq.cell? ⟨w.heap.size + 1 + 1, 0, none⟩ = some (.float .f32 h) := (cell_of_row wq _ 0 _ _ _ (hS.at (x := (w.heap.size + 1 + 1, #[.float .f32 h, .float .f32 v], 32)) in1)).trans rfl; clear hS; unfold execOp; go_simp) kg.tail.tail ?_
  simp only [Act.put, List.setIfInBounds_toArray, List.set_cons_zero, List.set_cons_succ]
  refine takeP_val PB 3 (.float .f32 (gainS c (excF h v) t)) rfl (by rfl) (by kernel_rfl) (by kernel_rfl) (by kernel_rfl) (fun w => by rfl) kg.tail.tail ?_
  simp only [Act.put, List.setIfInBounds_toArray, List.set_cons_zero, List.set_cons_succ]
  refine takeP_val PB 4 (.float .f32 (fmul 1073741824 (gainS c (excF h v) t))) rfl (by rfl) (by kernel_rfl) (by kernel_rfl) (by kernel_rfl) (fun w => run_binop_val _ _ _ _ (by rfl) (by rfl) (by simp [eqGuard]) (rm w)) kg.tail.tail ?_
  simp only [Act.put, List.setIfInBounds_toArray, List.set_cons_zero, List.set_cons_succ]
  refine takeP_val PB 5 (.float .f32 (fadd h (fmul 1073741824 (gainS c (excF h v) t)))) rfl (by rfl) (by kernel_rfl) (by kernel_rfl) (by kernel_rfl) (fun w => run_binop_val _ _ _ _ (by rfl) (by rfl) (by simp [eqGuard]) (ra w)) kg.tail.tail ?_
  simp only [Act.put, List.setIfInBounds_toArray, List.set_cons_zero, List.set_cons_succ]
  refine takeP_val PB 7 (.pointer (some ⟨w.heap.size + 1 + 1, 1, none⟩)) rfl (by rfl) (by kernel_rfl) (by kernel_rfl) (by kernel_rfl) (fun w => by unfold execOp; go_simp) kg.tail.tail ?_
  simp only [Act.put, List.setIfInBounds_toArray, List.set_cons_zero, List.set_cons_succ]
  refine takeP_cell PB 8 (.float .f32 v) rfl (by rfl) (by kernel_rfl) (by kernel_rfl) (by kernel_rfl) (fun wq hS => by have hcell : wq.cell? ⟨w.heap.size + 1 + 1, 1, none⟩ = some (.float .f32 v) := (cell_of_row wq _ 1 _ _ _ (hS.at (x := (w.heap.size + 1 + 1, #[.float .f32 h, .float .f32 v], 32)) in1)).trans rfl; clear hS; unfold execOp; go_simp) kg.tail.tail ?_
  simp only [Act.put, List.setIfInBounds_toArray, List.set_cons_zero, List.set_cons_succ]
  refine takeP_val PB 9 (.float .f32 (gainS c (excF h v) t)) rfl (by rfl) (by kernel_rfl) (by kernel_rfl) (by kernel_rfl) (fun w => by rfl) kg.tail.tail ?_
  simp only [Act.put, List.setIfInBounds_toArray, List.set_cons_zero, List.set_cons_succ]
  refine takeP_val PB 10 (.float .f32 (fsb v (gainS c (excF h v) t))) rfl (by rfl) (by kernel_rfl) (by kernel_rfl) (by kernel_rfl) (fun w => run_binop_val _ _ _ _ (by rfl) (by rfl) (by simp [eqGuard]) (rs w)) kg.tail.tail ?_
  simp only [Act.put, List.setIfInBounds_toArray, List.set_cons_zero, List.set_cons_succ]
  refine wpAnyH_ready (rs := [6]) (by kernel_rfl) (by simp) ?_
  refine callR 6 _ _ (.float .f32 (nhW h (gainS c (excF h v) t))) rfl (by rfl) 153 #[.float .f32 (fadd h (fmul 1073741824 (gainS c (excF h v) t))), .float .f32 3262119936, .float .f32 1114636288] (by unfold execOp; go_simp) rfl rfl (fun w2 => wd = w2) (iHeldC _ _ _ SA.out.ch _) (fun w31 hw31 => ?_) AllReadyH.nil
  subst hw31
  refine ⟨kg.tail.tail, ?_⟩
  simp only [Act.put, List.setIfInBounds_toArray, List.set_cons_zero, List.set_cons_succ]
  refine wpAnyH_ready (rs := [11]) (by kernel_rfl) (by simp) ?_
  refine callR 11 _ _ (.float .f32 (nvW v (gainS c (excF h v) t))) rfl (by rfl) 153 #[.float .f32 (fsb v (gainS c (excF h v) t)), .float .f32 0, .float .f32 1148846080] (by unfold execOp; go_simp) rfl rfl (fun w2 => wd = w2) (iHeldC _ _ _ SA.out.cv _) (fun w32 hw32 => ?_) AllReadyH.nil
  subst hw32
  refine ⟨kg.tail.tail, ?_⟩
  simp only [Act.put, List.setIfInBounds_toArray, List.set_cons_zero, List.set_cons_succ]
  refine takeP_val PB 12 (.agg #[.float .f32 (nhW h (gainS c (excF h v) t)), .float .f32 (nvW v (gainS c (excF h v) t))]) rfl (by rfl) (by kernel_rfl) (by kernel_rfl) (by kernel_rfl) (fun w => by unfold execOp; go_simp) kg.tail.tail ?_
  simp only [Act.put, List.setIfInBounds_toArray, List.set_cons_zero, List.set_cons_succ]
  refine wpAnyH_ready (rs := [13]) (by kernel_rfl) (by simp) ?_
  refine storeS 13 _ (g := w.heap.size + 1 + 1 + 1) (old := fls fun _ => 0) (T := 30) rfl (by rfl) 30 _ _ rfl (fls (gainR c (excF h v) t)) rfl rfl (kg.at (x := (w.heap.size + 1 + 1 + 1, fls fun _ => 0, 30)) in0) (by rw [fls_size]; exact info_arr) (by simp) (vls_one (n := 20) (f := flw (gainR c (excF h v) t)) (fun _ => rfl)) rfl (fun w33 hw33 => ?_) AllReadyH.nil
  have k33 := kg.set (by omega) (neC (by omega) (neC hg6 (neC (by omega) ne0))) (fls (gainR c (excF h v) t))
  have m33 : MapOf satF IsHeat w33 r := by rw [hw33]; exact mg.keeps (keeps_row _ _ _) (by have := HR.out; omega)
  rw [← hw33] at k33
  clear hw33
  refine ⟨k33.tail.tail, ?_⟩
  simp only [Act.put, List.setIfInBounds_toArray, List.set_cons_zero, List.set_cons_succ]
  have k34 := k33.swap
  refine wpAnyH_ready (rs := [14]) (by kernel_rfl) (by simp) ?_
  refine storeS 14 _ (g := w.heap.size + 1 + 1 + 1 + 1) (old := #[.float .f32 0, .float .f32 0]) (T := 32) rfl (by rfl) 32 _ _ rfl (#[.float .f32 (nhW h (gainS c (excF h v) t)), .float .f32 (nvW v (gainS c (excF h v) t))]) rfl rfl (k34.at (x := (w.heap.size + 1 + 1 + 1 + 1, #[.float .f32 0, .float .f32 0], 32)) in0) (info_air) (by simp) (two_one _ _) rfl (fun w35 hw35 => ?_) AllReadyH.nil
  have k35 := k34.set (by omega) (neC (by omega) (neC hg7 (neC (by omega) ne0))) (#[.float .f32 (nhW h (gainS c (excF h v) t)), .float .f32 (nvW v (gainS c (excF h v) t))])
  have m35 : MapOf satF IsHeat w35 r := by rw [hw35]; exact m33.keeps (keeps_row _ _ _) (by have := HR.out; omega)
  rw [← hw35] at k35
  clear hw35
  refine ⟨k35.tail.tail, ?_⟩
  simp only [Act.put, List.setIfInBounds_toArray, List.set_cons_zero, List.set_cons_succ]
  refine wpAnyH_done (by kernel_rfl) ?_ _
  refine HN _ _ ?_
  clear HN HP PB
  have K6 := hid (k35.at (x := (w.heap.size + 1 + 1 + 1, fls (gainR c (excF h v) t), 30)) in1)
  have K7 := hid (k35.at (x := (w.heap.size + 1 + 1 + 1 + 1, #[.float .f32 (nhW h (gainS c (excF h v) t)), .float .f32 (nvW v (gainS c (excF h v) t))], 32)) in0)
  have KK := hid k35.keeps
  have M9 := hid m35
  clear k33 k34 k35 kg m35 m33 mg
  go_wp2_with fail
  exact bodyPost_ret (results_cells rfl _ _ ⟨w.heap.size + 1 + 1 + 1, 0, none⟩ ⟨w.heap.size + 1 + 1 + 1 + 1, 0, none⟩ (.agg (fls (gainR c (excF h v) t))) (.agg #[.float .f32 (nhW h (gainS c (excF h v) t)), .float .f32 (nvW v (gainS c (excF h v) t))]) rfl rfl (run_loadVar_row _ (w.heap.size + 1 + 1 + 1) 30 30 (fls (gainR c (excF h v) t)) (0, 0) _ K6.out Tryz.underlying30 rfl (by rw [fls_size]; exact info_arr)) (run_loadVar_row _ (w.heap.size + 1 + 1 + 1 + 1) 32 32 #[.float .f32 (nhW h (gainS c (excF h v) t)), .float .f32 (nvW v (gainS c (excF h v) t))] (0, 0) _ K7.out Tryz.underlying32 rfl info_air)) rfl ⟨rfl, KK.out, M9.out⟩

set_option maxRecDepth 100000 in
theorem iNewG (t : Nat) (w : World) : Calls Tryz.prog 115 #[.float .f32 t] w fun e w' => e = .returned (.agg #[.float .f32 t, .map (some (w.heap.size + 1))]) ∧ Below w.heap.size w w' ∧ MapOf satF IsHeat w' (w.heap.size + 1) := by
  have hmk : ∀ w : World, (Instr.makeMap 146 none).run Tryz.prog w = .ok (.map (some w.heap.size)) (w.alloc (.map #[] 0)) := fun w => rfl
  have k1 : Hid (Kept w [(w.heap.size, #[.float .f32 t, .map (some (w.heap.size + 1))], 148)] ((w.alloc (.cells #[.float .f32 t, .map (some (w.heap.size + 1))] 148)).alloc (.map #[] 0))) := hid (((Kept.nil w).push _ _).stay ((Below.refl _ _).alloc (Nat.le_refl _) _))
  have m0 : MapOf satF IsHeat ((w.alloc (.cells #[.float .f32 t, .map (some (w.heap.size + 1))] 148)).alloc (.map #[] 0)) (w.heap.size + 1) := ⟨#[], 0, by have := World.alloc_heap_new (w.alloc (.cells #[.float .f32 t, .map (some (w.heap.size + 1))] 148)) (.map #[] 0); rwa [World.size_alloc] at this, fun e he => by cases he⟩
  have M0 := hid m0
  clear m0
  go_enter Tryz.func115, Tryz.ntmps115
  go_wp2
  exact bodyPost_ret (results_cell_row rfl _ _ w.heap.size 148 #[.float .f32 t, .map (some (w.heap.size + 1))] (0, 0) _ rfl (k1.out.at (x := (w.heap.size, #[.float .f32 t, .map (some (w.heap.size + 1))], 148)) in0) Tryz.underlying148 rfl (by kernel_rfl)) rfl ⟨rfl, k1.out.1, M0.out⟩

/-- Where droplets and air are behind so many steps. -/
structure GSt where
  c : Nat → Nat
  h : Nat
  v : Nat

def gNext (t : Nat) (s : GSt) : GSt := ⟨gainR s.c (excF s.h s.v) t, nhW s.h (gainS s.c (excF s.h s.v) t), nvW s.v (gainS s.c (excF s.h s.v) t)⟩

def gSt (t : Nat) (s : GSt) : Nat → GSt
  | 0 => s
  | k + 1 => gNext t (gSt t s k)

def GOk (t : Nat) (s : GSt) : Prop := GainC s.c (excF s.h s.v) t

structure GVal (t : Nat) (s : GSt) : Prop where
  c : Amts s.c
  h : IsHeat s.h
  q : airB s.h s.v = true
  t : amtB t = true

theorem GVal.next {t : Nat} {s : GSt} (h : GVal t s) (ho : GOk t s) : GVal t (gNext t s) := by
  have hX := exf_of h.h h.q h.t
  have fw := gainS_fw h.c hX ho
  have sa := step_a h.h.1 h.q fw
  have a := step_air sa (airB_iff.1 h.q).2.1 fw
  exact ⟨gainR_amts h.c hX ho, ⟨a.1, (airB_iff.1 a.2).1⟩, a.2, h.t⟩

theorem GVal.at {t : Nat} {s : GSt} (h : GVal t s) : ∀ {k : Nat}, (∀ j, j < k → GOk t (gSt t s j)) → GVal t (gSt t s k)
  | 0, _ => h
  | k + 1, hM => (h.at fun j hj => hM j (by omega)).next (hM k (by omega))

theorem iStepS (t r : Nat) (s : GSt) (hs : GVal t s) (hok : GOk t s) (w : World) (hm : MapOf satF IsHeat w r) :
    Calls Tryz.prog 138 #[.agg #[.float .f32 t, .map (some r)], .agg (fls s.c), .agg #[.float .f32 s.h, .float .f32 s.v]] w fun e w' =>
      e = .returned (.tuple #[.agg (fls (gNext t s).c), .agg #[.float .f32 (gNext t s).h, .float .f32 (gNext t s).v]]) ∧ Keeps (fun k => k = r) w w' ∧ MapOf satF IsHeat w' r :=
  iStepG_t s.c hs.c t r s.h s.v hs.h hs.q hs.t hok w hm

theorem neR {r B g : Nat} (h : B ≤ g) (hr : r < B) : ¬ r = g := by omega

theorem ne6 {B g : Nat} {l : List (Nat × Array Value × TypeId)} (h : B ≤ g) (hl : ∀ x ∈ l, x.1 < B) : ∀ x ∈ l, x.1 ≠ g := fun x hx => by have := hl x hx; omega

theorem neL {B g6 g7 r : Nat} {c d : Array Value} {T U : TypeId} {l : List (Nat × Array Value × TypeId)} (h6 : B ≤ g6) (h7 : B ≤ g7) (hr : r < B) (hl : ∀ x ∈ l, x.1 ≠ r) : ∀ x ∈ (g7, d, U) :: (g6, c, T) :: l, ¬ x.1 = r := fun x hx => by
  rcases List.mem_cons.1 hx with rfl | hx
  · simp only; omega
  rcases List.mem_cons.1 hx with rfl | hx
  · simp only; omega
  · exact hl x hx

theorem neY {B g6 g7 : Nat} {Y : Nat → Prop} {c d : Array Value} {T U : TypeId} {l : List (Nat × Array Value × TypeId)} (h6 : B ≤ g6) (h7 : B ≤ g7) (hY : ∀ k, Y k → k < B) (hl : ∀ x ∈ l, ¬ Y x.1) : ∀ x ∈ (g7, d, U) :: (g6, c, T) :: l, ¬ Y x.1 := fun x hx => by
  rcases List.mem_cons.1 hx with rfl | hx
  · exact fun h => by have := hY _ h; omega
  rcases List.mem_cons.1 hx with rfl | hx
  · exact fun h => by have := hY _ h; omega
  · exact hl x hx

/-- How the iterator ends that can give K of N. -/
def GEnd (K N : Nat) (e : Ending) : Prop := if K = N then ∃ v, e = .returned v else e = .panicked [{ v := .iface 185 (.int .i64 4), recovered := false }]

/-- What the iterator hands on. -/
def encG (t : Nat) (s : GSt) (i : Nat) : Array Value := #[.agg (fls (gSt t s (i + 1)).c), .agg #[.float .f32 (gSt t s (i + 1)).h, .float .f32 (gSt t s (i + 1)).v]]

set_option maxRecDepth 100000 in
set_option maxHeartbeats 1000000 in
theorem gSteps_in (m l t r : Nat) (s : GSt) (hs : GVal t s) (N K : Nat) (hKN : K ≤ N) (hN : N ≤ 1048576) (hM : ∀ j, j < K → GOk t (gSt t s j)) (hbad : K < N → ¬ GOk t (gSt t s K)) (gs ga gm gg : Nat) (Y : Nat → Prop)
    (J Jx : Nat → World → Prop) (W : World) (hW : Kept W [(gs, fls (gSt t s 0).c, 30), (ga, #[.float .f32 (gSt t s 0).h, .float .f32 (gSt t s 0).v], 32), (gm, #[.int .i64 (N : Int)], 2), (gg, #[.float .f32 t, .map (some r)], 148)] W) (hm : MapOf satF IsHeat W r) (hY0 : ∀ k, Y k → k < W.heap.size) (hYr : ¬ Y r) (hYb : ∀ x ∈ [(gs, fls (gSt t s 0).c, 30), (ga, #[.float .f32 (gSt t s 0).h, .float .f32 (gSt t s 0).v], 32), (gm, #[.int .i64 (N : Int)], 2), (gg, #[.float .f32 t, .map (some r)], 148)], ¬ Y x.1)
    (hJ : ∀ i V V', J i V → Keeps (RowK r W.heap.size) V V' → J i V') (hJx : ∀ i V V', Jx i V → Keeps (RowK r W.heap.size) V V' → Jx i V')
    (hY : ∀ i V, i < K → J i V → YieldAt Fence.wide (m - 1) Tryz.prog l (encG t s i) V fun e V' => (e = .returned (.bool true) ∧ J (i + 1) V' ∧ Keeps Y V V') ∨ (e = .returned (.bool false) ∧ Jx (i + 1) V'))
    (h0 : J 0 W) :
    CallsIn Fence.wide m Tryz.prog 137 #[.func (.yield l) #[] #[], .pointer (some ⟨gs, 0, none⟩), .pointer (some ⟨ga, 0, none⟩), .pointer (some ⟨gm, 0, none⟩), .pointer (some ⟨gg, 0, none⟩)] W fun e W' =>
      (GEnd K N e ∧ J K W') ∨ ((∃ v, e = .returned v) ∧ ∃ i, i ≤ K ∧ Jx i W') := by
  refine callsIn_wide.2 ?_
  have hr : r < W.heap.size := by obtain ⟨_, _, hb, _⟩ := hm; exact lt_of_block hb
  have hrb : ∀ x ∈ [(gs, fls (gSt t s 0).c, 30), (ga, #[.float .f32 (gSt t s 0).h, .float .f32 (gSt t s 0).v], 32), (gm, #[.int .i64 (N : Int)], 2), (gg, #[.float .f32 t, .map (some r)], 148)], x.1 ≠ r := by
    obtain ⟨_, _, hb, _⟩ := hm
    intro x hx e
    have := hW.2 x hx
    rw [e, hb] at this
    cases this
  have HW := hid hW
  have HM := hid hm
  have HR := hid hr
  have HRB := hid hrb
  have HY := hid hY
  have HJ := hid hJ
  have HJX := hid hJx
  have HS := hid hs
  have HMM := hid hM
  have HBAD := hid hbad
  have HYR := hid hYr
  have HYB := hid hYb
  have HY0 := hid hY0
  have HKN := hid hKN
  have H0 := hid h0
  clear hW hm hr hrb hY hJ hJx hs hM hbad hYr hYb hY0 hKN h0
  go_enter Tryz.func137, Tryz.ntmps137
  go_wp2_with fail

  refine region_act (w0 := W) (lk := [(gs, fls (gSt t s 0).c, 30), (ga, #[.float .f32 (gSt t s 0).h, .float .f32 (gSt t s 0).v], 32), (gm, #[.int .i64 (N : Int)], 2), (gg, #[.float .f32 t, .map (some r)], 148)]) (fun a0 a1 w1q => ∃ g6 g7, a1 = ((((a0.put (some 8) (.agg (fls (gSt t s 0).c))).put (some 9) (.agg #[.float .f32 (gSt t s 0).h, .float .f32 (gSt t s 0).v])).put (some 6) (.pointer (some ⟨g6, 0, none⟩))).put (some 7) (.pointer (some ⟨g7, 0, none⟩))) ∧ Kept W [(g7, #[.float .f32 (gSt t s 0).h, .float .f32 (gSt t s 0).v], 32), (g6, fls (gSt t s 0).c, 30), (gs, fls (gSt t s 0).c, 30), (ga, #[.float .f32 (gSt t s 0).h, .float .f32 (gSt t s 0).v], 32), (gm, #[.int .i64 (N : Int)], 2), (gg, #[.float .f32 t, .map (some r)], 148)] w1q ∧ W.heap.size ≤ g6 ∧ W.heap.size ≤ g7 ∧ g6 ≠ g7) 6 #[false, false, false, false, false, false] (by kernel_rfl) rfl rfl ?_ ?_
  · have kd := HW.out.drew
    generalize World.drew _ = wd at kd ⊢
    refine take_load 0 _ _ rfl (by rfl) (by kernel_rfl) (by kernel_rfl) (by kernel_rfl) 30 _ rfl (gs) (fls (gSt t s 0).c) 30 rfl (by simp) _ Tryz.underlying30 rfl (by rw [fls_size]; exact info_arr) rfl rfl kd ?_
    simp only [Act.put, List.setIfInBounds_toArray, List.set_cons_zero, List.set_cons_succ]
    refine take_load 1 _ _ rfl (by rfl) (by kernel_rfl) (by kernel_rfl) (by kernel_rfl) 32 _ rfl (ga) (#[.float .f32 (gSt t s 0).h, .float .f32 (gSt t s 0).v]) 32 rfl (by simp) _ Tryz.underlying32 rfl (info_air) rfl rfl kd ?_
    simp only [Act.put, List.setIfInBounds_toArray, List.set_cons_zero, List.set_cons_succ]
    refine wpAnyH_ready (rs := [2, 3]) (by kernel_rfl) (by simp) ?_
    refine allocK 2 (fun g => _) _ kd rfl (by rfl) (fls fun _ => 0) 30 (by unfold execOp; go_simp) (fun g => rfl) rfl (fun w1 g1 k1 hB1 hn1 => ?_) ?_
    · refine ⟨k1.tail, ?_⟩
      simp only [Act.put, List.setIfInBounds_toArray, List.set_cons_zero, List.set_cons_succ]
      refine wpAnyH_ready (rs := [3]) (by kernel_rfl) (by simp) ?_
      refine allocK 3 (fun g => _) _ k1 rfl (by rfl) (#[.float .f32 0, .float .f32 0]) 32 (by unfold execOp; go_simp) (fun g => rfl) rfl (fun w2 g2 k2 hB2 hn2 => ?_) AllReadyH.nil
      refine ⟨k2.tail.tail, ?_⟩
      simp only [Act.put, List.setIfInBounds_toArray, List.set_cons_zero, List.set_cons_succ]
      refine wpAnyH_ready (rs := [4]) (by kernel_rfl) (by simp) ?_
      refine storeK 4 _ _ (k2).swap hB1 (neC (hn2 _ in0).symm hn1) rfl (by rfl) 30 _ _ rfl (fls (gSt t s 0).c) rfl rfl (by rw [fls_size]; exact info_arr) (by simp) (vls_one (n := 20) (f := flw (gSt t s 0).c) (fun _ => rfl)) rfl rfl (fun w3 k3 => ?_) AllReadyH.nil
      refine ⟨k3.tail.tail, ?_⟩
      refine wpAnyH_ready (rs := [5]) (by kernel_rfl) (by simp) ?_
      refine storeK 5 _ _ (k3).swap hB2 (neC (hn2 _ in0) (fun x hx => hn2 x (List.mem_cons_of_mem _ hx))) rfl (by rfl) 32 _ _ rfl (#[.float .f32 (gSt t s 0).h, .float .f32 (gSt t s 0).v]) rfl rfl (info_air) (by simp) (two_one _ _) rfl rfl (fun w4 k4 => ?_) AllReadyH.nil
      refine ⟨k4.tail.tail, ?_⟩
      refine wpAnyH_done (by kernel_rfl) ?_ _
      exact ⟨rfl, g1, g2, by simp only [Act.put], k4, hB1, hB2, (hn2 _ in0)⟩
    refine allocK 3 (fun g => _) _ kd rfl (by rfl) (#[.float .f32 0, .float .f32 0]) 32 (by unfold execOp; go_simp) (fun g => rfl) rfl (fun w5 g5 k5 hB5 hn5 => ?_) AllReadyH.nil
    refine ⟨k5.tail, ?_⟩
    simp only [Act.put, List.setIfInBounds_toArray, List.set_cons_zero, List.set_cons_succ]
    refine wpAnyH_ready (rs := [2]) (by kernel_rfl) (by simp) ?_
    refine allocK 2 (fun g => _) _ k5 rfl (by rfl) (fls fun _ => 0) 30 (by unfold execOp; go_simp) (fun g => rfl) rfl (fun w6 g6 k6 hB6 hn6 => ?_) AllReadyH.nil
    refine ⟨k6.tail.tail, ?_⟩
    simp only [Act.put, List.setIfInBounds_toArray, List.set_cons_zero, List.set_cons_succ]
    refine wpAnyH_ready (rs := [4]) (by kernel_rfl) (by simp) ?_
    refine storeK 4 _ _ k6 hB6 (neC (hn6 _ in0) (fun x hx => hn6 x (List.mem_cons_of_mem _ hx))) rfl (by rfl) 30 _ _ rfl (fls (gSt t s 0).c) rfl rfl (by rw [fls_size]; exact info_arr) (by simp) (vls_one (n := 20) (f := flw (gSt t s 0).c) (fun _ => rfl)) rfl rfl (fun w7 k7 => ?_) AllReadyH.nil
    refine ⟨k7.tail.tail, ?_⟩
    refine wpAnyH_ready (rs := [5]) (by kernel_rfl) (by simp) ?_
    refine storeK 5 _ _ (k7).swap hB5 (neC (hn6 _ in0).symm hn5) rfl (by rfl) 32 _ _ rfl (#[.float .f32 (gSt t s 0).h, .float .f32 (gSt t s 0).v]) rfl rfl (info_air) (by simp) (two_one _ _) rfl rfl (fun w8 k8 => ?_) AllReadyH.nil
    refine ⟨k8.tail.tail, ?_⟩
    refine wpAnyH_done (by kernel_rfl) ?_ _
    exact ⟨rfl, g6, g5, by simp only [Act.put], k8, hB6, hB5, (hn6 _ in0).symm⟩
  rintro a1 w1 ⟨g6, g7, rfl, kx, hg6, hg7, h67⟩
  have HX : Hid (HK (fun _ => True) W [(g7, #[.float .f32 (gSt t s 0).h, .float .f32 (gSt t s 0).v], 32), (g6, fls (gSt t s 0).c, 30), (gs, fls (gSt t s 0).c, 30), (ga, #[.float .f32 (gSt t s 0).h, .float .f32 (gSt t s 0).v], 32), (gm, #[.int .i64 (N : Int)], 2), (gg, #[.float .f32 t, .map (some r)], 148)] w1) := hid (HK.of kx)
  have M1 := hid (HM.out.keeps (Keeps.of (X := fun _ => False) kx.1) (fun x => x))
  have J1 := hid (HJ.out 0 _ _ H0.out (Keeps.of kx.1))
  have HG : Hid (W.heap.size ≤ g6 ∧ W.heap.size ≤ g7 ∧ g6 ≠ g7) := hid ⟨hg6, hg7, h67⟩
  have HFAR : Hid (∀ x ∈ [(gs, fls (gSt t s 0).c, 30), (ga, #[.float .f32 (gSt t s 0).h, .float .f32 (gSt t s 0).v], 32), (gm, #[.int .i64 (N : Int)], 2), (gg, #[.float .f32 t, .map (some r)], 148)], x.1 < W.heap.size) := hid (fun x hx => HW.out.lt hx)
  have dm : w1.cell? ⟨gm, 0, none⟩ = some (.int .i64 (N : Int)) := (cell_of_row w1 _ 0 _ _ _ (kx.at (x := (gm, #[.int .i64 (N : Int)], 2)) in4)).trans rfl
  clear kx hg6 hg7 h67 HW HM H0
  simp only [Act.put, List.setIfInBounds_toArray, List.set_cons_zero, List.set_cons_succ]
  go_wp2_with fail
  go_loopw [11] (fun i wr => ∃ k : Nat, k ≤ K ∧ i = .int .i64 k ∧ J k wr ∧ Hid (HK (fun _ => True) W [(g7, #[.float .f32 (gSt t s k).h, .float .f32 (gSt t s k).v], 32), (g6, fls (gSt t s k).c, 30), (gs, fls (gSt t s 0).c, 30), (ga, #[.float .f32 (gSt t s 0).h, .float .f32 (gSt t s 0).v], 32), (gm, #[.int .i64 (N : Int)], 2), (gg, #[.float .f32 t, .map (some r)], 148)] wr) ∧ Hid (MapOf satF IsHeat wr r)) (fun i _ => N - (intOf i).toNat)
  case atStart => exact ⟨0, Nat.zero_le _, rfl, J1.out, HX, M1⟩
  case round =>
    clear HX M1 J1 dm
    obtain ⟨k, hk, rfl, hj, hx, hmk⟩ := hrel
    have HJk := hid hj
    have HKk := hid hk
    clear hj
    by_cases hlt : k < K
    · have HL := hid hlt
      have hkN : (k : Int) < (N : Int) := by have := HKN.out; omega
      have hV := HS.out.at (k := k) (fun j hj => HMM.out j (by omega))
      have HC := hid (fun w2 hm2 => iStepS t r (gSt t s k) hV (HMM.out k hlt) w2 hm2)
      clear hV hlt hk
      refine (wpIn_wide (n := m)).1 ?_
      have tok0 : True := trivial
      gi_wp2_with (first | (refine loadRowIn (by rfl) 148 _ (by rfl) gg (by rfl) (#[.float .f32 t, .map (some r)]) 148 _ (hx.out.at (x := (gg, #[.float .f32 t, .map (some r)], 148)) (List.mem_cons_of_mem _ in4)) Tryz.underlying148 (by rfl) (by kernel_rfl) ?_) | (refine loadRowIn (by rfl) 30 _ (by rfl) g6 (by rfl) (fls (gSt t s k).c) 30 _ (hx.out.at (x := (g6, fls (gSt t s k).c, 30)) in1) Tryz.underlying30 (by rfl) (by rw [fls_size]; exact info_arr) ?_) | (refine loadRowIn (by rfl) 32 _ (by rfl) g7 (by rfl) (#[.float .f32 (gSt t s k).h, .float .f32 (gSt t s k).v]) 32 _ (hx.out.at (x := (g7, #[.float .f32 (gSt t s k).h, .float .f32 (gSt t s k).v], 32)) in0) Tryz.underlying32 (by rfl) (info_air) ?_) | (have _t := tok0; clear tok0; refine ⟨trivial, (fun h => by cases h), (callsIn_wide.2 (HC.out _ hmk.out)).mono ?_⟩; rintro e w2 ⟨rfl, hk2, hm2⟩; have X2 := hid (hx.out.left hk2 (neL HG.out.1 HG.out.2.1 HR.out HRB.out)); have M2 := hid hm2; have J2 := hid (HJ.out _ _ _ HJk.out (hk2.mono fun _ _ h => Or.inl h)); clear hk2 hm2; have tok1 : True := trivial) | (have _t := tok1; clear tok1; refine storeL 30 (by rfl) 30 _ _ (by rfl) g6 (fls (gSt t s (k + 1)).c) (fls (gSt t s k).c) (by rfl) (by rfl) (X2.out.at (x := (g6, fls (gSt t s k).c, 30)) in1) (by rw [fls_size]; exact info_arr) (by simp) (vls_one (n := 20) (f := flw (gSt t s (k + 1)).c) (fun _ => rfl)) (fun w3 e3 => ?_); have X3 := hid (e3 ▸ X2.out.set1 HG.out.2.2.symm (ne6 HG.out.1 HFAR.out) (fls (gSt t s (k + 1)).c)); have M3 := hid (e3 ▸ M2.out.keeps (keeps_row _ _ _) (neR HG.out.1 HR.out)); have J3 := hid (e3 ▸ HJ.out _ _ _ J2.out ((keeps_row g6 (fls (gSt t s (k + 1)).c) w2).mono fun _ _ h => Or.inr (h ▸ HG.out.1))); clear e3 X2 M2 J2; have tok2 : True := trivial) | (have _t := tok2; clear tok2; refine storeL 32 (by rfl) 32 _ _ (by rfl) g7 (#[.float .f32 (gSt t s (k + 1)).h, .float .f32 (gSt t s (k + 1)).v]) (#[.float .f32 (gSt t s k).h, .float .f32 (gSt t s k).v]) (by rfl) (by rfl) (X3.out.at (x := (g7, #[.float .f32 (gSt t s k).h, .float .f32 (gSt t s k).v], 32)) in0) (info_air) (by simp) (two_one _ _) (fun w4 e4 => ?_); have X4 := hid (e4 ▸ X3.out.setT (neC HG.out.2.2 (ne6 HG.out.2.1 HFAR.out)) (#[.float .f32 (gSt t s (k + 1)).h, .float .f32 (gSt t s (k + 1)).v])); have M4 := hid (e4 ▸ M3.out.keeps (keeps_row _ _ _) (neR HG.out.2.1 HR.out)); have J4 := hid (e4 ▸ HJ.out _ _ _ J3.out ((keeps_row g7 (#[.float .f32 (gSt t s (k + 1)).h, .float .f32 (gSt t s (k + 1)).v]) w3).mono fun _ _ h => Or.inr (h ▸ HG.out.2.1))); clear e4 X3 M3 J3; have tok3 : True := trivial) | (have _t := tok3; clear tok3; refine loadRowIn (by rfl) 30 _ (by rfl) g6 (by rfl) (fls (gSt t s (k + 1)).c) 30 _ (X4.out.at (x := (g6, fls (gSt t s (k + 1)).c, 30)) in1) Tryz.underlying30 (by rfl) (by rw [fls_size]; exact info_arr) ?_; have tok4 : True := trivial) | (have _t := tok4; clear tok4; refine loadRowIn (by rfl) 32 _ (by rfl) g7 (by rfl) (#[.float .f32 (gSt t s (k + 1)).h, .float .f32 (gSt t s (k + 1)).v]) 32 _ (X4.out.at (x := (g7, #[.float .f32 (gSt t s (k + 1)).h, .float .f32 (gSt t s (k + 1)).v], 32)) in0) Tryz.underlying32 (by rfl) (info_air) ?_; have tok5 : True := trivial) | (have _t := tok5; clear tok5; obtain ⟨fn, tmps, assign, body, hy, hR⟩ := HY.out k w4 HL.out J4.out; have hy := hid (show (Instr.yield l #[.agg (fls (gSt t s (k + 1)).c), .agg #[.float .f32 (gSt t s (k + 1)).h, .float .f32 (gSt t s (k + 1)).v]]).run Tryz.prog w4 = _ from hy); refine yieldL (l := l) (fn := fn) (tmps := tmps) (assign := assign) (body := body) (by rfl) (by intro c hc; cases hc) (by have hy2 := hy.out; unfold execOp; go_simp) (fun _ _ => True.intro) (fun h => by cases h) hR (fun e W3 hr => ?_); clear hy hR))
      have HKk' := hid (show k + 1 ≤ K from HL.out)
      rcases hr with ⟨rfl, hj, hkY⟩ | ⟨rfl, hjx⟩
      · refine ⟨.bool true, rfl, ?_⟩
        have X5 := hid (X4.out.left hkY (neY HG.out.1 HG.out.2.1 HY0.out HYB.out))
        have M5 := hid (M4.out.keeps hkY HYR.out)
        have J5 := hid hj
        clear hkY hj X4 M4 J4
        gi_wp2
        go_roundw
        case rel => exact ⟨k + 1, HKk'.out, by go_num, J5.out, X5, M5⟩
        case measure => simp [intOf]; omega
      · refine ⟨.bool false, rfl, ?_⟩
        have J5 := hid hjx
        clear hjx
        gi_wp2
        refine bodyPost_ret (results_none rfl _ _ _) rfl ?_
        exact .inr ⟨⟨_, rfl⟩, k + 1, HKk'.out, J5.out⟩
    · have ek : k = K := by omega
      subst ek
      by_cases hN' : k < N
      · have hkN : (k : Int) < (N : Int) := by omega
        have hV := HS.out.at (k := k) HMM.out
        have HC := hid (fun w2 hm2 => iStepG_f (gSt t s k).c hV.c t r (gSt t s k).h (gSt t s k).v hV.h hV.q hV.t (HBAD.out hN') w2 hm2)
        have HE := hid (show GEnd k N (.panicked [{ v := .iface 185 (.int .i64 4), recovered := false }]) from by unfold GEnd; rw [if_neg (by omega)])
        clear hV hlt hk hN'
        refine (wpIn_wide (n := m)).1 ?_
        have tok0 : True := trivial
        gi_wp2_with (first | (refine loadRowIn (by rfl) 148 _ (by rfl) gg (by rfl) (#[.float .f32 t, .map (some r)]) 148 _ (hx.out.at (x := (gg, #[.float .f32 t, .map (some r)], 148)) (List.mem_cons_of_mem _ in4)) Tryz.underlying148 (by rfl) (by kernel_rfl) ?_) | (refine loadRowIn (by rfl) 30 _ (by rfl) g6 (by rfl) (fls (gSt t s k).c) 30 _ (hx.out.at (x := (g6, fls (gSt t s k).c, 30)) in1) Tryz.underlying30 (by rfl) (by rw [fls_size]; exact info_arr) ?_) | (refine loadRowIn (by rfl) 32 _ (by rfl) g7 (by rfl) (#[.float .f32 (gSt t s k).h, .float .f32 (gSt t s k).v]) 32 _ (hx.out.at (x := (g7, #[.float .f32 (gSt t s k).h, .float .f32 (gSt t s k).v], 32)) in0) Tryz.underlying32 (by rfl) (info_air) ?_) | (have _t := tok0; clear tok0; refine ⟨trivial, (fun h => by cases h), (callsIn_wide.2 (HC.out _ hmk.out)).mono ?_⟩; rintro e w2 ⟨rfl, hk2⟩; have J2 := hid (HJ.out _ _ _ HJk.out (hk2.mono fun _ _ h => Or.inl h)); clear hk2))
        exact ⟨rfl, .inl ⟨HE.out, J2.out⟩⟩
      · have ek : k = N := by have := HKN.out; omega
        have HE := hid (show GEnd k N (.returned (.tuple #[])) from by unfold GEnd; rw [if_pos ek]; exact ⟨_, rfl⟩)
        have hkN : ¬ (k : Int) < (N : Int) := by omega
        clear hN' hlt hk ek
        go_wp2
        exact ⟨rfl, _, results_none rfl _ _ _, .inl ⟨HE.out, HJk.out⟩⟩

/-- What the closure behind GrowSteps turns. -/
def Trio (gs ga gc : Nat) : Nat → Prop := fun k => k = gs ∨ k = ga ∨ k = gc

set_option maxRecDepth 100000 in
set_option maxHeartbeats 1000000 in
theorem iCatchG_panic (n9 : Nat) (n : Int) (gs ga gc : Nat) (hsa : gs ≠ ga) (hsc : gs ≠ gc) (hac : ga ≠ gc) (m : Int) (h v : Nat) (c : Nat → Nat) (w : World) (k0 : HK (fun _ => True) w [(gc, #[.int .i64 m], 2), (ga, #[.float .f32 h, .float .f32 v], 32), (gs, fls c, 30)] w) :
    CallsDIn Fence.wide n9 Tryz.prog 113 #[.pointer (some ⟨gs, 0, none⟩), .pointer (some ⟨ga, 0, none⟩), .pointer (some ⟨gc, 0, none⟩)] (.panicking [{ v := .iface 185 (.int .i64 n), recovered := false }]) w fun e u' w' =>
      e = .returned (.tuple #[]) ∧ u' = .panicking [{ v := .iface 185 (.int .i64 n), recovered := true }] ∧ HK (fun _ => True) w [(gc, #[.int .i64 n], 2), (ga, #[.float .f32 0, .float .f32 0], 32), (gs, fls (fun _ => 0), 30)] w' ∧ Keeps (Trio gs ga gc) w w' := by
  have hne : ∀ w : World, (binOp .neq 20 (.iface 185 (.int .i64 n)) .nilIface).run Tryz.prog w = .ok (.bool true) w := fun _ => by kernel_rfl
  have K0 := hid k0
  have N1 := hid hsa
  have N2 := hid hsc
  have N3 := hid hac
  clear k0 hsa hsc hac
  refine callsDIn_of_wpS n9 Tryz.func113 rfl fun c₀ cs hu => ?_
  apply wpS_seq
  apply wpS_region
  simp [wpOpsS, go_sem, recoverD, hu, Tryz.ntmps113, Exit.thenS]
  refine wpS_of_wp ?_
  simp only [Array.replicate, List.setIfInBounds_toArray, List.replicate, List.set_cons_zero, List.set_cons_succ, List.append_toArray, List.cons_append, List.nil_append]
  go_wp2_with fail
  refine (iCodeOfS n _).mono ?_
  rintro e w1 ⟨rfl, rfl⟩
  have q0 := hid (Keeps.refl (Trio gs ga gc) w)
  have tok1 : True := trivial
  go_wp2_with (first | (have _t := tok1; clear tok1; refine store_rowE (by rfl) 30 _ _ (by rfl) gs (fls fun _ => 0) (fls c) (by rfl) (by rfl) (K0.out.at (x := (gs, fls c, 30)) in2) (by rw [fls_size]; exact info_arr) (by simp) (vls_one (n := 20) (f := flw fun _ => 0) (fun _ => rfl)) (fun w3 e3 => ?_); have X3 := hid (e3 ▸ ((K0.out.sub (l' := [(gs, fls c, 30), (gc, #[.int .i64 m], 2), (ga, #[.float .f32 h, .float .f32 v], 32)]) (rot3 _ _ _)).setT (neC N2.out.symm (neC N1.out.symm ne0)) (fls fun _ => 0))); have q3 := hid (e3 ▸ q0.out.trans ((keeps_row _ _ _).mono fun _ _ h => Or.inl h)); clear e3; have tok2 : True := trivial) | (have _t := tok2; clear tok2; refine store_rowE (by rfl) 32 _ _ (by rfl) ga (#[.float .f32 0, .float .f32 0]) (#[.float .f32 h, .float .f32 v]) (by rfl) (by rfl) (X3.out.at (x := (ga, #[.float .f32 h, .float .f32 v], 32)) in2) (info_air) (by simp) (two_one _ _) (fun w4 e4 => ?_); have X4 := hid (e4 ▸ ((X3.out.sub (l' := [(ga, #[.float .f32 h, .float .f32 v], 32), (gs, fls fun _ => 0, 30), (gc, #[.int .i64 m], 2)]) (rot3 _ _ _)).setT (neC N1.out (neC N3.out.symm ne0)) (#[.float .f32 0, .float .f32 0]))); have q4 := hid (e4 ▸ q3.out.trans ((keeps_row _ _ _).mono fun _ _ h => Or.inr (Or.inl h))); clear e4; have tok3 : True := trivial) | (have _t := tok3; clear tok3; refine store_cellE 2 (by rfl) 2 _ _ (by rfl) gc (.int .i64 n) (.int .i64 m) (by rfl) (by rfl) (X4.out.at (x := (gc, #[.int .i64 m], 2)) in2) (by kernel_rfl) (by rfl) (by rfl) (fun w5 e5 => ?_); have X5 := hid (e5 ▸ ((X4.out.sub (l' := [(gc, #[.int .i64 m], 2), (ga, #[.float .f32 0, .float .f32 0], 32), (gs, fls fun _ => 0, 30)]) (rot3 _ _ _)).cell1 (neC N3.out (neC N2.out ne0)) (.int .i64 n))); have q5 := hid (e5 ▸ q4.out.trans (Keeps.setCell ⟨gc, 0, none⟩ _ (Or.inr (Or.inr rfl)))); clear e5))
  exact ⟨rfl, _, rfl, .tuple #[], by simp [results, Tryz.results113], rfl, rfl, X5.out, q5.out⟩

theorem iCatchG_idle (n9 : Nat) (gs ga gc : Nat) (w : World) :
    CallsDIn Fence.wide n9 Tryz.prog 113 #[.pointer (some ⟨gs, 0, none⟩), .pointer (some ⟨ga, 0, none⟩), .pointer (some ⟨gc, 0, none⟩)] .returning w fun e u' w' => e = .returned (.tuple #[]) ∧ u' = .returning ∧ w' = w := by
  have hne : ∀ w : World, (binOp .neq 20 .nilIface .nilIface).run Tryz.prog w = .ok (.bool false) w := fun _ => by kernel_rfl
  refine callsDIn_of_wpS n9 Tryz.func113 rfl fun c₀ cs hu => ?_
  apply wpS_seq
  apply wpS_region
  simp [wpOpsS, go_sem, recoverD, hu, Tryz.ntmps113, Exit.thenS]
  refine wpS_of_wp ?_
  simp only [Array.replicate, List.setIfInBounds_toArray, List.replicate, List.set_cons_zero, List.set_cons_succ, List.append_toArray, List.cons_append, List.nil_append]
  go_wp2
  exact ⟨rfl, .returning, by cases c₀; simp_all, .tuple #[], by simp [results, Tryz.results113], rfl, rfl, rfl⟩

theorem iStepsG (t r : Nat) (c : Nat → Nat) (h v : Nat) (n : Int) (w : World) :
    Calls Tryz.prog 116 #[.agg #[.float .f32 t, .map (some r)], .agg (fls c), .agg #[.float .f32 h, .float .f32 v], .int .i64 n] w fun e w' =>
      e = .returned (.func (.func 137) #[] #[.pointer (some ⟨w.heap.size + 1, 0, none⟩), .pointer (some ⟨w.heap.size + 1 + 1, 0, none⟩), .pointer (some ⟨w.heap.size + 1 + 1 + 1, 0, none⟩), .pointer (some ⟨w.heap.size, 0, none⟩)]) ∧
      Kept w [(w.heap.size + 1 + 1 + 1, #[.int .i64 n], 2), (w.heap.size + 1 + 1, #[.float .f32 h, .float .f32 v], 32), (w.heap.size + 1, fls c, 30), (w.heap.size, #[.float .f32 t, .map (some r)], 148)] w' := by
  have hmf : ∀ (fn : Fn) (first cap : Array Value) (w : World), (Instr.makeFunc fn first cap).run Tryz.prog w = .ok (.func fn first cap) w := fun _ _ _ _ => rfl
  have k0 : Hid (Kept w [(w.heap.size + 1 + 1 + 1, #[.int .i64 n], 2), (w.heap.size + 1 + 1, #[.float .f32 h, .float .f32 v], 32), (w.heap.size + 1, fls c, 30), (w.heap.size, #[.float .f32 t, .map (some r)], 148)] ((((w.alloc (.cells #[.float .f32 t, .map (some r)] 148)).alloc (.cells (fls c) 30)).alloc (.cells #[.float .f32 h, .float .f32 v] 32)).alloc (.cells #[.int .i64 n] 2))) := by
    have := (((((Kept.nil w).push #[.float .f32 t, .map (some r)] 148).push (fls c) 30).push #[.float .f32 h, .float .f32 v] 32).push #[.int .i64 n] 2)
    simp only [World.size_alloc] at this
    exact hid this
  go_enter Tryz.func116, Tryz.ntmps116
  go_wp2
  go_ret
  exact ⟨rfl, k0.out⟩

set_option maxRecDepth 100000 in
theorem iCheckG_ok (c : Nat → Nat) (h v t : Nat) (n : Int) (hc : Amts c) (hv : v < 4294967296) (hq : airB h v = true) (ht : amtB t = true) (h0 : ¬ n < 0) (hn : ¬ 200 < n) (w : World) :
    Calls Tryz.prog 112 #[.agg (fls c), .agg #[.float .f32 h, .float .f32 v], .float .f32 t, .int .i64 n] w fun e w' => e = .returned (.int .i64 0) ∧ Below w.heap.size w w' := by
  have k0 : Hid (Kept w [(w.heap.size + 1, #[.float .f32 h, .float .f32 v], 32), (w.heap.size, fls c, 30)] ((w.alloc (.cells (fls c) 30)).alloc (.cells #[.float .f32 h, .float .f32 v] 32))) := hid ((((Kept.nil w).push _ _).push _ _).sub (by simp))
  have H1 := hid (validSizes_t c hc)
  have HV := hid (iValidAir h v hv true hq)
  have HT := hid ht
  clear hc hv hq ht
  go_enter Tryz.func112, Tryz.ntmps112
  go_wp2_with (refine wpList_load_row rfl 30 _ rfl (w.heap.size) rfl 30 (fls c) (0, 0) _ (k0.out.at (x := (w.heap.size, fls c, 30)) in1) Tryz.underlying30 rfl (by rw [fls_size]; exact info_arr) ?_)
  refine (H1.out _).mono ?_
  rintro e w1 ⟨rfl, hb1⟩
  have k1 := hid (k0.out.stay hb1)
  clear k0 hb1
  go_wp2_with (refine wpList_load_g rfl 32 _ rfl (w.heap.size + 1) rfl 32 (#[.float .f32 h, .float .f32 v]) (0, 0) _ (k1.out.at (x := (w.heap.size + 1, #[.float .f32 h, .float .f32 v], 32)) in0) Tryz.underlying32 rfl (info_air) ?_)
  refine (HV.out _).mono ?_
  rintro e w2 ⟨rfl, hb2⟩
  have k2 := hid (k1.out.stay hb2)
  clear k1 hb2
  go_wp2_with fail
  refine (isAmount_t t HT.out _).mono ?_
  rintro e w3 ⟨rfl, rfl⟩
  go_wp2
  go_ret
  exact ⟨rfl, k2.out.1⟩
end Go.Proofs.YthpimindkmmkjaaGreat
