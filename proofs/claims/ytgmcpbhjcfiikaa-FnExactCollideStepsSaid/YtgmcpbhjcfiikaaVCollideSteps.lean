import Derived.Test.YtgmcpbhjcfiikaaCCollideSteps
import Derived.Test.YtgmcpbhjcfiikaaChecked
import Derived.Test.YtgmcpbhjcfiikaaRows
import Derived.Laws.FloatArith
import Derived.ProofKit
import Derived.WalkKit
import Derived.WalkLawsBesides
import Derived.WalkSpells
import Derived.Deep.QuietTactic
import Derived.BigQuiet
import Derived.Deep.RegionHeld3
import Derived.ChangeKeysEq
import Derived.Laws.BitsAllLaws
import Derived.Deep.MidRow
import Derived.Deep.WholeRow
import Derived.StillTailTactics
import Derived.Deep.Slices
import Derived.ChangeSame
import Derived.OrdersIn
import Derived.ControlIn
import Derived.RangeFuncSeq
import Derived.RangeFuncNested
import Derived.ArgAppend
import Derived.OwnWalkIn
import Derived.TacticsInMore
import Derived.Below
import Derived.Laws.AppendOwn
import Derived.Scope
import Derived.OpenShut
/- The law FnExactCollideSteps of chapter 1: at every argument the call returns true, and what was there before it is as it was. -/
namespace Go.Proofs.Ytgmcpbhjcfiikaa
open Go.RowKit Go.Fl

@[go_sem] theorem ext_f64bits (y : Nat) (w : World) : (callFunc 230 #[.float .f64 y]).run Try.prog w = .ok (.value (.int .u64 y)) w := by
  rw [run_callFunc_extern Try.func230 (by kernel_rfl) (by kernel_rfl) (by kernel_rfl) (e := Extern.MathFloatBits.float64bits) (by kernel_rfl)]
  rfl

@[go_sem] theorem ext_f64from (n : Int) (w : World) : (callFunc 204 #[.int .u64 n]).run Try.prog w = .ok (.value (.float .f64 n.toNat)) w := by
  rw [run_callFunc_extern Try.func204 (by kernel_rfl) (by kernel_rfl) (by kernel_rfl) (e := Extern.MathFloatBits.float64frombits) (by kernel_rfl)]
  rfl

theorem hid {p : Prop} (h : p) : Hid p := h

theorem clear_sign (y : Nat) (h : y < 18446744073709551616) : (bits BinOp.andNot IntKind.u64 (y : Int) 9223372036854775808).toNat = y % 9223372036854775808 := by
  rw [u64_andNot _ _ (by omega) (by omega) (by omega) (by omega)]
  rw [Int.toNat_natCast, Int.toNat_natCast]
  exact Nat.and_two_pow_sub_one_eq_mod y 63

theorem abs_f64 (y : Nat) (h : y < 18446744073709551616) (w : World) :
    Calls Try.prog 215 #[.float .f64 y] w fun e w' => e = .returned (.float .f64 (y % 9223372036854775808)) ∧ w = w' := by
  have hc := hid (clear_sign y h)
  clear h
  go_enter Try.func215, Try.ntmps215
  go_wp2
  go_ret
  exact ⟨by simp [hc.out], rfl⟩

theorem isNaN_f64 (y : Nat) (w : World) :
    Calls Try.prog 168 #[.float .f64 y] w fun e w' => e = .returned (.bool (FloatKind.f64.format.order y y != some .eq)) ∧ w = w' := by
  go_enter Try.func168, Try.ntmps168
  go_wp2
  go_ret
  exact ⟨rfl, rfl⟩

theorem isInf_f64 (y : Nat) (h : y < 18446744073709551616) (w : World) :
    Calls Try.prog 169 #[.float .f64 y, .int .i64 0] w fun e w' => e = .returned (.bool (FloatKind.f64.format.order (y % 9223372036854775808) 9218868437227405311 == some .gt)) ∧ w = w' := by
  have hc := hid h
  clear h
  go_enter Try.func169, Try.ntmps169
  go_wp2_with (go_at_call 215; refine (abs_f64 y hc.out _).mono ?_; rintro e w' ⟨rfl, rfl⟩)
  go_ret
  exact ⟨rfl, rfl⟩

theorem isFinite_t (x : Nat) (hx : x < 4294967296) (h : finB x = true) (w : World) :
    Calls Try.prog 96 #[.float .f32 x] w fun e w' => e = .returned (.bool true) ∧ w = w' := by
  rw [finB_iff] at h
  have hc := fun w => run_conv_wid (P := Try.prog) w 23 30 x hx Try.underlying23 Try.underlying30 h
  obtain ⟨a, b, m, e, hr⟩ := read_wid_fin hx h
  have hn : (FloatKind.f64.format.order (wid x) (wid x) != some .eq) = false := by
    show (D.order (wid x) (wid x) != some .eq) = false
    rw [order_self hr]; rfl
  have hi : (FloatKind.f64.format.order (wid x % 9223372036854775808) 9218868437227405311 == some .gt) = false := by
    show (D.order (wid x % 9223372036854775808) 9218868437227405311 == some .gt) = false
    rw [b, order_ltD a (by decide)]
    rw [DINF_val] at a
    have hle : wid (mg x) ≤ 9218868437227405311 := by omega
    rcases Nat.lt_or_eq_of_le hle with h' | h'
    · rw [Nat.compare_eq_lt.2 h']; rfl
    · rw [Nat.compare_eq_eq.2 h']; rfl
  have hw : wid x < 18446744073709551616 := D.write_lt _
  have Hn := hid hn
  have Hi := hid hi
  have Hw := hid hw
  clear hn hi hw hr a b h hx
  go_enter Try.func96, Try.ntmps96
  go_wp2_with (first | (go_at_call 168; refine (isNaN_f64 (wid x) _).mono ?_; rintro e w' ⟨rfl, rfl⟩; rw [Hn.out]) | (go_at_call 169; refine (isInf_f64 (wid x) Hw.out _).mono ?_; rintro e w' ⟨rfl, rfl⟩; rw [Hi.out]))
  go_ret
  exact ⟨rfl, rfl⟩

theorem isFinite_f (x : Nat) (hx : x < 4294967296) (h : finB x = false) (w : World) :
    Calls Try.prog 96 #[.float .f32 x] w fun e w' => e = .returned (.bool false) ∧ Below w.heap.size w w' := by
  rw [finB_iff'] at h
  rcases Nat.lt_or_eq_of_le h with h | h
  · obtain ⟨z, hc, h1, _⟩ := run_conv_nan (P := Try.prog) w 23 30 x Try.underlying23 Try.underlying30 h
    obtain ⟨s, t, hr⟩ := read_nanD h1
    have Hn := hid (show (FloatKind.f64.format.order z z != some .eq) = true by
      show (D.order z z != some .eq) = true
      rw [order_nan hr]; rfl)
    clear h h1 hr hx
    go_enter Try.func96, Try.ntmps96
    go_wp2_with (go_at_call 168; refine (isNaN_f64 z _).mono ?_; rintro e w' ⟨rfl, rfl⟩; rw [Hn.out])
    go_ret
    exact ⟨rfl, (Below.refl _ _).drew⟩
  · obtain ⟨z, hc, h1, h2⟩ := run_conv_inf (P := Try.prog) w 23 30 x hx Try.underlying23 Try.underlying30 h.symm
    have hr : D.read z = .infinity (decide (9223372036854775808 ≤ z)) := by rw [read_signD h2, h1, read_DINF]
    have Hn := hid (show (FloatKind.f64.format.order z z != some .eq) = false by
      show (D.order z z != some .eq) = false
      rw [order_inf hr]; rfl)
    have Hi := hid (show (FloatKind.f64.format.order (z % 9223372036854775808) 9218868437227405311 == some .gt) = true by
      rw [h1]; decide)
    have H2 := hid h2
    clear h h1 hr hx h2
    go_enter Try.func96, Try.ntmps96
    go_wp2_with (first | (go_at_call 168; refine (isNaN_f64 z _).mono ?_; rintro e w' ⟨rfl, rfl⟩; rw [Hn.out]) | (go_at_call 169; refine (isInf_f64 z H2.out _).mono ?_; rintro e w' ⟨rfl, rfl⟩; rw [Hi.out]))
    go_ret
    exact ⟨rfl, Below.refl _ _⟩

theorem signbit_f64 (y : Nat) (w : World) :
    Calls Try.prog 205 #[.float .f64 y] w fun e w' => e = .returned (.bool (decide (wrap64 (y : Int) < 0))) ∧ w = w' := by
  go_enter Try.func205, Try.ntmps205
  go_wp2
  go_ret
  exact ⟨rfl, rfl⟩

theorem and_sign (y : Nat) (h : y < 18446744073709551616) : (decide (wrap64 (y : Int) < 0)) = decide (9223372036854775808 ≤ y) := by
  unfold wrap64
  by_cases h' : 9223372036854775808 ≤ y
  · rw [decide_eq_true h']; simp; omega
  · rw [decide_eq_false h']; simp; omega

theorem isAmount_t (x : Nat) (h : amtB x = true) (w : World) :
    Calls Try.prog 139 #[.float .f32 x] w fun e w' => e = .returned (.bool true) ∧ w = w' := by
  have hf := amt_fin h
  rw [amtB_iff, INF_val] at h
  have hx : x < 4294967296 := by omega
  have hc := fun w => run_conv_wid (P := Try.prog) w 23 30 x hx Try.underlying23 Try.underlying30 (finB_iff.1 hf)
  have hw : wid x < 18446744073709551616 := D.write_lt _
  have Hs := hid (show (decide (wrap64 (wid x : Int) < 0)) = false by
    rw [and_sign _ hw]
    have := (wid_val (x := x) (by rw [INF_val]; omega)).1
    rw [DINF_val] at this
    simp; omega)
  have Hx := hid hx
  have Hf := hid hf
  clear h hf hx hw
  go_enter Try.func139, Try.ntmps139
  go_wp2_with (first | (go_at_call 96; refine (isFinite_t x Hx.out Hf.out _).mono ?_; rintro e w' ⟨rfl, rfl⟩) | (go_at_call 205; refine (signbit_f64 (wid x) _).mono ?_; rintro e w' ⟨rfl, rfl⟩; rw [Hs.out]))
  go_ret
  exact ⟨rfl, rfl⟩

theorem isAmount_f (x : Nat) (hx : x < 4294967296) (h : amtB x = false) (w : World) :
    Calls Try.prog 139 #[.float .f32 x] w fun e w' => e = .returned (.bool false) ∧ Below w.heap.size w w' := by
  rcases hf : finB x with _ | _
  · have Hx := hid hx
    have Hf := hid hf
    clear h hf hx
    go_enter Try.func139, Try.ntmps139
    go_wp2_with (go_at_call 96; refine (isFinite_f x Hx.out Hf.out _).mono ?_; rintro e w' ⟨rfl, hb⟩)
    go_ret
    exact ⟨rfl, hb⟩
  · have hc := fun w => run_conv_wid (P := Try.prog) w 23 30 x hx Try.underlying23 Try.underlying30 (finB_iff.1 hf)
    have hw : wid x < 18446744073709551616 := D.write_lt _
    have Hs := hid (show (decide (wrap64 (wid x : Int) < 0)) = true by
      rw [and_sign _ hw, wid_fin hx (finB_iff.1 hf)]
      rw [amtB_iff', INF_val] at h
      rw [finB_iff, INF_val] at hf
      unfold mg at hf ⊢
      rw [if_pos (by omega)]
      simp)
    have Hx := hid hx
    have Hf := hid hf
    clear h hf hx hw
    go_enter Try.func139, Try.ntmps139
    go_wp2_with (first | (go_at_call 96; refine (isFinite_t x Hx.out Hf.out _).mono ?_; rintro e w' ⟨rfl, rfl⟩) | (go_at_call 205; refine (signbit_f64 (wid x) _).mono ?_; rintro e w' ⟨rfl, rfl⟩; rw [Hs.out]))
    go_ret
    exact ⟨rfl, Below.refl _ _⟩

theorem info_f32 : ∃ i, Try.prog.info? 23 = some i ∧ i.size = 1 := by
  have h : (Try.prog.info? 23).map (·.size) = some 1 := by kernel_rfl
  cases hi : Try.prog.info? 23 with
  | none => rw [hi] at h; cases h
  | some i => rw [hi] at h; exact ⟨i, rfl, Option.some.inj h⟩

theorem ix (T : TypeId) (hT : Try.prog.underlying T = some (.array 20 23)) (c : Nat → Nat) (k : Nat) (hk : k < 20) (w : World) :
    (Instr.index T (.agg (fls c)) (.int .i64 (k : Int))).run Try.prog w = .ok (.float .f32 (c k)) w := by
  obtain ⟨i, h1, h2⟩ := info_f32
  exact run_index_arr hT Try.underlying23 rfl h1 h2 _ _ hk _ (fls_get c hk) w

theorem info_arr : (Try.prog.info? 61).map (·.size) = some 20 := by kernel_rfl

set_option maxRecDepth 100000 in
theorem validSizes_t (c : Nat → Nat) (h : ∀ i, i < 20 → amtB (c i) = true) (w : World) :
    Calls Try.prog 181 #[.agg (fls c)] w fun e w' => e = .returned (.bool true) ∧ Below w.heap.size w w' := by
  have H := hid h
  clear h
  go_enter Try.func181, Try.ntmps181
  go_wp2_with (refine wpList_load_row rfl 61 _ rfl w.heap.size rfl 61 (fls c) (0, 0) _ (heap_alloc_new _ _) Try.underlying61 rfl (by rw [fls_size]; exact info_arr) ?_)
  go_loop [6] (fun i => ∃ k : Nat, k ≤ 20 ∧ i = .int .i64 k) (fun i => 20 - (intOf i).toNat)
  case atStart => exact ⟨0, by omega, rfl⟩
  case round =>
    obtain ⟨k, hk, rfl⟩ := hrel
    by_cases hlt : k < 20
    · have hix := ix 61 Try.underlying61 c k hlt
      go_wp2_with (go_at_call 139; refine (isAmount_t (c k) (H.out k hlt) _).mono ?_; rintro e w' ⟨rfl, rfl⟩)
      go_round
      case rel => exact ⟨k + 1, by omega, by go_num⟩
      case measure => simp [intOf]; omega
    · go_wp2
      go_ret
      exact ⟨rfl, (Below.refl _ _).alloc (Nat.le_refl _) _⟩

@[go_sem] theorem ext_f32bits (y : Nat) (w : World) : (callFunc 194 #[.float .f32 y]).run Try.prog w = .ok (.value (.int .u32 y)) w := by
  rw [run_callFunc_extern Try.func194 (by kernel_rfl) (by kernel_rfl) (by kernel_rfl) (e := Extern.MathFloatBits.float32bits) (by kernel_rfl)]
  rfl

theorem sFinite_t (x : Nat) (hx : x < 4294967296) (h : finB x = true) (w : World) :
    Calls Try.prog 89 #[.float .f32 x] w fun e w' => e = .returned (.bool true) ∧ w = w' := by
  have hr := fun w => run_float_arith (P := Try.prog) w .sub 23 .f32 x x 0 (sub_self_fin hx h)
  clear h hx
  go_enter Try.func89, Try.ntmps89
  go_wp2
  go_ret
  exact ⟨rfl, rfl⟩

theorem sFinite_f (x : Nat) (hx : x < 4294967296) (h : finB x = false) (w : World) :
    Calls Try.prog 89 #[.float .f32 x] w fun e w' => e = .returned (.bool false) ∧ Below w.heap.size w w' := by
  obtain ⟨z, hr, h1, _⟩ := run_arith_nan (P := Try.prog) w .sub (by simp) 23 x x (sub_self_none hx h)
  have Hn := hid (show (FloatKind.f32.format.order z 0 == some .eq) = false by
    show (S.order z 0 == some .eq) = false
    rw [order_nan32 h1]; rfl)
  clear h hx h1
  go_enter Try.func89, Try.ntmps89
  go_wp2
  go_ret
  exact ⟨by simp [Hn.out], (Below.refl _ _).drew⟩

theorem sAmount_t (x : Nat) (h : amtB x = true) (w : World) :
    Calls Try.prog 125 #[.float .f32 x] w fun e w' => e = .returned (.bool true) ∧ w = w' := by
  have hf := amt_fin h
  have h' := amtB_iff.1 h
  have hx : x < 4294967296 := by rw [INF_val] at h'; omega
  have Hx := hid hx
  have Hf := hid hf
  by_cases h0 : x = 0
  · subst h0
    clear h hf h' hx
    go_enter Try.func125, Try.ntmps125
    go_wp2_with (go_at_call 89; refine (sFinite_t 0 Hx.out Hf.out _).mono ?_; rintro e w' ⟨rfl, rfl⟩)
    go_ret
    exact ⟨rfl, rfl⟩
  · have hg : (FloatKind.f32.format.order x 0 == some .gt) = true := by
      show (S.order x 0 == some .gt) = true
      rw [order_zero_pos h', Nat.compare_eq_gt.2 (by omega)]; rfl
    clear h hf h' hx h0
    go_enter Try.func125, Try.ntmps125
    go_wp2_with (go_at_call 89; refine (sFinite_t x Hx.out Hf.out _).mono ?_; rintro e w' ⟨rfl, rfl⟩)
    go_ret
    exact ⟨rfl, rfl⟩

theorem sAmount_f (x : Nat) (hx : x < 4294967296) (h : amtB x = false) (w : World) :
    Calls Try.prog 125 #[.float .f32 x] w fun e w' => e = .returned (.bool false) ∧ Below w.heap.size w w' := by
  rcases hf : finB x with _ | _
  · have Hx := hid hx
    have Hf := hid hf
    clear h hf hx
    go_enter Try.func125, Try.ntmps125
    go_wp2_with (go_at_call 89; refine (sFinite_f x Hx.out Hf.out _).mono ?_; rintro e w' ⟨rfl, hb⟩)
    go_ret
    exact ⟨rfl, hb⟩
  · have hs : 2147483648 ≤ x := by
      rw [amtB_iff', INF_val] at h
      have := finB_iff.1 hf
      rw [INF_val] at this
      unfold mg at this
      omega
    have hg : (FloatKind.f32.format.order x 0 == some .gt) = false := order_neg_zero hx hf hs
    have hb : ((x : Int) == 0) = false := by simp; omega
    have Hx := hid hx
    have Hf := hid hf
    clear h hf hx hs
    go_enter Try.func125, Try.ntmps125
    go_wp2_with (go_at_call 89; refine (sFinite_t x Hx.out Hf.out _).mono ?_; rintro e w' ⟨rfl, rfl⟩)
    go_ret
    exact ⟨rfl, Below.refl _ _⟩

set_option maxRecDepth 100000 in
theorem validSizes_f (c : Nat → Nat) (hb : ∀ i, i < 20 → c i < 4294967296) (h : ¬ ∀ i, i < 20 → amtB (c i) = true) (w : World) :
    Calls Try.prog 181 #[.agg (fls c)] w fun e w' => e = .returned (.bool false) ∧ Below w.heap.size w w' := by
  have H := hid h
  have HB := hid hb
  clear h hb
  go_enter Try.func181, Try.ntmps181
  go_wp2_with (refine wpList_load_row rfl 61 _ rfl w.heap.size rfl 61 (fls c) (0, 0) _ (heap_alloc_new _ _) Try.underlying61 rfl (by rw [fls_size]; exact info_arr) ?_)
  go_loop [6] (fun i => ∃ k : Nat, k ≤ 20 ∧ Hid (∀ i, i < k → amtB (c i) = true) ∧ i = .int .i64 k) (fun i => 20 - (intOf i).toNat)
  case atStart => exact ⟨0, by omega, hid (fun i hi => by omega), rfl⟩
  case round =>
    obtain ⟨k, hk, HK, rfl⟩ := hrel
    by_cases hlt : k < 20
    · have hix := ix 61 Try.underlying61 c k hlt
      rcases hac : amtB (c k) with _ | _
      · have HA := hid hac
        clear hac
        go_wp2_with (go_at_call 139; refine (isAmount_f (c k) (HB.out k hlt) HA.out _).mono ?_; rintro e w' ⟨rfl, hb⟩)
        go_ret
        exact ⟨rfl, (((Below.refl _ _).alloc (Nat.le_refl _) _).trans (hb.mono (by simp)))⟩
      · have HA := hid hac
        clear hac
        go_wp2_with (go_at_call 139; refine (isAmount_t (c k) HA.out _).mono ?_; rintro e w' ⟨rfl, rfl⟩)
        go_round
        case rel =>
          refine ⟨k + 1, by omega, hid (fun i hi => ?_), by go_num⟩
          by_cases e : i = k
          · subst e; exact HA.out
          · exact HK.out i (by omega)
        case measure => simp [intOf]; omega
    · have hk20 : k = 20 := by omega
      exact (H.out (fun i hi => HK.out i (by omega))).elim

set_option maxRecDepth 100000 in
theorem sOk_t (c : Nat → Nat) (h : ∀ i, i < 20 → amtB (c i) = true) (w : World) (g : Nat) (T : TypeId) (hg : w.heap[g]? = some (.cells (fls c) T (0, 0))) :
    Calls Try.prog 124 #[.pointer (some ⟨g, 0, none⟩)] w fun e w' => e = .returned (.bool true) ∧ w = w' := by
  have H := hid h
  have HG := hid hg
  clear h hg
  go_enter Try.func124, Try.ntmps124
  go_wp2
  go_loop [3] (fun i => ∃ k : Nat, k ≤ 20 ∧ i = .int .i64 k) (fun i => 20 - (intOf i).toNat)
  case atStart => exact ⟨0, by omega, rfl⟩
  case round =>
    obtain ⟨k, hk, rfl⟩ := hrel
    by_cases hlt : k < 20
    · have hcell : w.cell? ⟨g, k, none⟩ = some (.float .f32 (c k)) := by rw [cell_of_row w g k _ _ _ HG.out, fls_get c hlt]
      go_wp2_with (go_at_call 125; refine (sAmount_t (c k) (H.out k hlt) _).mono ?_; rintro e w' ⟨rfl, rfl⟩)
      go_round
      case rel => exact ⟨k + 1, by omega, by go_num⟩
      case measure => simp [intOf]; omega
    · go_wp2
      go_ret
      exact ⟨rfl, rfl⟩

set_option maxRecDepth 100000 in
theorem sOk_f (c : Nat → Nat) (hb : ∀ i, i < 20 → c i < 4294967296) (h : ¬ ∀ i, i < 20 → amtB (c i) = true) (w : World) (g : Nat) (T : TypeId) (hg : w.heap[g]? = some (.cells (fls c) T (0, 0))) :
    Calls Try.prog 124 #[.pointer (some ⟨g, 0, none⟩)] w fun e w' => e = .returned (.bool false) ∧ Below w.heap.size w w' := by
  have H := hid h
  have HB := hid hb
  have HG := hid hg
  clear h hb hg
  go_enter Try.func124, Try.ntmps124
  go_wp2
  go_loop [3] (fun i => ∃ k : Nat, k ≤ 20 ∧ Hid (∀ i, i < k → amtB (c i) = true) ∧ i = .int .i64 k) (fun i => 20 - (intOf i).toNat)
  case atStart => exact ⟨0, by omega, hid (fun i hi => by omega), rfl⟩
  case round =>
    obtain ⟨k, hk, HK, rfl⟩ := hrel
    by_cases hlt : k < 20
    · have hcell : w.cell? ⟨g, k, none⟩ = some (.float .f32 (c k)) := by rw [cell_of_row w g k _ _ _ HG.out, fls_get c hlt]
      rcases hac : amtB (c k) with _ | _
      · have HA := hid hac
        clear hac
        go_wp2_with (go_at_call 125; refine (sAmount_f (c k) (HB.out k hlt) HA.out _).mono ?_; rintro e w' ⟨rfl, hb⟩)
        go_ret
        exact ⟨rfl, hb⟩
      · have HA := hid hac
        clear hac
        go_wp2_with (go_at_call 125; refine (sAmount_t (c k) HA.out _).mono ?_; rintro e w' ⟨rfl, rfl⟩)
        go_round
        case rel =>
          refine ⟨k + 1, by omega, hid (fun i hi => ?_), by go_num⟩
          by_cases e : i = k
          · subst e; exact HA.out
          · exact HK.out i (by omega)
        case measure => simp [intOf]; omega
    · have hk20 : k = 20 := by omega
      exact (H.out (fun i hi => HK.out i (by omega))).elim

set_option maxRecDepth 100000 in
theorem iSum (c : Nat → Nat) (h : ∀ i, i < 20 → nnB (c i) = true) (w : World) :
    Calls Try.prog 183 #[.agg (fls c)] w fun e w' => e = .returned (.float .f32 (sumF c 19)) ∧ Below w.heap.size w w' := by
  have H := hid h
  clear h
  have hcell : ∀ k, k < 20 → (w.alloc (.cells (fls c) 56)).cell? ⟨w.heap.size, k, none⟩ = some (.float .f32 (c k)) := fun k hk => by
    rw [cell_of_row _ _ k _ _ _ (heap_alloc_new _ _), fls_get c hk]
  have h0 := hcell 0 (by omega)
  have HC := hid hcell
  clear hcell
  go_enter Try.func183, Try.ntmps183
  go_wp2
  go_loop [3, 4] (fun s i => ∃ k : Nat, k ≤ 19 ∧ i = .int .i64 (k + 1 : Nat) ∧ s = .float .f32 (sumF c k)) (fun _ i => 20 - (intOf i).toNat)
  case atStart => exact ⟨0, by omega, rfl, rfl⟩
  case round =>
    obtain ⟨k, hk, rfl, rfl⟩ := hrel
    by_cases hlt : k < 19
    · have hcell := HC.out (k + 1) (by omega)
      have hadd := fun w => run_add (P := Try.prog) 23 (sumF_nn k (fun i hi => H.out i (by omega))) (H.out (k + 1) (by omega)) w
      go_wp2
      go_round
      case rel => exact ⟨k + 1, by omega, by go_num, rfl⟩
      case measure => simp [intOf]; omega
    · obtain rfl : k = 19 := by omega
      go_wp2
      go_ret
      exact ⟨rfl, (Below.refl _ _).alloc (Nat.le_refl _) _⟩

theorem info_a20 : (Try.prog.info? 56).map (·.size) = some 20 := by kernel_rfl

set_option maxRecDepth 100000 in
theorem toSizes (c : Nat → Nat) (w : World) :
    Calls Try.prog 39 #[.agg (fls c)] w fun e w' => e = .returned (.agg (fls c)) ∧ Below w.heap.size w w' := by
  have b0 : Below w.heap.size w (w.alloc (.cells (fls c) 56)) := (Below.refl _ _).alloc (Nat.le_refl _) _
  have a0 := hid (arrAt.new w c 56)
  go_enter Try.func39, Try.ntmps39
  go_wp2
  go_loopw [4] (fun i wr => ∃ k : Nat, k ≤ 20 ∧ i = .int .i64 k ∧ Hid (arrAt wr w.heap.size c 56) ∧ Hid (arrAt wr (w.heap.size + 1) (fun _ => 0) 61) ∧ Hid (arrAt wr (w.heap.size + 1 + 1) (cut c k) 61) ∧ Hid (Below w.heap.size w wr)) (fun i _ => 20 - (intOf i).toNat)
  case atStart =>
    refine ⟨0, by omega, rfl, hid ((a0.out.alloc _).alloc _), hid ?_, hid ?_, hid ((b0.alloc (by simp) _).alloc (by simp; omega) _)⟩
    · have := arrAt.new (w.alloc (.cells (fls c) 56)) (fun _ => 0) 61
      have e : (w.alloc (.cells (fls c) 56)).heap.size = w.heap.size + 1 := by simp
      rw [e] at this
      exact this.alloc _
    · have := arrAt.new ((w.alloc (.cells (fls c) 56)).alloc (.cells (fls fun _ => 0) 61)) (fun _ => 0) 61
      have e : ((w.alloc (.cells (fls c) 56)).alloc (.cells (fls fun _ => 0) 61)).heap.size = w.heap.size + 1 + 1 := by simp
      rw [e] at this
      exact this.ext (fun i _ => (cut_zero' c i).symm)
  case round =>
    obtain ⟨k, hk, rfl, h0, h1, h2, hb⟩ := hrel
    by_cases hlt : k < 20
    · have q0 := h0.out.cell hlt
      have q2 := h2.out.cell hlt
      have f2 := h2.out.frozen k
      go_wp2
      go_roundw
      case rel => exact ⟨k + 1, by omega, by go_num, hid (h0.out.setOther (by simp; omega) _), hid (h1.out.setOther (by simp) _), hid ((h2.out.set k (c k)).ext (fun i _ => cut_succ c k i)), hid (hb.out.setCell (by simp; omega) _)⟩
      case measure => simp [intOf]; omega
    · obtain rfl : k = 20 := by omega
      have h2' := hid (h2.out.ext (cut_all c))
      clear h2
      go_wp2_with (first | (refine wpList_load_row rfl 61 _ rfl (w.heap.size + 1 + 1) rfl 61 (fls c) (0, 0) _ h2'.out Try.underlying61 rfl (by rw [fls_size]; exact info_arr) ?_) | (refine wpList_store_row rfl 61 _ _ rfl (w.heap.size + 1) (fls c) rfl rfl 61 _ h1.out (by rw [fls_size]; exact info_arr) (by simp) (fls_one c) ?_))
      exact bodyPost_ret (results_cell_row rfl _ _ (w.heap.size + 1) 61 (fls c) (0, 0) _ rfl (h1.out.setRow c) Try.underlying61 rfl (by rw [fls_size]; exact info_arr)) rfl ⟨rfl, below_row hb.out (by omega) _⟩

theorem div_one_some {y m : Nat} {s : Bool} {e : Int} (h : D.read y = .number s m e) : ∃ q, floatBits .quo .f64 4607182418800017408 y = some q := by
  have h1 : D.read 4607182418800017408 = .number false 4503599627370496 (-52) := by decide
  show ∃ q, D.div 4607182418800017408 y = some q
  unfold Ieee.Format.div
  rw [h, h1]
  simp only [Ieee.Datum.quotient]
  by_cases hm : m = 0
  · rw [if_pos hm]; exact ⟨_, rfl⟩
  · rw [if_neg hm]; exact ⟨_, rfl⟩

set_option maxRecDepth 100000 in
theorem sameFloat (x : Nat) (hx : x < 4294967296) (h : finB x = true) (w : World) :
    Calls Try.prog 23 #[.float .f64 (wid x), .float .f64 (wid x)] w fun e w' => e = .returned (.bool true) ∧ w = w' := by
  obtain ⟨a, b, m, e, hr⟩ := read_wid_fin hx (finB_iff.1 h)
  have hn : (FloatKind.f64.format.order (wid x) (wid x) != some .eq) = false := by
    show (D.order (wid x) (wid x) != some .eq) = false
    rw [order_self hr]; rfl
  have hq : (FloatKind.f64.format.order (wid x) (wid x) == some .eq) = true := by
    show (D.order (wid x) (wid x) == some .eq) = true
    rw [order_self hr]; rfl
  obtain ⟨q, hd⟩ := div_one_some hr
  have hdiv := fun w => run_float_arith (P := Try.prog) w .quo 30 .f64 4607182418800017408 (wid x) q hd
  clear hd hr a b h hx
  rcases hz : (FloatKind.f64.format.order (wid x) 0 == some .eq) with _ | _
  · go_enter Try.func23, Try.ntmps23
    go_wp2
    go_ret
    exact ⟨by simp, rfl⟩
  · go_enter Try.func23, Try.ntmps23
    go_wp2
    go_ret
    exact ⟨by simp, rfl⟩

theorem back {P : Program} {f : FuncId} {args : Array Value} {w : World} {v : Value} (h : Calls P f args w fun e w' => e = .returned v ∧ w = w') : Calls P f args w fun e w' => e = .returned v ∧ w' = w :=
  h.mono fun _ _ ⟨a, b⟩ => ⟨a, b.symm⟩

set_option maxRecDepth 100000 in
theorem eqSizes (c : Nat → Nat) (hb : ∀ i, i < 20 → c i < 4294967296) (h : ∀ i, i < 20 → finB (c i) = true) (w : World) :
    Calls Try.prog 45 #[.agg (fls c), .agg (fls c)] w fun e w' => e = .returned (.bool true) ∧ Below w.heap.size w w' := by
  have b0 : Below w.heap.size w (w.alloc (.cells (fls c) 61)) := (Below.refl _ _).alloc (Nat.le_refl _) _
  have a0 := hid (arrAt.new w c 61)
  have H := hid h
  have HB := hid hb
  clear h hb
  go_enter Try.func45, Try.ntmps45
  go_wp2
  go_loopw [5] (fun i wr => ∃ k : Nat, k ≤ 20 ∧ i = .int .i64 k ∧ Hid (arrAt wr w.heap.size c 61) ∧ Hid (arrAt wr (w.heap.size + 1) c 61) ∧ Hid (Below w.heap.size w wr)) (fun i _ => 20 - (intOf i).toNat)
  case atStart =>
    refine ⟨0, by omega, rfl, hid (a0.out.alloc _), hid ?_, hid (b0.alloc (by simp) _)⟩
    have := arrAt.new (w.alloc (.cells (fls c) 61)) c 61
    have e : (w.alloc (.cells (fls c) 61)).heap.size = w.heap.size + 1 := by simp
    rw [e] at this
    exact this
  case round =>
    obtain ⟨k, hk, rfl, h0, h1, hb⟩ := hrel
    by_cases hlt : k < 20
    · have q0 := h0.out.cell hlt
      have q1 := h1.out.cell hlt
      have hc := fun w => run_conv_wid (P := Try.prog) w 23 30 (c k) (HB.out k hlt) Try.underlying23 Try.underlying30 (finB_iff.1 (H.out k hlt))
      go_wp2
      go_quiet ((go_at_call 23; exact Calls.quiet_of_same (back (sameFloat (c k) (HB.out k hlt) (H.out k hlt) _))))
      go_wp2
      go_roundw
      case rel => exact ⟨k + 1, by omega, by go_num, h0, h1, hid (below_drewN hb.out _)⟩
      case measure => simp [intOf]; omega
    · go_wp2
      go_ret
      exact ⟨rfl, hb.out⟩

/-- The mass of a class, as a word. -/
theorem iMass (k : Nat) (hk : k < 20) (w : World) :
    Calls Try.prog 120 #[.int .i64 (k : Int)] w fun e w' => e = .returned (.float .f32 (mass k)) ∧ w = w' := by
  have H : k = 0 ∨ k = 1 ∨ k = 2 ∨ k = 3 ∨ k = 4 ∨ k = 5 ∨ k = 6 ∨ k = 7 ∨ k = 8 ∨ k = 9 ∨ k = 10 ∨ k = 11 ∨ k = 12 ∨ k = 13 ∨ k = 14 ∨ k = 15 ∨ k = 16 ∨ k = 17 ∨ k = 18 ∨ k = 19 := by omega
  rcases H with rfl | rfl | rfl | rfl | rfl | rfl | rfl | rfl | rfl | rfl | rfl | rfl | rfl | rfl | rfl | rfl | rfl | rfl | rfl | rfl
  all_goals
    go_enter Try.func120, Try.ntmps120
    go_wp2
    go_ret
    exact ⟨rfl, rfl⟩

def Amts (c : Nat → Nat) : Prop := ∀ i, i < 20 → amtB (c i) = true

theorem sMass (k : Nat) (hk : k < 20) (w : World) :
    Calls Try.prog 185 #[.int .i64 (k : Int)] w fun e w' => e = .returned (.float .f32 (mass k)) ∧ w = w' := by
  have H : k = 0 ∨ k = 1 ∨ k = 2 ∨ k = 3 ∨ k = 4 ∨ k = 5 ∨ k = 6 ∨ k = 7 ∨ k = 8 ∨ k = 9 ∨ k = 10 ∨ k = 11 ∨ k = 12 ∨ k = 13 ∨ k = 14 ∨ k = 15 ∨ k = 16 ∨ k = 17 ∨ k = 18 ∨ k = 19 := by omega
  rcases H with rfl | rfl | rfl | rfl | rfl | rfl | rfl | rfl | rfl | rfl | rfl | rfl | rfl | rfl | rfl | rfl | rfl | rfl | rfl | rfl
  all_goals
    go_enter Try.func185, Try.ntmps185
    go_wp2
    go_ret
    exact ⟨rfl, rfl⟩

theorem l00In_t (n a b : Int) (h1 : a ≤ n) (h2 : n ≤ b) (w : World) :
    Calls Try.prog 91 #[.int .i64 n, .int .i64 a, .int .i64 b] w fun e w' => e = .returned (.bool true) ∧ w = w' := by
  go_enter Try.func91, Try.ntmps91
  go_wp2
  go_ret
  exact ⟨by first | rfl | (simp; done) | (simp; omega), rfl⟩

theorem l00In_f (n a b : Int) (hn : ¬ (a ≤ n ∧ n ≤ b)) (w : World) :
    Calls Try.prog 91 #[.int .i64 n, .int .i64 a, .int .i64 b] w fun e w' => e = .returned (.bool false) ∧ w = w' := by
  by_cases h0 : a ≤ n
  · have h3 : b < n := by omega
    clear hn
    go_enter Try.func91, Try.ntmps91
    go_wp2
    go_ret
    exact ⟨by first | rfl | (simp; done) | (simp; omega), rfl⟩
  · have h3 : n < a := by omega
    have h4 : decide (a ≤ n) = false := by simp; omega
    clear hn h0
    go_enter Try.func91, Try.ntmps91
    go_wp2
    go_ret
    exact ⟨by simp, rfl⟩

def Fins (c : Nat → Nat) : Prop := ∀ i, i < 20 → finB (c i) = true

set_option maxRecDepth 100000 in
theorem iFinite_t (c : Nat → Nat) (hb : ∀ i, i < 20 → c i < 4294967296) (h : Fins c) (w : World) :
    Calls Try.prog 188 #[.agg (fls c)] w fun e w' => e = .returned (.tuple #[.agg (fls c), .int .i64 0]) ∧ Below w.heap.size w w' := by
  have A0 := hid ((arrAt.new w c 61).alloc (.cells (fls fun _ => 0) 61))
  have A1 := hid (new1 w (.cells (fls c) 61) (fun _ => 0) 61)
  have b0 := boxed2 w (.cells (fls c) 61) (.cells (fls fun _ => 0) 61)
  have HB := hid hb
  have H := hid h
  clear h hb
  go_enter Try.func188, Try.ntmps188
  go_wp2_with (refine wpList_load_row rfl 61 _ rfl (w.heap.size) rfl 61 (fls c) (0, 0) _ A0.out Try.underlying61 rfl (by rw [fls_size]; exact info_arr) ?_)
  go_loop [7] (fun i => ∃ k : Nat, k ≤ 20 ∧ i = .int .i64 k) (fun i => 20 - (intOf i).toNat)
  case atStart => exact ⟨0, by omega, rfl⟩
  case round =>
    obtain ⟨k, hk, rfl⟩ := hrel
    by_cases hlt : k < 20
    · have hix := ix 61 Try.underlying61 c k hlt
      go_wp2_with (go_at_call 96; refine (isFinite_t (c k) (HB.out k hlt) (H.out k hlt) _).mono ?_; rintro e w' ⟨rfl, rfl⟩)
      go_round
      case rel => exact ⟨k + 1, by omega, by go_num⟩
      case measure => simp [intOf]; omega
    · go_wp2_with (first | (refine wpList_load_row rfl 61 _ rfl (w.heap.size) rfl 61 (fls c) (0, 0) _ A0.out Try.underlying61 rfl (by rw [fls_size]; exact info_arr) ?_) | (refine wpList_store_row rfl 61 _ _ rfl (w.heap.size + 1) (fls c) rfl rfl 61 _ A1.out (by rw [fls_size]; exact info_arr) (by simp) (fls_one c) ?_))
      exact bodyPost_ret (results_row_tmp rfl _ _ (w.heap.size + 1) 61 (fls c) (0, 0) _ rfl (A1.out.setRow c) Try.underlying61 rfl (by rw [fls_size]; exact info_arr)) rfl ⟨rfl, below_row b0 (by simp) _⟩

set_option maxRecDepth 100000 in
theorem iFinite_f (c : Nat → Nat) (hb : ∀ i, i < 20 → c i < 4294967296) (h : ¬ Fins c) (w : World) :
    Calls Try.prog 188 #[.agg (fls c)] w fun e w' => e = .returned (.tuple #[.agg (fls fun _ => 0), .int .i64 4]) ∧ Below w.heap.size w w' := by
  have A0 := hid ((arrAt.new w c 61).alloc (.cells (fls fun _ => 0) 61))
  have A1 := hid (new1 w (.cells (fls c) 61) (fun _ => 0) 61)
  have b0 := boxed2 w (.cells (fls c) 61) (.cells (fls fun _ => 0) 61)
  have HB := hid hb
  have H := hid h
  clear h hb
  go_enter Try.func188, Try.ntmps188
  go_wp2_with (refine wpList_load_row rfl 61 _ rfl (w.heap.size) rfl 61 (fls c) (0, 0) _ A0.out Try.underlying61 rfl (by rw [fls_size]; exact info_arr) ?_)
  go_loop [7] (fun i => ∃ k : Nat, k ≤ 20 ∧ Hid (∀ i, i < k → finB (c i) = true) ∧ i = .int .i64 k) (fun i => 20 - (intOf i).toNat)
  case atStart => exact ⟨0, by omega, hid (fun i hi => by omega), rfl⟩
  case round =>
    obtain ⟨k, hk, HK, rfl⟩ := hrel
    by_cases hlt : k < 20
    · have hix := ix 61 Try.underlying61 c k hlt
      rcases hac : finB (c k) with _ | _
      · have HA := hid hac
        clear hac
        go_wp2_with (fail)
        refine (isFinite_f (c k) (HB.out k hlt) HA.out _).mono ?_
        rintro e w1 ⟨rfl, hb1⟩
        have A2 := hid (A1.out.stay hb1)
        have b1 := stp b0 (Nat.le_refl _) hb1
        go_wp2_with (refine wpList_store_row rfl 61 _ _ rfl (w.heap.size + 1) (fls (fun _ => 0)) rfl rfl 61 _ A2.out (by rw [fls_size]; exact info_arr) (by simp) (fls_one (fun _ => 0)) ?_)
        exact bodyPost_ret (results_row_tmp rfl _ _ (w.heap.size + 1) 61 (fls (fun _ => 0)) (0, 0) _ rfl (A2.out.setRow (fun _ => 0)) Try.underlying61 rfl (by rw [fls_size]; exact info_arr)) rfl ⟨rfl, below_row b1 (by simp) _⟩
      · have HA := hid hac
        clear hac
        go_wp2_with (go_at_call 96; refine (isFinite_t (c k) (HB.out k hlt) HA.out _).mono ?_; rintro e w' ⟨rfl, rfl⟩)
        go_round
        case rel =>
          refine ⟨k + 1, by omega, hid (fun i hi => ?_), by go_num⟩
          by_cases e : i = k
          · subst e; exact HA.out
          · exact HK.out i (by omega)
        case measure => simp [intOf]; omega
    · have hk20 : k = 20 := by omega
      exact (H.out (fun i hi => HK.out i (by omega))).elim

set_option maxRecDepth 100000 in
theorem sMade_t (c : Nat → Nat) (hb : ∀ i, i < 20 → c i < 4294967296) (h : Fins c) (w : World) :
    Calls Try.prog 186 #[.agg (fls c)] w fun e w' => e = .returned (.tuple #[.agg (fls c), .int .i64 0]) ∧ Below w.heap.size w w' := by
  have A0 := hid ((arrAt.new w c 61).alloc (.cells (fls fun _ => 0) 61))
  have A1 := hid (new1 w (.cells (fls c) 61) (fun _ => 0) 61)
  have b0 := boxed2 w (.cells (fls c) 61) (.cells (fls fun _ => 0) 61)
  have HB := hid hb
  have H := hid h
  clear h hb
  go_enter Try.func186, Try.ntmps186
  go_wp2
  go_loop [4] (fun i => ∃ k : Nat, k ≤ 20 ∧ i = .int .i64 k) (fun i => 20 - (intOf i).toNat)
  case atStart => exact ⟨0, by omega, rfl⟩
  case round =>
    obtain ⟨k, hk, rfl⟩ := hrel
    by_cases hlt : k < 20
    · have hix := A0.out.cell hlt
      go_wp2_with (go_at_call 89; refine (sFinite_t (c k) (HB.out k hlt) (H.out k hlt) _).mono ?_; rintro e w' ⟨rfl, rfl⟩)
      go_round
      case rel => exact ⟨k + 1, by omega, by go_num⟩
      case measure => simp [intOf]; omega
    · go_wp2_with (first | (refine wpList_load_row rfl 61 _ rfl (w.heap.size) rfl 61 (fls c) (0, 0) _ A0.out Try.underlying61 rfl (by rw [fls_size]; exact info_arr) ?_) | (refine wpList_store_row rfl 61 _ _ rfl (w.heap.size + 1) (fls c) rfl rfl 61 _ A1.out (by rw [fls_size]; exact info_arr) (by simp) (fls_one c) ?_))
      exact bodyPost_ret (results_row_tmp rfl _ _ (w.heap.size + 1) 61 (fls c) (0, 0) _ rfl (A1.out.setRow c) Try.underlying61 rfl (by rw [fls_size]; exact info_arr)) rfl ⟨rfl, below_row b0 (by simp) _⟩

set_option maxRecDepth 100000 in
theorem sMade_f (c : Nat → Nat) (hb : ∀ i, i < 20 → c i < 4294967296) (h : ¬ Fins c) (w : World) :
    Calls Try.prog 186 #[.agg (fls c)] w fun e w' => e = .returned (.tuple #[.agg (fls fun _ => 0), .int .i64 4]) ∧ Below w.heap.size w w' := by
  have A0 := hid ((arrAt.new w c 61).alloc (.cells (fls fun _ => 0) 61))
  have A1 := hid (new1 w (.cells (fls c) 61) (fun _ => 0) 61)
  have b0 := boxed2 w (.cells (fls c) 61) (.cells (fls fun _ => 0) 61)
  have HB := hid hb
  have H := hid h
  clear h hb
  go_enter Try.func186, Try.ntmps186
  go_wp2
  go_loop [4] (fun i => ∃ k : Nat, k ≤ 20 ∧ Hid (∀ i, i < k → finB (c i) = true) ∧ i = .int .i64 k) (fun i => 20 - (intOf i).toNat)
  case atStart => exact ⟨0, by omega, hid (fun i hi => by omega), rfl⟩
  case round =>
    obtain ⟨k, hk, HK, rfl⟩ := hrel
    by_cases hlt : k < 20
    · have hix := A0.out.cell hlt
      rcases hac : finB (c k) with _ | _
      · have HA := hid hac
        clear hac
        go_wp2_with (fail)
        refine (sFinite_f (c k) (HB.out k hlt) HA.out _).mono ?_
        rintro e w1 ⟨rfl, hb1⟩
        have A2 := hid (A1.out.stay hb1)
        have b1 := stp b0 (Nat.le_refl _) hb1
        go_wp2_with (refine wpList_store_row rfl 61 _ _ rfl (w.heap.size + 1) (fls (fun _ => 0)) rfl rfl 61 _ A2.out (by rw [fls_size]; exact info_arr) (by simp) (fls_one (fun _ => 0)) ?_)
        exact bodyPost_ret (results_row_tmp rfl _ _ (w.heap.size + 1) 61 (fls (fun _ => 0)) (0, 0) _ rfl (A2.out.setRow (fun _ => 0)) Try.underlying61 rfl (by rw [fls_size]; exact info_arr)) rfl ⟨rfl, below_row b1 (by simp) _⟩
      · have HA := hid hac
        clear hac
        go_wp2_with (go_at_call 89; refine (sFinite_t (c k) (HB.out k hlt) HA.out _).mono ?_; rintro e w' ⟨rfl, rfl⟩)
        go_round
        case rel =>
          refine ⟨k + 1, by omega, hid (fun i hi => ?_), by go_num⟩
          by_cases e : i = k
          · subst e; exact HA.out
          · exact HK.out i (by omega)
        case measure => simp [intOf]; omega
    · have hk20 : k = 20 := by omega
      exact (H.out (fun i hi => HK.out i (by omega))).elim

/-- Sizes that would be returned, by either program, are told alike. -/
theorem iFinite (c : Nat → Nat) (hb : ∀ i, i < 20 → c i < 4294967296) (d : Nat → Nat) (n : Int) (h1 : Fins c → d = c ∧ n = 0) (h2 : ¬ Fins c → d = (fun _ => 0) ∧ n = 4) (w : World) :
    Calls Try.prog 188 #[.agg (fls c)] w fun e w' => e = .returned (.tuple #[.agg (fls d), .int .i64 n]) ∧ Below w.heap.size w w' := by
  by_cases h : Fins c
  · obtain ⟨rfl, rfl⟩ := h1 h; exact iFinite_t _ hb h w
  · obtain ⟨rfl, rfl⟩ := h2 h; exact iFinite_f _ hb h w

theorem sMassI (n : Int) (h0 : 0 ≤ n) (h1 : n < 20) (w : World) :
    Calls Try.prog 185 #[.int .i64 n] w fun e w' => e = .returned (.float .f32 (mass n.toNat)) ∧ w = w' := by
  obtain ⟨k, rfl⟩ := Int.eq_ofNat_of_zero_le h0
  exact sMass k (by omega) w

set_option maxRecDepth 100000 in
theorem sFor (x : Nat) (ha : amtB x = true) (h1 : ONE ≤ x) (w : World) :
    Calls Try.prog 222 #[.float .f32 x] w fun e w' => e = .returned (.int .i64 (forF x : Int)) ∧ w = w' := by
  have Ha := hid ha
  have H1 := hid h1
  clear ha h1
  go_enter Try.func222, Try.ntmps222
  go_wp2
  go_loop [3] (fun i => ∃ k : Nat, k ≤ 19 ∧ i = .int .i64 k ∧ Hid (mass k ≤ x)) (fun i => 20 - (intOf i).toNat)
  case atStart => exact ⟨0, by omega, rfl, H1⟩
  case round =>
    obtain ⟨k, hk, rfl, hm⟩ := hrel
    by_cases hlt : k < 19
    · by_cases hle : mass (k + 1) ≤ x
      · have ho := leq_t (mass_amt (k := k + 1) (by omega)) Ha.out hle
        have HL := hid hle
        clear hle
        have e1 : ((k : Int) + 1).toNat = k + 1 := by omega
        have E1 := hid e1
        clear e1
        go_wp2_with (go_at_call 185; refine (sMassI _ (by omega) (by omega) _).mono ?_; rintro e w' ⟨rfl, rfl⟩; rw [E1.out])
        go_round
        case rel => exact ⟨k + 1, by omega, by go_num, HL⟩
        case measure => simp [intOf]; omega
      · have hgt : x < mass (k + 1) := by omega
        have ho := leq_f (mass_amt (k := k + 1) (by omega)) Ha.out hgt
        have hf := hid (forF_eq (by omega) hm.out (.inr hgt))
        clear hle hgt
        have e1 : ((k : Int) + 1).toNat = k + 1 := by omega
        have E1 := hid e1
        clear e1
        go_wp2_with (go_at_call 185; refine (sMassI _ (by omega) (by omega) _).mono ?_; rintro e w' ⟨rfl, rfl⟩; rw [E1.out])
        go_ret
        exact ⟨by simp [hf.out], rfl⟩
    · obtain rfl : k = 19 := by omega
      have hf := hid (forF_eq (by omega) hm.out (.inl rfl))
      go_wp2
      go_ret
      exact ⟨by simp [hf.out], rfl⟩

set_option maxRecDepth 100000 in
theorem iClassFor_ok (x : Nat) (ha : amtB x = true) (h1 : ONE ≤ x) (w : World) :
    Calls Try.prog 189 #[.float .f32 x] w fun e w' => e = .returned (.tuple #[.int .i64 (forF x : Int), .int .i64 0]) ∧ w = w' := by
  have Hx := hid (amt_lt ha)
  have Hf := hid (amt_fin ha)
  have ho := lt_f ha (y := 1065353216) (by decide) h1
  have Ha := hid ha
  have H1 := hid h1
  clear ha h1
  go_enter Try.func189, Try.ntmps189
  go_wp2_with fail
  go_step3
  go_wp2_with fail
  refine (isFinite_t x Hx.out Hf.out _).mono ?_
  rintro e w1 ⟨rfl, rfl⟩
  go_wp2_with fail
  go_step3
  go_wp2_with fail
  go_loop [4] (fun i => ∃ k : Nat, k ≤ 19 ∧ i = .int .i64 k ∧ Hid (k = 19 ∨ x < mass (k + 1))) (fun i => (intOf i).toNat)
  case atStart => exact ⟨19, by omega, rfl, hid (.inl rfl)⟩
  case round =>
    obtain ⟨k, hk, rfl, hm⟩ := hrel
    by_cases hlt : 0 < k
    · by_cases hle : mass k ≤ x
      · have hg := gt_f (mass_amt (k := k) (by omega)) Ha.out hle
        have hf := hid (forF_eq (by omega) hle hm.out)
        clear hle
        go_wp2_with (go_at_call 120; refine (iMass k (by omega) _).mono ?_; rintro e w' ⟨rfl, rfl⟩)
        rw [Exit.noGoto_ret]
        go_ret2
        exact ⟨by simp [hf.out], rfl⟩
      · have hgt : x < mass k := by omega
        have hg := gt_t (mass_amt (k := k) (by omega)) Ha.out hgt
        have HG := hid hgt
        clear hle hgt
        go_wp2_with (go_at_call 120; refine (iMass k (by omega) _).mono ?_; rintro e w' ⟨rfl, rfl⟩)
        go_round
        case rel => exact ⟨k - 1, by omega, by congr 1; omega, hid (.inr (by rw [show k - 1 + 1 = k by omega]; exact HG.out))⟩
        case measure => simp [intOf]; omega
    · obtain rfl : k = 0 := by omega
      have hf := hid (forF_eq (by omega) H1.out hm.out)
      go_wp2
      go_ret2
      exact ⟨by simp [hf.out], rfl⟩

theorem loose {P : Program} {f : FuncId} {args : Array Value} {w : World} {v : Value} (h : Calls P f args w fun e w' => e = .returned v ∧ w = w') : Calls P f args w fun e w' => e = .returned v ∧ Below w.heap.size w w' :=
  h.mono fun _ _ ⟨a, b⟩ => ⟨a, b ▸ Below.refl _ _⟩

/-- A whole array stored: the world behind it under a name of its own. -/
theorem store_abs {P : Program} {ops : Array Oper} {rest : List Oper} {o : Oper} {a : Act} {w : World} {Q : Exit → Act → World → Prop} (hgd : o.guard = none) (ty : TypeId) (x y : Operand) (ho : o.op = .store ty x y)
    (g : Nat) (d : Nat → Nat) (hx : a.eval x = .pointer (some ⟨g, 0, none⟩)) (hy : a.eval y = .agg (fls d)) (t : TypeId) (old : Nat → Nat) (hg : arrAt w g old t) (hi : (P.info? ty).map (·.size) = some 20)
    (h : ∀ w', w' = w.setRow g (fls d) → wpList P ops Q rest (a.put o.dst undef) w') : wpList P ops Q (o :: rest) a w :=
  wpList_store_row hgd ty x y ho g (fls d) hx hy t (fls old) hg (by rw [fls_size]; exact hi) (by simp) (fls_one d) (h _ rfl)

def left (c : Nat → Nat) (k x : Nat) : Nat → Nat := upd c k (fsub (c k) (fmul x (c k)))

theorem alloc_sizes (a : Operand → Value) (d : Option Tmp) (t : TypeId) (ps : String) (af : Array Edge) (gd : Option (Nat × Bool)) (w : World) :
    (execOp a ⟨d, .alloc 61, t, ps, af, gd⟩).run Try.prog w = .ok (.value (.pointer (some ⟨w.heap.size, 0, none⟩))) (w.alloc (.cells (fls fun _ => 0) 61)) := by
  unfold execOp
  go_simp

theorem run_toSizes1 (a : Act) (x0 : Operand) (v0 : Value) (h0 : a.eval x0 = v0) (d : Option Tmp) (ats : Array TypeId) (t : TypeId) (ps : String) (af : Array Edge) (gd : Option (Nat × Bool)) (w : World) :
    (execOp a.eval ⟨d, .call { callee := .value (.func 39), args := #[x0], argTypes := ats }, t, ps, af, gd⟩).run Try.prog w = .ok (.enter 39 #[v0]) w := by
  subst h0
  unfold execOp
  go_simp

theorem iPut (c : Nat → Nat) (k : Nat) (hk : k < 20) (v : Nat) (hc : nnB (c k) = true) (hv : nnB v = true) (w : World) (g : Nat) (t : TypeId) (h : arrAt w g c t) :
    Calls Try.prog 187 #[.int .i64 (k : Int), .float .f32 v, .pointer (some ⟨g, 0, none⟩)] w fun e w' => e = .returned (.tuple #[]) ∧ w' = w.setCell ⟨g, k, none⟩ (.float .f32 (fadd (c k) v)) := by
  have q0 := h.cell hk
  have f0 := h.frozen k
  have hm := fun w => run_add (P := Try.prog) 23 hc hv w
  go_enter Try.func187, Try.ntmps187
  go_wp2
  go_end0
  exact ⟨rfl, rfl⟩

/-- What a write through a pointer leaves behind, orders that were drawn aside. -/
def Wrote (w1 w' : World) : Prop := (∀ g c t, arrAt w1 g c t → arrAt w' g c t) ∧ (∀ n w0, Below n w0 w1 → Below n w0 w')

theorem sPutB (c : Nat → Nat) (hc : nnB (c 0) = true) (x y : Nat) (hx : amtB x = true) (hlt : x < 1065353216) (hy : amtB y = true) (w : World) (g : Nat) (t : TypeId) (h : arrAt w g c t) :
    Calls Try.prog 184 #[.pointer (some ⟨g, 0, none⟩), .float .f32 x, .float .f32 y] w fun e w' => e = .returned (.tuple #[]) ∧ Wrote (w.setCell ⟨g, 0, none⟩ (.float .f32 (putB c x y 0))) w' := by
  have q0 := h.cell (k := 0) (by decide)
  have f0 := h.frozen 0
  have hl := lt_t hx (y := 1065353216) (by decide) hlt
  have h1 := fun w => run_mul (P := Try.prog) 23 hy hx w
  have h2 := fun w => run_add (P := Try.prog) 23 hc (mul_eq hy hx).2 w
  go_enter Try.func184, Try.ntmps184
  go_wp2_with fail
  go_region
  all_goals go_wp2
  all_goals exact bodyPost_ret (results_none (by rfl) _ _ _) rfl ⟨rfl, fun _ _ _ h => h, fun _ _ h => h.drew⟩

theorem sPutT (c : Nat → Nat) (hc : nnB (c 19) = true) (x y : Nat) (hx : amtB x = true) (h1 : ONE ≤ x) (hk : forF x = 19) (hy : amtB y = true) (w : World) (g : Nat) (t : TypeId) (h : arrAt w g c t) :
    Calls Try.prog 184 #[.pointer (some ⟨g, 0, none⟩), .float .f32 x, .float .f32 y] w fun e w' => e = .returned (.tuple #[]) ∧ Wrote (w.setCell ⟨g, 19, none⟩ (.float .f32 (putT c x y 19))) w' := by
  have q0 := h.cell (k := 19) (by decide)
  have f0 := h.frozen 19
  have hl := lt_f hx (y := 1065353216) (by decide) h1
  have hq := div_less (k := 19) (by decide) (amtB_iff.1 hx)
  have hqa : amtB (fdiv x (mass 19)) = true := amtB_iff.2 (Nat.lt_of_le_of_lt hq (amtB_iff.1 hx))
  have h0 := fun w => run_div (P := Try.prog) 23 (amt_nn hx) (mass_amt (k := 19) (by decide)) (mass_ne 19) w
  have h3 := fun w => run_mul (P := Try.prog) 23 hy hqa w
  have h2 := fun w => run_add (P := Try.prog) 23 hc (mul_eq hy hqa).2 w
  have hC := fun w => sFor x hx h1 w
  rw [hk] at hC
  have HC := hid hC
  clear hC hk hq hqa hx h1 hy
  go_enter Try.func184, Try.ntmps184
  go_wp2_with fail
  refine (HC.out _).mono ?_
  rintro e w1 ⟨rfl, rfl⟩
  go_wp2_with fail
  go_region_with (go_at_call 185; refine (sMass 19 (by decide) _).mono ?_; rintro e w' ⟨rfl, rfl⟩)
  all_goals go_wp2
  all_goals exact bodyPost_ret (results_none (by rfl) _ _ _) rfl ⟨rfl, fun _ _ _ h => h, fun _ _ h => h.drew⟩

/-- The runs of PutDroplets' arithmetic between two classes. -/
theorem put_runs (x y k : Nat) (hx : amtB x = true) (h1 : ONE ≤ x) (hk : forF x = k) (hlt : k < 19) (hy : amtB y = true) :
    (∀ w, (binOp .sub 23 (.float .f32 x) (.float .f32 (mass k))).run Try.prog w = .ok (.float .f32 (fsub x (mass k))) w)
    ∧ (∀ w, (binOp .quo 23 (.float .f32 (fsub x (mass k))) (.float .f32 (mass k))).run Try.prog w = .ok (.float .f32 (fdiv (fsub x (mass k)) (mass k))) w)
    ∧ (∀ w, (binOp .sub 23 (.float .f32 1065353216) (.float .f32 (fdiv (fsub x (mass k)) (mass k)))).run Try.prog w = .ok (.float .f32 (fsub 1065353216 (fdiv (fsub x (mass k)) (mass k)))) w)
    ∧ (∀ w, (binOp .mul 23 (.float .f32 y) (.float .f32 (fsub 1065353216 (fdiv (fsub x (mass k)) (mass k))))).run Try.prog w = .ok (.float .f32 (fmul y (fsub 1065353216 (fdiv (fsub x (mass k)) (mass k))))) w)
    ∧ (∀ w, (binOp .mul 23 (.float .f32 y) (.float .f32 (fdiv (fsub x (mass k)) (mass k)))).run Try.prog w = .ok (.float .f32 (fmul y (fdiv (fsub x (mass k)) (mass k)))) w)
    ∧ nnB (fmul y (fsub 1065353216 (fdiv (fsub x (mass k)) (mass k)))) = true ∧ nnB (fmul y (fdiv (fsub x (mass k)) (mass k))) = true := by
  subst hk
  obtain ⟨a1, a2, a3, a4, a5⟩ := put_facts (y := y) h1 (by omega)
  exact ⟨fun w => run_sub _ (amtB_iff.1 hx) a1 w, fun w => run_div _ (amt_nn a2) (mass_amt (forF_lt x)) (mass_ne _) w, fun w => run_sub _ (by decide) a4 w, fun w => run_mul _ hy a5 w, fun w => run_mul _ hy a3 w, (mul_eq hy a5).2, (mul_eq hy a3).2⟩

theorem putB_nn {c : Nat → Nat} (h : Amts c) {x y : Nat} (hx : amtB x = true) (hy : amtB y = true) : ∀ i, i < 20 → nnB (putB c x y i) = true := by
  intro i hi
  unfold putB upd
  split
  · exact (add_eq (amt_nn (h 0 (by decide))) (mul_eq hy hx).2).2
  · exact amt_nn (h i hi)

theorem putT_nn {c : Nat → Nat} (h : Amts c) {x y : Nat} (hx : amtB x = true) (hy : amtB y = true) : ∀ i, i < 20 → nnB (putT c x y i) = true := by
  intro i hi
  have hq := div_less (k := 19) (by decide) (amtB_iff.1 hx)
  unfold putT upd
  split
  · exact (add_eq (amt_nn (h 19 (by decide))) (mul_eq hy (amtB_iff.2 (Nat.lt_of_le_of_lt hq (amtB_iff.1 hx)))).2).2
  · exact amt_nn (h i hi)

theorem putL_nn {c : Nat → Nat} (h : Amts c) {x y : Nat} (h1 : ONE ≤ x) (hk : forF x ≠ 19) (hy : amtB y = true) : ∀ i, i < 20 → nnB (putL c x y i) = true := by
  intro i hi
  obtain ⟨a1, a2, a3, a4, a5⟩ := put_facts (y := y) h1 hk
  unfold putL upd
  split
  · exact (add_eq (amt_nn (h _ (forF_lt x))) (mul_eq hy a5).2).2
  · exact amt_nn (h i hi)

theorem putM_nn {c : Nat → Nat} (h : Amts c) {x y : Nat} (h1 : ONE ≤ x) (hk : forF x ≠ 19) (hy : amtB y = true) : ∀ i, i < 20 → nnB (putM c x y i) = true := by
  intro i hi
  obtain ⟨a1, a2, a3, a4, a5⟩ := put_facts (y := y) h1 hk
  unfold putM upd
  split
  · exact (add_eq (amt_nn (h _ (by have := forF_lt x; omega))) (mul_eq hy a3).2).2
  · exact putL_nn h h1 hk hy i hi

theorem Wrote.arr {w w' : World} {g k v : Nat} {c : Nat → Nat} {t : TypeId} (hw : Wrote (w.setCell ⟨g, k, none⟩ (.float .f32 v)) w') (h : arrAt w g c t) : arrAt w' g (upd c k v) t := hw.1 _ _ _ (h.set k v)

theorem Wrote.other {w w' : World} {g g' k v : Nat} {c : Nat → Nat} {t : TypeId} (hw : Wrote (w.setCell ⟨g, k, none⟩ (.float .f32 v)) w') (h : arrAt w g' c t) (hg : g' ≠ g) : arrAt w' g' c t := hw.1 _ _ _ (h.setOther (a := ⟨g, k, none⟩) hg _)

theorem putB_eq (c : Nat → Nat) (x y : Nat) : upd c 0 (putB c x y 0) = putB c x y := by funext i; simp [putB, upd]

theorem putT_eq (c : Nat → Nat) (x y : Nat) : upd c 19 (putT c x y 19) = putT c x y := by funext i; simp [putT, upd]

theorem putL_eq (c : Nat → Nat) (x y : Nat) : upd c (forF x) (putL c x y (forF x)) = putL c x y := by funext i; simp [putL, upd]

theorem putM_eq (c : Nat → Nat) (x y : Nat) : upd (putL c x y) (forF x + 1) (putM c x y (forF x + 1)) = putM c x y := by funext i; simp [putM, upd]

theorem putL_val (c : Nat → Nat) (x y k : Nat) (hk : forF x = k) : upd c k (fadd (c k) (fmul y (fsub 1065353216 (fdiv (fsub x (mass k)) (mass k))))) = putL c x y := by subst hk; rfl

theorem putM_val (c : Nat → Nat) (x y k : Nat) (hk : forF x = k) : upd (putL c x y) (k + 1) (fadd (putL c x y (k + 1)) (fmul y (fdiv (fsub x (mass k)) (mass k)))) = putM c x y := by
  subst hk
  have : putL c x y (forF x + 1) = c (forF x + 1) := by simp [putL, upd]
  rw [this]
  rfl

/-- A write that the walk saw, in the facts of the blocks. -/
theorem iPutI (c : Nat → Nat) (n : Int) (k : Nat) (hn : n = (k : Int)) (hk : k < 20) (v : Nat) (hc : nnB (c k) = true) (hv : nnB v = true) (w : World) (g : Nat) (t : TypeId) (h : arrAt w g c t) :
    Calls Try.prog 187 #[.int .i64 n, .float .f32 v, .pointer (some ⟨g, 0, none⟩)] w fun e w' => e = .returned (.tuple #[]) ∧ Wrote (w.setCell ⟨g, k, none⟩ (.float .f32 (fadd (c k) v))) w' := by
  subst hn
  refine (iPut c k hk v hc hv w g t h).mono ?_
  rintro e w' ⟨rfl, rfl⟩
  exact ⟨rfl, fun _ _ _ h => h, fun _ _ h => h⟩

set_option maxRecDepth 100000 in
theorem iPutDroplets_okB (c : Nat → Nat) (h : Amts c) (x : Nat) (hx : amtB x = true) (h0 : x ≠ 0) (hlt : x < 1065353216) (y : Nat) (hy : amtB y = true) (r : Nat → Nat) (n : Int) (g1 : Fins (putB c x y) → r = putB c x y ∧ n = 0) (g2 : ¬ Fins (putB c x y) → r = (fun _ => 0) ∧ n = 4) (w : World) :
    Calls Try.prog 119 #[.agg (fls c), .float .f32 x, .float .f32 y] w fun e w' => e = .returned (.tuple #[.agg (fls r), .int .i64 n]) ∧ Below w.heap.size w w' := by
  have hnn := putB_nn h hx hy
  have hf := amt_fin hx
  have ho1 := leq_f hx (y := 0) (by decide) (Nat.pos_of_ne_zero h0)
  have ho2 := gt_t hx (y := 0) (by decide) (Nat.pos_of_ne_zero h0)
  have hxl := amt_lt hx
  have hl := lt_t hx (y := 1065353216) (by decide) hlt
  have hr1 := fun w => run_mul (P := Try.prog) 23 hy hx w
  have hv1 := (mul_eq hy hx).2
  clear h0 ho2
  have A0 := hid ((arrAt.new w c 61).alloc (.cells (fls (fun _ => 0)) 61))
  have A1 := hid (new1 w (.cells (fls c) 61) (fun _ => 0) 61)
  have b0 := boxed2 w (.cells (fls c) 61) (.cells (fls (fun _ => 0)) 61)
  have Hh := hid h
  have Hhx := hid hx
  have Hhf := hid hf
  have Hhxl := hid hxl
  have Hhy := hid hy
  have Hg1 := hid g1
  have Hg2 := hid g2
  have Hhnn := hid hnn
  have Hhv1 := hid hv1
  have Hhlt := hid hlt
  clear h hx hf hxl hy g1 g2 hnn hv1 hlt
  go_enter Try.func119, Try.ntmps119
  go_wp2_with (first | (refine wpList_load_row rfl 61 _ rfl (w.heap.size) rfl 61 (fls c) (0, 0) _ A0.out Try.underlying61 rfl (by rw [fls_size]; exact info_arr) ?_))
  refine (validSizes_t c Hh.out _).mono ?_
  rintro e w0 ⟨rfl, hb0⟩
  have A0 := hid (A0.out.stay hb0)
  have A1 := hid (A1.out.stay hb0)
  have c0 := stp b0 (Nat.le_refl _) hb0
  go_wp2_with fail
  refine (isFinite_t x Hhxl.out Hhf.out _).mono ?_
  rintro e w1 ⟨rfl, rfl⟩
  go_wp2_with fail
  refine (isAmount_t y Hhy.out _).mono ?_
  rintro e w2 ⟨rfl, rfl⟩
  have lx := A0.out.lt
  have ly := A1.out.lt
  have N0 := hid (arrAt.new w0 (fun _ => 0) 61)
  have P0 := hid (N0.out.setRow c)
  have B1 := hid ((A1.out.alloc (.cells (fls fun _ => 0) 61)).setRowOther (k := w0.heap.size) (Nat.ne_of_lt ly) (fls c))
  have bX : Below w.heap.size w ((w0.alloc (.cells (fls fun _ => 0) 61)).setRow w0.heap.size (fls c)) := below_row (c0.alloc c0.size _) c0.size _
  have S0 := hid c0.size
  have LY := hid ly
  clear lx ly
  have tok1 : True := trivial
  go_wp2_with (first | (refine wpList_load_row rfl 61 _ rfl (w.heap.size) rfl 61 (fls c) (0, 0) _ A0.out Try.underlying61 rfl (by rw [fls_size]; exact info_arr) ?_) | (have _t := tok1; refine store_abs rfl 61 _ _ rfl w0.heap.size c rfl rfl 61 _ N0.out info_arr ?_; intro w9 hw9; rw [← hw9] at P0 B1 bX; clear hw9; clear N0; clear hb0 b0 tok1))
  refine (iPutI (c) _ 0 (by omega) (by omega) (fmul y x) (amt_nn (Hh.out 0 (by omega))) Hhv1.out _ w0.heap.size 61 P0.out).mono ?_
  rintro e wp0 ⟨rfl, hwp⟩
  have P1 := hid (hwp.arr P0.out)
  have B2 := hid (hwp.other B1.out (Nat.ne_of_lt LY.out))
  have bY0 := hwp.2 _ _ (bX.setCell (p := ⟨w0.heap.size, 0, none⟩) S0.out (.float .f32 (fadd ((c) 0) (fmul y x))))
  clear hwp P0 B1 bX
  go_wp2_with (first | (refine wpList_load_row rfl 61 _ rfl (w0.heap.size) rfl 61 (fls (putB c x y)) (0, 0) _ P1.out Try.underlying61 rfl (by rw [fls_size]; exact info_arr) ?_))
  refine (iFinite (putB c x y) (fun i hi => nn_lt (Hhnn.out i hi)) r n Hg1.out Hg2.out _).mono ?_
  rintro e w9 ⟨rfl, hb9⟩
  have A9 := hid (B2.out.stay hb9)
  have b9 := stp bY0 (Nat.le_refl _) hb9
  go_wp2_with (first | (refine wpList_store_row rfl 61 _ _ rfl (w.heap.size + 1) (fls r) rfl rfl 61 _ A9.out (by rw [fls_size]; exact info_arr) (by simp) (fls_one r) ?_))
  exact bodyPost_ret (results_row_tmp rfl _ _ (w.heap.size + 1) 61 (fls r) (0, 0) _ rfl (A9.out.setRow r) Try.underlying61 rfl (by rw [fls_size]; exact info_arr)) rfl ⟨rfl, below_row b9 (by omega) _⟩

set_option maxRecDepth 100000 in
theorem iPutDroplets_okT (c : Nat → Nat) (h : Amts c) (x : Nat) (hx : amtB x = true) (h0 : x ≠ 0) (h1 : ONE ≤ x) (hk : forF x = 19) (y : Nat) (hy : amtB y = true) (r : Nat → Nat) (n : Int) (g1 : Fins (putT c x y) → r = putT c x y ∧ n = 0) (g2 : ¬ Fins (putT c x y) → r = (fun _ => 0) ∧ n = 4) (w : World) :
    Calls Try.prog 119 #[.agg (fls c), .float .f32 x, .float .f32 y] w fun e w' => e = .returned (.tuple #[.agg (fls r), .int .i64 n]) ∧ Below w.heap.size w w' := by
  have hnn := putT_nn h hx hy
  have hf := amt_fin hx
  have ho1 := leq_f hx (y := 0) (by decide) (Nat.pos_of_ne_zero h0)
  have ho2 := gt_t hx (y := 0) (by decide) (Nat.pos_of_ne_zero h0)
  have hxl := amt_lt hx
  have hl := lt_f hx (y := 1065353216) (by decide) h1
  have hq := div_less (k := 19) (by decide) (amtB_iff.1 hx)
  have hqa : amtB (fdiv x (mass 19)) = true := amtB_iff.2 (Nat.lt_of_le_of_lt hq (amtB_iff.1 hx))
  have hr1 := fun w => run_div (P := Try.prog) 23 (amt_nn hx) (mass_amt (k := 19) (by decide)) (mass_ne 19) w
  have hr2 := fun w => run_mul (P := Try.prog) 23 hy hqa w
  have hv1 := (mul_eq hy hqa).2
  have hC := fun w => iClassFor_ok x hx h1 w
  rw [hk] at hC
  have HC := hid hC
  clear hC hk hq hqa
  clear h0 ho2
  have A0 := hid ((arrAt.new w c 61).alloc (.cells (fls (fun _ => 0)) 61))
  have A1 := hid (new1 w (.cells (fls c) 61) (fun _ => 0) 61)
  have b0 := boxed2 w (.cells (fls c) 61) (.cells (fls (fun _ => 0)) 61)
  have Hh := hid h
  have Hhx := hid hx
  have Hhf := hid hf
  have Hhxl := hid hxl
  have Hhy := hid hy
  have Hg1 := hid g1
  have Hg2 := hid g2
  have Hhnn := hid hnn
  have Hh1 := hid h1
  have Hhv1 := hid hv1
  clear h hx hf hxl hy g1 g2 hnn h1 hv1
  go_enter Try.func119, Try.ntmps119
  go_wp2_with (first | (refine wpList_load_row rfl 61 _ rfl (w.heap.size) rfl 61 (fls c) (0, 0) _ A0.out Try.underlying61 rfl (by rw [fls_size]; exact info_arr) ?_))
  refine (validSizes_t c Hh.out _).mono ?_
  rintro e w0 ⟨rfl, hb0⟩
  have A0 := hid (A0.out.stay hb0)
  have A1 := hid (A1.out.stay hb0)
  have c0 := stp b0 (Nat.le_refl _) hb0
  go_wp2_with fail
  refine (isFinite_t x Hhxl.out Hhf.out _).mono ?_
  rintro e w1 ⟨rfl, rfl⟩
  go_wp2_with fail
  refine (isAmount_t y Hhy.out _).mono ?_
  rintro e w2 ⟨rfl, rfl⟩
  have lx := A0.out.lt
  have ly := A1.out.lt
  have N0 := hid (arrAt.new w0 (fun _ => 0) 61)
  have P0 := hid (N0.out.setRow c)
  have B1 := hid ((A1.out.alloc (.cells (fls fun _ => 0) 61)).setRowOther (k := w0.heap.size) (Nat.ne_of_lt ly) (fls c))
  have bX : Below w.heap.size w ((w0.alloc (.cells (fls fun _ => 0) 61)).setRow w0.heap.size (fls c)) := below_row (c0.alloc c0.size _) c0.size _
  have S0 := hid c0.size
  have LY := hid ly
  clear lx ly
  have tok1 : True := trivial
  go_wp2_with (first | (refine wpList_load_row rfl 61 _ rfl (w.heap.size) rfl 61 (fls c) (0, 0) _ A0.out Try.underlying61 rfl (by rw [fls_size]; exact info_arr) ?_) | (have _t := tok1; refine store_abs rfl 61 _ _ rfl w0.heap.size c rfl rfl 61 _ N0.out info_arr ?_; intro w9 hw9; rw [← hw9] at P0 B1 bX; clear hw9; clear N0; clear hb0 b0 tok1))
  refine (HC.out _).mono ?_
  rintro e wq ⟨rfl, rfl⟩
  go_wp2_with fail
  refine (iMass 19 (by omega) _).mono ?_
  rintro e wq ⟨rfl, rfl⟩
  go_wp2_with fail
  refine (iPutI (c) _ 19 (by omega) (by omega) (fmul y (fdiv x (mass 19))) (amt_nn (Hh.out 19 (by omega))) Hhv1.out _ w0.heap.size 61 P0.out).mono ?_
  rintro e wp0 ⟨rfl, hwp⟩
  have P1 := hid (hwp.arr P0.out)
  have B2 := hid (hwp.other B1.out (Nat.ne_of_lt LY.out))
  have bY0 := hwp.2 _ _ (bX.setCell (p := ⟨w0.heap.size, 19, none⟩) S0.out (.float .f32 (fadd ((c) 19) (fmul y (fdiv x (mass 19))))))
  clear hwp P0 B1 bX
  go_wp2_with (first | (refine wpList_load_row rfl 61 _ rfl (w0.heap.size) rfl 61 (fls (putT c x y)) (0, 0) _ P1.out Try.underlying61 rfl (by rw [fls_size]; exact info_arr) ?_))
  refine (iFinite (putT c x y) (fun i hi => nn_lt (Hhnn.out i hi)) r n Hg1.out Hg2.out _).mono ?_
  rintro e w9 ⟨rfl, hb9⟩
  have A9 := hid (B2.out.stay hb9)
  have b9 := stp bY0 (Nat.le_refl _) hb9
  go_wp2_with (first | (refine wpList_store_row rfl 61 _ _ rfl (w.heap.size + 1) (fls r) rfl rfl 61 _ A9.out (by rw [fls_size]; exact info_arr) (by simp) (fls_one r) ?_))
  exact bodyPost_ret (results_row_tmp rfl _ _ (w.heap.size + 1) 61 (fls r) (0, 0) _ rfl (A9.out.setRow r) Try.underlying61 rfl (by rw [fls_size]; exact info_arr)) rfl ⟨rfl, below_row b9 (by omega) _⟩

set_option maxRecDepth 100000 in
theorem iPutDroplets_okM (c : Nat → Nat) (h : Amts c) (x : Nat) (hx : amtB x = true) (h0 : x ≠ 0) (h1 : ONE ≤ x) (k : Nat) (hk : forF x = k) (hlt : k < 19) (y : Nat) (hy : amtB y = true) (r : Nat → Nat) (n : Int) (g1 : Fins (putM c x y) → r = putM c x y ∧ n = 0) (g2 : ¬ Fins (putM c x y) → r = (fun _ => 0) ∧ n = 4) (w : World) :
    Calls Try.prog 119 #[.agg (fls c), .float .f32 x, .float .f32 y] w fun e w' => e = .returned (.tuple #[.agg (fls r), .int .i64 n]) ∧ Below w.heap.size w w' := by
  have hnn := putM_nn h h1 (by omega) hy
  have hf := amt_fin hx
  have ho1 := leq_f hx (y := 0) (by decide) (Nat.pos_of_ne_zero h0)
  have ho2 := gt_t hx (y := 0) (by decide) (Nat.pos_of_ne_zero h0)
  have hxl := amt_lt hx
  have hl := lt_f hx (y := 1065353216) (by decide) h1
  obtain ⟨hr1, hr2, hr3, hr4, hr5, hv1, hv2⟩ := put_runs x y k hx h1 hk hlt hy
  have hlnn := putL_nn h h1 (by omega) hy
  have hC := fun w => iClassFor_ok x hx h1 w
  rw [hk] at hC
  have HC := hid hC
  have hne : ¬ (k : Int) = 19 := by omega
  clear hC
  clear h0 ho2
  have A0 := hid ((arrAt.new w c 61).alloc (.cells (fls (fun _ => 0)) 61))
  have A1 := hid (new1 w (.cells (fls c) 61) (fun _ => 0) 61)
  have b0 := boxed2 w (.cells (fls c) 61) (.cells (fls (fun _ => 0)) 61)
  have Hh := hid h
  have Hhx := hid hx
  have Hhf := hid hf
  have Hhxl := hid hxl
  have Hhy := hid hy
  have Hg1 := hid g1
  have Hg2 := hid g2
  have Hhnn := hid hnn
  have Hh1 := hid h1
  have Hhv1 := hid hv1
  have Hhk := hid hk
  have Hhv2 := hid hv2
  have Hhlnn := hid hlnn
  clear h hx hf hxl hy g1 g2 hnn h1 hv1 hk hv2 hlnn
  go_enter Try.func119, Try.ntmps119
  go_wp2_with (first | (refine wpList_load_row rfl 61 _ rfl (w.heap.size) rfl 61 (fls c) (0, 0) _ A0.out Try.underlying61 rfl (by rw [fls_size]; exact info_arr) ?_))
  refine (validSizes_t c Hh.out _).mono ?_
  rintro e w0 ⟨rfl, hb0⟩
  have A0 := hid (A0.out.stay hb0)
  have A1 := hid (A1.out.stay hb0)
  have c0 := stp b0 (Nat.le_refl _) hb0
  go_wp2_with fail
  refine (isFinite_t x Hhxl.out Hhf.out _).mono ?_
  rintro e w1 ⟨rfl, rfl⟩
  go_wp2_with fail
  refine (isAmount_t y Hhy.out _).mono ?_
  rintro e w2 ⟨rfl, rfl⟩
  have lx := A0.out.lt
  have ly := A1.out.lt
  have N0 := hid (arrAt.new w0 (fun _ => 0) 61)
  have P0 := hid (N0.out.setRow c)
  have B1 := hid ((A1.out.alloc (.cells (fls fun _ => 0) 61)).setRowOther (k := w0.heap.size) (Nat.ne_of_lt ly) (fls c))
  have bX : Below w.heap.size w ((w0.alloc (.cells (fls fun _ => 0) 61)).setRow w0.heap.size (fls c)) := below_row (c0.alloc c0.size _) c0.size _
  have S0 := hid c0.size
  have LY := hid ly
  clear lx ly
  have tok1 : True := trivial
  go_wp2_with (first | (refine wpList_load_row rfl 61 _ rfl (w.heap.size) rfl 61 (fls c) (0, 0) _ A0.out Try.underlying61 rfl (by rw [fls_size]; exact info_arr) ?_) | (have _t := tok1; refine store_abs rfl 61 _ _ rfl w0.heap.size c rfl rfl 61 _ N0.out info_arr ?_; intro w9 hw9; rw [← hw9] at P0 B1 bX; clear hw9; clear N0; clear hb0 b0 tok1))
  refine (HC.out _).mono ?_
  rintro e wq ⟨rfl, rfl⟩
  go_wp2_with fail
  refine (iMass k (by omega) _).mono ?_
  rintro e wq ⟨rfl, rfl⟩
  go_wp2_with fail
  refine (iPutI (c) _ k (by omega) (by omega) (fmul y (fsub 1065353216 (fdiv (fsub x (mass k)) (mass k)))) (amt_nn (Hh.out k (by omega))) Hhv1.out _ w0.heap.size 61 P0.out).mono ?_
  rintro e wp0 ⟨rfl, hwp⟩
  have P1 := hid (hwp.arr P0.out)
  have B2 := hid (hwp.other B1.out (Nat.ne_of_lt LY.out))
  have bY0 := hwp.2 _ _ (bX.setCell (p := ⟨w0.heap.size, k, none⟩) S0.out (.float .f32 (fadd ((c) k) (fmul y (fsub 1065353216 (fdiv (fsub x (mass k)) (mass k)))))))
  rw [putL_val c x y k Hhk.out] at P1
  clear hwp P0 B1 bX
  go_wp2_with fail
  refine (iPutI (putL c x y) _ (k + 1) (by omega) (by omega) (fmul y (fdiv (fsub x (mass k)) (mass k))) (Hhlnn.out (k + 1) (by omega)) Hhv2.out _ w0.heap.size 61 P1.out).mono ?_
  rintro e wp1 ⟨rfl, hwp⟩
  have P2 := hid (hwp.arr P1.out)
  have B3 := hid (hwp.other B2.out (Nat.ne_of_lt LY.out))
  have bY1 := hwp.2 _ _ (bY0.setCell (p := ⟨w0.heap.size, (k + 1), none⟩) S0.out (.float .f32 (fadd ((putL c x y) (k + 1)) (fmul y (fdiv (fsub x (mass k)) (mass k))))))
  rw [putM_val c x y k Hhk.out] at P2
  clear hwp P1 B2 bY0
  go_wp2_with (first | (refine wpList_load_row rfl 61 _ rfl (w0.heap.size) rfl 61 (fls (putM c x y)) (0, 0) _ P2.out Try.underlying61 rfl (by rw [fls_size]; exact info_arr) ?_))
  refine (iFinite (putM c x y) (fun i hi => nn_lt (Hhnn.out i hi)) r n Hg1.out Hg2.out _).mono ?_
  rintro e w9 ⟨rfl, hb9⟩
  have A9 := hid (B3.out.stay hb9)
  have b9 := stp bY1 (Nat.le_refl _) hb9
  go_wp2_with (first | (refine wpList_store_row rfl 61 _ _ rfl (w.heap.size + 1) (fls r) rfl rfl 61 _ A9.out (by rw [fls_size]; exact info_arr) (by simp) (fls_one r) ?_))
  exact bodyPost_ret (results_row_tmp rfl _ _ (w.heap.size + 1) 61 (fls r) (0, 0) _ rfl (A9.out.setRow r) Try.underlying61 rfl (by rw [fls_size]; exact info_arr)) rfl ⟨rfl, below_row b9 (by omega) _⟩

def put1 (c : Nat → Nat) (x y : Nat) : Nat → Nat := if x < 1065353216 then putB c x y else if forF x = 19 then putT c x y else putM c x y

def NNs (c : Nat → Nat) : Prop := ∀ i, i < 20 → nnB (c i) = true

theorem upd_nn {c : Nat → Nat} (h : NNs c) {k v : Nat} (hk : k < 20) (hv : nnB v = true) : NNs (upd c k (fadd (c k) v)) := by
  intro i hi
  unfold upd
  split
  · exact (add_eq (h k hk) hv).2
  · exact h i hi

theorem put1_nn {c : Nat → Nat} (h : NNs c) {x y : Nat} (hx : amtB x = true) (hy : amtB y = true) : NNs (put1 c x y) := by
  unfold put1
  split
  · exact upd_nn h (by decide) (mul_eq hy hx).2
  · rename_i h1
    have h1' : ONE ≤ x := by unfold ONE; omega
    split
    · have hq := div_less (k := 19) (by decide) (amtB_iff.1 hx)
      exact upd_nn h (by decide) (mul_eq hy (amtB_iff.2 (Nat.lt_of_le_of_lt hq (amtB_iff.1 hx)))).2
    · rename_i hk
      obtain ⟨a1, a2, a3, a4, a5⟩ := put_facts (y := y) h1' hk
      have hlt := forF_lt x
      have hL : NNs (putL c x y) := upd_nn h hlt (mul_eq hy a5).2
      intro i hi
      unfold putM upd
      split
      · exact (add_eq (h _ (by omega)) (mul_eq hy a3).2).2
      · exact hL i hi

theorem nn_inf2 {x : Nat} (h : nnB x = true) (hf : finB x = false) : x = INF := by
  rw [nnB_iff] at h
  by_cases hx : x < INF
  · have := amt_fin (amtB_iff.2 hx)
    rw [this] at hf; cases hf
  · omega

theorem inf_add {y : Nat} (hy : nnB y = true) : finB (fadd INF y) = false := by
  have h := (add_eq (x := INF) (y := y) (by decide) hy).1
  rw [nnB_iff] at hy
  rcases Nat.lt_or_eq_of_le hy with h1 | rfl
  · obtain ⟨m, e, h2⟩ := read_lt h1
    unfold Ieee.Format.add at h
    rw [read_pINF, h2] at h
    have e2 : fadd INF y = S.write (.infinity false) := by
      have := h
      simp only [Ieee.Datum.sum] at this
      exact (Option.some.inj this).symm
    rw [e2]; decide
  · decide

theorem upd_bad {c : Nat → Nat} (h : NNs c) (hb : ¬ Fins c) {k v : Nat} (hk : k < 20) (hv : nnB v = true) : ¬ Fins (upd c k (fadd (c k) v)) := by
  intro hF
  refine hb fun i hi => ?_
  have := hF i hi
  unfold upd at this
  split at this
  · rename_i he
    subst he
    cases hc : finB (c i) with
    | true => rfl
    | false =>
      rw [nn_inf2 (h i hi) hc, inf_add hv] at this
      cases this
  · exact this

theorem put1_bad {c : Nat → Nat} (h : NNs c) (hb : ¬ Fins c) {x y : Nat} (hx : amtB x = true) (hy : amtB y = true) : ¬ Fins (put1 c x y) := by
  unfold put1
  split
  · exact upd_bad h hb (by decide) (mul_eq hy hx).2
  · rename_i h1
    have h1' : ONE ≤ x := by unfold ONE; omega
    split
    · have hq := div_less (k := 19) (by decide) (amtB_iff.1 hx)
      exact upd_bad h hb (by decide) (mul_eq hy (amtB_iff.2 (Nat.lt_of_le_of_lt hq (amtB_iff.1 hx)))).2
    · rename_i hk
      obtain ⟨a1, a2, a3, a4, a5⟩ := put_facts (y := y) h1' hk
      have hlt := forF_lt x
      have e : putM c x y = upd (putL c x y) (forF x + 1) (fadd (putL c x y (forF x + 1)) (fmul y (fdiv (fsub x (mass (forF x))) (mass (forF x))))) := by
        have : putL c x y (forF x + 1) = c (forF x + 1) := by simp [putL, upd]
        rw [this]; rfl
      rw [e]
      exact upd_bad (c := putL c x y) (upd_nn h hlt (mul_eq hy a5).2) (upd_bad h hb hlt (mul_eq hy a5).2) (by omega) (mul_eq hy a3).2

theorem fins_amts {c : Nat → Nat} (h : NNs c) (hf : Fins c) : Amts c := fun i hi => by rw [nn_amt (h i hi)]; exact hf i hi

set_option maxRecDepth 100000 in
theorem sPutM2 (c : Nat → Nat) (hc : NNs c) (x y k : Nat) (hx : amtB x = true) (h1 : ONE ≤ x) (hk : forF x = k) (hlt : k < 19) (hy : amtB y = true) (w : World) (g : Nat) (t : TypeId) (h : arrAt w g c t) :
    Calls Try.prog 184 #[.pointer (some ⟨g, 0, none⟩), .float .f32 x, .float .f32 y] w fun e w' => e = .returned (.tuple #[]) ∧ Wrote ((w.setCell ⟨g, k, none⟩ (.float .f32 (putL c x y k))).setCell ⟨g, k + 1, none⟩ (.float .f32 (putM c x y (k + 1)))) w' := by
  have hl := lt_f hx (y := 1065353216) (by decide) h1
  have e1 : putL c x y k = fadd (c k) (fmul y (fsub 1065353216 (fdiv (fsub x (mass k)) (mass k)))) := by subst hk; simp [putL, upd]
  have e2 : putM c x y (k + 1) = fadd (c (k + 1)) (fmul y (fdiv (fsub x (mass k)) (mass k))) := by subst hk; simp [putM, upd]
  rw [e1, e2]
  obtain ⟨r1, r2, r3, r4, r5, n1, n2⟩ := put_runs x y k hx h1 hk hlt hy
  have h2 := fun w => run_add (P := Try.prog) 23 (hc k (by omega)) n1 w
  have h3 := fun w => run_add (P := Try.prog) 23 (hc (k + 1) (by omega)) n2 w
  have hC := fun w => sFor x hx h1 w
  rw [hk] at hC
  have HC := hid hC
  have h' := h.set k (fadd (c k) (fmul y (fsub 1065353216 (fdiv (fsub x (mass k)) (mass k)))))
  have q0 := h.cell (k := k) (by omega)
  have f0 := h.frozen k
  have q1 : World.cell? (World.drew (w.setCell ⟨g, k, none⟩ (.float .f32 (fadd (c k) (fmul y (fsub 1065353216 (fdiv (fsub x (mass k)) (mass k)))))))) ⟨g, k + 1, none⟩ = _ := h'.cell (k := k + 1) (by omega)
  rw [show upd c k (fadd (c k) (fmul y (fsub 1065353216 (fdiv (fsub x (mass k)) (mass k))))) (k + 1) = c (k + 1) by simp [upd]] at q1
  have f1 : World.frozen? (World.drew (w.setCell ⟨g, k, none⟩ (.float .f32 (fadd (c k) (fmul y (fsub 1065353216 (fdiv (fsub x (mass k)) (mass k)))))))) ⟨g, k + 1, none⟩ = _ := h'.frozen (k + 1)
  generalize hw2 : World.drew (w.setCell ⟨g, k, none⟩ (.float .f32 (fadd (c k) (fmul y (fsub 1065353216 (fdiv (fsub x (mass k)) (mass k))))))) = w2 at q1 f1
  have hend : ∀ v, Wrote ((w.setCell ⟨g, k, none⟩ (.float .f32 (fadd (c k) (fmul y (fsub 1065353216 (fdiv (fsub x (mass k)) (mass k))))))).setCell ⟨g, k + 1, none⟩ v) (w2.setCell ⟨g, k + 1, none⟩ v).drew := by
    intro v
    subst hw2
    rw [World.setCell_drew]
    exact ⟨fun _ _ _ h => h, fun _ _ h => h.drew.drew⟩
  have Hend := hid hend
  clear hend
  have hne : ¬ (k : Int) = 19 := by omega
  clear hC hx h1 hy e1 e2 n1 n2 hk h h' hc
  go_enter Try.func184, Try.ntmps184
  go_wp2_with fail
  refine (HC.out _).mono ?_
  rintro e w1 ⟨rfl, rfl⟩
  go_wp2_with fail
  refine (sMass k (by omega) _).mono ?_
  rintro e w1 ⟨rfl, rfl⟩
  go_wp2_with fail
  refine (sMass k (by omega) _).mono ?_
  rintro e w1 ⟨rfl, rfl⟩
  go_wp2_with fail
  go_region
  all_goals go_wp2
  try rw [hw2]
  clear hw2
  go_region
  all_goals go_wp2
  exact bodyPost_end (results_none (by rfl) _ _ _) rfl ⟨rfl, Hend.out _⟩

/-- What a call that writes into one array leaves behind. -/
def Own1 (w w' : World) (g : Nat) (d : Nat → Nat) (t : TypeId) : Prop := arrAt w' g d t ∧ (∀ g' c' t', g' ≠ g → arrAt w g' c' t' → arrAt w' g' c' t') ∧ (∀ n w0, n ≤ g → Below n w0 w → Below n w0 w')

theorem own_of1 {w w' : World} {g k v : Nat} {c d : Nat → Nat} {t : TypeId} (h : arrAt w g c t) (hw : Wrote (w.setCell ⟨g, k, none⟩ (.float .f32 v)) w') (he : upd c k v = d) : Own1 w w' g d t :=
  ⟨he ▸ hw.arr h, fun _ _ _ hg h' => hw.other h' hg, fun _ _ hn hb => hw.2 _ _ (hb.setCell hn _)⟩

theorem own_of2 {w w' : World} {g k k' v v' : Nat} {c d : Nat → Nat} {t : TypeId} (h : arrAt w g c t) (hw : Wrote ((w.setCell ⟨g, k, none⟩ (.float .f32 v)).setCell ⟨g, k', none⟩ (.float .f32 v')) w') (he : upd (upd c k v) k' v' = d) : Own1 w w' g d t :=
  ⟨he ▸ hw.1 _ _ _ ((h.set k v).set k' v'), fun _ _ _ hg h' => hw.1 _ _ _ ((h'.setOther (a := ⟨g, k, none⟩) hg _).setOther (a := ⟨g, k', none⟩) hg _), fun _ _ hn hb => hw.2 _ _ ((hb.setCell hn _).setCell hn _)⟩

theorem sPut_any (c : Nat → Nat) (hc : NNs c) (x y : Nat) (hx : amtB x = true) (hy : amtB y = true) (w : World) (g : Nat) (t : TypeId) (h : arrAt w g c t) :
    Calls Try.prog 184 #[.pointer (some ⟨g, 0, none⟩), .float .f32 x, .float .f32 y] w fun e w' => e = .returned (.tuple #[]) ∧ Own1 w w' g (put1 c x y) t := by
  by_cases h1 : x < 1065353216
  · refine (sPutB c (hc 0 (by decide)) x y hx h1 hy w g t h).mono ?_
    rintro e w' ⟨rfl, hw⟩
    exact ⟨rfl, own_of1 h hw ((putB_eq c x y).trans (if_pos h1).symm)⟩
  · have h1' : ONE ≤ x := by unfold ONE; omega
    by_cases hk : forF x = 19
    · refine (sPutT c (hc 19 (by decide)) x y hx h1' hk hy w g t h).mono ?_
      rintro e w' ⟨rfl, hw⟩
      exact ⟨rfl, own_of1 h hw ((putT_eq c x y).trans (by unfold put1; rw [if_neg h1, if_pos hk]))⟩
    · have hlt := forF_lt x
      refine (sPutM2 c hc x y (forF x) hx h1' rfl (by omega) hy w g t h).mono ?_
      rintro e w' ⟨rfl, hw⟩
      exact ⟨rfl, own_of2 h hw (by rw [putL_eq, putM_eq]; unfold put1; rw [if_neg h1, if_neg hk])⟩

theorem iPut_any (c : Nat → Nat) (h : Amts c) (x : Nat) (hx : amtB x = true) (h0 : x ≠ 0) (y : Nat) (hy : amtB y = true) (r : Nat → Nat) (n : Int) (g1 : Fins (put1 c x y) → r = put1 c x y ∧ n = 0) (g2 : ¬ Fins (put1 c x y) → r = (fun _ => 0) ∧ n = 4) (w : World) :
    Calls Try.prog 119 #[.agg (fls c), .float .f32 x, .float .f32 y] w fun e w' => e = .returned (.tuple #[.agg (fls r), .int .i64 n]) ∧ Below w.heap.size w w' := by
  by_cases h1 : x < 1065353216
  · have e : put1 c x y = putB c x y := if_pos h1
    rw [e] at g1 g2
    exact iPutDroplets_okB c h x hx h0 h1 y hy r n g1 g2 w
  · have h1' : ONE ≤ x := by unfold ONE; omega
    by_cases hk : forF x = 19
    · have e : put1 c x y = putT c x y := by unfold put1; rw [if_neg h1, if_pos hk]
      rw [e] at g1 g2
      exact iPutDroplets_okT c h x hx h0 h1' hk y hy r n g1 g2 w
    · have hlt := forF_lt x
      have e : put1 c x y = putM c x y := by unfold put1; rw [if_neg h1, if_neg hk]
      rw [e] at g1 g2
      exact iPutDroplets_okM c h x hx h0 h1' (forF x) rfl (by omega) y hy r n g1 g2 w

theorem mass_ne {k : Nat} : mass k ≠ 0 := by unfold mass; omega

set_option maxRecDepth 100000 in
theorem toA20 (c : Nat → Nat) (w : World) :
    Calls Try.prog 108 #[.agg (fls c)] w fun e w' => e = .returned (.agg (fls c)) ∧ Below w.heap.size w w' := by
  have b0 : Below w.heap.size w (w.alloc (.cells (fls c) 56)) := (Below.refl _ _).alloc (Nat.le_refl _) _
  have a0 := hid (arrAt.new w c 56)
  go_enter Try.func108, Try.ntmps108
  go_wp2
  go_loopw [4] (fun i wr => ∃ k : Nat, k ≤ 20 ∧ i = .int .i64 k ∧ Hid (arrAt wr w.heap.size c 56) ∧ Hid (arrAt wr (w.heap.size + 1) (fun _ => 0) 56) ∧ Hid (arrAt wr (w.heap.size + 1 + 1) (cut c k) 56) ∧ Hid (Below w.heap.size w wr)) (fun i _ => 20 - (intOf i).toNat)
  case atStart =>
    refine ⟨0, by omega, rfl, hid ((a0.out.alloc _).alloc _), hid ?_, hid ?_, hid ((b0.alloc (by simp) _).alloc (by simp; omega) _)⟩
    · have := arrAt.new (w.alloc (.cells (fls c) 56)) (fun _ => 0) 56
      have e : (w.alloc (.cells (fls c) 56)).heap.size = w.heap.size + 1 := by simp
      rw [e] at this
      exact this.alloc _
    · have := arrAt.new ((w.alloc (.cells (fls c) 56)).alloc (.cells (fls fun _ => 0) 56)) (fun _ => 0) 56
      have e : ((w.alloc (.cells (fls c) 56)).alloc (.cells (fls fun _ => 0) 56)).heap.size = w.heap.size + 1 + 1 := by simp
      rw [e] at this
      exact this.ext (fun i _ => (cut_zero' c i).symm)
  case round =>
    obtain ⟨k, hk, rfl, h0, h1, h2, hb⟩ := hrel
    by_cases hlt : k < 20
    · have q0 := h0.out.cell hlt
      have q2 := h2.out.cell hlt
      have f2 := h2.out.frozen k
      go_wp2
      go_roundw
      case rel => exact ⟨k + 1, by omega, by go_num, hid (h0.out.setOther (by simp; omega) _), hid (h1.out.setOther (by simp) _), hid ((h2.out.set k (c k)).ext (fun i _ => cut_succ c k i)), hid (hb.out.setCell (by simp; omega) _)⟩
      case measure => simp [intOf]; omega
    · obtain rfl : k = 20 := by omega
      have h2' := hid (h2.out.ext (cut_all c))
      clear h2
      go_wp2_with (first | (refine wpList_load_row rfl 56 _ rfl (w.heap.size + 1 + 1) rfl 56 (fls c) (0, 0) _ h2'.out Try.underlying56 rfl (by rw [fls_size]; exact info_a20) ?_) | (refine wpList_store_row rfl 56 _ _ rfl (w.heap.size + 1) (fls c) rfl rfl 56 _ h1.out (by rw [fls_size]; exact info_a20) (by simp) (fls_one c) ?_))
      exact bodyPost_ret (results_cell_row rfl _ _ (w.heap.size + 1) 56 (fls c) (0, 0) _ rfl (h1.out.setRow c) Try.underlying56 rfl (by rw [fls_size]; exact info_a20)) rfl ⟨rfl, below_row hb.out (by omega) _⟩

theorem info_kern : (Try.prog.info? 58).map (·.size) = some 400 := by kernel_rfl

theorem info_k20 : (Try.prog.info? 57).map (·.size) = some 400 := by kernel_rfl

@[go_sem] theorem zero_kern : Try.zeroCells58 = vls 400 (flw fun _ => 0) := by kernel_rfl

set_option maxRecDepth 100000 in
theorem toKernel (c : Nat → Nat) (w : World) :
    Calls Try.prog 40 #[.agg (vls 400 (flw c))] w fun e w' => e = .returned (.agg (vls 400 (flw c))) ∧ Below w.heap.size w w' := by
  have A0 := hid (((vAt.new w 400 (flw c) 57).alloc (.cells (vls 400 (flw fun _ => 0)) 58)).alloc (.cells (vls 400 (flw fun _ => 0)) 58))
  have A1 := hid ((vAt.new1 w (.cells (vls 400 (flw c)) 57) 400 (flw fun _ => 0) 58).alloc (.cells (vls 400 (flw fun _ => 0)) 58))
  have A2 := hid (vAt.new2 w (.cells (vls 400 (flw c)) 57) (.cells (vls 400 (flw fun _ => 0)) 58) 400 (flw fun _ => 0) 58)
  have b0 := boxed3 w (.cells (vls 400 (flw c)) 57) (.cells (vls 400 (flw fun _ => 0)) 58) (.cells (vls 400 (flw fun _ => 0)) 58)
  go_enter Try.func40, Try.ntmps40
  go_wp2_with fail
  go_loopw [4] (fun i wr => ∃ k : Nat, k ≤ 20 ∧ i = .int .i64 k ∧ Hid (vAt wr w.heap.size 400 (flw c) 57) ∧ Hid (vAt wr (w.heap.size + 1) 400 (flw fun _ => 0) 58) ∧ Hid (vAt wr (w.heap.size + 1 + 1) 400 (flw (rowsP c (fun _ => 0) k)) 58) ∧ Hid (Below w.heap.size w wr)) (fun i _ => 20 - (intOf i).toNat)
  case atStart => exact ⟨0, by omega, rfl, A0, A1, hid (A2.out.ext fun i _ => by unfold flw; rw [rowsP_zero]), hid b0⟩
  case round =>
    obtain ⟨k, hk, rfl, h0, h1, h2, hb⟩ := hrel
    by_cases hlt : k < 20
    · go_wp2_with (refine wpList_load_krow rfl 56 _ rfl w.heap.size k rfl c 57 h0.out hlt _ Try.underlying56 rfl info_a20 ?_)
      refine (toA20 (rowK c k) _).mono ?_
      rintro e w1 ⟨rfl, hb1⟩
      have g0 := hid (h0.out.stay hb1)
      have g1 := hid (h1.out.stay hb1)
      have g2 := hid (h2.out.stay hb1)
      have c1 := stp hb.out (Nat.le_refl _) hb1
      have n0 := hid (g0.out.setPartOther (k := w.heap.size + 1 + 1) (by omega) (k * 20) (fls (rowK c k)).toList)
      have n1 := hid (g1.out.setPartOther (k := w.heap.size + 1 + 1) (by omega) (k * 20) (fls (rowK c k)).toList)
      have n2 := hid g2.out.setKRow
      have nb := below_cells (g := w.heap.size + 1 + 1) (by omega) (fls (rowK c k)).toList (k * 20) c1
      clear h0 h1 h2 hb
      go_wp2_with (refine wpList_store_krow rfl 56 _ _ rfl (w.heap.size + 1 + 1) k (rowK c k) rfl rfl (rowsP c (fun _ => 0) k) 58 g2.out hlt info_a20 ?_; intro w9 hw9; rw [← hw9] at n0 n1 n2 nb; clear hw9 g0 g1 g2)
      go_roundw
      case rel => exact ⟨k + 1, by omega, by go_num, n0, n1, n2, hid nb⟩
      case measure => simp [intOf]; omega
    · obtain rfl : k = 20 := by omega
      have h2' := hid (h2.out.ext (d := flw c) fun i hi => by unfold flw; rw [rowsP_all _ _ i hi])
      clear h2
      go_wp2_with (first | (refine wpList_load_row rfl 58 _ rfl (w.heap.size + 1 + 1) rfl 58 (vls 400 (flw c)) (0, 0) _ h2'.out Try.underlying58 rfl (by rw [vls_size]; exact info_kern) ?_) | (refine wpList_store_row rfl 58 _ _ rfl (w.heap.size + 1) (vls 400 (flw c)) rfl rfl 58 _ h1.out (by rw [vls_size]; exact info_kern) (by simp) (vls_one (flw_one c)) ?_))
      exact bodyPost_ret (results_cell_row rfl _ _ (w.heap.size + 1) 58 (vls 400 (flw c)) (0, 0) _ rfl (h1.out.setRow (flw c)) Try.underlying58 rfl (by rw [vls_size]; exact info_kern)) rfl ⟨rfl, below_row hb.out (by omega) _⟩

theorem info_f32s : (Try.prog.info? 23).map (·.size) = some 1 := by kernel_rfl

def Plain (f : FuncId) : Prop := ∀ (args : Array Value) (w : World), (callFunc f args).run Try.prog w = .ok (.enter f args) w

theorem run_clo2 {f : FuncId} (hf : Plain f) (a : Act) (p q r : Tmp) (caps : Array Value) (v1 v2 : Value) (hx : a.eval (.tmp p) = .func (.func f) #[] caps) (h1 : a.eval (.tmp q) = v1) (h2 : a.eval (.tmp r) = v2) (d : Option Tmp) (ats : Array TypeId) (t : TypeId) (ps : String) (af : Array Edge) (gd : Option (Nat × Bool)) (w : World) :
    (execOp a.eval ⟨d, .call { callee := .value (.tmp p), args := #[.tmp q, .tmp r], argTypes := ats }, t, ps, af, gd⟩).run Try.prog w = .ok (.enter f (#[v1, v2] ++ caps)) w := by
  have hx' : a.tmps[p]?.getD undef = .func (.func f) #[] caps := by rw [← hx]; simp [Act.eval]
  have h1' : a.tmps[q]?.getD undef = v1 := by rw [← h1]; simp [Act.eval]
  have h2' : a.tmps[r]?.getD undef = v2 := by rw [← h2]; simp [Act.eval]
  have hc := hf (#[v1, v2] ++ caps) w
  clear hx h1 h2 hf
  unfold execOp
  go_simp

/-- The first n numbers are finite. -/
def FinN (N : Nat → Nat) (n : Nat) : Prop := ∀ i, i < n → finB (N i) = true

set_option maxRecDepth 100000 in
theorem sTold3 (N : Nat → Nat) (hN : ∀ i, i < 400 → N i < 4294967296) (r : Nat → Nat) (q : Int) (h1 : FinN N 400 → r = N ∧ q = 0) (h2 : ¬ FinN N 400 → r = (fun _ => 0) ∧ q = 4) (w : World) :
    Calls Try.prog 179 #[.agg (vls 400 (flw N))] w fun e w' => e = .returned (.tuple #[.agg (vls 400 (flw r)), .int .i64 q]) ∧ Below w.heap.size w w' := by
  have A0 := hid ((vAt.new w 400 (flw N) 58).alloc (.cells (vls 400 (flw fun _ => 0)) 58))
  have A3 := hid (vAt.new1 w (.cells (vls 400 (flw N)) 58) 400 (flw fun _ => 0) 58)
  have b0 := boxed2 w (.cells (vls 400 (flw N)) 58) (.cells (vls 400 (flw fun _ => 0)) 58)
  have HN := hid hN
  have H1 := hid h1
  have H2 := hid h2
  clear hN h1 h2
  go_enter Try.func179, Try.ntmps179
  go_wp2_with fail
  go_loop [4] (fun i => ∃ k : Nat, k ≤ 20 ∧ i = .int .i64 k ∧ Hid (FinN N (k * 20))) (fun i => 20 - (intOf i).toNat)
  case atStart => exact ⟨0, by omega, rfl, hid fun i hi => by omega⟩
  case round =>
    obtain ⟨k, hk, rfl, hk2⟩ := hrel
    by_cases hlt : k < 20
    · have HL := hid hlt
      have hk3 : (k : Int) < 20 := by omega
      go_wp2_with fail
      go_loop [5] (fun i => ∃ j : Nat, j ≤ 20 ∧ i = .int .i64 j ∧ Hid (FinN N (k * 20 + j))) (fun i => 20 - (intOf i).toNat)
      case atStart => exact ⟨0, by omega, rfl, hk2⟩
      case round =>
        obtain ⟨j, hj, rfl, hj2⟩ := hrel
        by_cases hlj : j < 20
        · have hn : k * 20 + j < 400 := by have := HL.out; omega
          have hj3 : (j : Int) < 20 := by omega
          have q0 := A0.out.fcell hn
          have HX2 := hid (HN.out _ hn)
          rcases hfin : finB (N (k * 20 + j)) with _ | _
          · have HX := hid hfin
            have hne : Hid (¬ FinN N 400) := hid (fun hall => by have := hall _ hn; rw [hfin] at this; cases this)
            obtain ⟨rfl, rfl⟩ := H2.out hne.out
            clear hfin hn
            go_wp2_with fail
            refine (sFinite_f (N (k * 20 + j)) HX2.out HX.out _).mono ?_
            rintro e w3 ⟨rfl, hb3⟩
            have A3 := hid (A3.out.stay hb3)
            have b3 := stp b0 (Nat.le_refl _) hb3
            go_wp2_with (refine wpList_store_row rfl 58 _ _ rfl (w.heap.size + 1) (vls 400 (flw fun _ => 0)) rfl rfl 58 _ A3.out (by rw [vls_size]; exact info_kern) (by simp) (vls_one (flw_one _)) ?_)
            exact bodyPost_ret (results_row_tmp rfl _ _ (w.heap.size + 1) 58 (vls 400 (flw fun _ => 0)) (0, 0) _ rfl (A3.out.setRow (flw fun _ => 0)) Try.underlying58 rfl (by rw [vls_size]; exact info_kern)) rfl ⟨rfl, below_row b3 (by omega) _⟩
          · have HX := hid hfin
            have HFN : Hid (FinN N (k * 20 + j + 1)) := hid (all_step hj2.out hfin)
            clear hfin hn
            go_wp2_with fail
            refine (sFinite_t (N (k * 20 + j)) HX2.out HX.out _).mono ?_
            rintro e w3 ⟨rfl, rfl⟩
            go_wp2
            go_round
            case rel => exact ⟨j + 1, by omega, by go_num, HFN⟩
            case measure => simp [intOf]; omega
        · obtain rfl : j = 20 := by omega
          go_wp2
          go_round
          case rel => exact ⟨k + 1, by omega, by go_num, by rw [show (k + 1) * 20 = k * 20 + 20 by omega]; exact hj2⟩
          case measure => simp [intOf]; omega
    · obtain rfl : k = 20 := by omega
      have hall : FinN N 400 := hk2.out
      obtain ⟨rfl, rfl⟩ := H1.out hall
      go_wp2_with (first | (refine wpList_load_row rfl 58 _ rfl (w.heap.size) rfl 58 (vls 400 (flw r)) (0, 0) _ A0.out Try.underlying58 rfl (by rw [vls_size]; exact info_kern) ?_) | (refine wpList_store_row rfl 58 _ _ rfl (w.heap.size + 1) (vls 400 (flw r)) rfl rfl 58 _ A3.out (by rw [vls_size]; exact info_kern) (by simp) (vls_one (flw_one _)) ?_))
      exact bodyPost_ret (results_row_tmp rfl _ _ (w.heap.size + 1) 58 (vls 400 (flw r)) (0, 0) _ rfl (A3.out.setRow (flw r)) Try.underlying58 rfl (by rw [vls_size]; exact info_kern)) rfl ⟨rfl, below_row b0 (by omega) _⟩

set_option maxHeartbeats 2000000 in
set_option maxRecDepth 100000 in
theorem iKernelOf2 {f : FuncId} (hf : Plain f) (caps : Array Value) (N : Nat → Nat) (r : Nat → Nat) (q : Int) (h1 : FinN N 400 → r = N ∧ q = 0) (h2 : ¬ FinN N 400 → r = (fun _ => 0) ∧ q = 4) (w : World)
    (hC : ∀ i j, i < 20 → j < 20 → ∀ w', Below w.heap.size w w' → Calls Try.prog f (#[.int .i64 (i : Int), .int .i64 (j : Int)] ++ caps) w' fun e w'' => ∃ v, Fits (N (i * 20 + j)) v ∧ e = .returned (.float .f32 v) ∧ Below w'.heap.size w' w'') :
    Calls Try.prog 113 #[.func (.func f) #[] caps] w fun e w' => e = .returned (.tuple #[.agg (vls 400 (flw r)), .int .i64 q]) ∧ Below w.heap.size w w' := by
  have k0 : Hid (Kept w [(w.heap.size + 1, vls 400 (flw fun _ => 0), 58), (w.heap.size, vls 400 (flw fun _ => 0), 58)] ((w.alloc (.cells (vls 400 (flw fun _ => 0)) 58)).alloc (.cells (vls 400 (flw fun _ => 0)) 58))) := hid ((((Kept.nil w).push _ _).push _ _).sub (by simp))
  have HF := hid hf
  have H1 := hid h1
  have H2 := hid h2
  have HC := hid hC
  clear hf h1 h2 hC
  go_enter Try.func113, Try.ntmps113
  go_wp2_with fail
  go_loopw [7] (fun i wr => ∃ k : Nat, k ≤ 20 ∧ i = .int .i64 k ∧ Hid (Kept w [(w.heap.size + 1, vls 400 (flw (prt N (fun _ => 0) (k * 20))), 58), (w.heap.size, vls 400 (flw fun _ => 0), 58)] wr) ∧ Hid (FinN N (k * 20))) (fun i _ => 20 - (intOf i).toNat)
  case atStart => exact ⟨0, by omega, rfl, k0, hid fun i hi => by omega⟩
  case round =>
    obtain ⟨k, hk, rfl, hk1, hk2⟩ := hrel
    by_cases hlt : k < 20
    · have HL := hid hlt
      clear k0
      go_wp2_with fail
      go_loopw [10] (fun i wr => ∃ j : Nat, j ≤ 20 ∧ i = .int .i64 j ∧ Hid (Kept w [(w.heap.size + 1, vls 400 (flw (prt N (fun _ => 0) (k * 20 + j))), 58), (w.heap.size, vls 400 (flw fun _ => 0), 58)] wr) ∧ Hid (FinN N (k * 20 + j))) (fun i _ => 20 - (intOf i).toNat)
      case atStart => exact ⟨0, by omega, rfl, hk1, hk2⟩
      case round =>
        obtain ⟨j, hj, rfl, hj1, hj2⟩ := hrel
        by_cases hlj : j < 20
        · have HJ := hid hlj
          have hk3 : (k : Int) < 20 := by omega
          have hj3 : (j : Int) < 20 := by omega
          clear hk1 hk2
          go_wp2_with fail
          refine region_kept (w0 := w) (l := [(w.heap.size, vls 400 (flw fun _ => 0), 58)]) 9 #[false, false, false, false, false, false, false, false, false] (by kernel_rfl) rfl rfl ?_
          have kd := hj1.out.drew
          clear hj1
          generalize wr.drew = wd at kd ⊢
          refine take_val 0 _ _ (.int .i64 (k : Int)) rfl (by rfl) (by kernel_rfl) (by kernel_rfl) (by kernel_rfl) (fun w => by rfl) rfl rfl kd.tail ?_
          refine take_val 1 _ _ (.int .i64 (j : Int)) rfl (by rfl) (by kernel_rfl) (by kernel_rfl) (by kernel_rfl) (fun w => by rfl) rfl rfl kd.tail ?_
          refine take_val 2 _ _ (.func (.func f) #[] caps) rfl (by rfl) (by kernel_rfl) (by kernel_rfl) (by kernel_rfl) (fun w => by rfl) rfl rfl kd.tail ?_
          refine take_val 3 _ _ (.int .i64 (k : Int)) rfl (by rfl) (by kernel_rfl) (by kernel_rfl) (by kernel_rfl) (fun w => by rfl) rfl rfl kd.tail ?_
          refine take_val 4 _ _ (.int .i64 (j : Int)) rfl (by rfl) (by kernel_rfl) (by kernel_rfl) (by kernel_rfl) (fun w => by rfl) rfl rfl kd.tail ?_
          simp only [Act.put, List.setIfInBounds_toArray, List.set_cons_zero, List.set_cons_succ]
          refine take_val 6 _ _ (.pointer (some ⟨w.heap.size + 1, k * 20, none⟩)) rfl (by rfl) (by kernel_rfl) (by kernel_rfl) (by kernel_rfl) (fun w => by unfold execOp; go_simp) rfl rfl kd.tail ?_
          have hb9 : Below w.heap.size w wd := kd.1
          have hcall := HC.out k j HL.out HJ.out wd hb9
          refine wpAnyH_ready (rs := [5]) (by kernel_rfl) (by simp) ?_
          refine callKE 5 _ (Fits (N (k * 20 + j))) kd rfl (by rfl) f (#[.int .i64 (k : Int), .int .i64 (j : Int)] ++ caps) (fun w => run_clo2 HF.out _ 15 16 17 caps (.int .i64 (k : Int)) (.int .i64 (j : Int)) (by rfl) (by rfl) (by rfl) _ _ _ _ _ _ w) rfl ?hc (fun v w1 hv k1 => ?_) AllReadyH.nil
          case hc => exact hcall
          refine ⟨k1.tail, ?_⟩
          simp only [Act.put, List.setIfInBounds_toArray, List.set_cons_zero, List.set_cons_succ]
          refine take_val 7 _ _ (.pointer (some ⟨w.heap.size + 1, k * 20 + j, none⟩)) rfl (by rfl) (by kernel_rfl) (by kernel_rfl) (by kernel_rfl) (fun w => by unfold execOp; go_simp) rfl rfl k1.tail ?_
          refine wpAnyH_ready (rs := [8]) (by kernel_rfl) (by simp) ?_
          refine storeCellK 8 _ k1 (by omega) (by simp) rfl (by rfl) 23 _ _ rfl (k * 20 + j) v (by have := HL.out; have := HJ.out; omega) (by rfl) (by rfl) info_f32s rfl (fun w2 k2 => ?_) AllReadyH.nil
          refine ⟨k2.tail, ?_⟩
          refine wpAnyH_done (by kernel_rfl) (NoPanic.normal ?_) _
          simp only [Act.put, List.setIfInBounds_toArray, List.set_cons_zero, List.set_cons_succ]
          have K2 := hid k2
          clear hcall kd k1 k2 hb9
          have hn : k * 20 + j < 400 := by have := HL.out; have := HJ.out; omega
          have HV := hid hv
          clear hv
          rcases hfin : finB (N (k * 20 + j)) with _ | _
          · have HX := hid (HV.out.2.2 hfin)
            have HX2 := hid HV.out.1
            have hne : Hid (¬ FinN N 400) := hid (fun hall => by have := hall _ hn; rw [hfin] at this; cases this)
            obtain ⟨rfl, rfl⟩ := H2.out hne.out
            have q0 : w2.cell? ⟨w.heap.size + 1, k * 20 + j, none⟩ = some (.float .f32 v) := (vAt.fcell (c := upd (prt N (fun _ => 0) (k * 20 + j)) (k * 20 + j) v) (K2.out.at (x := (w.heap.size + 1, vls 400 (flw (upd (prt N (fun _ => 0) (k * 20 + j)) (k * 20 + j) v)), 58)) (by simp)) hn).trans (by rw [show upd (prt N (fun _ => 0) (k * 20 + j)) (k * 20 + j) v (k * 20 + j) = v from if_pos rfl])
            clear hfin hn HV
            go_wp2_with fail
            refine (isFinite_f v HX2.out HX.out _).mono ?_
            rintro e w3 ⟨rfl, hb3⟩
            have K3 := hid (K2.out.stay hb3)
            have A3 : Hid (vAt w3 w.heap.size 400 (flw fun _ => 0) 58) := hid (K3.out.at (x := (w.heap.size, vls 400 (flw fun _ => 0), 58)) (by simp))
            have b3 := K3.out.1
            go_wp2_with (refine wpList_store_row rfl 58 _ _ rfl (w.heap.size) (vls 400 (flw fun _ => 0)) rfl rfl 58 _ A3.out (by rw [vls_size]; exact info_kern) (by simp) (vls_one (flw_one _)) ?_)
            exact bodyPost_ret (results_row_tmp rfl _ _ (w.heap.size) 58 (vls 400 (flw fun _ => 0)) (0, 0) _ rfl (A3.out.setRow (flw fun _ => 0)) Try.underlying58 rfl (by rw [vls_size]; exact info_kern)) rfl ⟨rfl, below_row b3 (Nat.le_refl _) _⟩
          · obtain rfl : v = N (k * 20 + j) := HV.out.2.1 hfin
            have HX := hid hfin
            have HX2 := hid HV.out.1
            have HFN : Hid (FinN N (k * 20 + j + 1)) := hid (all_step hj2.out hfin)
            have q0 : w2.cell? ⟨w.heap.size + 1, k * 20 + j, none⟩ = some (.float .f32 (N (k * 20 + j))) := (vAt.fcell (c := upd (prt N (fun _ => 0) (k * 20 + j)) (k * 20 + j) (N (k * 20 + j))) (K2.out.at (x := (w.heap.size + 1, vls 400 (flw (upd (prt N (fun _ => 0) (k * 20 + j)) (k * 20 + j) (N (k * 20 + j)))), 58)) (by simp)) hn).trans (by rw [show upd (prt N (fun _ => 0) (k * 20 + j)) (k * 20 + j) (N (k * 20 + j)) (k * 20 + j) = N (k * 20 + j) from if_pos rfl])
            have K2 := hid (by have := K2.out; rw [show upd (prt N (fun _ => 0) (k * 20 + j)) (k * 20 + j) (N (k * 20 + j)) = prt N (fun _ => 0) (k * 20 + j + 1) from funext fun i => part_succ N (fun _ => 0) (k * 20 + j) i] at this; exact this)
            clear hfin hn HV
            go_wp2_with fail
            refine (isFinite_t (N (k * 20 + j)) HX2.out HX.out _).mono ?_
            rintro e w3 ⟨rfl, rfl⟩
            go_wp2
            go_roundw
            case rel => exact ⟨j + 1, by omega, by go_num, K2, HFN⟩
            case measure => simp [intOf]; omega
        · obtain rfl : j = 20 := by omega
          go_wp2
          go_roundw
          case rel => exact ⟨k + 1, by omega, by go_num, by rw [show (k + 1) * 20 = k * 20 + 20 by omega]; exact hj1, by rw [show (k + 1) * 20 = k * 20 + 20 by omega]; exact hj2⟩
          case measure => simp [intOf]; omega
    · obtain rfl : k = 20 := by omega
      have hall : FinN N 400 := hk2.out
      obtain ⟨rfl, rfl⟩ := H1.out hall
      have A3 : Hid (vAt wr w.heap.size 400 (flw fun _ => 0) 58) := hid (hk1.out.at (x := (w.heap.size, vls 400 (flw fun _ => 0), 58)) (by simp))
      have A4 : Hid (vAt wr (w.heap.size + 1) 400 (flw r) 58) := hid ((show vAt wr (w.heap.size + 1) 400 (flw (prt r (fun _ => 0) 400)) 58 from hk1.out.at (x := (w.heap.size + 1, vls 400 (flw (prt r (fun _ => 0) 400)), 58)) (by simp)).ext fun i hi => by unfold flw; rw [show prt r (fun _ => 0) 400 i = r i from if_pos hi])
      have b3 := hk1.out.1
      go_wp2_with (first | (refine wpList_load_row rfl 58 _ rfl (w.heap.size + 1) rfl 58 (vls 400 (flw r)) (0, 0) _ A4.out Try.underlying58 rfl (by rw [vls_size]; exact info_kern) ?_) | (refine wpList_store_row rfl 58 _ _ rfl (w.heap.size) (vls 400 (flw r)) rfl rfl 58 _ A3.out (by rw [vls_size]; exact info_kern) (by simp) (vls_one (flw_one _)) ?_))
      exact bodyPost_ret (results_row_tmp rfl _ _ (w.heap.size) 58 (vls 400 (flw r)) (0, 0) _ rfl (A3.out.setRow (flw r)) Try.underlying58 rfl (by rw [vls_size]; exact info_kern)) rfl ⟨rfl, below_row b3 (Nat.le_refl _) _⟩

def shareN (c l : Nat → Nat) (k : Nat) : Nat := shareW (c k) (l k)

set_option maxHeartbeats 1000000 in
set_option maxRecDepth 100000 in
theorem iShares (c l : Nat → Nat) (hc : Amts c) (hl : ∀ i, i < 20 → l i < 4294967296) (w : World) :
    Calls Try.prog 111 #[.agg (fls c), .agg (fls l)] w fun e w' => e = .returned (.agg (fls (shareN c l))) ∧ Below w.heap.size w w' := by
  have k0 : Hid (Kept w [(w.heap.size + 1 + 1 + 1, fls (prt (shareN c l) (fun _ => 0) 0), 61), (w.heap.size + 1 + 1, fls fun _ => 0, 61), (w.heap.size + 1, fls l, 61), (w.heap.size, fls c, 61)] ((((w.alloc (.cells (fls c) 61)).alloc (.cells (fls l) 61)).alloc (.cells (fls fun _ => 0) 61)).alloc (.cells (fls fun _ => 0) 61))) := hid ((((((Kept.nil w).push _ _).push _ _).push _ _).push _ _).sub (by
    rw [show fls (prt (shareN c l) (fun _ => 0) 0) = fls fun _ => 0 from fls_ext fun i _ => part_zero _ _ i]; simp))
  have HC := hid hc
  have HL := hid hl
  have A1 : Hid (arrAt ((((w.alloc (.cells (fls c) 61)).alloc (.cells (fls l) 61)).alloc (.cells (fls fun _ => 0) 61)).alloc (.cells (fls fun _ => 0) 61)) (w.heap.size + 1) l 61) := hid (k0.out.at (x := (w.heap.size + 1, fls l, 61)) (by simp))
  clear hc hl
  go_enter Try.func111, Try.ntmps111
  go_wp2_with (refine wpList_load_row rfl 61 _ rfl (w.heap.size + 1) rfl 61 (fls l) (0, 0) _ A1.out Try.underlying61 rfl (by rw [fls_size]; exact info_arr) ?_)
  go_loopw [9] (fun i wr => ∃ k : Nat, k ≤ 20 ∧ i = .int .i64 k ∧ Hid (Kept w [(w.heap.size + 1 + 1 + 1, fls (prt (shareN c l) (fun _ => 0) k), 61), (w.heap.size + 1 + 1, fls fun _ => 0, 61), (w.heap.size + 1, fls l, 61), (w.heap.size, fls c, 61)] wr)) (fun i _ => 20 - (intOf i).toNat)
  case atStart => exact ⟨0, by omega, rfl, k0⟩
  case round =>
    obtain ⟨k, hk, rfl, h0⟩ := hrel
    clear k0 A1
    by_cases hlt : k < 20
    · have HK := hid hlt
      have hk3 : (k : Int) < 20 := by omega
      have hix := ix 61 Try.underlying61 l k hlt
      have S3 : arrAt wr (w.heap.size + 1 + 1 + 1) (prt (shareN c l) (fun _ => 0) k) 61 := h0.out.at (x := (w.heap.size + 1 + 1 + 1, fls (prt (shareN c l) (fun _ => 0) k), 61)) (by simp)
      have S2 : arrAt wr (w.heap.size + 1 + 1) (fun _ => 0) 61 := h0.out.at (x := (w.heap.size + 1 + 1, fls fun _ => 0, 61)) (by simp)
      have S1 : arrAt wr (w.heap.size + 1) l 61 := h0.out.at (x := (w.heap.size + 1, fls l, 61)) (by simp)
      have S0 : arrAt wr (w.heap.size) c 61 := h0.out.at (x := (w.heap.size, fls c, 61)) (by simp)
      have NEQ : ∀ y ∈ [(w.heap.size + 1 + 1, fls fun _ => 0, 61), (w.heap.size + 1, fls l, 61), (w.heap.size, fls c, 61)], y.1 ≠ w.heap.size + 1 + 1 + 1 := by intro y hy; simp only [List.mem_cons, List.not_mem_nil, or_false] at hy; rcases hy with rfl | rfl | rfl <;> (show (_ : Nat) ≠ _; omega)
      have K1 := h0.out.fcell (n := 20) (c := prt (shareN c l) (fun _ => 0) k) (by omega) NEQ k 1065353216
      have q3 := S3.cell HK.out
      have f3 := S3.frozen k
      have q0 : (wr.setCell ⟨w.heap.size + 1 + 1 + 1, k, none⟩ (.float .f32 1065353216)).cell? ⟨w.heap.size, k, none⟩ = some (.float .f32 (c k)) := (S0.setOther (a := ⟨w.heap.size + 1 + 1 + 1, k, none⟩) (by simp; omega) _).cell HK.out
      have q4 := (S3.set k 1065353216).cell HK.out
      have f4 := (S3.set k 1065353216).frozen k
      rcases hg : (FloatKind.f32.format.order (l k) (c k) == some .gt) with _ | _
      · have hs : shareN c l k = 1065353216 := share_none hg
        have K2 : Hid (Kept w [(w.heap.size + 1 + 1 + 1, fls (prt (shareN c l) (fun _ => 0) (k + 1)), 61), (w.heap.size + 1 + 1, fls fun _ => 0, 61), (w.heap.size + 1, fls l, 61), (w.heap.size, fls c, 61)] (wr.setCell ⟨w.heap.size + 1 + 1 + 1, k, none⟩ (.float .f32 1065353216))) := hid (by
          rw [← show upd (prt (shareN c l) (fun _ => 0) k) k 1065353216 = prt (shareN c l) (fun _ => 0) (k + 1) from funext fun i => by rw [← part_succ (shareN c l) (fun _ => 0) k i, hs]]
          exact K1)
        clear K1 NEQ hs S0 S1 S2 S3
        go_wp2
        go_roundw
        case rel => exact ⟨k + 1, by omega, by go_num, K2⟩
        case measure => simp [intOf]; omega
      · have hd := share_ok (HC.out k HK.out) (HL.out k HK.out) hg
        have r5 := fun w => run_float_arith (P := Try.prog) w .quo 23 .f32 _ _ _ hd.1
        have K2 : Hid (Kept w [(w.heap.size + 1 + 1 + 1, fls (prt (shareN c l) (fun _ => 0) (k + 1)), 61), (w.heap.size + 1 + 1, fls fun _ => 0, 61), (w.heap.size + 1, fls l, 61), (w.heap.size, fls c, 61)] ((wr.setCell ⟨w.heap.size + 1 + 1 + 1, k, none⟩ (.float .f32 1065353216)).setCell ⟨w.heap.size + 1 + 1 + 1, k, none⟩ (.float .f32 (shareW (c k) (l k))))) := hid (by
          have K2 := K1.fcell (n := 20) (by omega) NEQ k (shareW (c k) (l k))
          rw [show upd (upd (prt (shareN c l) (fun _ => 0) k) k 1065353216) k (shareW (c k) (l k)) = prt (shareN c l) (fun _ => 0) (k + 1) from funext fun i => by
            rw [← part_succ (shareN c l) (fun _ => 0) k i]
            unfold upd shareN
            split <;> rfl] at K2
          exact K2)
        clear K1 NEQ hd S0 S1 S2 S3
        go_wp2
        go_roundw
        case rel => exact ⟨k + 1, by omega, by go_num, K2⟩
        case measure => simp [intOf]; omega
    · obtain rfl : k = 20 := by omega
      have E3 : Hid (arrAt wr (w.heap.size + 1 + 1 + 1) (shareN c l) 61) := hid ((show arrAt wr (w.heap.size + 1 + 1 + 1) (prt (shareN c l) (fun _ => 0) 20) 61 from h0.out.at (x := (w.heap.size + 1 + 1 + 1, fls (prt (shareN c l) (fun _ => 0) 20), 61)) (by simp)).ext fun i hi => if_pos hi)
      have E2 : Hid (arrAt wr (w.heap.size + 1 + 1) (fun _ => 0) 61) := hid (h0.out.at (x := (w.heap.size + 1 + 1, fls fun _ => 0, 61)) (by simp))
      have b := h0.out.1
      go_wp2_with (first | (refine wpList_load_row rfl 61 _ rfl (w.heap.size + 1 + 1 + 1) rfl 61 (fls (shareN c l)) (0, 0) _ E3.out Try.underlying61 rfl (by rw [fls_size]; exact info_arr) ?_) | (refine wpList_store_row rfl 61 _ _ rfl (w.heap.size + 1 + 1) (fls (shareN c l)) rfl rfl 61 _ E2.out (by rw [fls_size]; exact info_arr) (by simp) (fls_one (shareN c l)) ?_))
      exact bodyPost_ret (results_cell_row rfl _ _ (w.heap.size + 1 + 1) 61 (fls (shareN c l)) (0, 0) _ rfl (E2.out.setRow (shareN c l)) Try.underlying61 rfl (by rw [fls_size]; exact info_arr)) rfl ⟨rfl, below_row b (by omega) _⟩

theorem sFinite_fq (x : Nat) (hx : x < 4294967296) (h : finB x = false) (w : World) :
    Calls Try.prog 89 #[.float .f32 x] w fun e w' => e = .returned (.bool false) ∧ ∃ m, w' = w.drewN m := by
  obtain ⟨z, hr, h1, _⟩ := run_arith_nan (P := Try.prog) w .sub (by simp) 23 x x (sub_self_none hx h)
  have Hn := hid (show (FloatKind.f32.format.order z 0 == some .eq) = false by
    show (S.order z 0 == some .eq) = false
    rw [order_nan32 h1]; rfl)
  clear h hx h1
  go_enter Try.func89, Try.ntmps89
  go_wp2
  go_ret
  exact ⟨by simp [Hn.out], 1, rfl⟩

theorem sAmount_fq (x : Nat) (hx : x < 4294967296) (h : amtB x = false) (w : World) :
    Calls Try.prog 125 #[.float .f32 x] w fun e w' => e = .returned (.bool false) ∧ ∃ m, w' = w.drewN m := by
  rcases hf : finB x with _ | _
  · have Hx := hid hx
    have Hf := hid hf
    clear h hf hx
    go_enter Try.func125, Try.ntmps125
    go_wp2_with (go_at_call 89; refine (sFinite_fq x Hx.out Hf.out _).mono ?_; rintro e w' ⟨rfl, hb⟩)
    go_ret
    exact ⟨rfl, hb⟩
  · have hs : 2147483648 ≤ x := by
      rw [amtB_iff', INF_val] at h
      have := finB_iff.1 hf
      rw [INF_val] at this
      unfold mg at this
      omega
    have hg : (FloatKind.f32.format.order x 0 == some .gt) = false := order_neg_zero hx hf hs
    have hb : ((x : Int) == 0) = false := by simp; omega
    have Hx := hid hx
    have Hf := hid hf
    clear h hf hx hs
    go_enter Try.func125, Try.ntmps125
    go_wp2_with (go_at_call 89; refine (sFinite_t x Hx.out Hf.out _).mono ?_; rintro e w' ⟨rfl, rfl⟩)
    go_ret
    exact ⟨rfl, 0, rfl⟩

/-- A kernel is valid. -/
def KOk (c : Nat → Nat) : Prop := AmtK c ∧ Sym c

set_option maxHeartbeats 1000000 in
set_option maxRecDepth 100000 in
theorem sKOk (c : Nat → Nat) (hb : ∀ i, i < 400 → c i < 4294967296) (q : Bool) (hq : q = true ↔ KOk c) (w : World) (g : Nat) (T : TypeId) (hg : vAt w g 400 (flw c) T) :
    Calls Try.prog 178 #[.pointer (some ⟨g, 0, none⟩)] w fun e w' => e = .returned (.bool q) ∧ Below w.heap.size w w' := by
  have HB := hid hb
  have HQ := hid hq
  have HG := hid hg
  clear hb hq hg
  go_enter Try.func178, Try.ntmps178
  go_wp2_with fail
  go_loopw [3] (fun i wr => ∃ k : Nat, k ≤ 20 ∧ i = .int .i64 k ∧ Hid (∀ i j, i < k → j < 20 → amtB (c (i * 20 + j)) = true ∧ (FloatKind.f32.format.order (c (i * 20 + j)) (c (j * 20 + i)) != some .eq) = false) ∧ Hid (vAt wr g 400 (flw c) T) ∧ Hid (Below w.heap.size w wr)) (fun i _ => 20 - (intOf i).toNat)
  case atStart => exact ⟨0, by omega, rfl, hid (fun i j hi => by omega), HG, hid (Below.refl _ _)⟩
  case round =>
    obtain ⟨k, hk, rfl, hA, h0, hb⟩ := hrel
    by_cases hlt : k < 20
    · have HK := hid hlt
      have hk3 : (k : Int) < 20 := by omega
      go_wp2_with fail
      go_loopw [4] (fun i wr => ∃ j : Nat, j ≤ 20 ∧ i = .int .i64 j ∧ Hid (∀ i, i < j → amtB (c (k * 20 + i)) = true ∧ (FloatKind.f32.format.order (c (k * 20 + i)) (c (i * 20 + k)) != some .eq) = false) ∧ Hid (vAt wr g 400 (flw c) T) ∧ Hid (Below w.heap.size w wr)) (fun i _ => 20 - (intOf i).toNat)
      case atStart => exact ⟨0, by omega, rfl, hid (fun i hi => by omega), h0, hb⟩
      case round =>
        clear h0 hb
        obtain ⟨j, hj, rfl, hR, h0, hb⟩ := hrel
        by_cases hlj : j < 20
        · have HJ := hid hlj
          have hj3 : (j : Int) < 20 := by omega
          have q0 := h0.out.fcell (k := k * 20 + j) (by omega)
          have q1 := h0.out.fcell (k := j * 20 + k) (by omega)
          have hx := HB.out (k * 20 + j) (by omega)
          rcases ha : amtB (c (k * 20 + j)) with _ | _
          · have HA := hid ha
            have HX := hid hx
            have hnq : q = false := by
              rw [← Bool.not_eq_true]
              intro ht
              have := (HQ.out.1 ht).1 (k * 20 + j) (by have := HK.out; have := HJ.out; omega)
              rw [ha] at this; cases this
            subst hnq
            clear ha hx
            go_wp2_with fail
            go_quiet ((go_at_call 125; exact Calls.quiet_of (sAmount_fq (c (k * 20 + j)) HX.out HA.out _)))
            go_wp2
            go_ret
            exact ⟨rfl, below_drewN hb.out _⟩
          · have HA := hid ha
            rcases ho : (FloatKind.f32.format.order (c (k * 20 + j)) (c (j * 20 + k)) != some .eq) with _ | _
            · have HR2 : Hid (∀ i, i < j + 1 → amtB (c (k * 20 + i)) = true ∧ (FloatKind.f32.format.order (c (k * 20 + i)) (c (i * 20 + k)) != some .eq) = false) := hid (all_step hR.out ⟨ha, ho⟩)
              clear ha hx
              go_wp2_with fail
              go_quiet ((go_at_call 125; exact Calls.quiet_of_same (back (sAmount_t (c (k * 20 + j)) HA.out _))))
              go_wp2
              go_roundw
              case rel => exact ⟨j + 1, by omega, by go_num, HR2, h0, hid (below_drewN hb.out _)⟩
              case measure => simp [intOf]; omega
            · have hnq : q = false := by
                rw [← Bool.not_eq_true]
                intro ht
                have hs := (HQ.out.1 ht).2 k j HK.out HJ.out
                have h1 := feq_amt ha (hs ▸ ha)
                rw [decide_eq_true hs] at h1
                have h2 : (!(FloatKind.f32.format.order (c (k * 20 + j)) (c (j * 20 + k)) == some .eq)) = true := ho
                rw [show (FloatKind.f32.format.order (c (k * 20 + j)) (c (j * 20 + k)) == some .eq) = true from h1] at h2
                cases h2
              subst hnq
              clear ha hx
              go_wp2_with fail
              go_quiet ((go_at_call 125; exact Calls.quiet_of_same (back (sAmount_t (c (k * 20 + j)) HA.out _))))
              go_wp2
              go_ret
              exact ⟨rfl, below_drewN hb.out _⟩
        · obtain rfl : j = 20 := by omega
          have HA2 : Hid (∀ i j, i < k + 1 → j < 20 → amtB (c (i * 20 + j)) = true ∧ (FloatKind.f32.format.order (c (i * 20 + j)) (c (j * 20 + i)) != some .eq) = false) := hid fun i j hi hj => by
            rcases Nat.lt_or_eq_of_le (Nat.le_of_lt_succ hi) with h | h
            · exact hA.out i j h hj
            · rw [h]; exact hR.out j hj
          go_wp2
          go_roundw
          case rel => exact ⟨k + 1, by omega, by go_num, HA2, h0, hb⟩
          case measure => simp [intOf]; omega
    · obtain rfl : k = 20 := by omega
      have hqt : q = true := HQ.out.2 ⟨fun n hn => by
        have := (hA.out (n / 20) (n % 20) (by omega) (by omega)).1
        rwa [show n / 20 * 20 + n % 20 = n by omega] at this, fun i j hi hj => by
        have h1 := feq_amt (hA.out i j hi hj).1 (hA.out j i hj hi).1
        have h2 : (!(FloatKind.f32.format.order (c (i * 20 + j)) (c (j * 20 + i)) == some .eq)) = false := (hA.out i j hi hj).2
        by_cases e : c (i * 20 + j) = c (j * 20 + i)
        · exact e
        · rw [decide_eq_false e] at h1
          rw [show (FloatKind.f32.format.order (c (i * 20 + j)) (c (j * 20 + i)) == some .eq) = false from h1] at h2
          cases h2⟩
      subst hqt
      go_wp2
      go_ret
      exact ⟨rfl, hb.out⟩

theorem ixk (c : Nat → Nat) (k : Nat) (hk : k < 20) (w : World) :
    (Instr.index 58 (.agg (vls 400 (flw c))) (.int .i64 (k : Int))).run Try.prog w = .ok (.agg (fls (rowK c k))) w :=
  run_index_row Try.underlying58 Try.underlying56 rfl info_a20 400 (flw c) k hk (by omega) w

theorem ixr (c : Nat → Nat) (k : Nat) (hk : k < 20) (w : World) :
    (Instr.index 56 (.agg (fls c)) (.int .i64 (k : Int))).run Try.prog w = .ok (.float .f32 (c k)) w := ix 56 Try.underlying56 c k hk w

set_option maxHeartbeats 1000000 in
set_option maxRecDepth 100000 in
theorem iTransposed (c : Nat → Nat) (w : World) :
    Calls Try.prog 221 #[.agg (vls 400 (flw c))] w fun e w' => e = .returned (.agg (vls 400 (flw (trK c)))) ∧ Below w.heap.size w w' := by
  have A0 := hid (((vAt.new w 400 (flw c) 58).alloc (.cells (vls 400 (flw fun _ => 0)) 58)).alloc (.cells (vls 400 (flw fun _ => 0)) 58))
  have A1 := hid ((vAt.new1 w (.cells (vls 400 (flw c)) 58) 400 (flw fun _ => 0) 58).alloc (.cells (vls 400 (flw fun _ => 0)) 58))
  have A2 := hid (vAt.new2 w (.cells (vls 400 (flw c)) 58) (.cells (vls 400 (flw fun _ => 0)) 58) 400 (flw fun _ => 0) 58)
  have b0 := boxed3 w (.cells (vls 400 (flw c)) 58) (.cells (vls 400 (flw fun _ => 0)) 58) (.cells (vls 400 (flw fun _ => 0)) 58)
  go_enter Try.func221, Try.ntmps221
  go_wp2_with (refine wpList_load_row rfl 58 _ rfl (w.heap.size) rfl 58 (vls 400 (flw c)) (0, 0) _ A0.out Try.underlying58 rfl (by rw [vls_size]; exact info_kern) ?_)
  go_loopw [9] (fun i wr => ∃ k : Nat, k ≤ 20 ∧ i = .int .i64 k ∧ Hid (vAt wr (w.heap.size + 1 + 1) 400 (flw (trP c k 0)) 58) ∧ Hid (vAt wr (w.heap.size + 1) 400 (flw fun _ => 0) 58) ∧ Hid (Below w.heap.size w wr)) (fun i _ => 20 - (intOf i).toNat)
  case atStart => exact ⟨0, by omega, rfl, hid (A2.out.ext fun i _ => by unfold flw; rw [trP_zero]), A1, hid b0⟩
  case round =>
    obtain ⟨k, hk, rfl, g2, g1, hb⟩ := hrel
    by_cases hlt : k < 20
    · have HK := hid hlt
      have hk3 : (k : Int) < 20 := by omega
      have hix := ixk c k hlt
      have hs := hb.out.size
      have N0 := hid (arrAt.new wr (fun _ => 0) 56)
      have P0 := hid (N0.out.setRow (rowK c k))
      have n2 := hid ((g2.out.alloc (.cells (fls fun _ => 0) 56)).setRowOther (k := wr.heap.size) (Nat.ne_of_lt g2.out.lt) (fls (rowK c k)))
      have n1 := hid ((g1.out.alloc (.cells (fls fun _ => 0) 56)).setRowOther (k := wr.heap.size) (Nat.ne_of_lt g1.out.lt) (fls (rowK c k)))
      have nb := below_row (hb.out.alloc hb.out.size (.cells (fls fun _ => 0) 56)) hb.out.size (g := wr.heap.size) (fls (rowK c k))
      clear A0 A1 A2
      have tok1 : True := trivial
      go_wp2_with (first | (have _t := P1; refine wpList_load_row rfl 56 _ rfl (wr.heap.size) rfl 56 (fls (rowK c k)) (0, 0) _ P1.out Try.underlying56 rfl (by rw [fls_size]; exact info_a20) ?_) | (have _t := tok1; refine store_abs rfl 56 _ _ rfl wr.heap.size (rowK c k) rfl rfl 56 _ N0.out info_a20 ?_; intro w9 hw9; rw [← hw9] at P0 n2 n1 nb; clear hw9 N0 g1 g2 hb tok1; have P1 := hid P0.out))
      clear hix
      go_loopw [14] (fun i wr2 => ∃ j : Nat, j ≤ 20 ∧ i = .int .i64 j ∧ Hid (vAt wr2 (w.heap.size + 1 + 1) 400 (flw (trP c k j)) 58) ∧ Hid (vAt wr2 (w.heap.size + 1) 400 (flw fun _ => 0) 58) ∧ Hid (Below w.heap.size w wr2)) (fun i _ => 20 - (intOf i).toNat)
      case atStart => exact ⟨0, by omega, rfl, n2, n1, hid nb⟩
      case round =>
        clear n2 n1 nb P0 P1
        obtain ⟨j, hj, rfl, g2, g1, hb⟩ := hrel
        by_cases hlj : j < 20
        · have HJ := hid hlj
          have hj3 : (j : Int) < 20 := by omega
          have hix := ixr (rowK c k) j hlj
          have q2 := g2.out.cell (k := j * 20 + k) (by omega)
          have f2 := g2.out.frozen (j * 20 + k)
          have n2 := hid ((g2.out.fset (j * 20 + k) (rowK c k j)).ext (d := flw (trP c k (j + 1))) fun n _ => by unfold flw; rw [show rowK c k j = c (k * 20 + j) from rfl, trP_set c HK.out HJ.out])
          have n1 := hid (g1.out.setOther (a := ⟨w.heap.size + 1 + 1, j * 20 + k, none⟩) (by simp) (.float .f32 (rowK c k j)))
          have nb := hb.out.setCell (p := ⟨w.heap.size + 1 + 1, j * 20 + k, none⟩) (by simp; omega) (.float .f32 (rowK c k j))
          clear g2 g1 hb
          go_wp2
          go_roundw
          case rel => exact ⟨j + 1, by omega, by go_num, n2, n1, hid nb⟩
          case measure => simp [intOf]; omega
        · obtain rfl : j = 20 := by omega
          have n2 := hid (g2.out.ext (d := flw (trP c (k + 1) 0)) fun n hn => by unfold flw; rw [trP_next c k n hn])
          clear g2
          go_wp2
          go_roundw
          case rel => exact ⟨k + 1, by omega, by go_num, n2, g1, hb⟩
          case measure => simp [intOf]; omega
    · obtain rfl : k = 20 := by omega
      have n2 := hid (g2.out.ext (d := flw (trK c)) fun n _ => by unfold flw; rw [trP_all])
      clear g2
      go_wp2_with (first | (refine wpList_load_row rfl 58 _ rfl (w.heap.size + 1 + 1) rfl 58 (vls 400 (flw (trK c))) (0, 0) _ n2.out Try.underlying58 rfl (by rw [vls_size]; exact info_kern) ?_) | (refine wpList_store_row rfl 58 _ _ rfl (w.heap.size + 1) (vls 400 (flw (trK c))) rfl rfl 58 _ g1.out (by rw [vls_size]; exact info_kern) (by simp) (vls_one (flw_one _)) ?_))
      exact bodyPost_ret (results_cell_row rfl _ _ (w.heap.size + 1) 58 (vls 400 (flw (trK c))) (0, 0) _ rfl (g1.out.setRow (flw (trK c))) Try.underlying58 rfl (by rw [vls_size]; exact info_kern)) rfl ⟨rfl, below_row hb.out (by omega) _⟩

theorem eq_kern (c d : Nat → Nat) (w : World) : (binOp .eql 58 (.agg (vls 400 (flw c))) (.agg (vls 400 (flw d)))).run Try.prog w = .ok (.bool (eqK c d)) w := by
  have hR : (Try.prog.info? 56).map (·.size) = some 20 := info_a20
  cases hi : Try.prog.info? 56 with
  | none => rw [hi] at hR; cases hR
  | some iR =>
    rw [hi] at hR
    obtain ⟨iE, h1, _⟩ := info_f32
    exact run_eq_kernels Try.underlying58 Try.underlying56 Try.underlying23 hi (by simpa using hR) h1 (by kernel_rfl) (by kernel_rfl) c d w

theorem run_trans (a : Act) (p : Tmp) (v : Value) (hx : a.eval (.tmp p) = v) (d : Option Tmp) (ats : Array TypeId) (t : TypeId) (ps : String) (af : Array Edge) (gd : Option (Nat × Bool)) (w : World) :
    (execOp a.eval ⟨d, .call { callee := .value (.func 221), args := #[.tmp p], argTypes := ats }, t, ps, af, gd⟩).run Try.prog w = .ok (.enter 221 #[v]) w := by
  have hx' : a.tmps[p]?.getD undef = v := by rw [← hx]; simp [Act.eval]
  clear hx
  unfold execOp
  go_simp

set_option maxHeartbeats 1000000 in
set_option maxRecDepth 100000 in
theorem iValidKernel (c : Nat → Nat) (hb : ∀ i, i < 400 → c i < 4294967296) (q : Bool) (hq : q = true ↔ KOk c) (w : World) :
    Calls Try.prog 182 #[.agg (vls 400 (flw c))] w fun e w' => e = .returned (.bool q) ∧ Below w.heap.size w w' := by
  have A0 := hid (vAt.new w 400 (flw c) 58)
  have b0 := boxed w (.cells (vls 400 (flw c)) 58)
  have HB := hid hb
  have HQ := hid hq
  clear hb hq
  go_enter Try.func182, Try.ntmps182
  go_wp2_with (refine wpList_load_row rfl 58 _ rfl (w.heap.size) rfl 58 (vls 400 (flw c)) (0, 0) _ A0.out Try.underlying58 rfl (by rw [vls_size]; exact info_kern) ?_)
  go_loopw [6] (fun i wr => ∃ k : Nat, k ≤ 20 ∧ i = .int .i64 k ∧ Hid (∀ n, n < k * 20 → amtB (c n) = true) ∧ Hid (vAt wr w.heap.size 400 (flw c) 58) ∧ Hid (Below w.heap.size w wr)) (fun i _ => 20 - (intOf i).toNat)
  case atStart => exact ⟨0, by omega, rfl, hid (fun n hn => by omega), A0, hid b0⟩
  case round =>
    obtain ⟨k, hk, rfl, hA, g0, hb⟩ := hrel
    by_cases hlt : k < 20
    · have HK := hid hlt
      have hk3 : (k : Int) < 20 := by omega
      have hix := ixk c k hlt
      have N0 := hid (arrAt.new wr (fun _ => 0) 56)
      have P0 := hid (N0.out.setRow (rowK c k))
      have n0 := hid ((g0.out.alloc (.cells (fls fun _ => 0) 56)).setRowOther (k := wr.heap.size) (Nat.ne_of_lt g0.out.lt) (fls (rowK c k)))
      have nb := below_row (hb.out.alloc hb.out.size (.cells (fls fun _ => 0) 56)) hb.out.size (g := wr.heap.size) (fls (rowK c k))
      clear A0 b0
      have tok1 : True := trivial
      go_wp2_with (first | (have _t := P1; refine wpList_load_row rfl 56 _ rfl (wr.heap.size) rfl 56 (fls (rowK c k)) (0, 0) _ P1.out Try.underlying56 rfl (by rw [fls_size]; exact info_a20) ?_) | (have _t := tok1; refine store_abs rfl 56 _ _ rfl wr.heap.size (rowK c k) rfl rfl 56 _ N0.out info_a20 ?_; intro w9 hw9; rw [← hw9] at P0 n0 nb; clear hw9 N0 g0 hb tok1; have P1 := hid P0.out))
      by_cases hv : Amts (rowK c k)
      · have HA2 : Hid (∀ n, n < (k + 1) * 20 → amtB (c n) = true) := hid fun n hn => by
          by_cases h : n < k * 20
          · exact hA.out n h
          · have := hv (n - k * 20) (by omega)
            unfold rowK at this
            rwa [show k * 20 + (n - k * 20) = n by omega] at this
        refine (validSizes_t (rowK c k) hv _).mono ?_
        rintro e w3 ⟨rfl, hb3⟩
        have n0 := hid (n0.out.stay hb3)
        have nb := stp nb (Nat.le_refl _) hb3
        clear hv hix P0 P1
        go_wp2
        go_roundw
        case rel => exact ⟨k + 1, by omega, by go_num, HA2, n0, hid nb⟩
        case measure => simp [intOf]; omega
      · have hnq : q = false := by
          rw [← Bool.not_eq_true]
          intro ht
          exact hv fun i hi => (HQ.out.1 ht).1 (k * 20 + i) (by have := HK.out; omega)
        subst hnq
        refine (validSizes_f (rowK c k) (fun i hi => HB.out _ (by have := HK.out; omega)) hv _).mono ?_
        rintro e w3 ⟨rfl, hb3⟩
        have nb := stp nb (Nat.le_refl _) hb3
        clear hv hix P0 P1
        go_wp2
        go_ret
        exact ⟨rfl, nb⟩
    · obtain rfl : k = 20 := by omega
      have hall : AmtK c := hA.out
      have hqe : eqK c (trK c) = q := by
        have h1 := eqK_sym hall
        cases q
        · rw [← Bool.not_eq_true]
          intro ht
          have := HQ.out.2 ⟨hall, h1.1 ht⟩
          cases this
        · exact h1.2 (HQ.out.1 rfl).2
      have HE := hid hqe
      have k0 : Hid (Kept w [(w.heap.size, vls 400 (flw c), 58)] wr) := hid ⟨hb.out, fun x hx => by rw [List.mem_singleton.1 hx]; exact g0.out⟩
      clear hall hqe A0 b0 g0 hb hA
      go_wp2_with fail
      refine region_kept (w0 := w) (l := [(w.heap.size, vls 400 (flw c), 58)]) 5 #[false, false, false, false, false] (by kernel_rfl) rfl rfl ?_
      have kd := k0.out.drew
      clear k0
      generalize wr.drew = wd at kd ⊢
      refine take_load 0 _ _ rfl (by rfl) (by kernel_rfl) (by kernel_rfl) (by kernel_rfl) 58 _ rfl w.heap.size (vls 400 (flw c)) 58 (by rfl) (by simp) _ Try.underlying58 rfl (by rw [vls_size]; exact info_kern) rfl rfl kd ?_
      refine take_load 1 _ _ rfl (by rfl) (by kernel_rfl) (by kernel_rfl) (by kernel_rfl) 58 _ rfl w.heap.size (vls 400 (flw c)) 58 (by rfl) (by simp) _ Try.underlying58 rfl (by rw [vls_size]; exact info_kern) rfl rfl kd ?_
      simp only [Act.put, List.setIfInBounds_toArray, List.set_cons_zero, List.set_cons_succ]
      refine wpAnyH_ready (rs := [2]) (by kernel_rfl) (by simp) ?_
      refine callK 2 _ _ (.agg (vls 400 (flw (trK c)))) kd rfl (by rfl) 221 #[.agg (vls 400 (flw c))] (fun w => run_trans _ 14 _ (by rfl) _ _ _ _ _ _ w) rfl rfl ?hc (fun w1 k1 => ?_) AllReadyH.nil
      case hc => exact iTransposed c _
      refine ⟨k1, ?_⟩
      simp only [Act.put, List.setIfInBounds_toArray, List.set_cons_zero, List.set_cons_succ]
      refine take_val 3 _ _ (.bool (eqK c (trK c))) rfl (by rfl) (by kernel_rfl) (by kernel_rfl) (by kernel_rfl) (fun w => run_binop_val _ _ _ _ (by rfl) (by rfl) (run_eqGuard_agg _ _ _ _ _ _ _ (by kernel_rfl)) (eq_kern _ _ w)) rfl rfl k1 ?_
      refine take_val 4 _ _ (.bool (eqK c (trK c))) rfl (by rfl) (by kernel_rfl) (by kernel_rfl) (by kernel_rfl) (fun w => by rfl) rfl rfl k1 ?_
      refine wpAnyH_done (by kernel_rfl) (NoPanic.normal ?_) _
      simp only [Act.put, List.setIfInBounds_toArray, List.set_cons_zero, List.set_cons_succ]
      rw [HE.out]
      go_wp2
      go_ret
      exact ⟨rfl, k1.1⟩

def rowD (E : Nat → Nat) (k : Nat) : Nat → Nat := upd (rowK E k) k (fmul 1073741824 (rowK E k k))

def lossN (E : Nat → Nat) (k : Nat) : Nat := sumF (rowD E k) 19

theorem row_amt {E : Nat → Nat} (h : AmtK E) {k j : Nat} (hk : k < 20) (hj : j < 20) : amtB (rowK E k j) = true := h _ (by omega)

theorem rowD_nn {E : Nat → Nat} (h : AmtK E) {k : Nat} (hk : k < 20) : ∀ i, i < 20 → nnB (rowD E k i) = true := fun i hi => by
  unfold rowD upd
  split
  · exact (mul_eq (by decide) (row_amt h hk hk)).2
  · exact amt_nn (row_amt h hk hi)

set_option maxHeartbeats 1000000 in
set_option maxRecDepth 100000 in
theorem iLossesBy (E : Nat → Nat) (hE : AmtK E) (w : World) :
    Calls Try.prog 112 #[.agg (vls 400 (flw E))] w fun e w' => e = .returned (.agg (fls (lossN E))) ∧ Below w.heap.size w w' := by
  have k0 : Hid (Kept w [(w.heap.size + 1 + 1, fls (prt (lossN E) (fun _ => 0) 0), 61), (w.heap.size + 1, fls fun _ => 0, 61), (w.heap.size, vls 400 (flw E), 58)] (((w.alloc (.cells (vls 400 (flw E)) 58)).alloc (.cells (fls fun _ => 0) 61)).alloc (.cells (fls fun _ => 0) 61))) := hid (((((Kept.nil w).push _ _).push _ _).push _ _).sub (by
    rw [show fls (prt (lossN E) (fun _ => 0) 0) = fls fun _ => 0 from fls_ext fun i _ => part_zero _ _ i]; simp))
  have HE := hid hE
  have A0 : Hid (vAt (((w.alloc (.cells (vls 400 (flw E)) 58)).alloc (.cells (fls fun _ => 0) 61)).alloc (.cells (fls fun _ => 0) 61)) (w.heap.size) 400 (flw E) 58) := hid (k0.out.at (x := (w.heap.size, vls 400 (flw E), 58)) (by simp))
  clear hE
  go_enter Try.func112, Try.ntmps112
  go_wp2_with (refine wpList_load_row rfl 58 _ rfl (w.heap.size) rfl 58 (vls 400 (flw E)) (0, 0) _ A0.out Try.underlying58 rfl (by rw [vls_size]; exact info_kern) ?_)
  go_loopw [7] (fun i wr => ∃ k : Nat, k ≤ 20 ∧ i = .int .i64 k ∧ Hid (Kept w [(w.heap.size + 1 + 1, fls (prt (lossN E) (fun _ => 0) k), 61), (w.heap.size + 1, fls fun _ => 0, 61), (w.heap.size, vls 400 (flw E), 58)] wr)) (fun i _ => 20 - (intOf i).toNat)
  case atStart => exact ⟨0, by omega, rfl, k0⟩
  case round =>
    obtain ⟨k, hk, rfl, h0⟩ := hrel
    clear k0 A0
    by_cases hlt : k < 20
    · have HK := hid hlt
      have hk3 : (k : Int) < 20 := by omega
      have hix := ixk E k hlt
      have hsz : w.heap.size + 1 + 1 < wr.heap.size := (show arrAt wr (w.heap.size + 1 + 1) (prt (lossN E) (fun _ => 0) k) 61 from h0.out.at (x := (w.heap.size + 1 + 1, fls (prt (lossN E) (fun _ => 0) k), 61)) (by simp)).lt
      have N0 : Hid (arrAt (wr.alloc (.cells (fls fun _ => 0) 56)) wr.heap.size (fun _ => 0) 56) := hid (arrAt.new wr (fun _ => 0) 56)
      have R0 := hid (N0.out.setRow (rowK E k))
      have bz := below_row ((Below.refl wr.heap.size wr).alloc (Nat.le_refl _) (.cells (fls fun _ => 0) 56)) (Nat.le_refl _) (g := wr.heap.size) (fls (rowK E k))
      have tok1 : True := trivial
      have r1 := fun w => run_mul (P := Try.prog) 23 (x := 1073741824) (by decide) (row_amt HE.out HK.out HK.out) w
      go_wp2_with (first | (have _t := tok1; refine wpList_store_row rfl 56 _ _ rfl (wr.heap.size) (fls (rowK E k)) rfl rfl 56 _ N0.out (by rw [fls_size]; exact info_a20) (by simp) (fls_one (rowK E k)) ?_; generalize ((wr.alloc (.cells (fls fun _ => 0) 56)).setRow wr.heap.size (fls (rowK E k))) = wz at R0 bz ⊢; clear N0 tok1; have q0 := R0.out.cell HK.out; have f0 := R0.out.frozen k; have R1 : Hid (arrAt (wz.setCell ⟨wr.heap.size, k, none⟩ (.float .f32 (fmul 1073741824 (rowK E k k)))) wr.heap.size (rowD E k) 56) := hid (R0.out.set k (fmul 1073741824 (rowK E k k))); have bz1 := bz.setCell (p := ⟨wr.heap.size, k, none⟩) (Nat.le_refl _) (.float .f32 (fmul 1073741824 (rowK E k k)))) | (refine wpList_load_row rfl 56 _ rfl (wr.heap.size) rfl 56 (fls (rowD E k)) (0, 0) _ R1.out Try.underlying56 rfl (by rw [fls_size]; exact info_a20) ?_))
      refine (iSum (rowD E k) (rowD_nn HE.out HK.out) _).mono ?_
      rintro e wb ⟨rfl, hbb⟩
      have bz2 := stp bz1 (by have := bz1.size; omega) hbb
      have K0 := h0.out.stay bz2
      have NEQ : ∀ y ∈ [(w.heap.size + 1, fls fun _ => 0, 61), (w.heap.size, vls 400 (flw E), 58)], y.1 ≠ w.heap.size + 1 + 1 := by intro y hy; simp only [List.mem_cons, List.not_mem_nil, or_false] at hy; rcases hy with rfl | rfl <;> (show (_ : Nat) ≠ _; omega)
      have S3 : arrAt wb (w.heap.size + 1 + 1) (prt (lossN E) (fun _ => 0) k) 61 := K0.at (x := (w.heap.size + 1 + 1, fls (prt (lossN E) (fun _ => 0) k), 61)) (by simp)
      have q3 := S3.cell HK.out
      have f3 := S3.frozen k
      have K1 := K0.fcell (n := 20) (c := prt (lossN E) (fun _ => 0) k) (by omega) NEQ k (sumF (rowD E k) 19)
      have K2 : Hid (Kept w [(w.heap.size + 1 + 1, fls (prt (lossN E) (fun _ => 0) (k + 1)), 61), (w.heap.size + 1, fls fun _ => 0, 61), (w.heap.size, vls 400 (flw E), 58)] (wb.setCell ⟨w.heap.size + 1 + 1, k, none⟩ (.float .f32 (sumF (rowD E k) 19)))) := hid (by
        rw [← show upd (prt (lossN E) (fun _ => 0) k) k (sumF (rowD E k) 19) = prt (lossN E) (fun _ => 0) (k + 1) from funext fun i => by rw [← part_succ (lossN E) (fun _ => 0) k i]; rfl]
        exact K1)
      clear K0 K1 S3 NEQ bz1 bz2 bz hbb h0 R0 R1
      go_wp2
      go_roundw
      case rel => exact ⟨k + 1, by omega, by go_num, K2⟩
      case measure => simp [intOf]; omega
    · obtain rfl : k = 20 := by omega
      have E3 : Hid (arrAt wr (w.heap.size + 1 + 1) (lossN E) 61) := hid ((show arrAt wr (w.heap.size + 1 + 1) (prt (lossN E) (fun _ => 0) 20) 61 from h0.out.at (x := (w.heap.size + 1 + 1, fls (prt (lossN E) (fun _ => 0) 20), 61)) (by simp)).ext fun i hi => if_pos hi)
      have E2 : Hid (arrAt wr (w.heap.size + 1) (fun _ => 0) 61) := hid (h0.out.at (x := (w.heap.size + 1, fls fun _ => 0, 61)) (by simp))
      have b := h0.out.1
      go_wp2_with (first | (refine wpList_load_row rfl 61 _ rfl (w.heap.size + 1 + 1) rfl 61 (fls (lossN E)) (0, 0) _ E3.out Try.underlying61 rfl (by rw [fls_size]; exact info_arr) ?_) | (refine wpList_store_row rfl 61 _ _ rfl (w.heap.size + 1) (fls (lossN E)) rfl rfl 61 _ E2.out (by rw [fls_size]; exact info_arr) (by simp) (fls_one (lossN E)) ?_))
      exact bodyPost_ret (results_cell_row rfl _ _ (w.heap.size + 1) 61 (fls (lossN E)) (0, 0) _ rfl (E2.out.setRow (lossN E)) Try.underlying61 rfl (by rw [fls_size]; exact info_arr)) rfl ⟨rfl, below_row b (by omega) _⟩

def Wds (c : Nat → Nat) : Prop := ∀ i, i < 20 → c i < 4294967296

theorem Wds.upd {c : Nat → Nat} (h : Wds c) {v : Nat} (hv : v < 4294967296) (k : Nat) : Wds (upd c k v) := fun i hi => by
  unfold Go.Fl.upd
  split
  · exact hv
  · exact h i hi

set_option maxRecDepth 100000 in
theorem iSum_any (c : Nat → Nat) (h : Wds c) (w : World) :
    Calls Try.prog 183 #[.agg (fls c)] w fun e w' => ∃ v, v < 4294967296 ∧ e = .returned (.float .f32 v) ∧ Below w.heap.size w w' := by
  have H := hid h
  clear h
  have A0 := hid (arrAt.new w c 56)
  have h0 := A0.out.cell (k := 0) (by omega)
  have b0 := hid (boxed w (.cells (fls c) 56))
  go_enter Try.func183, Try.ntmps183
  go_wp2
  go_loopw [3, 4] (fun s i wr => ∃ k : Nat, k ≤ 19 ∧ i = .int .i64 (k + 1 : Nat) ∧ (∃ v, v < 4294967296 ∧ s = .float .f32 v) ∧ Hid (arrAt wr w.heap.size c 56) ∧ Hid (Below w.heap.size w wr)) (fun _ i _ => 20 - (intOf i).toNat)
  case atStart => exact ⟨0, by omega, rfl, ⟨c 0, H.out 0 (by omega), rfl⟩, A0, b0⟩
  case round =>
    obtain ⟨k, hk, rfl, ⟨v, hv, rfl⟩, g0, gb⟩ := hrel
    clear A0 b0
    by_cases hlt : k < 19
    · have hcell := g0.out.cell (k := k + 1) (by omega)
      obtain ⟨z, w4, r, hz, hw⟩ := run_any (P := Try.prog) .add (.inl rfl) 23 v (c (k + 1)) wr
      have g1 : Hid (arrAt w4 w.heap.size c 56) := by rcases hw with rfl | rfl; exact g0; exact hid g0.out.drew
      have gb1 : Hid (Below w.heap.size w w4) := by rcases hw with rfl | rfl; exact gb; exact hid gb.out.drew
      have HZ := hid hz
      clear hw hz
      go_wp2
      go_roundw
      case rel => exact ⟨k + 1, by omega, by go_num, ⟨z, HZ.out, rfl⟩, g1, gb1⟩
      case measure => simp [intOf]; omega
    · obtain rfl : k = 19 := by omega
      go_wp2
      go_ret
      exact ⟨v, hv, rfl, gb.out⟩

set_option maxHeartbeats 1000000 in
set_option maxRecDepth 100000 in
theorem iLossesBy_any (E : Nat → Nat) (hE : ∀ n, n < 400 → E n < 4294967296) (w : World) :
    Calls Try.prog 112 #[.agg (vls 400 (flw E))] w fun e w' => ∃ L, Wds L ∧ e = .returned (.agg (fls L)) ∧ Below w.heap.size w w' := by
  have k0 : Hid (Kept w [(w.heap.size + 1 + 1, fls fun _ => 0, 61), (w.heap.size + 1, fls fun _ => 0, 61), (w.heap.size, vls 400 (flw E), 58)] (((w.alloc (.cells (vls 400 (flw E)) 58)).alloc (.cells (fls fun _ => 0) 61)).alloc (.cells (fls fun _ => 0) 61))) := hid (((((Kept.nil w).push _ _).push _ _).push _ _).sub (by simp))
  have HE := hid hE
  have A0 : Hid (vAt (((w.alloc (.cells (vls 400 (flw E)) 58)).alloc (.cells (fls fun _ => 0) 61)).alloc (.cells (fls fun _ => 0) 61)) (w.heap.size) 400 (flw E) 58) := hid (k0.out.at (x := (w.heap.size, vls 400 (flw E), 58)) (by simp))
  clear hE
  go_enter Try.func112, Try.ntmps112
  go_wp2_with (refine wpList_load_row rfl 58 _ rfl (w.heap.size) rfl 58 (vls 400 (flw E)) (0, 0) _ A0.out Try.underlying58 rfl (by rw [vls_size]; exact info_kern) ?_)
  go_loopw [7] (fun i wr => ∃ k : Nat, k ≤ 20 ∧ i = .int .i64 k ∧ (∃ M, Wds M ∧ Hid (Kept w [(w.heap.size + 1 + 1, fls M, 61), (w.heap.size + 1, fls fun _ => 0, 61), (w.heap.size, vls 400 (flw E), 58)] wr))) (fun i _ => 20 - (intOf i).toNat)
  case atStart => exact ⟨0, by omega, rfl, fun _ => 0, fun _ _ => (by decide : (0 : Nat) < 4294967296), k0⟩
  case round =>
    obtain ⟨k, hk, rfl, M, hM, h0⟩ := hrel
    clear k0 A0
    have HM := hid hM
    clear hM
    by_cases hlt : k < 20
    · have HK := hid hlt
      have hk3 : (k : Int) < 20 := by omega
      have hix := ixk E k hlt
      have hsz : w.heap.size + 1 + 1 < wr.heap.size := (show arrAt wr (w.heap.size + 1 + 1) M 61 from h0.out.at (x := (w.heap.size + 1 + 1, fls M, 61)) (by simp)).lt
      have N0 : Hid (arrAt (wr.alloc (.cells (fls fun _ => 0) 56)) wr.heap.size (fun _ => 0) 56) := hid (arrAt.new wr (fun _ => 0) 56)
      have R0 := hid (N0.out.setRow (rowK E k))
      have bz := below_row ((Below.refl wr.heap.size wr).alloc (Nat.le_refl _) (.cells (fls fun _ => 0) 56)) (Nat.le_refl _) (g := wr.heap.size) (fls (rowK E k))
      have tok1 : True := trivial
      have HR := hid (show Wds (rowK E k) from fun j hj => HE.out _ (by have := HK.out; omega))
      go_wp2_with (first | (have _t := tok1; refine wpList_store_row rfl 56 _ _ rfl (wr.heap.size) (fls (rowK E k)) rfl rfl 56 _ N0.out (by rw [fls_size]; exact info_a20) (by simp) (fls_one (rowK E k)) ?_; generalize ((wr.alloc (.cells (fls fun _ => 0) 56)).setRow wr.heap.size (fls (rowK E k))) = wz at R0 bz ⊢; clear N0 tok1; have q0 := R0.out.cell HK.out; obtain ⟨z, w4, r1, hz, hw⟩ := run_any (P := Try.prog) .mul (.inr (.inr (.inl rfl))) 23 1073741824 (rowK E k k) wz; have HZ := hid hz; have R4 : Hid (arrAt w4 wr.heap.size (rowK E k) 56) := (by rcases hw with rfl | rfl; exact R0; exact hid R0.out.drew); have bz4 : Below wr.heap.size wr w4 := (by rcases hw with rfl | rfl; exact bz; exact bz.drew); clear hw hz bz; have q4 := R4.out.cell HK.out; have f4 := R4.out.frozen k; have R1 : Hid (arrAt (w4.setCell ⟨wr.heap.size, k, none⟩ (.float .f32 z)) wr.heap.size (upd (rowK E k) k z) 56) := hid (R4.out.set k z); have bz1 := bz4.setCell (p := ⟨wr.heap.size, k, none⟩) (Nat.le_refl _) (.float .f32 z)) | (refine wpList_load_row rfl 56 _ rfl (wr.heap.size) rfl 56 (fls (upd (rowK E k) k z)) (0, 0) _ R1.out Try.underlying56 rfl (by rw [fls_size]; exact info_a20) ?_))
      refine (iSum_any (upd (rowK E k) k z) (HR.out.upd HZ.out k) _).mono ?_
      rintro e wb ⟨v, hv, rfl, hbb⟩
      have HV := hid hv
      have bz2 := stp bz1 (by have := bz1.size; omega) hbb
      have K0 := h0.out.stay bz2
      have NEQ : ∀ y ∈ [(w.heap.size + 1, fls fun _ => 0, 61), (w.heap.size, vls 400 (flw E), 58)], y.1 ≠ w.heap.size + 1 + 1 := by intro y hy; simp only [List.mem_cons, List.not_mem_nil, or_false] at hy; rcases hy with rfl | rfl <;> (show (_ : Nat) ≠ _; omega)
      have S3 : arrAt wb (w.heap.size + 1 + 1) M 61 := K0.at (x := (w.heap.size + 1 + 1, fls M, 61)) (by simp)
      have q3 := S3.cell HK.out
      have f3 := S3.frozen k
      have K2 : Hid (Kept w [(w.heap.size + 1 + 1, fls (upd M k v), 61), (w.heap.size + 1, fls fun _ => 0, 61), (w.heap.size, vls 400 (flw E), 58)] (wb.setCell ⟨w.heap.size + 1 + 1, k, none⟩ (.float .f32 v))) := hid (K0.fcell (n := 20) (c := M) (by omega) NEQ k v)
      clear K0 S3 NEQ bz1 bz2 hbb h0 R0 R1 R4 bz4 hv
      go_wp2
      go_roundw
      case rel => exact ⟨k + 1, by omega, by go_num, _, HM.out.upd HV.out k, K2⟩
      case measure => simp [intOf]; omega
    · obtain rfl : k = 20 := by omega
      have E3 : Hid (arrAt wr (w.heap.size + 1 + 1) M 61) := hid (h0.out.at (x := (w.heap.size + 1 + 1, fls M, 61)) (by simp))
      have E2 : Hid (arrAt wr (w.heap.size + 1) (fun _ => 0) 61) := hid (h0.out.at (x := (w.heap.size + 1, fls fun _ => 0, 61)) (by simp))
      have b := h0.out.1
      go_wp2_with (first | (refine wpList_load_row rfl 61 _ rfl (w.heap.size + 1 + 1) rfl 61 (fls M) (0, 0) _ E3.out Try.underlying61 rfl (by rw [fls_size]; exact info_arr) ?_) | (refine wpList_store_row rfl 61 _ _ rfl (w.heap.size + 1) (fls M) rfl rfl 61 _ E2.out (by rw [fls_size]; exact info_arr) (by simp) (fls_one M) ?_))
      exact bodyPost_ret (results_cell_row rfl _ _ (w.heap.size + 1) 61 (fls M) (0, 0) _ rfl (E2.out.setRow M) Try.underlying61 rfl (by rw [fls_size]; exact info_arr)) rfl ⟨M, HM.out, rfl, below_row b (by omega) _⟩

theorem plain_events : Plain 114 := fun args w => by go_simp

set_option maxHeartbeats 1000000 in
set_option maxRecDepth 100000 in
theorem iEvents1 (E s : Nat → Nat) (N : Nat) (hN : nnB N = true) (i j : Nat) (hi : i < 20) (hj : j < 20) (hE : Fits N (E (i * 20 + j))) (h1 : amtB (s i) = true) (h2 : amtB (s j) = true) (w : World) (ge gs : Nat) (he : vAt w ge 400 (flw E) 58) (hs : arrAt w gs s 61) :
    Calls Try.prog 114 #[.int .i64 (i : Int), .int .i64 (j : Int), .pointer (some ⟨ge, 0, none⟩), .pointer (some ⟨gs, 0, none⟩)] w fun e w' => ∃ z, Fits (prod N (min (s i) (s j))) z ∧ e = .returned (.float .f32 z) ∧ Below w.heap.size w w' := by
  have kd : Kept w [(ge, vls 400 (flw E), 58), (gs, fls s, 61)] w.drew := ⟨(Below.refl _ _).drew, fun x hx => by
    simp only [List.mem_cons, List.not_mem_nil, or_false] at hx
    rcases hx with rfl | rfl
    · exact he
    · exact hs⟩
  have HI := hid hi
  have HJ := hid hj
  have HE := hid hE
  have HN := hid hN
  have hmn := fun ts t w => run_min (P := Try.prog) ts t h1 h2 w
  have hm := hid (show amtB (min (s i) (s j)) = true by rcases Nat.le_total (s i) (s j) with h | h; rw [Nat.min_eq_left h]; exact h1; rw [Nat.min_eq_right h]; exact h2)
  have hi3 : (i : Int) < 20 := by omega
  have hj3 : (j : Int) < 20 := by omega
  clear he hs hi hj hE hN h1 h2
  go_enter Try.func114, Try.ntmps114
  go_wp2_with fail
  refine region_kept (w0 := w) (l := [(ge, vls 400 (flw E), 58), (gs, fls s, 61)]) 14 #[false, false, false, false, false, false, false, false, false, false, false, false, false, false] (by kernel_rfl) rfl rfl ?_
  generalize w.drew = wd at kd ⊢
  refine take_val 0 _ _ (.int .i64 (i : Int)) rfl (by rfl) (by kernel_rfl) (by kernel_rfl) (by kernel_rfl) (fun w => by rfl) rfl rfl kd ?_
  refine take_val 1 _ _ (.int .i64 (j : Int)) rfl (by rfl) (by kernel_rfl) (by kernel_rfl) (by kernel_rfl) (fun w => by rfl) rfl rfl kd ?_
  refine take_val 5 _ _ (.int .i64 (i : Int)) rfl (by rfl) (by kernel_rfl) (by kernel_rfl) (by kernel_rfl) (fun w => by rfl) rfl rfl kd ?_
  refine take_val 8 _ _ (.int .i64 (j : Int)) rfl (by rfl) (by kernel_rfl) (by kernel_rfl) (by kernel_rfl) (fun w => by rfl) rfl rfl kd ?_
  simp only [Act.put, List.setIfInBounds_toArray, List.set_cons_zero, List.set_cons_succ]
  refine take_val 2 _ _ (.pointer (some ⟨ge, i * 20, none⟩)) rfl (by rfl) (by kernel_rfl) (by kernel_rfl) (by kernel_rfl) (fun w => by unfold execOp; go_simp) rfl rfl kd ?_
  simp only [Act.put, List.setIfInBounds_toArray, List.set_cons_zero, List.set_cons_succ]
  refine take_val 3 _ _ (.pointer (some ⟨ge, i * 20 + j, none⟩)) rfl (by rfl) (by kernel_rfl) (by kernel_rfl) (by kernel_rfl) (fun w => by unfold execOp; go_simp) rfl rfl kd ?_
  refine take_val 6 _ _ (.pointer (some ⟨gs, i, none⟩)) rfl (by rfl) (by kernel_rfl) (by kernel_rfl) (by kernel_rfl) (fun w => by unfold execOp; go_simp) rfl rfl kd ?_
  refine take_val 9 _ _ (.pointer (some ⟨gs, j, none⟩)) rfl (by rfl) (by kernel_rfl) (by kernel_rfl) (by kernel_rfl) (fun w => by unfold execOp; go_simp) rfl rfl kd ?_
  simp only [Act.put, List.setIfInBounds_toArray, List.set_cons_zero, List.set_cons_succ]
  refine take_cell 4 _ _ (.float .f32 (E (i * 20 + j))) rfl (by rfl) (by kernel_rfl) (by kernel_rfl) (by kernel_rfl) (fun wq hS => by have hcell : wq.cell? ⟨ge, i * 20 + j, none⟩ = some (.float .f32 (E (i * 20 + j))) := (vAt.fcell (c := E) (hS.at (x := (ge, vls 400 (flw E), 58)) (by simp)) (by have := HI.out; have := HJ.out; omega)); clear hS; unfold execOp; go_simp) rfl rfl kd ?_
  refine take_cell 7 _ _ (.float .f32 (s i)) rfl (by rfl) (by kernel_rfl) (by kernel_rfl) (by kernel_rfl) (fun wq hS => by have hcell : wq.cell? ⟨gs, i, none⟩ = some (.float .f32 (s i)) := (show arrAt wq gs s 61 from hS.at (x := (gs, fls s, 61)) (by simp)).cell HI.out; clear hS; unfold execOp; go_simp) rfl rfl kd ?_
  refine take_cell 10 _ _ (.float .f32 (s j)) rfl (by rfl) (by kernel_rfl) (by kernel_rfl) (by kernel_rfl) (fun wq hS => by have hcell : wq.cell? ⟨gs, j, none⟩ = some (.float .f32 (s j)) := (show arrAt wq gs s 61 from hS.at (x := (gs, fls s, 61)) (by simp)).cell HJ.out; clear hS; unfold execOp; go_simp) rfl rfl kd ?_
  simp only [Act.put, List.setIfInBounds_toArray, List.set_cons_zero, List.set_cons_succ]
  refine take_val 11 _ _ (.float .f32 (min (s i) (s j))) rfl (by rfl) (by kernel_rfl) (by kernel_rfl) (by kernel_rfl) (fun w => by unfold execOp; simp [go_sem, hmn]) rfl rfl kd ?_
  simp only [Act.put, List.setIfInBounds_toArray, List.set_cons_zero, List.set_cons_succ]
  refine wpAnyH_ready (rs := [12]) (by kernel_rfl) (by simp) ?_
  refine valKE 12 _ (Fits (prod N (min (s i) (s j)))) kd rfl (by rfl) ?hr rfl (fun z wz hz kd => ?_) AllReadyH.nil
  case hr =>
    obtain ⟨z, w', a, b, c⟩ := run_fits (P := Try.prog) 23 HN.out HE.out hm.out wd
    exact ⟨z, w', run_binop_valE _ _ _ _ (by rfl) (by rfl) (by simp [eqGuard]) a, b, c⟩
  refine ⟨kd, ?_⟩
  simp only [Act.put, List.setIfInBounds_toArray, List.set_cons_zero, List.set_cons_succ]
  have HZ := hid hz
  refine take_val 13 _ _ (.float .f32 z) rfl (by rfl) (by kernel_rfl) (by kernel_rfl) (by kernel_rfl) (fun w => by rfl) rfl rfl kd ?_
  refine wpAnyH_done (by kernel_rfl) (NoPanic.normal ?_) _
  simp only [Act.put, List.setIfInBounds_toArray, List.set_cons_zero, List.set_cons_succ]
  have b := kd.1
  clear kd hz
  go_wp2
  go_ret
  exact ⟨z, HZ.out, rfl, b⟩

def oft (c kk : Nat → Nat) (a b : Nat) : Nat := prod (fmul (kk (a * 20 + b)) (c a)) (c b)

def full (c kk : Nat → Nat) (t a b : Nat) : Nat := prod (oft c kk a b) t

def evN (c kk : Nat → Nat) (t a b : Nat) : Nat := if a = b then prod (full c kk t a a) 1056964608 else full c kk t (min a b) (max a b)

theorem inf_mul {d : Nat} (h : amtB d = true) : d = 0 ∨ floatBits .mul .f32 INF d = some INF := by
  rcases Nat.eq_zero_or_pos d with h0 | h0
  · exact .inl h0
  · refine .inr ?_
    obtain ⟨n, j, h3, hv⟩ := read_val (amtB_iff.1 h)
    have hn : n ≠ 0 := by
      intro hn
      rw [hn, Nat.zero_mul] at hv
      have := val_lt h0
      rw [val_zero] at this; omega
    show Ieee.Format.mul S INF d = some INF
    unfold Ieee.Format.mul
    rw [read_pINF, h3]
    simp only [Ieee.Datum.product]
    rw [if_neg hn]; rfl

theorem full_nn {c kk : Nat → Nat} (_hc : Amts c) (_hk : AmtK kk) {t : Nat} (ht : amtB t = true) {a b : Nat} (_ha : a < 20) (_hb : b < 20) : nnB (full c kk t a b) = true := prod_nn ht

theorem run_fitsL {P : Program} (t : TypeId) {N v d : Nat} (hN : nnB N = true) (hv : Fits N v) (hd : amtB d = true) (w : World) :
    ∃ z w', (binOp .mul t (.float .f32 d) (.float .f32 v)).run P w = .ok (.float .f32 z) w' ∧ Fits (prod N d) z ∧ (w' = w ∨ w' = w.drew) := by
  cases h : floatBits .mul .f32 d v with
  | none =>
    obtain ⟨z, h1, h2, h3⟩ := run_arith_nan (P := P) (w := w) .mul (.inr (.inr (.inl rfl))) t d v h
    have hf : finB N = false := by
      rcases hf : finB N with _ | _
      · rfl
      · obtain rfl := hv.2.1 hf
        have ha : amtB v = true := by rw [nn_amt hN]; exact hf
        have : S.mul d v = none := h
        rw [(mul_eq hd ha).1] at this; cases this
    have ha : ¬ amtB N = true := by rw [nn_amt hN, hf]; decide
    rw [show prod N d = INF from if_neg ha]
    exact ⟨z, w.drew, h1, ⟨h3, fun hf => absurd hf (by rw [fin_inf]; decide), fun _ => finB_iff'.2 (by omega)⟩, .inr rfl⟩
  | some z =>
    have h' : floatBits .mul .f32 v d = some z := (smul_comm v d).trans h
    have hm := run_float_arith (P := P) w .mul t .f32 v d z h'
    obtain ⟨z', w', h1, h2, h3⟩ := run_fits (P := P) t hN hv hd w
    rw [hm] at h1
    injection h1 with h1 h4
    injection h1 with _ h1
    subst h1
    exact ⟨z, w, run_float_arith w .mul t .f32 d v z h, h2, .inl rfl⟩

set_option maxHeartbeats 4000000 in
set_option maxRecDepth 100000 in
theorem iEventsMany (c kk : Nat → Nat) (t : Nat) (hc : Amts c) (hkk : AmtK kk) (ht : amtB t = true) (w : World) :
    Calls Try.prog 110 #[.agg (fls c), .agg (vls 400 (flw kk)), .float .f32 t] w fun e w' => ∃ M : Nat → Nat, (∀ a b, a < 20 → b < 20 → Fits (evN c kk t a b) (M (a * 20 + b))) ∧ e = .returned (.agg (vls 400 (flw M))) ∧ Below w.heap.size w w' := by
  have k0 : Hid (Kept w [(w.heap.size + 1 + 1 + 1, vls 400 (flw fun _ => 0), 58), (w.heap.size + 1 + 1, vls 400 (flw fun _ => 0), 58), (w.heap.size + 1, vls 400 (flw kk), 58), (w.heap.size, fls c, 61)] ((((w.alloc (.cells (fls c) 61)).alloc (.cells (vls 400 (flw kk)) 58)).alloc (.cells (vls 400 (flw fun _ => 0)) 58)).alloc (.cells (vls 400 (flw fun _ => 0)) 58))) := hid ((((((Kept.nil w).push _ _).push _ _).push _ _).push _ _).sub (by simp))
  have HC := hid hc
  have HKK := hid hkk
  have HT := hid ht
  clear hc hkk ht
  go_enter Try.func110, Try.ntmps110
  go_wp2_with fail
  go_loopw [11] (fun i wr => ∃ k : Nat, k ≤ 20 ∧ i = .int .i64 k ∧ ∃ M : Nat → Nat, Hid (∀ a b, a < 20 → b < 20 → (a < k ∨ b < k) → Fits (evN c kk t a b) (M (a * 20 + b))) ∧ Hid (Kept w [(w.heap.size + 1 + 1 + 1, vls 400 (flw M), 58), (w.heap.size + 1 + 1, vls 400 (flw fun _ => 0), 58), (w.heap.size + 1, vls 400 (flw kk), 58), (w.heap.size, fls c, 61)] wr)) (fun i _ => 20 - (intOf i).toNat)
  case atStart => exact ⟨0, by omega, rfl, fun _ => 0, hid fun a b _ _ h => by omega, k0⟩
  case round =>
    obtain ⟨k, hk, rfl, M, hM, h0⟩ := hrel
    clear k0
    by_cases hlt : k < 20
    · have HK := hid hlt
      have hk3 : (k : Int) < 20 := by omega
      go_wp2_with fail
      go_loopw [9] (fun i wr => ∃ j : Nat, k ≤ j ∧ j ≤ 20 ∧ i = .int .i64 j ∧ ∃ M : Nat → Nat, Hid (∀ a b, a < 20 → b < 20 → (a < k ∨ b < k ∨ (a = k ∧ k < b ∧ b < j) ∨ (b = k ∧ k < a ∧ a < j)) → Fits (evN c kk t a b) (M (a * 20 + b))) ∧ Hid (k < j → Fits (full c kk t k k) (M (k * 20 + k))) ∧ Hid (Kept w [(w.heap.size + 1 + 1 + 1, vls 400 (flw M), 58), (w.heap.size + 1 + 1, vls 400 (flw fun _ => 0), 58), (w.heap.size + 1, vls 400 (flw kk), 58), (w.heap.size, fls c, 61)] wr)) (fun i _ => 20 - (intOf i).toNat)
      case atStart => exact ⟨k, by omega, by omega, rfl, M, hid fun a b ha hb h => hM.out a b ha hb (by omega), hid fun h => by omega, h0⟩
      case round =>
        clear h0 hM M
        obtain ⟨j, hkj, hj, rfl, M, hM, hD, h0⟩ := hrel
        by_cases hlj : j < 20
        · have HJ := hid hlj
          have hj3 : (j : Int) < 20 := by omega
          have NEQ : ∀ y ∈ [(w.heap.size + 1 + 1, vls 400 (flw fun _ => 0), 58), (w.heap.size + 1, vls 400 (flw kk), 58), (w.heap.size, fls c, 61)], y.1 ≠ w.heap.size + 1 + 1 + 1 := by intro y hy; simp only [List.mem_cons, List.not_mem_nil, or_false] at hy; rcases hy with rfl | rfl | rfl <;> (show (_ : Nat) ≠ _; omega)
          go_wp2_with fail
          refine region_kept (w0 := w) (l := [(w.heap.size + 1 + 1 + 1, vls 400 (flw M), 58), (w.heap.size + 1 + 1, vls 400 (flw fun _ => 0), 58), (w.heap.size + 1, vls 400 (flw kk), 58), (w.heap.size, fls c, 61)]) 14 #[false, false, false, false, false, false, false, false, false, false, false, false, false, false] (by kernel_rfl) rfl rfl ?_
          have kd := h0.out.drew
          clear h0
          generalize wr.drew = wd at kd ⊢
          refine take_val 0 _ _ (.int .i64 (k : Int)) rfl (by rfl) (by kernel_rfl) (by kernel_rfl) (by kernel_rfl) (fun w => by rfl) rfl rfl kd ?_
          refine take_val 1 _ _ (.int .i64 (j : Int)) rfl (by rfl) (by kernel_rfl) (by kernel_rfl) (by kernel_rfl) (fun w => by rfl) rfl rfl kd ?_
          refine take_val 5 _ _ (.int .i64 (k : Int)) rfl (by rfl) (by kernel_rfl) (by kernel_rfl) (by kernel_rfl) (fun w => by rfl) rfl rfl kd ?_
          refine take_val 9 _ _ (.int .i64 (j : Int)) rfl (by rfl) (by kernel_rfl) (by kernel_rfl) (by kernel_rfl) (fun w => by rfl) rfl rfl kd ?_
          simp only [Act.put, List.setIfInBounds_toArray, List.set_cons_zero, List.set_cons_succ]
          refine take_val 2 _ _ (.pointer (some ⟨w.heap.size + 1, k * 20, none⟩)) rfl (by rfl) (by kernel_rfl) (by kernel_rfl) (by kernel_rfl) (fun w => by unfold execOp; go_simp) rfl rfl kd ?_
          simp only [Act.put, List.setIfInBounds_toArray, List.set_cons_zero, List.set_cons_succ]
          refine take_val 3 _ _ (.pointer (some ⟨w.heap.size + 1, k * 20 + j, none⟩)) rfl (by rfl) (by kernel_rfl) (by kernel_rfl) (by kernel_rfl) (fun w => by unfold execOp; go_simp) rfl rfl kd ?_
          refine take_val 6 _ _ (.pointer (some ⟨w.heap.size, k, none⟩)) rfl (by rfl) (by kernel_rfl) (by kernel_rfl) (by kernel_rfl) (fun w => by unfold execOp; go_simp) rfl rfl kd ?_
          refine take_val 10 _ _ (.pointer (some ⟨w.heap.size, j, none⟩)) rfl (by rfl) (by kernel_rfl) (by kernel_rfl) (by kernel_rfl) (fun w => by unfold execOp; go_simp) rfl rfl kd ?_
          simp only [Act.put, List.setIfInBounds_toArray, List.set_cons_zero, List.set_cons_succ]
          refine take_cell 4 _ _ (.float .f32 (kk (k * 20 + j))) rfl (by rfl) (by kernel_rfl) (by kernel_rfl) (by kernel_rfl) (fun wq hS => by have hcell : wq.cell? ⟨w.heap.size + 1, k * 20 + j, none⟩ = some (.float .f32 (kk (k * 20 + j))) := vAt.fcell (c := kk) (hS.at (x := (w.heap.size + 1, vls 400 (flw kk), 58)) (by simp)) (by have := HK.out; have := HJ.out; omega); clear hS; unfold execOp; go_simp) rfl rfl kd ?_
          refine take_cell 7 _ _ (.float .f32 (c k)) rfl (by rfl) (by kernel_rfl) (by kernel_rfl) (by kernel_rfl) (fun wq hS => by have hcell : wq.cell? ⟨w.heap.size, k, none⟩ = some (.float .f32 (c k)) := (show arrAt wq (w.heap.size) c 61 from hS.at (x := (w.heap.size, fls c, 61)) (by simp)).cell HK.out; clear hS; unfold execOp; go_simp) rfl rfl kd ?_
          refine take_cell 11 _ _ (.float .f32 (c j)) rfl (by rfl) (by kernel_rfl) (by kernel_rfl) (by kernel_rfl) (fun wq hS => by have hcell : wq.cell? ⟨w.heap.size, j, none⟩ = some (.float .f32 (c j)) := (show arrAt wq (w.heap.size) c 61 from hS.at (x := (w.heap.size, fls c, 61)) (by simp)).cell HJ.out; clear hS; unfold execOp; go_simp) rfl rfl kd ?_
          simp only [Act.put, List.setIfInBounds_toArray, List.set_cons_zero, List.set_cons_succ]
          refine take_val 8 _ _ (.float .f32 (fmul (kk (k * 20 + j)) (c k))) rfl (by rfl) (by kernel_rfl) (by kernel_rfl) (by kernel_rfl) (fun w => run_binop_val _ _ _ _ (by rfl) (by rfl) (by simp [eqGuard]) (run_mul 23 (HKK.out _ (by have := HK.out; have := HJ.out; omega)) (HC.out k HK.out) w)) rfl rfl kd ?_
          simp only [Act.put, List.setIfInBounds_toArray, List.set_cons_zero, List.set_cons_succ]
          refine wpAnyH_ready (rs := [12]) (by kernel_rfl) (by simp) ?_
          refine valKE 12 _ (Fits (oft c kk k j)) kd rfl (by rfl) ?hr rfl (fun v wz hv kd => ?_) AllReadyH.nil
          case hr =>
            obtain ⟨z, w1, a1, a2, a3⟩ := run_prod (P := Try.prog) 23 (mul_eq (HKK.out (k * 20 + j) (by have := HK.out; have := HJ.out; omega)) (HC.out k HK.out)).2 (HC.out j HJ.out) (inf_mul (HC.out j HJ.out)) wd
            exact ⟨z, w1, run_binop_valE _ _ _ _ (by rfl) (by rfl) (by simp [eqGuard]) a1, a2, a3⟩
          refine ⟨kd, ?_⟩
          simp only [Act.put, List.setIfInBounds_toArray, List.set_cons_zero, List.set_cons_succ]
          refine take_val 13 _ _ (.float .f32 v) rfl (by rfl) (by kernel_rfl) (by kernel_rfl) (by kernel_rfl) (fun w => by rfl) rfl rfl kd ?_
          refine wpAnyH_done (by kernel_rfl) (NoPanic.normal ?_) _
          simp only [Act.put, List.setIfInBounds_toArray, List.set_cons_zero, List.set_cons_succ]
          have hn : k * 20 + j < 400 := by have := HK.out; have := HJ.out; omega
          obtain ⟨v2, w4, e7, hv2, hw⟩ := run_fits (P := Try.prog) 23 (prod_nn (HC.out j HJ.out)) hv HT.out wz
          have k4 : Kept w [(w.heap.size + 1 + 1 + 1, vls 400 (flw M), 58), (w.heap.size + 1 + 1, vls 400 (flw fun _ => 0), 58), (w.heap.size + 1, vls 400 (flw kk), 58), (w.heap.size, fls c, 61)] w4 := by rcases hw with rfl | rfl; exact kd; exact kd.drew
          have HV := hid (show Fits (full c kk t k j) v2 from hv2)
          clear hv hv2 hw kd
          have S3 := k4.at (x := (w.heap.size + 1 + 1 + 1, vls 400 (flw M), 58)) (by simp)
          have q0 := vAt.fcell (c := M) S3 hn
          have f0 := vAt.frozen S3 (k * 20 + j)
          have k5 := k4.fcell (n := 400) (c := M) (by omega) NEQ (k * 20 + j) v2
          go_wp2_with fail
          refine region_kept (w0 := w) (l := [(w.heap.size + 1 + 1, vls 400 (flw fun _ => 0), 58), (w.heap.size + 1, vls 400 (flw kk), 58), (w.heap.size, fls c, 61)]) 10 #[false, false, false, false, false, false, false, false, false, false] (by kernel_rfl) rfl rfl ?_
          have kd := k5.drew
          clear k4 k5 S3 q0 f0
          generalize (w4.setCell ⟨w.heap.size + 1 + 1 + 1, k * 20 + j, none⟩ (.float .f32 v2)).drew = wd at kd ⊢
          have hcl : wd.cell? ⟨w.heap.size + 1 + 1 + 1, k * 20 + j, none⟩ = some (.float .f32 v2) := (vAt.fcell (c := upd M (k * 20 + j) v2) (kd.at (x := (w.heap.size + 1 + 1 + 1, vls 400 (flw (upd M (k * 20 + j) v2)), 58)) (by simp)) hn).trans (by rw [show upd M (k * 20 + j) v2 (k * 20 + j) = v2 from if_pos rfl])
          refine take_val 0 _ _ (.int .i64 (j : Int)) rfl (by rfl) (by kernel_rfl) (by kernel_rfl) (by kernel_rfl) (fun w => by rfl) rfl rfl kd.tail ?_
          refine take_val 1 _ _ (.int .i64 (k : Int)) rfl (by rfl) (by kernel_rfl) (by kernel_rfl) (by kernel_rfl) (fun w => by rfl) rfl rfl kd.tail ?_
          refine take_val 2 _ _ (.int .i64 (k : Int)) rfl (by rfl) (by kernel_rfl) (by kernel_rfl) (by kernel_rfl) (fun w => by rfl) rfl rfl kd.tail ?_
          refine take_val 3 _ _ (.int .i64 (j : Int)) rfl (by rfl) (by kernel_rfl) (by kernel_rfl) (by kernel_rfl) (fun w => by rfl) rfl rfl kd.tail ?_
          simp only [Act.put, List.setIfInBounds_toArray, List.set_cons_zero, List.set_cons_succ]
          refine take_val 4 _ _ (.pointer (some ⟨w.heap.size + 1 + 1 + 1, k * 20, none⟩)) rfl (by rfl) (by kernel_rfl) (by kernel_rfl) (by kernel_rfl) (fun w => by unfold execOp; go_simp) rfl rfl kd.tail ?_
          refine take_val 7 _ _ (.pointer (some ⟨w.heap.size + 1 + 1 + 1, j * 20, none⟩)) rfl (by rfl) (by kernel_rfl) (by kernel_rfl) (by kernel_rfl) (fun w => by unfold execOp; go_simp) rfl rfl kd.tail ?_
          simp only [Act.put, List.setIfInBounds_toArray, List.set_cons_zero, List.set_cons_succ]
          refine take_val 5 _ _ (.pointer (some ⟨w.heap.size + 1 + 1 + 1, k * 20 + j, none⟩)) rfl (by rfl) (by kernel_rfl) (by kernel_rfl) (by kernel_rfl) (fun w => by unfold execOp; go_simp) rfl rfl kd.tail ?_
          simp only [Act.put, List.setIfInBounds_toArray, List.set_cons_zero, List.set_cons_succ]
          refine wpAnyH_ready (rs := [6]) (by kernel_rfl) (by simp) ?_
          refine valKE 6 _ (fun x => v2 = x) kd rfl (by rfl) ?hr rfl (fun v1 wz hv1 kd => ?_) AllReadyH.nil
          case hr => exact ⟨_, _, (by have hcell := hcl; clear kd; unfold execOp; go_simp), rfl, .inl rfl⟩
          subst hv1
          refine ⟨kd.tail, ?_⟩
          simp only [Act.put, List.setIfInBounds_toArray, List.set_cons_zero, List.set_cons_succ]
          refine take_val 8 _ _ (.pointer (some ⟨w.heap.size + 1 + 1 + 1, j * 20 + k, none⟩)) rfl (by rfl) (by kernel_rfl) (by kernel_rfl) (by kernel_rfl) (fun w => by unfold execOp; go_simp) rfl rfl kd.tail ?_
          simp only [Act.put, List.setIfInBounds_toArray, List.set_cons_zero, List.set_cons_succ]
          refine wpAnyH_ready (rs := [9]) (by kernel_rfl) (by simp) ?_
          refine storeCellK 9 _ kd (by omega) NEQ rfl (by rfl) 23 _ _ rfl (j * 20 + k) v2 (by have := HK.out; have := HJ.out; omega) (by rfl) (by rfl) info_f32s rfl (fun wc kd => ?_) AllReadyH.nil
          refine ⟨kd.tail, ?_⟩
          refine wpAnyH_done (by kernel_rfl) (NoPanic.normal ?_) _
          simp only [Act.put]
          have K2 := hid kd
          have HM2 : Hid (∀ a b, a < 20 → b < 20 → (a < k ∨ b < k ∨ (a = k ∧ k < b ∧ b < j + 1) ∨ (b = k ∧ k < a ∧ a < j + 1)) → Fits (evN c kk t a b) (upd (upd M (k * 20 + j) v2) (j * 20 + k) v2 (a * 20 + b))) := hid fun a b ha hb h => by
            have hK := HK.out
            have hJ := HJ.out
            by_cases e1 : a = j ∧ b = k
            · obtain ⟨rfl, rfl⟩ := e1
              have hne : a ≠ b := by omega
              rw [show upd (upd M (b * 20 + a) v2) (a * 20 + b) v2 (a * 20 + b) = v2 from if_pos rfl, show evN c kk t a b = full c kk t (min a b) (max a b) from if_neg hne, Nat.min_eq_right (by omega), Nat.max_eq_left (by omega)]
              exact HV.out
            · by_cases e2 : a = k ∧ b = j
              · obtain ⟨rfl, rfl⟩ := e2
                have hne : a ≠ b := by omega
                rw [show upd (upd M (a * 20 + b) v2) (b * 20 + a) v2 (a * 20 + b) = v2 from by unfold upd; split; rfl; exact if_pos rfl, show evN c kk t a b = full c kk t (min a b) (max a b) from if_neg hne, Nat.min_eq_left (by omega), Nat.max_eq_right (by omega)]
                exact HV.out
              · rw [show upd (upd M (k * 20 + j) v2) (j * 20 + k) v2 (a * 20 + b) = M (a * 20 + b) from by unfold upd; rw [if_neg (by omega), if_neg (by omega)]]
                exact hM.out a b ha hb (by omega)
          have HD2 : Hid (k < j + 1 → Fits (full c kk t k k) (upd (upd M (k * 20 + j) v2) (j * 20 + k) v2 (k * 20 + k))) := hid fun _ => by
            by_cases e : j = k
            · subst e
              rw [show upd (upd M (j * 20 + j) v2) (j * 20 + j) v2 (j * 20 + j) = v2 from if_pos rfl]
              exact HV.out
            · rw [show upd (upd M (k * 20 + j) v2) (j * 20 + k) v2 (k * 20 + k) = M (k * 20 + k) from by unfold upd; rw [if_neg (by omega), if_neg (by omega)]]
              exact hD.out (by omega)
          clear kd hM hD NEQ hcl
          go_wp2
          go_roundw
          case rel => exact ⟨j + 1, by omega, by omega, by go_num, _, HM2, HD2, K2⟩
          case measure => simp [intOf]; omega
        · obtain rfl : j = 20 := by omega
          have HD := hid (hD.out HK.out)
          have hn : k * 20 + k < 400 := by have := HK.out; omega
          have NEQ : ∀ y ∈ [(w.heap.size + 1 + 1, vls 400 (flw fun _ => 0), 58), (w.heap.size + 1, vls 400 (flw kk), 58), (w.heap.size, fls c, 61)], y.1 ≠ w.heap.size + 1 + 1 + 1 := by intro y hy; simp only [List.mem_cons, List.not_mem_nil, or_false] at hy; rcases hy with rfl | rfl | rfl <;> (show (_ : Nat) ≠ _; omega)
          go_wp2_with fail
          refine region_kept (w0 := w) (l := [(w.heap.size + 1 + 1, vls 400 (flw fun _ => 0), 58), (w.heap.size + 1, vls 400 (flw kk), 58), (w.heap.size, fls c, 61)]) 11 #[false, false, false, false, false, false, false, false, false, false, false] (by kernel_rfl) rfl rfl ?_
          have kd := h0.out.drew
          clear h0
          generalize wr.drew = wd at kd ⊢
          have hcl : wd.cell? ⟨w.heap.size + 1 + 1 + 1, k * 20 + k, none⟩ = some (.float .f32 (M (k * 20 + k))) := vAt.fcell (c := M) (kd.at (x := (w.heap.size + 1 + 1 + 1, vls 400 (flw M), 58)) (by simp)) hn
          refine take_val 0 _ _ (.int .i64 (k : Int)) rfl (by rfl) (by kernel_rfl) (by kernel_rfl) (by kernel_rfl) (fun w => by rfl) rfl rfl kd.tail ?_
          refine take_val 1 _ _ (.int .i64 (k : Int)) rfl (by rfl) (by kernel_rfl) (by kernel_rfl) (by kernel_rfl) (fun w => by rfl) rfl rfl kd.tail ?_
          refine take_val 2 _ _ (.int .i64 (k : Int)) rfl (by rfl) (by kernel_rfl) (by kernel_rfl) (by kernel_rfl) (fun w => by rfl) rfl rfl kd.tail ?_
          refine take_val 3 _ _ (.int .i64 (k : Int)) rfl (by rfl) (by kernel_rfl) (by kernel_rfl) (by kernel_rfl) (fun w => by rfl) rfl rfl kd.tail ?_
          simp only [Act.put, List.setIfInBounds_toArray, List.set_cons_zero, List.set_cons_succ]
          refine take_val 4 _ _ (.pointer (some ⟨w.heap.size + 1 + 1 + 1, k * 20, none⟩)) rfl (by rfl) (by kernel_rfl) (by kernel_rfl) (by kernel_rfl) (fun w => by unfold execOp; go_simp) rfl rfl kd.tail ?_
          refine take_val 8 _ _ (.pointer (some ⟨w.heap.size + 1 + 1 + 1, k * 20, none⟩)) rfl (by rfl) (by kernel_rfl) (by kernel_rfl) (by kernel_rfl) (fun w => by unfold execOp; go_simp) rfl rfl kd.tail ?_
          simp only [Act.put, List.setIfInBounds_toArray, List.set_cons_zero, List.set_cons_succ]
          refine take_val 5 _ _ (.pointer (some ⟨w.heap.size + 1 + 1 + 1, k * 20 + k, none⟩)) rfl (by rfl) (by kernel_rfl) (by kernel_rfl) (by kernel_rfl) (fun w => by unfold execOp; go_simp) rfl rfl kd.tail ?_
          simp only [Act.put, List.setIfInBounds_toArray, List.set_cons_zero, List.set_cons_succ]
          refine wpAnyH_ready (rs := [6]) (by kernel_rfl) (by simp) ?_
          refine valKE 6 _ (fun x => M (k * 20 + k) = x) kd rfl (by rfl) ?hr rfl (fun v1 wz hv1 kd => ?_) AllReadyH.nil
          case hr => exact ⟨_, _, (by have hcell := hcl; clear kd; unfold execOp; go_simp), rfl, .inl rfl⟩
          subst hv1
          refine ⟨kd.tail, ?_⟩
          simp only [Act.put, List.setIfInBounds_toArray, List.set_cons_zero, List.set_cons_succ]
          refine wpAnyH_ready (rs := [7]) (by kernel_rfl) (by simp) ?_
          have kz := kd
          refine valKE 7 _ (Fits (prod (full c kk t k k) 1056964608)) kd rfl (by rfl) ?hr rfl (fun v wy hv kd => ?_) AllReadyH.nil
          case hr =>
            obtain ⟨z, w1, a1, a2, a3⟩ := run_fitsL (P := Try.prog) 23 (full_nn HC.out HKK.out HT.out HK.out HK.out) (HD.out) (by decide : amtB 1056964608 = true) _
            exact ⟨z, w1, run_binop_valE _ _ _ _ (by rfl) (by rfl) (by simp [eqGuard]) a1, a2, a3⟩
          refine ⟨kd.tail, ?_⟩
          simp only [Act.put, List.setIfInBounds_toArray, List.set_cons_zero, List.set_cons_succ]
          refine take_val 9 _ _ (.pointer (some ⟨w.heap.size + 1 + 1 + 1, k * 20 + k, none⟩)) rfl (by rfl) (by kernel_rfl) (by kernel_rfl) (by kernel_rfl) (fun w => by unfold execOp; go_simp) rfl rfl kd.tail ?_
          simp only [Act.put, List.setIfInBounds_toArray, List.set_cons_zero, List.set_cons_succ]
          refine wpAnyH_ready (rs := [10]) (by kernel_rfl) (by simp) ?_
          refine storeCellK 10 _ kd (by omega) NEQ rfl (by rfl) 23 _ _ rfl (k * 20 + k) v (by have := HK.out; omega) (by rfl) (by rfl) info_f32s rfl (fun wc kd => ?_) AllReadyH.nil
          refine ⟨kd.tail, ?_⟩
          refine wpAnyH_done (by kernel_rfl) (NoPanic.normal ?_) _
          simp only [Act.put]
          have K2 := hid kd
          have HM2 : Hid (∀ a b, a < 20 → b < 20 → (a < k + 1 ∨ b < k + 1) → Fits (evN c kk t a b) (upd M (k * 20 + k) v (a * 20 + b))) := hid fun a b ha hb h => by
            have hK := HK.out
            by_cases e : a = k ∧ b = k
            · obtain ⟨rfl, rfl⟩ := e
              rw [show upd M (b * 20 + b) v (b * 20 + b) = v from if_pos rfl, show evN c kk t b b = prod (full c kk t b b) 1056964608 from if_pos rfl]
              exact hv
            · rw [show upd M (k * 20 + k) v (a * 20 + b) = M (a * 20 + b) from if_neg (by omega)]
              exact hM.out a b ha hb (by omega)
          clear kd kz hM hD HD NEQ hcl hv
          go_wp2
          go_roundw
          case rel => exact ⟨k + 1, by omega, by go_num, _, HM2, K2⟩
          case measure => simp [intOf]; omega
    · obtain rfl : k = 20 := by omega
      have E3 : Hid (vAt wr (w.heap.size + 1 + 1 + 1) 400 (flw M) 58) := hid (h0.out.at (x := (w.heap.size + 1 + 1 + 1, vls 400 (flw M), 58)) (by simp))
      have E2 : Hid (vAt wr (w.heap.size + 1 + 1) 400 (flw fun _ => 0) 58) := hid (h0.out.at (x := (w.heap.size + 1 + 1, vls 400 (flw fun _ => 0), 58)) (by simp))
      have b := h0.out.1
      go_wp2_with (first | (refine wpList_load_row rfl 58 _ rfl (w.heap.size + 1 + 1 + 1) rfl 58 (vls 400 (flw M)) (0, 0) _ E3.out Try.underlying58 rfl (by rw [vls_size]; exact info_kern) ?_) | (refine wpList_store_row rfl 58 _ _ rfl (w.heap.size + 1 + 1) (vls 400 (flw M)) rfl rfl 58 _ E2.out (by rw [vls_size]; exact info_kern) (by simp) (vls_one (flw_one _)) ?_))
      exact bodyPost_ret (results_cell_row rfl _ _ (w.heap.size + 1 + 1) 58 (vls 400 (flw M)) (0, 0) _ rfl (E2.out.setRow (flw M)) Try.underlying58 rfl (by rw [vls_size]; exact info_kern)) rfl ⟨M, fun a b ha hb => hM.out a b ha hb (by omega), rfl, below_row b (by omega) _⟩

set_option maxRecDepth 100000 in
theorem iColl_ok (c kk : Nat → Nat) (t : Nat) (hc : Amts c) (hb : ∀ i, i < 400 → kk i < 4294967296) (hkk : KOk kk) (hl : t < 4294967296) (q : Bool) (ht : amtB t = q) (w : World) :
    Calls Try.prog 109 #[.agg (fls c), .agg (vls 400 (flw kk)), .float .f32 t] w fun e w' => e = .returned (.int .i64 (if q = true then 0 else 2)) ∧ Below w.heap.size w w' := by
  have k0 : Hid (Kept w [(w.heap.size + 1, vls 400 (flw kk), 58), (w.heap.size, fls c, 61)] ((w.alloc (.cells (fls c) 61)).alloc (.cells (vls 400 (flw kk)) 58))) := hid ((((Kept.nil w).push _ _).push _ _).sub (by simp))
  have H1 := hid (validSizes_t c hc)
  have HV := hid (iValidKernel kk hb true ⟨fun _ => hkk, fun _ => rfl⟩)
  have HT := hid ht
  have HL := hid hl
  clear hc hb hkk ht hl
  go_enter Try.func109, Try.ntmps109
  go_wp2_with (refine wpList_load_row rfl 61 _ rfl (w.heap.size) rfl 61 (fls c) (0, 0) _ (k0.out.at (x := (w.heap.size, fls c, 61)) (by simp)) Try.underlying61 rfl (by rw [fls_size]; exact info_arr) ?_)
  refine (H1.out _).mono ?_
  rintro e w1 ⟨rfl, hb1⟩
  have k1 := hid (k0.out.stay hb1)
  clear k0 hb1
  go_wp2_with (refine wpList_load_g rfl 58 _ rfl (w.heap.size + 1) rfl 58 (vls 400 (flw kk)) (0, 0) _ (k1.out.at (x := (w.heap.size + 1, vls 400 (flw kk), 58)) (by simp)) Try.underlying58 rfl (by rw [vls_size]; exact info_kern) ?_)
  refine (HV.out _).mono ?_
  rintro e w2 ⟨rfl, hb2⟩
  have k2 := hid (k1.out.stay hb2)
  clear k1 hb2
  rcases q with _ | _
  · go_wp2_with fail
    refine (isAmount_f t HL.out HT.out _).mono ?_
    rintro e w3 ⟨rfl, hb3⟩
    have k3 := hid (k2.out.stay hb3)
    clear hb3
    go_wp2
    go_ret
    exact ⟨rfl, k3.out.1⟩
  · go_wp2_with fail
    refine (isAmount_t t HT.out _).mono ?_
    rintro e w3 ⟨rfl, rfl⟩
    go_wp2
    go_ret
    exact ⟨rfl, k2.out.1⟩

set_option maxRecDepth 100000 in
theorem iColl_bad1 (c kk : Nat → Nat) (t : Nat) (hw : Wds c) (hc : ¬ Amts c) (w : World) :
    Calls Try.prog 109 #[.agg (fls c), .agg (vls 400 (flw kk)), .float .f32 t] w fun e w' => e = .returned (.int .i64 1) ∧ Below w.heap.size w w' := by
  have k0 : Hid (Kept w [(w.heap.size + 1, vls 400 (flw kk), 58), (w.heap.size, fls c, 61)] ((w.alloc (.cells (fls c) 61)).alloc (.cells (vls 400 (flw kk)) 58))) := hid ((((Kept.nil w).push _ _).push _ _).sub (by simp))
  have H1 := hid (validSizes_f c hw hc)
  clear hc hw
  go_enter Try.func109, Try.ntmps109
  go_wp2_with (refine wpList_load_row rfl 61 _ rfl (w.heap.size) rfl 61 (fls c) (0, 0) _ (k0.out.at (x := (w.heap.size, fls c, 61)) (by simp)) Try.underlying61 rfl (by rw [fls_size]; exact info_arr) ?_)
  refine (H1.out _).mono ?_
  rintro e w1 ⟨rfl, hb1⟩
  have k1 := hid (k0.out.stay hb1)
  clear k0 hb1
  go_wp2
  go_ret
  exact ⟨rfl, k1.out.1⟩

set_option maxRecDepth 100000 in
theorem iColl_bad2 (c kk : Nat → Nat) (t : Nat) (hc : Amts c) (hb : ∀ i, i < 400 → kk i < 4294967296) (hkk : ¬ KOk kk) (w : World) :
    Calls Try.prog 109 #[.agg (fls c), .agg (vls 400 (flw kk)), .float .f32 t] w fun e w' => e = .returned (.int .i64 1) ∧ Below w.heap.size w w' := by
  have k0 : Hid (Kept w [(w.heap.size + 1, vls 400 (flw kk), 58), (w.heap.size, fls c, 61)] ((w.alloc (.cells (fls c) 61)).alloc (.cells (vls 400 (flw kk)) 58))) := hid ((((Kept.nil w).push _ _).push _ _).sub (by simp))
  have H1 := hid (validSizes_t c hc)
  have HV := hid (iValidKernel kk hb false ⟨fun h => Bool.noConfusion h, fun h => absurd h hkk⟩)
  clear hc hb hkk
  go_enter Try.func109, Try.ntmps109
  go_wp2_with (refine wpList_load_row rfl 61 _ rfl (w.heap.size) rfl 61 (fls c) (0, 0) _ (k0.out.at (x := (w.heap.size, fls c, 61)) (by simp)) Try.underlying61 rfl (by rw [fls_size]; exact info_arr) ?_)
  refine (H1.out _).mono ?_
  rintro e w1 ⟨rfl, hb1⟩
  have k1 := hid (k0.out.stay hb1)
  clear k0 hb1
  go_wp2_with (refine wpList_load_g rfl 58 _ rfl (w.heap.size + 1) rfl 58 (vls 400 (flw kk)) (0, 0) _ (k1.out.at (x := (w.heap.size + 1, vls 400 (flw kk), 58)) (by simp)) Try.underlying58 rfl (by rw [vls_size]; exact info_kern) ?_)
  refine (HV.out _).mono ?_
  rintro e w2 ⟨rfl, hb2⟩
  have k2 := hid (k1.out.stay hb2)
  clear k1 hb2
  go_wp2
  go_ret
  exact ⟨rfl, k2.out.1⟩

/-- The events as they would be, and the losses by them, any where one is infinite. -/
def evK (c kk : Nat → Nat) (t n : Nat) : Nat := evN c kk t (n / 20) (n % 20)

theorem evK_at (c kk : Nat → Nat) (t : Nat) {a b : Nat} (hb : b < 20) : evK c kk t (a * 20 + b) = evN c kk t a b := by
  unfold evK
  rw [show (a * 20 + b) / 20 = a by omega, show (a * 20 + b) % 20 = b by omega]

theorem evN_nn {c kk : Nat → Nat} {t : Nat} (ht : amtB t = true) (a b : Nat) : nnB (evN c kk t a b) = true := by
  unfold evN
  split
  · exact prod_nn (by decide)
  · exact prod_nn ht

theorem iLosses2 (c kk M : Nat → Nat) (t : Nat) (hM : ∀ a b, a < 20 → b < 20 → Fits (evN c kk t a b) (M (a * 20 + b))) (w : World) :
    Calls Try.prog 112 #[.agg (vls 400 (flw M))] w fun e w' => ∃ v, (∃ L, Wds L ∧ (AmtK (evK c kk t) → L = lossN (evK c kk t)) ∧ v = .agg (fls L)) ∧ e = .returned v ∧ Below w.heap.size w w' := by
  have hMl : ∀ n, n < 400 → M n < 4294967296 := fun n hn => by
    have := (hM (n / 20) (n % 20) (by omega) (by omega)).1
    rwa [show n / 20 * 20 + n % 20 = n by omega] at this
  by_cases h : AmtK (evK c kk t)
  · have e : ∀ n, n < 400 → M n = evK c kk t n := fun n hn => by
      have h1 := (hM (n / 20) (n % 20) (by omega) (by omega)).2.1
      rw [show n / 20 * 20 + n % 20 = n by omega] at h1
      exact h1 (amt_fin (h n hn))
    rw [show vls 400 (flw M) = vls 400 (flw (evK c kk t)) from vls_ext fun i hi => by unfold flw; rw [e i hi]]
    refine (iLossesBy _ h w).mono ?_
    rintro e w' ⟨rfl, hb⟩
    exact ⟨_, ⟨_, fun i hi => nn_lt (sumF_nn 19 fun k hk => rowD_nn h hi k (by omega)), fun _ => rfl, rfl⟩, rfl, hb⟩
  · refine (iLossesBy_any M hMl w).mono ?_
    rintro e w' ⟨L, hL, rfl, hb⟩
    exact ⟨_, ⟨L, hL, fun h' => absurd h' h, rfl⟩, rfl, hb⟩

/-- What is told of the events, by the shares of the losses L. -/
def evP (c kk : Nat → Nat) (t : Nat) (L : Nat → Nat) (n : Nat) : Nat := prod (evK c kk t n) (min (shareN c L (n / 20)) (shareN c L (n % 20)))

theorem shN_min {c L : Nat → Nat} (hc : Amts c) (hL : Wds L) {a b : Nat} (ha : a < 20) (hb : b < 20) : amtB (min (shareN c L a) (shareN c L b)) = true ∧ min (shareN c L a) (shareN c L b) ≤ 1065353216 := by
  have h1 := shareW_amt (hc a ha) (hL a ha)
  have h2 := shareW_amt (hc b hb) (hL b hb)
  rcases Nat.le_total (shareN c L a) (shareN c L b) with h | h
  · rw [Nat.min_eq_left h]; exact h1
  · rw [Nat.min_eq_right h]; exact h2

theorem fmul_small {x s : Nat} (hx : amtB x = true) (hs : amtB s = true) (h1 : s ≤ 1065353216) : amtB (fmul x s) = true := by
  have e : fmul x s = fmul s x := by
    have a := (mul_eq hx hs).1
    have b := (mul_eq hs hx).1
    rw [smul_comm, b] at a
    injection a with a
    exact a.symm
  rw [e]
  exact amtB_iff.2 (Nat.lt_of_le_of_lt (fmul_le h1 (amtB_iff.1 hx)) (amtB_iff.1 hx))

theorem evP_amt {c kk L : Nat → Nat} {t : Nat} (hc : Amts c) (hL : Wds L) (h : AmtK (evK c kk t)) : AmtK (evP c kk t L) := fun n hn => by
  have hm := shN_min hc hL (a := n / 20) (b := n % 20) (by omega) (by omega)
  rw [show evP c kk t L n = fmul (evK c kk t n) (min (shareN c L (n / 20)) (shareN c L (n % 20))) from if_pos (h n hn)]
  exact fmul_small (h n hn) hm.1 hm.2

theorem evP_inf {c kk L : Nat → Nat} {t : Nat} (h : ¬ AmtK (evK c kk t)) : ¬ FinN (evP c kk t L) 400 := fun hf => h fun n hn => by
  rcases ha : amtB (evK c kk t n) with _ | _
  · have := hf n hn
    rw [show evP c kk t L n = INF from if_neg (by rw [ha]; decide), fin_inf] at this
    exact this
  · rfl

theorem evP_fin {c kk L : Nat → Nat} {t : Nat} (hc : Amts c) (hL : Wds L) (h : AmtK (evK c kk t)) : FinN (evP c kk t L) 400 := fun n hn => amt_fin (evP_amt hc hL h n hn)

/-- The sum of the first m numbers. -/
def preS (c : Nat → Nat) : Nat → Nat
  | 0 => 0
  | m + 1 => sumF c m

theorem preS_step (c : Nat → Nat) {m : Nat} (h : m ≠ 0) : fadd (preS c m) (c m) = preS c (m + 1) := by
  cases m with
  | zero => exact absurd rfl h
  | succ m => rfl

theorem preS_nn {c : Nat → Nat} (h : ∀ i, i < 20 → nnB (c i) = true) : ∀ m, m ≤ 20 → nnB (preS c m) = true
  | 0, _ => (by decide : nnB 0 = true)
  | m + 1, hm => sumF_nn m fun i hi => h i (by omega)

theorem rowD_off (E : Nat → Nat) {k m : Nat} (h : m ≠ k) : rowD E k m = E (k * 20 + m) := if_neg h

theorem rowD_on (E : Nat → Nat) (k : Nat) : rowD E k k = fmul 1073741824 (E (k * 20 + k)) := if_pos rfl

set_option maxHeartbeats 2000000 in
set_option maxRecDepth 100000 in
theorem sLosses (E : Nat → Nat) (hE : AmtK E) (w : World) (g : Nat) (T : TypeId) (hg : vAt w g 400 (flw E) T) :
    Calls Try.prog 180 #[.pointer (some ⟨g, 0, none⟩)] w fun e w' => e = .returned (.agg (fls (lossN E))) ∧ Below w.heap.size w w' := by
  have kg : Kept w [(g, vls 400 (flw E), T)] w := ⟨Below.refl _ _, fun x hx => by
    simp only [List.mem_cons, List.not_mem_nil, or_false] at hx
    subst hx
    exact hg⟩
  have hgl : g < w.heap.size := kg.lt (x := (g, vls 400 (flw E), T)) (by simp)
  have k0 : Hid (Kept w [(w.heap.size + 1, fls (prt (lossN E) (fun _ => 0) 0), 61), (w.heap.size, fls fun _ => 0, 61), (g, vls 400 (flw E), T)] ((w.alloc (.cells (fls fun _ => 0) 61)).alloc (.cells (fls fun _ => 0) 61))) := hid (((kg.push _ _).push _ _).sub (by
    rw [show fls (prt (lossN E) (fun _ => 0) 0) = fls fun _ => 0 from fls_ext fun i _ => part_zero _ _ i]; simp))
  have HE := hid hE
  have HG := hid hgl
  clear hE hg kg hgl
  go_enter Try.func180, Try.ntmps180
  have NE0 : ∀ y ∈ [(w.heap.size, fls fun _ => 0, 61), (g, vls 400 (flw E), T)], y.1 ≠ w.heap.size + 1 := by intro y hy; have := HG.out; simp only [List.mem_cons, List.not_mem_nil, or_false] at hy; rcases hy with rfl | rfl <;> (show (_ : Nat) ≠ _; omega)
  have e0 : fls (prt (lossN E) (fun _ => 0) 0) = fls fun _ => 0 := fls_ext fun i _ => part_zero _ _ i
  rw [e0] at k0
  go_wp2_with (refine store_kept (w0 := w) (l := [(w.heap.size, fls fun _ => 0, 61), (g, vls 400 (flw E), T)]) rfl 61 _ _ rfl (w.heap.size + 1) (fls fun _ => 0) rfl rfl 61 (fls fun _ => 0) k0.out (by omega) NE0 (by rw [fls_size]; exact info_arr) rfl (fls_one _) (fun w3 k3 => ?_); replace k3 := hid k3; clear k0 NE0)
  go_loopw [4] (fun i wr => ∃ k : Nat, k ≤ 20 ∧ i = .int .i64 k ∧ Hid (Kept w [(w.heap.size + 1, fls (prt (lossN E) (fun _ => 0) k), 61), (w.heap.size, fls fun _ => 0, 61), (g, vls 400 (flw E), T)] wr)) (fun i _ => 20 - (intOf i).toNat)
  case atStart => exact ⟨0, by omega, rfl, by rw [e0]; exact k3⟩
  case round =>
    obtain ⟨k, hk, rfl, h0⟩ := hrel
    clear k3 e0
    by_cases hlt : k < 20
    · have HK := hid hlt
      have hk3 : (k : Int) < 20 := by omega
      have hgc := hid (show vAt wr g 400 (flw E) T from h0.out.at (x := (g, vls 400 (flw E), T)) (by simp))
      go_wp2_with fail
      go_loop [5, 6] (fun s j => ∃ m : Nat, m ≤ 20 ∧ j = .int .i64 m ∧ s = .float .f32 (preS (rowD E k) m)) (fun _ j => 20 - (intOf j).toNat)
      case atStart => exact ⟨0, by omega, rfl, rfl⟩
      case round =>
        obtain ⟨m, hm, rfl, rfl⟩ := hrel
        by_cases hlm : m < 20
        · have HM := hid hlm
          have hm3 : (m : Int) < 20 := by omega
          have q0 : wr.cell? ⟨g, k * 20 + m, none⟩ = some (.float .f32 (E (k * 20 + m))) := vAt.fcell (c := E) hgc.out (by omega)
          have i1 : (IntKind.i64.wrap ((m : Int) + 1)) = (m : Int) + 1 := by rw [IntKind.wrap_i64]; omega
          have hs := preS_nn (rowD_nn HE.out HK.out) m hm
          have hr := rowD_nn HE.out HK.out m hlm
          by_cases hkm : m = k
          · subst hkm
            have r1 := fun w => run_mul (P := Try.prog) 23 (x := 1073741824) (by decide) (row_amt HE.out HK.out HK.out) w
            rw [show rowK E m m = E (m * 20 + m) from rfl, ← rowD_on E m] at r1
            by_cases hm0 : m = 0
            · subst hm0
              clear hs hr hlt hk
              go_wp2
              go_round
              case rel => exact ⟨1, by omega, by simp, rfl⟩
              case measure => simp [intOf]
            · have hm1 : ((m : Int) == 0) = false := by simp; omega
              have r2 := fun w => run_add (P := Try.prog) 23 hs hr w
              rw [preS_step (rowD E m) hm0] at r2
              clear hs hr hlt hk
              go_wp2
              go_round
              case rel => exact ⟨m + 1, by omega, by go_num, rfl⟩
              case measure => simp [intOf]; omega
          · have hkm1 : ((k : Int) == (m : Int)) = false := by simp; omega
            rw [rowD_off E hkm] at hr
            by_cases hm0 : m = 0
            · subst hm0
              have e1 : preS (rowD E k) 1 = E (k * 20) := rowD_off E hkm
              rw [Nat.add_zero] at q0
              clear hs hr hlt hk
              go_wp2
              go_round
              case rel => exact ⟨1, by omega, by simp, by rw [e1]⟩
              case measure => simp [intOf]
            · have hm1 : ((m : Int) == 0) = false := by simp; omega
              have r2 := fun w => run_add (P := Try.prog) 23 hs hr w
              rw [← rowD_off E hkm, preS_step (rowD E k) hm0, rowD_off E hkm] at r2
              clear hs hr hlt hk
              go_wp2
              go_round
              case rel => exact ⟨m + 1, by omega, by go_num, rfl⟩
              case measure => simp [intOf]; omega
        · obtain rfl : m = 20 := by omega
          have NEQ : ∀ y ∈ [(w.heap.size, fls fun _ => 0, 61), (g, vls 400 (flw E), T)], y.1 ≠ w.heap.size + 1 := by intro y hy; have := HG.out; simp only [List.mem_cons, List.not_mem_nil, or_false] at hy; rcases hy with rfl | rfl <;> (show (_ : Nat) ≠ _; omega)
          have S3 : arrAt wr (w.heap.size + 1) (prt (lossN E) (fun _ => 0) k) 61 := h0.out.at (x := (w.heap.size + 1, fls (prt (lossN E) (fun _ => 0) k), 61)) (by simp)
          have q3 := S3.cell HK.out
          have f3 := S3.frozen k
          have K1 := h0.out.fcell (n := 20) (c := prt (lossN E) (fun _ => 0) k) (by omega) NEQ k (sumF (rowD E k) 19)
          have K2 : Hid (Kept w [(w.heap.size + 1, fls (prt (lossN E) (fun _ => 0) (k + 1)), 61), (w.heap.size, fls fun _ => 0, 61), (g, vls 400 (flw E), T)] (wr.setCell ⟨w.heap.size + 1, k, none⟩ (.float .f32 (sumF (rowD E k) 19)))) := hid (by
            rw [← show upd (prt (lossN E) (fun _ => 0) k) k (sumF (rowD E k) 19) = prt (lossN E) (fun _ => 0) (k + 1) from funext fun i => by rw [← part_succ (lossN E) (fun _ => 0) k i]; rfl]
            exact K1)
          rw [show preS (rowD E k) 20 = sumF (rowD E k) 19 from rfl]
          clear K1 S3 NEQ h0 hgc
          go_wp2
          go_roundw
          case rel => exact ⟨k + 1, by omega, by go_num, K2⟩
          case measure => simp [intOf]; omega
    · obtain rfl : k = 20 := by omega
      have E3 : Hid (arrAt wr (w.heap.size + 1) (lossN E) 61) := hid ((show arrAt wr (w.heap.size + 1) (prt (lossN E) (fun _ => 0) 20) 61 from h0.out.at (x := (w.heap.size + 1, fls (prt (lossN E) (fun _ => 0) 20), 61)) (by simp)).ext fun i hi => if_pos hi)
      have E2 : Hid (arrAt wr w.heap.size (fun _ => 0) 61) := hid (h0.out.at (x := (w.heap.size, fls fun _ => 0, 61)) (by simp))
      have b := h0.out.1
      go_wp2_with (first | (refine wpList_load_row rfl 61 _ rfl (w.heap.size + 1) rfl 61 (fls (lossN E)) (0, 0) _ E3.out Try.underlying61 rfl (by rw [fls_size]; exact info_arr) ?_) | (refine wpList_store_row rfl 61 _ _ rfl w.heap.size (fls (lossN E)) rfl rfl 61 _ E2.out (by rw [fls_size]; exact info_arr) (by simp) (fls_one (lossN E)) ?_))
      exact bodyPost_ret (results_cell_row rfl _ _ w.heap.size 61 (fls (lossN E)) (0, 0) _ rfl (E2.out.setRow (lossN E)) Try.underlying61 rfl (by rw [fls_size]; exact info_arr)) rfl ⟨rfl, below_row b (by omega) _⟩

/-- What each class loses, at most what it has. -/
def heldN (c E : Nat → Nat) (k : Nat) : Nat := min (lossN E k) (c k)

theorem loss_nn {E : Nat → Nat} (h : AmtK E) {k : Nat} (hk : k < 20) : nnB (lossN E k) = true := sumF_nn 19 fun i hi => rowD_nn h hk i (by omega)

set_option maxHeartbeats 2000000 in
set_option maxRecDepth 100000 in
theorem iHeldL (c E : Nat → Nat) (hc : Amts c) (hE : AmtK E) (w : World) :
    Calls Try.prog 117 #[.agg (fls c), .agg (vls 400 (flw E))] w fun e w' => e = .returned (.agg (fls (heldN c E))) ∧ Below w.heap.size w w' := by
  have k0 : Hid (Kept w [(w.heap.size + 1 + 1, fls fun _ => 0, 61), (w.heap.size + 1, vls 400 (flw E), 58), (w.heap.size, fls c, 61)] (((w.alloc (.cells (fls c) 61)).alloc (.cells (vls 400 (flw E)) 58)).alloc (.cells (fls fun _ => 0) 61))) := hid (((((Kept.nil w).push _ _).push _ _).push _ _).sub (by simp))
  have HC := hid hc
  have HE := hid hE
  clear hc hE
  go_enter Try.func117, Try.ntmps117
  go_wp2_with (refine wpList_load_row rfl 58 _ rfl (w.heap.size + 1) rfl 58 (vls 400 (flw E)) (0, 0) _ (k0.out.at (x := (w.heap.size + 1, vls 400 (flw E), 58)) (by simp)) Try.underlying58 rfl (by rw [vls_size]; exact info_kern) ?_)
  refine (iLossesBy E HE.out _).mono ?_
  rintro e w1 ⟨rfl, hb1⟩
  have kk1 := k0.out.stay hb1
  have k1 : Hid (Kept w ((w1.heap.size, fls fun _ => 0, 61) :: [(w.heap.size + 1 + 1, fls fun _ => 0, 61), (w.heap.size + 1, vls 400 (flw E), 58), (w.heap.size, fls c, 61)]) (w1.alloc (.cells (fls fun _ => 0) 61))) := hid (kk1.push _ _)
  have H1 := hid kk1.size
  have N1 := hid kk1.fresh
  have e0 : fls (prt (heldN c E) (lossN E) 0) = fls (lossN E) := fls_ext fun i _ => part_zero _ _ i
  clear kk1 hb1 k0
  go_wp2_with (first | (have _t := k1; refine store_kept (w0 := w) (l := [(w.heap.size + 1 + 1, fls fun _ => 0, 61), (w.heap.size + 1, vls 400 (flw E), 58), (w.heap.size, fls c, 61)]) rfl 61 _ _ rfl (w1.heap.size) (fls (lossN E)) rfl rfl 61 (fls fun _ => 0) k1.out H1.out N1.out (by rw [fls_size]; exact info_arr) (by simp) (fls_one _) (fun w2 k2 => ?_); replace k2 := hid k2; clear k1) | (refine wpList_load_row rfl 61 _ rfl (w1.heap.size) rfl 61 (fls (lossN E)) (0, 0) _ (k2.out.at (x := (w1.heap.size, fls (lossN E), 61)) (by simp)) Try.underlying61 rfl (by rw [fls_size]; exact info_arr) ?_))
  go_loopw [11] (fun i wr => ∃ k : Nat, k ≤ 20 ∧ i = .int .i64 k ∧ Hid (Kept w ((w1.heap.size, fls (prt (heldN c E) (lossN E) k), 61) :: [(w.heap.size + 1 + 1, fls fun _ => 0, 61), (w.heap.size + 1, vls 400 (flw E), 58), (w.heap.size, fls c, 61)]) wr)) (fun i _ => 20 - (intOf i).toNat)
  case atStart => exact ⟨0, by omega, rfl, by rw [e0]; exact k2⟩
  case round =>
    obtain ⟨k, hk, rfl, h0⟩ := hrel
    clear k2 e0
    by_cases hlt : k < 20
    · have HK := hid hlt
      have hk3 : (k : Int) < 20 := by omega
      have hix := ix 61 Try.underlying61 (lossN E) k hlt
      have S3 : arrAt wr w1.heap.size (prt (heldN c E) (lossN E) k) 61 := h0.out.at (x := (w1.heap.size, fls (prt (heldN c E) (lossN E) k), 61)) (by simp)
      have S0 : arrAt wr w.heap.size c 61 := h0.out.at (x := (w.heap.size, fls c, 61)) (by simp)
      have q0 := S0.cell HK.out
      have q3 := S3.cell HK.out
      have f3 := S3.frozen k
      have hmn := fun ts t w => run_minN (P := Try.prog) ts t (loss_nn HE.out HK.out) (HC.out k HK.out) w
      have K2 : Hid (Kept w ((w1.heap.size, fls (prt (heldN c E) (lossN E) (k + 1)), 61) :: [(w.heap.size + 1 + 1, fls fun _ => 0, 61), (w.heap.size + 1, vls 400 (flw E), 58), (w.heap.size, fls c, 61)]) (wr.setCell ⟨w1.heap.size, k, none⟩ (.float .f32 (min (lossN E k) (c k))))) := hid (by
        rw [← show upd (prt (heldN c E) (lossN E) k) k (min (lossN E k) (c k)) = prt (heldN c E) (lossN E) (k + 1) from funext fun i => by rw [← part_succ (heldN c E) (lossN E) k i]; rfl]
        exact h0.out.fcell (n := 20) H1.out N1.out k _)
      clear S0 S3 h0
      go_wp2
      go_roundw
      case rel => exact ⟨k + 1, by omega, by go_num, K2⟩
      case measure => simp [intOf]; omega
    · obtain rfl : k = 20 := by omega
      have E3 : Hid (arrAt wr w1.heap.size (heldN c E) 61) := hid ((show arrAt wr w1.heap.size (prt (heldN c E) (lossN E) 20) 61 from h0.out.at (x := (w1.heap.size, fls (prt (heldN c E) (lossN E) 20), 61)) (by simp)).ext fun i hi => if_pos hi)
      have E2 : Hid (arrAt wr (w.heap.size + 1 + 1) (fun _ => 0) 61) := hid (h0.out.at (x := (w.heap.size + 1 + 1, fls fun _ => 0, 61)) (by simp))
      have b := h0.out.1
      go_wp2_with (first | (refine wpList_load_row rfl 61 _ rfl (w1.heap.size) rfl 61 (fls (heldN c E)) (0, 0) _ E3.out Try.underlying61 rfl (by rw [fls_size]; exact info_arr) ?_) | (refine wpList_store_row rfl 61 _ _ rfl (w.heap.size + 1 + 1) (fls (heldN c E)) rfl rfl 61 _ E2.out (by rw [fls_size]; exact info_arr) (by simp) (fls_one (heldN c E)) ?_))
      exact bodyPost_ret (results_cell_row rfl _ _ (w.heap.size + 1 + 1) 61 (fls (heldN c E)) (0, 0) _ rfl (E2.out.setRow (heldN c E)) Try.underlying61 rfl (by rw [fls_size]; exact info_arr)) rfl ⟨rfl, below_row b (by omega) _⟩

set_option maxHeartbeats 2000000 in
set_option maxRecDepth 100000 in
theorem sLost (c E : Nat → Nat) (hc : Amts c) (hE : AmtK E) (w : World) (gc ge : Nat) (T1 T2 : TypeId) (hgc : arrAt w gc c T1) (hge : vAt w ge 400 (flw E) T2) :
    Calls Try.prog 116 #[.pointer (some ⟨gc, 0, none⟩), .pointer (some ⟨ge, 0, none⟩)] w fun e w' => e = .returned (.agg (fls (heldN c E))) ∧ Below w.heap.size w w' := by
  have kg : Kept w [(ge, vls 400 (flw E), T2), (gc, fls c, T1)] w := ⟨Below.refl _ _, fun x hx => by
    simp only [List.mem_cons, List.not_mem_nil, or_false] at hx
    rcases hx with rfl | rfl
    · exact hge
    · exact hgc⟩
  have k0 : Hid (Kept w [(w.heap.size, fls fun _ => 0, 61), (ge, vls 400 (flw E), T2), (gc, fls c, T1)] (w.alloc (.cells (fls fun _ => 0) 61))) := hid (kg.push _ _)
  have HC := hid hc
  have HE := hid hE
  clear hc hE hgc hge kg
  go_enter Try.func116, Try.ntmps116
  go_wp2_with fail
  refine (sLosses E HE.out _ ge T2 (k0.out.at (x := (ge, vls 400 (flw E), T2)) (by simp))).mono ?_
  rintro e w1 ⟨rfl, hb1⟩
  have kk1 := k0.out.stay hb1
  have k1 : Hid (Kept w ((w1.heap.size, fls fun _ => 0, 61) :: [(w.heap.size, fls fun _ => 0, 61), (ge, vls 400 (flw E), T2), (gc, fls c, T1)]) (w1.alloc (.cells (fls fun _ => 0) 61))) := hid (kk1.push _ _)
  have H1 := hid kk1.size
  have N1 := hid kk1.fresh
  have e0 : fls (prt (heldN c E) (lossN E) 0) = fls (lossN E) := fls_ext fun i _ => part_zero _ _ i
  clear kk1 hb1 k0
  go_wp2_with (have _t := k1; refine store_kept (w0 := w) (l := [(w.heap.size, fls fun _ => 0, 61), (ge, vls 400 (flw E), T2), (gc, fls c, T1)]) rfl 61 _ _ rfl (w1.heap.size) (fls (lossN E)) rfl rfl 61 (fls fun _ => 0) k1.out H1.out N1.out (by rw [fls_size]; exact info_arr) (by simp) (fls_one _) (fun w2 k2 => ?_); replace k2 := hid k2; clear k1)
  go_loopw [6] (fun i wr => ∃ k : Nat, k ≤ 20 ∧ i = .int .i64 k ∧ Hid (Kept w ((w1.heap.size, fls (prt (heldN c E) (lossN E) k), 61) :: [(w.heap.size, fls fun _ => 0, 61), (ge, vls 400 (flw E), T2), (gc, fls c, T1)]) wr)) (fun i _ => 20 - (intOf i).toNat)
  case atStart => exact ⟨0, by omega, rfl, by rw [e0]; exact k2⟩
  case round =>
    obtain ⟨k, hk, rfl, h0⟩ := hrel
    clear k2 e0
    by_cases hlt : k < 20
    · have HK := hid hlt
      have hk3 : (k : Int) < 20 := by omega
      have hg : (FloatKind.f32.format.order (lossN E k) (c k) == some .gt) = decide (c k < lossN E k) := gt_nn (loss_nn HE.out HK.out) (HC.out k HK.out)
      by_cases hd : c k < lossN E k
      · rw [decide_eq_true hd] at hg
        have hv : heldN c E k = c k := Nat.min_eq_right (Nat.le_of_lt hd)
        go_wp2_with fail
        refine region_kept (w0 := w) (l := (w1.heap.size, fls (prt (heldN c E) (lossN E) k), 61) :: [(w.heap.size, fls fun _ => 0, 61), (ge, vls 400 (flw E), T2), (gc, fls c, T1)]) 9 #[false, false, false, false, false, false, false, false, false] (by kernel_rfl) rfl rfl ?_
        have kd := h0.out.drew
        clear h0
        generalize wr.drew = wd at kd ⊢
        refine take_val 0 _ _ (.int .i64 (k : Int)) rfl (by rfl) (by kernel_rfl) (by kernel_rfl) (by kernel_rfl) (fun w => by rfl) rfl rfl kd ?_
        refine take_val 3 _ _ (.pointer (some ⟨gc, 0, none⟩)) rfl (by rfl) (by kernel_rfl) (by kernel_rfl) (by kernel_rfl) (fun w => by rfl) rfl rfl kd ?_
        refine take_val 4 _ _ (.int .i64 (k : Int)) rfl (by rfl) (by kernel_rfl) (by kernel_rfl) (by kernel_rfl) (fun w => by rfl) rfl rfl kd ?_
        simp only [Act.put, List.setIfInBounds_toArray, List.set_cons_zero, List.set_cons_succ]
        refine take_val 5 _ _ (.pointer (some ⟨gc, 0, none⟩)) rfl (by rfl) (by kernel_rfl) (by kernel_rfl) (by kernel_rfl) (fun w => by unfold execOp; go_simp) rfl rfl kd ?_
        refine take_val 1 _ _ (.pointer (some ⟨w1.heap.size, k, none⟩)) rfl (by rfl) (by kernel_rfl) (by kernel_rfl) (by kernel_rfl) (fun w => by unfold execOp; go_simp) rfl rfl kd ?_
        simp only [Act.put, List.setIfInBounds_toArray, List.set_cons_zero, List.set_cons_succ]
        refine take_val 6 _ _ (.pointer (some ⟨gc, k, none⟩)) rfl (by rfl) (by kernel_rfl) (by kernel_rfl) (by kernel_rfl) (fun w => by unfold execOp; go_simp) rfl rfl kd ?_
        simp only [Act.put, List.setIfInBounds_toArray, List.set_cons_zero, List.set_cons_succ]
        refine take_cell 2 _ _ (.float .f32 (lossN E k)) rfl (by rfl) (by kernel_rfl) (by kernel_rfl) (by kernel_rfl) (fun wq hS => by have hcell : wq.cell? ⟨w1.heap.size, k, none⟩ = some (.float .f32 (lossN E k)) := ((show arrAt wq w1.heap.size (prt (heldN c E) (lossN E) k) 61 from hS.at (x := (w1.heap.size, fls (prt (heldN c E) (lossN E) k), 61)) (by simp)).cell HK.out).trans (by rw [part_here]); clear hS; unfold execOp; go_simp) rfl rfl kd ?_
        refine take_cell 7 _ _ (.float .f32 (c k)) rfl (by rfl) (by kernel_rfl) (by kernel_rfl) (by kernel_rfl) (fun wq hS => by have hcell : wq.cell? ⟨gc, k, none⟩ = some (.float .f32 (c k)) := (show arrAt wq gc c T1 from hS.at (x := (gc, fls c, T1)) (by simp)).cell HK.out; clear hS; unfold execOp; go_simp) rfl rfl kd ?_
        simp only [Act.put, List.setIfInBounds_toArray, List.set_cons_zero, List.set_cons_succ]
        refine take_val 8 _ _ (.bool true) rfl (by rfl) (by kernel_rfl) (by kernel_rfl) (by kernel_rfl) (fun w => run_binop_val _ _ _ _ (by rfl) (by rfl) (by simp [eqGuard]) (by rw [← hg]; exact run_gt _ _ w)) rfl rfl kd ?_
        refine wpAnyH_done (by kernel_rfl) (NoPanic.normal ?_) _
        simp only [Act.put, List.setIfInBounds_toArray, List.set_cons_zero, List.set_cons_succ]
        have S3 : arrAt wd w1.heap.size (prt (heldN c E) (lossN E) k) 61 := kd.at (x := (w1.heap.size, fls (prt (heldN c E) (lossN E) k), 61)) (by simp)
        have S0 : arrAt wd gc c T1 := kd.at (x := (gc, fls c, T1)) (by simp)
        have q0 := S0.cell HK.out
        have f3 := S3.frozen k
        have q3 := S3.cell HK.out
        have K2 : Hid (Kept w ((w1.heap.size, fls (prt (heldN c E) (lossN E) (k + 1)), 61) :: [(w.heap.size, fls fun _ => 0, 61), (ge, vls 400 (flw E), T2), (gc, fls c, T1)]) (wd.setCell ⟨w1.heap.size, k, none⟩ (.float .f32 (c k)))) := hid (by
          rw [← show upd (prt (heldN c E) (lossN E) k) k (c k) = prt (heldN c E) (lossN E) (k + 1) from funext fun i => by rw [← part_succ (heldN c E) (lossN E) k i, hv]]
          exact kd.fcell (n := 20) H1.out N1.out k _)
        clear S0 S3 kd hg hv hd
        go_wp2
        go_roundw
        case rel => exact ⟨k + 1, by have := HK.out; omega, by go_num, K2⟩
        case measure => have := HK.out; simp [intOf]; omega
      · rw [decide_eq_false hd] at hg
        have hv : heldN c E k = lossN E k := Nat.min_eq_left (Nat.le_of_not_lt hd)
        go_wp2_with fail
        refine region_kept (w0 := w) (l := (w1.heap.size, fls (prt (heldN c E) (lossN E) k), 61) :: [(w.heap.size, fls fun _ => 0, 61), (ge, vls 400 (flw E), T2), (gc, fls c, T1)]) 9 #[false, false, false, false, false, false, false, false, false] (by kernel_rfl) rfl rfl ?_
        have kd := h0.out.drew
        clear h0
        generalize wr.drew = wd at kd ⊢
        refine take_val 0 _ _ (.int .i64 (k : Int)) rfl (by rfl) (by kernel_rfl) (by kernel_rfl) (by kernel_rfl) (fun w => by rfl) rfl rfl kd ?_
        refine take_val 3 _ _ (.pointer (some ⟨gc, 0, none⟩)) rfl (by rfl) (by kernel_rfl) (by kernel_rfl) (by kernel_rfl) (fun w => by rfl) rfl rfl kd ?_
        refine take_val 4 _ _ (.int .i64 (k : Int)) rfl (by rfl) (by kernel_rfl) (by kernel_rfl) (by kernel_rfl) (fun w => by rfl) rfl rfl kd ?_
        simp only [Act.put, List.setIfInBounds_toArray, List.set_cons_zero, List.set_cons_succ]
        refine take_val 5 _ _ (.pointer (some ⟨gc, 0, none⟩)) rfl (by rfl) (by kernel_rfl) (by kernel_rfl) (by kernel_rfl) (fun w => by unfold execOp; go_simp) rfl rfl kd ?_
        refine take_val 1 _ _ (.pointer (some ⟨w1.heap.size, k, none⟩)) rfl (by rfl) (by kernel_rfl) (by kernel_rfl) (by kernel_rfl) (fun w => by unfold execOp; go_simp) rfl rfl kd ?_
        simp only [Act.put, List.setIfInBounds_toArray, List.set_cons_zero, List.set_cons_succ]
        refine take_val 6 _ _ (.pointer (some ⟨gc, k, none⟩)) rfl (by rfl) (by kernel_rfl) (by kernel_rfl) (by kernel_rfl) (fun w => by unfold execOp; go_simp) rfl rfl kd ?_
        simp only [Act.put, List.setIfInBounds_toArray, List.set_cons_zero, List.set_cons_succ]
        refine take_cell 2 _ _ (.float .f32 (lossN E k)) rfl (by rfl) (by kernel_rfl) (by kernel_rfl) (by kernel_rfl) (fun wq hS => by have hcell : wq.cell? ⟨w1.heap.size, k, none⟩ = some (.float .f32 (lossN E k)) := ((show arrAt wq w1.heap.size (prt (heldN c E) (lossN E) k) 61 from hS.at (x := (w1.heap.size, fls (prt (heldN c E) (lossN E) k), 61)) (by simp)).cell HK.out).trans (by rw [part_here]); clear hS; unfold execOp; go_simp) rfl rfl kd ?_
        refine take_cell 7 _ _ (.float .f32 (c k)) rfl (by rfl) (by kernel_rfl) (by kernel_rfl) (by kernel_rfl) (fun wq hS => by have hcell : wq.cell? ⟨gc, k, none⟩ = some (.float .f32 (c k)) := (show arrAt wq gc c T1 from hS.at (x := (gc, fls c, T1)) (by simp)).cell HK.out; clear hS; unfold execOp; go_simp) rfl rfl kd ?_
        simp only [Act.put, List.setIfInBounds_toArray, List.set_cons_zero, List.set_cons_succ]
        refine take_val 8 _ _ (.bool false) rfl (by rfl) (by kernel_rfl) (by kernel_rfl) (by kernel_rfl) (fun w => run_binop_val _ _ _ _ (by rfl) (by rfl) (by simp [eqGuard]) (by rw [← hg]; exact run_gt _ _ w)) rfl rfl kd ?_
        refine wpAnyH_done (by kernel_rfl) (NoPanic.normal ?_) _
        simp only [Act.put, List.setIfInBounds_toArray, List.set_cons_zero, List.set_cons_succ]
        have K2 : Hid (Kept w ((w1.heap.size, fls (prt (heldN c E) (lossN E) (k + 1)), 61) :: [(w.heap.size, fls fun _ => 0, 61), (ge, vls 400 (flw E), T2), (gc, fls c, T1)]) wd) := hid (by
          rw [← show prt (heldN c E) (lossN E) k = prt (heldN c E) (lossN E) (k + 1) from funext fun i => by
            rw [← part_succ (heldN c E) (lossN E) k i, hv]
            unfold upd
            split
            · next h => rw [h]; exact part_here _ _ _
            · rfl]
          exact kd)
        clear kd hg hv hd
        go_wp2
        go_roundw
        case rel => exact ⟨k + 1, by have := HK.out; omega, by go_num, K2⟩
        case measure => have := HK.out; simp [intOf]; omega
    · obtain rfl : k = 20 := by omega
      have E3 : Hid (arrAt wr w1.heap.size (heldN c E) 61) := hid ((show arrAt wr w1.heap.size (prt (heldN c E) (lossN E) 20) 61 from h0.out.at (x := (w1.heap.size, fls (prt (heldN c E) (lossN E) 20), 61)) (by simp)).ext fun i hi => if_pos hi)
      have E2 : Hid (arrAt wr w.heap.size (fun _ => 0) 61) := hid (h0.out.at (x := (w.heap.size, fls fun _ => 0, 61)) (by simp))
      have b := h0.out.1
      go_wp2_with (first | (refine wpList_load_row rfl 61 _ rfl (w1.heap.size) rfl 61 (fls (heldN c E)) (0, 0) _ E3.out Try.underlying61 rfl (by rw [fls_size]; exact info_arr) ?_) | (refine wpList_store_row rfl 61 _ _ rfl w.heap.size (fls (heldN c E)) rfl rfl 61 _ E2.out (by rw [fls_size]; exact info_arr) (by simp) (fls_one (heldN c E)) ?_))
      exact bodyPost_ret (results_cell_row rfl _ _ w.heap.size 61 (fls (heldN c E)) (0, 0) _ rfl (E2.out.setRow (heldN c E)) Try.underlying61 rfl (by rw [fls_size]; exact info_arr)) rfl ⟨rfl, below_row b (Nat.le_refl _) _⟩

set_option maxHeartbeats 1000000 in
set_option maxRecDepth 100000 in
theorem iEventsOf_ok (c kk : Nat → Nat) (t : Nat) (hc : Amts c) (hb : ∀ i, i < 400 → kk i < 4294967296) (hkk : KOk kk) (ht : amtB t = true) (r : Nat → Nat) (q : Int) (hr : AmtK (evK c kk t) → r = evP c kk t (lossN (evK c kk t)) ∧ q = 0) (hr2 : ¬ AmtK (evK c kk t) → r = (fun _ => 0) ∧ q = 4) (w : World) :
    Calls Try.prog 41 #[.agg (fls c), .agg (vls 400 (flw kk)), .float .f32 t] w fun e w' => e = .returned (.tuple #[.agg (vls 400 (flw r)), .int .i64 q]) ∧ Below w.heap.size w w' := by
  have k0 : Hid (Kept w [(w.heap.size + 1 + 1, vls 400 (flw fun _ => 0), 58), (w.heap.size + 1, vls 400 (flw kk), 58), (w.heap.size, fls c, 61)] (((w.alloc (.cells (fls c) 61)).alloc (.cells (vls 400 (flw kk)) 58)).alloc (.cells (vls 400 (flw fun _ => 0)) 58))) := hid (((((Kept.nil w).push _ _).push _ _).push _ _).sub (by simp))
  have HCk := hid (iColl_ok c kk t hc hb hkk (amt_lt ht) true ht)
  have HM := hid (iEventsMany c kk t hc hkk.1 ht)
  have HC := hid hc
  have HT := hid ht
  have HR := hid hr
  have HR2 := hid hr2
  clear hc hb hkk ht hr hr2
  go_enter Try.func41, Try.ntmps41
  go_wp2_with (first | (refine wpList_load_row rfl 61 _ rfl (w.heap.size) rfl 61 (fls c) (0, 0) _ (k0.out.at (x := (w.heap.size, fls c, 61)) (by simp)) Try.underlying61 rfl (by rw [fls_size]; exact info_arr) ?_) | (refine wpList_load_row rfl 58 _ rfl (w.heap.size + 1) rfl 58 (vls 400 (flw kk)) (0, 0) _ (k0.out.at (x := (w.heap.size + 1, vls 400 (flw kk), 58)) (by simp)) Try.underlying58 rfl (by rw [vls_size]; exact info_kern) ?_))
  refine (HCk.out _).mono ?_
  rintro e w1 ⟨rfl, hb1⟩
  have k1 := hid (k0.out.stay hb1)
  clear k0 hb1
  rw [if_pos trivial]
  go_wp2_with (first | (refine wpList_load_row rfl 61 _ rfl (w.heap.size) rfl 61 (fls c) (0, 0) _ (k1.out.at (x := (w.heap.size, fls c, 61)) (by simp)) Try.underlying61 rfl (by rw [fls_size]; exact info_arr) ?_) | (refine wpList_load_row rfl 58 _ rfl (w.heap.size + 1) rfl 58 (vls 400 (flw kk)) (0, 0) _ (k1.out.at (x := (w.heap.size + 1, vls 400 (flw kk), 58)) (by simp)) Try.underlying58 rfl (by rw [vls_size]; exact info_kern) ?_))
  refine (HM.out _).mono ?_
  rintro e w2 ⟨M, hM, rfl, hb2⟩
  have k2 : Hid (Kept w [(w2.heap.size, vls 400 (flw fun _ => 0), 58), (w.heap.size + 1 + 1, vls 400 (flw fun _ => 0), 58), (w.heap.size + 1, vls 400 (flw kk), 58), (w.heap.size, fls c, 61)] (w2.alloc (.cells (vls 400 (flw fun _ => 0)) 58))) := hid ((k1.out.stay hb2).push _ _)
  have H2 := hid (k1.out.stay hb2).size
  have HN := hid (k1.out.stay hb2).fresh
  have HMM := hid hM
  clear k1 hb2 hM HM
  go_wp2_with (refine store_kept (w0 := w) (l := [(w.heap.size + 1 + 1, vls 400 (flw fun _ => 0), 58), (w.heap.size + 1, vls 400 (flw kk), 58), (w.heap.size, fls c, 61)]) rfl 58 _ _ rfl (w2.heap.size) (vls 400 (flw M)) rfl rfl 58 (vls 400 (flw fun _ => 0)) k2.out H2.out HN.out (by rw [vls_size]; exact info_kern) (by simp) (vls_one (flw_one _)) (fun w3 k3 => ?_); replace k3 := hid k3; clear k2)
  refine region_then (w0 := w) (l := [(w2.heap.size, vls 400 (flw M), 58), (w.heap.size + 1 + 1, vls 400 (flw fun _ => 0), 58), (w.heap.size + 1, vls 400 (flw kk), 58), (w.heap.size, fls c, 61)]) (fun a wz => ∃ g L, Wds L ∧ (AmtK (evK c kk t) → L = lossN (evK c kk t)) ∧ a = { tmps := #[.agg (fls c), .agg (vls 400 (flw kk)), .float .f32 t, .pointer (some ⟨w.heap.size, 0, none⟩), .pointer (some ⟨w.heap.size + 1, 0, none⟩), undef, .pointer (some ⟨w.heap.size + 1 + 1, 0, none⟩), .int .i64 0, .int .i64 0, .pointer (some ⟨w2.heap.size, 0, none⟩), .pointer (some ⟨g, 0, none⟩), .agg (fls c), .agg (vls 400 (flw kk)), .float .f32 t, .int .i64 0, .int .i64 0, .bool false, undef, undef, .agg (fls c), .agg (vls 400 (flw kk)), .float .f32 t, .agg (vls 400 (flw M)), .agg (fls c), .agg (vls 400 (flw M)), .agg (fls L), .agg (fls (shareN c L)), undef, undef, undef, undef], defers := [] } ∧ w.heap.size ≤ g ∧ (∀ x ∈ [(w2.heap.size, vls 400 (flw M), 58), (w.heap.size + 1 + 1, vls 400 (flw fun _ => 0), 58), (w.heap.size + 1, vls 400 (flw kk), 58), (w.heap.size, fls c, 61)], x.1 ≠ g) ∧ Kept w ((g, fls (shareN c L), 61) :: [(w2.heap.size, vls 400 (flw M), 58), (w.heap.size + 1 + 1, vls 400 (flw fun _ => 0), 58), (w.heap.size + 1, vls 400 (flw kk), 58), (w.heap.size, fls c, 61)]) wz) 6 #[false, false, false, false, false, false] (by kernel_rfl) rfl rfl ?_ ?_
  · have kd := k3.out.drew
    generalize w3.drew = wd at kd ⊢
    refine take_load 0 _ _ rfl (by rfl) (by kernel_rfl) (by kernel_rfl) (by kernel_rfl) 61 _ rfl (w.heap.size) (fls c) 61 (by rfl) (by simp) _ Try.underlying61 rfl (by rw [fls_size]; exact info_arr) rfl rfl kd ?_
    refine take_load 1 _ _ rfl (by rfl) (by kernel_rfl) (by kernel_rfl) (by kernel_rfl) 58 _ rfl (w2.heap.size) (vls 400 (flw M)) 58 (by rfl) (by simp) _ Try.underlying58 rfl (by rw [vls_size]; exact info_kern) rfl rfl kd ?_
    simp only [Act.put, List.setIfInBounds_toArray, List.set_cons_zero, List.set_cons_succ]
    refine wpAnyH_ready (rs := [2, 4]) (by kernel_rfl) (by simp) ?_
    refine callKV 2 _ (fun v => ∃ L, Wds L ∧ (AmtK (evK c kk t) → L = lossN (evK c kk t)) ∧ v = .agg (fls L)) kd rfl (by rfl) 112 #[.agg (vls 400 (flw M))] (fun w => by unfold execOp; go_simp) rfl ?hc1 (fun v w21 hv k21 => ?_) ?_
    case hc1 => exact iLosses2 c kk M t HMM.out _
    · obtain ⟨L, hL1, hL2, rfl⟩ := hv
      refine ⟨k21, ?_⟩
      simp only [Act.put, List.setIfInBounds_toArray, List.set_cons_zero, List.set_cons_succ]
      refine wpAnyH_ready (rs := [3, 4]) (by kernel_rfl) (by simp) ?_
      refine callK 3 _ _ (.agg (fls (shareN c L))) k21 rfl (by rfl) 111 #[.agg (fls c), .agg (fls L)] (fun w => by unfold execOp; go_simp) rfl rfl ?hc2 (fun w22 k22 => ?_) ?_
      case hc2 => exact iShares c L HC.out hL1 _
      · skip
        refine ⟨k22, ?_⟩
        simp only [Act.put, List.setIfInBounds_toArray, List.set_cons_zero, List.set_cons_succ]
        refine wpAnyH_ready (rs := [4]) (by kernel_rfl) (by simp) ?_
        refine allocK 4 (fun g => _) _ k22 rfl (by rfl) (fls fun _ => 0) 61 (alloc_sizes _ _ _ _ _ _ _) (fun g => by rfl) rfl (fun w23 g k23 hB hn => ?_) AllReadyH.nil
        refine ⟨k23.tail, ?_⟩
        simp only [Act.put, List.setIfInBounds_toArray, List.set_cons_zero, List.set_cons_succ]
        refine wpAnyH_ready (rs := [5]) (by kernel_rfl) (by simp) ?_
        refine storeK 5 _ _ k23 hB hn rfl (by rfl) 61 _ _ rfl (fls (shareN c L)) (by rfl) (by rfl) (by rw [fls_size]; exact info_arr) (by simp) (fls_one _) (by rfl) (by rfl) (fun w24 k24 => ?_) AllReadyH.nil
        refine ⟨k24.tail, ?_⟩
        simp only [Act.put, List.setIfInBounds_toArray, List.set_cons_zero, List.set_cons_succ]
        refine wpAnyH_done (by kernel_rfl) (NoPanic.normal ?_) _
        exact ⟨rfl, g, L, hL1, hL2, rfl, hB, hn, k24⟩
      refine allocK 4 (fun g => _) _ k21 rfl (by rfl) (fls fun _ => 0) 61 (alloc_sizes _ _ _ _ _ _ _) (fun g => by rfl) rfl (fun w25 g k25 hB hn => ?_) AllReadyH.nil
      refine ⟨k25.tail, ?_⟩
      simp only [Act.put, List.setIfInBounds_toArray, List.set_cons_zero, List.set_cons_succ]
      refine wpAnyH_ready (rs := [3]) (by kernel_rfl) (by simp) ?_
      refine callK 3 _ _ (.agg (fls (shareN c L))) k25 rfl (by rfl) 111 #[.agg (fls c), .agg (fls L)] (fun w => by unfold execOp; go_simp) rfl rfl ?hc6 (fun w26 k26 => ?_) AllReadyH.nil
      case hc6 => exact iShares c L HC.out hL1 _
      refine ⟨k26.tail, ?_⟩
      simp only [Act.put, List.setIfInBounds_toArray, List.set_cons_zero, List.set_cons_succ]
      refine wpAnyH_ready (rs := [5]) (by kernel_rfl) (by simp) ?_
      refine storeK 5 _ _ k26 hB hn rfl (by rfl) 61 _ _ rfl (fls (shareN c L)) (by rfl) (by rfl) (by rw [fls_size]; exact info_arr) (by simp) (fls_one _) (by rfl) (by rfl) (fun w27 k27 => ?_) AllReadyH.nil
      refine ⟨k27.tail, ?_⟩
      simp only [Act.put, List.setIfInBounds_toArray, List.set_cons_zero, List.set_cons_succ]
      refine wpAnyH_done (by kernel_rfl) (NoPanic.normal ?_) _
      exact ⟨rfl, g, L, hL1, hL2, rfl, hB, hn, k27⟩
    refine allocK 4 (fun g => _) _ kd rfl (by rfl) (fls fun _ => 0) 61 (alloc_sizes _ _ _ _ _ _ _) (fun g => by rfl) rfl (fun w28 g k28 hB hn => ?_) AllReadyH.nil
    refine ⟨k28.tail, ?_⟩
    simp only [Act.put, List.setIfInBounds_toArray, List.set_cons_zero, List.set_cons_succ]
    refine wpAnyH_ready (rs := [2]) (by kernel_rfl) (by simp) ?_
    refine callKV 2 _ (fun v => ∃ L, Wds L ∧ (AmtK (evK c kk t) → L = lossN (evK c kk t)) ∧ v = .agg (fls L)) k28 rfl (by rfl) 112 #[.agg (vls 400 (flw M))] (fun w => by unfold execOp; go_simp) rfl ?hc9 (fun v w29 hv k29 => ?_) AllReadyH.nil
    case hc9 => exact iLosses2 c kk M t HMM.out _
    obtain ⟨L, hL1, hL2, rfl⟩ := hv
    refine ⟨k29.tail, ?_⟩
    simp only [Act.put, List.setIfInBounds_toArray, List.set_cons_zero, List.set_cons_succ]
    refine wpAnyH_ready (rs := [3]) (by kernel_rfl) (by simp) ?_
    refine callK 3 _ _ (.agg (fls (shareN c L))) k29 rfl (by rfl) 111 #[.agg (fls c), .agg (fls L)] (fun w => by unfold execOp; go_simp) rfl rfl ?hc10 (fun w30 k30 => ?_) AllReadyH.nil
    case hc10 => exact iShares c L HC.out hL1 _
    refine ⟨k30.tail, ?_⟩
    simp only [Act.put, List.setIfInBounds_toArray, List.set_cons_zero, List.set_cons_succ]
    refine wpAnyH_ready (rs := [5]) (by kernel_rfl) (by simp) ?_
    refine storeK 5 _ _ k30 hB hn rfl (by rfl) 61 _ _ rfl (fls (shareN c L)) (by rfl) (by rfl) (by rw [fls_size]; exact info_arr) (by simp) (fls_one _) (by rfl) (by rfl) (fun w31 k31 => ?_) AllReadyH.nil
    refine ⟨k31.tail, ?_⟩
    simp only [Act.put, List.setIfInBounds_toArray, List.set_cons_zero, List.set_cons_succ]
    refine wpAnyH_done (by kernel_rfl) (NoPanic.normal ?_) _
    exact ⟨rfl, g, L, hL1, hL2, rfl, hB, hn, k31⟩
  · rintro a wz ⟨g, L, hL1, hL2, rfl, hB, hn, kz⟩
    have KZ := hid kz
    have HL1 := hid hL1
    have HL2 := hid hL2
    clear kz hL1 hL2 k3
    have hP : FinN (evP c kk t L) 400 → r = evP c kk t L ∧ q = 0 := fun hf => by
      by_cases h : AmtK (evK c kk t)
      · rw [HL2.out h]; exact HR.out h
      · exact absurd hf (evP_inf h)
    have hP2 : ¬ FinN (evP c kk t L) 400 → r = (fun _ => 0) ∧ q = 4 := fun hf => by
      by_cases h : AmtK (evK c kk t)
      · exact absurd (evP_fin HC.out HL1.out h) hf
      · exact HR2.out h
    have hcall := iKernelOf2 (f := 114) plain_events #[.pointer (some ⟨w2.heap.size, 0, none⟩), .pointer (some ⟨g, 0, none⟩)] (evP c kk t L) r q hP hP2 wz (fun i j hi hj w' hb => by
      rw [show (#[.int .i64 (i : Int), .int .i64 (j : Int)] ++ #[.pointer (some ⟨w2.heap.size, 0, none⟩), .pointer (some ⟨g, 0, none⟩)] : Array Value) = #[.int .i64 (i : Int), .int .i64 (j : Int), .pointer (some ⟨w2.heap.size, 0, none⟩), .pointer (some ⟨g, 0, none⟩)] from rfl, show evP c kk t L (i * 20 + j) = prod (evN c kk t i j) (min (shareN c L i) (shareN c L j)) from by unfold evP; rw [evK_at c kk t hj, show (i * 20 + j) / 20 = i by omega, show (i * 20 + j) % 20 = j by omega]]
      have k9 := KZ.out.stay hb
      exact iEvents1 M (shareN c L) (evN c kk t i j) (evN_nn HT.out i j) i j hi hj (HMM.out i j hi hj) (shareW_amt (HC.out i hi) (HL1.out i hi)).1 (shareW_amt (HC.out j hj) (HL1.out j hj)).1 w' _ _ (k9.at (x := (w2.heap.size, vls 400 (flw M), 58)) (by simp)) (k9.at (x := (g, fls (shareN c L), 61)) (by simp)))
    have A1 := hid (show vAt wz (w.heap.size + 1 + 1) 400 (flw fun _ => 0) 58 from KZ.out.at (x := (w.heap.size + 1 + 1, vls 400 (flw fun _ => 0), 58)) (by simp))
    have b1 := KZ.out.1
    clear hP hP2 KZ HL1 HL2 hn hB
    go_wp2_with fail
    refine hcall.mono ?_
    rintro e w9 ⟨rfl, hb9⟩
    have A3 := hid (A1.out.stay hb9)
    have b3 := stp b1 (Nat.le_refl _) hb9
    clear hcall A1 b1 hb9
    go_wp2_with (refine wpList_store_row rfl 58 _ _ rfl (w.heap.size + 1 + 1) (vls 400 (flw r)) rfl rfl 58 _ A3.out (by rw [vls_size]; exact info_kern) (by simp) (vls_one (flw_one _)) ?_)
    exact bodyPost_ret (results_row_tmp rfl _ _ (w.heap.size + 1 + 1) 58 (vls 400 (flw r)) (0, 0) _ rfl (A3.out.setRow (flw r)) Try.underlying58 rfl (by rw [vls_size]; exact info_kern)) rfl ⟨rfl, below_row b3 (by omega) _⟩

/-- The mass of a pair. -/
def pm (i j : Nat) : Nat := fadd (mass i) (mass j)

theorem pm_all : ((List.range 20).all fun i => (List.range 20).all fun j => S.add (mass i) (mass j) == some (pm i j) && amtB (pm i j) && pm i j != 0) = true := by decide +kernel

theorem pm_facts {i j : Nat} (hi : i < 20) (hj : j < 20) : S.add (mass i) (mass j) = some (pm i j) ∧ amtB (pm i j) = true ∧ pm i j ≠ 0 := by
  have h := List.all_eq_true.1 (List.all_eq_true.1 pm_all i (List.mem_range.2 hi)) j (List.mem_range.2 hj)
  simp only [Bool.and_eq_true, beq_iff_eq, bne_iff_ne] at h
  exact ⟨h.1.1, h.1.2, h.2⟩

/-- What is left where the losses are taken away. -/
def leftN (c P : Nat → Nat) (k : Nat) : Nat := fsub (c k) (heldN c P k)

/-- The sizes behind the first n places of the table of events. -/
def colN (c P : Nat → Nat) : Nat → Nat → Nat
  | 0 => leftN c P
  | n + 1 => if n / 20 ≤ n % 20 ∧ P n ≠ 0 then put1 (colN c P n) (pm (n / 20) (n % 20)) (P n) else colN c P n

theorem col_at {c P : Nat → Nat} {i j : Nat} (hj : j < 20) (hij : i ≤ j) (h0 : P (i * 20 + j) ≠ 0) : colN c P (i * 20 + j + 1) = put1 (colN c P (i * 20 + j)) (pm i j) (P (i * 20 + j)) := by
  have e1 : (i * 20 + j) / 20 = i := by omega
  have e2 : (i * 20 + j) % 20 = j := by omega
  show (if (i * 20 + j) / 20 ≤ (i * 20 + j) % 20 ∧ P (i * 20 + j) ≠ 0 then put1 (colN c P (i * 20 + j)) (pm ((i * 20 + j) / 20) ((i * 20 + j) % 20)) (P (i * 20 + j)) else colN c P (i * 20 + j)) = _
  rw [e1, e2, if_pos ⟨hij, h0⟩]

theorem col_off {c P : Nat → Nat} {n : Nat} (h : P n = 0) : colN c P (n + 1) = colN c P n := if_neg fun h' => h'.2 h

theorem col_low {c P : Nat → Nat} {i j : Nat} (hj : j < 20) (hij : ¬ i ≤ j) : colN c P (i * 20 + j + 1) = colN c P (i * 20 + j) := if_neg fun h' => hij (by
  have := h'.1
  rwa [show (i * 20 + j) / 20 = i by omega, show (i * 20 + j) % 20 = j by omega] at this)

theorem col_row {c P : Nat → Nat} (i : Nat) : ∀ m, m ≤ i → i < 20 → colN c P (i * 20 + m) = colN c P (i * 20)
  | 0, _, _ => rfl
  | m + 1, hm, hi => (col_low (c := c) (P := P) (i := i) (j := m) (by omega) (by omega)).trans (col_row (c := c) (P := P) i m (by omega) hi)

theorem col_skip {c P : Nat → Nat} (i : Nat) (hi : i < 20) (h : ∀ j, i ≤ j → j < 20 → P (i * 20 + j) = 0) : ∀ m, m ≤ 20 → colN c P (i * 20 + m) = colN c P (i * 20)
  | 0, _ => rfl
  | m + 1, hm => by
    have ih := col_skip (c := c) i hi h m (by omega)
    by_cases hl : i ≤ m
    · exact (col_off (h m hl (by omega))).trans ih
    · exact (col_low (by omega) hl).trans ih

theorem leftN_amt {c P : Nat → Nat} (hc : Amts c) {k : Nat} (hk : k < 20) : S.sub (c k) (heldN c P k) = some (leftN c P k) ∧ amtB (leftN c P k) = true := by
  have h1 := amtB_iff.1 (hc k hk)
  have h2 : heldN c P k ≤ c k := Nat.min_le_right _ _
  have h3 := fsub_le h1 h2
  exact ⟨(fsub_val h1 h2).1, amtB_iff.2 (Nat.lt_of_le_of_lt h3 h1)⟩

theorem col_nn {c P : Nat → Nat} (hc : Amts c) (hP : AmtK P) : ∀ n, n ≤ 400 → NNs (colN c P n)
  | 0, _ => fun _ hi => amt_nn (leftN_amt hc hi).2
  | n + 1, hn => by
    have ih := col_nn hc hP n (by omega)
    unfold colN
    split
    · exact put1_nn ih (pm_facts (by omega) (by omega)).2.1 (hP n (by omega))
    · exact ih

theorem col_bad {c P : Nat → Nat} (hc : Amts c) (hP : AmtK P) {n : Nat} (h0 : ¬ Fins (colN c P n)) : ∀ m, n ≤ m → m ≤ 400 → ¬ Fins (colN c P m) := by
  intro m hm
  induction m with
  | zero =>
    intro _
    obtain rfl : n = 0 := by omega
    exact h0
  | succ m ih =>
    intro hle
    by_cases he : n = m + 1
    · subst he; exact h0
    · have hb := ih (by omega) (by omega)
      unfold colN
      split
      · exact put1_bad (col_nn hc hP m (by omega)) hb (pm_facts (by omega) (by omega)).2.1 (hP m (by omega))
      · exact hb

theorem col_zero {c P : Nat → Nat} (hc : Amts c) : Fins (colN c P 0) := fun _ hi => amt_fin (leftN_amt hc hi).2

/-- A class without droplets has no events. -/
def NoDrops (c P : Nat → Nat) : Prop := ∀ i j, i < 20 → i ≤ j → j < 20 → c i = 0 → P (i * 20 + j) = 0

theorem prod_0 {d : Nat} (hd : amtB d = true) : prod 0 d = 0 := (if_pos (by decide : amtB 0 = true)).trans (fmul_zero hd)

theorem fmul_0 {x : Nat} (hx : amtB x = true) : fmul x 0 = 0 := (fmul_comm (amtB_iff.1 hx) (by decide)).trans (fmul_zero hx)

theorem no_drops {c kk L : Nat → Nat} {t : Nat} (hc : Amts c) (hk : AmtK kk) (ht : amtB t = true) (hL : Wds L) : NoDrops c (evP c kk t L) := by
  intro i j hi hij hj h0
  have hf : full c kk t i j = 0 := by
    unfold full oft
    rw [h0, fmul_0 (hk _ (by omega)), prod_0 (hc j hj), prod_0 ht]
  have he : evK c kk t (i * 20 + j) = 0 := by
    rw [evK_at c kk t hj]
    unfold evN
    split
    · next h => subst h; rw [hf]; exact prod_0 (by decide)
    · rw [Nat.min_eq_left hij, Nat.max_eq_right hij]; exact hf
  unfold evP
  rw [he]
  exact prod_0 (shN_min hc hL (by omega) (by omega)).1

theorem eq0_t : (FloatKind.f32.format.order 0 0 == some .eq) = true := by decide

theorem eq0_f {x : Nat} (hx : amtB x = true) (h : x ≠ 0) : (FloatKind.f32.format.order x 0 == some .eq) = false := by
  show (S.order x 0 == some .eq) = false
  rw [order_lt (amtB_iff.1 hx) (by decide), Nat.compare_eq_gt.2 (by omega)]; rfl

set_option maxHeartbeats 4000000 in
set_option maxRecDepth 100000 in
theorem iCollide_of (c kk : Nat → Nat) (t : Nat) (r : Nat → Nat) (q : Int) (hE : ∀ w, Calls Try.prog 41 #[.agg (fls c), .agg (vls 400 (flw kk)), .float .f32 t] w fun e w' => e = .returned (.tuple #[.agg (vls 400 (flw r)), .int .i64 q]) ∧ Below w.heap.size w w') (hq : q = 0 → Amts c ∧ AmtK r ∧ NoDrops c r) (res : Nat → Nat) (n : Int)
    (h0 : q = 0 → Fins (colN c r 400) → res = colN c r 400 ∧ n = 0) (h1 : q = 0 → ¬ Fins (colN c r 400) → res = (fun _ => 0) ∧ n = 4) (h2 : q ≠ 0 → res = (fun _ => 0) ∧ n = q) (w : World) :
    Calls Try.prog 47 #[.agg (fls c), .agg (vls 400 (flw kk)), .float .f32 t] w fun e w' => e = .returned (.tuple #[.agg (fls res), .int .i64 n]) ∧ Below w.heap.size w w' := by
  have k0 : Hid (Kept w [(w.heap.size + 1 + 1, fls fun _ => 0, 61), (w.heap.size + 1, vls 400 (flw kk), 58), (w.heap.size, fls c, 61)] (((w.alloc (.cells (fls c) 61)).alloc (.cells (vls 400 (flw kk)) 58)).alloc (.cells (fls fun _ => 0) 61))) := hid (((((Kept.nil w).push _ _).push _ _).push _ _).sub (by simp))
  have HE := hid hE
  have HQ := hid hq
  have H0 := hid h0
  have H1 := hid h1
  have H2 := hid h2
  clear hE hq h0 h1 h2
  go_enter Try.func47, Try.ntmps47
  go_wp2_with fail
  refine wp_scope_straight ?_
  go_wp2_with (first | (refine wpList_load_row rfl 61 _ rfl (w.heap.size) rfl 61 (fls c) (0, 0) _ (k0.out.at (x := (w.heap.size, fls c, 61)) (by simp)) Try.underlying61 rfl (by rw [fls_size]; exact info_arr) ?_) | (refine wpList_load_row rfl 58 _ rfl (w.heap.size + 1) rfl 58 (vls 400 (flw kk)) (0, 0) _ (k0.out.at (x := (w.heap.size + 1, vls 400 (flw kk), 58)) (by simp)) Try.underlying58 rfl (by rw [vls_size]; exact info_kern) ?_))
  refine (HE.out _).mono ?_
  rintro e w1 ⟨rfl, hb1⟩
  have kk1 := k0.out.stay hb1
  have k1 : Hid (Kept w ((w1.heap.size, vls 400 (flw fun _ => 0), 58) :: [(w.heap.size + 1 + 1, fls fun _ => 0, 61), (w.heap.size + 1, vls 400 (flw kk), 58), (w.heap.size, fls c, 61)]) (w1.alloc (.cells (vls 400 (flw fun _ => 0)) 58))) := hid (kk1.push _ _)
  have HB := hid kk1.size
  have HN := hid kk1.fresh
  have NR := hid (show w1.heap.size ≠ w.heap.size + 1 + 1 from Ne.symm (HN.out (w.heap.size + 1 + 1, fls fun _ => 0, 61) (by simp)))
  clear kk1 hb1 k0 HE
  by_cases hc : q = 0
  · subst hc
    obtain ⟨hA, hK, hD⟩ := HQ.out rfl
    have HA := hid hA
    have HK := hid hK
    have HD := hid hD
    have G0 := hid (H0.out rfl)
    have G1 := hid (H1.out rfl)
    clear H0 H1 H2 HQ hA hK hD
    go_wp2_with (first | (have _t := k1; refine store_kept (w0 := w) (l := [(w.heap.size + 1 + 1, fls fun _ => 0, 61), (w.heap.size + 1, vls 400 (flw kk), 58), (w.heap.size, fls c, 61)]) rfl 58 _ _ rfl (w1.heap.size) (vls 400 (flw r)) rfl rfl 58 (vls 400 (flw fun _ => 0)) k1.out HB.out HN.out (by rw [vls_size]; exact info_kern) (by simp) (vls_one (flw_one _)) (fun w2 k2 => ?_); replace k2 := hid k2; clear k1; have HS2 := hid k2.out.size; have HN2 := hid k2.out.fresh; have k3 : Hid (Kept w ((w2.heap.size, fls fun _ => 0, 61) :: ((w1.heap.size, vls 400 (flw r), 58) :: [(w.heap.size + 1 + 1, fls fun _ => 0, 61), (w.heap.size + 1, vls 400 (flw kk), 58), (w.heap.size, fls c, 61)])) (w2.alloc (.cells (fls fun _ => 0) 61))) := hid (k2.out.push _ _)) | (have _t := k3; refine store_kept (w0 := w) (l := ((w1.heap.size, vls 400 (flw r), 58) :: [(w.heap.size + 1 + 1, fls fun _ => 0, 61), (w.heap.size + 1, vls 400 (flw kk), 58), (w.heap.size, fls c, 61)])) rfl 61 _ _ rfl (w2.heap.size) (fls c) rfl rfl 61 (fls fun _ => 0) k3.out HS2.out HN2.out (by rw [fls_size]; exact info_arr) (by simp) (fls_one _) (fun w4 k4 => ?_); replace k4 := hid k4; clear k3 k2) | (refine wpList_load_row rfl 61 _ rfl (w.heap.size) rfl 61 (fls c) (0, 0) _ (k2.out.at (x := (w.heap.size, fls c, 61)) (by simp)) Try.underlying61 rfl (by rw [fls_size]; exact info_arr) ?_) | (refine wpList_load_row rfl 61 _ rfl (w.heap.size) rfl 61 (fls c) (0, 0) _ (k4.out.at (x := (w.heap.size, fls c, 61)) (by simp)) Try.underlying61 rfl (by rw [fls_size]; exact info_arr) ?_) | (refine wpList_load_row rfl 58 _ rfl (w1.heap.size) rfl 58 (vls 400 (flw r)) (0, 0) _ (k4.out.at (x := (w1.heap.size, vls 400 (flw r), 58)) (by simp)) Try.underlying58 rfl (by rw [vls_size]; exact info_kern) ?_))
    refine (iHeldL c r HA.out HK.out _).mono ?_
    rintro e w5 ⟨rfl, hb5⟩
    have k5 := hid (k4.out.stay hb5)
    have e0 : fls (prt (leftN c r) c 0) = fls c := fls_ext fun i _ => part_zero _ _ i
    clear hb5 k4
    go_wp2_with fail
    go_loopw [30] (fun i wr => ∃ k : Nat, k ≤ 20 ∧ i = .int .i64 k ∧ Hid (Kept w ((w2.heap.size, fls (prt (leftN c r) c k), 61) :: ((w1.heap.size, vls 400 (flw r), 58) :: [(w.heap.size + 1 + 1, fls fun _ => 0, 61), (w.heap.size + 1, vls 400 (flw kk), 58), (w.heap.size, fls c, 61)])) wr)) (fun i _ => 20 - (intOf i).toNat)
    case atStart => exact ⟨0, by omega, rfl, by rw [e0]; exact k5⟩
    case round =>
      obtain ⟨k, hk, rfl, h0⟩ := hrel
      clear k5 e0
      by_cases hlt : k < 20
      · have HKK := hid hlt
        have hk3 : (k : Int) < 20 := by omega
        have hix := ix 61 Try.underlying61 (heldN c r) k hlt
        have S3 : arrAt wr w2.heap.size (prt (leftN c r) c k) 61 := h0.out.at (x := (w2.heap.size, fls (prt (leftN c r) c k), 61)) (by simp)
        have S0 : arrAt wr w.heap.size c 61 := h0.out.at (x := (w.heap.size, fls c, 61)) (by simp)
        have q0 := S0.cell HKK.out
        have f3 := S3.frozen k
        have q3 := S3.cell HKK.out
        have r1 := fun w => run_float_arith (P := Try.prog) w .sub 23 .f32 _ _ _ (leftN_amt (P := r) HA.out HKK.out).1
        have K2 : Hid (Kept w ((w2.heap.size, fls (prt (leftN c r) c (k + 1)), 61) :: ((w1.heap.size, vls 400 (flw r), 58) :: [(w.heap.size + 1 + 1, fls fun _ => 0, 61), (w.heap.size + 1, vls 400 (flw kk), 58), (w.heap.size, fls c, 61)])) (wr.setCell ⟨w2.heap.size, k, none⟩ (.float .f32 (leftN c r k)))) := hid (by
          rw [← show upd (prt (leftN c r) c k) k (leftN c r k) = prt (leftN c r) c (k + 1) from funext fun i => part_succ (leftN c r) c k i]
          exact h0.out.fcell (n := 20) HS2.out HN2.out k _)
        clear S0 S3 h0
        go_wp2
        go_roundw
        case rel => exact ⟨k + 1, by omega, by go_num, K2⟩
        case measure => simp [intOf]; omega
      · obtain rfl : k = 20 := by omega
        have eL : fls (prt (leftN c r) c 20) = fls (colN c r (0 * 20)) := fls_ext fun i hi => if_pos hi
        rw [eL] at h0
        clear eL hlt hk
        go_wp2_with fail
        refine wp_label ?_
        go_wp2_with fail
        go_loopw [42] (fun i wr => ∃ k : Nat, k ≤ 20 ∧ i = .int .i64 k ∧ Hid (Fins (colN c r (k * 20))) ∧ Hid (Kept w ((w2.heap.size, fls (colN c r (k * 20)), 61) :: ((w1.heap.size, vls 400 (flw r), 58) :: [(w.heap.size + 1 + 1, fls fun _ => 0, 61), (w.heap.size + 1, vls 400 (flw kk), 58), (w.heap.size, fls c, 61)])) wr)) (fun i _ => 20 - (intOf i).toNat)
        case atStart => exact ⟨0, by omega, rfl, hid (col_zero HA.out), h0⟩
        case round =>
          obtain ⟨k, hk, rfl, hF, h3⟩ := hrel
          clear h0
          by_cases hlt : k < 20
          · have HKK := hid hlt
            have hk3 : (k : Int) < 20 := by omega
            have S0 : arrAt wr w.heap.size c 61 := h3.out.at (x := (w.heap.size, fls c, 61)) (by simp)
            have q0 := S0.cell HKK.out
            by_cases hz : c k = 0
            · have hsk := hid (show colN c r (k * 20 + 20) = colN c r (k * 20) from col_skip k hlt (fun j h1 h2 => HD.out k j hlt h1 h2 hz) 20 (Nat.le_refl _))
              rw [hz] at q0
              have e0 := eq0_t
              clear S0 hz
              go_wp2
              go_roundw
              case rel => exact ⟨k + 1, by omega, by go_num, by rw [show (k + 1) * 20 = k * 20 + 20 by omega, hsk.out]; exact hF, by rw [show (k + 1) * 20 = k * 20 + 20 by omega, hsk.out]; exact h3⟩
              case measure => simp [intOf]; omega
            · have e0 := eq0_f (HA.out k hlt) hz
              have hrow := hid (show colN c r (k * 20 + k) = colN c r (k * 20) from col_row k k (Nat.le_refl _) hlt)
              clear S0 hz
              go_wp2_with fail
              go_loopw [14] (fun i wr => ∃ j : Nat, k ≤ j ∧ j ≤ 20 ∧ i = .int .i64 j ∧ Hid (Fins (colN c r (k * 20 + j))) ∧ Hid (Kept w ((w2.heap.size, fls (colN c r (k * 20 + j)), 61) :: ((w1.heap.size, vls 400 (flw r), 58) :: [(w.heap.size + 1 + 1, fls fun _ => 0, 61), (w.heap.size + 1, vls 400 (flw kk), 58), (w.heap.size, fls c, 61)])) wr)) (fun i _ => 20 - (intOf i).toNat)
              case atStart => exact ⟨k, by omega, by omega, rfl, by rw [hrow.out]; exact hF, by rw [hrow.out]; exact h3⟩
              case round =>
                clear hF h3 hrow q0 e0
                obtain ⟨j, hkj, hj, rfl, hF, h3⟩ := hrel
                by_cases hlj : j < 20
                · have HJ := hid hlj
                  have HKJ := hid hkj
                  have hj3 : (j : Int) < 20 := by omega
                  have hn : k * 20 + j < 400 := by omega
                  have SE : vAt wr w1.heap.size 400 (flw r) 58 := h3.out.at (x := (w1.heap.size, vls 400 (flw r), 58)) (by simp)
                  have q1 := vAt.fcell SE hn
                  by_cases hz : r (k * 20 + j) = 0
                  · have hoff := hid (col_off (c := c) hz)
                    rw [hz] at q1
                    have e0 := eq0_t
                    clear SE hz
                    go_wp2
                    go_roundw
                    case rel => exact ⟨j + 1, by omega, by omega, by go_num, by rw [show k * 20 + (j + 1) = k * 20 + j + 1 by omega, hoff.out]; exact hF, by rw [show k * 20 + (j + 1) = k * 20 + j + 1 by omega, hoff.out]; exact h3⟩
                    case measure => simp [intOf]; omega
                  · have e0 := eq0_f (HK.out _ hn) hz
                    have hon := hid (col_at (c := c) hlj hkj hz)
                    clear SE hz
                    go_wp2_with fail
                    clear q1 e0
                    have hNN := col_nn HA.out HK.out (k * 20 + j) (by have := HKK.out; have := HJ.out; omega)
                    have hAm := fins_amts hNN hF.out
                    have hpm := pm_facts HKK.out HJ.out
                    obtain ⟨R2, n2, g1, g2⟩ : ∃ (R2 : Nat → Nat) (n2 : Int), (Fins (put1 (colN c r (k * 20 + j)) (pm k j) (r (k * 20 + j))) → R2 = put1 (colN c r (k * 20 + j)) (pm k j) (r (k * 20 + j)) ∧ n2 = 0) ∧ (¬ Fins (put1 (colN c r (k * 20 + j)) (pm k j) (r (k * 20 + j))) → R2 = (fun _ => 0) ∧ n2 = 4) := by
                      by_cases h : Fins (put1 (colN c r (k * 20 + j)) (pm k j) (r (k * 20 + j)))
                      · exact ⟨_, 0, fun _ => ⟨rfl, rfl⟩, fun h2 => absurd h h2⟩
                      · exact ⟨_, 4, fun h2 => absurd h2 h, fun _ => ⟨rfl, rfl⟩⟩
                    have HP := hid (fun u => iPut_any (colN c r (k * 20 + j)) hAm (pm k j) hpm.2.1 hpm.2.2 (r (k * 20 + j)) (HK.out _ hn) R2 n2 g1 g2 u)
                    have HPM := hid hpm
                    have HG1 := hid g1
                    have HG2 := hid g2
                    have HN4 := hid hn
                    clear hNN hAm hpm g1 g2 hn
                    refine region_then (w0 := w) (l := ((w1.heap.size, vls 400 (flw r), 58) :: [(w.heap.size + 1 + 1, fls fun _ => 0, 61), (w.heap.size + 1, vls 400 (flw kk), 58), (w.heap.size, fls c, 61)])) (fun a wz => a = { tmps := #[.agg (fls c), .agg (vls 400 (flw kk)), .float .f32 t, .pointer (some ⟨w.heap.size, 0, none⟩), .pointer (some ⟨w.heap.size + 1, 0, none⟩), undef, .pointer (some ⟨w.heap.size + 1 + 1, 0, none⟩), u7, .pointer (some ⟨w1.heap.size, 0, none⟩), .int .i64 n2, .pointer (some ⟨w2.heap.size, 0, none⟩), u11, u12, .int .i64 (k : Int), .int .i64 (j : Int), .tuple #[.agg (vls 400 (flw r)), .int .i64 0], .agg (fls c), .agg (vls 400 (flw kk)), .float .f32 t, .tuple #[.agg (vls 400 (flw r)), .int .i64 0], .agg (vls 400 (flw r)), .int .i64 0, .int .i64 0, .bool false, undef, undef, .agg (fls c), .agg (fls c), .agg (vls 400 (flw r)), .agg (fls (heldN c r)), .int .i64 ((20 : Nat) : Int), .bool false, u32, u33, u34, u35, u36, u37, u38, u39, u40, u41, .int .i64 (k : Int), .bool true, .int .i64 (k : Int), .int .i64 (k : Int), .pointer (some ⟨w.heap.size, k, none⟩), .float .f32 (c k), .bool false, .int .i64 (k : Int), .int .i64 (j : Int), .bool true, u52, u53, .int .i64 (k : Int), .int .i64 (j : Int), .pointer (some ⟨w1.heap.size, k * 20, none⟩), .pointer (some ⟨w1.heap.size, k * 20 + j, none⟩), .float .f32 (r (k * 20 + j)), .bool false, .tuple #[.agg (fls R2), .int .i64 n2], .agg (fls (colN c r (k * 20 + j))), .int .i64 (k : Int), .float .f32 (mass k), .int .i64 (j : Int), .float .f32 (mass j), .float .f32 (pm k j), .int .i64 (k : Int), .int .i64 (j : Int), .pointer (some ⟨w1.heap.size, k * 20, none⟩), .pointer (some ⟨w1.heap.size, k * 20 + j, none⟩), .float .f32 (r (k * 20 + j)), .tuple #[.agg (fls R2), .int .i64 n2], .agg (fls R2), .int .i64 n2, u75, u76, u77, u78, u79, undef], defers := [] } ∧ Kept w ((w2.heap.size, fls R2, 61) :: ((w1.heap.size, vls 400 (flw r), 58) :: [(w.heap.size + 1 + 1, fls fun _ => 0, 61), (w.heap.size + 1, vls 400 (flw kk), 58), (w.heap.size, fls c, 61)])) wz) 17 #[false, false, false, false, false, false, false, false, false, false, false, false, false, false, false, false, false] (by kernel_rfl) rfl rfl ?_ ?_
                    · have kd := h3.out.drew
                      generalize wr.drew = wd at kd ⊢
                      refine take_val 1 _ _ (.int .i64 (k : Int)) rfl (by rfl) (by kernel_rfl) (by kernel_rfl) (by kernel_rfl) (fun w => by rfl) rfl rfl kd.tail ?_
                      refine take_val 3 _ _ (.int .i64 (j : Int)) rfl (by rfl) (by kernel_rfl) (by kernel_rfl) (by kernel_rfl) (fun w => by rfl) rfl rfl kd.tail ?_
                      refine take_val 6 _ _ (.int .i64 (k : Int)) rfl (by rfl) (by kernel_rfl) (by kernel_rfl) (by kernel_rfl) (fun w => by rfl) rfl rfl kd.tail ?_
                      refine take_val 7 _ _ (.int .i64 (j : Int)) rfl (by rfl) (by kernel_rfl) (by kernel_rfl) (by kernel_rfl) (fun w => by rfl) rfl rfl kd.tail ?_
                      simp only [Act.put, List.setIfInBounds_toArray, List.set_cons_zero, List.set_cons_succ]
                      refine take_val 8 _ _ (.pointer (some ⟨w1.heap.size, k * 20, none⟩)) rfl (by rfl) (by kernel_rfl) (by kernel_rfl) (by kernel_rfl) (fun w => by unfold execOp; go_simp) rfl rfl kd.tail ?_
                      simp only [Act.put, List.setIfInBounds_toArray, List.set_cons_zero, List.set_cons_succ]
                      refine take_val 9 _ _ (.pointer (some ⟨w1.heap.size, k * 20 + j, none⟩)) rfl (by rfl) (by kernel_rfl) (by kernel_rfl) (by kernel_rfl) (fun w => by unfold execOp; go_simp) rfl rfl kd.tail ?_
                      simp only [Act.put, List.setIfInBounds_toArray, List.set_cons_zero, List.set_cons_succ]
                      refine take_cell 10 _ _ (.float .f32 (r (k * 20 + j))) rfl (by rfl) (by kernel_rfl) (by kernel_rfl) (by kernel_rfl) (fun wq hS => by have hcell : wq.cell? ⟨w1.heap.size, k * 20 + j, none⟩ = some (.float .f32 (r (k * 20 + j))) := vAt.fcell (c := r) (hS.at (x := (w1.heap.size, vls 400 (flw r), 58)) (by simp)) HN4.out; clear hS; unfold execOp; go_simp) rfl rfl kd.tail ?_
                      simp only [Act.put, List.setIfInBounds_toArray, List.set_cons_zero, List.set_cons_succ]
                      refine with_nameH fun G hG => ?_
                      have s024 : ∀ Wd, Kept w ((w2.heap.size, fls (colN c r (k * 20 + j)), 61) :: ((w1.heap.size, vls 400 (flw r), 58) :: [(w.heap.size + 1 + 1, fls fun _ => 0, 61), (w.heap.size + 1, vls 400 (flw kk), 58), (w.heap.size, fls c, 61)])) Wd → G 6 #[true, true, true, true, true, true, true, true, true, true, true, false, false, false, false, false, false] ({ tmps := #[.agg (fls c), .agg (vls 400 (flw kk)), .float .f32 t, .pointer (some ⟨w.heap.size, 0, none⟩), .pointer (some ⟨w.heap.size + 1, 0, none⟩), undef, .pointer (some ⟨w.heap.size + 1 + 1, 0, none⟩), u7, .pointer (some ⟨w1.heap.size, 0, none⟩), u9, .pointer (some ⟨w2.heap.size, 0, none⟩), u11, u12, .int .i64 (k : Int), .int .i64 (j : Int), .tuple #[.agg (vls 400 (flw r)), .int .i64 0], .agg (fls c), .agg (vls 400 (flw kk)), .float .f32 t, .tuple #[.agg (vls 400 (flw r)), .int .i64 0], .agg (vls 400 (flw r)), .int .i64 0, .int .i64 0, .bool false, undef, undef, .agg (fls c), .agg (fls c), .agg (vls 400 (flw r)), .agg (fls (heldN c r)), .int .i64 ((20 : Nat) : Int), .bool false, u32, u33, u34, u35, u36, u37, u38, u39, u40, u41, .int .i64 (k : Int), .bool true, .int .i64 (k : Int), .int .i64 (k : Int), .pointer (some ⟨w.heap.size, k, none⟩), .float .f32 (c k), .bool false, .int .i64 (k : Int), .int .i64 (j : Int), .bool true, u52, u53, .int .i64 (k : Int), .int .i64 (j : Int), .pointer (some ⟨w1.heap.size, k * 20, none⟩), .pointer (some ⟨w1.heap.size, k * 20 + j, none⟩), .float .f32 (r (k * 20 + j)), .bool false, u60, .agg (fls (colN c r (k * 20 + j))), .int .i64 (k : Int), .float .f32 (mass k), .int .i64 (j : Int), .float .f32 (mass j), .float .f32 (pm k j), .int .i64 (k : Int), .int .i64 (j : Int), .pointer (some ⟨w1.heap.size, k * 20, none⟩), .pointer (some ⟨w1.heap.size, k * 20 + j, none⟩), .float .f32 (r (k * 20 + j)), u72, u73, u74, u75, u76, u77, u78, u79, undef], defers := [] }) Wd := fun Wd kd => by
                        rw [← hG]
                        refine wpAnyH_ready (rs := [11]) (by kernel_rfl) (by simp) ?_
                        refine callK 11 _ _ (.tuple #[.agg (fls R2), .int .i64 n2]) kd rfl (by rfl) 119 #[.agg (fls (colN c r (k * 20 + j))), .float .f32 (pm k j), .float .f32 (r (k * 20 + j))] (fun w => by unfold execOp; go_simp) rfl rfl ?hcp (fun w9 k9 => ?_) AllReadyH.nil
                        case hcp => exact HP.out _
                        refine ⟨k9.tail, ?_⟩
                        simp only [Act.put, List.setIfInBounds_toArray, List.set_cons_zero, List.set_cons_succ]
                        refine take_val 12 _ _ (.tuple #[.agg (fls R2), .int .i64 n2]) rfl (by rfl) (by kernel_rfl) (by kernel_rfl) (by kernel_rfl) (fun w => by rfl) rfl rfl k9.tail ?_
                        simp only [Act.put, List.setIfInBounds_toArray, List.set_cons_zero, List.set_cons_succ]
                        refine take_val 13 _ _ (.agg (fls R2)) rfl (by rfl) (by kernel_rfl) (by kernel_rfl) (by kernel_rfl) (fun w => by unfold execOp; go_simp) rfl rfl k9.tail ?_
                        simp only [Act.put, List.setIfInBounds_toArray, List.set_cons_zero, List.set_cons_succ]
                        refine take_val 14 _ _ (.int .i64 n2) rfl (by rfl) (by kernel_rfl) (by kernel_rfl) (by kernel_rfl) (fun w => by unfold execOp; go_simp) rfl rfl k9.tail ?_
                        simp only [Act.put, List.setIfInBounds_toArray, List.set_cons_zero, List.set_cons_succ]
                        refine wpAnyH_ready (rs := [15]) (by kernel_rfl) (by simp) ?_
                        refine storeK 15 _ _ k9 HS2.out HN2.out rfl (by rfl) 61 _ _ rfl (fls R2) (by rfl) (by rfl) (by rw [fls_size]; exact info_arr) (by simp) (fls_one _) (by rfl) (by rfl) (fun w10 k10 => ?_) AllReadyH.nil
                        refine ⟨k10.tail, ?_⟩
                        simp only [Act.put, List.setIfInBounds_toArray, List.set_cons_zero, List.set_cons_succ]
                        refine take_val 16 _ _ (.int .i64 n2) rfl (by rfl) (by kernel_rfl) (by kernel_rfl) (by kernel_rfl) (fun w => by rfl) rfl rfl k10.tail ?_
                        simp only [Act.put, List.setIfInBounds_toArray, List.set_cons_zero, List.set_cons_succ]
                        refine wpAnyH_done (by kernel_rfl) (NoPanic.normal ?_) _
                        exact ⟨rfl, rfl, k10⟩
                      have s02 : ∀ Wd, Kept w ((w2.heap.size, fls (colN c r (k * 20 + j)), 61) :: ((w1.heap.size, vls 400 (flw r), 58) :: [(w.heap.size + 1 + 1, fls fun _ => 0, 61), (w.heap.size + 1, vls 400 (flw kk), 58), (w.heap.size, fls c, 61)])) Wd → G 8 #[true, true, true, true, false, false, true, true, true, true, true, false, false, false, false, false, false] ({ tmps := #[.agg (fls c), .agg (vls 400 (flw kk)), .float .f32 t, .pointer (some ⟨w.heap.size, 0, none⟩), .pointer (some ⟨w.heap.size + 1, 0, none⟩), undef, .pointer (some ⟨w.heap.size + 1 + 1, 0, none⟩), u7, .pointer (some ⟨w1.heap.size, 0, none⟩), u9, .pointer (some ⟨w2.heap.size, 0, none⟩), u11, u12, .int .i64 (k : Int), .int .i64 (j : Int), .tuple #[.agg (vls 400 (flw r)), .int .i64 0], .agg (fls c), .agg (vls 400 (flw kk)), .float .f32 t, .tuple #[.agg (vls 400 (flw r)), .int .i64 0], .agg (vls 400 (flw r)), .int .i64 0, .int .i64 0, .bool false, undef, undef, .agg (fls c), .agg (fls c), .agg (vls 400 (flw r)), .agg (fls (heldN c r)), .int .i64 ((20 : Nat) : Int), .bool false, u32, u33, u34, u35, u36, u37, u38, u39, u40, u41, .int .i64 (k : Int), .bool true, .int .i64 (k : Int), .int .i64 (k : Int), .pointer (some ⟨w.heap.size, k, none⟩), .float .f32 (c k), .bool false, .int .i64 (k : Int), .int .i64 (j : Int), .bool true, u52, u53, .int .i64 (k : Int), .int .i64 (j : Int), .pointer (some ⟨w1.heap.size, k * 20, none⟩), .pointer (some ⟨w1.heap.size, k * 20 + j, none⟩), .float .f32 (r (k * 20 + j)), .bool false, u60, .agg (fls (colN c r (k * 20 + j))), .int .i64 (k : Int), .float .f32 (mass k), .int .i64 (j : Int), u65, u66, .int .i64 (k : Int), .int .i64 (j : Int), .pointer (some ⟨w1.heap.size, k * 20, none⟩), .pointer (some ⟨w1.heap.size, k * 20 + j, none⟩), .float .f32 (r (k * 20 + j)), u72, u73, u74, u75, u76, u77, u78, u79, undef], defers := [] }) Wd := fun Wd kd => by
                        rw [← hG]
                        refine wpAnyH_ready (rs := [4]) (by kernel_rfl) (by simp) ?_
                        refine callK 4 _ _ (.float .f32 (mass j)) kd rfl (by rfl) 120 #[.int .i64 (j : Int)] (fun w => by unfold execOp; go_simp) rfl rfl ?hm1 (fun w9 k9 => ?_) AllReadyH.nil
                        case hm1 => exact loose (iMass j HJ.out _)
                        refine ⟨k9.tail, ?_⟩
                        simp only [Act.put, List.setIfInBounds_toArray, List.set_cons_zero, List.set_cons_succ]
                        refine take_val 5 _ _ (.float .f32 (pm k j)) rfl (by rfl) (by kernel_rfl) (by kernel_rfl) (by kernel_rfl) (fun w => run_binop_val _ _ _ _ (by rfl) (by rfl) (by simp [eqGuard]) (run_float_arith w .add 23 .f32 _ _ _ HPM.out.1)) rfl rfl k9.tail ?_
                        simp only [Act.put, List.setIfInBounds_toArray, List.set_cons_zero, List.set_cons_succ]
                        exact (hG _ _ _ _).mpr (s024 _ k9)
                      have s24 : ∀ Wd, Kept w ((w2.heap.size, fls (colN c r (k * 20 + j)), 61) :: ((w1.heap.size, vls 400 (flw r), 58) :: [(w.heap.size + 1 + 1, fls fun _ => 0, 61), (w.heap.size + 1, vls 400 (flw kk), 58), (w.heap.size, fls c, 61)])) Wd → G 7 #[false, true, true, true, true, true, true, true, true, true, true, false, false, false, false, false, false] ({ tmps := #[.agg (fls c), .agg (vls 400 (flw kk)), .float .f32 t, .pointer (some ⟨w.heap.size, 0, none⟩), .pointer (some ⟨w.heap.size + 1, 0, none⟩), undef, .pointer (some ⟨w.heap.size + 1 + 1, 0, none⟩), u7, .pointer (some ⟨w1.heap.size, 0, none⟩), u9, .pointer (some ⟨w2.heap.size, 0, none⟩), u11, u12, .int .i64 (k : Int), .int .i64 (j : Int), .tuple #[.agg (vls 400 (flw r)), .int .i64 0], .agg (fls c), .agg (vls 400 (flw kk)), .float .f32 t, .tuple #[.agg (vls 400 (flw r)), .int .i64 0], .agg (vls 400 (flw r)), .int .i64 0, .int .i64 0, .bool false, undef, undef, .agg (fls c), .agg (fls c), .agg (vls 400 (flw r)), .agg (fls (heldN c r)), .int .i64 ((20 : Nat) : Int), .bool false, u32, u33, u34, u35, u36, u37, u38, u39, u40, u41, .int .i64 (k : Int), .bool true, .int .i64 (k : Int), .int .i64 (k : Int), .pointer (some ⟨w.heap.size, k, none⟩), .float .f32 (c k), .bool false, .int .i64 (k : Int), .int .i64 (j : Int), .bool true, u52, u53, .int .i64 (k : Int), .int .i64 (j : Int), .pointer (some ⟨w1.heap.size, k * 20, none⟩), .pointer (some ⟨w1.heap.size, k * 20 + j, none⟩), .float .f32 (r (k * 20 + j)), .bool false, u60, u61, .int .i64 (k : Int), .float .f32 (mass k), .int .i64 (j : Int), .float .f32 (mass j), .float .f32 (pm k j), .int .i64 (k : Int), .int .i64 (j : Int), .pointer (some ⟨w1.heap.size, k * 20, none⟩), .pointer (some ⟨w1.heap.size, k * 20 + j, none⟩), .float .f32 (r (k * 20 + j)), u72, u73, u74, u75, u76, u77, u78, u79, undef], defers := [] }) Wd := fun Wd kd => by
                        rw [← hG]
                        refine wpAnyH_ready (rs := [0]) (by kernel_rfl) (by simp) ?_
                        refine readK 0 _ _ (.agg (fls (colN c r (k * 20 + j)))) rfl (by rfl) (run_load_blk 61 _ (w2.heap.size) (fls (colN c r (k * 20 + j))) 61 rfl (kd.at (x := (w2.heap.size, fls (colN c r (k * 20 + j)), 61)) (by simp)) _ Try.underlying61 rfl (by rw [fls_size]; exact info_arr)) rfl rfl ⟨kd.tail, ?_⟩ AllReadyH.nil
                        simp only [Act.put, List.setIfInBounds_toArray, List.set_cons_zero, List.set_cons_succ]
                        exact (hG _ _ _ _).mpr (s024 _ kd)
                      have s0 : ∀ Wd, Kept w ((w2.heap.size, fls (colN c r (k * 20 + j)), 61) :: ((w1.heap.size, vls 400 (flw r), 58) :: [(w.heap.size + 1 + 1, fls fun _ => 0, 61), (w.heap.size + 1, vls 400 (flw kk), 58), (w.heap.size, fls c, 61)])) Wd → G 9 #[true, true, false, true, false, false, true, true, true, true, true, false, false, false, false, false, false] ({ tmps := #[.agg (fls c), .agg (vls 400 (flw kk)), .float .f32 t, .pointer (some ⟨w.heap.size, 0, none⟩), .pointer (some ⟨w.heap.size + 1, 0, none⟩), undef, .pointer (some ⟨w.heap.size + 1 + 1, 0, none⟩), u7, .pointer (some ⟨w1.heap.size, 0, none⟩), u9, .pointer (some ⟨w2.heap.size, 0, none⟩), u11, u12, .int .i64 (k : Int), .int .i64 (j : Int), .tuple #[.agg (vls 400 (flw r)), .int .i64 0], .agg (fls c), .agg (vls 400 (flw kk)), .float .f32 t, .tuple #[.agg (vls 400 (flw r)), .int .i64 0], .agg (vls 400 (flw r)), .int .i64 0, .int .i64 0, .bool false, undef, undef, .agg (fls c), .agg (fls c), .agg (vls 400 (flw r)), .agg (fls (heldN c r)), .int .i64 ((20 : Nat) : Int), .bool false, u32, u33, u34, u35, u36, u37, u38, u39, u40, u41, .int .i64 (k : Int), .bool true, .int .i64 (k : Int), .int .i64 (k : Int), .pointer (some ⟨w.heap.size, k, none⟩), .float .f32 (c k), .bool false, .int .i64 (k : Int), .int .i64 (j : Int), .bool true, u52, u53, .int .i64 (k : Int), .int .i64 (j : Int), .pointer (some ⟨w1.heap.size, k * 20, none⟩), .pointer (some ⟨w1.heap.size, k * 20 + j, none⟩), .float .f32 (r (k * 20 + j)), .bool false, u60, .agg (fls (colN c r (k * 20 + j))), .int .i64 (k : Int), u63, .int .i64 (j : Int), u65, u66, .int .i64 (k : Int), .int .i64 (j : Int), .pointer (some ⟨w1.heap.size, k * 20, none⟩), .pointer (some ⟨w1.heap.size, k * 20 + j, none⟩), .float .f32 (r (k * 20 + j)), u72, u73, u74, u75, u76, u77, u78, u79, undef], defers := [] }) Wd := fun Wd kd => by
                        rw [← hG]
                        refine wpAnyH_ready (rs := [2]) (by kernel_rfl) (by simp) ?_
                        refine callK 2 _ _ (.float .f32 (mass k)) kd rfl (by rfl) 120 #[.int .i64 (k : Int)] (fun w => by unfold execOp; go_simp) rfl rfl ?hm3 (fun w9 k9 => ?_) AllReadyH.nil
                        case hm3 => exact loose (iMass k HKK.out _)
                        refine ⟨k9.tail, ?_⟩
                        simp only [Act.put, List.setIfInBounds_toArray, List.set_cons_zero, List.set_cons_succ]
                        exact (hG _ _ _ _).mpr (s02 _ k9)
                      have s2 : ∀ Wd, Kept w ((w2.heap.size, fls (colN c r (k * 20 + j)), 61) :: ((w1.heap.size, vls 400 (flw r), 58) :: [(w.heap.size + 1 + 1, fls fun _ => 0, 61), (w.heap.size + 1, vls 400 (flw kk), 58), (w.heap.size, fls c, 61)])) Wd → G 9 #[false, true, true, true, false, false, true, true, true, true, true, false, false, false, false, false, false] ({ tmps := #[.agg (fls c), .agg (vls 400 (flw kk)), .float .f32 t, .pointer (some ⟨w.heap.size, 0, none⟩), .pointer (some ⟨w.heap.size + 1, 0, none⟩), undef, .pointer (some ⟨w.heap.size + 1 + 1, 0, none⟩), u7, .pointer (some ⟨w1.heap.size, 0, none⟩), u9, .pointer (some ⟨w2.heap.size, 0, none⟩), u11, u12, .int .i64 (k : Int), .int .i64 (j : Int), .tuple #[.agg (vls 400 (flw r)), .int .i64 0], .agg (fls c), .agg (vls 400 (flw kk)), .float .f32 t, .tuple #[.agg (vls 400 (flw r)), .int .i64 0], .agg (vls 400 (flw r)), .int .i64 0, .int .i64 0, .bool false, undef, undef, .agg (fls c), .agg (fls c), .agg (vls 400 (flw r)), .agg (fls (heldN c r)), .int .i64 ((20 : Nat) : Int), .bool false, u32, u33, u34, u35, u36, u37, u38, u39, u40, u41, .int .i64 (k : Int), .bool true, .int .i64 (k : Int), .int .i64 (k : Int), .pointer (some ⟨w.heap.size, k, none⟩), .float .f32 (c k), .bool false, .int .i64 (k : Int), .int .i64 (j : Int), .bool true, u52, u53, .int .i64 (k : Int), .int .i64 (j : Int), .pointer (some ⟨w1.heap.size, k * 20, none⟩), .pointer (some ⟨w1.heap.size, k * 20 + j, none⟩), .float .f32 (r (k * 20 + j)), .bool false, u60, u61, .int .i64 (k : Int), .float .f32 (mass k), .int .i64 (j : Int), u65, u66, .int .i64 (k : Int), .int .i64 (j : Int), .pointer (some ⟨w1.heap.size, k * 20, none⟩), .pointer (some ⟨w1.heap.size, k * 20 + j, none⟩), .float .f32 (r (k * 20 + j)), u72, u73, u74, u75, u76, u77, u78, u79, undef], defers := [] }) Wd := fun Wd kd => by
                        rw [← hG]
                        refine wpAnyH_ready (rs := [0, 4]) (by kernel_rfl) (by simp) ?_
                        refine readK 0 _ _ (.agg (fls (colN c r (k * 20 + j)))) rfl (by rfl) (run_load_blk 61 _ (w2.heap.size) (fls (colN c r (k * 20 + j))) 61 rfl (kd.at (x := (w2.heap.size, fls (colN c r (k * 20 + j)), 61)) (by simp)) _ Try.underlying61 rfl (by rw [fls_size]; exact info_arr)) rfl rfl ⟨kd.tail, ?_⟩ ?_
                        · simp only [Act.put, List.setIfInBounds_toArray, List.set_cons_zero, List.set_cons_succ]
                          exact (hG _ _ _ _).mpr (s02 _ kd)
                        refine callK 4 _ _ (.float .f32 (mass j)) kd rfl (by rfl) 120 #[.int .i64 (j : Int)] (fun w => by unfold execOp; go_simp) rfl rfl ?hm5 (fun w9 k9 => ?_) AllReadyH.nil
                        case hm5 => exact loose (iMass j HJ.out _)
                        refine ⟨k9.tail, ?_⟩
                        simp only [Act.put, List.setIfInBounds_toArray, List.set_cons_zero, List.set_cons_succ]
                        refine take_val 5 _ _ (.float .f32 (pm k j)) rfl (by rfl) (by kernel_rfl) (by kernel_rfl) (by kernel_rfl) (fun w => run_binop_val _ _ _ _ (by rfl) (by rfl) (by simp [eqGuard]) (run_float_arith w .add 23 .f32 _ _ _ HPM.out.1)) rfl rfl k9.tail ?_
                        simp only [Act.put, List.setIfInBounds_toArray, List.set_cons_zero, List.set_cons_succ]
                        exact (hG _ _ _ _).mpr (s24 _ k9)
                      have s : ∀ Wd, Kept w ((w2.heap.size, fls (colN c r (k * 20 + j)), 61) :: ((w1.heap.size, vls 400 (flw r), 58) :: [(w.heap.size + 1 + 1, fls fun _ => 0, 61), (w.heap.size + 1, vls 400 (flw kk), 58), (w.heap.size, fls c, 61)])) Wd → G 10 #[false, true, false, true, false, false, true, true, true, true, true, false, false, false, false, false, false] ({ tmps := #[.agg (fls c), .agg (vls 400 (flw kk)), .float .f32 t, .pointer (some ⟨w.heap.size, 0, none⟩), .pointer (some ⟨w.heap.size + 1, 0, none⟩), undef, .pointer (some ⟨w.heap.size + 1 + 1, 0, none⟩), u7, .pointer (some ⟨w1.heap.size, 0, none⟩), u9, .pointer (some ⟨w2.heap.size, 0, none⟩), u11, u12, .int .i64 (k : Int), .int .i64 (j : Int), .tuple #[.agg (vls 400 (flw r)), .int .i64 0], .agg (fls c), .agg (vls 400 (flw kk)), .float .f32 t, .tuple #[.agg (vls 400 (flw r)), .int .i64 0], .agg (vls 400 (flw r)), .int .i64 0, .int .i64 0, .bool false, undef, undef, .agg (fls c), .agg (fls c), .agg (vls 400 (flw r)), .agg (fls (heldN c r)), .int .i64 ((20 : Nat) : Int), .bool false, u32, u33, u34, u35, u36, u37, u38, u39, u40, u41, .int .i64 (k : Int), .bool true, .int .i64 (k : Int), .int .i64 (k : Int), .pointer (some ⟨w.heap.size, k, none⟩), .float .f32 (c k), .bool false, .int .i64 (k : Int), .int .i64 (j : Int), .bool true, u52, u53, .int .i64 (k : Int), .int .i64 (j : Int), .pointer (some ⟨w1.heap.size, k * 20, none⟩), .pointer (some ⟨w1.heap.size, k * 20 + j, none⟩), .float .f32 (r (k * 20 + j)), .bool false, u60, u61, .int .i64 (k : Int), u63, .int .i64 (j : Int), u65, u66, .int .i64 (k : Int), .int .i64 (j : Int), .pointer (some ⟨w1.heap.size, k * 20, none⟩), .pointer (some ⟨w1.heap.size, k * 20 + j, none⟩), .float .f32 (r (k * 20 + j)), u72, u73, u74, u75, u76, u77, u78, u79, undef], defers := [] }) Wd := fun Wd kd => by
                        rw [← hG]
                        refine wpAnyH_ready (rs := [0, 2]) (by kernel_rfl) (by simp) ?_
                        refine readK 0 _ _ (.agg (fls (colN c r (k * 20 + j)))) rfl (by rfl) (run_load_blk 61 _ (w2.heap.size) (fls (colN c r (k * 20 + j))) 61 rfl (kd.at (x := (w2.heap.size, fls (colN c r (k * 20 + j)), 61)) (by simp)) _ Try.underlying61 rfl (by rw [fls_size]; exact info_arr)) rfl rfl ⟨kd.tail, ?_⟩ ?_
                        · simp only [Act.put, List.setIfInBounds_toArray, List.set_cons_zero, List.set_cons_succ]
                          exact (hG _ _ _ _).mpr (s0 _ kd)
                        refine callK 2 _ _ (.float .f32 (mass k)) kd rfl (by rfl) 120 #[.int .i64 (k : Int)] (fun w => by unfold execOp; go_simp) rfl rfl ?hm7 (fun w9 k9 => ?_) AllReadyH.nil
                        case hm7 => exact loose (iMass k HKK.out _)
                        refine ⟨k9.tail, ?_⟩
                        simp only [Act.put, List.setIfInBounds_toArray, List.set_cons_zero, List.set_cons_succ]
                        exact (hG _ _ _ _).mpr (s2 _ k9)
                      exact s _ kd
                    · rintro a wz ⟨rfl, kz⟩
                      have KZ := hid kz
                      clear kz h3
                      by_cases hF2 : Fins (put1 (colN c r (k * 20 + j)) (pm k j) (r (k * 20 + j)))
                      · obtain ⟨rfl, rfl⟩ := HG1.out hF2
                        have HF2 := hid hF2
                        clear HG1 HG2 HP hF2 hF
                        go_wp2
                        go_roundw
                        case rel => exact ⟨j + 1, by have := HKJ.out; omega, by have := HJ.out; omega, by go_num, by rw [show k * 20 + (j + 1) = k * 20 + j + 1 by omega, hon.out]; exact HF2, by rw [show k * 20 + (j + 1) = k * 20 + j + 1 by omega, hon.out]; exact KZ⟩
                        case measure => have := HJ.out; simp [intOf]; omega
                      · obtain ⟨rfl, rfl⟩ := HG2.out hF2
                        have hbad : ¬ Fins (colN c r 400) := col_bad HA.out HK.out (n := k * 20 + j + 1) (by rw [hon.out]; exact hF2) 400 (by have := HKK.out; have := HJ.out; omega) (Nat.le_refl _)
                        obtain ⟨rfl, rfl⟩ := G1.out hbad
                        clear HG1 HG2 HP hF2 hF hbad G0 G1
                        have A3 := hid (show arrAt wz (w.heap.size + 1 + 1) (fun _ => 0) 61 from KZ.out.at (x := (w.heap.size + 1 + 1, fls fun _ => 0, 61)) (by simp))
                        have b3 := KZ.out.1
                        clear KZ
                        go_wp2_with (refine wpList_store_row rfl 61 _ _ rfl (w.heap.size + 1 + 1) (fls fun _ => 0) rfl rfl 61 _ A3.out (by rw [fls_size]; exact info_arr) (by simp) (fls_one _) ?_)
                        try simp only [Exit.noGoto]
                        exact bodyPost_ret (results_row_tmp rfl _ _ (w.heap.size + 1 + 1) 61 (fls fun _ => 0) (0, 0) _ rfl (A3.out.setRow (fun _ => 0)) Try.underlying61 rfl (by rw [fls_size]; exact info_arr)) rfl ⟨rfl, below_row b3 (by omega) _⟩
                · obtain rfl : j = 20 := by omega
                  go_wp2
                  go_roundw
                  case rel => exact ⟨k + 1, by have := HKK.out; omega, by go_num, by rw [show (k + 1) * 20 = k * 20 + 20 by omega]; exact hF, by rw [show (k + 1) * 20 = k * 20 + 20 by omega]; exact h3⟩
                  case measure => have := HKK.out; simp [intOf]; omega
          · obtain rfl : k = 20 := by omega
            rw [show 20 * 20 = 400 from rfl] at hF h3
            obtain ⟨hr, rfl⟩ := G0.out hF.out
            have hr2 := hr.symm
            subst hr2
            have A3 := hid (show arrAt wr (w.heap.size + 1 + 1) (fun _ => 0) 61 from h3.out.at (x := (w.heap.size + 1 + 1, fls fun _ => 0, 61)) (by simp))
            have b3 := h3.out.1
            clear G0 G1 hF hlt hk
            go_wp2_with (first | (refine wpList_load_row rfl 61 _ rfl (w2.heap.size) rfl 61 (fls (colN c r 400)) (0, 0) _ (h3.out.at (x := (w2.heap.size, fls (colN c r 400), 61)) (by simp)) Try.underlying61 rfl (by rw [fls_size]; exact info_arr) ?_) | (refine wpList_store_row rfl 61 _ _ rfl (w.heap.size + 1 + 1) (fls (colN c r 400)) rfl rfl 61 _ A3.out (by rw [fls_size]; exact info_arr) (by simp) (fls_one _) ?_))
            try simp only [Exit.noGoto]
            exact bodyPost_ret (results_row_tmp rfl _ _ (w.heap.size + 1 + 1) 61 (fls (colN c r 400)) (0, 0) _ rfl (A3.out.setRow (colN c r 400)) Try.underlying61 rfl (by rw [fls_size]; exact info_arr)) rfl ⟨rfl, below_row b3 (by omega) _⟩
  · obtain ⟨rfl, rfl⟩ := H2.out hc
    have hcz := hc
    clear H0 H1 H2 HQ hc
    go_wp2_with (first | (have _t := k1; refine store_kept (w0 := w) (l := [(w.heap.size + 1 + 1, fls fun _ => 0, 61), (w.heap.size + 1, vls 400 (flw kk), 58), (w.heap.size, fls c, 61)]) rfl 58 _ _ rfl (w1.heap.size) (vls 400 (flw r)) rfl rfl 58 (vls 400 (flw fun _ => 0)) k1.out HB.out HN.out (by rw [vls_size]; exact info_kern) (by simp) (vls_one (flw_one _)) (fun w2 k2 => ?_); replace k2 := hid k2; clear k1; have k3 := hid (k2.out.sub (l' := (w.heap.size + 1 + 1, fls fun _ => 0, 61) :: ((w1.heap.size, vls 400 (flw r), 58) :: [(w.heap.size + 1, vls 400 (flw kk), 58), (w.heap.size, fls c, 61)])) (by simp)); have N3 : Hid (∀ y ∈ (((w1.heap.size, vls 400 (flw r), 58) :: [(w.heap.size + 1, vls 400 (flw kk), 58), (w.heap.size, fls c, 61)]) : List (Nat × Array Value × TypeId)), y.1 ≠ w.heap.size + 1 + 1) := hid (by intro y hy; simp only [List.mem_cons, List.not_mem_nil, or_false] at hy; rcases hy with rfl | rfl | rfl; exact NR.out; (show (_ : Nat) ≠ _; omega); (show (_ : Nat) ≠ _; omega)); clear k2) | (have _t := k3; refine store_kept (w0 := w) (l := ((w1.heap.size, vls 400 (flw r), 58) :: [(w.heap.size + 1, vls 400 (flw kk), 58), (w.heap.size, fls c, 61)])) rfl 61 _ _ rfl (w.heap.size + 1 + 1) (fls fun _ => 0) rfl rfl 61 (fls fun _ => 0) k3.out (by omega) N3.out (by rw [fls_size]; exact info_arr) (by simp) (fls_one _) (fun w4 k4 => ?_); replace k4 := hid k4; clear k3))
    simp only [Exit.noGoto]
    exact bodyPost_ret (results_row_tmp rfl _ _ (w.heap.size + 1 + 1) 61 (fls fun _ => 0) (0, 0) _ rfl (k4.out.at (x := (w.heap.size + 1 + 1, fls fun _ => 0, 61)) (by simp)) Try.underlying61 rfl (by rw [fls_size]; exact info_arr)) rfl ⟨rfl, k4.out.1⟩
end Go.Proofs.Ytgmcpbhjcfiikaa
