import Derived.Test.YthpimindkmmkjaaCStirColumn
import Derived.Test.YthpimindkmmkjaaChecked
import Derived.Test.YthpimindkmmkjaaRows
import Derived.Laws.FloatArith
import Derived.ProofKit
import Derived.WalkKit
import Derived.WalkLawsBesides
import Derived.WalkSpells
import Derived.Deep.QuietTactic
import Derived.BigQuiet
import Derived.Deep.RegionHeld3
import Derived.ChangeKeysEq
import Derived.Laws.BitsAllLaws
import Derived.Deep.MidRow
import Derived.Deep.WholeRow
import Derived.StillTailTactics
import Derived.Deep.Slices
import Derived.ChangeSame
import Derived.OrdersIn
import Derived.ControlIn
import Derived.RangeFuncSeq
import Derived.RangeFuncNested
import Derived.ArgAppend
import Derived.OwnWalkIn
import Derived.TacticsInMore
import Derived.Below
import Derived.Laws.AppendOwn
import Derived.StillTail
import Derived.OpenShut
/- The law FnExactStirColumn of chapter 1: at every argument the call returns true, and what was there before it is as it was. -/
namespace Go.Proofs.Ythpimindkmmkjaa
open Go.RowKit Go.Fl

@[go_sem] theorem ext_f64bits (y : Nat) (w : World) : (callFunc 181 #[.float .f64 y]).run Try.prog w = .ok (.value (.int .u64 y)) w := by
  rw [run_callFunc_extern Try.func181 (by kernel_rfl) (by kernel_rfl) (by kernel_rfl) (e := Extern.MathFloatBits.float64bits) (by kernel_rfl)]
  rfl

@[go_sem] theorem ext_f64from (n : Int) (w : World) : (callFunc 188 #[.int .u64 n]).run Try.prog w = .ok (.value (.float .f64 n.toNat)) w := by
  rw [run_callFunc_extern Try.func188 (by kernel_rfl) (by kernel_rfl) (by kernel_rfl) (e := Extern.MathFloatBits.float64frombits) (by kernel_rfl)]
  rfl

theorem hid {p : Prop} (h : p) : Hid p := h

theorem clear_sign (y : Nat) (h : y < 18446744073709551616) : (bits BinOp.andNot IntKind.u64 (y : Int) 9223372036854775808).toNat = y % 9223372036854775808 := by
  rw [u64_andNot _ _ (by omega) (by omega) (by omega) (by omega)]
  rw [Int.toNat_natCast, Int.toNat_natCast]
  exact Nat.and_two_pow_sub_one_eq_mod y 63

theorem abs_f64 (y : Nat) (h : y < 18446744073709551616) (w : World) :
    Calls Try.prog 176 #[.float .f64 y] w fun e w' => e = .returned (.float .f64 (y % 9223372036854775808)) ∧ w = w' := by
  have hc := hid (clear_sign y h)
  clear h
  go_enter Try.func176, Try.ntmps176
  go_wp2
  go_ret
  exact ⟨by simp [hc.out], rfl⟩

theorem isNaN_f64 (y : Nat) (w : World) :
    Calls Try.prog 149 #[.float .f64 y] w fun e w' => e = .returned (.bool (FloatKind.f64.format.order y y != some .eq)) ∧ w = w' := by
  go_enter Try.func149, Try.ntmps149
  go_wp2
  go_ret
  exact ⟨rfl, rfl⟩

theorem isInf_f64 (y : Nat) (h : y < 18446744073709551616) (w : World) :
    Calls Try.prog 150 #[.float .f64 y, .int .i64 0] w fun e w' => e = .returned (.bool (FloatKind.f64.format.order (y % 9223372036854775808) 9218868437227405311 == some .gt)) ∧ w = w' := by
  have hc := hid h
  clear h
  go_enter Try.func150, Try.ntmps150
  go_wp2_with (go_at_call 176; refine (abs_f64 y hc.out _).mono ?_; rintro e w' ⟨rfl, rfl⟩)
  go_ret
  exact ⟨rfl, rfl⟩

theorem isFinite_t (x : Nat) (hx : x < 4294967296) (h : finB x = true) (w : World) :
    Calls Try.prog 105 #[.float .f32 x] w fun e w' => e = .returned (.bool true) ∧ w = w' := by
  rw [finB_iff] at h
  have hc := fun w => run_conv_wid (P := Try.prog) w 22 94 x hx Try.underlying22 Try.underlying94 h
  obtain ⟨a, b, m, e, hr⟩ := read_wid_fin hx h
  have hn : (FloatKind.f64.format.order (wid x) (wid x) != some .eq) = false := by
    show (D.order (wid x) (wid x) != some .eq) = false
    rw [order_self hr]; rfl
  have hi : (FloatKind.f64.format.order (wid x % 9223372036854775808) 9218868437227405311 == some .gt) = false := by
    show (D.order (wid x % 9223372036854775808) 9218868437227405311 == some .gt) = false
    rw [b, order_ltD a (by decide)]
    rw [DINF_val] at a
    have hle : wid (mg x) ≤ 9218868437227405311 := by omega
    rcases Nat.lt_or_eq_of_le hle with h' | h'
    · rw [Nat.compare_eq_lt.2 h']; rfl
    · rw [Nat.compare_eq_eq.2 h']; rfl
  have hw : wid x < 18446744073709551616 := D.write_lt _
  have Hn := hid hn
  have Hi := hid hi
  have Hw := hid hw
  clear hn hi hw hr a b h hx
  go_enter Try.func105, Try.ntmps105
  go_wp2_with (first | (go_at_call 149; refine (isNaN_f64 (wid x) _).mono ?_; rintro e w' ⟨rfl, rfl⟩; rw [Hn.out]) | (go_at_call 150; refine (isInf_f64 (wid x) Hw.out _).mono ?_; rintro e w' ⟨rfl, rfl⟩; rw [Hi.out]))
  go_ret
  exact ⟨rfl, rfl⟩

theorem isFinite_f (x : Nat) (hx : x < 4294967296) (h : finB x = false) (w : World) :
    Calls Try.prog 105 #[.float .f32 x] w fun e w' => e = .returned (.bool false) ∧ Below w.heap.size w w' := by
  rw [finB_iff'] at h
  rcases Nat.lt_or_eq_of_le h with h | h
  · obtain ⟨z, hc, h1, _⟩ := run_conv_nan (P := Try.prog) w 22 94 x Try.underlying22 Try.underlying94 h
    obtain ⟨s, t, hr⟩ := read_nanD h1
    have Hn := hid (show (FloatKind.f64.format.order z z != some .eq) = true by
      show (D.order z z != some .eq) = true
      rw [order_nan hr]; rfl)
    clear h h1 hr hx
    go_enter Try.func105, Try.ntmps105
    go_wp2_with (go_at_call 149; refine (isNaN_f64 z _).mono ?_; rintro e w' ⟨rfl, rfl⟩; rw [Hn.out])
    go_ret
    exact ⟨rfl, (Below.refl _ _).drew⟩
  · obtain ⟨z, hc, h1, h2⟩ := run_conv_inf (P := Try.prog) w 22 94 x hx Try.underlying22 Try.underlying94 h.symm
    have hr : D.read z = .infinity (decide (9223372036854775808 ≤ z)) := by rw [read_signD h2, h1, read_DINF]
    have Hn := hid (show (FloatKind.f64.format.order z z != some .eq) = false by
      show (D.order z z != some .eq) = false
      rw [order_inf hr]; rfl)
    have Hi := hid (show (FloatKind.f64.format.order (z % 9223372036854775808) 9218868437227405311 == some .gt) = true by
      rw [h1]; decide)
    have H2 := hid h2
    clear h h1 hr hx h2
    go_enter Try.func105, Try.ntmps105
    go_wp2_with (first | (go_at_call 149; refine (isNaN_f64 z _).mono ?_; rintro e w' ⟨rfl, rfl⟩; rw [Hn.out]) | (go_at_call 150; refine (isInf_f64 z H2.out _).mono ?_; rintro e w' ⟨rfl, rfl⟩; rw [Hi.out]))
    go_ret
    exact ⟨rfl, Below.refl _ _⟩

theorem signbit_f64 (y : Nat) (w : World) :
    Calls Try.prog 154 #[.float .f64 y] w fun e w' => e = .returned (.bool (decide (wrap64 (y : Int) < 0))) ∧ w = w' := by
  go_enter Try.func154, Try.ntmps154
  go_wp2
  go_ret
  exact ⟨rfl, rfl⟩

theorem and_sign (y : Nat) (h : y < 18446744073709551616) : (decide (wrap64 (y : Int) < 0)) = decide (9223372036854775808 ≤ y) := by
  unfold wrap64
  by_cases h' : 9223372036854775808 ≤ y
  · rw [decide_eq_true h']; simp; omega
  · rw [decide_eq_false h']; simp; omega

theorem isAmount_t (x : Nat) (h : amtB x = true) (w : World) :
    Calls Try.prog 109 #[.float .f32 x] w fun e w' => e = .returned (.bool true) ∧ w = w' := by
  have hf := amt_fin h
  rw [amtB_iff, INF_val] at h
  have hx : x < 4294967296 := by omega
  have hc := fun w => run_conv_wid (P := Try.prog) w 22 94 x hx Try.underlying22 Try.underlying94 (finB_iff.1 hf)
  have hw : wid x < 18446744073709551616 := D.write_lt _
  have Hs := hid (show (decide (wrap64 (wid x : Int) < 0)) = false by
    rw [and_sign _ hw]
    have := (wid_val (x := x) (by rw [INF_val]; omega)).1
    rw [DINF_val] at this
    simp; omega)
  have Hx := hid hx
  have Hf := hid hf
  clear h hf hx hw
  go_enter Try.func109, Try.ntmps109
  go_wp2_with (first | (go_at_call 105; refine (isFinite_t x Hx.out Hf.out _).mono ?_; rintro e w' ⟨rfl, rfl⟩) | (go_at_call 154; refine (signbit_f64 (wid x) _).mono ?_; rintro e w' ⟨rfl, rfl⟩; rw [Hs.out]))
  go_ret
  exact ⟨rfl, rfl⟩

theorem isAmount_f (x : Nat) (hx : x < 4294967296) (h : amtB x = false) (w : World) :
    Calls Try.prog 109 #[.float .f32 x] w fun e w' => e = .returned (.bool false) ∧ Below w.heap.size w w' := by
  rcases hf : finB x with _ | _
  · have Hx := hid hx
    have Hf := hid hf
    clear h hf hx
    go_enter Try.func109, Try.ntmps109
    go_wp2_with (go_at_call 105; refine (isFinite_f x Hx.out Hf.out _).mono ?_; rintro e w' ⟨rfl, hb⟩)
    go_ret
    exact ⟨rfl, hb⟩
  · have hc := fun w => run_conv_wid (P := Try.prog) w 22 94 x hx Try.underlying22 Try.underlying94 (finB_iff.1 hf)
    have hw : wid x < 18446744073709551616 := D.write_lt _
    have Hs := hid (show (decide (wrap64 (wid x : Int) < 0)) = true by
      rw [and_sign _ hw, wid_fin hx (finB_iff.1 hf)]
      rw [amtB_iff', INF_val] at h
      rw [finB_iff, INF_val] at hf
      unfold mg at hf ⊢
      rw [if_pos (by omega)]
      simp)
    have Hx := hid hx
    have Hf := hid hf
    clear h hf hx hw
    go_enter Try.func109, Try.ntmps109
    go_wp2_with (first | (go_at_call 105; refine (isFinite_t x Hx.out Hf.out _).mono ?_; rintro e w' ⟨rfl, rfl⟩) | (go_at_call 154; refine (signbit_f64 (wid x) _).mono ?_; rintro e w' ⟨rfl, rfl⟩; rw [Hs.out]))
    go_ret
    exact ⟨rfl, Below.refl _ _⟩

theorem info_f32 : ∃ i, Try.prog.info? 22 = some i ∧ i.size = 1 := by
  have h : (Try.prog.info? 22).map (·.size) = some 1 := by kernel_rfl
  cases hi : Try.prog.info? 22 with
  | none => rw [hi] at h; cases h
  | some i => rw [hi] at h; exact ⟨i, rfl, Option.some.inj h⟩

theorem ix (T : TypeId) (hT : Try.prog.underlying T = some (.array 20 22)) (c : Nat → Nat) (k : Nat) (hk : k < 20) (w : World) :
    (Instr.index T (.agg (fls c)) (.int .i64 (k : Int))).run Try.prog w = .ok (.float .f32 (c k)) w := by
  obtain ⟨i, h1, h2⟩ := info_f32
  exact run_index_arr hT Try.underlying22 rfl h1 h2 _ _ hk _ (fls_get c hk) w

theorem info_arr : (Try.prog.info? 30).map (·.size) = some 20 := by kernel_rfl

set_option maxRecDepth 100000 in
theorem validSizes_t (c : Nat → Nat) (h : ∀ i, i < 20 → amtB (c i) = true) (w : World) :
    Calls Try.prog 114 #[.agg (fls c)] w fun e w' => e = .returned (.bool true) ∧ Below w.heap.size w w' := by
  have H := hid h
  clear h
  go_enter Try.func114, Try.ntmps114
  go_wp2_with (refine wpList_load_row rfl 30 _ rfl w.heap.size rfl 30 (fls c) (0, 0) _ (heap_alloc_new _ _) Try.underlying30 rfl (by rw [fls_size]; exact info_arr) ?_)
  go_loop [6] (fun i => ∃ k : Nat, k ≤ 20 ∧ i = .int .i64 k) (fun i => 20 - (intOf i).toNat)
  case atStart => exact ⟨0, by omega, rfl⟩
  case round =>
    obtain ⟨k, hk, rfl⟩ := hrel
    by_cases hlt : k < 20
    · have hix := ix 30 Try.underlying30 c k hlt
      go_wp2_with (go_at_call 109; refine (isAmount_t (c k) (H.out k hlt) _).mono ?_; rintro e w' ⟨rfl, rfl⟩)
      go_round
      case rel => exact ⟨k + 1, by omega, by go_num⟩
      case measure => simp [intOf]; omega
    · go_wp2
      go_ret
      exact ⟨rfl, (Below.refl _ _).alloc (Nat.le_refl _) _⟩

@[go_sem] theorem ext_f32bits (y : Nat) (w : World) : (callFunc 122 #[.float .f32 y]).run Try.prog w = .ok (.value (.int .u32 y)) w := by
  rw [run_callFunc_extern Try.func122 (by kernel_rfl) (by kernel_rfl) (by kernel_rfl) (e := Extern.MathFloatBits.float32bits) (by kernel_rfl)]
  rfl

theorem sFinite_t (x : Nat) (hx : x < 4294967296) (h : finB x = true) (w : World) :
    Calls Try.prog 100 #[.float .f32 x] w fun e w' => e = .returned (.bool true) ∧ w = w' := by
  have hr := fun w => run_float_arith (P := Try.prog) w .sub 22 .f32 x x 0 (sub_self_fin hx h)
  clear h hx
  go_enter Try.func100, Try.ntmps100
  go_wp2
  go_ret
  exact ⟨rfl, rfl⟩

theorem sFinite_f (x : Nat) (hx : x < 4294967296) (h : finB x = false) (w : World) :
    Calls Try.prog 100 #[.float .f32 x] w fun e w' => e = .returned (.bool false) ∧ Below w.heap.size w w' := by
  obtain ⟨z, hr, h1, _⟩ := run_arith_nan (P := Try.prog) w .sub (by simp) 22 x x (sub_self_none hx h)
  have Hn := hid (show (FloatKind.f32.format.order z 0 == some .eq) = false by
    show (S.order z 0 == some .eq) = false
    rw [order_nan32 h1]; rfl)
  clear h hx h1
  go_enter Try.func100, Try.ntmps100
  go_wp2
  go_ret
  exact ⟨by simp [Hn.out], (Below.refl _ _).drew⟩

theorem sAmount_t (x : Nat) (h : amtB x = true) (w : World) :
    Calls Try.prog 66 #[.float .f32 x] w fun e w' => e = .returned (.bool true) ∧ w = w' := by
  have hf := amt_fin h
  have h' := amtB_iff.1 h
  have hx : x < 4294967296 := by rw [INF_val] at h'; omega
  have Hx := hid hx
  have Hf := hid hf
  by_cases h0 : x = 0
  · subst h0
    clear h hf h' hx
    go_enter Try.func66, Try.ntmps66
    go_wp2_with (go_at_call 100; refine (sFinite_t 0 Hx.out Hf.out _).mono ?_; rintro e w' ⟨rfl, rfl⟩)
    go_ret
    exact ⟨rfl, rfl⟩
  · have hg : (FloatKind.f32.format.order x 0 == some .gt) = true := by
      show (S.order x 0 == some .gt) = true
      rw [order_zero_pos h', Nat.compare_eq_gt.2 (by omega)]; rfl
    clear h hf h' hx h0
    go_enter Try.func66, Try.ntmps66
    go_wp2_with (go_at_call 100; refine (sFinite_t x Hx.out Hf.out _).mono ?_; rintro e w' ⟨rfl, rfl⟩)
    go_ret
    exact ⟨rfl, rfl⟩

theorem sAmount_f (x : Nat) (hx : x < 4294967296) (h : amtB x = false) (w : World) :
    Calls Try.prog 66 #[.float .f32 x] w fun e w' => e = .returned (.bool false) ∧ Below w.heap.size w w' := by
  rcases hf : finB x with _ | _
  · have Hx := hid hx
    have Hf := hid hf
    clear h hf hx
    go_enter Try.func66, Try.ntmps66
    go_wp2_with (go_at_call 100; refine (sFinite_f x Hx.out Hf.out _).mono ?_; rintro e w' ⟨rfl, hb⟩)
    go_ret
    exact ⟨rfl, hb⟩
  · have hs : 2147483648 ≤ x := by
      rw [amtB_iff', INF_val] at h
      have := finB_iff.1 hf
      rw [INF_val] at this
      unfold mg at this
      omega
    have hg : (FloatKind.f32.format.order x 0 == some .gt) = false := order_neg_zero hx hf hs
    have hb : ((x : Int) == 0) = false := by simp; omega
    have Hx := hid hx
    have Hf := hid hf
    clear h hf hx hs
    go_enter Try.func66, Try.ntmps66
    go_wp2_with (go_at_call 100; refine (sFinite_t x Hx.out Hf.out _).mono ?_; rintro e w' ⟨rfl, rfl⟩)
    go_ret
    exact ⟨rfl, Below.refl _ _⟩

set_option maxRecDepth 100000 in
theorem validSizes_f (c : Nat → Nat) (hb : ∀ i, i < 20 → c i < 4294967296) (h : ¬ ∀ i, i < 20 → amtB (c i) = true) (w : World) :
    Calls Try.prog 114 #[.agg (fls c)] w fun e w' => e = .returned (.bool false) ∧ Below w.heap.size w w' := by
  have H := hid h
  have HB := hid hb
  clear h hb
  go_enter Try.func114, Try.ntmps114
  go_wp2_with (refine wpList_load_row rfl 30 _ rfl w.heap.size rfl 30 (fls c) (0, 0) _ (heap_alloc_new _ _) Try.underlying30 rfl (by rw [fls_size]; exact info_arr) ?_)
  go_loop [6] (fun i => ∃ k : Nat, k ≤ 20 ∧ Hid (∀ i, i < k → amtB (c i) = true) ∧ i = .int .i64 k) (fun i => 20 - (intOf i).toNat)
  case atStart => exact ⟨0, by omega, hid (fun i hi => by omega), rfl⟩
  case round =>
    obtain ⟨k, hk, HK, rfl⟩ := hrel
    by_cases hlt : k < 20
    · have hix := ix 30 Try.underlying30 c k hlt
      rcases hac : amtB (c k) with _ | _
      · have HA := hid hac
        clear hac
        go_wp2_with (go_at_call 109; refine (isAmount_f (c k) (HB.out k hlt) HA.out _).mono ?_; rintro e w' ⟨rfl, hb⟩)
        go_ret
        exact ⟨rfl, (((Below.refl _ _).alloc (Nat.le_refl _) _).trans (hb.mono (by simp)))⟩
      · have HA := hid hac
        clear hac
        go_wp2_with (go_at_call 109; refine (isAmount_t (c k) HA.out _).mono ?_; rintro e w' ⟨rfl, rfl⟩)
        go_round
        case rel =>
          refine ⟨k + 1, by omega, hid (fun i hi => ?_), by go_num⟩
          by_cases e : i = k
          · subst e; exact HA.out
          · exact HK.out i (by omega)
        case measure => simp [intOf]; omega
    · have hk20 : k = 20 := by omega
      exact (H.out (fun i hi => HK.out i (by omega))).elim

set_option maxRecDepth 100000 in
theorem sOk_t (c : Nat → Nat) (h : ∀ i, i < 20 → amtB (c i) = true) (w : World) (g : Nat) (T : TypeId) (hg : w.heap[g]? = some (.cells (fls c) T (0, 0))) :
    Calls Try.prog 64 #[.pointer (some ⟨g, 0, none⟩)] w fun e w' => e = .returned (.bool true) ∧ w = w' := by
  have H := hid h
  have HG := hid hg
  clear h hg
  go_enter Try.func64, Try.ntmps64
  go_wp2
  go_loop [3] (fun i => ∃ k : Nat, k ≤ 20 ∧ i = .int .i64 k) (fun i => 20 - (intOf i).toNat)
  case atStart => exact ⟨0, by omega, rfl⟩
  case round =>
    obtain ⟨k, hk, rfl⟩ := hrel
    by_cases hlt : k < 20
    · have hcell : w.cell? ⟨g, k, none⟩ = some (.float .f32 (c k)) := by rw [cell_of_row w g k _ _ _ HG.out, fls_get c hlt]
      go_wp2_with (go_at_call 66; refine (sAmount_t (c k) (H.out k hlt) _).mono ?_; rintro e w' ⟨rfl, rfl⟩)
      go_round
      case rel => exact ⟨k + 1, by omega, by go_num⟩
      case measure => simp [intOf]; omega
    · go_wp2
      go_ret
      exact ⟨rfl, rfl⟩

theorem info_a20 : (Try.prog.info? 23).map (·.size) = some 20 := by kernel_rfl

set_option maxRecDepth 100000 in
theorem toSizes (c : Nat → Nat) (w : World) :
    Calls Try.prog 18 #[.agg (fls c)] w fun e w' => e = .returned (.agg (fls c)) ∧ Below w.heap.size w w' := by
  have b0 : Below w.heap.size w (w.alloc (.cells (fls c) 23)) := (Below.refl _ _).alloc (Nat.le_refl _) _
  have a0 := hid (arrAt.new w c 23)
  go_enter Try.func18, Try.ntmps18
  go_wp2
  go_loopw [4] (fun i wr => ∃ k : Nat, k ≤ 20 ∧ i = .int .i64 k ∧ Hid (arrAt wr w.heap.size c 23) ∧ Hid (arrAt wr (w.heap.size + 1) (fun _ => 0) 30) ∧ Hid (arrAt wr (w.heap.size + 1 + 1) (cut c k) 30) ∧ Hid (Below w.heap.size w wr)) (fun i _ => 20 - (intOf i).toNat)
  case atStart =>
    refine ⟨0, by omega, rfl, hid ((a0.out.alloc _).alloc _), hid ?_, hid ?_, hid ((b0.alloc (by simp) _).alloc (by simp; omega) _)⟩
    · have := arrAt.new (w.alloc (.cells (fls c) 23)) (fun _ => 0) 30
      have e : (w.alloc (.cells (fls c) 23)).heap.size = w.heap.size + 1 := by simp
      rw [e] at this
      exact this.alloc _
    · have := arrAt.new ((w.alloc (.cells (fls c) 23)).alloc (.cells (fls fun _ => 0) 30)) (fun _ => 0) 30
      have e : ((w.alloc (.cells (fls c) 23)).alloc (.cells (fls fun _ => 0) 30)).heap.size = w.heap.size + 1 + 1 := by simp
      rw [e] at this
      exact this.ext (fun i _ => (cut_zero' c i).symm)
  case round =>
    obtain ⟨k, hk, rfl, h0, h1, h2, hb⟩ := hrel
    by_cases hlt : k < 20
    · have q0 := h0.out.cell hlt
      have q2 := h2.out.cell hlt
      have f2 := h2.out.frozen k
      go_wp2
      go_roundw
      case rel => exact ⟨k + 1, by omega, by go_num, hid (h0.out.setOther (by simp; omega) _), hid (h1.out.setOther (by simp) _), hid ((h2.out.set k (c k)).ext (fun i _ => cut_succ c k i)), hid (hb.out.setCell (by simp; omega) _)⟩
      case measure => simp [intOf]; omega
    · obtain rfl : k = 20 := by omega
      have h2' := hid (h2.out.ext (cut_all c))
      clear h2
      go_wp2_with (first | (refine wpList_load_row rfl 30 _ rfl (w.heap.size + 1 + 1) rfl 30 (fls c) (0, 0) _ h2'.out Try.underlying30 rfl (by rw [fls_size]; exact info_arr) ?_) | (refine wpList_store_row rfl 30 _ _ rfl (w.heap.size + 1) (fls c) rfl rfl 30 _ h1.out (by rw [fls_size]; exact info_arr) (by simp) (fls_one c) ?_))
      exact bodyPost_ret (results_cell_row rfl _ _ (w.heap.size + 1) 30 (fls c) (0, 0) _ rfl (h1.out.setRow c) Try.underlying30 rfl (by rw [fls_size]; exact info_arr)) rfl ⟨rfl, below_row hb.out (by omega) _⟩

theorem div_one_some {y m : Nat} {s : Bool} {e : Int} (h : D.read y = .number s m e) : ∃ q, floatBits .quo .f64 4607182418800017408 y = some q := by
  have h1 : D.read 4607182418800017408 = .number false 4503599627370496 (-52) := by decide
  show ∃ q, D.div 4607182418800017408 y = some q
  unfold Ieee.Format.div
  rw [h, h1]
  simp only [Ieee.Datum.quotient]
  by_cases hm : m = 0
  · rw [if_pos hm]; exact ⟨_, rfl⟩
  · rw [if_neg hm]; exact ⟨_, rfl⟩

set_option maxRecDepth 100000 in
theorem sameFloat (x : Nat) (hx : x < 4294967296) (h : finB x = true) (w : World) :
    Calls Try.prog 50 #[.float .f64 (wid x), .float .f64 (wid x)] w fun e w' => e = .returned (.bool true) ∧ w = w' := by
  obtain ⟨a, b, m, e, hr⟩ := read_wid_fin hx (finB_iff.1 h)
  have hn : (FloatKind.f64.format.order (wid x) (wid x) != some .eq) = false := by
    show (D.order (wid x) (wid x) != some .eq) = false
    rw [order_self hr]; rfl
  have hq : (FloatKind.f64.format.order (wid x) (wid x) == some .eq) = true := by
    show (D.order (wid x) (wid x) == some .eq) = true
    rw [order_self hr]; rfl
  obtain ⟨q, hd⟩ := div_one_some hr
  have hdiv := fun w => run_float_arith (P := Try.prog) w .quo 94 .f64 4607182418800017408 (wid x) q hd
  clear hd hr a b h hx
  rcases hz : (FloatKind.f64.format.order (wid x) 0 == some .eq) with _ | _
  · go_enter Try.func50, Try.ntmps50
    go_wp2
    go_ret
    exact ⟨by simp, rfl⟩
  · go_enter Try.func50, Try.ntmps50
    go_wp2
    go_ret
    exact ⟨by simp, rfl⟩

theorem back {P : Program} {f : FuncId} {args : Array Value} {w : World} {v : Value} (h : Calls P f args w fun e w' => e = .returned v ∧ w = w') : Calls P f args w fun e w' => e = .returned v ∧ w' = w :=
  h.mono fun _ _ ⟨a, b⟩ => ⟨a, b.symm⟩

set_option maxRecDepth 100000 in
theorem eqSizes (c : Nat → Nat) (hb : ∀ i, i < 20 → c i < 4294967296) (h : ∀ i, i < 20 → finB (c i) = true) (w : World) :
    Calls Try.prog 21 #[.agg (fls c), .agg (fls c)] w fun e w' => e = .returned (.bool true) ∧ Below w.heap.size w w' := by
  have b0 : Below w.heap.size w (w.alloc (.cells (fls c) 30)) := (Below.refl _ _).alloc (Nat.le_refl _) _
  have a0 := hid (arrAt.new w c 30)
  have H := hid h
  have HB := hid hb
  clear h hb
  go_enter Try.func21, Try.ntmps21
  go_wp2
  go_loopw [5] (fun i wr => ∃ k : Nat, k ≤ 20 ∧ i = .int .i64 k ∧ Hid (arrAt wr w.heap.size c 30) ∧ Hid (arrAt wr (w.heap.size + 1) c 30) ∧ Hid (Below w.heap.size w wr)) (fun i _ => 20 - (intOf i).toNat)
  case atStart =>
    refine ⟨0, by omega, rfl, hid (a0.out.alloc _), hid ?_, hid (b0.alloc (by simp) _)⟩
    have := arrAt.new (w.alloc (.cells (fls c) 30)) c 30
    have e : (w.alloc (.cells (fls c) 30)).heap.size = w.heap.size + 1 := by simp
    rw [e] at this
    exact this
  case round =>
    obtain ⟨k, hk, rfl, h0, h1, hb⟩ := hrel
    by_cases hlt : k < 20
    · have q0 := h0.out.cell hlt
      have q1 := h1.out.cell hlt
      have hc := fun w => run_conv_wid (P := Try.prog) w 22 94 (c k) (HB.out k hlt) Try.underlying22 Try.underlying94 (finB_iff.1 (H.out k hlt))
      go_wp2
      go_quiet ((go_at_call 50; exact Calls.quiet_of_same (back (sameFloat (c k) (HB.out k hlt) (H.out k hlt) _))))
      go_wp2
      go_roundw
      case rel => exact ⟨k + 1, by omega, by go_num, h0, h1, hid (below_drewN hb.out _)⟩
      case measure => simp [intOf]; omega
    · go_wp2
      go_ret
      exact ⟨rfl, hb.out⟩

def Amts (c : Nat → Nat) : Prop := ∀ i, i < 20 → amtB (c i) = true

def Share (x : Nat) : Prop := x ≤ 1065353216

theorem share_amt {x : Nat} (h : Share x) : amtB x = true := by unfold Share at h; rw [amtB_iff, INF_val]; omega

theorem l00In_t (n a b : Int) (h1 : a ≤ n) (h2 : n ≤ b) (w : World) :
    Calls Try.prog 68 #[.int .i64 n, .int .i64 a, .int .i64 b] w fun e w' => e = .returned (.bool true) ∧ w = w' := by
  go_enter Try.func68, Try.ntmps68
  go_wp2
  go_ret
  exact ⟨by first | rfl | (simp; done) | (simp; omega), rfl⟩

theorem l00In_f (n a b : Int) (hn : ¬ (a ≤ n ∧ n ≤ b)) (w : World) :
    Calls Try.prog 68 #[.int .i64 n, .int .i64 a, .int .i64 b] w fun e w' => e = .returned (.bool false) ∧ w = w' := by
  by_cases h0 : a ≤ n
  · have h3 : b < n := by omega
    clear hn
    go_enter Try.func68, Try.ntmps68
    go_wp2
    go_ret
    exact ⟨by first | rfl | (simp; done) | (simp; omega), rfl⟩
  · have h3 : n < a := by omega
    have h4 : decide (a ≤ n) = false := by simp; omega
    clear hn h0
    go_enter Try.func68, Try.ntmps68
    go_wp2
    go_ret
    exact ⟨by simp, rfl⟩

theorem leq_one_t {x : Nat} (h : Share x) : (FloatKind.f32.format.order x 1065353216 == some .lt || FloatKind.f32.format.order x 1065353216 == some .eq) = true := by
  show (S.order x 1065353216 == some .lt || S.order x 1065353216 == some .eq) = true
  rw [order_lt (amtB_iff.1 (share_amt h)) (by decide)]
  unfold Share at h
  rcases Nat.lt_or_eq_of_le h with h | h
  · rw [Nat.compare_eq_lt.2 h]; rfl
  · rw [Nat.compare_eq_eq.2 h]; rfl

theorem leq_one_f {x : Nat} (ha : amtB x = true) (h : ¬ Share x) : (FloatKind.f32.format.order x 1065353216 == some .lt || FloatKind.f32.format.order x 1065353216 == some .eq) = false := by
  show (S.order x 1065353216 == some .lt || S.order x 1065353216 == some .eq) = false
  rw [order_lt (amtB_iff.1 ha) (by decide)]
  unfold Share at h
  rw [Nat.compare_eq_gt.2 (by omega)]; rfl

theorem iShare_t (x : Nat) (h : Share x) (w : World) :
    Calls Try.prog 58 #[.float .f32 x] w fun e w' => e = .returned (.bool true) ∧ w = w' := by
  have ho := leq_one_t h
  have Ha := hid (share_amt h)
  clear h
  go_enter Try.func58, Try.ntmps58
  go_wp2_with fail
  refine (isAmount_t x Ha.out _).mono ?_
  rintro e w1 ⟨rfl, rfl⟩
  go_wp2
  go_ret
  exact ⟨by first | rfl | (simp; done), rfl⟩

theorem iShare_f (x : Nat) (hx : x < 4294967296) (h : ¬ Share x) (w : World) :
    Calls Try.prog 58 #[.float .f32 x] w fun e w' => e = .returned (.bool false) ∧ Below w.heap.size w w' := by
  rcases ha : amtB x with _ | _
  · have Ha := hid ha
    have Hx := hid hx
    clear h ha hx
    go_enter Try.func58, Try.ntmps58
    go_wp2_with fail
    refine (isAmount_f x Hx.out Ha.out _).mono ?_
    rintro e w1 ⟨rfl, hb⟩
    go_wp2
    go_ret
    exact ⟨rfl, hb⟩
  · have ho := leq_one_f ha h
    have Ha := hid ha
    clear h ha hx
    go_enter Try.func58, Try.ntmps58
    go_wp2_with fail
    refine (isAmount_t x Ha.out _).mono ?_
    rintro e w1 ⟨rfl, rfl⟩
    go_wp2
    go_ret
    exact ⟨by first | rfl | (simp; done), Below.refl _ _⟩

theorem sShare_t (x : Nat) (h : Share x) (w : World) :
    Calls Try.prog 101 #[.float .f32 x] w fun e w' => e = .returned (.bool true) ∧ w = w' := by
  have ho := leq_one_t h
  have Ha := hid (share_amt h)
  clear h
  go_enter Try.func101, Try.ntmps101
  go_wp2_with fail
  refine (sAmount_t x Ha.out _).mono ?_
  rintro e w1 ⟨rfl, rfl⟩
  go_wp2
  go_ret
  exact ⟨by first | rfl | (simp; done), rfl⟩

theorem sShare_f (x : Nat) (hx : x < 4294967296) (h : ¬ Share x) (w : World) :
    Calls Try.prog 101 #[.float .f32 x] w fun e w' => e = .returned (.bool false) ∧ Below w.heap.size w w' := by
  rcases ha : amtB x with _ | _
  · have Ha := hid ha
    have Hx := hid hx
    clear h ha hx
    go_enter Try.func101, Try.ntmps101
    go_wp2_with fail
    refine (sAmount_f x Hx.out Ha.out _).mono ?_
    rintro e w1 ⟨rfl, hb⟩
    go_wp2
    go_ret
    exact ⟨rfl, hb⟩
  · have ho := leq_one_f ha h
    have Ha := hid ha
    clear h ha hx
    go_enter Try.func101, Try.ntmps101
    go_wp2_with fail
    refine (sAmount_t x Ha.out _).mono ?_
    rintro e w1 ⟨rfl, rfl⟩
    go_wp2
    go_ret
    exact ⟨by first | rfl | (simp; done), Below.refl _ _⟩

def Fins (c : Nat → Nat) : Prop := ∀ i, i < 20 → finB (c i) = true

set_option maxRecDepth 100000 in
theorem iFinite_t (c : Nat → Nat) (hb : ∀ i, i < 20 → c i < 4294967296) (h : Fins c) (w : World) :
    Calls Try.prog 157 #[.agg (fls c)] w fun e w' => e = .returned (.tuple #[.agg (fls c), .int .i64 0]) ∧ Below w.heap.size w w' := by
  have A0 := hid ((arrAt.new w c 30).alloc (.cells (fls fun _ => 0) 30))
  have A1 := hid (new1 w (.cells (fls c) 30) (fun _ => 0) 30)
  have b0 := boxed2 w (.cells (fls c) 30) (.cells (fls fun _ => 0) 30)
  have HB := hid hb
  have H := hid h
  clear h hb
  go_enter Try.func157, Try.ntmps157
  go_wp2_with (refine wpList_load_row rfl 30 _ rfl (w.heap.size) rfl 30 (fls c) (0, 0) _ A0.out Try.underlying30 rfl (by rw [fls_size]; exact info_arr) ?_)
  go_loop [7] (fun i => ∃ k : Nat, k ≤ 20 ∧ i = .int .i64 k) (fun i => 20 - (intOf i).toNat)
  case atStart => exact ⟨0, by omega, rfl⟩
  case round =>
    obtain ⟨k, hk, rfl⟩ := hrel
    by_cases hlt : k < 20
    · have hix := ix 30 Try.underlying30 c k hlt
      go_wp2_with (go_at_call 105; refine (isFinite_t (c k) (HB.out k hlt) (H.out k hlt) _).mono ?_; rintro e w' ⟨rfl, rfl⟩)
      go_round
      case rel => exact ⟨k + 1, by omega, by go_num⟩
      case measure => simp [intOf]; omega
    · go_wp2_with (first | (refine wpList_load_row rfl 30 _ rfl (w.heap.size) rfl 30 (fls c) (0, 0) _ A0.out Try.underlying30 rfl (by rw [fls_size]; exact info_arr) ?_) | (refine wpList_store_row rfl 30 _ _ rfl (w.heap.size + 1) (fls c) rfl rfl 30 _ A1.out (by rw [fls_size]; exact info_arr) (by simp) (fls_one c) ?_))
      exact bodyPost_ret (results_row_tmp rfl _ _ (w.heap.size + 1) 30 (fls c) (0, 0) _ rfl (A1.out.setRow c) Try.underlying30 rfl (by rw [fls_size]; exact info_arr)) rfl ⟨rfl, below_row b0 (by simp) _⟩

set_option maxRecDepth 100000 in
theorem iFinite_f (c : Nat → Nat) (hb : ∀ i, i < 20 → c i < 4294967296) (h : ¬ Fins c) (w : World) :
    Calls Try.prog 157 #[.agg (fls c)] w fun e w' => e = .returned (.tuple #[.agg (fls fun _ => 0), .int .i64 4]) ∧ Below w.heap.size w w' := by
  have A0 := hid ((arrAt.new w c 30).alloc (.cells (fls fun _ => 0) 30))
  have A1 := hid (new1 w (.cells (fls c) 30) (fun _ => 0) 30)
  have b0 := boxed2 w (.cells (fls c) 30) (.cells (fls fun _ => 0) 30)
  have HB := hid hb
  have H := hid h
  clear h hb
  go_enter Try.func157, Try.ntmps157
  go_wp2_with (refine wpList_load_row rfl 30 _ rfl (w.heap.size) rfl 30 (fls c) (0, 0) _ A0.out Try.underlying30 rfl (by rw [fls_size]; exact info_arr) ?_)
  go_loop [7] (fun i => ∃ k : Nat, k ≤ 20 ∧ Hid (∀ i, i < k → finB (c i) = true) ∧ i = .int .i64 k) (fun i => 20 - (intOf i).toNat)
  case atStart => exact ⟨0, by omega, hid (fun i hi => by omega), rfl⟩
  case round =>
    obtain ⟨k, hk, HK, rfl⟩ := hrel
    by_cases hlt : k < 20
    · have hix := ix 30 Try.underlying30 c k hlt
      rcases hac : finB (c k) with _ | _
      · have HA := hid hac
        clear hac
        go_wp2_with (fail)
        refine (isFinite_f (c k) (HB.out k hlt) HA.out _).mono ?_
        rintro e w1 ⟨rfl, hb1⟩
        have A2 := hid (A1.out.stay hb1)
        have b1 := stp b0 (Nat.le_refl _) hb1
        go_wp2_with (refine wpList_store_row rfl 30 _ _ rfl (w.heap.size + 1) (fls (fun _ => 0)) rfl rfl 30 _ A2.out (by rw [fls_size]; exact info_arr) (by simp) (fls_one (fun _ => 0)) ?_)
        exact bodyPost_ret (results_row_tmp rfl _ _ (w.heap.size + 1) 30 (fls (fun _ => 0)) (0, 0) _ rfl (A2.out.setRow (fun _ => 0)) Try.underlying30 rfl (by rw [fls_size]; exact info_arr)) rfl ⟨rfl, below_row b1 (by simp) _⟩
      · have HA := hid hac
        clear hac
        go_wp2_with (go_at_call 105; refine (isFinite_t (c k) (HB.out k hlt) HA.out _).mono ?_; rintro e w' ⟨rfl, rfl⟩)
        go_round
        case rel =>
          refine ⟨k + 1, by omega, hid (fun i hi => ?_), by go_num⟩
          by_cases e : i = k
          · subst e; exact HA.out
          · exact HK.out i (by omega)
        case measure => simp [intOf]; omega
    · have hk20 : k = 20 := by omega
      exact (H.out (fun i hi => HK.out i (by omega))).elim

set_option maxRecDepth 100000 in
theorem sMade_t (c : Nat → Nat) (hb : ∀ i, i < 20 → c i < 4294967296) (h : Fins c) (w : World) :
    Calls Try.prog 155 #[.agg (fls c)] w fun e w' => e = .returned (.tuple #[.agg (fls c), .int .i64 0]) ∧ Below w.heap.size w w' := by
  have A0 := hid ((arrAt.new w c 30).alloc (.cells (fls fun _ => 0) 30))
  have A1 := hid (new1 w (.cells (fls c) 30) (fun _ => 0) 30)
  have b0 := boxed2 w (.cells (fls c) 30) (.cells (fls fun _ => 0) 30)
  have HB := hid hb
  have H := hid h
  clear h hb
  go_enter Try.func155, Try.ntmps155
  go_wp2
  go_loop [4] (fun i => ∃ k : Nat, k ≤ 20 ∧ i = .int .i64 k) (fun i => 20 - (intOf i).toNat)
  case atStart => exact ⟨0, by omega, rfl⟩
  case round =>
    obtain ⟨k, hk, rfl⟩ := hrel
    by_cases hlt : k < 20
    · have hix := A0.out.cell hlt
      go_wp2_with (go_at_call 100; refine (sFinite_t (c k) (HB.out k hlt) (H.out k hlt) _).mono ?_; rintro e w' ⟨rfl, rfl⟩)
      go_round
      case rel => exact ⟨k + 1, by omega, by go_num⟩
      case measure => simp [intOf]; omega
    · go_wp2_with (first | (refine wpList_load_row rfl 30 _ rfl (w.heap.size) rfl 30 (fls c) (0, 0) _ A0.out Try.underlying30 rfl (by rw [fls_size]; exact info_arr) ?_) | (refine wpList_store_row rfl 30 _ _ rfl (w.heap.size + 1) (fls c) rfl rfl 30 _ A1.out (by rw [fls_size]; exact info_arr) (by simp) (fls_one c) ?_))
      exact bodyPost_ret (results_row_tmp rfl _ _ (w.heap.size + 1) 30 (fls c) (0, 0) _ rfl (A1.out.setRow c) Try.underlying30 rfl (by rw [fls_size]; exact info_arr)) rfl ⟨rfl, below_row b0 (by simp) _⟩

set_option maxRecDepth 100000 in
theorem sMade_f (c : Nat → Nat) (hb : ∀ i, i < 20 → c i < 4294967296) (h : ¬ Fins c) (w : World) :
    Calls Try.prog 155 #[.agg (fls c)] w fun e w' => e = .returned (.tuple #[.agg (fls fun _ => 0), .int .i64 4]) ∧ Below w.heap.size w w' := by
  have A0 := hid ((arrAt.new w c 30).alloc (.cells (fls fun _ => 0) 30))
  have A1 := hid (new1 w (.cells (fls c) 30) (fun _ => 0) 30)
  have b0 := boxed2 w (.cells (fls c) 30) (.cells (fls fun _ => 0) 30)
  have HB := hid hb
  have H := hid h
  clear h hb
  go_enter Try.func155, Try.ntmps155
  go_wp2
  go_loop [4] (fun i => ∃ k : Nat, k ≤ 20 ∧ Hid (∀ i, i < k → finB (c i) = true) ∧ i = .int .i64 k) (fun i => 20 - (intOf i).toNat)
  case atStart => exact ⟨0, by omega, hid (fun i hi => by omega), rfl⟩
  case round =>
    obtain ⟨k, hk, HK, rfl⟩ := hrel
    by_cases hlt : k < 20
    · have hix := A0.out.cell hlt
      rcases hac : finB (c k) with _ | _
      · have HA := hid hac
        clear hac
        go_wp2_with (fail)
        refine (sFinite_f (c k) (HB.out k hlt) HA.out _).mono ?_
        rintro e w1 ⟨rfl, hb1⟩
        have A2 := hid (A1.out.stay hb1)
        have b1 := stp b0 (Nat.le_refl _) hb1
        go_wp2_with (refine wpList_store_row rfl 30 _ _ rfl (w.heap.size + 1) (fls (fun _ => 0)) rfl rfl 30 _ A2.out (by rw [fls_size]; exact info_arr) (by simp) (fls_one (fun _ => 0)) ?_)
        exact bodyPost_ret (results_row_tmp rfl _ _ (w.heap.size + 1) 30 (fls (fun _ => 0)) (0, 0) _ rfl (A2.out.setRow (fun _ => 0)) Try.underlying30 rfl (by rw [fls_size]; exact info_arr)) rfl ⟨rfl, below_row b1 (by simp) _⟩
      · have HA := hid hac
        clear hac
        go_wp2_with (go_at_call 100; refine (sFinite_t (c k) (HB.out k hlt) HA.out _).mono ?_; rintro e w' ⟨rfl, rfl⟩)
        go_round
        case rel =>
          refine ⟨k + 1, by omega, hid (fun i hi => ?_), by go_num⟩
          by_cases e : i = k
          · subst e; exact HA.out
          · exact HK.out i (by omega)
        case measure => simp [intOf]; omega
    · have hk20 : k = 20 := by omega
      exact (H.out (fun i hi => HK.out i (by omega))).elim

/-- Sizes that would be returned, by either program, are told alike. -/
theorem iFinite (c : Nat → Nat) (hb : ∀ i, i < 20 → c i < 4294967296) (d : Nat → Nat) (n : Int) (h1 : Fins c → d = c ∧ n = 0) (h2 : ¬ Fins c → d = (fun _ => 0) ∧ n = 4) (w : World) :
    Calls Try.prog 157 #[.agg (fls c)] w fun e w' => e = .returned (.tuple #[.agg (fls d), .int .i64 n]) ∧ Below w.heap.size w w' := by
  by_cases h : Fins c
  · obtain ⟨rfl, rfl⟩ := h1 h; exact iFinite_t _ hb h w
  · obtain ⟨rfl, rfl⟩ := h2 h; exact iFinite_f _ hb h w

theorem sMade (c : Nat → Nat) (hb : ∀ i, i < 20 → c i < 4294967296) (d : Nat → Nat) (n : Int) (h1 : Fins c → d = c ∧ n = 0) (h2 : ¬ Fins c → d = (fun _ => 0) ∧ n = 4) (w : World) :
    Calls Try.prog 155 #[.agg (fls c)] w fun e w' => e = .returned (.tuple #[.agg (fls d), .int .i64 n]) ∧ Below w.heap.size w w' := by
  by_cases h : Fins c
  · obtain ⟨rfl, rfl⟩ := h1 h; exact sMade_t _ hb h w
  · obtain ⟨rfl, rfl⟩ := h2 h; exact sMade_f _ hb h w

theorem loose {P : Program} {f : FuncId} {args : Array Value} {w : World} {v : Value} (h : Calls P f args w fun e w' => e = .returned v ∧ w = w') : Calls P f args w fun e w' => e = .returned v ∧ Below w.heap.size w w' :=
  h.mono fun _ _ ⟨a, b⟩ => ⟨a, b ▸ Below.refl _ _⟩

theorem alloc_air (a : Operand → Value) (d : Option Tmp) (t : TypeId) (ps : String) (af : Array Edge) (gd : Option (Nat × Bool)) (w : World) :
    (execOp a ⟨d, .alloc 32, t, ps, af, gd⟩).run Try.prog w = .ok (.value (.pointer (some ⟨w.heap.size, 0, none⟩))) (w.alloc (.cells (#[.float .f32 0, .float .f32 0]) 32)) := by
  unfold execOp
  go_simp

theorem info_air : (Try.prog.info? 32).map (·.size) = some 2 := by kernel_rfl

theorem info_lair : (Try.prog.info? 26).map (·.size) = some 2 := by kernel_rfl

theorem iDem0 (w : World) : Calls Try.prog 144 #[.int .i64 0] w fun e w' => e = .returned (.tuple #[]) ∧ w = w' := by
  go_enter Try.func144, Try.ntmps144
  go_wp2
  go_end0
  exact ⟨rfl, rfl⟩

set_option maxRecDepth 100000 in
theorem iDemF (n : Int) (hn : n ≠ 0) (w : World) : Calls Try.prog 144 #[.int .i64 n] w fun e w' => e = .panicked [{ v := .iface 241 (.int .i64 n), recovered := false }] ∧ w = w' := by
  have hcon : Try.prog.concrete 241 = true := by kernel_rfl
  go_enter Try.func144, Try.ntmps144
  go_wp2
  exact ⟨rfl, rfl, rfl⟩

theorem iFaultS (n : Int) (w : World) : Calls Try.prog 232 #[.int .i64 n] w fun e w' => e = .returned (.int .i64 n) ∧ w = w' := by
  go_enter Try.func232, Try.ntmps232
  go_wp2
  go_ret
  exact ⟨rfl, rfl⟩

@[go_sem] theorem as_step (v : Value) (w : World) : (Instr.typeAssert (.iface 241 v) 20 193 true).run Try.prog w = .ok (.tuple #[.iface 241 v, .bool true]) w := by kernel_rfl

theorem cm_step (v : Value) (w : World) : (callMethod (.iface 241 v) "loop.example/g01224/impl.fault" #[]).run Try.prog w = .ok (.enter 232 #[v]) w := by kernel_rfl

set_option maxRecDepth 100000 in
theorem iCodeOfS (n : Int) (w : World) : Calls Try.prog 71 #[.iface 241 (.int .i64 n)] w fun e w' => e = .returned (.int .i64 n) ∧ w = w' := by
  have hm := cm_step
  go_enter Try.func71, Try.ntmps71
  go_wp2_with fail
  refine (iFaultS n _).mono ?_
  rintro e w1 ⟨rfl, rfl⟩
  go_wp2
  go_ret
  exact ⟨rfl, rfl⟩

set_option maxRecDepth 100000 in
theorem iSureS_t (c : Nat → Nat) (w : World) : Calls Try.prog 117 #[.agg (fls c), .int .i64 0] w fun e w' => e = .returned (.agg (fls c)) ∧ Below w.heap.size w w' := by
  have k0 : Hid (Kept w [(w.heap.size + 1, fls fun _ => 0, 30), (w.heap.size, fls c, 30)] ((w.alloc (.cells (fls c) 30)).alloc (.cells (fls fun _ => 0) 30))) := hid ((((Kept.nil w).push _ _).push _ _).sub (by simp))
  go_enter Try.func117, Try.ntmps117
  go_wp2_with fail
  refine (iDem0 _).mono ?_
  rintro e w1 ⟨rfl, rfl⟩
  generalize World.alloc (World.alloc w _) _ = w1 at k0 ⊢
  go_wp2_with (first | (refine wpList_load_row rfl 30 _ rfl (w.heap.size) rfl 30 (fls c) (0, 0) _ (k0.out.at (x := (w.heap.size, fls c, 30)) in1) Try.underlying30 rfl (by rw [fls_size]; exact info_arr) ?_) | (refine store_row rfl 30 _ _ rfl (w.heap.size + 1) (fls c) (fls fun _ => 0) rfl rfl k0.out (by rw [fls_size]; exact info_arr) (by rw [fls_size, fls_size]) (vls_one (n := 20) (f := flw c) (fun _ => rfl)) (Nat.le_succ _) (neC (by omega) ne0) (fun w2 k2 => ?_); replace k2 := hid k2))
  exact bodyPost_ret (results_cell_row rfl _ _ (w.heap.size + 1) 30 (fls c) (0, 0) _ rfl (k2.out.at (x := (w.heap.size + 1, fls c, 30)) in0) Try.underlying30 rfl (by rw [fls_size]; exact info_arr)) rfl ⟨rfl, k2.out.1⟩

set_option maxRecDepth 100000 in
theorem iSureS_f (c : Nat → Nat) (n : Int) (hn : n ≠ 0) (w : World) : Calls Try.prog 117 #[.agg (fls c), .int .i64 n] w fun e w' => e = .panicked [{ v := .iface 241 (.int .i64 n), recovered := false }] ∧ Below w.heap.size w w' := by
  have k0 : Hid (Kept w [(w.heap.size + 1, fls fun _ => 0, 30), (w.heap.size, fls c, 30)] ((w.alloc (.cells (fls c) 30)).alloc (.cells (fls fun _ => 0) 30))) := hid ((((Kept.nil w).push _ _).push _ _).sub (by simp))
  have HN := hid hn
  clear hn
  go_enter Try.func117, Try.ntmps117
  go_wp2_with fail
  refine (iDemF n HN.out _).mono ?_
  rintro e w1 ⟨rfl, rfl⟩
  exact ⟨rfl, rfl, k0.out.1⟩

set_option maxRecDepth 100000 in
theorem iSureA_t (a b : Nat) (w : World) : Calls Try.prog 119 #[.agg (#[.float .f32 a, .float .f32 b]), .int .i64 0] w fun e w' => e = .returned (.agg (#[.float .f32 a, .float .f32 b])) ∧ Below w.heap.size w w' := by
  have k0 : Hid (Kept w [(w.heap.size + 1, #[.float .f32 0, .float .f32 0], 32), (w.heap.size, #[.float .f32 a, .float .f32 b], 32)] ((w.alloc (.cells (#[.float .f32 a, .float .f32 b]) 32)).alloc (.cells (#[.float .f32 0, .float .f32 0]) 32))) := hid ((((Kept.nil w).push _ _).push _ _).sub (by simp))
  go_enter Try.func119, Try.ntmps119
  go_wp2_with fail
  refine (iDem0 _).mono ?_
  rintro e w1 ⟨rfl, rfl⟩
  generalize World.alloc (World.alloc w _) _ = w1 at k0 ⊢
  go_wp2_with (first | (refine wpList_load_row rfl 32 _ rfl (w.heap.size) rfl 32 (#[.float .f32 a, .float .f32 b]) (0, 0) _ (k0.out.at (x := (w.heap.size, #[.float .f32 a, .float .f32 b], 32)) in1) Try.underlying32 rfl (info_air) ?_) | (refine store_row rfl 32 _ _ rfl (w.heap.size + 1) (#[.float .f32 a, .float .f32 b]) (#[.float .f32 0, .float .f32 0]) rfl rfl k0.out (info_air) (rfl) (two_one a b) (Nat.le_succ _) (neC (by omega) ne0) (fun w2 k2 => ?_); replace k2 := hid k2))
  exact bodyPost_ret (results_cell_row rfl _ _ (w.heap.size + 1) 32 (#[.float .f32 a, .float .f32 b]) (0, 0) _ rfl (k2.out.at (x := (w.heap.size + 1, #[.float .f32 a, .float .f32 b], 32)) in0) Try.underlying32 rfl (info_air)) rfl ⟨rfl, k2.out.1⟩

set_option maxRecDepth 100000 in
theorem iSureA_f (a b : Nat) (n : Int) (hn : n ≠ 0) (w : World) : Calls Try.prog 119 #[.agg (#[.float .f32 a, .float .f32 b]), .int .i64 n] w fun e w' => e = .panicked [{ v := .iface 241 (.int .i64 n), recovered := false }] ∧ Below w.heap.size w w' := by
  have k0 : Hid (Kept w [(w.heap.size + 1, #[.float .f32 0, .float .f32 0], 32), (w.heap.size, #[.float .f32 a, .float .f32 b], 32)] ((w.alloc (.cells (#[.float .f32 a, .float .f32 b]) 32)).alloc (.cells (#[.float .f32 0, .float .f32 0]) 32))) := hid ((((Kept.nil w).push _ _).push _ _).sub (by simp))
  have HN := hid hn
  clear hn
  go_enter Try.func119, Try.ntmps119
  go_wp2_with fail
  refine (iDemF n HN.out _).mono ?_
  rintro e w1 ⟨rfl, rfl⟩
  exact ⟨rfl, rfl, k0.out.1⟩

def rest1 (x : Nat) : Nat := fsub 1065353216 x

def mixed (c d : Nat → Nat) (x : Nat) : Nat → Nat := fun i => fadd (fmul (c i) (rest1 x)) (fmul (d i) x)

theorem rest1_amt {x : Nat} (h : Share x) : amtB (rest1 x) = true := by
  have h1 := fsub_le (x := 1065353216) (y := x) (by decide) h
  rw [amtB_iff, INF_val]
  unfold rest1
  omega

theorem mixed_nn {c d : Nat → Nat} (hc : Amts c) (hd : Amts d) {x : Nat} (hx : Share x) {i : Nat} (hi : i < 20) : nnB (mixed c d x i) = true := (add_eq (mul_eq (hc i hi) (rest1_amt hx)).2 (mul_eq (hd i hi) (share_amt hx)).2).2

set_option maxRecDepth 100000 in
theorem iMixSizes_ok (c : Nat → Nat) (h : Amts c) (d : Nat → Nat) (hd : Amts d) (x : Nat) (hx : Share x) (r : Nat → Nat) (n : Int) (h1 : Fins (mixed c d x) → r = mixed c d x ∧ n = 0) (h2 : ¬ Fins (mixed c d x) → r = (fun _ => 0) ∧ n = 4) (w : World) :
    Calls Try.prog 118 #[.agg (fls c), .agg (fls d), .float .f32 x] w fun e w' => e = .returned (.tuple #[.agg (fls r), .int .i64 n]) ∧ Below w.heap.size w w' := by
  have A0 := hid (((arrAt.new w c 30).alloc (.cells (fls d) 30)).alloc (.cells (fls (fun _ => 0)) 30))
  have A1 := hid ((new1 w (.cells (fls c) 30) d 30).alloc (.cells (fls (fun _ => 0)) 30))
  have A2 := hid (new2 w (.cells (fls c) 30) (.cells (fls d) 30) (fun _ => 0) 30)
  have b0 := boxed3 w (.cells (fls c) 30) (.cells (fls d) 30) (.cells (fls (fun _ => 0)) 30)
  have Hh := hid h
  have Hhd := hid hd
  have Hhx := hid hx
  have Hh1 := hid h1
  have Hh2 := hid h2
  clear h hd hx h1 h2
  go_enter Try.func118, Try.ntmps118
  go_wp2_with (first | (refine wpList_load_row rfl 30 _ rfl (w.heap.size) rfl 30 (fls c) (0, 0) _ A0.out Try.underlying30 rfl (by rw [fls_size]; exact info_arr) ?_))
  refine (validSizes_t c Hh.out _).mono ?_
  rintro e w0 ⟨rfl, hb0⟩
  have A0 := hid (A0.out.stay hb0)
  have A1 := hid (A1.out.stay hb0)
  have A2 := hid (A2.out.stay hb0)
  have c0 := stp b0 (Nat.le_refl _) hb0
  go_wp2_with (first | (refine wpList_load_g rfl 30 _ rfl (w.heap.size + 1) rfl 30 (fls d) (0, 0) _ A1.out Try.underlying30 rfl (by rw [fls_size]; exact info_arr) ?_))
  refine (validSizes_t d Hhd.out _).mono ?_
  rintro e w1 ⟨rfl, hb1⟩
  have A0 := hid (A0.out.stay hb1)
  have A1 := hid (A1.out.stay hb1)
  have A2 := hid (A2.out.stay hb1)
  have c1 := stp c0 (Nat.le_refl _) hb1
  go_wp2_with fail
  refine (iShare_t x Hhx.out _).mono ?_
  rintro e w2 ⟨rfl, rfl⟩
  have P0 := hid (arrAt.new w1 (fun _ => 0) 30)
  have l0 := A0.out.lt
  have l1 := A1.out.lt
  have l2 := A2.out.lt
  go_wp2_with fail
  go_loopw [23] (fun i wr => ∃ k : Nat, k ≤ 20 ∧ i = .int .i64 k ∧ Hid (arrAt wr (w.heap.size) c 30) ∧ Hid (arrAt wr (w.heap.size + 1) d 30) ∧ Hid (arrAt wr (w.heap.size + 1 + 1) (fun _ => 0) 30) ∧ Hid (arrAt wr (w1.heap.size) (cut (mixed c d x) k) 30) ∧ Hid (Below w.heap.size w wr)) (fun i _ => 20 - (intOf i).toNat)
  case atStart => exact ⟨0, by omega, rfl, hid (A0.out.alloc _), hid (A1.out.alloc _), hid (A2.out.alloc _), hid (P0.out.ext (fun i _ => (cut_zero' (mixed c d x) i).symm)), hid (c1.alloc c1.size _)⟩
  case round =>
    obtain ⟨k, hk, rfl, g0, g1, g2, g3, hb⟩ := hrel
    by_cases hlt : k < 20
    · have q0 := g0.out.cell hlt
      have q1 := g1.out.cell hlt
      have hs := fun w => run_sub (P := Try.prog) 22 (x := 1065353216) (y := x) (by decide) Hhx.out w
      have hm1 := fun w => run_mul (P := Try.prog) 22 (Hh.out k hlt) (rest1_amt Hhx.out) w
      have hm2 := fun w => run_mul (P := Try.prog) 22 (Hhd.out k hlt) (share_amt Hhx.out) w
      have hm3 := fun w => run_add (P := Try.prog) 22 (mul_eq (Hh.out k hlt) (rest1_amt Hhx.out)).2 (mul_eq (Hhd.out k hlt) (share_amt Hhx.out)).2 w
      rw [show fsub 1065353216 x = rest1 x from rfl] at hs
      rw [show fadd (fmul (c k) (rest1 x)) (fmul (d k) x) = mixed c d x k from rfl] at hm3
      have q3 := g3.out.cell hlt
      have f3 := g3.out.frozen k
      go_wp2_with fail
      go_region
      all_goals go_wp2
      all_goals go_roundw
      case rel => exact ⟨k + 1, by omega, by go_num, hid (g0.out.setOther (by simp; omega) _), hid (g1.out.setOther (by simp; omega) _), hid (g2.out.setOther (by simp; omega) _), hid ((g3.out.set k (mixed c d x k)).ext (fun i _ => cut_succ (mixed c d x) k i)), hid ((hb.out.setCell (p := ⟨w1.heap.size, k, none⟩) c1.size _).drew)⟩
      case measure => simp [intOf]; omega
    · obtain rfl : k = 20 := by omega
      have g4 := hid (g3.out.ext (cut_all (mixed c d x)))
      clear g3
      go_wp2_with (refine wpList_load_row rfl 30 _ rfl (w1.heap.size) rfl 30 (fls (mixed c d x)) (0, 0) _ g4.out Try.underlying30 rfl (by rw [fls_size]; exact info_arr) ?_)
      refine (iFinite (mixed c d x) (fun i hi => nn_lt (mixed_nn Hh.out Hhd.out Hhx.out hi)) r n Hh1.out Hh2.out _).mono ?_
      rintro e w9 ⟨rfl, hb9⟩
      have A9 := hid (g2.out.stay hb9)
      have b9 := stp hb.out (Nat.le_refl _) hb9
      go_wp2_with (refine wpList_store_row rfl 30 _ _ rfl (w.heap.size + 1 + 1) (fls r) rfl rfl 30 _ A9.out (by rw [fls_size]; exact info_arr) (by simp) (fls_one r) ?_)
      exact bodyPost_ret (results_row_tmp rfl _ _ (w.heap.size + 1 + 1) 30 (fls r) (0, 0) _ rfl (A9.out.setRow r) Try.underlying30 rfl (by rw [fls_size]; exact info_arr)) rfl ⟨rfl, below_row b9 (by omega) _⟩

set_option maxRecDepth 100000 in
theorem sMixSizes_ok (c : Nat → Nat) (h : Amts c) (d : Nat → Nat) (hd : Amts d) (x : Nat) (hx : Share x) (r : Nat → Nat) (n : Int) (h1 : Fins (mixed c d x) → r = mixed c d x ∧ n = 0) (h2 : ¬ Fins (mixed c d x) → r = (fun _ => 0) ∧ n = 4) (w : World) :
    Calls Try.prog 111 #[.agg (fls c), .agg (fls d), .float .f32 x] w fun e w' => e = .returned (.tuple #[.agg (fls r), .int .i64 n]) ∧ Below w.heap.size w w' := by
  have A0 := hid (((arrAt.new w c 30).alloc (.cells (fls d) 30)).alloc (.cells (fls (fun _ => 0)) 30))
  have A1 := hid ((new1 w (.cells (fls c) 30) d 30).alloc (.cells (fls (fun _ => 0)) 30))
  have A2 := hid (new2 w (.cells (fls c) 30) (.cells (fls d) 30) (fun _ => 0) 30)
  have b0 := boxed3 w (.cells (fls c) 30) (.cells (fls d) 30) (.cells (fls (fun _ => 0)) 30)
  have Hh := hid h
  have Hhd := hid hd
  have Hhx := hid hx
  have Hh1 := hid h1
  have Hh2 := hid h2
  clear h hd hx h1 h2
  go_enter Try.func111, Try.ntmps111
  go_wp2_with fail
  refine (loose (sOk_t c Hh.out _ w.heap.size 30 A0.out)).mono ?_
  rintro e w0 ⟨rfl, hb0⟩
  have A0 := hid (A0.out.stay hb0)
  have A1 := hid (A1.out.stay hb0)
  have A2 := hid (A2.out.stay hb0)
  have c0 := stp b0 (Nat.le_refl _) hb0
  go_wp2_with fail
  refine (sOk_t d Hhd.out _ (w.heap.size + 1) 30 A1.out).mono ?_
  rintro e w1 ⟨rfl, rfl⟩
  go_wp2_with fail
  refine (sShare_t x Hhx.out _).mono ?_
  rintro e w2 ⟨rfl, rfl⟩
  go_wp2_with fail
  go_loopw [8] (fun i wr => ∃ k : Nat, k ≤ 20 ∧ i = .int .i64 k ∧ Hid (arrAt wr (w.heap.size) (prt (mixed c d x) c k) 30) ∧ Hid (arrAt wr (w.heap.size + 1) d 30) ∧ Hid (arrAt wr (w.heap.size + 1 + 1) (fun _ => 0) 30) ∧ Hid (Below w.heap.size w wr)) (fun i _ => 20 - (intOf i).toNat)
  case atStart => exact ⟨0, by omega, rfl, hid (A0.out.ext (fun i _ => (part_zero (mixed c d x) c i).symm)), A1, A2, hid c0⟩
  case round =>
    obtain ⟨k, hk, rfl, g0, g1, g2, hb⟩ := hrel
    by_cases hlt : k < 20
    · have q0 := g0.out.cell hlt
      rw [part_here] at q0
      have q1 := g1.out.cell hlt
      have hs := fun w => run_sub (P := Try.prog) 22 (x := 1065353216) (y := x) (by decide) Hhx.out w
      have hm1 := fun w => run_mul (P := Try.prog) 22 (Hh.out k hlt) (rest1_amt Hhx.out) w
      have hm2 := fun w => run_mul (P := Try.prog) 22 (Hhd.out k hlt) (share_amt Hhx.out) w
      have hm3 := fun w => run_add (P := Try.prog) 22 (mul_eq (Hh.out k hlt) (rest1_amt Hhx.out)).2 (mul_eq (Hhd.out k hlt) (share_amt Hhx.out)).2 w
      rw [show fsub 1065353216 x = rest1 x from rfl] at hs
      rw [show fadd (fmul (c k) (rest1 x)) (fmul (d k) x) = mixed c d x k from rfl] at hm3
      have f0 := g0.out.frozen k
      go_wp2_with fail
      go_region
      all_goals go_wp2
      all_goals go_roundw
      case rel => exact ⟨k + 1, by omega, by go_num, hid ((g0.out.set k (mixed c d x k)).ext (fun i _ => part_succ (mixed c d x) c k i)), hid (g1.out.setOther (by simp) _), hid (g2.out.setOther (by simp; omega) _), hid ((hb.out.setCell (p := ⟨w.heap.size, k, none⟩) (Nat.le_refl _) _).drew)⟩
      case measure => simp [intOf]; omega
    · obtain rfl : k = 20 := by omega
      have g4 := hid (g0.out.ext (part_all (mixed c d x) c))
      clear g0
      go_wp2_with (refine wpList_load_row rfl 30 _ rfl (w.heap.size) rfl 30 (fls (mixed c d x)) (0, 0) _ g4.out Try.underlying30 rfl (by rw [fls_size]; exact info_arr) ?_)
      refine (sMade (mixed c d x) (fun i hi => nn_lt (mixed_nn Hh.out Hhd.out Hhx.out hi)) r n Hh1.out Hh2.out _).mono ?_
      rintro e w9 ⟨rfl, hb9⟩
      have A9 := hid (g2.out.stay hb9)
      have b9 := stp hb.out (Nat.le_refl _) hb9
      go_wp2_with (refine wpList_store_row rfl 30 _ _ rfl (w.heap.size + 1 + 1) (fls r) rfl rfl 30 _ A9.out (by rw [fls_size]; exact info_arr) (by simp) (fls_one r) ?_)
      exact bodyPost_ret (results_row_tmp rfl _ _ (w.heap.size + 1 + 1) 30 (fls r) (0, 0) _ rfl (A9.out.setRow r) Try.underlying30 rfl (by rw [fls_size]; exact info_arr)) rfl ⟨rfl, below_row b9 (by omega) _⟩

set_option maxRecDepth 100000 in
theorem toAir (h v : Nat) (w : World) :
    Calls Try.prog 19 #[.agg #[.float .f32 h, .float .f32 v]] w fun e w' => e = .returned (.agg #[.float .f32 h, .float .f32 v]) ∧ Below w.heap.size w w' := by
  have k0 : Hid (Kept w [(w.heap.size + 1, #[.float .f32 h, .float .f32 v], 32)] (((w.alloc (.cells #[.float .f32 h, .float .f32 v] 26)).alloc (.cells #[.float .f32 h, .float .f32 v] 32)).alloc (.cells #[.float .f32 h, .float .f32 v] 32))) := hid (((((Kept.nil w).push _ _).push _ _).push _ _).sub (by simp))
  go_enter Try.func19, Try.ntmps19
  go_wp2
  exact bodyPost_ret (results_cell_row rfl _ _ (w.heap.size + 1) 32 #[.float .f32 h, .float .f32 v] (0, 0) _ rfl (k0.out.at (x := (w.heap.size + 1, #[.float .f32 h, .float .f32 v], 32)) (by simp)) Try.underlying32 rfl info_air) rfl ⟨rfl, k0.out.1⟩

set_option maxRecDepth 100000 in
theorem eqAir (h v : Nat) (hh : h < 4294967296) (hv : v < 4294967296) (fh : finB h = true) (fv : finB v = true) (w : World) :
    Calls Try.prog 22 #[.agg #[.float .f32 h, .float .f32 v], .agg #[.float .f32 h, .float .f32 v]] w fun e w' => e = .returned (.bool true) ∧ Below w.heap.size w w' := by
  have hc0 := fun w => run_conv_wid (P := Try.prog) w 22 94 h hh Try.underlying22 Try.underlying94 (finB_iff.1 fh)
  have hc1 := fun w => run_conv_wid (P := Try.prog) w 22 94 v hv Try.underlying22 Try.underlying94 (finB_iff.1 fv)
  have Hh := hid hh
  have Hv := hid hv
  have Fh := hid fh
  have Fv := hid fv
  have b0 := boxed2 w (.cells #[.float .f32 h, .float .f32 v] 32) (.cells #[.float .f32 h, .float .f32 v] 32)
  clear hh hv fh fv
  go_enter Try.func22, Try.ntmps22
  go_wp2_with fail
  refine (sameFloat h Hh.out Fh.out _).mono ?_
  rintro e w1 ⟨rfl, rfl⟩
  go_wp2_with fail
  refine (sameFloat v Hv.out Fv.out _).mono ?_
  rintro e w1 ⟨rfl, rfl⟩
  go_wp2
  go_ret
  exact ⟨rfl, b0⟩

theorem iHeat (x : Nat) (q : Bool) (hq : heatB x = q) (w : World) :
    Calls Try.prog 156 #[.float .f32 x] w fun e w' => e = .returned (.bool q) ∧ w = w' := by
  have h1 : heatB x = ((FloatKind.f32.format.order x 3262119936 == some .gt || FloatKind.f32.format.order x 3262119936 == some .eq) && (FloatKind.f32.format.order x 1114636288 == some .lt || FloatKind.f32.format.order x 1114636288 == some .eq)) := rfl
  rw [h1] at hq
  clear h1
  rcases a : (FloatKind.f32.format.order x 3262119936 == some .gt || FloatKind.f32.format.order x 3262119936 == some .eq) with _ | _
  · rw [a] at hq
    simp only [Bool.false_and] at hq
    subst hq
    go_enter Try.func156, Try.ntmps156
    go_wp2
    go_ret
    exact ⟨rfl, rfl⟩
  · rw [a] at hq
    simp only [Bool.true_and] at hq
    cases q
    all_goals
      go_enter Try.func156, Try.ntmps156
      go_wp2
      go_ret
      exact ⟨rfl, rfl⟩

theorem sHeat (x : Nat) (q : Bool) (hq : heatB x = q) (w : World) :
    Calls Try.prog 121 #[.float .f32 x] w fun e w' => e = .returned (.bool q) ∧ w = w' := by
  have h1 : heatB x = ((FloatKind.f32.format.order x 3262119936 == some .gt || FloatKind.f32.format.order x 3262119936 == some .eq) && (FloatKind.f32.format.order x 1114636288 == some .lt || FloatKind.f32.format.order x 1114636288 == some .eq)) := rfl
  rw [h1] at hq
  clear h1
  rcases a : (FloatKind.f32.format.order x 3262119936 == some .gt || FloatKind.f32.format.order x 3262119936 == some .eq) with _ | _
  · rw [a] at hq
    simp only [Bool.false_and] at hq
    subst hq
    go_enter Try.func121, Try.ntmps121
    go_wp2
    go_ret
    exact ⟨rfl, rfl⟩
  · rw [a] at hq
    simp only [Bool.true_and] at hq
    cases q
    all_goals
      go_enter Try.func121, Try.ntmps121
      go_wp2
      go_ret
      exact ⟨rfl, rfl⟩

set_option maxRecDepth 100000 in
theorem iValidAir (h v : Nat) (hv : v < 4294967296) (q : Bool) (hq : airB h v = q) (w : World) :
    Calls Try.prog 115 #[.agg #[.float .f32 h, .float .f32 v]] w fun e w' => e = .returned (.bool q) ∧ Below w.heap.size w w' := by
  have b0 := boxed w (.cells #[.float .f32 h, .float .f32 v] 32)
  have Hv := hid hv
  have e1 : airB h v = (heatB h && amtB v && vapB v) := rfl
  rw [e1] at hq
  clear hv e1
  rcases a : heatB h with _ | _
  · have Ha := hid a
    rw [a] at hq
    simp only [Bool.false_and] at hq
    subst hq
    clear a
    go_enter Try.func115, Try.ntmps115
    go_wp2_with fail
    refine (iHeat h false Ha.out _).mono ?_
    rintro e w1 ⟨rfl, rfl⟩
    go_wp2
    go_ret
    exact ⟨rfl, b0⟩
  · have Ha := hid a
    rw [a] at hq
    clear a
    rcases b : amtB v with _ | _
    · have Hb := hid b
      rw [b] at hq
      simp only [Bool.and_false, Bool.false_and] at hq
      subst hq
      clear b
      go_enter Try.func115, Try.ntmps115
      go_wp2_with fail
      refine (iHeat h true Ha.out _).mono ?_
      rintro e w1 ⟨rfl, rfl⟩
      go_wp2_with fail
      refine (isAmount_f v Hv.out Hb.out _).mono ?_
      rintro e w1 ⟨rfl, hb1⟩
      go_wp2
      go_ret
      exact ⟨rfl, stp b0 (Nat.le_refl _) hb1⟩
    · have Hb := hid b
      rw [b] at hq
      simp only [Bool.true_and] at hq
      have hc : (FloatKind.f32.format.order v 1148846080 == some .lt || FloatKind.f32.format.order v 1148846080 == some .eq) = q := hq
      clear b hq
      cases q
      all_goals
        go_enter Try.func115, Try.ntmps115
        go_wp2_with fail
        refine (iHeat h true Ha.out _).mono ?_
        rintro e w1 ⟨rfl, rfl⟩
        go_wp2_with fail
        refine (isAmount_t v Hb.out _).mono ?_
        rintro e w1 ⟨rfl, rfl⟩
        go_wp2
        go_ret
        exact ⟨rfl, b0⟩

set_option maxRecDepth 100000 in
theorem sAirOk_f (h v : Nat) (hv : v < 4294967296) (hq : airB h v = false) (w : World) (g : Nat) (T : TypeId) (hg : airAt w g h v T) :
    Calls Try.prog 65 #[.pointer (some ⟨g, 0, none⟩)] w fun e w' => e = .returned (.bool false) ∧ Below w.heap.size w w' := by
  have c0 := hg.c0
  have c1 := hg.c1
  have Hv := hid hv
  have e1 : airB h v = (heatB h && amtB v && vapB v) := rfl
  rw [e1] at hq
  clear hv e1 hg
  rcases a : heatB h with _ | _
  · have Ha := hid a
    clear a hq
    go_enter Try.func65, Try.ntmps65
    go_wp2_with fail
    refine (sHeat h false Ha.out _).mono ?_
    rintro e w1 ⟨rfl, rfl⟩
    go_wp2
    go_ret
    exact ⟨rfl, Below.refl _ _⟩
  · have Ha := hid a
    rw [a] at hq
    clear a
    rcases b : amtB v with _ | _
    · have Hb := hid b
      clear b hq
      go_enter Try.func65, Try.ntmps65
      go_wp2_with fail
      refine (sHeat h true Ha.out _).mono ?_
      rintro e w1 ⟨rfl, rfl⟩
      go_wp2_with fail
      refine (sAmount_f v Hv.out Hb.out _).mono ?_
      rintro e w1 ⟨rfl, hb1⟩
      go_wp2
      go_ret
      exact ⟨rfl, hb1⟩
    · have Hb := hid b
      rw [b] at hq
      simp only [Bool.true_and] at hq
      have hc : (FloatKind.f32.format.order v 1148846080 == some .lt || FloatKind.f32.format.order v 1148846080 == some .eq) = false := hq
      clear b hq
      go_enter Try.func65, Try.ntmps65
      go_wp2_with fail
      refine (sHeat h true Ha.out _).mono ?_
      rintro e w1 ⟨rfl, rfl⟩
      go_wp2_with fail
      refine (sAmount_t v Hb.out _).mono ?_
      rintro e w1 ⟨rfl, rfl⟩
      go_wp2
      go_ret
      exact ⟨rfl, Below.refl _ _⟩

set_option maxRecDepth 100000 in
theorem sAirOk_t (h v : Nat) (hq : airB h v = true) (w : World) (g : Nat) (T : TypeId) (hg : airAt w g h v T) :
    Calls Try.prog 65 #[.pointer (some ⟨g, 0, none⟩)] w fun e w' => e = .returned (.bool true) ∧ w = w' := by
  have c0 := hg.c0
  have c1 := hg.c1
  obtain ⟨a, b, c⟩ := airB_iff.1 hq
  have hc : (FloatKind.f32.format.order v 1148846080 == some .lt || FloatKind.f32.format.order v 1148846080 == some .eq) = true := c
  have Ha := hid a
  have Hb := hid b
  clear a b c hq hg
  go_enter Try.func65, Try.ntmps65
  go_wp2_with fail
  refine (sHeat h true Ha.out _).mono ?_
  rintro e w1 ⟨rfl, rfl⟩
  go_wp2_with fail
  refine (sAmount_t v Hb.out _).mono ?_
  rintro e w1 ⟨rfl, rfl⟩
  go_wp2
  go_ret
  exact ⟨rfl, rfl⟩

theorem iMixN (a b x : Nat) (M : MixF a b x) (w : World) :
    Calls Try.prog 158 #[.float .f32 a, .float .f32 b, .float .f32 x] w fun e w' => e = .returned (.float .f32 (mixW a b x)) ∧ w = w' := by
  have h1 := fun w => run_float_arith (P := Try.prog) w .sub 22 .f32 _ _ _ M.r
  have h2 := fun w => run_float_arith (P := Try.prog) w .mul 22 .f32 _ _ _ M.m1
  have h3 := fun w => run_float_arith (P := Try.prog) w .mul 22 .f32 _ _ _ M.m2
  have h4 := fun w => run_float_arith (P := Try.prog) w .add 22 .f32 _ _ _ M.s
  clear M
  go_enter Try.func158, Try.ntmps158
  go_wp2
  go_ret
  exact ⟨rfl, rfl⟩

theorem run_mixN3 (a : Act) (x0 : Operand) (v0 : Value) (h0 : a.eval x0 = v0) (x1 : Operand) (v1 : Value) (h1 : a.eval x1 = v1) (x2 : Operand) (v2 : Value) (h2 : a.eval x2 = v2) (d : Option Tmp) (ats : Array TypeId) (t : TypeId) (ps : String) (af : Array Edge) (gd : Option (Nat × Bool)) (w : World) :
    (execOp a.eval ⟨d, .call { callee := .value (.func 158), args := #[x0, x1, x2], argTypes := ats }, t, ps, af, gd⟩).run Try.prog w = .ok (.enter 158 #[v0, v1, v2]) w := by
  subst h0 h1 h2
  unfold execOp
  go_simp

set_option maxRecDepth 100000 in
set_option maxHeartbeats 2000000 in
theorem iMixAir_ok (ah av bh bv x : Nat) (hv1 : av < 4294967296) (hq1 : airB ah av = true) (hv2 : bv < 4294967296) (hq2 : airB bh bv = true) (hx : Share x) (M1 : MixF ah bh x) (M2 : MixF av bv x) (hr : airB (mixW ah bh x) (mixW av bv x) = true) (w : World) :
    Calls Try.prog 120 #[.agg #[.float .f32 ah, .float .f32 av], .agg #[.float .f32 bh, .float .f32 bv], .float .f32 x] w fun e w' => e = .returned (.tuple #[.agg #[.float .f32 (mixW ah bh x), .float .f32 (mixW av bv x)], .int .i64 0]) ∧ Below w.heap.size w w' := by
  have k0 : Hid (Kept w [(w.heap.size, #[.float .f32 ah, .float .f32 av], 32), (w.heap.size + 1, #[.float .f32 bh, .float .f32 bv], 32), (w.heap.size + 1 + 1, #[.float .f32 0, .float .f32 0], 32)] (((w.alloc (.cells (#[.float .f32 ah, .float .f32 av]) 32)).alloc (.cells (#[.float .f32 bh, .float .f32 bv]) 32)).alloc (.cells (#[.float .f32 0, .float .f32 0]) 32))) := hid (((((Kept.nil w).push (#[.float .f32 ah, .float .f32 av]) 32).push (#[.float .f32 bh, .float .f32 bv]) 32).push (#[.float .f32 0, .float .f32 0]) 32).sub (by simp))
  have Hhv1 := hid hv1
  have Hhq1 := hid hq1
  have Hhv2 := hid hv2
  have Hhq2 := hid hq2
  have Hhx := hid hx
  have HM1 := hid M1
  have HM2 := hid M2
  have Hhr := hid hr
  clear hv1 hq1 hv2 hq2 hx M1 M2 hr
  go_enter Try.func120, Try.ntmps120
  go_wp2_with (first | (refine wpList_load_row rfl 32 _ rfl (w.heap.size) rfl 32 (#[.float .f32 ah, .float .f32 av]) (0, 0) _ (k0.out.at (x := (w.heap.size, #[.float .f32 ah, .float .f32 av], 32)) (by simp)) Try.underlying32 rfl (info_air) ?_))
  refine (iValidAir ah av Hhv1.out true Hhq1.out _).mono ?_
  rintro e w0 ⟨rfl, hb0⟩
  have k1 := hid (k0.out.stay hb0)
  clear hb0
  go_wp2_with (first | (refine wpList_load_g rfl 32 _ rfl (w.heap.size + 1) rfl 32 (#[.float .f32 bh, .float .f32 bv]) (0, 0) _ (k1.out.at (x := (w.heap.size + 1, #[.float .f32 bh, .float .f32 bv], 32)) (by simp)) Try.underlying32 rfl (info_air) ?_))
  refine (iValidAir bh bv Hhv2.out true Hhq2.out _).mono ?_
  rintro e w1 ⟨rfl, hb1⟩
  have k2 := hid (k1.out.stay hb1)
  clear hb1
  go_wp2_with fail
  refine (iShare_t x Hhx.out _).mono ?_
  rintro e w2 ⟨rfl, rfl⟩
  go_wp2_with fail
  rename_i Q1 K1 hK1
  have key : ∀ (a0 : Nat) (w1 : World), Hid (Kept w [(a0, #[.float .f32 (mixW ah bh x), .float .f32 (mixW av bv x)], 32), (w.heap.size, #[.float .f32 ah, .float .f32 av], 32), (w.heap.size + 1, #[.float .f32 bh, .float .f32 bv], 32), (w.heap.size + 1 + 1, #[.float .f32 0, .float .f32 0], 32)] w1) → K1 { tmps := (.agg #[.float .f32 ah, .float .f32 av] :: .agg #[.float .f32 bh, .float .f32 bv] :: .float .f32 x :: .pointer (some ⟨w.heap.size, 0, none⟩) :: .pointer (some ⟨w.heap.size + 1, 0, none⟩) :: undef :: .pointer (some ⟨w.heap.size + 1 + 1, 0, none⟩) :: .int .i64 0 :: .pointer (some ⟨a0, 0, none⟩) :: .agg #[.float .f32 ah, .float .f32 av] :: .bool true :: .bool false :: .bool false :: .agg #[.float .f32 bh, .float .f32 bv] :: .bool true :: .bool false :: .bool false :: undef :: .float .f32 x :: .bool true :: .bool false :: undef :: .pointer (some ⟨w.heap.size, 0, none⟩) :: .float .f32 ah :: .pointer (some ⟨w.heap.size + 1, 0, none⟩) :: .float .f32 bh :: .float .f32 x :: .float .f32 (mixW ah bh x) :: .pointer (some ⟨w.heap.size, 1, none⟩) :: .float .f32 av :: .pointer (some ⟨w.heap.size + 1, 1, none⟩) :: .float .f32 bv :: .float .f32 x :: .float .f32 (mixW av bv x) :: .agg #[.float .f32 (mixW ah bh x), .float .f32 (mixW av bv x)] :: undef :: undef :: undef :: undef :: undef :: []).toArray, defers := [] } w1 := by
    intro a0 w1 k1
    clear k2
    go_wp2_with (first | (refine wpList_load_row rfl 32 _ rfl (a0) rfl 32 (#[.float .f32 (mixW ah bh x), .float .f32 (mixW av bv x)]) (0, 0) _ (k1.out.at (x := (a0, #[.float .f32 (mixW ah bh x), .float .f32 (mixW av bv x)], 32)) (by simp)) Try.underlying32 rfl (info_air) ?_))
    refine (iValidAir _ _ HM2.out.lt true Hhr.out _).mono ?_
    rintro e w50 ⟨rfl, hb50⟩
    have k51 := hid (k1.out.stay hb50)
    clear hb50
    go_wp2_with (first | (refine wpList_load_row rfl 32 _ rfl (a0) rfl 32 (#[.float .f32 (mixW ah bh x), .float .f32 (mixW av bv x)]) (0, 0) _ (k51.out.at (x := (a0, #[.float .f32 (mixW ah bh x), .float .f32 (mixW av bv x)], 32)) (by simp)) Try.underlying32 rfl (info_air) ?_) | (refine wpList_store_row rfl 32 _ _ rfl (w.heap.size + 1 + 1) (#[.float .f32 (mixW ah bh x), .float .f32 (mixW av bv x)]) rfl rfl 32 _ (k51.out.at (x := (w.heap.size + 1 + 1, #[.float .f32 0, .float .f32 0], 32)) (by simp)) (info_air) (by simp) (by simp [Value.oneCell']) ?_))
    exact bodyPost_ret (results_row_tmp rfl _ _ (w.heap.size + 1 + 1) 32 (#[.float .f32 (mixW ah bh x), .float .f32 (mixW av bv x)]) (0, 0) _ rfl (setRow_heap _ _ _ _ _ _ (k51.out.at (x := (w.heap.size + 1 + 1, #[.float .f32 0, .float .f32 0], 32)) (by simp))) Try.underlying32 rfl info_air) rfl ⟨rfl, below_row k51.out.1 (by omega) _⟩
  refine region_kept (w0 := w) (l := [(w.heap.size, #[.float .f32 ah, .float .f32 av], 32), (w.heap.size + 1, #[.float .f32 bh, .float .f32 bv], 32), (w.heap.size + 1 + 1, #[.float .f32 0, .float .f32 0], 32)]) 15 #[false, false, false, false, false, false, false, false, false, false, false, false, false, false, false] (by kernel_rfl) rfl rfl ?_
  have kd := k2.out.drew
  clear k2
  generalize World.drew _ = wd at kd ⊢
  refine take_val 0 { tmps := (.agg #[.float .f32 ah, .float .f32 av] :: .agg #[.float .f32 bh, .float .f32 bv] :: .float .f32 x :: .pointer (some ⟨w.heap.size, 0, none⟩) :: .pointer (some ⟨w.heap.size + 1, 0, none⟩) :: undef :: .pointer (some ⟨w.heap.size + 1 + 1, 0, none⟩) :: .int .i64 0 :: undef :: .agg #[.float .f32 ah, .float .f32 av] :: .bool true :: .bool false :: .bool false :: .agg #[.float .f32 bh, .float .f32 bv] :: .bool true :: .bool false :: .bool false :: undef :: .float .f32 x :: .bool true :: .bool false :: undef :: .pointer (some ⟨w.heap.size, 0, none⟩) :: undef :: undef :: undef :: undef :: undef :: undef :: undef :: undef :: undef :: undef :: undef :: undef :: undef :: undef :: undef :: undef :: undef :: []).toArray, defers := [] } #[true, false, false, false, false, false, false, false, false, false, false, false, false, false, false] (.pointer (some ⟨w.heap.size, 0, none⟩)) rfl (by rfl) (by kernel_rfl) (by kernel_rfl) (by kernel_rfl) (fun w => by unfold execOp; go_simp) (by rfl) (by rfl) (kd) ?_
  refine take_cell 1 { tmps := (.agg #[.float .f32 ah, .float .f32 av] :: .agg #[.float .f32 bh, .float .f32 bv] :: .float .f32 x :: .pointer (some ⟨w.heap.size, 0, none⟩) :: .pointer (some ⟨w.heap.size + 1, 0, none⟩) :: undef :: .pointer (some ⟨w.heap.size + 1 + 1, 0, none⟩) :: .int .i64 0 :: undef :: .agg #[.float .f32 ah, .float .f32 av] :: .bool true :: .bool false :: .bool false :: .agg #[.float .f32 bh, .float .f32 bv] :: .bool true :: .bool false :: .bool false :: undef :: .float .f32 x :: .bool true :: .bool false :: undef :: .pointer (some ⟨w.heap.size, 0, none⟩) :: .float .f32 ah :: undef :: undef :: undef :: undef :: undef :: undef :: undef :: undef :: undef :: undef :: undef :: undef :: undef :: undef :: undef :: undef :: []).toArray, defers := [] } #[true, true, false, false, false, false, false, false, false, false, false, false, false, false, false] (.float .f32 ah) rfl (by rfl) (by kernel_rfl) (by kernel_rfl) (by kernel_rfl) (fun wq hS => by have hcell : wq.cell? ⟨w.heap.size, 0, none⟩ = some (.float .f32 ah) := (cell_of_row wq (w.heap.size) 0 _ _ _ (hS.at (x := (w.heap.size, #[.float .f32 ah, .float .f32 av], 32)) (by simp))).trans rfl; clear hS; unfold execOp; go_simp) (by rfl) (by rfl) (kd) ?_
  refine take_val 2 { tmps := (.agg #[.float .f32 ah, .float .f32 av] :: .agg #[.float .f32 bh, .float .f32 bv] :: .float .f32 x :: .pointer (some ⟨w.heap.size, 0, none⟩) :: .pointer (some ⟨w.heap.size + 1, 0, none⟩) :: undef :: .pointer (some ⟨w.heap.size + 1 + 1, 0, none⟩) :: .int .i64 0 :: undef :: .agg #[.float .f32 ah, .float .f32 av] :: .bool true :: .bool false :: .bool false :: .agg #[.float .f32 bh, .float .f32 bv] :: .bool true :: .bool false :: .bool false :: undef :: .float .f32 x :: .bool true :: .bool false :: undef :: .pointer (some ⟨w.heap.size, 0, none⟩) :: .float .f32 ah :: .pointer (some ⟨w.heap.size + 1, 0, none⟩) :: undef :: undef :: undef :: undef :: undef :: undef :: undef :: undef :: undef :: undef :: undef :: undef :: undef :: undef :: undef :: []).toArray, defers := [] } #[true, true, true, false, false, false, false, false, false, false, false, false, false, false, false] (.pointer (some ⟨w.heap.size + 1, 0, none⟩)) rfl (by rfl) (by kernel_rfl) (by kernel_rfl) (by kernel_rfl) (fun w => by unfold execOp; go_simp) (by rfl) (by rfl) (kd) ?_
  refine take_cell 3 { tmps := (.agg #[.float .f32 ah, .float .f32 av] :: .agg #[.float .f32 bh, .float .f32 bv] :: .float .f32 x :: .pointer (some ⟨w.heap.size, 0, none⟩) :: .pointer (some ⟨w.heap.size + 1, 0, none⟩) :: undef :: .pointer (some ⟨w.heap.size + 1 + 1, 0, none⟩) :: .int .i64 0 :: undef :: .agg #[.float .f32 ah, .float .f32 av] :: .bool true :: .bool false :: .bool false :: .agg #[.float .f32 bh, .float .f32 bv] :: .bool true :: .bool false :: .bool false :: undef :: .float .f32 x :: .bool true :: .bool false :: undef :: .pointer (some ⟨w.heap.size, 0, none⟩) :: .float .f32 ah :: .pointer (some ⟨w.heap.size + 1, 0, none⟩) :: .float .f32 bh :: undef :: undef :: undef :: undef :: undef :: undef :: undef :: undef :: undef :: undef :: undef :: undef :: undef :: undef :: []).toArray, defers := [] } #[true, true, true, true, false, false, false, false, false, false, false, false, false, false, false] (.float .f32 bh) rfl (by rfl) (by kernel_rfl) (by kernel_rfl) (by kernel_rfl) (fun wq hS => by have hcell : wq.cell? ⟨w.heap.size + 1, 0, none⟩ = some (.float .f32 bh) := (cell_of_row wq (w.heap.size + 1) 0 _ _ _ (hS.at (x := (w.heap.size + 1, #[.float .f32 bh, .float .f32 bv], 32)) (by simp))).trans rfl; clear hS; unfold execOp; go_simp) (by rfl) (by rfl) (kd) ?_
  refine take_val 4 { tmps := (.agg #[.float .f32 ah, .float .f32 av] :: .agg #[.float .f32 bh, .float .f32 bv] :: .float .f32 x :: .pointer (some ⟨w.heap.size, 0, none⟩) :: .pointer (some ⟨w.heap.size + 1, 0, none⟩) :: undef :: .pointer (some ⟨w.heap.size + 1 + 1, 0, none⟩) :: .int .i64 0 :: undef :: .agg #[.float .f32 ah, .float .f32 av] :: .bool true :: .bool false :: .bool false :: .agg #[.float .f32 bh, .float .f32 bv] :: .bool true :: .bool false :: .bool false :: undef :: .float .f32 x :: .bool true :: .bool false :: undef :: .pointer (some ⟨w.heap.size, 0, none⟩) :: .float .f32 ah :: .pointer (some ⟨w.heap.size + 1, 0, none⟩) :: .float .f32 bh :: .float .f32 x :: undef :: undef :: undef :: undef :: undef :: undef :: undef :: undef :: undef :: undef :: undef :: undef :: undef :: []).toArray, defers := [] } #[true, true, true, true, true, false, false, false, false, false, false, false, false, false, false] (.float .f32 x) rfl (by rfl) (by kernel_rfl) (by kernel_rfl) (by kernel_rfl) (fun w => by rfl) (by rfl) (by rfl) (kd) ?_
  refine take_val 6 { tmps := (.agg #[.float .f32 ah, .float .f32 av] :: .agg #[.float .f32 bh, .float .f32 bv] :: .float .f32 x :: .pointer (some ⟨w.heap.size, 0, none⟩) :: .pointer (some ⟨w.heap.size + 1, 0, none⟩) :: undef :: .pointer (some ⟨w.heap.size + 1 + 1, 0, none⟩) :: .int .i64 0 :: undef :: .agg #[.float .f32 ah, .float .f32 av] :: .bool true :: .bool false :: .bool false :: .agg #[.float .f32 bh, .float .f32 bv] :: .bool true :: .bool false :: .bool false :: undef :: .float .f32 x :: .bool true :: .bool false :: undef :: .pointer (some ⟨w.heap.size, 0, none⟩) :: .float .f32 ah :: .pointer (some ⟨w.heap.size + 1, 0, none⟩) :: .float .f32 bh :: .float .f32 x :: undef :: .pointer (some ⟨w.heap.size, 1, none⟩) :: undef :: undef :: undef :: undef :: undef :: undef :: undef :: undef :: undef :: undef :: undef :: []).toArray, defers := [] } #[true, true, true, true, true, false, true, false, false, false, false, false, false, false, false] (.pointer (some ⟨w.heap.size, 1, none⟩)) rfl (by rfl) (by kernel_rfl) (by kernel_rfl) (by kernel_rfl) (fun w => by unfold execOp; go_simp) (by rfl) (by rfl) (kd) ?_
  refine take_cell 7 { tmps := (.agg #[.float .f32 ah, .float .f32 av] :: .agg #[.float .f32 bh, .float .f32 bv] :: .float .f32 x :: .pointer (some ⟨w.heap.size, 0, none⟩) :: .pointer (some ⟨w.heap.size + 1, 0, none⟩) :: undef :: .pointer (some ⟨w.heap.size + 1 + 1, 0, none⟩) :: .int .i64 0 :: undef :: .agg #[.float .f32 ah, .float .f32 av] :: .bool true :: .bool false :: .bool false :: .agg #[.float .f32 bh, .float .f32 bv] :: .bool true :: .bool false :: .bool false :: undef :: .float .f32 x :: .bool true :: .bool false :: undef :: .pointer (some ⟨w.heap.size, 0, none⟩) :: .float .f32 ah :: .pointer (some ⟨w.heap.size + 1, 0, none⟩) :: .float .f32 bh :: .float .f32 x :: undef :: .pointer (some ⟨w.heap.size, 1, none⟩) :: .float .f32 av :: undef :: undef :: undef :: undef :: undef :: undef :: undef :: undef :: undef :: undef :: []).toArray, defers := [] } #[true, true, true, true, true, false, true, true, false, false, false, false, false, false, false] (.float .f32 av) rfl (by rfl) (by kernel_rfl) (by kernel_rfl) (by kernel_rfl) (fun wq hS => by have hcell : wq.cell? ⟨w.heap.size, 1, none⟩ = some (.float .f32 av) := (cell_of_row wq (w.heap.size) 1 _ _ _ (hS.at (x := (w.heap.size, #[.float .f32 ah, .float .f32 av], 32)) (by simp))).trans rfl; clear hS; unfold execOp; go_simp) (by rfl) (by rfl) (kd) ?_
  refine take_val 8 { tmps := (.agg #[.float .f32 ah, .float .f32 av] :: .agg #[.float .f32 bh, .float .f32 bv] :: .float .f32 x :: .pointer (some ⟨w.heap.size, 0, none⟩) :: .pointer (some ⟨w.heap.size + 1, 0, none⟩) :: undef :: .pointer (some ⟨w.heap.size + 1 + 1, 0, none⟩) :: .int .i64 0 :: undef :: .agg #[.float .f32 ah, .float .f32 av] :: .bool true :: .bool false :: .bool false :: .agg #[.float .f32 bh, .float .f32 bv] :: .bool true :: .bool false :: .bool false :: undef :: .float .f32 x :: .bool true :: .bool false :: undef :: .pointer (some ⟨w.heap.size, 0, none⟩) :: .float .f32 ah :: .pointer (some ⟨w.heap.size + 1, 0, none⟩) :: .float .f32 bh :: .float .f32 x :: undef :: .pointer (some ⟨w.heap.size, 1, none⟩) :: .float .f32 av :: .pointer (some ⟨w.heap.size + 1, 1, none⟩) :: undef :: undef :: undef :: undef :: undef :: undef :: undef :: undef :: undef :: []).toArray, defers := [] } #[true, true, true, true, true, false, true, true, true, false, false, false, false, false, false] (.pointer (some ⟨w.heap.size + 1, 1, none⟩)) rfl (by rfl) (by kernel_rfl) (by kernel_rfl) (by kernel_rfl) (fun w => by unfold execOp; go_simp) (by rfl) (by rfl) (kd) ?_
  refine take_cell 9 { tmps := (.agg #[.float .f32 ah, .float .f32 av] :: .agg #[.float .f32 bh, .float .f32 bv] :: .float .f32 x :: .pointer (some ⟨w.heap.size, 0, none⟩) :: .pointer (some ⟨w.heap.size + 1, 0, none⟩) :: undef :: .pointer (some ⟨w.heap.size + 1 + 1, 0, none⟩) :: .int .i64 0 :: undef :: .agg #[.float .f32 ah, .float .f32 av] :: .bool true :: .bool false :: .bool false :: .agg #[.float .f32 bh, .float .f32 bv] :: .bool true :: .bool false :: .bool false :: undef :: .float .f32 x :: .bool true :: .bool false :: undef :: .pointer (some ⟨w.heap.size, 0, none⟩) :: .float .f32 ah :: .pointer (some ⟨w.heap.size + 1, 0, none⟩) :: .float .f32 bh :: .float .f32 x :: undef :: .pointer (some ⟨w.heap.size, 1, none⟩) :: .float .f32 av :: .pointer (some ⟨w.heap.size + 1, 1, none⟩) :: .float .f32 bv :: undef :: undef :: undef :: undef :: undef :: undef :: undef :: undef :: []).toArray, defers := [] } #[true, true, true, true, true, false, true, true, true, true, false, false, false, false, false] (.float .f32 bv) rfl (by rfl) (by kernel_rfl) (by kernel_rfl) (by kernel_rfl) (fun wq hS => by have hcell : wq.cell? ⟨w.heap.size + 1, 1, none⟩ = some (.float .f32 bv) := (cell_of_row wq (w.heap.size + 1) 1 _ _ _ (hS.at (x := (w.heap.size + 1, #[.float .f32 bh, .float .f32 bv], 32)) (by simp))).trans rfl; clear hS; unfold execOp; go_simp) (by rfl) (by rfl) (kd) ?_
  refine take_val 10 { tmps := (.agg #[.float .f32 ah, .float .f32 av] :: .agg #[.float .f32 bh, .float .f32 bv] :: .float .f32 x :: .pointer (some ⟨w.heap.size, 0, none⟩) :: .pointer (some ⟨w.heap.size + 1, 0, none⟩) :: undef :: .pointer (some ⟨w.heap.size + 1 + 1, 0, none⟩) :: .int .i64 0 :: undef :: .agg #[.float .f32 ah, .float .f32 av] :: .bool true :: .bool false :: .bool false :: .agg #[.float .f32 bh, .float .f32 bv] :: .bool true :: .bool false :: .bool false :: undef :: .float .f32 x :: .bool true :: .bool false :: undef :: .pointer (some ⟨w.heap.size, 0, none⟩) :: .float .f32 ah :: .pointer (some ⟨w.heap.size + 1, 0, none⟩) :: .float .f32 bh :: .float .f32 x :: undef :: .pointer (some ⟨w.heap.size, 1, none⟩) :: .float .f32 av :: .pointer (some ⟨w.heap.size + 1, 1, none⟩) :: .float .f32 bv :: .float .f32 x :: undef :: undef :: undef :: undef :: undef :: undef :: undef :: []).toArray, defers := [] } #[true, true, true, true, true, false, true, true, true, true, true, false, false, false, false] (.float .f32 x) rfl (by rfl) (by kernel_rfl) (by kernel_rfl) (by kernel_rfl) (fun w => by rfl) (by rfl) (by rfl) (kd) ?_
  refine wpAnyH_ready (rs := [5, 13]) (by kernel_rfl) (by simp) ?_
  refine callK 5 { tmps := (.agg #[.float .f32 ah, .float .f32 av] :: .agg #[.float .f32 bh, .float .f32 bv] :: .float .f32 x :: .pointer (some ⟨w.heap.size, 0, none⟩) :: .pointer (some ⟨w.heap.size + 1, 0, none⟩) :: undef :: .pointer (some ⟨w.heap.size + 1 + 1, 0, none⟩) :: .int .i64 0 :: undef :: .agg #[.float .f32 ah, .float .f32 av] :: .bool true :: .bool false :: .bool false :: .agg #[.float .f32 bh, .float .f32 bv] :: .bool true :: .bool false :: .bool false :: undef :: .float .f32 x :: .bool true :: .bool false :: undef :: .pointer (some ⟨w.heap.size, 0, none⟩) :: .float .f32 ah :: .pointer (some ⟨w.heap.size + 1, 0, none⟩) :: .float .f32 bh :: .float .f32 x :: .float .f32 (mixW ah bh x) :: .pointer (some ⟨w.heap.size, 1, none⟩) :: .float .f32 av :: .pointer (some ⟨w.heap.size + 1, 1, none⟩) :: .float .f32 bv :: .float .f32 x :: undef :: undef :: undef :: undef :: undef :: undef :: undef :: []).toArray, defers := [] } #[true, true, true, true, true, true, true, true, true, true, true, false, false, false, false] (.float .f32 (mixW ah bh x)) kd rfl (by rfl) 158 #[.float .f32 ah, .float .f32 bh, .float .f32 x] (run_mixN3 _ _ _ rfl _ _ rfl _ _ rfl _ _ _ _ _ _) (by rfl) (by rfl) (loose (iMixN _ _ _ HM1.out _)) (fun w1 k1 => ?_) ?_
  · refine ⟨k1, ?_⟩
    refine wpAnyH_ready (rs := [11, 13]) (by kernel_rfl) (by simp) ?_
    refine callK 11 { tmps := (.agg #[.float .f32 ah, .float .f32 av] :: .agg #[.float .f32 bh, .float .f32 bv] :: .float .f32 x :: .pointer (some ⟨w.heap.size, 0, none⟩) :: .pointer (some ⟨w.heap.size + 1, 0, none⟩) :: undef :: .pointer (some ⟨w.heap.size + 1 + 1, 0, none⟩) :: .int .i64 0 :: undef :: .agg #[.float .f32 ah, .float .f32 av] :: .bool true :: .bool false :: .bool false :: .agg #[.float .f32 bh, .float .f32 bv] :: .bool true :: .bool false :: .bool false :: undef :: .float .f32 x :: .bool true :: .bool false :: undef :: .pointer (some ⟨w.heap.size, 0, none⟩) :: .float .f32 ah :: .pointer (some ⟨w.heap.size + 1, 0, none⟩) :: .float .f32 bh :: .float .f32 x :: .float .f32 (mixW ah bh x) :: .pointer (some ⟨w.heap.size, 1, none⟩) :: .float .f32 av :: .pointer (some ⟨w.heap.size + 1, 1, none⟩) :: .float .f32 bv :: .float .f32 x :: .float .f32 (mixW av bv x) :: undef :: undef :: undef :: undef :: undef :: undef :: []).toArray, defers := [] } #[true, true, true, true, true, true, true, true, true, true, true, true, false, false, false] (.float .f32 (mixW av bv x)) k1 rfl (by rfl) 158 #[.float .f32 av, .float .f32 bv, .float .f32 x] (run_mixN3 _ _ _ rfl _ _ rfl _ _ rfl _ _ _ _ _ _) (by rfl) (by rfl) (loose (iMixN _ _ _ HM2.out _)) (fun w2 k2 => ?_) ?_
    · refine ⟨k2, ?_⟩
      refine take_val 12 { tmps := (.agg #[.float .f32 ah, .float .f32 av] :: .agg #[.float .f32 bh, .float .f32 bv] :: .float .f32 x :: .pointer (some ⟨w.heap.size, 0, none⟩) :: .pointer (some ⟨w.heap.size + 1, 0, none⟩) :: undef :: .pointer (some ⟨w.heap.size + 1 + 1, 0, none⟩) :: .int .i64 0 :: undef :: .agg #[.float .f32 ah, .float .f32 av] :: .bool true :: .bool false :: .bool false :: .agg #[.float .f32 bh, .float .f32 bv] :: .bool true :: .bool false :: .bool false :: undef :: .float .f32 x :: .bool true :: .bool false :: undef :: .pointer (some ⟨w.heap.size, 0, none⟩) :: .float .f32 ah :: .pointer (some ⟨w.heap.size + 1, 0, none⟩) :: .float .f32 bh :: .float .f32 x :: .float .f32 (mixW ah bh x) :: .pointer (some ⟨w.heap.size, 1, none⟩) :: .float .f32 av :: .pointer (some ⟨w.heap.size + 1, 1, none⟩) :: .float .f32 bv :: .float .f32 x :: .float .f32 (mixW av bv x) :: .agg #[.float .f32 (mixW ah bh x), .float .f32 (mixW av bv x)] :: undef :: undef :: undef :: undef :: undef :: []).toArray, defers := [] } #[true, true, true, true, true, true, true, true, true, true, true, true, true, false, false] (.agg #[.float .f32 (mixW ah bh x), .float .f32 (mixW av bv x)]) rfl (by rfl) (by kernel_rfl) (by kernel_rfl) (by kernel_rfl) (fun w => by unfold execOp; go_simp) (by rfl) (by rfl) (k2) ?_
      refine wpAnyH_ready (rs := [13]) (by kernel_rfl) (by simp) ?_
      refine allocK 13 (fun g3 => { tmps := (.agg #[.float .f32 ah, .float .f32 av] :: .agg #[.float .f32 bh, .float .f32 bv] :: .float .f32 x :: .pointer (some ⟨w.heap.size, 0, none⟩) :: .pointer (some ⟨w.heap.size + 1, 0, none⟩) :: undef :: .pointer (some ⟨w.heap.size + 1 + 1, 0, none⟩) :: .int .i64 0 :: .pointer (some ⟨g3, 0, none⟩) :: .agg #[.float .f32 ah, .float .f32 av] :: .bool true :: .bool false :: .bool false :: .agg #[.float .f32 bh, .float .f32 bv] :: .bool true :: .bool false :: .bool false :: undef :: .float .f32 x :: .bool true :: .bool false :: undef :: .pointer (some ⟨w.heap.size, 0, none⟩) :: .float .f32 ah :: .pointer (some ⟨w.heap.size + 1, 0, none⟩) :: .float .f32 bh :: .float .f32 x :: .float .f32 (mixW ah bh x) :: .pointer (some ⟨w.heap.size, 1, none⟩) :: .float .f32 av :: .pointer (some ⟨w.heap.size + 1, 1, none⟩) :: .float .f32 bv :: .float .f32 x :: .float .f32 (mixW av bv x) :: .agg #[.float .f32 (mixW ah bh x), .float .f32 (mixW av bv x)] :: undef :: undef :: undef :: undef :: undef :: []).toArray, defers := [] }) #[true, true, true, true, true, true, true, true, true, true, true, true, true, true, false] k2 rfl (by rfl) (#[.float .f32 0, .float .f32 0]) 32 (alloc_air _ _ _ _ _ _ _) (fun g => by rfl) (by rfl) (fun w3 g3 k3 hB3 hn3 => ?_) AllReadyH.nil
      refine ⟨k3.tail, ?_⟩
      refine wpAnyH_ready (rs := [14]) (by kernel_rfl) (by simp) ?_
      refine storeK 14 { tmps := (.agg #[.float .f32 ah, .float .f32 av] :: .agg #[.float .f32 bh, .float .f32 bv] :: .float .f32 x :: .pointer (some ⟨w.heap.size, 0, none⟩) :: .pointer (some ⟨w.heap.size + 1, 0, none⟩) :: undef :: .pointer (some ⟨w.heap.size + 1 + 1, 0, none⟩) :: .int .i64 0 :: .pointer (some ⟨g3, 0, none⟩) :: .agg #[.float .f32 ah, .float .f32 av] :: .bool true :: .bool false :: .bool false :: .agg #[.float .f32 bh, .float .f32 bv] :: .bool true :: .bool false :: .bool false :: undef :: .float .f32 x :: .bool true :: .bool false :: undef :: .pointer (some ⟨w.heap.size, 0, none⟩) :: .float .f32 ah :: .pointer (some ⟨w.heap.size + 1, 0, none⟩) :: .float .f32 bh :: .float .f32 x :: .float .f32 (mixW ah bh x) :: .pointer (some ⟨w.heap.size, 1, none⟩) :: .float .f32 av :: .pointer (some ⟨w.heap.size + 1, 1, none⟩) :: .float .f32 bv :: .float .f32 x :: .float .f32 (mixW av bv x) :: .agg #[.float .f32 (mixW ah bh x), .float .f32 (mixW av bv x)] :: undef :: undef :: undef :: undef :: undef :: []).toArray, defers := [] } #[true, true, true, true, true, true, true, true, true, true, true, true, true, true, true] k3 hB3 hn3 rfl (by rfl) 32 _ _ rfl (#[.float .f32 (mixW ah bh x), .float .f32 (mixW av bv x)]) (by rfl) (by rfl) (info_air) (by simp) (by simp [Value.oneCell']) (by rfl) (by rfl) (fun w4 k4 => ?_) AllReadyH.nil
      refine ⟨k4.tail, ?_⟩
      exact wpAnyH_done (by kernel_rfl) (NoPanic.normal (key g3 _ (hid k4))) _
    refine allocK 13 (fun g5 => { tmps := (.agg #[.float .f32 ah, .float .f32 av] :: .agg #[.float .f32 bh, .float .f32 bv] :: .float .f32 x :: .pointer (some ⟨w.heap.size, 0, none⟩) :: .pointer (some ⟨w.heap.size + 1, 0, none⟩) :: undef :: .pointer (some ⟨w.heap.size + 1 + 1, 0, none⟩) :: .int .i64 0 :: .pointer (some ⟨g5, 0, none⟩) :: .agg #[.float .f32 ah, .float .f32 av] :: .bool true :: .bool false :: .bool false :: .agg #[.float .f32 bh, .float .f32 bv] :: .bool true :: .bool false :: .bool false :: undef :: .float .f32 x :: .bool true :: .bool false :: undef :: .pointer (some ⟨w.heap.size, 0, none⟩) :: .float .f32 ah :: .pointer (some ⟨w.heap.size + 1, 0, none⟩) :: .float .f32 bh :: .float .f32 x :: .float .f32 (mixW ah bh x) :: .pointer (some ⟨w.heap.size, 1, none⟩) :: .float .f32 av :: .pointer (some ⟨w.heap.size + 1, 1, none⟩) :: .float .f32 bv :: .float .f32 x :: undef :: undef :: undef :: undef :: undef :: undef :: undef :: []).toArray, defers := [] }) #[true, true, true, true, true, true, true, true, true, true, true, false, false, true, false] k1 rfl (by rfl) (#[.float .f32 0, .float .f32 0]) 32 (alloc_air _ _ _ _ _ _ _) (fun g => by rfl) (by rfl) (fun w5 g5 k5 hB5 hn5 => ?_) AllReadyH.nil
    refine ⟨k5.tail, ?_⟩
    refine wpAnyH_ready (rs := [11]) (by kernel_rfl) (by simp) ?_
    refine callK 11 { tmps := (.agg #[.float .f32 ah, .float .f32 av] :: .agg #[.float .f32 bh, .float .f32 bv] :: .float .f32 x :: .pointer (some ⟨w.heap.size, 0, none⟩) :: .pointer (some ⟨w.heap.size + 1, 0, none⟩) :: undef :: .pointer (some ⟨w.heap.size + 1 + 1, 0, none⟩) :: .int .i64 0 :: .pointer (some ⟨g5, 0, none⟩) :: .agg #[.float .f32 ah, .float .f32 av] :: .bool true :: .bool false :: .bool false :: .agg #[.float .f32 bh, .float .f32 bv] :: .bool true :: .bool false :: .bool false :: undef :: .float .f32 x :: .bool true :: .bool false :: undef :: .pointer (some ⟨w.heap.size, 0, none⟩) :: .float .f32 ah :: .pointer (some ⟨w.heap.size + 1, 0, none⟩) :: .float .f32 bh :: .float .f32 x :: .float .f32 (mixW ah bh x) :: .pointer (some ⟨w.heap.size, 1, none⟩) :: .float .f32 av :: .pointer (some ⟨w.heap.size + 1, 1, none⟩) :: .float .f32 bv :: .float .f32 x :: .float .f32 (mixW av bv x) :: undef :: undef :: undef :: undef :: undef :: undef :: []).toArray, defers := [] } #[true, true, true, true, true, true, true, true, true, true, true, true, false, true, false] (.float .f32 (mixW av bv x)) k5 rfl (by rfl) 158 #[.float .f32 av, .float .f32 bv, .float .f32 x] (run_mixN3 _ _ _ rfl _ _ rfl _ _ rfl _ _ _ _ _ _) (by rfl) (by rfl) (loose (iMixN _ _ _ HM2.out _)) (fun w6 k6 => ?_) AllReadyH.nil
    refine ⟨k6.tail, ?_⟩
    refine take_val 12 { tmps := (.agg #[.float .f32 ah, .float .f32 av] :: .agg #[.float .f32 bh, .float .f32 bv] :: .float .f32 x :: .pointer (some ⟨w.heap.size, 0, none⟩) :: .pointer (some ⟨w.heap.size + 1, 0, none⟩) :: undef :: .pointer (some ⟨w.heap.size + 1 + 1, 0, none⟩) :: .int .i64 0 :: .pointer (some ⟨g5, 0, none⟩) :: .agg #[.float .f32 ah, .float .f32 av] :: .bool true :: .bool false :: .bool false :: .agg #[.float .f32 bh, .float .f32 bv] :: .bool true :: .bool false :: .bool false :: undef :: .float .f32 x :: .bool true :: .bool false :: undef :: .pointer (some ⟨w.heap.size, 0, none⟩) :: .float .f32 ah :: .pointer (some ⟨w.heap.size + 1, 0, none⟩) :: .float .f32 bh :: .float .f32 x :: .float .f32 (mixW ah bh x) :: .pointer (some ⟨w.heap.size, 1, none⟩) :: .float .f32 av :: .pointer (some ⟨w.heap.size + 1, 1, none⟩) :: .float .f32 bv :: .float .f32 x :: .float .f32 (mixW av bv x) :: .agg #[.float .f32 (mixW ah bh x), .float .f32 (mixW av bv x)] :: undef :: undef :: undef :: undef :: undef :: []).toArray, defers := [] } #[true, true, true, true, true, true, true, true, true, true, true, true, true, true, false] (.agg #[.float .f32 (mixW ah bh x), .float .f32 (mixW av bv x)]) rfl (by rfl) (by kernel_rfl) (by kernel_rfl) (by kernel_rfl) (fun w => by unfold execOp; go_simp) (by rfl) (by rfl) (k6.tail) ?_
    refine wpAnyH_ready (rs := [14]) (by kernel_rfl) (by simp) ?_
    refine storeK 14 { tmps := (.agg #[.float .f32 ah, .float .f32 av] :: .agg #[.float .f32 bh, .float .f32 bv] :: .float .f32 x :: .pointer (some ⟨w.heap.size, 0, none⟩) :: .pointer (some ⟨w.heap.size + 1, 0, none⟩) :: undef :: .pointer (some ⟨w.heap.size + 1 + 1, 0, none⟩) :: .int .i64 0 :: .pointer (some ⟨g5, 0, none⟩) :: .agg #[.float .f32 ah, .float .f32 av] :: .bool true :: .bool false :: .bool false :: .agg #[.float .f32 bh, .float .f32 bv] :: .bool true :: .bool false :: .bool false :: undef :: .float .f32 x :: .bool true :: .bool false :: undef :: .pointer (some ⟨w.heap.size, 0, none⟩) :: .float .f32 ah :: .pointer (some ⟨w.heap.size + 1, 0, none⟩) :: .float .f32 bh :: .float .f32 x :: .float .f32 (mixW ah bh x) :: .pointer (some ⟨w.heap.size, 1, none⟩) :: .float .f32 av :: .pointer (some ⟨w.heap.size + 1, 1, none⟩) :: .float .f32 bv :: .float .f32 x :: .float .f32 (mixW av bv x) :: .agg #[.float .f32 (mixW ah bh x), .float .f32 (mixW av bv x)] :: undef :: undef :: undef :: undef :: undef :: []).toArray, defers := [] } #[true, true, true, true, true, true, true, true, true, true, true, true, true, true, true] k6 hB5 hn5 rfl (by rfl) 32 _ _ rfl (#[.float .f32 (mixW ah bh x), .float .f32 (mixW av bv x)]) (by rfl) (by rfl) (info_air) (by simp) (by simp [Value.oneCell']) (by rfl) (by rfl) (fun w7 k7 => ?_) AllReadyH.nil
    refine ⟨k7.tail, ?_⟩
    exact wpAnyH_done (by kernel_rfl) (NoPanic.normal (key g5 _ (hid k7))) _
  refine allocK 13 (fun g8 => { tmps := (.agg #[.float .f32 ah, .float .f32 av] :: .agg #[.float .f32 bh, .float .f32 bv] :: .float .f32 x :: .pointer (some ⟨w.heap.size, 0, none⟩) :: .pointer (some ⟨w.heap.size + 1, 0, none⟩) :: undef :: .pointer (some ⟨w.heap.size + 1 + 1, 0, none⟩) :: .int .i64 0 :: .pointer (some ⟨g8, 0, none⟩) :: .agg #[.float .f32 ah, .float .f32 av] :: .bool true :: .bool false :: .bool false :: .agg #[.float .f32 bh, .float .f32 bv] :: .bool true :: .bool false :: .bool false :: undef :: .float .f32 x :: .bool true :: .bool false :: undef :: .pointer (some ⟨w.heap.size, 0, none⟩) :: .float .f32 ah :: .pointer (some ⟨w.heap.size + 1, 0, none⟩) :: .float .f32 bh :: .float .f32 x :: undef :: .pointer (some ⟨w.heap.size, 1, none⟩) :: .float .f32 av :: .pointer (some ⟨w.heap.size + 1, 1, none⟩) :: .float .f32 bv :: .float .f32 x :: undef :: undef :: undef :: undef :: undef :: undef :: undef :: []).toArray, defers := [] }) #[true, true, true, true, true, false, true, true, true, true, true, false, false, true, false] kd rfl (by rfl) (#[.float .f32 0, .float .f32 0]) 32 (alloc_air _ _ _ _ _ _ _) (fun g => by rfl) (by rfl) (fun w8 g8 k8 hB8 hn8 => ?_) AllReadyH.nil
  refine ⟨k8.tail, ?_⟩
  refine wpAnyH_ready (rs := [5]) (by kernel_rfl) (by simp) ?_
  refine callK 5 { tmps := (.agg #[.float .f32 ah, .float .f32 av] :: .agg #[.float .f32 bh, .float .f32 bv] :: .float .f32 x :: .pointer (some ⟨w.heap.size, 0, none⟩) :: .pointer (some ⟨w.heap.size + 1, 0, none⟩) :: undef :: .pointer (some ⟨w.heap.size + 1 + 1, 0, none⟩) :: .int .i64 0 :: .pointer (some ⟨g8, 0, none⟩) :: .agg #[.float .f32 ah, .float .f32 av] :: .bool true :: .bool false :: .bool false :: .agg #[.float .f32 bh, .float .f32 bv] :: .bool true :: .bool false :: .bool false :: undef :: .float .f32 x :: .bool true :: .bool false :: undef :: .pointer (some ⟨w.heap.size, 0, none⟩) :: .float .f32 ah :: .pointer (some ⟨w.heap.size + 1, 0, none⟩) :: .float .f32 bh :: .float .f32 x :: .float .f32 (mixW ah bh x) :: .pointer (some ⟨w.heap.size, 1, none⟩) :: .float .f32 av :: .pointer (some ⟨w.heap.size + 1, 1, none⟩) :: .float .f32 bv :: .float .f32 x :: undef :: undef :: undef :: undef :: undef :: undef :: undef :: []).toArray, defers := [] } #[true, true, true, true, true, true, true, true, true, true, true, false, false, true, false] (.float .f32 (mixW ah bh x)) k8 rfl (by rfl) 158 #[.float .f32 ah, .float .f32 bh, .float .f32 x] (run_mixN3 _ _ _ rfl _ _ rfl _ _ rfl _ _ _ _ _ _) (by rfl) (by rfl) (loose (iMixN _ _ _ HM1.out _)) (fun w9 k9 => ?_) AllReadyH.nil
  refine ⟨k9.tail, ?_⟩
  refine wpAnyH_ready (rs := [11]) (by kernel_rfl) (by simp) ?_
  refine callK 11 { tmps := (.agg #[.float .f32 ah, .float .f32 av] :: .agg #[.float .f32 bh, .float .f32 bv] :: .float .f32 x :: .pointer (some ⟨w.heap.size, 0, none⟩) :: .pointer (some ⟨w.heap.size + 1, 0, none⟩) :: undef :: .pointer (some ⟨w.heap.size + 1 + 1, 0, none⟩) :: .int .i64 0 :: .pointer (some ⟨g8, 0, none⟩) :: .agg #[.float .f32 ah, .float .f32 av] :: .bool true :: .bool false :: .bool false :: .agg #[.float .f32 bh, .float .f32 bv] :: .bool true :: .bool false :: .bool false :: undef :: .float .f32 x :: .bool true :: .bool false :: undef :: .pointer (some ⟨w.heap.size, 0, none⟩) :: .float .f32 ah :: .pointer (some ⟨w.heap.size + 1, 0, none⟩) :: .float .f32 bh :: .float .f32 x :: .float .f32 (mixW ah bh x) :: .pointer (some ⟨w.heap.size, 1, none⟩) :: .float .f32 av :: .pointer (some ⟨w.heap.size + 1, 1, none⟩) :: .float .f32 bv :: .float .f32 x :: .float .f32 (mixW av bv x) :: undef :: undef :: undef :: undef :: undef :: undef :: []).toArray, defers := [] } #[true, true, true, true, true, true, true, true, true, true, true, true, false, true, false] (.float .f32 (mixW av bv x)) k9 rfl (by rfl) 158 #[.float .f32 av, .float .f32 bv, .float .f32 x] (run_mixN3 _ _ _ rfl _ _ rfl _ _ rfl _ _ _ _ _ _) (by rfl) (by rfl) (loose (iMixN _ _ _ HM2.out _)) (fun w10 k10 => ?_) AllReadyH.nil
  refine ⟨k10.tail, ?_⟩
  refine take_val 12 { tmps := (.agg #[.float .f32 ah, .float .f32 av] :: .agg #[.float .f32 bh, .float .f32 bv] :: .float .f32 x :: .pointer (some ⟨w.heap.size, 0, none⟩) :: .pointer (some ⟨w.heap.size + 1, 0, none⟩) :: undef :: .pointer (some ⟨w.heap.size + 1 + 1, 0, none⟩) :: .int .i64 0 :: .pointer (some ⟨g8, 0, none⟩) :: .agg #[.float .f32 ah, .float .f32 av] :: .bool true :: .bool false :: .bool false :: .agg #[.float .f32 bh, .float .f32 bv] :: .bool true :: .bool false :: .bool false :: undef :: .float .f32 x :: .bool true :: .bool false :: undef :: .pointer (some ⟨w.heap.size, 0, none⟩) :: .float .f32 ah :: .pointer (some ⟨w.heap.size + 1, 0, none⟩) :: .float .f32 bh :: .float .f32 x :: .float .f32 (mixW ah bh x) :: .pointer (some ⟨w.heap.size, 1, none⟩) :: .float .f32 av :: .pointer (some ⟨w.heap.size + 1, 1, none⟩) :: .float .f32 bv :: .float .f32 x :: .float .f32 (mixW av bv x) :: .agg #[.float .f32 (mixW ah bh x), .float .f32 (mixW av bv x)] :: undef :: undef :: undef :: undef :: undef :: []).toArray, defers := [] } #[true, true, true, true, true, true, true, true, true, true, true, true, true, true, false] (.agg #[.float .f32 (mixW ah bh x), .float .f32 (mixW av bv x)]) rfl (by rfl) (by kernel_rfl) (by kernel_rfl) (by kernel_rfl) (fun w => by unfold execOp; go_simp) (by rfl) (by rfl) (k10.tail) ?_
  refine wpAnyH_ready (rs := [14]) (by kernel_rfl) (by simp) ?_
  refine storeK 14 { tmps := (.agg #[.float .f32 ah, .float .f32 av] :: .agg #[.float .f32 bh, .float .f32 bv] :: .float .f32 x :: .pointer (some ⟨w.heap.size, 0, none⟩) :: .pointer (some ⟨w.heap.size + 1, 0, none⟩) :: undef :: .pointer (some ⟨w.heap.size + 1 + 1, 0, none⟩) :: .int .i64 0 :: .pointer (some ⟨g8, 0, none⟩) :: .agg #[.float .f32 ah, .float .f32 av] :: .bool true :: .bool false :: .bool false :: .agg #[.float .f32 bh, .float .f32 bv] :: .bool true :: .bool false :: .bool false :: undef :: .float .f32 x :: .bool true :: .bool false :: undef :: .pointer (some ⟨w.heap.size, 0, none⟩) :: .float .f32 ah :: .pointer (some ⟨w.heap.size + 1, 0, none⟩) :: .float .f32 bh :: .float .f32 x :: .float .f32 (mixW ah bh x) :: .pointer (some ⟨w.heap.size, 1, none⟩) :: .float .f32 av :: .pointer (some ⟨w.heap.size + 1, 1, none⟩) :: .float .f32 bv :: .float .f32 x :: .float .f32 (mixW av bv x) :: .agg #[.float .f32 (mixW ah bh x), .float .f32 (mixW av bv x)] :: undef :: undef :: undef :: undef :: undef :: []).toArray, defers := [] } #[true, true, true, true, true, true, true, true, true, true, true, true, true, true, true] k10 hB8 hn8 rfl (by rfl) 32 _ _ rfl (#[.float .f32 (mixW ah bh x), .float .f32 (mixW av bv x)]) (by rfl) (by rfl) (info_air) (by simp) (by simp [Value.oneCell']) (by rfl) (by rfl) (fun w11 k11 => ?_) AllReadyH.nil
  refine ⟨k11.tail, ?_⟩
  exact wpAnyH_done (by kernel_rfl) (NoPanic.normal (key g8 _ (hid k11))) _

set_option maxRecDepth 100000 in
set_option maxHeartbeats 2000000 in
theorem iMixAir_state (ah av bh bv x : Nat) (hv1 : av < 4294967296) (hq1 : airB ah av = true) (hv2 : bv < 4294967296) (hq2 : airB bh bv = true) (hx : Share x) (M1 : MixF ah bh x) (M2 : MixF av bv x) (hr : airB (mixW ah bh x) (mixW av bv x) = false) (w : World) :
    Calls Try.prog 120 #[.agg #[.float .f32 ah, .float .f32 av], .agg #[.float .f32 bh, .float .f32 bv], .float .f32 x] w fun e w' => e = .returned (.tuple #[.agg #[.float .f32 0, .float .f32 0], .int .i64 4]) ∧ Below w.heap.size w w' := by
  have k0 : Hid (Kept w [(w.heap.size, #[.float .f32 ah, .float .f32 av], 32), (w.heap.size + 1, #[.float .f32 bh, .float .f32 bv], 32), (w.heap.size + 1 + 1, #[.float .f32 0, .float .f32 0], 32)] (((w.alloc (.cells (#[.float .f32 ah, .float .f32 av]) 32)).alloc (.cells (#[.float .f32 bh, .float .f32 bv]) 32)).alloc (.cells (#[.float .f32 0, .float .f32 0]) 32))) := hid (((((Kept.nil w).push (#[.float .f32 ah, .float .f32 av]) 32).push (#[.float .f32 bh, .float .f32 bv]) 32).push (#[.float .f32 0, .float .f32 0]) 32).sub (by simp))
  have Hhv1 := hid hv1
  have Hhq1 := hid hq1
  have Hhv2 := hid hv2
  have Hhq2 := hid hq2
  have Hhx := hid hx
  have HM1 := hid M1
  have HM2 := hid M2
  have Hhr := hid hr
  clear hv1 hq1 hv2 hq2 hx M1 M2 hr
  go_enter Try.func120, Try.ntmps120
  go_wp2_with (first | (refine wpList_load_row rfl 32 _ rfl (w.heap.size) rfl 32 (#[.float .f32 ah, .float .f32 av]) (0, 0) _ (k0.out.at (x := (w.heap.size, #[.float .f32 ah, .float .f32 av], 32)) (by simp)) Try.underlying32 rfl (info_air) ?_))
  refine (iValidAir ah av Hhv1.out true Hhq1.out _).mono ?_
  rintro e w0 ⟨rfl, hb0⟩
  have k1 := hid (k0.out.stay hb0)
  clear hb0
  go_wp2_with (first | (refine wpList_load_g rfl 32 _ rfl (w.heap.size + 1) rfl 32 (#[.float .f32 bh, .float .f32 bv]) (0, 0) _ (k1.out.at (x := (w.heap.size + 1, #[.float .f32 bh, .float .f32 bv], 32)) (by simp)) Try.underlying32 rfl (info_air) ?_))
  refine (iValidAir bh bv Hhv2.out true Hhq2.out _).mono ?_
  rintro e w1 ⟨rfl, hb1⟩
  have k2 := hid (k1.out.stay hb1)
  clear hb1
  go_wp2_with fail
  refine (iShare_t x Hhx.out _).mono ?_
  rintro e w2 ⟨rfl, rfl⟩
  go_wp2_with fail
  rename_i Q1 K1 hK1
  have key : ∀ (a0 : Nat) (w1 : World), Hid (Kept w [(a0, #[.float .f32 (mixW ah bh x), .float .f32 (mixW av bv x)], 32), (w.heap.size, #[.float .f32 ah, .float .f32 av], 32), (w.heap.size + 1, #[.float .f32 bh, .float .f32 bv], 32), (w.heap.size + 1 + 1, #[.float .f32 0, .float .f32 0], 32)] w1) → K1 { tmps := (.agg #[.float .f32 ah, .float .f32 av] :: .agg #[.float .f32 bh, .float .f32 bv] :: .float .f32 x :: .pointer (some ⟨w.heap.size, 0, none⟩) :: .pointer (some ⟨w.heap.size + 1, 0, none⟩) :: undef :: .pointer (some ⟨w.heap.size + 1 + 1, 0, none⟩) :: .int .i64 0 :: .pointer (some ⟨a0, 0, none⟩) :: .agg #[.float .f32 ah, .float .f32 av] :: .bool true :: .bool false :: .bool false :: .agg #[.float .f32 bh, .float .f32 bv] :: .bool true :: .bool false :: .bool false :: undef :: .float .f32 x :: .bool true :: .bool false :: undef :: .pointer (some ⟨w.heap.size, 0, none⟩) :: .float .f32 ah :: .pointer (some ⟨w.heap.size + 1, 0, none⟩) :: .float .f32 bh :: .float .f32 x :: .float .f32 (mixW ah bh x) :: .pointer (some ⟨w.heap.size, 1, none⟩) :: .float .f32 av :: .pointer (some ⟨w.heap.size + 1, 1, none⟩) :: .float .f32 bv :: .float .f32 x :: .float .f32 (mixW av bv x) :: .agg #[.float .f32 (mixW ah bh x), .float .f32 (mixW av bv x)] :: undef :: undef :: undef :: undef :: undef :: []).toArray, defers := [] } w1 := by
    intro a0 w1 k1
    clear k2
    go_wp2_with (first | (refine wpList_load_row rfl 32 _ rfl (a0) rfl 32 (#[.float .f32 (mixW ah bh x), .float .f32 (mixW av bv x)]) (0, 0) _ (k1.out.at (x := (a0, #[.float .f32 (mixW ah bh x), .float .f32 (mixW av bv x)], 32)) (by simp)) Try.underlying32 rfl (info_air) ?_))
    refine (iValidAir _ _ HM2.out.lt false Hhr.out _).mono ?_
    rintro e w50 ⟨rfl, hb50⟩
    have k51 := hid (k1.out.stay hb50)
    clear hb50
    go_wp2_with (first | (refine wpList_store_row rfl 32 _ _ rfl (w.heap.size + 1 + 1) (#[.float .f32 0, .float .f32 0]) rfl rfl 32 _ (k51.out.at (x := (w.heap.size + 1 + 1, #[.float .f32 0, .float .f32 0], 32)) (by simp)) (info_air) (by simp) (by simp [Value.oneCell']) ?_))
    exact bodyPost_ret (results_row_tmp rfl _ _ (w.heap.size + 1 + 1) 32 (#[.float .f32 0, .float .f32 0]) (0, 0) _ rfl (setRow_heap _ _ _ _ _ _ (k51.out.at (x := (w.heap.size + 1 + 1, #[.float .f32 0, .float .f32 0], 32)) (by simp))) Try.underlying32 rfl info_air) rfl ⟨rfl, below_row k51.out.1 (by omega) _⟩
  refine region_kept (w0 := w) (l := [(w.heap.size, #[.float .f32 ah, .float .f32 av], 32), (w.heap.size + 1, #[.float .f32 bh, .float .f32 bv], 32), (w.heap.size + 1 + 1, #[.float .f32 0, .float .f32 0], 32)]) 15 #[false, false, false, false, false, false, false, false, false, false, false, false, false, false, false] (by kernel_rfl) rfl rfl ?_
  have kd := k2.out.drew
  clear k2
  generalize World.drew _ = wd at kd ⊢
  refine take_val 0 { tmps := (.agg #[.float .f32 ah, .float .f32 av] :: .agg #[.float .f32 bh, .float .f32 bv] :: .float .f32 x :: .pointer (some ⟨w.heap.size, 0, none⟩) :: .pointer (some ⟨w.heap.size + 1, 0, none⟩) :: undef :: .pointer (some ⟨w.heap.size + 1 + 1, 0, none⟩) :: .int .i64 0 :: undef :: .agg #[.float .f32 ah, .float .f32 av] :: .bool true :: .bool false :: .bool false :: .agg #[.float .f32 bh, .float .f32 bv] :: .bool true :: .bool false :: .bool false :: undef :: .float .f32 x :: .bool true :: .bool false :: undef :: .pointer (some ⟨w.heap.size, 0, none⟩) :: undef :: undef :: undef :: undef :: undef :: undef :: undef :: undef :: undef :: undef :: undef :: undef :: undef :: undef :: undef :: undef :: undef :: []).toArray, defers := [] } #[true, false, false, false, false, false, false, false, false, false, false, false, false, false, false] (.pointer (some ⟨w.heap.size, 0, none⟩)) rfl (by rfl) (by kernel_rfl) (by kernel_rfl) (by kernel_rfl) (fun w => by unfold execOp; go_simp) (by rfl) (by rfl) (kd) ?_
  refine take_cell 1 { tmps := (.agg #[.float .f32 ah, .float .f32 av] :: .agg #[.float .f32 bh, .float .f32 bv] :: .float .f32 x :: .pointer (some ⟨w.heap.size, 0, none⟩) :: .pointer (some ⟨w.heap.size + 1, 0, none⟩) :: undef :: .pointer (some ⟨w.heap.size + 1 + 1, 0, none⟩) :: .int .i64 0 :: undef :: .agg #[.float .f32 ah, .float .f32 av] :: .bool true :: .bool false :: .bool false :: .agg #[.float .f32 bh, .float .f32 bv] :: .bool true :: .bool false :: .bool false :: undef :: .float .f32 x :: .bool true :: .bool false :: undef :: .pointer (some ⟨w.heap.size, 0, none⟩) :: .float .f32 ah :: undef :: undef :: undef :: undef :: undef :: undef :: undef :: undef :: undef :: undef :: undef :: undef :: undef :: undef :: undef :: undef :: []).toArray, defers := [] } #[true, true, false, false, false, false, false, false, false, false, false, false, false, false, false] (.float .f32 ah) rfl (by rfl) (by kernel_rfl) (by kernel_rfl) (by kernel_rfl) (fun wq hS => by have hcell : wq.cell? ⟨w.heap.size, 0, none⟩ = some (.float .f32 ah) := (cell_of_row wq (w.heap.size) 0 _ _ _ (hS.at (x := (w.heap.size, #[.float .f32 ah, .float .f32 av], 32)) (by simp))).trans rfl; clear hS; unfold execOp; go_simp) (by rfl) (by rfl) (kd) ?_
  refine take_val 2 { tmps := (.agg #[.float .f32 ah, .float .f32 av] :: .agg #[.float .f32 bh, .float .f32 bv] :: .float .f32 x :: .pointer (some ⟨w.heap.size, 0, none⟩) :: .pointer (some ⟨w.heap.size + 1, 0, none⟩) :: undef :: .pointer (some ⟨w.heap.size + 1 + 1, 0, none⟩) :: .int .i64 0 :: undef :: .agg #[.float .f32 ah, .float .f32 av] :: .bool true :: .bool false :: .bool false :: .agg #[.float .f32 bh, .float .f32 bv] :: .bool true :: .bool false :: .bool false :: undef :: .float .f32 x :: .bool true :: .bool false :: undef :: .pointer (some ⟨w.heap.size, 0, none⟩) :: .float .f32 ah :: .pointer (some ⟨w.heap.size + 1, 0, none⟩) :: undef :: undef :: undef :: undef :: undef :: undef :: undef :: undef :: undef :: undef :: undef :: undef :: undef :: undef :: undef :: []).toArray, defers := [] } #[true, true, true, false, false, false, false, false, false, false, false, false, false, false, false] (.pointer (some ⟨w.heap.size + 1, 0, none⟩)) rfl (by rfl) (by kernel_rfl) (by kernel_rfl) (by kernel_rfl) (fun w => by unfold execOp; go_simp) (by rfl) (by rfl) (kd) ?_
  refine take_cell 3 { tmps := (.agg #[.float .f32 ah, .float .f32 av] :: .agg #[.float .f32 bh, .float .f32 bv] :: .float .f32 x :: .pointer (some ⟨w.heap.size, 0, none⟩) :: .pointer (some ⟨w.heap.size + 1, 0, none⟩) :: undef :: .pointer (some ⟨w.heap.size + 1 + 1, 0, none⟩) :: .int .i64 0 :: undef :: .agg #[.float .f32 ah, .float .f32 av] :: .bool true :: .bool false :: .bool false :: .agg #[.float .f32 bh, .float .f32 bv] :: .bool true :: .bool false :: .bool false :: undef :: .float .f32 x :: .bool true :: .bool false :: undef :: .pointer (some ⟨w.heap.size, 0, none⟩) :: .float .f32 ah :: .pointer (some ⟨w.heap.size + 1, 0, none⟩) :: .float .f32 bh :: undef :: undef :: undef :: undef :: undef :: undef :: undef :: undef :: undef :: undef :: undef :: undef :: undef :: undef :: []).toArray, defers := [] } #[true, true, true, true, false, false, false, false, false, false, false, false, false, false, false] (.float .f32 bh) rfl (by rfl) (by kernel_rfl) (by kernel_rfl) (by kernel_rfl) (fun wq hS => by have hcell : wq.cell? ⟨w.heap.size + 1, 0, none⟩ = some (.float .f32 bh) := (cell_of_row wq (w.heap.size + 1) 0 _ _ _ (hS.at (x := (w.heap.size + 1, #[.float .f32 bh, .float .f32 bv], 32)) (by simp))).trans rfl; clear hS; unfold execOp; go_simp) (by rfl) (by rfl) (kd) ?_
  refine take_val 4 { tmps := (.agg #[.float .f32 ah, .float .f32 av] :: .agg #[.float .f32 bh, .float .f32 bv] :: .float .f32 x :: .pointer (some ⟨w.heap.size, 0, none⟩) :: .pointer (some ⟨w.heap.size + 1, 0, none⟩) :: undef :: .pointer (some ⟨w.heap.size + 1 + 1, 0, none⟩) :: .int .i64 0 :: undef :: .agg #[.float .f32 ah, .float .f32 av] :: .bool true :: .bool false :: .bool false :: .agg #[.float .f32 bh, .float .f32 bv] :: .bool true :: .bool false :: .bool false :: undef :: .float .f32 x :: .bool true :: .bool false :: undef :: .pointer (some ⟨w.heap.size, 0, none⟩) :: .float .f32 ah :: .pointer (some ⟨w.heap.size + 1, 0, none⟩) :: .float .f32 bh :: .float .f32 x :: undef :: undef :: undef :: undef :: undef :: undef :: undef :: undef :: undef :: undef :: undef :: undef :: undef :: []).toArray, defers := [] } #[true, true, true, true, true, false, false, false, false, false, false, false, false, false, false] (.float .f32 x) rfl (by rfl) (by kernel_rfl) (by kernel_rfl) (by kernel_rfl) (fun w => by rfl) (by rfl) (by rfl) (kd) ?_
  refine take_val 6 { tmps := (.agg #[.float .f32 ah, .float .f32 av] :: .agg #[.float .f32 bh, .float .f32 bv] :: .float .f32 x :: .pointer (some ⟨w.heap.size, 0, none⟩) :: .pointer (some ⟨w.heap.size + 1, 0, none⟩) :: undef :: .pointer (some ⟨w.heap.size + 1 + 1, 0, none⟩) :: .int .i64 0 :: undef :: .agg #[.float .f32 ah, .float .f32 av] :: .bool true :: .bool false :: .bool false :: .agg #[.float .f32 bh, .float .f32 bv] :: .bool true :: .bool false :: .bool false :: undef :: .float .f32 x :: .bool true :: .bool false :: undef :: .pointer (some ⟨w.heap.size, 0, none⟩) :: .float .f32 ah :: .pointer (some ⟨w.heap.size + 1, 0, none⟩) :: .float .f32 bh :: .float .f32 x :: undef :: .pointer (some ⟨w.heap.size, 1, none⟩) :: undef :: undef :: undef :: undef :: undef :: undef :: undef :: undef :: undef :: undef :: undef :: []).toArray, defers := [] } #[true, true, true, true, true, false, true, false, false, false, false, false, false, false, false] (.pointer (some ⟨w.heap.size, 1, none⟩)) rfl (by rfl) (by kernel_rfl) (by kernel_rfl) (by kernel_rfl) (fun w => by unfold execOp; go_simp) (by rfl) (by rfl) (kd) ?_
  refine take_cell 7 { tmps := (.agg #[.float .f32 ah, .float .f32 av] :: .agg #[.float .f32 bh, .float .f32 bv] :: .float .f32 x :: .pointer (some ⟨w.heap.size, 0, none⟩) :: .pointer (some ⟨w.heap.size + 1, 0, none⟩) :: undef :: .pointer (some ⟨w.heap.size + 1 + 1, 0, none⟩) :: .int .i64 0 :: undef :: .agg #[.float .f32 ah, .float .f32 av] :: .bool true :: .bool false :: .bool false :: .agg #[.float .f32 bh, .float .f32 bv] :: .bool true :: .bool false :: .bool false :: undef :: .float .f32 x :: .bool true :: .bool false :: undef :: .pointer (some ⟨w.heap.size, 0, none⟩) :: .float .f32 ah :: .pointer (some ⟨w.heap.size + 1, 0, none⟩) :: .float .f32 bh :: .float .f32 x :: undef :: .pointer (some ⟨w.heap.size, 1, none⟩) :: .float .f32 av :: undef :: undef :: undef :: undef :: undef :: undef :: undef :: undef :: undef :: undef :: []).toArray, defers := [] } #[true, true, true, true, true, false, true, true, false, false, false, false, false, false, false] (.float .f32 av) rfl (by rfl) (by kernel_rfl) (by kernel_rfl) (by kernel_rfl) (fun wq hS => by have hcell : wq.cell? ⟨w.heap.size, 1, none⟩ = some (.float .f32 av) := (cell_of_row wq (w.heap.size) 1 _ _ _ (hS.at (x := (w.heap.size, #[.float .f32 ah, .float .f32 av], 32)) (by simp))).trans rfl; clear hS; unfold execOp; go_simp) (by rfl) (by rfl) (kd) ?_
  refine take_val 8 { tmps := (.agg #[.float .f32 ah, .float .f32 av] :: .agg #[.float .f32 bh, .float .f32 bv] :: .float .f32 x :: .pointer (some ⟨w.heap.size, 0, none⟩) :: .pointer (some ⟨w.heap.size + 1, 0, none⟩) :: undef :: .pointer (some ⟨w.heap.size + 1 + 1, 0, none⟩) :: .int .i64 0 :: undef :: .agg #[.float .f32 ah, .float .f32 av] :: .bool true :: .bool false :: .bool false :: .agg #[.float .f32 bh, .float .f32 bv] :: .bool true :: .bool false :: .bool false :: undef :: .float .f32 x :: .bool true :: .bool false :: undef :: .pointer (some ⟨w.heap.size, 0, none⟩) :: .float .f32 ah :: .pointer (some ⟨w.heap.size + 1, 0, none⟩) :: .float .f32 bh :: .float .f32 x :: undef :: .pointer (some ⟨w.heap.size, 1, none⟩) :: .float .f32 av :: .pointer (some ⟨w.heap.size + 1, 1, none⟩) :: undef :: undef :: undef :: undef :: undef :: undef :: undef :: undef :: undef :: []).toArray, defers := [] } #[true, true, true, true, true, false, true, true, true, false, false, false, false, false, false] (.pointer (some ⟨w.heap.size + 1, 1, none⟩)) rfl (by rfl) (by kernel_rfl) (by kernel_rfl) (by kernel_rfl) (fun w => by unfold execOp; go_simp) (by rfl) (by rfl) (kd) ?_
  refine take_cell 9 { tmps := (.agg #[.float .f32 ah, .float .f32 av] :: .agg #[.float .f32 bh, .float .f32 bv] :: .float .f32 x :: .pointer (some ⟨w.heap.size, 0, none⟩) :: .pointer (some ⟨w.heap.size + 1, 0, none⟩) :: undef :: .pointer (some ⟨w.heap.size + 1 + 1, 0, none⟩) :: .int .i64 0 :: undef :: .agg #[.float .f32 ah, .float .f32 av] :: .bool true :: .bool false :: .bool false :: .agg #[.float .f32 bh, .float .f32 bv] :: .bool true :: .bool false :: .bool false :: undef :: .float .f32 x :: .bool true :: .bool false :: undef :: .pointer (some ⟨w.heap.size, 0, none⟩) :: .float .f32 ah :: .pointer (some ⟨w.heap.size + 1, 0, none⟩) :: .float .f32 bh :: .float .f32 x :: undef :: .pointer (some ⟨w.heap.size, 1, none⟩) :: .float .f32 av :: .pointer (some ⟨w.heap.size + 1, 1, none⟩) :: .float .f32 bv :: undef :: undef :: undef :: undef :: undef :: undef :: undef :: undef :: []).toArray, defers := [] } #[true, true, true, true, true, false, true, true, true, true, false, false, false, false, false] (.float .f32 bv) rfl (by rfl) (by kernel_rfl) (by kernel_rfl) (by kernel_rfl) (fun wq hS => by have hcell : wq.cell? ⟨w.heap.size + 1, 1, none⟩ = some (.float .f32 bv) := (cell_of_row wq (w.heap.size + 1) 1 _ _ _ (hS.at (x := (w.heap.size + 1, #[.float .f32 bh, .float .f32 bv], 32)) (by simp))).trans rfl; clear hS; unfold execOp; go_simp) (by rfl) (by rfl) (kd) ?_
  refine take_val 10 { tmps := (.agg #[.float .f32 ah, .float .f32 av] :: .agg #[.float .f32 bh, .float .f32 bv] :: .float .f32 x :: .pointer (some ⟨w.heap.size, 0, none⟩) :: .pointer (some ⟨w.heap.size + 1, 0, none⟩) :: undef :: .pointer (some ⟨w.heap.size + 1 + 1, 0, none⟩) :: .int .i64 0 :: undef :: .agg #[.float .f32 ah, .float .f32 av] :: .bool true :: .bool false :: .bool false :: .agg #[.float .f32 bh, .float .f32 bv] :: .bool true :: .bool false :: .bool false :: undef :: .float .f32 x :: .bool true :: .bool false :: undef :: .pointer (some ⟨w.heap.size, 0, none⟩) :: .float .f32 ah :: .pointer (some ⟨w.heap.size + 1, 0, none⟩) :: .float .f32 bh :: .float .f32 x :: undef :: .pointer (some ⟨w.heap.size, 1, none⟩) :: .float .f32 av :: .pointer (some ⟨w.heap.size + 1, 1, none⟩) :: .float .f32 bv :: .float .f32 x :: undef :: undef :: undef :: undef :: undef :: undef :: undef :: []).toArray, defers := [] } #[true, true, true, true, true, false, true, true, true, true, true, false, false, false, false] (.float .f32 x) rfl (by rfl) (by kernel_rfl) (by kernel_rfl) (by kernel_rfl) (fun w => by rfl) (by rfl) (by rfl) (kd) ?_
  refine wpAnyH_ready (rs := [5, 13]) (by kernel_rfl) (by simp) ?_
  refine callK 5 { tmps := (.agg #[.float .f32 ah, .float .f32 av] :: .agg #[.float .f32 bh, .float .f32 bv] :: .float .f32 x :: .pointer (some ⟨w.heap.size, 0, none⟩) :: .pointer (some ⟨w.heap.size + 1, 0, none⟩) :: undef :: .pointer (some ⟨w.heap.size + 1 + 1, 0, none⟩) :: .int .i64 0 :: undef :: .agg #[.float .f32 ah, .float .f32 av] :: .bool true :: .bool false :: .bool false :: .agg #[.float .f32 bh, .float .f32 bv] :: .bool true :: .bool false :: .bool false :: undef :: .float .f32 x :: .bool true :: .bool false :: undef :: .pointer (some ⟨w.heap.size, 0, none⟩) :: .float .f32 ah :: .pointer (some ⟨w.heap.size + 1, 0, none⟩) :: .float .f32 bh :: .float .f32 x :: .float .f32 (mixW ah bh x) :: .pointer (some ⟨w.heap.size, 1, none⟩) :: .float .f32 av :: .pointer (some ⟨w.heap.size + 1, 1, none⟩) :: .float .f32 bv :: .float .f32 x :: undef :: undef :: undef :: undef :: undef :: undef :: undef :: []).toArray, defers := [] } #[true, true, true, true, true, true, true, true, true, true, true, false, false, false, false] (.float .f32 (mixW ah bh x)) kd rfl (by rfl) 158 #[.float .f32 ah, .float .f32 bh, .float .f32 x] (run_mixN3 _ _ _ rfl _ _ rfl _ _ rfl _ _ _ _ _ _) (by rfl) (by rfl) (loose (iMixN _ _ _ HM1.out _)) (fun w1 k1 => ?_) ?_
  · refine ⟨k1, ?_⟩
    refine wpAnyH_ready (rs := [11, 13]) (by kernel_rfl) (by simp) ?_
    refine callK 11 { tmps := (.agg #[.float .f32 ah, .float .f32 av] :: .agg #[.float .f32 bh, .float .f32 bv] :: .float .f32 x :: .pointer (some ⟨w.heap.size, 0, none⟩) :: .pointer (some ⟨w.heap.size + 1, 0, none⟩) :: undef :: .pointer (some ⟨w.heap.size + 1 + 1, 0, none⟩) :: .int .i64 0 :: undef :: .agg #[.float .f32 ah, .float .f32 av] :: .bool true :: .bool false :: .bool false :: .agg #[.float .f32 bh, .float .f32 bv] :: .bool true :: .bool false :: .bool false :: undef :: .float .f32 x :: .bool true :: .bool false :: undef :: .pointer (some ⟨w.heap.size, 0, none⟩) :: .float .f32 ah :: .pointer (some ⟨w.heap.size + 1, 0, none⟩) :: .float .f32 bh :: .float .f32 x :: .float .f32 (mixW ah bh x) :: .pointer (some ⟨w.heap.size, 1, none⟩) :: .float .f32 av :: .pointer (some ⟨w.heap.size + 1, 1, none⟩) :: .float .f32 bv :: .float .f32 x :: .float .f32 (mixW av bv x) :: undef :: undef :: undef :: undef :: undef :: undef :: []).toArray, defers := [] } #[true, true, true, true, true, true, true, true, true, true, true, true, false, false, false] (.float .f32 (mixW av bv x)) k1 rfl (by rfl) 158 #[.float .f32 av, .float .f32 bv, .float .f32 x] (run_mixN3 _ _ _ rfl _ _ rfl _ _ rfl _ _ _ _ _ _) (by rfl) (by rfl) (loose (iMixN _ _ _ HM2.out _)) (fun w2 k2 => ?_) ?_
    · refine ⟨k2, ?_⟩
      refine take_val 12 { tmps := (.agg #[.float .f32 ah, .float .f32 av] :: .agg #[.float .f32 bh, .float .f32 bv] :: .float .f32 x :: .pointer (some ⟨w.heap.size, 0, none⟩) :: .pointer (some ⟨w.heap.size + 1, 0, none⟩) :: undef :: .pointer (some ⟨w.heap.size + 1 + 1, 0, none⟩) :: .int .i64 0 :: undef :: .agg #[.float .f32 ah, .float .f32 av] :: .bool true :: .bool false :: .bool false :: .agg #[.float .f32 bh, .float .f32 bv] :: .bool true :: .bool false :: .bool false :: undef :: .float .f32 x :: .bool true :: .bool false :: undef :: .pointer (some ⟨w.heap.size, 0, none⟩) :: .float .f32 ah :: .pointer (some ⟨w.heap.size + 1, 0, none⟩) :: .float .f32 bh :: .float .f32 x :: .float .f32 (mixW ah bh x) :: .pointer (some ⟨w.heap.size, 1, none⟩) :: .float .f32 av :: .pointer (some ⟨w.heap.size + 1, 1, none⟩) :: .float .f32 bv :: .float .f32 x :: .float .f32 (mixW av bv x) :: .agg #[.float .f32 (mixW ah bh x), .float .f32 (mixW av bv x)] :: undef :: undef :: undef :: undef :: undef :: []).toArray, defers := [] } #[true, true, true, true, true, true, true, true, true, true, true, true, true, false, false] (.agg #[.float .f32 (mixW ah bh x), .float .f32 (mixW av bv x)]) rfl (by rfl) (by kernel_rfl) (by kernel_rfl) (by kernel_rfl) (fun w => by unfold execOp; go_simp) (by rfl) (by rfl) (k2) ?_
      refine wpAnyH_ready (rs := [13]) (by kernel_rfl) (by simp) ?_
      refine allocK 13 (fun g3 => { tmps := (.agg #[.float .f32 ah, .float .f32 av] :: .agg #[.float .f32 bh, .float .f32 bv] :: .float .f32 x :: .pointer (some ⟨w.heap.size, 0, none⟩) :: .pointer (some ⟨w.heap.size + 1, 0, none⟩) :: undef :: .pointer (some ⟨w.heap.size + 1 + 1, 0, none⟩) :: .int .i64 0 :: .pointer (some ⟨g3, 0, none⟩) :: .agg #[.float .f32 ah, .float .f32 av] :: .bool true :: .bool false :: .bool false :: .agg #[.float .f32 bh, .float .f32 bv] :: .bool true :: .bool false :: .bool false :: undef :: .float .f32 x :: .bool true :: .bool false :: undef :: .pointer (some ⟨w.heap.size, 0, none⟩) :: .float .f32 ah :: .pointer (some ⟨w.heap.size + 1, 0, none⟩) :: .float .f32 bh :: .float .f32 x :: .float .f32 (mixW ah bh x) :: .pointer (some ⟨w.heap.size, 1, none⟩) :: .float .f32 av :: .pointer (some ⟨w.heap.size + 1, 1, none⟩) :: .float .f32 bv :: .float .f32 x :: .float .f32 (mixW av bv x) :: .agg #[.float .f32 (mixW ah bh x), .float .f32 (mixW av bv x)] :: undef :: undef :: undef :: undef :: undef :: []).toArray, defers := [] }) #[true, true, true, true, true, true, true, true, true, true, true, true, true, true, false] k2 rfl (by rfl) (#[.float .f32 0, .float .f32 0]) 32 (alloc_air _ _ _ _ _ _ _) (fun g => by rfl) (by rfl) (fun w3 g3 k3 hB3 hn3 => ?_) AllReadyH.nil
      refine ⟨k3.tail, ?_⟩
      refine wpAnyH_ready (rs := [14]) (by kernel_rfl) (by simp) ?_
      refine storeK 14 { tmps := (.agg #[.float .f32 ah, .float .f32 av] :: .agg #[.float .f32 bh, .float .f32 bv] :: .float .f32 x :: .pointer (some ⟨w.heap.size, 0, none⟩) :: .pointer (some ⟨w.heap.size + 1, 0, none⟩) :: undef :: .pointer (some ⟨w.heap.size + 1 + 1, 0, none⟩) :: .int .i64 0 :: .pointer (some ⟨g3, 0, none⟩) :: .agg #[.float .f32 ah, .float .f32 av] :: .bool true :: .bool false :: .bool false :: .agg #[.float .f32 bh, .float .f32 bv] :: .bool true :: .bool false :: .bool false :: undef :: .float .f32 x :: .bool true :: .bool false :: undef :: .pointer (some ⟨w.heap.size, 0, none⟩) :: .float .f32 ah :: .pointer (some ⟨w.heap.size + 1, 0, none⟩) :: .float .f32 bh :: .float .f32 x :: .float .f32 (mixW ah bh x) :: .pointer (some ⟨w.heap.size, 1, none⟩) :: .float .f32 av :: .pointer (some ⟨w.heap.size + 1, 1, none⟩) :: .float .f32 bv :: .float .f32 x :: .float .f32 (mixW av bv x) :: .agg #[.float .f32 (mixW ah bh x), .float .f32 (mixW av bv x)] :: undef :: undef :: undef :: undef :: undef :: []).toArray, defers := [] } #[true, true, true, true, true, true, true, true, true, true, true, true, true, true, true] k3 hB3 hn3 rfl (by rfl) 32 _ _ rfl (#[.float .f32 (mixW ah bh x), .float .f32 (mixW av bv x)]) (by rfl) (by rfl) (info_air) (by simp) (by simp [Value.oneCell']) (by rfl) (by rfl) (fun w4 k4 => ?_) AllReadyH.nil
      refine ⟨k4.tail, ?_⟩
      exact wpAnyH_done (by kernel_rfl) (NoPanic.normal (key g3 _ (hid k4))) _
    refine allocK 13 (fun g5 => { tmps := (.agg #[.float .f32 ah, .float .f32 av] :: .agg #[.float .f32 bh, .float .f32 bv] :: .float .f32 x :: .pointer (some ⟨w.heap.size, 0, none⟩) :: .pointer (some ⟨w.heap.size + 1, 0, none⟩) :: undef :: .pointer (some ⟨w.heap.size + 1 + 1, 0, none⟩) :: .int .i64 0 :: .pointer (some ⟨g5, 0, none⟩) :: .agg #[.float .f32 ah, .float .f32 av] :: .bool true :: .bool false :: .bool false :: .agg #[.float .f32 bh, .float .f32 bv] :: .bool true :: .bool false :: .bool false :: undef :: .float .f32 x :: .bool true :: .bool false :: undef :: .pointer (some ⟨w.heap.size, 0, none⟩) :: .float .f32 ah :: .pointer (some ⟨w.heap.size + 1, 0, none⟩) :: .float .f32 bh :: .float .f32 x :: .float .f32 (mixW ah bh x) :: .pointer (some ⟨w.heap.size, 1, none⟩) :: .float .f32 av :: .pointer (some ⟨w.heap.size + 1, 1, none⟩) :: .float .f32 bv :: .float .f32 x :: undef :: undef :: undef :: undef :: undef :: undef :: undef :: []).toArray, defers := [] }) #[true, true, true, true, true, true, true, true, true, true, true, false, false, true, false] k1 rfl (by rfl) (#[.float .f32 0, .float .f32 0]) 32 (alloc_air _ _ _ _ _ _ _) (fun g => by rfl) (by rfl) (fun w5 g5 k5 hB5 hn5 => ?_) AllReadyH.nil
    refine ⟨k5.tail, ?_⟩
    refine wpAnyH_ready (rs := [11]) (by kernel_rfl) (by simp) ?_
    refine callK 11 { tmps := (.agg #[.float .f32 ah, .float .f32 av] :: .agg #[.float .f32 bh, .float .f32 bv] :: .float .f32 x :: .pointer (some ⟨w.heap.size, 0, none⟩) :: .pointer (some ⟨w.heap.size + 1, 0, none⟩) :: undef :: .pointer (some ⟨w.heap.size + 1 + 1, 0, none⟩) :: .int .i64 0 :: .pointer (some ⟨g5, 0, none⟩) :: .agg #[.float .f32 ah, .float .f32 av] :: .bool true :: .bool false :: .bool false :: .agg #[.float .f32 bh, .float .f32 bv] :: .bool true :: .bool false :: .bool false :: undef :: .float .f32 x :: .bool true :: .bool false :: undef :: .pointer (some ⟨w.heap.size, 0, none⟩) :: .float .f32 ah :: .pointer (some ⟨w.heap.size + 1, 0, none⟩) :: .float .f32 bh :: .float .f32 x :: .float .f32 (mixW ah bh x) :: .pointer (some ⟨w.heap.size, 1, none⟩) :: .float .f32 av :: .pointer (some ⟨w.heap.size + 1, 1, none⟩) :: .float .f32 bv :: .float .f32 x :: .float .f32 (mixW av bv x) :: undef :: undef :: undef :: undef :: undef :: undef :: []).toArray, defers := [] } #[true, true, true, true, true, true, true, true, true, true, true, true, false, true, false] (.float .f32 (mixW av bv x)) k5 rfl (by rfl) 158 #[.float .f32 av, .float .f32 bv, .float .f32 x] (run_mixN3 _ _ _ rfl _ _ rfl _ _ rfl _ _ _ _ _ _) (by rfl) (by rfl) (loose (iMixN _ _ _ HM2.out _)) (fun w6 k6 => ?_) AllReadyH.nil
    refine ⟨k6.tail, ?_⟩
    refine take_val 12 { tmps := (.agg #[.float .f32 ah, .float .f32 av] :: .agg #[.float .f32 bh, .float .f32 bv] :: .float .f32 x :: .pointer (some ⟨w.heap.size, 0, none⟩) :: .pointer (some ⟨w.heap.size + 1, 0, none⟩) :: undef :: .pointer (some ⟨w.heap.size + 1 + 1, 0, none⟩) :: .int .i64 0 :: .pointer (some ⟨g5, 0, none⟩) :: .agg #[.float .f32 ah, .float .f32 av] :: .bool true :: .bool false :: .bool false :: .agg #[.float .f32 bh, .float .f32 bv] :: .bool true :: .bool false :: .bool false :: undef :: .float .f32 x :: .bool true :: .bool false :: undef :: .pointer (some ⟨w.heap.size, 0, none⟩) :: .float .f32 ah :: .pointer (some ⟨w.heap.size + 1, 0, none⟩) :: .float .f32 bh :: .float .f32 x :: .float .f32 (mixW ah bh x) :: .pointer (some ⟨w.heap.size, 1, none⟩) :: .float .f32 av :: .pointer (some ⟨w.heap.size + 1, 1, none⟩) :: .float .f32 bv :: .float .f32 x :: .float .f32 (mixW av bv x) :: .agg #[.float .f32 (mixW ah bh x), .float .f32 (mixW av bv x)] :: undef :: undef :: undef :: undef :: undef :: []).toArray, defers := [] } #[true, true, true, true, true, true, true, true, true, true, true, true, true, true, false] (.agg #[.float .f32 (mixW ah bh x), .float .f32 (mixW av bv x)]) rfl (by rfl) (by kernel_rfl) (by kernel_rfl) (by kernel_rfl) (fun w => by unfold execOp; go_simp) (by rfl) (by rfl) (k6.tail) ?_
    refine wpAnyH_ready (rs := [14]) (by kernel_rfl) (by simp) ?_
    refine storeK 14 { tmps := (.agg #[.float .f32 ah, .float .f32 av] :: .agg #[.float .f32 bh, .float .f32 bv] :: .float .f32 x :: .pointer (some ⟨w.heap.size, 0, none⟩) :: .pointer (some ⟨w.heap.size + 1, 0, none⟩) :: undef :: .pointer (some ⟨w.heap.size + 1 + 1, 0, none⟩) :: .int .i64 0 :: .pointer (some ⟨g5, 0, none⟩) :: .agg #[.float .f32 ah, .float .f32 av] :: .bool true :: .bool false :: .bool false :: .agg #[.float .f32 bh, .float .f32 bv] :: .bool true :: .bool false :: .bool false :: undef :: .float .f32 x :: .bool true :: .bool false :: undef :: .pointer (some ⟨w.heap.size, 0, none⟩) :: .float .f32 ah :: .pointer (some ⟨w.heap.size + 1, 0, none⟩) :: .float .f32 bh :: .float .f32 x :: .float .f32 (mixW ah bh x) :: .pointer (some ⟨w.heap.size, 1, none⟩) :: .float .f32 av :: .pointer (some ⟨w.heap.size + 1, 1, none⟩) :: .float .f32 bv :: .float .f32 x :: .float .f32 (mixW av bv x) :: .agg #[.float .f32 (mixW ah bh x), .float .f32 (mixW av bv x)] :: undef :: undef :: undef :: undef :: undef :: []).toArray, defers := [] } #[true, true, true, true, true, true, true, true, true, true, true, true, true, true, true] k6 hB5 hn5 rfl (by rfl) 32 _ _ rfl (#[.float .f32 (mixW ah bh x), .float .f32 (mixW av bv x)]) (by rfl) (by rfl) (info_air) (by simp) (by simp [Value.oneCell']) (by rfl) (by rfl) (fun w7 k7 => ?_) AllReadyH.nil
    refine ⟨k7.tail, ?_⟩
    exact wpAnyH_done (by kernel_rfl) (NoPanic.normal (key g5 _ (hid k7))) _
  refine allocK 13 (fun g8 => { tmps := (.agg #[.float .f32 ah, .float .f32 av] :: .agg #[.float .f32 bh, .float .f32 bv] :: .float .f32 x :: .pointer (some ⟨w.heap.size, 0, none⟩) :: .pointer (some ⟨w.heap.size + 1, 0, none⟩) :: undef :: .pointer (some ⟨w.heap.size + 1 + 1, 0, none⟩) :: .int .i64 0 :: .pointer (some ⟨g8, 0, none⟩) :: .agg #[.float .f32 ah, .float .f32 av] :: .bool true :: .bool false :: .bool false :: .agg #[.float .f32 bh, .float .f32 bv] :: .bool true :: .bool false :: .bool false :: undef :: .float .f32 x :: .bool true :: .bool false :: undef :: .pointer (some ⟨w.heap.size, 0, none⟩) :: .float .f32 ah :: .pointer (some ⟨w.heap.size + 1, 0, none⟩) :: .float .f32 bh :: .float .f32 x :: undef :: .pointer (some ⟨w.heap.size, 1, none⟩) :: .float .f32 av :: .pointer (some ⟨w.heap.size + 1, 1, none⟩) :: .float .f32 bv :: .float .f32 x :: undef :: undef :: undef :: undef :: undef :: undef :: undef :: []).toArray, defers := [] }) #[true, true, true, true, true, false, true, true, true, true, true, false, false, true, false] kd rfl (by rfl) (#[.float .f32 0, .float .f32 0]) 32 (alloc_air _ _ _ _ _ _ _) (fun g => by rfl) (by rfl) (fun w8 g8 k8 hB8 hn8 => ?_) AllReadyH.nil
  refine ⟨k8.tail, ?_⟩
  refine wpAnyH_ready (rs := [5]) (by kernel_rfl) (by simp) ?_
  refine callK 5 { tmps := (.agg #[.float .f32 ah, .float .f32 av] :: .agg #[.float .f32 bh, .float .f32 bv] :: .float .f32 x :: .pointer (some ⟨w.heap.size, 0, none⟩) :: .pointer (some ⟨w.heap.size + 1, 0, none⟩) :: undef :: .pointer (some ⟨w.heap.size + 1 + 1, 0, none⟩) :: .int .i64 0 :: .pointer (some ⟨g8, 0, none⟩) :: .agg #[.float .f32 ah, .float .f32 av] :: .bool true :: .bool false :: .bool false :: .agg #[.float .f32 bh, .float .f32 bv] :: .bool true :: .bool false :: .bool false :: undef :: .float .f32 x :: .bool true :: .bool false :: undef :: .pointer (some ⟨w.heap.size, 0, none⟩) :: .float .f32 ah :: .pointer (some ⟨w.heap.size + 1, 0, none⟩) :: .float .f32 bh :: .float .f32 x :: .float .f32 (mixW ah bh x) :: .pointer (some ⟨w.heap.size, 1, none⟩) :: .float .f32 av :: .pointer (some ⟨w.heap.size + 1, 1, none⟩) :: .float .f32 bv :: .float .f32 x :: undef :: undef :: undef :: undef :: undef :: undef :: undef :: []).toArray, defers := [] } #[true, true, true, true, true, true, true, true, true, true, true, false, false, true, false] (.float .f32 (mixW ah bh x)) k8 rfl (by rfl) 158 #[.float .f32 ah, .float .f32 bh, .float .f32 x] (run_mixN3 _ _ _ rfl _ _ rfl _ _ rfl _ _ _ _ _ _) (by rfl) (by rfl) (loose (iMixN _ _ _ HM1.out _)) (fun w9 k9 => ?_) AllReadyH.nil
  refine ⟨k9.tail, ?_⟩
  refine wpAnyH_ready (rs := [11]) (by kernel_rfl) (by simp) ?_
  refine callK 11 { tmps := (.agg #[.float .f32 ah, .float .f32 av] :: .agg #[.float .f32 bh, .float .f32 bv] :: .float .f32 x :: .pointer (some ⟨w.heap.size, 0, none⟩) :: .pointer (some ⟨w.heap.size + 1, 0, none⟩) :: undef :: .pointer (some ⟨w.heap.size + 1 + 1, 0, none⟩) :: .int .i64 0 :: .pointer (some ⟨g8, 0, none⟩) :: .agg #[.float .f32 ah, .float .f32 av] :: .bool true :: .bool false :: .bool false :: .agg #[.float .f32 bh, .float .f32 bv] :: .bool true :: .bool false :: .bool false :: undef :: .float .f32 x :: .bool true :: .bool false :: undef :: .pointer (some ⟨w.heap.size, 0, none⟩) :: .float .f32 ah :: .pointer (some ⟨w.heap.size + 1, 0, none⟩) :: .float .f32 bh :: .float .f32 x :: .float .f32 (mixW ah bh x) :: .pointer (some ⟨w.heap.size, 1, none⟩) :: .float .f32 av :: .pointer (some ⟨w.heap.size + 1, 1, none⟩) :: .float .f32 bv :: .float .f32 x :: .float .f32 (mixW av bv x) :: undef :: undef :: undef :: undef :: undef :: undef :: []).toArray, defers := [] } #[true, true, true, true, true, true, true, true, true, true, true, true, false, true, false] (.float .f32 (mixW av bv x)) k9 rfl (by rfl) 158 #[.float .f32 av, .float .f32 bv, .float .f32 x] (run_mixN3 _ _ _ rfl _ _ rfl _ _ rfl _ _ _ _ _ _) (by rfl) (by rfl) (loose (iMixN _ _ _ HM2.out _)) (fun w10 k10 => ?_) AllReadyH.nil
  refine ⟨k10.tail, ?_⟩
  refine take_val 12 { tmps := (.agg #[.float .f32 ah, .float .f32 av] :: .agg #[.float .f32 bh, .float .f32 bv] :: .float .f32 x :: .pointer (some ⟨w.heap.size, 0, none⟩) :: .pointer (some ⟨w.heap.size + 1, 0, none⟩) :: undef :: .pointer (some ⟨w.heap.size + 1 + 1, 0, none⟩) :: .int .i64 0 :: .pointer (some ⟨g8, 0, none⟩) :: .agg #[.float .f32 ah, .float .f32 av] :: .bool true :: .bool false :: .bool false :: .agg #[.float .f32 bh, .float .f32 bv] :: .bool true :: .bool false :: .bool false :: undef :: .float .f32 x :: .bool true :: .bool false :: undef :: .pointer (some ⟨w.heap.size, 0, none⟩) :: .float .f32 ah :: .pointer (some ⟨w.heap.size + 1, 0, none⟩) :: .float .f32 bh :: .float .f32 x :: .float .f32 (mixW ah bh x) :: .pointer (some ⟨w.heap.size, 1, none⟩) :: .float .f32 av :: .pointer (some ⟨w.heap.size + 1, 1, none⟩) :: .float .f32 bv :: .float .f32 x :: .float .f32 (mixW av bv x) :: .agg #[.float .f32 (mixW ah bh x), .float .f32 (mixW av bv x)] :: undef :: undef :: undef :: undef :: undef :: []).toArray, defers := [] } #[true, true, true, true, true, true, true, true, true, true, true, true, true, true, false] (.agg #[.float .f32 (mixW ah bh x), .float .f32 (mixW av bv x)]) rfl (by rfl) (by kernel_rfl) (by kernel_rfl) (by kernel_rfl) (fun w => by unfold execOp; go_simp) (by rfl) (by rfl) (k10.tail) ?_
  refine wpAnyH_ready (rs := [14]) (by kernel_rfl) (by simp) ?_
  refine storeK 14 { tmps := (.agg #[.float .f32 ah, .float .f32 av] :: .agg #[.float .f32 bh, .float .f32 bv] :: .float .f32 x :: .pointer (some ⟨w.heap.size, 0, none⟩) :: .pointer (some ⟨w.heap.size + 1, 0, none⟩) :: undef :: .pointer (some ⟨w.heap.size + 1 + 1, 0, none⟩) :: .int .i64 0 :: .pointer (some ⟨g8, 0, none⟩) :: .agg #[.float .f32 ah, .float .f32 av] :: .bool true :: .bool false :: .bool false :: .agg #[.float .f32 bh, .float .f32 bv] :: .bool true :: .bool false :: .bool false :: undef :: .float .f32 x :: .bool true :: .bool false :: undef :: .pointer (some ⟨w.heap.size, 0, none⟩) :: .float .f32 ah :: .pointer (some ⟨w.heap.size + 1, 0, none⟩) :: .float .f32 bh :: .float .f32 x :: .float .f32 (mixW ah bh x) :: .pointer (some ⟨w.heap.size, 1, none⟩) :: .float .f32 av :: .pointer (some ⟨w.heap.size + 1, 1, none⟩) :: .float .f32 bv :: .float .f32 x :: .float .f32 (mixW av bv x) :: .agg #[.float .f32 (mixW ah bh x), .float .f32 (mixW av bv x)] :: undef :: undef :: undef :: undef :: undef :: []).toArray, defers := [] } #[true, true, true, true, true, true, true, true, true, true, true, true, true, true, true] k10 hB8 hn8 rfl (by rfl) 32 _ _ rfl (#[.float .f32 (mixW ah bh x), .float .f32 (mixW av bv x)]) (by rfl) (by rfl) (info_air) (by simp) (by simp [Value.oneCell']) (by rfl) (by rfl) (fun w11 k11 => ?_) AllReadyH.nil
  refine ⟨k11.tail, ?_⟩
  exact wpAnyH_done (by kernel_rfl) (NoPanic.normal (key g8 _ (hid k11))) _

set_option maxRecDepth 100000 in
theorem sAirAt_f (h v : Nat) (hv : v < 4294967296) (hq : airB h v = false) (w : World) (g o : Nat) (c0 : w.cell? ⟨g, o, none⟩ = some (.float .f32 h)) (c1 : w.cell? ⟨g, o + 1, none⟩ = some (.float .f32 v)) :
    Calls Try.prog 65 #[.pointer (some ⟨g, o, none⟩)] w fun e w' => e = .returned (.bool false) ∧ Below w.heap.size w w' := by
  have Hv := hid hv
  have e1 : airB h v = (heatB h && amtB v && vapB v) := rfl
  rw [e1] at hq
  clear hv e1
  rcases a : heatB h with _ | _
  · have Ha := hid a
    clear a hq
    go_enter Try.func65, Try.ntmps65
    go_wp2_with fail
    refine (sHeat h false Ha.out _).mono ?_
    rintro e w1 ⟨rfl, rfl⟩
    go_wp2
    go_ret
    exact ⟨rfl, Below.refl _ _⟩
  · have Ha := hid a
    rw [a] at hq
    clear a
    rcases b : amtB v with _ | _
    · have Hb := hid b
      clear b hq
      go_enter Try.func65, Try.ntmps65
      go_wp2_with fail
      refine (sHeat h true Ha.out _).mono ?_
      rintro e w1 ⟨rfl, rfl⟩
      go_wp2_with fail
      refine (sAmount_f v Hv.out Hb.out _).mono ?_
      rintro e w1 ⟨rfl, hb1⟩
      go_wp2
      go_ret
      exact ⟨rfl, hb1⟩
    · have Hb := hid b
      rw [b] at hq
      simp only [Bool.true_and] at hq
      have hc : (FloatKind.f32.format.order v 1148846080 == some .lt || FloatKind.f32.format.order v 1148846080 == some .eq) = false := hq
      clear b hq
      go_enter Try.func65, Try.ntmps65
      go_wp2_with fail
      refine (sHeat h true Ha.out _).mono ?_
      rintro e w1 ⟨rfl, rfl⟩
      go_wp2_with fail
      refine (sAmount_t v Hb.out _).mono ?_
      rintro e w1 ⟨rfl, rfl⟩
      go_wp2
      go_ret
      exact ⟨rfl, Below.refl _ _⟩

set_option maxRecDepth 100000 in
theorem sAirAt_t (h v : Nat) (hq : airB h v = true) (w : World) (g o : Nat) (c0 : w.cell? ⟨g, o, none⟩ = some (.float .f32 h)) (c1 : w.cell? ⟨g, o + 1, none⟩ = some (.float .f32 v)) :
    Calls Try.prog 65 #[.pointer (some ⟨g, o, none⟩)] w fun e w' => e = .returned (.bool true) ∧ w = w' := by
  obtain ⟨a, b, c⟩ := airB_iff.1 hq
  have hc : (FloatKind.f32.format.order v 1148846080 == some .lt || FloatKind.f32.format.order v 1148846080 == some .eq) = true := c
  have Ha := hid a
  have Hb := hid b
  clear a b c hq
  go_enter Try.func65, Try.ntmps65
  go_wp2_with fail
  refine (sHeat h true Ha.out _).mono ?_
  rintro e w1 ⟨rfl, rfl⟩
  go_wp2_with fail
  refine (sAmount_t v Hb.out _).mono ?_
  rintro e w1 ⟨rfl, rfl⟩
  go_wp2
  go_ret
  exact ⟨rfl, rfl⟩

theorem sAirAt (h v : Nat) (hv : v < 4294967296) (q : Bool) (hq : airB h v = q) (w : World) (g o : Nat) (c0 : w.cell? ⟨g, o, none⟩ = some (.float .f32 h)) (c1 : w.cell? ⟨g, o + 1, none⟩ = some (.float .f32 v)) :
    Calls Try.prog 65 #[.pointer (some ⟨g, o, none⟩)] w fun e w' => e = .returned (.bool q) ∧ Below w.heap.size w w' := by
  cases q
  · exact sAirAt_f h v hv hq w g o c0 c1
  · exact loose (sAirAt_t h v hq w g o c0 c1)

set_option maxRecDepth 100000 in
theorem sOkAt_t (c : Nat → Nat) (h : Amts c) (w : World) (g o : Nat) (hg : ∀ k, k < 20 → w.cell? ⟨g, o + k, none⟩ = some (.float .f32 (c k))) :
    Calls Try.prog 64 #[.pointer (some ⟨g, o, none⟩)] w fun e w' => e = .returned (.bool true) ∧ w = w' := by
  have H := hid h
  have HG := hid hg
  clear h hg
  go_enter Try.func64, Try.ntmps64
  go_wp2
  go_loop [3] (fun i => ∃ k : Nat, k ≤ 20 ∧ i = .int .i64 k) (fun i => 20 - (intOf i).toNat)
  case atStart => exact ⟨0, by omega, rfl⟩
  case round =>
    obtain ⟨k, hk, rfl⟩ := hrel
    by_cases hlt : k < 20
    · have hcell := HG.out k hlt
      go_wp2_with (go_at_call 66; refine (sAmount_t (c k) (H.out k hlt) _).mono ?_; rintro e w' ⟨rfl, rfl⟩)
      go_round
      case rel => exact ⟨k + 1, by omega, by go_num⟩
      case measure => simp [intOf]; omega
    · go_wp2
      go_ret
      exact ⟨rfl, rfl⟩

set_option maxRecDepth 100000 in
theorem sOkAt_f (c : Nat → Nat) (hb : ∀ i, i < 20 → c i < 4294967296) (h : ¬ Amts c) (w : World) (g o : Nat) (hg : ∀ k, k < 20 → w.cell? ⟨g, o + k, none⟩ = some (.float .f32 (c k))) :
    Calls Try.prog 64 #[.pointer (some ⟨g, o, none⟩)] w fun e w' => e = .returned (.bool false) ∧ Below w.heap.size w w' := by
  have H := hid h
  have HB := hid hb
  have HG := hid hg
  clear h hb hg
  go_enter Try.func64, Try.ntmps64
  go_wp2
  go_loop [3] (fun i => ∃ k : Nat, k ≤ 20 ∧ Hid (∀ i, i < k → amtB (c i) = true) ∧ i = .int .i64 k) (fun i => 20 - (intOf i).toNat)
  case atStart => exact ⟨0, by omega, hid (fun i hi => by omega), rfl⟩
  case round =>
    obtain ⟨k, hk, HK, rfl⟩ := hrel
    by_cases hlt : k < 20
    · have hcell := HG.out k hlt
      rcases hac : amtB (c k) with _ | _
      · have HA := hid hac
        clear hac
        go_wp2_with (go_at_call 66; refine (sAmount_f (c k) (HB.out k hlt) HA.out _).mono ?_; rintro e w' ⟨rfl, hb⟩)
        go_ret
        exact ⟨rfl, hb⟩
      · have HA := hid hac
        clear hac
        go_wp2_with (go_at_call 66; refine (sAmount_t (c k) HA.out _).mono ?_; rintro e w' ⟨rfl, rfl⟩)
        go_round
        case rel =>
          refine ⟨k + 1, by omega, hid (fun i hi => ?_), by go_num⟩
          by_cases e : i = k
          · subst e; exact HA.out
          · exact HK.out i (by omega)
        case measure => simp [intOf]; omega
    · have hk20 : k = 20 := by omega
      exact (H.out (fun i hi => HK.out i (by omega))).elim

set_option maxHeartbeats 1000000 in
set_option maxRecDepth 100000 in
theorem sColOk (c : Nat → Nat) (t : Int) (hb : ∀ i, i < 177 → c i < 4294967296) (q : Bool) (hq : q = true ↔ ColOk c t) (w : World) (g : Nat) (T : TypeId) (hg : vAt w g 178 (clw c t) T) :
    Calls Try.prog 53 #[.pointer (some ⟨g, 0, none⟩)] w fun e w' => e = .returned (.bool q) ∧ Below w.heap.size w w' := by
  have HB := hid hb
  have HQ := hid hq
  have HG := hid hg
  clear hb hq hg
  go_enter Try.func53, Try.ntmps53
  go_wp2_with fail
  go_loopw [3] (fun i wr => ∃ k : Nat, k ≤ 8 ∧ i = .int .i64 k ∧ Hid (UpOk c k) ∧ Hid (vAt wr g 178 (clw c t) T) ∧ Hid (Below w.heap.size w wr)) (fun i _ => 8 - (intOf i).toNat)
  case atStart => exact ⟨0, by omega, rfl, hid (.zero c), HG, hid (Below.refl _ _)⟩
  case round =>
    obtain ⟨k, hk, rfl, HK, h0, hb⟩ := hrel
    by_cases hlt : k < 8
    · have HL := hid hlt
      have hk3 : (k : Int) < 8 := by omega
      by_cases hv : Amts (rowK c k)
      · have HV := hid hv
        clear hv
        go_wp2_with fail
        refine (sOkAt_t (rowK c k) HV.out _ g (k * 20) (h0.out.cd HL.out)).mono ?_
        rintro e w1 ⟨rfl, rfl⟩
        rcases ha : airB (heC c k) (vaC c k) with _ | _
        · have hn := no_air hlt ha HQ.out
          subst hn
          have HA := hid ha
          clear ha
          go_wp2_with fail
          refine (sAirAt (heC c k) (vaC c k) (HB.out _ (by have := HL.out; omega)) false HA.out _ g (160 + k * 2) (h0.out.ch HL.out) (h0.out.cv HL.out)).mono ?_
          rintro e w1 ⟨rfl, hb1⟩
          go_wp2
          go_ret
          exact ⟨rfl, stp hb.out (Nat.le_refl _) hb1⟩
        · have HA := hid ha
          clear ha
          go_wp2_with fail
          refine (sAirAt_t (heC c k) (vaC c k) HA.out _ g (160 + k * 2) (h0.out.ch HL.out) (h0.out.cv HL.out)).mono ?_
          rintro e w1 ⟨rfl, rfl⟩
          go_wp2
          go_roundw
          case rel => exact ⟨k + 1, by omega, by go_num, hid (HK.out.step HV.out HA.out), h0, hb⟩
          case measure => simp [intOf]; omega
      · have hn := no_sz hlt hv HQ.out
        subst hn
        have HV := hid hv
        clear hv
        go_wp2_with fail
        refine (sOkAt_f (rowK c k) (fun i hi => HB.out _ (by have := HL.out; omega)) HV.out _ g (k * 20) (h0.out.cd HL.out)).mono ?_
        rintro e w1 ⟨rfl, hb1⟩
        go_wp2
        go_ret
        exact ⟨rfl, stp hb.out (Nat.le_refl _) hb1⟩
    · obtain rfl : k = 8 := by omega
      have q0 := h0.out.cf (i := 176) (by omega)
      have q1 := h0.out.ct
      rcases ha : amtB (c 176) with _ | _
      · have hn := no_gauge ha HQ.out
        subst hn
        have HA := hid ha
        clear ha
        go_wp2_with fail
        refine (sAmount_f (c 176) (HB.out _ (by omega)) HA.out _).mono ?_
        rintro e w1 ⟨rfl, hb1⟩
        go_wp2
        go_ret
        exact ⟨rfl, stp hb.out (Nat.le_refl _) hb1⟩
      · have hi := is_col HK.out ha HQ.out
        have HI := hid hi
        have HA := hid ha
        clear ha hi
        go_wp2_with fail
        refine (sAmount_t (c 176) HA.out _).mono ?_
        rintro e w1 ⟨rfl, rfl⟩
        go_wp2_with fail
        cases q
        · refine (l00In_f t 0 1000000000 (fun x => by cases HI.out.1 x) _).mono ?_
          rintro e w1 ⟨rfl, rfl⟩
          go_wp2
          go_ret
          exact ⟨rfl, hb.out⟩
        · refine (l00In_t t 0 1000000000 (HI.out.2 rfl).1 (HI.out.2 rfl).2 _).mono ?_
          rintro e w1 ⟨rfl, rfl⟩
          go_wp2
          go_ret
          exact ⟨rfl, hb.out⟩

theorem info_col : (Try.prog.info? 35).map (·.size) = some 178 := by kernel_rfl

set_option maxHeartbeats 1000000 in
set_option maxRecDepth 100000 in
theorem iValidColumn (c : Nat → Nat) (t : Int) (hb : ∀ i, i < 177 → c i < 4294967296) (q : Bool) (hq : q = true ↔ ColOk c t) (w : World) :
    Calls Try.prog 57 #[.agg (vls 178 (clw c t))] w fun e w' => e = .returned (.bool q) ∧ Below w.heap.size w w' := by
  have HB := hid hb
  have HQ := hid hq
  have A0 := hid (vAt.new w 178 (clw c t) 35)
  have b0 := boxed w (.cells (vls 178 (clw c t)) 35)
  clear hb hq
  go_enter Try.func57, Try.ntmps57
  go_wp2_with fail
  go_loopw [4] (fun i wr => ∃ k : Nat, k ≤ 8 ∧ i = .int .i64 k ∧ Hid (UpOk c k) ∧ Hid (vAt wr w.heap.size 178 (clw c t) 35) ∧ Hid (Below w.heap.size w wr)) (fun i _ => 8 - (intOf i).toNat)
  case atStart => exact ⟨0, by omega, rfl, hid (.zero c), A0, hid b0⟩
  case round =>
    clear A0 b0
    obtain ⟨k, hk, rfl, HK, h0, hb⟩ := hrel
    by_cases hlt : k < 8
    · have HL := hid hlt
      have hk3 : (k : Int) < 8 := by omega
      by_cases hv : Amts (rowK c k)
      · have HV := hid hv
        clear hv
        go_wp2_with (refine wpList_load_as (by rfl) 30 _ (by rfl) (w.heap.size) (k * 20) (by rfl) 178 (clw c t) 35 h0.out 20 (by omega) (fls (rowK c k)) (dr_is c t k HL.out) _ Try.underlying30 (by rfl) info_arr ?_)
        refine (validSizes_t (rowK c k) HV.out _).mono ?_
        rintro e w1 ⟨rfl, hb1⟩
        have h0 := hid (h0.out.stay hb1)
        have hb := hid (stp hb.out (Nat.le_refl _) hb1)
        rcases ha : airB (heC c k) (vaC c k) with _ | _
        · have hn := no_air hlt ha HQ.out
          subst hn
          have HA := hid ha
          clear ha
          go_wp2_with (refine wpList_load_as (by rfl) 32 _ (by rfl) (w.heap.size) (160 + k * 2) (by rfl) 178 (clw c t) 35 h0.out 2 (by omega) #[.float .f32 (heC c k), .float .f32 (vaC c k)] (part_air c t HL.out) _ Try.underlying32 (by rfl) info_air ?_)
          refine (iValidAir (heC c k) (vaC c k) (HB.out _ (by have := HL.out; omega)) false HA.out _).mono ?_
          rintro e w2 ⟨rfl, hb2⟩
          go_wp2
          go_ret
          exact ⟨rfl, stp hb.out (Nat.le_refl _) hb2⟩
        · have HA := hid ha
          clear ha
          go_wp2_with (refine wpList_load_as (by rfl) 32 _ (by rfl) (w.heap.size) (160 + k * 2) (by rfl) 178 (clw c t) 35 h0.out 2 (by omega) #[.float .f32 (heC c k), .float .f32 (vaC c k)] (part_air c t HL.out) _ Try.underlying32 (by rfl) info_air ?_)
          refine (iValidAir (heC c k) (vaC c k) (HB.out _ (by have := HL.out; omega)) true HA.out _).mono ?_
          rintro e w2 ⟨rfl, hb2⟩
          have h0 := hid (h0.out.stay hb2)
          have hb := hid (stp hb.out (Nat.le_refl _) hb2)
          go_wp2
          go_roundw
          case rel => exact ⟨k + 1, by omega, by go_num, hid (HK.out.step HV.out HA.out), h0, hb⟩
          case measure => simp [intOf]; omega
      · have hn := no_sz hlt hv HQ.out
        subst hn
        have HV := hid hv
        clear hv
        go_wp2_with (refine wpList_load_as (by rfl) 30 _ (by rfl) (w.heap.size) (k * 20) (by rfl) 178 (clw c t) 35 h0.out 20 (by omega) (fls (rowK c k)) (dr_is c t k HL.out) _ Try.underlying30 (by rfl) info_arr ?_)
        refine (validSizes_f (rowK c k) (fun i hi => HB.out _ (by have := HL.out; omega)) HV.out _).mono ?_
        rintro e w1 ⟨rfl, hb1⟩
        go_wp2
        go_ret
        exact ⟨rfl, stp hb.out (Nat.le_refl _) hb1⟩
    · obtain rfl : k = 8 := by omega
      have q0 := h0.out.cf (i := 176) (by omega)
      have q1 := h0.out.ct
      rcases ha : amtB (c 176) with _ | _
      · have hn := no_gauge ha HQ.out
        subst hn
        have HA := hid ha
        clear ha
        go_wp2_with fail
        refine (isAmount_f (c 176) (HB.out _ (by omega)) HA.out _).mono ?_
        rintro e w1 ⟨rfl, hb1⟩
        go_wp2
        go_ret
        exact ⟨rfl, stp hb.out (Nat.le_refl _) hb1⟩
      · have hi := is_col HK.out ha HQ.out
        have HI := hid hi
        have HA := hid ha
        clear ha hi
        go_wp2_with fail
        refine (isAmount_t (c 176) HA.out _).mono ?_
        rintro e w1 ⟨rfl, rfl⟩
        by_cases h1 : 0 ≤ t
        · by_cases h2 : t ≤ 1000000000
          · have hqt : q = true := HI.out.1 ⟨h1, h2⟩
            subst hqt
            go_wp2_with fail
            go_ret
            exact ⟨by simp, hb.out⟩
          · have hqt : q = false := by rw [← Bool.not_eq_true]; exact fun x => h2 (HI.out.2 x).2
            subst hqt
            go_wp2_with fail
            go_ret
            exact ⟨by simp [h2], hb.out⟩
        · have hqt : q = false := by rw [← Bool.not_eq_true]; exact fun x => h1 (HI.out.2 x).1
          subst hqt
          go_wp2_with fail
          go_ret
          exact ⟨by simp, hb.out⟩

theorem info_ld : (Try.prog.info? 24).map (·.size) = some 160 := by kernel_rfl

theorem info_la : (Try.prog.info? 27).map (·.size) = some 16 := by kernel_rfl

theorem info_sz8 : (Try.prog.info? 31).map (·.size) = some 160 := by kernel_rfl

theorem info_air8 : (Try.prog.info? 33).map (·.size) = some 16 := by kernel_rfl

theorem info_lcol : (Try.prog.info? 29).map (·.size) = some 178 := by kernel_rfl

@[go_sem] theorem zero_sz8 : Try.zeroCells31 = vls 160 (flw fun _ => 0) := by kernel_rfl

@[go_sem] theorem zeros16 : (#[.float .f32 0, .float .f32 0, .float .f32 0, .float .f32 0, .float .f32 0, .float .f32 0, .float .f32 0, .float .f32 0, .float .f32 0, .float .f32 0, .float .f32 0, .float .f32 0, .float .f32 0, .float .f32 0, .float .f32 0, .float .f32 0] : Array Value) = vls 16 (flw fun _ => 0) := rfl

@[go_sem] theorem zero_col : Try.zeroCells35 = vls 178 (clw (fun _ => 0) 0) := by kernel_rfl

set_option maxRecDepth 100000 in
theorem toSizesA8 (c : Nat → Nat) (w : World) :
    Calls Try.prog 55 #[.agg (vls 160 (flw c))] w fun e w' => e = .returned (.agg (vls 160 (flw c))) ∧ Below w.heap.size w w' := by
  have A0 := hid (((vAt.new w 160 (flw c) 24).alloc (.cells (vls 160 (flw fun _ => 0)) 31)).alloc (.cells (vls 160 (flw fun _ => 0)) 31))
  have A1 := hid ((vAt.new1 w (.cells (vls 160 (flw c)) 24) 160 (flw fun _ => 0) 31).alloc (.cells (vls 160 (flw fun _ => 0)) 31))
  have A2 := hid (vAt.new2 w (.cells (vls 160 (flw c)) 24) (.cells (vls 160 (flw fun _ => 0)) 31) 160 (flw fun _ => 0) 31)
  have b0 := boxed3 w (.cells (vls 160 (flw c)) 24) (.cells (vls 160 (flw fun _ => 0)) 31) (.cells (vls 160 (flw fun _ => 0)) 31)
  go_enter Try.func55, Try.ntmps55
  go_wp2_with fail
  go_loopw [4] (fun i wr => ∃ k : Nat, k ≤ 8 ∧ i = .int .i64 k ∧ Hid (vAt wr w.heap.size 160 (flw c) 24) ∧ Hid (vAt wr (w.heap.size + 1) 160 (flw fun _ => 0) 31) ∧ Hid (vAt wr (w.heap.size + 1 + 1) 160 (flw (rowsP c (fun _ => 0) k)) 31) ∧ Hid (Below w.heap.size w wr)) (fun i _ => 8 - (intOf i).toNat)
  case atStart => exact ⟨0, by omega, rfl, A0, A1, hid (A2.out.ext fun i _ => by unfold flw; rw [rowsP_zero]), hid b0⟩
  case round =>
    obtain ⟨k, hk, rfl, h0, h1, h2, hb⟩ := hrel
    by_cases hlt : k < 8
    · go_wp2_with (refine wpList_load_as (by rfl) 23 _ (by rfl) w.heap.size (k * 20) (by rfl) 160 (flw c) 24 h0.out 20 (by omega) (fls (rowK c k)) (row_isN c k) _ Try.underlying23 (by rfl) info_a20 ?_)
      refine (toSizes (rowK c k) _).mono ?_
      rintro e w1 ⟨rfl, hb1⟩
      have g0 := hid (h0.out.stay hb1)
      have g1 := hid (h1.out.stay hb1)
      have g2 := hid (h2.out.stay hb1)
      have c1 := stp hb.out (Nat.le_refl _) hb1
      have n0 := hid (g0.out.setPartOther (k := w.heap.size + 1 + 1) (by omega) (k * 20) (fls (rowK c k)).toList)
      have n1 := hid (g1.out.setPartOther (k := w.heap.size + 1 + 1) (by omega) (k * 20) (fls (rowK c k)).toList)
      have n2 := hid g2.out.setRowN
      have nb := below_cells (g := w.heap.size + 1 + 1) (by omega) (fls (rowK c k)).toList (k * 20) c1
      clear h0 h1 h2 hb
      go_wp2_with (refine wpList_store_as (by rfl) 30 _ _ (by rfl) (w.heap.size + 1 + 1) (k * 20) (fls (rowK c k)) (by rfl) (by rfl) 160 (flw (rowsP c (fun _ => 0) k)) 31 g2.out 20 (fls_size _) (by omega) info_arr (fls_one _) ?_; intro w9 hw9; rw [← hw9] at n0 n1 n2 nb; clear hw9 g0 g1 g2)
      go_roundw
      case rel => exact ⟨k + 1, by omega, by go_num, n0, n1, n2, hid nb⟩
      case measure => simp [intOf]; omega
    · obtain rfl : k = 8 := by omega
      have h2' := hid (h2.out.ext (d := flw c) fun i hi => by unfold flw; rw [rowsP_all8 _ _ i hi])
      clear h2
      go_wp2_with (first | (refine wpList_load_row rfl 31 _ rfl (w.heap.size + 1 + 1) rfl 31 (vls 160 (flw c)) (0, 0) _ h2'.out Try.underlying31 rfl (by rw [vls_size]; exact info_sz8) ?_) | (refine wpList_store_row rfl 31 _ _ rfl (w.heap.size + 1) (vls 160 (flw c)) rfl rfl 31 _ h1.out (by rw [vls_size]; exact info_sz8) (by simp) (vls_one (flw_one c)) ?_))
      exact bodyPost_ret (results_cell_row rfl _ _ (w.heap.size + 1) 31 (vls 160 (flw c)) (0, 0) _ rfl (h1.out.setRow (flw c)) Try.underlying31 rfl (by rw [vls_size]; exact info_sz8)) rfl ⟨rfl, below_row hb.out (by omega) _⟩

set_option maxRecDepth 100000 in
theorem toAirA8 (c : Nat → Nat) (w : World) :
    Calls Try.prog 56 #[.agg (vls 16 (flw c))] w fun e w' => e = .returned (.agg (vls 16 (flw c))) ∧ Below w.heap.size w w' := by
  have A0 := hid (((vAt.new w 16 (flw c) 27).alloc (.cells (vls 16 (flw fun _ => 0)) 33)).alloc (.cells (vls 16 (flw fun _ => 0)) 33))
  have A1 := hid ((vAt.new1 w (.cells (vls 16 (flw c)) 27) 16 (flw fun _ => 0) 33).alloc (.cells (vls 16 (flw fun _ => 0)) 33))
  have A2 := hid (vAt.new2 w (.cells (vls 16 (flw c)) 27) (.cells (vls 16 (flw fun _ => 0)) 33) 16 (flw fun _ => 0) 33)
  have b0 := boxed3 w (.cells (vls 16 (flw c)) 27) (.cells (vls 16 (flw fun _ => 0)) 33) (.cells (vls 16 (flw fun _ => 0)) 33)
  go_enter Try.func56, Try.ntmps56
  go_wp2_with fail
  go_loopw [4] (fun i wr => ∃ k : Nat, k ≤ 8 ∧ i = .int .i64 k ∧ Hid (vAt wr w.heap.size 16 (flw c) 27) ∧ Hid (vAt wr (w.heap.size + 1) 16 (flw fun _ => 0) 33) ∧ Hid (vAt wr (w.heap.size + 1 + 1) 16 (flw (twosP c (fun _ => 0) k)) 33) ∧ Hid (Below w.heap.size w wr)) (fun i _ => 8 - (intOf i).toNat)
  case atStart => exact ⟨0, by omega, rfl, A0, A1, hid (A2.out.ext fun i _ => by unfold flw; rw [twosP_zero]), hid b0⟩
  case round =>
    obtain ⟨k, hk, rfl, h0, h1, h2, hb⟩ := hrel
    by_cases hlt : k < 8
    · go_wp2_with (refine wpList_load_as (by rfl) 26 _ (by rfl) w.heap.size (k * 2) (by rfl) 16 (flw c) 27 h0.out 2 (by omega) #[.float .f32 (c (k * 2)), .float .f32 (c (k * 2 + 1))] (two_is c k) _ Try.underlying26 (by rfl) info_lair ?_)
      refine (toAir (c (k * 2)) (c (k * 2 + 1)) _).mono ?_
      rintro e w1 ⟨rfl, hb1⟩
      have g0 := hid (h0.out.stay hb1)
      have g1 := hid (h1.out.stay hb1)
      have g2 := hid (h2.out.stay hb1)
      have c1 := stp hb.out (Nat.le_refl _) hb1
      have n0 := hid (g0.out.setPartOther (k := w.heap.size + 1 + 1) (by omega) (k * 2) (#[.float .f32 (c (k * 2)), .float .f32 (c (k * 2 + 1))] : Array Value).toList)
      have n1 := hid (g1.out.setPartOther (k := w.heap.size + 1 + 1) (by omega) (k * 2) (#[.float .f32 (c (k * 2)), .float .f32 (c (k * 2 + 1))] : Array Value).toList)
      have n2 := hid (show vAt (w1.setCells (w.heap.size + 1 + 1) (k * 2) (#[.float .f32 (c (k * 2)), .float .f32 (c (k * 2 + 1))] : Array Value).toList) (w.heap.size + 1 + 1) 16 (flw (twosP c (fun _ => 0) (k + 1))) 33 from g2.out.setTwo)
      have nb := below_cells (g := w.heap.size + 1 + 1) (by omega) (#[.float .f32 (c (k * 2)), .float .f32 (c (k * 2 + 1))] : Array Value).toList (k * 2) c1
      clear h0 h1 h2 hb
      go_wp2_with (refine wpList_store_as (by rfl) 32 _ _ (by rfl) (w.heap.size + 1 + 1) (k * 2) #[.float .f32 (c (k * 2)), .float .f32 (c (k * 2 + 1))] (by rfl) (by rfl) 16 (flw (twosP c (fun _ => 0) k)) 33 g2.out 2 rfl (by omega) info_air (two_one _ _) ?_; intro w9 hw9; rw [← hw9] at n0 n1 n2 nb; clear hw9 g0 g1 g2)
      go_roundw
      case rel => exact ⟨k + 1, by omega, by go_num, n0, n1, n2, hid nb⟩
      case measure => simp [intOf]; omega
    · obtain rfl : k = 8 := by omega
      have h2' := hid (h2.out.ext (d := flw c) fun i hi => by unfold flw; rw [twosP_all8 _ _ i hi])
      clear h2
      go_wp2_with (first | (refine wpList_load_row rfl 33 _ rfl (w.heap.size + 1 + 1) rfl 33 (vls 16 (flw c)) (0, 0) _ h2'.out Try.underlying33 rfl (by rw [vls_size]; exact info_air8) ?_) | (refine wpList_store_row rfl 33 _ _ rfl (w.heap.size + 1) (vls 16 (flw c)) rfl rfl 33 _ h1.out (by rw [vls_size]; exact info_air8) (by simp) (vls_one (flw_one c)) ?_))
      exact bodyPost_ret (results_cell_row rfl _ _ (w.heap.size + 1) 33 (vls 16 (flw c)) (0, 0) _ rfl (h1.out.setRow (flw c)) Try.underlying33 rfl (by rw [vls_size]; exact info_air8)) rfl ⟨rfl, below_row hb.out (by omega) _⟩

set_option maxRecDepth 100000 in
theorem eqSizesA8 (c : Nat → Nat) (hb : ∀ i, i < 160 → c i < 4294967296) (h : ∀ i, i < 160 → finB (c i) = true) (w : World) :
    Calls Try.prog 62 #[.agg (vls 160 (flw c)), .agg (vls 160 (flw c))] w fun e w' => e = .returned (.bool true) ∧ Below w.heap.size w w' := by
  have A0 := hid ((vAt.new w 160 (flw c) 31).alloc (.cells (vls 160 (flw c)) 31))
  have A1 := hid (vAt.new1 w (.cells (vls 160 (flw c)) 31) 160 (flw c) 31)
  have b0 := boxed2 w (.cells (vls 160 (flw c)) 31) (.cells (vls 160 (flw c)) 31)
  have H := hid h
  have HB := hid hb
  clear h hb
  go_enter Try.func62, Try.ntmps62
  go_wp2_with fail
  go_loopw [5] (fun i wr => ∃ k : Nat, k ≤ 8 ∧ i = .int .i64 k ∧ Hid (vAt wr w.heap.size 160 (flw c) 31) ∧ Hid (vAt wr (w.heap.size + 1) 160 (flw c) 31) ∧ Hid (Below w.heap.size w wr)) (fun i _ => 8 - (intOf i).toNat)
  case atStart => exact ⟨0, by omega, rfl, A0, A1, hid b0⟩
  case round =>
    obtain ⟨k, hk, rfl, h0, h1, hb⟩ := hrel
    by_cases hlt : k < 8
    · have hk3 : (k : Int) < 8 := by omega
      go_wp2_with fail
      have h0 := hid h0.out.drew
      have h1 := hid h1.out.drew
      have hb := hid hb.out.drew
      refine wp_region_still_tail 6 (by kernel_rfl) (by kernel_rfl) ?_
      change wpStill _ _ wr.drew (fun a' => wpList _ _ _ _ a' wr.drew) _ _
      simp only [List.take_succ_cons, List.take_zero, List.drop_succ_cons, List.drop_zero]
      generalize wr.drew = w2 at h0 h1 hb ⊢
      still_step
      still_step
      refine still_load rfl 30 _ rfl _ rfl _ (h0.out.partAt (k * 20) 20 (by omega) (fls (rowK c k)) (row_isN c k) Try.underlying30 (by rfl) info_arr) ?_
      simp only [Act.put, List.setIfInBounds_toArray, List.set_cons_zero, List.set_cons_succ]
      still_step
      still_step
      refine still_load rfl 30 _ rfl _ rfl _ (h1.out.partAt (k * 20) 20 (by omega) (fls (rowK c k)) (row_isN c k) Try.underlying30 (by rfl) info_arr) ?_
      refine wpStill_nil ?_
      go_wp2_with fail
      refine (eqSizes (rowK c k) (fun i hi => HB.out _ (by omega)) (fun i hi => H.out _ (by omega)) _).mono ?_
      rintro e w3 ⟨rfl, hb3⟩
      have h0 := hid (h0.out.stay hb3)
      have h1 := hid (h1.out.stay hb3)
      have hb := stp hb.out (Nat.le_refl _) hb3
      go_wp2
      go_roundw
      case rel => exact ⟨k + 1, by omega, by go_num, h0, h1, hid hb⟩
      case measure => simp [intOf]; omega
    · go_wp2
      go_ret
      exact ⟨rfl, hb.out⟩

set_option maxRecDepth 100000 in
theorem eqAirA8 (c : Nat → Nat) (hb : ∀ i, i < 16 → c i < 4294967296) (h : ∀ i, i < 16 → finB (c i) = true) (w : World) :
    Calls Try.prog 63 #[.agg (vls 16 (flw c)), .agg (vls 16 (flw c))] w fun e w' => e = .returned (.bool true) ∧ Below w.heap.size w w' := by
  have A0 := hid ((vAt.new w 16 (flw c) 33).alloc (.cells (vls 16 (flw c)) 33))
  have A1 := hid (vAt.new1 w (.cells (vls 16 (flw c)) 33) 16 (flw c) 33)
  have b0 := boxed2 w (.cells (vls 16 (flw c)) 33) (.cells (vls 16 (flw c)) 33)
  have H := hid h
  have HB := hid hb
  clear h hb
  go_enter Try.func63, Try.ntmps63
  go_wp2_with fail
  go_loopw [5] (fun i wr => ∃ k : Nat, k ≤ 8 ∧ i = .int .i64 k ∧ Hid (vAt wr w.heap.size 16 (flw c) 33) ∧ Hid (vAt wr (w.heap.size + 1) 16 (flw c) 33) ∧ Hid (Below w.heap.size w wr)) (fun i _ => 8 - (intOf i).toNat)
  case atStart => exact ⟨0, by omega, rfl, A0, A1, hid b0⟩
  case round =>
    obtain ⟨k, hk, rfl, h0, h1, hb⟩ := hrel
    by_cases hlt : k < 8
    · have hk3 : (k : Int) < 8 := by omega
      go_wp2_with fail
      have h0 := hid h0.out.drew
      have h1 := hid h1.out.drew
      have hb := hid hb.out.drew
      refine wp_region_still_tail 6 (by kernel_rfl) (by kernel_rfl) ?_
      change wpStill _ _ wr.drew (fun a' => wpList _ _ _ _ a' wr.drew) _ _
      simp only [List.take_succ_cons, List.take_zero, List.drop_succ_cons, List.drop_zero]
      generalize wr.drew = w2 at h0 h1 hb ⊢
      still_step
      still_step
      refine still_load rfl 32 _ rfl _ rfl _ (h0.out.partAt (k * 2) 2 (by omega) #[.float .f32 (c (k * 2)), .float .f32 (c (k * 2 + 1))] (two_is c k) Try.underlying32 (by rfl) info_air) ?_
      simp only [Act.put, List.setIfInBounds_toArray, List.set_cons_zero, List.set_cons_succ]
      still_step
      still_step
      refine still_load rfl 32 _ rfl _ rfl _ (h1.out.partAt (k * 2) 2 (by omega) #[.float .f32 (c (k * 2)), .float .f32 (c (k * 2 + 1))] (two_is c k) Try.underlying32 (by rfl) info_air) ?_
      refine wpStill_nil ?_
      go_wp2_with fail
      refine (eqAir (c (k * 2)) (c (k * 2 + 1)) (HB.out _ (by omega)) (HB.out _ (by omega)) (H.out _ (by omega)) (H.out _ (by omega)) _).mono ?_
      rintro e w3 ⟨rfl, hb3⟩
      have h0 := hid (h0.out.stay hb3)
      have h1 := hid (h1.out.stay hb3)
      have hb := stp hb.out (Nat.le_refl _) hb3
      go_wp2
      go_roundw
      case rel => exact ⟨k + 1, by omega, by go_num, h0, h1, hid hb⟩
      case measure => simp [intOf]; omega
    · go_wp2
      go_ret
      exact ⟨rfl, hb.out⟩

theorem info_f32c : (Try.prog.info? 22).map (·.size) = some 1 := by kernel_rfl

theorem info_i64c : (Try.prog.info? 2).map (·.size) = some 1 := by kernel_rfl

/-- A column with the droplets of one, the airs of one. -/
theorem col_parts (c : Nat → Nat) (t : Int) (i : Nat) (hi : i < 178) : updV (updV (updR (updR (clw (fun _ => 0) 0) 0 160 (flw c)) 160 16 (flw (airsC c))) 176 (.float .f32 (c 176))) 177 (.int .i64 t) i = clw c t i := by
  unfold updV updR clw flw airsC
  by_cases h1 : i = 177
  · simp [h1]
  · by_cases h2 : i = 176
    · simp [h2]
    · by_cases h3 : 160 ≤ i
      · rw [if_neg h1, if_neg h2, if_pos (by omega), if_neg h1, show 160 + (i - 160) = i by omega]
      · rw [if_neg h1, if_neg h2, if_neg (by omega), if_pos (by omega), if_neg h1]; rfl

set_option maxHeartbeats 1000000 in
set_option maxRecDepth 100000 in
theorem toColumn (c : Nat → Nat) (t : Int) (w : World) :
    Calls Try.prog 14 #[.agg (vls 178 (clw c t))] w fun e w' => e = .returned (.agg (vls 178 (clw c t))) ∧ Below w.heap.size w w' := by
  have k0 : Hid (Kept w [(w.heap.size + 1 + 1, vls 178 (clw (fun _ => 0) 0), 35), (w.heap.size + 1, vls 178 (clw (fun _ => 0) 0), 35), (w.heap.size, vls 178 (clw c t), 29)] (((w.alloc (.cells (vls 178 (clw c t)) 29)).alloc (.cells (vls 178 (clw (fun _ => 0) 0)) 35)).alloc (.cells (vls 178 (clw (fun _ => 0) 0)) 35))) := hid (((((Kept.nil w).push _ _).push _ _).push _ _).sub (by simp))
  go_enter Try.func14, Try.ntmps14
  go_wp2_with (refine load_cut (by rfl) 24 _ (by rfl) (w.heap.size) 0 160 (by rfl) (k0.out.v in2) (by omega) (vls 160 (flw c)) (drops_is c t) _ Try.underlying24 (by rfl) info_ld ?_)
  refine (toSizesA8 c _).mono ?_
  rintro e w1 ⟨rfl, hb1⟩
  have k1 := hid (k0.out.stay hb1)
  clear k0 hb1
  have tok1 : True := trivial
  go_wp2_with (first | (have _t := tok1; refine store_cut (by rfl) 31 _ _ (by rfl) (w.heap.size + 1 + 1) 0 160 (flw c) (vls 160 (flw c)) (by rfl) (by rfl) rfl info_sz8 (flw_one c) k1.out (by omega) (by omega) (neC (by omega) (neC (by omega) ne0)) ?_; intro w2 k2; replace k2 := hid k2; clear k1 tok1) | (refine load_cut (by rfl) 27 _ (by rfl) (w.heap.size) 160 16 (by rfl) (k2.out.v in2) (by omega) (vls 16 (flw (airsC c))) (airs_is c t) _ Try.underlying27 (by rfl) info_la ?_))
  refine (toAirA8 (airsC c) _).mono ?_
  rintro e w3 ⟨rfl, hb3⟩
  have k3 := hid (k2.out.stay hb3)
  clear k2 hb3
  have tok1 : True := trivial
  go_wp2_with (first
    | (have _t := k6; refine wpList_load_row rfl 35 _ rfl (w.heap.size + 1 + 1) rfl 35 (vls 178 (clw c t)) (0, 0) _ (k6.out.v in0) Try.underlying35 rfl (by rw [vls_size]; exact info_col) ?_)
    | (have _t := k6; refine wpList_store_row rfl 35 _ _ rfl (w.heap.size + 1) (vls 178 (clw c t)) rfl rfl 35 _ (k6.out.v in1) (by rw [vls_size]; exact info_col) (by simp) (vls_one (clw_one c t)) ?_)
    | (have _t := k5; refine load_one (by rfl) 2 _ (by rfl) (w.heap.size) 177 (by rfl) (k5.out.v in2) (by omega) (.int .i64 t) clw_t _ Try.underlying2 (by rfl) ?_)
    | (have _t := k5; refine store_one (by rfl) 2 _ _ (by rfl) info_i64c (w.heap.size + 1 + 1) 177 (.int .i64 t) (by rfl) (by rfl) rfl rfl k5.out (by omega) (by omega) (neC (by omega) (neC (by omega) ne0)) ?_; intro w6 k6; replace k6 := hid (k6.ext (col_parts c t)); clear k5)
    | (have _t := k4; refine load_one (by rfl) 22 _ (by rfl) (w.heap.size) 176 (by rfl) (k4.out.v in2) (by omega) (.float .f32 (c 176)) (clw_f (by omega)) _ Try.underlying22 (by rfl) ?_)
    | (have _t := k4; refine store_one (by rfl) 22 _ _ (by rfl) info_f32c (w.heap.size + 1 + 1) 176 (.float .f32 (c 176)) (by rfl) (by rfl) rfl rfl k4.out (by omega) (by omega) (neC (by omega) (neC (by omega) ne0)) ?_; intro w5 k5; replace k5 := hid k5; clear k4)
    | (have _t := tok1; refine store_cut (by rfl) 33 _ _ (by rfl) (w.heap.size + 1 + 1) 160 16 (flw (airsC c)) (vls 16 (flw (airsC c))) (by rfl) (by rfl) rfl info_air8 (flw_one _) k3.out (by omega) (by omega) (neC (by omega) (neC (by omega) ne0)) ?_; intro w4 k4; replace k4 := hid k4; clear k3 tok1))
  have k7 := Kept.v (B := w.heap.size + 1) (f := clw (fun _ => 0) 0) (T := 35) k6.out in1
  exact bodyPost_ret (results_cell_row rfl _ _ (w.heap.size + 1) 35 (vls 178 (clw c t)) (0, 0) _ rfl (k7.setRow (clw c t)) Try.underlying35 rfl (by rw [vls_size]; exact info_col)) rfl ⟨rfl, below_row k6.out.1 (by omega) _⟩

set_option maxHeartbeats 1000000 in
set_option maxRecDepth 100000 in
theorem eqColumn (c : Nat → Nat) (t : Int) (hb : ∀ i, i < 177 → c i < 4294967296) (h : ∀ i, i < 177 → finB (c i) = true) (w : World) :
    Calls Try.prog 16 #[.agg (vls 178 (clw c t)), .agg (vls 178 (clw c t))] w fun e w' => e = .returned (.bool true) ∧ Below w.heap.size w w' := by
  have k0 : Hid (Kept w [(w.heap.size + 1, vls 178 (clw c t), 35), (w.heap.size, vls 178 (clw c t), 35)] ((w.alloc (.cells (vls 178 (clw c t)) 35)).alloc (.cells (vls 178 (clw c t)) 35))) := hid ((((Kept.nil w).push _ _).push _ _).sub (by simp))
  have hc := fun w => run_conv_wid (P := Try.prog) w 22 94 (c 176) (hb 176 (by omega)) Try.underlying22 Try.underlying94 (finB_iff.1 (h 176 (by omega)))
  have H := hid h
  have HB := hid hb
  clear h hb
  go_enter Try.func16, Try.ntmps16
  go_wp2_with (first
    | (refine load_cut (by rfl) 31 _ (by rfl) (w.heap.size) 0 160 (by rfl) (k0.out.v in1) (by omega) (vls 160 (flw c)) (drops_is c t) _ Try.underlying31 (by rfl) info_sz8 ?_)
    | (refine load_cut (by rfl) 31 _ (by rfl) (w.heap.size + 1) 0 160 (by rfl) (k0.out.v in0) (by omega) (vls 160 (flw c)) (drops_is c t) _ Try.underlying31 (by rfl) info_sz8 ?_))
  refine (eqSizesA8 c (fun i hi => HB.out i (by omega)) (fun i hi => H.out i (by omega)) _).mono ?_
  rintro e w1 ⟨rfl, hb1⟩
  have k1 := hid (k0.out.stay hb1)
  clear k0 hb1
  go_wp2_with (first
    | (refine load_cut (by rfl) 33 _ (by rfl) (w.heap.size) 160 16 (by rfl) (k1.out.v in1) (by omega) (vls 16 (flw (airsC c))) (airs_is c t) _ Try.underlying33 (by rfl) info_air8 ?_)
    | (refine load_cut (by rfl) 33 _ (by rfl) (w.heap.size + 1) 160 16 (by rfl) (k1.out.v in0) (by omega) (vls 16 (flw (airsC c))) (airs_is c t) _ Try.underlying33 (by rfl) info_air8 ?_))
  refine (eqAirA8 (airsC c) (fun i hi => HB.out _ (by omega)) (fun i hi => H.out _ (by omega)) _).mono ?_
  rintro e w2 ⟨rfl, hb2⟩
  have k2 := hid (k1.out.stay hb2)
  clear k1 hb2
  go_wp2_with (first
    | (refine load_one (by rfl) 22 _ (by rfl) (w.heap.size) 176 (by rfl) (k2.out.v in1) (by omega) (.float .f32 (c 176)) (clw_f (by omega)) _ Try.underlying22 (by rfl) ?_)
    | (refine load_one (by rfl) 22 _ (by rfl) (w.heap.size + 1) 176 (by rfl) (k2.out.v in0) (by omega) (.float .f32 (c 176)) (clw_f (by omega)) _ Try.underlying22 (by rfl) ?_))
  refine (sameFloat (c 176) (HB.out _ (by omega)) (H.out _ (by omega)) _).mono ?_
  rintro e w3 ⟨rfl, rfl⟩
  go_wp2_with (first
    | (refine load_one (by rfl) 2 _ (by rfl) (w.heap.size) 177 (by rfl) (k2.out.v in1) (by omega) (.int .i64 t) clw_t _ Try.underlying2 (by rfl) ?_)
    | (refine load_one (by rfl) 2 _ (by rfl) (w.heap.size + 1) 177 (by rfl) (k2.out.v in0) (by omega) (.int .i64 t) clw_t _ Try.underlying2 (by rfl) ?_))
  go_ret
  exact ⟨rfl, k2.out.1⟩

theorem col_ok {c : Nat → Nat} {t : Int} (h : ColOk c t) : true = true ↔ ColOk c t := ⟨fun _ => h, fun _ => rfl⟩

theorem col_no {c : Nat → Nat} {t : Int} (h : ¬ ColOk c t) : false = true ↔ ColOk c t := ⟨fun x => (by cases x), fun x => absurd x h⟩

set_option maxRecDepth 100000 in
theorem sMadeC_t (c : Nat → Nat) (t : Int) (hb : ∀ i, i < 177 → c i < 4294967296) (h : ColOk c t) (w : World) (g : Nat) (T : TypeId) (hg : vAt w g 178 (clw c t) T) :
    Calls Try.prog 113 #[.pointer (some ⟨g, 0, none⟩)] w fun e w' => e = .returned (.tuple #[.agg (vls 178 (clw c t)), .int .i64 0]) ∧ Below w.heap.size w w' := by
  have k0 := hid ((Kept.nil w).push (vls 178 (clw (fun _ => 0) 0)) 35)
  have G0 := hid (hg.alloc (.cells (vls 178 (clw (fun _ => 0) 0)) 35))
  have HB := hid hb
  have HQ := hid h
  clear hb h hg
  have tok1 : True := trivial
  go_enter Try.func113, Try.ntmps113
  go_wp2_with fail
  refine (sColOk c t HB.out true (col_ok HQ.out) _ g T G0.out).mono ?_
  rintro e w1 ⟨rfl, hb1⟩
  have k1 := hid (k0.out.stay hb1)
  have G1 := hid (G0.out.stay hb1)
  clear k0 hb1 G0
  go_wp2_with (first | (have _t := tok1; refine load_cut (by rfl) 35 _ (by rfl) g 0 178 (by rfl) G1.out (by omega) (vls 178 (clw c t)) (vls_ext fun i _ => by rw [Nat.zero_add]) _ Try.underlying35 (by rfl) info_col ?_) | (have _t := tok1; refine store_row (by rfl) 35 _ _ (by rfl) (w.heap.size) (vls 178 (clw c t)) (vls 178 (clw (fun _ => 0) 0)) (by rfl) (by rfl) k1.out (by rw [vls_size]; exact info_col) (by simp) (vls_one (clw_one _ _)) (by omega) ne0 ?_; intro xk2 k2; replace k2 := hid k2; clear k1 tok1))
  exact bodyPost_ret (results_row_tmp rfl _ _ (w.heap.size) 35 (vls 178 (clw c t)) (0, 0) _ rfl (k2.out.at (x := (w.heap.size, vls 178 (clw c t), 35)) in0) Try.underlying35 rfl (by rw [vls_size]; exact info_col)) rfl ⟨rfl, k2.out.1⟩

theorem colok_amt {c : Nat → Nat} {t : Int} (k : ColOk c t) (i : Nat) (hi : i < 160) : amtB (c i) = true := by
  have := k.sz (i / 20) (by omega) (i % 20) (by omega)
  unfold rowK at this
  rwa [show i / 20 * 20 + i % 20 = i by omega] at this

theorem colok_fin {c : Nat → Nat} {t : Int} (k : ColOk c t) (hl : ∀ i, i < 177 → c i < 4294967296) (i : Nat) (hi : i < 177) : finB (c i) = true := by
  by_cases h1 : i < 160
  · exact amt_fin (colok_amt k i h1)
  · by_cases h2 : i = 176
    · subst h2; exact amt_fin k.gauge
    · have hq := k.air ((i - 160) / 2) (by omega)
      obtain ⟨a, b, _⟩ := airB_iff.1 hq
      by_cases h3 : i % 2 = 0
      · have e : heC c ((i - 160) / 2) = c i := by unfold heC; rw [show 160 + (i - 160) / 2 * 2 = i by omega]
        rw [e] at a
        exact heat_fin (hl i hi) a
      · have e : vaC c ((i - 160) / 2) = c i := by unfold vaC; rw [show 160 + (i - 160) / 2 * 2 + 1 = i by omega]
        rw [e] at b
        exact amt_fin b

set_option maxRecDepth 100000 in
theorem iCatchC_panic (n : Int) (gc : Nat) (x : Value) (w : World) (hc : w.cell? ⟨gc, 0, none⟩ = some x) (hz : w.frozen? ⟨gc, 0, none⟩ = false) :
    CallsD Try.prog 116 #[.pointer (some ⟨gc, 0, none⟩)] (.panicking [{ v := .iface 241 (.int .i64 n), recovered := false }]) w fun e u' w' =>
      e = .returned (.tuple #[]) ∧ u' = .panicking [{ v := .iface 241 (.int .i64 n), recovered := true }] ∧ ∃ w1, Below w.heap.size w w1 ∧ w' = w1.setCell ⟨gc, 0, none⟩ (.int .i64 n) := by
  have hne : ∀ w : World, (binOp .neq 20 (.iface 241 (.int .i64 n)) .nilIface).run Try.prog w = .ok (.bool true) w := fun _ => by kernel_rfl
  refine callsD_of_wpS Try.func116 rfl fun c₀ cs hu => ?_
  apply wpS_seq
  apply wpS_region
  simp [wpOpsS, go_sem, recoverD, hu, Try.ntmps116, Exit.thenS]
  refine wpS_of_wp ?_
  simp only [Array.replicate, List.setIfInBounds_toArray, List.replicate, List.set_cons_zero, List.set_cons_succ, List.append_toArray, List.cons_append, List.nil_append]
  go_wp2_with fail
  refine (iCodeOfS n _).mono ?_
  rintro e w1 ⟨rfl, rfl⟩
  go_wp2
  exact ⟨rfl, _, rfl, .tuple #[], by simp [results, Try.results116], rfl, rfl, w, Below.refl _ _, rfl⟩

theorem iCatchC_idle (gc : Nat) (w : World) :
    CallsD Try.prog 116 #[.pointer (some ⟨gc, 0, none⟩)] .returning w fun e u' w' => e = .returned (.tuple #[]) ∧ u' = .returning ∧ w' = w := by
  have hne : ∀ w : World, (binOp .neq 20 .nilIface .nilIface).run Try.prog w = .ok (.bool false) w := fun _ => by kernel_rfl
  refine callsD_of_wpS Try.func116 rfl fun c₀ cs hu => ?_
  apply wpS_seq
  apply wpS_region
  simp [wpOpsS, go_sem, recoverD, hu, Try.ntmps116, Exit.thenS]
  refine wpS_of_wp ?_
  simp only [Array.replicate, List.setIfInBounds_toArray, List.replicate, List.set_cons_zero, List.set_cons_succ, List.append_toArray, List.cons_append, List.nil_append]
  go_wp2
  exact ⟨rfl, .returning, by cases c₀; simp_all, .tuple #[], by simp [results, Try.results116], rfl, rfl, rfl⟩

set_option maxRecDepth 100000 in
set_option maxHeartbeats 1000000 in
theorem iAttemptC_ok (cl : FuncId) (caps : Array Value) (d : Nat → Nat) (t : Int) (w : World)
    (hcl : ∀ u, Below w.heap.size w u → Calls Try.prog cl caps u fun e u' => e = .returned (.agg (vls 178 (clw d t))) ∧ Below u.heap.size u u') (hce : ∀ w : World, (callFunc cl caps).run Try.prog w = .ok (.enter cl caps) w) :
    Calls Try.prog 59 #[.func (.func cl) #[] caps] w fun e w' => e = .returned (.tuple #[.agg (vls 178 (clw d t)), .int .i64 0]) ∧ Below w.heap.size w w' := by
  have hmf : ∀ (fn : Fn) (first cap : Array Value) (w : World), (Instr.makeFunc fn first cap).run Try.prog w = .ok (.func fn first cap) w := fun _ _ _ _ => rfl
  have k0 : Hid (Kept w [(w.heap.size, vls 178 (clw (fun _ => 0) 0), 35), (w.heap.size + 1, #[.int .i64 0], 2)] ((w.alloc (.cells (vls 178 (clw (fun _ => 0) 0)) 35)).alloc (.cells #[.int .i64 0] 2))) := hid ((((Kept.nil w).push _ _).push _ _).sub (by simp))
  have HC := hid hcl
  clear hcl
  go_enter_defers Try.func59, Try.ntmps59
  go_wp2_with fail
  refine (HC.out _ k0.out.1).mono ?_
  rintro e w1 ⟨rfl, hb1⟩
  have k1 := hid (k0.out.stay hb1)
  go_wp2_with (refine store_row rfl 35 _ _ rfl (w.heap.size) (vls 178 (clw d t)) (vls 178 (clw (fun _ => 0) 0)) rfl rfl k1.out (by rw [vls_size]; exact info_col) (by rw [vls_size, vls_size]) (vls_one (clw_one d t)) (Nat.le_refl _) (neC (by omega) ne0) (fun w6 k6 => ?_); replace k6 := hid k6; have c6 : World.cell? w6 ⟨w.heap.size + 1, 0, none⟩ = some (.int .i64 0) := (cell_of_row w6 (w.heap.size + 1) 0 _ _ _ (k6.out.at (x := (w.heap.size + 1, #[.int .i64 0], 2)) in1)).trans rfl; have z6 : World.frozen? w6 ⟨w.heap.size + 1, 0, none⟩ = false := frozen_of_row w6 (w.heap.size + 1) 0 _ _ (k6.out.at (x := (w.heap.size + 1, #[.int .i64 0], 2)) in1))
  refine leaves_cons (f := 116) (args := #[.pointer (some ⟨w.heap.size + 1, 0, none⟩)]) (by simp) (by simp [go_sem]) ?_
  refine (iCatchC_idle (w.heap.size + 1) _).mono ?_
  rintro e u' w'' ⟨rfl, rfl, rfl⟩
  have k7 := hid ((k6.out.swap.lcell (by omega) (neC (by omega) ne0) 0 (.int .i64 0)).swap)
  clear c6 z6 k6 k1 k0 hb1
  generalize World.setCell w6 _ _ = w7 at k7 ⊢
  have e1 : (loadVar 35 ⟨w.heap.size, 0, none⟩).run Try.prog w7 = .ok (.agg (vls 178 (clw d t))) w7 := run_loadVar_row _ w.heap.size 35 35 (vls 178 (clw d t)) (0, 0) _ (k7.out.at (x := (w.heap.size, vls 178 (clw d t), 35)) in0) Try.underlying35 rfl (by rw [vls_size]; exact info_col)
  have e2 : (loadVar 2 ⟨w.heap.size + 1, 0, none⟩).run Try.prog w7 = .ok (.int .i64 0) w7 := by
    have c7 : World.cell? w7 ⟨w.heap.size + 1, 0, none⟩ = some (.int .i64 0) := (cell_of_row _ (w.heap.size + 1) 0 _ _ _ (k7.out.at (x := (w.heap.size + 1, #[.int .i64 0], 2)) in1)).trans rfl
    clear e1 k7
    simp [go_sem, c7]
  refine ⟨.tuple #[.agg (vls 178 (clw d t)), .int .i64 0], ?_, rfl, k7.out.1⟩
  simp [results, Try.results59, asAddr, e1, e2, Sem.run_bind, Result.andThen_ok]

set_option maxRecDepth 100000 in
set_option maxHeartbeats 1000000 in
theorem iAttemptC_f (cl : FuncId) (caps : Array Value) (n : Int) (w : World)
    (hcl : ∀ u, Below w.heap.size w u → Calls Try.prog cl caps u fun e u' => e = .panicked [{ v := .iface 241 (.int .i64 n), recovered := false }] ∧ Below u.heap.size u u') (hce : ∀ w : World, (callFunc cl caps).run Try.prog w = .ok (.enter cl caps) w) :
    Calls Try.prog 59 #[.func (.func cl) #[] caps] w fun e w' => e = .returned (.tuple #[.agg (vls 178 (clw (fun _ => 0) 0)), .int .i64 n]) ∧ Below w.heap.size w w' := by
  have hmf : ∀ (fn : Fn) (first cap : Array Value) (w : World), (Instr.makeFunc fn first cap).run Try.prog w = .ok (.func fn first cap) w := fun _ _ _ _ => rfl
  have k0 : Hid (Kept w [(w.heap.size, vls 178 (clw (fun _ => 0) 0), 35), (w.heap.size + 1, #[.int .i64 0], 2)] ((w.alloc (.cells (vls 178 (clw (fun _ => 0) 0)) 35)).alloc (.cells #[.int .i64 0] 2))) := hid ((((Kept.nil w).push _ _).push _ _).sub (by simp))
  have HC := hid hcl
  clear hcl
  go_enter_defers Try.func59, Try.ntmps59
  go_wp2_with fail
  refine (HC.out _ k0.out.1).mono ?_
  rintro e w1 ⟨rfl, hb1⟩
  have k1 := hid (k0.out.stay hb1)
  have c6 : World.cell? w1 ⟨w.heap.size + 1, 0, none⟩ = some (.int .i64 0) := (cell_of_row w1 (w.heap.size + 1) 0 _ _ _ (k1.out.at (x := (w.heap.size + 1, #[.int .i64 0], 2)) in1)).trans rfl
  have z6 : World.frozen? w1 ⟨w.heap.size + 1, 0, none⟩ = false := frozen_of_row w1 (w.heap.size + 1) 0 _ _ (k1.out.at (x := (w.heap.size + 1, #[.int .i64 0], 2)) in1)
  refine leaves_cons (f := 116) (args := #[.pointer (some ⟨w.heap.size + 1, 0, none⟩)]) (by simp) (by simp [go_sem]) ?_
  refine (iCatchC_panic n (w.heap.size + 1) _ _ c6 z6).mono ?_
  rintro e u' w'' ⟨rfl, rfl, w2, hb2, rfl⟩
  have k7 := hid (((k1.out.stay hb2).swap.lcell (by omega) (neC (by omega) ne0) 0 (.int .i64 n)).swap)
  clear c6 z6 k1 k0 hb1 hb2
  generalize World.setCell w2 _ _ = w7 at k7 ⊢
  have e1 : (loadVar 35 ⟨w.heap.size, 0, none⟩).run Try.prog w7 = .ok (.agg (vls 178 (clw (fun _ => 0) 0))) w7 := run_loadVar_row _ w.heap.size 35 35 (vls 178 (clw (fun _ => 0) 0)) (0, 0) _ (k7.out.at (x := (w.heap.size, vls 178 (clw (fun _ => 0) 0), 35)) in0) Try.underlying35 rfl (by rw [vls_size]; exact info_col)
  have e2 : (loadVar 2 ⟨w.heap.size + 1, 0, none⟩).run Try.prog w7 = .ok (.int .i64 n) w7 := by
    have c7 : World.cell? w7 ⟨w.heap.size + 1, 0, none⟩ = some (.int .i64 n) := (cell_of_row _ (w.heap.size + 1) 0 _ _ _ (k7.out.at (x := (w.heap.size + 1, #[.int .i64 n], 2)) in1)).trans rfl
    clear e1 k7
    simp [go_sem, c7]
  refine ⟨.tuple #[.agg (vls 178 (clw (fun _ => 0) 0)), .int .i64 n], ?_, rfl, k7.out.1⟩
  simp [results, Try.results59, asAddr, e1, e2, Sem.run_bind, Result.andThen_ok]

theorem sl_dr {k : Nat} (hk : k < 7) (g : Nat) (w : World) : (Instr.sliceAt 31 (.pointer (some ⟨g, 0, none⟩)) (some (.int .i64 (k : Int))) (some (.int .i64 ((k : Int) + 2))) (some (.int .i64 ((k : Int) + 2)))).run Try.prog w = .ok (.slice (some ⟨g, k * 20, none⟩) 2 2) w := by
  have ha : Try.prog.arrayLen 31 = 8 := by kernel_rfl
  have hz : ∀ w, (sizeOf (Try.prog.elem 31)).run Try.prog w = .ok 20 w := fun w => by kernel_rfl
  rw [run_sliceAt_array_lhm w 31 ⟨g, 0, none⟩ (by kernel_rfl) .i64 .i64 .i64 (k : Int) ((k : Int) + 2) ((k : Int) + 2) (by omega) (by omega) (by omega) (by rw [ha]; omega), hz]
  simp only [Result.andThen_ok, slicedAt]
  rw [if_neg (by omega), show ((k : Int) + 2).toNat - (k : Int).toNat = 2 by omega, Int.toNat_natCast]
  simp [Addr.add]
  omega

theorem sl_air {k : Nat} (hk : k < 7) (g : Nat) (w : World) : (Instr.sliceAt 33 (.pointer (some ⟨g, 160, none⟩)) (some (.int .i64 (k : Int))) (some (.int .i64 ((k : Int) + 2))) (some (.int .i64 ((k : Int) + 2)))).run Try.prog w = .ok (.slice (some ⟨g, 160 + k * 2, none⟩) 2 2) w := by
  have ha : Try.prog.arrayLen 33 = 8 := by kernel_rfl
  have hz : ∀ w, (sizeOf (Try.prog.elem 33)).run Try.prog w = .ok 2 w := fun w => by kernel_rfl
  rw [run_sliceAt_array_lhm w 33 ⟨g, 160, none⟩ (by kernel_rfl) .i64 .i64 .i64 (k : Int) ((k : Int) + 2) ((k : Int) + 2) (by omega) (by omega) (by omega) (by rw [ha]; omega), hz]
  simp only [Result.andThen_ok, slicedAt]
  rw [if_neg (by omega), show ((k : Int) + 2).toNat - (k : Int).toNat = 2 by omega, Int.toNat_natCast]
  simp [Addr.add]

theorem mix_cases {c : Nat → Nat} {x k : Nat} (h : ¬ MixOk c x k) : ¬ Fins (mixed (rowK c k) (rowK c (k + 1)) x) ∨ (Fins (mixed (rowK c k) (rowK c (k + 1)) x) ∧ ¬ Fins (mixed (rowK c (k + 1)) (rowK c k) x)) ∨
    (Fins (mixed (rowK c k) (rowK c (k + 1)) x) ∧ Fins (mixed (rowK c (k + 1)) (rowK c k) x) ∧ airB (mixW (heC c k) (heC c (k + 1)) x) (mixW (vaC c k) (vaC c (k + 1)) x) = false) ∨
    (Fins (mixed (rowK c k) (rowK c (k + 1)) x) ∧ Fins (mixed (rowK c (k + 1)) (rowK c k) x) ∧ airB (mixW (heC c k) (heC c (k + 1)) x) (mixW (vaC c k) (vaC c (k + 1)) x) = true ∧ airB (mixW (heC c (k + 1)) (heC c k) x) (mixW (vaC c (k + 1)) (vaC c k) x) = false) := by
  by_cases h1 : Fins (mixed (rowK c k) (rowK c (k + 1)) x)
  · by_cases h2 : Fins (mixed (rowK c (k + 1)) (rowK c k) x)
    · cases h3 : airB (mixW (heC c k) (heC c (k + 1)) x) (mixW (vaC c k) (vaC c (k + 1)) x) with
      | false => exact .inr (.inr (.inl ⟨h1, h2, rfl⟩))
      | true => cases h4 : airB (mixW (heC c (k + 1)) (heC c k) x) (mixW (vaC c (k + 1)) (vaC c k) x) with
        | false => exact .inr (.inr (.inr ⟨h1, h2, rfl, rfl⟩))
        | true => exact absurd ⟨h1, h2, h3, h4⟩ h
    · exact .inr (.inl ⟨h1, h2⟩)
  · exact .inl h1

theorem air_same {c : Nat → Nat} {x k : Nat} (hk : k < 7) (i : Nat) : (#[.float .f32 (heC (sxD c x k) i), .float .f32 (vaC (sxD c x k) i)] : Array Value) = #[.float .f32 (heC c i), .float .f32 (vaC c i)] := by rw [sxD_heC hk, sxD_vaC hk]

theorem two_mix {c : Nat → Nat} {x k : Nat} (hk : k < 7) (a b : Nat) : (#[.float .f32 (mixW (heC c a) (heC c b) x), .float .f32 (mixW (vaC c a) (vaC c b) x)] : Array Value) = vls 2 (flw fun j => mixW (sxD c x k (160 + a * 2 + j)) (sxD c x k (160 + b * 2 + j)) x) := by
  have e := fun i => sxD_air (c := c) (x := x) (i := i) hk
  show _ = (#[Value.float .f32 (mixW (sxD c x k (160 + a * 2)) (sxD c x k (160 + b * 2)) x), Value.float .f32 (mixW (sxD c x k (160 + a * 2 + 1)) (sxD c x k (160 + b * 2 + 1)) x)] : Array Value)
  rw [e _ (by omega), e _ (by omega), e _ (by omega), e _ (by omega)]
  rfl

set_option maxRecDepth 100000 in
set_option maxHeartbeats 4000000 in
theorem iStirred (c : Nat → Nat) (t : Int) (hb : ∀ i, i < 177 → c i < 4294967296) (h : ColOk c t) (x : Nat) (hx : Share x) (K : Nat) (hK : K ≤ 7) (hM : ∀ j, j < K → MixOk (sxS c x j) x j) (hN : K < 7 → ¬ MixOk (sxS c x K) x K) (w : World) :
    Calls Try.prog 61 #[.agg (vls 178 (clw c t)), .float .f32 x] w fun e w' => (if K = 7 then e = .returned (.agg (vls 178 (clw (sxS c x 7) t))) else e = .panicked [{ v := .iface 241 (.int .i64 4), recovered := false }]) ∧ Below w.heap.size w w' := by
  have k0 : Hid (Kept w [(w.heap.size, vls 178 (clw (sxS c x 0) t), 35), (w.heap.size + 1, vls 178 (clw (fun _ => 0) 0), 35)] ((w.alloc (.cells (vls 178 (clw c t)) 35)).alloc (.cells (vls 178 (clw (fun _ => 0) 0)) 35))) := hid ((((Kept.nil w).push _ _).push _ _).sub (by simp [sxS]))
  have HC := hid h
  have HX := hid hx
  have HB := hid hb
  have HK := hid hK
  have HM := hid hM
  have HN := hid hN
  clear h hx hK hM hN hb
  go_enter Try.func61, Try.ntmps61
  go_wp2_with fail
  go_loopw [8] (fun i wr => ∃ k : Nat, k ≤ K ∧ i = .int .i64 k ∧ Hid (Kept w [(w.heap.size, vls 178 (clw (sxS c x k) t), 35), (w.heap.size + 1, vls 178 (clw (fun _ => 0) 0), 35)] wr)) (fun i _ => 7 - (intOf i).toNat)
  case atStart => exact ⟨0, by omega, rfl, k0⟩
  case round =>
    clear k0
    obtain ⟨k, hk, rfl, h0⟩ := hrel
    by_cases hlt : k < 7
    · have HL := hid hlt
      have hk3 : (k : Int) < 7 := by omega
      have HKk := hid hk
      have s1 := sl_dr hlt w.heap.size
      have s2 := sl_air hlt w.heap.size
      have hC : ColOk (sxS c x k) t := stir_ok HX.out HC.out (by omega) (fun j hj => HM.out j (by omega))
      have Ak := hid (hC.sz k (by omega))
      have Ak1 := hid (hC.sz (k + 1) (by omega))
      have AF := hid (airs_f HX.out hlt (lt_stir HX.out HB.out HC.out (by omega) (fun j hj => HM.out j (by omega))) hC)
      clear hC
      have xd0 := fun w1 => run_indexAt (P := Try.prog) (t := 178) (e := 30) Try.underlying178 (m := 20) (by kernel_rfl) (b := w.heap.size) (o := k * 20) (n := 2) (cap := 2) (k := 0) (by decide) w1
      simp only [show ((0 : Nat) : Int) = 0 from rfl, show k * 20 + 0 * 20 = k * 20 by omega] at xd0
      have xd1 := fun w1 => run_indexAt (P := Try.prog) (t := 178) (e := 30) Try.underlying178 (m := 20) (by kernel_rfl) (b := w.heap.size) (o := k * 20) (n := 2) (cap := 2) (k := 1) (by decide) w1
      simp only [show ((1 : Nat) : Int) = 1 from rfl, show k * 20 + 1 * 20 = (k + 1) * 20 by omega] at xd1
      have xa0 := fun w1 => run_indexAt (P := Try.prog) (t := 179) (e := 32) Try.underlying179 (m := 2) (by kernel_rfl) (b := w.heap.size) (o := 160 + k * 2) (n := 2) (cap := 2) (k := 0) (by decide) w1
      simp only [show ((0 : Nat) : Int) = 0 from rfl, show 160 + k * 2 + 0 * 2 = 160 + k * 2 by omega] at xa0
      have xa1 := fun w1 => run_indexAt (P := Try.prog) (t := 179) (e := 32) Try.underlying179 (m := 2) (by kernel_rfl) (b := w.heap.size) (o := 160 + k * 2) (n := 2) (cap := 2) (k := 1) (by decide) w1
      simp only [show ((1 : Nat) : Int) = 1 from rfl, show 160 + k * 2 + 1 * 2 = 160 + (k + 1) * 2 by omega] at xa1
      by_cases hm : MixOk (sxS c x k) x k
      · have HKK : Hid (k < K) := hid (by
          rcases Nat.lt_or_ge k K with h | h
          · exact h
          · obtain rfl : k = K := by omega
            exact absurd hm (HN.out hlt))
        have G1 : Hid (Fins (mixed (rowK (sxS c x k) k) (rowK (sxS c x k) (k + 1)) x)) := hid hm.d1
        have G2 : Hid (Fins (mixed (rowK (sxS c x k) (k + 1)) (rowK (sxS c x k) k) x)) := hid hm.d2
        have G3 := hid hm.a1
        have G4 := hid hm.a2
        clear hm hk hlt
        go_wp2_with fail
        refine region_free 28 (by kernel_rfl) rfl rfl ?_
        have kd := h0.out.drew
        generalize World.drew _ = wd at kd ⊢
        refine takeP_val (by intro c a d v w h; cases d <;> exact h) 1 (.slice (some ⟨w.heap.size, k * 20, none⟩) 2 2) rfl (by rfl) (by kernel_rfl) (by kernel_rfl) (by kernel_rfl) (fun w => by rfl) trivial ?_
        simp only [Act.put, List.setIfInBounds_toArray, List.set_cons_zero, List.set_cons_succ]
        refine late_goP (S := Kept w [(w.heap.size, vls 178 (clw (sxS c x k) t), 35), (w.heap.size + 1, vls 178 (clw (fun _ => 0) 0), 35)]) (f := 23) 24 [1] #[false, true, false, false, false, false, false, false, false, false, false, false, false, false, false, false, false, false, false, false, false, false, false, false] (by kernel_rfl) (by kernel_rfl) rfl (by intro c a d v w h; cases d <;> exact h) (fun PB => ?_)
        have tok61 : True := trivial
        refine takeP_val PB 0 (.slice (some ⟨w.heap.size, k * 20, none⟩) 2 2) rfl (by rfl) (by kernel_rfl) (by kernel_rfl) (by kernel_rfl) (fun w => by rfl) kd ?_
        simp only [Act.put, List.setIfInBounds_toArray, List.set_cons_zero, List.set_cons_succ]
        refine takeP_val PB 2 (.slice (some ⟨w.heap.size, k * 20, none⟩) 2 2) rfl (by rfl) (by kernel_rfl) (by kernel_rfl) (by kernel_rfl) (fun w => by rfl) kd ?_
        simp only [Act.put, List.setIfInBounds_toArray, List.set_cons_zero, List.set_cons_succ]
        refine takeP_val PB 3 (.pointer (some ⟨w.heap.size, k * 20, none⟩)) rfl (by rfl) (by kernel_rfl) (by kernel_rfl) (by kernel_rfl) (fun w => by unfold execOp; go_simp) kd ?_
        simp only [Act.put, List.setIfInBounds_toArray, List.set_cons_zero, List.set_cons_succ]
        refine takeP_cell PB 4 (.agg (fls (rowK (sxS c x k) k))) rfl (by rfl) (by kernel_rfl) (by kernel_rfl) (by kernel_rfl) (fun wq hS => run_load_as 30 _ w.heap.size (k * 20) 20 rfl (hS.v in0) (by have := HL.out; omega) (fls (rowK (sxS c x k) k)) (part_dr _ t (by have := HL.out; omega)) _ Try.underlying30 (by rfl) info_arr) kd ?_
        simp only [Act.put, List.setIfInBounds_toArray, List.set_cons_zero, List.set_cons_succ]
        refine takeP_val PB 5 (.slice (some ⟨w.heap.size, k * 20, none⟩) 2 2) rfl (by rfl) (by kernel_rfl) (by kernel_rfl) (by kernel_rfl) (fun w => by rfl) kd ?_
        simp only [Act.put, List.setIfInBounds_toArray, List.set_cons_zero, List.set_cons_succ]
        refine takeP_val PB 6 (.pointer (some ⟨w.heap.size, (k + 1) * 20, none⟩)) rfl (by rfl) (by kernel_rfl) (by kernel_rfl) (by kernel_rfl) (fun w => by unfold execOp; go_simp) kd ?_
        simp only [Act.put, List.setIfInBounds_toArray, List.set_cons_zero, List.set_cons_succ]
        refine takeP_cell PB 7 (.agg (fls (rowK (sxS c x k) (k + 1)))) rfl (by rfl) (by kernel_rfl) (by kernel_rfl) (by kernel_rfl) (fun wq hS => run_load_as 30 _ w.heap.size ((k + 1) * 20) 20 rfl (hS.v in0) (by have := HL.out; omega) (fls (rowK (sxS c x k) (k + 1))) (part_dr _ t (by have := HL.out; omega)) _ Try.underlying30 (by rfl) info_arr) kd ?_
        simp only [Act.put, List.setIfInBounds_toArray, List.set_cons_zero, List.set_cons_succ]
        refine takeP_val PB 8 (.float .f32 x) rfl (by rfl) (by kernel_rfl) (by kernel_rfl) (by kernel_rfl) (fun w => by rfl) kd ?_
        simp only [Act.put, List.setIfInBounds_toArray, List.set_cons_zero, List.set_cons_succ]
        refine takeP_val PB 13 (.slice (some ⟨w.heap.size, k * 20, none⟩) 2 2) rfl (by rfl) (by kernel_rfl) (by kernel_rfl) (by kernel_rfl) (fun w => by rfl) kd ?_
        simp only [Act.put, List.setIfInBounds_toArray, List.set_cons_zero, List.set_cons_succ]
        refine takeP_val PB 14 (.pointer (some ⟨w.heap.size, (k + 1) * 20, none⟩)) rfl (by rfl) (by kernel_rfl) (by kernel_rfl) (by kernel_rfl) (fun w => by unfold execOp; go_simp) kd ?_
        simp only [Act.put, List.setIfInBounds_toArray, List.set_cons_zero, List.set_cons_succ]
        refine takeP_cell PB 15 (.agg (fls (rowK (sxS c x k) (k + 1)))) rfl (by rfl) (by kernel_rfl) (by kernel_rfl) (by kernel_rfl) (fun wq hS => run_load_as 30 _ w.heap.size ((k + 1) * 20) 20 rfl (hS.v in0) (by have := HL.out; omega) (fls (rowK (sxS c x k) (k + 1))) (part_dr _ t (by have := HL.out; omega)) _ Try.underlying30 (by rfl) info_arr) kd ?_
        simp only [Act.put, List.setIfInBounds_toArray, List.set_cons_zero, List.set_cons_succ]
        refine takeP_val PB 16 (.slice (some ⟨w.heap.size, k * 20, none⟩) 2 2) rfl (by rfl) (by kernel_rfl) (by kernel_rfl) (by kernel_rfl) (fun w => by rfl) kd ?_
        simp only [Act.put, List.setIfInBounds_toArray, List.set_cons_zero, List.set_cons_succ]
        refine takeP_val PB 17 (.pointer (some ⟨w.heap.size, k * 20, none⟩)) rfl (by rfl) (by kernel_rfl) (by kernel_rfl) (by kernel_rfl) (fun w => by unfold execOp; go_simp) kd ?_
        simp only [Act.put, List.setIfInBounds_toArray, List.set_cons_zero, List.set_cons_succ]
        refine takeP_cell PB 18 (.agg (fls (rowK (sxS c x k) k))) rfl (by rfl) (by kernel_rfl) (by kernel_rfl) (by kernel_rfl) (fun wq hS => run_load_as 30 _ w.heap.size (k * 20) 20 rfl (hS.v in0) (by have := HL.out; omega) (fls (rowK (sxS c x k) k)) (part_dr _ t (by have := HL.out; omega)) _ Try.underlying30 (by rfl) info_arr) kd ?_
        simp only [Act.put, List.setIfInBounds_toArray, List.set_cons_zero, List.set_cons_succ]
        refine takeP_val PB 19 (.float .f32 x) rfl (by rfl) (by kernel_rfl) (by kernel_rfl) (by kernel_rfl) (fun w => by rfl) kd ?_
        simp only [Act.put, List.setIfInBounds_toArray, List.set_cons_zero, List.set_cons_succ]
        refine wpAnyH_ready (rs := [9]) (by kernel_rfl) (by simp) ?_
        refine callK 9 _ _ (.tuple #[.agg (fls (mixed (rowK (sxS c x k) k) (rowK (sxS c x k) (k + 1)) x)), .int .i64 0]) kd rfl (by rfl) 118 #[.agg (fls (rowK (sxS c x k) k)), .agg (fls (rowK (sxS c x k) (k + 1))), .float .f32 x] (fun w => by unfold execOp; go_simp) rfl rfl ?hc1 (fun w1 k1 => ?_) AllReadyH.nil
        case hc1 => exact iMixSizes_ok _ (Ak.out) _ (Ak1.out) x HX.out (mixed (rowK (sxS c x k) k) (rowK (sxS c x k) (k + 1)) x) 0 (fun _ => ⟨rfl, rfl⟩) (fun hn => absurd G1.out hn) _
        refine ⟨k1, ?_⟩
        simp only [Act.put, List.setIfInBounds_toArray, List.set_cons_zero, List.set_cons_succ]
        refine takeP_val PB 10 (.agg (fls (mixed (rowK (sxS c x k) k) (rowK (sxS c x k) (k + 1)) x))) rfl (by rfl) (by kernel_rfl) (by kernel_rfl) (by kernel_rfl) (fun w => by unfold execOp; go_simp) k1 ?_
        simp only [Act.put, List.setIfInBounds_toArray, List.set_cons_zero, List.set_cons_succ]
        refine takeP_val PB 11 (.int .i64 0) rfl (by rfl) (by kernel_rfl) (by kernel_rfl) (by kernel_rfl) (fun w => by unfold execOp; go_simp) k1 ?_
        simp only [Act.put, List.setIfInBounds_toArray, List.set_cons_zero, List.set_cons_succ]
        refine wpAnyH_ready (rs := [12]) (by kernel_rfl) (by simp) ?_
        refine callK 12 _ _ (.agg (fls (mixed (rowK (sxS c x k) k) (rowK (sxS c x k) (k + 1)) x))) k1 rfl (by rfl) 117 #[.agg (fls (mixed (rowK (sxS c x k) k) (rowK (sxS c x k) (k + 1)) x)), .int .i64 0] (fun w => by unfold execOp; go_simp) rfl rfl ?hc2 (fun w2 k2 => ?_) AllReadyH.nil
        case hc2 => exact iSureS_t _ _
        refine ⟨k2, ?_⟩
        simp only [Act.put, List.setIfInBounds_toArray, List.set_cons_zero, List.set_cons_succ]
        refine wpAnyH_ready (rs := [20]) (by kernel_rfl) (by simp) ?_
        refine callK 20 _ _ (.tuple #[.agg (fls (mixed (rowK (sxS c x k) (k + 1)) (rowK (sxS c x k) k) x)), .int .i64 0]) k2 rfl (by rfl) 118 #[.agg (fls (rowK (sxS c x k) (k + 1))), .agg (fls (rowK (sxS c x k) k)), .float .f32 x] (fun w => by unfold execOp; go_simp) rfl rfl ?hc3 (fun w3 k3 => ?_) AllReadyH.nil
        case hc3 => exact iMixSizes_ok _ (Ak1.out) _ (Ak.out) x HX.out (mixed (rowK (sxS c x k) (k + 1)) (rowK (sxS c x k) k) x) 0 (fun _ => ⟨rfl, rfl⟩) (fun hn => absurd G2.out hn) _
        refine ⟨k3, ?_⟩
        simp only [Act.put, List.setIfInBounds_toArray, List.set_cons_zero, List.set_cons_succ]
        refine takeP_val PB 21 (.agg (fls (mixed (rowK (sxS c x k) (k + 1)) (rowK (sxS c x k) k) x))) rfl (by rfl) (by kernel_rfl) (by kernel_rfl) (by kernel_rfl) (fun w => by unfold execOp; go_simp) k3 ?_
        simp only [Act.put, List.setIfInBounds_toArray, List.set_cons_zero, List.set_cons_succ]
        refine takeP_val PB 22 (.int .i64 0) rfl (by rfl) (by kernel_rfl) (by kernel_rfl) (by kernel_rfl) (fun w => by unfold execOp; go_simp) k3 ?_
        simp only [Act.put, List.setIfInBounds_toArray, List.set_cons_zero, List.set_cons_succ]
        refine wpAnyH_ready (rs := [23]) (by kernel_rfl) (by simp) ?_
        refine callK 23 _ _ (.agg (fls (mixed (rowK (sxS c x k) (k + 1)) (rowK (sxS c x k) k) x))) k3 rfl (by rfl) 117 #[.agg (fls (mixed (rowK (sxS c x k) (k + 1)) (rowK (sxS c x k) k) x)), .int .i64 0] (fun w => by unfold execOp; go_simp) rfl rfl ?hc4 (fun w4 k4 => ?_) AllReadyH.nil
        case hc4 => exact iSureS_t _ _
        refine ⟨k4, ?_⟩
        simp only [Act.put, List.setIfInBounds_toArray, List.set_cons_zero, List.set_cons_succ]
        refine wpAnyH_done (by kernel_rfl) ?_ _
        have kq := hid k4
        clear k4 PB
        show wpList _ _ _ [_, _, _, _] _ _
        go_wp2_with (first | (have _t := tok62; clear tok62; refine store_cut rfl 30 _ _ rfl w.heap.size ((k + 1) * 20) 20 (flw fun j => mixW (rowK (sxS c x k) (k + 1) j) (rowK (sxS c x k) k j) x) (fls (mixed (rowK (sxS c x k) (k + 1)) (rowK (sxS c x k) k) x)) rfl rfl (rfl) (info_arr) (fun _ => rfl) k61.out (by have := HL.out; omega) (Nat.le_refl _) (neC (by omega) ne0) (fun w62 k62 => ?_); replace k62 := hid k62) | (have _t := tok61; clear tok61; refine store_cut rfl 30 _ _ rfl w.heap.size (k * 20) 20 (flw fun j => mixW (rowK (sxS c x k) k j) (rowK (sxS c x k) (k + 1) j) x) (fls (mixed (rowK (sxS c x k) k) (rowK (sxS c x k) (k + 1)) x)) rfl rfl (rfl) (info_arr) (fun _ => rfl) kq.out (by have := HL.out; omega) (Nat.le_refl _) (neC (by omega) ne0) (fun w61 k61 => ?_); replace k61 := hid k61; have tok62 : True := trivial))
        replace h0 := hid (Kept.ext k62.out (sxD_is (sxS c x k) t x k HL.out))
        clear k61 k62 kq
        refine region_free 28 (by kernel_rfl) rfl rfl ?_
        have kd := h0.out.drew
        generalize World.drew _ = wd at kd ⊢
        refine takeP_val (by intro c a d v w h; cases d <;> exact h) 1 (.slice (some ⟨w.heap.size, 160 + k * 2, none⟩) 2 2) rfl (by rfl) (by kernel_rfl) (by kernel_rfl) (by kernel_rfl) (fun w => by rfl) trivial ?_
        simp only [Act.put, List.setIfInBounds_toArray, List.set_cons_zero, List.set_cons_succ]
        refine late_goP (S := Kept w [(w.heap.size, vls 178 (clw (sxD (sxS c x k) x k) t), 35), (w.heap.size + 1, vls 178 (clw (fun _ => 0) 0), 35)]) (f := 23) 24 [1] #[false, true, false, false, false, false, false, false, false, false, false, false, false, false, false, false, false, false, false, false, false, false, false, false] (by kernel_rfl) (by kernel_rfl) rfl (by intro c a d v w h; cases d <;> exact h) (fun PB => ?_)
        have tok71 : True := trivial
        refine takeP_val PB 0 (.slice (some ⟨w.heap.size, 160 + k * 2, none⟩) 2 2) rfl (by rfl) (by kernel_rfl) (by kernel_rfl) (by kernel_rfl) (fun w => by rfl) kd ?_
        simp only [Act.put, List.setIfInBounds_toArray, List.set_cons_zero, List.set_cons_succ]
        refine takeP_val PB 2 (.slice (some ⟨w.heap.size, 160 + k * 2, none⟩) 2 2) rfl (by rfl) (by kernel_rfl) (by kernel_rfl) (by kernel_rfl) (fun w => by rfl) kd ?_
        simp only [Act.put, List.setIfInBounds_toArray, List.set_cons_zero, List.set_cons_succ]
        refine takeP_val PB 3 (.pointer (some ⟨w.heap.size, 160 + k * 2, none⟩)) rfl (by rfl) (by kernel_rfl) (by kernel_rfl) (by kernel_rfl) (fun w => by unfold execOp; go_simp) kd ?_
        simp only [Act.put, List.setIfInBounds_toArray, List.set_cons_zero, List.set_cons_succ]
        refine takeP_cell PB 4 (.agg #[.float .f32 (heC (sxS c x k) k), .float .f32 (vaC (sxS c x k) k)]) rfl (by rfl) (by kernel_rfl) (by kernel_rfl) (by kernel_rfl) (fun wq hS => run_load_as 32 _ w.heap.size (160 + k * 2) 2 rfl (hS.v in0) (by have := HL.out; omega) #[.float .f32 (heC (sxS c x k) k), .float .f32 (vaC (sxS c x k) k)] ((part_air _ t (by have := HL.out; omega)).trans (air_same HL.out _)) _ Try.underlying32 (by rfl) info_air) kd ?_
        simp only [Act.put, List.setIfInBounds_toArray, List.set_cons_zero, List.set_cons_succ]
        refine takeP_val PB 5 (.slice (some ⟨w.heap.size, 160 + k * 2, none⟩) 2 2) rfl (by rfl) (by kernel_rfl) (by kernel_rfl) (by kernel_rfl) (fun w => by rfl) kd ?_
        simp only [Act.put, List.setIfInBounds_toArray, List.set_cons_zero, List.set_cons_succ]
        refine takeP_val PB 6 (.pointer (some ⟨w.heap.size, 160 + (k + 1) * 2, none⟩)) rfl (by rfl) (by kernel_rfl) (by kernel_rfl) (by kernel_rfl) (fun w => by unfold execOp; go_simp) kd ?_
        simp only [Act.put, List.setIfInBounds_toArray, List.set_cons_zero, List.set_cons_succ]
        refine takeP_cell PB 7 (.agg #[.float .f32 (heC (sxS c x k) (k + 1)), .float .f32 (vaC (sxS c x k) (k + 1))]) rfl (by rfl) (by kernel_rfl) (by kernel_rfl) (by kernel_rfl) (fun wq hS => run_load_as 32 _ w.heap.size (160 + (k + 1) * 2) 2 rfl (hS.v in0) (by have := HL.out; omega) #[.float .f32 (heC (sxS c x k) (k + 1)), .float .f32 (vaC (sxS c x k) (k + 1))] ((part_air _ t (by have := HL.out; omega)).trans (air_same HL.out _)) _ Try.underlying32 (by rfl) info_air) kd ?_
        simp only [Act.put, List.setIfInBounds_toArray, List.set_cons_zero, List.set_cons_succ]
        refine takeP_val PB 8 (.float .f32 x) rfl (by rfl) (by kernel_rfl) (by kernel_rfl) (by kernel_rfl) (fun w => by rfl) kd ?_
        simp only [Act.put, List.setIfInBounds_toArray, List.set_cons_zero, List.set_cons_succ]
        refine takeP_val PB 13 (.slice (some ⟨w.heap.size, 160 + k * 2, none⟩) 2 2) rfl (by rfl) (by kernel_rfl) (by kernel_rfl) (by kernel_rfl) (fun w => by rfl) kd ?_
        simp only [Act.put, List.setIfInBounds_toArray, List.set_cons_zero, List.set_cons_succ]
        refine takeP_val PB 14 (.pointer (some ⟨w.heap.size, 160 + (k + 1) * 2, none⟩)) rfl (by rfl) (by kernel_rfl) (by kernel_rfl) (by kernel_rfl) (fun w => by unfold execOp; go_simp) kd ?_
        simp only [Act.put, List.setIfInBounds_toArray, List.set_cons_zero, List.set_cons_succ]
        refine takeP_cell PB 15 (.agg #[.float .f32 (heC (sxS c x k) (k + 1)), .float .f32 (vaC (sxS c x k) (k + 1))]) rfl (by rfl) (by kernel_rfl) (by kernel_rfl) (by kernel_rfl) (fun wq hS => run_load_as 32 _ w.heap.size (160 + (k + 1) * 2) 2 rfl (hS.v in0) (by have := HL.out; omega) #[.float .f32 (heC (sxS c x k) (k + 1)), .float .f32 (vaC (sxS c x k) (k + 1))] ((part_air _ t (by have := HL.out; omega)).trans (air_same HL.out _)) _ Try.underlying32 (by rfl) info_air) kd ?_
        simp only [Act.put, List.setIfInBounds_toArray, List.set_cons_zero, List.set_cons_succ]
        refine takeP_val PB 16 (.slice (some ⟨w.heap.size, 160 + k * 2, none⟩) 2 2) rfl (by rfl) (by kernel_rfl) (by kernel_rfl) (by kernel_rfl) (fun w => by rfl) kd ?_
        simp only [Act.put, List.setIfInBounds_toArray, List.set_cons_zero, List.set_cons_succ]
        refine takeP_val PB 17 (.pointer (some ⟨w.heap.size, 160 + k * 2, none⟩)) rfl (by rfl) (by kernel_rfl) (by kernel_rfl) (by kernel_rfl) (fun w => by unfold execOp; go_simp) kd ?_
        simp only [Act.put, List.setIfInBounds_toArray, List.set_cons_zero, List.set_cons_succ]
        refine takeP_cell PB 18 (.agg #[.float .f32 (heC (sxS c x k) k), .float .f32 (vaC (sxS c x k) k)]) rfl (by rfl) (by kernel_rfl) (by kernel_rfl) (by kernel_rfl) (fun wq hS => run_load_as 32 _ w.heap.size (160 + k * 2) 2 rfl (hS.v in0) (by have := HL.out; omega) #[.float .f32 (heC (sxS c x k) k), .float .f32 (vaC (sxS c x k) k)] ((part_air _ t (by have := HL.out; omega)).trans (air_same HL.out _)) _ Try.underlying32 (by rfl) info_air) kd ?_
        simp only [Act.put, List.setIfInBounds_toArray, List.set_cons_zero, List.set_cons_succ]
        refine takeP_val PB 19 (.float .f32 x) rfl (by rfl) (by kernel_rfl) (by kernel_rfl) (by kernel_rfl) (fun w => by rfl) kd ?_
        simp only [Act.put, List.setIfInBounds_toArray, List.set_cons_zero, List.set_cons_succ]
        refine wpAnyH_ready (rs := [9]) (by kernel_rfl) (by simp) ?_
        refine callK 9 _ _ (.tuple #[.agg #[.float .f32 (mixW (heC (sxS c x k) k) (heC (sxS c x k) (k + 1)) x), .float .f32 (mixW (vaC (sxS c x k) k) (vaC (sxS c x k) (k + 1)) x)], .int .i64 0]) kd rfl (by rfl) 120 #[.agg #[.float .f32 (heC (sxS c x k) k), .float .f32 (vaC (sxS c x k) k)], .agg #[.float .f32 (heC (sxS c x k) (k + 1)), .float .f32 (vaC (sxS c x k) (k + 1))], .float .f32 x] (fun w => by unfold execOp; go_simp) rfl rfl ?hc1 (fun w1 k1 => ?_) AllReadyH.nil
        case hc1 => exact iMixAir_ok _ _ _ _ x AF.out.l1 AF.out.q1 AF.out.l2 AF.out.q2 HX.out AF.out.h1 AF.out.v1 G3.out _
        refine ⟨k1, ?_⟩
        simp only [Act.put, List.setIfInBounds_toArray, List.set_cons_zero, List.set_cons_succ]
        refine takeP_val PB 10 (.agg #[.float .f32 (mixW (heC (sxS c x k) k) (heC (sxS c x k) (k + 1)) x), .float .f32 (mixW (vaC (sxS c x k) k) (vaC (sxS c x k) (k + 1)) x)]) rfl (by rfl) (by kernel_rfl) (by kernel_rfl) (by kernel_rfl) (fun w => by unfold execOp; go_simp) k1 ?_
        simp only [Act.put, List.setIfInBounds_toArray, List.set_cons_zero, List.set_cons_succ]
        refine takeP_val PB 11 (.int .i64 0) rfl (by rfl) (by kernel_rfl) (by kernel_rfl) (by kernel_rfl) (fun w => by unfold execOp; go_simp) k1 ?_
        simp only [Act.put, List.setIfInBounds_toArray, List.set_cons_zero, List.set_cons_succ]
        refine wpAnyH_ready (rs := [12]) (by kernel_rfl) (by simp) ?_
        refine callK 12 _ _ (.agg #[.float .f32 (mixW (heC (sxS c x k) k) (heC (sxS c x k) (k + 1)) x), .float .f32 (mixW (vaC (sxS c x k) k) (vaC (sxS c x k) (k + 1)) x)]) k1 rfl (by rfl) 119 #[.agg #[.float .f32 (mixW (heC (sxS c x k) k) (heC (sxS c x k) (k + 1)) x), .float .f32 (mixW (vaC (sxS c x k) k) (vaC (sxS c x k) (k + 1)) x)], .int .i64 0] (fun w => by unfold execOp; go_simp) rfl rfl ?hc2 (fun w2 k2 => ?_) AllReadyH.nil
        case hc2 => exact iSureA_t _ _ _
        refine ⟨k2, ?_⟩
        simp only [Act.put, List.setIfInBounds_toArray, List.set_cons_zero, List.set_cons_succ]
        refine wpAnyH_ready (rs := [20]) (by kernel_rfl) (by simp) ?_
        refine callK 20 _ _ (.tuple #[.agg #[.float .f32 (mixW (heC (sxS c x k) (k + 1)) (heC (sxS c x k) k) x), .float .f32 (mixW (vaC (sxS c x k) (k + 1)) (vaC (sxS c x k) k) x)], .int .i64 0]) k2 rfl (by rfl) 120 #[.agg #[.float .f32 (heC (sxS c x k) (k + 1)), .float .f32 (vaC (sxS c x k) (k + 1))], .agg #[.float .f32 (heC (sxS c x k) k), .float .f32 (vaC (sxS c x k) k)], .float .f32 x] (fun w => by unfold execOp; go_simp) rfl rfl ?hc3 (fun w3 k3 => ?_) AllReadyH.nil
        case hc3 => exact iMixAir_ok _ _ _ _ x AF.out.l2 AF.out.q2 AF.out.l1 AF.out.q1 HX.out AF.out.h2 AF.out.v2 G4.out _
        refine ⟨k3, ?_⟩
        simp only [Act.put, List.setIfInBounds_toArray, List.set_cons_zero, List.set_cons_succ]
        refine takeP_val PB 21 (.agg #[.float .f32 (mixW (heC (sxS c x k) (k + 1)) (heC (sxS c x k) k) x), .float .f32 (mixW (vaC (sxS c x k) (k + 1)) (vaC (sxS c x k) k) x)]) rfl (by rfl) (by kernel_rfl) (by kernel_rfl) (by kernel_rfl) (fun w => by unfold execOp; go_simp) k3 ?_
        simp only [Act.put, List.setIfInBounds_toArray, List.set_cons_zero, List.set_cons_succ]
        refine takeP_val PB 22 (.int .i64 0) rfl (by rfl) (by kernel_rfl) (by kernel_rfl) (by kernel_rfl) (fun w => by unfold execOp; go_simp) k3 ?_
        simp only [Act.put, List.setIfInBounds_toArray, List.set_cons_zero, List.set_cons_succ]
        refine wpAnyH_ready (rs := [23]) (by kernel_rfl) (by simp) ?_
        refine callK 23 _ _ (.agg #[.float .f32 (mixW (heC (sxS c x k) (k + 1)) (heC (sxS c x k) k) x), .float .f32 (mixW (vaC (sxS c x k) (k + 1)) (vaC (sxS c x k) k) x)]) k3 rfl (by rfl) 119 #[.agg #[.float .f32 (mixW (heC (sxS c x k) (k + 1)) (heC (sxS c x k) k) x), .float .f32 (mixW (vaC (sxS c x k) (k + 1)) (vaC (sxS c x k) k) x)], .int .i64 0] (fun w => by unfold execOp; go_simp) rfl rfl ?hc4 (fun w4 k4 => ?_) AllReadyH.nil
        case hc4 => exact iSureA_t _ _ _
        refine ⟨k4, ?_⟩
        simp only [Act.put, List.setIfInBounds_toArray, List.set_cons_zero, List.set_cons_succ]
        refine wpAnyH_done (by kernel_rfl) ?_ _
        have kq := hid k4
        clear k4 PB
        show wpList _ _ _ [_, _, _, _] _ _
        go_wp2_with (first | (have _t := tok72; clear tok72; refine store_cut rfl 32 _ _ rfl w.heap.size (160 + (k + 1) * 2) 2 (flw fun j => mixW ((sxD (sxS c x k) x k) (160 + (k + 1) * 2 + j)) ((sxD (sxS c x k) x k) (160 + k * 2 + j)) x) (#[.float .f32 (mixW (heC (sxS c x k) (k + 1)) (heC (sxS c x k) k) x), .float .f32 (mixW (vaC (sxS c x k) (k + 1)) (vaC (sxS c x k) k) x)]) rfl rfl (two_mix HL.out _ _) (info_air) (fun _ => rfl) k71.out (by have := HL.out; omega) (Nat.le_refl _) (neC (by omega) ne0) (fun w72 k72 => ?_); replace k72 := hid k72) | (have _t := tok71; clear tok71; refine store_cut rfl 32 _ _ rfl w.heap.size (160 + k * 2) 2 (flw fun j => mixW ((sxD (sxS c x k) x k) (160 + k * 2 + j)) ((sxD (sxS c x k) x k) (160 + (k + 1) * 2 + j)) x) (#[.float .f32 (mixW (heC (sxS c x k) k) (heC (sxS c x k) (k + 1)) x), .float .f32 (mixW (vaC (sxS c x k) k) (vaC (sxS c x k) (k + 1)) x)]) rfl rfl (two_mix HL.out _ _) (info_air) (fun _ => rfl) kq.out (by have := HL.out; omega) (Nat.le_refl _) (neC (by omega) ne0) (fun w71 k71 => ?_); replace k71 := hid k71; have tok72 : True := trivial))
        have kr := hid (Kept.ext k72.out (sxA_is (sxD (sxS c x k) x k) t x k HL.out))
        clear h0 k71 k72 kq
        go_roundw
        case rel => exact ⟨k + 1, HKK.out, by go_num, kr⟩
        case measure => have := HL.out; simp [intOf]; omega
      · obtain rfl : k = K := by
          rcases Nat.lt_or_ge k K with h | h
          · exact absurd (HM.out k h) hm
          · omega
        have hK7 : ¬ k = 7 := by omega
        have H7 := hid hK7
        rcases mix_cases hm with g1 | ⟨g1, g2⟩ | ⟨g1, g2, g3⟩ | ⟨g1, g2, g3, g4⟩
        · have NG := hid g1
          clear hm hk hlt g1
          go_wp2_with fail
          refine region_free 28 (by kernel_rfl) rfl rfl ?_
          have kd := h0.out.drew
          generalize World.drew _ = wd at kd ⊢
          refine takeP_val (by intro c a d v w h; cases d <;> exact h) 1 (.slice (some ⟨w.heap.size, k * 20, none⟩) 2 2) rfl (by rfl) (by kernel_rfl) (by kernel_rfl) (by kernel_rfl) (fun w => by rfl) trivial ?_
          simp only [Act.put, List.setIfInBounds_toArray, List.set_cons_zero, List.set_cons_succ]
          refine late_goP (S := Kept w [(w.heap.size, vls 178 (clw (sxS c x k) t), 35), (w.heap.size + 1, vls 178 (clw (fun _ => 0) 0), 35)]) (f := 23) 24 [1] #[false, true, false, false, false, false, false, false, false, false, false, false, false, false, false, false, false, false, false, false, false, false, false, false] (by kernel_rfl) (by kernel_rfl) rfl (by intro c a d v w h; cases d <;> exact h) (fun PB => ?_)
          refine takeP_val PB 0 (.slice (some ⟨w.heap.size, k * 20, none⟩) 2 2) rfl (by rfl) (by kernel_rfl) (by kernel_rfl) (by kernel_rfl) (fun w => by rfl) kd ?_
          simp only [Act.put, List.setIfInBounds_toArray, List.set_cons_zero, List.set_cons_succ]
          refine takeP_val PB 2 (.slice (some ⟨w.heap.size, k * 20, none⟩) 2 2) rfl (by rfl) (by kernel_rfl) (by kernel_rfl) (by kernel_rfl) (fun w => by rfl) kd ?_
          simp only [Act.put, List.setIfInBounds_toArray, List.set_cons_zero, List.set_cons_succ]
          refine takeP_val PB 3 (.pointer (some ⟨w.heap.size, k * 20, none⟩)) rfl (by rfl) (by kernel_rfl) (by kernel_rfl) (by kernel_rfl) (fun w => by unfold execOp; go_simp) kd ?_
          simp only [Act.put, List.setIfInBounds_toArray, List.set_cons_zero, List.set_cons_succ]
          refine takeP_cell PB 4 (.agg (fls (rowK (sxS c x k) k))) rfl (by rfl) (by kernel_rfl) (by kernel_rfl) (by kernel_rfl) (fun wq hS => run_load_as 30 _ w.heap.size (k * 20) 20 rfl (hS.v in0) (by have := HL.out; omega) (fls (rowK (sxS c x k) k)) (part_dr _ t (by have := HL.out; omega)) _ Try.underlying30 (by rfl) info_arr) kd ?_
          simp only [Act.put, List.setIfInBounds_toArray, List.set_cons_zero, List.set_cons_succ]
          refine takeP_val PB 5 (.slice (some ⟨w.heap.size, k * 20, none⟩) 2 2) rfl (by rfl) (by kernel_rfl) (by kernel_rfl) (by kernel_rfl) (fun w => by rfl) kd ?_
          simp only [Act.put, List.setIfInBounds_toArray, List.set_cons_zero, List.set_cons_succ]
          refine takeP_val PB 6 (.pointer (some ⟨w.heap.size, (k + 1) * 20, none⟩)) rfl (by rfl) (by kernel_rfl) (by kernel_rfl) (by kernel_rfl) (fun w => by unfold execOp; go_simp) kd ?_
          simp only [Act.put, List.setIfInBounds_toArray, List.set_cons_zero, List.set_cons_succ]
          refine takeP_cell PB 7 (.agg (fls (rowK (sxS c x k) (k + 1)))) rfl (by rfl) (by kernel_rfl) (by kernel_rfl) (by kernel_rfl) (fun wq hS => run_load_as 30 _ w.heap.size ((k + 1) * 20) 20 rfl (hS.v in0) (by have := HL.out; omega) (fls (rowK (sxS c x k) (k + 1))) (part_dr _ t (by have := HL.out; omega)) _ Try.underlying30 (by rfl) info_arr) kd ?_
          simp only [Act.put, List.setIfInBounds_toArray, List.set_cons_zero, List.set_cons_succ]
          refine takeP_val PB 8 (.float .f32 x) rfl (by rfl) (by kernel_rfl) (by kernel_rfl) (by kernel_rfl) (fun w => by rfl) kd ?_
          simp only [Act.put, List.setIfInBounds_toArray, List.set_cons_zero, List.set_cons_succ]
          refine takeP_val PB 13 (.slice (some ⟨w.heap.size, k * 20, none⟩) 2 2) rfl (by rfl) (by kernel_rfl) (by kernel_rfl) (by kernel_rfl) (fun w => by rfl) kd ?_
          simp only [Act.put, List.setIfInBounds_toArray, List.set_cons_zero, List.set_cons_succ]
          refine takeP_val PB 14 (.pointer (some ⟨w.heap.size, (k + 1) * 20, none⟩)) rfl (by rfl) (by kernel_rfl) (by kernel_rfl) (by kernel_rfl) (fun w => by unfold execOp; go_simp) kd ?_
          simp only [Act.put, List.setIfInBounds_toArray, List.set_cons_zero, List.set_cons_succ]
          refine takeP_cell PB 15 (.agg (fls (rowK (sxS c x k) (k + 1)))) rfl (by rfl) (by kernel_rfl) (by kernel_rfl) (by kernel_rfl) (fun wq hS => run_load_as 30 _ w.heap.size ((k + 1) * 20) 20 rfl (hS.v in0) (by have := HL.out; omega) (fls (rowK (sxS c x k) (k + 1))) (part_dr _ t (by have := HL.out; omega)) _ Try.underlying30 (by rfl) info_arr) kd ?_
          simp only [Act.put, List.setIfInBounds_toArray, List.set_cons_zero, List.set_cons_succ]
          refine takeP_val PB 16 (.slice (some ⟨w.heap.size, k * 20, none⟩) 2 2) rfl (by rfl) (by kernel_rfl) (by kernel_rfl) (by kernel_rfl) (fun w => by rfl) kd ?_
          simp only [Act.put, List.setIfInBounds_toArray, List.set_cons_zero, List.set_cons_succ]
          refine takeP_val PB 17 (.pointer (some ⟨w.heap.size, k * 20, none⟩)) rfl (by rfl) (by kernel_rfl) (by kernel_rfl) (by kernel_rfl) (fun w => by unfold execOp; go_simp) kd ?_
          simp only [Act.put, List.setIfInBounds_toArray, List.set_cons_zero, List.set_cons_succ]
          refine takeP_cell PB 18 (.agg (fls (rowK (sxS c x k) k))) rfl (by rfl) (by kernel_rfl) (by kernel_rfl) (by kernel_rfl) (fun wq hS => run_load_as 30 _ w.heap.size (k * 20) 20 rfl (hS.v in0) (by have := HL.out; omega) (fls (rowK (sxS c x k) k)) (part_dr _ t (by have := HL.out; omega)) _ Try.underlying30 (by rfl) info_arr) kd ?_
          simp only [Act.put, List.setIfInBounds_toArray, List.set_cons_zero, List.set_cons_succ]
          refine takeP_val PB 19 (.float .f32 x) rfl (by rfl) (by kernel_rfl) (by kernel_rfl) (by kernel_rfl) (fun w => by rfl) kd ?_
          simp only [Act.put, List.setIfInBounds_toArray, List.set_cons_zero, List.set_cons_succ]
          refine wpAnyH_ready (rs := [9]) (by kernel_rfl) (by simp) ?_
          refine callK 9 _ _ (.tuple #[.agg (fls (fun _ => 0)), .int .i64 4]) kd rfl (by rfl) 118 #[.agg (fls (rowK (sxS c x k) k)), .agg (fls (rowK (sxS c x k) (k + 1))), .float .f32 x] (fun w => by unfold execOp; go_simp) rfl rfl ?hc1 (fun w1 k1 => ?_) AllReadyH.nil
          case hc1 => exact iMixSizes_ok _ (Ak.out) _ (Ak1.out) x HX.out (fun _ => 0) 4 (fun hn => absurd hn NG.out) (fun _ => ⟨rfl, rfl⟩) _
          refine ⟨k1, ?_⟩
          simp only [Act.put, List.setIfInBounds_toArray, List.set_cons_zero, List.set_cons_succ]
          refine takeP_val PB 10 (.agg (fls (fun _ => 0))) rfl (by rfl) (by kernel_rfl) (by kernel_rfl) (by kernel_rfl) (fun w => by unfold execOp; go_simp) k1 ?_
          simp only [Act.put, List.setIfInBounds_toArray, List.set_cons_zero, List.set_cons_succ]
          refine takeP_val PB 11 (.int .i64 4) rfl (by rfl) (by kernel_rfl) (by kernel_rfl) (by kernel_rfl) (fun w => by unfold execOp; go_simp) k1 ?_
          simp only [Act.put, List.setIfInBounds_toArray, List.set_cons_zero, List.set_cons_succ]
          refine wpAnyH_ready (rs := [12]) (by kernel_rfl) (by simp) ?_
          refine callP 12 _ k1 rfl (by rfl) 117 #[.agg (fls (fun _ => 0)), .int .i64 4] (fun w => by unfold execOp; go_simp) (iSureS_f _ 4 (by decide) _) (fun w2 k2 => ?_) AllReadyH.nil
          exact ⟨rfl, by rw [if_neg H7.out], k2.1⟩
        · have G1 := hid g1
          have NG := hid g2
          clear hm hk hlt g1 g2
          go_wp2_with fail
          refine region_free 28 (by kernel_rfl) rfl rfl ?_
          have kd := h0.out.drew
          generalize World.drew _ = wd at kd ⊢
          refine takeP_val (by intro c a d v w h; cases d <;> exact h) 1 (.slice (some ⟨w.heap.size, k * 20, none⟩) 2 2) rfl (by rfl) (by kernel_rfl) (by kernel_rfl) (by kernel_rfl) (fun w => by rfl) trivial ?_
          simp only [Act.put, List.setIfInBounds_toArray, List.set_cons_zero, List.set_cons_succ]
          refine late_goP (S := Kept w [(w.heap.size, vls 178 (clw (sxS c x k) t), 35), (w.heap.size + 1, vls 178 (clw (fun _ => 0) 0), 35)]) (f := 23) 24 [1] #[false, true, false, false, false, false, false, false, false, false, false, false, false, false, false, false, false, false, false, false, false, false, false, false] (by kernel_rfl) (by kernel_rfl) rfl (by intro c a d v w h; cases d <;> exact h) (fun PB => ?_)
          refine takeP_val PB 0 (.slice (some ⟨w.heap.size, k * 20, none⟩) 2 2) rfl (by rfl) (by kernel_rfl) (by kernel_rfl) (by kernel_rfl) (fun w => by rfl) kd ?_
          simp only [Act.put, List.setIfInBounds_toArray, List.set_cons_zero, List.set_cons_succ]
          refine takeP_val PB 2 (.slice (some ⟨w.heap.size, k * 20, none⟩) 2 2) rfl (by rfl) (by kernel_rfl) (by kernel_rfl) (by kernel_rfl) (fun w => by rfl) kd ?_
          simp only [Act.put, List.setIfInBounds_toArray, List.set_cons_zero, List.set_cons_succ]
          refine takeP_val PB 3 (.pointer (some ⟨w.heap.size, k * 20, none⟩)) rfl (by rfl) (by kernel_rfl) (by kernel_rfl) (by kernel_rfl) (fun w => by unfold execOp; go_simp) kd ?_
          simp only [Act.put, List.setIfInBounds_toArray, List.set_cons_zero, List.set_cons_succ]
          refine takeP_cell PB 4 (.agg (fls (rowK (sxS c x k) k))) rfl (by rfl) (by kernel_rfl) (by kernel_rfl) (by kernel_rfl) (fun wq hS => run_load_as 30 _ w.heap.size (k * 20) 20 rfl (hS.v in0) (by have := HL.out; omega) (fls (rowK (sxS c x k) k)) (part_dr _ t (by have := HL.out; omega)) _ Try.underlying30 (by rfl) info_arr) kd ?_
          simp only [Act.put, List.setIfInBounds_toArray, List.set_cons_zero, List.set_cons_succ]
          refine takeP_val PB 5 (.slice (some ⟨w.heap.size, k * 20, none⟩) 2 2) rfl (by rfl) (by kernel_rfl) (by kernel_rfl) (by kernel_rfl) (fun w => by rfl) kd ?_
          simp only [Act.put, List.setIfInBounds_toArray, List.set_cons_zero, List.set_cons_succ]
          refine takeP_val PB 6 (.pointer (some ⟨w.heap.size, (k + 1) * 20, none⟩)) rfl (by rfl) (by kernel_rfl) (by kernel_rfl) (by kernel_rfl) (fun w => by unfold execOp; go_simp) kd ?_
          simp only [Act.put, List.setIfInBounds_toArray, List.set_cons_zero, List.set_cons_succ]
          refine takeP_cell PB 7 (.agg (fls (rowK (sxS c x k) (k + 1)))) rfl (by rfl) (by kernel_rfl) (by kernel_rfl) (by kernel_rfl) (fun wq hS => run_load_as 30 _ w.heap.size ((k + 1) * 20) 20 rfl (hS.v in0) (by have := HL.out; omega) (fls (rowK (sxS c x k) (k + 1))) (part_dr _ t (by have := HL.out; omega)) _ Try.underlying30 (by rfl) info_arr) kd ?_
          simp only [Act.put, List.setIfInBounds_toArray, List.set_cons_zero, List.set_cons_succ]
          refine takeP_val PB 8 (.float .f32 x) rfl (by rfl) (by kernel_rfl) (by kernel_rfl) (by kernel_rfl) (fun w => by rfl) kd ?_
          simp only [Act.put, List.setIfInBounds_toArray, List.set_cons_zero, List.set_cons_succ]
          refine takeP_val PB 13 (.slice (some ⟨w.heap.size, k * 20, none⟩) 2 2) rfl (by rfl) (by kernel_rfl) (by kernel_rfl) (by kernel_rfl) (fun w => by rfl) kd ?_
          simp only [Act.put, List.setIfInBounds_toArray, List.set_cons_zero, List.set_cons_succ]
          refine takeP_val PB 14 (.pointer (some ⟨w.heap.size, (k + 1) * 20, none⟩)) rfl (by rfl) (by kernel_rfl) (by kernel_rfl) (by kernel_rfl) (fun w => by unfold execOp; go_simp) kd ?_
          simp only [Act.put, List.setIfInBounds_toArray, List.set_cons_zero, List.set_cons_succ]
          refine takeP_cell PB 15 (.agg (fls (rowK (sxS c x k) (k + 1)))) rfl (by rfl) (by kernel_rfl) (by kernel_rfl) (by kernel_rfl) (fun wq hS => run_load_as 30 _ w.heap.size ((k + 1) * 20) 20 rfl (hS.v in0) (by have := HL.out; omega) (fls (rowK (sxS c x k) (k + 1))) (part_dr _ t (by have := HL.out; omega)) _ Try.underlying30 (by rfl) info_arr) kd ?_
          simp only [Act.put, List.setIfInBounds_toArray, List.set_cons_zero, List.set_cons_succ]
          refine takeP_val PB 16 (.slice (some ⟨w.heap.size, k * 20, none⟩) 2 2) rfl (by rfl) (by kernel_rfl) (by kernel_rfl) (by kernel_rfl) (fun w => by rfl) kd ?_
          simp only [Act.put, List.setIfInBounds_toArray, List.set_cons_zero, List.set_cons_succ]
          refine takeP_val PB 17 (.pointer (some ⟨w.heap.size, k * 20, none⟩)) rfl (by rfl) (by kernel_rfl) (by kernel_rfl) (by kernel_rfl) (fun w => by unfold execOp; go_simp) kd ?_
          simp only [Act.put, List.setIfInBounds_toArray, List.set_cons_zero, List.set_cons_succ]
          refine takeP_cell PB 18 (.agg (fls (rowK (sxS c x k) k))) rfl (by rfl) (by kernel_rfl) (by kernel_rfl) (by kernel_rfl) (fun wq hS => run_load_as 30 _ w.heap.size (k * 20) 20 rfl (hS.v in0) (by have := HL.out; omega) (fls (rowK (sxS c x k) k)) (part_dr _ t (by have := HL.out; omega)) _ Try.underlying30 (by rfl) info_arr) kd ?_
          simp only [Act.put, List.setIfInBounds_toArray, List.set_cons_zero, List.set_cons_succ]
          refine takeP_val PB 19 (.float .f32 x) rfl (by rfl) (by kernel_rfl) (by kernel_rfl) (by kernel_rfl) (fun w => by rfl) kd ?_
          simp only [Act.put, List.setIfInBounds_toArray, List.set_cons_zero, List.set_cons_succ]
          refine wpAnyH_ready (rs := [9]) (by kernel_rfl) (by simp) ?_
          refine callK 9 _ _ (.tuple #[.agg (fls (mixed (rowK (sxS c x k) k) (rowK (sxS c x k) (k + 1)) x)), .int .i64 0]) kd rfl (by rfl) 118 #[.agg (fls (rowK (sxS c x k) k)), .agg (fls (rowK (sxS c x k) (k + 1))), .float .f32 x] (fun w => by unfold execOp; go_simp) rfl rfl ?hc1 (fun w1 k1 => ?_) AllReadyH.nil
          case hc1 => exact iMixSizes_ok _ (Ak.out) _ (Ak1.out) x HX.out (mixed (rowK (sxS c x k) k) (rowK (sxS c x k) (k + 1)) x) 0 (fun _ => ⟨rfl, rfl⟩) (fun hn => absurd G1.out hn) _
          refine ⟨k1, ?_⟩
          simp only [Act.put, List.setIfInBounds_toArray, List.set_cons_zero, List.set_cons_succ]
          refine takeP_val PB 10 (.agg (fls (mixed (rowK (sxS c x k) k) (rowK (sxS c x k) (k + 1)) x))) rfl (by rfl) (by kernel_rfl) (by kernel_rfl) (by kernel_rfl) (fun w => by unfold execOp; go_simp) k1 ?_
          simp only [Act.put, List.setIfInBounds_toArray, List.set_cons_zero, List.set_cons_succ]
          refine takeP_val PB 11 (.int .i64 0) rfl (by rfl) (by kernel_rfl) (by kernel_rfl) (by kernel_rfl) (fun w => by unfold execOp; go_simp) k1 ?_
          simp only [Act.put, List.setIfInBounds_toArray, List.set_cons_zero, List.set_cons_succ]
          refine wpAnyH_ready (rs := [12]) (by kernel_rfl) (by simp) ?_
          refine callK 12 _ _ (.agg (fls (mixed (rowK (sxS c x k) k) (rowK (sxS c x k) (k + 1)) x))) k1 rfl (by rfl) 117 #[.agg (fls (mixed (rowK (sxS c x k) k) (rowK (sxS c x k) (k + 1)) x)), .int .i64 0] (fun w => by unfold execOp; go_simp) rfl rfl ?hc2 (fun w2 k2 => ?_) AllReadyH.nil
          case hc2 => exact iSureS_t _ _
          refine ⟨k2, ?_⟩
          simp only [Act.put, List.setIfInBounds_toArray, List.set_cons_zero, List.set_cons_succ]
          refine wpAnyH_ready (rs := [20]) (by kernel_rfl) (by simp) ?_
          refine callK 20 _ _ (.tuple #[.agg (fls (fun _ => 0)), .int .i64 4]) k2 rfl (by rfl) 118 #[.agg (fls (rowK (sxS c x k) (k + 1))), .agg (fls (rowK (sxS c x k) k)), .float .f32 x] (fun w => by unfold execOp; go_simp) rfl rfl ?hc3 (fun w3 k3 => ?_) AllReadyH.nil
          case hc3 => exact iMixSizes_ok _ (Ak1.out) _ (Ak.out) x HX.out (fun _ => 0) 4 (fun hn => absurd hn NG.out) (fun _ => ⟨rfl, rfl⟩) _
          refine ⟨k3, ?_⟩
          simp only [Act.put, List.setIfInBounds_toArray, List.set_cons_zero, List.set_cons_succ]
          refine takeP_val PB 21 (.agg (fls (fun _ => 0))) rfl (by rfl) (by kernel_rfl) (by kernel_rfl) (by kernel_rfl) (fun w => by unfold execOp; go_simp) k3 ?_
          simp only [Act.put, List.setIfInBounds_toArray, List.set_cons_zero, List.set_cons_succ]
          refine takeP_val PB 22 (.int .i64 4) rfl (by rfl) (by kernel_rfl) (by kernel_rfl) (by kernel_rfl) (fun w => by unfold execOp; go_simp) k3 ?_
          simp only [Act.put, List.setIfInBounds_toArray, List.set_cons_zero, List.set_cons_succ]
          refine wpAnyH_ready (rs := [23]) (by kernel_rfl) (by simp) ?_
          refine callP 23 _ k3 rfl (by rfl) 117 #[.agg (fls (fun _ => 0)), .int .i64 4] (fun w => by unfold execOp; go_simp) (iSureS_f _ 4 (by decide) _) (fun w4 k4 => ?_) AllReadyH.nil
          exact ⟨rfl, by rw [if_neg H7.out], k4.1⟩
        · have G1 := hid g1
          have G2 := hid g2
          have NG := hid g3
          clear hm hk hlt g1 g2 g3
          go_wp2_with fail
          refine region_free 28 (by kernel_rfl) rfl rfl ?_
          have kd := h0.out.drew
          generalize World.drew _ = wd at kd ⊢
          refine takeP_val (by intro c a d v w h; cases d <;> exact h) 1 (.slice (some ⟨w.heap.size, k * 20, none⟩) 2 2) rfl (by rfl) (by kernel_rfl) (by kernel_rfl) (by kernel_rfl) (fun w => by rfl) trivial ?_
          simp only [Act.put, List.setIfInBounds_toArray, List.set_cons_zero, List.set_cons_succ]
          refine late_goP (S := Kept w [(w.heap.size, vls 178 (clw (sxS c x k) t), 35), (w.heap.size + 1, vls 178 (clw (fun _ => 0) 0), 35)]) (f := 23) 24 [1] #[false, true, false, false, false, false, false, false, false, false, false, false, false, false, false, false, false, false, false, false, false, false, false, false] (by kernel_rfl) (by kernel_rfl) rfl (by intro c a d v w h; cases d <;> exact h) (fun PB => ?_)
          have tok61 : True := trivial
          refine takeP_val PB 0 (.slice (some ⟨w.heap.size, k * 20, none⟩) 2 2) rfl (by rfl) (by kernel_rfl) (by kernel_rfl) (by kernel_rfl) (fun w => by rfl) kd ?_
          simp only [Act.put, List.setIfInBounds_toArray, List.set_cons_zero, List.set_cons_succ]
          refine takeP_val PB 2 (.slice (some ⟨w.heap.size, k * 20, none⟩) 2 2) rfl (by rfl) (by kernel_rfl) (by kernel_rfl) (by kernel_rfl) (fun w => by rfl) kd ?_
          simp only [Act.put, List.setIfInBounds_toArray, List.set_cons_zero, List.set_cons_succ]
          refine takeP_val PB 3 (.pointer (some ⟨w.heap.size, k * 20, none⟩)) rfl (by rfl) (by kernel_rfl) (by kernel_rfl) (by kernel_rfl) (fun w => by unfold execOp; go_simp) kd ?_
          simp only [Act.put, List.setIfInBounds_toArray, List.set_cons_zero, List.set_cons_succ]
          refine takeP_cell PB 4 (.agg (fls (rowK (sxS c x k) k))) rfl (by rfl) (by kernel_rfl) (by kernel_rfl) (by kernel_rfl) (fun wq hS => run_load_as 30 _ w.heap.size (k * 20) 20 rfl (hS.v in0) (by have := HL.out; omega) (fls (rowK (sxS c x k) k)) (part_dr _ t (by have := HL.out; omega)) _ Try.underlying30 (by rfl) info_arr) kd ?_
          simp only [Act.put, List.setIfInBounds_toArray, List.set_cons_zero, List.set_cons_succ]
          refine takeP_val PB 5 (.slice (some ⟨w.heap.size, k * 20, none⟩) 2 2) rfl (by rfl) (by kernel_rfl) (by kernel_rfl) (by kernel_rfl) (fun w => by rfl) kd ?_
          simp only [Act.put, List.setIfInBounds_toArray, List.set_cons_zero, List.set_cons_succ]
          refine takeP_val PB 6 (.pointer (some ⟨w.heap.size, (k + 1) * 20, none⟩)) rfl (by rfl) (by kernel_rfl) (by kernel_rfl) (by kernel_rfl) (fun w => by unfold execOp; go_simp) kd ?_
          simp only [Act.put, List.setIfInBounds_toArray, List.set_cons_zero, List.set_cons_succ]
          refine takeP_cell PB 7 (.agg (fls (rowK (sxS c x k) (k + 1)))) rfl (by rfl) (by kernel_rfl) (by kernel_rfl) (by kernel_rfl) (fun wq hS => run_load_as 30 _ w.heap.size ((k + 1) * 20) 20 rfl (hS.v in0) (by have := HL.out; omega) (fls (rowK (sxS c x k) (k + 1))) (part_dr _ t (by have := HL.out; omega)) _ Try.underlying30 (by rfl) info_arr) kd ?_
          simp only [Act.put, List.setIfInBounds_toArray, List.set_cons_zero, List.set_cons_succ]
          refine takeP_val PB 8 (.float .f32 x) rfl (by rfl) (by kernel_rfl) (by kernel_rfl) (by kernel_rfl) (fun w => by rfl) kd ?_
          simp only [Act.put, List.setIfInBounds_toArray, List.set_cons_zero, List.set_cons_succ]
          refine takeP_val PB 13 (.slice (some ⟨w.heap.size, k * 20, none⟩) 2 2) rfl (by rfl) (by kernel_rfl) (by kernel_rfl) (by kernel_rfl) (fun w => by rfl) kd ?_
          simp only [Act.put, List.setIfInBounds_toArray, List.set_cons_zero, List.set_cons_succ]
          refine takeP_val PB 14 (.pointer (some ⟨w.heap.size, (k + 1) * 20, none⟩)) rfl (by rfl) (by kernel_rfl) (by kernel_rfl) (by kernel_rfl) (fun w => by unfold execOp; go_simp) kd ?_
          simp only [Act.put, List.setIfInBounds_toArray, List.set_cons_zero, List.set_cons_succ]
          refine takeP_cell PB 15 (.agg (fls (rowK (sxS c x k) (k + 1)))) rfl (by rfl) (by kernel_rfl) (by kernel_rfl) (by kernel_rfl) (fun wq hS => run_load_as 30 _ w.heap.size ((k + 1) * 20) 20 rfl (hS.v in0) (by have := HL.out; omega) (fls (rowK (sxS c x k) (k + 1))) (part_dr _ t (by have := HL.out; omega)) _ Try.underlying30 (by rfl) info_arr) kd ?_
          simp only [Act.put, List.setIfInBounds_toArray, List.set_cons_zero, List.set_cons_succ]
          refine takeP_val PB 16 (.slice (some ⟨w.heap.size, k * 20, none⟩) 2 2) rfl (by rfl) (by kernel_rfl) (by kernel_rfl) (by kernel_rfl) (fun w => by rfl) kd ?_
          simp only [Act.put, List.setIfInBounds_toArray, List.set_cons_zero, List.set_cons_succ]
          refine takeP_val PB 17 (.pointer (some ⟨w.heap.size, k * 20, none⟩)) rfl (by rfl) (by kernel_rfl) (by kernel_rfl) (by kernel_rfl) (fun w => by unfold execOp; go_simp) kd ?_
          simp only [Act.put, List.setIfInBounds_toArray, List.set_cons_zero, List.set_cons_succ]
          refine takeP_cell PB 18 (.agg (fls (rowK (sxS c x k) k))) rfl (by rfl) (by kernel_rfl) (by kernel_rfl) (by kernel_rfl) (fun wq hS => run_load_as 30 _ w.heap.size (k * 20) 20 rfl (hS.v in0) (by have := HL.out; omega) (fls (rowK (sxS c x k) k)) (part_dr _ t (by have := HL.out; omega)) _ Try.underlying30 (by rfl) info_arr) kd ?_
          simp only [Act.put, List.setIfInBounds_toArray, List.set_cons_zero, List.set_cons_succ]
          refine takeP_val PB 19 (.float .f32 x) rfl (by rfl) (by kernel_rfl) (by kernel_rfl) (by kernel_rfl) (fun w => by rfl) kd ?_
          simp only [Act.put, List.setIfInBounds_toArray, List.set_cons_zero, List.set_cons_succ]
          refine wpAnyH_ready (rs := [9]) (by kernel_rfl) (by simp) ?_
          refine callK 9 _ _ (.tuple #[.agg (fls (mixed (rowK (sxS c x k) k) (rowK (sxS c x k) (k + 1)) x)), .int .i64 0]) kd rfl (by rfl) 118 #[.agg (fls (rowK (sxS c x k) k)), .agg (fls (rowK (sxS c x k) (k + 1))), .float .f32 x] (fun w => by unfold execOp; go_simp) rfl rfl ?hc1 (fun w1 k1 => ?_) AllReadyH.nil
          case hc1 => exact iMixSizes_ok _ (Ak.out) _ (Ak1.out) x HX.out (mixed (rowK (sxS c x k) k) (rowK (sxS c x k) (k + 1)) x) 0 (fun _ => ⟨rfl, rfl⟩) (fun hn => absurd G1.out hn) _
          refine ⟨k1, ?_⟩
          simp only [Act.put, List.setIfInBounds_toArray, List.set_cons_zero, List.set_cons_succ]
          refine takeP_val PB 10 (.agg (fls (mixed (rowK (sxS c x k) k) (rowK (sxS c x k) (k + 1)) x))) rfl (by rfl) (by kernel_rfl) (by kernel_rfl) (by kernel_rfl) (fun w => by unfold execOp; go_simp) k1 ?_
          simp only [Act.put, List.setIfInBounds_toArray, List.set_cons_zero, List.set_cons_succ]
          refine takeP_val PB 11 (.int .i64 0) rfl (by rfl) (by kernel_rfl) (by kernel_rfl) (by kernel_rfl) (fun w => by unfold execOp; go_simp) k1 ?_
          simp only [Act.put, List.setIfInBounds_toArray, List.set_cons_zero, List.set_cons_succ]
          refine wpAnyH_ready (rs := [12]) (by kernel_rfl) (by simp) ?_
          refine callK 12 _ _ (.agg (fls (mixed (rowK (sxS c x k) k) (rowK (sxS c x k) (k + 1)) x))) k1 rfl (by rfl) 117 #[.agg (fls (mixed (rowK (sxS c x k) k) (rowK (sxS c x k) (k + 1)) x)), .int .i64 0] (fun w => by unfold execOp; go_simp) rfl rfl ?hc2 (fun w2 k2 => ?_) AllReadyH.nil
          case hc2 => exact iSureS_t _ _
          refine ⟨k2, ?_⟩
          simp only [Act.put, List.setIfInBounds_toArray, List.set_cons_zero, List.set_cons_succ]
          refine wpAnyH_ready (rs := [20]) (by kernel_rfl) (by simp) ?_
          refine callK 20 _ _ (.tuple #[.agg (fls (mixed (rowK (sxS c x k) (k + 1)) (rowK (sxS c x k) k) x)), .int .i64 0]) k2 rfl (by rfl) 118 #[.agg (fls (rowK (sxS c x k) (k + 1))), .agg (fls (rowK (sxS c x k) k)), .float .f32 x] (fun w => by unfold execOp; go_simp) rfl rfl ?hc3 (fun w3 k3 => ?_) AllReadyH.nil
          case hc3 => exact iMixSizes_ok _ (Ak1.out) _ (Ak.out) x HX.out (mixed (rowK (sxS c x k) (k + 1)) (rowK (sxS c x k) k) x) 0 (fun _ => ⟨rfl, rfl⟩) (fun hn => absurd G2.out hn) _
          refine ⟨k3, ?_⟩
          simp only [Act.put, List.setIfInBounds_toArray, List.set_cons_zero, List.set_cons_succ]
          refine takeP_val PB 21 (.agg (fls (mixed (rowK (sxS c x k) (k + 1)) (rowK (sxS c x k) k) x))) rfl (by rfl) (by kernel_rfl) (by kernel_rfl) (by kernel_rfl) (fun w => by unfold execOp; go_simp) k3 ?_
          simp only [Act.put, List.setIfInBounds_toArray, List.set_cons_zero, List.set_cons_succ]
          refine takeP_val PB 22 (.int .i64 0) rfl (by rfl) (by kernel_rfl) (by kernel_rfl) (by kernel_rfl) (fun w => by unfold execOp; go_simp) k3 ?_
          simp only [Act.put, List.setIfInBounds_toArray, List.set_cons_zero, List.set_cons_succ]
          refine wpAnyH_ready (rs := [23]) (by kernel_rfl) (by simp) ?_
          refine callK 23 _ _ (.agg (fls (mixed (rowK (sxS c x k) (k + 1)) (rowK (sxS c x k) k) x))) k3 rfl (by rfl) 117 #[.agg (fls (mixed (rowK (sxS c x k) (k + 1)) (rowK (sxS c x k) k) x)), .int .i64 0] (fun w => by unfold execOp; go_simp) rfl rfl ?hc4 (fun w4 k4 => ?_) AllReadyH.nil
          case hc4 => exact iSureS_t _ _
          refine ⟨k4, ?_⟩
          simp only [Act.put, List.setIfInBounds_toArray, List.set_cons_zero, List.set_cons_succ]
          refine wpAnyH_done (by kernel_rfl) ?_ _
          have kq := hid k4
          clear k4 PB
          show wpList _ _ _ [_, _, _, _] _ _
          go_wp2_with (first | (have _t := tok62; clear tok62; refine store_cut rfl 30 _ _ rfl w.heap.size ((k + 1) * 20) 20 (flw fun j => mixW (rowK (sxS c x k) (k + 1) j) (rowK (sxS c x k) k j) x) (fls (mixed (rowK (sxS c x k) (k + 1)) (rowK (sxS c x k) k) x)) rfl rfl (rfl) (info_arr) (fun _ => rfl) k61.out (by have := HL.out; omega) (Nat.le_refl _) (neC (by omega) ne0) (fun w62 k62 => ?_); replace k62 := hid k62) | (have _t := tok61; clear tok61; refine store_cut rfl 30 _ _ rfl w.heap.size (k * 20) 20 (flw fun j => mixW (rowK (sxS c x k) k j) (rowK (sxS c x k) (k + 1) j) x) (fls (mixed (rowK (sxS c x k) k) (rowK (sxS c x k) (k + 1)) x)) rfl rfl (rfl) (info_arr) (fun _ => rfl) kq.out (by have := HL.out; omega) (Nat.le_refl _) (neC (by omega) ne0) (fun w61 k61 => ?_); replace k61 := hid k61; have tok62 : True := trivial))
          replace h0 := hid (Kept.ext k62.out (sxD_is (sxS c x k) t x k HL.out))
          clear k61 k62 kq
          refine region_free 28 (by kernel_rfl) rfl rfl ?_
          have kd := h0.out.drew
          generalize World.drew _ = wd at kd ⊢
          refine takeP_val (by intro c a d v w h; cases d <;> exact h) 1 (.slice (some ⟨w.heap.size, 160 + k * 2, none⟩) 2 2) rfl (by rfl) (by kernel_rfl) (by kernel_rfl) (by kernel_rfl) (fun w => by rfl) trivial ?_
          simp only [Act.put, List.setIfInBounds_toArray, List.set_cons_zero, List.set_cons_succ]
          refine late_goP (S := Kept w [(w.heap.size, vls 178 (clw (sxD (sxS c x k) x k) t), 35), (w.heap.size + 1, vls 178 (clw (fun _ => 0) 0), 35)]) (f := 23) 24 [1] #[false, true, false, false, false, false, false, false, false, false, false, false, false, false, false, false, false, false, false, false, false, false, false, false] (by kernel_rfl) (by kernel_rfl) rfl (by intro c a d v w h; cases d <;> exact h) (fun PB => ?_)
          refine takeP_val PB 0 (.slice (some ⟨w.heap.size, 160 + k * 2, none⟩) 2 2) rfl (by rfl) (by kernel_rfl) (by kernel_rfl) (by kernel_rfl) (fun w => by rfl) kd ?_
          simp only [Act.put, List.setIfInBounds_toArray, List.set_cons_zero, List.set_cons_succ]
          refine takeP_val PB 2 (.slice (some ⟨w.heap.size, 160 + k * 2, none⟩) 2 2) rfl (by rfl) (by kernel_rfl) (by kernel_rfl) (by kernel_rfl) (fun w => by rfl) kd ?_
          simp only [Act.put, List.setIfInBounds_toArray, List.set_cons_zero, List.set_cons_succ]
          refine takeP_val PB 3 (.pointer (some ⟨w.heap.size, 160 + k * 2, none⟩)) rfl (by rfl) (by kernel_rfl) (by kernel_rfl) (by kernel_rfl) (fun w => by unfold execOp; go_simp) kd ?_
          simp only [Act.put, List.setIfInBounds_toArray, List.set_cons_zero, List.set_cons_succ]
          refine takeP_cell PB 4 (.agg #[.float .f32 (heC (sxS c x k) k), .float .f32 (vaC (sxS c x k) k)]) rfl (by rfl) (by kernel_rfl) (by kernel_rfl) (by kernel_rfl) (fun wq hS => run_load_as 32 _ w.heap.size (160 + k * 2) 2 rfl (hS.v in0) (by have := HL.out; omega) #[.float .f32 (heC (sxS c x k) k), .float .f32 (vaC (sxS c x k) k)] ((part_air _ t (by have := HL.out; omega)).trans (air_same HL.out _)) _ Try.underlying32 (by rfl) info_air) kd ?_
          simp only [Act.put, List.setIfInBounds_toArray, List.set_cons_zero, List.set_cons_succ]
          refine takeP_val PB 5 (.slice (some ⟨w.heap.size, 160 + k * 2, none⟩) 2 2) rfl (by rfl) (by kernel_rfl) (by kernel_rfl) (by kernel_rfl) (fun w => by rfl) kd ?_
          simp only [Act.put, List.setIfInBounds_toArray, List.set_cons_zero, List.set_cons_succ]
          refine takeP_val PB 6 (.pointer (some ⟨w.heap.size, 160 + (k + 1) * 2, none⟩)) rfl (by rfl) (by kernel_rfl) (by kernel_rfl) (by kernel_rfl) (fun w => by unfold execOp; go_simp) kd ?_
          simp only [Act.put, List.setIfInBounds_toArray, List.set_cons_zero, List.set_cons_succ]
          refine takeP_cell PB 7 (.agg #[.float .f32 (heC (sxS c x k) (k + 1)), .float .f32 (vaC (sxS c x k) (k + 1))]) rfl (by rfl) (by kernel_rfl) (by kernel_rfl) (by kernel_rfl) (fun wq hS => run_load_as 32 _ w.heap.size (160 + (k + 1) * 2) 2 rfl (hS.v in0) (by have := HL.out; omega) #[.float .f32 (heC (sxS c x k) (k + 1)), .float .f32 (vaC (sxS c x k) (k + 1))] ((part_air _ t (by have := HL.out; omega)).trans (air_same HL.out _)) _ Try.underlying32 (by rfl) info_air) kd ?_
          simp only [Act.put, List.setIfInBounds_toArray, List.set_cons_zero, List.set_cons_succ]
          refine takeP_val PB 8 (.float .f32 x) rfl (by rfl) (by kernel_rfl) (by kernel_rfl) (by kernel_rfl) (fun w => by rfl) kd ?_
          simp only [Act.put, List.setIfInBounds_toArray, List.set_cons_zero, List.set_cons_succ]
          refine takeP_val PB 13 (.slice (some ⟨w.heap.size, 160 + k * 2, none⟩) 2 2) rfl (by rfl) (by kernel_rfl) (by kernel_rfl) (by kernel_rfl) (fun w => by rfl) kd ?_
          simp only [Act.put, List.setIfInBounds_toArray, List.set_cons_zero, List.set_cons_succ]
          refine takeP_val PB 14 (.pointer (some ⟨w.heap.size, 160 + (k + 1) * 2, none⟩)) rfl (by rfl) (by kernel_rfl) (by kernel_rfl) (by kernel_rfl) (fun w => by unfold execOp; go_simp) kd ?_
          simp only [Act.put, List.setIfInBounds_toArray, List.set_cons_zero, List.set_cons_succ]
          refine takeP_cell PB 15 (.agg #[.float .f32 (heC (sxS c x k) (k + 1)), .float .f32 (vaC (sxS c x k) (k + 1))]) rfl (by rfl) (by kernel_rfl) (by kernel_rfl) (by kernel_rfl) (fun wq hS => run_load_as 32 _ w.heap.size (160 + (k + 1) * 2) 2 rfl (hS.v in0) (by have := HL.out; omega) #[.float .f32 (heC (sxS c x k) (k + 1)), .float .f32 (vaC (sxS c x k) (k + 1))] ((part_air _ t (by have := HL.out; omega)).trans (air_same HL.out _)) _ Try.underlying32 (by rfl) info_air) kd ?_
          simp only [Act.put, List.setIfInBounds_toArray, List.set_cons_zero, List.set_cons_succ]
          refine takeP_val PB 16 (.slice (some ⟨w.heap.size, 160 + k * 2, none⟩) 2 2) rfl (by rfl) (by kernel_rfl) (by kernel_rfl) (by kernel_rfl) (fun w => by rfl) kd ?_
          simp only [Act.put, List.setIfInBounds_toArray, List.set_cons_zero, List.set_cons_succ]
          refine takeP_val PB 17 (.pointer (some ⟨w.heap.size, 160 + k * 2, none⟩)) rfl (by rfl) (by kernel_rfl) (by kernel_rfl) (by kernel_rfl) (fun w => by unfold execOp; go_simp) kd ?_
          simp only [Act.put, List.setIfInBounds_toArray, List.set_cons_zero, List.set_cons_succ]
          refine takeP_cell PB 18 (.agg #[.float .f32 (heC (sxS c x k) k), .float .f32 (vaC (sxS c x k) k)]) rfl (by rfl) (by kernel_rfl) (by kernel_rfl) (by kernel_rfl) (fun wq hS => run_load_as 32 _ w.heap.size (160 + k * 2) 2 rfl (hS.v in0) (by have := HL.out; omega) #[.float .f32 (heC (sxS c x k) k), .float .f32 (vaC (sxS c x k) k)] ((part_air _ t (by have := HL.out; omega)).trans (air_same HL.out _)) _ Try.underlying32 (by rfl) info_air) kd ?_
          simp only [Act.put, List.setIfInBounds_toArray, List.set_cons_zero, List.set_cons_succ]
          refine takeP_val PB 19 (.float .f32 x) rfl (by rfl) (by kernel_rfl) (by kernel_rfl) (by kernel_rfl) (fun w => by rfl) kd ?_
          simp only [Act.put, List.setIfInBounds_toArray, List.set_cons_zero, List.set_cons_succ]
          refine wpAnyH_ready (rs := [9]) (by kernel_rfl) (by simp) ?_
          refine callK 9 _ _ (.tuple #[.agg #[.float .f32 0, .float .f32 0], .int .i64 4]) kd rfl (by rfl) 120 #[.agg #[.float .f32 (heC (sxS c x k) k), .float .f32 (vaC (sxS c x k) k)], .agg #[.float .f32 (heC (sxS c x k) (k + 1)), .float .f32 (vaC (sxS c x k) (k + 1))], .float .f32 x] (fun w => by unfold execOp; go_simp) rfl rfl ?hc1 (fun w1 k1 => ?_) AllReadyH.nil
          case hc1 => exact iMixAir_state _ _ _ _ x AF.out.l1 AF.out.q1 AF.out.l2 AF.out.q2 HX.out AF.out.h1 AF.out.v1 NG.out _
          refine ⟨k1, ?_⟩
          simp only [Act.put, List.setIfInBounds_toArray, List.set_cons_zero, List.set_cons_succ]
          refine takeP_val PB 10 (.agg #[.float .f32 0, .float .f32 0]) rfl (by rfl) (by kernel_rfl) (by kernel_rfl) (by kernel_rfl) (fun w => by unfold execOp; go_simp) k1 ?_
          simp only [Act.put, List.setIfInBounds_toArray, List.set_cons_zero, List.set_cons_succ]
          refine takeP_val PB 11 (.int .i64 4) rfl (by rfl) (by kernel_rfl) (by kernel_rfl) (by kernel_rfl) (fun w => by unfold execOp; go_simp) k1 ?_
          simp only [Act.put, List.setIfInBounds_toArray, List.set_cons_zero, List.set_cons_succ]
          refine wpAnyH_ready (rs := [12]) (by kernel_rfl) (by simp) ?_
          refine callP 12 _ k1 rfl (by rfl) 119 #[.agg #[.float .f32 0, .float .f32 0], .int .i64 4] (fun w => by unfold execOp; go_simp) (iSureA_f _ _ 4 (by decide) _) (fun w2 k2 => ?_) AllReadyH.nil
          exact ⟨rfl, by rw [if_neg H7.out], k2.1⟩
        · have G1 := hid g1
          have G2 := hid g2
          have G3 := hid g3
          have NG := hid g4
          clear hm hk hlt g1 g2 g3 g4
          go_wp2_with fail
          refine region_free 28 (by kernel_rfl) rfl rfl ?_
          have kd := h0.out.drew
          generalize World.drew _ = wd at kd ⊢
          refine takeP_val (by intro c a d v w h; cases d <;> exact h) 1 (.slice (some ⟨w.heap.size, k * 20, none⟩) 2 2) rfl (by rfl) (by kernel_rfl) (by kernel_rfl) (by kernel_rfl) (fun w => by rfl) trivial ?_
          simp only [Act.put, List.setIfInBounds_toArray, List.set_cons_zero, List.set_cons_succ]
          refine late_goP (S := Kept w [(w.heap.size, vls 178 (clw (sxS c x k) t), 35), (w.heap.size + 1, vls 178 (clw (fun _ => 0) 0), 35)]) (f := 23) 24 [1] #[false, true, false, false, false, false, false, false, false, false, false, false, false, false, false, false, false, false, false, false, false, false, false, false] (by kernel_rfl) (by kernel_rfl) rfl (by intro c a d v w h; cases d <;> exact h) (fun PB => ?_)
          have tok61 : True := trivial
          refine takeP_val PB 0 (.slice (some ⟨w.heap.size, k * 20, none⟩) 2 2) rfl (by rfl) (by kernel_rfl) (by kernel_rfl) (by kernel_rfl) (fun w => by rfl) kd ?_
          simp only [Act.put, List.setIfInBounds_toArray, List.set_cons_zero, List.set_cons_succ]
          refine takeP_val PB 2 (.slice (some ⟨w.heap.size, k * 20, none⟩) 2 2) rfl (by rfl) (by kernel_rfl) (by kernel_rfl) (by kernel_rfl) (fun w => by rfl) kd ?_
          simp only [Act.put, List.setIfInBounds_toArray, List.set_cons_zero, List.set_cons_succ]
          refine takeP_val PB 3 (.pointer (some ⟨w.heap.size, k * 20, none⟩)) rfl (by rfl) (by kernel_rfl) (by kernel_rfl) (by kernel_rfl) (fun w => by unfold execOp; go_simp) kd ?_
          simp only [Act.put, List.setIfInBounds_toArray, List.set_cons_zero, List.set_cons_succ]
          refine takeP_cell PB 4 (.agg (fls (rowK (sxS c x k) k))) rfl (by rfl) (by kernel_rfl) (by kernel_rfl) (by kernel_rfl) (fun wq hS => run_load_as 30 _ w.heap.size (k * 20) 20 rfl (hS.v in0) (by have := HL.out; omega) (fls (rowK (sxS c x k) k)) (part_dr _ t (by have := HL.out; omega)) _ Try.underlying30 (by rfl) info_arr) kd ?_
          simp only [Act.put, List.setIfInBounds_toArray, List.set_cons_zero, List.set_cons_succ]
          refine takeP_val PB 5 (.slice (some ⟨w.heap.size, k * 20, none⟩) 2 2) rfl (by rfl) (by kernel_rfl) (by kernel_rfl) (by kernel_rfl) (fun w => by rfl) kd ?_
          simp only [Act.put, List.setIfInBounds_toArray, List.set_cons_zero, List.set_cons_succ]
          refine takeP_val PB 6 (.pointer (some ⟨w.heap.size, (k + 1) * 20, none⟩)) rfl (by rfl) (by kernel_rfl) (by kernel_rfl) (by kernel_rfl) (fun w => by unfold execOp; go_simp) kd ?_
          simp only [Act.put, List.setIfInBounds_toArray, List.set_cons_zero, List.set_cons_succ]
          refine takeP_cell PB 7 (.agg (fls (rowK (sxS c x k) (k + 1)))) rfl (by rfl) (by kernel_rfl) (by kernel_rfl) (by kernel_rfl) (fun wq hS => run_load_as 30 _ w.heap.size ((k + 1) * 20) 20 rfl (hS.v in0) (by have := HL.out; omega) (fls (rowK (sxS c x k) (k + 1))) (part_dr _ t (by have := HL.out; omega)) _ Try.underlying30 (by rfl) info_arr) kd ?_
          simp only [Act.put, List.setIfInBounds_toArray, List.set_cons_zero, List.set_cons_succ]
          refine takeP_val PB 8 (.float .f32 x) rfl (by rfl) (by kernel_rfl) (by kernel_rfl) (by kernel_rfl) (fun w => by rfl) kd ?_
          simp only [Act.put, List.setIfInBounds_toArray, List.set_cons_zero, List.set_cons_succ]
          refine takeP_val PB 13 (.slice (some ⟨w.heap.size, k * 20, none⟩) 2 2) rfl (by rfl) (by kernel_rfl) (by kernel_rfl) (by kernel_rfl) (fun w => by rfl) kd ?_
          simp only [Act.put, List.setIfInBounds_toArray, List.set_cons_zero, List.set_cons_succ]
          refine takeP_val PB 14 (.pointer (some ⟨w.heap.size, (k + 1) * 20, none⟩)) rfl (by rfl) (by kernel_rfl) (by kernel_rfl) (by kernel_rfl) (fun w => by unfold execOp; go_simp) kd ?_
          simp only [Act.put, List.setIfInBounds_toArray, List.set_cons_zero, List.set_cons_succ]
          refine takeP_cell PB 15 (.agg (fls (rowK (sxS c x k) (k + 1)))) rfl (by rfl) (by kernel_rfl) (by kernel_rfl) (by kernel_rfl) (fun wq hS => run_load_as 30 _ w.heap.size ((k + 1) * 20) 20 rfl (hS.v in0) (by have := HL.out; omega) (fls (rowK (sxS c x k) (k + 1))) (part_dr _ t (by have := HL.out; omega)) _ Try.underlying30 (by rfl) info_arr) kd ?_
          simp only [Act.put, List.setIfInBounds_toArray, List.set_cons_zero, List.set_cons_succ]
          refine takeP_val PB 16 (.slice (some ⟨w.heap.size, k * 20, none⟩) 2 2) rfl (by rfl) (by kernel_rfl) (by kernel_rfl) (by kernel_rfl) (fun w => by rfl) kd ?_
          simp only [Act.put, List.setIfInBounds_toArray, List.set_cons_zero, List.set_cons_succ]
          refine takeP_val PB 17 (.pointer (some ⟨w.heap.size, k * 20, none⟩)) rfl (by rfl) (by kernel_rfl) (by kernel_rfl) (by kernel_rfl) (fun w => by unfold execOp; go_simp) kd ?_
          simp only [Act.put, List.setIfInBounds_toArray, List.set_cons_zero, List.set_cons_succ]
          refine takeP_cell PB 18 (.agg (fls (rowK (sxS c x k) k))) rfl (by rfl) (by kernel_rfl) (by kernel_rfl) (by kernel_rfl) (fun wq hS => run_load_as 30 _ w.heap.size (k * 20) 20 rfl (hS.v in0) (by have := HL.out; omega) (fls (rowK (sxS c x k) k)) (part_dr _ t (by have := HL.out; omega)) _ Try.underlying30 (by rfl) info_arr) kd ?_
          simp only [Act.put, List.setIfInBounds_toArray, List.set_cons_zero, List.set_cons_succ]
          refine takeP_val PB 19 (.float .f32 x) rfl (by rfl) (by kernel_rfl) (by kernel_rfl) (by kernel_rfl) (fun w => by rfl) kd ?_
          simp only [Act.put, List.setIfInBounds_toArray, List.set_cons_zero, List.set_cons_succ]
          refine wpAnyH_ready (rs := [9]) (by kernel_rfl) (by simp) ?_
          refine callK 9 _ _ (.tuple #[.agg (fls (mixed (rowK (sxS c x k) k) (rowK (sxS c x k) (k + 1)) x)), .int .i64 0]) kd rfl (by rfl) 118 #[.agg (fls (rowK (sxS c x k) k)), .agg (fls (rowK (sxS c x k) (k + 1))), .float .f32 x] (fun w => by unfold execOp; go_simp) rfl rfl ?hc1 (fun w1 k1 => ?_) AllReadyH.nil
          case hc1 => exact iMixSizes_ok _ (Ak.out) _ (Ak1.out) x HX.out (mixed (rowK (sxS c x k) k) (rowK (sxS c x k) (k + 1)) x) 0 (fun _ => ⟨rfl, rfl⟩) (fun hn => absurd G1.out hn) _
          refine ⟨k1, ?_⟩
          simp only [Act.put, List.setIfInBounds_toArray, List.set_cons_zero, List.set_cons_succ]
          refine takeP_val PB 10 (.agg (fls (mixed (rowK (sxS c x k) k) (rowK (sxS c x k) (k + 1)) x))) rfl (by rfl) (by kernel_rfl) (by kernel_rfl) (by kernel_rfl) (fun w => by unfold execOp; go_simp) k1 ?_
          simp only [Act.put, List.setIfInBounds_toArray, List.set_cons_zero, List.set_cons_succ]
          refine takeP_val PB 11 (.int .i64 0) rfl (by rfl) (by kernel_rfl) (by kernel_rfl) (by kernel_rfl) (fun w => by unfold execOp; go_simp) k1 ?_
          simp only [Act.put, List.setIfInBounds_toArray, List.set_cons_zero, List.set_cons_succ]
          refine wpAnyH_ready (rs := [12]) (by kernel_rfl) (by simp) ?_
          refine callK 12 _ _ (.agg (fls (mixed (rowK (sxS c x k) k) (rowK (sxS c x k) (k + 1)) x))) k1 rfl (by rfl) 117 #[.agg (fls (mixed (rowK (sxS c x k) k) (rowK (sxS c x k) (k + 1)) x)), .int .i64 0] (fun w => by unfold execOp; go_simp) rfl rfl ?hc2 (fun w2 k2 => ?_) AllReadyH.nil
          case hc2 => exact iSureS_t _ _
          refine ⟨k2, ?_⟩
          simp only [Act.put, List.setIfInBounds_toArray, List.set_cons_zero, List.set_cons_succ]
          refine wpAnyH_ready (rs := [20]) (by kernel_rfl) (by simp) ?_
          refine callK 20 _ _ (.tuple #[.agg (fls (mixed (rowK (sxS c x k) (k + 1)) (rowK (sxS c x k) k) x)), .int .i64 0]) k2 rfl (by rfl) 118 #[.agg (fls (rowK (sxS c x k) (k + 1))), .agg (fls (rowK (sxS c x k) k)), .float .f32 x] (fun w => by unfold execOp; go_simp) rfl rfl ?hc3 (fun w3 k3 => ?_) AllReadyH.nil
          case hc3 => exact iMixSizes_ok _ (Ak1.out) _ (Ak.out) x HX.out (mixed (rowK (sxS c x k) (k + 1)) (rowK (sxS c x k) k) x) 0 (fun _ => ⟨rfl, rfl⟩) (fun hn => absurd G2.out hn) _
          refine ⟨k3, ?_⟩
          simp only [Act.put, List.setIfInBounds_toArray, List.set_cons_zero, List.set_cons_succ]
          refine takeP_val PB 21 (.agg (fls (mixed (rowK (sxS c x k) (k + 1)) (rowK (sxS c x k) k) x))) rfl (by rfl) (by kernel_rfl) (by kernel_rfl) (by kernel_rfl) (fun w => by unfold execOp; go_simp) k3 ?_
          simp only [Act.put, List.setIfInBounds_toArray, List.set_cons_zero, List.set_cons_succ]
          refine takeP_val PB 22 (.int .i64 0) rfl (by rfl) (by kernel_rfl) (by kernel_rfl) (by kernel_rfl) (fun w => by unfold execOp; go_simp) k3 ?_
          simp only [Act.put, List.setIfInBounds_toArray, List.set_cons_zero, List.set_cons_succ]
          refine wpAnyH_ready (rs := [23]) (by kernel_rfl) (by simp) ?_
          refine callK 23 _ _ (.agg (fls (mixed (rowK (sxS c x k) (k + 1)) (rowK (sxS c x k) k) x))) k3 rfl (by rfl) 117 #[.agg (fls (mixed (rowK (sxS c x k) (k + 1)) (rowK (sxS c x k) k) x)), .int .i64 0] (fun w => by unfold execOp; go_simp) rfl rfl ?hc4 (fun w4 k4 => ?_) AllReadyH.nil
          case hc4 => exact iSureS_t _ _
          refine ⟨k4, ?_⟩
          simp only [Act.put, List.setIfInBounds_toArray, List.set_cons_zero, List.set_cons_succ]
          refine wpAnyH_done (by kernel_rfl) ?_ _
          have kq := hid k4
          clear k4 PB
          show wpList _ _ _ [_, _, _, _] _ _
          go_wp2_with (first | (have _t := tok62; clear tok62; refine store_cut rfl 30 _ _ rfl w.heap.size ((k + 1) * 20) 20 (flw fun j => mixW (rowK (sxS c x k) (k + 1) j) (rowK (sxS c x k) k j) x) (fls (mixed (rowK (sxS c x k) (k + 1)) (rowK (sxS c x k) k) x)) rfl rfl (rfl) (info_arr) (fun _ => rfl) k61.out (by have := HL.out; omega) (Nat.le_refl _) (neC (by omega) ne0) (fun w62 k62 => ?_); replace k62 := hid k62) | (have _t := tok61; clear tok61; refine store_cut rfl 30 _ _ rfl w.heap.size (k * 20) 20 (flw fun j => mixW (rowK (sxS c x k) k j) (rowK (sxS c x k) (k + 1) j) x) (fls (mixed (rowK (sxS c x k) k) (rowK (sxS c x k) (k + 1)) x)) rfl rfl (rfl) (info_arr) (fun _ => rfl) kq.out (by have := HL.out; omega) (Nat.le_refl _) (neC (by omega) ne0) (fun w61 k61 => ?_); replace k61 := hid k61; have tok62 : True := trivial))
          replace h0 := hid (Kept.ext k62.out (sxD_is (sxS c x k) t x k HL.out))
          clear k61 k62 kq
          refine region_free 28 (by kernel_rfl) rfl rfl ?_
          have kd := h0.out.drew
          generalize World.drew _ = wd at kd ⊢
          refine takeP_val (by intro c a d v w h; cases d <;> exact h) 1 (.slice (some ⟨w.heap.size, 160 + k * 2, none⟩) 2 2) rfl (by rfl) (by kernel_rfl) (by kernel_rfl) (by kernel_rfl) (fun w => by rfl) trivial ?_
          simp only [Act.put, List.setIfInBounds_toArray, List.set_cons_zero, List.set_cons_succ]
          refine late_goP (S := Kept w [(w.heap.size, vls 178 (clw (sxD (sxS c x k) x k) t), 35), (w.heap.size + 1, vls 178 (clw (fun _ => 0) 0), 35)]) (f := 23) 24 [1] #[false, true, false, false, false, false, false, false, false, false, false, false, false, false, false, false, false, false, false, false, false, false, false, false] (by kernel_rfl) (by kernel_rfl) rfl (by intro c a d v w h; cases d <;> exact h) (fun PB => ?_)
          refine takeP_val PB 0 (.slice (some ⟨w.heap.size, 160 + k * 2, none⟩) 2 2) rfl (by rfl) (by kernel_rfl) (by kernel_rfl) (by kernel_rfl) (fun w => by rfl) kd ?_
          simp only [Act.put, List.setIfInBounds_toArray, List.set_cons_zero, List.set_cons_succ]
          refine takeP_val PB 2 (.slice (some ⟨w.heap.size, 160 + k * 2, none⟩) 2 2) rfl (by rfl) (by kernel_rfl) (by kernel_rfl) (by kernel_rfl) (fun w => by rfl) kd ?_
          simp only [Act.put, List.setIfInBounds_toArray, List.set_cons_zero, List.set_cons_succ]
          refine takeP_val PB 3 (.pointer (some ⟨w.heap.size, 160 + k * 2, none⟩)) rfl (by rfl) (by kernel_rfl) (by kernel_rfl) (by kernel_rfl) (fun w => by unfold execOp; go_simp) kd ?_
          simp only [Act.put, List.setIfInBounds_toArray, List.set_cons_zero, List.set_cons_succ]
          refine takeP_cell PB 4 (.agg #[.float .f32 (heC (sxS c x k) k), .float .f32 (vaC (sxS c x k) k)]) rfl (by rfl) (by kernel_rfl) (by kernel_rfl) (by kernel_rfl) (fun wq hS => run_load_as 32 _ w.heap.size (160 + k * 2) 2 rfl (hS.v in0) (by have := HL.out; omega) #[.float .f32 (heC (sxS c x k) k), .float .f32 (vaC (sxS c x k) k)] ((part_air _ t (by have := HL.out; omega)).trans (air_same HL.out _)) _ Try.underlying32 (by rfl) info_air) kd ?_
          simp only [Act.put, List.setIfInBounds_toArray, List.set_cons_zero, List.set_cons_succ]
          refine takeP_val PB 5 (.slice (some ⟨w.heap.size, 160 + k * 2, none⟩) 2 2) rfl (by rfl) (by kernel_rfl) (by kernel_rfl) (by kernel_rfl) (fun w => by rfl) kd ?_
          simp only [Act.put, List.setIfInBounds_toArray, List.set_cons_zero, List.set_cons_succ]
          refine takeP_val PB 6 (.pointer (some ⟨w.heap.size, 160 + (k + 1) * 2, none⟩)) rfl (by rfl) (by kernel_rfl) (by kernel_rfl) (by kernel_rfl) (fun w => by unfold execOp; go_simp) kd ?_
          simp only [Act.put, List.setIfInBounds_toArray, List.set_cons_zero, List.set_cons_succ]
          refine takeP_cell PB 7 (.agg #[.float .f32 (heC (sxS c x k) (k + 1)), .float .f32 (vaC (sxS c x k) (k + 1))]) rfl (by rfl) (by kernel_rfl) (by kernel_rfl) (by kernel_rfl) (fun wq hS => run_load_as 32 _ w.heap.size (160 + (k + 1) * 2) 2 rfl (hS.v in0) (by have := HL.out; omega) #[.float .f32 (heC (sxS c x k) (k + 1)), .float .f32 (vaC (sxS c x k) (k + 1))] ((part_air _ t (by have := HL.out; omega)).trans (air_same HL.out _)) _ Try.underlying32 (by rfl) info_air) kd ?_
          simp only [Act.put, List.setIfInBounds_toArray, List.set_cons_zero, List.set_cons_succ]
          refine takeP_val PB 8 (.float .f32 x) rfl (by rfl) (by kernel_rfl) (by kernel_rfl) (by kernel_rfl) (fun w => by rfl) kd ?_
          simp only [Act.put, List.setIfInBounds_toArray, List.set_cons_zero, List.set_cons_succ]
          refine takeP_val PB 13 (.slice (some ⟨w.heap.size, 160 + k * 2, none⟩) 2 2) rfl (by rfl) (by kernel_rfl) (by kernel_rfl) (by kernel_rfl) (fun w => by rfl) kd ?_
          simp only [Act.put, List.setIfInBounds_toArray, List.set_cons_zero, List.set_cons_succ]
          refine takeP_val PB 14 (.pointer (some ⟨w.heap.size, 160 + (k + 1) * 2, none⟩)) rfl (by rfl) (by kernel_rfl) (by kernel_rfl) (by kernel_rfl) (fun w => by unfold execOp; go_simp) kd ?_
          simp only [Act.put, List.setIfInBounds_toArray, List.set_cons_zero, List.set_cons_succ]
          refine takeP_cell PB 15 (.agg #[.float .f32 (heC (sxS c x k) (k + 1)), .float .f32 (vaC (sxS c x k) (k + 1))]) rfl (by rfl) (by kernel_rfl) (by kernel_rfl) (by kernel_rfl) (fun wq hS => run_load_as 32 _ w.heap.size (160 + (k + 1) * 2) 2 rfl (hS.v in0) (by have := HL.out; omega) #[.float .f32 (heC (sxS c x k) (k + 1)), .float .f32 (vaC (sxS c x k) (k + 1))] ((part_air _ t (by have := HL.out; omega)).trans (air_same HL.out _)) _ Try.underlying32 (by rfl) info_air) kd ?_
          simp only [Act.put, List.setIfInBounds_toArray, List.set_cons_zero, List.set_cons_succ]
          refine takeP_val PB 16 (.slice (some ⟨w.heap.size, 160 + k * 2, none⟩) 2 2) rfl (by rfl) (by kernel_rfl) (by kernel_rfl) (by kernel_rfl) (fun w => by rfl) kd ?_
          simp only [Act.put, List.setIfInBounds_toArray, List.set_cons_zero, List.set_cons_succ]
          refine takeP_val PB 17 (.pointer (some ⟨w.heap.size, 160 + k * 2, none⟩)) rfl (by rfl) (by kernel_rfl) (by kernel_rfl) (by kernel_rfl) (fun w => by unfold execOp; go_simp) kd ?_
          simp only [Act.put, List.setIfInBounds_toArray, List.set_cons_zero, List.set_cons_succ]
          refine takeP_cell PB 18 (.agg #[.float .f32 (heC (sxS c x k) k), .float .f32 (vaC (sxS c x k) k)]) rfl (by rfl) (by kernel_rfl) (by kernel_rfl) (by kernel_rfl) (fun wq hS => run_load_as 32 _ w.heap.size (160 + k * 2) 2 rfl (hS.v in0) (by have := HL.out; omega) #[.float .f32 (heC (sxS c x k) k), .float .f32 (vaC (sxS c x k) k)] ((part_air _ t (by have := HL.out; omega)).trans (air_same HL.out _)) _ Try.underlying32 (by rfl) info_air) kd ?_
          simp only [Act.put, List.setIfInBounds_toArray, List.set_cons_zero, List.set_cons_succ]
          refine takeP_val PB 19 (.float .f32 x) rfl (by rfl) (by kernel_rfl) (by kernel_rfl) (by kernel_rfl) (fun w => by rfl) kd ?_
          simp only [Act.put, List.setIfInBounds_toArray, List.set_cons_zero, List.set_cons_succ]
          refine wpAnyH_ready (rs := [9]) (by kernel_rfl) (by simp) ?_
          refine callK 9 _ _ (.tuple #[.agg #[.float .f32 (mixW (heC (sxS c x k) k) (heC (sxS c x k) (k + 1)) x), .float .f32 (mixW (vaC (sxS c x k) k) (vaC (sxS c x k) (k + 1)) x)], .int .i64 0]) kd rfl (by rfl) 120 #[.agg #[.float .f32 (heC (sxS c x k) k), .float .f32 (vaC (sxS c x k) k)], .agg #[.float .f32 (heC (sxS c x k) (k + 1)), .float .f32 (vaC (sxS c x k) (k + 1))], .float .f32 x] (fun w => by unfold execOp; go_simp) rfl rfl ?hc1 (fun w1 k1 => ?_) AllReadyH.nil
          case hc1 => exact iMixAir_ok _ _ _ _ x AF.out.l1 AF.out.q1 AF.out.l2 AF.out.q2 HX.out AF.out.h1 AF.out.v1 G3.out _
          refine ⟨k1, ?_⟩
          simp only [Act.put, List.setIfInBounds_toArray, List.set_cons_zero, List.set_cons_succ]
          refine takeP_val PB 10 (.agg #[.float .f32 (mixW (heC (sxS c x k) k) (heC (sxS c x k) (k + 1)) x), .float .f32 (mixW (vaC (sxS c x k) k) (vaC (sxS c x k) (k + 1)) x)]) rfl (by rfl) (by kernel_rfl) (by kernel_rfl) (by kernel_rfl) (fun w => by unfold execOp; go_simp) k1 ?_
          simp only [Act.put, List.setIfInBounds_toArray, List.set_cons_zero, List.set_cons_succ]
          refine takeP_val PB 11 (.int .i64 0) rfl (by rfl) (by kernel_rfl) (by kernel_rfl) (by kernel_rfl) (fun w => by unfold execOp; go_simp) k1 ?_
          simp only [Act.put, List.setIfInBounds_toArray, List.set_cons_zero, List.set_cons_succ]
          refine wpAnyH_ready (rs := [12]) (by kernel_rfl) (by simp) ?_
          refine callK 12 _ _ (.agg #[.float .f32 (mixW (heC (sxS c x k) k) (heC (sxS c x k) (k + 1)) x), .float .f32 (mixW (vaC (sxS c x k) k) (vaC (sxS c x k) (k + 1)) x)]) k1 rfl (by rfl) 119 #[.agg #[.float .f32 (mixW (heC (sxS c x k) k) (heC (sxS c x k) (k + 1)) x), .float .f32 (mixW (vaC (sxS c x k) k) (vaC (sxS c x k) (k + 1)) x)], .int .i64 0] (fun w => by unfold execOp; go_simp) rfl rfl ?hc2 (fun w2 k2 => ?_) AllReadyH.nil
          case hc2 => exact iSureA_t _ _ _
          refine ⟨k2, ?_⟩
          simp only [Act.put, List.setIfInBounds_toArray, List.set_cons_zero, List.set_cons_succ]
          refine wpAnyH_ready (rs := [20]) (by kernel_rfl) (by simp) ?_
          refine callK 20 _ _ (.tuple #[.agg #[.float .f32 0, .float .f32 0], .int .i64 4]) k2 rfl (by rfl) 120 #[.agg #[.float .f32 (heC (sxS c x k) (k + 1)), .float .f32 (vaC (sxS c x k) (k + 1))], .agg #[.float .f32 (heC (sxS c x k) k), .float .f32 (vaC (sxS c x k) k)], .float .f32 x] (fun w => by unfold execOp; go_simp) rfl rfl ?hc3 (fun w3 k3 => ?_) AllReadyH.nil
          case hc3 => exact iMixAir_state _ _ _ _ x AF.out.l2 AF.out.q2 AF.out.l1 AF.out.q1 HX.out AF.out.h2 AF.out.v2 NG.out _
          refine ⟨k3, ?_⟩
          simp only [Act.put, List.setIfInBounds_toArray, List.set_cons_zero, List.set_cons_succ]
          refine takeP_val PB 21 (.agg #[.float .f32 0, .float .f32 0]) rfl (by rfl) (by kernel_rfl) (by kernel_rfl) (by kernel_rfl) (fun w => by unfold execOp; go_simp) k3 ?_
          simp only [Act.put, List.setIfInBounds_toArray, List.set_cons_zero, List.set_cons_succ]
          refine takeP_val PB 22 (.int .i64 4) rfl (by rfl) (by kernel_rfl) (by kernel_rfl) (by kernel_rfl) (fun w => by unfold execOp; go_simp) k3 ?_
          simp only [Act.put, List.setIfInBounds_toArray, List.set_cons_zero, List.set_cons_succ]
          refine wpAnyH_ready (rs := [23]) (by kernel_rfl) (by simp) ?_
          refine callP 23 _ k3 rfl (by rfl) 119 #[.agg #[.float .f32 0, .float .f32 0], .int .i64 4] (fun w => by unfold execOp; go_simp) (iSureA_f _ _ 4 (by decide) _) (fun w4 k4 => ?_) AllReadyH.nil
          exact ⟨rfl, by rw [if_neg H7.out], k4.1⟩
    · obtain rfl : k = 7 := by have := HK.out; omega
      obtain rfl : K = 7 := by have := HK.out; omega
      go_wp2_with (first | (refine wpList_load_row rfl 35 _ rfl (w.heap.size) rfl 35 (vls 178 (clw (sxS c x 7) t)) (0, 0) _ (h0.out.v in0) Try.underlying35 rfl (by rw [vls_size]; exact info_col) ?_) | (refine store_row rfl 35 _ _ rfl (w.heap.size + 1) (vls 178 (clw (sxS c x 7) t)) (vls 178 (clw (fun _ => 0) 0)) rfl rfl h0.out.swap (by rw [vls_size]; exact info_col) (by rw [vls_size, vls_size]) (vls_one (clw_one _ t)) (by omega) (neC (by omega) ne0) (fun w8 k8 => ?_); replace k8 := hid k8))
      exact bodyPost_ret (results_cell_row rfl _ _ (w.heap.size + 1) 35 (vls 178 (clw (sxS c x 7) t)) (0, 0) _ rfl (k8.out.v in0) Try.underlying35 rfl (by rw [vls_size]; exact info_col)) rfl ⟨by first | rfl | rw [if_pos rfl], k8.out.1⟩
end Go.Proofs.Ythpimindkmmkjaa
