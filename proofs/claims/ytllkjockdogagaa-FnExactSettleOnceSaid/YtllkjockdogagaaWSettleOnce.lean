import Derived.Test.YtllkjockdogagaaCSettleOnce
import Derived.Test.YtllkjockdogagaaChecked
import Derived.Test.YtllkjockdogagaaRows
import Derived.Laws.FloatArith
import Derived.ProofKit
import Derived.WalkKit
import Derived.WalkLawsBesides
import Derived.WalkSpells
import Derived.Deep.QuietTactic
import Derived.BigQuiet
import Derived.Deep.RegionHeld3
import Derived.ChangeKeysEq
import Derived.Laws.BitsAllLaws
import Derived.Deep.MidRow
import Derived.Deep.WholeRow
import Derived.StillTailTactics
import Derived.Deep.Slices
import Derived.ChangeSame
import Derived.OrdersIn
import Derived.ControlIn
import Derived.RangeFuncSeq
import Derived.RangeFuncNested
import Derived.ArgAppend
import Derived.OwnWalkIn
import Derived.TacticsInMore
import Derived.Below
import Derived.Laws.AppendOwn
import Derived.OpenShut
/- The law FnExactSettleOnce of chapter 1: at every argument the call returns true, and what was there before it is as it was. -/
namespace Go.Proofs.Ytllkjockdogagaa
open Go.RowKit Go.Fl

@[go_sem] theorem ext_f64bits (y : Nat) (w : World) : (callFunc 217 #[.float .f64 y]).run Try.prog w = .ok (.value (.int .u64 y)) w := by
  rw [run_callFunc_extern Try.func217 (by kernel_rfl) (by kernel_rfl) (by kernel_rfl) (e := Extern.MathFloatBits.float64bits) (by kernel_rfl)]
  rfl

@[go_sem] theorem ext_f64from (n : Int) (w : World) : (callFunc 187 #[.int .u64 n]).run Try.prog w = .ok (.value (.float .f64 n.toNat)) w := by
  rw [run_callFunc_extern Try.func187 (by kernel_rfl) (by kernel_rfl) (by kernel_rfl) (e := Extern.MathFloatBits.float64frombits) (by kernel_rfl)]
  rfl

theorem hid {p : Prop} (h : p) : Hid p := h

theorem clear_sign (y : Nat) (h : y < 18446744073709551616) : (bits BinOp.andNot IntKind.u64 (y : Int) 9223372036854775808).toNat = y % 9223372036854775808 := by
  rw [u64_andNot _ _ (by omega) (by omega) (by omega) (by omega)]
  rw [Int.toNat_natCast, Int.toNat_natCast]
  exact Nat.and_two_pow_sub_one_eq_mod y 63

theorem abs_f64 (y : Nat) (h : y < 18446744073709551616) (w : World) :
    Calls Try.prog 224 #[.float .f64 y] w fun e w' => e = .returned (.float .f64 (y % 9223372036854775808)) ∧ w = w' := by
  have hc := hid (clear_sign y h)
  clear h
  go_enter Try.func224, Try.ntmps224
  go_wp2
  go_ret
  exact ⟨by simp [hc.out], rfl⟩

theorem isNaN_f64 (y : Nat) (w : World) :
    Calls Try.prog 185 #[.float .f64 y] w fun e w' => e = .returned (.bool (FloatKind.f64.format.order y y != some .eq)) ∧ w = w' := by
  go_enter Try.func185, Try.ntmps185
  go_wp2
  go_ret
  exact ⟨rfl, rfl⟩

theorem isInf_f64 (y : Nat) (h : y < 18446744073709551616) (w : World) :
    Calls Try.prog 186 #[.float .f64 y, .int .i64 0] w fun e w' => e = .returned (.bool (FloatKind.f64.format.order (y % 9223372036854775808) 9218868437227405311 == some .gt)) ∧ w = w' := by
  have hc := hid h
  clear h
  go_enter Try.func186, Try.ntmps186
  go_wp2_with (go_at_call 224; refine (abs_f64 y hc.out _).mono ?_; rintro e w' ⟨rfl, rfl⟩)
  go_ret
  exact ⟨rfl, rfl⟩

theorem isFinite_t (x : Nat) (hx : x < 4294967296) (h : finB x = true) (w : World) :
    Calls Try.prog 115 #[.float .f32 x] w fun e w' => e = .returned (.bool true) ∧ w = w' := by
  rw [finB_iff] at h
  have hc := fun w => run_conv_wid (P := Try.prog) w 22 53 x hx Try.underlying22 Try.underlying53 h
  obtain ⟨a, b, m, e, hr⟩ := read_wid_fin hx h
  have hn : (FloatKind.f64.format.order (wid x) (wid x) != some .eq) = false := by
    show (D.order (wid x) (wid x) != some .eq) = false
    rw [order_self hr]; rfl
  have hi : (FloatKind.f64.format.order (wid x % 9223372036854775808) 9218868437227405311 == some .gt) = false := by
    show (D.order (wid x % 9223372036854775808) 9218868437227405311 == some .gt) = false
    rw [b, order_ltD a (by decide)]
    rw [DINF_val] at a
    have hle : wid (mg x) ≤ 9218868437227405311 := by omega
    rcases Nat.lt_or_eq_of_le hle with h' | h'
    · rw [Nat.compare_eq_lt.2 h']; rfl
    · rw [Nat.compare_eq_eq.2 h']; rfl
  have hw : wid x < 18446744073709551616 := D.write_lt _
  have Hn := hid hn
  have Hi := hid hi
  have Hw := hid hw
  clear hn hi hw hr a b h hx
  go_enter Try.func115, Try.ntmps115
  go_wp2_with (first | (go_at_call 185; refine (isNaN_f64 (wid x) _).mono ?_; rintro e w' ⟨rfl, rfl⟩; rw [Hn.out]) | (go_at_call 186; refine (isInf_f64 (wid x) Hw.out _).mono ?_; rintro e w' ⟨rfl, rfl⟩; rw [Hi.out]))
  go_ret
  exact ⟨rfl, rfl⟩

theorem isFinite_f (x : Nat) (hx : x < 4294967296) (h : finB x = false) (w : World) :
    Calls Try.prog 115 #[.float .f32 x] w fun e w' => e = .returned (.bool false) ∧ Below w.heap.size w w' := by
  rw [finB_iff'] at h
  rcases Nat.lt_or_eq_of_le h with h | h
  · obtain ⟨z, hc, h1, _⟩ := run_conv_nan (P := Try.prog) w 22 53 x Try.underlying22 Try.underlying53 h
    obtain ⟨s, t, hr⟩ := read_nanD h1
    have Hn := hid (show (FloatKind.f64.format.order z z != some .eq) = true by
      show (D.order z z != some .eq) = true
      rw [order_nan hr]; rfl)
    clear h h1 hr hx
    go_enter Try.func115, Try.ntmps115
    go_wp2_with (go_at_call 185; refine (isNaN_f64 z _).mono ?_; rintro e w' ⟨rfl, rfl⟩; rw [Hn.out])
    go_ret
    exact ⟨rfl, (Below.refl _ _).drew⟩
  · obtain ⟨z, hc, h1, h2⟩ := run_conv_inf (P := Try.prog) w 22 53 x hx Try.underlying22 Try.underlying53 h.symm
    have hr : D.read z = .infinity (decide (9223372036854775808 ≤ z)) := by rw [read_signD h2, h1, read_DINF]
    have Hn := hid (show (FloatKind.f64.format.order z z != some .eq) = false by
      show (D.order z z != some .eq) = false
      rw [order_inf hr]; rfl)
    have Hi := hid (show (FloatKind.f64.format.order (z % 9223372036854775808) 9218868437227405311 == some .gt) = true by
      rw [h1]; decide)
    have H2 := hid h2
    clear h h1 hr hx h2
    go_enter Try.func115, Try.ntmps115
    go_wp2_with (first | (go_at_call 185; refine (isNaN_f64 z _).mono ?_; rintro e w' ⟨rfl, rfl⟩; rw [Hn.out]) | (go_at_call 186; refine (isInf_f64 z H2.out _).mono ?_; rintro e w' ⟨rfl, rfl⟩; rw [Hi.out]))
    go_ret
    exact ⟨rfl, Below.refl _ _⟩

theorem signbit_f64 (y : Nat) (w : World) :
    Calls Try.prog 160 #[.float .f64 y] w fun e w' => e = .returned (.bool (decide (wrap64 (y : Int) < 0))) ∧ w = w' := by
  go_enter Try.func160, Try.ntmps160
  go_wp2
  go_ret
  exact ⟨rfl, rfl⟩

theorem and_sign (y : Nat) (h : y < 18446744073709551616) : (decide (wrap64 (y : Int) < 0)) = decide (9223372036854775808 ≤ y) := by
  unfold wrap64
  by_cases h' : 9223372036854775808 ≤ y
  · rw [decide_eq_true h']; simp; omega
  · rw [decide_eq_false h']; simp; omega

theorem isAmount_t (x : Nat) (h : amtB x = true) (w : World) :
    Calls Try.prog 87 #[.float .f32 x] w fun e w' => e = .returned (.bool true) ∧ w = w' := by
  have hf := amt_fin h
  rw [amtB_iff, INF_val] at h
  have hx : x < 4294967296 := by omega
  have hc := fun w => run_conv_wid (P := Try.prog) w 22 53 x hx Try.underlying22 Try.underlying53 (finB_iff.1 hf)
  have hw : wid x < 18446744073709551616 := D.write_lt _
  have Hs := hid (show (decide (wrap64 (wid x : Int) < 0)) = false by
    rw [and_sign _ hw]
    have := (wid_val (x := x) (by rw [INF_val]; omega)).1
    rw [DINF_val] at this
    simp; omega)
  have Hx := hid hx
  have Hf := hid hf
  clear h hf hx hw
  go_enter Try.func87, Try.ntmps87
  go_wp2_with (first | (go_at_call 115; refine (isFinite_t x Hx.out Hf.out _).mono ?_; rintro e w' ⟨rfl, rfl⟩) | (go_at_call 160; refine (signbit_f64 (wid x) _).mono ?_; rintro e w' ⟨rfl, rfl⟩; rw [Hs.out]))
  go_ret
  exact ⟨rfl, rfl⟩

theorem isAmount_f (x : Nat) (hx : x < 4294967296) (h : amtB x = false) (w : World) :
    Calls Try.prog 87 #[.float .f32 x] w fun e w' => e = .returned (.bool false) ∧ Below w.heap.size w w' := by
  rcases hf : finB x with _ | _
  · have Hx := hid hx
    have Hf := hid hf
    clear h hf hx
    go_enter Try.func87, Try.ntmps87
    go_wp2_with (go_at_call 115; refine (isFinite_f x Hx.out Hf.out _).mono ?_; rintro e w' ⟨rfl, hb⟩)
    go_ret
    exact ⟨rfl, hb⟩
  · have hc := fun w => run_conv_wid (P := Try.prog) w 22 53 x hx Try.underlying22 Try.underlying53 (finB_iff.1 hf)
    have hw : wid x < 18446744073709551616 := D.write_lt _
    have Hs := hid (show (decide (wrap64 (wid x : Int) < 0)) = true by
      rw [and_sign _ hw, wid_fin hx (finB_iff.1 hf)]
      rw [amtB_iff', INF_val] at h
      rw [finB_iff, INF_val] at hf
      unfold mg at hf ⊢
      rw [if_pos (by omega)]
      simp)
    have Hx := hid hx
    have Hf := hid hf
    clear h hf hx hw
    go_enter Try.func87, Try.ntmps87
    go_wp2_with (first | (go_at_call 115; refine (isFinite_t x Hx.out Hf.out _).mono ?_; rintro e w' ⟨rfl, rfl⟩) | (go_at_call 160; refine (signbit_f64 (wid x) _).mono ?_; rintro e w' ⟨rfl, rfl⟩; rw [Hs.out]))
    go_ret
    exact ⟨rfl, Below.refl _ _⟩

theorem info_f32 : ∃ i, Try.prog.info? 22 = some i ∧ i.size = 1 := by
  have h : (Try.prog.info? 22).map (·.size) = some 1 := by kernel_rfl
  cases hi : Try.prog.info? 22 with
  | none => rw [hi] at h; cases h
  | some i => rw [hi] at h; exact ⟨i, rfl, Option.some.inj h⟩

theorem ix (T : TypeId) (hT : Try.prog.underlying T = some (.array 20 22)) (c : Nat → Nat) (k : Nat) (hk : k < 20) (w : World) :
    (Instr.index T (.agg (fls c)) (.int .i64 (k : Int))).run Try.prog w = .ok (.float .f32 (c k)) w := by
  obtain ⟨i, h1, h2⟩ := info_f32
  exact run_index_arr hT Try.underlying22 rfl h1 h2 _ _ hk _ (fls_get c hk) w

theorem info_arr : (Try.prog.info? 31).map (·.size) = some 20 := by kernel_rfl

set_option maxRecDepth 100000 in
theorem validSizes_t (c : Nat → Nat) (h : ∀ i, i < 20 → amtB (c i) = true) (w : World) :
    Calls Try.prog 85 #[.agg (fls c)] w fun e w' => e = .returned (.bool true) ∧ Below w.heap.size w w' := by
  have H := hid h
  clear h
  go_enter Try.func85, Try.ntmps85
  go_wp2_with (refine wpList_load_row rfl 31 _ rfl w.heap.size rfl 31 (fls c) (0, 0) _ (heap_alloc_new _ _) Try.underlying31 rfl (by rw [fls_size]; exact info_arr) ?_)
  go_loop [6] (fun i => ∃ k : Nat, k ≤ 20 ∧ i = .int .i64 k) (fun i => 20 - (intOf i).toNat)
  case atStart => exact ⟨0, by omega, rfl⟩
  case round =>
    obtain ⟨k, hk, rfl⟩ := hrel
    by_cases hlt : k < 20
    · have hix := ix 31 Try.underlying31 c k hlt
      go_wp2_with (go_at_call 87; refine (isAmount_t (c k) (H.out k hlt) _).mono ?_; rintro e w' ⟨rfl, rfl⟩)
      go_round
      case rel => exact ⟨k + 1, by omega, by go_num⟩
      case measure => simp [intOf]; omega
    · go_wp2
      go_ret
      exact ⟨rfl, (Below.refl _ _).alloc (Nat.le_refl _) _⟩

@[go_sem] theorem ext_f32bits (y : Nat) (w : World) : (callFunc 195 #[.float .f32 y]).run Try.prog w = .ok (.value (.int .u32 y)) w := by
  rw [run_callFunc_extern Try.func195 (by kernel_rfl) (by kernel_rfl) (by kernel_rfl) (e := Extern.MathFloatBits.float32bits) (by kernel_rfl)]
  rfl

theorem sFinite_t (x : Nat) (hx : x < 4294967296) (h : finB x = true) (w : World) :
    Calls Try.prog 107 #[.float .f32 x] w fun e w' => e = .returned (.bool true) ∧ w = w' := by
  have hr := fun w => run_float_arith (P := Try.prog) w .sub 22 .f32 x x 0 (sub_self_fin hx h)
  clear h hx
  go_enter Try.func107, Try.ntmps107
  go_wp2
  go_ret
  exact ⟨rfl, rfl⟩

theorem sFinite_f (x : Nat) (hx : x < 4294967296) (h : finB x = false) (w : World) :
    Calls Try.prog 107 #[.float .f32 x] w fun e w' => e = .returned (.bool false) ∧ Below w.heap.size w w' := by
  obtain ⟨z, hr, h1, _⟩ := run_arith_nan (P := Try.prog) w .sub (by simp) 22 x x (sub_self_none hx h)
  have Hn := hid (show (FloatKind.f32.format.order z 0 == some .eq) = false by
    show (S.order z 0 == some .eq) = false
    rw [order_nan32 h1]; rfl)
  clear h hx h1
  go_enter Try.func107, Try.ntmps107
  go_wp2
  go_ret
  exact ⟨by simp [Hn.out], (Below.refl _ _).drew⟩

theorem sAmount_t (x : Nat) (h : amtB x = true) (w : World) :
    Calls Try.prog 130 #[.float .f32 x] w fun e w' => e = .returned (.bool true) ∧ w = w' := by
  have hf := amt_fin h
  have h' := amtB_iff.1 h
  have hx : x < 4294967296 := by rw [INF_val] at h'; omega
  have Hx := hid hx
  have Hf := hid hf
  by_cases h0 : x = 0
  · subst h0
    clear h hf h' hx
    go_enter Try.func130, Try.ntmps130
    go_wp2_with (go_at_call 107; refine (sFinite_t 0 Hx.out Hf.out _).mono ?_; rintro e w' ⟨rfl, rfl⟩)
    go_ret
    exact ⟨rfl, rfl⟩
  · have hg : (FloatKind.f32.format.order x 0 == some .gt) = true := by
      show (S.order x 0 == some .gt) = true
      rw [order_zero_pos h', Nat.compare_eq_gt.2 (by omega)]; rfl
    clear h hf h' hx h0
    go_enter Try.func130, Try.ntmps130
    go_wp2_with (go_at_call 107; refine (sFinite_t x Hx.out Hf.out _).mono ?_; rintro e w' ⟨rfl, rfl⟩)
    go_ret
    exact ⟨rfl, rfl⟩

theorem sAmount_f (x : Nat) (hx : x < 4294967296) (h : amtB x = false) (w : World) :
    Calls Try.prog 130 #[.float .f32 x] w fun e w' => e = .returned (.bool false) ∧ Below w.heap.size w w' := by
  rcases hf : finB x with _ | _
  · have Hx := hid hx
    have Hf := hid hf
    clear h hf hx
    go_enter Try.func130, Try.ntmps130
    go_wp2_with (go_at_call 107; refine (sFinite_f x Hx.out Hf.out _).mono ?_; rintro e w' ⟨rfl, hb⟩)
    go_ret
    exact ⟨rfl, hb⟩
  · have hs : 2147483648 ≤ x := by
      rw [amtB_iff', INF_val] at h
      have := finB_iff.1 hf
      rw [INF_val] at this
      unfold mg at this
      omega
    have hg : (FloatKind.f32.format.order x 0 == some .gt) = false := order_neg_zero hx hf hs
    have hb : ((x : Int) == 0) = false := by simp; omega
    have Hx := hid hx
    have Hf := hid hf
    clear h hf hx hs
    go_enter Try.func130, Try.ntmps130
    go_wp2_with (go_at_call 107; refine (sFinite_t x Hx.out Hf.out _).mono ?_; rintro e w' ⟨rfl, rfl⟩)
    go_ret
    exact ⟨rfl, Below.refl _ _⟩

set_option maxRecDepth 100000 in
theorem validSizes_f (c : Nat → Nat) (hb : ∀ i, i < 20 → c i < 4294967296) (h : ¬ ∀ i, i < 20 → amtB (c i) = true) (w : World) :
    Calls Try.prog 85 #[.agg (fls c)] w fun e w' => e = .returned (.bool false) ∧ Below w.heap.size w w' := by
  have H := hid h
  have HB := hid hb
  clear h hb
  go_enter Try.func85, Try.ntmps85
  go_wp2_with (refine wpList_load_row rfl 31 _ rfl w.heap.size rfl 31 (fls c) (0, 0) _ (heap_alloc_new _ _) Try.underlying31 rfl (by rw [fls_size]; exact info_arr) ?_)
  go_loop [6] (fun i => ∃ k : Nat, k ≤ 20 ∧ Hid (∀ i, i < k → amtB (c i) = true) ∧ i = .int .i64 k) (fun i => 20 - (intOf i).toNat)
  case atStart => exact ⟨0, by omega, hid (fun i hi => by omega), rfl⟩
  case round =>
    obtain ⟨k, hk, HK, rfl⟩ := hrel
    by_cases hlt : k < 20
    · have hix := ix 31 Try.underlying31 c k hlt
      rcases hac : amtB (c k) with _ | _
      · have HA := hid hac
        clear hac
        go_wp2_with (go_at_call 87; refine (isAmount_f (c k) (HB.out k hlt) HA.out _).mono ?_; rintro e w' ⟨rfl, hb⟩)
        go_ret
        exact ⟨rfl, (((Below.refl _ _).alloc (Nat.le_refl _) _).trans (hb.mono (by simp)))⟩
      · have HA := hid hac
        clear hac
        go_wp2_with (go_at_call 87; refine (isAmount_t (c k) HA.out _).mono ?_; rintro e w' ⟨rfl, rfl⟩)
        go_round
        case rel =>
          refine ⟨k + 1, by omega, hid (fun i hi => ?_), by go_num⟩
          by_cases e : i = k
          · subst e; exact HA.out
          · exact HK.out i (by omega)
        case measure => simp [intOf]; omega
    · have hk20 : k = 20 := by omega
      exact (H.out (fun i hi => HK.out i (by omega))).elim

theorem info_a20 : (Try.prog.info? 23).map (·.size) = some 20 := by kernel_rfl

set_option maxRecDepth 100000 in
theorem toSizes (c : Nat → Nat) (w : World) :
    Calls Try.prog 60 #[.agg (fls c)] w fun e w' => e = .returned (.agg (fls c)) ∧ Below w.heap.size w w' := by
  have b0 : Below w.heap.size w (w.alloc (.cells (fls c) 23)) := (Below.refl _ _).alloc (Nat.le_refl _) _
  have a0 := hid (arrAt.new w c 23)
  go_enter Try.func60, Try.ntmps60
  go_wp2
  go_loopw [4] (fun i wr => ∃ k : Nat, k ≤ 20 ∧ i = .int .i64 k ∧ Hid (arrAt wr w.heap.size c 23) ∧ Hid (arrAt wr (w.heap.size + 1) (fun _ => 0) 31) ∧ Hid (arrAt wr (w.heap.size + 1 + 1) (cut c k) 31) ∧ Hid (Below w.heap.size w wr)) (fun i _ => 20 - (intOf i).toNat)
  case atStart =>
    refine ⟨0, by omega, rfl, hid ((a0.out.alloc _).alloc _), hid ?_, hid ?_, hid ((b0.alloc (by simp) _).alloc (by simp; omega) _)⟩
    · have := arrAt.new (w.alloc (.cells (fls c) 23)) (fun _ => 0) 31
      have e : (w.alloc (.cells (fls c) 23)).heap.size = w.heap.size + 1 := by simp
      rw [e] at this
      exact this.alloc _
    · have := arrAt.new ((w.alloc (.cells (fls c) 23)).alloc (.cells (fls fun _ => 0) 31)) (fun _ => 0) 31
      have e : ((w.alloc (.cells (fls c) 23)).alloc (.cells (fls fun _ => 0) 31)).heap.size = w.heap.size + 1 + 1 := by simp
      rw [e] at this
      exact this.ext (fun i _ => (cut_zero' c i).symm)
  case round =>
    obtain ⟨k, hk, rfl, h0, h1, h2, hb⟩ := hrel
    by_cases hlt : k < 20
    · have q0 := h0.out.cell hlt
      have q2 := h2.out.cell hlt
      have f2 := h2.out.frozen k
      go_wp2
      go_roundw
      case rel => exact ⟨k + 1, by omega, by go_num, hid (h0.out.setOther (by simp; omega) _), hid (h1.out.setOther (by simp) _), hid ((h2.out.set k (c k)).ext (fun i _ => cut_succ c k i)), hid (hb.out.setCell (by simp; omega) _)⟩
      case measure => simp [intOf]; omega
    · obtain rfl : k = 20 := by omega
      have h2' := hid (h2.out.ext (cut_all c))
      clear h2
      go_wp2_with (first | (refine wpList_load_row rfl 31 _ rfl (w.heap.size + 1 + 1) rfl 31 (fls c) (0, 0) _ h2'.out Try.underlying31 rfl (by rw [fls_size]; exact info_arr) ?_) | (refine wpList_store_row rfl 31 _ _ rfl (w.heap.size + 1) (fls c) rfl rfl 31 _ h1.out (by rw [fls_size]; exact info_arr) (by simp) (fls_one c) ?_))
      exact bodyPost_ret (results_cell_row rfl _ _ (w.heap.size + 1) 31 (fls c) (0, 0) _ rfl (h1.out.setRow c) Try.underlying31 rfl (by rw [fls_size]; exact info_arr)) rfl ⟨rfl, below_row hb.out (by omega) _⟩

theorem div_one_some {y m : Nat} {s : Bool} {e : Int} (h : D.read y = .number s m e) : ∃ q, floatBits .quo .f64 4607182418800017408 y = some q := by
  have h1 : D.read 4607182418800017408 = .number false 4503599627370496 (-52) := by decide
  show ∃ q, D.div 4607182418800017408 y = some q
  unfold Ieee.Format.div
  rw [h, h1]
  simp only [Ieee.Datum.quotient]
  by_cases hm : m = 0
  · rw [if_pos hm]; exact ⟨_, rfl⟩
  · rw [if_neg hm]; exact ⟨_, rfl⟩

set_option maxRecDepth 100000 in
theorem sameFloat (x : Nat) (hx : x < 4294967296) (h : finB x = true) (w : World) :
    Calls Try.prog 41 #[.float .f64 (wid x), .float .f64 (wid x)] w fun e w' => e = .returned (.bool true) ∧ w = w' := by
  obtain ⟨a, b, m, e, hr⟩ := read_wid_fin hx (finB_iff.1 h)
  have hn : (FloatKind.f64.format.order (wid x) (wid x) != some .eq) = false := by
    show (D.order (wid x) (wid x) != some .eq) = false
    rw [order_self hr]; rfl
  have hq : (FloatKind.f64.format.order (wid x) (wid x) == some .eq) = true := by
    show (D.order (wid x) (wid x) == some .eq) = true
    rw [order_self hr]; rfl
  obtain ⟨q, hd⟩ := div_one_some hr
  have hdiv := fun w => run_float_arith (P := Try.prog) w .quo 53 .f64 4607182418800017408 (wid x) q hd
  clear hd hr a b h hx
  rcases hz : (FloatKind.f64.format.order (wid x) 0 == some .eq) with _ | _
  · go_enter Try.func41, Try.ntmps41
    go_wp2
    go_ret
    exact ⟨by simp, rfl⟩
  · go_enter Try.func41, Try.ntmps41
    go_wp2
    go_ret
    exact ⟨by simp, rfl⟩

theorem back {P : Program} {f : FuncId} {args : Array Value} {w : World} {v : Value} (h : Calls P f args w fun e w' => e = .returned v ∧ w = w') : Calls P f args w fun e w' => e = .returned v ∧ w' = w :=
  h.mono fun _ _ ⟨a, b⟩ => ⟨a, b.symm⟩

set_option maxRecDepth 100000 in
theorem eqSizes (c : Nat → Nat) (hb : ∀ i, i < 20 → c i < 4294967296) (h : ∀ i, i < 20 → finB (c i) = true) (w : World) :
    Calls Try.prog 63 #[.agg (fls c), .agg (fls c)] w fun e w' => e = .returned (.bool true) ∧ Below w.heap.size w w' := by
  have b0 : Below w.heap.size w (w.alloc (.cells (fls c) 31)) := (Below.refl _ _).alloc (Nat.le_refl _) _
  have a0 := hid (arrAt.new w c 31)
  have H := hid h
  have HB := hid hb
  clear h hb
  go_enter Try.func63, Try.ntmps63
  go_wp2
  go_loopw [5] (fun i wr => ∃ k : Nat, k ≤ 20 ∧ i = .int .i64 k ∧ Hid (arrAt wr w.heap.size c 31) ∧ Hid (arrAt wr (w.heap.size + 1) c 31) ∧ Hid (Below w.heap.size w wr)) (fun i _ => 20 - (intOf i).toNat)
  case atStart =>
    refine ⟨0, by omega, rfl, hid (a0.out.alloc _), hid ?_, hid (b0.alloc (by simp) _)⟩
    have := arrAt.new (w.alloc (.cells (fls c) 31)) c 31
    have e : (w.alloc (.cells (fls c) 31)).heap.size = w.heap.size + 1 := by simp
    rw [e] at this
    exact this
  case round =>
    obtain ⟨k, hk, rfl, h0, h1, hb⟩ := hrel
    by_cases hlt : k < 20
    · have q0 := h0.out.cell hlt
      have q1 := h1.out.cell hlt
      have hc := fun w => run_conv_wid (P := Try.prog) w 22 53 (c k) (HB.out k hlt) Try.underlying22 Try.underlying53 (finB_iff.1 (H.out k hlt))
      go_wp2
      go_quiet ((go_at_call 41; exact Calls.quiet_of_same (back (sameFloat (c k) (HB.out k hlt) (H.out k hlt) _))))
      go_wp2
      go_roundw
      case rel => exact ⟨k + 1, by omega, by go_num, h0, h1, hid (below_drewN hb.out _)⟩
      case measure => simp [intOf]; omega
    · go_wp2
      go_ret
      exact ⟨rfl, hb.out⟩

/-- The mass of a class, as a word. -/
theorem iMass (k : Nat) (hk : k < 20) (w : World) :
    Calls Try.prog 96 #[.int .i64 (k : Int)] w fun e w' => e = .returned (.float .f32 (mass k)) ∧ w = w' := by
  have H : k = 0 ∨ k = 1 ∨ k = 2 ∨ k = 3 ∨ k = 4 ∨ k = 5 ∨ k = 6 ∨ k = 7 ∨ k = 8 ∨ k = 9 ∨ k = 10 ∨ k = 11 ∨ k = 12 ∨ k = 13 ∨ k = 14 ∨ k = 15 ∨ k = 16 ∨ k = 17 ∨ k = 18 ∨ k = 19 := by omega
  rcases H with rfl | rfl | rfl | rfl | rfl | rfl | rfl | rfl | rfl | rfl | rfl | rfl | rfl | rfl | rfl | rfl | rfl | rfl | rfl | rfl
  all_goals
    go_enter Try.func96, Try.ntmps96
    go_wp2
    go_ret
    exact ⟨rfl, rfl⟩

def Amts (c : Nat → Nat) : Prop := ∀ i, i < 20 → amtB (c i) = true

theorem sMass (k : Nat) (hk : k < 20) (w : World) :
    Calls Try.prog 169 #[.int .i64 (k : Int)] w fun e w' => e = .returned (.float .f32 (mass k)) ∧ w = w' := by
  have H : k = 0 ∨ k = 1 ∨ k = 2 ∨ k = 3 ∨ k = 4 ∨ k = 5 ∨ k = 6 ∨ k = 7 ∨ k = 8 ∨ k = 9 ∨ k = 10 ∨ k = 11 ∨ k = 12 ∨ k = 13 ∨ k = 14 ∨ k = 15 ∨ k = 16 ∨ k = 17 ∨ k = 18 ∨ k = 19 := by omega
  rcases H with rfl | rfl | rfl | rfl | rfl | rfl | rfl | rfl | rfl | rfl | rfl | rfl | rfl | rfl | rfl | rfl | rfl | rfl | rfl | rfl
  all_goals
    go_enter Try.func169, Try.ntmps169
    go_wp2
    go_ret
    exact ⟨rfl, rfl⟩

theorem isClass_t (k : Nat) (hk : k < 20) (w : World) :
    Calls Try.prog 168 #[.int .i64 (k : Int)] w fun e w' => e = .returned (.bool true) ∧ w = w' := by
  have h1 : decide ((0 : Int) ≤ (k : Int)) = true := by simp
  go_enter Try.func168, Try.ntmps168
  go_wp2
  go_ret
  exact ⟨by first | rfl | (simp; done) | (simp; omega), rfl⟩

theorem l00In_t (n a b : Int) (h1 : a ≤ n) (h2 : n ≤ b) (w : World) :
    Calls Try.prog 132 #[.int .i64 n, .int .i64 a, .int .i64 b] w fun e w' => e = .returned (.bool true) ∧ w = w' := by
  go_enter Try.func132, Try.ntmps132
  go_wp2
  go_ret
  exact ⟨by first | rfl | (simp; done) | (simp; omega), rfl⟩

theorem l00In_f (n a b : Int) (hn : ¬ (a ≤ n ∧ n ≤ b)) (w : World) :
    Calls Try.prog 132 #[.int .i64 n, .int .i64 a, .int .i64 b] w fun e w' => e = .returned (.bool false) ∧ w = w' := by
  by_cases h0 : a ≤ n
  · have h3 : b < n := by omega
    clear hn
    go_enter Try.func132, Try.ntmps132
    go_wp2
    go_ret
    exact ⟨by first | rfl | (simp; done) | (simp; omega), rfl⟩
  · have h3 : n < a := by omega
    have h4 : decide (a ≤ n) = false := by simp; omega
    clear hn h0
    go_enter Try.func132, Try.ntmps132
    go_wp2
    go_ret
    exact ⟨by simp, rfl⟩

theorem loose {P : Program} {f : FuncId} {args : Array Value} {w : World} {v : Value} (h : Calls P f args w fun e w' => e = .returned v ∧ w = w') : Calls P f args w fun e w' => e = .returned v ∧ Below w.heap.size w w' :=
  h.mono fun _ _ ⟨a, b⟩ => ⟨a, b ▸ Below.refl _ _⟩

theorem info_air : (Try.prog.info? 33).map (·.size) = some 2 := by kernel_rfl

theorem info_lair : (Try.prog.info? 26).map (·.size) = some 2 := by kernel_rfl

def fltOf : Value → Nat
  | .float _ b => b
  | _ => 0

theorem nearer (b r : Nat) (h : okR b r) (w : World) :
    Calls Try.prog 158 #[.float .f64 r, .float .f64 b] w fun e w' => e = .returned (.float .f64 (rNext b r)) ∧ w = w' := by
  obtain ⟨h1, h2, h3, h4, h5, h6, h7⟩ := h
  have q1 := fun w => run_float_arith (P := Try.prog) w .mul 53 .f64 _ _ _ h1
  have q2 := fun w => run_float_arith (P := Try.prog) w .mul 53 .f64 _ _ _ h2
  have q3 := fun w => run_float_arith (P := Try.prog) w .sub 53 .f64 _ _ _ h3
  have q4 := fun w => run_float_arith (P := Try.prog) w .mul 53 .f64 _ _ _ h4
  have q5 := fun w => run_float_arith (P := Try.prog) w .mul 53 .f64 _ _ _ h5
  have q6 := fun w => run_float_arith (P := Try.prog) w .quo 53 .f64 _ _ _ h6
  have q7 := fun w => run_float_arith (P := Try.prog) w .sub 53 .f64 _ _ _ h7
  clear h1 h2 h3 h4 h5 h6 h7
  go_enter Try.func158, Try.ntmps158
  go_wp2
  go_ret
  exact ⟨rfl, rfl⟩

set_option maxRecDepth 100000 in
theorem iThird (a n m z root : Nat) (ha : amtB a = true) (h0 : a ≠ 0) (T : RootTr a n m z root) (w : World) :
    Calls Try.prog 81 #[.float .f32 a] w fun e w' => e = .returned (.tuple #[.float .f32 root, .int .i64 0]) ∧ w = w' := by
  have hc := fun w => run_conv_wid (P := Try.prog) w 22 53 a (amt_lt ha) Try.underlying22 Try.underlying53 (finB_iff.1 (amt_fin ha))
  have he : (FloatKind.f32.format.order a 0 == some .eq) = false := by
    show (S.order a 0 == some .eq) = false
    rw [order_zero_pos (amtB_iff.1 ha), Nat.compare_eq_gt.2 (by omega)]; rfl
  have hz := fun w => run_float_arith (P := Try.prog) w .mul 53 .f64 _ _ _ T.hz
  have ho := fun w => run_convert_float_float (P := Try.prog) w 53 22 .f64 .f32 z root (by rw [Try.underlying53]; rfl) Try.underlying22 T.out
  have HA := hid ha
  have HT := hid T
  clear ha h0 T
  go_enter Try.func81, Try.ntmps81
  go_wp2_with (go_at_call 87; refine (isAmount_t a HA.out _).mono ?_; rintro e w' ⟨rfl, rfl⟩)
  go_loop [4, 5] (fun b x => ∃ j : Nat, j ≤ n ∧ b = .float .f64 (bS (wid a) j) ∧ x = .float .f64 (xS 4607182418800017408 j)) (fun b _ => fltOf b)
  case atStart => exact ⟨0, Nat.zero_le _, rfl, rfl⟩
  case round =>
    obtain ⟨j, hj, rfl, rfl⟩ := hrel
    by_cases hlt : j < n
    · obtain ⟨g1, g2, g3, g4⟩ := HT.out.l1 j hlt
      have q0 : (FloatKind.f64.format.order (bS (wid a) j) 4620693217682128896 == some .gt || FloatKind.f64.format.order (bS (wid a) j) 4620693217682128896 == some .eq) = true := g1
      have q1 := fun w => run_float_arith (P := Try.prog) w .quo 53 .f64 _ _ _ g2
      have q2 := fun w => run_float_arith (P := Try.prog) w .mul 53 .f64 _ _ _ g3
      have G4 := hid g4
      clear g1 g2 g3 g4
      go_wp2
      go_round
      case rel => exact ⟨j + 1, by omega, rfl, rfl⟩
      case measure => exact G4.out
    · obtain rfl : j = n := by omega
      have q0 : (FloatKind.f64.format.order (bS (wid a) j) 4620693217682128896 == some .gt || FloatKind.f64.format.order (bS (wid a) j) 4620693217682128896 == some .eq) = false := HT.out.e1
      go_wp2
      clear q0
      go_loop [4, 5] (fun b x => ∃ i : Nat, i ≤ m ∧ b = .float .f64 (cS (bS (wid a) j) i) ∧ x = .float .f64 (yS (xS 4607182418800017408 j) i)) (fun b _ => 9218868437227405312 - fltOf b)
      case atStart => exact ⟨0, Nat.zero_le _, rfl, rfl⟩
      case round =>
        obtain ⟨i, hi, rfl, rfl⟩ := hrel
        by_cases hlt : i < m
        · obtain ⟨g1, g2, g3, g4, g5⟩ := HT.out.l2 i hlt
          have q0 : (FloatKind.f64.format.order (cS (bS (wid a) j) i) 4607182418800017408 == some .lt) = true := g1
          have q1 := fun w => run_float_arith (P := Try.prog) w .mul 53 .f64 _ _ _ g2
          have q2 := fun w => run_float_arith (P := Try.prog) w .quo 53 .f64 _ _ _ g3
          have G4 := hid g4
          have G5 := hid g5
          clear g1 g2 g3 g4 g5
          go_wp2
          go_round
          case rel => exact ⟨i + 1, by omega, rfl, rfl⟩
          case measure => have := G4.out; have := G5.out; simp only [fltOf]; omega
        · obtain rfl : i = m := by omega
          have q0 : (FloatKind.f64.format.order (cS (bS (wid a) j) i) 4607182418800017408 == some .lt) = false := HT.out.e2
          go_wp2
          clear q0
          go_loop [6, 26] (fun r k => ∃ q : Nat, q ≤ 6 ∧ k = .int .i64 q ∧ r = .float .f64 (rS (cS (bS (wid a) j) i) q)) (fun _ k => 6 - (intOf k).toNat)
          case atStart => exact ⟨0, by omega, rfl, rfl⟩
          case round =>
            obtain ⟨q, hq, rfl, rfl⟩ := hrel
            by_cases hlt : q < 6
            · have HN := hid (HT.out.l3 q hlt)
              go_wp2_with fail
              refine (nearer (cS (bS (wid a) j) i) (rS (cS (bS (wid a) j) i) q) HN.out _).mono ?_
              rintro e w' ⟨rfl, rfl⟩
              go_wp2
              go_round
              case rel => exact ⟨q + 1, by omega, by go_num, rfl⟩
              case measure => simp [intOf]; omega
            · obtain rfl : q = 6 := by omega
              go_wp2
              go_ret2
              exact ⟨rfl, rfl⟩

set_option maxRecDepth 100000 in
theorem sThird (a n m z root : Nat) (ha : amtB a = true) (h0 : a ≠ 0) (T : RootTr a n m z root) (w : World) :
    Calls Try.prog 157 #[.float .f32 a] w fun e w' => e = .returned (.float .f32 root) ∧ w = w' := by
  have hc := fun w => run_conv_wid (P := Try.prog) w 22 53 a (amt_lt ha) Try.underlying22 Try.underlying53 (finB_iff.1 (amt_fin ha))
  have he : (FloatKind.f32.format.order a 0 == some .eq) = false := by
    show (S.order a 0 == some .eq) = false
    rw [order_zero_pos (amtB_iff.1 ha), Nat.compare_eq_gt.2 (by omega)]; rfl
  have hz := fun w => run_float_arith (P := Try.prog) w .mul 53 .f64 _ _ _ T.hz
  have ho := fun w => run_convert_float_float (P := Try.prog) w 53 22 .f64 .f32 z root (by rw [Try.underlying53]; rfl) Try.underlying22 T.out
  have HT := hid T
  clear ha h0 T
  go_enter Try.func157, Try.ntmps157
  go_wp2
  go_loop [3, 4] (fun b x => ∃ j : Nat, j ≤ n ∧ b = .float .f64 (bS (wid a) j) ∧ x = .float .f64 (xS 4607182418800017408 j)) (fun b _ => fltOf b)
  case atStart => exact ⟨0, Nat.zero_le _, rfl, rfl⟩
  case round =>
    obtain ⟨j, hj, rfl, rfl⟩ := hrel
    by_cases hlt : j < n
    · obtain ⟨g1, g2, g3, g4⟩ := HT.out.l1 j hlt
      have q0 : (FloatKind.f64.format.order (bS (wid a) j) 4620693217682128896 == some .gt || FloatKind.f64.format.order (bS (wid a) j) 4620693217682128896 == some .eq) = true := g1
      have q1 := fun w => run_float_arith (P := Try.prog) w .quo 53 .f64 _ _ _ g2
      have q2 := fun w => run_float_arith (P := Try.prog) w .mul 53 .f64 _ _ _ g3
      have G4 := hid g4
      clear g1 g2 g3 g4
      go_wp2
      go_round
      case rel => exact ⟨j + 1, by omega, rfl, rfl⟩
      case measure => exact G4.out
    · obtain rfl : j = n := by omega
      have q0 : (FloatKind.f64.format.order (bS (wid a) j) 4620693217682128896 == some .gt || FloatKind.f64.format.order (bS (wid a) j) 4620693217682128896 == some .eq) = false := HT.out.e1
      go_wp2
      clear q0
      go_loop [3, 4] (fun b x => ∃ i : Nat, i ≤ m ∧ b = .float .f64 (cS (bS (wid a) j) i) ∧ x = .float .f64 (yS (xS 4607182418800017408 j) i)) (fun b _ => 9218868437227405312 - fltOf b)
      case atStart => exact ⟨0, Nat.zero_le _, rfl, rfl⟩
      case round =>
        obtain ⟨i, hi, rfl, rfl⟩ := hrel
        by_cases hlt : i < m
        · obtain ⟨g1, g2, g3, g4, g5⟩ := HT.out.l2 i hlt
          have q0 : (FloatKind.f64.format.order (cS (bS (wid a) j) i) 4607182418800017408 == some .lt) = true := g1
          have q1 := fun w => run_float_arith (P := Try.prog) w .mul 53 .f64 _ _ _ g2
          have q2 := fun w => run_float_arith (P := Try.prog) w .quo 53 .f64 _ _ _ g3
          have G4 := hid g4
          have G5 := hid g5
          clear g1 g2 g3 g4 g5
          go_wp2
          go_round
          case rel => exact ⟨i + 1, by omega, rfl, rfl⟩
          case measure => have := G4.out; have := G5.out; simp only [fltOf]; omega
        · obtain rfl : i = m := by omega
          have q0 : (FloatKind.f64.format.order (cS (bS (wid a) j) i) 4607182418800017408 == some .lt) = false := HT.out.e2
          go_wp2
          clear q0
          go_loop [5, 6] (fun r k => ∃ q : Nat, q ≤ 6 ∧ k = .int .i64 q ∧ r = .float .f64 (rS (cS (bS (wid a) j) i) q)) (fun _ k => 6 - (intOf k).toNat)
          case atStart => exact ⟨0, by omega, rfl, rfl⟩
          case round =>
            obtain ⟨q, hq, rfl, rfl⟩ := hrel
            by_cases hlt : q < 6
            · obtain ⟨h1, h2, h3, h4, h5, h6, h7⟩ := HT.out.l3 q hlt
              have q1 := fun w => run_float_arith (P := Try.prog) w .mul 53 .f64 _ _ _ h1
              have q2 := fun w => run_float_arith (P := Try.prog) w .mul 53 .f64 _ _ _ h2
              have q3 := fun w => run_float_arith (P := Try.prog) w .sub 53 .f64 _ _ _ h3
              have q4 := fun w => run_float_arith (P := Try.prog) w .mul 53 .f64 _ _ _ h4
              have q5 := fun w => run_float_arith (P := Try.prog) w .mul 53 .f64 _ _ _ h5
              have q6 := fun w => run_float_arith (P := Try.prog) w .quo 53 .f64 _ _ _ h6
              have q7 := fun w => run_float_arith (P := Try.prog) w .sub 53 .f64 _ _ _ h7
              clear h1 h2 h3 h4 h5 h6 h7
              go_wp2
              go_round
              case rel => exact ⟨q + 1, by omega, by go_num, rfl⟩
              case measure => simp [intOf]; omega
            · obtain rfl : q = 6 := by omega
              go_wp2
              go_ret
              exact ⟨rfl, rfl⟩

theorem mass_ne {k : Nat} : mass k ≠ 0 := by unfold mass; omega

theorem iThirdMass (k : Nat) (hk : k < 20) (w : World) :
    Calls Try.prog 81 #[.float .f32 (mass k)] w fun e w' => e = .returned (.tuple #[.float .f32 (rad k), .int .i64 0]) ∧ w = w' :=
  iThird (mass k) (k / 3) 0 (rz k) (rad k) (mass_amt hk) mass_ne (tr_one hk).1 w

theorem sThirdMass (k : Nat) (hk : k < 20) (w : World) :
    Calls Try.prog 157 #[.float .f32 (mass k)] w fun e w' => e = .returned (.float .f32 (rad k)) ∧ w = w' :=
  sThird (mass k) (k / 3) 0 (rz k) (rad k) (mass_amt hk) mass_ne (tr_one hk).1 w

theorem iRadius (k : Nat) (hk : k < 20) (w : World) :
    Calls Try.prog 94 #[.int .i64 (k : Int)] w fun e w' => e = .returned (.tuple #[.float .f32 (rad k), .int .i64 0]) ∧ w = w' := by
  have HK := hid hk
  clear hk
  go_enter Try.func94, Try.ntmps94
  go_wp2_with (first | (go_at_call 168; refine (isClass_t k HK.out _).mono ?_; rintro e w' ⟨rfl, rfl⟩) | (go_at_call 96; refine (iMass k HK.out _).mono ?_; rintro e w' ⟨rfl, rfl⟩) | (go_at_call 81; refine (iThirdMass k HK.out _).mono ?_; rintro e w' ⟨rfl, rfl⟩))
  go_ret2
  exact ⟨rfl, rfl⟩

theorem sRad (k : Nat) (hk : k < 20) (w : World) :
    Calls Try.prog 167 #[.int .i64 (k : Int)] w fun e w' => e = .returned (.float .f32 (rad k)) ∧ w = w' := by
  have HK := hid hk
  clear hk
  go_enter Try.func167, Try.ntmps167
  go_wp2_with (first | (go_at_call 169; refine (sMass k HK.out _).mono ?_; rintro e w' ⟨rfl, rfl⟩) | (go_at_call 157; refine (sThirdMass k HK.out _).mono ?_; rintro e w' ⟨rfl, rfl⟩))
  go_ret
  exact ⟨rfl, rfl⟩

set_option maxRecDepth 100000 in
theorem toAir (h v : Nat) (w : World) :
    Calls Try.prog 61 #[.agg #[.float .f32 h, .float .f32 v]] w fun e w' => e = .returned (.agg #[.float .f32 h, .float .f32 v]) ∧ Below w.heap.size w w' := by
  have k0 : Hid (Kept w [(w.heap.size + 1, #[.float .f32 h, .float .f32 v], 33)] (((w.alloc (.cells #[.float .f32 h, .float .f32 v] 26)).alloc (.cells #[.float .f32 h, .float .f32 v] 33)).alloc (.cells #[.float .f32 h, .float .f32 v] 33))) := hid (((((Kept.nil w).push _ _).push _ _).push _ _).sub (by simp))
  go_enter Try.func61, Try.ntmps61
  go_wp2
  exact bodyPost_ret (results_cell_row rfl _ _ (w.heap.size + 1) 33 #[.float .f32 h, .float .f32 v] (0, 0) _ rfl (k0.out.at (x := (w.heap.size + 1, #[.float .f32 h, .float .f32 v], 33)) (by simp)) Try.underlying33 rfl info_air) rfl ⟨rfl, k0.out.1⟩

set_option maxRecDepth 100000 in
theorem eqAir (h v : Nat) (hh : h < 4294967296) (hv : v < 4294967296) (fh : finB h = true) (fv : finB v = true) (w : World) :
    Calls Try.prog 64 #[.agg #[.float .f32 h, .float .f32 v], .agg #[.float .f32 h, .float .f32 v]] w fun e w' => e = .returned (.bool true) ∧ Below w.heap.size w w' := by
  have hc0 := fun w => run_conv_wid (P := Try.prog) w 22 53 h hh Try.underlying22 Try.underlying53 (finB_iff.1 fh)
  have hc1 := fun w => run_conv_wid (P := Try.prog) w 22 53 v hv Try.underlying22 Try.underlying53 (finB_iff.1 fv)
  have Hh := hid hh
  have Hv := hid hv
  have Fh := hid fh
  have Fv := hid fv
  have b0 := boxed2 w (.cells #[.float .f32 h, .float .f32 v] 33) (.cells #[.float .f32 h, .float .f32 v] 33)
  clear hh hv fh fv
  go_enter Try.func64, Try.ntmps64
  go_wp2_with fail
  refine (sameFloat h Hh.out Fh.out _).mono ?_
  rintro e w1 ⟨rfl, rfl⟩
  go_wp2_with fail
  refine (sameFloat v Hv.out Fv.out _).mono ?_
  rintro e w1 ⟨rfl, rfl⟩
  go_wp2
  go_ret
  exact ⟨rfl, b0⟩

theorem iHeat (x : Nat) (q : Bool) (hq : heatB x = q) (w : World) :
    Calls Try.prog 159 #[.float .f32 x] w fun e w' => e = .returned (.bool q) ∧ w = w' := by
  have h1 : heatB x = ((FloatKind.f32.format.order x 3262119936 == some .gt || FloatKind.f32.format.order x 3262119936 == some .eq) && (FloatKind.f32.format.order x 1114636288 == some .lt || FloatKind.f32.format.order x 1114636288 == some .eq)) := rfl
  rw [h1] at hq
  clear h1
  rcases a : (FloatKind.f32.format.order x 3262119936 == some .gt || FloatKind.f32.format.order x 3262119936 == some .eq) with _ | _
  · rw [a] at hq
    simp only [Bool.false_and] at hq
    subst hq
    go_enter Try.func159, Try.ntmps159
    go_wp2
    go_ret
    exact ⟨rfl, rfl⟩
  · rw [a] at hq
    simp only [Bool.true_and] at hq
    cases q
    all_goals
      go_enter Try.func159, Try.ntmps159
      go_wp2
      go_ret
      exact ⟨rfl, rfl⟩

theorem sHeat (x : Nat) (q : Bool) (hq : heatB x = q) (w : World) :
    Calls Try.prog 194 #[.float .f32 x] w fun e w' => e = .returned (.bool q) ∧ w = w' := by
  have h1 : heatB x = ((FloatKind.f32.format.order x 3262119936 == some .gt || FloatKind.f32.format.order x 3262119936 == some .eq) && (FloatKind.f32.format.order x 1114636288 == some .lt || FloatKind.f32.format.order x 1114636288 == some .eq)) := rfl
  rw [h1] at hq
  clear h1
  rcases a : (FloatKind.f32.format.order x 3262119936 == some .gt || FloatKind.f32.format.order x 3262119936 == some .eq) with _ | _
  · rw [a] at hq
    simp only [Bool.false_and] at hq
    subst hq
    go_enter Try.func194, Try.ntmps194
    go_wp2
    go_ret
    exact ⟨rfl, rfl⟩
  · rw [a] at hq
    simp only [Bool.true_and] at hq
    cases q
    all_goals
      go_enter Try.func194, Try.ntmps194
      go_wp2
      go_ret
      exact ⟨rfl, rfl⟩

set_option maxRecDepth 100000 in
theorem iValidAir (h v : Nat) (hv : v < 4294967296) (q : Bool) (hq : airB h v = q) (w : World) :
    Calls Try.prog 86 #[.agg #[.float .f32 h, .float .f32 v]] w fun e w' => e = .returned (.bool q) ∧ Below w.heap.size w w' := by
  have b0 := boxed w (.cells #[.float .f32 h, .float .f32 v] 33)
  have Hv := hid hv
  have e1 : airB h v = (heatB h && amtB v && vapB v) := rfl
  rw [e1] at hq
  clear hv e1
  rcases a : heatB h with _ | _
  · have Ha := hid a
    rw [a] at hq
    simp only [Bool.false_and] at hq
    subst hq
    clear a
    go_enter Try.func86, Try.ntmps86
    go_wp2_with fail
    refine (iHeat h false Ha.out _).mono ?_
    rintro e w1 ⟨rfl, rfl⟩
    go_wp2
    go_ret
    exact ⟨rfl, b0⟩
  · have Ha := hid a
    rw [a] at hq
    clear a
    rcases b : amtB v with _ | _
    · have Hb := hid b
      rw [b] at hq
      simp only [Bool.and_false, Bool.false_and] at hq
      subst hq
      clear b
      go_enter Try.func86, Try.ntmps86
      go_wp2_with fail
      refine (iHeat h true Ha.out _).mono ?_
      rintro e w1 ⟨rfl, rfl⟩
      go_wp2_with fail
      refine (isAmount_f v Hv.out Hb.out _).mono ?_
      rintro e w1 ⟨rfl, hb1⟩
      go_wp2
      go_ret
      exact ⟨rfl, stp b0 (Nat.le_refl _) hb1⟩
    · have Hb := hid b
      rw [b] at hq
      simp only [Bool.true_and] at hq
      have hc : (FloatKind.f32.format.order v 1148846080 == some .lt || FloatKind.f32.format.order v 1148846080 == some .eq) = q := hq
      clear b hq
      cases q
      all_goals
        go_enter Try.func86, Try.ntmps86
        go_wp2_with fail
        refine (iHeat h true Ha.out _).mono ?_
        rintro e w1 ⟨rfl, rfl⟩
        go_wp2_with fail
        refine (isAmount_t v Hb.out _).mono ?_
        rintro e w1 ⟨rfl, rfl⟩
        go_wp2
        go_ret
        exact ⟨rfl, b0⟩

set_option maxRecDepth 100000 in
theorem sAirAt_f (h v : Nat) (hv : v < 4294967296) (hq : airB h v = false) (w : World) (g o : Nat) (c0 : w.cell? ⟨g, o, none⟩ = some (.float .f32 h)) (c1 : w.cell? ⟨g, o + 1, none⟩ = some (.float .f32 v)) :
    Calls Try.prog 129 #[.pointer (some ⟨g, o, none⟩)] w fun e w' => e = .returned (.bool false) ∧ Below w.heap.size w w' := by
  have Hv := hid hv
  have e1 : airB h v = (heatB h && amtB v && vapB v) := rfl
  rw [e1] at hq
  clear hv e1
  rcases a : heatB h with _ | _
  · have Ha := hid a
    clear a hq
    go_enter Try.func129, Try.ntmps129
    go_wp2_with fail
    refine (sHeat h false Ha.out _).mono ?_
    rintro e w1 ⟨rfl, rfl⟩
    go_wp2
    go_ret
    exact ⟨rfl, Below.refl _ _⟩
  · have Ha := hid a
    rw [a] at hq
    clear a
    rcases b : amtB v with _ | _
    · have Hb := hid b
      clear b hq
      go_enter Try.func129, Try.ntmps129
      go_wp2_with fail
      refine (sHeat h true Ha.out _).mono ?_
      rintro e w1 ⟨rfl, rfl⟩
      go_wp2_with fail
      refine (sAmount_f v Hv.out Hb.out _).mono ?_
      rintro e w1 ⟨rfl, hb1⟩
      go_wp2
      go_ret
      exact ⟨rfl, hb1⟩
    · have Hb := hid b
      rw [b] at hq
      simp only [Bool.true_and] at hq
      have hc : (FloatKind.f32.format.order v 1148846080 == some .lt || FloatKind.f32.format.order v 1148846080 == some .eq) = false := hq
      clear b hq
      go_enter Try.func129, Try.ntmps129
      go_wp2_with fail
      refine (sHeat h true Ha.out _).mono ?_
      rintro e w1 ⟨rfl, rfl⟩
      go_wp2_with fail
      refine (sAmount_t v Hb.out _).mono ?_
      rintro e w1 ⟨rfl, rfl⟩
      go_wp2
      go_ret
      exact ⟨rfl, Below.refl _ _⟩

set_option maxRecDepth 100000 in
theorem sAirAt_t (h v : Nat) (hq : airB h v = true) (w : World) (g o : Nat) (c0 : w.cell? ⟨g, o, none⟩ = some (.float .f32 h)) (c1 : w.cell? ⟨g, o + 1, none⟩ = some (.float .f32 v)) :
    Calls Try.prog 129 #[.pointer (some ⟨g, o, none⟩)] w fun e w' => e = .returned (.bool true) ∧ w = w' := by
  obtain ⟨a, b, c⟩ := airB_iff.1 hq
  have hc : (FloatKind.f32.format.order v 1148846080 == some .lt || FloatKind.f32.format.order v 1148846080 == some .eq) = true := c
  have Ha := hid a
  have Hb := hid b
  clear a b c hq
  go_enter Try.func129, Try.ntmps129
  go_wp2_with fail
  refine (sHeat h true Ha.out _).mono ?_
  rintro e w1 ⟨rfl, rfl⟩
  go_wp2_with fail
  refine (sAmount_t v Hb.out _).mono ?_
  rintro e w1 ⟨rfl, rfl⟩
  go_wp2
  go_ret
  exact ⟨rfl, rfl⟩

theorem sAirAt (h v : Nat) (hv : v < 4294967296) (q : Bool) (hq : airB h v = q) (w : World) (g o : Nat) (c0 : w.cell? ⟨g, o, none⟩ = some (.float .f32 h)) (c1 : w.cell? ⟨g, o + 1, none⟩ = some (.float .f32 v)) :
    Calls Try.prog 129 #[.pointer (some ⟨g, o, none⟩)] w fun e w' => e = .returned (.bool q) ∧ Below w.heap.size w w' := by
  cases q
  · exact sAirAt_f h v hv hq w g o c0 c1
  · exact loose (sAirAt_t h v hq w g o c0 c1)

set_option maxRecDepth 100000 in
theorem sOkAt_t (c : Nat → Nat) (h : Amts c) (w : World) (g o : Nat) (hg : ∀ k, k < 20 → w.cell? ⟨g, o + k, none⟩ = some (.float .f32 (c k))) :
    Calls Try.prog 128 #[.pointer (some ⟨g, o, none⟩)] w fun e w' => e = .returned (.bool true) ∧ w = w' := by
  have H := hid h
  have HG := hid hg
  clear h hg
  go_enter Try.func128, Try.ntmps128
  go_wp2
  go_loop [3] (fun i => ∃ k : Nat, k ≤ 20 ∧ i = .int .i64 k) (fun i => 20 - (intOf i).toNat)
  case atStart => exact ⟨0, by omega, rfl⟩
  case round =>
    obtain ⟨k, hk, rfl⟩ := hrel
    by_cases hlt : k < 20
    · have hcell := HG.out k hlt
      go_wp2_with (go_at_call 130; refine (sAmount_t (c k) (H.out k hlt) _).mono ?_; rintro e w' ⟨rfl, rfl⟩)
      go_round
      case rel => exact ⟨k + 1, by omega, by go_num⟩
      case measure => simp [intOf]; omega
    · go_wp2
      go_ret
      exact ⟨rfl, rfl⟩

set_option maxRecDepth 100000 in
theorem sOkAt_f (c : Nat → Nat) (hb : ∀ i, i < 20 → c i < 4294967296) (h : ¬ Amts c) (w : World) (g o : Nat) (hg : ∀ k, k < 20 → w.cell? ⟨g, o + k, none⟩ = some (.float .f32 (c k))) :
    Calls Try.prog 128 #[.pointer (some ⟨g, o, none⟩)] w fun e w' => e = .returned (.bool false) ∧ Below w.heap.size w w' := by
  have H := hid h
  have HB := hid hb
  have HG := hid hg
  clear h hb hg
  go_enter Try.func128, Try.ntmps128
  go_wp2
  go_loop [3] (fun i => ∃ k : Nat, k ≤ 20 ∧ Hid (∀ i, i < k → amtB (c i) = true) ∧ i = .int .i64 k) (fun i => 20 - (intOf i).toNat)
  case atStart => exact ⟨0, by omega, hid (fun i hi => by omega), rfl⟩
  case round =>
    obtain ⟨k, hk, HK, rfl⟩ := hrel
    by_cases hlt : k < 20
    · have hcell := HG.out k hlt
      rcases hac : amtB (c k) with _ | _
      · have HA := hid hac
        clear hac
        go_wp2_with (go_at_call 130; refine (sAmount_f (c k) (HB.out k hlt) HA.out _).mono ?_; rintro e w' ⟨rfl, hb⟩)
        go_ret
        exact ⟨rfl, hb⟩
      · have HA := hid hac
        clear hac
        go_wp2_with (go_at_call 130; refine (sAmount_t (c k) HA.out _).mono ?_; rintro e w' ⟨rfl, rfl⟩)
        go_round
        case rel =>
          refine ⟨k + 1, by omega, hid (fun i hi => ?_), by go_num⟩
          by_cases e : i = k
          · subst e; exact HA.out
          · exact HK.out i (by omega)
        case measure => simp [intOf]; omega
    · have hk20 : k = 20 := by omega
      exact (H.out (fun i hi => HK.out i (by omega))).elim

set_option maxHeartbeats 1000000 in
set_option maxRecDepth 100000 in
theorem sColOk (c : Nat → Nat) (t : Int) (hb : ∀ i, i < 177 → c i < 4294967296) (q : Bool) (hq : q = true ↔ ColOk c t) (w : World) (g : Nat) (T : TypeId) (hg : vAt w g 178 (clw c t) T) :
    Calls Try.prog 82 #[.pointer (some ⟨g, 0, none⟩)] w fun e w' => e = .returned (.bool q) ∧ Below w.heap.size w w' := by
  have HB := hid hb
  have HQ := hid hq
  have HG := hid hg
  clear hb hq hg
  go_enter Try.func82, Try.ntmps82
  go_wp2_with fail
  go_loopw [3] (fun i wr => ∃ k : Nat, k ≤ 8 ∧ i = .int .i64 k ∧ Hid (UpOk c k) ∧ Hid (vAt wr g 178 (clw c t) T) ∧ Hid (Below w.heap.size w wr)) (fun i _ => 8 - (intOf i).toNat)
  case atStart => exact ⟨0, by omega, rfl, hid (.zero c), HG, hid (Below.refl _ _)⟩
  case round =>
    obtain ⟨k, hk, rfl, HK, h0, hb⟩ := hrel
    by_cases hlt : k < 8
    · have HL := hid hlt
      have hk3 : (k : Int) < 8 := by omega
      by_cases hv : Amts (rowK c k)
      · have HV := hid hv
        clear hv
        go_wp2_with fail
        refine (sOkAt_t (rowK c k) HV.out _ g (k * 20) (h0.out.cd HL.out)).mono ?_
        rintro e w1 ⟨rfl, rfl⟩
        rcases ha : airB (heC c k) (vaC c k) with _ | _
        · have hn := no_air hlt ha HQ.out
          subst hn
          have HA := hid ha
          clear ha
          go_wp2_with fail
          refine (sAirAt (heC c k) (vaC c k) (HB.out _ (by have := HL.out; omega)) false HA.out _ g (160 + k * 2) (h0.out.ch HL.out) (h0.out.cv HL.out)).mono ?_
          rintro e w1 ⟨rfl, hb1⟩
          go_wp2
          go_ret
          exact ⟨rfl, stp hb.out (Nat.le_refl _) hb1⟩
        · have HA := hid ha
          clear ha
          go_wp2_with fail
          refine (sAirAt_t (heC c k) (vaC c k) HA.out _ g (160 + k * 2) (h0.out.ch HL.out) (h0.out.cv HL.out)).mono ?_
          rintro e w1 ⟨rfl, rfl⟩
          go_wp2
          go_roundw
          case rel => exact ⟨k + 1, by omega, by go_num, hid (HK.out.step HV.out HA.out), h0, hb⟩
          case measure => simp [intOf]; omega
      · have hn := no_sz hlt hv HQ.out
        subst hn
        have HV := hid hv
        clear hv
        go_wp2_with fail
        refine (sOkAt_f (rowK c k) (fun i hi => HB.out _ (by have := HL.out; omega)) HV.out _ g (k * 20) (h0.out.cd HL.out)).mono ?_
        rintro e w1 ⟨rfl, hb1⟩
        go_wp2
        go_ret
        exact ⟨rfl, stp hb.out (Nat.le_refl _) hb1⟩
    · obtain rfl : k = 8 := by omega
      have q0 := h0.out.cf (i := 176) (by omega)
      have q1 := h0.out.ct
      rcases ha : amtB (c 176) with _ | _
      · have hn := no_gauge ha HQ.out
        subst hn
        have HA := hid ha
        clear ha
        go_wp2_with fail
        refine (sAmount_f (c 176) (HB.out _ (by omega)) HA.out _).mono ?_
        rintro e w1 ⟨rfl, hb1⟩
        go_wp2
        go_ret
        exact ⟨rfl, stp hb.out (Nat.le_refl _) hb1⟩
      · have hi := is_col HK.out ha HQ.out
        have HI := hid hi
        have HA := hid ha
        clear ha hi
        go_wp2_with fail
        refine (sAmount_t (c 176) HA.out _).mono ?_
        rintro e w1 ⟨rfl, rfl⟩
        go_wp2_with fail
        cases q
        · refine (l00In_f t 0 1000000000 (fun x => by cases HI.out.1 x) _).mono ?_
          rintro e w1 ⟨rfl, rfl⟩
          go_wp2
          go_ret
          exact ⟨rfl, hb.out⟩
        · refine (l00In_t t 0 1000000000 (HI.out.2 rfl).1 (HI.out.2 rfl).2 _).mono ?_
          rintro e w1 ⟨rfl, rfl⟩
          go_wp2
          go_ret
          exact ⟨rfl, hb.out⟩

theorem info_col : (Try.prog.info? 36).map (·.size) = some 178 := by kernel_rfl

set_option maxHeartbeats 1000000 in
set_option maxRecDepth 100000 in
theorem iValidColumn (c : Nat → Nat) (t : Int) (hb : ∀ i, i < 177 → c i < 4294967296) (q : Bool) (hq : q = true ↔ ColOk c t) (w : World) :
    Calls Try.prog 24 #[.agg (vls 178 (clw c t))] w fun e w' => e = .returned (.bool q) ∧ Below w.heap.size w w' := by
  have HB := hid hb
  have HQ := hid hq
  have A0 := hid (vAt.new w 178 (clw c t) 36)
  have b0 := boxed w (.cells (vls 178 (clw c t)) 36)
  clear hb hq
  go_enter Try.func24, Try.ntmps24
  go_wp2_with fail
  go_loopw [4] (fun i wr => ∃ k : Nat, k ≤ 8 ∧ i = .int .i64 k ∧ Hid (UpOk c k) ∧ Hid (vAt wr w.heap.size 178 (clw c t) 36) ∧ Hid (Below w.heap.size w wr)) (fun i _ => 8 - (intOf i).toNat)
  case atStart => exact ⟨0, by omega, rfl, hid (.zero c), A0, hid b0⟩
  case round =>
    clear A0 b0
    obtain ⟨k, hk, rfl, HK, h0, hb⟩ := hrel
    by_cases hlt : k < 8
    · have HL := hid hlt
      have hk3 : (k : Int) < 8 := by omega
      by_cases hv : Amts (rowK c k)
      · have HV := hid hv
        clear hv
        go_wp2_with (refine wpList_load_as (by rfl) 31 _ (by rfl) (w.heap.size) (k * 20) (by rfl) 178 (clw c t) 36 h0.out 20 (by omega) (fls (rowK c k)) (dr_is c t k HL.out) _ Try.underlying31 (by rfl) info_arr ?_)
        refine (validSizes_t (rowK c k) HV.out _).mono ?_
        rintro e w1 ⟨rfl, hb1⟩
        have h0 := hid (h0.out.stay hb1)
        have hb := hid (stp hb.out (Nat.le_refl _) hb1)
        rcases ha : airB (heC c k) (vaC c k) with _ | _
        · have hn := no_air hlt ha HQ.out
          subst hn
          have HA := hid ha
          clear ha
          go_wp2_with (refine wpList_load_as (by rfl) 33 _ (by rfl) (w.heap.size) (160 + k * 2) (by rfl) 178 (clw c t) 36 h0.out 2 (by omega) #[.float .f32 (heC c k), .float .f32 (vaC c k)] (part_air c t HL.out) _ Try.underlying33 (by rfl) info_air ?_)
          refine (iValidAir (heC c k) (vaC c k) (HB.out _ (by have := HL.out; omega)) false HA.out _).mono ?_
          rintro e w2 ⟨rfl, hb2⟩
          go_wp2
          go_ret
          exact ⟨rfl, stp hb.out (Nat.le_refl _) hb2⟩
        · have HA := hid ha
          clear ha
          go_wp2_with (refine wpList_load_as (by rfl) 33 _ (by rfl) (w.heap.size) (160 + k * 2) (by rfl) 178 (clw c t) 36 h0.out 2 (by omega) #[.float .f32 (heC c k), .float .f32 (vaC c k)] (part_air c t HL.out) _ Try.underlying33 (by rfl) info_air ?_)
          refine (iValidAir (heC c k) (vaC c k) (HB.out _ (by have := HL.out; omega)) true HA.out _).mono ?_
          rintro e w2 ⟨rfl, hb2⟩
          have h0 := hid (h0.out.stay hb2)
          have hb := hid (stp hb.out (Nat.le_refl _) hb2)
          go_wp2
          go_roundw
          case rel => exact ⟨k + 1, by omega, by go_num, hid (HK.out.step HV.out HA.out), h0, hb⟩
          case measure => simp [intOf]; omega
      · have hn := no_sz hlt hv HQ.out
        subst hn
        have HV := hid hv
        clear hv
        go_wp2_with (refine wpList_load_as (by rfl) 31 _ (by rfl) (w.heap.size) (k * 20) (by rfl) 178 (clw c t) 36 h0.out 20 (by omega) (fls (rowK c k)) (dr_is c t k HL.out) _ Try.underlying31 (by rfl) info_arr ?_)
        refine (validSizes_f (rowK c k) (fun i hi => HB.out _ (by have := HL.out; omega)) HV.out _).mono ?_
        rintro e w1 ⟨rfl, hb1⟩
        go_wp2
        go_ret
        exact ⟨rfl, stp hb.out (Nat.le_refl _) hb1⟩
    · obtain rfl : k = 8 := by omega
      have q0 := h0.out.cf (i := 176) (by omega)
      have q1 := h0.out.ct
      rcases ha : amtB (c 176) with _ | _
      · have hn := no_gauge ha HQ.out
        subst hn
        have HA := hid ha
        clear ha
        go_wp2_with fail
        refine (isAmount_f (c 176) (HB.out _ (by omega)) HA.out _).mono ?_
        rintro e w1 ⟨rfl, hb1⟩
        go_wp2
        go_ret
        exact ⟨rfl, stp hb.out (Nat.le_refl _) hb1⟩
      · have hi := is_col HK.out ha HQ.out
        have HI := hid hi
        have HA := hid ha
        clear ha hi
        go_wp2_with fail
        refine (isAmount_t (c 176) HA.out _).mono ?_
        rintro e w1 ⟨rfl, rfl⟩
        by_cases h1 : 0 ≤ t
        · by_cases h2 : t ≤ 1000000000
          · have hqt : q = true := HI.out.1 ⟨h1, h2⟩
            subst hqt
            go_wp2_with fail
            go_ret
            exact ⟨by simp, hb.out⟩
          · have hqt : q = false := by rw [← Bool.not_eq_true]; exact fun x => h2 (HI.out.2 x).2
            subst hqt
            go_wp2_with fail
            go_ret
            exact ⟨by simp [h2], hb.out⟩
        · have hqt : q = false := by rw [← Bool.not_eq_true]; exact fun x => h1 (HI.out.2 x).1
          subst hqt
          go_wp2_with fail
          go_ret
          exact ⟨by simp, hb.out⟩

theorem info_ld : (Try.prog.info? 24).map (·.size) = some 160 := by kernel_rfl

theorem info_la : (Try.prog.info? 27).map (·.size) = some 16 := by kernel_rfl

theorem info_sz8 : (Try.prog.info? 32).map (·.size) = some 160 := by kernel_rfl

theorem info_air8 : (Try.prog.info? 34).map (·.size) = some 16 := by kernel_rfl

theorem info_lcol : (Try.prog.info? 29).map (·.size) = some 178 := by kernel_rfl

@[go_sem] theorem zero_sz8 : Try.zeroCells32 = vls 160 (flw fun _ => 0) := by kernel_rfl

@[go_sem] theorem zeros16 : (#[.float .f32 0, .float .f32 0, .float .f32 0, .float .f32 0, .float .f32 0, .float .f32 0, .float .f32 0, .float .f32 0, .float .f32 0, .float .f32 0, .float .f32 0, .float .f32 0, .float .f32 0, .float .f32 0, .float .f32 0, .float .f32 0] : Array Value) = vls 16 (flw fun _ => 0) := rfl

@[go_sem] theorem zero_col : Try.zeroCells36 = vls 178 (clw (fun _ => 0) 0) := by kernel_rfl

set_option maxRecDepth 100000 in
theorem toSizesA8 (c : Nat → Nat) (w : World) :
    Calls Try.prog 83 #[.agg (vls 160 (flw c))] w fun e w' => e = .returned (.agg (vls 160 (flw c))) ∧ Below w.heap.size w w' := by
  have A0 := hid (((vAt.new w 160 (flw c) 24).alloc (.cells (vls 160 (flw fun _ => 0)) 32)).alloc (.cells (vls 160 (flw fun _ => 0)) 32))
  have A1 := hid ((vAt.new1 w (.cells (vls 160 (flw c)) 24) 160 (flw fun _ => 0) 32).alloc (.cells (vls 160 (flw fun _ => 0)) 32))
  have A2 := hid (vAt.new2 w (.cells (vls 160 (flw c)) 24) (.cells (vls 160 (flw fun _ => 0)) 32) 160 (flw fun _ => 0) 32)
  have b0 := boxed3 w (.cells (vls 160 (flw c)) 24) (.cells (vls 160 (flw fun _ => 0)) 32) (.cells (vls 160 (flw fun _ => 0)) 32)
  go_enter Try.func83, Try.ntmps83
  go_wp2_with fail
  go_loopw [4] (fun i wr => ∃ k : Nat, k ≤ 8 ∧ i = .int .i64 k ∧ Hid (vAt wr w.heap.size 160 (flw c) 24) ∧ Hid (vAt wr (w.heap.size + 1) 160 (flw fun _ => 0) 32) ∧ Hid (vAt wr (w.heap.size + 1 + 1) 160 (flw (rowsP c (fun _ => 0) k)) 32) ∧ Hid (Below w.heap.size w wr)) (fun i _ => 8 - (intOf i).toNat)
  case atStart => exact ⟨0, by omega, rfl, A0, A1, hid (A2.out.ext fun i _ => by unfold flw; rw [rowsP_zero]), hid b0⟩
  case round =>
    obtain ⟨k, hk, rfl, h0, h1, h2, hb⟩ := hrel
    by_cases hlt : k < 8
    · go_wp2_with (refine wpList_load_as (by rfl) 23 _ (by rfl) w.heap.size (k * 20) (by rfl) 160 (flw c) 24 h0.out 20 (by omega) (fls (rowK c k)) (row_isN c k) _ Try.underlying23 (by rfl) info_a20 ?_)
      refine (toSizes (rowK c k) _).mono ?_
      rintro e w1 ⟨rfl, hb1⟩
      have g0 := hid (h0.out.stay hb1)
      have g1 := hid (h1.out.stay hb1)
      have g2 := hid (h2.out.stay hb1)
      have c1 := stp hb.out (Nat.le_refl _) hb1
      have n0 := hid (g0.out.setPartOther (k := w.heap.size + 1 + 1) (by omega) (k * 20) (fls (rowK c k)).toList)
      have n1 := hid (g1.out.setPartOther (k := w.heap.size + 1 + 1) (by omega) (k * 20) (fls (rowK c k)).toList)
      have n2 := hid g2.out.setRowN
      have nb := below_cells (g := w.heap.size + 1 + 1) (by omega) (fls (rowK c k)).toList (k * 20) c1
      clear h0 h1 h2 hb
      go_wp2_with (refine wpList_store_as (by rfl) 31 _ _ (by rfl) (w.heap.size + 1 + 1) (k * 20) (fls (rowK c k)) (by rfl) (by rfl) 160 (flw (rowsP c (fun _ => 0) k)) 32 g2.out 20 (fls_size _) (by omega) info_arr (fls_one _) ?_; intro w9 hw9; rw [← hw9] at n0 n1 n2 nb; clear hw9 g0 g1 g2)
      go_roundw
      case rel => exact ⟨k + 1, by omega, by go_num, n0, n1, n2, hid nb⟩
      case measure => simp [intOf]; omega
    · obtain rfl : k = 8 := by omega
      have h2' := hid (h2.out.ext (d := flw c) fun i hi => by unfold flw; rw [rowsP_all8 _ _ i hi])
      clear h2
      go_wp2_with (first | (refine wpList_load_row rfl 32 _ rfl (w.heap.size + 1 + 1) rfl 32 (vls 160 (flw c)) (0, 0) _ h2'.out Try.underlying32 rfl (by rw [vls_size]; exact info_sz8) ?_) | (refine wpList_store_row rfl 32 _ _ rfl (w.heap.size + 1) (vls 160 (flw c)) rfl rfl 32 _ h1.out (by rw [vls_size]; exact info_sz8) (by simp) (vls_one (flw_one c)) ?_))
      exact bodyPost_ret (results_cell_row rfl _ _ (w.heap.size + 1) 32 (vls 160 (flw c)) (0, 0) _ rfl (h1.out.setRow (flw c)) Try.underlying32 rfl (by rw [vls_size]; exact info_sz8)) rfl ⟨rfl, below_row hb.out (by omega) _⟩

set_option maxRecDepth 100000 in
theorem toAirA8 (c : Nat → Nat) (w : World) :
    Calls Try.prog 84 #[.agg (vls 16 (flw c))] w fun e w' => e = .returned (.agg (vls 16 (flw c))) ∧ Below w.heap.size w w' := by
  have A0 := hid (((vAt.new w 16 (flw c) 27).alloc (.cells (vls 16 (flw fun _ => 0)) 34)).alloc (.cells (vls 16 (flw fun _ => 0)) 34))
  have A1 := hid ((vAt.new1 w (.cells (vls 16 (flw c)) 27) 16 (flw fun _ => 0) 34).alloc (.cells (vls 16 (flw fun _ => 0)) 34))
  have A2 := hid (vAt.new2 w (.cells (vls 16 (flw c)) 27) (.cells (vls 16 (flw fun _ => 0)) 34) 16 (flw fun _ => 0) 34)
  have b0 := boxed3 w (.cells (vls 16 (flw c)) 27) (.cells (vls 16 (flw fun _ => 0)) 34) (.cells (vls 16 (flw fun _ => 0)) 34)
  go_enter Try.func84, Try.ntmps84
  go_wp2_with fail
  go_loopw [4] (fun i wr => ∃ k : Nat, k ≤ 8 ∧ i = .int .i64 k ∧ Hid (vAt wr w.heap.size 16 (flw c) 27) ∧ Hid (vAt wr (w.heap.size + 1) 16 (flw fun _ => 0) 34) ∧ Hid (vAt wr (w.heap.size + 1 + 1) 16 (flw (twosP c (fun _ => 0) k)) 34) ∧ Hid (Below w.heap.size w wr)) (fun i _ => 8 - (intOf i).toNat)
  case atStart => exact ⟨0, by omega, rfl, A0, A1, hid (A2.out.ext fun i _ => by unfold flw; rw [twosP_zero]), hid b0⟩
  case round =>
    obtain ⟨k, hk, rfl, h0, h1, h2, hb⟩ := hrel
    by_cases hlt : k < 8
    · go_wp2_with (refine wpList_load_as (by rfl) 26 _ (by rfl) w.heap.size (k * 2) (by rfl) 16 (flw c) 27 h0.out 2 (by omega) #[.float .f32 (c (k * 2)), .float .f32 (c (k * 2 + 1))] (two_is c k) _ Try.underlying26 (by rfl) info_lair ?_)
      refine (toAir (c (k * 2)) (c (k * 2 + 1)) _).mono ?_
      rintro e w1 ⟨rfl, hb1⟩
      have g0 := hid (h0.out.stay hb1)
      have g1 := hid (h1.out.stay hb1)
      have g2 := hid (h2.out.stay hb1)
      have c1 := stp hb.out (Nat.le_refl _) hb1
      have n0 := hid (g0.out.setPartOther (k := w.heap.size + 1 + 1) (by omega) (k * 2) (#[.float .f32 (c (k * 2)), .float .f32 (c (k * 2 + 1))] : Array Value).toList)
      have n1 := hid (g1.out.setPartOther (k := w.heap.size + 1 + 1) (by omega) (k * 2) (#[.float .f32 (c (k * 2)), .float .f32 (c (k * 2 + 1))] : Array Value).toList)
      have n2 := hid (show vAt (w1.setCells (w.heap.size + 1 + 1) (k * 2) (#[.float .f32 (c (k * 2)), .float .f32 (c (k * 2 + 1))] : Array Value).toList) (w.heap.size + 1 + 1) 16 (flw (twosP c (fun _ => 0) (k + 1))) 34 from g2.out.setTwo)
      have nb := below_cells (g := w.heap.size + 1 + 1) (by omega) (#[.float .f32 (c (k * 2)), .float .f32 (c (k * 2 + 1))] : Array Value).toList (k * 2) c1
      clear h0 h1 h2 hb
      go_wp2_with (refine wpList_store_as (by rfl) 33 _ _ (by rfl) (w.heap.size + 1 + 1) (k * 2) #[.float .f32 (c (k * 2)), .float .f32 (c (k * 2 + 1))] (by rfl) (by rfl) 16 (flw (twosP c (fun _ => 0) k)) 34 g2.out 2 rfl (by omega) info_air (two_one _ _) ?_; intro w9 hw9; rw [← hw9] at n0 n1 n2 nb; clear hw9 g0 g1 g2)
      go_roundw
      case rel => exact ⟨k + 1, by omega, by go_num, n0, n1, n2, hid nb⟩
      case measure => simp [intOf]; omega
    · obtain rfl : k = 8 := by omega
      have h2' := hid (h2.out.ext (d := flw c) fun i hi => by unfold flw; rw [twosP_all8 _ _ i hi])
      clear h2
      go_wp2_with (first | (refine wpList_load_row rfl 34 _ rfl (w.heap.size + 1 + 1) rfl 34 (vls 16 (flw c)) (0, 0) _ h2'.out Try.underlying34 rfl (by rw [vls_size]; exact info_air8) ?_) | (refine wpList_store_row rfl 34 _ _ rfl (w.heap.size + 1) (vls 16 (flw c)) rfl rfl 34 _ h1.out (by rw [vls_size]; exact info_air8) (by simp) (vls_one (flw_one c)) ?_))
      exact bodyPost_ret (results_cell_row rfl _ _ (w.heap.size + 1) 34 (vls 16 (flw c)) (0, 0) _ rfl (h1.out.setRow (flw c)) Try.underlying34 rfl (by rw [vls_size]; exact info_air8)) rfl ⟨rfl, below_row hb.out (by omega) _⟩

set_option maxRecDepth 100000 in
theorem eqSizesA8 (c : Nat → Nat) (hb : ∀ i, i < 160 → c i < 4294967296) (h : ∀ i, i < 160 → finB (c i) = true) (w : World) :
    Calls Try.prog 91 #[.agg (vls 160 (flw c)), .agg (vls 160 (flw c))] w fun e w' => e = .returned (.bool true) ∧ Below w.heap.size w w' := by
  have A0 := hid ((vAt.new w 160 (flw c) 32).alloc (.cells (vls 160 (flw c)) 32))
  have A1 := hid (vAt.new1 w (.cells (vls 160 (flw c)) 32) 160 (flw c) 32)
  have b0 := boxed2 w (.cells (vls 160 (flw c)) 32) (.cells (vls 160 (flw c)) 32)
  have H := hid h
  have HB := hid hb
  clear h hb
  go_enter Try.func91, Try.ntmps91
  go_wp2_with fail
  go_loopw [5] (fun i wr => ∃ k : Nat, k ≤ 8 ∧ i = .int .i64 k ∧ Hid (vAt wr w.heap.size 160 (flw c) 32) ∧ Hid (vAt wr (w.heap.size + 1) 160 (flw c) 32) ∧ Hid (Below w.heap.size w wr)) (fun i _ => 8 - (intOf i).toNat)
  case atStart => exact ⟨0, by omega, rfl, A0, A1, hid b0⟩
  case round =>
    obtain ⟨k, hk, rfl, h0, h1, hb⟩ := hrel
    by_cases hlt : k < 8
    · have hk3 : (k : Int) < 8 := by omega
      go_wp2_with fail
      have h0 := hid h0.out.drew
      have h1 := hid h1.out.drew
      have hb := hid hb.out.drew
      refine wp_region_still_tail 6 (by kernel_rfl) (by kernel_rfl) ?_
      change wpStill _ _ wr.drew (fun a' => wpList _ _ _ _ a' wr.drew) _ _
      simp only [List.take_succ_cons, List.take_zero, List.drop_succ_cons, List.drop_zero]
      generalize wr.drew = w2 at h0 h1 hb ⊢
      still_step
      still_step
      refine still_load rfl 31 _ rfl _ rfl _ (h0.out.partAt (k * 20) 20 (by omega) (fls (rowK c k)) (row_isN c k) Try.underlying31 (by rfl) info_arr) ?_
      simp only [Act.put, List.setIfInBounds_toArray, List.set_cons_zero, List.set_cons_succ]
      still_step
      still_step
      refine still_load rfl 31 _ rfl _ rfl _ (h1.out.partAt (k * 20) 20 (by omega) (fls (rowK c k)) (row_isN c k) Try.underlying31 (by rfl) info_arr) ?_
      refine wpStill_nil ?_
      go_wp2_with fail
      refine (eqSizes (rowK c k) (fun i hi => HB.out _ (by omega)) (fun i hi => H.out _ (by omega)) _).mono ?_
      rintro e w3 ⟨rfl, hb3⟩
      have h0 := hid (h0.out.stay hb3)
      have h1 := hid (h1.out.stay hb3)
      have hb := stp hb.out (Nat.le_refl _) hb3
      go_wp2
      go_roundw
      case rel => exact ⟨k + 1, by omega, by go_num, h0, h1, hid hb⟩
      case measure => simp [intOf]; omega
    · go_wp2
      go_ret
      exact ⟨rfl, hb.out⟩

set_option maxRecDepth 100000 in
theorem eqAirA8 (c : Nat → Nat) (hb : ∀ i, i < 16 → c i < 4294967296) (h : ∀ i, i < 16 → finB (c i) = true) (w : World) :
    Calls Try.prog 92 #[.agg (vls 16 (flw c)), .agg (vls 16 (flw c))] w fun e w' => e = .returned (.bool true) ∧ Below w.heap.size w w' := by
  have A0 := hid ((vAt.new w 16 (flw c) 34).alloc (.cells (vls 16 (flw c)) 34))
  have A1 := hid (vAt.new1 w (.cells (vls 16 (flw c)) 34) 16 (flw c) 34)
  have b0 := boxed2 w (.cells (vls 16 (flw c)) 34) (.cells (vls 16 (flw c)) 34)
  have H := hid h
  have HB := hid hb
  clear h hb
  go_enter Try.func92, Try.ntmps92
  go_wp2_with fail
  go_loopw [5] (fun i wr => ∃ k : Nat, k ≤ 8 ∧ i = .int .i64 k ∧ Hid (vAt wr w.heap.size 16 (flw c) 34) ∧ Hid (vAt wr (w.heap.size + 1) 16 (flw c) 34) ∧ Hid (Below w.heap.size w wr)) (fun i _ => 8 - (intOf i).toNat)
  case atStart => exact ⟨0, by omega, rfl, A0, A1, hid b0⟩
  case round =>
    obtain ⟨k, hk, rfl, h0, h1, hb⟩ := hrel
    by_cases hlt : k < 8
    · have hk3 : (k : Int) < 8 := by omega
      go_wp2_with fail
      have h0 := hid h0.out.drew
      have h1 := hid h1.out.drew
      have hb := hid hb.out.drew
      refine wp_region_still_tail 6 (by kernel_rfl) (by kernel_rfl) ?_
      change wpStill _ _ wr.drew (fun a' => wpList _ _ _ _ a' wr.drew) _ _
      simp only [List.take_succ_cons, List.take_zero, List.drop_succ_cons, List.drop_zero]
      generalize wr.drew = w2 at h0 h1 hb ⊢
      still_step
      still_step
      refine still_load rfl 33 _ rfl _ rfl _ (h0.out.partAt (k * 2) 2 (by omega) #[.float .f32 (c (k * 2)), .float .f32 (c (k * 2 + 1))] (two_is c k) Try.underlying33 (by rfl) info_air) ?_
      simp only [Act.put, List.setIfInBounds_toArray, List.set_cons_zero, List.set_cons_succ]
      still_step
      still_step
      refine still_load rfl 33 _ rfl _ rfl _ (h1.out.partAt (k * 2) 2 (by omega) #[.float .f32 (c (k * 2)), .float .f32 (c (k * 2 + 1))] (two_is c k) Try.underlying33 (by rfl) info_air) ?_
      refine wpStill_nil ?_
      go_wp2_with fail
      refine (eqAir (c (k * 2)) (c (k * 2 + 1)) (HB.out _ (by omega)) (HB.out _ (by omega)) (H.out _ (by omega)) (H.out _ (by omega)) _).mono ?_
      rintro e w3 ⟨rfl, hb3⟩
      have h0 := hid (h0.out.stay hb3)
      have h1 := hid (h1.out.stay hb3)
      have hb := stp hb.out (Nat.le_refl _) hb3
      go_wp2
      go_roundw
      case rel => exact ⟨k + 1, by omega, by go_num, h0, h1, hid hb⟩
      case measure => simp [intOf]; omega
    · go_wp2
      go_ret
      exact ⟨rfl, hb.out⟩

theorem info_f32c : (Try.prog.info? 22).map (·.size) = some 1 := by kernel_rfl

theorem info_i64c : (Try.prog.info? 2).map (·.size) = some 1 := by kernel_rfl

/-- A column with the droplets of one, the airs of one. -/
theorem col_parts (c : Nat → Nat) (t : Int) (i : Nat) (hi : i < 178) : updV (updV (updR (updR (clw (fun _ => 0) 0) 0 160 (flw c)) 160 16 (flw (airsC c))) 176 (.float .f32 (c 176))) 177 (.int .i64 t) i = clw c t i := by
  unfold updV updR clw flw airsC
  by_cases h1 : i = 177
  · simp [h1]
  · by_cases h2 : i = 176
    · simp [h2]
    · by_cases h3 : 160 ≤ i
      · rw [if_neg h1, if_neg h2, if_pos (by omega), if_neg h1, show 160 + (i - 160) = i by omega]
      · rw [if_neg h1, if_neg h2, if_neg (by omega), if_pos (by omega), if_neg h1]; rfl

set_option maxHeartbeats 1000000 in
set_option maxRecDepth 100000 in
theorem toColumn (c : Nat → Nat) (t : Int) (w : World) :
    Calls Try.prog 23 #[.agg (vls 178 (clw c t))] w fun e w' => e = .returned (.agg (vls 178 (clw c t))) ∧ Below w.heap.size w w' := by
  have k0 : Hid (Kept w [(w.heap.size + 1 + 1, vls 178 (clw (fun _ => 0) 0), 36), (w.heap.size + 1, vls 178 (clw (fun _ => 0) 0), 36), (w.heap.size, vls 178 (clw c t), 29)] (((w.alloc (.cells (vls 178 (clw c t)) 29)).alloc (.cells (vls 178 (clw (fun _ => 0) 0)) 36)).alloc (.cells (vls 178 (clw (fun _ => 0) 0)) 36))) := hid (((((Kept.nil w).push _ _).push _ _).push _ _).sub (by simp))
  go_enter Try.func23, Try.ntmps23
  go_wp2_with (refine load_cut (by rfl) 24 _ (by rfl) (w.heap.size) 0 160 (by rfl) (k0.out.v in2) (by omega) (vls 160 (flw c)) (drops_is c t) _ Try.underlying24 (by rfl) info_ld ?_)
  refine (toSizesA8 c _).mono ?_
  rintro e w1 ⟨rfl, hb1⟩
  have k1 := hid (k0.out.stay hb1)
  clear k0 hb1
  have tok1 : True := trivial
  go_wp2_with (first | (have _t := tok1; refine store_cut (by rfl) 32 _ _ (by rfl) (w.heap.size + 1 + 1) 0 160 (flw c) (vls 160 (flw c)) (by rfl) (by rfl) rfl info_sz8 (flw_one c) k1.out (by omega) (by omega) (neC (by omega) (neC (by omega) ne0)) ?_; intro w2 k2; replace k2 := hid k2; clear k1 tok1) | (refine load_cut (by rfl) 27 _ (by rfl) (w.heap.size) 160 16 (by rfl) (k2.out.v in2) (by omega) (vls 16 (flw (airsC c))) (airs_is c t) _ Try.underlying27 (by rfl) info_la ?_))
  refine (toAirA8 (airsC c) _).mono ?_
  rintro e w3 ⟨rfl, hb3⟩
  have k3 := hid (k2.out.stay hb3)
  clear k2 hb3
  have tok1 : True := trivial
  go_wp2_with (first
    | (have _t := k6; refine wpList_load_row rfl 36 _ rfl (w.heap.size + 1 + 1) rfl 36 (vls 178 (clw c t)) (0, 0) _ (k6.out.v in0) Try.underlying36 rfl (by rw [vls_size]; exact info_col) ?_)
    | (have _t := k6; refine wpList_store_row rfl 36 _ _ rfl (w.heap.size + 1) (vls 178 (clw c t)) rfl rfl 36 _ (k6.out.v in1) (by rw [vls_size]; exact info_col) (by simp) (vls_one (clw_one c t)) ?_)
    | (have _t := k5; refine load_one (by rfl) 2 _ (by rfl) (w.heap.size) 177 (by rfl) (k5.out.v in2) (by omega) (.int .i64 t) clw_t _ Try.underlying2 (by rfl) ?_)
    | (have _t := k5; refine store_one (by rfl) 2 _ _ (by rfl) info_i64c (w.heap.size + 1 + 1) 177 (.int .i64 t) (by rfl) (by rfl) rfl rfl k5.out (by omega) (by omega) (neC (by omega) (neC (by omega) ne0)) ?_; intro w6 k6; replace k6 := hid (k6.ext (col_parts c t)); clear k5)
    | (have _t := k4; refine load_one (by rfl) 22 _ (by rfl) (w.heap.size) 176 (by rfl) (k4.out.v in2) (by omega) (.float .f32 (c 176)) (clw_f (by omega)) _ Try.underlying22 (by rfl) ?_)
    | (have _t := k4; refine store_one (by rfl) 22 _ _ (by rfl) info_f32c (w.heap.size + 1 + 1) 176 (.float .f32 (c 176)) (by rfl) (by rfl) rfl rfl k4.out (by omega) (by omega) (neC (by omega) (neC (by omega) ne0)) ?_; intro w5 k5; replace k5 := hid k5; clear k4)
    | (have _t := tok1; refine store_cut (by rfl) 34 _ _ (by rfl) (w.heap.size + 1 + 1) 160 16 (flw (airsC c)) (vls 16 (flw (airsC c))) (by rfl) (by rfl) rfl info_air8 (flw_one _) k3.out (by omega) (by omega) (neC (by omega) (neC (by omega) ne0)) ?_; intro w4 k4; replace k4 := hid k4; clear k3 tok1))
  have k7 := Kept.v (B := w.heap.size + 1) (f := clw (fun _ => 0) 0) (T := 36) k6.out in1
  exact bodyPost_ret (results_cell_row rfl _ _ (w.heap.size + 1) 36 (vls 178 (clw c t)) (0, 0) _ rfl (k7.setRow (clw c t)) Try.underlying36 rfl (by rw [vls_size]; exact info_col)) rfl ⟨rfl, below_row k6.out.1 (by omega) _⟩

set_option maxHeartbeats 1000000 in
set_option maxRecDepth 100000 in
theorem eqColumn (c : Nat → Nat) (t : Int) (hb : ∀ i, i < 177 → c i < 4294967296) (h : ∀ i, i < 177 → finB (c i) = true) (w : World) :
    Calls Try.prog 29 #[.agg (vls 178 (clw c t)), .agg (vls 178 (clw c t))] w fun e w' => e = .returned (.bool true) ∧ Below w.heap.size w w' := by
  have k0 : Hid (Kept w [(w.heap.size + 1, vls 178 (clw c t), 36), (w.heap.size, vls 178 (clw c t), 36)] ((w.alloc (.cells (vls 178 (clw c t)) 36)).alloc (.cells (vls 178 (clw c t)) 36))) := hid ((((Kept.nil w).push _ _).push _ _).sub (by simp))
  have hc := fun w => run_conv_wid (P := Try.prog) w 22 53 (c 176) (hb 176 (by omega)) Try.underlying22 Try.underlying53 (finB_iff.1 (h 176 (by omega)))
  have H := hid h
  have HB := hid hb
  clear h hb
  go_enter Try.func29, Try.ntmps29
  go_wp2_with (first
    | (refine load_cut (by rfl) 32 _ (by rfl) (w.heap.size) 0 160 (by rfl) (k0.out.v in1) (by omega) (vls 160 (flw c)) (drops_is c t) _ Try.underlying32 (by rfl) info_sz8 ?_)
    | (refine load_cut (by rfl) 32 _ (by rfl) (w.heap.size + 1) 0 160 (by rfl) (k0.out.v in0) (by omega) (vls 160 (flw c)) (drops_is c t) _ Try.underlying32 (by rfl) info_sz8 ?_))
  refine (eqSizesA8 c (fun i hi => HB.out i (by omega)) (fun i hi => H.out i (by omega)) _).mono ?_
  rintro e w1 ⟨rfl, hb1⟩
  have k1 := hid (k0.out.stay hb1)
  clear k0 hb1
  go_wp2_with (first
    | (refine load_cut (by rfl) 34 _ (by rfl) (w.heap.size) 160 16 (by rfl) (k1.out.v in1) (by omega) (vls 16 (flw (airsC c))) (airs_is c t) _ Try.underlying34 (by rfl) info_air8 ?_)
    | (refine load_cut (by rfl) 34 _ (by rfl) (w.heap.size + 1) 160 16 (by rfl) (k1.out.v in0) (by omega) (vls 16 (flw (airsC c))) (airs_is c t) _ Try.underlying34 (by rfl) info_air8 ?_))
  refine (eqAirA8 (airsC c) (fun i hi => HB.out _ (by omega)) (fun i hi => H.out _ (by omega)) _).mono ?_
  rintro e w2 ⟨rfl, hb2⟩
  have k2 := hid (k1.out.stay hb2)
  clear k1 hb2
  go_wp2_with (first
    | (refine load_one (by rfl) 22 _ (by rfl) (w.heap.size) 176 (by rfl) (k2.out.v in1) (by omega) (.float .f32 (c 176)) (clw_f (by omega)) _ Try.underlying22 (by rfl) ?_)
    | (refine load_one (by rfl) 22 _ (by rfl) (w.heap.size + 1) 176 (by rfl) (k2.out.v in0) (by omega) (.float .f32 (c 176)) (clw_f (by omega)) _ Try.underlying22 (by rfl) ?_))
  refine (sameFloat (c 176) (HB.out _ (by omega)) (H.out _ (by omega)) _).mono ?_
  rintro e w3 ⟨rfl, rfl⟩
  go_wp2_with (first
    | (refine load_one (by rfl) 2 _ (by rfl) (w.heap.size) 177 (by rfl) (k2.out.v in1) (by omega) (.int .i64 t) clw_t _ Try.underlying2 (by rfl) ?_)
    | (refine load_one (by rfl) 2 _ (by rfl) (w.heap.size + 1) 177 (by rfl) (k2.out.v in0) (by omega) (.int .i64 t) clw_t _ Try.underlying2 (by rfl) ?_))
  go_ret
  exact ⟨rfl, k2.out.1⟩

theorem col_ok {c : Nat → Nat} {t : Int} (h : ColOk c t) : true = true ↔ ColOk c t := ⟨fun _ => h, fun _ => rfl⟩

theorem col_no {c : Nat → Nat} {t : Int} (h : ¬ ColOk c t) : false = true ↔ ColOk c t := ⟨fun x => (by cases x), fun x => absurd x h⟩

theorem new1c (w : World) (o : Obj) (c : Nat → Nat) (T : TypeId) : arrAt ((w.alloc o).alloc (.cells (fls c) T)) (w.heap.size + 1) c T := by
  have := arrAt.new (w.alloc o) c T
  have e : (w.alloc o).heap.size = w.heap.size + 1 := by simp
  rwa [e] at this

set_option maxRecDepth 100000 in
theorem iFallShares (w : World) :
    Calls Try.prog 31 #[] w fun e w' => e = .returned (.agg (fls shr)) ∧ Below w.heap.size w w' := by
  have b0 := boxed2 w (.cells (fls fun _ => 0) 23) (.cells (fls fun _ => 0) 23)
  have A0 := hid ((arrAt.new w (fun _ => 0) 23).alloc (.cells (fls fun _ => 0) 23))
  have A1 := hid (new1c w (.cells (fls fun _ => 0) 23) (fun _ => 0) 23)
  go_enter Try.func31, Try.ntmps31
  go_wp2_with fail
  go_loopw [5] (fun i wr => ∃ k : Nat, k ≤ 20 ∧ i = .int .i64 k ∧ Hid (arrAt wr w.heap.size (fun _ => 0) 23) ∧ Hid (arrAt wr (w.heap.size + 1) (cut shr k) 23) ∧ Hid (Below w.heap.size w wr)) (fun i _ => 20 - (intOf i).toNat)
  case atStart => exact ⟨0, by omega, rfl, A0, hid (A1.out.ext (fun i _ => (cut_zero' shr i).symm)), hid b0⟩
  case round =>
    clear A0 A1 b0
    obtain ⟨k, hk, rfl, h0, h1, hb⟩ := hrel
    by_cases hlt : k < 20
    · have HL := hid hlt
      have hk3 : (k : Int) < 20 := by omega
      obtain ⟨sa, sl, sg⟩ := sh_facts hlt
      obtain ⟨_, mr, _⟩ := tr_one hlt
      have r1 := fun w => run_mul (P := Try.prog) 22 (x := 1015021568) (y := rad k) (by decide) mr w
      have r2 := fun w ts t => run_min (P := Try.prog) (x := fmul 1015021568 (rad k)) (y := 1065353216) ts t sa (by decide) w
      have q1 := h1.out.cell hlt
      have f1 := h1.out.frozen k
      clear sa sl sg mr
      go_wp2_with fail
      refine (iRadius k HL.out _).mono ?_
      rintro e w1 ⟨rfl, rfl⟩
      have hsw : min (fmul 1015021568 (rad k)) 1065353216 = shr k := shr_is k
      go_wp2_with fail
      go_roundw
      case rel => exact ⟨k + 1, by omega, by go_num, hid (h0.out.setOther (by simp) _), hid ((h1.out.set k (shr k)).ext (fun i hi => cut_succ shr k i)), hid (hb.out.setCell (by simp) _)⟩
      case measure => simp [intOf]; omega
    · obtain rfl : k = 20 := by omega
      have h2' := hid (h1.out.ext (cut_all shr))
      clear h1
      go_wp2_with (first | (refine wpList_load_row rfl 23 _ rfl (w.heap.size + 1) rfl 23 (fls shr) (0, 0) _ h2'.out Try.underlying23 rfl (by rw [fls_size]; exact info_a20) ?_) | (refine wpList_store_row rfl 23 _ _ rfl (w.heap.size) (fls shr) rfl rfl 23 _ h0.out (by rw [fls_size]; exact info_a20) (by simp) (fls_one shr) ?_))
      exact bodyPost_ret (results_cell_row rfl _ _ (w.heap.size) 23 (fls shr) (0, 0) _ rfl (h0.out.setRow shr) Try.underlying23 rfl (by rw [fls_size]; exact info_a20)) rfl ⟨rfl, below_row hb.out (by omega) _⟩

set_option maxRecDepth 100000 in
theorem sShares (w : World) :
    Calls Try.prog 93 #[] w fun e w' => e = .returned (.agg (fls shr)) ∧ Below w.heap.size w w' := by
  have k0 : Hid (Kept w [(w.heap.size + 1, fls fun _ => 0, 23), (w.heap.size, fls fun _ => 0, 23)] ((w.alloc (.cells (fls fun _ => 0) 23)).alloc (.cells (fls fun _ => 0) 23))) := hid ((((Kept.nil w).push _ _).push _ _).sub (by simp))
  have tok1 : True := trivial
  go_enter Try.func93, Try.ntmps93
  go_wp2_with (have _t := tok1; refine store_row (by rfl) 23 _ _ (by rfl) (w.heap.size + 1) (fls fun _ => 0) (fls fun _ => 0) (by rfl) (by rfl) k0.out (by rw [fls_size]; exact info_a20) rfl (fls_one _) (by omega) (neC (by omega) ne0) ?_; intro w2 k2; replace k2 := hid k2; clear k0 tok1)
  have b0 := k2.out.1
  have A0 : Hid (arrAt w2 w.heap.size (fun _ => 0) 23) := hid (k2.out.at in1)
  have A1 : Hid (arrAt w2 (w.heap.size + 1) (fun _ => 0) 23) := hid (k2.out.at in0)
  clear k2
  go_loopw [2] (fun i wr => ∃ k : Nat, k ≤ 20 ∧ i = .int .i64 k ∧ Hid (arrAt wr w.heap.size (fun _ => 0) 23) ∧ Hid (arrAt wr (w.heap.size + 1) (cut shr k) 23) ∧ Hid (Below w.heap.size w wr)) (fun i _ => 20 - (intOf i).toNat)
  case atStart => exact ⟨0, by omega, rfl, A0, hid (A1.out.ext (fun i _ => (cut_zero' shr i).symm)), hid b0⟩
  case round =>
    clear A0 A1 b0
    obtain ⟨k, hk, rfl, h0, h1, hb⟩ := hrel
    by_cases hlt : k < 20
    · have HL := hid hlt
      have hk3 : (k : Int) < 20 := by omega
      obtain ⟨sa, sl, sg⟩ := sh_facts hlt
      obtain ⟨_, mr, _⟩ := tr_one hlt
      have r1 := fun w => run_mul (P := Try.prog) 22 (x := rad k) (y := 1015021568) mr (by decide) w
      have q1 := h1.out.cell hlt
      have f1 := h1.out.frozen k
      have e1 : fmul (rad k) 1015021568 = share0 k := fmul_comm (amtB_iff.1 mr) (by decide)
      rw [e1] at r1
      by_cases hg : 1065353216 < share0 k
      · have hr : shr k = 1065353216 := by rw [← shr_is]; exact Nat.min_eq_right (Nat.le_of_lt hg)
        have hG : (FloatKind.f32.format.order (share0 k) 1065353216 == some .gt) = true := by rw [show (FloatKind.f32.format.order (share0 k) 1065353216 == some .gt) = decide (1065353216 < share0 k) from sg]; exact decide_eq_true hg
        have HR := hid hr
        clear sa sl sg mr hg hr
        go_wp2_with fail
        refine (sRad k HL.out _).mono ?_
        rintro e w1 ⟨rfl, rfl⟩
        go_wp2_with fail
        go_roundw
        case rel => exact ⟨k + 1, by omega, by go_num, hid (h0.out.setOther (by simp) _), hid ((h1.out.set k 1065353216).ext (fun i hi => by rw [← HR.out]; exact cut_succ shr k i)), hid (hb.out.setCell (by simp) _)⟩
        case measure => simp [intOf]; omega
      · have hr : share0 k = shr k := by rw [← shr_is]; exact (Nat.min_eq_left (by omega)).symm
        have hG : (FloatKind.f32.format.order (share0 k) 1065353216 == some .gt) = false := by rw [show (FloatKind.f32.format.order (share0 k) 1065353216 == some .gt) = decide (1065353216 < share0 k) from sg]; exact decide_eq_false hg
        have HR := hid hr
        clear sa sl sg mr hg hr
        go_wp2_with fail
        refine (sRad k HL.out _).mono ?_
        rintro e w1 ⟨rfl, rfl⟩
        go_wp2_with fail
        go_roundw
        case rel => exact ⟨k + 1, by omega, by go_num, hid (h0.out.setOther (by simp) _), hid ((h1.out.set k (share0 k)).ext (fun i hi => by rw [HR.out]; exact cut_succ shr k i)), hid (hb.out.setCell (by simp) _)⟩
        case measure => simp [intOf]; omega
    · obtain rfl : k = 20 := by omega
      have h2' := hid (h1.out.ext (cut_all shr))
      clear h1
      go_wp2_with (first | (refine wpList_load_row rfl 23 _ rfl (w.heap.size + 1) rfl 23 (fls shr) (0, 0) _ h2'.out Try.underlying23 rfl (by rw [fls_size]; exact info_a20) ?_) | (refine wpList_store_row rfl 23 _ _ rfl (w.heap.size) (fls shr) rfl rfl 23 _ h0.out (by rw [fls_size]; exact info_a20) (by simp) (fls_one shr) ?_))
      exact bodyPost_ret (results_cell_row rfl _ _ (w.heap.size) 23 (fls shr) (0, 0) _ rfl (h0.out.setRow shr) Try.underlying23 rfl (by rw [fls_size]; exact info_a20)) rfl ⟨rfl, below_row hb.out (by omega) _⟩

set_option maxRecDepth 100000 in
theorem iFitC_t (c : Nat → Nat) (t : Int) (hb : ∀ i, i < 177 → c i < 4294967296) (h : ColOk c t) (n : Int) (w : World) :
    Calls Try.prog 90 #[.agg (vls 178 (clw c t)), .int .i64 n] w fun e w' => e = .returned (.tuple #[.agg (vls 178 (clw c t)), .int .i64 0]) ∧ Below w.heap.size w w' := by
  have k0 : Hid (Kept w [(w.heap.size + 1, vls 178 (clw (fun _ => 0) 0), 36), (w.heap.size, vls 178 (clw c t), 36)] ((w.alloc (.cells (vls 178 (clw c t)) 36)).alloc (.cells (vls 178 (clw (fun _ => 0) 0)) 36))) := hid ((((Kept.nil w).push _ _).push _ _).sub (by simp))
  have HB := hid hb
  have HQ := hid h
  clear hb h
  have tok1 : True := trivial
  go_enter Try.func90, Try.ntmps90
  go_wp2_with (refine wpList_load_row rfl 36 _ rfl (w.heap.size) rfl 36 (vls 178 (clw c t)) (0, 0) _ (k0.out.v in1) Try.underlying36 rfl (by rw [vls_size]; exact info_col) ?_)
  refine (iValidColumn c t HB.out true (col_ok HQ.out) _).mono ?_
  rintro e w1 ⟨rfl, hb1⟩
  have k1 := hid (k0.out.stay hb1)
  clear k0 hb1
  go_wp2_with (first | (have _t := tok1; refine store_row (by rfl) 36 _ _ (by rfl) (w.heap.size + 1) (vls 178 (clw c t)) (vls 178 (clw (fun _ => 0) 0)) (by rfl) (by rfl) k1.out (by rw [vls_size]; exact info_col) (by simp) (vls_one (clw_one _ _)) (by omega) (neC (by omega) ne0) ?_; intro xk2 k2; replace k2 := hid k2; clear k1 tok1) | (refine wpList_load_row rfl 36 _ rfl (w.heap.size) rfl 36 (vls 178 (clw c t)) (0, 0) _ (k1.out.v in1) Try.underlying36 rfl (by rw [vls_size]; exact info_col) ?_))
  exact bodyPost_ret (results_row_tmp rfl _ _ (w.heap.size + 1) 36 (vls 178 (clw c t)) (0, 0) _ rfl (k2.out.at (x := (w.heap.size + 1, vls 178 (clw c t), 36)) in0) Try.underlying36 rfl (by rw [vls_size]; exact info_col)) rfl ⟨rfl, k2.out.1⟩

set_option maxRecDepth 100000 in
theorem iFitC_f (c : Nat → Nat) (t : Int) (hb : ∀ i, i < 177 → c i < 4294967296) (h : ¬ ColOk c t) (n : Int) (w : World) :
    Calls Try.prog 90 #[.agg (vls 178 (clw c t)), .int .i64 n] w fun e w' => e = .returned (.tuple #[.agg (vls 178 (clw (fun _ => 0) 0)), .int .i64 n]) ∧ Below w.heap.size w w' := by
  have k0 : Hid (Kept w [(w.heap.size + 1, vls 178 (clw (fun _ => 0) 0), 36), (w.heap.size, vls 178 (clw c t), 36)] ((w.alloc (.cells (vls 178 (clw c t)) 36)).alloc (.cells (vls 178 (clw (fun _ => 0) 0)) 36))) := hid ((((Kept.nil w).push _ _).push _ _).sub (by simp))
  have HB := hid hb
  have HQ := hid h
  clear hb h
  have tok1 : True := trivial
  go_enter Try.func90, Try.ntmps90
  go_wp2_with (refine wpList_load_row rfl 36 _ rfl (w.heap.size) rfl 36 (vls 178 (clw c t)) (0, 0) _ (k0.out.v in1) Try.underlying36 rfl (by rw [vls_size]; exact info_col) ?_)
  refine (iValidColumn c t HB.out false (col_no HQ.out) _).mono ?_
  rintro e w1 ⟨rfl, hb1⟩
  have k1 := hid (k0.out.stay hb1)
  clear k0 hb1
  go_wp2_with (have _t := tok1; refine store_row (by rfl) 36 _ _ (by rfl) (w.heap.size + 1) (vls 178 (clw (fun _ => 0) 0)) (vls 178 (clw (fun _ => 0) 0)) (by rfl) (by rfl) k1.out (by rw [vls_size]; exact info_col) (by simp) (vls_one (clw_one _ _)) (by omega) (neC (by omega) ne0) ?_; intro xk2 k2; replace k2 := hid k2; clear k1 tok1)
  exact bodyPost_ret (results_row_tmp rfl _ _ (w.heap.size + 1) 36 (vls 178 (clw (fun _ => 0) 0)) (0, 0) _ rfl (k2.out.at (x := (w.heap.size + 1, vls 178 (clw (fun _ => 0) 0), 36)) in0) Try.underlying36 rfl (by rw [vls_size]; exact info_col)) rfl ⟨rfl, k2.out.1⟩

set_option maxRecDepth 100000 in
theorem sMadeC_t (c : Nat → Nat) (t : Int) (hb : ∀ i, i < 177 → c i < 4294967296) (h : ColOk c t) (w : World) (g : Nat) (T : TypeId) (hg : vAt w g 178 (clw c t) T) :
    Calls Try.prog 170 #[.pointer (some ⟨g, 0, none⟩)] w fun e w' => e = .returned (.tuple #[.agg (vls 178 (clw c t)), .int .i64 0]) ∧ Below w.heap.size w w' := by
  have k0 := hid ((Kept.nil w).push (vls 178 (clw (fun _ => 0) 0)) 36)
  have G0 := hid (hg.alloc (.cells (vls 178 (clw (fun _ => 0) 0)) 36))
  have HB := hid hb
  have HQ := hid h
  clear hb h hg
  have tok1 : True := trivial
  go_enter Try.func170, Try.ntmps170
  go_wp2_with fail
  refine (sColOk c t HB.out true (col_ok HQ.out) _ g T G0.out).mono ?_
  rintro e w1 ⟨rfl, hb1⟩
  have k1 := hid (k0.out.stay hb1)
  have G1 := hid (G0.out.stay hb1)
  clear k0 hb1 G0
  go_wp2_with (first | (have _t := tok1; refine load_cut (by rfl) 36 _ (by rfl) g 0 178 (by rfl) G1.out (by omega) (vls 178 (clw c t)) (vls_ext fun i _ => by rw [Nat.zero_add]) _ Try.underlying36 (by rfl) info_col ?_) | (have _t := tok1; refine store_row (by rfl) 36 _ _ (by rfl) (w.heap.size) (vls 178 (clw c t)) (vls 178 (clw (fun _ => 0) 0)) (by rfl) (by rfl) k1.out (by rw [vls_size]; exact info_col) (by simp) (vls_one (clw_one _ _)) (by omega) ne0 ?_; intro xk2 k2; replace k2 := hid k2; clear k1 tok1))
  exact bodyPost_ret (results_row_tmp rfl _ _ (w.heap.size) 36 (vls 178 (clw c t)) (0, 0) _ rfl (k2.out.at (x := (w.heap.size, vls 178 (clw c t), 36)) in0) Try.underlying36 rfl (by rw [vls_size]; exact info_col)) rfl ⟨rfl, k2.out.1⟩

set_option maxRecDepth 100000 in
theorem sMadeC_f (c : Nat → Nat) (t : Int) (hb : ∀ i, i < 177 → c i < 4294967296) (h : ¬ ColOk c t) (w : World) (g : Nat) (T : TypeId) (hg : vAt w g 178 (clw c t) T) :
    Calls Try.prog 170 #[.pointer (some ⟨g, 0, none⟩)] w fun e w' => e = .returned (.tuple #[.agg (vls 178 (clw (fun _ => 0) 0)), .int .i64 4]) ∧ Below w.heap.size w w' := by
  have k0 := hid ((Kept.nil w).push (vls 178 (clw (fun _ => 0) 0)) 36)
  have G0 := hid (hg.alloc (.cells (vls 178 (clw (fun _ => 0) 0)) 36))
  have HB := hid hb
  have HQ := hid h
  clear hb h hg
  have tok1 : True := trivial
  go_enter Try.func170, Try.ntmps170
  go_wp2_with fail
  refine (sColOk c t HB.out false (col_no HQ.out) _ g T G0.out).mono ?_
  rintro e w1 ⟨rfl, hb1⟩
  have k1 := hid (k0.out.stay hb1)
  clear k0 hb1 G0
  go_wp2_with (have _t := tok1; refine store_row (by rfl) 36 _ _ (by rfl) (w.heap.size) (vls 178 (clw (fun _ => 0) 0)) (vls 178 (clw (fun _ => 0) 0)) (by rfl) (by rfl) k1.out (by rw [vls_size]; exact info_col) (by simp) (vls_one (clw_one _ _)) (by omega) ne0 ?_; intro xk2 k2; replace k2 := hid k2; clear k1 tok1)
  exact bodyPost_ret (results_row_tmp rfl _ _ (w.heap.size) 36 (vls 178 (clw (fun _ => 0) 0)) (0, 0) _ rfl (k2.out.at (x := (w.heap.size, vls 178 (clw (fun _ => 0) 0), 36)) in0) Try.underlying36 rfl (by rw [vls_size]; exact info_col)) rfl ⟨rfl, k2.out.1⟩

theorem colok_amt {c : Nat → Nat} {t : Int} (k : ColOk c t) (i : Nat) (hi : i < 160) : amtB (c i) = true := by
  have := k.sz (i / 20) (by omega) (i % 20) (by omega)
  unfold rowK at this
  rwa [show i / 20 * 20 + i % 20 = i by omega] at this

theorem colok_fin {c : Nat → Nat} {t : Int} (k : ColOk c t) (hl : ∀ i, i < 177 → c i < 4294967296) (i : Nat) (hi : i < 177) : finB (c i) = true := by
  by_cases h1 : i < 160
  · exact amt_fin (colok_amt k i h1)
  · by_cases h2 : i = 176
    · subst h2; exact amt_fin k.gauge
    · have hq := k.air ((i - 160) / 2) (by omega)
      obtain ⟨a, b, _⟩ := airB_iff.1 hq
      by_cases h3 : i % 2 = 0
      · have e : heC c ((i - 160) / 2) = c i := by unfold heC; rw [show 160 + (i - 160) / 2 * 2 = i by omega]
        rw [e] at a
        exact heat_fin (hl i hi) a
      · have e : vaC c ((i - 160) / 2) = c i := by unfold vaC; rw [show 160 + (i - 160) / 2 * 2 + 1 = i by omega]
        rw [e] at b
        exact amt_fin b

theorem ix8 (c : Nat → Nat) (k : Nat) (hk : k < 8) (w : World) : (Instr.index 32 (.agg (vls 160 (flw c))) (.int .i64 (k : Int))).run Try.prog w = .ok (.agg (fls (rowK c k))) w :=
  run_index_row Try.underlying32 Try.underlying31 rfl info_arr 160 (flw c) k hk (by omega) w

set_option maxHeartbeats 4000000 in
set_option maxRecDepth 100000 in
theorem iSettleC_ok (c : Nat → Nat) (t : Int) (hb : ∀ i, i < 177 → c i < 4294967296) (h : ColOk c t) (r : Nat → Nat) (s n : Int) (h1 : ColOk (setW c) t → r = setW c ∧ s = t ∧ n = 0) (h0 : ¬ ColOk (setW c) t → r = (fun _ => 0) ∧ s = 0 ∧ n = 4) (w : World) :
    Calls Try.prog 34 #[.agg (vls 178 (clw c t))] w fun e w' => e = .returned (.tuple #[.agg (vls 178 (clw r s)), .int .i64 n]) ∧ Below w.heap.size w w' := by
  have k0 : Hid (Kept w [(w.heap.size + 1, vls 178 (clw (fun _ => 0) 0), 36), (w.heap.size, vls 178 (clw c t), 36)] ((w.alloc (.cells (vls 178 (clw c t)) 36)).alloc (.cells (vls 178 (clw (fun _ => 0) 0)) 36))) := hid ((((Kept.nil w).push _ _).push _ _).sub (by simp))
  have HB := hid hb
  have HQ := hid h
  have H1 := hid h1
  have H0 := hid h0
  clear hb h h1 h0
  go_enter Try.func34, Try.ntmps34
  go_wp2_with (refine wpList_load_row rfl 36 _ rfl (w.heap.size) rfl 36 (vls 178 (clw c t)) (0, 0) _ (k0.out.v in1) Try.underlying36 rfl (by rw [vls_size]; exact info_col) ?_)
  refine (iValidColumn c t HB.out true (col_ok HQ.out) _).mono ?_
  rintro e u ⟨rfl, hu⟩
  have k1 := hid (k0.out.stay hu)
  clear k0 hu
  go_wp2_with fail
  refine (iFallShares _).mono ?_
  rintro e v ⟨rfl, hv⟩
  have k2 := hid (k1.out.stay hv)
  have bv : w.heap.size + 2 ≤ v.heap.size := by have := k2.out.lt (x := (w.heap.size + 1, vls 178 (clw (fun _ => 0) 0), 36)) in0; simp only at this; omega
  have fv := k2.out.fresh
  have kA := hid (k2.out.push (fls fun _ => 0) 23)
  have tokA : True := trivial
  clear k1 hv k2
  go_wp2_with (first
    | (have _t := k4; refine load_cut (by rfl) 32 _ (by rfl) (w.heap.size) 0 160 (by rfl) (k4.out.v in3) (by omega) (vls 160 (flw c)) (drops_is c t) _ Try.underlying32 (by rfl) info_sz8 ?_)
    | (have _t := kB; refine store_row (by rfl) 36 _ _ (by rfl) (w3.heap.size) (vls 178 (clw c t)) (vls 178 (clw (fun _ => 0) 0)) (by rfl) (by rfl) kB.out (by rw [vls_size]; exact info_col) (by simp) (vls_one (clw_one _ _)) (by omega) f3 ?_; intro w4 k4; replace k4 := hid k4; clear kB)
    | (have _t := k3; refine wpList_load_row rfl 36 _ rfl (w.heap.size) rfl 36 (vls 178 (clw c t)) (0, 0) _ (k3.out.v in2) Try.underlying36 rfl (by rw [vls_size]; exact info_col) ?_)
    | (have _t := tokA; refine store_row (by rfl) 23 _ _ (by rfl) (v.heap.size) (fls shr) (fls fun _ => 0) (by rfl) (by rfl) kA.out (by rw [fls_size]; exact info_a20) (by simp) (fls_one _) (by omega) fv ?_; intro w3 k3; replace k3 := hid k3; have kB := hid (k3.out.push (vls 178 (clw (fun _ => 0) 0)) 36); have b3 : v.heap.size + 1 ≤ w3.heap.size := (by have := k3.out.lt (x := (v.heap.size, fls shr, 23)) in0; simp only at this; omega); have f3 := k3.out.fresh; clear kA tokA))
  have k5 : Hid (Kept w [(w3.heap.size, vls 178 (clw (stS c (0) (0)) t), 36), (v.heap.size, fls shr, 23), (w.heap.size + 1, vls 178 (clw (fun _ => 0) 0), 36)] w4) := hid (Kept.ext (k4.out.sub (fun x hx => by rcases List.mem_cons.1 hx with rfl | hx; exact in0; rcases List.mem_cons.1 hx with rfl | hx; exact in1; rw [List.mem_singleton.1 hx]; exact in2)) (fun i _ => (clw_same (fun i => stS_zero c i) t i).symm))
  clear k3 k4 f3 fv
  go_loopw [19] (fun i wr => ∃ k : Nat, k ≤ 8 ∧ i = .int .i64 k ∧ Hid (Kept w [(w3.heap.size, vls 178 (clw (stS c (k) (0)) t), 36), (v.heap.size, fls shr, 23), (w.heap.size + 1, vls 178 (clw (fun _ => 0) 0), 36)] wr)) (fun i _ => 8 - (intOf i).toNat)
  case atStart => exact ⟨0, by omega, rfl, k5⟩
  case round =>
    clear k5
    obtain ⟨k, hk, rfl, h0⟩ := hrel
    by_cases hlt : k < 8
    · have HL := hid hlt
      have hk3 : (k : Int) < 8 := by omega
      have hix := ix8 c k hlt
      have bs : w.heap.size ≤ wr.heap.size := h0.out.size
      have fr := h0.out.fresh
      have kN := hid (h0.out.push (fls fun _ => 0) 31)
      have tok1 : True := trivial
      clear h0
      go_wp2_with (first | (have _t := tok1; refine store_row (by rfl) 31 _ _ (by rfl) (wr.heap.size) (fls (rowK c k)) (fls fun _ => 0) (by rfl) (by rfl) kN.out (by rw [fls_size]; exact info_arr) (by simp) (fls_one _) (by omega) fr ?_; intro w5 k6; replace k6 := hid k6; clear kN tok1) | (refine wpList_load_row rfl 31 _ rfl (wr.heap.size) rfl 31 (fls (rowK c k)) (0, 0) _ (k6.out.at (x := (wr.heap.size, fls (rowK c k), 31)) in0) Try.underlying31 rfl (by rw [fls_size]; exact info_arr) ?_))
      have k7 := hid k6.out.tail
      clear hix k6 fr bs
      go_loopw [24] (fun i wq => ∃ j : Nat, j ≤ 20 ∧ i = .int .i64 j ∧ Hid (Kept w [(w3.heap.size, vls 178 (clw (stS c (k) (j)) t), 36), (v.heap.size, fls shr, 23), (w.heap.size + 1, vls 178 (clw (fun _ => 0) 0), 36)] wq)) (fun i _ => 20 - (intOf i).toNat)
      case atStart => exact ⟨0, by omega, rfl, k7⟩
      case round =>
        clear k7
        obtain ⟨j, hj, rfl, h0⟩ := hrel
        by_cases hlj : j < 20
        · have HJ := hid hlj
          have hj3 : (j : Int) < 20 := by omega
          have hix : ∀ w, (Instr.index 31 (.agg (fls (rowK c k))) (.int .i64 (j : Int))).run Try.prog w = .ok (.float .f32 (c (k * 20 + j))) w := ix 31 Try.underlying31 (rowK c k) j hlj
          have F := fall_f HQ.out hlt hlj
          have r1 := fun w => run_mul (P := Try.prog) 22 F.sh F.am w
          rw [faC_at c k hlj] at r1
          have r2 := fun w => run_sub (P := Try.prog) 22 (amtB_iff.1 F.am) F.le w
          rw [show fsub (c (k * 20 + j)) (faC c (k * 20 + j)) = leC c (k * 20 + j) from rfl] at r2
          have e0 := stS_own c hlt hlj
          have tok1 : True := trivial
          have LA := hid F.la
          have FA := hid F.fa
          clear F
          rcases Nat.eq_zero_or_pos k with hz | hz
          · have hk4 : ¬ (0 : Int) < (k : Int) := by omega
            have hk5 : ¬ 0 < k := by omega
            have HM := hid hz
            have R4 := hid (fun w => run_mul (P := Try.prog) 22 (x := faC c j) (by have := FA.out; rwa [hz, show 0 * 20 + j = j by omega] at this) (mass_amt hlj) w)
            obtain ⟨g1, g2, g3⟩ := grC_f HQ.out hlj
            have R5 := hid (fun w => run_float_arith (P := Try.prog) w .quo 22 .f32 _ _ _ g2)
            have R6 := hid (fun w => run_add (P := Try.prog) 22 (gaS_nn HQ.out j (by omega)) g3 w)
            have EF := hid (show faC c (k * 20 + j) = faC c j by rw [hz, show 0 * 20 + j = j by omega])
            clear g1 g2 g3 hz
            go_wp2_with (first
              | (have _t := tok1; refine load_one (by rfl) 22 _ (by rfl) (v.heap.size) j (by rfl) (show vAt wr v.heap.size 20 (flw shr) 23 from h0.out.at (x := (v.heap.size, fls shr, 23)) in1) (by omega) (.float .f32 (shr j)) rfl _ Try.underlying22 (by rfl) ?_)
              | (have _t := tok1; refine store_one (by rfl) 22 _ _ (by rfl) info_f32c (w3.heap.size) (k * 20 + j) (.float .f32 (leC c (k * 20 + j))) (by rfl) (by rfl) rfl rfl h0.out (by omega) (by omega) (neC (by omega) (neC (by omega) ne0)) ?_; intro wy h1; replace h1 := hid (h1.ext (stM_is c t HL.out HJ.out)); clear h0 tok1))
            clear r1 r2 hix e0
            rw [EF.out]
            have h1 := hid h1.out.drew
            refine wp_region_still_tail 9 (by kernel_rfl) (by kernel_rfl) ?_
            change wpStill _ _ wy.drew (fun a' => wpList _ _ _ _ a' wy.drew) _ _
            simp only [List.take_succ_cons, List.take_zero, List.drop_succ_cons, List.drop_zero]
            generalize wy.drew = wz at h1 ⊢
            still_step
            refine still_load rfl 22 _ rfl _ rfl _ ((h1.out.v in0).oneAt 176 (by omega) (.float .f32 (gaS c j)) (stM_gauge' c t HM.out HJ.out) Try.underlying22 (by rfl)) ?_
            simp only [Act.put, List.setIfInBounds_toArray, List.set_cons_zero, List.set_cons_succ]
            still_step
            still_step
            still_call (back (iMass j HJ.out _))
            refine still_val rfl (.float .f32 (fmul (faC c j) (mass j))) (run_binop_val _ _ _ _ (by rfl) (by rfl) (by simp [eqGuard]) (R4.out _)) ?_
            simp only [Act.put, List.setIfInBounds_toArray, List.set_cons_zero, List.set_cons_succ]
            refine still_val rfl (.float .f32 (grC c j)) (run_binop_val _ _ _ _ (by rfl) (by rfl) (by simp [eqGuard]) (R5.out _)) ?_
            simp only [Act.put, List.setIfInBounds_toArray, List.set_cons_zero, List.set_cons_succ]
            refine still_val rfl (.float .f32 (gaS c (j + 1))) (run_binop_val _ _ _ _ (by rfl) (by rfl) (by simp [eqGuard]) (R6.out _)) ?_
            simp only [Act.put, List.setIfInBounds_toArray, List.set_cons_zero, List.set_cons_succ]
            still_step
            refine wpStill_nil ?_
            have tok1 : True := trivial
            go_wp2_with (have _t := tok1; refine store_one (by rfl) 22 _ _ (by rfl) info_f32c (w3.heap.size) 176 (.float .f32 (gaS c (j + 1))) (by rfl) (by rfl) rfl rfl h1.out (by omega) (by omega) (neC (by omega) (neC (by omega) ne0)) ?_; intro wx h2; replace h2 := hid (h2.ext (stS_gauge' c t HM.out HJ.out)); clear h1 tok1)
            go_roundw
            case rel => exact ⟨j + 1, by omega, by go_num, h2⟩
            case measure => simp [intOf]; omega
          · obtain ⟨m, hm⟩ : ∃ m, k = m + 1 := ⟨k - 1, by omega⟩
            have hk4 : (0 : Int) < (k : Int) := by omega
            have HM := hid hm
            have hkm : (k : Int) - 1 = (m : Int) := by omega
            have hm3 : (m : Int) < 8 := by omega
            have hwm : IntKind.i64.wrap (m : Int) = (m : Int) := by rw [IntKind.wrap_i64]; omega
            have G := fall_f HQ.out (k := m) (by omega) hlj
            have R3 := hid (fun w => run_add (P := Try.prog) 22 (amt_nn G.la) (amt_nn (show amtB (faC c (m * 20 + j + 20)) = true by rw [show m * 20 + j + 20 = k * 20 + j by omega]; exact FA.out)) w)
            have EF := hid (show faC c (k * 20 + j) = faC c (m * 20 + j + 20) by rw [show m * 20 + j + 20 = k * 20 + j by omega])
            clear G hm
            go_wp2_with (first
              | (have _t := tok1; refine load_one (by rfl) 22 _ (by rfl) (v.heap.size) j (by rfl) (show vAt wr v.heap.size 20 (flw shr) 23 from h0.out.at (x := (v.heap.size, fls shr, 23)) in1) (by omega) (.float .f32 (shr j)) rfl _ Try.underlying22 (by rfl) ?_)
              | (have _t := tok1; refine store_one (by rfl) 22 _ _ (by rfl) info_f32c (w3.heap.size) (k * 20 + j) (.float .f32 (leC c (k * 20 + j))) (by rfl) (by rfl) rfl rfl h0.out (by omega) (by omega) (neC (by omega) (neC (by omega) ne0)) ?_; intro wy h1; replace h1 := hid (h1.ext (stM_is c t HL.out HJ.out)); clear h0 tok1))
            clear r1 r2 hix e0
            rw [EF.out]
            have h1 := hid h1.out.drew
            refine wp_region_still_tail 15 (by kernel_rfl) (by kernel_rfl) ?_
            change wpStill _ _ wy.drew (fun a' => wpList _ _ _ _ a' wy.drew) _ _
            simp only [List.take_succ_cons, List.take_zero, List.drop_succ_cons, List.drop_zero]
            generalize wy.drew = wz at h1 ⊢
            still_step
            still_step
            still_step
            still_step
            still_step
            still_step
            still_step
            still_step
            still_step
            refine still_load rfl 22 _ rfl _ rfl _ ((h1.out.v in0).oneAt (m * 20 + j) (by have := HL.out; have := HM.out; have := HJ.out; omega) (.float .f32 (leC c (m * 20 + j))) (stM_low' c t HL.out HM.out HJ.out) Try.underlying22 (by rfl)) ?_
            simp only [Act.put, List.setIfInBounds_toArray, List.set_cons_zero, List.set_cons_succ]
            still_step
            refine still_val rfl (.float .f32 (dwC c (m * 20 + j))) (run_binop_val _ _ _ _ (by rfl) (by rfl) (by simp [eqGuard]) (R3.out _)) ?_
            simp only [Act.put, List.setIfInBounds_toArray, List.set_cons_zero, List.set_cons_succ]
            still_step
            still_step
            still_step
            refine wpStill_nil ?_
            have tok1 : True := trivial
            go_wp2_with (have _t := tok1; refine store_one (by rfl) 22 _ _ (by rfl) info_f32c (w3.heap.size) (m * 20 + j) (.float .f32 (dwC c (m * 20 + j))) (by rfl) (by rfl) rfl rfl h1.out (by have := HM.out; omega) (by omega) (neC (by omega) (neC (by omega) ne0)) ?_; intro wx h2; replace h2 := hid (h2.ext (stS_low' c t HL.out HM.out HJ.out)); clear h1 tok1)
            go_roundw
            case rel => exact ⟨j + 1, by omega, by go_num, h2⟩
            case measure => simp [intOf]; omega
        · obtain rfl : j = 20 := by omega
          have h3 := hid (h0.out.ext (fun i _ => clw_same (fun i => stS_next c k i) t i))
          clear h0
          go_wp2
          go_roundw
          case rel => exact ⟨k + 1, by omega, by go_num, h3⟩
          case measure => simp [intOf]; omega
    · obtain rfl : k = 8 := by omega
      have h3 := hid (h0.out.ext (fun i _ => clw_same (fun i => stS_end c i) t i))
      have tok1 : True := trivial
      have hx := hid (setW_lt HQ.out HB.out)
      clear h0
      go_wp2_with (refine wpList_load_row rfl 36 _ rfl (w3.heap.size) rfl 36 (vls 178 (clw (setW c) t)) (0, 0) _ (h3.out.at (x := (w3.heap.size, vls 178 (clw (setW c) t), 36)) in0) Try.underlying36 rfl (by rw [vls_size]; exact info_col) ?_)
      rcases Classical.em (ColOk (setW c) t) with hok | hok
      · obtain ⟨rfl, rfl, rfl⟩ := H1.out hok
        refine (iFitC_t (setW c) s hx.out hok 4 _).mono ?_
        rintro e y ⟨rfl, hy⟩
        have k9 : Hid (Kept w [(w.heap.size + 1, vls 178 (clw (fun _ => 0) 0), 36)] y) := hid (Kept.sub (h3.out.stay hy) (fun x hx => by rw [List.mem_singleton.1 hx]; exact in2))
        clear h3 hy hok H1 H0
        go_wp2_with (have _t := tok1; refine store_row (by rfl) 36 _ _ (by rfl) (w.heap.size + 1) (vls 178 (clw (setW c) s)) (vls 178 (clw (fun _ => 0) 0)) (by rfl) (by rfl) k9.out (by rw [vls_size]; exact info_col) (by simp) (vls_one (clw_one _ _)) (by omega) ne0 ?_; intro xk k8; replace k8 := hid k8; clear k9 tok1)
        exact bodyPost_ret (results_row_tmp rfl _ _ (w.heap.size + 1) 36 (vls 178 (clw (setW c) s)) (0, 0) _ rfl (k8.out.at (x := (w.heap.size + 1, vls 178 (clw (setW c) s), 36)) in0) Try.underlying36 rfl (by rw [vls_size]; exact info_col)) rfl ⟨rfl, k8.out.1⟩
      · obtain ⟨rfl, rfl, rfl⟩ := H0.out hok
        refine (iFitC_f (setW c) t hx.out hok 4 _).mono ?_
        rintro e y ⟨rfl, hy⟩
        have k9 : Hid (Kept w [(w.heap.size + 1, vls 178 (clw (fun _ => 0) 0), 36)] y) := hid (Kept.sub (h3.out.stay hy) (fun x hx => by rw [List.mem_singleton.1 hx]; exact in2))
        clear h3 hy hok H1 H0
        go_wp2_with (have _t := tok1; refine store_row (by rfl) 36 _ _ (by rfl) (w.heap.size + 1) (vls 178 (clw (fun _ => 0) 0)) (vls 178 (clw (fun _ => 0) 0)) (by rfl) (by rfl) k9.out (by rw [vls_size]; exact info_col) (by simp) (vls_one (clw_one _ _)) (by omega) ne0 ?_; intro xk k8; replace k8 := hid k8; clear k9 tok1)
        exact bodyPost_ret (results_row_tmp rfl _ _ (w.heap.size + 1) 36 (vls 178 (clw (fun _ => 0) 0)) (0, 0) _ rfl (k8.out.at (x := (w.heap.size + 1, vls 178 (clw (fun _ => 0) 0), 36)) in0) Try.underlying36 rfl (by rw [vls_size]; exact info_col)) rfl ⟨rfl, k8.out.1⟩

set_option maxHeartbeats 4000000 in
set_option maxRecDepth 100000 in
theorem sSettleC (c : Nat → Nat) (t : Int) (hb : ∀ i, i < 177 → c i < 4294967296) (h : ColOk c t) (r : Nat → Nat) (s n : Int) (h1 : ColOk (setW c) t → r = setW c ∧ s = t ∧ n = 0) (h0 : ¬ ColOk (setW c) t → r = (fun _ => 0) ∧ s = 0 ∧ n = 4) (w : World) (g : Nat) (T : TypeId) (hg : vAt w g 178 (clw c t) T) :
    Calls Try.prog 95 #[.pointer (some ⟨g, 0, none⟩)] w fun e w' => e = .returned (.tuple #[.agg (vls 178 (clw r s)), .int .i64 n]) ∧ Below w.heap.size w w' := by
  have hgl := hg.lt
  have k0 : Hid (Kept w [(w.heap.size, vls 178 (clw (fun _ => 0) 0), 36), (g, vls 178 (clw c t), T)] (w.alloc (.cells (vls 178 (clw (fun _ => 0) 0)) 36))) := hid (Kept.push ⟨Below.refl _ _, fun x hx => by rw [List.mem_singleton.1 hx]; exact hg⟩ _ _)
  have HB := hid hb
  have HQ := hid h
  have H1 := hid h1
  have H0 := hid h0
  clear hb h h1 h0 hg
  go_enter Try.func95, Try.ntmps95
  go_wp2_with fail
  refine (sShares _).mono ?_
  rintro e v ⟨rfl, hv⟩
  have k2 := hid (k0.out.stay hv)
  have bv : w.heap.size + 1 ≤ v.heap.size := by have := k2.out.lt (x := (w.heap.size, vls 178 (clw (fun _ => 0) 0), 36)) in0; simp only at this; omega
  have fv := k2.out.fresh
  have kA := hid (k2.out.push (fls fun _ => 0) 23)
  have tokA : True := trivial
  clear k0 hv k2
  go_wp2_with (first
    | (have _t := kB; refine store_row (by rfl) 36 _ _ (by rfl) (w3.heap.size) (vls 178 (clw c t)) (vls 178 (clw (fun _ => 0) 0)) (by rfl) (by rfl) kB.out (by rw [vls_size]; exact info_col) (by simp) (vls_one (clw_one _ _)) (by omega) f3 ?_; intro w4 k4; replace k4 := hid k4; clear kB)
    | (have _t := k3; refine load_cut (by rfl) 36 _ (by rfl) g 0 178 (by rfl) (k3.out.v in2) (by omega) (vls 178 (clw c t)) (vls_ext fun i _ => by rw [Nat.zero_add]) _ Try.underlying36 (by rfl) info_col ?_)
    | (have _t := tokA; refine store_row (by rfl) 23 _ _ (by rfl) (v.heap.size) (fls shr) (fls fun _ => 0) (by rfl) (by rfl) kA.out (by rw [fls_size]; exact info_a20) (by simp) (fls_one _) (by omega) fv ?_; intro w3 k3; replace k3 := hid k3; have kB := hid (k3.out.push (vls 178 (clw (fun _ => 0) 0)) 36); have b3 : v.heap.size + 1 ≤ w3.heap.size := (by have := k3.out.lt (x := (v.heap.size, fls shr, 23)) in0; simp only at this; omega); have f3 := k3.out.fresh; clear kA tokA))
  have k5 : Hid (Kept w [(w3.heap.size, vls 178 (clw (stS c (0) (0)) t), 36), (v.heap.size, fls shr, 23), (w.heap.size, vls 178 (clw (fun _ => 0) 0), 36), (g, vls 178 (clw c t), T)] w4) := hid (Kept.ext k4.out (fun i _ => (clw_same (fun i => stS_zero c i) t i).symm))
  clear k3 k4 f3 fv
  go_loopw [6] (fun i wr => ∃ k : Nat, k ≤ 8 ∧ i = .int .i64 k ∧ Hid (Kept w [(w3.heap.size, vls 178 (clw (stS c (k) (0)) t), 36), (v.heap.size, fls shr, 23), (w.heap.size, vls 178 (clw (fun _ => 0) 0), 36), (g, vls 178 (clw c t), T)] wr)) (fun i _ => 8 - (intOf i).toNat)
  case atStart => exact ⟨0, by omega, rfl, k5⟩
  case round =>
    clear k5
    obtain ⟨k, hk, rfl, h0⟩ := hrel
    by_cases hlt : k < 8
    · have HL := hid hlt
      have hk3 : (k : Int) < 8 := by omega
      have k7 := h0
      clear h0
      go_wp2_with fail
      go_loopw [7] (fun i wq => ∃ j : Nat, j ≤ 20 ∧ i = .int .i64 j ∧ Hid (Kept w [(w3.heap.size, vls 178 (clw (stS c (k) (j)) t), 36), (v.heap.size, fls shr, 23), (w.heap.size, vls 178 (clw (fun _ => 0) 0), 36), (g, vls 178 (clw c t), T)] wq)) (fun i _ => 20 - (intOf i).toNat)
      case atStart => exact ⟨0, by omega, rfl, k7⟩
      case round =>
        clear k7
        obtain ⟨j, hj, rfl, h0⟩ := hrel
        by_cases hlj : j < 20
        · have HJ := hid hlj
          have hj3 : (j : Int) < 20 := by omega
          have F := fall_f HQ.out hlt hlj
          have r1 := fun w => run_mul (P := Try.prog) 22 F.sh F.am w
          rw [faC_at c k hlj] at r1
          have r2 := fun w => run_sub (P := Try.prog) 22 (amtB_iff.1 F.am) F.le w
          rw [show fsub (c (k * 20 + j)) (faC c (k * 20 + j)) = leC c (k * 20 + j) from rfl] at r2
          have tok1 : True := trivial
          have LA := hid F.la
          have FA := hid F.fa
          have R1 := hid r1
          have R2 := hid r2
          clear F r1 r2
          go_wp2_with fail
          have h0 := hid h0.out.drew
          refine wp_region_still_tail 12 (by kernel_rfl) (by kernel_rfl) ?_
          change wpStill _ _ wr.drew (fun a' => wpList _ _ _ _ a' wr.drew) _ _
          simp only [List.take_succ_cons, List.take_zero, List.drop_succ_cons, List.drop_zero]
          generalize wr.drew = wa at h0 ⊢
          still_step
          still_step
          refine still_load rfl 22 _ rfl _ rfl _ ((show vAt wa v.heap.size 20 (flw shr) 23 from h0.out.at (x := (v.heap.size, fls shr, 23)) in1).oneAt j HJ.out (.float .f32 (shr j)) rfl Try.underlying22 (by rfl)) ?_
          simp only [Act.put, List.setIfInBounds_toArray, List.set_cons_zero, List.set_cons_succ]
          still_step
          still_step
          still_step
          still_step
          still_step
          still_step
          still_step
          refine still_load rfl 22 _ rfl _ rfl _ ((h0.out.v in3).oneAt (k * 20 + j) (by have := HL.out; have := HJ.out; omega) (.float .f32 (c (k * 20 + j))) (clw_f (by have := HL.out; have := HJ.out; omega)) Try.underlying22 (by rfl)) ?_
          simp only [Act.put, List.setIfInBounds_toArray, List.set_cons_zero, List.set_cons_succ]
          refine still_val rfl (.float .f32 (faC c (k * 20 + j))) (run_binop_val _ _ _ _ (by rfl) (by rfl) (by simp [eqGuard]) (R1.out _)) ?_
          simp only [Act.put, List.setIfInBounds_toArray, List.set_cons_zero, List.set_cons_succ]
          refine wpStill_nil ?_
          go_wp2_with fail
          have h0 := hid h0.out.drew
          refine wp_region_still_tail 15 (by kernel_rfl) (by kernel_rfl) ?_
          change wpStill _ _ wa.drew (fun a' => wpList _ _ _ _ a' wa.drew) _ _
          simp only [List.take_succ_cons, List.take_zero, List.drop_succ_cons, List.drop_zero]
          generalize wa.drew = wb at h0 ⊢
          still_step
          still_step
          still_step
          still_step
          still_step
          still_step
          still_step
          still_step
          still_step
          refine still_load rfl 22 _ rfl _ rfl _ ((h0.out.v in3).oneAt (k * 20 + j) (by have := HL.out; have := HJ.out; omega) (.float .f32 (c (k * 20 + j))) (clw_f (by have := HL.out; have := HJ.out; omega)) Try.underlying22 (by rfl)) ?_
          simp only [Act.put, List.setIfInBounds_toArray, List.set_cons_zero, List.set_cons_succ]
          still_step
          refine still_val rfl (.float .f32 (leC c (k * 20 + j))) (run_binop_val _ _ _ _ (by rfl) (by rfl) (by simp [eqGuard]) (R2.out _)) ?_
          simp only [Act.put, List.setIfInBounds_toArray, List.set_cons_zero, List.set_cons_succ]
          still_step
          still_step
          still_step
          refine wpStill_nil ?_
          rcases Nat.eq_zero_or_pos k with hz | hz
          · have hk4 : ¬ (0 : Int) < (k : Int) := by omega
            have hk5 : ¬ 0 < k := by omega
            have HM := hid hz
            have R4 := hid (fun w => run_mul (P := Try.prog) 22 (x := faC c j) (by have := FA.out; rwa [hz, show 0 * 20 + j = j by omega] at this) (mass_amt hlj) w)
            obtain ⟨g1, g2, g3⟩ := grC_f HQ.out hlj
            have R5 := hid (fun w => run_float_arith (P := Try.prog) w .quo 22 .f32 _ _ _ g2)
            have R6 := hid (fun w => run_add (P := Try.prog) 22 (gaS_nn HQ.out j (by omega)) g3 w)
            have EF := hid (show faC c (k * 20 + j) = faC c j by rw [hz, show 0 * 20 + j = j by omega])
            clear g1 g2 g3 hz
            go_wp2_with (have _t := tok1; refine store_one (by rfl) 22 _ _ (by rfl) info_f32c (w3.heap.size) (k * 20 + j) (.float .f32 (leC c (k * 20 + j))) (by rfl) (by rfl) rfl rfl h0.out (by omega) (by omega) (neC (by omega) (neC (by omega) (neC (by omega) ne0))) ?_; intro wy h1; replace h1 := hid (h1.ext (stM_is c t HL.out HJ.out)); clear h0 tok1)
            rw [EF.out]
            have h1 := hid h1.out.drew
            refine wp_region_still_tail 9 (by kernel_rfl) (by kernel_rfl) ?_
            change wpStill _ _ wy.drew (fun a' => wpList _ _ _ _ a' wy.drew) _ _
            simp only [List.take_succ_cons, List.take_zero, List.drop_succ_cons, List.drop_zero]
            generalize wy.drew = wz at h1 ⊢
            still_step
            refine still_load rfl 22 _ rfl _ rfl _ ((h1.out.v in0).oneAt 176 (by omega) (.float .f32 (gaS c j)) (stM_gauge' c t HM.out HJ.out) Try.underlying22 (by rfl)) ?_
            simp only [Act.put, List.setIfInBounds_toArray, List.set_cons_zero, List.set_cons_succ]
            still_step
            still_step
            still_call (back (sMass j HJ.out _))
            refine still_val rfl (.float .f32 (fmul (faC c j) (mass j))) (run_binop_val _ _ _ _ (by rfl) (by rfl) (by simp [eqGuard]) (R4.out _)) ?_
            simp only [Act.put, List.setIfInBounds_toArray, List.set_cons_zero, List.set_cons_succ]
            refine still_val rfl (.float .f32 (grC c j)) (run_binop_val _ _ _ _ (by rfl) (by rfl) (by simp [eqGuard]) (R5.out _)) ?_
            simp only [Act.put, List.setIfInBounds_toArray, List.set_cons_zero, List.set_cons_succ]
            refine still_val rfl (.float .f32 (gaS c (j + 1))) (run_binop_val _ _ _ _ (by rfl) (by rfl) (by simp [eqGuard]) (R6.out _)) ?_
            simp only [Act.put, List.setIfInBounds_toArray, List.set_cons_zero, List.set_cons_succ]
            still_step
            refine wpStill_nil ?_
            have tok1 : True := trivial
            go_wp2_with (have _t := tok1; refine store_one (by rfl) 22 _ _ (by rfl) info_f32c (w3.heap.size) 176 (.float .f32 (gaS c (j + 1))) (by rfl) (by rfl) rfl rfl h1.out (by omega) (by omega) (neC (by omega) (neC (by omega) (neC (by omega) ne0))) ?_; intro wx h2; replace h2 := hid (h2.ext (stS_gauge' c t HM.out HJ.out)); clear h1 tok1)
            go_roundw
            case rel => exact ⟨j + 1, by omega, by go_num, h2⟩
            case measure => simp [intOf]; omega
          · obtain ⟨m, hm⟩ : ∃ m, k = m + 1 := ⟨k - 1, by omega⟩
            have hk4 : (0 : Int) < (k : Int) := by omega
            have HM := hid hm
            have hkm : (k : Int) - 1 = (m : Int) := by omega
            have hm3 : (m : Int) < 8 := by omega
            have hwm : IntKind.i64.wrap (m : Int) = (m : Int) := by rw [IntKind.wrap_i64]; omega
            have G := fall_f HQ.out (k := m) (by omega) hlj
            have R3 := hid (fun w => run_add (P := Try.prog) 22 (amt_nn G.la) (amt_nn (show amtB (faC c (m * 20 + j + 20)) = true by rw [show m * 20 + j + 20 = k * 20 + j by omega]; exact FA.out)) w)
            have EF := hid (show faC c (k * 20 + j) = faC c (m * 20 + j + 20) by rw [show m * 20 + j + 20 = k * 20 + j by omega])
            clear G hm
            go_wp2_with (have _t := tok1; refine store_one (by rfl) 22 _ _ (by rfl) info_f32c (w3.heap.size) (k * 20 + j) (.float .f32 (leC c (k * 20 + j))) (by rfl) (by rfl) rfl rfl h0.out (by omega) (by omega) (neC (by omega) (neC (by omega) (neC (by omega) ne0))) ?_; intro wy h1; replace h1 := hid (h1.ext (stM_is c t HL.out HJ.out)); clear h0 tok1)
            rw [EF.out]
            have h1 := hid h1.out.drew
            refine wp_region_still_tail 15 (by kernel_rfl) (by kernel_rfl) ?_
            change wpStill _ _ wy.drew (fun a' => wpList _ _ _ _ a' wy.drew) _ _
            simp only [List.take_succ_cons, List.take_zero, List.drop_succ_cons, List.drop_zero]
            generalize wy.drew = wz at h1 ⊢
            still_step
            still_step
            still_step
            still_step
            still_step
            still_step
            still_step
            still_step
            still_step
            refine still_load rfl 22 _ rfl _ rfl _ ((h1.out.v in0).oneAt (m * 20 + j) (by have := HL.out; have := HM.out; have := HJ.out; omega) (.float .f32 (leC c (m * 20 + j))) (stM_low' c t HL.out HM.out HJ.out) Try.underlying22 (by rfl)) ?_
            simp only [Act.put, List.setIfInBounds_toArray, List.set_cons_zero, List.set_cons_succ]
            still_step
            refine still_val rfl (.float .f32 (dwC c (m * 20 + j))) (run_binop_val _ _ _ _ (by rfl) (by rfl) (by simp [eqGuard]) (R3.out _)) ?_
            simp only [Act.put, List.setIfInBounds_toArray, List.set_cons_zero, List.set_cons_succ]
            still_step
            still_step
            still_step
            refine wpStill_nil ?_
            have tok1 : True := trivial
            go_wp2_with (have _t := tok1; refine store_one (by rfl) 22 _ _ (by rfl) info_f32c (w3.heap.size) (m * 20 + j) (.float .f32 (dwC c (m * 20 + j))) (by rfl) (by rfl) rfl rfl h1.out (by have := HM.out; omega) (by omega) (neC (by omega) (neC (by omega) (neC (by omega) ne0))) ?_; intro wx h2; replace h2 := hid (h2.ext (stS_low' c t HL.out HM.out HJ.out)); clear h1 tok1)
            go_roundw
            case rel => exact ⟨j + 1, by omega, by go_num, h2⟩
            case measure => simp [intOf]; omega
        · obtain rfl : j = 20 := by omega
          have h3 := hid (h0.out.ext (fun i _ => clw_same (fun i => stS_next c k i) t i))
          clear h0
          go_wp2
          go_roundw
          case rel => exact ⟨k + 1, by omega, by go_num, h3⟩
          case measure => simp [intOf]; omega
    · obtain rfl : k = 8 := by omega
      have h3 := hid (h0.out.ext (fun i _ => clw_same (fun i => stS_end c i) t i))
      have tok1 : True := trivial
      have hx := hid (setW_lt HQ.out HB.out)
      clear h0
      go_wp2_with fail
      rcases Classical.em (ColOk (setW c) t) with hok | hok
      · obtain ⟨rfl, rfl, rfl⟩ := H1.out hok
        refine (sMadeC_t (setW c) s hx.out hok _ w3.heap.size 36 (h3.out.v in0)).mono ?_
        rintro e y ⟨rfl, hy⟩
        have k9 : Hid (Kept w [(w.heap.size, vls 178 (clw (fun _ => 0) 0), 36)] y) := hid (Kept.sub (h3.out.stay hy) (fun x hx => by rw [List.mem_singleton.1 hx]; exact in2))
        clear h3 hy hok H1 H0
        go_wp2_with (have _t := tok1; refine store_row (by rfl) 36 _ _ (by rfl) (w.heap.size) (vls 178 (clw (setW c) s)) (vls 178 (clw (fun _ => 0) 0)) (by rfl) (by rfl) k9.out (by rw [vls_size]; exact info_col) (by simp) (vls_one (clw_one _ _)) (by omega) ne0 ?_; intro xk k8; replace k8 := hid k8; clear k9 tok1)
        exact bodyPost_ret (results_row_tmp rfl _ _ (w.heap.size) 36 (vls 178 (clw (setW c) s)) (0, 0) _ rfl (k8.out.at (x := (w.heap.size, vls 178 (clw (setW c) s), 36)) in0) Try.underlying36 rfl (by rw [vls_size]; exact info_col)) rfl ⟨rfl, k8.out.1⟩
      · obtain ⟨rfl, rfl, rfl⟩ := H0.out hok
        refine (sMadeC_f (setW c) t hx.out hok _ w3.heap.size 36 (h3.out.v in0)).mono ?_
        rintro e y ⟨rfl, hy⟩
        have k9 : Hid (Kept w [(w.heap.size, vls 178 (clw (fun _ => 0) 0), 36)] y) := hid (Kept.sub (h3.out.stay hy) (fun x hx => by rw [List.mem_singleton.1 hx]; exact in2))
        clear h3 hy hok H1 H0
        go_wp2_with (have _t := tok1; refine store_row (by rfl) 36 _ _ (by rfl) (w.heap.size) (vls 178 (clw (fun _ => 0) 0)) (vls 178 (clw (fun _ => 0) 0)) (by rfl) (by rfl) k9.out (by rw [vls_size]; exact info_col) (by simp) (vls_one (clw_one _ _)) (by omega) ne0 ?_; intro xk k8; replace k8 := hid k8; clear k9 tok1)
        exact bodyPost_ret (results_row_tmp rfl _ _ (w.heap.size) 36 (vls 178 (clw (fun _ => 0) 0)) (0, 0) _ rfl (k8.out.at (x := (w.heap.size, vls 178 (clw (fun _ => 0) 0), 36)) in0) Try.underlying36 rfl (by rw [vls_size]; exact info_col)) rfl ⟨rfl, k8.out.1⟩

set_option maxRecDepth 100000 in
theorem iSettleOnce_bad (c : Nat → Nat) (t : Int)  (hb : ∀ i, i < 177 → c i < 4294967296) (h : ¬ ColOk c t) (w : World) :
    Calls Try.prog 34 #[.agg (vls 178 (clw c t))] w fun e w' => e = .returned (.tuple #[.agg (vls 178 (clw (fun _ => 0) 0)), .int .i64 1]) ∧ Below w.heap.size w w' := by
  have k0 : Hid (Kept w [(w.heap.size + 1, vls 178 (clw (fun _ => 0) 0), 36), (w.heap.size, vls 178 (clw c t), 36)] ((w.alloc (.cells (vls 178 (clw c t)) 36)).alloc (.cells (vls 178 (clw (fun _ => 0) 0)) 36))) := hid ((((Kept.nil w).push _ _).push _ _).sub (by simp))
  have HB := hid hb
  have HQ := hid h
  have tok1 : True := trivial
  clear hb h
  go_enter Try.func34, Try.ntmps34
  go_wp2_with (refine wpList_load_row rfl 36 _ rfl (w.heap.size) rfl 36 (vls 178 (clw c t)) (0, 0) _ (k0.out.v in1) Try.underlying36 rfl (by rw [vls_size]; exact info_col) ?_)
  refine (iValidColumn c t HB.out false (col_no HQ.out) _).mono ?_
  rintro e w1 ⟨rfl, hb1⟩
  have k1 := hid (k0.out.stay hb1)
  clear k0 hb1
  go_wp2_with (have _t := tok1; refine store_row (by rfl) 36 _ _ (by rfl) (w.heap.size + 1) (vls 178 (clw (fun _ => 0) 0)) (vls 178 (clw (fun _ => 0) 0)) (by rfl) (by rfl) k1.out (by rw [vls_size]; exact info_col) (by simp) (vls_one (clw_one _ _)) (by omega) (neC (by omega) ne0) ?_; intro xk2 k2; replace k2 := hid k2; clear k1 tok1)
  exact bodyPost_ret (results_row_tmp rfl _ _ (w.heap.size + 1) 36 (vls 178 (clw (fun _ => 0) 0)) (0, 0) _ rfl (k2.out.at (x := (w.heap.size + 1, vls 178 (clw (fun _ => 0) 0), 36)) in0) Try.underlying36 rfl (by rw [vls_size]; exact info_col)) rfl ⟨rfl, k2.out.1⟩

set_option maxRecDepth 100000 in
theorem sSettleOnce_bad (c : Nat → Nat) (t : Int)  (hb : ∀ i, i < 177 → c i < 4294967296) (h : ¬ ColOk c t) (w : World) :
    Calls Try.prog 33 #[.agg (vls 178 (clw c t))] w fun e w' => e = .returned (.tuple #[.agg (vls 178 (clw (fun _ => 0) 0)), .int .i64 1]) ∧ Below w.heap.size w w' := by
  have k0 : Hid (Kept w [(w.heap.size + 1, vls 178 (clw (fun _ => 0) 0), 36), (w.heap.size, vls 178 (clw c t), 36)] ((w.alloc (.cells (vls 178 (clw c t)) 36)).alloc (.cells (vls 178 (clw (fun _ => 0) 0)) 36))) := hid ((((Kept.nil w).push _ _).push _ _).sub (by simp))
  have HB := hid hb
  have HQ := hid h
  have tok1 : True := trivial
  clear hb h
  go_enter Try.func33, Try.ntmps33
  go_wp2_with fail
  refine (sColOk c t HB.out false (col_no HQ.out) _ w.heap.size 36 (k0.out.v in1)).mono ?_
  rintro e w1 ⟨rfl, hb1⟩
  have k1 := hid (k0.out.stay hb1)
  clear k0 hb1
  go_wp2_with (have _t := tok1; refine store_row (by rfl) 36 _ _ (by rfl) (w.heap.size + 1) (vls 178 (clw (fun _ => 0) 0)) (vls 178 (clw (fun _ => 0) 0)) (by rfl) (by rfl) k1.out (by rw [vls_size]; exact info_col) (by simp) (vls_one (clw_one _ _)) (by omega) (neC (by omega) ne0) ?_; intro xk2 k2; replace k2 := hid k2; clear k1 tok1)
  exact bodyPost_ret (results_row_tmp rfl _ _ (w.heap.size + 1) 36 (vls 178 (clw (fun _ => 0) 0)) (0, 0) _ rfl (k2.out.at (x := (w.heap.size + 1, vls 178 (clw (fun _ => 0) 0), 36)) in0) Try.underlying36 rfl (by rw [vls_size]; exact info_col)) rfl ⟨rfl, k2.out.1⟩

set_option maxRecDepth 100000 in
theorem sSettleOnce_ok (c : Nat → Nat) (t : Int) (hb : ∀ i, i < 177 → c i < 4294967296) (h : ColOk c t) (r : Nat → Nat) (s n : Int) (h1 : ColOk (setW c) t → r = setW c ∧ s = t ∧ n = 0) (h0 : ¬ ColOk (setW c) t → r = (fun _ => 0) ∧ s = 0 ∧ n = 4) (w : World) :
    Calls Try.prog 33 #[.agg (vls 178 (clw c t))] w fun e w' => e = .returned (.tuple #[.agg (vls 178 (clw r s)), .int .i64 n]) ∧ Below w.heap.size w w' := by
  have k0 : Hid (Kept w [(w.heap.size + 1, vls 178 (clw (fun _ => 0) 0), 36), (w.heap.size, vls 178 (clw c t), 36)] ((w.alloc (.cells (vls 178 (clw c t)) 36)).alloc (.cells (vls 178 (clw (fun _ => 0) 0)) 36))) := hid ((((Kept.nil w).push _ _).push _ _).sub (by simp))
  have HB := hid hb
  have HQ := hid h
  have H1 := hid h1
  have H0 := hid h0
  have tok1 : True := trivial
  clear hb h h1 h0
  go_enter Try.func33, Try.ntmps33
  go_wp2_with fail
  refine (sColOk c t HB.out true (col_ok HQ.out) _ w.heap.size 36 (k0.out.v in1)).mono ?_
  rintro e w1 ⟨rfl, hb1⟩
  have k1 := hid (k0.out.stay hb1)
  clear k0 hb1
  go_wp2_with fail
  refine (sSettleC c t HB.out HQ.out r s n H1.out H0.out _ w.heap.size 36 (k1.out.v in1)).mono ?_
  rintro e w2 ⟨rfl, hb2⟩
  have k2 := hid (k1.out.stay hb2)
  clear k1 hb2
  go_wp2_with (have _t := tok1; refine store_row (by rfl) 36 _ _ (by rfl) (w.heap.size + 1) (vls 178 (clw r s)) (vls 178 (clw (fun _ => 0) 0)) (by rfl) (by rfl) k2.out (by rw [vls_size]; exact info_col) (by simp) (vls_one (clw_one _ _)) (by omega) (neC (by omega) ne0) ?_; intro xk3 k3; replace k3 := hid k3; clear k2 tok1)
  exact bodyPost_ret (results_row_tmp rfl _ _ (w.heap.size + 1) 36 (vls 178 (clw r s)) (0, 0) _ rfl (k3.out.at (x := (w.heap.size + 1, vls 178 (clw r s), 36)) in0) Try.underlying36 rfl (by rw [vls_size]; exact info_col)) rfl ⟨rfl, k3.out.1⟩

set_option maxHeartbeats 1000000 in
set_option maxRecDepth 100000 in
theorem coreSettleOnce (x0 : Nat → Nat) (t0 : Int) (r0 : Nat → Nat) (s0 : Int) (hl0 : ∀ i, i < 177 → r0 i < 4294967296) (hf0 : ∀ i, i < 177 → finB (r0 i) = true) (r1 : Int)
    (hS : ∀ w, Calls Try.prog 33 #[.agg (vls 178 (clw x0 t0))] w fun e w' => e = .returned (.tuple #[.agg (vls 178 (clw r0 s0)), .int .i64 r1]) ∧ Below w.heap.size w w')
    (hI : ∀ w, Calls Try.prog 34 #[.agg (vls 178 (clw x0 t0))] w fun e w' => e = .returned (.tuple #[.agg (vls 178 (clw r0 s0)), .int .i64 r1]) ∧ Below w.heap.size w w') (w : World) :
    Calls Try.prog 7 #[.agg (vls 178 (clw x0 t0))] w fun e w' => e = .returned (.bool true) ∧ Below w.heap.size w w' := by
  have k0 : Hid (Kept w [(w.heap.size, vls 178 (clw x0 t0), 29)] (w.alloc (.cells (vls 178 (clw x0 t0)) 29))) := hid (((Kept.nil w).push _ _).sub (by simp))
  have HS := hid hS
  have HI := hid hI
  clear hS hI
  have Hl0 := hid hl0
  have Hf0 := hid hf0
  clear hl0 hf0
  go_enter Try.func7, Try.ntmps7
  go_wp2_with (first | (refine wpList_load_row rfl 29 _ rfl (w.heap.size) rfl 29 (vls 178 (clw x0 t0)) (0, 0) _ (k0.out.at (x := (w.heap.size, vls 178 (clw x0 t0), 29)) in0) Try.underlying29 rfl (by rw [vls_size]; exact info_lcol) ?_))
  refine (toColumn x0 t0 _).mono ?_
  rintro e u00 ⟨rfl, hu00⟩
  have k1 := hid (k0.out.stay hu00)
  clear k0 hu00
  go_wp2_with fail
  refine (HS.out _).mono ?_
  rintro e v0 ⟨rfl, hv0⟩
  have k2 := hid (k1.out.stay hv0)
  clear k1 hv0
  have bs0 : w.heap.size ≤ v0.heap.size := k2.out.size
  have fr0 := k2.out.fresh
  have k3 := hid (k2.out.push (vls 178 (clw (fun _ => 0) 0)) 36)
  clear k2
  have tok0 : True := trivial
  go_wp2_with (first | (have _t := tok0; refine store_row (by rfl) 36 _ _ (by rfl) (v0.heap.size) (vls 178 (clw r0 s0)) (vls 178 (clw (fun _ => 0) 0)) (by rfl) (by rfl) k3.out (by rw [vls_size]; exact info_col) (by simp) (vls_one (clw_one r0 s0)) (by omega) fr0 ?_; intro w0 k4; replace k4 := hid k4; clear k3 tok0) | (refine wpList_load_row rfl 29 _ rfl (w.heap.size) rfl 29 (vls 178 (clw x0 t0)) (0, 0) _ (k4.out.at (x := (w.heap.size, vls 178 (clw x0 t0), 29)) in1) Try.underlying29 rfl (by rw [vls_size]; exact info_lcol) ?_))
  refine (toColumn x0 t0 _).mono ?_
  rintro e u10 ⟨rfl, hu10⟩
  have k5 := hid (k4.out.stay hu10)
  clear k4 hu10
  go_wp2_with fail
  refine (HI.out _).mono ?_
  rintro e v1 ⟨rfl, hv1⟩
  have k6 := hid (k5.out.stay hv1)
  clear k5 hv1
  have bs1 : w.heap.size ≤ v1.heap.size := k6.out.size
  have fr1 := k6.out.fresh
  have k7 := hid (k6.out.push (vls 178 (clw (fun _ => 0) 0)) 36)
  clear k6
  have tok1 : True := trivial
  go_wp2_with (first | (have _t := tok1; refine store_row (by rfl) 36 _ _ (by rfl) (v1.heap.size) (vls 178 (clw r0 s0)) (vls 178 (clw (fun _ => 0) 0)) (by rfl) (by rfl) k7.out (by rw [vls_size]; exact info_col) (by simp) (vls_one (clw_one r0 s0)) (by omega) fr1 ?_; intro w1 k8; replace k8 := hid k8; clear k7 tok1) | (refine wpList_load_row rfl 36 _ rfl (v1.heap.size) rfl 36 (vls 178 (clw r0 s0)) (0, 0) _ (k8.out.at (x := (v1.heap.size, vls 178 (clw r0 s0), 36)) in0) Try.underlying36 rfl (by rw [vls_size]; exact info_col) ?_) | (refine wpList_load_row rfl 36 _ rfl (v0.heap.size) rfl 36 (vls 178 (clw r0 s0)) (0, 0) _ (k8.out.at (x := (v0.heap.size, vls 178 (clw r0 s0), 36)) in1) Try.underlying36 rfl (by rw [vls_size]; exact info_col) ?_))
  refine (eqColumn r0 s0 Hl0.out Hf0.out _).mono ?_
  rintro e z ⟨rfl, hz⟩
  have k9 := hid (k8.out.stay hz)
  clear k8 hz
  go_wp2
  go_ret
  exact ⟨rfl, k9.out.1⟩

theorem lawSettleOnce (c : Nat → Nat) (t : Int) (hb : ∀ i, i < 177 → c i < 4294967296) (w : World) :
    Calls Try.prog 7 #[.agg (vls 178 (clw c t))] w fun e w' => e = .returned (.bool true) ∧ Below w.heap.size w w' := by
  rcases Classical.em (ColOk c t) with h | h
  · rcases Classical.em (ColOk (setW c) t) with h' | h'
    · exact coreSettleOnce c t (setW c) t (setW_lt h hb) (colok_fin h' (setW_lt h hb)) 0 (sSettleOnce_ok c t hb h _ _ _ (fun _ => ⟨rfl, rfl, rfl⟩) (fun x => absurd h' x)) (iSettleC_ok c t hb h _ _ _ (fun _ => ⟨rfl, rfl, rfl⟩) (fun x => absurd h' x)) w
    · exact coreSettleOnce c t (fun _ => 0) 0 (fun _ _ => by decide) (fun _ _ => by decide) 4 (sSettleOnce_ok c t hb h _ _ _ (fun x => absurd x h') (fun _ => ⟨rfl, rfl, rfl⟩)) (iSettleC_ok c t hb h _ _ _ (fun x => absurd x h') (fun _ => ⟨rfl, rfl, rfl⟩)) w
  · exact coreSettleOnce c t (fun _ => 0) 0 (fun _ _ => by decide) (fun _ _ => by decide) 1 (sSettleOnce_bad c t hb h) (iSettleOnce_bad c t hb h) w

theorem words_cons : ∀ (v : List Char) (r : List Char), (∀ c ∈ v, c ≠ Char.ofNat 32) → wordsSigns (v ++ Char.ofNat 32 :: r) = v :: wordsSigns r
  | [], r, _ => rfl
  | c :: v, r, h => by
    have ih := words_cons v r (fun x hx => h x (by simp [hx]))
    have hc : c ≠ Char.ofNat 32 := h c (by simp)
    show wordsSigns (c :: (v ++ Char.ofNat 32 :: r)) = _
    rw [wordsSigns.eq_3 _ _ (fun e => hc e), ih]

def w0 : List Nat := [104, 97, 114, 110, 101, 115, 115]

def w1 : List Nat := [53, 97, 52, 54, 101, 53, 53, 98, 52, 48, 102, 99, 98, 48, 100, 53, 101, 48, 49, 101, 56, 48, 53, 99, 49, 55, 97, 101, 51, 99, 102, 101, 51, 57, 102, 97, 57, 48, 50, 97, 52, 102, 51, 54, 53, 53, 99, 101, 97, 98, 98, 53, 98, 48, 101, 56, 48, 101, 102, 55, 55, 99, 53, 48]

def w2 : List Nat := [99, 117, 116]

def w3 : List Nat := [97, 116, 32, 108, 111, 111, 112, 46, 101, 120, 97, 109, 112, 108, 101, 47, 103, 48, 49, 50, 50, 52, 47, 108, 97, 119, 115, 46, 70, 110, 69, 120, 97, 99, 116, 86, 97, 108, 105, 100, 67, 111, 108, 117, 109, 110, 32, 108, 111, 111, 112, 46, 101, 120, 97, 109, 112, 108, 101, 47, 103, 48, 49, 50, 50, 52, 47, 108, 97, 119, 115, 46, 70, 110, 69, 120, 97, 99, 116, 83, 97, 109, 101, 67, 111, 108, 117, 109, 110, 32, 108, 111, 111, 112, 46, 101, 120, 97, 109, 112, 108, 101, 47, 103, 48, 49, 50, 50, 52, 47, 108, 97, 119, 115, 46, 70, 110, 69, 120, 97, 99, 116, 83, 116, 105, 108, 108, 67, 111, 108, 117, 109, 110, 32, 108, 111, 111, 112, 46, 101, 120, 97, 109, 112, 108, 101, 47, 103, 48, 49, 50, 50, 52, 47, 108, 97, 119, 115, 46, 70, 110, 69, 120, 97, 99, 116, 70, 97, 108, 108, 83, 104, 97, 114, 101, 115, 32, 108, 111, 111, 112, 46, 101, 120, 97, 109, 112, 108, 101, 47, 103, 48, 49, 50, 50, 52, 47, 108, 97, 119, 115, 46, 70, 110, 69, 120, 97, 99, 116, 83, 101, 116, 116, 108, 101, 79, 110, 99, 101, 32, 108, 111, 111, 112, 46, 101, 120, 97, 109, 112, 108, 101, 47, 103, 48, 49, 50, 50, 52, 47, 108, 97, 119, 115, 46, 70, 110, 69, 120, 97, 99, 116, 71, 114, 111, 119, 67, 111, 108, 117, 109, 110, 32, 108, 111, 111, 112, 46, 101, 120, 97, 109, 112, 108, 101, 47, 103, 48, 49, 50, 50, 52, 47, 108, 97, 119, 115, 46, 70, 110, 69, 120, 97, 99, 116, 83, 116, 105, 114, 67, 111, 108, 117, 109, 110, 32, 108, 111, 111, 112, 46, 101, 120, 97, 109, 112, 108, 101, 47, 103, 48, 49, 50, 50, 52, 47, 108, 97, 119, 115, 46, 70, 110, 69, 120, 97, 99, 116, 87, 97, 116, 101, 114, 79, 102, 67, 111, 108, 117, 109, 110, 32, 108, 111, 111, 112, 46, 101, 120, 97, 109, 112, 108, 101, 47, 103, 48, 49, 50, 50, 52, 47, 108, 97, 119, 115, 46, 70, 110, 69, 120, 97, 99, 116, 82, 97, 105, 110, 79, 102, 32, 108, 111, 111, 112, 46, 101, 120, 97, 109, 112, 108, 101, 47, 103, 48, 49, 50, 50, 52, 47, 108, 97, 119, 115, 46, 70, 110, 69, 120, 97, 99, 116, 67, 108, 111, 117, 100, 66, 97, 115, 101, 32, 108, 111, 111, 112, 46, 101, 120, 97, 109, 112, 108, 101, 47, 103, 48, 49, 50, 50, 52, 47, 108, 97, 119, 115, 46, 70, 110, 69, 120, 97, 99, 116, 86, 97, 108, 105, 100, 65, 99, 116, 32, 108, 111, 111, 112, 46, 101, 120, 97, 109, 112, 108, 101, 47, 103, 48, 49, 50, 50, 52, 47, 108, 97, 119, 115, 46, 70, 110, 69, 120, 97, 99, 116, 85, 110, 105, 116, 65, 116, 32, 108, 111, 111, 112, 46, 101, 120, 97, 109, 112, 108, 101, 47, 103, 48, 49, 50, 50, 52, 47, 108, 97, 119, 115, 46, 70, 110, 69, 120, 97, 99, 116, 67, 111, 108, 108, 105, 100, 101, 80, 97, 105, 114, 115, 32, 108, 111, 111, 112, 46, 101, 120, 97, 109, 112, 108, 101, 47, 103, 48, 49, 50, 50, 52, 47, 108, 97, 119, 115, 46, 70, 110, 69, 120, 97, 99, 116, 71, 114, 111, 119, 79, 110, 99, 101, 32, 108, 111, 111, 112, 46, 101, 120, 97, 109, 112, 108, 101, 47, 103, 48, 49, 50, 50, 52, 47, 108, 97, 119, 115, 46, 70, 110, 69, 120, 97, 99, 116, 71, 114, 111, 119, 83, 116, 101, 112, 115, 32, 108, 111, 111, 112, 46, 101, 120, 97, 109, 112, 108, 101, 47, 103, 48, 49, 50, 50, 52, 47, 108, 97, 119, 115, 46, 70, 110, 69, 120, 97, 99, 116, 83, 116, 101, 112, 115, 84, 111, 68, 114, 121, 32, 108, 111, 111, 112, 46, 101, 120, 97, 109, 112, 108, 101, 47, 103, 48, 49, 50, 50, 52, 47, 108, 97, 119, 115, 46, 70, 110, 69, 120, 97, 99, 116, 83, 116, 101, 97, 100, 121, 83, 111, 117, 110, 100, 105, 110, 103, 32, 108, 111, 111, 112, 46, 101, 120, 97, 109, 112, 108, 101, 47, 103, 48, 49, 50, 50, 52, 47, 108, 97, 119, 115, 46, 70, 110, 69, 120, 97, 99, 116, 82, 105, 115, 101, 73, 110, 32, 108, 111, 111, 112, 46, 101, 120, 97, 109, 112, 108, 101, 47, 103, 48, 49, 50, 50, 52, 47, 108, 97, 119, 115, 46, 70, 110, 69, 120, 97, 99, 116, 84, 104, 105, 114, 100, 82, 111, 111, 116]

def letters (l : List Nat) : List Char := l.map Char.ofNat

theorem head_reads : Try.prog.initOrder = String.ofList (letters w0 ++ Char.ofNat 32 :: (letters w1 ++ Char.ofNat 32 :: (letters w2 ++ Char.ofNat 32 :: letters w3))) := by kernel_rfl

theorem no_blank {l : List Nat} (h : l.all (fun n => Char.ofNat n != Char.ofNat 32) = true) : ∀ c ∈ letters l, c ≠ Char.ofNat 32 := by
  intro c hc
  obtain ⟨n, hn, rfl⟩ := List.mem_map.1 hc
  have := List.all_eq_true.1 h n hn
  simpa using this

theorem h0 : letters w0 = "harness".toList := by kernel_rfl

theorem h2 : letters w2 = "cut".toList := by kernel_rfl

theorem sums : isSumSigns (letters w1) = true := by kernel_rfl

theorem words : wordsSigns Try.prog.initOrder.toList = "harness".toList :: letters w1 :: "cut".toList :: wordsSigns (letters w3) := by
  rw [head_reads, String.toList_ofList, words_cons _ _ (no_blank (by decide +kernel)), words_cons _ _ (no_blank (by decide +kernel)), words_cons _ _ (no_blank (by decide +kernel)), h0, h2]

theorem behind : ∃ r, behindMainWord (wordsSigns Try.prog.initOrder.toList) = "cut".toList :: r := by
  refine ⟨wordsSigns (letters w3), ?_⟩
  rw [words]
  generalize wordsSigns (letters w3) = r
  have hs := sums
  generalize letters w1 = v at hs
  unfold behindMainWord
  simp [hs]

theorem not_later : Try.prog.laysLater = false := by kernel_rfl

theorem no_reflect : Try.prog.bearsReflect = false := by kernel_rfl

theorem no_doors : Try.prog.doorFits [] = true := by kernel_rfl

theorem strips (r : List (List Char)) : stripLifts liftWords ("cut".toList :: r) = ([], "cut".toList :: r) := by kernel_rfl

theorem may_enter_of (P : Program) (r : List (List Char)) (h : behindMainWord (wordsSigns P.initOrder.toList) = "cut".toList :: r) (h1 : P.laysLater = false) (h2 : P.bearsReflect = false) (h3 : P.doorFits [] = true) : P.mayEnter = true := by
  unfold Program.mayEnter
  rw [h]
  dsimp only
  rw [strips, h1, h2, h3]
  kernel_rfl

theorem lifts_final_of (P : Program) (r : List (List Char)) (h : behindMainWord (wordsSigns P.initOrder.toList) = "cut".toList :: r) : P.liftsFinal = false := by
  unfold Program.liftsFinal Program.headLifts
  rw [h]
  dsimp only
  rw [strips]
  kernel_rfl

theorem made_of (P : Program) (r : List (List Char)) (h : behindMainWord (wordsSigns P.initOrder.toList) = "cut".toList :: r) : P.make = some .cut := by
  unfold Program.make
  rw [h]
  kernel_rfl

theorem may_enter : Try.prog.mayEnter = true := let ⟨r, h⟩ := behind; may_enter_of _ r h not_later no_reflect no_doors

theorem lifts_final : Try.prog.liftsFinal = false := let ⟨r, h⟩ := behind; lifts_final_of _ r h

theorem made : Try.prog.make = some .cut := let ⟨r, h⟩ := behind; made_of _ r h

theorem laid : laidOutB Try.prog = true := by kernel_rfl

theorem rowed : mapsRowed Try.prog = true := by kernel_rfl

theorem no_stops : Try.prog.stops = [] := by kernel_rfl

theorem no_knobs : Try.prog.stopKnobs = [] := by kernel_rfl

theorem plain_keys : Try.prog.plainKeys = false := by kernel_rfl

theorem stops_heard : Try.prog.stopsHeard = true := by kernel_rfl

theorem arr1 {α : Type} {cs : Array α} (h : cs.size = 1) : ∃ c0, cs = #[c0] := by
  obtain ⟨l⟩ := cs
  match l, h with
  | [a], _ => exact ⟨a, rfl⟩

theorem own : ownKnob Try.prog.godebug = none := by kernel_rfl

theorem cells178 : Try.prog.cellsOf 29 = 178 := by kernel_rfl

theorem types178 : Try.prog.cellTypes Try.prog.depth 29 = some (List.replicate 177 22 ++ [2]) := by kernel_rfl

theorem rdc : Try.prog.readableRec 29 = true ∧ 29 < Try.prog.types.size := ⟨by kernel_rfl, of_decide_eq_true (by kernel_rfl)⟩
end Go.Proofs.Ytllkjockdogagaa

namespace Go.Proofs.Ytllkjockdogagaa.fnExactSettleOnce
open Go.RowKit Go.Fl Go.ChangeShapes Go.WideShapes Go.ChangeAt

set_option maxHeartbeats 2000000 in
theorem closed : joinedFacts Try.prog 7 Try.f7 Rows.fnExactSettleOnceSpec Rows.fnExactSettleOnceRow = true := by
  unfold joinedFacts
  simp only [Bool.and_eq_true]
  exact ⟨⟨⟨⟨⟨⟨⟨⟨⟨⟨⟨⟨⟨⟨⟨⟨⟨⟨⟨⟨⟨⟨⟨⟨⟨⟨⟨⟨⟨⟨⟨(by as_aux_lemma => kernel_rfl),
    laid⟩,
    rowed⟩,
    (by as_aux_lemma => kernel_rfl)⟩,
    (by as_aux_lemma => kernel_rfl)⟩,
    (by as_aux_lemma => kernel_rfl)⟩,
    (by rw [no_stops]; rfl)⟩,
    (by as_aux_lemma => kernel_rfl)⟩,
    (by rw [no_knobs]; rfl)⟩,
    (by as_aux_lemma => kernel_rfl)⟩,
    (by as_aux_lemma => kernel_rfl)⟩,
    (by as_aux_lemma => kernel_rfl)⟩,
    (by as_aux_lemma => kernel_rfl)⟩,
    (by as_aux_lemma => kernel_rfl)⟩,
    (by as_aux_lemma => kernel_rfl)⟩,
    (by as_aux_lemma => kernel_rfl)⟩,
    (by as_aux_lemma => kernel_rfl)⟩,
    (by as_aux_lemma => kernel_rfl)⟩,
    (by as_aux_lemma => kernel_rfl)⟩,
    (by as_aux_lemma => kernel_rfl)⟩,
    (by as_aux_lemma => kernel_rfl)⟩,
    (by as_aux_lemma => kernel_rfl)⟩,
    (show (Rows.fnExactSettleOnceRow.plainKeys == Try.prog.plainKeys) = true by rw [plain_keys]; rfl)⟩,
    (by as_aux_lemma => kernel_rfl)⟩,
    stops_heard⟩,
    may_enter⟩,
    (show (Rows.fnExactSettleOnceRow.lifted == Try.prog.liftsFinal) = true by rw [lifts_final]; rfl)⟩,
    (show (Try.prog.make == some Rows.fnExactSettleOnceRow.make) = true by rw [made]; rfl)⟩,
    (by as_aux_lemma => kernel_rfl)⟩,
    (by as_aux_lemma => kernel_rfl)⟩,
    (by as_aux_lemma => kernel_rfl)⟩,
    (by as_aux_lemma => kernel_rfl)⟩

set_option maxRecDepth 100000 in
theorem lifted (os : Os) (started : os.Started) (H : Type) (enc : TypeId × Value → H) :
    ReturnsInHanded {} Try.checked os 7 .any (Rows.fnExactSettleOnceSpec.pre6 enc Try.prog Try.f7 Rows.fnExactSettleOnceRow.domain false) (Rows.fnExactSettleOnceSpec.post enc Try.prog Try.f7 false true false false) := by
  refine LawFrame.lifted (C := Try.checked) (fn := Try.f7) (n := 1) (tb := 4) started own (by kernel_rfl) Try.func7 laid ?_ rfl rfl ?_ rfl Try.underlying4
    (ChangeSpec.witness6 (enc := enc) (C := Try.checked) false ⟨#[], #[.agg ((Array.replicate 177 (.float .f32 0)).push (.int .i64 0))], []⟩ 8 (by kernel_rfl) (by kernel_rfl) (by kernel_rfl) (by kernel_rfl)) ?_
  · intro t ht
    simp only [Try.params7, List.mem_cons, List.not_mem_nil, or_false] at ht
    subst ht; exact rdc
  · intro ds hd
    match ds, hd with
    | [_], _ => rfl
  · intro W base args ds ps hval hn _
    obtain ⟨v0, rfl⟩ : ∃ v0, args = #[v0] := arr1 hn
    obtain ⟨c0, n0, rfl, hb0, hi0⟩ := open_col Try.underlying29 rfl Try.underlying22 Try.underlying2 cells178 types178 (hval 0 29 v0 rfl rfl)
    exact lawSettleOnce c0 n0 hb0 W

theorem over : Rows.fnExactSettleOnceRow.holds Try.pinned (OpenSpec.ofChange Rows.fnExactSettleOnceSpec) :=
  OpenClaim.holds_of_wide 7 Try.f7 rfl rfl rfl rfl rfl rfl rfl ⟨rfl, rfl, rfl, rfl, rfl⟩ rfl rfl rfl rfl rfl (by kernel_rfl) Try.func7 closed
    (of_decide_eq_true (by kernel_rfl)) (by unfold Func.isWrapper; rw [if_neg (by decide +kernel)]; exact ⟨rfl, rfl⟩)
    (fun os started H enc _ => lifted os started H enc)

theorem proved : Rows.FnExactSettleOnceSaid := over
#print axioms proved
end Go.Proofs.Ytllkjockdogagaa.fnExactSettleOnce
