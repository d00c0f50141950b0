import Derived.Test.YtllkjockdogagaaCStillColumn
import Derived.Test.YtllkjockdogagaaChecked
import Derived.Test.YtllkjockdogagaaRows
import Derived.Laws.FloatArith
import Derived.ProofKit
import Derived.WalkKit
import Derived.WalkLawsBesides
import Derived.WalkSpells
import Derived.Deep.QuietTactic
import Derived.BigQuiet
import Derived.Deep.RegionHeld3
import Derived.ChangeKeysEq
import Derived.Laws.BitsAllLaws
import Derived.Deep.MidRow
import Derived.Deep.WholeRow
import Derived.StillTailTactics
import Derived.Deep.Slices
import Derived.ChangeSame
import Derived.OrdersIn
import Derived.ControlIn
import Derived.RangeFuncSeq
import Derived.RangeFuncNested
import Derived.ArgAppend
import Derived.OwnWalkIn
import Derived.TacticsInMore
import Derived.Below
import Derived.Laws.AppendOwn
import Derived.OpenShut
/- The law FnExactStillColumn of chapter 1: at every argument the call returns true, and what was there before it is as it was. -/
namespace Go.Proofs.Ytllkjockdogagaa
open Go.RowKit Go.Fl

@[go_sem] theorem ext_f64bits (y : Nat) (w : World) : (callFunc 217 #[.float .f64 y]).run Try.prog w = .ok (.value (.int .u64 y)) w := by
  rw [run_callFunc_extern Try.func217 (by kernel_rfl) (by kernel_rfl) (by kernel_rfl) (e := Extern.MathFloatBits.float64bits) (by kernel_rfl)]
  rfl

@[go_sem] theorem ext_f64from (n : Int) (w : World) : (callFunc 187 #[.int .u64 n]).run Try.prog w = .ok (.value (.float .f64 n.toNat)) w := by
  rw [run_callFunc_extern Try.func187 (by kernel_rfl) (by kernel_rfl) (by kernel_rfl) (e := Extern.MathFloatBits.float64frombits) (by kernel_rfl)]
  rfl

theorem hid {p : Prop} (h : p) : Hid p := h

theorem clear_sign (y : Nat) (h : y < 18446744073709551616) : (bits BinOp.andNot IntKind.u64 (y : Int) 9223372036854775808).toNat = y % 9223372036854775808 := by
  rw [u64_andNot _ _ (by omega) (by omega) (by omega) (by omega)]
  rw [Int.toNat_natCast, Int.toNat_natCast]
  exact Nat.and_two_pow_sub_one_eq_mod y 63

theorem abs_f64 (y : Nat) (h : y < 18446744073709551616) (w : World) :
    Calls Try.prog 224 #[.float .f64 y] w fun e w' => e = .returned (.float .f64 (y % 9223372036854775808)) ∧ w = w' := by
  have hc := hid (clear_sign y h)
  clear h
  go_enter Try.func224, Try.ntmps224
  go_wp2
  go_ret
  exact ⟨by simp [hc.out], rfl⟩

theorem isNaN_f64 (y : Nat) (w : World) :
    Calls Try.prog 185 #[.float .f64 y] w fun e w' => e = .returned (.bool (FloatKind.f64.format.order y y != some .eq)) ∧ w = w' := by
  go_enter Try.func185, Try.ntmps185
  go_wp2
  go_ret
  exact ⟨rfl, rfl⟩

theorem isInf_f64 (y : Nat) (h : y < 18446744073709551616) (w : World) :
    Calls Try.prog 186 #[.float .f64 y, .int .i64 0] w fun e w' => e = .returned (.bool (FloatKind.f64.format.order (y % 9223372036854775808) 9218868437227405311 == some .gt)) ∧ w = w' := by
  have hc := hid h
  clear h
  go_enter Try.func186, Try.ntmps186
  go_wp2_with (go_at_call 224; refine (abs_f64 y hc.out _).mono ?_; rintro e w' ⟨rfl, rfl⟩)
  go_ret
  exact ⟨rfl, rfl⟩

theorem isFinite_t (x : Nat) (hx : x < 4294967296) (h : finB x = true) (w : World) :
    Calls Try.prog 115 #[.float .f32 x] w fun e w' => e = .returned (.bool true) ∧ w = w' := by
  rw [finB_iff] at h
  have hc := fun w => run_conv_wid (P := Try.prog) w 22 53 x hx Try.underlying22 Try.underlying53 h
  obtain ⟨a, b, m, e, hr⟩ := read_wid_fin hx h
  have hn : (FloatKind.f64.format.order (wid x) (wid x) != some .eq) = false := by
    show (D.order (wid x) (wid x) != some .eq) = false
    rw [order_self hr]; rfl
  have hi : (FloatKind.f64.format.order (wid x % 9223372036854775808) 9218868437227405311 == some .gt) = false := by
    show (D.order (wid x % 9223372036854775808) 9218868437227405311 == some .gt) = false
    rw [b, order_ltD a (by decide)]
    rw [DINF_val] at a
    have hle : wid (mg x) ≤ 9218868437227405311 := by omega
    rcases Nat.lt_or_eq_of_le hle with h' | h'
    · rw [Nat.compare_eq_lt.2 h']; rfl
    · rw [Nat.compare_eq_eq.2 h']; rfl
  have hw : wid x < 18446744073709551616 := D.write_lt _
  have Hn := hid hn
  have Hi := hid hi
  have Hw := hid hw
  clear hn hi hw hr a b h hx
  go_enter Try.func115, Try.ntmps115
  go_wp2_with (first | (go_at_call 185; refine (isNaN_f64 (wid x) _).mono ?_; rintro e w' ⟨rfl, rfl⟩; rw [Hn.out]) | (go_at_call 186; refine (isInf_f64 (wid x) Hw.out _).mono ?_; rintro e w' ⟨rfl, rfl⟩; rw [Hi.out]))
  go_ret
  exact ⟨rfl, rfl⟩

theorem isFinite_f (x : Nat) (hx : x < 4294967296) (h : finB x = false) (w : World) :
    Calls Try.prog 115 #[.float .f32 x] w fun e w' => e = .returned (.bool false) ∧ Below w.heap.size w w' := by
  rw [finB_iff'] at h
  rcases Nat.lt_or_eq_of_le h with h | h
  · obtain ⟨z, hc, h1, _⟩ := run_conv_nan (P := Try.prog) w 22 53 x Try.underlying22 Try.underlying53 h
    obtain ⟨s, t, hr⟩ := read_nanD h1
    have Hn := hid (show (FloatKind.f64.format.order z z != some .eq) = true by
      show (D.order z z != some .eq) = true
      rw [order_nan hr]; rfl)
    clear h h1 hr hx
    go_enter Try.func115, Try.ntmps115
    go_wp2_with (go_at_call 185; refine (isNaN_f64 z _).mono ?_; rintro e w' ⟨rfl, rfl⟩; rw [Hn.out])
    go_ret
    exact ⟨rfl, (Below.refl _ _).drew⟩
  · obtain ⟨z, hc, h1, h2⟩ := run_conv_inf (P := Try.prog) w 22 53 x hx Try.underlying22 Try.underlying53 h.symm
    have hr : D.read z = .infinity (decide (9223372036854775808 ≤ z)) := by rw [read_signD h2, h1, read_DINF]
    have Hn := hid (show (FloatKind.f64.format.order z z != some .eq) = false by
      show (D.order z z != some .eq) = false
      rw [order_inf hr]; rfl)
    have Hi := hid (show (FloatKind.f64.format.order (z % 9223372036854775808) 9218868437227405311 == some .gt) = true by
      rw [h1]; decide)
    have H2 := hid h2
    clear h h1 hr hx h2
    go_enter Try.func115, Try.ntmps115
    go_wp2_with (first | (go_at_call 185; refine (isNaN_f64 z _).mono ?_; rintro e w' ⟨rfl, rfl⟩; rw [Hn.out]) | (go_at_call 186; refine (isInf_f64 z H2.out _).mono ?_; rintro e w' ⟨rfl, rfl⟩; rw [Hi.out]))
    go_ret
    exact ⟨rfl, Below.refl _ _⟩

theorem signbit_f64 (y : Nat) (w : World) :
    Calls Try.prog 160 #[.float .f64 y] w fun e w' => e = .returned (.bool (decide (wrap64 (y : Int) < 0))) ∧ w = w' := by
  go_enter Try.func160, Try.ntmps160
  go_wp2
  go_ret
  exact ⟨rfl, rfl⟩

theorem and_sign (y : Nat) (h : y < 18446744073709551616) : (decide (wrap64 (y : Int) < 0)) = decide (9223372036854775808 ≤ y) := by
  unfold wrap64
  by_cases h' : 9223372036854775808 ≤ y
  · rw [decide_eq_true h']; simp; omega
  · rw [decide_eq_false h']; simp; omega

theorem isAmount_t (x : Nat) (h : amtB x = true) (w : World) :
    Calls Try.prog 87 #[.float .f32 x] w fun e w' => e = .returned (.bool true) ∧ w = w' := by
  have hf := amt_fin h
  rw [amtB_iff, INF_val] at h
  have hx : x < 4294967296 := by omega
  have hc := fun w => run_conv_wid (P := Try.prog) w 22 53 x hx Try.underlying22 Try.underlying53 (finB_iff.1 hf)
  have hw : wid x < 18446744073709551616 := D.write_lt _
  have Hs := hid (show (decide (wrap64 (wid x : Int) < 0)) = false by
    rw [and_sign _ hw]
    have := (wid_val (x := x) (by rw [INF_val]; omega)).1
    rw [DINF_val] at this
    simp; omega)
  have Hx := hid hx
  have Hf := hid hf
  clear h hf hx hw
  go_enter Try.func87, Try.ntmps87
  go_wp2_with (first | (go_at_call 115; refine (isFinite_t x Hx.out Hf.out _).mono ?_; rintro e w' ⟨rfl, rfl⟩) | (go_at_call 160; refine (signbit_f64 (wid x) _).mono ?_; rintro e w' ⟨rfl, rfl⟩; rw [Hs.out]))
  go_ret
  exact ⟨rfl, rfl⟩

theorem isAmount_f (x : Nat) (hx : x < 4294967296) (h : amtB x = false) (w : World) :
    Calls Try.prog 87 #[.float .f32 x] w fun e w' => e = .returned (.bool false) ∧ Below w.heap.size w w' := by
  rcases hf : finB x with _ | _
  · have Hx := hid hx
    have Hf := hid hf
    clear h hf hx
    go_enter Try.func87, Try.ntmps87
    go_wp2_with (go_at_call 115; refine (isFinite_f x Hx.out Hf.out _).mono ?_; rintro e w' ⟨rfl, hb⟩)
    go_ret
    exact ⟨rfl, hb⟩
  · have hc := fun w => run_conv_wid (P := Try.prog) w 22 53 x hx Try.underlying22 Try.underlying53 (finB_iff.1 hf)
    have hw : wid x < 18446744073709551616 := D.write_lt _
    have Hs := hid (show (decide (wrap64 (wid x : Int) < 0)) = true by
      rw [and_sign _ hw, wid_fin hx (finB_iff.1 hf)]
      rw [amtB_iff', INF_val] at h
      rw [finB_iff, INF_val] at hf
      unfold mg at hf ⊢
      rw [if_pos (by omega)]
      simp)
    have Hx := hid hx
    have Hf := hid hf
    clear h hf hx hw
    go_enter Try.func87, Try.ntmps87
    go_wp2_with (first | (go_at_call 115; refine (isFinite_t x Hx.out Hf.out _).mono ?_; rintro e w' ⟨rfl, rfl⟩) | (go_at_call 160; refine (signbit_f64 (wid x) _).mono ?_; rintro e w' ⟨rfl, rfl⟩; rw [Hs.out]))
    go_ret
    exact ⟨rfl, Below.refl _ _⟩

theorem info_f32 : ∃ i, Try.prog.info? 22 = some i ∧ i.size = 1 := by
  have h : (Try.prog.info? 22).map (·.size) = some 1 := by kernel_rfl
  cases hi : Try.prog.info? 22 with
  | none => rw [hi] at h; cases h
  | some i => rw [hi] at h; exact ⟨i, rfl, Option.some.inj h⟩

theorem ix (T : TypeId) (hT : Try.prog.underlying T = some (.array 20 22)) (c : Nat → Nat) (k : Nat) (hk : k < 20) (w : World) :
    (Instr.index T (.agg (fls c)) (.int .i64 (k : Int))).run Try.prog w = .ok (.float .f32 (c k)) w := by
  obtain ⟨i, h1, h2⟩ := info_f32
  exact run_index_arr hT Try.underlying22 rfl h1 h2 _ _ hk _ (fls_get c hk) w

theorem info_arr : (Try.prog.info? 31).map (·.size) = some 20 := by kernel_rfl

set_option maxRecDepth 100000 in
theorem validSizes_t (c : Nat → Nat) (h : ∀ i, i < 20 → amtB (c i) = true) (w : World) :
    Calls Try.prog 85 #[.agg (fls c)] w fun e w' => e = .returned (.bool true) ∧ Below w.heap.size w w' := by
  have H := hid h
  clear h
  go_enter Try.func85, Try.ntmps85
  go_wp2_with (refine wpList_load_row rfl 31 _ rfl w.heap.size rfl 31 (fls c) (0, 0) _ (heap_alloc_new _ _) Try.underlying31 rfl (by rw [fls_size]; exact info_arr) ?_)
  go_loop [6] (fun i => ∃ k : Nat, k ≤ 20 ∧ i = .int .i64 k) (fun i => 20 - (intOf i).toNat)
  case atStart => exact ⟨0, by omega, rfl⟩
  case round =>
    obtain ⟨k, hk, rfl⟩ := hrel
    by_cases hlt : k < 20
    · have hix := ix 31 Try.underlying31 c k hlt
      go_wp2_with (go_at_call 87; refine (isAmount_t (c k) (H.out k hlt) _).mono ?_; rintro e w' ⟨rfl, rfl⟩)
      go_round
      case rel => exact ⟨k + 1, by omega, by go_num⟩
      case measure => simp [intOf]; omega
    · go_wp2
      go_ret
      exact ⟨rfl, (Below.refl _ _).alloc (Nat.le_refl _) _⟩

@[go_sem] theorem ext_f32bits (y : Nat) (w : World) : (callFunc 195 #[.float .f32 y]).run Try.prog w = .ok (.value (.int .u32 y)) w := by
  rw [run_callFunc_extern Try.func195 (by kernel_rfl) (by kernel_rfl) (by kernel_rfl) (e := Extern.MathFloatBits.float32bits) (by kernel_rfl)]
  rfl

theorem sFinite_t (x : Nat) (hx : x < 4294967296) (h : finB x = true) (w : World) :
    Calls Try.prog 107 #[.float .f32 x] w fun e w' => e = .returned (.bool true) ∧ w = w' := by
  have hr := fun w => run_float_arith (P := Try.prog) w .sub 22 .f32 x x 0 (sub_self_fin hx h)
  clear h hx
  go_enter Try.func107, Try.ntmps107
  go_wp2
  go_ret
  exact ⟨rfl, rfl⟩

theorem sFinite_f (x : Nat) (hx : x < 4294967296) (h : finB x = false) (w : World) :
    Calls Try.prog 107 #[.float .f32 x] w fun e w' => e = .returned (.bool false) ∧ Below w.heap.size w w' := by
  obtain ⟨z, hr, h1, _⟩ := run_arith_nan (P := Try.prog) w .sub (by simp) 22 x x (sub_self_none hx h)
  have Hn := hid (show (FloatKind.f32.format.order z 0 == some .eq) = false by
    show (S.order z 0 == some .eq) = false
    rw [order_nan32 h1]; rfl)
  clear h hx h1
  go_enter Try.func107, Try.ntmps107
  go_wp2
  go_ret
  exact ⟨by simp [Hn.out], (Below.refl _ _).drew⟩

theorem sAmount_t (x : Nat) (h : amtB x = true) (w : World) :
    Calls Try.prog 130 #[.float .f32 x] w fun e w' => e = .returned (.bool true) ∧ w = w' := by
  have hf := amt_fin h
  have h' := amtB_iff.1 h
  have hx : x < 4294967296 := by rw [INF_val] at h'; omega
  have Hx := hid hx
  have Hf := hid hf
  by_cases h0 : x = 0
  · subst h0
    clear h hf h' hx
    go_enter Try.func130, Try.ntmps130
    go_wp2_with (go_at_call 107; refine (sFinite_t 0 Hx.out Hf.out _).mono ?_; rintro e w' ⟨rfl, rfl⟩)
    go_ret
    exact ⟨rfl, rfl⟩
  · have hg : (FloatKind.f32.format.order x 0 == some .gt) = true := by
      show (S.order x 0 == some .gt) = true
      rw [order_zero_pos h', Nat.compare_eq_gt.2 (by omega)]; rfl
    clear h hf h' hx h0
    go_enter Try.func130, Try.ntmps130
    go_wp2_with (go_at_call 107; refine (sFinite_t x Hx.out Hf.out _).mono ?_; rintro e w' ⟨rfl, rfl⟩)
    go_ret
    exact ⟨rfl, rfl⟩

theorem sAmount_f (x : Nat) (hx : x < 4294967296) (h : amtB x = false) (w : World) :
    Calls Try.prog 130 #[.float .f32 x] w fun e w' => e = .returned (.bool false) ∧ Below w.heap.size w w' := by
  rcases hf : finB x with _ | _
  · have Hx := hid hx
    have Hf := hid hf
    clear h hf hx
    go_enter Try.func130, Try.ntmps130
    go_wp2_with (go_at_call 107; refine (sFinite_f x Hx.out Hf.out _).mono ?_; rintro e w' ⟨rfl, hb⟩)
    go_ret
    exact ⟨rfl, hb⟩
  · have hs : 2147483648 ≤ x := by
      rw [amtB_iff', INF_val] at h
      have := finB_iff.1 hf
      rw [INF_val] at this
      unfold mg at this
      omega
    have hg : (FloatKind.f32.format.order x 0 == some .gt) = false := order_neg_zero hx hf hs
    have hb : ((x : Int) == 0) = false := by simp; omega
    have Hx := hid hx
    have Hf := hid hf
    clear h hf hx hs
    go_enter Try.func130, Try.ntmps130
    go_wp2_with (go_at_call 107; refine (sFinite_t x Hx.out Hf.out _).mono ?_; rintro e w' ⟨rfl, rfl⟩)
    go_ret
    exact ⟨rfl, Below.refl _ _⟩

set_option maxRecDepth 100000 in
theorem validSizes_f (c : Nat → Nat) (hb : ∀ i, i < 20 → c i < 4294967296) (h : ¬ ∀ i, i < 20 → amtB (c i) = true) (w : World) :
    Calls Try.prog 85 #[.agg (fls c)] w fun e w' => e = .returned (.bool false) ∧ Below w.heap.size w w' := by
  have H := hid h
  have HB := hid hb
  clear h hb
  go_enter Try.func85, Try.ntmps85
  go_wp2_with (refine wpList_load_row rfl 31 _ rfl w.heap.size rfl 31 (fls c) (0, 0) _ (heap_alloc_new _ _) Try.underlying31 rfl (by rw [fls_size]; exact info_arr) ?_)
  go_loop [6] (fun i => ∃ k : Nat, k ≤ 20 ∧ Hid (∀ i, i < k → amtB (c i) = true) ∧ i = .int .i64 k) (fun i => 20 - (intOf i).toNat)
  case atStart => exact ⟨0, by omega, hid (fun i hi => by omega), rfl⟩
  case round =>
    obtain ⟨k, hk, HK, rfl⟩ := hrel
    by_cases hlt : k < 20
    · have hix := ix 31 Try.underlying31 c k hlt
      rcases hac : amtB (c k) with _ | _
      · have HA := hid hac
        clear hac
        go_wp2_with (go_at_call 87; refine (isAmount_f (c k) (HB.out k hlt) HA.out _).mono ?_; rintro e w' ⟨rfl, hb⟩)
        go_ret
        exact ⟨rfl, (((Below.refl _ _).alloc (Nat.le_refl _) _).trans (hb.mono (by simp)))⟩
      · have HA := hid hac
        clear hac
        go_wp2_with (go_at_call 87; refine (isAmount_t (c k) HA.out _).mono ?_; rintro e w' ⟨rfl, rfl⟩)
        go_round
        case rel =>
          refine ⟨k + 1, by omega, hid (fun i hi => ?_), by go_num⟩
          by_cases e : i = k
          · subst e; exact HA.out
          · exact HK.out i (by omega)
        case measure => simp [intOf]; omega
    · have hk20 : k = 20 := by omega
      exact (H.out (fun i hi => HK.out i (by omega))).elim

theorem div_one_some {y m : Nat} {s : Bool} {e : Int} (h : D.read y = .number s m e) : ∃ q, floatBits .quo .f64 4607182418800017408 y = some q := by
  have h1 : D.read 4607182418800017408 = .number false 4503599627370496 (-52) := by decide
  show ∃ q, D.div 4607182418800017408 y = some q
  unfold Ieee.Format.div
  rw [h, h1]
  simp only [Ieee.Datum.quotient]
  by_cases hm : m = 0
  · rw [if_pos hm]; exact ⟨_, rfl⟩
  · rw [if_neg hm]; exact ⟨_, rfl⟩

set_option maxRecDepth 100000 in
theorem sameFloat (x : Nat) (hx : x < 4294967296) (h : finB x = true) (w : World) :
    Calls Try.prog 41 #[.float .f64 (wid x), .float .f64 (wid x)] w fun e w' => e = .returned (.bool true) ∧ w = w' := by
  obtain ⟨a, b, m, e, hr⟩ := read_wid_fin hx (finB_iff.1 h)
  have hn : (FloatKind.f64.format.order (wid x) (wid x) != some .eq) = false := by
    show (D.order (wid x) (wid x) != some .eq) = false
    rw [order_self hr]; rfl
  have hq : (FloatKind.f64.format.order (wid x) (wid x) == some .eq) = true := by
    show (D.order (wid x) (wid x) == some .eq) = true
    rw [order_self hr]; rfl
  obtain ⟨q, hd⟩ := div_one_some hr
  have hdiv := fun w => run_float_arith (P := Try.prog) w .quo 53 .f64 4607182418800017408 (wid x) q hd
  clear hd hr a b h hx
  rcases hz : (FloatKind.f64.format.order (wid x) 0 == some .eq) with _ | _
  · go_enter Try.func41, Try.ntmps41
    go_wp2
    go_ret
    exact ⟨by simp, rfl⟩
  · go_enter Try.func41, Try.ntmps41
    go_wp2
    go_ret
    exact ⟨by simp, rfl⟩

theorem back {P : Program} {f : FuncId} {args : Array Value} {w : World} {v : Value} (h : Calls P f args w fun e w' => e = .returned v ∧ w = w') : Calls P f args w fun e w' => e = .returned v ∧ w' = w :=
  h.mono fun _ _ ⟨a, b⟩ => ⟨a, b.symm⟩

set_option maxRecDepth 100000 in
theorem eqSizes (c : Nat → Nat) (hb : ∀ i, i < 20 → c i < 4294967296) (h : ∀ i, i < 20 → finB (c i) = true) (w : World) :
    Calls Try.prog 63 #[.agg (fls c), .agg (fls c)] w fun e w' => e = .returned (.bool true) ∧ Below w.heap.size w w' := by
  have b0 : Below w.heap.size w (w.alloc (.cells (fls c) 31)) := (Below.refl _ _).alloc (Nat.le_refl _) _
  have a0 := hid (arrAt.new w c 31)
  have H := hid h
  have HB := hid hb
  clear h hb
  go_enter Try.func63, Try.ntmps63
  go_wp2
  go_loopw [5] (fun i wr => ∃ k : Nat, k ≤ 20 ∧ i = .int .i64 k ∧ Hid (arrAt wr w.heap.size c 31) ∧ Hid (arrAt wr (w.heap.size + 1) c 31) ∧ Hid (Below w.heap.size w wr)) (fun i _ => 20 - (intOf i).toNat)
  case atStart =>
    refine ⟨0, by omega, rfl, hid (a0.out.alloc _), hid ?_, hid (b0.alloc (by simp) _)⟩
    have := arrAt.new (w.alloc (.cells (fls c) 31)) c 31
    have e : (w.alloc (.cells (fls c) 31)).heap.size = w.heap.size + 1 := by simp
    rw [e] at this
    exact this
  case round =>
    obtain ⟨k, hk, rfl, h0, h1, hb⟩ := hrel
    by_cases hlt : k < 20
    · have q0 := h0.out.cell hlt
      have q1 := h1.out.cell hlt
      have hc := fun w => run_conv_wid (P := Try.prog) w 22 53 (c k) (HB.out k hlt) Try.underlying22 Try.underlying53 (finB_iff.1 (H.out k hlt))
      go_wp2
      go_quiet ((go_at_call 41; exact Calls.quiet_of_same (back (sameFloat (c k) (HB.out k hlt) (H.out k hlt) _))))
      go_wp2
      go_roundw
      case rel => exact ⟨k + 1, by omega, by go_num, h0, h1, hid (below_drewN hb.out _)⟩
      case measure => simp [intOf]; omega
    · go_wp2
      go_ret
      exact ⟨rfl, hb.out⟩

def Amts (c : Nat → Nat) : Prop := ∀ i, i < 20 → amtB (c i) = true

theorem l00In_t (n a b : Int) (h1 : a ≤ n) (h2 : n ≤ b) (w : World) :
    Calls Try.prog 132 #[.int .i64 n, .int .i64 a, .int .i64 b] w fun e w' => e = .returned (.bool true) ∧ w = w' := by
  go_enter Try.func132, Try.ntmps132
  go_wp2
  go_ret
  exact ⟨by first | rfl | (simp; done) | (simp; omega), rfl⟩

theorem l00In_f (n a b : Int) (hn : ¬ (a ≤ n ∧ n ≤ b)) (w : World) :
    Calls Try.prog 132 #[.int .i64 n, .int .i64 a, .int .i64 b] w fun e w' => e = .returned (.bool false) ∧ w = w' := by
  by_cases h0 : a ≤ n
  · have h3 : b < n := by omega
    clear hn
    go_enter Try.func132, Try.ntmps132
    go_wp2
    go_ret
    exact ⟨by first | rfl | (simp; done) | (simp; omega), rfl⟩
  · have h3 : n < a := by omega
    have h4 : decide (a ≤ n) = false := by simp; omega
    clear hn h0
    go_enter Try.func132, Try.ntmps132
    go_wp2
    go_ret
    exact ⟨by simp, rfl⟩

theorem loose {P : Program} {f : FuncId} {args : Array Value} {w : World} {v : Value} (h : Calls P f args w fun e w' => e = .returned v ∧ w = w') : Calls P f args w fun e w' => e = .returned v ∧ Below w.heap.size w w' :=
  h.mono fun _ _ ⟨a, b⟩ => ⟨a, b ▸ Below.refl _ _⟩

theorem info_air : (Try.prog.info? 33).map (·.size) = some 2 := by kernel_rfl

set_option maxRecDepth 100000 in
theorem eqAir (h v : Nat) (hh : h < 4294967296) (hv : v < 4294967296) (fh : finB h = true) (fv : finB v = true) (w : World) :
    Calls Try.prog 64 #[.agg #[.float .f32 h, .float .f32 v], .agg #[.float .f32 h, .float .f32 v]] w fun e w' => e = .returned (.bool true) ∧ Below w.heap.size w w' := by
  have hc0 := fun w => run_conv_wid (P := Try.prog) w 22 53 h hh Try.underlying22 Try.underlying53 (finB_iff.1 fh)
  have hc1 := fun w => run_conv_wid (P := Try.prog) w 22 53 v hv Try.underlying22 Try.underlying53 (finB_iff.1 fv)
  have Hh := hid hh
  have Hv := hid hv
  have Fh := hid fh
  have Fv := hid fv
  have b0 := boxed2 w (.cells #[.float .f32 h, .float .f32 v] 33) (.cells #[.float .f32 h, .float .f32 v] 33)
  clear hh hv fh fv
  go_enter Try.func64, Try.ntmps64
  go_wp2_with fail
  refine (sameFloat h Hh.out Fh.out _).mono ?_
  rintro e w1 ⟨rfl, rfl⟩
  go_wp2_with fail
  refine (sameFloat v Hv.out Fv.out _).mono ?_
  rintro e w1 ⟨rfl, rfl⟩
  go_wp2
  go_ret
  exact ⟨rfl, b0⟩

theorem iHeat (x : Nat) (q : Bool) (hq : heatB x = q) (w : World) :
    Calls Try.prog 159 #[.float .f32 x] w fun e w' => e = .returned (.bool q) ∧ w = w' := by
  have h1 : heatB x = ((FloatKind.f32.format.order x 3262119936 == some .gt || FloatKind.f32.format.order x 3262119936 == some .eq) && (FloatKind.f32.format.order x 1114636288 == some .lt || FloatKind.f32.format.order x 1114636288 == some .eq)) := rfl
  rw [h1] at hq
  clear h1
  rcases a : (FloatKind.f32.format.order x 3262119936 == some .gt || FloatKind.f32.format.order x 3262119936 == some .eq) with _ | _
  · rw [a] at hq
    simp only [Bool.false_and] at hq
    subst hq
    go_enter Try.func159, Try.ntmps159
    go_wp2
    go_ret
    exact ⟨rfl, rfl⟩
  · rw [a] at hq
    simp only [Bool.true_and] at hq
    cases q
    all_goals
      go_enter Try.func159, Try.ntmps159
      go_wp2
      go_ret
      exact ⟨rfl, rfl⟩

theorem sHeat (x : Nat) (q : Bool) (hq : heatB x = q) (w : World) :
    Calls Try.prog 194 #[.float .f32 x] w fun e w' => e = .returned (.bool q) ∧ w = w' := by
  have h1 : heatB x = ((FloatKind.f32.format.order x 3262119936 == some .gt || FloatKind.f32.format.order x 3262119936 == some .eq) && (FloatKind.f32.format.order x 1114636288 == some .lt || FloatKind.f32.format.order x 1114636288 == some .eq)) := rfl
  rw [h1] at hq
  clear h1
  rcases a : (FloatKind.f32.format.order x 3262119936 == some .gt || FloatKind.f32.format.order x 3262119936 == some .eq) with _ | _
  · rw [a] at hq
    simp only [Bool.false_and] at hq
    subst hq
    go_enter Try.func194, Try.ntmps194
    go_wp2
    go_ret
    exact ⟨rfl, rfl⟩
  · rw [a] at hq
    simp only [Bool.true_and] at hq
    cases q
    all_goals
      go_enter Try.func194, Try.ntmps194
      go_wp2
      go_ret
      exact ⟨rfl, rfl⟩

set_option maxRecDepth 100000 in
theorem iValidAir (h v : Nat) (hv : v < 4294967296) (q : Bool) (hq : airB h v = q) (w : World) :
    Calls Try.prog 86 #[.agg #[.float .f32 h, .float .f32 v]] w fun e w' => e = .returned (.bool q) ∧ Below w.heap.size w w' := by
  have b0 := boxed w (.cells #[.float .f32 h, .float .f32 v] 33)
  have Hv := hid hv
  have e1 : airB h v = (heatB h && amtB v && vapB v) := rfl
  rw [e1] at hq
  clear hv e1
  rcases a : heatB h with _ | _
  · have Ha := hid a
    rw [a] at hq
    simp only [Bool.false_and] at hq
    subst hq
    clear a
    go_enter Try.func86, Try.ntmps86
    go_wp2_with fail
    refine (iHeat h false Ha.out _).mono ?_
    rintro e w1 ⟨rfl, rfl⟩
    go_wp2
    go_ret
    exact ⟨rfl, b0⟩
  · have Ha := hid a
    rw [a] at hq
    clear a
    rcases b : amtB v with _ | _
    · have Hb := hid b
      rw [b] at hq
      simp only [Bool.and_false, Bool.false_and] at hq
      subst hq
      clear b
      go_enter Try.func86, Try.ntmps86
      go_wp2_with fail
      refine (iHeat h true Ha.out _).mono ?_
      rintro e w1 ⟨rfl, rfl⟩
      go_wp2_with fail
      refine (isAmount_f v Hv.out Hb.out _).mono ?_
      rintro e w1 ⟨rfl, hb1⟩
      go_wp2
      go_ret
      exact ⟨rfl, stp b0 (Nat.le_refl _) hb1⟩
    · have Hb := hid b
      rw [b] at hq
      simp only [Bool.true_and] at hq
      have hc : (FloatKind.f32.format.order v 1148846080 == some .lt || FloatKind.f32.format.order v 1148846080 == some .eq) = q := hq
      clear b hq
      cases q
      all_goals
        go_enter Try.func86, Try.ntmps86
        go_wp2_with fail
        refine (iHeat h true Ha.out _).mono ?_
        rintro e w1 ⟨rfl, rfl⟩
        go_wp2_with fail
        refine (isAmount_t v Hb.out _).mono ?_
        rintro e w1 ⟨rfl, rfl⟩
        go_wp2
        go_ret
        exact ⟨rfl, b0⟩

set_option maxRecDepth 100000 in
theorem sAirAt_f (h v : Nat) (hv : v < 4294967296) (hq : airB h v = false) (w : World) (g o : Nat) (c0 : w.cell? ⟨g, o, none⟩ = some (.float .f32 h)) (c1 : w.cell? ⟨g, o + 1, none⟩ = some (.float .f32 v)) :
    Calls Try.prog 129 #[.pointer (some ⟨g, o, none⟩)] w fun e w' => e = .returned (.bool false) ∧ Below w.heap.size w w' := by
  have Hv := hid hv
  have e1 : airB h v = (heatB h && amtB v && vapB v) := rfl
  rw [e1] at hq
  clear hv e1
  rcases a : heatB h with _ | _
  · have Ha := hid a
    clear a hq
    go_enter Try.func129, Try.ntmps129
    go_wp2_with fail
    refine (sHeat h false Ha.out _).mono ?_
    rintro e w1 ⟨rfl, rfl⟩
    go_wp2
    go_ret
    exact ⟨rfl, Below.refl _ _⟩
  · have Ha := hid a
    rw [a] at hq
    clear a
    rcases b : amtB v with _ | _
    · have Hb := hid b
      clear b hq
      go_enter Try.func129, Try.ntmps129
      go_wp2_with fail
      refine (sHeat h true Ha.out _).mono ?_
      rintro e w1 ⟨rfl, rfl⟩
      go_wp2_with fail
      refine (sAmount_f v Hv.out Hb.out _).mono ?_
      rintro e w1 ⟨rfl, hb1⟩
      go_wp2
      go_ret
      exact ⟨rfl, hb1⟩
    · have Hb := hid b
      rw [b] at hq
      simp only [Bool.true_and] at hq
      have hc : (FloatKind.f32.format.order v 1148846080 == some .lt || FloatKind.f32.format.order v 1148846080 == some .eq) = false := hq
      clear b hq
      go_enter Try.func129, Try.ntmps129
      go_wp2_with fail
      refine (sHeat h true Ha.out _).mono ?_
      rintro e w1 ⟨rfl, rfl⟩
      go_wp2_with fail
      refine (sAmount_t v Hb.out _).mono ?_
      rintro e w1 ⟨rfl, rfl⟩
      go_wp2
      go_ret
      exact ⟨rfl, Below.refl _ _⟩

set_option maxRecDepth 100000 in
theorem sAirAt_t (h v : Nat) (hq : airB h v = true) (w : World) (g o : Nat) (c0 : w.cell? ⟨g, o, none⟩ = some (.float .f32 h)) (c1 : w.cell? ⟨g, o + 1, none⟩ = some (.float .f32 v)) :
    Calls Try.prog 129 #[.pointer (some ⟨g, o, none⟩)] w fun e w' => e = .returned (.bool true) ∧ w = w' := by
  obtain ⟨a, b, c⟩ := airB_iff.1 hq
  have hc : (FloatKind.f32.format.order v 1148846080 == some .lt || FloatKind.f32.format.order v 1148846080 == some .eq) = true := c
  have Ha := hid a
  have Hb := hid b
  clear a b c hq
  go_enter Try.func129, Try.ntmps129
  go_wp2_with fail
  refine (sHeat h true Ha.out _).mono ?_
  rintro e w1 ⟨rfl, rfl⟩
  go_wp2_with fail
  refine (sAmount_t v Hb.out _).mono ?_
  rintro e w1 ⟨rfl, rfl⟩
  go_wp2
  go_ret
  exact ⟨rfl, rfl⟩

theorem sAirAt (h v : Nat) (hv : v < 4294967296) (q : Bool) (hq : airB h v = q) (w : World) (g o : Nat) (c0 : w.cell? ⟨g, o, none⟩ = some (.float .f32 h)) (c1 : w.cell? ⟨g, o + 1, none⟩ = some (.float .f32 v)) :
    Calls Try.prog 129 #[.pointer (some ⟨g, o, none⟩)] w fun e w' => e = .returned (.bool q) ∧ Below w.heap.size w w' := by
  cases q
  · exact sAirAt_f h v hv hq w g o c0 c1
  · exact loose (sAirAt_t h v hq w g o c0 c1)

set_option maxRecDepth 100000 in
theorem sOkAt_t (c : Nat → Nat) (h : Amts c) (w : World) (g o : Nat) (hg : ∀ k, k < 20 → w.cell? ⟨g, o + k, none⟩ = some (.float .f32 (c k))) :
    Calls Try.prog 128 #[.pointer (some ⟨g, o, none⟩)] w fun e w' => e = .returned (.bool true) ∧ w = w' := by
  have H := hid h
  have HG := hid hg
  clear h hg
  go_enter Try.func128, Try.ntmps128
  go_wp2
  go_loop [3] (fun i => ∃ k : Nat, k ≤ 20 ∧ i = .int .i64 k) (fun i => 20 - (intOf i).toNat)
  case atStart => exact ⟨0, by omega, rfl⟩
  case round =>
    obtain ⟨k, hk, rfl⟩ := hrel
    by_cases hlt : k < 20
    · have hcell := HG.out k hlt
      go_wp2_with (go_at_call 130; refine (sAmount_t (c k) (H.out k hlt) _).mono ?_; rintro e w' ⟨rfl, rfl⟩)
      go_round
      case rel => exact ⟨k + 1, by omega, by go_num⟩
      case measure => simp [intOf]; omega
    · go_wp2
      go_ret
      exact ⟨rfl, rfl⟩

set_option maxRecDepth 100000 in
theorem sOkAt_f (c : Nat → Nat) (hb : ∀ i, i < 20 → c i < 4294967296) (h : ¬ Amts c) (w : World) (g o : Nat) (hg : ∀ k, k < 20 → w.cell? ⟨g, o + k, none⟩ = some (.float .f32 (c k))) :
    Calls Try.prog 128 #[.pointer (some ⟨g, o, none⟩)] w fun e w' => e = .returned (.bool false) ∧ Below w.heap.size w w' := by
  have H := hid h
  have HB := hid hb
  have HG := hid hg
  clear h hb hg
  go_enter Try.func128, Try.ntmps128
  go_wp2
  go_loop [3] (fun i => ∃ k : Nat, k ≤ 20 ∧ Hid (∀ i, i < k → amtB (c i) = true) ∧ i = .int .i64 k) (fun i => 20 - (intOf i).toNat)
  case atStart => exact ⟨0, by omega, hid (fun i hi => by omega), rfl⟩
  case round =>
    obtain ⟨k, hk, HK, rfl⟩ := hrel
    by_cases hlt : k < 20
    · have hcell := HG.out k hlt
      rcases hac : amtB (c k) with _ | _
      · have HA := hid hac
        clear hac
        go_wp2_with (go_at_call 130; refine (sAmount_f (c k) (HB.out k hlt) HA.out _).mono ?_; rintro e w' ⟨rfl, hb⟩)
        go_ret
        exact ⟨rfl, hb⟩
      · have HA := hid hac
        clear hac
        go_wp2_with (go_at_call 130; refine (sAmount_t (c k) HA.out _).mono ?_; rintro e w' ⟨rfl, rfl⟩)
        go_round
        case rel =>
          refine ⟨k + 1, by omega, hid (fun i hi => ?_), by go_num⟩
          by_cases e : i = k
          · subst e; exact HA.out
          · exact HK.out i (by omega)
        case measure => simp [intOf]; omega
    · have hk20 : k = 20 := by omega
      exact (H.out (fun i hi => HK.out i (by omega))).elim

set_option maxHeartbeats 1000000 in
set_option maxRecDepth 100000 in
theorem sColOk (c : Nat → Nat) (t : Int) (hb : ∀ i, i < 177 → c i < 4294967296) (q : Bool) (hq : q = true ↔ ColOk c t) (w : World) (g : Nat) (T : TypeId) (hg : vAt w g 178 (clw c t) T) :
    Calls Try.prog 82 #[.pointer (some ⟨g, 0, none⟩)] w fun e w' => e = .returned (.bool q) ∧ Below w.heap.size w w' := by
  have HB := hid hb
  have HQ := hid hq
  have HG := hid hg
  clear hb hq hg
  go_enter Try.func82, Try.ntmps82
  go_wp2_with fail
  go_loopw [3] (fun i wr => ∃ k : Nat, k ≤ 8 ∧ i = .int .i64 k ∧ Hid (UpOk c k) ∧ Hid (vAt wr g 178 (clw c t) T) ∧ Hid (Below w.heap.size w wr)) (fun i _ => 8 - (intOf i).toNat)
  case atStart => exact ⟨0, by omega, rfl, hid (.zero c), HG, hid (Below.refl _ _)⟩
  case round =>
    obtain ⟨k, hk, rfl, HK, h0, hb⟩ := hrel
    by_cases hlt : k < 8
    · have HL := hid hlt
      have hk3 : (k : Int) < 8 := by omega
      by_cases hv : Amts (rowK c k)
      · have HV := hid hv
        clear hv
        go_wp2_with fail
        refine (sOkAt_t (rowK c k) HV.out _ g (k * 20) (h0.out.cd HL.out)).mono ?_
        rintro e w1 ⟨rfl, rfl⟩
        rcases ha : airB (heC c k) (vaC c k) with _ | _
        · have hn := no_air hlt ha HQ.out
          subst hn
          have HA := hid ha
          clear ha
          go_wp2_with fail
          refine (sAirAt (heC c k) (vaC c k) (HB.out _ (by have := HL.out; omega)) false HA.out _ g (160 + k * 2) (h0.out.ch HL.out) (h0.out.cv HL.out)).mono ?_
          rintro e w1 ⟨rfl, hb1⟩
          go_wp2
          go_ret
          exact ⟨rfl, stp hb.out (Nat.le_refl _) hb1⟩
        · have HA := hid ha
          clear ha
          go_wp2_with fail
          refine (sAirAt_t (heC c k) (vaC c k) HA.out _ g (160 + k * 2) (h0.out.ch HL.out) (h0.out.cv HL.out)).mono ?_
          rintro e w1 ⟨rfl, rfl⟩
          go_wp2
          go_roundw
          case rel => exact ⟨k + 1, by omega, by go_num, hid (HK.out.step HV.out HA.out), h0, hb⟩
          case measure => simp [intOf]; omega
      · have hn := no_sz hlt hv HQ.out
        subst hn
        have HV := hid hv
        clear hv
        go_wp2_with fail
        refine (sOkAt_f (rowK c k) (fun i hi => HB.out _ (by have := HL.out; omega)) HV.out _ g (k * 20) (h0.out.cd HL.out)).mono ?_
        rintro e w1 ⟨rfl, hb1⟩
        go_wp2
        go_ret
        exact ⟨rfl, stp hb.out (Nat.le_refl _) hb1⟩
    · obtain rfl : k = 8 := by omega
      have q0 := h0.out.cf (i := 176) (by omega)
      have q1 := h0.out.ct
      rcases ha : amtB (c 176) with _ | _
      · have hn := no_gauge ha HQ.out
        subst hn
        have HA := hid ha
        clear ha
        go_wp2_with fail
        refine (sAmount_f (c 176) (HB.out _ (by omega)) HA.out _).mono ?_
        rintro e w1 ⟨rfl, hb1⟩
        go_wp2
        go_ret
        exact ⟨rfl, stp hb.out (Nat.le_refl _) hb1⟩
      · have hi := is_col HK.out ha HQ.out
        have HI := hid hi
        have HA := hid ha
        clear ha hi
        go_wp2_with fail
        refine (sAmount_t (c 176) HA.out _).mono ?_
        rintro e w1 ⟨rfl, rfl⟩
        go_wp2_with fail
        cases q
        · refine (l00In_f t 0 1000000000 (fun x => by cases HI.out.1 x) _).mono ?_
          rintro e w1 ⟨rfl, rfl⟩
          go_wp2
          go_ret
          exact ⟨rfl, hb.out⟩
        · refine (l00In_t t 0 1000000000 (HI.out.2 rfl).1 (HI.out.2 rfl).2 _).mono ?_
          rintro e w1 ⟨rfl, rfl⟩
          go_wp2
          go_ret
          exact ⟨rfl, hb.out⟩

theorem info_col : (Try.prog.info? 36).map (·.size) = some 178 := by kernel_rfl

set_option maxHeartbeats 1000000 in
set_option maxRecDepth 100000 in
theorem iValidColumn (c : Nat → Nat) (t : Int) (hb : ∀ i, i < 177 → c i < 4294967296) (q : Bool) (hq : q = true ↔ ColOk c t) (w : World) :
    Calls Try.prog 24 #[.agg (vls 178 (clw c t))] w fun e w' => e = .returned (.bool q) ∧ Below w.heap.size w w' := by
  have HB := hid hb
  have HQ := hid hq
  have A0 := hid (vAt.new w 178 (clw c t) 36)
  have b0 := boxed w (.cells (vls 178 (clw c t)) 36)
  clear hb hq
  go_enter Try.func24, Try.ntmps24
  go_wp2_with fail
  go_loopw [4] (fun i wr => ∃ k : Nat, k ≤ 8 ∧ i = .int .i64 k ∧ Hid (UpOk c k) ∧ Hid (vAt wr w.heap.size 178 (clw c t) 36) ∧ Hid (Below w.heap.size w wr)) (fun i _ => 8 - (intOf i).toNat)
  case atStart => exact ⟨0, by omega, rfl, hid (.zero c), A0, hid b0⟩
  case round =>
    clear A0 b0
    obtain ⟨k, hk, rfl, HK, h0, hb⟩ := hrel
    by_cases hlt : k < 8
    · have HL := hid hlt
      have hk3 : (k : Int) < 8 := by omega
      by_cases hv : Amts (rowK c k)
      · have HV := hid hv
        clear hv
        go_wp2_with (refine wpList_load_as (by rfl) 31 _ (by rfl) (w.heap.size) (k * 20) (by rfl) 178 (clw c t) 36 h0.out 20 (by omega) (fls (rowK c k)) (dr_is c t k HL.out) _ Try.underlying31 (by rfl) info_arr ?_)
        refine (validSizes_t (rowK c k) HV.out _).mono ?_
        rintro e w1 ⟨rfl, hb1⟩
        have h0 := hid (h0.out.stay hb1)
        have hb := hid (stp hb.out (Nat.le_refl _) hb1)
        rcases ha : airB (heC c k) (vaC c k) with _ | _
        · have hn := no_air hlt ha HQ.out
          subst hn
          have HA := hid ha
          clear ha
          go_wp2_with (refine wpList_load_as (by rfl) 33 _ (by rfl) (w.heap.size) (160 + k * 2) (by rfl) 178 (clw c t) 36 h0.out 2 (by omega) #[.float .f32 (heC c k), .float .f32 (vaC c k)] (part_air c t HL.out) _ Try.underlying33 (by rfl) info_air ?_)
          refine (iValidAir (heC c k) (vaC c k) (HB.out _ (by have := HL.out; omega)) false HA.out _).mono ?_
          rintro e w2 ⟨rfl, hb2⟩
          go_wp2
          go_ret
          exact ⟨rfl, stp hb.out (Nat.le_refl _) hb2⟩
        · have HA := hid ha
          clear ha
          go_wp2_with (refine wpList_load_as (by rfl) 33 _ (by rfl) (w.heap.size) (160 + k * 2) (by rfl) 178 (clw c t) 36 h0.out 2 (by omega) #[.float .f32 (heC c k), .float .f32 (vaC c k)] (part_air c t HL.out) _ Try.underlying33 (by rfl) info_air ?_)
          refine (iValidAir (heC c k) (vaC c k) (HB.out _ (by have := HL.out; omega)) true HA.out _).mono ?_
          rintro e w2 ⟨rfl, hb2⟩
          have h0 := hid (h0.out.stay hb2)
          have hb := hid (stp hb.out (Nat.le_refl _) hb2)
          go_wp2
          go_roundw
          case rel => exact ⟨k + 1, by omega, by go_num, hid (HK.out.step HV.out HA.out), h0, hb⟩
          case measure => simp [intOf]; omega
      · have hn := no_sz hlt hv HQ.out
        subst hn
        have HV := hid hv
        clear hv
        go_wp2_with (refine wpList_load_as (by rfl) 31 _ (by rfl) (w.heap.size) (k * 20) (by rfl) 178 (clw c t) 36 h0.out 20 (by omega) (fls (rowK c k)) (dr_is c t k HL.out) _ Try.underlying31 (by rfl) info_arr ?_)
        refine (validSizes_f (rowK c k) (fun i hi => HB.out _ (by have := HL.out; omega)) HV.out _).mono ?_
        rintro e w1 ⟨rfl, hb1⟩
        go_wp2
        go_ret
        exact ⟨rfl, stp hb.out (Nat.le_refl _) hb1⟩
    · obtain rfl : k = 8 := by omega
      have q0 := h0.out.cf (i := 176) (by omega)
      have q1 := h0.out.ct
      rcases ha : amtB (c 176) with _ | _
      · have hn := no_gauge ha HQ.out
        subst hn
        have HA := hid ha
        clear ha
        go_wp2_with fail
        refine (isAmount_f (c 176) (HB.out _ (by omega)) HA.out _).mono ?_
        rintro e w1 ⟨rfl, hb1⟩
        go_wp2
        go_ret
        exact ⟨rfl, stp hb.out (Nat.le_refl _) hb1⟩
      · have hi := is_col HK.out ha HQ.out
        have HI := hid hi
        have HA := hid ha
        clear ha hi
        go_wp2_with fail
        refine (isAmount_t (c 176) HA.out _).mono ?_
        rintro e w1 ⟨rfl, rfl⟩
        by_cases h1 : 0 ≤ t
        · by_cases h2 : t ≤ 1000000000
          · have hqt : q = true := HI.out.1 ⟨h1, h2⟩
            subst hqt
            go_wp2_with fail
            go_ret
            exact ⟨by simp, hb.out⟩
          · have hqt : q = false := by rw [← Bool.not_eq_true]; exact fun x => h2 (HI.out.2 x).2
            subst hqt
            go_wp2_with fail
            go_ret
            exact ⟨by simp [h2], hb.out⟩
        · have hqt : q = false := by rw [← Bool.not_eq_true]; exact fun x => h1 (HI.out.2 x).1
          subst hqt
          go_wp2_with fail
          go_ret
          exact ⟨by simp, hb.out⟩

theorem info_sz8 : (Try.prog.info? 32).map (·.size) = some 160 := by kernel_rfl

theorem info_air8 : (Try.prog.info? 34).map (·.size) = some 16 := by kernel_rfl

@[go_sem] theorem zero_sz8 : Try.zeroCells32 = vls 160 (flw fun _ => 0) := by kernel_rfl

@[go_sem] theorem zeros16 : (#[.float .f32 0, .float .f32 0, .float .f32 0, .float .f32 0, .float .f32 0, .float .f32 0, .float .f32 0, .float .f32 0, .float .f32 0, .float .f32 0, .float .f32 0, .float .f32 0, .float .f32 0, .float .f32 0, .float .f32 0, .float .f32 0] : Array Value) = vls 16 (flw fun _ => 0) := rfl

@[go_sem] theorem zero_col : Try.zeroCells36 = vls 178 (clw (fun _ => 0) 0) := by kernel_rfl

set_option maxRecDepth 100000 in
theorem eqSizesA8 (c : Nat → Nat) (hb : ∀ i, i < 160 → c i < 4294967296) (h : ∀ i, i < 160 → finB (c i) = true) (w : World) :
    Calls Try.prog 91 #[.agg (vls 160 (flw c)), .agg (vls 160 (flw c))] w fun e w' => e = .returned (.bool true) ∧ Below w.heap.size w w' := by
  have A0 := hid ((vAt.new w 160 (flw c) 32).alloc (.cells (vls 160 (flw c)) 32))
  have A1 := hid (vAt.new1 w (.cells (vls 160 (flw c)) 32) 160 (flw c) 32)
  have b0 := boxed2 w (.cells (vls 160 (flw c)) 32) (.cells (vls 160 (flw c)) 32)
  have H := hid h
  have HB := hid hb
  clear h hb
  go_enter Try.func91, Try.ntmps91
  go_wp2_with fail
  go_loopw [5] (fun i wr => ∃ k : Nat, k ≤ 8 ∧ i = .int .i64 k ∧ Hid (vAt wr w.heap.size 160 (flw c) 32) ∧ Hid (vAt wr (w.heap.size + 1) 160 (flw c) 32) ∧ Hid (Below w.heap.size w wr)) (fun i _ => 8 - (intOf i).toNat)
  case atStart => exact ⟨0, by omega, rfl, A0, A1, hid b0⟩
  case round =>
    obtain ⟨k, hk, rfl, h0, h1, hb⟩ := hrel
    by_cases hlt : k < 8
    · have hk3 : (k : Int) < 8 := by omega
      go_wp2_with fail
      have h0 := hid h0.out.drew
      have h1 := hid h1.out.drew
      have hb := hid hb.out.drew
      refine wp_region_still_tail 6 (by kernel_rfl) (by kernel_rfl) ?_
      change wpStill _ _ wr.drew (fun a' => wpList _ _ _ _ a' wr.drew) _ _
      simp only [List.take_succ_cons, List.take_zero, List.drop_succ_cons, List.drop_zero]
      generalize wr.drew = w2 at h0 h1 hb ⊢
      still_step
      still_step
      refine still_load rfl 31 _ rfl _ rfl _ (h0.out.partAt (k * 20) 20 (by omega) (fls (rowK c k)) (row_isN c k) Try.underlying31 (by rfl) info_arr) ?_
      simp only [Act.put, List.setIfInBounds_toArray, List.set_cons_zero, List.set_cons_succ]
      still_step
      still_step
      refine still_load rfl 31 _ rfl _ rfl _ (h1.out.partAt (k * 20) 20 (by omega) (fls (rowK c k)) (row_isN c k) Try.underlying31 (by rfl) info_arr) ?_
      refine wpStill_nil ?_
      go_wp2_with fail
      refine (eqSizes (rowK c k) (fun i hi => HB.out _ (by omega)) (fun i hi => H.out _ (by omega)) _).mono ?_
      rintro e w3 ⟨rfl, hb3⟩
      have h0 := hid (h0.out.stay hb3)
      have h1 := hid (h1.out.stay hb3)
      have hb := stp hb.out (Nat.le_refl _) hb3
      go_wp2
      go_roundw
      case rel => exact ⟨k + 1, by omega, by go_num, h0, h1, hid hb⟩
      case measure => simp [intOf]; omega
    · go_wp2
      go_ret
      exact ⟨rfl, hb.out⟩

set_option maxRecDepth 100000 in
theorem eqAirA8 (c : Nat → Nat) (hb : ∀ i, i < 16 → c i < 4294967296) (h : ∀ i, i < 16 → finB (c i) = true) (w : World) :
    Calls Try.prog 92 #[.agg (vls 16 (flw c)), .agg (vls 16 (flw c))] w fun e w' => e = .returned (.bool true) ∧ Below w.heap.size w w' := by
  have A0 := hid ((vAt.new w 16 (flw c) 34).alloc (.cells (vls 16 (flw c)) 34))
  have A1 := hid (vAt.new1 w (.cells (vls 16 (flw c)) 34) 16 (flw c) 34)
  have b0 := boxed2 w (.cells (vls 16 (flw c)) 34) (.cells (vls 16 (flw c)) 34)
  have H := hid h
  have HB := hid hb
  clear h hb
  go_enter Try.func92, Try.ntmps92
  go_wp2_with fail
  go_loopw [5] (fun i wr => ∃ k : Nat, k ≤ 8 ∧ i = .int .i64 k ∧ Hid (vAt wr w.heap.size 16 (flw c) 34) ∧ Hid (vAt wr (w.heap.size + 1) 16 (flw c) 34) ∧ Hid (Below w.heap.size w wr)) (fun i _ => 8 - (intOf i).toNat)
  case atStart => exact ⟨0, by omega, rfl, A0, A1, hid b0⟩
  case round =>
    obtain ⟨k, hk, rfl, h0, h1, hb⟩ := hrel
    by_cases hlt : k < 8
    · have hk3 : (k : Int) < 8 := by omega
      go_wp2_with fail
      have h0 := hid h0.out.drew
      have h1 := hid h1.out.drew
      have hb := hid hb.out.drew
      refine wp_region_still_tail 6 (by kernel_rfl) (by kernel_rfl) ?_
      change wpStill _ _ wr.drew (fun a' => wpList _ _ _ _ a' wr.drew) _ _
      simp only [List.take_succ_cons, List.take_zero, List.drop_succ_cons, List.drop_zero]
      generalize wr.drew = w2 at h0 h1 hb ⊢
      still_step
      still_step
      refine still_load rfl 33 _ rfl _ rfl _ (h0.out.partAt (k * 2) 2 (by omega) #[.float .f32 (c (k * 2)), .float .f32 (c (k * 2 + 1))] (two_is c k) Try.underlying33 (by rfl) info_air) ?_
      simp only [Act.put, List.setIfInBounds_toArray, List.set_cons_zero, List.set_cons_succ]
      still_step
      still_step
      refine still_load rfl 33 _ rfl _ rfl _ (h1.out.partAt (k * 2) 2 (by omega) #[.float .f32 (c (k * 2)), .float .f32 (c (k * 2 + 1))] (two_is c k) Try.underlying33 (by rfl) info_air) ?_
      refine wpStill_nil ?_
      go_wp2_with fail
      refine (eqAir (c (k * 2)) (c (k * 2 + 1)) (HB.out _ (by omega)) (HB.out _ (by omega)) (H.out _ (by omega)) (H.out _ (by omega)) _).mono ?_
      rintro e w3 ⟨rfl, hb3⟩
      have h0 := hid (h0.out.stay hb3)
      have h1 := hid (h1.out.stay hb3)
      have hb := stp hb.out (Nat.le_refl _) hb3
      go_wp2
      go_roundw
      case rel => exact ⟨k + 1, by omega, by go_num, h0, h1, hid hb⟩
      case measure => simp [intOf]; omega
    · go_wp2
      go_ret
      exact ⟨rfl, hb.out⟩

set_option maxHeartbeats 1000000 in
set_option maxRecDepth 100000 in
theorem eqColumn (c : Nat → Nat) (t : Int) (hb : ∀ i, i < 177 → c i < 4294967296) (h : ∀ i, i < 177 → finB (c i) = true) (w : World) :
    Calls Try.prog 29 #[.agg (vls 178 (clw c t)), .agg (vls 178 (clw c t))] w fun e w' => e = .returned (.bool true) ∧ Below w.heap.size w w' := by
  have k0 : Hid (Kept w [(w.heap.size + 1, vls 178 (clw c t), 36), (w.heap.size, vls 178 (clw c t), 36)] ((w.alloc (.cells (vls 178 (clw c t)) 36)).alloc (.cells (vls 178 (clw c t)) 36))) := hid ((((Kept.nil w).push _ _).push _ _).sub (by simp))
  have hc := fun w => run_conv_wid (P := Try.prog) w 22 53 (c 176) (hb 176 (by omega)) Try.underlying22 Try.underlying53 (finB_iff.1 (h 176 (by omega)))
  have H := hid h
  have HB := hid hb
  clear h hb
  go_enter Try.func29, Try.ntmps29
  go_wp2_with (first
    | (refine load_cut (by rfl) 32 _ (by rfl) (w.heap.size) 0 160 (by rfl) (k0.out.v in1) (by omega) (vls 160 (flw c)) (drops_is c t) _ Try.underlying32 (by rfl) info_sz8 ?_)
    | (refine load_cut (by rfl) 32 _ (by rfl) (w.heap.size + 1) 0 160 (by rfl) (k0.out.v in0) (by omega) (vls 160 (flw c)) (drops_is c t) _ Try.underlying32 (by rfl) info_sz8 ?_))
  refine (eqSizesA8 c (fun i hi => HB.out i (by omega)) (fun i hi => H.out i (by omega)) _).mono ?_
  rintro e w1 ⟨rfl, hb1⟩
  have k1 := hid (k0.out.stay hb1)
  clear k0 hb1
  go_wp2_with (first
    | (refine load_cut (by rfl) 34 _ (by rfl) (w.heap.size) 160 16 (by rfl) (k1.out.v in1) (by omega) (vls 16 (flw (airsC c))) (airs_is c t) _ Try.underlying34 (by rfl) info_air8 ?_)
    | (refine load_cut (by rfl) 34 _ (by rfl) (w.heap.size + 1) 160 16 (by rfl) (k1.out.v in0) (by omega) (vls 16 (flw (airsC c))) (airs_is c t) _ Try.underlying34 (by rfl) info_air8 ?_))
  refine (eqAirA8 (airsC c) (fun i hi => HB.out _ (by omega)) (fun i hi => H.out _ (by omega)) _).mono ?_
  rintro e w2 ⟨rfl, hb2⟩
  have k2 := hid (k1.out.stay hb2)
  clear k1 hb2
  go_wp2_with (first
    | (refine load_one (by rfl) 22 _ (by rfl) (w.heap.size) 176 (by rfl) (k2.out.v in1) (by omega) (.float .f32 (c 176)) (clw_f (by omega)) _ Try.underlying22 (by rfl) ?_)
    | (refine load_one (by rfl) 22 _ (by rfl) (w.heap.size + 1) 176 (by rfl) (k2.out.v in0) (by omega) (.float .f32 (c 176)) (clw_f (by omega)) _ Try.underlying22 (by rfl) ?_))
  refine (sameFloat (c 176) (HB.out _ (by omega)) (H.out _ (by omega)) _).mono ?_
  rintro e w3 ⟨rfl, rfl⟩
  go_wp2_with (first
    | (refine load_one (by rfl) 2 _ (by rfl) (w.heap.size) 177 (by rfl) (k2.out.v in1) (by omega) (.int .i64 t) clw_t _ Try.underlying2 (by rfl) ?_)
    | (refine load_one (by rfl) 2 _ (by rfl) (w.heap.size + 1) 177 (by rfl) (k2.out.v in0) (by omega) (.int .i64 t) clw_t _ Try.underlying2 (by rfl) ?_))
  go_ret
  exact ⟨rfl, k2.out.1⟩

theorem col_ok {c : Nat → Nat} {t : Int} (h : ColOk c t) : true = true ↔ ColOk c t := ⟨fun _ => h, fun _ => rfl⟩

theorem col_no {c : Nat → Nat} {t : Int} (h : ¬ ColOk c t) : false = true ↔ ColOk c t := ⟨fun x => (by cases x), fun x => absurd x h⟩

set_option maxRecDepth 100000 in
theorem iFitC_t (c : Nat → Nat) (t : Int) (hb : ∀ i, i < 177 → c i < 4294967296) (h : ColOk c t) (n : Int) (w : World) :
    Calls Try.prog 90 #[.agg (vls 178 (clw c t)), .int .i64 n] w fun e w' => e = .returned (.tuple #[.agg (vls 178 (clw c t)), .int .i64 0]) ∧ Below w.heap.size w w' := by
  have k0 : Hid (Kept w [(w.heap.size + 1, vls 178 (clw (fun _ => 0) 0), 36), (w.heap.size, vls 178 (clw c t), 36)] ((w.alloc (.cells (vls 178 (clw c t)) 36)).alloc (.cells (vls 178 (clw (fun _ => 0) 0)) 36))) := hid ((((Kept.nil w).push _ _).push _ _).sub (by simp))
  have HB := hid hb
  have HQ := hid h
  clear hb h
  have tok1 : True := trivial
  go_enter Try.func90, Try.ntmps90
  go_wp2_with (refine wpList_load_row rfl 36 _ rfl (w.heap.size) rfl 36 (vls 178 (clw c t)) (0, 0) _ (k0.out.v in1) Try.underlying36 rfl (by rw [vls_size]; exact info_col) ?_)
  refine (iValidColumn c t HB.out true (col_ok HQ.out) _).mono ?_
  rintro e w1 ⟨rfl, hb1⟩
  have k1 := hid (k0.out.stay hb1)
  clear k0 hb1
  go_wp2_with (first | (have _t := tok1; refine store_row (by rfl) 36 _ _ (by rfl) (w.heap.size + 1) (vls 178 (clw c t)) (vls 178 (clw (fun _ => 0) 0)) (by rfl) (by rfl) k1.out (by rw [vls_size]; exact info_col) (by simp) (vls_one (clw_one _ _)) (by omega) (neC (by omega) ne0) ?_; intro xk2 k2; replace k2 := hid k2; clear k1 tok1) | (refine wpList_load_row rfl 36 _ rfl (w.heap.size) rfl 36 (vls 178 (clw c t)) (0, 0) _ (k1.out.v in1) Try.underlying36 rfl (by rw [vls_size]; exact info_col) ?_))
  exact bodyPost_ret (results_row_tmp rfl _ _ (w.heap.size + 1) 36 (vls 178 (clw c t)) (0, 0) _ rfl (k2.out.at (x := (w.heap.size + 1, vls 178 (clw c t), 36)) in0) Try.underlying36 rfl (by rw [vls_size]; exact info_col)) rfl ⟨rfl, k2.out.1⟩

set_option maxRecDepth 100000 in
theorem iFitC_f (c : Nat → Nat) (t : Int) (hb : ∀ i, i < 177 → c i < 4294967296) (h : ¬ ColOk c t) (n : Int) (w : World) :
    Calls Try.prog 90 #[.agg (vls 178 (clw c t)), .int .i64 n] w fun e w' => e = .returned (.tuple #[.agg (vls 178 (clw (fun _ => 0) 0)), .int .i64 n]) ∧ Below w.heap.size w w' := by
  have k0 : Hid (Kept w [(w.heap.size + 1, vls 178 (clw (fun _ => 0) 0), 36), (w.heap.size, vls 178 (clw c t), 36)] ((w.alloc (.cells (vls 178 (clw c t)) 36)).alloc (.cells (vls 178 (clw (fun _ => 0) 0)) 36))) := hid ((((Kept.nil w).push _ _).push _ _).sub (by simp))
  have HB := hid hb
  have HQ := hid h
  clear hb h
  have tok1 : True := trivial
  go_enter Try.func90, Try.ntmps90
  go_wp2_with (refine wpList_load_row rfl 36 _ rfl (w.heap.size) rfl 36 (vls 178 (clw c t)) (0, 0) _ (k0.out.v in1) Try.underlying36 rfl (by rw [vls_size]; exact info_col) ?_)
  refine (iValidColumn c t HB.out false (col_no HQ.out) _).mono ?_
  rintro e w1 ⟨rfl, hb1⟩
  have k1 := hid (k0.out.stay hb1)
  clear k0 hb1
  go_wp2_with (have _t := tok1; refine store_row (by rfl) 36 _ _ (by rfl) (w.heap.size + 1) (vls 178 (clw (fun _ => 0) 0)) (vls 178 (clw (fun _ => 0) 0)) (by rfl) (by rfl) k1.out (by rw [vls_size]; exact info_col) (by simp) (vls_one (clw_one _ _)) (by omega) (neC (by omega) ne0) ?_; intro xk2 k2; replace k2 := hid k2; clear k1 tok1)
  exact bodyPost_ret (results_row_tmp rfl _ _ (w.heap.size + 1) 36 (vls 178 (clw (fun _ => 0) 0)) (0, 0) _ rfl (k2.out.at (x := (w.heap.size + 1, vls 178 (clw (fun _ => 0) 0), 36)) in0) Try.underlying36 rfl (by rw [vls_size]; exact info_col)) rfl ⟨rfl, k2.out.1⟩

/-- What a still column is: the words behind eight airs. -/
def StP (h v : Nat) (c : Nat → Nat) (n : Int) : Prop := (finB h = true ∧ ColOk (stW h v) 0 → c = stW h v ∧ n = 0) ∧ (¬ (finB h = true ∧ ColOk (stW h v) 0) → c = (fun _ => 0) ∧ n = 2)

theorem colok_ext {c d : Nat → Nat} {t : Int} (h : ∀ i, i < 177 → c i = d i) (k : ColOk c t) : ColOk d t := by
  refine ⟨fun i hi j hj => ?_, fun i hi => ?_, ?_, k.t0, k.t1⟩
  · have := k.sz i hi j hj
    unfold rowK at this ⊢
    rwa [h _ (by omega)] at this
  · have := k.air i hi
    unfold heC vaC at this ⊢
    rwa [h _ (by omega), h _ (by omega)] at this
  · rw [← h 176 (by omega)]; exact k.gauge

theorem clw_ext {c d : Nat → Nat} (h : ∀ i, i < 177 → c i = d i) (t : Int) : vls 178 (clw c t) = vls 178 (clw d t) := vls_ext fun i hi => by
  unfold clw
  by_cases e : i = 177
  · rw [if_pos e, if_pos e]
  · rw [if_neg e, if_neg e, h i (by omega)]

theorem colok_amt {c : Nat → Nat} {t : Int} (k : ColOk c t) (i : Nat) (hi : i < 160) : amtB (c i) = true := by
  have := k.sz (i / 20) (by omega) (i % 20) (by omega)
  unfold rowK at this
  rwa [show i / 20 * 20 + i % 20 = i by omega] at this

theorem colok_fin {c : Nat → Nat} {t : Int} (k : ColOk c t) (hl : ∀ i, i < 177 → c i < 4294967296) (i : Nat) (hi : i < 177) : finB (c i) = true := by
  by_cases h1 : i < 160
  · exact amt_fin (colok_amt k i h1)
  · by_cases h2 : i = 176
    · subst h2; exact amt_fin k.gauge
    · have hq := k.air ((i - 160) / 2) (by omega)
      obtain ⟨a, b, _⟩ := airB_iff.1 hq
      by_cases h3 : i % 2 = 0
      · have e : heC c ((i - 160) / 2) = c i := by unfold heC; rw [show 160 + (i - 160) / 2 * 2 = i by omega]
        rw [e] at a
        exact heat_fin (hl i hi) a
      · have e : vaC c ((i - 160) / 2) = c i := by unfold vaC; rw [show 160 + (i - 160) / 2 * 2 + 1 = i by omega]
        rw [e] at b
        exact amt_fin b

theorem stW_lt {h v : Nat} (h1 : finB h = true) (hh : h < 4294967296) (hv : v < 4294967296) (i : Nat) : stW h v i < 4294967296 := by
  unfold stW
  by_cases a : i < 160 ∨ 176 ≤ i
  · rw [if_pos a]; decide
  · rw [if_neg a]
    by_cases b : i % 2 = 0
    · rw [if_pos b]
      exact (sub_nw (fw_of hh h1) (fw_amt (amtB_iff.2 (tw_one (k := (i - 160) / 2) (by omega)).2.1))).2.1
    · rw [if_neg b]; exact hv

set_option maxHeartbeats 1000000 in
set_option maxRecDepth 100000 in
theorem iStill (h v : Nat) (h1 : h < 4294967296) (h2 : v < 4294967296) (c : Nat → Nat) (n : Int) (hp : StP h v c n) (w : World) :
    Calls Try.prog 28 #[.float .f32 h, .float .f32 v] w fun e w' => e = .returned (.tuple #[.agg (vls 178 (clw c 0)), .int .i64 n]) ∧ Below w.heap.size w w' := by
  have H1 := hid h1
  have H2 := hid h2
  have HP := hid hp
  have k0 : Hid (Kept w [(w.heap.size + 1, vls 178 (clw (fun _ => 0) 0), 36), (w.heap.size, vls 178 (clw (fun _ => 0) 0), 36)] ((w.alloc (.cells (vls 178 (clw (fun _ => 0) 0)) 36)).alloc (.cells (vls 178 (clw (fun _ => 0) 0)) 36))) := hid ((((Kept.nil w).push _ _).push _ _).sub (by simp))
  clear h1 h2 hp
  go_enter Try.func28, Try.ntmps28
  go_wp2_with fail
  go_loopw [8] (fun i wr => ∃ (k : Nat) (x : Nat → Nat), k ≤ 8 ∧ i = .int .i64 k ∧ Hid (StJ h v k x) ∧ Hid (Kept w [(w.heap.size + 1, vls 178 (clw x 0), 36), (w.heap.size, vls 178 (clw (fun _ => 0) 0), 36)] wr)) (fun i _ => 8 - (intOf i).toNat)
  case atStart => exact ⟨0, fun _ => 0, by omega, rfl, hid (.zero h v), k0⟩
  case round =>
    obtain ⟨k, x, hk, rfl, J, h0⟩ := hrel
    clear k0
    by_cases hlt : k < 8
    · have HL := hid hlt
      have hk3 : (k : Int) < 8 := by omega
      obtain ⟨z, u, e1, l1, d1, hfin, hbad⟩ := st_step (P := Try.prog) (t := 22) hlt H1.out wr
      have r1 := fun w => run_float_arith (P := Try.prog) w .mul 22 .f32 _ _ _ (tw_one hlt).1
      have cv1 : ∀ w, (convert 3 22 (.int .i64 (k : Int))).run Try.prog w = .ok (.float .f32 (fiW (k : Int))) w := fun w => rfl
      have J1 := hid (J.out.step hlt H2.out l1 hfin hbad)
      have K1 := hid (kept_wf h0.out d1)
      have tok1 : True := trivial
      clear hfin hbad l1 h0 J
      go_wp2_with (have _t := tok1; refine store_cut (by rfl) 33 _ _ (by rfl) (w.heap.size + 1) (160 + k * 2) 2 (twoF z v) #[.float .f32 z, .float .f32 v] (by rfl) (by rfl) (two_vls z v) info_air (two_cell z v) K1.out (by omega) (by omega) (neC (by omega) ne0) ?_; intro w2 K2; replace K2 := hid (K2.ext (putA_is x 0 z v HL.out)); clear K1 tok1)
      go_roundw
      case rel => exact ⟨k + 1, _, by omega, by go_num, J1, K2⟩
      case measure => simp [intOf]; omega
    · obtain rfl : k = 8 := by omega
      have tok1 : True := trivial
      have hx := hid (fun i (_ : i < 177) => J.out.lt i)
      go_wp2_with (refine wpList_load_row rfl 36 _ rfl (w.heap.size + 1) rfl 36 (vls 178 (clw x 0)) (0, 0) _ (h0.out.at (x := (w.heap.size + 1, vls 178 (clw x 0), 36)) in0) Try.underlying36 rfl (by rw [vls_size]; exact info_col) ?_)
      rcases Classical.em (ColOk x 0) with hok | hok
      · have hf : finB h = true := by
          rcases hf : finB h with _ | _
          · exact absurd hok (J.out.no hf)
          · rfl
        obtain ⟨rfl, rfl⟩ := HP.out.1 ⟨hf, colok_ext (J.out.done hf) hok⟩
        have he := clw_ext (J.out.done hf) 0
        refine (iFitC_t x 0 hx.out hok 2 _).mono ?_
        rintro e w1 ⟨rfl, hb1⟩
        have k1 := hid (Kept.swap (h0.out.stay hb1))
        rw [he]
        clear h0 hb1 hok HP J
        go_wp2_with (have _t := tok1; refine store_row (by rfl) 36 _ _ (by rfl) (w.heap.size) (vls 178 (clw (stW h v) 0)) (vls 178 (clw (fun _ => 0) 0)) (by rfl) (by rfl) k1.out (by rw [vls_size]; exact info_col) (by simp) (vls_one (clw_one _ _)) (by omega) (neC (by omega) ne0) ?_; intro xk2 k2; replace k2 := hid k2; clear k1 tok1)
        exact bodyPost_ret (results_row_tmp rfl _ _ (w.heap.size) 36 (vls 178 (clw (stW h v) 0)) (0, 0) _ rfl (k2.out.at (x := (w.heap.size, vls 178 (clw (stW h v) 0), 36)) in0) Try.underlying36 rfl (by rw [vls_size]; exact info_col)) rfl ⟨rfl, k2.out.1⟩
      · have hq : ¬ (finB h = true ∧ ColOk (stW h v) 0) := fun y => hok (colok_ext (fun i hi => (J.out.done y.1 i hi).symm) y.2)
        obtain ⟨rfl, rfl⟩ := HP.out.2 hq
        refine (iFitC_f x 0 hx.out hok 2 _).mono ?_
        rintro e w1 ⟨rfl, hb1⟩
        have k1 := hid (Kept.swap (h0.out.stay hb1))
        clear h0 hb1 hok HP J hq
        go_wp2_with (have _t := tok1; refine store_row (by rfl) 36 _ _ (by rfl) (w.heap.size) (vls 178 (clw (fun _ => 0) 0)) (vls 178 (clw (fun _ => 0) 0)) (by rfl) (by rfl) k1.out (by rw [vls_size]; exact info_col) (by simp) (vls_one (clw_one _ _)) (by omega) (neC (by omega) ne0) ?_; intro xk2 k2; replace k2 := hid k2; clear k1 tok1)
        exact bodyPost_ret (results_row_tmp rfl _ _ (w.heap.size) 36 (vls 178 (clw (fun _ => 0) 0)) (0, 0) _ rfl (k2.out.at (x := (w.heap.size, vls 178 (clw (fun _ => 0) 0), 36)) in0) Try.underlying36 rfl (by rw [vls_size]; exact info_col)) rfl ⟨rfl, k2.out.1⟩

set_option maxHeartbeats 1000000 in
set_option maxRecDepth 100000 in
theorem sStill (h v : Nat) (h1 : h < 4294967296) (h2 : v < 4294967296) (c : Nat → Nat) (n : Int) (hp : StP h v c n) (w : World) :
    Calls Try.prog 27 #[.float .f32 h, .float .f32 v] w fun e w' => e = .returned (.tuple #[.agg (vls 178 (clw c 0)), .int .i64 n]) ∧ Below w.heap.size w w' := by
  have H1 := hid h1
  have H2 := hid h2
  have HP := hid hp
  have k9 : Hid (Kept w [(w.heap.size + 1, vls 178 (clw (fun _ => 0) 0), 36), (w.heap.size, vls 178 (clw (fun _ => 0) 0), 36)] ((w.alloc (.cells (vls 178 (clw (fun _ => 0) 0)) 36)).alloc (.cells (vls 178 (clw (fun _ => 0) 0)) 36))) := hid ((((Kept.nil w).push _ _).push _ _).sub (by simp))
  have tok1 : True := trivial
  clear h1 h2 hp
  go_enter Try.func27, Try.ntmps27
  go_wp2_with (have _t := tok1; refine store_row (by rfl) 36 _ _ (by rfl) (w.heap.size + 1) (vls 178 (clw (fun _ => 0) 0)) (vls 178 (clw (fun _ => 0) 0)) (by rfl) (by rfl) k9.out (by rw [vls_size]; exact info_col) (by simp) (vls_one (clw_one _ _)) (by omega) (neC (by omega) ne0) ?_; intro xk0 k0; replace k0 := hid k0; clear k9 tok1)
  go_loopw [7] (fun i wr => ∃ (k : Nat) (x : Nat → Nat), k ≤ 8 ∧ i = .int .i64 k ∧ Hid (StJ h v k x) ∧ Hid (Kept w [(w.heap.size + 1, vls 178 (clw x 0), 36), (w.heap.size, vls 178 (clw (fun _ => 0) 0), 36)] wr)) (fun i _ => 8 - (intOf i).toNat)
  case atStart => exact ⟨0, fun _ => 0, by omega, rfl, hid (.zero h v), k0⟩
  case round =>
    obtain ⟨k, x, hk, rfl, J, h0⟩ := hrel
    clear k0
    by_cases hlt : k < 8
    · have HL := hid hlt
      have hk3 : (k : Int) < 8 := by omega
      obtain ⟨z, u, e1, l1, d1, hfin, hbad⟩ := st_step (P := Try.prog) (t := 22) hlt H1.out wr
      have r1 := fun w => run_float_arith (P := Try.prog) w .mul 22 .f32 _ _ _ (tw_one hlt).1
      have cv1 : ∀ w, (convert 3 22 (.int .i64 (k : Int))).run Try.prog w = .ok (.float .f32 (fiW (k : Int))) w := fun w => rfl
      have J1 := hid (J.out.step hlt H2.out l1 hfin hbad)
      have K1 := hid (kept_wf h0.out d1)
      have tok1 : True := trivial
      clear hfin hbad l1 h0 J
      go_wp2_with (have _t := tok1; refine store_cut (by rfl) 33 _ _ (by rfl) (w.heap.size + 1) (160 + k * 2) 2 (twoF z v) #[.float .f32 z, .float .f32 v] (by rfl) (by rfl) (two_vls z v) info_air (two_cell z v) K1.out (by omega) (by omega) (neC (by omega) ne0) ?_; intro w2 K2; replace K2 := hid (K2.ext (putA_is x 0 z v HL.out)); clear K1 tok1)
      go_roundw
      case rel => exact ⟨k + 1, _, by omega, by go_num, J1, K2⟩
      case measure => simp [intOf]; omega
    · obtain rfl : k = 8 := by omega
      have tok1 : True := trivial
      have hx := hid (fun i (_ : i < 177) => J.out.lt i)
      go_wp2_with fail
      rcases Classical.em (ColOk x 0) with hok | hok
      · have hf : finB h = true := by
          rcases hf : finB h with _ | _
          · exact absurd hok (J.out.no hf)
          · rfl
        obtain ⟨rfl, rfl⟩ := HP.out.1 ⟨hf, colok_ext (J.out.done hf) hok⟩
        have he := clw_ext (J.out.done hf) 0
        refine (sColOk x 0 hx.out true (col_ok hok) _ (w.heap.size + 1) 36 (h0.out.v in0)).mono ?_
        rintro e w1 ⟨rfl, hb1⟩
        have h9 := h0.out.stay hb1
        rw [he] at h9
        have k1 := hid (Kept.swap h9)
        clear h0 hb1 hok HP J h9
        go_wp2_with (first | (have _t := tok1; refine wpList_load_row rfl 36 _ rfl (w.heap.size + 1) rfl 36 (vls 178 (clw (stW h v) 0)) (0, 0) _ (k1.out.at (x := (w.heap.size + 1, vls 178 (clw (stW h v) 0), 36)) in1) Try.underlying36 rfl (by rw [vls_size]; exact info_col) ?_) | (have _t := tok1; refine store_row (by rfl) 36 _ _ (by rfl) (w.heap.size) (vls 178 (clw (stW h v) 0)) (vls 178 (clw (fun _ => 0) 0)) (by rfl) (by rfl) k1.out (by rw [vls_size]; exact info_col) (by simp) (vls_one (clw_one _ _)) (by omega) (neC (by omega) ne0) ?_; intro xk2 k2; replace k2 := hid k2; clear k1 tok1))
        exact bodyPost_ret (results_row_tmp rfl _ _ (w.heap.size) 36 (vls 178 (clw (stW h v) 0)) (0, 0) _ rfl (k2.out.at (x := (w.heap.size, vls 178 (clw (stW h v) 0), 36)) in0) Try.underlying36 rfl (by rw [vls_size]; exact info_col)) rfl ⟨rfl, k2.out.1⟩
      · have hq : ¬ (finB h = true ∧ ColOk (stW h v) 0) := fun y => hok (colok_ext (fun i hi => (J.out.done y.1 i hi).symm) y.2)
        obtain ⟨rfl, rfl⟩ := HP.out.2 hq
        refine (sColOk x 0 hx.out false (col_no hok) _ (w.heap.size + 1) 36 (h0.out.v in0)).mono ?_
        rintro e w1 ⟨rfl, hb1⟩
        have k1 := hid (Kept.swap (h0.out.stay hb1))
        clear h0 hb1 hok HP J hq
        go_wp2_with (have _t := tok1; refine store_row (by rfl) 36 _ _ (by rfl) (w.heap.size) (vls 178 (clw (fun _ => 0) 0)) (vls 178 (clw (fun _ => 0) 0)) (by rfl) (by rfl) k1.out (by rw [vls_size]; exact info_col) (by simp) (vls_one (clw_one _ _)) (by omega) (neC (by omega) ne0) ?_; intro xk2 k2; replace k2 := hid k2; clear k1 tok1)
        exact bodyPost_ret (results_row_tmp rfl _ _ (w.heap.size) 36 (vls 178 (clw (fun _ => 0) 0)) (0, 0) _ rfl (k2.out.at (x := (w.heap.size, vls 178 (clw (fun _ => 0) 0), 36)) in0) Try.underlying36 rfl (by rw [vls_size]; exact info_col)) rfl ⟨rfl, k2.out.1⟩

set_option maxHeartbeats 1000000 in
set_option maxRecDepth 100000 in
theorem coreStillColumn (x0 : Nat) (x1 : Nat) (r0 : Nat → Nat) (s0 : Int) (hl0 : ∀ i, i < 177 → r0 i < 4294967296) (hf0 : ∀ i, i < 177 → finB (r0 i) = true) (r1 : Int)
    (hS : ∀ w, Calls Try.prog 27 #[.float .f32 x0, .float .f32 x1] w fun e w' => e = .returned (.tuple #[.agg (vls 178 (clw r0 s0)), .int .i64 r1]) ∧ Below w.heap.size w w')
    (hI : ∀ w, Calls Try.prog 28 #[.float .f32 x0, .float .f32 x1] w fun e w' => e = .returned (.tuple #[.agg (vls 178 (clw r0 s0)), .int .i64 r1]) ∧ Below w.heap.size w w') (w : World) :
    Calls Try.prog 5 #[.float .f32 x0, .float .f32 x1] w fun e w' => e = .returned (.bool true) ∧ Below w.heap.size w w' := by
  have k0 : Hid (Kept w [] w) := hid ((Kept.nil w).sub (by simp))
  have HS := hid hS
  have HI := hid hI
  clear hS hI
  have Hl0 := hid hl0
  have Hf0 := hid hf0
  clear hl0 hf0
  go_enter Try.func5, Try.ntmps5
  go_wp2_with fail
  refine (HS.out _).mono ?_
  rintro e v0 ⟨rfl, hv0⟩
  have k1 := hid (k0.out.stay hv0)
  clear k0 hv0
  have bs0 : w.heap.size ≤ v0.heap.size := k1.out.size
  have fr0 := k1.out.fresh
  have k2 := hid (k1.out.push (vls 178 (clw (fun _ => 0) 0)) 36)
  clear k1
  have tok0 : True := trivial
  go_wp2_with (first | (have _t := tok0; refine store_row (by rfl) 36 _ _ (by rfl) (v0.heap.size) (vls 178 (clw r0 s0)) (vls 178 (clw (fun _ => 0) 0)) (by rfl) (by rfl) k2.out (by rw [vls_size]; exact info_col) (by simp) (vls_one (clw_one r0 s0)) (by omega) fr0 ?_; intro w0 k3; replace k3 := hid k3; clear k2 tok0))
  refine (HI.out _).mono ?_
  rintro e v1 ⟨rfl, hv1⟩
  have k4 := hid (k3.out.stay hv1)
  clear k3 hv1
  have bs1 : w.heap.size ≤ v1.heap.size := k4.out.size
  have fr1 := k4.out.fresh
  have k5 := hid (k4.out.push (vls 178 (clw (fun _ => 0) 0)) 36)
  clear k4
  have tok1 : True := trivial
  go_wp2_with (first | (have _t := tok1; refine store_row (by rfl) 36 _ _ (by rfl) (v1.heap.size) (vls 178 (clw r0 s0)) (vls 178 (clw (fun _ => 0) 0)) (by rfl) (by rfl) k5.out (by rw [vls_size]; exact info_col) (by simp) (vls_one (clw_one r0 s0)) (by omega) fr1 ?_; intro w1 k6; replace k6 := hid k6; clear k5 tok1) | (refine wpList_load_row rfl 36 _ rfl (v1.heap.size) rfl 36 (vls 178 (clw r0 s0)) (0, 0) _ (k6.out.at (x := (v1.heap.size, vls 178 (clw r0 s0), 36)) in0) Try.underlying36 rfl (by rw [vls_size]; exact info_col) ?_) | (refine wpList_load_row rfl 36 _ rfl (v0.heap.size) rfl 36 (vls 178 (clw r0 s0)) (0, 0) _ (k6.out.at (x := (v0.heap.size, vls 178 (clw r0 s0), 36)) in1) Try.underlying36 rfl (by rw [vls_size]; exact info_col) ?_))
  refine (eqColumn r0 s0 Hl0.out Hf0.out _).mono ?_
  rintro e z ⟨rfl, hz⟩
  have k7 := hid (k6.out.stay hz)
  clear k6 hz
  go_wp2
  go_ret
  exact ⟨rfl, k7.out.1⟩

theorem lawStillColumn (h : Nat) (h1 : h < 4294967296) (v : Nat) (h2 : v < 4294967296) (w : World) :
    Calls Try.prog 5 #[.float .f32 h, .float .f32 v] w fun e w' => e = .returned (.bool true) ∧ Below w.heap.size w w' := by
  rcases Classical.em (finB h = true ∧ ColOk (stW h v) 0) with q | q
  · have hp : StP h v (stW h v) 0 := ⟨fun _ => ⟨rfl, rfl⟩, fun x => absurd q x⟩
    exact coreStillColumn h v (stW h v) 0 (fun i _ => stW_lt q.1 h1 h2 i) (fun i hi => colok_fin q.2 (fun i _ => stW_lt q.1 h1 h2 i) i hi) 0 (sStill h v h1 h2 _ _ hp) (iStill h v h1 h2 _ _ hp) w
  · have hp : StP h v (fun _ => 0) 2 := ⟨fun x => absurd x q, fun _ => ⟨rfl, rfl⟩⟩
    exact coreStillColumn h v (fun _ => 0) 0 (fun i hi => by decide) (fun i hi => by decide) 2 (sStill h v h1 h2 _ _ hp) (iStill h v h1 h2 _ _ hp) w

theorem words_cons : ∀ (v : List Char) (r : List Char), (∀ c ∈ v, c ≠ Char.ofNat 32) → wordsSigns (v ++ Char.ofNat 32 :: r) = v :: wordsSigns r
  | [], r, _ => rfl
  | c :: v, r, h => by
    have ih := words_cons v r (fun x hx => h x (by simp [hx]))
    have hc : c ≠ Char.ofNat 32 := h c (by simp)
    show wordsSigns (c :: (v ++ Char.ofNat 32 :: r)) = _
    rw [wordsSigns.eq_3 _ _ (fun e => hc e), ih]

def w0 : List Nat := [104, 97, 114, 110, 101, 115, 115]

def w1 : List Nat := [53, 97, 52, 54, 101, 53, 53, 98, 52, 48, 102, 99, 98, 48, 100, 53, 101, 48, 49, 101, 56, 48, 53, 99, 49, 55, 97, 101, 51, 99, 102, 101, 51, 57, 102, 97, 57, 48, 50, 97, 52, 102, 51, 54, 53, 53, 99, 101, 97, 98, 98, 53, 98, 48, 101, 56, 48, 101, 102, 55, 55, 99, 53, 48]

def w2 : List Nat := [99, 117, 116]

def w3 : List Nat := [97, 116, 32, 108, 111, 111, 112, 46, 101, 120, 97, 109, 112, 108, 101, 47, 103, 48, 49, 50, 50, 52, 47, 108, 97, 119, 115, 46, 70, 110, 69, 120, 97, 99, 116, 86, 97, 108, 105, 100, 67, 111, 108, 117, 109, 110, 32, 108, 111, 111, 112, 46, 101, 120, 97, 109, 112, 108, 101, 47, 103, 48, 49, 50, 50, 52, 47, 108, 97, 119, 115, 46, 70, 110, 69, 120, 97, 99, 116, 83, 97, 109, 101, 67, 111, 108, 117, 109, 110, 32, 108, 111, 111, 112, 46, 101, 120, 97, 109, 112, 108, 101, 47, 103, 48, 49, 50, 50, 52, 47, 108, 97, 119, 115, 46, 70, 110, 69, 120, 97, 99, 116, 83, 116, 105, 108, 108, 67, 111, 108, 117, 109, 110, 32, 108, 111, 111, 112, 46, 101, 120, 97, 109, 112, 108, 101, 47, 103, 48, 49, 50, 50, 52, 47, 108, 97, 119, 115, 46, 70, 110, 69, 120, 97, 99, 116, 70, 97, 108, 108, 83, 104, 97, 114, 101, 115, 32, 108, 111, 111, 112, 46, 101, 120, 97, 109, 112, 108, 101, 47, 103, 48, 49, 50, 50, 52, 47, 108, 97, 119, 115, 46, 70, 110, 69, 120, 97, 99, 116, 83, 101, 116, 116, 108, 101, 79, 110, 99, 101, 32, 108, 111, 111, 112, 46, 101, 120, 97, 109, 112, 108, 101, 47, 103, 48, 49, 50, 50, 52, 47, 108, 97, 119, 115, 46, 70, 110, 69, 120, 97, 99, 116, 71, 114, 111, 119, 67, 111, 108, 117, 109, 110, 32, 108, 111, 111, 112, 46, 101, 120, 97, 109, 112, 108, 101, 47, 103, 48, 49, 50, 50, 52, 47, 108, 97, 119, 115, 46, 70, 110, 69, 120, 97, 99, 116, 83, 116, 105, 114, 67, 111, 108, 117, 109, 110, 32, 108, 111, 111, 112, 46, 101, 120, 97, 109, 112, 108, 101, 47, 103, 48, 49, 50, 50, 52, 47, 108, 97, 119, 115, 46, 70, 110, 69, 120, 97, 99, 116, 87, 97, 116, 101, 114, 79, 102, 67, 111, 108, 117, 109, 110, 32, 108, 111, 111, 112, 46, 101, 120, 97, 109, 112, 108, 101, 47, 103, 48, 49, 50, 50, 52, 47, 108, 97, 119, 115, 46, 70, 110, 69, 120, 97, 99, 116, 82, 97, 105, 110, 79, 102, 32, 108, 111, 111, 112, 46, 101, 120, 97, 109, 112, 108, 101, 47, 103, 48, 49, 50, 50, 52, 47, 108, 97, 119, 115, 46, 70, 110, 69, 120, 97, 99, 116, 67, 108, 111, 117, 100, 66, 97, 115, 101, 32, 108, 111, 111, 112, 46, 101, 120, 97, 109, 112, 108, 101, 47, 103, 48, 49, 50, 50, 52, 47, 108, 97, 119, 115, 46, 70, 110, 69, 120, 97, 99, 116, 86, 97, 108, 105, 100, 65, 99, 116, 32, 108, 111, 111, 112, 46, 101, 120, 97, 109, 112, 108, 101, 47, 103, 48, 49, 50, 50, 52, 47, 108, 97, 119, 115, 46, 70, 110, 69, 120, 97, 99, 116, 85, 110, 105, 116, 65, 116, 32, 108, 111, 111, 112, 46, 101, 120, 97, 109, 112, 108, 101, 47, 103, 48, 49, 50, 50, 52, 47, 108, 97, 119, 115, 46, 70, 110, 69, 120, 97, 99, 116, 67, 111, 108, 108, 105, 100, 101, 80, 97, 105, 114, 115, 32, 108, 111, 111, 112, 46, 101, 120, 97, 109, 112, 108, 101, 47, 103, 48, 49, 50, 50, 52, 47, 108, 97, 119, 115, 46, 70, 110, 69, 120, 97, 99, 116, 71, 114, 111, 119, 79, 110, 99, 101, 32, 108, 111, 111, 112, 46, 101, 120, 97, 109, 112, 108, 101, 47, 103, 48, 49, 50, 50, 52, 47, 108, 97, 119, 115, 46, 70, 110, 69, 120, 97, 99, 116, 71, 114, 111, 119, 83, 116, 101, 112, 115, 32, 108, 111, 111, 112, 46, 101, 120, 97, 109, 112, 108, 101, 47, 103, 48, 49, 50, 50, 52, 47, 108, 97, 119, 115, 46, 70, 110, 69, 120, 97, 99, 116, 83, 116, 101, 112, 115, 84, 111, 68, 114, 121, 32, 108, 111, 111, 112, 46, 101, 120, 97, 109, 112, 108, 101, 47, 103, 48, 49, 50, 50, 52, 47, 108, 97, 119, 115, 46, 70, 110, 69, 120, 97, 99, 116, 83, 116, 101, 97, 100, 121, 83, 111, 117, 110, 100, 105, 110, 103, 32, 108, 111, 111, 112, 46, 101, 120, 97, 109, 112, 108, 101, 47, 103, 48, 49, 50, 50, 52, 47, 108, 97, 119, 115, 46, 70, 110, 69, 120, 97, 99, 116, 82, 105, 115, 101, 73, 110, 32, 108, 111, 111, 112, 46, 101, 120, 97, 109, 112, 108, 101, 47, 103, 48, 49, 50, 50, 52, 47, 108, 97, 119, 115, 46, 70, 110, 69, 120, 97, 99, 116, 84, 104, 105, 114, 100, 82, 111, 111, 116]

def letters (l : List Nat) : List Char := l.map Char.ofNat

theorem head_reads : Try.prog.initOrder = String.ofList (letters w0 ++ Char.ofNat 32 :: (letters w1 ++ Char.ofNat 32 :: (letters w2 ++ Char.ofNat 32 :: letters w3))) := by kernel_rfl

theorem no_blank {l : List Nat} (h : l.all (fun n => Char.ofNat n != Char.ofNat 32) = true) : ∀ c ∈ letters l, c ≠ Char.ofNat 32 := by
  intro c hc
  obtain ⟨n, hn, rfl⟩ := List.mem_map.1 hc
  have := List.all_eq_true.1 h n hn
  simpa using this

theorem h0 : letters w0 = "harness".toList := by kernel_rfl

theorem h2 : letters w2 = "cut".toList := by kernel_rfl

theorem sums : isSumSigns (letters w1) = true := by kernel_rfl

theorem words : wordsSigns Try.prog.initOrder.toList = "harness".toList :: letters w1 :: "cut".toList :: wordsSigns (letters w3) := by
  rw [head_reads, String.toList_ofList, words_cons _ _ (no_blank (by decide +kernel)), words_cons _ _ (no_blank (by decide +kernel)), words_cons _ _ (no_blank (by decide +kernel)), h0, h2]

theorem behind : ∃ r, behindMainWord (wordsSigns Try.prog.initOrder.toList) = "cut".toList :: r := by
  refine ⟨wordsSigns (letters w3), ?_⟩
  rw [words]
  generalize wordsSigns (letters w3) = r
  have hs := sums
  generalize letters w1 = v at hs
  unfold behindMainWord
  simp [hs]

theorem not_later : Try.prog.laysLater = false := by kernel_rfl

theorem no_reflect : Try.prog.bearsReflect = false := by kernel_rfl

theorem no_doors : Try.prog.doorFits [] = true := by kernel_rfl

theorem strips (r : List (List Char)) : stripLifts liftWords ("cut".toList :: r) = ([], "cut".toList :: r) := by kernel_rfl

theorem may_enter_of (P : Program) (r : List (List Char)) (h : behindMainWord (wordsSigns P.initOrder.toList) = "cut".toList :: r) (h1 : P.laysLater = false) (h2 : P.bearsReflect = false) (h3 : P.doorFits [] = true) : P.mayEnter = true := by
  unfold Program.mayEnter
  rw [h]
  dsimp only
  rw [strips, h1, h2, h3]
  kernel_rfl

theorem lifts_final_of (P : Program) (r : List (List Char)) (h : behindMainWord (wordsSigns P.initOrder.toList) = "cut".toList :: r) : P.liftsFinal = false := by
  unfold Program.liftsFinal Program.headLifts
  rw [h]
  dsimp only
  rw [strips]
  kernel_rfl

theorem made_of (P : Program) (r : List (List Char)) (h : behindMainWord (wordsSigns P.initOrder.toList) = "cut".toList :: r) : P.make = some .cut := by
  unfold Program.make
  rw [h]
  kernel_rfl

theorem may_enter : Try.prog.mayEnter = true := let ⟨r, h⟩ := behind; may_enter_of _ r h not_later no_reflect no_doors

theorem lifts_final : Try.prog.liftsFinal = false := let ⟨r, h⟩ := behind; lifts_final_of _ r h

theorem made : Try.prog.make = some .cut := let ⟨r, h⟩ := behind; made_of _ r h

theorem laid : laidOutB Try.prog = true := by kernel_rfl

theorem rowed : mapsRowed Try.prog = true := by kernel_rfl

theorem no_stops : Try.prog.stops = [] := by kernel_rfl

theorem no_knobs : Try.prog.stopKnobs = [] := by kernel_rfl

theorem plain_keys : Try.prog.plainKeys = false := by kernel_rfl

theorem stops_heard : Try.prog.stopsHeard = true := by kernel_rfl

theorem arr2 {α : Type} {cs : Array α} (h : cs.size = 2) : ∃ c0 c1, cs = #[c0, c1] := by
  obtain ⟨l⟩ := cs
  match l, h with
  | [a, b], _ => exact ⟨a, b, rfl⟩

theorem own : ownKnob Try.prog.godebug = none := by kernel_rfl

theorem rdf : Try.prog.readableRec 22 = true ∧ 22 < Try.prog.types.size := ⟨by kernel_rfl, of_decide_eq_true (by kernel_rfl)⟩
end Go.Proofs.Ytllkjockdogagaa

namespace Go.Proofs.Ytllkjockdogagaa.fnExactStillColumn
open Go.RowKit Go.Fl Go.ChangeShapes Go.WideShapes Go.ChangeAt

set_option maxHeartbeats 2000000 in
theorem closed : joinedFacts Try.prog 5 Try.f5 Rows.fnExactStillColumnSpec Rows.fnExactStillColumnRow = true := by
  unfold joinedFacts
  simp only [Bool.and_eq_true]
  exact ⟨⟨⟨⟨⟨⟨⟨⟨⟨⟨⟨⟨⟨⟨⟨⟨⟨⟨⟨⟨⟨⟨⟨⟨⟨⟨⟨⟨⟨⟨⟨(by as_aux_lemma => kernel_rfl),
    laid⟩,
    rowed⟩,
    (by as_aux_lemma => kernel_rfl)⟩,
    (by as_aux_lemma => kernel_rfl)⟩,
    (by as_aux_lemma => kernel_rfl)⟩,
    (by rw [no_stops]; rfl)⟩,
    (by as_aux_lemma => kernel_rfl)⟩,
    (by rw [no_knobs]; rfl)⟩,
    (by as_aux_lemma => kernel_rfl)⟩,
    (by as_aux_lemma => kernel_rfl)⟩,
    (by as_aux_lemma => kernel_rfl)⟩,
    (by as_aux_lemma => kernel_rfl)⟩,
    (by as_aux_lemma => kernel_rfl)⟩,
    (by as_aux_lemma => kernel_rfl)⟩,
    (by as_aux_lemma => kernel_rfl)⟩,
    (by as_aux_lemma => kernel_rfl)⟩,
    (by as_aux_lemma => kernel_rfl)⟩,
    (by as_aux_lemma => kernel_rfl)⟩,
    (by as_aux_lemma => kernel_rfl)⟩,
    (by as_aux_lemma => kernel_rfl)⟩,
    (by as_aux_lemma => kernel_rfl)⟩,
    (show (Rows.fnExactStillColumnRow.plainKeys == Try.prog.plainKeys) = true by rw [plain_keys]; rfl)⟩,
    (by as_aux_lemma => kernel_rfl)⟩,
    stops_heard⟩,
    may_enter⟩,
    (show (Rows.fnExactStillColumnRow.lifted == Try.prog.liftsFinal) = true by rw [lifts_final]; rfl)⟩,
    (show (Try.prog.make == some Rows.fnExactStillColumnRow.make) = true by rw [made]; rfl)⟩,
    (by as_aux_lemma => kernel_rfl)⟩,
    (by as_aux_lemma => kernel_rfl)⟩,
    (by as_aux_lemma => kernel_rfl)⟩,
    (by as_aux_lemma => kernel_rfl)⟩

set_option maxRecDepth 100000 in
theorem lifted (os : Os) (started : os.Started) (H : Type) (enc : TypeId × Value → H) :
    ReturnsInHanded {} Try.checked os 5 .any (Rows.fnExactStillColumnSpec.pre6 enc Try.prog Try.f5 Rows.fnExactStillColumnRow.domain false) (Rows.fnExactStillColumnSpec.post enc Try.prog Try.f5 false true false false) := by
  refine LawFrame.lifted (C := Try.checked) (fn := Try.f5) (n := 2) (tb := 4) started own (by kernel_rfl) Try.func5 laid ?_ rfl rfl ?_ rfl Try.underlying4
    (ChangeSpec.witness6 (enc := enc) (C := Try.checked) false ⟨#[], #[.float .f32 0, .float .f32 0], []⟩ 8 (by kernel_rfl) (by kernel_rfl) (by kernel_rfl) (by kernel_rfl)) ?_
  · intro t ht
    simp only [Try.params5, List.mem_cons, List.not_mem_nil, or_false] at ht
    rcases ht with rfl | rfl <;> first | exact rdf
  · intro ds hd
    match ds, hd with
    | [_, _], _ => rfl
  · intro W base args ds ps hval hn _
    obtain ⟨v0, v1, rfl⟩ : ∃ v0 v1, args = #[v0, v1] := arr2 hn
    obtain ⟨c0, rfl, hb0⟩ := open_f32 Try.underlying22 (hval 0 22 v0 rfl rfl)
    obtain ⟨c1, rfl, hb1⟩ := open_f32 Try.underlying22 (hval 1 22 v1 rfl rfl)
    exact lawStillColumn c0 hb0 c1 hb1 W

theorem over : Rows.fnExactStillColumnRow.holds Try.pinned (OpenSpec.ofChange Rows.fnExactStillColumnSpec) :=
  OpenClaim.holds_of_wide 5 Try.f5 rfl rfl rfl rfl rfl rfl rfl ⟨rfl, rfl, rfl, rfl, rfl⟩ rfl rfl rfl rfl rfl (by kernel_rfl) Try.func5 closed
    (of_decide_eq_true (by kernel_rfl)) (by unfold Func.isWrapper; rw [if_neg (by decide +kernel)]; exact ⟨rfl, rfl⟩)
    (fun os started H enc _ => lifted os started H enc)

theorem proved : Rows.FnExactStillColumnSaid := over
#print axioms proved
end Go.Proofs.Ytllkjockdogagaa.fnExactStillColumn
