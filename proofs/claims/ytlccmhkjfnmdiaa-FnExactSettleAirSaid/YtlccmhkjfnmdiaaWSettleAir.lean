import Derived.Test.YtlccmhkjfnmdiaaBSettleAir
import Derived.Test.YtlccmhkjfnmdiaaChecked
import Derived.Test.YtlccmhkjfnmdiaaRows
import Derived.Laws.FloatArith
import Derived.ProofKit
import Derived.WalkKit
import Derived.WalkLawsBesides
import Derived.WalkSpells
import Derived.Deep.QuietTactic
import Derived.BigQuiet
import Derived.Deep.RegionHeld3
import Derived.ChangeKeysEq
import Derived.Laws.BitsAllLaws
import Derived.Deep.MidRow
import Derived.Deep.WholeRow
import Derived.StillTailTactics
import Derived.OpenShut
import Derived.Deep.Slices
import Derived.ChangeSame
/- The law FnExactSettleAir of chapter 1: at every argument the call returns true, and what was there before it is as it was. -/
namespace Go.Proofs.Ytlccmhkjfnmdiaa
open Go.RowKit Go.Fl

@[go_sem] theorem ext_f64bits (y : Nat) (w : World) : (callFunc 260 #[.float .f64 y]).run Try.prog w = .ok (.value (.int .u64 y)) w := by
  rw [run_callFunc_extern Try.func260 (by kernel_rfl) (by kernel_rfl) (by kernel_rfl) (e := Extern.MathFloatBits.float64bits) (by kernel_rfl)]
  rfl

@[go_sem] theorem ext_f64from (n : Int) (w : World) : (callFunc 273 #[.int .u64 n]).run Try.prog w = .ok (.value (.float .f64 n.toNat)) w := by
  rw [run_callFunc_extern Try.func273 (by kernel_rfl) (by kernel_rfl) (by kernel_rfl) (e := Extern.MathFloatBits.float64frombits) (by kernel_rfl)]
  rfl

theorem hid {p : Prop} (h : p) : Hid p := h

theorem clear_sign (y : Nat) (h : y < 18446744073709551616) : (bits BinOp.andNot IntKind.u64 (y : Int) 9223372036854775808).toNat = y % 9223372036854775808 := by
  rw [u64_andNot _ _ (by omega) (by omega) (by omega) (by omega)]
  rw [Int.toNat_natCast, Int.toNat_natCast]
  exact Nat.and_two_pow_sub_one_eq_mod y 63

theorem abs_f64 (y : Nat) (h : y < 18446744073709551616) (w : World) :
    Calls Try.prog 262 #[.float .f64 y] w fun e w' => e = .returned (.float .f64 (y % 9223372036854775808)) ∧ w = w' := by
  have hc := hid (clear_sign y h)
  clear h
  go_enter Try.func262, Try.ntmps262
  go_wp2
  go_ret
  exact ⟨by simp [hc.out], rfl⟩

theorem isNaN_f64 (y : Nat) (w : World) :
    Calls Try.prog 216 #[.float .f64 y] w fun e w' => e = .returned (.bool (FloatKind.f64.format.order y y != some .eq)) ∧ w = w' := by
  go_enter Try.func216, Try.ntmps216
  go_wp2
  go_ret
  exact ⟨rfl, rfl⟩

theorem isInf_f64 (y : Nat) (h : y < 18446744073709551616) (w : World) :
    Calls Try.prog 217 #[.float .f64 y, .int .i64 0] w fun e w' => e = .returned (.bool (FloatKind.f64.format.order (y % 9223372036854775808) 9218868437227405311 == some .gt)) ∧ w = w' := by
  have hc := hid h
  clear h
  go_enter Try.func217, Try.ntmps217
  go_wp2_with (go_at_call 262; refine (abs_f64 y hc.out _).mono ?_; rintro e w' ⟨rfl, rfl⟩)
  go_ret
  exact ⟨rfl, rfl⟩

theorem isFinite_t (x : Nat) (hx : x < 4294967296) (h : finB x = true) (w : World) :
    Calls Try.prog 123 #[.float .f32 x] w fun e w' => e = .returned (.bool true) ∧ w = w' := by
  rw [finB_iff] at h
  have hc := fun w => run_conv_wid (P := Try.prog) w 22 26 x hx Try.underlying22 Try.underlying26 h
  obtain ⟨a, b, m, e, hr⟩ := read_wid_fin hx h
  have hn : (FloatKind.f64.format.order (wid x) (wid x) != some .eq) = false := by
    show (D.order (wid x) (wid x) != some .eq) = false
    rw [order_self hr]; rfl
  have hi : (FloatKind.f64.format.order (wid x % 9223372036854775808) 9218868437227405311 == some .gt) = false := by
    show (D.order (wid x % 9223372036854775808) 9218868437227405311 == some .gt) = false
    rw [b, order_ltD a (by decide)]
    rw [DINF_val] at a
    have hle : wid (mg x) ≤ 9218868437227405311 := by omega
    rcases Nat.lt_or_eq_of_le hle with h' | h'
    · rw [Nat.compare_eq_lt.2 h']; rfl
    · rw [Nat.compare_eq_eq.2 h']; rfl
  have hw : wid x < 18446744073709551616 := D.write_lt _
  have Hn := hid hn
  have Hi := hid hi
  have Hw := hid hw
  clear hn hi hw hr a b h hx
  go_enter Try.func123, Try.ntmps123
  go_wp2_with (first | (go_at_call 216; refine (isNaN_f64 (wid x) _).mono ?_; rintro e w' ⟨rfl, rfl⟩; rw [Hn.out]) | (go_at_call 217; refine (isInf_f64 (wid x) Hw.out _).mono ?_; rintro e w' ⟨rfl, rfl⟩; rw [Hi.out]))
  go_ret
  exact ⟨rfl, rfl⟩

theorem isFinite_f (x : Nat) (hx : x < 4294967296) (h : finB x = false) (w : World) :
    Calls Try.prog 123 #[.float .f32 x] w fun e w' => e = .returned (.bool false) ∧ Below w.heap.size w w' := by
  rw [finB_iff'] at h
  rcases Nat.lt_or_eq_of_le h with h | h
  · obtain ⟨z, hc, h1, _⟩ := run_conv_nan (P := Try.prog) w 22 26 x Try.underlying22 Try.underlying26 h
    obtain ⟨s, t, hr⟩ := read_nanD h1
    have Hn := hid (show (FloatKind.f64.format.order z z != some .eq) = true by
      show (D.order z z != some .eq) = true
      rw [order_nan hr]; rfl)
    clear h h1 hr hx
    go_enter Try.func123, Try.ntmps123
    go_wp2_with (go_at_call 216; refine (isNaN_f64 z _).mono ?_; rintro e w' ⟨rfl, rfl⟩; rw [Hn.out])
    go_ret
    exact ⟨rfl, (Below.refl _ _).drew⟩
  · obtain ⟨z, hc, h1, h2⟩ := run_conv_inf (P := Try.prog) w 22 26 x hx Try.underlying22 Try.underlying26 h.symm
    have hr : D.read z = .infinity (decide (9223372036854775808 ≤ z)) := by rw [read_signD h2, h1, read_DINF]
    have Hn := hid (show (FloatKind.f64.format.order z z != some .eq) = false by
      show (D.order z z != some .eq) = false
      rw [order_inf hr]; rfl)
    have Hi := hid (show (FloatKind.f64.format.order (z % 9223372036854775808) 9218868437227405311 == some .gt) = true by
      rw [h1]; decide)
    have H2 := hid h2
    clear h h1 hr hx h2
    go_enter Try.func123, Try.ntmps123
    go_wp2_with (first | (go_at_call 216; refine (isNaN_f64 z _).mono ?_; rintro e w' ⟨rfl, rfl⟩; rw [Hn.out]) | (go_at_call 217; refine (isInf_f64 z H2.out _).mono ?_; rintro e w' ⟨rfl, rfl⟩; rw [Hi.out]))
    go_ret
    exact ⟨rfl, Below.refl _ _⟩

theorem signbit_f64 (y : Nat) (w : World) :
    Calls Try.prog 211 #[.float .f64 y] w fun e w' => e = .returned (.bool (decide (wrap64 (y : Int) < 0))) ∧ w = w' := by
  go_enter Try.func211, Try.ntmps211
  go_wp2
  go_ret
  exact ⟨rfl, rfl⟩

theorem and_sign (y : Nat) (h : y < 18446744073709551616) : (decide (wrap64 (y : Int) < 0)) = decide (9223372036854775808 ≤ y) := by
  unfold wrap64
  by_cases h' : 9223372036854775808 ≤ y
  · rw [decide_eq_true h']; simp; omega
  · rw [decide_eq_false h']; simp; omega

theorem isAmount_t (x : Nat) (h : amtB x = true) (w : World) :
    Calls Try.prog 117 #[.float .f32 x] w fun e w' => e = .returned (.bool true) ∧ w = w' := by
  have hf := amt_fin h
  rw [amtB_iff, INF_val] at h
  have hx : x < 4294967296 := by omega
  have hc := fun w => run_conv_wid (P := Try.prog) w 22 26 x hx Try.underlying22 Try.underlying26 (finB_iff.1 hf)
  have hw : wid x < 18446744073709551616 := D.write_lt _
  have Hs := hid (show (decide (wrap64 (wid x : Int) < 0)) = false by
    rw [and_sign _ hw]
    have := (wid_val (x := x) (by rw [INF_val]; omega)).1
    rw [DINF_val] at this
    simp; omega)
  have Hx := hid hx
  have Hf := hid hf
  clear h hf hx hw
  go_enter Try.func117, Try.ntmps117
  go_wp2_with (first | (go_at_call 123; refine (isFinite_t x Hx.out Hf.out _).mono ?_; rintro e w' ⟨rfl, rfl⟩) | (go_at_call 211; refine (signbit_f64 (wid x) _).mono ?_; rintro e w' ⟨rfl, rfl⟩; rw [Hs.out]))
  go_ret
  exact ⟨rfl, rfl⟩

theorem isAmount_f (x : Nat) (hx : x < 4294967296) (h : amtB x = false) (w : World) :
    Calls Try.prog 117 #[.float .f32 x] w fun e w' => e = .returned (.bool false) ∧ Below w.heap.size w w' := by
  rcases hf : finB x with _ | _
  · have Hx := hid hx
    have Hf := hid hf
    clear h hf hx
    go_enter Try.func117, Try.ntmps117
    go_wp2_with (go_at_call 123; refine (isFinite_f x Hx.out Hf.out _).mono ?_; rintro e w' ⟨rfl, hb⟩)
    go_ret
    exact ⟨rfl, hb⟩
  · have hc := fun w => run_conv_wid (P := Try.prog) w 22 26 x hx Try.underlying22 Try.underlying26 (finB_iff.1 hf)
    have hw : wid x < 18446744073709551616 := D.write_lt _
    have Hs := hid (show (decide (wrap64 (wid x : Int) < 0)) = true by
      rw [and_sign _ hw, wid_fin hx (finB_iff.1 hf)]
      rw [amtB_iff', INF_val] at h
      rw [finB_iff, INF_val] at hf
      unfold mg at hf ⊢
      rw [if_pos (by omega)]
      simp)
    have Hx := hid hx
    have Hf := hid hf
    clear h hf hx hw
    go_enter Try.func117, Try.ntmps117
    go_wp2_with (first | (go_at_call 123; refine (isFinite_t x Hx.out Hf.out _).mono ?_; rintro e w' ⟨rfl, rfl⟩) | (go_at_call 211; refine (signbit_f64 (wid x) _).mono ?_; rintro e w' ⟨rfl, rfl⟩; rw [Hs.out]))
    go_ret
    exact ⟨rfl, Below.refl _ _⟩

@[go_sem] theorem ext_f32bits (y : Nat) (w : World) : (callFunc 210 #[.float .f32 y]).run Try.prog w = .ok (.value (.int .u32 y)) w := by
  rw [run_callFunc_extern Try.func210 (by kernel_rfl) (by kernel_rfl) (by kernel_rfl) (e := Extern.MathFloatBits.float32bits) (by kernel_rfl)]
  rfl

theorem sFinite_t (x : Nat) (hx : x < 4294967296) (h : finB x = true) (w : World) :
    Calls Try.prog 120 #[.float .f32 x] w fun e w' => e = .returned (.bool true) ∧ w = w' := by
  have hr := fun w => run_float_arith (P := Try.prog) w .sub 22 .f32 x x 0 (sub_self_fin hx h)
  clear h hx
  go_enter Try.func120, Try.ntmps120
  go_wp2
  go_ret
  exact ⟨rfl, rfl⟩

theorem sFinite_f (x : Nat) (hx : x < 4294967296) (h : finB x = false) (w : World) :
    Calls Try.prog 120 #[.float .f32 x] w fun e w' => e = .returned (.bool false) ∧ Below w.heap.size w w' := by
  obtain ⟨z, hr, h1, _⟩ := run_arith_nan (P := Try.prog) w .sub (by simp) 22 x x (sub_self_none hx h)
  have Hn := hid (show (FloatKind.f32.format.order z 0 == some .eq) = false by
    show (S.order z 0 == some .eq) = false
    rw [order_nan32 h1]; rfl)
  clear h hx h1
  go_enter Try.func120, Try.ntmps120
  go_wp2
  go_ret
  exact ⟨by simp [Hn.out], (Below.refl _ _).drew⟩

theorem sAmount_t (x : Nat) (h : amtB x = true) (w : World) :
    Calls Try.prog 115 #[.float .f32 x] w fun e w' => e = .returned (.bool true) ∧ w = w' := by
  have hf := amt_fin h
  have h' := amtB_iff.1 h
  have hx : x < 4294967296 := by rw [INF_val] at h'; omega
  have Hx := hid hx
  have Hf := hid hf
  by_cases h0 : x = 0
  · subst h0
    clear h hf h' hx
    go_enter Try.func115, Try.ntmps115
    go_wp2_with (go_at_call 120; refine (sFinite_t 0 Hx.out Hf.out _).mono ?_; rintro e w' ⟨rfl, rfl⟩)
    go_ret
    exact ⟨rfl, rfl⟩
  · have hg : (FloatKind.f32.format.order x 0 == some .gt) = true := by
      show (S.order x 0 == some .gt) = true
      rw [order_zero_pos h', Nat.compare_eq_gt.2 (by omega)]; rfl
    clear h hf h' hx h0
    go_enter Try.func115, Try.ntmps115
    go_wp2_with (go_at_call 120; refine (sFinite_t x Hx.out Hf.out _).mono ?_; rintro e w' ⟨rfl, rfl⟩)
    go_ret
    exact ⟨rfl, rfl⟩

theorem sAmount_f (x : Nat) (hx : x < 4294967296) (h : amtB x = false) (w : World) :
    Calls Try.prog 115 #[.float .f32 x] w fun e w' => e = .returned (.bool false) ∧ Below w.heap.size w w' := by
  rcases hf : finB x with _ | _
  · have Hx := hid hx
    have Hf := hid hf
    clear h hf hx
    go_enter Try.func115, Try.ntmps115
    go_wp2_with (go_at_call 120; refine (sFinite_f x Hx.out Hf.out _).mono ?_; rintro e w' ⟨rfl, hb⟩)
    go_ret
    exact ⟨rfl, hb⟩
  · have hs : 2147483648 ≤ x := by
      rw [amtB_iff', INF_val] at h
      have := finB_iff.1 hf
      rw [INF_val] at this
      unfold mg at this
      omega
    have hg : (FloatKind.f32.format.order x 0 == some .gt) = false := order_neg_zero hx hf hs
    have hb : ((x : Int) == 0) = false := by simp; omega
    have Hx := hid hx
    have Hf := hid hf
    clear h hf hx hs
    go_enter Try.func115, Try.ntmps115
    go_wp2_with (go_at_call 120; refine (sFinite_t x Hx.out Hf.out _).mono ?_; rintro e w' ⟨rfl, rfl⟩)
    go_ret
    exact ⟨rfl, Below.refl _ _⟩

theorem div_one_some {y m : Nat} {s : Bool} {e : Int} (h : D.read y = .number s m e) : ∃ q, floatBits .quo .f64 4607182418800017408 y = some q := by
  have h1 : D.read 4607182418800017408 = .number false 4503599627370496 (-52) := by decide
  show ∃ q, D.div 4607182418800017408 y = some q
  unfold Ieee.Format.div
  rw [h, h1]
  simp only [Ieee.Datum.quotient]
  by_cases hm : m = 0
  · rw [if_pos hm]; exact ⟨_, rfl⟩
  · rw [if_neg hm]; exact ⟨_, rfl⟩

set_option maxRecDepth 100000 in
theorem sameFloat (x : Nat) (hx : x < 4294967296) (h : finB x = true) (w : World) :
    Calls Try.prog 35 #[.float .f64 (wid x), .float .f64 (wid x)] w fun e w' => e = .returned (.bool true) ∧ w = w' := by
  obtain ⟨a, b, m, e, hr⟩ := read_wid_fin hx (finB_iff.1 h)
  have hn : (FloatKind.f64.format.order (wid x) (wid x) != some .eq) = false := by
    show (D.order (wid x) (wid x) != some .eq) = false
    rw [order_self hr]; rfl
  have hq : (FloatKind.f64.format.order (wid x) (wid x) == some .eq) = true := by
    show (D.order (wid x) (wid x) == some .eq) = true
    rw [order_self hr]; rfl
  obtain ⟨q, hd⟩ := div_one_some hr
  have hdiv := fun w => run_float_arith (P := Try.prog) w .quo 26 .f64 4607182418800017408 (wid x) q hd
  clear hd hr a b h hx
  rcases hz : (FloatKind.f64.format.order (wid x) 0 == some .eq) with _ | _
  · go_enter Try.func35, Try.ntmps35
    go_wp2
    go_ret
    exact ⟨by simp, rfl⟩
  · go_enter Try.func35, Try.ntmps35
    go_wp2
    go_ret
    exact ⟨by simp, rfl⟩

theorem back {P : Program} {f : FuncId} {args : Array Value} {w : World} {v : Value} (h : Calls P f args w fun e w' => e = .returned v ∧ w = w') : Calls P f args w fun e w' => e = .returned v ∧ w' = w :=
  h.mono fun _ _ ⟨a, b⟩ => ⟨a, b.symm⟩

theorem loose {P : Program} {f : FuncId} {args : Array Value} {w : World} {v : Value} (h : Calls P f args w fun e w' => e = .returned v ∧ w = w') : Calls P f args w fun e w' => e = .returned v ∧ Below w.heap.size w w' :=
  h.mono fun _ _ ⟨a, b⟩ => ⟨a, b ▸ Below.refl _ _⟩

theorem info_air : (Try.prog.info? 38).map (·.size) = some 2 := by kernel_rfl

theorem info_lair : (Try.prog.info? 37).map (·.size) = some 2 := by kernel_rfl

def fltOf : Value → Nat
  | .float _ b => b
  | _ => 0

set_option maxRecDepth 100000 in
theorem toAir (h v : Nat) (w : World) :
    Calls Try.prog 42 #[.agg #[.float .f32 h, .float .f32 v]] w fun e w' => e = .returned (.agg #[.float .f32 h, .float .f32 v]) ∧ Below w.heap.size w w' := by
  have k0 : Hid (Kept w [(w.heap.size + 1, #[.float .f32 h, .float .f32 v], 38)] (((w.alloc (.cells #[.float .f32 h, .float .f32 v] 37)).alloc (.cells #[.float .f32 h, .float .f32 v] 38)).alloc (.cells #[.float .f32 h, .float .f32 v] 38))) := hid (((((Kept.nil w).push _ _).push _ _).push _ _).sub (by simp))
  go_enter Try.func42, Try.ntmps42
  go_wp2
  exact bodyPost_ret (results_cell_row rfl _ _ (w.heap.size + 1) 38 #[.float .f32 h, .float .f32 v] (0, 0) _ rfl (k0.out.at (x := (w.heap.size + 1, #[.float .f32 h, .float .f32 v], 38)) (by simp)) Try.underlying38 rfl info_air) rfl ⟨rfl, k0.out.1⟩

set_option maxRecDepth 100000 in
theorem eqAir (h v : Nat) (hh : h < 4294967296) (hv : v < 4294967296) (fh : finB h = true) (fv : finB v = true) (w : World) :
    Calls Try.prog 44 #[.agg #[.float .f32 h, .float .f32 v], .agg #[.float .f32 h, .float .f32 v]] w fun e w' => e = .returned (.bool true) ∧ Below w.heap.size w w' := by
  have hc0 := fun w => run_conv_wid (P := Try.prog) w 22 26 h hh Try.underlying22 Try.underlying26 (finB_iff.1 fh)
  have hc1 := fun w => run_conv_wid (P := Try.prog) w 22 26 v hv Try.underlying22 Try.underlying26 (finB_iff.1 fv)
  have Hh := hid hh
  have Hv := hid hv
  have Fh := hid fh
  have Fv := hid fv
  have b0 := boxed2 w (.cells #[.float .f32 h, .float .f32 v] 38) (.cells #[.float .f32 h, .float .f32 v] 38)
  clear hh hv fh fv
  go_enter Try.func44, Try.ntmps44
  go_wp2_with fail
  refine (sameFloat h Hh.out Fh.out _).mono ?_
  rintro e w1 ⟨rfl, rfl⟩
  go_wp2_with fail
  refine (sameFloat v Hv.out Fv.out _).mono ?_
  rintro e w1 ⟨rfl, rfl⟩
  go_wp2
  go_ret
  exact ⟨rfl, b0⟩

theorem iHeat (x : Nat) (q : Bool) (hq : heatB x = q) (w : World) :
    Calls Try.prog 241 #[.float .f32 x] w fun e w' => e = .returned (.bool q) ∧ w = w' := by
  have h1 : heatB x = ((FloatKind.f32.format.order x 3262119936 == some .gt || FloatKind.f32.format.order x 3262119936 == some .eq) && (FloatKind.f32.format.order x 1114636288 == some .lt || FloatKind.f32.format.order x 1114636288 == some .eq)) := rfl
  rw [h1] at hq
  clear h1
  rcases a : (FloatKind.f32.format.order x 3262119936 == some .gt || FloatKind.f32.format.order x 3262119936 == some .eq) with _ | _
  · rw [a] at hq
    simp only [Bool.false_and] at hq
    subst hq
    go_enter Try.func241, Try.ntmps241
    go_wp2
    go_ret
    exact ⟨rfl, rfl⟩
  · rw [a] at hq
    simp only [Bool.true_and] at hq
    cases q
    all_goals
      go_enter Try.func241, Try.ntmps241
      go_wp2
      go_ret
      exact ⟨rfl, rfl⟩

theorem sHeat (x : Nat) (q : Bool) (hq : heatB x = q) (w : World) :
    Calls Try.prog 221 #[.float .f32 x] w fun e w' => e = .returned (.bool q) ∧ w = w' := by
  have h1 : heatB x = ((FloatKind.f32.format.order x 3262119936 == some .gt || FloatKind.f32.format.order x 3262119936 == some .eq) && (FloatKind.f32.format.order x 1114636288 == some .lt || FloatKind.f32.format.order x 1114636288 == some .eq)) := rfl
  rw [h1] at hq
  clear h1
  rcases a : (FloatKind.f32.format.order x 3262119936 == some .gt || FloatKind.f32.format.order x 3262119936 == some .eq) with _ | _
  · rw [a] at hq
    simp only [Bool.false_and] at hq
    subst hq
    go_enter Try.func221, Try.ntmps221
    go_wp2
    go_ret
    exact ⟨rfl, rfl⟩
  · rw [a] at hq
    simp only [Bool.true_and] at hq
    cases q
    all_goals
      go_enter Try.func221, Try.ntmps221
      go_wp2
      go_ret
      exact ⟨rfl, rfl⟩

set_option maxRecDepth 100000 in
theorem iValidAir (h v : Nat) (hv : v < 4294967296) (q : Bool) (hq : airB h v = q) (w : World) :
    Calls Try.prog 170 #[.agg #[.float .f32 h, .float .f32 v]] w fun e w' => e = .returned (.bool q) ∧ Below w.heap.size w w' := by
  have b0 := boxed w (.cells #[.float .f32 h, .float .f32 v] 38)
  have Hv := hid hv
  have e1 : airB h v = (heatB h && amtB v && vapB v) := rfl
  rw [e1] at hq
  clear hv e1
  rcases a : heatB h with _ | _
  · have Ha := hid a
    rw [a] at hq
    simp only [Bool.false_and] at hq
    subst hq
    clear a
    go_enter Try.func170, Try.ntmps170
    go_wp2_with fail
    refine (iHeat h false Ha.out _).mono ?_
    rintro e w1 ⟨rfl, rfl⟩
    go_wp2
    go_ret
    exact ⟨rfl, b0⟩
  · have Ha := hid a
    rw [a] at hq
    clear a
    rcases b : amtB v with _ | _
    · have Hb := hid b
      rw [b] at hq
      simp only [Bool.and_false, Bool.false_and] at hq
      subst hq
      clear b
      go_enter Try.func170, Try.ntmps170
      go_wp2_with fail
      refine (iHeat h true Ha.out _).mono ?_
      rintro e w1 ⟨rfl, rfl⟩
      go_wp2_with fail
      refine (isAmount_f v Hv.out Hb.out _).mono ?_
      rintro e w1 ⟨rfl, hb1⟩
      go_wp2
      go_ret
      exact ⟨rfl, stp b0 (Nat.le_refl _) hb1⟩
    · have Hb := hid b
      rw [b] at hq
      simp only [Bool.true_and] at hq
      have hc : (FloatKind.f32.format.order v 1148846080 == some .lt || FloatKind.f32.format.order v 1148846080 == some .eq) = q := hq
      clear b hq
      cases q
      all_goals
        go_enter Try.func170, Try.ntmps170
        go_wp2_with fail
        refine (iHeat h true Ha.out _).mono ?_
        rintro e w1 ⟨rfl, rfl⟩
        go_wp2_with fail
        refine (isAmount_t v Hb.out _).mono ?_
        rintro e w1 ⟨rfl, rfl⟩
        go_wp2
        go_ret
        exact ⟨rfl, b0⟩

set_option maxRecDepth 100000 in
theorem sAirOk_f (h v : Nat) (hv : v < 4294967296) (hq : airB h v = false) (w : World) (g : Nat) (T : TypeId) (hg : airAt w g h v T) :
    Calls Try.prog 126 #[.pointer (some ⟨g, 0, none⟩)] w fun e w' => e = .returned (.bool false) ∧ Below w.heap.size w w' := by
  have c0 := hg.c0
  have c1 := hg.c1
  have Hv := hid hv
  have e1 : airB h v = (heatB h && amtB v && vapB v) := rfl
  rw [e1] at hq
  clear hv e1 hg
  rcases a : heatB h with _ | _
  · have Ha := hid a
    clear a hq
    go_enter Try.func126, Try.ntmps126
    go_wp2_with fail
    refine (sHeat h false Ha.out _).mono ?_
    rintro e w1 ⟨rfl, rfl⟩
    go_wp2
    go_ret
    exact ⟨rfl, Below.refl _ _⟩
  · have Ha := hid a
    rw [a] at hq
    clear a
    rcases b : amtB v with _ | _
    · have Hb := hid b
      clear b hq
      go_enter Try.func126, Try.ntmps126
      go_wp2_with fail
      refine (sHeat h true Ha.out _).mono ?_
      rintro e w1 ⟨rfl, rfl⟩
      go_wp2_with fail
      refine (sAmount_f v Hv.out Hb.out _).mono ?_
      rintro e w1 ⟨rfl, hb1⟩
      go_wp2
      go_ret
      exact ⟨rfl, hb1⟩
    · have Hb := hid b
      rw [b] at hq
      simp only [Bool.true_and] at hq
      have hc : (FloatKind.f32.format.order v 1148846080 == some .lt || FloatKind.f32.format.order v 1148846080 == some .eq) = false := hq
      clear b hq
      go_enter Try.func126, Try.ntmps126
      go_wp2_with fail
      refine (sHeat h true Ha.out _).mono ?_
      rintro e w1 ⟨rfl, rfl⟩
      go_wp2_with fail
      refine (sAmount_t v Hb.out _).mono ?_
      rintro e w1 ⟨rfl, rfl⟩
      go_wp2
      go_ret
      exact ⟨rfl, Below.refl _ _⟩

set_option maxRecDepth 100000 in
theorem sAirOk_t (h v : Nat) (hq : airB h v = true) (w : World) (g : Nat) (T : TypeId) (hg : airAt w g h v T) :
    Calls Try.prog 126 #[.pointer (some ⟨g, 0, none⟩)] w fun e w' => e = .returned (.bool true) ∧ w = w' := by
  have c0 := hg.c0
  have c1 := hg.c1
  obtain ⟨a, b, c⟩ := airB_iff.1 hq
  have hc : (FloatKind.f32.format.order v 1148846080 == some .lt || FloatKind.f32.format.order v 1148846080 == some .eq) = true := c
  have Ha := hid a
  have Hb := hid b
  clear a b c hq hg
  go_enter Try.func126, Try.ntmps126
  go_wp2_with fail
  refine (sHeat h true Ha.out _).mono ?_
  rintro e w1 ⟨rfl, rfl⟩
  go_wp2_with fail
  refine (sAmount_t v Hb.out _).mono ?_
  rintro e w1 ⟨rfl, rfl⟩
  go_wp2
  go_ret
  exact ⟨rfl, rfl⟩

theorem ext_floor (X K : Nat) (h : D.write ((D.read X).integral .down) = K) (hn : ∃ s m e, D.read X = .number s m e) (w : World) : (callFunc 275 #[.float .f64 X]).run Try.prog w = .ok (.value (.float .f64 K)) w := by
  rw [run_callFunc_extern Try.func275 (by kernel_rfl) (by kernel_rfl) (by kernel_rfl) (e := Extern.MathFloor.toIntegral "math.archFloor" .down) (by kernel_rfl)]
  obtain ⟨s, m, e, hr⟩ := hn
  have hr' : FloatKind.f64.decode X = .number s m e := hr
  rw [hr] at h
  have h' : FloatKind.f64.encode ((Ieee.Datum.number s m e).integral .down) = K := h
  have e2 : (Extern.MathFloor.toIntegral "math.archFloor" .down #[.float .f64 X]).run Try.prog w = .ok (.float .f64 K) w := by
    rw [← h']
    show Sem.run _ (match FloatKind.f64.decode X with | .nan _ _ => _ | d => (pure (Value.float .f64 (FloatKind.f64.encode (d.integral .down))) : Sem Value)) w = _
    rw [hr']
    rfl
  rw [e2]
  rfl

theorem floor_f64 (X K : Nat) (h : D.write ((D.read X).integral .down) = K) (hn : ∃ s m e, D.read X = .number s m e) (w : World) :
    Calls Try.prog 268 #[.float .f64 X] w fun e w' => e = .returned (.float .f64 K) ∧ w = w' := by
  have hx := fun w => ext_floor X K h hn w
  clear h hn
  go_enter Try.func268, Try.ntmps268
  go_wp2
  go_ret
  exact ⟨rfl, rfl⟩

theorem normalize_f64 (y : Nat) (h0 : 4503599627370496 ≤ y) (h1 : y < 9218868437227405312) (w : World) :
    Calls Try.prog 281 #[.float .f64 y] w fun e w' => e = .returned (.tuple #[.float .f64 y, .int .i64 0]) ∧ w = w' := by
  have hl := hid (show y < 18446744073709551616 by omega)
  have hm : y % 9223372036854775808 = y := Nat.mod_eq_of_lt (by omega)
  have hc : (FloatKind.f64.format.order y 4503599627370496 == some .lt) = false := by
    show (D.order y 4503599627370496 == some .lt) = false
    rw [order_ltD (by rw [DINF_val]; omega) (by rw [DINF_val]; decide)]
    rcases Nat.lt_or_eq_of_le h0 with h | h
    · rw [Nat.compare_eq_gt.2 h]; rfl
    · rw [Nat.compare_eq_eq.2 h.symm]; rfl
  have Hm := hid hm
  clear h0 h1 hm
  go_enter Try.func281, Try.ntmps281
  go_wp2_with fail
  refine (abs_f64 y hl.out _).mono ?_
  rintro e w1 ⟨rfl, rfl⟩
  rw [Hm.out]
  go_wp2
  go_ret2
  exact ⟨rfl, rfl⟩

theorem mul_ONE {r : Nat} (h : r < DINF) : D.mul 4607182418800017408 r = some r := by
  obtain ⟨m1, m2⟩ := mul_eqD (x := 4607182418800017408) (y := r) (by decide) (amtB_iffD.2 h)
  rw [m1, fmul_valD (by rw [DINF_val]; decide) h]
  refine congrArg some (Eq.trans (nearest_congrD (m' := valD r) (E := -1074) (E' := 0) 0 VONED (by have := VONED_val; omega) ?_) (nearest_valD h))
  rw [val_ONED, Nat.pow_zero, Nat.mul_one, Nat.mul_comm]

set_option maxRecDepth 100000 in
theorem ldexp_f64 (y : Nat) (n : Int) (h0 : 4607182418800017408 ≤ y) (h1 : y < 4688246992172703744) (t : Int) (R : Nat) (E : Exps y n t R) (hRf : R < DINF) (hn : -100 ≤ n) (hn2 : n ≤ 100) (w : World) :
    Calls Try.prog 278 #[.float .f64 y, .int .i64 n] w fun e w' => e = .returned (.float .f64 R) ∧ w = w' := by
  have hy0 : (FloatKind.f64.format.order y 0 == some .eq) = false := by
    show (D.order y 0 == some .eq) = false
    rw [order_ltD (by rw [DINF_val]; omega) (by rw [DINF_val]; decide), Nat.compare_eq_gt.2 (by omega)]; rfl
  have hl := hid (show y < 18446744073709551616 by omega)
  have hn1 := hid (show 4503599627370496 ≤ y by omega)
  have hn3 := hid (show y < 9218868437227405312 by omega)
  have hi := hid (show (FloatKind.f64.format.order (y % 9223372036854775808) 9218868437227405311 == some .gt) = false by
    rw [Nat.mod_eq_of_lt (by omega)]
    show (D.order y 9218868437227405311 == some .gt) = false
    rw [order_ltD (by rw [DINF_val]; omega) (by rw [DINF_val]; decide), Nat.compare_eq_lt.2 (by omega)]; rfl)
  have hq := hid (show (FloatKind.f64.format.order y y != some .eq) = false by
    show (D.order y y != some .eq) = false
    rw [order_ltD (by rw [DINF_val]; omega) (by rw [DINF_val]; omega), Nat.compare_eq_eq.2 rfl]; rfl)
  have hm := fun w => run_float_arith (P := Try.prog) w .mul 26 .f64 4607182418800017408 R R (mul_ONE hRf)
  obtain ⟨ht, d1, d2, d3, hR⟩ := E
  clear h0 h1 hRf
  go_enter Try.func278, Try.ntmps278
  go_wp2_with fail
  refine (isInf_f64 y hl.out _).mono ?_
  rintro e w1 ⟨rfl, rfl⟩
  rw [hi.out]
  go_wp2_with fail
  refine (isNaN_f64 y _).mono ?_
  rintro e w1 ⟨rfl, rfl⟩
  rw [hq.out]
  go_wp2_with fail
  refine (normalize_f64 y hn1.out hn3.out _).mono ?_
  rintro e w1 ⟨rfl, rfl⟩
  go_wp2
  go_ret
  exact ⟨rfl, rfl⟩

theorem Ldexp_f64 (y : Nat) (n : Int) (h0 : 4607182418800017408 ≤ y) (h1 : y < 4688246992172703744) (t : Int) (R : Nat) (E : Exps y n t R) (hRf : R < DINF) (hn : -100 ≤ n) (hn2 : n ≤ 100) (w : World) :
    Calls Try.prog 269 #[.float .f64 y, .int .i64 n] w fun e w' => e = .returned (.float .f64 R) ∧ w = w' := by
  have H0 := hid h0
  have H1 := hid h1
  have HE := hid E
  have HR := hid hRf
  have HN := hid hn
  have HN2 := hid hn2
  clear h0 h1 E hRf hn hn2
  go_enter Try.func269, Try.ntmps269
  go_wp2_with fail
  refine (ldexp_f64 y n H0.out H1.out t R HE.out HR.out HN.out HN2.out _).mono ?_
  rintro e w1 ⟨rfl, rfl⟩
  go_wp2
  go_ret
  exact ⟨rfl, rfl⟩

set_option maxRecDepth 100000 in
theorem iTwo (x j : Nat) (hx : x < 4294967296) (hf : finB x = true) (T : TwoF x j) (hj : j ≤ 100) (w : World) :
    Calls Try.prog 244 #[.float .f32 x] w fun e w' => e = .returned (.float .f32 (two x)) ∧ w = w' := by
  have hc := fun w => run_conv_wid (P := Try.prog) w 22 26 x hx Try.underlying22 Try.underlying26 (finB_iff.1 hf)
  have hs := fun w => run_float_arith (P := Try.prog) w .sub 26 .f64 _ _ _ T.sub
  have hm := fun w => run_float_arith (P := Try.prog) w .mul 26 .f64 _ _ _ T.mul
  have hi := fun w => run_convert_float_int (P := Try.prog) w 26 3 .f64 .i64 (kF x) (iF x) (by rw [Try.underlying26]; rfl) Try.underlying3 (iF_conv T hj)
  have ho := fun w => run_convert_float_float (P := Try.prog) w 26 22 .f64 .f32 (rF x) (two x) (by rw [Try.underlying26]; rfl) Try.underlying22 (two_bounds T hj).2.2
  have E := exps T.s1 T.s2 (iF_bd T hj).1 (iF_bd T hj).2
  rw [rF_word T hj] at E
  have HE := hid E
  have HT := hid T
  have HJ := hid hj
  clear hx hf T hj E
  go_enter Try.func244, Try.ntmps244
  go_wp2_with fail
  refine (floor_f64 (wid x) (kF x) HT.out.fl HT.out.num _).mono ?_
  rintro e w1 ⟨rfl, rfl⟩
  go_wp2_with fail
  go_loop [5, 6] (fun s i => ∃ m : Nat, m ≤ 14 ∧ i = .int .i64 m ∧ s = .float .f64 (ser (yF x) (14 - m))) (fun _ i => (intOf i).toNat)
  case atStart => exact ⟨14, by omega, rfl, rfl⟩
  case round =>
    obtain ⟨m, hm14, rfl, rfl⟩ := hrel
    by_cases h1 : 1 ≤ m
    · obtain ⟨q, p, s⟩ := term2 HT.out.y h1 hm14
      have q1 := fun w => run_float_arith (P := Try.prog) w .quo 26 .f64 _ _ _ q
      have q2 := fun w => run_float_arith (P := Try.prog) w .mul 26 .f64 _ _ _ p
      have q3 := fun w => run_float_arith (P := Try.prog) w .add 26 .f64 _ _ _ s
      clear q p s
      go_wp2
      go_round
      case rel => exact ⟨m - 1, by omega, by rw [show ((m - 1 : Nat) : Int) = (m : Int) - 1 by omega], rfl⟩
      case measure => simp [intOf]; omega
    · obtain rfl : m = 0 := by omega
      clear hs hm
      have hS : ser (yF x) (14 - 0) = sF x := rfl
      rw [hS]
      clear hS
      go_wp2_with fail
      refine (Ldexp_f64 (sF x) (iF x) HT.out.s1 HT.out.s2 _ (rF x) HE.out (rF_lt HT.out HJ.out) (iF_bd HT.out HJ.out).1 (iF_bd HT.out HJ.out).2 _).mono ?_
      rintro e w1 ⟨rfl, rfl⟩
      go_wp2
      go_ret
      exact ⟨rfl, rfl⟩

theorem s_pos {x j i : Nat} (T : TwoF x j) (hj : j ≤ 100) (hi : i < nF x) : D.mul (sF x + i * 4503599627370496) 4611686018427387904 = some (sF x + (i + 1) * 4503599627370496) := by
  have h := dbl (s := sF x + i * 4503599627370496) (by have := T.s1; omega) (by have := T.s2; have := T.n; rw [DINF_val]; omega)
  rw [h, Nat.add_mul i 1, Nat.one_mul, Nat.add_assoc]

theorem s_neg {x j i : Nat} (T : TwoF x j) (hj : j ≤ 100) (hi : i < nF x) : D.div (sF x - i * 4503599627370496) 4611686018427387904 = some (sF x - (i + 1) * 4503599627370496) := by
  have h := hlv (s := sF x - i * 4503599627370496) (by have := T.s1; have := T.n; omega) (by have := T.s2; rw [DINF_val]; omega)
  rw [h, Nat.add_mul i 1, Nat.one_mul, Nat.sub_sub]

set_option maxRecDepth 100000 in
set_option maxHeartbeats 1000000 in
theorem sTwo (x j : Nat) (hx : x < 4294967296) (hf : finB x = true) (T : TwoF x j) (hj : j ≤ 100) (w : World) :
    Calls Try.prog 272 #[.float .f32 x] w fun e w' => e = .returned (.float .f32 (two x)) ∧ w = w' := by
  have hc := fun w => run_conv_wid (P := Try.prog) w 22 26 x hx Try.underlying22 Try.underlying26 (finB_iff.1 hf)
  have hs := fun w => run_float_arith (P := Try.prog) w .sub 26 .f64 _ _ _ T.sub
  have hm := fun w => run_float_arith (P := Try.prog) w .mul 26 .f64 _ _ _ T.mul
  have ho := fun w => run_convert_float_float (P := Try.prog) w 26 22 .f64 .f32 (rF x) (two x) (by rw [Try.underlying26]; rfl) Try.underlying22 (two_bounds T hj).2.2
  have hn := hid (show nF x ≤ 100 by have := T.n; omega)
  have HT := hid T
  have HJ := hid hj
  have hk : kF x = kW (sgB x) (nF x) := rfl
  have hr : rF x = if sgB x = true then sF x - nF x * 4503599627370496 else sF x + nF x * 4503599627370496 := rfl
  have HK := hid hk
  have HR := hid hr
  clear hx hf T hj hk hr
  go_enter Try.func272, Try.ntmps272
  go_wp2_with fail
  refine (floor_f64 (wid x) (kF x) HT.out.fl HT.out.num _).mono ?_
  rintro e w1 ⟨rfl, rfl⟩
  go_wp2_with fail
  go_loop [5, 6] (fun s i => ∃ m : Nat, m ≤ 14 ∧ i = .int .i64 m ∧ s = .float .f64 (ser (yF x) (14 - m))) (fun _ i => (intOf i).toNat)
  case atStart => exact ⟨14, by omega, rfl, rfl⟩
  case round =>
    obtain ⟨m, hm14, rfl, rfl⟩ := hrel
    by_cases h1 : 1 ≤ m
    · obtain ⟨q, p, s⟩ := term2 HT.out.y h1 hm14
      have q1 := fun w => run_float_arith (P := Try.prog) w .quo 26 .f64 _ _ _ q
      have q2 := fun w => run_float_arith (P := Try.prog) w .mul 26 .f64 _ _ _ p
      have q3 := fun w => run_float_arith (P := Try.prog) w .add 26 .f64 _ _ _ s
      clear q p s
      go_wp2
      go_round
      case rel => exact ⟨m - 1, by omega, by rw [show ((m - 1 : Nat) : Int) = (m : Int) - 1 by omega], rfl⟩
      case measure => simp [intOf]; omega
    · obtain rfl : m = 0 := by omega
      clear hs hm
      have hS : ser (yF x) (14 - 0) = sF x := rfl
      rw [hS]
      clear hS
      rcases hsg : sgB x with _ | _
      · have hk0 : kF x = kW false (nF x - 0) := by rw [HK.out, hsg]; rfl
        have hr0 := HR.out
        rw [hsg, if_neg (by decide)] at hr0
        have HR0 := hid hr0
        rw [hk0]
        clear hr0 hsg hk0
        go_wp2
        go_loop [3, 5] (fun k s => ∃ i : Nat, i ≤ nF x ∧ k = .float .f64 (kW false (nF x - i)) ∧ s = .float .f64 (sF x + i * 4503599627370496)) (fun k _ => fltOf k)
        case atStart => exact ⟨0, by omega, rfl, by simp⟩
        case round =>
          obtain ⟨i, hi, rfl, rfl⟩ := hrel
          by_cases hlt : i < nF x
          · have K := kFacts (N := nF x - i) (by have := hn.out; omega)
            have q0 : (FloatKind.f64.format.order (kW false (nF x - i)) 0 == some .gt) = true := by
              show (D.order (kW false (nF x - i)) 0 == some .gt) = true
              rw [K.ordP, if_neg (by omega : ¬ nF x - i = 0)]; rfl
            have q1 := fun w => run_float_arith (P := Try.prog) w .mul 26 .f64 _ _ _ (s_pos HT.out HJ.out hlt)
            have q2 := fun w => run_float_arith (P := Try.prog) w .sub 26 .f64 _ _ _ (K.sub (by omega))
            have q3 := hid (show kW false (nF x - i - 1) < kW false (nF x - i) by
              have := kW_lt (N := nF x - i - 1) (by have := hn.out; omega)
              rwa [show nF x - i - 1 + 1 = nF x - i by omega] at this)
            clear K
            go_wp2
            go_round
            case rel => exact ⟨i + 1, by omega, by rw [show nF x - (i + 1) = nF x - i - 1 by omega], rfl⟩
            case measure => exact q3.out
          · obtain rfl : i = nF x := by omega
            rw [Nat.sub_self, ← HR0.out]
            have q0 : (FloatKind.f64.format.order (kW false 0) 0 == some .gt) = false := by decide +kernel
            have q1 : (FloatKind.f64.format.order (kW false 0) 0 == some .lt) = false := by decide +kernel
            go_wp2
            go_loop [3, 5] (fun k s => k = .float .f64 (kW false 0) ∧ s = .float .f64 (rF x)) (fun _ _ => 0)
            case atStart => exact ⟨rfl, rfl⟩
            case round =>
              obtain ⟨rfl, rfl⟩ := hrel
              go_wp2
              go_ret
              exact ⟨rfl, rfl⟩
      · have hk0 : kF x = kU (nF x) 0 := by
          rw [HK.out, hsg]
          unfold kU
          by_cases h0 : nF x = 0
          · rw [if_neg (by omega), if_pos h0, h0]
          · rw [if_pos (by omega)]; rfl
        have hr0 := HR.out
        rw [hsg, if_pos rfl] at hr0
        have HR0 := hid hr0
        rw [hk0]
        have q0 : (FloatKind.f64.format.order (kU (nF x) 0) 0 == some .gt) = false := by
          rw [← hk0, HK.out, hsg]
          show (D.order (kW true (nF x)) 0 == some .gt) = false
          rw [(kFacts hn.out).ordN]
          split <;> rfl
        clear hr0 hsg hk0
        go_wp2
        go_loop [3, 5] (fun k s => k = .float .f64 (kU (nF x) 0) ∧ s = .float .f64 (sF x)) (fun _ _ => 0)
        case atStart => exact ⟨rfl, rfl⟩
        case round =>
          obtain ⟨rfl, rfl⟩ := hrel
          go_wp2
          clear q0
          go_loop [3, 5] (fun k s => ∃ i : Nat, i ≤ nF x ∧ k = .float .f64 (kU (nF x) i) ∧ s = .float .f64 (sF x - i * 4503599627370496)) (fun k _ => fltOf k)
          case atStart => exact ⟨0, by omega, rfl, by simp⟩
          case round =>
            obtain ⟨i, hi, rfl, rfl⟩ := hrel
            by_cases hlt : i < nF x
            · obtain ⟨k1, k2, k3⟩ := kU_step hn.out hlt
              have q0 : (FloatKind.f64.format.order (kU (nF x) i) 0 == some .lt) = true := k3
              have q1 := fun w => run_float_arith (P := Try.prog) w .quo 26 .f64 _ _ _ (s_neg HT.out HJ.out hlt)
              have q2 := fun w => run_float_arith (P := Try.prog) w .add 26 .f64 _ _ _ k1
              have q3 := hid k2
              clear k1 k2 k3
              go_wp2
              go_round
              case rel => exact ⟨i + 1, by omega, rfl, rfl⟩
              case measure => exact q3.out
            · obtain rfl : i = nF x := by omega
              rw [← HR0.out]
              have q1 : (FloatKind.f64.format.order (kU (nF x) (nF x)) 0 == some .lt) = false := kU_end
              go_wp2
              go_ret
              exact ⟨rfl, rfl⟩

theorem iSat (h : Nat) (F : SatF h) (w : World) :
    Calls Try.prog 175 #[.float .f32 h] w fun e w' => e = .returned (.float .f32 (satF h)) ∧ w = w' := by
  have hd := fun w => run_float_arith (P := Try.prog) w .quo 22 .f32 _ _ _ F.div
  have hm := fun w => run_float_arith (P := Try.prog) w .mul 22 .f32 _ _ _ F.mul
  have HF := hid F
  clear F
  go_enter Try.func175, Try.ntmps175
  go_wp2_with fail
  refine (iTwo (hqF h) 16 HF.out.qlt HF.out.qfin HF.out.T (by decide) _).mono ?_
  rintro e w1 ⟨rfl, rfl⟩
  go_wp2
  go_ret
  exact ⟨rfl, rfl⟩

theorem sSat (h : Nat) (F : SatF h) (w : World) :
    Calls Try.prog 249 #[.float .f32 h] w fun e w' => e = .returned (.float .f32 (satF h)) ∧ w = w' := by
  have hd := fun w => run_float_arith (P := Try.prog) w .quo 22 .f32 _ _ _ F.div
  have hm := fun w => run_float_arith (P := Try.prog) w .mul 22 .f32 _ _ _ F.mul
  have HF := hid F
  clear F
  go_enter Try.func249, Try.ntmps249
  go_wp2_with fail
  refine (sTwo (hqF h) 16 HF.out.qlt HF.out.qfin HF.out.T (by decide) _).mono ?_
  rintro e w1 ⟨rfl, rfl⟩
  go_wp2
  go_ret
  exact ⟨rfl, rfl⟩

set_option maxRecDepth 100000 in
theorem sExcess (h v : Nat) (hx : h < 4294967296) (hq : airB h v = true) (w : World) (g : Nat) (T : TypeId) (hg : airAt w g h v T) :
    Calls Try.prog 181 #[.pointer (some ⟨g, 0, none⟩)] w fun e w' => e = .returned (.float .f32 (excF h v)) ∧ Below w.heap.size w w' := by
  obtain ⟨hh, hav, hvp⟩ := airB_iff.1 hq
  have F := sat_facts hx hh
  obtain ⟨e1, e2, e3⟩ := exc_facts F hav
  have HF := hid F
  have hs := fun w => run_float_arith (P := Try.prog) w .sub 22 .f32 _ _ _ e1
  have c0 := hg.c0
  have c1 := hg.c1
  clear F hh hav hvp e1 e2 e3 hx hq hg
  go_enter Try.func181, Try.ntmps181
  go_wp2
  go_quiet ((go_at_call 249; exact Calls.quiet_of_same (back (sSat h HF.out _))))
  go_wp2
  go_ret
  exact ⟨rfl, below_drewN (Below.refl _ _) _⟩

set_option maxHeartbeats 2000000 in
set_option maxRecDepth 100000 in
theorem iSettle_ok (h v : Nat) (hx : h < 4294967296) (hq : airB h v = true) (H V G : Nat) (hs : sett 30 h v 0 = (H, V, G)) (w : World) :
    Calls Try.prog 78 #[.agg #[.float .f32 h, .float .f32 v]] w fun e w' => e = .returned (.tuple #[.agg #[.float .f32 H, .float .f32 V], .float .f32 G, .int .i64 0]) ∧ Below w.heap.size w w' := by
  have k0 : Hid (Kept w [(w.heap.size + 1, #[.float .f32 0, .float .f32 0], 38), (w.heap.size, #[.float .f32 h, .float .f32 v], 38)] ((w.alloc (.cells #[.float .f32 h, .float .f32 v] 38)).alloc (.cells #[.float .f32 0, .float .f32 0] 38))) := hid ((((Kept.nil w).push _ _).push _ _).sub (by simp))
  have HX := hid hx
  have HQ := hid hq
  have HS := hid hs
  have hv : v < 4294967296 := amt_lt (airB_iff.1 hq).2.1
  have HV := hid hv
  have S0 := hid (Settled.first hx hq)
  clear hx hq hs hv
  go_enter Try.func78, Try.ntmps78
  go_wp2_with (refine wpList_load_row rfl 38 _ rfl (w.heap.size) rfl 38 (#[.float .f32 h, .float .f32 v]) (0, 0) _ (k0.out.at (x := (w.heap.size, #[.float .f32 h, .float .f32 v], 38)) (by simp)) Try.underlying38 rfl (info_air) ?_)
  refine (iValidAir h v HV.out true HQ.out _).mono ?_
  rintro e w1 ⟨rfl, hb1⟩
  have k1 := hid (k0.out.stay hb1)
  have hlt : w.heap.size + 1 < w1.heap.size := k1.out.lt (x := (w.heap.size + 1, #[.float .f32 0, .float .f32 0], 38)) (by simp)
  have HL := hid hlt
  have k2 := hid ((k1.out.push #[.float .f32 h, .float .f32 v] 38).sub (l' := [(w1.heap.size, #[.float .f32 h, .float .f32 v], 38), (w.heap.size + 1, #[.float .f32 0, .float .f32 0], 38)]) (by intro x hx; simp only [List.mem_cons, List.not_mem_nil, or_false] at hx; rcases hx with rfl | rfl <;> simp))
  clear k0 hb1 hlt
  go_wp2_with (refine wpList_load_row rfl 38 _ rfl (w.heap.size) rfl 38 (#[.float .f32 h, .float .f32 v]) (0, 0) _ (k1.out.at (x := (w.heap.size, #[.float .f32 h, .float .f32 v], 38)) (by simp)) Try.underlying38 rfl (info_air) ?_)
  clear k1
  go_loopw [14, 6] (fun i gs wr => ∃ k h1 v1 g1 : Nat, k ≤ 30 ∧ i = .int .i64 k ∧ gs = .float .f32 g1 ∧ Hid (Settled k h1 v1 g1) ∧ Hid (sett (30 - k) h1 v1 g1 = (H, V, G)) ∧ Hid (Kept w [(w1.heap.size, #[.float .f32 h1, .float .f32 v1], 38), (w.heap.size + 1, #[.float .f32 0, .float .f32 0], 38)] wr)) (fun i _ _ => 30 - (intOf i).toNat)
  case atStart => exact ⟨0, h, v, 0, by omega, rfl, rfl, S0, HS, k2⟩
  case round =>
    obtain ⟨k, h1, v1, g1, hk, rfl, rfl, hS, hg, hK⟩ := hrel
    clear k2 S0 HS HQ HX HV
    by_cases hlt : k < 30
    · have hk3 : (k : Int) < 30 := by omega
      have HF := hid (sat_facts hS.out.hw hS.out.heat)
      have Hk := hid hlt
      have e0 := exc_facts HF.out hS.out.amt
      have hs := hid (fun w => run_float_arith (P := Try.prog) w .sub 22 .f32 _ _ _ e0.1)
      clear e0
      go_wp2_with fail
      refine region_kept (w0 := w) (l := [(w1.heap.size, #[.float .f32 h1, .float .f32 v1], 38), (w.heap.size + 1, #[.float .f32 0, .float .f32 0], 38)]) 7 #[false, false, false, false, false, false, false] (by kernel_rfl) rfl rfl ?_
      have kd := hK.out.drew
      clear hK
      generalize wr.drew = wd at kd ⊢
      refine take_val 0 _ _ (.pointer (some ⟨w1.heap.size, 1, none⟩)) rfl (by rfl) (by kernel_rfl) (by kernel_rfl) (by kernel_rfl) (fun w => by unfold execOp; go_simp) rfl rfl kd ?_
      refine take_val 2 _ _ (.pointer (some ⟨w1.heap.size, 0, none⟩)) rfl (by rfl) (by kernel_rfl) (by kernel_rfl) (by kernel_rfl) (fun w => by unfold execOp; go_simp) rfl rfl kd ?_
      simp only [Act.put, List.setIfInBounds_toArray, List.set_cons_zero, List.set_cons_succ]
      refine take_cell 1 _ _ (.float .f32 v1) rfl (by rfl) (by kernel_rfl) (by kernel_rfl) (by kernel_rfl) (fun wq hS => by have hcell := (show airAt wq (w1.heap.size) h1 v1 38 from hS.at (x := (w1.heap.size, _, _)) (by simp)).c1; clear hS; unfold execOp; go_simp) rfl rfl kd ?_
      refine take_cell 3 _ _ (.float .f32 h1) rfl (by rfl) (by kernel_rfl) (by kernel_rfl) (by kernel_rfl) (fun wq hS => by have hcell := (show airAt wq (w1.heap.size) h1 v1 38 from hS.at (x := (w1.heap.size, _, _)) (by simp)).c0; clear hS; unfold execOp; go_simp) rfl rfl kd ?_
      simp only [Act.put, List.setIfInBounds_toArray, List.set_cons_zero, List.set_cons_succ]
      refine wpAnyH_ready (rs := [4]) (by kernel_rfl) (by simp) ?_
      refine callK 4 _ _ (.float .f32 (satF h1)) kd rfl (by rfl) 175 #[.float .f32 h1] (fun w => by unfold execOp; go_simp) rfl rfl ?hc (fun wc kd => ?_) AllReadyH.nil
      case hc => exact loose (iSat h1 HF.out _)
      refine ⟨kd, ?_⟩
      simp only [Act.put, List.setIfInBounds_toArray, List.set_cons_zero, List.set_cons_succ]
      refine take_val 5 _ _ (.float .f32 (excF h1 v1)) rfl (by rfl) (by kernel_rfl) (by kernel_rfl) (by kernel_rfl) (fun w => run_binop_val _ _ _ _ (by rfl) (by rfl) (by simp [eqGuard]) (hs.out w)) rfl rfl kd ?_
      simp only [Act.put, List.setIfInBounds_toArray, List.set_cons_zero, List.set_cons_succ]
      refine take_val 6 _ _ (.float .f32 (excF h1 v1)) rfl (by rfl) (by kernel_rfl) (by kernel_rfl) (by kernel_rfl) (fun w => by rfl) rfl rfl kd ?_
      refine wpAnyH_done (by kernel_rfl) (NoPanic.normal ?_) _
      simp only [Act.put, List.setIfInBounds_toArray, List.set_cons_zero, List.set_cons_succ]
      have K1 := hid kd
      clear kd hs
      have EX := hid (exc_facts HF.out hS.out.amt)
      rcases exc_two EX.out.2.1 EX.out.2.2 with hp | hp
      · have SS := hid (settle_step hS.out Hk.out hp.2.2.1)
        have hle : (FloatKind.f32.format.order (excF h1 v1) 0 == some .lt || FloatKind.f32.format.order (excF h1 v1) 0 == some .eq) = false := hp.2.2.2
        have E2 := hid (sett_go (g := g1) Hk.out hp.2.2.1)
        have r1 := fun w => run_float_arith (P := Try.prog) w .mul 22 .f32 _ _ _ SS.out.1.pq
        have r2 := fun w => run_float_arith (P := Try.prog) w .sub 22 .f32 _ _ _ SS.out.1.pv
        have r3 := fun w => run_float_arith (P := Try.prog) w .mul 22 .f32 _ _ _ SS.out.1.pd
        have r4 := fun w => run_float_arith (P := Try.prog) w .add 22 .f32 _ _ _ SS.out.1.pt
        have r5 := fun w => run_float_arith (P := Try.prog) w .add 22 .f32 _ _ _ SS.out.1.pg
        have r6 := fun ts t w => run_min_sv (P := Try.prog) ts t SS.out.1.pw fw_60 (by decide +kernel) w
        have a0 := (show airAt wc w1.heap.size h1 v1 38 from K1.out.at (x := (w1.heap.size, _, _)) (by simp))
        have c0 := a0.c0
        have c1 := a0.c1
        have f0 : wc.frozen? ⟨w1.heap.size, 0, none⟩ = false := frozen_of_row wc w1.heap.size 0 _ _ a0
        have f1 : wc.frozen? ⟨w1.heap.size, 1, none⟩ = false := frozen_of_row wc w1.heap.size 1 _ _ a0
        have K3 : Hid (Kept w [(w1.heap.size, #[.float .f32 (stH h1 v1), .float .f32 (stV h1 v1)], 38), (w.heap.size + 1, #[.float .f32 0, .float .f32 0], 38)] ((wc.setCell ⟨w1.heap.size, 1, none⟩ (.float .f32 (stV h1 v1))).setCell ⟨w1.heap.size, 0, none⟩ (.float .f32 (stH h1 v1)))) := hid ((K1.out.lcell (by have := HL.out; omega) (by have := HL.out; simp; omega) 1 _).lcell (by have := HL.out; omega) (by have := HL.out; simp; omega) 0 _)
        clear a0 hp
        go_wp2_with fail
        go_roundw
        case rel => exact ⟨k + 1, stH h1 v1, stV h1 v1, stG h1 v1 g1, by omega, by go_num, rfl, hid SS.out.2, hid (by rw [← E2.out]; exact hg.out), K3⟩
        case measure => simp [intOf]; omega
      · have hle : (FloatKind.f32.format.order (excF h1 v1) 0 == some .lt || FloatKind.f32.format.order (excF h1 v1) 0 == some .eq) = true := hp.2
        have E := hg.out
        rw [sett_stop hp.1] at E
        obtain ⟨rfl, rfl, rfl⟩ : h1 = H ∧ v1 = V ∧ g1 = G := by simpa using E
        go_wp2_with (first | (refine wpList_load_row rfl 38 _ rfl (w1.heap.size) rfl 38 (#[.float .f32 h1, .float .f32 v1]) (0, 0) _ (K1.out.at (x := (w1.heap.size, #[.float .f32 h1, .float .f32 v1], 38)) (by simp)) Try.underlying38 rfl (info_air) ?_) | (have _t := K1; refine store_kept (w0 := w) (l := [(w1.heap.size, #[.float .f32 h1, .float .f32 v1], 38)]) rfl 38 _ _ rfl (w.heap.size + 1) (#[.float .f32 h1, .float .f32 v1]) rfl rfl 38 (#[.float .f32 0, .float .f32 0]) (K1.out.sub (by intro x hx; simp only [List.mem_cons, List.not_mem_nil, or_false] at hx; rcases hx with rfl | rfl <;> simp)) (by omega) (by have := HL.out; simp; omega) (info_air) (by simp) (by simp [Value.oneCell']) ?_; intro wkz kz; have kz := hid kz))
        exact bodyPost_ret (results_row_tmp2 rfl _ _ (w.heap.size + 1) 38 (#[.float .f32 h1, .float .f32 v1]) (0, 0) _ rfl (kz.out.at (x := (w.heap.size + 1, #[.float .f32 h1, .float .f32 v1], 38)) (by simp)) Try.underlying38 rfl info_air) rfl ⟨rfl, kz.out.1⟩
    · obtain rfl : k = 30 := by omega
      have E := hg.out
      rw [show sett (30 - 30) h1 v1 g1 = (h1, v1, g1) from rfl] at E
      obtain ⟨rfl, rfl, rfl⟩ : h1 = H ∧ v1 = V ∧ g1 = G := by simpa using E
      go_wp2_with (first | (refine wpList_load_row rfl 38 _ rfl (w1.heap.size) rfl 38 (#[.float .f32 h1, .float .f32 v1]) (0, 0) _ (hK.out.at (x := (w1.heap.size, #[.float .f32 h1, .float .f32 v1], 38)) (by simp)) Try.underlying38 rfl (info_air) ?_) | (have _t := hK; refine store_kept (w0 := w) (l := [(w1.heap.size, #[.float .f32 h1, .float .f32 v1], 38)]) rfl 38 _ _ rfl (w.heap.size + 1) (#[.float .f32 h1, .float .f32 v1]) rfl rfl 38 (#[.float .f32 0, .float .f32 0]) (hK.out.sub (by intro x hx; simp only [List.mem_cons, List.not_mem_nil, or_false] at hx; rcases hx with rfl | rfl <;> simp)) (by omega) (by have := HL.out; simp; omega) (info_air) (by simp) (by simp [Value.oneCell']) ?_; intro wkz kz; have kz := hid kz))
      exact bodyPost_ret (results_row_tmp2 rfl _ _ (w.heap.size + 1) 38 (#[.float .f32 h1, .float .f32 v1]) (0, 0) _ rfl (kz.out.at (x := (w.heap.size + 1, #[.float .f32 h1, .float .f32 v1], 38)) (by simp)) Try.underlying38 rfl info_air) rfl ⟨rfl, kz.out.1⟩

set_option maxRecDepth 100000 in
theorem iSettle_bad (h v : Nat) (hv : v < 4294967296) (hq : airB h v = false) (w : World) :
    Calls Try.prog 78 #[.agg #[.float .f32 h, .float .f32 v]] w fun e w' => e = .returned (.tuple #[.agg #[.float .f32 0, .float .f32 0], .float .f32 0, .int .i64 1]) ∧ Below w.heap.size w w' := by
  have k0 : Hid (Kept w [(w.heap.size + 1, #[.float .f32 0, .float .f32 0], 38), (w.heap.size, #[.float .f32 h, .float .f32 v], 38)] ((w.alloc (.cells #[.float .f32 h, .float .f32 v] 38)).alloc (.cells #[.float .f32 0, .float .f32 0] 38))) := hid ((((Kept.nil w).push _ _).push _ _).sub (by simp))
  have HV := hid hv
  have HQ := hid hq
  clear hv hq
  go_enter Try.func78, Try.ntmps78
  go_wp2_with (refine wpList_load_row rfl 38 _ rfl (w.heap.size) rfl 38 (#[.float .f32 h, .float .f32 v]) (0, 0) _ (k0.out.at (x := (w.heap.size, #[.float .f32 h, .float .f32 v], 38)) (by simp)) Try.underlying38 rfl (info_air) ?_)
  refine (iValidAir h v HV.out false HQ.out _).mono ?_
  rintro e w1 ⟨rfl, hb1⟩
  have k1 := hid (k0.out.stay hb1)
  clear k0 hb1
  go_wp2_with (refine store_kept (w0 := w) (l := []) rfl 38 _ _ rfl (w.heap.size + 1) (#[.float .f32 0, .float .f32 0]) rfl rfl 38 (#[.float .f32 0, .float .f32 0]) (k1.out.sub (by intro x hx; simp only [List.mem_cons, List.not_mem_nil, or_false] at hx; rcases hx with rfl <;> simp)) (by omega) (by simp) (info_air) (by simp) (by simp [Value.oneCell']) ?_; intro wkz kz; have kz := hid kz)
  exact bodyPost_ret (results_row_tmp2 rfl _ _ (w.heap.size + 1) 38 (#[.float .f32 0, .float .f32 0]) (0, 0) _ rfl (kz.out.at (x := (w.heap.size + 1, #[.float .f32 0, .float .f32 0], 38)) (by simp)) Try.underlying38 rfl info_air) rfl ⟨rfl, kz.out.1⟩

set_option maxHeartbeats 2000000 in
set_option maxRecDepth 100000 in
theorem sSettle (h v : Nat) (hx : h < 4294967296) (hq : airB h v = true) (H V G : Nat) (hs : sett 30 h v 0 = (H, V, G)) (w : World) :
    Calls Try.prog 174 #[.agg #[.float .f32 h, .float .f32 v]] w fun e w' => e = .returned (.tuple #[.agg #[.float .f32 H, .float .f32 V], .float .f32 G]) ∧ Below w.heap.size w w' := by
  have k0 : Hid (Kept w [(w.heap.size, #[.float .f32 h, .float .f32 v], 38), (w.heap.size + 1, #[.float .f32 0, .float .f32 0], 38)] ((w.alloc (.cells #[.float .f32 h, .float .f32 v] 38)).alloc (.cells #[.float .f32 0, .float .f32 0] 38))) := hid ((((Kept.nil w).push _ _).push _ _).sub (by simp))
  have HS := hid hs
  have S0 := hid (Settled.first hx hq)
  clear hx hq hs
  go_enter Try.func174, Try.ntmps174
  go_wp2_with fail
  go_loopw [5, 4] (fun i gs wr => ∃ k h1 v1 g1 : Nat, k ≤ 30 ∧ i = .int .i64 k ∧ gs = .float .f32 g1 ∧ Hid (Settled k h1 v1 g1) ∧ Hid (sett (30 - k) h1 v1 g1 = (H, V, G)) ∧ Hid (Kept w [(w.heap.size, #[.float .f32 h1, .float .f32 v1], 38), (w.heap.size + 1, #[.float .f32 0, .float .f32 0], 38)] wr)) (fun i _ _ => 30 - (intOf i).toNat)
  case atStart => exact ⟨0, h, v, 0, by omega, rfl, rfl, S0, HS, k0⟩
  case round =>
    obtain ⟨k, h1, v1, g1, hk, rfl, rfl, hS, hg, hK⟩ := hrel
    clear k0 S0 HS
    by_cases hlt : k < 30
    · have hk3 : (k : Int) < 30 := by omega
      have HF := hid (sat_facts hS.out.hw hS.out.heat)
      have Hk := hid hlt
      go_wp2_with fail
      refine (sExcess h1 v1 hS.out.hw hS.out.air _ w.heap.size 38 (hK.out.at (x := (w.heap.size, _, _)) (by simp))).mono ?_
      rintro e w2 ⟨rfl, hb2⟩
      have K1 := hid (hK.out.stay hb2)
      clear hK hb2
      have EX := hid (exc_facts HF.out hS.out.amt)
      rcases exc_two EX.out.2.1 EX.out.2.2 with hp | hp
      · have SS := hid (settle_step hS.out Hk.out hp.2.2.1)
        have hgt : (FloatKind.f32.format.order (excF h1 v1) 0 == some .gt) = true := hp.2.2.1
        have E2 := hid (sett_go (g := g1) Hk.out hp.2.2.1)
        have r1 := fun w => run_float_arith (P := Try.prog) w .mul 22 .f32 _ _ _ SS.out.1.pq
        have r2 := fun w => run_float_arith (P := Try.prog) w .sub 22 .f32 _ _ _ SS.out.1.pv
        have r3 := fun w => run_float_arith (P := Try.prog) w .mul 22 .f32 _ _ _ SS.out.1.pd
        have r4 := fun w => run_float_arith (P := Try.prog) w .add 22 .f32 _ _ _ SS.out.1.pt
        have r5 := fun w => run_float_arith (P := Try.prog) w .add 22 .f32 _ _ _ SS.out.1.pg
        have a0 := (show airAt w2 w.heap.size h1 v1 38 from K1.out.at (x := (w.heap.size, _, _)) (by simp))
        have c0 := a0.c0
        have c1 := a0.c1
        have f0 : w2.frozen? ⟨w.heap.size, 0, none⟩ = false := frozen_of_row w2 w.heap.size 0 _ _ a0
        have f1 : w2.frozen? ⟨w.heap.size, 1, none⟩ = false := frozen_of_row w2 w.heap.size 1 _ _ a0
        have K3 := (K1.out.lcell (Nat.le_refl _) (by simp) 1 (.float .f32 (stV h1 v1))).lcell (Nat.le_refl _) (by simp) 0 (.float .f32 (stT h1 v1))
        clear a0 hp
        rcases hc : FloatKind.f32.format.order (stT h1 v1) 1114636288 == some .gt with _ | _
        · have eH : stH h1 v1 = stT h1 v1 := if_pos (Int.not_lt.1 fun hh => by have h9 := (gt_sv SS.out.1.pw fw_60).2 hh; exact absurd (h9.symm.trans hc) (by decide))
          have K4 := hid K3
          clear K3
          go_wp2_with fail
          go_roundw
          case rel => exact ⟨k + 1, stH h1 v1, stV h1 v1, stG h1 v1 g1, by omega, by go_num, rfl, hid SS.out.2, hid (by rw [← E2.out]; exact hg.out), hid (by rw [eH]; exact K4.out)⟩
          case measure => simp [intOf]; omega
        · have eH : stH h1 v1 = 1114636288 := if_neg (Int.not_le.2 ((gt_sv SS.out.1.pw fw_60).1 hc))
          have K4 := hid (K3.lcell (Nat.le_refl _) (by simp) 0 (.float .f32 1114636288))
          clear K3
          go_wp2_with fail
          go_roundw
          case rel => exact ⟨k + 1, stH h1 v1, stV h1 v1, stG h1 v1 g1, by omega, by go_num, rfl, hid SS.out.2, hid (by rw [← E2.out]; exact hg.out), hid (by rw [eH]; exact K4.out)⟩
          case measure => simp [intOf]; omega
      · have hgt : (FloatKind.f32.format.order (excF h1 v1) 0 == some .gt) = false := hp.1
        have E := hg.out
        rw [sett_stop hp.1] at E
        obtain ⟨rfl, rfl, rfl⟩ : h1 = H ∧ v1 = V ∧ g1 = G := by simpa using E
        go_wp2_with (first | (refine wpList_load_row rfl 38 _ rfl (w.heap.size) rfl 38 (#[.float .f32 h1, .float .f32 v1]) (0, 0) _ (K1.out.at (x := (w.heap.size, #[.float .f32 h1, .float .f32 v1], 38)) (by simp)) Try.underlying38 rfl (info_air) ?_) | (have _t := K1; refine store_kept (w0 := w) (l := [(w.heap.size, #[.float .f32 h1, .float .f32 v1], 38)]) rfl 38 _ _ rfl (w.heap.size + 1) (#[.float .f32 h1, .float .f32 v1]) rfl rfl 38 (#[.float .f32 0, .float .f32 0]) (K1.out.sub (by intro x hx; simp only [List.mem_cons, List.not_mem_nil, or_false] at hx; rcases hx with rfl | rfl <;> simp)) (by omega) (by simp) (info_air) (by simp) (by simp [Value.oneCell']) ?_; intro wkz kz; have kz := hid kz))
        exact bodyPost_ret (results_row_tmp rfl _ _ (w.heap.size + 1) 38 (#[.float .f32 h1, .float .f32 v1]) (0, 0) _ rfl (kz.out.at (x := (w.heap.size + 1, #[.float .f32 h1, .float .f32 v1], 38)) (by simp)) Try.underlying38 rfl info_air) rfl ⟨rfl, kz.out.1⟩
    · obtain rfl : k = 30 := by omega
      have E := hg.out
      rw [show sett (30 - 30) h1 v1 g1 = (h1, v1, g1) from rfl] at E
      obtain ⟨rfl, rfl, rfl⟩ : h1 = H ∧ v1 = V ∧ g1 = G := by simpa using E
      go_wp2_with (first | (refine wpList_load_row rfl 38 _ rfl (w.heap.size) rfl 38 (#[.float .f32 h1, .float .f32 v1]) (0, 0) _ (hK.out.at (x := (w.heap.size, #[.float .f32 h1, .float .f32 v1], 38)) (by simp)) Try.underlying38 rfl (info_air) ?_) | (have _t := hK; refine store_kept (w0 := w) (l := [(w.heap.size, #[.float .f32 h1, .float .f32 v1], 38)]) rfl 38 _ _ rfl (w.heap.size + 1) (#[.float .f32 h1, .float .f32 v1]) rfl rfl 38 (#[.float .f32 0, .float .f32 0]) (hK.out.sub (by intro x hx; simp only [List.mem_cons, List.not_mem_nil, or_false] at hx; rcases hx with rfl | rfl <;> simp)) (by omega) (by simp) (info_air) (by simp) (by simp [Value.oneCell']) ?_; intro wkz kz; have kz := hid kz))
      exact bodyPost_ret (results_row_tmp rfl _ _ (w.heap.size + 1) 38 (#[.float .f32 h1, .float .f32 v1]) (0, 0) _ rfl (kz.out.at (x := (w.heap.size + 1, #[.float .f32 h1, .float .f32 v1], 38)) (by simp)) Try.underlying38 rfl info_air) rfl ⟨rfl, kz.out.1⟩

set_option maxRecDepth 100000 in
theorem sSettleAir_ok (h v : Nat) (hx : h < 4294967296) (hq : airB h v = true) (H V G : Nat) (hs : sett 30 h v 0 = (H, V, G)) (w : World) :
    Calls Try.prog 77 #[.agg #[.float .f32 h, .float .f32 v]] w fun e w' => e = .returned (.tuple #[.agg #[.float .f32 H, .float .f32 V], .float .f32 G, .int .i64 0]) ∧ Below w.heap.size w w' := by
  have k0 : Hid (Kept w [(w.heap.size + 1, #[.float .f32 0, .float .f32 0], 38), (w.heap.size, #[.float .f32 h, .float .f32 v], 38)] ((w.alloc (.cells #[.float .f32 h, .float .f32 v] 38)).alloc (.cells #[.float .f32 0, .float .f32 0] 38))) := hid ((((Kept.nil w).push _ _).push _ _).sub (by simp))
  have HX := hid hx
  have HQ := hid hq
  have HS := hid hs
  have hr := (set_ok hx hq).1
  unfold setH setV at hr
  rw [hs] at hr
  have HR := hid (show airB H V = true from hr)
  clear hx hq hs hr
  go_enter Try.func77, Try.ntmps77
  go_wp2_with fail
  refine (sAirOk_t h v HQ.out _ w.heap.size 38 (k0.out.at (x := (w.heap.size, _, _)) (by simp))).mono ?_
  rintro e w1 ⟨rfl, rfl⟩
  go_wp2_with (refine wpList_load_row rfl 38 _ rfl (w.heap.size) rfl 38 (#[.float .f32 h, .float .f32 v]) (0, 0) _ (k0.out.at (x := (w.heap.size, #[.float .f32 h, .float .f32 v], 38)) (by simp)) Try.underlying38 rfl (info_air) ?_)
  refine (sSettle h v HX.out HQ.out H V G HS.out _).mono ?_
  rintro e w2 ⟨rfl, hb2⟩
  have k2 := hid (k0.out.stay hb2)
  have k3 := hid (k2.out.push #[.float .f32 H, .float .f32 V] 38)
  clear k0 hb2 k2
  go_wp2_with fail
  refine (sAirOk_t H V HR.out _ w2.heap.size 38 (k3.out.at (x := (w2.heap.size, _, _)) (by simp))).mono ?_
  rintro e w3 ⟨rfl, rfl⟩
  go_wp2_with (first | (refine wpList_load_row rfl 38 _ rfl (w2.heap.size) rfl 38 (#[.float .f32 H, .float .f32 V]) (0, 0) _ (k3.out.at (x := (w2.heap.size, #[.float .f32 H, .float .f32 V], 38)) (by simp)) Try.underlying38 rfl (info_air) ?_) | (have _t := k3; refine store_kept (w0 := w) (l := []) rfl 38 _ _ rfl (w.heap.size + 1) (#[.float .f32 H, .float .f32 V]) rfl rfl 38 (#[.float .f32 0, .float .f32 0]) (k3.out.sub (by intro x hx; simp only [List.mem_cons, List.not_mem_nil, or_false] at hx; rcases hx with rfl <;> simp)) (by omega) (by simp) (info_air) (by simp) (by simp [Value.oneCell']) ?_; intro wkz kz; have kz := hid kz))
  exact bodyPost_ret (results_row_tmp2 rfl _ _ (w.heap.size + 1) 38 (#[.float .f32 H, .float .f32 V]) (0, 0) _ rfl (kz.out.at (x := (w.heap.size + 1, #[.float .f32 H, .float .f32 V], 38)) (by simp)) Try.underlying38 rfl info_air) rfl ⟨rfl, kz.out.1⟩

set_option maxRecDepth 100000 in
theorem sSettleAir_bad (h v : Nat) (hv : v < 4294967296) (hq : airB h v = false) (w : World) :
    Calls Try.prog 77 #[.agg #[.float .f32 h, .float .f32 v]] w fun e w' => e = .returned (.tuple #[.agg #[.float .f32 0, .float .f32 0], .float .f32 0, .int .i64 1]) ∧ Below w.heap.size w w' := by
  have k0 : Hid (Kept w [(w.heap.size + 1, #[.float .f32 0, .float .f32 0], 38), (w.heap.size, #[.float .f32 h, .float .f32 v], 38)] ((w.alloc (.cells #[.float .f32 h, .float .f32 v] 38)).alloc (.cells #[.float .f32 0, .float .f32 0] 38))) := hid ((((Kept.nil w).push _ _).push _ _).sub (by simp))
  have HV := hid hv
  have HQ := hid hq
  clear hv hq
  go_enter Try.func77, Try.ntmps77
  go_wp2_with fail
  refine (sAirOk_f h v HV.out HQ.out _ w.heap.size 38 (k0.out.at (x := (w.heap.size, _, _)) (by simp))).mono ?_
  rintro e w1 ⟨rfl, hb1⟩
  have k1 := hid (k0.out.stay hb1)
  clear k0 hb1
  go_wp2_with (refine store_kept (w0 := w) (l := []) rfl 38 _ _ rfl (w.heap.size + 1) (#[.float .f32 0, .float .f32 0]) rfl rfl 38 (#[.float .f32 0, .float .f32 0]) (k1.out.sub (by intro x hx; simp only [List.mem_cons, List.not_mem_nil, or_false] at hx; rcases hx with rfl <;> simp)) (by omega) (by simp) (info_air) (by simp) (by simp [Value.oneCell']) ?_; intro wkz kz; have kz := hid kz)
  exact bodyPost_ret (results_row_tmp2 rfl _ _ (w.heap.size + 1) 38 (#[.float .f32 0, .float .f32 0]) (0, 0) _ rfl (kz.out.at (x := (w.heap.size + 1, #[.float .f32 0, .float .f32 0], 38)) (by simp)) Try.underlying38 rfl info_air) rfl ⟨rfl, kz.out.1⟩

set_option maxRecDepth 100000 in
theorem coreSettleAir (x0h x0v : Nat) (r0h r0v : Nat) (hlr0h : r0h < 4294967296) (hfr0h : finB r0h = true) (hlr0v : r0v < 4294967296) (hfr0v : finB r0v = true) (r1 : Nat) (hl1 : r1 < 4294967296) (hf1 : finB r1 = true) (r2 : Int)
    (hS : ∀ w, Calls Try.prog 77 #[.agg #[.float .f32 x0h, .float .f32 x0v]] w fun e w' => e = .returned (.tuple #[.agg #[.float .f32 r0h, .float .f32 r0v], .float .f32 r1, .int .i64 r2]) ∧ Below w.heap.size w w')
    (hI : ∀ w, Calls Try.prog 78 #[.agg #[.float .f32 x0h, .float .f32 x0v]] w fun e w' => e = .returned (.tuple #[.agg #[.float .f32 r0h, .float .f32 r0v], .float .f32 r1, .int .i64 r2]) ∧ Below w.heap.size w w') (w : World) :
    Calls Try.prog 17 #[.agg #[.float .f32 x0h, .float .f32 x0v]] w fun e w' => e = .returned (.bool true) ∧ Below w.heap.size w w' := by
  have k0 : Hid (Kept w [(w.heap.size, #[.float .f32 x0h, .float .f32 x0v], 37)] (w.alloc (.cells (#[.float .f32 x0h, .float .f32 x0v]) 37))) := hid ((Kept.nil w).push (#[.float .f32 x0h, .float .f32 x0v]) 37)
  have HS := hid hS
  have HI := hid hI
  clear hS hI
  have hcr0h := fun w => run_conv_wid (P := Try.prog) w 22 26 r0h hlr0h Try.underlying22 Try.underlying26 (finB_iff.1 hfr0h)
  have Hlr0h := hid hlr0h
  have Hfr0h := hid hfr0h
  clear hlr0h hfr0h
  have hcr0v := fun w => run_conv_wid (P := Try.prog) w 22 26 r0v hlr0v Try.underlying22 Try.underlying26 (finB_iff.1 hfr0v)
  have Hlr0v := hid hlr0v
  have Hfr0v := hid hfr0v
  clear hlr0v hfr0v
  have hc1 := fun w => run_conv_wid (P := Try.prog) w 22 26 r1 hl1 Try.underlying22 Try.underlying26 (finB_iff.1 hf1)
  have Hl1 := hid hl1
  have Hf1 := hid hf1
  clear hl1 hf1
  all_goals
    go_enter Try.func17, Try.ntmps17
    go_wp2_with (refine wpList_load_row rfl 37 _ rfl (w.heap.size) rfl 37 (#[.float .f32 x0h, .float .f32 x0v]) (0, 0) _ (k0.out.at (x := (w.heap.size, #[.float .f32 x0h, .float .f32 x0v], 37)) (by simp)) Try.underlying37 rfl (info_lair) ?_)
    refine (toAir _ _ _).mono ?_
    rintro e u0 ⟨rfl, hb0⟩
    have k1 := hid (k0.out.stay hb0)
    clear hb0
    go_wp2_with fail
    refine (HS.out _).mono ?_
    rintro e u1 ⟨rfl, hb1⟩
    have k2 := hid (k1.out.stay hb1)
    clear hb1
    have mk2 := hid (k2.out.push #[.float .f32 r0h, .float .f32 r0v] 38)
    go_wp2_with (refine wpList_load_row rfl 37 _ rfl (w.heap.size) rfl 37 (#[.float .f32 x0h, .float .f32 x0v]) (0, 0) _ (mk2.out.at (x := (w.heap.size, #[.float .f32 x0h, .float .f32 x0v], 37)) (by simp)) Try.underlying37 rfl (info_lair) ?_)
    refine (toAir _ _ _).mono ?_
    rintro e u2 ⟨rfl, hb2⟩
    have k3 := hid (mk2.out.stay hb2)
    clear hb2
    go_wp2_with fail
    refine (HI.out _).mono ?_
    rintro e u3 ⟨rfl, hb3⟩
    have k4 := hid (k3.out.stay hb3)
    clear hb3
    have mk4 := hid (k4.out.push #[.float .f32 r0h, .float .f32 r0v] 38)
    go_wp2_with (first | (refine wpList_load_row rfl 38 _ rfl (u3.heap.size) rfl 38 (#[.float .f32 r0h, .float .f32 r0v]) (0, 0) _ (mk4.out.at (x := (u3.heap.size, #[.float .f32 r0h, .float .f32 r0v], 38)) (by simp)) Try.underlying38 rfl (info_air) ?_) | (refine wpList_load_row rfl 38 _ rfl (u1.heap.size) rfl 38 (#[.float .f32 r0h, .float .f32 r0v]) (0, 0) _ (mk4.out.at (x := (u1.heap.size, #[.float .f32 r0h, .float .f32 r0v], 38)) (by simp)) Try.underlying38 rfl (info_air) ?_))
    refine (eqAir r0h r0v Hlr0h.out Hlr0v.out Hfr0h.out Hfr0v.out _).mono ?_
    rintro e u4 ⟨rfl, hb4⟩
    have k5 := hid (mk4.out.stay hb4)
    go_wp2_with fail
    refine (sameFloat r1 Hl1.out Hf1.out _).mono ?_
    rintro e z1 ⟨rfl, rfl⟩
    go_wp2
    go_ret
    exact ⟨rfl, k5.out.1⟩

theorem lawSettleAir (h v : Nat) (hx : h < 4294967296) (hv : v < 4294967296) (w : World) :
    Calls Try.prog 17 #[.agg #[.float .f32 h, .float .f32 v]] w fun e w' => e = .returned (.bool true) ∧ Below w.heap.size w w' := by
  rcases hq : airB h v with _ | _
  · exact coreSettleAir h v 0 0 (by decide) (by decide) (by decide) (by decide) 0 (by decide) (by decide) 1 (sSettleAir_bad h v hv hq) (iSettle_bad h v hv hq) w
  · obtain ⟨H, V, G, hs⟩ : ∃ H V G, sett 30 h v 0 = (H, V, G) := ⟨_, _, _, rfl⟩
    obtain ⟨a1, a2, a3⟩ := set_ok hx hq
    unfold setH setV setG at *
    rw [hs] at a1 a2 a3
    obtain ⟨b1, b2, b3⟩ := airB_iff.1 a1
    exact coreSettleAir h v H V a2 (heat_fin a2 b1) (amt_lt b2) (amt_fin b2) G (amt_lt a3) (amt_fin a3) 0 (sSettleAir_ok h v hx hq H V G hs) (iSettle_ok h v hx hq H V G hs) w

theorem words_cons : ∀ (v : List Char) (r : List Char), (∀ c ∈ v, c ≠ Char.ofNat 32) → wordsSigns (v ++ Char.ofNat 32 :: r) = v :: wordsSigns r
  | [], r, _ => rfl
  | c :: v, r, h => by
    have ih := words_cons v r (fun x hx => h x (by simp [hx]))
    have hc : c ≠ Char.ofNat 32 := h c (by simp)
    show wordsSigns (c :: (v ++ Char.ofNat 32 :: r)) = _
    rw [wordsSigns.eq_3 _ _ (fun e => hc e), ih]

def w0 : List Nat := [104, 97, 114, 110, 101, 115, 115]

def w1 : List Nat := [52, 52, 52, 55, 100, 49, 55, 54, 55, 100, 52, 57, 98, 51, 52, 55, 48, 49, 101, 48, 102, 51, 48, 51, 97, 48, 54, 51, 97, 100, 56, 98, 53, 54, 56, 52, 57, 100, 101, 53, 102, 54, 51, 50, 101, 48, 55, 52, 97, 53, 55, 101, 57, 51, 102, 53, 55, 101, 50, 50, 56, 50, 97, 55]

def w2 : List Nat := [99, 117, 116]

def w3 : List Nat := [97, 116, 32, 108, 111, 111, 112, 46, 101, 120, 97, 109, 112, 108, 101, 47, 103, 48, 49, 50, 50, 52, 47, 108, 97, 119, 115, 46, 70, 110, 69, 120, 97, 99, 116, 84, 104, 105, 114, 100, 82, 111, 111, 116, 32, 108, 111, 111, 112, 46, 101, 120, 97, 109, 112, 108, 101, 47, 103, 48, 49, 50, 50, 52, 47, 108, 97, 119, 115, 46, 70, 110, 69, 120, 97, 99, 116, 83, 104, 105, 102, 116, 77, 97, 115, 115, 101, 115, 32, 108, 111, 111, 112, 46, 101, 120, 97, 109, 112, 108, 101, 47, 103, 48, 49, 50, 50, 52, 47, 108, 97, 119, 115, 46, 70, 110, 69, 120, 97, 99, 116, 71, 114, 111, 119, 79, 110, 99, 101, 32, 108, 111, 111, 112, 46, 101, 120, 97, 109, 112, 108, 101, 47, 103, 48, 49, 50, 50, 52, 47, 108, 97, 119, 115, 46, 70, 110, 69, 120, 97, 99, 116, 71, 114, 111, 119, 83, 116, 101, 112, 115, 32, 108, 111, 111, 112, 46, 101, 120, 97, 109, 112, 108, 101, 47, 103, 48, 49, 50, 50, 52, 47, 108, 97, 119, 115, 46, 70, 110, 69, 120, 97, 99, 116, 83, 116, 101, 112, 115, 84, 111, 68, 114, 121, 32, 108, 111, 111, 112, 46, 101, 120, 97, 109, 112, 108, 101, 47, 103, 48, 49, 50, 50, 52, 47, 108, 97, 119, 115, 46, 70, 110, 69, 120, 97, 99, 116, 69, 118, 101, 110, 116, 115, 79, 102, 32, 108, 111, 111, 112, 46, 101, 120, 97, 109, 112, 108, 101, 47, 103, 48, 49, 50, 50, 52, 47, 108, 97, 119, 115, 46, 70, 110, 69, 120, 97, 99, 116, 76, 111, 115, 115, 101, 115, 79, 102, 32, 108, 111, 111, 112, 46, 101, 120, 97, 109, 112, 108, 101, 47, 103, 48, 49, 50, 50, 52, 47, 108, 97, 119, 115, 46, 70, 110, 69, 120, 97, 99, 116, 67, 111, 108, 108, 105, 100, 101, 32, 108, 111, 111, 112, 46, 101, 120, 97, 109, 112, 108, 101, 47, 103, 48, 49, 50, 50, 52, 47, 108, 97, 119, 115, 46, 70, 110, 69, 120, 97, 99, 116, 67, 111, 108, 108, 105, 100, 101, 83, 116, 101, 112, 115, 32, 108, 111, 111, 112, 46, 101, 120, 97, 109, 112, 108, 101, 47, 103, 48, 49, 50, 50, 52, 47, 108, 97, 119, 115, 46, 70, 110, 69, 120, 97, 99, 116, 82, 97, 105, 110, 77, 97, 100, 101, 32, 108, 111, 111, 112, 46, 101, 120, 97, 109, 112, 108, 101, 47, 103, 48, 49, 50, 50, 52, 47, 108, 97, 119, 115, 46, 70, 110, 69, 120, 97, 99, 116, 67, 111, 108, 108, 105, 100, 101, 80, 97, 105, 114, 115, 32, 108, 111, 111, 112, 46, 101, 120, 97, 109, 112, 108, 101, 47, 103, 48, 49, 50, 50, 52, 47, 108, 97, 119, 115, 46, 70, 110, 69, 120, 97, 99, 116, 68, 114, 97, 119, 80, 97, 105, 114, 115, 32, 108, 111, 111, 112, 46, 101, 120, 97, 109, 112, 108, 101, 47, 103, 48, 49, 50, 50, 52, 47, 108, 97, 119, 115, 46, 70, 110, 69, 120, 97, 99, 116, 86, 97, 108, 105, 100, 80, 97, 114, 99, 101, 108, 32, 108, 111, 111, 112, 46, 101, 120, 97, 109, 112, 108, 101, 47, 103, 48, 49, 50, 50, 52, 47, 108, 97, 119, 115, 46, 70, 110, 69, 120, 97, 99, 116, 83, 97, 109, 101, 80, 97, 114, 99, 101, 108, 32, 108, 111, 111, 112, 46, 101, 120, 97, 109, 112, 108, 101, 47, 103, 48, 49, 50, 50, 52, 47, 108, 97, 119, 115, 46, 70, 110, 69, 120, 97, 99, 116, 83, 101, 116, 116, 108, 101, 65, 105, 114, 32, 108, 111, 111, 112, 46, 101, 120, 97, 109, 112, 108, 101, 47, 103, 48, 49, 50, 50, 52, 47, 108, 97, 119, 115, 46, 70, 110, 69, 120, 97, 99, 116, 82, 97, 105, 115, 101, 68, 114, 121, 32, 108, 111, 111, 112, 46, 101, 120, 97, 109, 112, 108, 101, 47, 103, 48, 49, 50, 50, 52, 47, 108, 97, 119, 115, 46, 70, 110, 69, 120, 97, 99, 116, 82, 97, 105, 115, 101, 77, 111, 105, 115, 116, 32, 108, 111, 111, 112, 46, 101, 120, 97, 109, 112, 108, 101, 47, 103, 48, 49, 50, 50, 52, 47, 108, 97, 119, 115, 46, 70, 110, 69, 120, 97, 99, 116, 66, 97, 115, 101, 79, 102, 32, 108, 111, 111, 112, 46, 101, 120, 97, 109, 112, 108, 101, 47, 103, 48, 49, 50, 50, 52, 47, 108, 97, 119, 115, 46, 70, 110, 69, 120, 97, 99, 116, 77, 105, 120, 80, 97, 114, 99, 101, 108, 115, 32, 108, 111, 111, 112, 46, 101, 120, 97, 109, 112, 108, 101, 47, 103, 48, 49, 50, 50, 52, 47, 108, 97, 119, 115, 46, 70, 110, 69, 120, 97, 99, 116, 86, 97, 108, 105, 100, 83, 111, 117, 110, 100, 105, 110, 103, 32, 108, 111, 111, 112, 46, 101, 120, 97, 109, 112, 108, 101, 47, 103, 48, 49, 50, 50, 52, 47, 108, 97, 119, 115, 46, 70, 110, 69, 120, 97, 99, 116, 83, 97, 109, 101, 83, 111, 117, 110, 100, 105, 110, 103, 32, 108, 111, 111, 112, 46, 101, 120, 97, 109, 112, 108, 101, 47, 103, 48, 49, 50, 50, 52, 47, 108, 97, 119, 115, 46, 70, 110, 69, 120, 97, 99, 116, 69, 118, 101, 110, 83, 111, 117, 110, 100, 105, 110, 103, 32, 108, 111, 111, 112, 46, 101, 120, 97, 109, 112, 108, 101, 47, 103, 48, 49, 50, 50, 52, 47, 108, 97, 119, 115, 46, 70, 110, 69, 120, 97, 99, 116, 65, 105, 114, 65, 116, 32, 108, 111, 111, 112, 46, 101, 120, 97, 109, 112, 108, 101, 47, 103, 48, 49, 50, 50, 52, 47, 108, 97, 119, 115, 46, 70, 110, 69, 120, 97, 99, 116, 76, 105, 102, 116, 79, 102, 32, 108, 111, 111, 112, 46, 101, 120, 97, 109, 112, 108, 101, 47, 103, 48, 49, 50, 50, 52, 47, 108, 97, 119, 115, 46, 70, 110, 69, 120, 97, 99, 116, 82, 105, 115, 101, 73, 110, 32, 108, 111, 111, 112, 46, 101, 120, 97, 109, 112, 108, 101, 47, 103, 48, 49, 50, 50, 52, 47, 108, 97, 119, 115, 46, 70, 110, 69, 120, 97, 99, 116, 70, 105, 114, 115, 116, 85, 110, 115, 116, 101, 97, 100, 121, 32, 108, 111, 111, 112, 46, 101, 120, 97, 109, 112, 108, 101, 47, 103, 48, 49, 50, 50, 52, 47, 108, 97, 119, 115, 46, 70, 110, 69, 120, 97, 99, 116, 83, 116, 101, 97, 100, 121, 83, 111, 117, 110, 100, 105, 110, 103, 32, 108, 111, 111, 112, 46, 101, 120, 97, 109, 112, 108, 101, 47, 103, 48, 49, 50, 50, 52, 47, 108, 97, 119, 115, 46, 70, 110, 69, 120, 97, 99, 116, 87, 97, 114, 109, 76, 111, 119, 101, 115, 116, 32, 108, 111, 111, 112, 46, 101, 120, 97, 109, 112, 108, 101, 47, 103, 48, 49, 50, 50, 52, 47, 108, 97, 119, 115, 46, 70, 110, 69, 120, 97, 99, 116, 86, 97, 112, 111, 117, 114, 65, 98, 111, 118, 101, 32, 108, 111, 111, 112, 46, 101, 120, 97, 109, 112, 108, 101, 47, 103, 48, 49, 50, 50, 52, 47, 108, 97, 119, 115, 46, 70, 110, 69, 120, 97, 99, 116, 72, 101, 105, 103, 104, 116, 79, 102, 72, 101, 97, 116]

def letters (l : List Nat) : List Char := l.map Char.ofNat

theorem head_reads : Try.prog.initOrder = String.ofList (letters w0 ++ Char.ofNat 32 :: (letters w1 ++ Char.ofNat 32 :: (letters w2 ++ Char.ofNat 32 :: letters w3))) := by kernel_rfl

theorem no_blank {l : List Nat} (h : l.all (fun n => Char.ofNat n != Char.ofNat 32) = true) : ∀ c ∈ letters l, c ≠ Char.ofNat 32 := by
  intro c hc
  obtain ⟨n, hn, rfl⟩ := List.mem_map.1 hc
  have := List.all_eq_true.1 h n hn
  simpa using this

theorem h0 : letters w0 = "harness".toList := by kernel_rfl

theorem h2 : letters w2 = "cut".toList := by kernel_rfl

theorem sums : isSumSigns (letters w1) = true := by kernel_rfl

theorem words : wordsSigns Try.prog.initOrder.toList = "harness".toList :: letters w1 :: "cut".toList :: wordsSigns (letters w3) := by
  rw [head_reads, String.toList_ofList, words_cons _ _ (no_blank (by decide +kernel)), words_cons _ _ (no_blank (by decide +kernel)), words_cons _ _ (no_blank (by decide +kernel)), h0, h2]

theorem behind : ∃ r, behindMainWord (wordsSigns Try.prog.initOrder.toList) = "cut".toList :: r := by
  refine ⟨wordsSigns (letters w3), ?_⟩
  rw [words]
  generalize wordsSigns (letters w3) = r
  have hs := sums
  generalize letters w1 = v at hs
  unfold behindMainWord
  simp [hs]

theorem not_later : Try.prog.laysLater = false := by kernel_rfl

theorem no_reflect : Try.prog.bearsReflect = false := by kernel_rfl

theorem no_doors : Try.prog.doorFits [] = true := by kernel_rfl

theorem strips (r : List (List Char)) : stripLifts liftWords ("cut".toList :: r) = ([], "cut".toList :: r) := by kernel_rfl

theorem may_enter_of (P : Program) (r : List (List Char)) (h : behindMainWord (wordsSigns P.initOrder.toList) = "cut".toList :: r) (h1 : P.laysLater = false) (h2 : P.bearsReflect = false) (h3 : P.doorFits [] = true) : P.mayEnter = true := by
  unfold Program.mayEnter
  rw [h]
  dsimp only
  rw [strips, h1, h2, h3]
  kernel_rfl

theorem lifts_final_of (P : Program) (r : List (List Char)) (h : behindMainWord (wordsSigns P.initOrder.toList) = "cut".toList :: r) : P.liftsFinal = false := by
  unfold Program.liftsFinal Program.headLifts
  rw [h]
  dsimp only
  rw [strips]
  kernel_rfl

theorem made_of (P : Program) (r : List (List Char)) (h : behindMainWord (wordsSigns P.initOrder.toList) = "cut".toList :: r) : P.make = some .cut := by
  unfold Program.make
  rw [h]
  kernel_rfl

theorem may_enter : Try.prog.mayEnter = true := let ⟨r, h⟩ := behind; may_enter_of _ r h not_later no_reflect no_doors

theorem lifts_final : Try.prog.liftsFinal = false := let ⟨r, h⟩ := behind; lifts_final_of _ r h

theorem made : Try.prog.make = some .cut := let ⟨r, h⟩ := behind; made_of _ r h

theorem laid : laidOutB Try.prog = true := by kernel_rfl

theorem rowed : mapsRowed Try.prog = true := by kernel_rfl

theorem no_stops : Try.prog.stops = [] := by kernel_rfl

theorem no_knobs : Try.prog.stopKnobs = [] := by kernel_rfl

theorem plain_keys : Try.prog.plainKeys = false := by kernel_rfl

theorem stops_heard : Try.prog.stopsHeard = true := by kernel_rfl

theorem arr1 {α : Type} {cs : Array α} (h : cs.size = 1) : ∃ c0, cs = #[c0] := by
  obtain ⟨l⟩ := cs
  match l, h with
  | [a], _ => exact ⟨a, rfl⟩

theorem own : ownKnob Try.prog.godebug = none := by kernel_rfl

theorem cells2 : Try.prog.cellsOf 37 = 2 := by kernel_rfl

theorem types2 : Try.prog.cellTypes Try.prog.depth 37 = some [22, 22] := by kernel_rfl

theorem rdA : Try.prog.readableRec 37 = true ∧ 37 < Try.prog.types.size := ⟨by kernel_rfl, of_decide_eq_true (by kernel_rfl)⟩
end Go.Proofs.Ytlccmhkjfnmdiaa

namespace Go.Proofs.Ytlccmhkjfnmdiaa.fnExactSettleAir
open Go.RowKit Go.Fl Go.ChangeShapes Go.WideShapes Go.ChangeAt

set_option maxHeartbeats 2000000 in
theorem closed : joinedFacts Try.prog 17 Try.f17 Rows.fnExactSettleAirSpec Rows.fnExactSettleAirRow = true := by
  unfold joinedFacts
  simp only [Bool.and_eq_true]
  exact ⟨⟨⟨⟨⟨⟨⟨⟨⟨⟨⟨⟨⟨⟨⟨⟨⟨⟨⟨⟨⟨⟨⟨⟨⟨⟨⟨⟨⟨⟨⟨(by as_aux_lemma => kernel_rfl),
    laid⟩,
    rowed⟩,
    (by as_aux_lemma => kernel_rfl)⟩,
    (by as_aux_lemma => kernel_rfl)⟩,
    (by as_aux_lemma => kernel_rfl)⟩,
    (by rw [no_stops]; rfl)⟩,
    (by as_aux_lemma => kernel_rfl)⟩,
    (by rw [no_knobs]; rfl)⟩,
    (by as_aux_lemma => kernel_rfl)⟩,
    (by as_aux_lemma => kernel_rfl)⟩,
    (by as_aux_lemma => kernel_rfl)⟩,
    (by as_aux_lemma => kernel_rfl)⟩,
    (by as_aux_lemma => kernel_rfl)⟩,
    (by as_aux_lemma => kernel_rfl)⟩,
    (by as_aux_lemma => kernel_rfl)⟩,
    (by as_aux_lemma => kernel_rfl)⟩,
    (by as_aux_lemma => kernel_rfl)⟩,
    (by as_aux_lemma => kernel_rfl)⟩,
    (by as_aux_lemma => kernel_rfl)⟩,
    (by as_aux_lemma => kernel_rfl)⟩,
    (by as_aux_lemma => kernel_rfl)⟩,
    (show (Rows.fnExactSettleAirRow.plainKeys == Try.prog.plainKeys) = true by rw [plain_keys]; rfl)⟩,
    (by as_aux_lemma => kernel_rfl)⟩,
    stops_heard⟩,
    may_enter⟩,
    (show (Rows.fnExactSettleAirRow.lifted == Try.prog.liftsFinal) = true by rw [lifts_final]; rfl)⟩,
    (show (Try.prog.make == some Rows.fnExactSettleAirRow.make) = true by rw [made]; rfl)⟩,
    (by as_aux_lemma => kernel_rfl)⟩,
    (by as_aux_lemma => kernel_rfl)⟩,
    (by as_aux_lemma => kernel_rfl)⟩,
    (by as_aux_lemma => kernel_rfl)⟩

set_option maxRecDepth 100000 in
theorem lifted (os : Os) (started : os.Started) (H : Type) (enc : TypeId × Value → H) :
    ReturnsInHanded {} Try.checked os 17 .any (Rows.fnExactSettleAirSpec.pre6 enc Try.prog Try.f17 Rows.fnExactSettleAirRow.domain false) (Rows.fnExactSettleAirSpec.post enc Try.prog Try.f17 false true false false) := by
  refine LawFrame.lifted (C := Try.checked) (fn := Try.f17) (n := 1) (tb := 4) started own (by kernel_rfl) Try.func17 laid ?_ rfl rfl ?_ rfl Try.underlying4
    (ChangeSpec.witness6 (enc := enc) (C := Try.checked) false ⟨#[], #[.agg #[.float .f32 0, .float .f32 0]], []⟩ 8 (by kernel_rfl) (by kernel_rfl) (by kernel_rfl) (by kernel_rfl)) ?_
  · intro t ht
    simp only [Try.params17, List.mem_cons, List.not_mem_nil, or_false] at ht
    subst ht; exact rdA
  · intro ds hd
    match ds, hd with
    | [_], _ => rfl
  · intro W base args ds ps hval hn _
    obtain ⟨v0, rfl⟩ : ∃ v0, args = #[v0] := arr1 hn
    obtain ⟨c0h, c0v, rfl, hh0, hv0⟩ := open_two Try.underlying37 Try.underlying22 cells2 types2 (hval 0 37 v0 rfl rfl)
    exact lawSettleAir c0h c0v hh0 hv0 W

theorem over : Rows.fnExactSettleAirRow.holds Try.pinned (OpenSpec.ofChange Rows.fnExactSettleAirSpec) :=
  OpenClaim.holds_of_wide 17 Try.f17 rfl rfl rfl rfl rfl rfl rfl ⟨rfl, rfl, rfl, rfl, rfl⟩ rfl rfl rfl rfl rfl (by kernel_rfl) Try.func17 closed
    (of_decide_eq_true (by kernel_rfl)) (by unfold Func.isWrapper; rw [if_neg (by decide +kernel)]; exact ⟨rfl, rfl⟩)
    (fun os started H enc _ => lifted os started H enc)

theorem proved : Rows.FnExactSettleAirSaid := over
#print axioms proved
end Go.Proofs.Ytlccmhkjfnmdiaa.fnExactSettleAir
