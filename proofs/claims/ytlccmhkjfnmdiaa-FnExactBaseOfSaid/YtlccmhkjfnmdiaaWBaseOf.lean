import Derived.Test.YtlccmhkjfnmdiaaBBaseOf
import Derived.Test.YtlccmhkjfnmdiaaChecked
import Derived.Test.YtlccmhkjfnmdiaaRows
import Derived.Laws.FloatArith
import Derived.ProofKit
import Derived.WalkKit
import Derived.WalkLawsBesides
import Derived.WalkSpells
import Derived.Deep.QuietTactic
import Derived.BigQuiet
import Derived.Deep.RegionHeld3
import Derived.ChangeKeysEq
import Derived.Laws.BitsAllLaws
import Derived.Deep.MidRow
import Derived.Deep.WholeRow
import Derived.StillTailTactics
import Derived.OpenShut
import Derived.Deep.Slices
import Derived.ChangeSame
/- The law FnExactBaseOf of chapter 1: at every argument the call returns true, and what was there before it is as it was. -/
namespace Go.Proofs.Ytlccmhkjfnmdiaa
open Go.RowKit Go.Fl

@[go_sem] theorem ext_f64bits (y : Nat) (w : World) : (callFunc 260 #[.float .f64 y]).run Try.prog w = .ok (.value (.int .u64 y)) w := by
  rw [run_callFunc_extern Try.func260 (by kernel_rfl) (by kernel_rfl) (by kernel_rfl) (e := Extern.MathFloatBits.float64bits) (by kernel_rfl)]
  rfl

@[go_sem] theorem ext_f64from (n : Int) (w : World) : (callFunc 273 #[.int .u64 n]).run Try.prog w = .ok (.value (.float .f64 n.toNat)) w := by
  rw [run_callFunc_extern Try.func273 (by kernel_rfl) (by kernel_rfl) (by kernel_rfl) (e := Extern.MathFloatBits.float64frombits) (by kernel_rfl)]
  rfl

theorem hid {p : Prop} (h : p) : Hid p := h

theorem clear_sign (y : Nat) (h : y < 18446744073709551616) : (bits BinOp.andNot IntKind.u64 (y : Int) 9223372036854775808).toNat = y % 9223372036854775808 := by
  rw [u64_andNot _ _ (by omega) (by omega) (by omega) (by omega)]
  rw [Int.toNat_natCast, Int.toNat_natCast]
  exact Nat.and_two_pow_sub_one_eq_mod y 63

theorem abs_f64 (y : Nat) (h : y < 18446744073709551616) (w : World) :
    Calls Try.prog 262 #[.float .f64 y] w fun e w' => e = .returned (.float .f64 (y % 9223372036854775808)) ∧ w = w' := by
  have hc := hid (clear_sign y h)
  clear h
  go_enter Try.func262, Try.ntmps262
  go_wp2
  go_ret
  exact ⟨by simp [hc.out], rfl⟩

theorem isNaN_f64 (y : Nat) (w : World) :
    Calls Try.prog 216 #[.float .f64 y] w fun e w' => e = .returned (.bool (FloatKind.f64.format.order y y != some .eq)) ∧ w = w' := by
  go_enter Try.func216, Try.ntmps216
  go_wp2
  go_ret
  exact ⟨rfl, rfl⟩

theorem isInf_f64 (y : Nat) (h : y < 18446744073709551616) (w : World) :
    Calls Try.prog 217 #[.float .f64 y, .int .i64 0] w fun e w' => e = .returned (.bool (FloatKind.f64.format.order (y % 9223372036854775808) 9218868437227405311 == some .gt)) ∧ w = w' := by
  have hc := hid h
  clear h
  go_enter Try.func217, Try.ntmps217
  go_wp2_with (go_at_call 262; refine (abs_f64 y hc.out _).mono ?_; rintro e w' ⟨rfl, rfl⟩)
  go_ret
  exact ⟨rfl, rfl⟩

theorem isFinite_t (x : Nat) (hx : x < 4294967296) (h : finB x = true) (w : World) :
    Calls Try.prog 123 #[.float .f32 x] w fun e w' => e = .returned (.bool true) ∧ w = w' := by
  rw [finB_iff] at h
  have hc := fun w => run_conv_wid (P := Try.prog) w 22 26 x hx Try.underlying22 Try.underlying26 h
  obtain ⟨a, b, m, e, hr⟩ := read_wid_fin hx h
  have hn : (FloatKind.f64.format.order (wid x) (wid x) != some .eq) = false := by
    show (D.order (wid x) (wid x) != some .eq) = false
    rw [order_self hr]; rfl
  have hi : (FloatKind.f64.format.order (wid x % 9223372036854775808) 9218868437227405311 == some .gt) = false := by
    show (D.order (wid x % 9223372036854775808) 9218868437227405311 == some .gt) = false
    rw [b, order_ltD a (by decide)]
    rw [DINF_val] at a
    have hle : wid (mg x) ≤ 9218868437227405311 := by omega
    rcases Nat.lt_or_eq_of_le hle with h' | h'
    · rw [Nat.compare_eq_lt.2 h']; rfl
    · rw [Nat.compare_eq_eq.2 h']; rfl
  have hw : wid x < 18446744073709551616 := D.write_lt _
  have Hn := hid hn
  have Hi := hid hi
  have Hw := hid hw
  clear hn hi hw hr a b h hx
  go_enter Try.func123, Try.ntmps123
  go_wp2_with (first | (go_at_call 216; refine (isNaN_f64 (wid x) _).mono ?_; rintro e w' ⟨rfl, rfl⟩; rw [Hn.out]) | (go_at_call 217; refine (isInf_f64 (wid x) Hw.out _).mono ?_; rintro e w' ⟨rfl, rfl⟩; rw [Hi.out]))
  go_ret
  exact ⟨rfl, rfl⟩

theorem isFinite_f (x : Nat) (hx : x < 4294967296) (h : finB x = false) (w : World) :
    Calls Try.prog 123 #[.float .f32 x] w fun e w' => e = .returned (.bool false) ∧ Below w.heap.size w w' := by
  rw [finB_iff'] at h
  rcases Nat.lt_or_eq_of_le h with h | h
  · obtain ⟨z, hc, h1, _⟩ := run_conv_nan (P := Try.prog) w 22 26 x Try.underlying22 Try.underlying26 h
    obtain ⟨s, t, hr⟩ := read_nanD h1
    have Hn := hid (show (FloatKind.f64.format.order z z != some .eq) = true by
      show (D.order z z != some .eq) = true
      rw [order_nan hr]; rfl)
    clear h h1 hr hx
    go_enter Try.func123, Try.ntmps123
    go_wp2_with (go_at_call 216; refine (isNaN_f64 z _).mono ?_; rintro e w' ⟨rfl, rfl⟩; rw [Hn.out])
    go_ret
    exact ⟨rfl, (Below.refl _ _).drew⟩
  · obtain ⟨z, hc, h1, h2⟩ := run_conv_inf (P := Try.prog) w 22 26 x hx Try.underlying22 Try.underlying26 h.symm
    have hr : D.read z = .infinity (decide (9223372036854775808 ≤ z)) := by rw [read_signD h2, h1, read_DINF]
    have Hn := hid (show (FloatKind.f64.format.order z z != some .eq) = false by
      show (D.order z z != some .eq) = false
      rw [order_inf hr]; rfl)
    have Hi := hid (show (FloatKind.f64.format.order (z % 9223372036854775808) 9218868437227405311 == some .gt) = true by
      rw [h1]; decide)
    have H2 := hid h2
    clear h h1 hr hx h2
    go_enter Try.func123, Try.ntmps123
    go_wp2_with (first | (go_at_call 216; refine (isNaN_f64 z _).mono ?_; rintro e w' ⟨rfl, rfl⟩; rw [Hn.out]) | (go_at_call 217; refine (isInf_f64 z H2.out _).mono ?_; rintro e w' ⟨rfl, rfl⟩; rw [Hi.out]))
    go_ret
    exact ⟨rfl, Below.refl _ _⟩

theorem signbit_f64 (y : Nat) (w : World) :
    Calls Try.prog 211 #[.float .f64 y] w fun e w' => e = .returned (.bool (decide (wrap64 (y : Int) < 0))) ∧ w = w' := by
  go_enter Try.func211, Try.ntmps211
  go_wp2
  go_ret
  exact ⟨rfl, rfl⟩

theorem and_sign (y : Nat) (h : y < 18446744073709551616) : (decide (wrap64 (y : Int) < 0)) = decide (9223372036854775808 ≤ y) := by
  unfold wrap64
  by_cases h' : 9223372036854775808 ≤ y
  · rw [decide_eq_true h']; simp; omega
  · rw [decide_eq_false h']; simp; omega

theorem isAmount_t (x : Nat) (h : amtB x = true) (w : World) :
    Calls Try.prog 117 #[.float .f32 x] w fun e w' => e = .returned (.bool true) ∧ w = w' := by
  have hf := amt_fin h
  rw [amtB_iff, INF_val] at h
  have hx : x < 4294967296 := by omega
  have hc := fun w => run_conv_wid (P := Try.prog) w 22 26 x hx Try.underlying22 Try.underlying26 (finB_iff.1 hf)
  have hw : wid x < 18446744073709551616 := D.write_lt _
  have Hs := hid (show (decide (wrap64 (wid x : Int) < 0)) = false by
    rw [and_sign _ hw]
    have := (wid_val (x := x) (by rw [INF_val]; omega)).1
    rw [DINF_val] at this
    simp; omega)
  have Hx := hid hx
  have Hf := hid hf
  clear h hf hx hw
  go_enter Try.func117, Try.ntmps117
  go_wp2_with (first | (go_at_call 123; refine (isFinite_t x Hx.out Hf.out _).mono ?_; rintro e w' ⟨rfl, rfl⟩) | (go_at_call 211; refine (signbit_f64 (wid x) _).mono ?_; rintro e w' ⟨rfl, rfl⟩; rw [Hs.out]))
  go_ret
  exact ⟨rfl, rfl⟩

theorem isAmount_f (x : Nat) (hx : x < 4294967296) (h : amtB x = false) (w : World) :
    Calls Try.prog 117 #[.float .f32 x] w fun e w' => e = .returned (.bool false) ∧ Below w.heap.size w w' := by
  rcases hf : finB x with _ | _
  · have Hx := hid hx
    have Hf := hid hf
    clear h hf hx
    go_enter Try.func117, Try.ntmps117
    go_wp2_with (go_at_call 123; refine (isFinite_f x Hx.out Hf.out _).mono ?_; rintro e w' ⟨rfl, hb⟩)
    go_ret
    exact ⟨rfl, hb⟩
  · have hc := fun w => run_conv_wid (P := Try.prog) w 22 26 x hx Try.underlying22 Try.underlying26 (finB_iff.1 hf)
    have hw : wid x < 18446744073709551616 := D.write_lt _
    have Hs := hid (show (decide (wrap64 (wid x : Int) < 0)) = true by
      rw [and_sign _ hw, wid_fin hx (finB_iff.1 hf)]
      rw [amtB_iff', INF_val] at h
      rw [finB_iff, INF_val] at hf
      unfold mg at hf ⊢
      rw [if_pos (by omega)]
      simp)
    have Hx := hid hx
    have Hf := hid hf
    clear h hf hx hw
    go_enter Try.func117, Try.ntmps117
    go_wp2_with (first | (go_at_call 123; refine (isFinite_t x Hx.out Hf.out _).mono ?_; rintro e w' ⟨rfl, rfl⟩) | (go_at_call 211; refine (signbit_f64 (wid x) _).mono ?_; rintro e w' ⟨rfl, rfl⟩; rw [Hs.out]))
    go_ret
    exact ⟨rfl, Below.refl _ _⟩

@[go_sem] theorem ext_f32bits (y : Nat) (w : World) : (callFunc 210 #[.float .f32 y]).run Try.prog w = .ok (.value (.int .u32 y)) w := by
  rw [run_callFunc_extern Try.func210 (by kernel_rfl) (by kernel_rfl) (by kernel_rfl) (e := Extern.MathFloatBits.float32bits) (by kernel_rfl)]
  rfl

theorem sFinite_t (x : Nat) (hx : x < 4294967296) (h : finB x = true) (w : World) :
    Calls Try.prog 120 #[.float .f32 x] w fun e w' => e = .returned (.bool true) ∧ w = w' := by
  have hr := fun w => run_float_arith (P := Try.prog) w .sub 22 .f32 x x 0 (sub_self_fin hx h)
  clear h hx
  go_enter Try.func120, Try.ntmps120
  go_wp2
  go_ret
  exact ⟨rfl, rfl⟩

theorem sFinite_f (x : Nat) (hx : x < 4294967296) (h : finB x = false) (w : World) :
    Calls Try.prog 120 #[.float .f32 x] w fun e w' => e = .returned (.bool false) ∧ Below w.heap.size w w' := by
  obtain ⟨z, hr, h1, _⟩ := run_arith_nan (P := Try.prog) w .sub (by simp) 22 x x (sub_self_none hx h)
  have Hn := hid (show (FloatKind.f32.format.order z 0 == some .eq) = false by
    show (S.order z 0 == some .eq) = false
    rw [order_nan32 h1]; rfl)
  clear h hx h1
  go_enter Try.func120, Try.ntmps120
  go_wp2
  go_ret
  exact ⟨by simp [Hn.out], (Below.refl _ _).drew⟩

theorem sAmount_t (x : Nat) (h : amtB x = true) (w : World) :
    Calls Try.prog 115 #[.float .f32 x] w fun e w' => e = .returned (.bool true) ∧ w = w' := by
  have hf := amt_fin h
  have h' := amtB_iff.1 h
  have hx : x < 4294967296 := by rw [INF_val] at h'; omega
  have Hx := hid hx
  have Hf := hid hf
  by_cases h0 : x = 0
  · subst h0
    clear h hf h' hx
    go_enter Try.func115, Try.ntmps115
    go_wp2_with (go_at_call 120; refine (sFinite_t 0 Hx.out Hf.out _).mono ?_; rintro e w' ⟨rfl, rfl⟩)
    go_ret
    exact ⟨rfl, rfl⟩
  · have hg : (FloatKind.f32.format.order x 0 == some .gt) = true := by
      show (S.order x 0 == some .gt) = true
      rw [order_zero_pos h', Nat.compare_eq_gt.2 (by omega)]; rfl
    clear h hf h' hx h0
    go_enter Try.func115, Try.ntmps115
    go_wp2_with (go_at_call 120; refine (sFinite_t x Hx.out Hf.out _).mono ?_; rintro e w' ⟨rfl, rfl⟩)
    go_ret
    exact ⟨rfl, rfl⟩

theorem sAmount_f (x : Nat) (hx : x < 4294967296) (h : amtB x = false) (w : World) :
    Calls Try.prog 115 #[.float .f32 x] w fun e w' => e = .returned (.bool false) ∧ Below w.heap.size w w' := by
  rcases hf : finB x with _ | _
  · have Hx := hid hx
    have Hf := hid hf
    clear h hf hx
    go_enter Try.func115, Try.ntmps115
    go_wp2_with (go_at_call 120; refine (sFinite_f x Hx.out Hf.out _).mono ?_; rintro e w' ⟨rfl, hb⟩)
    go_ret
    exact ⟨rfl, hb⟩
  · have hs : 2147483648 ≤ x := by
      rw [amtB_iff', INF_val] at h
      have := finB_iff.1 hf
      rw [INF_val] at this
      unfold mg at this
      omega
    have hg : (FloatKind.f32.format.order x 0 == some .gt) = false := order_neg_zero hx hf hs
    have hb : ((x : Int) == 0) = false := by simp; omega
    have Hx := hid hx
    have Hf := hid hf
    clear h hf hx hs
    go_enter Try.func115, Try.ntmps115
    go_wp2_with (go_at_call 120; refine (sFinite_t x Hx.out Hf.out _).mono ?_; rintro e w' ⟨rfl, rfl⟩)
    go_ret
    exact ⟨rfl, Below.refl _ _⟩

theorem div_one_some {y m : Nat} {s : Bool} {e : Int} (h : D.read y = .number s m e) : ∃ q, floatBits .quo .f64 4607182418800017408 y = some q := by
  have h1 : D.read 4607182418800017408 = .number false 4503599627370496 (-52) := by decide
  show ∃ q, D.div 4607182418800017408 y = some q
  unfold Ieee.Format.div
  rw [h, h1]
  simp only [Ieee.Datum.quotient]
  by_cases hm : m = 0
  · rw [if_pos hm]; exact ⟨_, rfl⟩
  · rw [if_neg hm]; exact ⟨_, rfl⟩

set_option maxRecDepth 100000 in
theorem sameFloat (x : Nat) (hx : x < 4294967296) (h : finB x = true) (w : World) :
    Calls Try.prog 35 #[.float .f64 (wid x), .float .f64 (wid x)] w fun e w' => e = .returned (.bool true) ∧ w = w' := by
  obtain ⟨a, b, m, e, hr⟩ := read_wid_fin hx (finB_iff.1 h)
  have hn : (FloatKind.f64.format.order (wid x) (wid x) != some .eq) = false := by
    show (D.order (wid x) (wid x) != some .eq) = false
    rw [order_self hr]; rfl
  have hq : (FloatKind.f64.format.order (wid x) (wid x) == some .eq) = true := by
    show (D.order (wid x) (wid x) == some .eq) = true
    rw [order_self hr]; rfl
  obtain ⟨q, hd⟩ := div_one_some hr
  have hdiv := fun w => run_float_arith (P := Try.prog) w .quo 26 .f64 4607182418800017408 (wid x) q hd
  clear hd hr a b h hx
  rcases hz : (FloatKind.f64.format.order (wid x) 0 == some .eq) with _ | _
  · go_enter Try.func35, Try.ntmps35
    go_wp2
    go_ret
    exact ⟨by simp, rfl⟩
  · go_enter Try.func35, Try.ntmps35
    go_wp2
    go_ret
    exact ⟨by simp, rfl⟩

theorem back {P : Program} {f : FuncId} {args : Array Value} {w : World} {v : Value} (h : Calls P f args w fun e w' => e = .returned v ∧ w = w') : Calls P f args w fun e w' => e = .returned v ∧ w' = w :=
  h.mono fun _ _ ⟨a, b⟩ => ⟨a, b.symm⟩

theorem loose {P : Program} {f : FuncId} {args : Array Value} {w : World} {v : Value} (h : Calls P f args w fun e w' => e = .returned v ∧ w = w') : Calls P f args w fun e w' => e = .returned v ∧ Below w.heap.size w w' :=
  h.mono fun _ _ ⟨a, b⟩ => ⟨a, b ▸ Below.refl _ _⟩

theorem info_air : (Try.prog.info? 38).map (·.size) = some 2 := by kernel_rfl

theorem info_lair : (Try.prog.info? 37).map (·.size) = some 2 := by kernel_rfl

def fltOf : Value → Nat
  | .float _ b => b
  | _ => 0

set_option maxRecDepth 100000 in
theorem toAir (h v : Nat) (w : World) :
    Calls Try.prog 42 #[.agg #[.float .f32 h, .float .f32 v]] w fun e w' => e = .returned (.agg #[.float .f32 h, .float .f32 v]) ∧ Below w.heap.size w w' := by
  have k0 : Hid (Kept w [(w.heap.size + 1, #[.float .f32 h, .float .f32 v], 38)] (((w.alloc (.cells #[.float .f32 h, .float .f32 v] 37)).alloc (.cells #[.float .f32 h, .float .f32 v] 38)).alloc (.cells #[.float .f32 h, .float .f32 v] 38))) := hid (((((Kept.nil w).push _ _).push _ _).push _ _).sub (by simp))
  go_enter Try.func42, Try.ntmps42
  go_wp2
  exact bodyPost_ret (results_cell_row rfl _ _ (w.heap.size + 1) 38 #[.float .f32 h, .float .f32 v] (0, 0) _ rfl (k0.out.at (x := (w.heap.size + 1, #[.float .f32 h, .float .f32 v], 38)) (by simp)) Try.underlying38 rfl info_air) rfl ⟨rfl, k0.out.1⟩

theorem iHeat (x : Nat) (q : Bool) (hq : heatB x = q) (w : World) :
    Calls Try.prog 241 #[.float .f32 x] w fun e w' => e = .returned (.bool q) ∧ w = w' := by
  have h1 : heatB x = ((FloatKind.f32.format.order x 3262119936 == some .gt || FloatKind.f32.format.order x 3262119936 == some .eq) && (FloatKind.f32.format.order x 1114636288 == some .lt || FloatKind.f32.format.order x 1114636288 == some .eq)) := rfl
  rw [h1] at hq
  clear h1
  rcases a : (FloatKind.f32.format.order x 3262119936 == some .gt || FloatKind.f32.format.order x 3262119936 == some .eq) with _ | _
  · rw [a] at hq
    simp only [Bool.false_and] at hq
    subst hq
    go_enter Try.func241, Try.ntmps241
    go_wp2
    go_ret
    exact ⟨rfl, rfl⟩
  · rw [a] at hq
    simp only [Bool.true_and] at hq
    cases q
    all_goals
      go_enter Try.func241, Try.ntmps241
      go_wp2
      go_ret
      exact ⟨rfl, rfl⟩

theorem sHeat (x : Nat) (q : Bool) (hq : heatB x = q) (w : World) :
    Calls Try.prog 221 #[.float .f32 x] w fun e w' => e = .returned (.bool q) ∧ w = w' := by
  have h1 : heatB x = ((FloatKind.f32.format.order x 3262119936 == some .gt || FloatKind.f32.format.order x 3262119936 == some .eq) && (FloatKind.f32.format.order x 1114636288 == some .lt || FloatKind.f32.format.order x 1114636288 == some .eq)) := rfl
  rw [h1] at hq
  clear h1
  rcases a : (FloatKind.f32.format.order x 3262119936 == some .gt || FloatKind.f32.format.order x 3262119936 == some .eq) with _ | _
  · rw [a] at hq
    simp only [Bool.false_and] at hq
    subst hq
    go_enter Try.func221, Try.ntmps221
    go_wp2
    go_ret
    exact ⟨rfl, rfl⟩
  · rw [a] at hq
    simp only [Bool.true_and] at hq
    cases q
    all_goals
      go_enter Try.func221, Try.ntmps221
      go_wp2
      go_ret
      exact ⟨rfl, rfl⟩

set_option maxRecDepth 100000 in
theorem iValidAir (h v : Nat) (hv : v < 4294967296) (q : Bool) (hq : airB h v = q) (w : World) :
    Calls Try.prog 170 #[.agg #[.float .f32 h, .float .f32 v]] w fun e w' => e = .returned (.bool q) ∧ Below w.heap.size w w' := by
  have b0 := boxed w (.cells #[.float .f32 h, .float .f32 v] 38)
  have Hv := hid hv
  have e1 : airB h v = (heatB h && amtB v && vapB v) := rfl
  rw [e1] at hq
  clear hv e1
  rcases a : heatB h with _ | _
  · have Ha := hid a
    rw [a] at hq
    simp only [Bool.false_and] at hq
    subst hq
    clear a
    go_enter Try.func170, Try.ntmps170
    go_wp2_with fail
    refine (iHeat h false Ha.out _).mono ?_
    rintro e w1 ⟨rfl, rfl⟩
    go_wp2
    go_ret
    exact ⟨rfl, b0⟩
  · have Ha := hid a
    rw [a] at hq
    clear a
    rcases b : amtB v with _ | _
    · have Hb := hid b
      rw [b] at hq
      simp only [Bool.and_false, Bool.false_and] at hq
      subst hq
      clear b
      go_enter Try.func170, Try.ntmps170
      go_wp2_with fail
      refine (iHeat h true Ha.out _).mono ?_
      rintro e w1 ⟨rfl, rfl⟩
      go_wp2_with fail
      refine (isAmount_f v Hv.out Hb.out _).mono ?_
      rintro e w1 ⟨rfl, hb1⟩
      go_wp2
      go_ret
      exact ⟨rfl, stp b0 (Nat.le_refl _) hb1⟩
    · have Hb := hid b
      rw [b] at hq
      simp only [Bool.true_and] at hq
      have hc : (FloatKind.f32.format.order v 1148846080 == some .lt || FloatKind.f32.format.order v 1148846080 == some .eq) = q := hq
      clear b hq
      cases q
      all_goals
        go_enter Try.func170, Try.ntmps170
        go_wp2_with fail
        refine (iHeat h true Ha.out _).mono ?_
        rintro e w1 ⟨rfl, rfl⟩
        go_wp2_with fail
        refine (isAmount_t v Hb.out _).mono ?_
        rintro e w1 ⟨rfl, rfl⟩
        go_wp2
        go_ret
        exact ⟨rfl, b0⟩

theorem ext_floor (X K : Nat) (h : D.write ((D.read X).integral .down) = K) (hn : ∃ s m e, D.read X = .number s m e) (w : World) : (callFunc 275 #[.float .f64 X]).run Try.prog w = .ok (.value (.float .f64 K)) w := by
  rw [run_callFunc_extern Try.func275 (by kernel_rfl) (by kernel_rfl) (by kernel_rfl) (e := Extern.MathFloor.toIntegral "math.archFloor" .down) (by kernel_rfl)]
  obtain ⟨s, m, e, hr⟩ := hn
  have hr' : FloatKind.f64.decode X = .number s m e := hr
  rw [hr] at h
  have h' : FloatKind.f64.encode ((Ieee.Datum.number s m e).integral .down) = K := h
  have e2 : (Extern.MathFloor.toIntegral "math.archFloor" .down #[.float .f64 X]).run Try.prog w = .ok (.float .f64 K) w := by
    rw [← h']
    show Sem.run _ (match FloatKind.f64.decode X with | .nan _ _ => _ | d => (pure (Value.float .f64 (FloatKind.f64.encode (d.integral .down))) : Sem Value)) w = _
    rw [hr']
    rfl
  rw [e2]
  rfl

theorem floor_f64 (X K : Nat) (h : D.write ((D.read X).integral .down) = K) (hn : ∃ s m e, D.read X = .number s m e) (w : World) :
    Calls Try.prog 268 #[.float .f64 X] w fun e w' => e = .returned (.float .f64 K) ∧ w = w' := by
  have hx := fun w => ext_floor X K h hn w
  clear h hn
  go_enter Try.func268, Try.ntmps268
  go_wp2
  go_ret
  exact ⟨rfl, rfl⟩

theorem normalize_f64 (y : Nat) (h0 : 4503599627370496 ≤ y) (h1 : y < 9218868437227405312) (w : World) :
    Calls Try.prog 281 #[.float .f64 y] w fun e w' => e = .returned (.tuple #[.float .f64 y, .int .i64 0]) ∧ w = w' := by
  have hl := hid (show y < 18446744073709551616 by omega)
  have hm : y % 9223372036854775808 = y := Nat.mod_eq_of_lt (by omega)
  have hc : (FloatKind.f64.format.order y 4503599627370496 == some .lt) = false := by
    show (D.order y 4503599627370496 == some .lt) = false
    rw [order_ltD (by rw [DINF_val]; omega) (by rw [DINF_val]; decide)]
    rcases Nat.lt_or_eq_of_le h0 with h | h
    · rw [Nat.compare_eq_gt.2 h]; rfl
    · rw [Nat.compare_eq_eq.2 h.symm]; rfl
  have Hm := hid hm
  clear h0 h1 hm
  go_enter Try.func281, Try.ntmps281
  go_wp2_with fail
  refine (abs_f64 y hl.out _).mono ?_
  rintro e w1 ⟨rfl, rfl⟩
  rw [Hm.out]
  go_wp2
  go_ret2
  exact ⟨rfl, rfl⟩

theorem mul_ONE {r : Nat} (h : r < DINF) : D.mul 4607182418800017408 r = some r := by
  obtain ⟨m1, m2⟩ := mul_eqD (x := 4607182418800017408) (y := r) (by decide) (amtB_iffD.2 h)
  rw [m1, fmul_valD (by rw [DINF_val]; decide) h]
  refine congrArg some (Eq.trans (nearest_congrD (m' := valD r) (E := -1074) (E' := 0) 0 VONED (by have := VONED_val; omega) ?_) (nearest_valD h))
  rw [val_ONED, Nat.pow_zero, Nat.mul_one, Nat.mul_comm]

set_option maxRecDepth 100000 in
theorem ldexp_f64 (y : Nat) (n : Int) (h0 : 4607182418800017408 ≤ y) (h1 : y < 4688246992172703744) (t : Int) (R : Nat) (E : Exps y n t R) (hRf : R < DINF) (hn : -100 ≤ n) (hn2 : n ≤ 100) (w : World) :
    Calls Try.prog 278 #[.float .f64 y, .int .i64 n] w fun e w' => e = .returned (.float .f64 R) ∧ w = w' := by
  have hy0 : (FloatKind.f64.format.order y 0 == some .eq) = false := by
    show (D.order y 0 == some .eq) = false
    rw [order_ltD (by rw [DINF_val]; omega) (by rw [DINF_val]; decide), Nat.compare_eq_gt.2 (by omega)]; rfl
  have hl := hid (show y < 18446744073709551616 by omega)
  have hn1 := hid (show 4503599627370496 ≤ y by omega)
  have hn3 := hid (show y < 9218868437227405312 by omega)
  have hi := hid (show (FloatKind.f64.format.order (y % 9223372036854775808) 9218868437227405311 == some .gt) = false by
    rw [Nat.mod_eq_of_lt (by omega)]
    show (D.order y 9218868437227405311 == some .gt) = false
    rw [order_ltD (by rw [DINF_val]; omega) (by rw [DINF_val]; decide), Nat.compare_eq_lt.2 (by omega)]; rfl)
  have hq := hid (show (FloatKind.f64.format.order y y != some .eq) = false by
    show (D.order y y != some .eq) = false
    rw [order_ltD (by rw [DINF_val]; omega) (by rw [DINF_val]; omega), Nat.compare_eq_eq.2 rfl]; rfl)
  have hm := fun w => run_float_arith (P := Try.prog) w .mul 26 .f64 4607182418800017408 R R (mul_ONE hRf)
  obtain ⟨ht, d1, d2, d3, hR⟩ := E
  clear h0 h1 hRf
  go_enter Try.func278, Try.ntmps278
  go_wp2_with fail
  refine (isInf_f64 y hl.out _).mono ?_
  rintro e w1 ⟨rfl, rfl⟩
  rw [hi.out]
  go_wp2_with fail
  refine (isNaN_f64 y _).mono ?_
  rintro e w1 ⟨rfl, rfl⟩
  rw [hq.out]
  go_wp2_with fail
  refine (normalize_f64 y hn1.out hn3.out _).mono ?_
  rintro e w1 ⟨rfl, rfl⟩
  go_wp2
  go_ret
  exact ⟨rfl, rfl⟩

theorem Ldexp_f64 (y : Nat) (n : Int) (h0 : 4607182418800017408 ≤ y) (h1 : y < 4688246992172703744) (t : Int) (R : Nat) (E : Exps y n t R) (hRf : R < DINF) (hn : -100 ≤ n) (hn2 : n ≤ 100) (w : World) :
    Calls Try.prog 269 #[.float .f64 y, .int .i64 n] w fun e w' => e = .returned (.float .f64 R) ∧ w = w' := by
  have H0 := hid h0
  have H1 := hid h1
  have HE := hid E
  have HR := hid hRf
  have HN := hid hn
  have HN2 := hid hn2
  clear h0 h1 E hRf hn hn2
  go_enter Try.func269, Try.ntmps269
  go_wp2_with fail
  refine (ldexp_f64 y n H0.out H1.out t R HE.out HR.out HN.out HN2.out _).mono ?_
  rintro e w1 ⟨rfl, rfl⟩
  go_wp2
  go_ret
  exact ⟨rfl, rfl⟩

set_option maxRecDepth 100000 in
theorem iTwo (x j : Nat) (hx : x < 4294967296) (hf : finB x = true) (T : TwoF x j) (hj : j ≤ 100) (w : World) :
    Calls Try.prog 244 #[.float .f32 x] w fun e w' => e = .returned (.float .f32 (two x)) ∧ w = w' := by
  have hc := fun w => run_conv_wid (P := Try.prog) w 22 26 x hx Try.underlying22 Try.underlying26 (finB_iff.1 hf)
  have hs := fun w => run_float_arith (P := Try.prog) w .sub 26 .f64 _ _ _ T.sub
  have hm := fun w => run_float_arith (P := Try.prog) w .mul 26 .f64 _ _ _ T.mul
  have hi := fun w => run_convert_float_int (P := Try.prog) w 26 3 .f64 .i64 (kF x) (iF x) (by rw [Try.underlying26]; rfl) Try.underlying3 (iF_conv T hj)
  have ho := fun w => run_convert_float_float (P := Try.prog) w 26 22 .f64 .f32 (rF x) (two x) (by rw [Try.underlying26]; rfl) Try.underlying22 (two_bounds T hj).2.2
  have E := exps T.s1 T.s2 (iF_bd T hj).1 (iF_bd T hj).2
  rw [rF_word T hj] at E
  have HE := hid E
  have HT := hid T
  have HJ := hid hj
  clear hx hf T hj E
  go_enter Try.func244, Try.ntmps244
  go_wp2_with fail
  refine (floor_f64 (wid x) (kF x) HT.out.fl HT.out.num _).mono ?_
  rintro e w1 ⟨rfl, rfl⟩
  go_wp2_with fail
  go_loop [5, 6] (fun s i => ∃ m : Nat, m ≤ 14 ∧ i = .int .i64 m ∧ s = .float .f64 (ser (yF x) (14 - m))) (fun _ i => (intOf i).toNat)
  case atStart => exact ⟨14, by omega, rfl, rfl⟩
  case round =>
    obtain ⟨m, hm14, rfl, rfl⟩ := hrel
    by_cases h1 : 1 ≤ m
    · obtain ⟨q, p, s⟩ := term2 HT.out.y h1 hm14
      have q1 := fun w => run_float_arith (P := Try.prog) w .quo 26 .f64 _ _ _ q
      have q2 := fun w => run_float_arith (P := Try.prog) w .mul 26 .f64 _ _ _ p
      have q3 := fun w => run_float_arith (P := Try.prog) w .add 26 .f64 _ _ _ s
      clear q p s
      go_wp2
      go_round
      case rel => exact ⟨m - 1, by omega, by rw [show ((m - 1 : Nat) : Int) = (m : Int) - 1 by omega], rfl⟩
      case measure => simp [intOf]; omega
    · obtain rfl : m = 0 := by omega
      clear hs hm
      have hS : ser (yF x) (14 - 0) = sF x := rfl
      rw [hS]
      clear hS
      go_wp2_with fail
      refine (Ldexp_f64 (sF x) (iF x) HT.out.s1 HT.out.s2 _ (rF x) HE.out (rF_lt HT.out HJ.out) (iF_bd HT.out HJ.out).1 (iF_bd HT.out HJ.out).2 _).mono ?_
      rintro e w1 ⟨rfl, rfl⟩
      go_wp2
      go_ret
      exact ⟨rfl, rfl⟩

theorem s_pos {x j i : Nat} (T : TwoF x j) (hj : j ≤ 100) (hi : i < nF x) : D.mul (sF x + i * 4503599627370496) 4611686018427387904 = some (sF x + (i + 1) * 4503599627370496) := by
  have h := dbl (s := sF x + i * 4503599627370496) (by have := T.s1; omega) (by have := T.s2; have := T.n; rw [DINF_val]; omega)
  rw [h, Nat.add_mul i 1, Nat.one_mul, Nat.add_assoc]

theorem s_neg {x j i : Nat} (T : TwoF x j) (hj : j ≤ 100) (hi : i < nF x) : D.div (sF x - i * 4503599627370496) 4611686018427387904 = some (sF x - (i + 1) * 4503599627370496) := by
  have h := hlv (s := sF x - i * 4503599627370496) (by have := T.s1; have := T.n; omega) (by have := T.s2; rw [DINF_val]; omega)
  rw [h, Nat.add_mul i 1, Nat.one_mul, Nat.sub_sub]

set_option maxRecDepth 100000 in
set_option maxHeartbeats 1000000 in
theorem sTwo (x j : Nat) (hx : x < 4294967296) (hf : finB x = true) (T : TwoF x j) (hj : j ≤ 100) (w : World) :
    Calls Try.prog 272 #[.float .f32 x] w fun e w' => e = .returned (.float .f32 (two x)) ∧ w = w' := by
  have hc := fun w => run_conv_wid (P := Try.prog) w 22 26 x hx Try.underlying22 Try.underlying26 (finB_iff.1 hf)
  have hs := fun w => run_float_arith (P := Try.prog) w .sub 26 .f64 _ _ _ T.sub
  have hm := fun w => run_float_arith (P := Try.prog) w .mul 26 .f64 _ _ _ T.mul
  have ho := fun w => run_convert_float_float (P := Try.prog) w 26 22 .f64 .f32 (rF x) (two x) (by rw [Try.underlying26]; rfl) Try.underlying22 (two_bounds T hj).2.2
  have hn := hid (show nF x ≤ 100 by have := T.n; omega)
  have HT := hid T
  have HJ := hid hj
  have hk : kF x = kW (sgB x) (nF x) := rfl
  have hr : rF x = if sgB x = true then sF x - nF x * 4503599627370496 else sF x + nF x * 4503599627370496 := rfl
  have HK := hid hk
  have HR := hid hr
  clear hx hf T hj hk hr
  go_enter Try.func272, Try.ntmps272
  go_wp2_with fail
  refine (floor_f64 (wid x) (kF x) HT.out.fl HT.out.num _).mono ?_
  rintro e w1 ⟨rfl, rfl⟩
  go_wp2_with fail
  go_loop [5, 6] (fun s i => ∃ m : Nat, m ≤ 14 ∧ i = .int .i64 m ∧ s = .float .f64 (ser (yF x) (14 - m))) (fun _ i => (intOf i).toNat)
  case atStart => exact ⟨14, by omega, rfl, rfl⟩
  case round =>
    obtain ⟨m, hm14, rfl, rfl⟩ := hrel
    by_cases h1 : 1 ≤ m
    · obtain ⟨q, p, s⟩ := term2 HT.out.y h1 hm14
      have q1 := fun w => run_float_arith (P := Try.prog) w .quo 26 .f64 _ _ _ q
      have q2 := fun w => run_float_arith (P := Try.prog) w .mul 26 .f64 _ _ _ p
      have q3 := fun w => run_float_arith (P := Try.prog) w .add 26 .f64 _ _ _ s
      clear q p s
      go_wp2
      go_round
      case rel => exact ⟨m - 1, by omega, by rw [show ((m - 1 : Nat) : Int) = (m : Int) - 1 by omega], rfl⟩
      case measure => simp [intOf]; omega
    · obtain rfl : m = 0 := by omega
      clear hs hm
      have hS : ser (yF x) (14 - 0) = sF x := rfl
      rw [hS]
      clear hS
      rcases hsg : sgB x with _ | _
      · have hk0 : kF x = kW false (nF x - 0) := by rw [HK.out, hsg]; rfl
        have hr0 := HR.out
        rw [hsg, if_neg (by decide)] at hr0
        have HR0 := hid hr0
        rw [hk0]
        clear hr0 hsg hk0
        go_wp2
        go_loop [3, 5] (fun k s => ∃ i : Nat, i ≤ nF x ∧ k = .float .f64 (kW false (nF x - i)) ∧ s = .float .f64 (sF x + i * 4503599627370496)) (fun k _ => fltOf k)
        case atStart => exact ⟨0, by omega, rfl, by simp⟩
        case round =>
          obtain ⟨i, hi, rfl, rfl⟩ := hrel
          by_cases hlt : i < nF x
          · have K := kFacts (N := nF x - i) (by have := hn.out; omega)
            have q0 : (FloatKind.f64.format.order (kW false (nF x - i)) 0 == some .gt) = true := by
              show (D.order (kW false (nF x - i)) 0 == some .gt) = true
              rw [K.ordP, if_neg (by omega : ¬ nF x - i = 0)]; rfl
            have q1 := fun w => run_float_arith (P := Try.prog) w .mul 26 .f64 _ _ _ (s_pos HT.out HJ.out hlt)
            have q2 := fun w => run_float_arith (P := Try.prog) w .sub 26 .f64 _ _ _ (K.sub (by omega))
            have q3 := hid (show kW false (nF x - i - 1) < kW false (nF x - i) by
              have := kW_lt (N := nF x - i - 1) (by have := hn.out; omega)
              rwa [show nF x - i - 1 + 1 = nF x - i by omega] at this)
            clear K
            go_wp2
            go_round
            case rel => exact ⟨i + 1, by omega, by rw [show nF x - (i + 1) = nF x - i - 1 by omega], rfl⟩
            case measure => exact q3.out
          · obtain rfl : i = nF x := by omega
            rw [Nat.sub_self, ← HR0.out]
            have q0 : (FloatKind.f64.format.order (kW false 0) 0 == some .gt) = false := by decide +kernel
            have q1 : (FloatKind.f64.format.order (kW false 0) 0 == some .lt) = false := by decide +kernel
            go_wp2
            go_loop [3, 5] (fun k s => k = .float .f64 (kW false 0) ∧ s = .float .f64 (rF x)) (fun _ _ => 0)
            case atStart => exact ⟨rfl, rfl⟩
            case round =>
              obtain ⟨rfl, rfl⟩ := hrel
              go_wp2
              go_ret
              exact ⟨rfl, rfl⟩
      · have hk0 : kF x = kU (nF x) 0 := by
          rw [HK.out, hsg]
          unfold kU
          by_cases h0 : nF x = 0
          · rw [if_neg (by omega), if_pos h0, h0]
          · rw [if_pos (by omega)]; rfl
        have hr0 := HR.out
        rw [hsg, if_pos rfl] at hr0
        have HR0 := hid hr0
        rw [hk0]
        have q0 : (FloatKind.f64.format.order (kU (nF x) 0) 0 == some .gt) = false := by
          rw [← hk0, HK.out, hsg]
          show (D.order (kW true (nF x)) 0 == some .gt) = false
          rw [(kFacts hn.out).ordN]
          split <;> rfl
        clear hr0 hsg hk0
        go_wp2
        go_loop [3, 5] (fun k s => k = .float .f64 (kU (nF x) 0) ∧ s = .float .f64 (sF x)) (fun _ _ => 0)
        case atStart => exact ⟨rfl, rfl⟩
        case round =>
          obtain ⟨rfl, rfl⟩ := hrel
          go_wp2
          clear q0
          go_loop [3, 5] (fun k s => ∃ i : Nat, i ≤ nF x ∧ k = .float .f64 (kU (nF x) i) ∧ s = .float .f64 (sF x - i * 4503599627370496)) (fun k _ => fltOf k)
          case atStart => exact ⟨0, by omega, rfl, by simp⟩
          case round =>
            obtain ⟨i, hi, rfl, rfl⟩ := hrel
            by_cases hlt : i < nF x
            · obtain ⟨k1, k2, k3⟩ := kU_step hn.out hlt
              have q0 : (FloatKind.f64.format.order (kU (nF x) i) 0 == some .lt) = true := k3
              have q1 := fun w => run_float_arith (P := Try.prog) w .quo 26 .f64 _ _ _ (s_neg HT.out HJ.out hlt)
              have q2 := fun w => run_float_arith (P := Try.prog) w .add 26 .f64 _ _ _ k1
              have q3 := hid k2
              clear k1 k2 k3
              go_wp2
              go_round
              case rel => exact ⟨i + 1, by omega, rfl, rfl⟩
              case measure => exact q3.out
            · obtain rfl : i = nF x := by omega
              rw [← HR0.out]
              have q1 : (FloatKind.f64.format.order (kU (nF x) (nF x)) 0 == some .lt) = false := kU_end
              go_wp2
              go_ret
              exact ⟨rfl, rfl⟩

theorem iSat (h : Nat) (F : SatF h) (w : World) :
    Calls Try.prog 175 #[.float .f32 h] w fun e w' => e = .returned (.float .f32 (satF h)) ∧ w = w' := by
  have hd := fun w => run_float_arith (P := Try.prog) w .quo 22 .f32 _ _ _ F.div
  have hm := fun w => run_float_arith (P := Try.prog) w .mul 22 .f32 _ _ _ F.mul
  have HF := hid F
  clear F
  go_enter Try.func175, Try.ntmps175
  go_wp2_with fail
  refine (iTwo (hqF h) 16 HF.out.qlt HF.out.qfin HF.out.T (by decide) _).mono ?_
  rintro e w1 ⟨rfl, rfl⟩
  go_wp2
  go_ret
  exact ⟨rfl, rfl⟩

theorem sSat (h : Nat) (F : SatF h) (w : World) :
    Calls Try.prog 249 #[.float .f32 h] w fun e w' => e = .returned (.float .f32 (satF h)) ∧ w = w' := by
  have hd := fun w => run_float_arith (P := Try.prog) w .quo 22 .f32 _ _ _ F.div
  have hm := fun w => run_float_arith (P := Try.prog) w .mul 22 .f32 _ _ _ F.mul
  have HF := hid F
  clear F
  go_enter Try.func249, Try.ntmps249
  go_wp2_with fail
  refine (sTwo (hqF h) 16 HF.out.qlt HF.out.qfin HF.out.T (by decide) _).mono ?_
  rintro e w1 ⟨rfl, rfl⟩
  go_wp2
  go_ret
  exact ⟨rfl, rfl⟩

theorem info_par : (Try.prog.info? 85).map (·.size) = some 3 := by kernel_rfl

theorem info_lpar : (Try.prog.info? 82).map (·.size) = some 3 := by kernel_rfl

theorem iHgt (x : Nat) (hx : x < 4294967296) (q : Bool) (hq : hgtB x = q) (w : World) :
    Calls Try.prog 169 #[.float .f32 x] w fun e w' => e = .returned (.bool q) ∧ Below w.heap.size w w' := by
  have e1 : hgtB x = (amtB x && (FloatKind.f32.format.order x 1106247680 == some .lt || FloatKind.f32.format.order x 1106247680 == some .eq)) := rfl
  rw [e1] at hq
  have Hx := hid hx
  clear e1 hx
  rcases a : amtB x with _ | _
  · have Ha := hid a
    rw [a] at hq
    simp only [Bool.false_and] at hq
    subst hq
    clear a
    go_enter Try.func169, Try.ntmps169
    go_wp2_with fail
    refine (isAmount_f x Hx.out Ha.out _).mono ?_
    rintro e w1 ⟨rfl, hb1⟩
    go_wp2
    go_ret
    exact ⟨rfl, hb1⟩
  · have Ha := hid a
    rw [a] at hq
    simp only [Bool.true_and] at hq
    clear a
    cases q
    all_goals
      go_enter Try.func169, Try.ntmps169
      go_wp2_with fail
      refine (isAmount_t x Ha.out _).mono ?_
      rintro e w1 ⟨rfl, rfl⟩
      go_wp2
      go_ret
      exact ⟨rfl, Below.refl _ _⟩

theorem sHgt (x : Nat) (hx : x < 4294967296) (q : Bool) (hq : hgtB x = q) (w : World) :
    Calls Try.prog 176 #[.float .f32 x] w fun e w' => e = .returned (.bool q) ∧ Below w.heap.size w w' := by
  have e1 : hgtB x = (amtB x && (FloatKind.f32.format.order x 1106247680 == some .lt || FloatKind.f32.format.order x 1106247680 == some .eq)) := rfl
  rw [e1] at hq
  have Hx := hid hx
  clear e1 hx
  rcases a : amtB x with _ | _
  · have Ha := hid a
    rw [a] at hq
    simp only [Bool.false_and] at hq
    subst hq
    clear a
    go_enter Try.func176, Try.ntmps176
    go_wp2_with fail
    refine (sAmount_f x Hx.out Ha.out _).mono ?_
    rintro e w1 ⟨rfl, hb1⟩
    go_wp2
    go_ret
    exact ⟨rfl, hb1⟩
  · have Ha := hid a
    rw [a] at hq
    simp only [Bool.true_and] at hq
    clear a
    cases q
    all_goals
      go_enter Try.func176, Try.ntmps176
      go_wp2_with fail
      refine (sAmount_t x Ha.out _).mono ?_
      rintro e w1 ⟨rfl, rfl⟩
      go_wp2
      go_ret
      exact ⟨rfl, Below.refl _ _⟩

set_option maxRecDepth 100000 in
theorem sAirAt_f (h v : Nat) (hv : v < 4294967296) (hq : airB h v = false) (w : World) (g o : Nat) (c0 : w.cell? ⟨g, o, none⟩ = some (.float .f32 h)) (c1 : w.cell? ⟨g, o + 1, none⟩ = some (.float .f32 v)) :
    Calls Try.prog 126 #[.pointer (some ⟨g, o, none⟩)] w fun e w' => e = .returned (.bool false) ∧ Below w.heap.size w w' := by
  have Hv := hid hv
  have e1 : airB h v = (heatB h && amtB v && vapB v) := rfl
  rw [e1] at hq
  clear hv e1
  rcases a : heatB h with _ | _
  · have Ha := hid a
    clear a hq
    go_enter Try.func126, Try.ntmps126
    go_wp2_with fail
    refine (sHeat h false Ha.out _).mono ?_
    rintro e w1 ⟨rfl, rfl⟩
    go_wp2
    go_ret
    exact ⟨rfl, Below.refl _ _⟩
  · have Ha := hid a
    rw [a] at hq
    clear a
    rcases b : amtB v with _ | _
    · have Hb := hid b
      clear b hq
      go_enter Try.func126, Try.ntmps126
      go_wp2_with fail
      refine (sHeat h true Ha.out _).mono ?_
      rintro e w1 ⟨rfl, rfl⟩
      go_wp2_with fail
      refine (sAmount_f v Hv.out Hb.out _).mono ?_
      rintro e w1 ⟨rfl, hb1⟩
      go_wp2
      go_ret
      exact ⟨rfl, hb1⟩
    · have Hb := hid b
      rw [b] at hq
      simp only [Bool.true_and] at hq
      have hc : (FloatKind.f32.format.order v 1148846080 == some .lt || FloatKind.f32.format.order v 1148846080 == some .eq) = false := hq
      clear b hq
      go_enter Try.func126, Try.ntmps126
      go_wp2_with fail
      refine (sHeat h true Ha.out _).mono ?_
      rintro e w1 ⟨rfl, rfl⟩
      go_wp2_with fail
      refine (sAmount_t v Hb.out _).mono ?_
      rintro e w1 ⟨rfl, rfl⟩
      go_wp2
      go_ret
      exact ⟨rfl, Below.refl _ _⟩

set_option maxRecDepth 100000 in
theorem sAirAt_t (h v : Nat) (hq : airB h v = true) (w : World) (g o : Nat) (c0 : w.cell? ⟨g, o, none⟩ = some (.float .f32 h)) (c1 : w.cell? ⟨g, o + 1, none⟩ = some (.float .f32 v)) :
    Calls Try.prog 126 #[.pointer (some ⟨g, o, none⟩)] w fun e w' => e = .returned (.bool true) ∧ w = w' := by
  obtain ⟨a, b, c⟩ := airB_iff.1 hq
  have hc : (FloatKind.f32.format.order v 1148846080 == some .lt || FloatKind.f32.format.order v 1148846080 == some .eq) = true := c
  have Ha := hid a
  have Hb := hid b
  clear a b c hq
  go_enter Try.func126, Try.ntmps126
  go_wp2_with fail
  refine (sHeat h true Ha.out _).mono ?_
  rintro e w1 ⟨rfl, rfl⟩
  go_wp2_with fail
  refine (sAmount_t v Hb.out _).mono ?_
  rintro e w1 ⟨rfl, rfl⟩
  go_wp2
  go_ret
  exact ⟨rfl, rfl⟩

theorem sAirAt (h v : Nat) (hv : v < 4294967296) (q : Bool) (hq : airB h v = q) (w : World) (g o : Nat) (c0 : w.cell? ⟨g, o, none⟩ = some (.float .f32 h)) (c1 : w.cell? ⟨g, o + 1, none⟩ = some (.float .f32 v)) :
    Calls Try.prog 126 #[.pointer (some ⟨g, o, none⟩)] w fun e w' => e = .returned (.bool q) ∧ Below w.heap.size w w' := by
  cases q
  · exact sAirAt_f h v hv hq w g o c0 c1
  · exact loose (sAirAt_t h v hq w g o c0 c1)

set_option maxRecDepth 100000 in
theorem sParOk (a h v : Nat) (ha : a < 4294967296) (hv : v < 4294967296) (q : Bool) (hq : parB a h v = q) (w : World) (g : Nat) (T : TypeId) (hg : parAt w g a h v T) :
    Calls Try.prog 168 #[.pointer (some ⟨g, 0, none⟩)] w fun e w' => e = .returned (.bool q) ∧ Below w.heap.size w w' := by
  have c0 := hg.c0
  have G := hid hg
  have Ha := hid ha
  have Hv := hid hv
  have e1 : parB a h v = (hgtB a && airB h v) := rfl
  rw [e1] at hq
  clear ha hv e1 hg
  rcases x : hgtB a with _ | _
  · have Hx := hid x
    rw [x] at hq
    simp only [Bool.false_and] at hq
    subst hq
    clear x
    go_enter Try.func168, Try.ntmps168
    go_wp2_with fail
    refine (sHgt a Ha.out false Hx.out _).mono ?_
    rintro e w1 ⟨rfl, hb1⟩
    go_wp2
    go_ret
    exact ⟨rfl, hb1⟩
  · have Hx := hid x
    rw [x] at hq
    simp only [Bool.true_and] at hq
    have Hq := hid hq
    clear x hq
    go_enter Try.func168, Try.ntmps168
    go_wp2_with fail
    refine (sHgt a Ha.out true Hx.out _).mono ?_
    rintro e w1 ⟨rfl, hb1⟩
    have G1 := hid (G.out.stay hb1)
    go_wp2_with fail
    refine (sAirAt h v Hv.out q Hq.out _ g 1 G1.out.c1 G1.out.c2).mono ?_
    rintro e w2 ⟨rfl, hb2⟩
    cases q
    all_goals
      go_wp2
      go_ret
      exact ⟨rfl, stp hb1 (Nat.le_refl _) hb2⟩

set_option maxRecDepth 100000 in
theorem iValidParcel (a h v : Nat) (ha : a < 4294967296) (hv : v < 4294967296) (q : Bool) (hq : parB a h v = q) (w : World) :
    Calls Try.prog 74 #[.agg #[.float .f32 a, .float .f32 h, .float .f32 v]] w fun e w' => e = .returned (.bool q) ∧ Below w.heap.size w w' := by
  have b0 := boxed w (.cells #[.float .f32 a, .float .f32 h, .float .f32 v] 85)
  have A0 := hid (parAt.new w a h v 85)
  have Ha := hid ha
  have Hv := hid hv
  have e1 : parB a h v = (hgtB a && airB h v) := rfl
  rw [e1] at hq
  clear ha hv e1
  rcases x : hgtB a with _ | _
  · have Hx := hid x
    rw [x] at hq
    simp only [Bool.false_and] at hq
    subst hq
    clear x
    go_enter Try.func74, Try.ntmps74
    go_wp2_with fail
    refine (iHgt a Ha.out false Hx.out _).mono ?_
    rintro e w1 ⟨rfl, hb1⟩
    go_wp2
    go_ret
    exact ⟨rfl, stp b0 (Nat.le_refl _) hb1⟩
  · have Hx := hid x
    rw [x] at hq
    simp only [Bool.true_and] at hq
    have Hq := hid hq
    clear x hq
    go_enter Try.func74, Try.ntmps74
    go_wp2_with fail
    refine (iHgt a Ha.out true Hx.out _).mono ?_
    rintro e w1 ⟨rfl, hb1⟩
    have A1 := hid (A0.out.stay hb1)
    have b1 := stp b0 (Nat.le_refl _) hb1
    go_wp2_with (refine wpList_load_air (by rfl) 38 _ rfl w.heap.size rfl a h v 85 A1.out _ Try.underlying38 rfl info_air ?_)
    refine (iValidAir h v Hv.out q Hq.out _).mono ?_
    rintro e w2 ⟨rfl, hb2⟩
    cases q
    all_goals
      go_wp2
      go_ret
      exact ⟨rfl, stp b1 (Nat.le_refl _) hb2⟩

set_option maxRecDepth 100000 in
theorem toParcel (a h v : Nat) (w : World) :
    Calls Try.prog 73 #[.agg #[.float .f32 a, .float .f32 h, .float .f32 v]] w fun e w' => e = .returned (.agg #[.float .f32 a, .float .f32 h, .float .f32 v]) ∧ Below w.heap.size w w' := by
  have k0 : Hid (Kept w [(w.heap.size + 1 + 1, #[.float .f32 a, .float .f32 0, .float .f32 0], 85), (w.heap.size + 1, #[.float .f32 0, .float .f32 0, .float .f32 0], 85)] (((w.alloc (.cells #[.float .f32 a, .float .f32 h, .float .f32 v] 82)).alloc (.cells #[.float .f32 0, .float .f32 0, .float .f32 0] 85)).alloc (.cells #[.float .f32 a, .float .f32 0, .float .f32 0] 85))) := hid (((((Kept.nil w).push _ _).push _ _).push _ _).sub (by simp))
  have A0 : Hid (parAt (((w.alloc (.cells #[.float .f32 a, .float .f32 h, .float .f32 v] 82)).alloc (.cells #[.float .f32 0, .float .f32 0, .float .f32 0] 85)).alloc (.cells #[.float .f32 a, .float .f32 0, .float .f32 0] 85)) w.heap.size a h v 82) := hid (((((Kept.nil w).push _ _).push _ _).push _ _).at (x := (w.heap.size, #[.float .f32 a, .float .f32 h, .float .f32 v], 82)) (by simp))
  go_enter Try.func73, Try.ntmps73
  go_wp2_with (refine wpList_load_air (by rfl) 37 _ rfl w.heap.size rfl a h v 82 A0.out _ Try.underlying37 rfl info_lair ?_)
  refine (toAir h v _).mono ?_
  rintro e w1 ⟨rfl, hb1⟩
  have k1 := hid (k0.out.stay hb1)
  clear k0 A0 hb1
  have tok1 : True := trivial
  go_wp2_with (first | (have _t := tok1; refine store_air (w0 := w) (l := [(w.heap.size + 1, #[.float .f32 0, .float .f32 0, .float .f32 0], 85)]) rfl 38 _ _ rfl (w.heap.size + 1 + 1) rfl h v rfl a 0 0 85 k1.out (by omega) (by simp) info_air ?_; intro w2 k2; have k2 := hid k2; clear tok1) | (have _t := k2; refine wpList_load_row rfl 85 _ rfl (w.heap.size + 1 + 1) rfl 85 (#[.float .f32 a, .float .f32 h, .float .f32 v]) (0, 0) _ (k2.out.at (x := (w.heap.size + 1 + 1, #[.float .f32 a, .float .f32 h, .float .f32 v], 85)) (by simp)) Try.underlying85 rfl (info_par) ?_) | (have _t := k2; refine store_kept (w0 := w) (l := []) rfl 85 _ _ rfl (w.heap.size + 1) (#[.float .f32 a, .float .f32 h, .float .f32 v]) rfl rfl 85 (#[.float .f32 0, .float .f32 0, .float .f32 0]) (k2.out.sub (by simp)) (by omega) (by simp) (info_par) (by simp) (by simp [Value.oneCell']) ?_; intro w3 k3; have k3 := hid k3))
  exact bodyPost_ret (results_cell_row rfl _ _ (w.heap.size + 1) 85 #[.float .f32 a, .float .f32 h, .float .f32 v] (0, 0) _ rfl (k3.out.at (x := (w.heap.size + 1, #[.float .f32 a, .float .f32 h, .float .f32 v], 85)) (by simp)) Try.underlying85 rfl info_par) rfl ⟨rfl, k3.out.1⟩

set_option maxHeartbeats 1000000 in
set_option maxRecDepth 100000 in
theorem iExcessAt (a h v y : Nat) (D : DryF a h v y) (w : World) :
    Calls Try.prog 183 #[.agg #[.float .f32 a, .float .f32 h, .float .f32 v], .float .f32 y] w fun e w' => e = .returned (.float .f32 (exW a h v y)) ∧ Below w.heap.size w w' := by
  have k0 : Hid (Kept w [(w.heap.size, #[.float .f32 a, .float .f32 h, .float .f32 v], 85)] (w.alloc (.cells #[.float .f32 a, .float .f32 h, .float .f32 v] 85))) := hid ((Kept.nil w).push _ _)
  have A0 : parAt (w.alloc (.cells #[.float .f32 a, .float .f32 h, .float .f32 v] 85)) w.heap.size a h v 85 := k0.out.at (x := (w.heap.size, _, _)) (by simp)
  have c0 := A0.c0
  have c1 := A0.c1
  have c2 := A0.c2
  clear A0
  have q1 := fun w => run_float_arith (P := Try.prog) w .sub 22 .f32 _ _ _ D.s1
  have q2 := fun w => run_float_arith (P := Try.prog) w .mul 22 .f32 _ _ _ D.s2
  have q3 := fun w => run_float_arith (P := Try.prog) w .sub 22 .f32 _ _ _ D.s3
  have r1 := hid (fun w => run_float_arith (P := Try.prog) w .sub 22 .f32 _ _ _ D.s1)
  have r2 := hid (fun w => run_float_arith (P := Try.prog) w .mul 22 .f32 _ _ _ D.s2)
  have r3 := hid (fun w => run_float_arith (P := Try.prog) w .sub 22 .f32 _ _ _ D.s3)
  have r4 := hid (fun w => run_float_arith (P := Try.prog) w .sub 22 .f32 _ _ _ D.ex)
  have HD := hid D
  clear D
  go_enter Try.func183, Try.ntmps183
  go_wp2_with fail
  refine region_kept (w0 := w) (l := [(w.heap.size, #[.float .f32 a, .float .f32 h, .float .f32 v], 85)]) 8 #[false, false, false, false, false, false, false, false] (by kernel_rfl) rfl rfl ?_
  have kd := k0.out.drew
  generalize World.drew _ = wd at kd ⊢
  clear k0 c0 c1 c2
  refine take_val 0 _ _ (.pointer (some ⟨w.heap.size, 1, none⟩)) rfl (by rfl) (by kernel_rfl) (by kernel_rfl) (by kernel_rfl) (fun w => by unfold execOp; go_simp) rfl rfl kd ?_
  simp only [Act.put, List.setIfInBounds_toArray, List.set_cons_zero, List.set_cons_succ]
  refine take_val 1 _ _ (.pointer (some ⟨w.heap.size, 2, none⟩)) rfl (by rfl) (by kernel_rfl) (by kernel_rfl) (by kernel_rfl) (fun w => by unfold execOp; go_simp) rfl rfl kd ?_
  simp only [Act.put, List.setIfInBounds_toArray, List.set_cons_zero, List.set_cons_succ]
  refine take_cell 2 _ _ (.float .f32 v) rfl (by rfl) (by kernel_rfl) (by kernel_rfl) (by kernel_rfl) (fun wq hS => by have hcell : wq.cell? ⟨w.heap.size, 2, none⟩ = some (.float .f32 v) := parAt.c2 (hS.at (x := (w.heap.size, #[.float .f32 a, .float .f32 h, .float .f32 v], 85)) (by simp)); clear hS; unfold execOp; go_simp) rfl rfl kd ?_
  simp only [Act.put, List.setIfInBounds_toArray, List.set_cons_zero, List.set_cons_succ]
  refine take_val 3 _ _ (.float .f32 (dryW a h y)) rfl (by rfl) (by kernel_rfl) (by kernel_rfl) (by kernel_rfl) (fun w => by rfl) rfl rfl kd ?_
  simp only [Act.put, List.setIfInBounds_toArray, List.set_cons_zero, List.set_cons_succ]
  refine take_val 4 _ _ (.float .f32 (dryH a h y)) rfl (by rfl) (by kernel_rfl) (by kernel_rfl) (by kernel_rfl) (fun w => run_builtin_val _ _ _ (by rfl) (run_max_sv _ _ HD.out.dw fw_n60 tb.2.1 _)) rfl rfl kd ?_
  simp only [Act.put, List.setIfInBounds_toArray, List.set_cons_zero, List.set_cons_succ]
  refine wpAnyH_ready (rs := [5]) (by kernel_rfl) (by simp) ?_
  refine callK 5 _ _ (.float .f32 (satF (dryH a h y))) kd rfl (by rfl) 175 #[.float .f32 (dryH a h y)] (fun w => by unfold execOp; go_simp) rfl rfl ?hc1 (fun w1 k1 => ?_) AllReadyH.nil
  case hc1 => exact loose (iSat _ HD.out.sat _)
  refine ⟨k1, ?_⟩
  simp only [Act.put, List.setIfInBounds_toArray, List.set_cons_zero, List.set_cons_succ]
  refine take_val 6 _ _ (.float .f32 (exW a h v y)) rfl (by rfl) (by kernel_rfl) (by kernel_rfl) (by kernel_rfl) (fun w => run_binop_val _ _ _ _ (by rfl) (by rfl) (by simp [eqGuard]) (r4.out w)) rfl rfl k1 ?_
  simp only [Act.put, List.setIfInBounds_toArray, List.set_cons_zero, List.set_cons_succ]
  refine take_val 7 _ _ (.float .f32 (exW a h v y)) rfl (by rfl) (by kernel_rfl) (by kernel_rfl) (by kernel_rfl) (fun w => by rfl) rfl rfl k1 ?_
  simp only [Act.put, List.setIfInBounds_toArray, List.set_cons_zero, List.set_cons_succ]
  refine wpAnyH_done (by kernel_rfl) (NoPanic.normal ?_) _
  go_wp2
  go_ret
  exact ⟨rfl, k1.1⟩

set_option maxHeartbeats 1000000 in
set_option maxRecDepth 100000 in
theorem sExcessAt (a h v y : Nat) (D : DryF a h v y) (w : World) (g : Nat) (hC : ∀ w', Below w.heap.size w w' → w'.cell? ⟨g, 0, none⟩ = some (.float .f32 a) ∧ w'.cell? ⟨g, 1, none⟩ = some (.float .f32 h) ∧ w'.cell? ⟨g, 2, none⟩ = some (.float .f32 v)) :
    Calls Try.prog 182 #[.pointer (some ⟨g, 0, none⟩), .float .f32 y] w fun e w' => e = .returned (.float .f32 (exW a h v y)) ∧ Below w.heap.size w w' := by
  have HC := hid hC
  clear hC
  have r1 := hid (fun w => run_float_arith (P := Try.prog) w .sub 22 .f32 _ _ _ D.s1)
  have r2 := hid (fun w => run_float_arith (P := Try.prog) w .mul 22 .f32 _ _ _ D.s2)
  have r3 := hid (fun w => run_float_arith (P := Try.prog) w .sub 22 .f32 _ _ _ D.s3)
  have r4 := hid (fun w => run_float_arith (P := Try.prog) w .sub 22 .f32 _ _ _ D.ex)
  have HD := hid D
  clear D
  go_enter Try.func182, Try.ntmps182
  go_wp2_with fail
  refine region_kept (w0 := w) (l := []) 14 #[false, false, false, false, false, false, false, false, false, false, false, false, false, false] (by kernel_rfl) rfl rfl ?_
  have kd := (Kept.nil w).drew
  generalize World.drew _ = wd at kd ⊢
  refine take_val 0 _ _ (.pointer (some ⟨g, 0, none⟩)) rfl (by rfl) (by kernel_rfl) (by kernel_rfl) (by kernel_rfl) (fun w => by rfl) rfl rfl kd ?_
  simp only [Act.put, List.setIfInBounds_toArray, List.set_cons_zero, List.set_cons_succ]
  refine take_val 1 _ _ (.pointer (some ⟨g, 0, none⟩)) rfl (by rfl) (by kernel_rfl) (by kernel_rfl) (by kernel_rfl) (fun w => by unfold execOp; go_simp) rfl rfl kd ?_
  simp only [Act.put, List.setIfInBounds_toArray, List.set_cons_zero, List.set_cons_succ]
  refine take_val 2 _ _ (.pointer (some ⟨g, 1, none⟩)) rfl (by rfl) (by kernel_rfl) (by kernel_rfl) (by kernel_rfl) (fun w => by unfold execOp; go_simp) rfl rfl kd ?_
  simp only [Act.put, List.setIfInBounds_toArray, List.set_cons_zero, List.set_cons_succ]
  refine take_val 3 _ _ (.pointer (some ⟨g, 1, none⟩)) rfl (by rfl) (by kernel_rfl) (by kernel_rfl) (by kernel_rfl) (fun w => by unfold execOp; go_simp) rfl rfl kd ?_
  simp only [Act.put, List.setIfInBounds_toArray, List.set_cons_zero, List.set_cons_succ]
  refine take_cell 4 _ _ (.float .f32 h) rfl (by rfl) (by kernel_rfl) (by kernel_rfl) (by kernel_rfl) (fun wq hS => by have hcell : wq.cell? ⟨g, 1, none⟩ = some (.float .f32 h) := (HC.out wq hS.1).2.1; clear hS; unfold execOp; go_simp) rfl rfl kd ?_
  simp only [Act.put, List.setIfInBounds_toArray, List.set_cons_zero, List.set_cons_succ]
  refine take_val 5 _ _ (.float .f32 y) rfl (by rfl) (by kernel_rfl) (by kernel_rfl) (by kernel_rfl) (fun w => by rfl) rfl rfl kd ?_
  simp only [Act.put, List.setIfInBounds_toArray, List.set_cons_zero, List.set_cons_succ]
  refine take_val 6 _ _ (.pointer (some ⟨g, 0, none⟩)) rfl (by rfl) (by kernel_rfl) (by kernel_rfl) (by kernel_rfl) (fun w => by rfl) rfl rfl kd ?_
  simp only [Act.put, List.setIfInBounds_toArray, List.set_cons_zero, List.set_cons_succ]
  refine take_val 7 _ _ (.pointer (some ⟨g, 0, none⟩)) rfl (by rfl) (by kernel_rfl) (by kernel_rfl) (by kernel_rfl) (fun w => by unfold execOp; go_simp) rfl rfl kd ?_
  simp only [Act.put, List.setIfInBounds_toArray, List.set_cons_zero, List.set_cons_succ]
  refine take_val 8 _ _ (.pointer (some ⟨g, 0, none⟩)) rfl (by rfl) (by kernel_rfl) (by kernel_rfl) (by kernel_rfl) (fun w => by unfold execOp; go_simp) rfl rfl kd ?_
  simp only [Act.put, List.setIfInBounds_toArray, List.set_cons_zero, List.set_cons_succ]
  refine take_cell 9 _ _ (.float .f32 a) rfl (by rfl) (by kernel_rfl) (by kernel_rfl) (by kernel_rfl) (fun wq hS => by have hcell : wq.cell? ⟨g, 0, none⟩ = some (.float .f32 a) := (HC.out wq hS.1).1; clear hS; unfold execOp; go_simp) rfl rfl kd ?_
  simp only [Act.put, List.setIfInBounds_toArray, List.set_cons_zero, List.set_cons_succ]
  refine take_val 10 _ _ (.float .f32 (fsub y a)) rfl (by rfl) (by kernel_rfl) (by kernel_rfl) (by kernel_rfl) (fun w => run_binop_val _ _ _ _ (by rfl) (by rfl) (by simp [eqGuard]) (r1.out w)) rfl rfl kd ?_
  simp only [Act.put, List.setIfInBounds_toArray, List.set_cons_zero, List.set_cons_succ]
  refine take_val 11 _ _ (.float .f32 (tenW a y)) rfl (by rfl) (by kernel_rfl) (by kernel_rfl) (by kernel_rfl) (fun w => run_binop_val _ _ _ _ (by rfl) (by rfl) (by simp [eqGuard]) (r2.out w)) rfl rfl kd ?_
  simp only [Act.put, List.setIfInBounds_toArray, List.set_cons_zero, List.set_cons_succ]
  refine take_val 12 _ _ (.float .f32 (dryW a h y)) rfl (by rfl) (by kernel_rfl) (by kernel_rfl) (by kernel_rfl) (fun w => run_binop_val _ _ _ _ (by rfl) (by rfl) (by simp [eqGuard]) (r3.out w)) rfl rfl kd ?_
  simp only [Act.put, List.setIfInBounds_toArray, List.set_cons_zero, List.set_cons_succ]
  refine take_val 13 _ _ (.float .f32 (dryW a h y)) rfl (by rfl) (by kernel_rfl) (by kernel_rfl) (by kernel_rfl) (fun w => by rfl) rfl rfl kd ?_
  simp only [Act.put, List.setIfInBounds_toArray, List.set_cons_zero, List.set_cons_succ]
  refine wpAnyH_done (by kernel_rfl) (NoPanic.normal ?_) _
  have kz := hid kd
  rcases hc : FloatKind.f32.format.order (dryW a h y) 3262119936 == some .lt with _ | _
  · have eH : dryH a h y = dryW a h y := if_neg fun hh => by have h9 := (lt_sv HD.out.dw fw_n60).2 hh; exact absurd (h9.symm.trans hc) (by decide)
    go_wp2_with fail
    refine region_kept (w0 := w) (l := []) 9 #[false, false, false, false, false, false, false, false, false] (by kernel_rfl) rfl rfl ?_
    have kd := kz.out.drew
    generalize World.drew _ = wd at kd ⊢
    clear kz
    refine take_val 0 _ _ (.pointer (some ⟨g, 0, none⟩)) rfl (by rfl) (by kernel_rfl) (by kernel_rfl) (by kernel_rfl) (fun w => by rfl) rfl rfl kd ?_
    simp only [Act.put, List.setIfInBounds_toArray, List.set_cons_zero, List.set_cons_succ]
    refine take_val 1 _ _ (.pointer (some ⟨g, 0, none⟩)) rfl (by rfl) (by kernel_rfl) (by kernel_rfl) (by kernel_rfl) (fun w => by unfold execOp; go_simp) rfl rfl kd ?_
    simp only [Act.put, List.setIfInBounds_toArray, List.set_cons_zero, List.set_cons_succ]
    refine take_val 2 _ _ (.pointer (some ⟨g, 1, none⟩)) rfl (by rfl) (by kernel_rfl) (by kernel_rfl) (by kernel_rfl) (fun w => by unfold execOp; go_simp) rfl rfl kd ?_
    simp only [Act.put, List.setIfInBounds_toArray, List.set_cons_zero, List.set_cons_succ]
    refine take_val 3 _ _ (.pointer (some ⟨g, 2, none⟩)) rfl (by rfl) (by kernel_rfl) (by kernel_rfl) (by kernel_rfl) (fun w => by unfold execOp; go_simp) rfl rfl kd ?_
    simp only [Act.put, List.setIfInBounds_toArray, List.set_cons_zero, List.set_cons_succ]
    refine take_cell 4 _ _ (.float .f32 v) rfl (by rfl) (by kernel_rfl) (by kernel_rfl) (by kernel_rfl) (fun wq hS => by have hcell : wq.cell? ⟨g, 2, none⟩ = some (.float .f32 v) := (HC.out wq hS.1).2.2; clear hS; unfold execOp; go_simp) rfl rfl kd ?_
    simp only [Act.put, List.setIfInBounds_toArray, List.set_cons_zero, List.set_cons_succ]
    refine take_val 5 _ _ (.float .f32 (dryW a h y)) rfl (by rfl) (by kernel_rfl) (by kernel_rfl) (by kernel_rfl) (fun w => by rfl) rfl rfl kd ?_
    simp only [Act.put, List.setIfInBounds_toArray, List.set_cons_zero, List.set_cons_succ]
    refine wpAnyH_ready (rs := [6]) (by kernel_rfl) (by simp) ?_
    refine callK 6 _ _ (.float .f32 (satF (dryH a h y))) kd rfl (by rfl) 249 #[.float .f32 (dryW a h y)] (fun w => by unfold execOp; go_simp) rfl rfl ?hc1 (fun w1 k1 => ?_) AllReadyH.nil
    case hc1 => exact (by rw [← eH]; exact loose (sSat _ HD.out.sat _))
    refine ⟨k1, ?_⟩
    simp only [Act.put, List.setIfInBounds_toArray, List.set_cons_zero, List.set_cons_succ]
    refine take_val 7 _ _ (.float .f32 (exW a h v y)) rfl (by rfl) (by kernel_rfl) (by kernel_rfl) (by kernel_rfl) (fun w => run_binop_val _ _ _ _ (by rfl) (by rfl) (by simp [eqGuard]) (r4.out w)) rfl rfl k1 ?_
    simp only [Act.put, List.setIfInBounds_toArray, List.set_cons_zero, List.set_cons_succ]
    refine take_val 8 _ _ (.float .f32 (exW a h v y)) rfl (by rfl) (by kernel_rfl) (by kernel_rfl) (by kernel_rfl) (fun w => by rfl) rfl rfl k1 ?_
    simp only [Act.put, List.setIfInBounds_toArray, List.set_cons_zero, List.set_cons_succ]
    refine wpAnyH_done (by kernel_rfl) (NoPanic.normal ?_) _
    go_wp2
    go_ret
    exact ⟨rfl, k1.1⟩
  · have eH : dryH a h y = 3262119936 := if_pos ((lt_sv HD.out.dw fw_n60).1 hc)
    go_wp2_with fail
    refine region_kept (w0 := w) (l := []) 9 #[false, false, false, false, false, false, false, false, false] (by kernel_rfl) rfl rfl ?_
    have kd := kz.out.drew
    generalize World.drew _ = wd at kd ⊢
    clear kz
    refine take_val 0 _ _ (.pointer (some ⟨g, 0, none⟩)) rfl (by rfl) (by kernel_rfl) (by kernel_rfl) (by kernel_rfl) (fun w => by rfl) rfl rfl kd ?_
    simp only [Act.put, List.setIfInBounds_toArray, List.set_cons_zero, List.set_cons_succ]
    refine take_val 1 _ _ (.pointer (some ⟨g, 0, none⟩)) rfl (by rfl) (by kernel_rfl) (by kernel_rfl) (by kernel_rfl) (fun w => by unfold execOp; go_simp) rfl rfl kd ?_
    simp only [Act.put, List.setIfInBounds_toArray, List.set_cons_zero, List.set_cons_succ]
    refine take_val 2 _ _ (.pointer (some ⟨g, 1, none⟩)) rfl (by rfl) (by kernel_rfl) (by kernel_rfl) (by kernel_rfl) (fun w => by unfold execOp; go_simp) rfl rfl kd ?_
    simp only [Act.put, List.setIfInBounds_toArray, List.set_cons_zero, List.set_cons_succ]
    refine take_val 3 _ _ (.pointer (some ⟨g, 2, none⟩)) rfl (by rfl) (by kernel_rfl) (by kernel_rfl) (by kernel_rfl) (fun w => by unfold execOp; go_simp) rfl rfl kd ?_
    simp only [Act.put, List.setIfInBounds_toArray, List.set_cons_zero, List.set_cons_succ]
    refine take_cell 4 _ _ (.float .f32 v) rfl (by rfl) (by kernel_rfl) (by kernel_rfl) (by kernel_rfl) (fun wq hS => by have hcell : wq.cell? ⟨g, 2, none⟩ = some (.float .f32 v) := (HC.out wq hS.1).2.2; clear hS; unfold execOp; go_simp) rfl rfl kd ?_
    simp only [Act.put, List.setIfInBounds_toArray, List.set_cons_zero, List.set_cons_succ]
    refine take_val 5 _ _ (.float .f32 (3262119936)) rfl (by rfl) (by kernel_rfl) (by kernel_rfl) (by kernel_rfl) (fun w => by rfl) rfl rfl kd ?_
    simp only [Act.put, List.setIfInBounds_toArray, List.set_cons_zero, List.set_cons_succ]
    refine wpAnyH_ready (rs := [6]) (by kernel_rfl) (by simp) ?_
    refine callK 6 _ _ (.float .f32 (satF (dryH a h y))) kd rfl (by rfl) 249 #[.float .f32 (3262119936)] (fun w => by unfold execOp; go_simp) rfl rfl ?hc1 (fun w1 k1 => ?_) AllReadyH.nil
    case hc1 => exact (by rw [← eH]; exact loose (sSat _ HD.out.sat _))
    refine ⟨k1, ?_⟩
    simp only [Act.put, List.setIfInBounds_toArray, List.set_cons_zero, List.set_cons_succ]
    refine take_val 7 _ _ (.float .f32 (exW a h v y)) rfl (by rfl) (by kernel_rfl) (by kernel_rfl) (by kernel_rfl) (fun w => run_binop_val _ _ _ _ (by rfl) (by rfl) (by simp [eqGuard]) (r4.out w)) rfl rfl k1 ?_
    simp only [Act.put, List.setIfInBounds_toArray, List.set_cons_zero, List.set_cons_succ]
    refine take_val 8 _ _ (.float .f32 (exW a h v y)) rfl (by rfl) (by kernel_rfl) (by kernel_rfl) (by kernel_rfl) (fun w => by rfl) rfl rfl k1 ?_
    simp only [Act.put, List.setIfInBounds_toArray, List.set_cons_zero, List.set_cons_succ]
    refine wpAnyH_done (by kernel_rfl) (NoPanic.normal ?_) _
    go_wp2
    go_ret
    exact ⟨rfl, k1.1⟩

set_option maxRecDepth 100000 in
theorem sExcAir (h v : Nat) (hx : h < 4294967296) (hq : airB h v = true) (w : World) (g o : Nat) (c0 : w.cell? ⟨g, o, none⟩ = some (.float .f32 h)) (c1 : w.cell? ⟨g, o + 1, none⟩ = some (.float .f32 v)) :
    Calls Try.prog 181 #[.pointer (some ⟨g, o, none⟩)] w fun e w' => e = .returned (.float .f32 (excF h v)) ∧ Below w.heap.size w w' := by
  obtain ⟨hh, hav, hvp⟩ := airB_iff.1 hq
  have F := sat_facts hx hh
  obtain ⟨e1, e2, e3⟩ := exc_facts F hav
  have HF := hid F
  have hs := fun w => run_float_arith (P := Try.prog) w .sub 22 .f32 _ _ _ e1
  clear F hh hav hvp e1 e2 e3 hx hq
  go_enter Try.func181, Try.ntmps181
  go_wp2
  go_quiet ((go_at_call 249; exact Calls.quiet_of_same (back (sSat h HF.out _))))
  go_wp2
  go_ret
  exact ⟨rfl, below_drewN (Below.refl _ _) _⟩

set_option maxHeartbeats 2000000 in
set_option maxRecDepth 100000 in
theorem iBaseOf_bad (a h v : Nat) (ha : a < 4294967296) (hx : h < 4294967296) (hv : v < 4294967296) (hp : parB a h v = false) (w : World) :
    Calls Try.prog 85 #[.agg #[.float .f32 a, .float .f32 h, .float .f32 v]] w fun e w' => e = .returned (.tuple #[.float .f32 0, .int .i64 1]) ∧ Below w.heap.size w w' := by
  have k0 : Hid (Kept w [(w.heap.size, #[.float .f32 a, .float .f32 h, .float .f32 v], 85)] (w.alloc (.cells #[.float .f32 a, .float .f32 h, .float .f32 v] 85))) := hid ((Kept.nil w).push _ _)
  have Ha := hid ha
  have Hx := hid hx
  have Hv := hid hv
  have Xhp := hid hp
  clear ha hx hv hp
  go_enter Try.func85, Try.ntmps85

  go_wp2_with (first | (refine wpList_load_row rfl 85 _ rfl (w.heap.size) rfl 85 (#[.float .f32 a, .float .f32 h, .float .f32 v]) (0, 0) _ (k0.out.at (x := (w.heap.size, #[.float .f32 a, .float .f32 h, .float .f32 v], 85)) (by simp)) Try.underlying85 rfl (info_par) ?_))
  refine (iValidParcel a h v Ha.out Hv.out false Xhp.out _).mono ?_
  rintro e w0 ⟨rfl, hb0⟩
  have k1 := hid (k0.out.stay hb0)
  clear hb0
  go_wp2
  go_ret2
  exact ⟨rfl, k1.out.1⟩

set_option maxHeartbeats 2000000 in
set_option maxRecDepth 100000 in
theorem iBaseOf_own (a h v : Nat) (ha : a < 4294967296) (hx : h < 4294967296) (hv : v < 4294967296) (hp : parB a h v = true) (h0 : (S.order (excF h v) 0 == some .gt || S.order (excF h v) 0 == some .eq) = true) (w : World) :
    Calls Try.prog 85 #[.agg #[.float .f32 a, .float .f32 h, .float .f32 v]] w fun e w' => e = .returned (.tuple #[.float .f32 a, .int .i64 0]) ∧ Below w.heap.size w w' := by
  have k0 : Hid (Kept w [(w.heap.size, #[.float .f32 a, .float .f32 h, .float .f32 v], 85)] (w.alloc (.cells #[.float .f32 a, .float .f32 h, .float .f32 v] 85))) := hid ((Kept.nil w).push _ _)
  have Ha := hid ha
  have Hx := hid hx
  have Hv := hid hv
  have Xhp := hid hp
  have Xh0 := hid h0
  clear ha hx hv hp h0
  go_enter Try.func85, Try.ntmps85

  go_wp2_with (first | (refine wpList_load_row rfl 85 _ rfl (w.heap.size) rfl 85 (#[.float .f32 a, .float .f32 h, .float .f32 v]) (0, 0) _ (k0.out.at (x := (w.heap.size, #[.float .f32 a, .float .f32 h, .float .f32 v], 85)) (by simp)) Try.underlying85 rfl (info_par) ?_))
  refine (iValidParcel a h v Ha.out Hv.out true Xhp.out _).mono ?_
  rintro e w0 ⟨rfl, hb0⟩
  have k1 := hid (k0.out.stay hb0)
  clear hb0
  have Ak1 : parAt w0 w.heap.size a h v 85 := (k1.out.at (x := (w.heap.size, #[.float .f32 a, .float .f32 h, .float .f32 v], 85)) (by simp))
  have c0 := Ak1.c0
  have c1 := Ak1.c1
  have c2 := Ak1.c2
  clear Ak1
  have DA := hid (dry_facts (a := a) (h := h) (v := v) (y := a) (Nat.le_refl a) (hgt_iff.1 (parB_iff.1 Xhp.out).1) Hx.out (airB_iff.1 (parB_iff.1 Xhp.out).2).1 (airB_iff.1 (parB_iff.1 Xhp.out).2).2.1)
  have E0 := hid (ex_own (v := v) (hgt_iff.1 (parB_iff.1 Xhp.out).1) Hx.out (airB_iff.1 (parB_iff.1 Xhp.out).2).1)
  go_wp2_with (first | (refine wpList_load_row rfl 85 _ rfl (w.heap.size) rfl 85 (#[.float .f32 a, .float .f32 h, .float .f32 v]) (0, 0) _ (k1.out.at (x := (w.heap.size, #[.float .f32 a, .float .f32 h, .float .f32 v], 85)) (by simp)) Try.underlying85 rfl (info_par) ?_))
  refine (iExcessAt a h v a DA.out _).mono ?_
  rintro e w1 ⟨rfl, hb1⟩
  have k2 := hid (k1.out.stay hb1)
  clear hb1
  rw [E0.out]
  clear c0 c1 c2
  have ho : (FloatKind.f32.format.order (excF h v) 0 == some .gt || FloatKind.f32.format.order (excF h v) 0 == some .eq) = true := Xh0.out
  have Ak2 : parAt w1 w.heap.size a h v 85 := (k2.out.at (x := (w.heap.size, #[.float .f32 a, .float .f32 h, .float .f32 v], 85)) (by simp))
  have c0 := Ak2.c0
  have c1 := Ak2.c1
  have c2 := Ak2.c2
  clear Ak2
  go_wp2
  go_ret2
  exact ⟨rfl, k2.out.1⟩

set_option maxHeartbeats 2000000 in
set_option maxRecDepth 100000 in
theorem iBaseOf_none (a h v : Nat) (ha : a < 4294967296) (hx : h < 4294967296) (hv : v < 4294967296) (hp : parB a h v = true) (h0 : (S.order (excF h v) 0 == some .gt || S.order (excF h v) 0 == some .eq) = false) (h1 : (S.order (exW a h v (hiW a h)) 0 == some .lt) = true) (w : World) :
    Calls Try.prog 85 #[.agg #[.float .f32 a, .float .f32 h, .float .f32 v]] w fun e w' => e = .returned (.tuple #[.float .f32 0, .int .i64 6]) ∧ Below w.heap.size w w' := by
  have k0 : Hid (Kept w [(w.heap.size, #[.float .f32 a, .float .f32 h, .float .f32 v], 85)] (w.alloc (.cells #[.float .f32 a, .float .f32 h, .float .f32 v] 85))) := hid ((Kept.nil w).push _ _)
  have Ha := hid ha
  have Hx := hid hx
  have Hv := hid hv
  have Xhp := hid hp
  have Xh0 := hid h0
  have Xh1 := hid h1
  clear ha hx hv hp h0 h1
  go_enter Try.func85, Try.ntmps85

  go_wp2_with (first | (refine wpList_load_row rfl 85 _ rfl (w.heap.size) rfl 85 (#[.float .f32 a, .float .f32 h, .float .f32 v]) (0, 0) _ (k0.out.at (x := (w.heap.size, #[.float .f32 a, .float .f32 h, .float .f32 v], 85)) (by simp)) Try.underlying85 rfl (info_par) ?_))
  refine (iValidParcel a h v Ha.out Hv.out true Xhp.out _).mono ?_
  rintro e w0 ⟨rfl, hb0⟩
  have k1 := hid (k0.out.stay hb0)
  clear hb0
  have Ak1 : parAt w0 w.heap.size a h v 85 := (k1.out.at (x := (w.heap.size, #[.float .f32 a, .float .f32 h, .float .f32 v], 85)) (by simp))
  have c0 := Ak1.c0
  have c1 := Ak1.c1
  have c2 := Ak1.c2
  clear Ak1
  have DA := hid (dry_facts (a := a) (h := h) (v := v) (y := a) (Nat.le_refl a) (hgt_iff.1 (parB_iff.1 Xhp.out).1) Hx.out (airB_iff.1 (parB_iff.1 Xhp.out).2).1 (airB_iff.1 (parB_iff.1 Xhp.out).2).2.1)
  have E0 := hid (ex_own (v := v) (hgt_iff.1 (parB_iff.1 Xhp.out).1) Hx.out (airB_iff.1 (parB_iff.1 Xhp.out).2).1)
  go_wp2_with (first | (refine wpList_load_row rfl 85 _ rfl (w.heap.size) rfl 85 (#[.float .f32 a, .float .f32 h, .float .f32 v]) (0, 0) _ (k1.out.at (x := (w.heap.size, #[.float .f32 a, .float .f32 h, .float .f32 v], 85)) (by simp)) Try.underlying85 rfl (info_par) ?_))
  refine (iExcessAt a h v a DA.out _).mono ?_
  rintro e w1 ⟨rfl, hb1⟩
  have k2 := hid (k1.out.stay hb1)
  clear hb1
  rw [E0.out]
  clear c0 c1 c2
  have ho : (FloatKind.f32.format.order (excF h v) 0 == some .gt || FloatKind.f32.format.order (excF h v) 0 == some .eq) = false := Xh0.out
  have HF := hid (hi_facts (hgt_iff.1 (parB_iff.1 Xhp.out).1) Hx.out (airB_iff.1 (parB_iff.1 Xhp.out).2).1)
  have DH := hid (dry_facts (a := a) (h := h) (v := v) (y := hiW a h) HF.out.lo (Nat.min_le_left _ _) Hx.out (airB_iff.1 (parB_iff.1 Xhp.out).2).1 (airB_iff.1 (parB_iff.1 Xhp.out).2).2.1)
  have p1 := fun w => run_float_arith (P := Try.prog) w .sub 22 .f32 _ _ _ HF.out.s1'
  have p2 := fun w => run_float_arith (P := Try.prog) w .quo 22 .f32 _ _ _ HF.out.s2
  have p3 := fun w => run_float_arith (P := Try.prog) w .add 22 .f32 _ _ _ HF.out.s3
  have Ak2 : parAt w1 w.heap.size a h v 85 := (k2.out.at (x := (w.heap.size, #[.float .f32 a, .float .f32 h, .float .f32 v], 85)) (by simp))
  have c0 := Ak2.c0
  have c1 := Ak2.c1
  have c2 := Ak2.c2
  clear Ak2
  have p4 := fun ts t w => run_min (P := Try.prog) (x := 1106247680) (y := hi0 a h) ts t (by decide) HF.out.am w
  go_wp2_with (first | (refine wpList_load_row rfl 85 _ rfl (w.heap.size) rfl 85 (#[.float .f32 a, .float .f32 h, .float .f32 v]) (0, 0) _ (k2.out.at (x := (w.heap.size, #[.float .f32 a, .float .f32 h, .float .f32 v], 85)) (by simp)) Try.underlying85 rfl (info_par) ?_))
  refine (iExcessAt a h v (hiW a h) DH.out _).mono ?_
  rintro e w2 ⟨rfl, hb2⟩
  have k3 := hid (k2.out.stay hb2)
  clear hb2
  clear c0 c1 c2 p1 p2 p3 p4
  have hl : (FloatKind.f32.format.order (exW a h v (hiW a h)) 0 == some .lt) = true := Xh1.out
  go_wp2
  go_ret2
  exact ⟨rfl, k3.out.1⟩

set_option maxHeartbeats 2000000 in
set_option maxRecDepth 100000 in
theorem iBaseOf_ok (a h v r : Nat) (ha : a < 4294967296) (hx : h < 4294967296) (hv : v < 4294967296) (hp : parB a h v = true) (h0 : (S.order (excF h v) 0 == some .gt || S.order (excF h v) 0 == some .eq) = false) (h1 : (S.order (exW a h v (hiW a h)) 0 == some .lt) = false) (hr : bis a h v 24 a (hiW a h) = r) (w : World) :
    Calls Try.prog 85 #[.agg #[.float .f32 a, .float .f32 h, .float .f32 v]] w fun e w' => e = .returned (.tuple #[.float .f32 r, .int .i64 0]) ∧ Below w.heap.size w w' := by
  have k0 : Hid (Kept w [(w.heap.size, #[.float .f32 a, .float .f32 h, .float .f32 v], 85)] (w.alloc (.cells #[.float .f32 a, .float .f32 h, .float .f32 v] 85))) := hid ((Kept.nil w).push _ _)
  have Ha := hid ha
  have Hx := hid hx
  have Hv := hid hv
  have Xhp := hid hp
  have Xh0 := hid h0
  have Xh1 := hid h1
  have Xhr := hid hr
  clear ha hx hv hp h0 h1 hr
  go_enter Try.func85, Try.ntmps85

  go_wp2_with (first | (refine wpList_load_row rfl 85 _ rfl (w.heap.size) rfl 85 (#[.float .f32 a, .float .f32 h, .float .f32 v]) (0, 0) _ (k0.out.at (x := (w.heap.size, #[.float .f32 a, .float .f32 h, .float .f32 v], 85)) (by simp)) Try.underlying85 rfl (info_par) ?_))
  refine (iValidParcel a h v Ha.out Hv.out true Xhp.out _).mono ?_
  rintro e w0 ⟨rfl, hb0⟩
  have k1 := hid (k0.out.stay hb0)
  clear hb0
  have Ak1 : parAt w0 w.heap.size a h v 85 := (k1.out.at (x := (w.heap.size, #[.float .f32 a, .float .f32 h, .float .f32 v], 85)) (by simp))
  have c0 := Ak1.c0
  have c1 := Ak1.c1
  have c2 := Ak1.c2
  clear Ak1
  have DA := hid (dry_facts (a := a) (h := h) (v := v) (y := a) (Nat.le_refl a) (hgt_iff.1 (parB_iff.1 Xhp.out).1) Hx.out (airB_iff.1 (parB_iff.1 Xhp.out).2).1 (airB_iff.1 (parB_iff.1 Xhp.out).2).2.1)
  have E0 := hid (ex_own (v := v) (hgt_iff.1 (parB_iff.1 Xhp.out).1) Hx.out (airB_iff.1 (parB_iff.1 Xhp.out).2).1)
  go_wp2_with (first | (refine wpList_load_row rfl 85 _ rfl (w.heap.size) rfl 85 (#[.float .f32 a, .float .f32 h, .float .f32 v]) (0, 0) _ (k1.out.at (x := (w.heap.size, #[.float .f32 a, .float .f32 h, .float .f32 v], 85)) (by simp)) Try.underlying85 rfl (info_par) ?_))
  refine (iExcessAt a h v a DA.out _).mono ?_
  rintro e w1 ⟨rfl, hb1⟩
  have k2 := hid (k1.out.stay hb1)
  clear hb1
  rw [E0.out]
  clear c0 c1 c2
  have ho : (FloatKind.f32.format.order (excF h v) 0 == some .gt || FloatKind.f32.format.order (excF h v) 0 == some .eq) = false := Xh0.out
  have HF := hid (hi_facts (hgt_iff.1 (parB_iff.1 Xhp.out).1) Hx.out (airB_iff.1 (parB_iff.1 Xhp.out).2).1)
  have DH := hid (dry_facts (a := a) (h := h) (v := v) (y := hiW a h) HF.out.lo (Nat.min_le_left _ _) Hx.out (airB_iff.1 (parB_iff.1 Xhp.out).2).1 (airB_iff.1 (parB_iff.1 Xhp.out).2).2.1)
  have p1 := fun w => run_float_arith (P := Try.prog) w .sub 22 .f32 _ _ _ HF.out.s1'
  have p2 := fun w => run_float_arith (P := Try.prog) w .quo 22 .f32 _ _ _ HF.out.s2
  have p3 := fun w => run_float_arith (P := Try.prog) w .add 22 .f32 _ _ _ HF.out.s3
  have Ak2 : parAt w1 w.heap.size a h v 85 := (k2.out.at (x := (w.heap.size, #[.float .f32 a, .float .f32 h, .float .f32 v], 85)) (by simp))
  have c0 := Ak2.c0
  have c1 := Ak2.c1
  have c2 := Ak2.c2
  clear Ak2
  have p4 := fun ts t w => run_min (P := Try.prog) (x := 1106247680) (y := hi0 a h) ts t (by decide) HF.out.am w
  go_wp2_with (first | (refine wpList_load_row rfl 85 _ rfl (w.heap.size) rfl 85 (#[.float .f32 a, .float .f32 h, .float .f32 v]) (0, 0) _ (k2.out.at (x := (w.heap.size, #[.float .f32 a, .float .f32 h, .float .f32 v], 85)) (by simp)) Try.underlying85 rfl (info_par) ?_))
  refine (iExcessAt a h v (hiW a h) DH.out _).mono ?_
  rintro e w2 ⟨rfl, hb2⟩
  have k3 := hid (k2.out.stay hb2)
  clear hb2
  clear c0 c1 c2 p1 p2 p3 p4
  have hl : (FloatKind.f32.format.order (exW a h v (hiW a h)) 0 == some .lt) = false := Xh1.out
  have EN : Hid (BEnds a a (hiW a h)) := hid ⟨Nat.le_refl a, HF.out.lo, Nat.min_le_left _ _⟩
  go_wp2_with fail
  go_loopw [32, 4, 5] (fun i l u wr => ∃ k lo hi : Nat, k ≤ 24 ∧ i = .int .i64 k ∧ l = .float .f32 lo ∧ u = .float .f32 hi ∧ Hid (BEnds a lo hi) ∧ Hid (bis a h v (24 - k) lo hi = bis a h v 24 a (hiW a h)) ∧ Hid (Kept w [(w.heap.size, #[.float .f32 a, .float .f32 h, .float .f32 v], 85)] wr)) (fun i _ _ _ => 24 - (intOf i).toNat)
  case atStart => exact ⟨0, a, _, by omega, rfl, rfl, rfl, EN, hid rfl, k3⟩
  case round =>
    obtain ⟨k, lo, hi, hk, rfl, rfl, rfl, hE, hB, hK⟩ := hrel
    clear EN k3
    by_cases hlt : k < 24
    · have hk3 : (k : Int) < 24 := by omega
      have HL := hid hlt
      have MF := hid (mid_facts hE.out.lh hE.out.hh)
      have m1 := fun w => run_float_arith (P := Try.prog) w .add 22 .f32 _ _ _ MF.out.s1
      have m2 := fun w => run_float_arith (P := Try.prog) w .mul 22 .f32 _ _ _ MF.out.s2
      have DM := hid (dry_facts (a := a) (h := h) (v := v) (y := midW lo hi) (Nat.le_trans hE.out.al MF.out.lo) MF.out.hi Hx.out (airB_iff.1 (parB_iff.1 Xhp.out).2).1 (airB_iff.1 (parB_iff.1 Xhp.out).2).2.1)
      go_wp2_with (first | (refine wpList_load_row rfl 85 _ rfl (w.heap.size) rfl 85 (#[.float .f32 a, .float .f32 h, .float .f32 v]) (0, 0) _ (hK.out.at (x := (w.heap.size, #[.float .f32 a, .float .f32 h, .float .f32 v], 85)) (by simp)) Try.underlying85 rfl (info_par) ?_))
      refine (iExcessAt a h v (midW lo hi) DM.out _).mono ?_
      rintro e wz ⟨rfl, hbz⟩
      have KZ := hid (hK.out.stay hbz)
      rcases hb : exB a h v (midW lo hi) with _ | _
      · have ho : (FloatKind.f32.format.order (exW a h v (midW lo hi)) 0 == some .gt || FloatKind.f32.format.order (exW a h v (midW lo hi)) 0 == some .eq) = false := hb
        have E2 := hid (bis_f (a := a) (h := h) (v := v) (lo := lo) (hi := hi) HL.out hb)
        clear hb
        go_wp2_with fail
        go_roundw
        case rel => exact ⟨k + 1, midW lo hi, hi, by omega, by go_num, rfl, rfl, hid hE.out.down, hid (by rw [← E2.out]; exact hB.out), KZ⟩
        case measure => simp [intOf]; omega
      · have ho : (FloatKind.f32.format.order (exW a h v (midW lo hi)) 0 == some .gt || FloatKind.f32.format.order (exW a h v (midW lo hi)) 0 == some .eq) = true := hb
        have E2 := hid (bis_t (a := a) (h := h) (v := v) (lo := lo) (hi := hi) HL.out hb)
        clear hb
        go_wp2_with fail
        go_roundw
        case rel => exact ⟨k + 1, lo, midW lo hi, by omega, by go_num, rfl, rfl, hid hE.out.up, hid (by rw [← E2.out]; exact hB.out), KZ⟩
        case measure => simp [intOf]; omega
    · obtain rfl : k = 24 := by omega
      obtain rfl : hi = r := hB.out.trans Xhr.out
      clear hB
      go_wp2
      go_ret2
      exact ⟨rfl, hK.out.1⟩

set_option maxHeartbeats 2000000 in
set_option maxRecDepth 100000 in
theorem sBaseOf_bad (a h v : Nat) (ha : a < 4294967296) (hx : h < 4294967296) (hv : v < 4294967296) (hp : parB a h v = false) (w : World) :
    Calls Try.prog 84 #[.agg #[.float .f32 a, .float .f32 h, .float .f32 v]] w fun e w' => e = .returned (.tuple #[.float .f32 0, .int .i64 1]) ∧ Below w.heap.size w w' := by
  have k0 : Hid (Kept w [(w.heap.size, #[.float .f32 a, .float .f32 h, .float .f32 v], 85)] (w.alloc (.cells #[.float .f32 a, .float .f32 h, .float .f32 v] 85))) := hid ((Kept.nil w).push _ _)
  have Ha := hid ha
  have Hx := hid hx
  have Hv := hid hv
  have Xhp := hid hp
  clear ha hx hv hp
  go_enter Try.func84, Try.ntmps84

  go_wp2_with fail
  refine (sParOk a h v Ha.out Hv.out false Xhp.out _ (w.heap.size) 85 (k0.out.at (x := (w.heap.size, #[.float .f32 a, .float .f32 h, .float .f32 v], 85)) (by simp))).mono ?_
  rintro e w0 ⟨rfl, hb0⟩
  have k1 := hid (k0.out.stay hb0)
  clear hb0
  go_wp2
  go_ret2
  exact ⟨rfl, k1.out.1⟩

set_option maxHeartbeats 2000000 in
set_option maxRecDepth 100000 in
theorem sBaseOf_own (a h v : Nat) (ha : a < 4294967296) (hx : h < 4294967296) (hv : v < 4294967296) (hp : parB a h v = true) (h0 : (S.order (excF h v) 0 == some .gt || S.order (excF h v) 0 == some .eq) = true) (w : World) :
    Calls Try.prog 84 #[.agg #[.float .f32 a, .float .f32 h, .float .f32 v]] w fun e w' => e = .returned (.tuple #[.float .f32 a, .int .i64 0]) ∧ Below w.heap.size w w' := by
  have k0 : Hid (Kept w [(w.heap.size, #[.float .f32 a, .float .f32 h, .float .f32 v], 85)] (w.alloc (.cells #[.float .f32 a, .float .f32 h, .float .f32 v] 85))) := hid ((Kept.nil w).push _ _)
  have Ha := hid ha
  have Hx := hid hx
  have Hv := hid hv
  have Xhp := hid hp
  have Xh0 := hid h0
  clear ha hx hv hp h0
  go_enter Try.func84, Try.ntmps84

  go_wp2_with fail
  refine (sParOk a h v Ha.out Hv.out true Xhp.out _ (w.heap.size) 85 (k0.out.at (x := (w.heap.size, #[.float .f32 a, .float .f32 h, .float .f32 v], 85)) (by simp))).mono ?_
  rintro e w0 ⟨rfl, hb0⟩
  have k1 := hid (k0.out.stay hb0)
  clear hb0
  go_wp2_with fail
  refine (sExcAir h v Hx.out (parB_iff.1 Xhp.out).2 _ w.heap.size 1 (parAt.c1 (k1.out.at (x := (w.heap.size, #[.float .f32 a, .float .f32 h, .float .f32 v], 85)) (by simp))) (parAt.c2 (k1.out.at (x := (w.heap.size, #[.float .f32 a, .float .f32 h, .float .f32 v], 85)) (by simp)))).mono ?_
  rintro e w1 ⟨rfl, hb1⟩
  have k2 := hid (k1.out.stay hb1)
  clear hb1
  have ho : (FloatKind.f32.format.order (excF h v) 0 == some .gt || FloatKind.f32.format.order (excF h v) 0 == some .eq) = true := Xh0.out
  have Ak2 : parAt w1 w.heap.size a h v 85 := (k2.out.at (x := (w.heap.size, #[.float .f32 a, .float .f32 h, .float .f32 v], 85)) (by simp))
  have c0 := Ak2.c0
  have c1 := Ak2.c1
  have c2 := Ak2.c2
  clear Ak2
  go_wp2
  go_ret2
  exact ⟨rfl, k2.out.1⟩

set_option maxHeartbeats 2000000 in
set_option maxRecDepth 100000 in
theorem sBaseOf_none (a h v : Nat) (ha : a < 4294967296) (hx : h < 4294967296) (hv : v < 4294967296) (hp : parB a h v = true) (h0 : (S.order (excF h v) 0 == some .gt || S.order (excF h v) 0 == some .eq) = false) (h1 : (S.order (exW a h v (hiW a h)) 0 == some .lt) = true) (w : World) :
    Calls Try.prog 84 #[.agg #[.float .f32 a, .float .f32 h, .float .f32 v]] w fun e w' => e = .returned (.tuple #[.float .f32 0, .int .i64 6]) ∧ Below w.heap.size w w' := by
  have k0 : Hid (Kept w [(w.heap.size, #[.float .f32 a, .float .f32 h, .float .f32 v], 85)] (w.alloc (.cells #[.float .f32 a, .float .f32 h, .float .f32 v] 85))) := hid ((Kept.nil w).push _ _)
  have Ha := hid ha
  have Hx := hid hx
  have Hv := hid hv
  have Xhp := hid hp
  have Xh0 := hid h0
  have Xh1 := hid h1
  clear ha hx hv hp h0 h1
  go_enter Try.func84, Try.ntmps84

  go_wp2_with fail
  refine (sParOk a h v Ha.out Hv.out true Xhp.out _ (w.heap.size) 85 (k0.out.at (x := (w.heap.size, #[.float .f32 a, .float .f32 h, .float .f32 v], 85)) (by simp))).mono ?_
  rintro e w0 ⟨rfl, hb0⟩
  have k1 := hid (k0.out.stay hb0)
  clear hb0
  go_wp2_with fail
  refine (sExcAir h v Hx.out (parB_iff.1 Xhp.out).2 _ w.heap.size 1 (parAt.c1 (k1.out.at (x := (w.heap.size, #[.float .f32 a, .float .f32 h, .float .f32 v], 85)) (by simp))) (parAt.c2 (k1.out.at (x := (w.heap.size, #[.float .f32 a, .float .f32 h, .float .f32 v], 85)) (by simp)))).mono ?_
  rintro e w1 ⟨rfl, hb1⟩
  have k2 := hid (k1.out.stay hb1)
  clear hb1
  have ho : (FloatKind.f32.format.order (excF h v) 0 == some .gt || FloatKind.f32.format.order (excF h v) 0 == some .eq) = false := Xh0.out
  have HF := hid (hi_facts (hgt_iff.1 (parB_iff.1 Xhp.out).1) Hx.out (airB_iff.1 (parB_iff.1 Xhp.out).2).1)
  have DH := hid (dry_facts (a := a) (h := h) (v := v) (y := hiW a h) HF.out.lo (Nat.min_le_left _ _) Hx.out (airB_iff.1 (parB_iff.1 Xhp.out).2).1 (airB_iff.1 (parB_iff.1 Xhp.out).2).2.1)
  have p1 := fun w => run_float_arith (P := Try.prog) w .add 22 .f32 _ _ _ HF.out.s1
  have p2 := fun w => run_float_arith (P := Try.prog) w .quo 22 .f32 _ _ _ HF.out.s2
  have p3 := fun w => run_float_arith (P := Try.prog) w .add 22 .f32 _ _ _ HF.out.s3
  have Ak2 : parAt w1 w.heap.size a h v 85 := (k2.out.at (x := (w.heap.size, #[.float .f32 a, .float .f32 h, .float .f32 v], 85)) (by simp))
  have c0 := Ak2.c0
  have c1 := Ak2.c1
  have c2 := Ak2.c2
  clear Ak2
  rcases hc : FloatKind.f32.format.order (hi0 a h) 1106247680 == some .gt with _ | _
  · have eh : hiW a h = hi0 a h := Nat.min_eq_right (Nat.le_of_not_lt fun hh => by have h9 := gt_t HF.out.am (by decide : amtB 1106247680 = true) hh; exact absurd (h9.symm.trans hc) (by decide))
    have hl : (FloatKind.f32.format.order (exW a h v (hi0 a h)) 0 == some .lt) = true := by rw [← eh]; exact Xh1.out
    go_wp2_with fail
    refine (sExcessAt a h v (hi0 a h) (by rw [← eh]; exact DH.out) _ w.heap.size (fun w9 hb => ⟨parAt.c0 ((k2.out.stay hb).at (x := (w.heap.size, #[.float .f32 a, .float .f32 h, .float .f32 v], 85)) (by simp)), parAt.c1 ((k2.out.stay hb).at (x := (w.heap.size, #[.float .f32 a, .float .f32 h, .float .f32 v], 85)) (by simp)), parAt.c2 ((k2.out.stay hb).at (x := (w.heap.size, #[.float .f32 a, .float .f32 h, .float .f32 v], 85)) (by simp))⟩)).mono ?_
    rintro e w2 ⟨rfl, hb2⟩
    have k3 := hid (k2.out.stay hb2)
    clear hb2
    clear c0 c1 c2 p1 p2 p3
    go_wp2
    go_ret2
    exact ⟨rfl, k3.out.1⟩
  · have eh : hiW a h = 1106247680 := Nat.min_eq_left (Nat.le_of_not_lt fun hh => by have h9 := gt_f HF.out.am (by decide : amtB 1106247680 = true) (Nat.le_of_lt hh); exact absurd (h9.symm.trans hc) (by decide))
    have hl : (FloatKind.f32.format.order (exW a h v (1106247680)) 0 == some .lt) = true := by rw [← eh]; exact Xh1.out
    go_wp2_with fail
    refine (sExcessAt a h v (1106247680) (by rw [← eh]; exact DH.out) _ w.heap.size (fun w9 hb => ⟨parAt.c0 ((k2.out.stay hb).at (x := (w.heap.size, #[.float .f32 a, .float .f32 h, .float .f32 v], 85)) (by simp)), parAt.c1 ((k2.out.stay hb).at (x := (w.heap.size, #[.float .f32 a, .float .f32 h, .float .f32 v], 85)) (by simp)), parAt.c2 ((k2.out.stay hb).at (x := (w.heap.size, #[.float .f32 a, .float .f32 h, .float .f32 v], 85)) (by simp))⟩)).mono ?_
    rintro e w2 ⟨rfl, hb2⟩
    have k3 := hid (k2.out.stay hb2)
    clear hb2
    clear c0 c1 c2 p1 p2 p3
    go_wp2
    go_ret2
    exact ⟨rfl, k3.out.1⟩

set_option maxHeartbeats 2000000 in
set_option maxRecDepth 100000 in
theorem sBaseOf_ok (a h v r : Nat) (ha : a < 4294967296) (hx : h < 4294967296) (hv : v < 4294967296) (hp : parB a h v = true) (h0 : (S.order (excF h v) 0 == some .gt || S.order (excF h v) 0 == some .eq) = false) (h1 : (S.order (exW a h v (hiW a h)) 0 == some .lt) = false) (hr : bis a h v 24 a (hiW a h) = r) (w : World) :
    Calls Try.prog 84 #[.agg #[.float .f32 a, .float .f32 h, .float .f32 v]] w fun e w' => e = .returned (.tuple #[.float .f32 r, .int .i64 0]) ∧ Below w.heap.size w w' := by
  have k0 : Hid (Kept w [(w.heap.size, #[.float .f32 a, .float .f32 h, .float .f32 v], 85)] (w.alloc (.cells #[.float .f32 a, .float .f32 h, .float .f32 v] 85))) := hid ((Kept.nil w).push _ _)
  have Ha := hid ha
  have Hx := hid hx
  have Hv := hid hv
  have Xhp := hid hp
  have Xh0 := hid h0
  have Xh1 := hid h1
  have Xhr := hid hr
  clear ha hx hv hp h0 h1 hr
  go_enter Try.func84, Try.ntmps84

  go_wp2_with fail
  refine (sParOk a h v Ha.out Hv.out true Xhp.out _ (w.heap.size) 85 (k0.out.at (x := (w.heap.size, #[.float .f32 a, .float .f32 h, .float .f32 v], 85)) (by simp))).mono ?_
  rintro e w0 ⟨rfl, hb0⟩
  have k1 := hid (k0.out.stay hb0)
  clear hb0
  go_wp2_with fail
  refine (sExcAir h v Hx.out (parB_iff.1 Xhp.out).2 _ w.heap.size 1 (parAt.c1 (k1.out.at (x := (w.heap.size, #[.float .f32 a, .float .f32 h, .float .f32 v], 85)) (by simp))) (parAt.c2 (k1.out.at (x := (w.heap.size, #[.float .f32 a, .float .f32 h, .float .f32 v], 85)) (by simp)))).mono ?_
  rintro e w1 ⟨rfl, hb1⟩
  have k2 := hid (k1.out.stay hb1)
  clear hb1
  have ho : (FloatKind.f32.format.order (excF h v) 0 == some .gt || FloatKind.f32.format.order (excF h v) 0 == some .eq) = false := Xh0.out
  have HF := hid (hi_facts (hgt_iff.1 (parB_iff.1 Xhp.out).1) Hx.out (airB_iff.1 (parB_iff.1 Xhp.out).2).1)
  have DH := hid (dry_facts (a := a) (h := h) (v := v) (y := hiW a h) HF.out.lo (Nat.min_le_left _ _) Hx.out (airB_iff.1 (parB_iff.1 Xhp.out).2).1 (airB_iff.1 (parB_iff.1 Xhp.out).2).2.1)
  have p1 := fun w => run_float_arith (P := Try.prog) w .add 22 .f32 _ _ _ HF.out.s1
  have p2 := fun w => run_float_arith (P := Try.prog) w .quo 22 .f32 _ _ _ HF.out.s2
  have p3 := fun w => run_float_arith (P := Try.prog) w .add 22 .f32 _ _ _ HF.out.s3
  have Ak2 : parAt w1 w.heap.size a h v 85 := (k2.out.at (x := (w.heap.size, #[.float .f32 a, .float .f32 h, .float .f32 v], 85)) (by simp))
  have c0 := Ak2.c0
  have c1 := Ak2.c1
  have c2 := Ak2.c2
  clear Ak2
  rcases hc : FloatKind.f32.format.order (hi0 a h) 1106247680 == some .gt with _ | _
  · have eh : hiW a h = hi0 a h := Nat.min_eq_right (Nat.le_of_not_lt fun hh => by have h9 := gt_t HF.out.am (by decide : amtB 1106247680 = true) hh; exact absurd (h9.symm.trans hc) (by decide))
    have hl : (FloatKind.f32.format.order (exW a h v (hi0 a h)) 0 == some .lt) = false := by rw [← eh]; exact Xh1.out
    go_wp2_with fail
    refine (sExcessAt a h v (hi0 a h) (by rw [← eh]; exact DH.out) _ w.heap.size (fun w9 hb => ⟨parAt.c0 ((k2.out.stay hb).at (x := (w.heap.size, #[.float .f32 a, .float .f32 h, .float .f32 v], 85)) (by simp)), parAt.c1 ((k2.out.stay hb).at (x := (w.heap.size, #[.float .f32 a, .float .f32 h, .float .f32 v], 85)) (by simp)), parAt.c2 ((k2.out.stay hb).at (x := (w.heap.size, #[.float .f32 a, .float .f32 h, .float .f32 v], 85)) (by simp))⟩)).mono ?_
    rintro e w2 ⟨rfl, hb2⟩
    have k3 := hid (k2.out.stay hb2)
    clear hb2
    clear c0 c1 c2 p1 p2 p3
    have EN : Hid (BEnds a a (hiW a h)) := hid ⟨Nat.le_refl a, HF.out.lo, Nat.min_le_left _ _⟩
    rw [eh] at EN
    go_wp2_with fail
    go_loopw [6, 4, 5] (fun i l u wr => ∃ k lo hi : Nat, k ≤ 24 ∧ i = .int .i64 k ∧ l = .float .f32 lo ∧ u = .float .f32 hi ∧ Hid (BEnds a lo hi) ∧ Hid (bis a h v (24 - k) lo hi = bis a h v 24 a (hi0 a h)) ∧ Hid (Kept w [(w.heap.size, #[.float .f32 a, .float .f32 h, .float .f32 v], 85)] wr)) (fun i _ _ _ => 24 - (intOf i).toNat)
    case atStart => exact ⟨0, a, _, by omega, rfl, rfl, rfl, EN, hid rfl, k3⟩
    case round =>
      obtain ⟨k, lo, hi, hk, rfl, rfl, rfl, hE, hB, hK⟩ := hrel
      clear EN k3
      by_cases hlt : k < 24
      · have hk3 : (k : Int) < 24 := by omega
        have HL := hid hlt
        have MF := hid (mid_facts hE.out.lh hE.out.hh)
        have m1 := fun w => run_float_arith (P := Try.prog) w .add 22 .f32 _ _ _ MF.out.s1
        have m2 := fun w => run_float_arith (P := Try.prog) w .mul 22 .f32 _ _ _ MF.out.s2
        have DM := hid (dry_facts (a := a) (h := h) (v := v) (y := midW lo hi) (Nat.le_trans hE.out.al MF.out.lo) MF.out.hi Hx.out (airB_iff.1 (parB_iff.1 Xhp.out).2).1 (airB_iff.1 (parB_iff.1 Xhp.out).2).2.1)
        go_wp2_with fail
        refine (sExcessAt a h v (midW lo hi) DM.out _ w.heap.size (fun w9 hb => ⟨parAt.c0 ((hK.out.stay hb).at (x := (w.heap.size, #[.float .f32 a, .float .f32 h, .float .f32 v], 85)) (by simp)), parAt.c1 ((hK.out.stay hb).at (x := (w.heap.size, #[.float .f32 a, .float .f32 h, .float .f32 v], 85)) (by simp)), parAt.c2 ((hK.out.stay hb).at (x := (w.heap.size, #[.float .f32 a, .float .f32 h, .float .f32 v], 85)) (by simp))⟩)).mono ?_
        rintro e wz ⟨rfl, hbz⟩
        have KZ := hid (hK.out.stay hbz)
        rcases hb : exB a h v (midW lo hi) with _ | _
        · have ho : (FloatKind.f32.format.order (exW a h v (midW lo hi)) 0 == some .gt || FloatKind.f32.format.order (exW a h v (midW lo hi)) 0 == some .eq) = false := hb
          have E2 := hid (bis_f (a := a) (h := h) (v := v) (lo := lo) (hi := hi) HL.out hb)
          clear hb
          go_wp2_with fail
          go_roundw
          case rel => exact ⟨k + 1, midW lo hi, hi, by omega, by go_num, rfl, rfl, hid hE.out.down, hid (by rw [← E2.out]; exact hB.out), KZ⟩
          case measure => simp [intOf]; omega
        · have ho : (FloatKind.f32.format.order (exW a h v (midW lo hi)) 0 == some .gt || FloatKind.f32.format.order (exW a h v (midW lo hi)) 0 == some .eq) = true := hb
          have E2 := hid (bis_t (a := a) (h := h) (v := v) (lo := lo) (hi := hi) HL.out hb)
          clear hb
          go_wp2_with fail
          go_roundw
          case rel => exact ⟨k + 1, lo, midW lo hi, by omega, by go_num, rfl, rfl, hid hE.out.up, hid (by rw [← E2.out]; exact hB.out), KZ⟩
          case measure => simp [intOf]; omega
      · obtain rfl : k = 24 := by omega
        obtain rfl : hi = r := hB.out.trans (by rw [← eh]; exact Xhr.out)
        clear hB
        go_wp2
        go_ret2
        exact ⟨rfl, hK.out.1⟩
  · have eh : hiW a h = 1106247680 := Nat.min_eq_left (Nat.le_of_not_lt fun hh => by have h9 := gt_f HF.out.am (by decide : amtB 1106247680 = true) (Nat.le_of_lt hh); exact absurd (h9.symm.trans hc) (by decide))
    have hl : (FloatKind.f32.format.order (exW a h v (1106247680)) 0 == some .lt) = false := by rw [← eh]; exact Xh1.out
    go_wp2_with fail
    refine (sExcessAt a h v (1106247680) (by rw [← eh]; exact DH.out) _ w.heap.size (fun w9 hb => ⟨parAt.c0 ((k2.out.stay hb).at (x := (w.heap.size, #[.float .f32 a, .float .f32 h, .float .f32 v], 85)) (by simp)), parAt.c1 ((k2.out.stay hb).at (x := (w.heap.size, #[.float .f32 a, .float .f32 h, .float .f32 v], 85)) (by simp)), parAt.c2 ((k2.out.stay hb).at (x := (w.heap.size, #[.float .f32 a, .float .f32 h, .float .f32 v], 85)) (by simp))⟩)).mono ?_
    rintro e w2 ⟨rfl, hb2⟩
    have k3 := hid (k2.out.stay hb2)
    clear hb2
    clear c0 c1 c2 p1 p2 p3
    have EN : Hid (BEnds a a (hiW a h)) := hid ⟨Nat.le_refl a, HF.out.lo, Nat.min_le_left _ _⟩
    rw [eh] at EN
    go_wp2_with fail
    go_loopw [6, 4, 5] (fun i l u wr => ∃ k lo hi : Nat, k ≤ 24 ∧ i = .int .i64 k ∧ l = .float .f32 lo ∧ u = .float .f32 hi ∧ Hid (BEnds a lo hi) ∧ Hid (bis a h v (24 - k) lo hi = bis a h v 24 a (1106247680)) ∧ Hid (Kept w [(w.heap.size, #[.float .f32 a, .float .f32 h, .float .f32 v], 85)] wr)) (fun i _ _ _ => 24 - (intOf i).toNat)
    case atStart => exact ⟨0, a, _, by omega, rfl, rfl, rfl, EN, hid rfl, k3⟩
    case round =>
      obtain ⟨k, lo, hi, hk, rfl, rfl, rfl, hE, hB, hK⟩ := hrel
      clear EN k3
      by_cases hlt : k < 24
      · have hk3 : (k : Int) < 24 := by omega
        have HL := hid hlt
        have MF := hid (mid_facts hE.out.lh hE.out.hh)
        have m1 := fun w => run_float_arith (P := Try.prog) w .add 22 .f32 _ _ _ MF.out.s1
        have m2 := fun w => run_float_arith (P := Try.prog) w .mul 22 .f32 _ _ _ MF.out.s2
        have DM := hid (dry_facts (a := a) (h := h) (v := v) (y := midW lo hi) (Nat.le_trans hE.out.al MF.out.lo) MF.out.hi Hx.out (airB_iff.1 (parB_iff.1 Xhp.out).2).1 (airB_iff.1 (parB_iff.1 Xhp.out).2).2.1)
        go_wp2_with fail
        refine (sExcessAt a h v (midW lo hi) DM.out _ w.heap.size (fun w9 hb => ⟨parAt.c0 ((hK.out.stay hb).at (x := (w.heap.size, #[.float .f32 a, .float .f32 h, .float .f32 v], 85)) (by simp)), parAt.c1 ((hK.out.stay hb).at (x := (w.heap.size, #[.float .f32 a, .float .f32 h, .float .f32 v], 85)) (by simp)), parAt.c2 ((hK.out.stay hb).at (x := (w.heap.size, #[.float .f32 a, .float .f32 h, .float .f32 v], 85)) (by simp))⟩)).mono ?_
        rintro e wz ⟨rfl, hbz⟩
        have KZ := hid (hK.out.stay hbz)
        rcases hb : exB a h v (midW lo hi) with _ | _
        · have ho : (FloatKind.f32.format.order (exW a h v (midW lo hi)) 0 == some .gt || FloatKind.f32.format.order (exW a h v (midW lo hi)) 0 == some .eq) = false := hb
          have E2 := hid (bis_f (a := a) (h := h) (v := v) (lo := lo) (hi := hi) HL.out hb)
          clear hb
          go_wp2_with fail
          go_roundw
          case rel => exact ⟨k + 1, midW lo hi, hi, by omega, by go_num, rfl, rfl, hid hE.out.down, hid (by rw [← E2.out]; exact hB.out), KZ⟩
          case measure => simp [intOf]; omega
        · have ho : (FloatKind.f32.format.order (exW a h v (midW lo hi)) 0 == some .gt || FloatKind.f32.format.order (exW a h v (midW lo hi)) 0 == some .eq) = true := hb
          have E2 := hid (bis_t (a := a) (h := h) (v := v) (lo := lo) (hi := hi) HL.out hb)
          clear hb
          go_wp2_with fail
          go_roundw
          case rel => exact ⟨k + 1, lo, midW lo hi, by omega, by go_num, rfl, rfl, hid hE.out.up, hid (by rw [← E2.out]; exact hB.out), KZ⟩
          case measure => simp [intOf]; omega
      · obtain rfl : k = 24 := by omega
        obtain rfl : hi = r := hB.out.trans (by rw [← eh]; exact Xhr.out)
        clear hB
        go_wp2
        go_ret2
        exact ⟨rfl, hK.out.1⟩

set_option maxRecDepth 100000 in
theorem coreBaseOf (x0a x0h x0v : Nat) (r0 : Nat) (hl0 : r0 < 4294967296) (hf0 : finB r0 = true) (r1 : Int)
    (hS : ∀ w, Calls Try.prog 84 #[.agg #[.float .f32 x0a, .float .f32 x0h, .float .f32 x0v]] w fun e w' => e = .returned (.tuple #[.float .f32 r0, .int .i64 r1]) ∧ Below w.heap.size w w')
    (hI : ∀ w, Calls Try.prog 85 #[.agg #[.float .f32 x0a, .float .f32 x0h, .float .f32 x0v]] w fun e w' => e = .returned (.tuple #[.float .f32 r0, .int .i64 r1]) ∧ Below w.heap.size w w') (w : World) :
    Calls Try.prog 20 #[.agg #[.float .f32 x0a, .float .f32 x0h, .float .f32 x0v]] w fun e w' => e = .returned (.bool true) ∧ Below w.heap.size w w' := by
  have k0 : Hid (Kept w [(w.heap.size, #[.float .f32 x0a, .float .f32 x0h, .float .f32 x0v], 82)] (w.alloc (.cells (#[.float .f32 x0a, .float .f32 x0h, .float .f32 x0v]) 82))) := hid ((Kept.nil w).push (#[.float .f32 x0a, .float .f32 x0h, .float .f32 x0v]) 82)
  have HS := hid hS
  have HI := hid hI
  clear hS hI
  have hc0 := fun w => run_conv_wid (P := Try.prog) w 22 26 r0 hl0 Try.underlying22 Try.underlying26 (finB_iff.1 hf0)
  have Hl0 := hid hl0
  have Hf0 := hid hf0
  clear hl0 hf0
  all_goals
    go_enter Try.func20, Try.ntmps20
    go_wp2_with (refine wpList_load_row rfl 82 _ rfl (w.heap.size) rfl 82 (#[.float .f32 x0a, .float .f32 x0h, .float .f32 x0v]) (0, 0) _ (k0.out.at (x := (w.heap.size, #[.float .f32 x0a, .float .f32 x0h, .float .f32 x0v], 82)) (by simp)) Try.underlying82 rfl (info_lpar) ?_)
    refine (toParcel _ _ _ _).mono ?_
    rintro e u0 ⟨rfl, hb0⟩
    have k1 := hid (k0.out.stay hb0)
    clear hb0
    go_wp2_with fail
    refine (HS.out _).mono ?_
    rintro e u1 ⟨rfl, hb1⟩
    have k2 := hid (k1.out.stay hb1)
    clear hb1
    go_wp2_with (refine wpList_load_row rfl 82 _ rfl (w.heap.size) rfl 82 (#[.float .f32 x0a, .float .f32 x0h, .float .f32 x0v]) (0, 0) _ (k2.out.at (x := (w.heap.size, #[.float .f32 x0a, .float .f32 x0h, .float .f32 x0v], 82)) (by simp)) Try.underlying82 rfl (info_lpar) ?_)
    refine (toParcel _ _ _ _).mono ?_
    rintro e u2 ⟨rfl, hb2⟩
    have k3 := hid (k2.out.stay hb2)
    clear hb2
    go_wp2_with fail
    refine (HI.out _).mono ?_
    rintro e u3 ⟨rfl, hb3⟩
    have k4 := hid (k3.out.stay hb3)
    clear hb3
    go_wp2_with fail
    refine (sameFloat r0 Hl0.out Hf0.out _).mono ?_
    rintro e z0 ⟨rfl, rfl⟩
    go_wp2
    go_ret
    exact ⟨rfl, k4.out.1⟩

theorem lawBaseOf (a h v : Nat) (ha : a < 4294967296) (hx : h < 4294967296) (hv : v < 4294967296) (w : World) :
    Calls Try.prog 20 #[.agg #[.float .f32 a, .float .f32 h, .float .f32 v]] w fun e w' => e = .returned (.bool true) ∧ Below w.heap.size w w' := by
  rcases hp : parB a h v with _ | _
  · exact coreBaseOf a h v 0 (by decide) (by decide) 1 (sBaseOf_bad a h v ha hx hv hp) (iBaseOf_bad a h v ha hx hv hp) w
  · have A := hgt_iff.1 (parB_iff.1 hp).1
    rcases h0 : (S.order (excF h v) 0 == some .gt || S.order (excF h v) 0 == some .eq) with _ | _
    · rcases h1 : S.order (exW a h v (hiW a h)) 0 == some .lt with _ | _
      · have E := bis_hgt (a := a) (h := h) (v := v) 24 (lo := a) (hi := hiW a h) ⟨Nat.le_refl a, (hi_facts A hx (airB_iff.1 (parB_iff.1 hp).2).1).lo, Nat.min_le_left _ _⟩
        have ea : amtB (bis a h v 24 a (hiW a h)) = true := amtB_iff.2 (Nat.lt_of_le_of_lt E (by decide))
        exact coreBaseOf a h v _ (amt_lt ea) (amt_fin ea) 0 (sBaseOf_ok a h v _ ha hx hv hp h0 h1 rfl) (iBaseOf_ok a h v _ ha hx hv hp h0 h1 rfl) w
      · exact coreBaseOf a h v 0 (by decide) (by decide) 6 (sBaseOf_none a h v ha hx hv hp h0 h1) (iBaseOf_none a h v ha hx hv hp h0 h1) w
    · exact coreBaseOf a h v a ha (amt_fin (hgt_amt (parB_iff.1 hp).1)) 0 (sBaseOf_own a h v ha hx hv hp h0) (iBaseOf_own a h v ha hx hv hp h0) w

theorem words_cons : ∀ (v : List Char) (r : List Char), (∀ c ∈ v, c ≠ Char.ofNat 32) → wordsSigns (v ++ Char.ofNat 32 :: r) = v :: wordsSigns r
  | [], r, _ => rfl
  | c :: v, r, h => by
    have ih := words_cons v r (fun x hx => h x (by simp [hx]))
    have hc : c ≠ Char.ofNat 32 := h c (by simp)
    show wordsSigns (c :: (v ++ Char.ofNat 32 :: r)) = _
    rw [wordsSigns.eq_3 _ _ (fun e => hc e), ih]

def w0 : List Nat := [104, 97, 114, 110, 101, 115, 115]

def w1 : List Nat := [52, 52, 52, 55, 100, 49, 55, 54, 55, 100, 52, 57, 98, 51, 52, 55, 48, 49, 101, 48, 102, 51, 48, 51, 97, 48, 54, 51, 97, 100, 56, 98, 53, 54, 56, 52, 57, 100, 101, 53, 102, 54, 51, 50, 101, 48, 55, 52, 97, 53, 55, 101, 57, 51, 102, 53, 55, 101, 50, 50, 56, 50, 97, 55]

def w2 : List Nat := [99, 117, 116]

def w3 : List Nat := [97, 116, 32, 108, 111, 111, 112, 46, 101, 120, 97, 109, 112, 108, 101, 47, 103, 48, 49, 50, 50, 52, 47, 108, 97, 119, 115, 46, 70, 110, 69, 120, 97, 99, 116, 84, 104, 105, 114, 100, 82, 111, 111, 116, 32, 108, 111, 111, 112, 46, 101, 120, 97, 109, 112, 108, 101, 47, 103, 48, 49, 50, 50, 52, 47, 108, 97, 119, 115, 46, 70, 110, 69, 120, 97, 99, 116, 83, 104, 105, 102, 116, 77, 97, 115, 115, 101, 115, 32, 108, 111, 111, 112, 46, 101, 120, 97, 109, 112, 108, 101, 47, 103, 48, 49, 50, 50, 52, 47, 108, 97, 119, 115, 46, 70, 110, 69, 120, 97, 99, 116, 71, 114, 111, 119, 79, 110, 99, 101, 32, 108, 111, 111, 112, 46, 101, 120, 97, 109, 112, 108, 101, 47, 103, 48, 49, 50, 50, 52, 47, 108, 97, 119, 115, 46, 70, 110, 69, 120, 97, 99, 116, 71, 114, 111, 119, 83, 116, 101, 112, 115, 32, 108, 111, 111, 112, 46, 101, 120, 97, 109, 112, 108, 101, 47, 103, 48, 49, 50, 50, 52, 47, 108, 97, 119, 115, 46, 70, 110, 69, 120, 97, 99, 116, 83, 116, 101, 112, 115, 84, 111, 68, 114, 121, 32, 108, 111, 111, 112, 46, 101, 120, 97, 109, 112, 108, 101, 47, 103, 48, 49, 50, 50, 52, 47, 108, 97, 119, 115, 46, 70, 110, 69, 120, 97, 99, 116, 69, 118, 101, 110, 116, 115, 79, 102, 32, 108, 111, 111, 112, 46, 101, 120, 97, 109, 112, 108, 101, 47, 103, 48, 49, 50, 50, 52, 47, 108, 97, 119, 115, 46, 70, 110, 69, 120, 97, 99, 116, 76, 111, 115, 115, 101, 115, 79, 102, 32, 108, 111, 111, 112, 46, 101, 120, 97, 109, 112, 108, 101, 47, 103, 48, 49, 50, 50, 52, 47, 108, 97, 119, 115, 46, 70, 110, 69, 120, 97, 99, 116, 67, 111, 108, 108, 105, 100, 101, 32, 108, 111, 111, 112, 46, 101, 120, 97, 109, 112, 108, 101, 47, 103, 48, 49, 50, 50, 52, 47, 108, 97, 119, 115, 46, 70, 110, 69, 120, 97, 99, 116, 67, 111, 108, 108, 105, 100, 101, 83, 116, 101, 112, 115, 32, 108, 111, 111, 112, 46, 101, 120, 97, 109, 112, 108, 101, 47, 103, 48, 49, 50, 50, 52, 47, 108, 97, 119, 115, 46, 70, 110, 69, 120, 97, 99, 116, 82, 97, 105, 110, 77, 97, 100, 101, 32, 108, 111, 111, 112, 46, 101, 120, 97, 109, 112, 108, 101, 47, 103, 48, 49, 50, 50, 52, 47, 108, 97, 119, 115, 46, 70, 110, 69, 120, 97, 99, 116, 67, 111, 108, 108, 105, 100, 101, 80, 97, 105, 114, 115, 32, 108, 111, 111, 112, 46, 101, 120, 97, 109, 112, 108, 101, 47, 103, 48, 49, 50, 50, 52, 47, 108, 97, 119, 115, 46, 70, 110, 69, 120, 97, 99, 116, 68, 114, 97, 119, 80, 97, 105, 114, 115, 32, 108, 111, 111, 112, 46, 101, 120, 97, 109, 112, 108, 101, 47, 103, 48, 49, 50, 50, 52, 47, 108, 97, 119, 115, 46, 70, 110, 69, 120, 97, 99, 116, 86, 97, 108, 105, 100, 80, 97, 114, 99, 101, 108, 32, 108, 111, 111, 112, 46, 101, 120, 97, 109, 112, 108, 101, 47, 103, 48, 49, 50, 50, 52, 47, 108, 97, 119, 115, 46, 70, 110, 69, 120, 97, 99, 116, 83, 97, 109, 101, 80, 97, 114, 99, 101, 108, 32, 108, 111, 111, 112, 46, 101, 120, 97, 109, 112, 108, 101, 47, 103, 48, 49, 50, 50, 52, 47, 108, 97, 119, 115, 46, 70, 110, 69, 120, 97, 99, 116, 83, 101, 116, 116, 108, 101, 65, 105, 114, 32, 108, 111, 111, 112, 46, 101, 120, 97, 109, 112, 108, 101, 47, 103, 48, 49, 50, 50, 52, 47, 108, 97, 119, 115, 46, 70, 110, 69, 120, 97, 99, 116, 82, 97, 105, 115, 101, 68, 114, 121, 32, 108, 111, 111, 112, 46, 101, 120, 97, 109, 112, 108, 101, 47, 103, 48, 49, 50, 50, 52, 47, 108, 97, 119, 115, 46, 70, 110, 69, 120, 97, 99, 116, 82, 97, 105, 115, 101, 77, 111, 105, 115, 116, 32, 108, 111, 111, 112, 46, 101, 120, 97, 109, 112, 108, 101, 47, 103, 48, 49, 50, 50, 52, 47, 108, 97, 119, 115, 46, 70, 110, 69, 120, 97, 99, 116, 66, 97, 115, 101, 79, 102, 32, 108, 111, 111, 112, 46, 101, 120, 97, 109, 112, 108, 101, 47, 103, 48, 49, 50, 50, 52, 47, 108, 97, 119, 115, 46, 70, 110, 69, 120, 97, 99, 116, 77, 105, 120, 80, 97, 114, 99, 101, 108, 115, 32, 108, 111, 111, 112, 46, 101, 120, 97, 109, 112, 108, 101, 47, 103, 48, 49, 50, 50, 52, 47, 108, 97, 119, 115, 46, 70, 110, 69, 120, 97, 99, 116, 86, 97, 108, 105, 100, 83, 111, 117, 110, 100, 105, 110, 103, 32, 108, 111, 111, 112, 46, 101, 120, 97, 109, 112, 108, 101, 47, 103, 48, 49, 50, 50, 52, 47, 108, 97, 119, 115, 46, 70, 110, 69, 120, 97, 99, 116, 83, 97, 109, 101, 83, 111, 117, 110, 100, 105, 110, 103, 32, 108, 111, 111, 112, 46, 101, 120, 97, 109, 112, 108, 101, 47, 103, 48, 49, 50, 50, 52, 47, 108, 97, 119, 115, 46, 70, 110, 69, 120, 97, 99, 116, 69, 118, 101, 110, 83, 111, 117, 110, 100, 105, 110, 103, 32, 108, 111, 111, 112, 46, 101, 120, 97, 109, 112, 108, 101, 47, 103, 48, 49, 50, 50, 52, 47, 108, 97, 119, 115, 46, 70, 110, 69, 120, 97, 99, 116, 65, 105, 114, 65, 116, 32, 108, 111, 111, 112, 46, 101, 120, 97, 109, 112, 108, 101, 47, 103, 48, 49, 50, 50, 52, 47, 108, 97, 119, 115, 46, 70, 110, 69, 120, 97, 99, 116, 76, 105, 102, 116, 79, 102, 32, 108, 111, 111, 112, 46, 101, 120, 97, 109, 112, 108, 101, 47, 103, 48, 49, 50, 50, 52, 47, 108, 97, 119, 115, 46, 70, 110, 69, 120, 97, 99, 116, 82, 105, 115, 101, 73, 110, 32, 108, 111, 111, 112, 46, 101, 120, 97, 109, 112, 108, 101, 47, 103, 48, 49, 50, 50, 52, 47, 108, 97, 119, 115, 46, 70, 110, 69, 120, 97, 99, 116, 70, 105, 114, 115, 116, 85, 110, 115, 116, 101, 97, 100, 121, 32, 108, 111, 111, 112, 46, 101, 120, 97, 109, 112, 108, 101, 47, 103, 48, 49, 50, 50, 52, 47, 108, 97, 119, 115, 46, 70, 110, 69, 120, 97, 99, 116, 83, 116, 101, 97, 100, 121, 83, 111, 117, 110, 100, 105, 110, 103, 32, 108, 111, 111, 112, 46, 101, 120, 97, 109, 112, 108, 101, 47, 103, 48, 49, 50, 50, 52, 47, 108, 97, 119, 115, 46, 70, 110, 69, 120, 97, 99, 116, 87, 97, 114, 109, 76, 111, 119, 101, 115, 116, 32, 108, 111, 111, 112, 46, 101, 120, 97, 109, 112, 108, 101, 47, 103, 48, 49, 50, 50, 52, 47, 108, 97, 119, 115, 46, 70, 110, 69, 120, 97, 99, 116, 86, 97, 112, 111, 117, 114, 65, 98, 111, 118, 101, 32, 108, 111, 111, 112, 46, 101, 120, 97, 109, 112, 108, 101, 47, 103, 48, 49, 50, 50, 52, 47, 108, 97, 119, 115, 46, 70, 110, 69, 120, 97, 99, 116, 72, 101, 105, 103, 104, 116, 79, 102, 72, 101, 97, 116]

def letters (l : List Nat) : List Char := l.map Char.ofNat

theorem head_reads : Try.prog.initOrder = String.ofList (letters w0 ++ Char.ofNat 32 :: (letters w1 ++ Char.ofNat 32 :: (letters w2 ++ Char.ofNat 32 :: letters w3))) := by kernel_rfl

theorem no_blank {l : List Nat} (h : l.all (fun n => Char.ofNat n != Char.ofNat 32) = true) : ∀ c ∈ letters l, c ≠ Char.ofNat 32 := by
  intro c hc
  obtain ⟨n, hn, rfl⟩ := List.mem_map.1 hc
  have := List.all_eq_true.1 h n hn
  simpa using this

theorem h0 : letters w0 = "harness".toList := by kernel_rfl

theorem h2 : letters w2 = "cut".toList := by kernel_rfl

theorem sums : isSumSigns (letters w1) = true := by kernel_rfl

theorem words : wordsSigns Try.prog.initOrder.toList = "harness".toList :: letters w1 :: "cut".toList :: wordsSigns (letters w3) := by
  rw [head_reads, String.toList_ofList, words_cons _ _ (no_blank (by decide +kernel)), words_cons _ _ (no_blank (by decide +kernel)), words_cons _ _ (no_blank (by decide +kernel)), h0, h2]

theorem behind : ∃ r, behindMainWord (wordsSigns Try.prog.initOrder.toList) = "cut".toList :: r := by
  refine ⟨wordsSigns (letters w3), ?_⟩
  rw [words]
  generalize wordsSigns (letters w3) = r
  have hs := sums
  generalize letters w1 = v at hs
  unfold behindMainWord
  simp [hs]

theorem not_later : Try.prog.laysLater = false := by kernel_rfl

theorem no_reflect : Try.prog.bearsReflect = false := by kernel_rfl

theorem no_doors : Try.prog.doorFits [] = true := by kernel_rfl

theorem strips (r : List (List Char)) : stripLifts liftWords ("cut".toList :: r) = ([], "cut".toList :: r) := by kernel_rfl

theorem may_enter_of (P : Program) (r : List (List Char)) (h : behindMainWord (wordsSigns P.initOrder.toList) = "cut".toList :: r) (h1 : P.laysLater = false) (h2 : P.bearsReflect = false) (h3 : P.doorFits [] = true) : P.mayEnter = true := by
  unfold Program.mayEnter
  rw [h]
  dsimp only
  rw [strips, h1, h2, h3]
  kernel_rfl

theorem lifts_final_of (P : Program) (r : List (List Char)) (h : behindMainWord (wordsSigns P.initOrder.toList) = "cut".toList :: r) : P.liftsFinal = false := by
  unfold Program.liftsFinal Program.headLifts
  rw [h]
  dsimp only
  rw [strips]
  kernel_rfl

theorem made_of (P : Program) (r : List (List Char)) (h : behindMainWord (wordsSigns P.initOrder.toList) = "cut".toList :: r) : P.make = some .cut := by
  unfold Program.make
  rw [h]
  kernel_rfl

theorem may_enter : Try.prog.mayEnter = true := let ⟨r, h⟩ := behind; may_enter_of _ r h not_later no_reflect no_doors

theorem lifts_final : Try.prog.liftsFinal = false := let ⟨r, h⟩ := behind; lifts_final_of _ r h

theorem made : Try.prog.make = some .cut := let ⟨r, h⟩ := behind; made_of _ r h

theorem laid : laidOutB Try.prog = true := by kernel_rfl

theorem rowed : mapsRowed Try.prog = true := by kernel_rfl

theorem no_stops : Try.prog.stops = [] := by kernel_rfl

theorem no_knobs : Try.prog.stopKnobs = [] := by kernel_rfl

theorem plain_keys : Try.prog.plainKeys = false := by kernel_rfl

theorem stops_heard : Try.prog.stopsHeard = true := by kernel_rfl

theorem arr1 {α : Type} {cs : Array α} (h : cs.size = 1) : ∃ c0, cs = #[c0] := by
  obtain ⟨l⟩ := cs
  match l, h with
  | [a], _ => exact ⟨a, rfl⟩

theorem own : ownKnob Try.prog.godebug = none := by kernel_rfl

theorem vls3 (c : Nat → Nat) : vls 3 (flw c) = #[.float .f32 (c 0), .float .f32 (c 1), .float .f32 (c 2)] := rfl

theorem cells3 : Try.prog.cellsOf 82 = 3 := by kernel_rfl

theorem types3 : Try.prog.cellTypes Try.prog.depth 82 = some (List.replicate 3 22) := by kernel_rfl

theorem rdq : Try.prog.readableRec 82 = true ∧ 82 < Try.prog.types.size := ⟨by kernel_rfl, of_decide_eq_true (by kernel_rfl)⟩
end Go.Proofs.Ytlccmhkjfnmdiaa

namespace Go.Proofs.Ytlccmhkjfnmdiaa.fnExactBaseOf
open Go.RowKit Go.Fl Go.ChangeShapes Go.WideShapes Go.ChangeAt

set_option maxHeartbeats 2000000 in
theorem closed : joinedFacts Try.prog 20 Try.f20 Rows.fnExactBaseOfSpec Rows.fnExactBaseOfRow = true := by
  unfold joinedFacts
  simp only [Bool.and_eq_true]
  exact ⟨⟨⟨⟨⟨⟨⟨⟨⟨⟨⟨⟨⟨⟨⟨⟨⟨⟨⟨⟨⟨⟨⟨⟨⟨⟨⟨⟨⟨⟨⟨(by as_aux_lemma => kernel_rfl),
    laid⟩,
    rowed⟩,
    (by as_aux_lemma => kernel_rfl)⟩,
    (by as_aux_lemma => kernel_rfl)⟩,
    (by as_aux_lemma => kernel_rfl)⟩,
    (by rw [no_stops]; rfl)⟩,
    (by as_aux_lemma => kernel_rfl)⟩,
    (by rw [no_knobs]; rfl)⟩,
    (by as_aux_lemma => kernel_rfl)⟩,
    (by as_aux_lemma => kernel_rfl)⟩,
    (by as_aux_lemma => kernel_rfl)⟩,
    (by as_aux_lemma => kernel_rfl)⟩,
    (by as_aux_lemma => kernel_rfl)⟩,
    (by as_aux_lemma => kernel_rfl)⟩,
    (by as_aux_lemma => kernel_rfl)⟩,
    (by as_aux_lemma => kernel_rfl)⟩,
    (by as_aux_lemma => kernel_rfl)⟩,
    (by as_aux_lemma => kernel_rfl)⟩,
    (by as_aux_lemma => kernel_rfl)⟩,
    (by as_aux_lemma => kernel_rfl)⟩,
    (by as_aux_lemma => kernel_rfl)⟩,
    (show (Rows.fnExactBaseOfRow.plainKeys == Try.prog.plainKeys) = true by rw [plain_keys]; rfl)⟩,
    (by as_aux_lemma => kernel_rfl)⟩,
    stops_heard⟩,
    may_enter⟩,
    (show (Rows.fnExactBaseOfRow.lifted == Try.prog.liftsFinal) = true by rw [lifts_final]; rfl)⟩,
    (show (Try.prog.make == some Rows.fnExactBaseOfRow.make) = true by rw [made]; rfl)⟩,
    (by as_aux_lemma => kernel_rfl)⟩,
    (by as_aux_lemma => kernel_rfl)⟩,
    (by as_aux_lemma => kernel_rfl)⟩,
    (by as_aux_lemma => kernel_rfl)⟩

set_option maxRecDepth 100000 in
theorem lifted (os : Os) (started : os.Started) (H : Type) (enc : TypeId × Value → H) :
    ReturnsInHanded {} Try.checked os 20 .any (Rows.fnExactBaseOfSpec.pre6 enc Try.prog Try.f20 Rows.fnExactBaseOfRow.domain false) (Rows.fnExactBaseOfSpec.post enc Try.prog Try.f20 false true false false) := by
  refine LawFrame.lifted (C := Try.checked) (fn := Try.f20) (n := 1) (tb := 4) started own (by kernel_rfl) Try.func20 laid ?_ rfl rfl ?_ rfl Try.underlying4
    (ChangeSpec.witness6 (enc := enc) (C := Try.checked) false ⟨#[], #[.agg #[.float .f32 0, .float .f32 0, .float .f32 0]], []⟩ 8 (by kernel_rfl) (by kernel_rfl) (by kernel_rfl) (by kernel_rfl)) ?_
  · intro t ht
    simp only [Try.params20, List.mem_cons, List.not_mem_nil, or_false] at ht
    subst ht; exact rdq
  · intro ds hd
    match ds, hd with
    | [_], _ => rfl
  · intro W base args ds ps hval hn _
    obtain ⟨v0, rfl⟩ : ∃ v0, args = #[v0] := arr1 hn
    obtain ⟨c0, rfl, hb0⟩ := open_floats Try.underlying82 rfl Try.underlying22 cells3 types3 (hval 0 82 v0 rfl rfl)
    simp only [vls3]
    exact lawBaseOf (c0 0) (c0 1) (c0 2) (hb0 0 (by decide)) (hb0 1 (by decide)) (hb0 2 (by decide)) W

theorem over : Rows.fnExactBaseOfRow.holds Try.pinned (OpenSpec.ofChange Rows.fnExactBaseOfSpec) :=
  OpenClaim.holds_of_wide 20 Try.f20 rfl rfl rfl rfl rfl rfl rfl ⟨rfl, rfl, rfl, rfl, rfl⟩ rfl rfl rfl rfl rfl (by kernel_rfl) Try.func20 closed
    (of_decide_eq_true (by kernel_rfl)) (by unfold Func.isWrapper; rw [if_neg (by decide +kernel)]; exact ⟨rfl, rfl⟩)
    (fun os started H enc _ => lifted os started H enc)

theorem proved : Rows.FnExactBaseOfSaid := over
#print axioms proved
end Go.Proofs.Ytlccmhkjfnmdiaa.fnExactBaseOf
