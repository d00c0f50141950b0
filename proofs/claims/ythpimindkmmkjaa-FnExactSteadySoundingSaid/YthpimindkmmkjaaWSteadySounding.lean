import Derived.Test.YthpimindkmmkjaaCSteadySounding
import Derived.Test.YthpimindkmmkjaaChecked
import Derived.Test.YthpimindkmmkjaaRows
import Derived.Laws.FloatArith
import Derived.ProofKit
import Derived.WalkKit
import Derived.WalkLawsBesides
import Derived.WalkSpells
import Derived.Deep.QuietTactic
import Derived.BigQuiet
import Derived.Deep.RegionHeld3
import Derived.ChangeKeysEq
import Derived.Laws.BitsAllLaws
import Derived.Deep.MidRow
import Derived.Deep.WholeRow
import Derived.StillTailTactics
import Derived.Deep.Slices
import Derived.ChangeSame
import Derived.OrdersIn
import Derived.ControlIn
import Derived.RangeFuncSeq
import Derived.RangeFuncNested
import Derived.RangeFuncLeaves
import Derived.RangeFuncBox
import Derived.OwnWalkIn
import Derived.TacticsInMore
import Derived.LoopNIn
import Derived.LoopIn
import Derived.Shelf.Abstract
import Derived.ArgAppend
import Derived.Lib.SliceRun
import Derived.OpenShut
import Derived.Below
import Derived.Laws.AppendOwn
import Derived.MapKept
import Derived.StillTail
/- The law FnExactSteadySounding of chapter 1: at every argument the call returns true, and what was there before it is as it was. -/
namespace Go.Proofs.Ythpimindkmmkjaa
open Go.RowKit Go.Fl

@[go_sem] theorem ext_f64bits (y : Nat) (w : World) : (callFunc 181 #[.float .f64 y]).run Try.prog w = .ok (.value (.int .u64 y)) w := by
  rw [run_callFunc_extern Try.func181 (by kernel_rfl) (by kernel_rfl) (by kernel_rfl) (e := Extern.MathFloatBits.float64bits) (by kernel_rfl)]
  rfl

@[go_sem] theorem ext_f64from (n : Int) (w : World) : (callFunc 188 #[.int .u64 n]).run Try.prog w = .ok (.value (.float .f64 n.toNat)) w := by
  rw [run_callFunc_extern Try.func188 (by kernel_rfl) (by kernel_rfl) (by kernel_rfl) (e := Extern.MathFloatBits.float64frombits) (by kernel_rfl)]
  rfl

theorem hid {p : Prop} (h : p) : Hid p := h

theorem clear_sign (y : Nat) (h : y < 18446744073709551616) : (bits BinOp.andNot IntKind.u64 (y : Int) 9223372036854775808).toNat = y % 9223372036854775808 := by
  rw [u64_andNot _ _ (by omega) (by omega) (by omega) (by omega)]
  rw [Int.toNat_natCast, Int.toNat_natCast]
  exact Nat.and_two_pow_sub_one_eq_mod y 63

theorem abs_f64 (y : Nat) (h : y < 18446744073709551616) (w : World) :
    Calls Try.prog 176 #[.float .f64 y] w fun e w' => e = .returned (.float .f64 (y % 9223372036854775808)) ∧ w = w' := by
  have hc := hid (clear_sign y h)
  clear h
  go_enter Try.func176, Try.ntmps176
  go_wp2
  go_ret
  exact ⟨by simp [hc.out], rfl⟩

theorem isNaN_f64 (y : Nat) (w : World) :
    Calls Try.prog 149 #[.float .f64 y] w fun e w' => e = .returned (.bool (FloatKind.f64.format.order y y != some .eq)) ∧ w = w' := by
  go_enter Try.func149, Try.ntmps149
  go_wp2
  go_ret
  exact ⟨rfl, rfl⟩

theorem isInf_f64 (y : Nat) (h : y < 18446744073709551616) (w : World) :
    Calls Try.prog 150 #[.float .f64 y, .int .i64 0] w fun e w' => e = .returned (.bool (FloatKind.f64.format.order (y % 9223372036854775808) 9218868437227405311 == some .gt)) ∧ w = w' := by
  have hc := hid h
  clear h
  go_enter Try.func150, Try.ntmps150
  go_wp2_with (go_at_call 176; refine (abs_f64 y hc.out _).mono ?_; rintro e w' ⟨rfl, rfl⟩)
  go_ret
  exact ⟨rfl, rfl⟩

theorem isFinite_t (x : Nat) (hx : x < 4294967296) (h : finB x = true) (w : World) :
    Calls Try.prog 105 #[.float .f32 x] w fun e w' => e = .returned (.bool true) ∧ w = w' := by
  rw [finB_iff] at h
  have hc := fun w => run_conv_wid (P := Try.prog) w 22 94 x hx Try.underlying22 Try.underlying94 h
  obtain ⟨a, b, m, e, hr⟩ := read_wid_fin hx h
  have hn : (FloatKind.f64.format.order (wid x) (wid x) != some .eq) = false := by
    show (D.order (wid x) (wid x) != some .eq) = false
    rw [order_self hr]; rfl
  have hi : (FloatKind.f64.format.order (wid x % 9223372036854775808) 9218868437227405311 == some .gt) = false := by
    show (D.order (wid x % 9223372036854775808) 9218868437227405311 == some .gt) = false
    rw [b, order_ltD a (by decide)]
    rw [DINF_val] at a
    have hle : wid (mg x) ≤ 9218868437227405311 := by omega
    rcases Nat.lt_or_eq_of_le hle with h' | h'
    · rw [Nat.compare_eq_lt.2 h']; rfl
    · rw [Nat.compare_eq_eq.2 h']; rfl
  have hw : wid x < 18446744073709551616 := D.write_lt _
  have Hn := hid hn
  have Hi := hid hi
  have Hw := hid hw
  clear hn hi hw hr a b h hx
  go_enter Try.func105, Try.ntmps105
  go_wp2_with (first | (go_at_call 149; refine (isNaN_f64 (wid x) _).mono ?_; rintro e w' ⟨rfl, rfl⟩; rw [Hn.out]) | (go_at_call 150; refine (isInf_f64 (wid x) Hw.out _).mono ?_; rintro e w' ⟨rfl, rfl⟩; rw [Hi.out]))
  go_ret
  exact ⟨rfl, rfl⟩

theorem isFinite_f (x : Nat) (hx : x < 4294967296) (h : finB x = false) (w : World) :
    Calls Try.prog 105 #[.float .f32 x] w fun e w' => e = .returned (.bool false) ∧ Below w.heap.size w w' := by
  rw [finB_iff'] at h
  rcases Nat.lt_or_eq_of_le h with h | h
  · obtain ⟨z, hc, h1, _⟩ := run_conv_nan (P := Try.prog) w 22 94 x Try.underlying22 Try.underlying94 h
    obtain ⟨s, t, hr⟩ := read_nanD h1
    have Hn := hid (show (FloatKind.f64.format.order z z != some .eq) = true by
      show (D.order z z != some .eq) = true
      rw [order_nan hr]; rfl)
    clear h h1 hr hx
    go_enter Try.func105, Try.ntmps105
    go_wp2_with (go_at_call 149; refine (isNaN_f64 z _).mono ?_; rintro e w' ⟨rfl, rfl⟩; rw [Hn.out])
    go_ret
    exact ⟨rfl, (Below.refl _ _).drew⟩
  · obtain ⟨z, hc, h1, h2⟩ := run_conv_inf (P := Try.prog) w 22 94 x hx Try.underlying22 Try.underlying94 h.symm
    have hr : D.read z = .infinity (decide (9223372036854775808 ≤ z)) := by rw [read_signD h2, h1, read_DINF]
    have Hn := hid (show (FloatKind.f64.format.order z z != some .eq) = false by
      show (D.order z z != some .eq) = false
      rw [order_inf hr]; rfl)
    have Hi := hid (show (FloatKind.f64.format.order (z % 9223372036854775808) 9218868437227405311 == some .gt) = true by
      rw [h1]; decide)
    have H2 := hid h2
    clear h h1 hr hx h2
    go_enter Try.func105, Try.ntmps105
    go_wp2_with (first | (go_at_call 149; refine (isNaN_f64 z _).mono ?_; rintro e w' ⟨rfl, rfl⟩; rw [Hn.out]) | (go_at_call 150; refine (isInf_f64 z H2.out _).mono ?_; rintro e w' ⟨rfl, rfl⟩; rw [Hi.out]))
    go_ret
    exact ⟨rfl, Below.refl _ _⟩

theorem signbit_f64 (y : Nat) (w : World) :
    Calls Try.prog 154 #[.float .f64 y] w fun e w' => e = .returned (.bool (decide (wrap64 (y : Int) < 0))) ∧ w = w' := by
  go_enter Try.func154, Try.ntmps154
  go_wp2
  go_ret
  exact ⟨rfl, rfl⟩

theorem and_sign (y : Nat) (h : y < 18446744073709551616) : (decide (wrap64 (y : Int) < 0)) = decide (9223372036854775808 ≤ y) := by
  unfold wrap64
  by_cases h' : 9223372036854775808 ≤ y
  · rw [decide_eq_true h']; simp; omega
  · rw [decide_eq_false h']; simp; omega

theorem isAmount_t (x : Nat) (h : amtB x = true) (w : World) :
    Calls Try.prog 109 #[.float .f32 x] w fun e w' => e = .returned (.bool true) ∧ w = w' := by
  have hf := amt_fin h
  rw [amtB_iff, INF_val] at h
  have hx : x < 4294967296 := by omega
  have hc := fun w => run_conv_wid (P := Try.prog) w 22 94 x hx Try.underlying22 Try.underlying94 (finB_iff.1 hf)
  have hw : wid x < 18446744073709551616 := D.write_lt _
  have Hs := hid (show (decide (wrap64 (wid x : Int) < 0)) = false by
    rw [and_sign _ hw]
    have := (wid_val (x := x) (by rw [INF_val]; omega)).1
    rw [DINF_val] at this
    simp; omega)
  have Hx := hid hx
  have Hf := hid hf
  clear h hf hx hw
  go_enter Try.func109, Try.ntmps109
  go_wp2_with (first | (go_at_call 105; refine (isFinite_t x Hx.out Hf.out _).mono ?_; rintro e w' ⟨rfl, rfl⟩) | (go_at_call 154; refine (signbit_f64 (wid x) _).mono ?_; rintro e w' ⟨rfl, rfl⟩; rw [Hs.out]))
  go_ret
  exact ⟨rfl, rfl⟩

theorem isAmount_f (x : Nat) (hx : x < 4294967296) (h : amtB x = false) (w : World) :
    Calls Try.prog 109 #[.float .f32 x] w fun e w' => e = .returned (.bool false) ∧ Below w.heap.size w w' := by
  rcases hf : finB x with _ | _
  · have Hx := hid hx
    have Hf := hid hf
    clear h hf hx
    go_enter Try.func109, Try.ntmps109
    go_wp2_with (go_at_call 105; refine (isFinite_f x Hx.out Hf.out _).mono ?_; rintro e w' ⟨rfl, hb⟩)
    go_ret
    exact ⟨rfl, hb⟩
  · have hc := fun w => run_conv_wid (P := Try.prog) w 22 94 x hx Try.underlying22 Try.underlying94 (finB_iff.1 hf)
    have hw : wid x < 18446744073709551616 := D.write_lt _
    have Hs := hid (show (decide (wrap64 (wid x : Int) < 0)) = true by
      rw [and_sign _ hw, wid_fin hx (finB_iff.1 hf)]
      rw [amtB_iff', INF_val] at h
      rw [finB_iff, INF_val] at hf
      unfold mg at hf ⊢
      rw [if_pos (by omega)]
      simp)
    have Hx := hid hx
    have Hf := hid hf
    clear h hf hx hw
    go_enter Try.func109, Try.ntmps109
    go_wp2_with (first | (go_at_call 105; refine (isFinite_t x Hx.out Hf.out _).mono ?_; rintro e w' ⟨rfl, rfl⟩) | (go_at_call 154; refine (signbit_f64 (wid x) _).mono ?_; rintro e w' ⟨rfl, rfl⟩; rw [Hs.out]))
    go_ret
    exact ⟨rfl, Below.refl _ _⟩

@[go_sem] theorem ext_f32bits (y : Nat) (w : World) : (callFunc 122 #[.float .f32 y]).run Try.prog w = .ok (.value (.int .u32 y)) w := by
  rw [run_callFunc_extern Try.func122 (by kernel_rfl) (by kernel_rfl) (by kernel_rfl) (e := Extern.MathFloatBits.float32bits) (by kernel_rfl)]
  rfl

theorem sFinite_t (x : Nat) (hx : x < 4294967296) (h : finB x = true) (w : World) :
    Calls Try.prog 100 #[.float .f32 x] w fun e w' => e = .returned (.bool true) ∧ w = w' := by
  have hr := fun w => run_float_arith (P := Try.prog) w .sub 22 .f32 x x 0 (sub_self_fin hx h)
  clear h hx
  go_enter Try.func100, Try.ntmps100
  go_wp2
  go_ret
  exact ⟨rfl, rfl⟩

theorem sAmount_t (x : Nat) (h : amtB x = true) (w : World) :
    Calls Try.prog 66 #[.float .f32 x] w fun e w' => e = .returned (.bool true) ∧ w = w' := by
  have hf := amt_fin h
  have h' := amtB_iff.1 h
  have hx : x < 4294967296 := by rw [INF_val] at h'; omega
  have Hx := hid hx
  have Hf := hid hf
  by_cases h0 : x = 0
  · subst h0
    clear h hf h' hx
    go_enter Try.func66, Try.ntmps66
    go_wp2_with (go_at_call 100; refine (sFinite_t 0 Hx.out Hf.out _).mono ?_; rintro e w' ⟨rfl, rfl⟩)
    go_ret
    exact ⟨rfl, rfl⟩
  · have hg : (FloatKind.f32.format.order x 0 == some .gt) = true := by
      show (S.order x 0 == some .gt) = true
      rw [order_zero_pos h', Nat.compare_eq_gt.2 (by omega)]; rfl
    clear h hf h' hx h0
    go_enter Try.func66, Try.ntmps66
    go_wp2_with (go_at_call 100; refine (sFinite_t x Hx.out Hf.out _).mono ?_; rintro e w' ⟨rfl, rfl⟩)
    go_ret
    exact ⟨rfl, rfl⟩

theorem l00In_t (n a b : Int) (h1 : a ≤ n) (h2 : n ≤ b) (w : World) :
    Calls Try.prog 68 #[.int .i64 n, .int .i64 a, .int .i64 b] w fun e w' => e = .returned (.bool true) ∧ w = w' := by
  go_enter Try.func68, Try.ntmps68
  go_wp2
  go_ret
  exact ⟨by first | rfl | (simp; done) | (simp; omega), rfl⟩

theorem l00In_f (n a b : Int) (hn : ¬ (a ≤ n ∧ n ≤ b)) (w : World) :
    Calls Try.prog 68 #[.int .i64 n, .int .i64 a, .int .i64 b] w fun e w' => e = .returned (.bool false) ∧ w = w' := by
  by_cases h0 : a ≤ n
  · have h3 : b < n := by omega
    clear hn
    go_enter Try.func68, Try.ntmps68
    go_wp2
    go_ret
    exact ⟨by first | rfl | (simp; done) | (simp; omega), rfl⟩
  · have h3 : n < a := by omega
    have h4 : decide (a ≤ n) = false := by simp; omega
    clear hn h0
    go_enter Try.func68, Try.ntmps68
    go_wp2
    go_ret
    exact ⟨by simp, rfl⟩

theorem info_air : (Try.prog.info? 32).map (·.size) = some 2 := by kernel_rfl

theorem info_lair : (Try.prog.info? 26).map (·.size) = some 2 := by kernel_rfl

set_option maxRecDepth 100000 in
theorem toAir (h v : Nat) (w : World) :
    Calls Try.prog 19 #[.agg #[.float .f32 h, .float .f32 v]] w fun e w' => e = .returned (.agg #[.float .f32 h, .float .f32 v]) ∧ Below w.heap.size w w' := by
  have k0 : Hid (Kept w [(w.heap.size + 1, #[.float .f32 h, .float .f32 v], 32)] (((w.alloc (.cells #[.float .f32 h, .float .f32 v] 26)).alloc (.cells #[.float .f32 h, .float .f32 v] 32)).alloc (.cells #[.float .f32 h, .float .f32 v] 32))) := hid (((((Kept.nil w).push _ _).push _ _).push _ _).sub (by simp))
  go_enter Try.func19, Try.ntmps19
  go_wp2
  exact bodyPost_ret (results_cell_row rfl _ _ (w.heap.size + 1) 32 #[.float .f32 h, .float .f32 v] (0, 0) _ rfl (k0.out.at (x := (w.heap.size + 1, #[.float .f32 h, .float .f32 v], 32)) (by simp)) Try.underlying32 rfl info_air) rfl ⟨rfl, k0.out.1⟩

theorem iHeat (x : Nat) (q : Bool) (hq : heatB x = q) (w : World) :
    Calls Try.prog 156 #[.float .f32 x] w fun e w' => e = .returned (.bool q) ∧ w = w' := by
  have h1 : heatB x = ((FloatKind.f32.format.order x 3262119936 == some .gt || FloatKind.f32.format.order x 3262119936 == some .eq) && (FloatKind.f32.format.order x 1114636288 == some .lt || FloatKind.f32.format.order x 1114636288 == some .eq)) := rfl
  rw [h1] at hq
  clear h1
  rcases a : (FloatKind.f32.format.order x 3262119936 == some .gt || FloatKind.f32.format.order x 3262119936 == some .eq) with _ | _
  · rw [a] at hq
    simp only [Bool.false_and] at hq
    subst hq
    go_enter Try.func156, Try.ntmps156
    go_wp2
    go_ret
    exact ⟨rfl, rfl⟩
  · rw [a] at hq
    simp only [Bool.true_and] at hq
    cases q
    all_goals
      go_enter Try.func156, Try.ntmps156
      go_wp2
      go_ret
      exact ⟨rfl, rfl⟩

theorem sHeat (x : Nat) (q : Bool) (hq : heatB x = q) (w : World) :
    Calls Try.prog 121 #[.float .f32 x] w fun e w' => e = .returned (.bool q) ∧ w = w' := by
  have h1 : heatB x = ((FloatKind.f32.format.order x 3262119936 == some .gt || FloatKind.f32.format.order x 3262119936 == some .eq) && (FloatKind.f32.format.order x 1114636288 == some .lt || FloatKind.f32.format.order x 1114636288 == some .eq)) := rfl
  rw [h1] at hq
  clear h1
  rcases a : (FloatKind.f32.format.order x 3262119936 == some .gt || FloatKind.f32.format.order x 3262119936 == some .eq) with _ | _
  · rw [a] at hq
    simp only [Bool.false_and] at hq
    subst hq
    go_enter Try.func121, Try.ntmps121
    go_wp2
    go_ret
    exact ⟨rfl, rfl⟩
  · rw [a] at hq
    simp only [Bool.true_and] at hq
    cases q
    all_goals
      go_enter Try.func121, Try.ntmps121
      go_wp2
      go_ret
      exact ⟨rfl, rfl⟩

set_option maxRecDepth 100000 in
theorem iValidAir (h v : Nat) (hv : v < 4294967296) (q : Bool) (hq : airB h v = q) (w : World) :
    Calls Try.prog 115 #[.agg #[.float .f32 h, .float .f32 v]] w fun e w' => e = .returned (.bool q) ∧ Below w.heap.size w w' := by
  have b0 := boxed w (.cells #[.float .f32 h, .float .f32 v] 32)
  have Hv := hid hv
  have e1 : airB h v = (heatB h && amtB v && vapB v) := rfl
  rw [e1] at hq
  clear hv e1
  rcases a : heatB h with _ | _
  · have Ha := hid a
    rw [a] at hq
    simp only [Bool.false_and] at hq
    subst hq
    clear a
    go_enter Try.func115, Try.ntmps115
    go_wp2_with fail
    refine (iHeat h false Ha.out _).mono ?_
    rintro e w1 ⟨rfl, rfl⟩
    go_wp2
    go_ret
    exact ⟨rfl, b0⟩
  · have Ha := hid a
    rw [a] at hq
    clear a
    rcases b : amtB v with _ | _
    · have Hb := hid b
      rw [b] at hq
      simp only [Bool.and_false, Bool.false_and] at hq
      subst hq
      clear b
      go_enter Try.func115, Try.ntmps115
      go_wp2_with fail
      refine (iHeat h true Ha.out _).mono ?_
      rintro e w1 ⟨rfl, rfl⟩
      go_wp2_with fail
      refine (isAmount_f v Hv.out Hb.out _).mono ?_
      rintro e w1 ⟨rfl, hb1⟩
      go_wp2
      go_ret
      exact ⟨rfl, stp b0 (Nat.le_refl _) hb1⟩
    · have Hb := hid b
      rw [b] at hq
      simp only [Bool.true_and] at hq
      have hc : (FloatKind.f32.format.order v 1148846080 == some .lt || FloatKind.f32.format.order v 1148846080 == some .eq) = q := hq
      clear b hq
      cases q
      all_goals
        go_enter Try.func115, Try.ntmps115
        go_wp2_with fail
        refine (iHeat h true Ha.out _).mono ?_
        rintro e w1 ⟨rfl, rfl⟩
        go_wp2_with fail
        refine (isAmount_t v Hb.out _).mono ?_
        rintro e w1 ⟨rfl, rfl⟩
        go_wp2
        go_ret
        exact ⟨rfl, b0⟩

theorem iHgt (x : Nat) (hx : x < 4294967296) (q : Bool) (hq : hgtB x = q) (w : World) :
    Calls Try.prog 148 #[.float .f32 x] w fun e w' => e = .returned (.bool q) ∧ Below w.heap.size w w' := by
  have e1 : hgtB x = (amtB x && (FloatKind.f32.format.order x 1106247680 == some .lt || FloatKind.f32.format.order x 1106247680 == some .eq)) := rfl
  rw [e1] at hq
  have Hx := hid hx
  clear e1 hx
  rcases a : amtB x with _ | _
  · have Ha := hid a
    rw [a] at hq
    simp only [Bool.false_and] at hq
    subst hq
    clear a
    go_enter Try.func148, Try.ntmps148
    go_wp2_with fail
    refine (isAmount_f x Hx.out Ha.out _).mono ?_
    rintro e w1 ⟨rfl, hb1⟩
    go_wp2
    go_ret
    exact ⟨rfl, hb1⟩
  · have Ha := hid a
    rw [a] at hq
    simp only [Bool.true_and] at hq
    clear a
    cases q
    all_goals
      go_enter Try.func148, Try.ntmps148
      go_wp2_with fail
      refine (isAmount_t x Ha.out _).mono ?_
      rintro e w1 ⟨rfl, rfl⟩
      go_wp2
      go_ret
      exact ⟨rfl, Below.refl _ _⟩

set_option maxRecDepth 100000 in
theorem sAirAt_t (h v : Nat) (hq : airB h v = true) (w : World) (g o : Nat) (c0 : w.cell? ⟨g, o, none⟩ = some (.float .f32 h)) (c1 : w.cell? ⟨g, o + 1, none⟩ = some (.float .f32 v)) :
    Calls Try.prog 65 #[.pointer (some ⟨g, o, none⟩)] w fun e w' => e = .returned (.bool true) ∧ w = w' := by
  obtain ⟨a, b, c⟩ := airB_iff.1 hq
  have hc : (FloatKind.f32.format.order v 1148846080 == some .lt || FloatKind.f32.format.order v 1148846080 == some .eq) = true := c
  have Ha := hid a
  have Hb := hid b
  clear a b c hq
  go_enter Try.func65, Try.ntmps65
  go_wp2_with fail
  refine (sHeat h true Ha.out _).mono ?_
  rintro e w1 ⟨rfl, rfl⟩
  go_wp2_with fail
  refine (sAmount_t v Hb.out _).mono ?_
  rintro e w1 ⟨rfl, rfl⟩
  go_wp2
  go_ret
  exact ⟨rfl, rfl⟩

set_option maxRecDepth 100000 in
theorem iValidParcel (a h v : Nat) (ha : a < 4294967296) (hv : v < 4294967296) (q : Bool) (hq : parB a h v = q) (w : World) :
    Calls Try.prog 104 #[.agg #[.float .f32 a, .float .f32 h, .float .f32 v]] w fun e w' => e = .returned (.bool q) ∧ Below w.heap.size w w' := by
  have b0 := boxed w (.cells #[.float .f32 a, .float .f32 h, .float .f32 v] 88)
  have A0 := hid (parAt.new w a h v 88)
  have Ha := hid ha
  have Hv := hid hv
  have e1 : parB a h v = (hgtB a && airB h v) := rfl
  rw [e1] at hq
  clear ha hv e1
  rcases x : hgtB a with _ | _
  · have Hx := hid x
    rw [x] at hq
    simp only [Bool.false_and] at hq
    subst hq
    clear x
    go_enter Try.func104, Try.ntmps104
    go_wp2_with fail
    refine (iHgt a Ha.out false Hx.out _).mono ?_
    rintro e w1 ⟨rfl, hb1⟩
    go_wp2
    go_ret
    exact ⟨rfl, stp b0 (Nat.le_refl _) hb1⟩
  · have Hx := hid x
    rw [x] at hq
    simp only [Bool.true_and] at hq
    have Hq := hid hq
    clear x hq
    go_enter Try.func104, Try.ntmps104
    go_wp2_with fail
    refine (iHgt a Ha.out true Hx.out _).mono ?_
    rintro e w1 ⟨rfl, hb1⟩
    have A1 := hid (A0.out.stay hb1)
    have b1 := stp b0 (Nat.le_refl _) hb1
    go_wp2_with (refine wpList_load_air (by rfl) 32 _ rfl w.heap.size rfl a h v 88 A1.out _ Try.underlying32 rfl info_air ?_)
    refine (iValidAir h v Hv.out q Hq.out _).mono ?_
    rintro e w2 ⟨rfl, hb2⟩
    cases q
    all_goals
      go_wp2
      go_ret
      exact ⟨rfl, stp b1 (Nat.le_refl _) hb2⟩

theorem info_lev : (Try.prog.info? 153).map (·.size) = some 3 := by kernel_rfl

theorem info_llev : (Try.prog.info? 155).map (·.size) = some 3 := by kernel_rfl

theorem infoz_lev : (Try.prog.info? 153).map (fun i => (i.zero, i.size, i.bytes)) = some (some (.agg #[.float .f32 0, .float .f32 0, .float .f32 0]), 3, 12) := by kernel_rfl

theorem sameFloat2 (a b : Nat) (h : Same2 a b) (w : World) :
    Calls Try.prog 50 #[.float .f64 a, .float .f64 b] w fun e w' => e = .returned (.bool true) ∧ w = w' := by
  obtain ⟨h1, h2⟩ := h
  rcases h1 with ⟨h1, rfl⟩ | ⟨h1, h3, h4, h5⟩
  · have hn : (FloatKind.f64.format.order a a != some .eq) = false := by
      show (Ieee.Format.order D a a != some .eq) = false
      rw [h1]; rfl
    have hq : (FloatKind.f64.format.order a a == some .eq) = true := by
      show (Ieee.Format.order D a a == some .eq) = true
      rw [h1]; rfl
    rcases hz : (FloatKind.f64.format.order a 0 == some .eq) with _ | _
    · clear h1 h2
      go_enter Try.func50, Try.ntmps50
      go_wp2
      go_ret
      exact ⟨by simp, rfl⟩
    · obtain ⟨q, hd⟩ := h2 h1 (beq_iff_eq.1 hz)
      have hdiv := fun w => run_float_arith (P := Try.prog) w .quo 94 .f64 4607182418800017408 a q hd
      clear h1 h2 hd
      go_enter Try.func50, Try.ntmps50
      go_wp2
      go_ret
      exact ⟨by simp, rfl⟩
  · have hn : (FloatKind.f64.format.order a a != some .eq) = true := by
      show (Ieee.Format.order D a a != some .eq) = true
      rw [h1]; rfl
    have hm : (FloatKind.f64.format.order b b != some .eq) = true := by
      show (Ieee.Format.order D b b != some .eq) = true
      rw [h3]; rfl
    clear h1 h2 h3 h4 h5
    go_enter Try.func50, Try.ntmps50
    go_wp2
    go_ret
    exact ⟨by simp, rfl⟩

theorem eqAir_any (h v : Nat) (hh : h < 4294967296) (hv : v < 4294967296) (w : World) :
    Calls Try.prog 22 #[.agg #[.float .f32 h, .float .f32 v], .agg #[.float .f32 h, .float .f32 v]] w fun e w' => e = .returned (.bool true) ∧ Below w.heap.size w w' := by
  obtain ⟨z0, f0, c0, d0, s0⟩ := conv_any (P := Try.prog) 22 94 h hh Try.underlying22 Try.underlying94
  obtain ⟨z1, f1, c1, d1, s1⟩ := conv_any (P := Try.prog) 22 94 v hv Try.underlying22 Try.underlying94
  have S0 := hid s0
  have S1 := hid s1
  have D0 := hid d0
  have D1 := hid d1
  have k0 : Hid (Kept w [(w.heap.size + 1, #[.float .f32 h, .float .f32 v], 32), (w.heap.size, #[.float .f32 h, .float .f32 v], 32)] ((w.alloc (.cells #[.float .f32 h, .float .f32 v] 32)).alloc (.cells #[.float .f32 h, .float .f32 v] 32))) := hid ((((Kept.nil w).push _ _).push _ _).sub (by simp))
  have k2 := hid (kept_wf (kept_wf k0.out (D0.out _)) (D0.out _))
  have e0 : (f0 (f0 ((w.alloc (.cells #[.float .f32 h, .float .f32 v] 32)).alloc (.cells #[.float .f32 h, .float .f32 v] 32)))).cell? ⟨w.heap.size, 1, none⟩ = some (.float .f32 v) := (cell_of_row _ (w.heap.size) 1 _ _ _ (k2.out.at (x := (w.heap.size, #[.float .f32 h, .float .f32 v], 32)) (by simp))).trans rfl
  have e1 : (f0 ((w.alloc (.cells #[.float .f32 h, .float .f32 v] 32)).alloc (.cells #[.float .f32 h, .float .f32 v] 32))).cell? ⟨w.heap.size + 1, 0, none⟩ = some (.float .f32 h) := (cell_of_row _ (w.heap.size + 1) 0 _ _ _ ((kept_wf k0.out (D0.out _)).at (x := (w.heap.size + 1, #[.float .f32 h, .float .f32 v], 32)) (by simp))).trans rfl
  have e2 : (f1 (f0 (f0 ((w.alloc (.cells #[.float .f32 h, .float .f32 v] 32)).alloc (.cells #[.float .f32 h, .float .f32 v] 32))))).cell? ⟨w.heap.size + 1, 1, none⟩ = some (.float .f32 v) := (cell_of_row _ (w.heap.size + 1) 1 _ _ _ ((kept_wf k2.out (D1.out _)).at (x := (w.heap.size + 1, #[.float .f32 h, .float .f32 v], 32)) (by simp))).trans rfl
  clear hh hv s0 s1 d0 d1
  go_enter Try.func22, Try.ntmps22
  go_wp2_with fail
  refine (sameFloat2 _ _ (S0.out _ _) _).mono ?_
  rintro e w1 ⟨rfl, rfl⟩
  go_wp2_with fail
  refine (sameFloat2 _ _ (S1.out _ _) _).mono ?_
  rintro e w1 ⟨rfl, rfl⟩
  go_wp2
  go_ret
  exact ⟨rfl, (kept_wf (kept_wf k2.out (D1.out _)) (D1.out _)).1⟩

set_option maxRecDepth 100000 in
theorem eqLevel_any (a h v : Nat) (ha : a < 4294967296) (hh : h < 4294967296) (hv : v < 4294967296) (w : World) :
    Calls Try.prog 98 #[.agg #[.float .f32 a, .float .f32 h, .float .f32 v], .agg #[.float .f32 a, .float .f32 h, .float .f32 v]] w fun e w' => e = .returned (.bool true) ∧ Below w.heap.size w w' := by
  obtain ⟨z0, f0, c0, d0, s0⟩ := conv_any (P := Try.prog) 22 94 a ha Try.underlying22 Try.underlying94
  have S0 := hid s0
  have D0 := hid d0
  have Hh := hid hh
  have Hv := hid hv
  have k0 : Hid (Kept w [(w.heap.size + 1, #[.float .f32 a, .float .f32 h, .float .f32 v], 153), (w.heap.size, #[.float .f32 a, .float .f32 h, .float .f32 v], 153)] ((w.alloc (.cells #[.float .f32 a, .float .f32 h, .float .f32 v] 153)).alloc (.cells #[.float .f32 a, .float .f32 h, .float .f32 v] 153))) := hid ((((Kept.nil w).push _ _).push _ _).sub (by simp))
  have k2 := hid (kept_wf (kept_wf k0.out (D0.out _)) (D0.out _))
  have e1 : (f0 ((w.alloc (.cells #[.float .f32 a, .float .f32 h, .float .f32 v] 153)).alloc (.cells #[.float .f32 a, .float .f32 h, .float .f32 v] 153))).cell? ⟨w.heap.size + 1, 0, none⟩ = some (.float .f32 a) := (cell_of_row _ (w.heap.size + 1) 0 _ _ _ ((kept_wf k0.out (D0.out _)).at (x := (w.heap.size + 1, #[.float .f32 a, .float .f32 h, .float .f32 v], 153)) (by simp))).trans rfl
  have A0 : Hid (parAt (f0 (f0 ((w.alloc (.cells #[.float .f32 a, .float .f32 h, .float .f32 v] 153)).alloc (.cells #[.float .f32 a, .float .f32 h, .float .f32 v] 153)))) w.heap.size a h v 153) := hid (k2.out.at (x := (w.heap.size, _, _)) (by simp))
  have A1 : Hid (parAt (f0 (f0 ((w.alloc (.cells #[.float .f32 a, .float .f32 h, .float .f32 v] 153)).alloc (.cells #[.float .f32 a, .float .f32 h, .float .f32 v] 153)))) (w.heap.size + 1) a h v 153) := hid (k2.out.at (x := (w.heap.size + 1, _, _)) (by simp))
  clear ha hh hv s0 d0
  go_enter Try.func98, Try.ntmps98
  go_wp2_with fail
  refine (sameFloat2 _ _ (S0.out _ _) _).mono ?_
  rintro e w1 ⟨rfl, rfl⟩
  go_wp2_with (first | (refine wpList_load_air (by rfl) 32 _ rfl w.heap.size rfl a h v 153 A0.out _ Try.underlying32 rfl info_air ?_) | (refine wpList_load_air (by rfl) 32 _ rfl (w.heap.size + 1) rfl a h v 153 A1.out _ Try.underlying32 rfl info_air ?_))
  refine (eqAir_any h v Hh.out Hv.out _).mono ?_
  rintro e w2 ⟨rfl, hb2⟩
  go_wp2
  go_ret
  exact ⟨rfl, (k2.out.stay hb2).1⟩

set_option maxRecDepth 100000 in
theorem toLevel (a h v : Nat) (w : World) :
    Calls Try.prog 92 #[.agg #[.float .f32 a, .float .f32 h, .float .f32 v]] w fun e w' => e = .returned (.agg #[.float .f32 a, .float .f32 h, .float .f32 v]) ∧ Below w.heap.size w w' := by
  have k0 : Hid (Kept w [(w.heap.size + 1 + 1, #[.float .f32 a, .float .f32 0, .float .f32 0], 153), (w.heap.size + 1, #[.float .f32 0, .float .f32 0, .float .f32 0], 153)] (((w.alloc (.cells #[.float .f32 a, .float .f32 h, .float .f32 v] 155)).alloc (.cells #[.float .f32 0, .float .f32 0, .float .f32 0] 153)).alloc (.cells #[.float .f32 a, .float .f32 0, .float .f32 0] 153))) := hid (((((Kept.nil w).push _ _).push _ _).push _ _).sub (by simp))
  have A0 : Hid (parAt (((w.alloc (.cells #[.float .f32 a, .float .f32 h, .float .f32 v] 155)).alloc (.cells #[.float .f32 0, .float .f32 0, .float .f32 0] 153)).alloc (.cells #[.float .f32 a, .float .f32 0, .float .f32 0] 153)) w.heap.size a h v 155) := hid (((((Kept.nil w).push _ _).push _ _).push _ _).at (x := (w.heap.size, #[.float .f32 a, .float .f32 h, .float .f32 v], 155)) (by simp))
  go_enter Try.func92, Try.ntmps92
  go_wp2_with (refine wpList_load_air (by rfl) 26 _ rfl w.heap.size rfl a h v 155 A0.out _ Try.underlying26 rfl info_lair ?_)
  refine (toAir h v _).mono ?_
  rintro e w1 ⟨rfl, hb1⟩
  have k1 := hid (k0.out.stay hb1)
  clear k0 A0 hb1
  have tok1 : True := trivial
  go_wp2_with (first | (have _t := tok1; refine store_air (w0 := w) (l := [(w.heap.size + 1, #[.float .f32 0, .float .f32 0, .float .f32 0], 153)]) rfl 32 _ _ rfl (w.heap.size + 1 + 1) rfl h v rfl a 0 0 153 k1.out (by omega) (by simp) info_air ?_; intro w2 k2; have k2 := hid k2; clear tok1) | (have _t := k2; refine wpList_load_row rfl 153 _ rfl (w.heap.size + 1 + 1) rfl 153 (#[.float .f32 a, .float .f32 h, .float .f32 v]) (0, 0) _ (k2.out.at (x := (w.heap.size + 1 + 1, #[.float .f32 a, .float .f32 h, .float .f32 v], 153)) (by simp)) Try.underlying153 rfl (info_lev) ?_) | (have _t := k2; refine store_kept (w0 := w) (l := []) rfl 153 _ _ rfl (w.heap.size + 1) (#[.float .f32 a, .float .f32 h, .float .f32 v]) rfl rfl 153 (#[.float .f32 0, .float .f32 0, .float .f32 0]) (k2.out.sub (by simp)) (by omega) (by simp) (info_lev) (by simp) (by simp [Value.oneCell']) ?_; intro w3 k3; have k3 := hid k3))
  exact bodyPost_ret (results_cell_row rfl _ _ (w.heap.size + 1) 153 #[.float .f32 a, .float .f32 h, .float .f32 v] (0, 0) _ rfl (k3.out.at (x := (w.heap.size + 1, #[.float .f32 a, .float .f32 h, .float .f32 v], 153)) (by simp)) Try.underlying153 rfl info_lev) rfl ⟨rfl, k3.out.1⟩

theorem szLevels_ok (p : Option Addr) (n cap : Nat) (hn : n ≤ 1048576) (w : World) :
    Calls Try.prog 39 #[.slice p n cap, .int .i64 1048576] w fun e w' => e = .returned (.int .i64 (1048576 - (n : Int))) ∧ w = w' := by
  have h1 : IntKind.i64.wrap (1048576 - (n : Int)) = 1048576 - (n : Int) := by rw [IntKind.wrap_i64]; omega
  have h2 : ¬ (1048576 - (n : Int) < 0) := by omega
  go_enter Try.func39, Try.ntmps39
  go_wp2
  go_ret
  exact ⟨rfl, rfl⟩

theorem szLevels_no (p : Option Addr) (n cap : Nat) (hn : 1048576 < n) (hm : n ≤ maxLen) (w : World) :
    Calls Try.prog 39 #[.slice p n cap, .int .i64 1048576] w fun e w' => e = .returned (.int .i64 (-1)) ∧ w = w' := by
  have hm' : n ≤ 9223372036854775807 := hm
  have h1 : IntKind.i64.wrap (1048576 - (n : Int)) = 1048576 - (n : Int) := by rw [IntKind.wrap_i64]; omega
  have h2 : (1048576 - (n : Int) < 0) := by omega
  go_enter Try.func39, Try.ntmps39
  go_wp2
  go_ret
  exact ⟨rfl, rfl⟩

set_option maxRecDepth 100000 in
set_option maxHeartbeats 1000000 in
theorem toLevels (s : Value) (n : Nat) (x : Nat → Nat) (_hx : ∀ k, x k < 4294967296) (w : World) (hs : Rd w s n x) (hn : n ≤ 1048576) :
    Calls Try.prog 41 #[s] w fun e w' => ∃ g, e = .returned (.slice (some ⟨g, 0, none⟩) n n) ∧ Rd w' (.slice (some ⟨g, 0, none⟩) n n) n x ∧ Below w.heap.size w w' := by
  obtain ⟨p, cap, rfl, hc⟩ := hs
  have HC := hid hc
  have hmk := fun w => run_make3 (P := Try.prog) (t := 78) (e := 153) Try.underlying78 infoz_lev hn w
  have k0 : Hid (Kept w [(w.heap.size, vls (3 * n) (flw (part3 x 0)), 153)] (w.alloc (.cells (vls (3 * n) (flw fun _ => 0)) 153))) := hid (by rw [part3_zero]; exact (Kept.nil w).push _ _)
  clear hc
  go_enter Try.func41, Try.ntmps41
  go_wp2_with fail
  go_loopw [4] (fun i wr => ∃ k : Nat, k ≤ n ∧ i = .int .i64 k ∧ Hid (Kept w [(w.heap.size, vls (3 * n) (flw (part3 x k)), 153)] wr)) (fun i _ => n - (intOf i).toNat)
  case atStart => exact ⟨0, by omega, rfl, k0⟩
  case round =>
    obtain ⟨k, hk, rfl, h0⟩ := hrel
    clear k0 hmk
    by_cases hlt : k < n
    · have HK := hid hlt
      have hk3 : (k : Int) < (n : Int) := by omega
      obtain ⟨b, o, rfl, hcell⟩ := HC.out (by omega)
      have R1 := hid (fun wq (hb : Below w.heap.size w wq) => row3 (w := wq) (n := n) (x := x) (b := b) (o := o) (fun j hj => by have h1 := hcell j hj; rw [hb.cell (block_lt_of_cell h1)]; exact h1) HK.out)
      clear hcell
      have i1 := fun w => run_indexAt (P := Try.prog) (t := 76) (e := 155) Try.underlying76 info_llev (b := b) (o := o) (n := n) (cap := cap) (k := k) hlt w
      have i2 := fun w9 => run_indexAt (P := Try.prog) (t := 78) (e := 153) Try.underlying78 info_lev (b := w.heap.size) (o := 0) (n := n) (cap := n) (k := k) hlt w9
      simp only [Nat.zero_add] at i2
      go_wp2_with (refine wpList_load_mid rfl 155 _ rfl b (o + k * 3) rfl _ _ (R1.out _ h0.out.1) Try.underlying155 rfl info_llev ?_)
      refine (toLevel _ _ _ _).mono ?_
      rintro e w1 ⟨rfl, hb1⟩
      have h1 := hid (h0.out.stay hb1)
      have V1 : Hid (vAt w1 w.heap.size (3 * n) (flw (part3 x k)) 153) := hid (h1.out.at (x := (w.heap.size, vls (3 * n) (flw (part3 x k)), 153)) (by simp))
      clear i1
      go_wp2_with (refine wpList_store_mid rfl 153 _ _ rfl w.heap.size (k * 3) #[.float .f32 (x (k * 3)), .float .f32 (x (k * 3 + 1)), .float .f32 (x (k * 3 + 2))] rfl rfl (V1.out.there (k * 3) 3 (by have := HK.out; omega)) info_lev (by simp [Value.oneCell']) ?_)
      clear i2
      go_wp2
      go_roundw
      case rel => exact ⟨k + 1, by omega, by go_num, hid (by have h2 := h1.out.three (Nat.le_refl _) (by simp) (k * 3) (x (k * 3)) (x (k * 3 + 1)) (x (k * 3 + 2)); rw [part3_step] at h2; exact h2)⟩
      case measure => simp [intOf]; omega
    · obtain rfl : k = n := by omega
      go_wp2
      go_ret
      exact ⟨w.heap.size, rfl, Rd.of_vAt (vAt.part (T := 153) (k := k) (h0.out.at (x := (w.heap.size, vls (3 * k) (flw (part3 x k)), 153)) (by simp)) (Nat.le_refl _)) (Nat.le_refl _) _, h0.out.1⟩

set_option maxRecDepth 100000 in
set_option maxHeartbeats 1000000 in
theorem eqLevels (s t : Value) (n : Nat) (x : Nat → Nat) (hx : ∀ k, x k < 4294967296) (w : World) (hs : Rd w s n x) (ht : Rd w t n x) (hn : n ≤ 1048576) :
    Calls Try.prog 43 #[s, t] w fun e w' => e = .returned (.bool true) ∧ Below w.heap.size w w' := by
  obtain ⟨p, cap, rfl, hc⟩ := hs
  obtain ⟨p', cap', rfl, hc'⟩ := ht
  have HC := hid hc
  have HC' := hid hc'
  have HX := hid hx
  clear hc hc' hx
  go_enter Try.func43, Try.ntmps43
  go_wp2_with fail
  go_loopw [5] (fun i wr => ∃ k : Nat, k ≤ n ∧ i = .int .i64 k ∧ Hid (Kept w [] wr)) (fun i _ => n - (intOf i).toNat)
  case atStart => exact ⟨0, by omega, rfl, hid (Kept.nil w)⟩
  case round =>
    obtain ⟨k, hk, rfl, h0⟩ := hrel
    by_cases hlt : k < n
    · have HK := hid hlt
      have hk3 : (k : Int) < (n : Int) := by omega
      obtain ⟨b, o, rfl, hcell⟩ := HC.out (by omega)
      obtain ⟨b', o', rfl, hcell'⟩ := HC'.out (by omega)
      have R1 := hid (fun wq (hb : Below w.heap.size w wq) => row3 (w := wq) (n := n) (x := x) (b := b) (o := o) (fun j hj => by have h1 := hcell j hj; rw [hb.cell (block_lt_of_cell h1)]; exact h1) HK.out)
      have R2 := hid (fun wq (hb : Below w.heap.size w wq) => row3 (w := wq) (n := n) (x := x) (b := b') (o := o') (fun j hj => by have h1 := hcell' j hj; rw [hb.cell (block_lt_of_cell h1)]; exact h1) HK.out)
      clear hcell hcell'
      go_wp2_with fail
      refine region_kept (w0 := w) (l := []) 10 #[false, false, false, false, false, false, false, false, false, false] (by kernel_rfl) rfl rfl ?_
      have kd := h0.out.drew
      generalize World.drew _ = wd at kd ⊢
      refine take_val 0 _ _ (.slice (some ⟨b, o, none⟩) n cap) rfl (by rfl) (by kernel_rfl) (by kernel_rfl) (by kernel_rfl) (fun w => by rfl) rfl rfl kd ?_
      simp only [Act.put, List.setIfInBounds_toArray, List.set_cons_zero, List.set_cons_succ]
      refine take_val 1 _ _ (.int .i64 (k : Int)) rfl (by rfl) (by kernel_rfl) (by kernel_rfl) (by kernel_rfl) (fun w => by rfl) rfl rfl kd ?_
      simp only [Act.put, List.setIfInBounds_toArray, List.set_cons_zero, List.set_cons_succ]
      refine take_val 2 _ _ (.pointer (some ⟨b, o + k * 3, none⟩)) rfl (by rfl) (by kernel_rfl) (by kernel_rfl) (by kernel_rfl) (fun w => run_index_op _ _ rfl rfl (run_indexAt Try.underlying78 info_lev HK.out w)) rfl rfl kd ?_
      simp only [Act.put, List.setIfInBounds_toArray, List.set_cons_zero, List.set_cons_succ]
      refine take_cell 3 _ _ (.agg #[.float .f32 (x (k * 3)), .float .f32 (x (k * 3 + 1)), .float .f32 (x (k * 3 + 2))]) rfl (by rfl) (by kernel_rfl) (by kernel_rfl) (by kernel_rfl) (fun wq hS => run_load_mid 153 _ b (o + k * 3) [.float .f32 (x (k * 3)), .float .f32 (x (k * 3 + 1)), .float .f32 (x (k * 3 + 2))] rfl (R1.out _ hS.1) _ Try.underlying153 rfl info_lev) rfl rfl kd ?_
      simp only [Act.put, List.setIfInBounds_toArray, List.set_cons_zero, List.set_cons_succ]
      refine take_val 4 _ _ (.slice (some ⟨b', o', none⟩) n cap') rfl (by rfl) (by kernel_rfl) (by kernel_rfl) (by kernel_rfl) (fun w => by rfl) rfl rfl kd ?_
      simp only [Act.put, List.setIfInBounds_toArray, List.set_cons_zero, List.set_cons_succ]
      refine take_val 5 _ _ (.int .i64 (k : Int)) rfl (by rfl) (by kernel_rfl) (by kernel_rfl) (by kernel_rfl) (fun w => by rfl) rfl rfl kd ?_
      simp only [Act.put, List.setIfInBounds_toArray, List.set_cons_zero, List.set_cons_succ]
      refine take_val 6 _ _ (.pointer (some ⟨b', o' + k * 3, none⟩)) rfl (by rfl) (by kernel_rfl) (by kernel_rfl) (by kernel_rfl) (fun w => run_index_op _ _ rfl rfl (run_indexAt Try.underlying78 info_lev HK.out w)) rfl rfl kd ?_
      simp only [Act.put, List.setIfInBounds_toArray, List.set_cons_zero, List.set_cons_succ]
      refine take_cell 7 _ _ (.agg #[.float .f32 (x (k * 3)), .float .f32 (x (k * 3 + 1)), .float .f32 (x (k * 3 + 2))]) rfl (by rfl) (by kernel_rfl) (by kernel_rfl) (by kernel_rfl) (fun wq hS => run_load_mid 153 _ b' (o' + k * 3) [.float .f32 (x (k * 3)), .float .f32 (x (k * 3 + 1)), .float .f32 (x (k * 3 + 2))] rfl (R2.out _ hS.1) _ Try.underlying153 rfl info_lev) rfl rfl kd ?_
      simp only [Act.put, List.setIfInBounds_toArray, List.set_cons_zero, List.set_cons_succ]
      refine wpAnyH_ready (rs := [8]) (by kernel_rfl) (by simp) ?_
      refine callK 8 _ _ (.bool true) kd rfl (by rfl) 98 #[.agg #[.float .f32 (x (k * 3)), .float .f32 (x (k * 3 + 1)), .float .f32 (x (k * 3 + 2))], .agg #[.float .f32 (x (k * 3)), .float .f32 (x (k * 3 + 1)), .float .f32 (x (k * 3 + 2))]] (fun w => by unfold execOp; go_simp) rfl rfl ?hc1 (fun w1 k1 => ?_) AllReadyH.nil
      case hc1 => exact eqLevel_any _ _ _ (HX.out _) (HX.out _) (HX.out _) _
      refine ⟨k1, ?_⟩
      simp only [Act.put, List.setIfInBounds_toArray, List.set_cons_zero, List.set_cons_succ]
      refine take_val 9 _ _ (.bool false) rfl (by rfl) (by kernel_rfl) (by kernel_rfl) (by kernel_rfl) (fun w => by unfold execOp; go_simp) rfl rfl k1 ?_
      simp only [Act.put, List.setIfInBounds_toArray, List.set_cons_zero, List.set_cons_succ]
      refine wpAnyH_done (by kernel_rfl) (NoPanic.normal ?_) _
      go_wp2
      go_roundw
      case rel => exact ⟨k + 1, by omega, by go_num, hid k1⟩
      case measure => simp [intOf]; omega
    · obtain rfl : k = n := by omega
      go_wp2
      go_ret
      exact ⟨rfl, h0.out.1⟩

@[go_sem] theorem semAtSome (l : Nat) (ρ : Operand → Value) (o : Oper) (h : ∀ c, o.op ≠ .defer c) : Oper.semAt (some l) ρ o = execOp ρ o := Oper.semAt_some l ρ o h

def encL (x : Nat → Nat) (k : Nat) : Array Value := #[.int .i64 (k : Int), .agg #[.float .f32 (x (k * 3)), .float .f32 (x (k * 3 + 1)), .float .f32 (x (k * 3 + 2)), .float .f32 (x ((k + 1) * 3)), .float .f32 (x ((k + 1) * 3 + 1)), .float .f32 (x ((k + 1) * 3 + 2))]]

theorem iNeighbours (p : Option Addr) (n cap : Nat) (w : World) :
    Calls Try.prog 140 #[.slice p n cap] w fun e w' => e = .returned (.func (.func 170) #[] #[.pointer (some ⟨w.heap.size, 0, none⟩)]) ∧ w' = w.alloc (.cells #[.slice p n cap] 78) := by
  have hmf : ∀ (fn : Fn) (first cap : Array Value) (w : World), (Instr.makeFunc fn first cap).run Try.prog w = .ok (.func fn first cap) w := fun _ _ _ _ => rfl
  go_enter Try.func140, Try.ntmps140
  go_wp2
  go_ret
  exact ⟨rfl, rfl⟩

set_option maxRecDepth 100000 in
set_option maxHeartbeats 4000000 in
theorem neighbours1_in (m : Nat) (l Bs n0 : Nat) (p : Option Addr) (n cap : Nat) (x : Nat → Nat) (hn : n ≤ 1048576) (J Jx : List (Fin (n - 1)) → World → Prop) (hAb : ∀ pre W, J pre W → J pre W.drew)
    (hY : ∀ pre (k : Fin (n - 1)) W, J pre W → pre.length < n - 1 → YieldAt Fence.wide (m - 1) Try.prog l (encL x k.1) W fun e W' =>
      (e = .returned (.bool true) ∧ J (pre ++ [k]) W' ∧ Below n0 W W') ∨ (e = .returned (.bool false) ∧ Jx (pre ++ [k]) W'))
    (W : World) (hB : Bs < n0) (hBs : W.cell? ⟨Bs, 0, none⟩ = some (.slice p n cap))
    (hc : 0 < n → ∃ b o, p = some ⟨b, o, none⟩ ∧ b < n0 ∧ ∀ k, k < 3 * n → W.cell? ⟨b, o + k, none⟩ = some (.float .f32 (x k))) (h0 : J [] W) :
    CallsIn Fence.wide m Try.prog 170 #[.func (.yield l) #[] #[], .pointer (some ⟨Bs, 0, none⟩)] W fun e W' => (∃ v, e = .returned v) ∧
      ((∃ ys, ys = List.finRange (n - 1) ∧ J ys W') ∨ (∃ pre, pre <+: List.finRange (n - 1) ∧ Jx pre W')) := by
  refine callsIn_of_wp Try.func170 rfl trivial ?_ rfl
  simp only [Try.ntmps170, List.size_toArray, List.length_cons, List.length_nil, Nat.reduceAdd, Nat.reduceSub, Array.replicate_succ, Array.replicate_zero, List.push_toArray, List.append_toArray, List.nil_append, List.cons_append]
  have HC := hid hc
  have HY := hid hY
  have HBS := hid hBs
  clear hc hY hBs
  gi_wp2
  gi_loopw [3] (fun i wr => ∃ k : Nat, k ≤ n - 1 ∧ i = .int .i64 ((k : Int) + 1) ∧ J ((List.finRange (n - 1)).take k) wr ∧ Hid (Below n0 W wr))
    (fun i _ => n - (intOf i).toNat)
  case atStart => exact ⟨0, Nat.zero_le _, rfl, h0, hid (Below.refl _ _)⟩
  case round =>
    obtain ⟨k, hk, rfl, hJs, hnx⟩ := hrel
    have hbx := hid ((hnx.out.cell (p := ⟨Bs, 0, none⟩) hB).trans HBS.out)
    have hbx' := hbx.out
    by_cases hlt : k + 1 < n
    · have HL := hid hlt
      have HN : Hid (k ≤ 1048576) := hid (by omega)
      obtain ⟨b, o, rfl, hb, hcell⟩ := HC.out (by omega)
      have hcw : ∀ j, j < 3 * n → wr.cell? ⟨b, o + j, none⟩ = some (.float .f32 (x j)) := fun j hj => (hnx.out.cell (p := ⟨b, o + j, none⟩) hb).trans (hcell j hj)
      have R0 := hid (row3 hcw (i := k) (by omega))
      have R1 := hid (row3 hcw (i := k + 1) hlt)
      obtain ⟨fn, tmps, assign, body, hy, hR⟩ := HY.out _ ⟨k, by omega⟩ wr.drew (hAb _ wr hJs) (by simp; omega)
      have hy := hid (show (Instr.yield l #[.int .i64 (k : Int), .agg #[.float .f32 (x (k * 3)), .float .f32 (x (k * 3 + 1)), .float .f32 (x (k * 3 + 2)), .float .f32 (x ((k + 1) * 3)), .float .f32 (x ((k + 1) * 3 + 1)), .float .f32 (x ((k + 1) * 3 + 2))]]).run Try.prog wr.drew = _ from hy)
      have hR := hid hR
      clear hcell hcw
      have hk3 : (k : Int) + 1 < (n : Int) := by omega
      gi_wp2
      clear hbx'
      refine regionIn_any 15 #[false, false, false, false, false, false, false, false, false, false, false, false, false, false, false] (by kernel_rfl) rfl rfl ?_
      refine takeIn 0 _ _ (.func (.yield l) #[] #[]) rfl rfl (by rfl) (by kernel_rfl) (by kernel_rfl) (by kernel_rfl) (fun w => by rfl) (fun _ => rfl) rfl rfl ?_
      simp only [Act.put, List.setIfInBounds_toArray, List.set_cons_zero, List.set_cons_succ]
      refine takeIn 1 _ _ (.int .i64 ((k : Int) + 1)) rfl rfl (by rfl) (by kernel_rfl) (by kernel_rfl) (by kernel_rfl) (fun w => by rfl) (fun _ => rfl) rfl rfl ?_
      simp only [Act.put, List.setIfInBounds_toArray, List.set_cons_zero, List.set_cons_succ]
      refine takeIn 2 _ _ (.int .i64 (k : Int)) rfl rfl (by rfl) (by kernel_rfl) (by kernel_rfl) (by kernel_rfl) (fun w => run_binop_val _ _ _ _ (by rfl) (by rfl) (by simp [eqGuard]) (run_pred HN.out w)) (fun _ => rfl) rfl rfl ?_
      simp only [Act.put, List.setIfInBounds_toArray, List.set_cons_zero, List.set_cons_succ]
      refine takeIn 4 _ _ (.int .i64 ((k : Int) + 1)) rfl rfl (by rfl) (by kernel_rfl) (by kernel_rfl) (by kernel_rfl) (fun w => by rfl) (fun _ => rfl) rfl rfl ?_
      simp only [Act.put, List.setIfInBounds_toArray, List.set_cons_zero, List.set_cons_succ]
      refine takeIn 5 _ _ (.int .i64 (k : Int)) rfl rfl (by rfl) (by kernel_rfl) (by kernel_rfl) (by kernel_rfl) (fun w => run_binop_val _ _ _ _ (by rfl) (by rfl) (by simp [eqGuard]) (run_pred HN.out w)) (fun _ => rfl) rfl rfl ?_
      simp only [Act.put, List.setIfInBounds_toArray, List.set_cons_zero, List.set_cons_succ]
      refine takeIn 9 _ _ (.int .i64 ((k : Int) + 1)) rfl rfl (by rfl) (by kernel_rfl) (by kernel_rfl) (by kernel_rfl) (fun w => by rfl) (fun _ => rfl) rfl rfl ?_
      simp only [Act.put, List.setIfInBounds_toArray, List.set_cons_zero, List.set_cons_succ]
      refine wpAnyIn_ready (rs := [3, 8]) (by kernel_rfl) (by simp) ?_
      refine readIn 3 _ _ (.slice (some ⟨b, o, none⟩) n cap) rfl rfl (by rfl) (run_load_cell _ _ ⟨Bs, 0, none⟩ _ rfl (run_loadVar_one Try.underlying78 rfl hbx.out)) rfl rfl rfl ?_ ?_
      · simp only [Act.put, List.setIfInBounds_toArray, List.set_cons_zero, List.set_cons_succ]
        refine takeIn 6 _ _ (.pointer (some ⟨b, o + k * 3, none⟩)) rfl rfl (by rfl) (by kernel_rfl) (by kernel_rfl) (by kernel_rfl) (fun w => run_index_op _ _ rfl rfl (run_indexAt Try.underlying78 info_lev (by have := HL.out; omega) w)) (fun _ => rfl) rfl rfl ?_
        simp only [Act.put, List.setIfInBounds_toArray, List.set_cons_zero, List.set_cons_succ]
        refine wpAnyIn_ready (rs := [7, 8]) (by kernel_rfl) (by simp) ?_
        refine readIn 7 _ _ (.agg #[.float .f32 (x (k * 3)), .float .f32 (x (k * 3 + 1)), .float .f32 (x (k * 3 + 2))]) rfl rfl (by rfl) (run_load_mid 153 _ b (o + k * 3) [.float .f32 (x (k * 3)), .float .f32 (x (k * 3 + 1)), .float .f32 (x (k * 3 + 2))] rfl (R0.out) _ Try.underlying153 rfl info_lev) rfl rfl rfl ?_ ?_
        · simp only [Act.put, List.setIfInBounds_toArray, List.set_cons_zero, List.set_cons_succ]
          refine wpAnyIn_ready (rs := [8]) (by kernel_rfl) (by simp) ?_
          refine readIn 8 _ _ (.slice (some ⟨b, o, none⟩) n cap) rfl rfl (by rfl) (run_load_cell _ _ ⟨Bs, 0, none⟩ _ rfl (run_loadVar_one Try.underlying78 rfl hbx.out)) rfl rfl rfl ?_ AllReadyIn.nil
          simp only [Act.put, List.setIfInBounds_toArray, List.set_cons_zero, List.set_cons_succ]
          refine takeIn 10 _ _ (.pointer (some ⟨b, o + (k + 1) * 3, none⟩)) rfl rfl (by rfl) (by kernel_rfl) (by kernel_rfl) (by kernel_rfl) (fun w => run_index_op _ _ rfl rfl (run_indexAt Try.underlying78 info_lev (by have := HL.out; omega) w)) (fun _ => rfl) rfl rfl ?_
          simp only [Act.put, List.setIfInBounds_toArray, List.set_cons_zero, List.set_cons_succ]
          refine wpAnyIn_ready (rs := [11]) (by kernel_rfl) (by simp) ?_
          refine readIn 11 _ _ (.agg #[.float .f32 (x ((k + 1) * 3)), .float .f32 (x ((k + 1) * 3 + 1)), .float .f32 (x ((k + 1) * 3 + 2))]) rfl rfl (by rfl) (run_load_mid 153 _ b (o + (k + 1) * 3) [.float .f32 (x ((k + 1) * 3)), .float .f32 (x ((k + 1) * 3 + 1)), .float .f32 (x ((k + 1) * 3 + 2))] rfl (R1.out) _ Try.underlying153 rfl info_lev) rfl rfl rfl ?_ AllReadyIn.nil
          simp only [Act.put, List.setIfInBounds_toArray, List.set_cons_zero, List.set_cons_succ]
          refine takeIn 12 _ _ (.agg #[.float .f32 (x (k * 3)), .float .f32 (x (k * 3 + 1)), .float .f32 (x (k * 3 + 2)), .float .f32 (x ((k + 1) * 3)), .float .f32 (x ((k + 1) * 3 + 1)), .float .f32 (x ((k + 1) * 3 + 2))]) rfl rfl (by rfl) (by kernel_rfl) (by kernel_rfl) (by kernel_rfl) (fun w => by unfold execOp; go_simp) (fun _ => rfl) rfl rfl ?_
          simp only [Act.put, List.setIfInBounds_toArray, List.set_cons_zero, List.set_cons_succ]
          refine wpAnyIn_ready (rs := [13]) (by kernel_rfl) (by simp) ?_
          refine yieldIn (F := Fence.wide) (l := l) (fn := fn) (tmps := tmps) (assign := assign) (body := body) 13 rfl rfl (by rfl) (by have hy2 := hy.out; unfold execOp; go_simp) (fun _ _ => True.intro) (fun h => by cases h) hR.out (fun e W3 hr => ?_) AllReadyIn.nil
          rcases hr with ⟨rfl, hJ3, hk3⟩ | ⟨rfl, hJx3⟩
          · refine ⟨.bool true, rfl, ?_⟩
            simp only [Act.put, List.setIfInBounds_toArray, List.set_cons_zero, List.set_cons_succ]
            refine takeIn 14 _ _ (.bool false) rfl rfl (by rfl) (by kernel_rfl) (by kernel_rfl) (by kernel_rfl) (fun w => by unfold execOp; go_simp) (fun _ => rfl) rfl rfl ?_
            simp only [Act.put, List.setIfInBounds_toArray, List.set_cons_zero, List.set_cons_succ]
            refine wpAnyIn_done (by kernel_rfl) (NoPanic.normal ?_) _
            gi_wp2
            go_roundw
            case rel => exact ⟨k + 1, by omega, by go_num, by rw [take_fin (m := n - 1) (k := k) (by omega)]; exact hJ3, hid (hnx.out.drew.trans hk3)⟩
            case measure => simp [intOf]; omega
          · refine ⟨.bool false, rfl, ?_⟩
            simp only [Act.put, List.setIfInBounds_toArray, List.set_cons_zero, List.set_cons_succ]
            refine takeIn 14 _ _ (.bool true) rfl rfl (by rfl) (by kernel_rfl) (by kernel_rfl) (by kernel_rfl) (fun w => by unfold execOp; go_simp) (fun _ => rfl) rfl rfl ?_
            simp only [Act.put, List.setIfInBounds_toArray, List.set_cons_zero, List.set_cons_succ]
            refine wpAnyIn_done (by kernel_rfl) (NoPanic.normal ?_) _
            gi_wp2
            refine bodyPost_ret (results_none rfl _ _ _) rfl ?_
            exact ⟨⟨_, rfl⟩, .inr ⟨_, by rw [← take_fin (m := n - 1) (k := k) (by omega)]; exact List.take_prefix _ _, hJx3⟩⟩
        refine readIn 8 _ _ (.slice (some ⟨b, o, none⟩) n cap) rfl rfl (by rfl) (run_load_cell _ _ ⟨Bs, 0, none⟩ _ rfl (run_loadVar_one Try.underlying78 rfl hbx.out)) rfl rfl rfl ?_ AllReadyIn.nil
        simp only [Act.put, List.setIfInBounds_toArray, List.set_cons_zero, List.set_cons_succ]
        refine takeIn 10 _ _ (.pointer (some ⟨b, o + (k + 1) * 3, none⟩)) rfl rfl (by rfl) (by kernel_rfl) (by kernel_rfl) (by kernel_rfl) (fun w => run_index_op _ _ rfl rfl (run_indexAt Try.underlying78 info_lev (by have := HL.out; omega) w)) (fun _ => rfl) rfl rfl ?_
        simp only [Act.put, List.setIfInBounds_toArray, List.set_cons_zero, List.set_cons_succ]
        refine wpAnyIn_ready (rs := [7, 11]) (by kernel_rfl) (by simp) ?_
        refine readIn 7 _ _ (.agg #[.float .f32 (x (k * 3)), .float .f32 (x (k * 3 + 1)), .float .f32 (x (k * 3 + 2))]) rfl rfl (by rfl) (run_load_mid 153 _ b (o + k * 3) [.float .f32 (x (k * 3)), .float .f32 (x (k * 3 + 1)), .float .f32 (x (k * 3 + 2))] rfl (R0.out) _ Try.underlying153 rfl info_lev) rfl rfl rfl ?_ ?_
        · simp only [Act.put, List.setIfInBounds_toArray, List.set_cons_zero, List.set_cons_succ]
          refine wpAnyIn_ready (rs := [11]) (by kernel_rfl) (by simp) ?_
          refine readIn 11 _ _ (.agg #[.float .f32 (x ((k + 1) * 3)), .float .f32 (x ((k + 1) * 3 + 1)), .float .f32 (x ((k + 1) * 3 + 2))]) rfl rfl (by rfl) (run_load_mid 153 _ b (o + (k + 1) * 3) [.float .f32 (x ((k + 1) * 3)), .float .f32 (x ((k + 1) * 3 + 1)), .float .f32 (x ((k + 1) * 3 + 2))] rfl (R1.out) _ Try.underlying153 rfl info_lev) rfl rfl rfl ?_ AllReadyIn.nil
          simp only [Act.put, List.setIfInBounds_toArray, List.set_cons_zero, List.set_cons_succ]
          refine takeIn 12 _ _ (.agg #[.float .f32 (x (k * 3)), .float .f32 (x (k * 3 + 1)), .float .f32 (x (k * 3 + 2)), .float .f32 (x ((k + 1) * 3)), .float .f32 (x ((k + 1) * 3 + 1)), .float .f32 (x ((k + 1) * 3 + 2))]) rfl rfl (by rfl) (by kernel_rfl) (by kernel_rfl) (by kernel_rfl) (fun w => by unfold execOp; go_simp) (fun _ => rfl) rfl rfl ?_
          simp only [Act.put, List.setIfInBounds_toArray, List.set_cons_zero, List.set_cons_succ]
          refine wpAnyIn_ready (rs := [13]) (by kernel_rfl) (by simp) ?_
          refine yieldIn (F := Fence.wide) (l := l) (fn := fn) (tmps := tmps) (assign := assign) (body := body) 13 rfl rfl (by rfl) (by have hy2 := hy.out; unfold execOp; go_simp) (fun _ _ => True.intro) (fun h => by cases h) hR.out (fun e W3 hr => ?_) AllReadyIn.nil
          rcases hr with ⟨rfl, hJ3, hk3⟩ | ⟨rfl, hJx3⟩
          · refine ⟨.bool true, rfl, ?_⟩
            simp only [Act.put, List.setIfInBounds_toArray, List.set_cons_zero, List.set_cons_succ]
            refine takeIn 14 _ _ (.bool false) rfl rfl (by rfl) (by kernel_rfl) (by kernel_rfl) (by kernel_rfl) (fun w => by unfold execOp; go_simp) (fun _ => rfl) rfl rfl ?_
            simp only [Act.put, List.setIfInBounds_toArray, List.set_cons_zero, List.set_cons_succ]
            refine wpAnyIn_done (by kernel_rfl) (NoPanic.normal ?_) _
            gi_wp2
            go_roundw
            case rel => exact ⟨k + 1, by omega, by go_num, by rw [take_fin (m := n - 1) (k := k) (by omega)]; exact hJ3, hid (hnx.out.drew.trans hk3)⟩
            case measure => simp [intOf]; omega
          · refine ⟨.bool false, rfl, ?_⟩
            simp only [Act.put, List.setIfInBounds_toArray, List.set_cons_zero, List.set_cons_succ]
            refine takeIn 14 _ _ (.bool true) rfl rfl (by rfl) (by kernel_rfl) (by kernel_rfl) (by kernel_rfl) (fun w => by unfold execOp; go_simp) (fun _ => rfl) rfl rfl ?_
            simp only [Act.put, List.setIfInBounds_toArray, List.set_cons_zero, List.set_cons_succ]
            refine wpAnyIn_done (by kernel_rfl) (NoPanic.normal ?_) _
            gi_wp2
            refine bodyPost_ret (results_none rfl _ _ _) rfl ?_
            exact ⟨⟨_, rfl⟩, .inr ⟨_, by rw [← take_fin (m := n - 1) (k := k) (by omega)]; exact List.take_prefix _ _, hJx3⟩⟩
        refine readIn 11 _ _ (.agg #[.float .f32 (x ((k + 1) * 3)), .float .f32 (x ((k + 1) * 3 + 1)), .float .f32 (x ((k + 1) * 3 + 2))]) rfl rfl (by rfl) (run_load_mid 153 _ b (o + (k + 1) * 3) [.float .f32 (x ((k + 1) * 3)), .float .f32 (x ((k + 1) * 3 + 1)), .float .f32 (x ((k + 1) * 3 + 2))] rfl (R1.out) _ Try.underlying153 rfl info_lev) rfl rfl rfl ?_ AllReadyIn.nil
        simp only [Act.put, List.setIfInBounds_toArray, List.set_cons_zero, List.set_cons_succ]
        refine wpAnyIn_ready (rs := [7]) (by kernel_rfl) (by simp) ?_
        refine readIn 7 _ _ (.agg #[.float .f32 (x (k * 3)), .float .f32 (x (k * 3 + 1)), .float .f32 (x (k * 3 + 2))]) rfl rfl (by rfl) (run_load_mid 153 _ b (o + k * 3) [.float .f32 (x (k * 3)), .float .f32 (x (k * 3 + 1)), .float .f32 (x (k * 3 + 2))] rfl (R0.out) _ Try.underlying153 rfl info_lev) rfl rfl rfl ?_ AllReadyIn.nil
        simp only [Act.put, List.setIfInBounds_toArray, List.set_cons_zero, List.set_cons_succ]
        refine takeIn 12 _ _ (.agg #[.float .f32 (x (k * 3)), .float .f32 (x (k * 3 + 1)), .float .f32 (x (k * 3 + 2)), .float .f32 (x ((k + 1) * 3)), .float .f32 (x ((k + 1) * 3 + 1)), .float .f32 (x ((k + 1) * 3 + 2))]) rfl rfl (by rfl) (by kernel_rfl) (by kernel_rfl) (by kernel_rfl) (fun w => by unfold execOp; go_simp) (fun _ => rfl) rfl rfl ?_
        simp only [Act.put, List.setIfInBounds_toArray, List.set_cons_zero, List.set_cons_succ]
        refine wpAnyIn_ready (rs := [13]) (by kernel_rfl) (by simp) ?_
        refine yieldIn (F := Fence.wide) (l := l) (fn := fn) (tmps := tmps) (assign := assign) (body := body) 13 rfl rfl (by rfl) (by have hy2 := hy.out; unfold execOp; go_simp) (fun _ _ => True.intro) (fun h => by cases h) hR.out (fun e W3 hr => ?_) AllReadyIn.nil
        rcases hr with ⟨rfl, hJ3, hk3⟩ | ⟨rfl, hJx3⟩
        · refine ⟨.bool true, rfl, ?_⟩
          simp only [Act.put, List.setIfInBounds_toArray, List.set_cons_zero, List.set_cons_succ]
          refine takeIn 14 _ _ (.bool false) rfl rfl (by rfl) (by kernel_rfl) (by kernel_rfl) (by kernel_rfl) (fun w => by unfold execOp; go_simp) (fun _ => rfl) rfl rfl ?_
          simp only [Act.put, List.setIfInBounds_toArray, List.set_cons_zero, List.set_cons_succ]
          refine wpAnyIn_done (by kernel_rfl) (NoPanic.normal ?_) _
          gi_wp2
          go_roundw
          case rel => exact ⟨k + 1, by omega, by go_num, by rw [take_fin (m := n - 1) (k := k) (by omega)]; exact hJ3, hid (hnx.out.drew.trans hk3)⟩
          case measure => simp [intOf]; omega
        · refine ⟨.bool false, rfl, ?_⟩
          simp only [Act.put, List.setIfInBounds_toArray, List.set_cons_zero, List.set_cons_succ]
          refine takeIn 14 _ _ (.bool true) rfl rfl (by rfl) (by kernel_rfl) (by kernel_rfl) (by kernel_rfl) (fun w => by unfold execOp; go_simp) (fun _ => rfl) rfl rfl ?_
          simp only [Act.put, List.setIfInBounds_toArray, List.set_cons_zero, List.set_cons_succ]
          refine wpAnyIn_done (by kernel_rfl) (NoPanic.normal ?_) _
          gi_wp2
          refine bodyPost_ret (results_none rfl _ _ _) rfl ?_
          exact ⟨⟨_, rfl⟩, .inr ⟨_, by rw [← take_fin (m := n - 1) (k := k) (by omega)]; exact List.take_prefix _ _, hJx3⟩⟩
      refine readIn 8 _ _ (.slice (some ⟨b, o, none⟩) n cap) rfl rfl (by rfl) (run_load_cell _ _ ⟨Bs, 0, none⟩ _ rfl (run_loadVar_one Try.underlying78 rfl hbx.out)) rfl rfl rfl ?_ AllReadyIn.nil
      simp only [Act.put, List.setIfInBounds_toArray, List.set_cons_zero, List.set_cons_succ]
      refine takeIn 10 _ _ (.pointer (some ⟨b, o + (k + 1) * 3, none⟩)) rfl rfl (by rfl) (by kernel_rfl) (by kernel_rfl) (by kernel_rfl) (fun w => run_index_op _ _ rfl rfl (run_indexAt Try.underlying78 info_lev (by have := HL.out; omega) w)) (fun _ => rfl) rfl rfl ?_
      simp only [Act.put, List.setIfInBounds_toArray, List.set_cons_zero, List.set_cons_succ]
      refine wpAnyIn_ready (rs := [3, 11]) (by kernel_rfl) (by simp) ?_
      refine readIn 3 _ _ (.slice (some ⟨b, o, none⟩) n cap) rfl rfl (by rfl) (run_load_cell _ _ ⟨Bs, 0, none⟩ _ rfl (run_loadVar_one Try.underlying78 rfl hbx.out)) rfl rfl rfl ?_ ?_
      · simp only [Act.put, List.setIfInBounds_toArray, List.set_cons_zero, List.set_cons_succ]
        refine takeIn 6 _ _ (.pointer (some ⟨b, o + k * 3, none⟩)) rfl rfl (by rfl) (by kernel_rfl) (by kernel_rfl) (by kernel_rfl) (fun w => run_index_op _ _ rfl rfl (run_indexAt Try.underlying78 info_lev (by have := HL.out; omega) w)) (fun _ => rfl) rfl rfl ?_
        simp only [Act.put, List.setIfInBounds_toArray, List.set_cons_zero, List.set_cons_succ]
        refine wpAnyIn_ready (rs := [7, 11]) (by kernel_rfl) (by simp) ?_
        refine readIn 7 _ _ (.agg #[.float .f32 (x (k * 3)), .float .f32 (x (k * 3 + 1)), .float .f32 (x (k * 3 + 2))]) rfl rfl (by rfl) (run_load_mid 153 _ b (o + k * 3) [.float .f32 (x (k * 3)), .float .f32 (x (k * 3 + 1)), .float .f32 (x (k * 3 + 2))] rfl (R0.out) _ Try.underlying153 rfl info_lev) rfl rfl rfl ?_ ?_
        · simp only [Act.put, List.setIfInBounds_toArray, List.set_cons_zero, List.set_cons_succ]
          refine wpAnyIn_ready (rs := [11]) (by kernel_rfl) (by simp) ?_
          refine readIn 11 _ _ (.agg #[.float .f32 (x ((k + 1) * 3)), .float .f32 (x ((k + 1) * 3 + 1)), .float .f32 (x ((k + 1) * 3 + 2))]) rfl rfl (by rfl) (run_load_mid 153 _ b (o + (k + 1) * 3) [.float .f32 (x ((k + 1) * 3)), .float .f32 (x ((k + 1) * 3 + 1)), .float .f32 (x ((k + 1) * 3 + 2))] rfl (R1.out) _ Try.underlying153 rfl info_lev) rfl rfl rfl ?_ AllReadyIn.nil
          simp only [Act.put, List.setIfInBounds_toArray, List.set_cons_zero, List.set_cons_succ]
          refine takeIn 12 _ _ (.agg #[.float .f32 (x (k * 3)), .float .f32 (x (k * 3 + 1)), .float .f32 (x (k * 3 + 2)), .float .f32 (x ((k + 1) * 3)), .float .f32 (x ((k + 1) * 3 + 1)), .float .f32 (x ((k + 1) * 3 + 2))]) rfl rfl (by rfl) (by kernel_rfl) (by kernel_rfl) (by kernel_rfl) (fun w => by unfold execOp; go_simp) (fun _ => rfl) rfl rfl ?_
          simp only [Act.put, List.setIfInBounds_toArray, List.set_cons_zero, List.set_cons_succ]
          refine wpAnyIn_ready (rs := [13]) (by kernel_rfl) (by simp) ?_
          refine yieldIn (F := Fence.wide) (l := l) (fn := fn) (tmps := tmps) (assign := assign) (body := body) 13 rfl rfl (by rfl) (by have hy2 := hy.out; unfold execOp; go_simp) (fun _ _ => True.intro) (fun h => by cases h) hR.out (fun e W3 hr => ?_) AllReadyIn.nil
          rcases hr with ⟨rfl, hJ3, hk3⟩ | ⟨rfl, hJx3⟩
          · refine ⟨.bool true, rfl, ?_⟩
            simp only [Act.put, List.setIfInBounds_toArray, List.set_cons_zero, List.set_cons_succ]
            refine takeIn 14 _ _ (.bool false) rfl rfl (by rfl) (by kernel_rfl) (by kernel_rfl) (by kernel_rfl) (fun w => by unfold execOp; go_simp) (fun _ => rfl) rfl rfl ?_
            simp only [Act.put, List.setIfInBounds_toArray, List.set_cons_zero, List.set_cons_succ]
            refine wpAnyIn_done (by kernel_rfl) (NoPanic.normal ?_) _
            gi_wp2
            go_roundw
            case rel => exact ⟨k + 1, by omega, by go_num, by rw [take_fin (m := n - 1) (k := k) (by omega)]; exact hJ3, hid (hnx.out.drew.trans hk3)⟩
            case measure => simp [intOf]; omega
          · refine ⟨.bool false, rfl, ?_⟩
            simp only [Act.put, List.setIfInBounds_toArray, List.set_cons_zero, List.set_cons_succ]
            refine takeIn 14 _ _ (.bool true) rfl rfl (by rfl) (by kernel_rfl) (by kernel_rfl) (by kernel_rfl) (fun w => by unfold execOp; go_simp) (fun _ => rfl) rfl rfl ?_
            simp only [Act.put, List.setIfInBounds_toArray, List.set_cons_zero, List.set_cons_succ]
            refine wpAnyIn_done (by kernel_rfl) (NoPanic.normal ?_) _
            gi_wp2
            refine bodyPost_ret (results_none rfl _ _ _) rfl ?_
            exact ⟨⟨_, rfl⟩, .inr ⟨_, by rw [← take_fin (m := n - 1) (k := k) (by omega)]; exact List.take_prefix _ _, hJx3⟩⟩
        refine readIn 11 _ _ (.agg #[.float .f32 (x ((k + 1) * 3)), .float .f32 (x ((k + 1) * 3 + 1)), .float .f32 (x ((k + 1) * 3 + 2))]) rfl rfl (by rfl) (run_load_mid 153 _ b (o + (k + 1) * 3) [.float .f32 (x ((k + 1) * 3)), .float .f32 (x ((k + 1) * 3 + 1)), .float .f32 (x ((k + 1) * 3 + 2))] rfl (R1.out) _ Try.underlying153 rfl info_lev) rfl rfl rfl ?_ AllReadyIn.nil
        simp only [Act.put, List.setIfInBounds_toArray, List.set_cons_zero, List.set_cons_succ]
        refine wpAnyIn_ready (rs := [7]) (by kernel_rfl) (by simp) ?_
        refine readIn 7 _ _ (.agg #[.float .f32 (x (k * 3)), .float .f32 (x (k * 3 + 1)), .float .f32 (x (k * 3 + 2))]) rfl rfl (by rfl) (run_load_mid 153 _ b (o + k * 3) [.float .f32 (x (k * 3)), .float .f32 (x (k * 3 + 1)), .float .f32 (x (k * 3 + 2))] rfl (R0.out) _ Try.underlying153 rfl info_lev) rfl rfl rfl ?_ AllReadyIn.nil
        simp only [Act.put, List.setIfInBounds_toArray, List.set_cons_zero, List.set_cons_succ]
        refine takeIn 12 _ _ (.agg #[.float .f32 (x (k * 3)), .float .f32 (x (k * 3 + 1)), .float .f32 (x (k * 3 + 2)), .float .f32 (x ((k + 1) * 3)), .float .f32 (x ((k + 1) * 3 + 1)), .float .f32 (x ((k + 1) * 3 + 2))]) rfl rfl (by rfl) (by kernel_rfl) (by kernel_rfl) (by kernel_rfl) (fun w => by unfold execOp; go_simp) (fun _ => rfl) rfl rfl ?_
        simp only [Act.put, List.setIfInBounds_toArray, List.set_cons_zero, List.set_cons_succ]
        refine wpAnyIn_ready (rs := [13]) (by kernel_rfl) (by simp) ?_
        refine yieldIn (F := Fence.wide) (l := l) (fn := fn) (tmps := tmps) (assign := assign) (body := body) 13 rfl rfl (by rfl) (by have hy2 := hy.out; unfold execOp; go_simp) (fun _ _ => True.intro) (fun h => by cases h) hR.out (fun e W3 hr => ?_) AllReadyIn.nil
        rcases hr with ⟨rfl, hJ3, hk3⟩ | ⟨rfl, hJx3⟩
        · refine ⟨.bool true, rfl, ?_⟩
          simp only [Act.put, List.setIfInBounds_toArray, List.set_cons_zero, List.set_cons_succ]
          refine takeIn 14 _ _ (.bool false) rfl rfl (by rfl) (by kernel_rfl) (by kernel_rfl) (by kernel_rfl) (fun w => by unfold execOp; go_simp) (fun _ => rfl) rfl rfl ?_
          simp only [Act.put, List.setIfInBounds_toArray, List.set_cons_zero, List.set_cons_succ]
          refine wpAnyIn_done (by kernel_rfl) (NoPanic.normal ?_) _
          gi_wp2
          go_roundw
          case rel => exact ⟨k + 1, by omega, by go_num, by rw [take_fin (m := n - 1) (k := k) (by omega)]; exact hJ3, hid (hnx.out.drew.trans hk3)⟩
          case measure => simp [intOf]; omega
        · refine ⟨.bool false, rfl, ?_⟩
          simp only [Act.put, List.setIfInBounds_toArray, List.set_cons_zero, List.set_cons_succ]
          refine takeIn 14 _ _ (.bool true) rfl rfl (by rfl) (by kernel_rfl) (by kernel_rfl) (by kernel_rfl) (fun w => by unfold execOp; go_simp) (fun _ => rfl) rfl rfl ?_
          simp only [Act.put, List.setIfInBounds_toArray, List.set_cons_zero, List.set_cons_succ]
          refine wpAnyIn_done (by kernel_rfl) (NoPanic.normal ?_) _
          gi_wp2
          refine bodyPost_ret (results_none rfl _ _ _) rfl ?_
          exact ⟨⟨_, rfl⟩, .inr ⟨_, by rw [← take_fin (m := n - 1) (k := k) (by omega)]; exact List.take_prefix _ _, hJx3⟩⟩
      refine readIn 11 _ _ (.agg #[.float .f32 (x ((k + 1) * 3)), .float .f32 (x ((k + 1) * 3 + 1)), .float .f32 (x ((k + 1) * 3 + 2))]) rfl rfl (by rfl) (run_load_mid 153 _ b (o + (k + 1) * 3) [.float .f32 (x ((k + 1) * 3)), .float .f32 (x ((k + 1) * 3 + 1)), .float .f32 (x ((k + 1) * 3 + 2))] rfl (R1.out) _ Try.underlying153 rfl info_lev) rfl rfl rfl ?_ AllReadyIn.nil
      simp only [Act.put, List.setIfInBounds_toArray, List.set_cons_zero, List.set_cons_succ]
      refine wpAnyIn_ready (rs := [3]) (by kernel_rfl) (by simp) ?_
      refine readIn 3 _ _ (.slice (some ⟨b, o, none⟩) n cap) rfl rfl (by rfl) (run_load_cell _ _ ⟨Bs, 0, none⟩ _ rfl (run_loadVar_one Try.underlying78 rfl hbx.out)) rfl rfl rfl ?_ AllReadyIn.nil
      simp only [Act.put, List.setIfInBounds_toArray, List.set_cons_zero, List.set_cons_succ]
      refine takeIn 6 _ _ (.pointer (some ⟨b, o + k * 3, none⟩)) rfl rfl (by rfl) (by kernel_rfl) (by kernel_rfl) (by kernel_rfl) (fun w => run_index_op _ _ rfl rfl (run_indexAt Try.underlying78 info_lev (by have := HL.out; omega) w)) (fun _ => rfl) rfl rfl ?_
      simp only [Act.put, List.setIfInBounds_toArray, List.set_cons_zero, List.set_cons_succ]
      refine wpAnyIn_ready (rs := [7]) (by kernel_rfl) (by simp) ?_
      refine readIn 7 _ _ (.agg #[.float .f32 (x (k * 3)), .float .f32 (x (k * 3 + 1)), .float .f32 (x (k * 3 + 2))]) rfl rfl (by rfl) (run_load_mid 153 _ b (o + k * 3) [.float .f32 (x (k * 3)), .float .f32 (x (k * 3 + 1)), .float .f32 (x (k * 3 + 2))] rfl (R0.out) _ Try.underlying153 rfl info_lev) rfl rfl rfl ?_ AllReadyIn.nil
      simp only [Act.put, List.setIfInBounds_toArray, List.set_cons_zero, List.set_cons_succ]
      refine takeIn 12 _ _ (.agg #[.float .f32 (x (k * 3)), .float .f32 (x (k * 3 + 1)), .float .f32 (x (k * 3 + 2)), .float .f32 (x ((k + 1) * 3)), .float .f32 (x ((k + 1) * 3 + 1)), .float .f32 (x ((k + 1) * 3 + 2))]) rfl rfl (by rfl) (by kernel_rfl) (by kernel_rfl) (by kernel_rfl) (fun w => by unfold execOp; go_simp) (fun _ => rfl) rfl rfl ?_
      simp only [Act.put, List.setIfInBounds_toArray, List.set_cons_zero, List.set_cons_succ]
      refine wpAnyIn_ready (rs := [13]) (by kernel_rfl) (by simp) ?_
      refine yieldIn (F := Fence.wide) (l := l) (fn := fn) (tmps := tmps) (assign := assign) (body := body) 13 rfl rfl (by rfl) (by have hy2 := hy.out; unfold execOp; go_simp) (fun _ _ => True.intro) (fun h => by cases h) hR.out (fun e W3 hr => ?_) AllReadyIn.nil
      rcases hr with ⟨rfl, hJ3, hk3⟩ | ⟨rfl, hJx3⟩
      · refine ⟨.bool true, rfl, ?_⟩
        simp only [Act.put, List.setIfInBounds_toArray, List.set_cons_zero, List.set_cons_succ]
        refine takeIn 14 _ _ (.bool false) rfl rfl (by rfl) (by kernel_rfl) (by kernel_rfl) (by kernel_rfl) (fun w => by unfold execOp; go_simp) (fun _ => rfl) rfl rfl ?_
        simp only [Act.put, List.setIfInBounds_toArray, List.set_cons_zero, List.set_cons_succ]
        refine wpAnyIn_done (by kernel_rfl) (NoPanic.normal ?_) _
        gi_wp2
        go_roundw
        case rel => exact ⟨k + 1, by omega, by go_num, by rw [take_fin (m := n - 1) (k := k) (by omega)]; exact hJ3, hid (hnx.out.drew.trans hk3)⟩
        case measure => simp [intOf]; omega
      · refine ⟨.bool false, rfl, ?_⟩
        simp only [Act.put, List.setIfInBounds_toArray, List.set_cons_zero, List.set_cons_succ]
        refine takeIn 14 _ _ (.bool true) rfl rfl (by rfl) (by kernel_rfl) (by kernel_rfl) (by kernel_rfl) (fun w => by unfold execOp; go_simp) (fun _ => rfl) rfl rfl ?_
        simp only [Act.put, List.setIfInBounds_toArray, List.set_cons_zero, List.set_cons_succ]
        refine wpAnyIn_done (by kernel_rfl) (NoPanic.normal ?_) _
        gi_wp2
        refine bodyPost_ret (results_none rfl _ _ _) rfl ?_
        exact ⟨⟨_, rfl⟩, .inr ⟨_, by rw [← take_fin (m := n - 1) (k := k) (by omega)]; exact List.take_prefix _ _, hJx3⟩⟩
    · have hk3 : ¬ (k : Int) + 1 < (n : Int) := by omega
      gi_wp2
      go_end0
      refine ⟨⟨_, rfl⟩, .inl ?_⟩
      have e : (List.finRange (n - 1)).take k = List.finRange (n - 1) := List.take_of_length_le (by simp; omega)
      rw [e] at hJs
      exact hJs

theorem neighbours_stops (m : Nat) (Bs n0 : Nat) (p : Option Addr) (n cap : Nat) (x : Nat → Nat) (hn : n ≤ 1048576) (w : World) (hB : Bs < n0) (hn0 : n0 ≤ w.heap.size)
    (hBs : w.cell? ⟨Bs, 0, none⟩ = some (.slice p n cap)) (hc : 0 < n → ∃ b o, p = some ⟨b, o, none⟩ ∧ b < n0 ∧ ∀ k, k < 3 * n → w.cell? ⟨b, o + k, none⟩ = some (.float .f32 (x k))) :
    SeqStopsK Fence.wide m Try.prog 170 #[.pointer (some ⟨Bs, 0, none⟩)] (fun k : Fin (n - 1) => encL x k.1) (Below n0) (fun ys => ys = List.finRange (n - 1)) (fun pre => pre <+: List.finRange (n - 1)) (n - 1) w := fun l J Jx W hW hA _ hY h0 =>
  neighbours1_in m l Bs n0 p n cap x hn J Jx (fun pre W1 hj => hA pre W1 W1.drew none hj ⟨rfl, rfl, rfl, Nat.le_refl _, fun _ _ _ => rfl⟩ (fun r e => by cases e)) hY W hB ((hW.cell (p := ⟨Bs, 0, none⟩) (show Bs < _ by omega)).trans hBs) (fun hp => by
    obtain ⟨b, o, e, hb, hk⟩ := hc hp
    exact ⟨b, o, e, hb, fun j hj => (hW.cell (p := ⟨b, o + j, none⟩) (show b < _ by omega)).trans (hk j hj)⟩) h0

theorem info_lay : (Try.prog.info? 214).map (·.size) = some 6 := by kernel_rfl

theorem iDepth (x : Nat → Nat) (k : Nat) (h : Ieee.Format.sub S (x ((k + 1) * 3)) (x (k * 3)) = some (fsub (x ((k + 1) * 3)) (x (k * 3)))) (w : World) :
    Calls Try.prog 172 #[.agg #[.float .f32 (x (k * 3)), .float .f32 (x (k * 3 + 1)), .float .f32 (x (k * 3 + 2)), .float .f32 (x ((k + 1) * 3)), .float .f32 (x ((k + 1) * 3 + 1)), .float .f32 (x ((k + 1) * 3 + 2))]] w fun e w' => e = .returned (.float .f32 (fsub (x ((k + 1) * 3)) (x (k * 3)))) ∧ Below w.heap.size w w' := by
  have hr := fun w => run_float_arith (P := Try.prog) w .sub 22 .f32 _ _ _ h
  have b0 := boxed w (.cells #[.float .f32 (x (k * 3)), .float .f32 (x (k * 3 + 1)), .float .f32 (x (k * 3 + 2)), .float .f32 (x ((k + 1) * 3)), .float .f32 (x ((k + 1) * 3 + 1)), .float .f32 (x ((k + 1) * 3 + 2))] 214)
  clear h
  go_enter Try.func172, Try.ntmps172
  go_wp2
  go_ret
  exact ⟨rfl, b0⟩

set_option maxRecDepth 100000 in
theorem iUnsteady (x : Nat → Nat) (k : Nat) (U : UnF x k) (w : World) :
    Calls Try.prog 171 #[.agg #[.float .f32 (x (k * 3)), .float .f32 (x (k * 3 + 1)), .float .f32 (x (k * 3 + 2)), .float .f32 (x ((k + 1) * 3)), .float .f32 (x ((k + 1) * 3 + 1)), .float .f32 (x ((k + 1) * 3 + 2))]] w fun e w' => e = .returned (.bool (unB x k)) ∧ Below w.heap.size w w' := by
  have k0 : Hid (Kept w [(w.heap.size, #[.float .f32 (x (k * 3)), .float .f32 (x (k * 3 + 1)), .float .f32 (x (k * 3 + 2)), .float .f32 (x ((k + 1) * 3)), .float .f32 (x ((k + 1) * 3 + 1)), .float .f32 (x ((k + 1) * 3 + 2))], 214)] (w.alloc (.cells #[.float .f32 (x (k * 3)), .float .f32 (x (k * 3 + 1)), .float .f32 (x (k * 3 + 2)), .float .f32 (x ((k + 1) * 3)), .float .f32 (x ((k + 1) * 3 + 1)), .float .f32 (x ((k + 1) * 3 + 2))] 214))) := hid ((Kept.nil w).push _ _)
  have r1 := hid (fun w => run_float_arith (P := Try.prog) w .sub 22 .f32 _ _ _ U.s1)
  have r3 := hid (fun w => run_float_arith (P := Try.prog) w .mul 22 .f32 _ _ _ U.s3)
  have HU := hid U
  clear U
  go_enter Try.func171, Try.ntmps171
  go_wp2_with fail
  refine region_kept (w0 := w) (l := [(w.heap.size, #[.float .f32 (x (k * 3)), .float .f32 (x (k * 3 + 1)), .float .f32 (x (k * 3 + 2)), .float .f32 (x ((k + 1) * 3)), .float .f32 (x ((k + 1) * 3 + 1)), .float .f32 (x ((k + 1) * 3 + 2))], 214)]) 14 #[false, false, false, false, false, false, false, false, false, false, false, false, false, false] (by kernel_rfl) rfl rfl ?_
  have kd := k0.out.drew
  generalize World.drew _ = wd at kd ⊢
  clear k0
  refine take_val 0 _ _ (.pointer (some ⟨w.heap.size, 0, none⟩)) rfl (by rfl) (by kernel_rfl) (by kernel_rfl) (by kernel_rfl) (fun w => by unfold execOp; go_simp) rfl rfl kd ?_
  simp only [Act.put, List.setIfInBounds_toArray, List.set_cons_zero, List.set_cons_succ]
  refine take_val 1 _ _ (.pointer (some ⟨w.heap.size, 1, none⟩)) rfl (by rfl) (by kernel_rfl) (by kernel_rfl) (by kernel_rfl) (fun w => by unfold execOp; go_simp) rfl rfl kd ?_
  simp only [Act.put, List.setIfInBounds_toArray, List.set_cons_zero, List.set_cons_succ]
  refine take_val 2 _ _ (.pointer (some ⟨w.heap.size, 1, none⟩)) rfl (by rfl) (by kernel_rfl) (by kernel_rfl) (by kernel_rfl) (fun w => by unfold execOp; go_simp) rfl rfl kd ?_
  simp only [Act.put, List.setIfInBounds_toArray, List.set_cons_zero, List.set_cons_succ]
  refine take_cell 3 _ _ (.float .f32 (x (k * 3 + 1))) rfl (by rfl) (by kernel_rfl) (by kernel_rfl) (by kernel_rfl) (fun wq hS => by have hcell : wq.cell? ⟨w.heap.size, 1, none⟩ = some (.float .f32 (x (k * 3 + 1))) := (cell_of_row wq (w.heap.size) 1 _ _ _ (hS.at (x := (w.heap.size, #[.float .f32 (x (k * 3)), .float .f32 (x (k * 3 + 1)), .float .f32 (x (k * 3 + 2)), .float .f32 (x ((k + 1) * 3)), .float .f32 (x ((k + 1) * 3 + 1)), .float .f32 (x ((k + 1) * 3 + 2))], 214)) (by simp))).trans rfl; clear hS; unfold execOp; go_simp) rfl rfl kd ?_
  simp only [Act.put, List.setIfInBounds_toArray, List.set_cons_zero, List.set_cons_succ]
  refine take_val 4 _ _ (.pointer (some ⟨w.heap.size, 3, none⟩)) rfl (by rfl) (by kernel_rfl) (by kernel_rfl) (by kernel_rfl) (fun w => by unfold execOp; go_simp) rfl rfl kd ?_
  simp only [Act.put, List.setIfInBounds_toArray, List.set_cons_zero, List.set_cons_succ]
  refine take_val 5 _ _ (.pointer (some ⟨w.heap.size, 4, none⟩)) rfl (by rfl) (by kernel_rfl) (by kernel_rfl) (by kernel_rfl) (fun w => by unfold execOp; go_simp) rfl rfl kd ?_
  simp only [Act.put, List.setIfInBounds_toArray, List.set_cons_zero, List.set_cons_succ]
  refine take_val 6 _ _ (.pointer (some ⟨w.heap.size, 4, none⟩)) rfl (by rfl) (by kernel_rfl) (by kernel_rfl) (by kernel_rfl) (fun w => by unfold execOp; go_simp) rfl rfl kd ?_
  simp only [Act.put, List.setIfInBounds_toArray, List.set_cons_zero, List.set_cons_succ]
  refine take_cell 7 _ _ (.float .f32 (x ((k + 1) * 3 + 1))) rfl (by rfl) (by kernel_rfl) (by kernel_rfl) (by kernel_rfl) (fun wq hS => by have hcell : wq.cell? ⟨w.heap.size, 4, none⟩ = some (.float .f32 (x ((k + 1) * 3 + 1))) := (cell_of_row wq (w.heap.size) 4 _ _ _ (hS.at (x := (w.heap.size, #[.float .f32 (x (k * 3)), .float .f32 (x (k * 3 + 1)), .float .f32 (x (k * 3 + 2)), .float .f32 (x ((k + 1) * 3)), .float .f32 (x ((k + 1) * 3 + 1)), .float .f32 (x ((k + 1) * 3 + 2))], 214)) (by simp))).trans rfl; clear hS; unfold execOp; go_simp) rfl rfl kd ?_
  simp only [Act.put, List.setIfInBounds_toArray, List.set_cons_zero, List.set_cons_succ]
  refine take_val 8 _ _ (.float .f32 (unW x k)) rfl (by rfl) (by kernel_rfl) (by kernel_rfl) (by kernel_rfl) (fun w => run_binop_val _ _ _ _ (by rfl) (by rfl) (by simp [eqGuard]) (r1.out w)) rfl rfl kd ?_
  simp only [Act.put, List.setIfInBounds_toArray, List.set_cons_zero, List.set_cons_succ]
  refine take_load 9 _ _ rfl (by rfl) (by kernel_rfl) (by kernel_rfl) (by kernel_rfl) 214 _ rfl (w.heap.size) (#[.float .f32 (x (k * 3)), .float .f32 (x (k * 3 + 1)), .float .f32 (x (k * 3 + 2)), .float .f32 (x ((k + 1) * 3)), .float .f32 (x ((k + 1) * 3 + 1)), .float .f32 (x ((k + 1) * 3 + 2))]) 214 rfl (by simp) _ Try.underlying214 rfl (info_lay) rfl rfl kd ?_
  simp only [Act.put, List.setIfInBounds_toArray, List.set_cons_zero, List.set_cons_succ]
  refine wpAnyH_ready (rs := [10]) (by kernel_rfl) (by simp) ?_
  refine callK 10 _ _ (.float .f32 (fsub (x ((k + 1) * 3)) (x (k * 3)))) kd rfl (by rfl) 172 #[.agg (#[.float .f32 (x (k * 3)), .float .f32 (x (k * 3 + 1)), .float .f32 (x (k * 3 + 2)), .float .f32 (x ((k + 1) * 3)), .float .f32 (x ((k + 1) * 3 + 1)), .float .f32 (x ((k + 1) * 3 + 2))])] (fun w => by unfold execOp; go_simp) rfl rfl ?hc1 (fun w1 k1 => ?_) AllReadyH.nil
  case hc1 => exact iDepth x k HU.out.s2 _
  refine ⟨k1, ?_⟩
  simp only [Act.put, List.setIfInBounds_toArray, List.set_cons_zero, List.set_cons_succ]
  refine take_val 11 _ _ (.float .f32 (tenW (x (k * 3)) (x ((k + 1) * 3)))) rfl (by rfl) (by kernel_rfl) (by kernel_rfl) (by kernel_rfl) (fun w => run_binop_val _ _ _ _ (by rfl) (by rfl) (by simp [eqGuard]) (r3.out w)) rfl rfl k1 ?_
  simp only [Act.put, List.setIfInBounds_toArray, List.set_cons_zero, List.set_cons_succ]
  refine take_val 12 _ _ (.bool (unB x k)) rfl (by rfl) (by kernel_rfl) (by kernel_rfl) (by kernel_rfl) (fun w => run_binop_val _ _ _ _ (by rfl) (by rfl) (by simp [eqGuard]) (run_gt _ _ w)) rfl rfl k1 ?_
  simp only [Act.put, List.setIfInBounds_toArray, List.set_cons_zero, List.set_cons_succ]
  refine take_val 13 _ _ (.bool (unB x k)) rfl (by rfl) (by kernel_rfl) (by kernel_rfl) (by kernel_rfl) (fun w => by rfl) rfl rfl k1 ?_
  simp only [Act.put, List.setIfInBounds_toArray, List.set_cons_zero, List.set_cons_succ]
  refine wpAnyH_done (by kernel_rfl) (NoPanic.normal ?_) _
  go_wp2
  go_ret
  exact ⟨rfl, k1.1⟩

set_option maxRecDepth 100000 in
set_option maxHeartbeats 1000000 in
theorem sUnsteady (s : Value) (n : Nat) (x : Nat → Nat) (hn : n ≤ 1048576) (w : World) (hs : Rd w s n x) (hx : ∀ k, k + 1 < n → UnF x k) (r : Int) (hr : (match firstB (unB x) (n - 1) with | some k => (k : Int) | none => -1) = r) :
    Calls Try.prog 91 #[s] w fun e w' => e = .returned (.int .i64 r) ∧ Below w.heap.size w w' := by
  obtain ⟨p, cap, rfl, hc⟩ := hs
  have HC := hid hc
  have HX := hid hx
  have HR := hid hr
  clear hc hx hr
  go_enter Try.func91, Try.ntmps91
  go_wp2_with fail
  go_loopw [3] (fun i wr => ∃ k : Nat, k ≤ n - 1 ∧ i = .int .i64 k ∧ Hid (∀ i, i < k → unB x i = false) ∧ Hid (Below w.heap.size w wr)) (fun i _ => n - (intOf i).toNat)
  case atStart => exact ⟨0, by omega, rfl, hid (fun i h => by omega), hid (Below.refl _ _)⟩
  case round =>
    obtain ⟨k, hk, rfl, hF, hb⟩ := hrel
    by_cases hlt : k + 1 < n
    · have HL := hid hlt
      have hk3 : (k : Int) + 1 < (n : Int) := by omega
      obtain ⟨b, o, rfl, hcell⟩ := HC.out (by omega)
      have hcw : ∀ j, j < 3 * n → wr.cell? ⟨b, o + j, none⟩ = some (.float .f32 (x j)) := fun j hj => by have h1 := hcell j hj; rw [hb.out.cell (block_lt_of_cell h1)]; exact h1
      have c0 := cell0 hcw (i := k) (by omega)
      have c1 := cell1 hcw (i := k) (by omega)
      have d0 := cell0 hcw (i := k + 1) hlt
      have d1 := cell1 hcw (i := k + 1) hlt
      have i1 := fun w => run_indexAt (P := Try.prog) (t := 78) (e := 153) Try.underlying78 info_lev (b := b) (o := o) (n := n) (cap := cap) (k := k) (by omega) w
      have i2 := fun w => run_indexAt1 (P := Try.prog) (t := 78) (e := 153) Try.underlying78 info_lev (b := b) (o := o) (n := n) (cap := cap) (k := k) hlt w
      have U := HX.out k hlt
      have r1 := fun w => run_float_arith (P := Try.prog) w .sub 22 .f32 _ _ _ U.s1
      have r2 := fun w => run_float_arith (P := Try.prog) w .sub 22 .f32 _ _ _ U.s2
      have r3 := fun w => run_float_arith (P := Try.prog) w .mul 22 .f32 _ _ _ U.s3
      clear hcell hcw U
      rcases hu : unB x k with _ | _
      · have ho : (FloatKind.f32.format.order (unW x k) (tenW (x (k * 3)) (x ((k + 1) * 3))) == some .gt) = false := hu
        have HF := hid (fun i (hi : i < k + 1) => by
          rcases Nat.lt_or_ge i k with h | h
          · exact hF.out i h
          · rw [show i = k by omega]; exact hu)
        clear hu
        go_wp2
        go_quiet (fail)
        clear c0 c1 d0 d1 i1 i2 r1 r2 r3 ho
        go_wp2
        go_roundw
        case rel => exact ⟨k + 1, by omega, by go_num, HF, hid (below_drewN hb.out _)⟩
        case measure => simp [intOf]; omega
      · have ho : (FloatKind.f32.format.order (unW x k) (tenW (x (k * 3)) (x ((k + 1) * 3))) == some .gt) = true := hu
        have hfin := HR.out
        rw [firstB_some (m := n - 1) (by have := HL.out; omega) hF.out hu] at hfin
        replace hfin := hid hfin
        clear hu
        go_wp2
        go_quiet (fail)
        clear c0 c1 d0 d1 i1 i2 r1 r2 r3 ho
        go_wp2
        go_ret
        exact ⟨by rw [← hfin.out]; rfl, below_drewN hb.out _⟩
    · have hk3 : ¬ (k : Int) + 1 < (n : Int) := by omega
      have hfin := HR.out
      rw [firstB_none (fun i hi => hF.out i (by omega))] at hfin
      replace hfin := hid hfin
      go_wp2
      go_ret
      exact ⟨by rw [← hfin.out]; rfl, hb.out⟩

set_option maxRecDepth 100000 in
set_option maxHeartbeats 4000000 in
theorem iFirstUnsteady (s : Value) (n : Nat) (x : Nat → Nat) (hn : n ≤ 1048576) (w : World) (hs : Rd w s n x) (hx : ∀ k, k + 1 < n → UnF x k) (r : Int) (q : Bool)
    (hr : (match firstB (unB x) (n - 1) with | some k => ((k : Int), true) | none => (0, false)) = (r, q)) :
    Calls Try.prog 142 #[s] w fun e w' => e = .returned (.tuple #[.int .i64 r, .bool q]) ∧ Below w.heap.size w w' := by
  obtain ⟨p, cap, rfl, hc⟩ := hs
  have HC := hid hc
  have HX := hid hx
  have HR := hid hr
  clear hc hx hr
  refine (callsIn_wide (n := 9)).1 ?_
  refine callsIn_of_wp_marks Try.func142 rfl trivial ?_ rfl
  simp only [Try.ntmps142, List.size_toArray, List.length_cons, List.length_nil, Nat.reduceAdd, Nat.reduceSub, Array.replicate_succ, Array.replicate_zero, List.push_toArray, List.append_toArray, List.nil_append, List.cons_append]
  gi_wp2_with (refine ⟨trivial, ?_⟩; gi_at_call 140; refine (callsIn_wide.2 (iNeighbours _ _ _ _)).mono ?_; rintro e w' ⟨rfl, rfl⟩)
  have bA := ((Boxed.new w 3 (.int .i64 0)).alloc (.cells #[.bool false] 4)).alloc (.cells #[.slice p n cap] 78)
  have bB := (Boxed.new (w.alloc (.cells #[.int .i64 0] 3)) 4 (.bool false)).alloc (.cells #[.slice p n cap] 78)
  have bC := Boxed.new ((w.alloc (.cells #[.int .i64 0] 3)).alloc (.cells #[.bool false] 4)) 78 (.slice p n cap)
  simp only [World.size_alloc] at bB bC
  have hB0 : Below w.heap.size w (((w.alloc (.cells #[.int .i64 0] 3)).alloc (.cells #[.bool false] 4)).alloc (.cells #[.slice p n cap] 78)) := (((Below.refl _ w).alloc (Nat.le_refl _) _).alloc (by simp) _).alloc (by simp; omega) _
  have hsz : (((w.alloc (.cells #[.int .i64 0] 3)).alloc (.cells #[.bool false] 4)).alloc (.cells #[.slice p n cap] 78)).heap.size = w.heap.size + 3 := by simp
  obtain ⟨W0, hW0⟩ : ∃ W0, ((w.alloc (.cells #[.int .i64 0] 3)).alloc (.cells #[.bool false] 4)).alloc (.cells #[.slice p n cap] 78) = W0 := ⟨_, rfl⟩
  rw [hW0] at bA bB bC hB0 hsz ⊢
  clear hW0
  refine wpIn_rangeFunc_ownH (α := Fin (n - 1)) rfl (by decide) (gf := 170) (lb := #[.pointer (some ⟨w.heap.size + 1 + 1, 0, none⟩)]) rfl trivial (Go.Proofs.enters_of Try.func170 (by kernel_rfl) rfl)
    (neighbours_stops 8 (w.heap.size + 1 + 1) (w.heap.size + 3) p n cap x hn W0 (by omega) (by omega) bC.cell (fun hp => by
      obtain ⟨b, o, e, hk⟩ := HC.out hp
      have hb := block_lt_of_cell (hk 0 (by omega))
      exact ⟨b, o, e, by simp at hb; omega, fun j hj => (hB0.cell (p := ⟨b, o + j, none⟩) hb).trans (hk j hj)⟩)) belowK_t (belowK_b (by omega)) (Below.refl _ _) (fun _ => rfl)
    (fun pre W => (∀ i ∈ pre, unB x i.1 = false) ∧ Below (w.heap.size + 3) W0 W)
    (fun c pre W => (∃ z : List (Fin (n - 1)) × Fin (n - 1), ((c = .ret ∧ pre = z.1 ++ [z.2] ∧ (∀ i ∈ z.1, unB x i.1 = false) ∧ unB x z.2.1 = true) ∧ Boxed W w.heap.size 3 (.int .i64 (z.2.1 : Int))) ∧ Boxed W (w.heap.size + 1) 4 (.bool true)) ∧ Below w.heap.size w W)
    (OwnFrom.and (ownFrom_pure _ _) (ownFrom_below (by omega) (by omega)))
    (fun c => OwnFrom.and (fun s X Y row hs hg hr => by
      obtain ⟨z, ⟨h1, h2⟩, h3⟩ := hs
      exact ⟨z, ⟨h1, boxed_own _ _ (fun (_ : Unit) => _) () X Y row h2 hg (fun r e => (hr r e).2)⟩, boxed_own _ _ (fun (_ : Unit) => _) () X Y row h3 hg (fun r e => (hr r e).2)⟩) (ownFrom_below (Nat.le_refl _) (by omega)))
    ⟨by simp, Below.refl _ _⟩
    (fun k a' W => ∃ Bx, w.heap.size + 2 < Bx ∧ W.heap[Bx]? = some (.cells #[.float .f32 (x (k.1 * 3)), .float .f32 (x (k.1 * 3 + 1)), .float .f32 (x (k.1 * 3 + 2)), .float .f32 (x ((k.1 + 1) * 3)), .float .f32 (x ((k.1 + 1) * 3 + 1)), .float .f32 (x ((k.1 + 1) * 3 + 2))] 214 (0, 0)) ∧ a' = { tmps := #[.slice p n cap, undef, .pointer (some ⟨w.heap.size, 0, none⟩), .pointer (some ⟨w.heap.size + 1, 0, none⟩), .int .i64 (k.1 : Int), .pointer (some ⟨Bx, 0, none⟩), .slice p n cap, .func (.func 170) #[] #[.pointer (some ⟨w.heap.size + 1 + 1, 0, none⟩)], .int .i64 (k.1 : Int), .agg #[.float .f32 (x (k.1 * 3)), .float .f32 (x (k.1 * 3 + 1)), .float .f32 (x (k.1 * 3 + 2)), .float .f32 (x ((k.1 + 1) * 3)), .float .f32 (x ((k.1 + 1) * 3 + 1)), .float .f32 (x ((k.1 + 1) * 3 + 2))], undef, undef, undef], defers := [] })
    (fun k a' _ X Y row hs hg hr => by obtain ⟨Bx, e1, e2, e3⟩ := hs; exact ⟨Bx, e1, row_own Bx 214 (fun (_ : Unit) => _) () X Y row e2 hg (fun r e => (hr r e).2), e3⟩)
    ?assign ?body ?done ?stop
  case assign =>
    rintro l pre k W K ⟨hp, hB⟩ hK
    have hS := hB.size
    unfold encL
    gi_wp2
    exact hK _ _ ((KeepsOthers.alloc _ _).from _) ((Below.refl _ W).alloc (by omega) _) ⟨hp, hB.alloc (by omega) _⟩ ⟨W.heap.size, by omega, heap_alloc_new _ _, rfl⟩
  case body =>
    rintro l pre k a' W hl ⟨r', hr⟩ ⟨hp, hB⟩ ⟨Bx, hBx, bX, rfl⟩ hlt
    have hS := hB.size
    have HU := fun w' => iUnsteady x k.1 (HX.out k.1 (by have := k.2; omega)) w'
    have b1 : Boxed W w.heap.size 3 (.int .i64 0) := (hB.block _ (by omega)).trans bA
    have b2 : Boxed W (w.heap.size + 1) 4 (.bool false) := (hB.block _ (by omega)).trans bB
    clear hr
    have g0 : W.cell? ⟨Bx, 0, none⟩ = some (.float .f32 (x (k.1 * 3))) := (cell_of_row W Bx 0 _ _ _ bX).trans rfl
    have g1 : W.cell? ⟨Bx, 1, none⟩ = some (.float .f32 (x (k.1 * 3 + 1))) := (cell_of_row W Bx 1 _ _ _ bX).trans rfl
    have g2 : W.cell? ⟨Bx, 2, none⟩ = some (.float .f32 (x (k.1 * 3 + 2))) := (cell_of_row W Bx 2 _ _ _ bX).trans rfl
    have g3 : W.cell? ⟨Bx, 3, none⟩ = some (.float .f32 (x ((k.1 + 1) * 3))) := (cell_of_row W Bx 3 _ _ _ bX).trans rfl
    have g4 : W.cell? ⟨Bx, 4, none⟩ = some (.float .f32 (x ((k.1 + 1) * 3 + 1))) := (cell_of_row W Bx 4 _ _ _ bX).trans rfl
    have g5 : W.cell? ⟨Bx, 5, none⟩ = some (.float .f32 (x ((k.1 + 1) * 3 + 2))) := (cell_of_row W Bx 5 _ _ _ bX).trans rfl
    rcases hu : unB x k.1 with _ | _
    · rw [hu] at HU
      gi_wp2_with ((refine ⟨trivial, ?_⟩; gi_at_call 171; refine (CallsIn.inRound l (callsIn_wide.2 (HU _))).mono ?_; rintro e w' ⟨rfl, hb⟩))
      exact ⟨⟨hb.size, fun k o _ hk _ => (hb.block k (lt_of_block hk)).trans hk⟩, hb.mono (by omega), fun i hi => (List.mem_append.1 hi).elim (hp i) (fun e => by simp at e; rw [e]; exact hu), hB.trans (hb.mono (by omega))⟩
    · rw [hu] at HU
      gi_wp2_with ((refine ⟨trivial, ?_⟩; gi_at_call 171; refine (CallsIn.inRound l (callsIn_wide.2 (HU _))).mono ?_; rintro e w' ⟨rfl, hb⟩; have d1 : Boxed w' w.heap.size 3 (.int .i64 0) := (hb.block _ b1.lt).trans b1; have d2 : Boxed w' (w.heap.size + 1) 4 (.bool false) := (hb.block _ b2.lt).trans b2; have e1 := d1.cell; have e2 := d2.cell; have e3 := d1.frozen; have e4 := d2.frozen))
      have hk1 : KeepsFrom W0.heap.size W w' := ⟨hb.size, fun k o _ hk _ => (hb.block k (lt_of_block hk)).trans hk⟩
      exact ⟨(hk1.trans ((KeepsOthers.setCell _ _ _).from _)).trans ((KeepsOthers.setCell _ _ _).from _), ⟨(pre, k), ⟨⟨rfl, rfl, hp, hu⟩, (d1.set _).other (by omega) _⟩, (d2.other (by omega) _).set _⟩, (((hB0.trans (hB.mono (by omega))).trans (hb.mono (by omega))).setCell (p := ⟨w.heap.size, 0, none⟩) (Nat.le_refl _) _).setCell (p := ⟨w.heap.size + 1, 0, none⟩) (by simp) _⟩
  case done =>
    rintro D ys W hD rfl ⟨hp, hB⟩ hK
    have hS := hB.size
    have b1 : Boxed W w.heap.size 3 (.int .i64 0) := (hB.block _ (by omega)).trans bA
    have b2 : Boxed W (w.heap.size + 1) 4 (.bool false) := (hB.block _ (by omega)).trans bB
    have e1 := b1.cell
    have e2 := b2.cell
    have e3 := b1.frozen
    have e4 := b2.frozen
    have hfin := HR.out
    rw [firstB_none (p := unB x) (m := n - 1) (fun i hi => hp ⟨i, hi⟩ (List.mem_finRange _))] at hfin
    injection hfin with f1 f2
    subst f1 f2
    gi_wp2
    have hK' := ((KeepsOthers.setCell W ⟨w.heap.size, 0, none⟩ (.int .i64 0)).trans (KeepsOthers.setCell _ ⟨w.heap.size + 1, 0, none⟩ (.bool false))).same D _ hK rfl
    have c1 := ((b1.set (.int .i64 0)).other (B' := w.heap.size + 1) (by omega) (.bool false)).kept (grownBy_putObj' _ D (.deferred none)) (by simp; omega)
    have c2 := ((b2.other (B' := w.heap.size) (by omega) (.int .i64 0)).set (.bool false)).kept (grownBy_putObj' _ D (.deferred none)) (by simp; omega)
    refine ⟨by simp, .inl ⟨_, _, rfl, run_takeDeferred hK', ?_⟩⟩
    exact ⟨_, results_cells rfl _ _ ⟨w.heap.size, 0, none⟩ ⟨w.heap.size + 1, 0, none⟩ _ _ rfl rfl (run_loadVar_one Try.underlying3 rfl c1.cell) (run_loadVar_one Try.underlying4 rfl c2.cell), rfl, ((((hB0.trans (hB.mono (by omega))).setCell (p := ⟨w.heap.size, 0, none⟩) (Nat.le_refl _) _).setCell (p := ⟨w.heap.size + 1, 0, none⟩) (by simp) _)).trans (belowK_b (w := w) (Nat.le_refl _) _ D _ _ (by omega) hK' rfl rfl)⟩
  case stop =>
    rintro D c pre W hD hpre ⟨⟨⟨ini, last⟩, ⟨⟨rfl, rfl, hp, hl⟩, b1⟩, b2⟩, hB⟩ hK
    have hfin := HR.out
    rw [firstB_some (p := unB x) (m := n - 1) last.2 (fun i hi => hp ⟨i, by have := last.2; omega⟩ (last_fin hpre _ hi)) hl] at hfin
    injection hfin with f1 f2
    subst f1 f2
    gi_wp2
    have c1 := b1.kept (grownBy_putObj' _ D (.deferred none)) (by simp; omega)
    have c2 := b2.kept (grownBy_putObj' _ D (.deferred none)) (by simp; omega)
    refine ⟨by simp, .inl ⟨_, _, rfl, run_takeDeferred hK, ?_⟩⟩
    exact ⟨_, results_cells rfl _ _ ⟨w.heap.size, 0, none⟩ ⟨w.heap.size + 1, 0, none⟩ _ _ rfl rfl (run_loadVar_one Try.underlying3 rfl c1.cell) (run_loadVar_one Try.underlying4 rfl c2.cell), rfl, hB.trans (belowK_b (w := w) (Nat.le_refl _) _ D _ _ (by omega) hK rfl rfl)⟩

def Cnt (n : Int) : Prop := 0 ≤ n ∧ n ≤ 1000000000

def Bx (b : Nat → Int) : Prop := ∀ i, i < 21 → Cnt (b i)

theorem sFinite_fq (x : Nat) (hx : x < 4294967296) (h : finB x = false) (w : World) :
    Calls Try.prog 100 #[.float .f32 x] w fun e w' => e = .returned (.bool false) ∧ ∃ m, w' = w.drewN m := by
  obtain ⟨z, hr, h1, _⟩ := run_arith_nan (P := Try.prog) w .sub (by simp) 22 x x (sub_self_none hx h)
  have Hn := hid (show (FloatKind.f32.format.order z 0 == some .eq) = false by
    show (S.order z 0 == some .eq) = false
    rw [order_nan32 h1]; rfl)
  clear h hx h1
  go_enter Try.func100, Try.ntmps100
  go_wp2
  go_ret
  exact ⟨by simp [Hn.out], 1, rfl⟩

theorem sAmount_fq (x : Nat) (hx : x < 4294967296) (h : amtB x = false) (w : World) :
    Calls Try.prog 66 #[.float .f32 x] w fun e w' => e = .returned (.bool false) ∧ ∃ m, w' = w.drewN m := by
  rcases hf : finB x with _ | _
  · have Hx := hid hx
    have Hf := hid hf
    clear h hf hx
    go_enter Try.func66, Try.ntmps66
    go_wp2_with (go_at_call 100; refine (sFinite_fq x Hx.out Hf.out _).mono ?_; rintro e w' ⟨rfl, hb⟩)
    go_ret
    exact ⟨rfl, hb⟩
  · have hs : 2147483648 ≤ x := by
      rw [amtB_iff', INF_val] at h
      have := finB_iff.1 hf
      rw [INF_val] at this
      unfold mg at this
      omega
    have hg : (FloatKind.f32.format.order x 0 == some .gt) = false := order_neg_zero hx hf hs
    have hb : ((x : Int) == 0) = false := by simp; omega
    have Hx := hid hx
    have Hf := hid hf
    clear h hf hx hs
    go_enter Try.func66, Try.ntmps66
    go_wp2_with (go_at_call 100; refine (sFinite_t x Hx.out Hf.out _).mono ?_; rintro e w' ⟨rfl, rfl⟩)
    go_ret
    exact ⟨rfl, 0, rfl⟩

theorem sHgtQ (x : Nat) (hx : x < 4294967296) (q : Bool) (hq : hgtB x = q) (w : World) :
    Calls Try.prog 139 #[.float .f32 x] w fun e w' => e = .returned (.bool q) ∧ ∃ m, w' = w.drewN m := by
  have e1 : hgtB x = (amtB x && (FloatKind.f32.format.order x 1106247680 == some .lt || FloatKind.f32.format.order x 1106247680 == some .eq)) := rfl
  rw [e1] at hq
  have Hx := hid hx
  clear e1 hx
  rcases a : amtB x with _ | _
  · have Ha := hid a
    rw [a] at hq
    simp only [Bool.false_and] at hq
    subst hq
    clear a
    go_enter Try.func139, Try.ntmps139
    go_wp2_with fail
    refine (sAmount_fq x Hx.out Ha.out _).mono ?_
    rintro e w1 ⟨rfl, m, rfl⟩
    go_wp2
    go_ret
    exact ⟨rfl, m, rfl⟩
  · have Ha := hid a
    rw [a] at hq
    simp only [Bool.true_and] at hq
    clear a
    cases q
    all_goals
      go_enter Try.func139, Try.ntmps139
      go_wp2_with fail
      refine (sAmount_t x Ha.out _).mono ?_
      rintro e w1 ⟨rfl, rfl⟩
      go_wp2
      go_ret
      exact ⟨rfl, 0, rfl⟩

set_option maxRecDepth 100000 in
theorem sAirAtQ (h v : Nat) (hv : v < 4294967296) (q : Bool) (hq : airB h v = q) (w : World) (g o : Nat) (c0 : w.cell? ⟨g, o, none⟩ = some (.float .f32 h)) (c1 : w.cell? ⟨g, o + 1, none⟩ = some (.float .f32 v)) :
    Calls Try.prog 65 #[.pointer (some ⟨g, o, none⟩)] w fun e w' => e = .returned (.bool q) ∧ ∃ m, w' = w.drewN m := by
  cases q
  · have Hv := hid hv
    have e1 : airB h v = (heatB h && amtB v && vapB v) := rfl
    rw [e1] at hq
    clear hv e1
    rcases a : heatB h with _ | _
    · have Ha := hid a
      clear a hq
      go_enter Try.func65, Try.ntmps65
      go_wp2_with fail
      refine (sHeat h false Ha.out _).mono ?_
      rintro e w1 ⟨rfl, rfl⟩
      go_wp2
      go_ret
      exact ⟨rfl, 0, rfl⟩
    · have Ha := hid a
      rw [a] at hq
      clear a
      rcases b : amtB v with _ | _
      · have Hb := hid b
        clear b hq
        go_enter Try.func65, Try.ntmps65
        go_wp2_with fail
        refine (sHeat h true Ha.out _).mono ?_
        rintro e w1 ⟨rfl, rfl⟩
        go_wp2_with fail
        refine (sAmount_fq v Hv.out Hb.out _).mono ?_
        rintro e w1 ⟨rfl, m, rfl⟩
        go_wp2
        go_ret
        exact ⟨rfl, m, rfl⟩
      · have Hb := hid b
        rw [b] at hq
        simp only [Bool.true_and] at hq
        have hc : (FloatKind.f32.format.order v 1148846080 == some .lt || FloatKind.f32.format.order v 1148846080 == some .eq) = false := hq
        clear b hq
        go_enter Try.func65, Try.ntmps65
        go_wp2_with fail
        refine (sHeat h true Ha.out _).mono ?_
        rintro e w1 ⟨rfl, rfl⟩
        go_wp2_with fail
        refine (sAmount_t v Hb.out _).mono ?_
        rintro e w1 ⟨rfl, rfl⟩
        go_wp2
        go_ret
        exact ⟨rfl, 0, rfl⟩
  · exact (sAirAt_t h v hq w g o c0 c1).mono fun e w' ⟨a, b⟩ => ⟨a, 0, b ▸ rfl⟩

set_option maxRecDepth 100000 in
set_option maxHeartbeats 4000000 in
theorem sSounding (s : Value) (n : Nat) (x : Nat → Nat) (hn : n ≤ 1048576) (hx : W32 x) (w : World) (hs : Rd w s n x) (q : Bool) (hq : souB n x = q) :
    Calls Try.prog 90 #[s] w fun e w' => e = .returned (.bool q) ∧ Below w.heap.size w w' := by
  obtain ⟨p, cap, rfl, hc⟩ := hs
  have HC := hid hc
  have HW := hid hx
  have HQ := hid hq
  have HN := hid hn
  clear hc hx hq hn
  go_enter Try.func90, Try.ntmps90
  go_wp2_with fail
  go_loopw [3] (fun i wr => ∃ k : Nat, k ≤ n ∧ i = .int .i64 k ∧ Hid (∀ i, i < k → lvB x i = true) ∧ Hid (∀ i, i + 1 < k → upB x i = true) ∧ Hid (Below w.heap.size w wr)) (fun i _ => n - (intOf i).toNat)
  case atStart => exact ⟨0, by omega, rfl, hid (fun i h => by omega), hid (fun i h => by omega), hid (Below.refl _ _)⟩
  case round =>
    obtain ⟨k, hk, rfl, hF, hU, hb⟩ := hrel
    by_cases hlt : k < n
    · have HL := hid hlt
      have hk3 : (k : Int) < (n : Int) := by omega
      obtain ⟨b, o, rfl, hcell⟩ := HC.out (by omega)
      have hcw : ∀ j, j < 3 * n → wr.cell? ⟨b, o + j, none⟩ = some (.float .f32 (x j)) := fun j hj => by have h1 := hcell j hj; rw [hb.out.cell (block_lt_of_cell h1)]; exact h1
      have c0 := cell0 hcw (i := k) hlt
      have c1 := cell1 hcw (i := k) hlt
      have c2 := cell2 hcw (i := k) hlt
      have i1 := fun w => run_indexAt (P := Try.prog) (t := 78) (e := 153) Try.underlying78 info_lev (b := b) (o := o) (n := n) (cap := cap) (k := k) hlt w
      rcases h1 : hgtB (x (k * 3)) with _ | _
      · have H1 := hid h1
        have hfin : q = false := by
          rw [← HQ.out]
          unfold souB lvs
          rw [all_range_f (k := k) HL.out (by unfold lvB parB; rw [h1]; rfl)]; simp
        have H2 := hid (rfl : airB (x (k * 3 + 1)) (x (k * 3 + 2)) = airB (x (k * 3 + 1)) (x (k * 3 + 2)))
        clear h1 hcell hcw
        subst hfin
        go_wp2
        go_quiet ((first | (go_at_call 139; exact Calls.quiet_of (sHgtQ _ (HW.out _) _ H1.out _)) | (go_at_call 65; exact Calls.quiet_of (sAirAtQ _ _ (HW.out _) _ H2.out _ _ _ c1 c2))))
        clear c0 c1 c2 i1
        go_wp2
        go_ret
        exact ⟨rfl, below_drewN hb.out _⟩
      · have H1 := hid h1
        rcases h2 : airB (x (k * 3 + 1)) (x (k * 3 + 2)) with _ | _
        · have H2 := hid h2
          have hfin : q = false := by
            rw [← HQ.out]
            unfold souB lvs
            rw [all_range_f (k := k) HL.out (by unfold lvB parB; rw [h1, h2]; rfl)]; simp
          clear h1 h2 hcell hcw
          subst hfin
          go_wp2
          go_quiet ((first | (go_at_call 139; exact Calls.quiet_of (sHgtQ _ (HW.out _) _ H1.out _)) | (go_at_call 65; exact Calls.quiet_of (sAirAtQ _ _ (HW.out _) _ H2.out _ _ _ c1 c2))))
          clear c0 c1 c2 i1
          go_wp2
          go_ret
          exact ⟨rfl, below_drewN hb.out _⟩
        · have H2 := hid h2
          have HF := hid (fun i (hi : i < k + 1) => by
            rcases Nat.lt_or_ge i k with h | h
            · exact hF.out i h
            · rw [show i = k by omega]; exact parB_iff.2 ⟨h1, h2⟩ : ∀ i, i < k + 1 → lvB x i = true)
          clear h1 h2
          rcases Nat.eq_zero_or_pos k with hk0 | hk0
          · subst hk0
            simp only [Nat.zero_mul, Nat.add_zero, Nat.zero_add] at c0 c1 c2 i1 H1 H2
            have i1' : ∀ w, (Instr.indexAt 78 (.slice (some ⟨b, o, none⟩) n cap) (.int .i64 0)).run Try.prog w = .ok (.pointer (some ⟨b, o, none⟩)) w := by
              intro w
              have h9 := run_indexAt (P := Try.prog) (t := 78) (e := 153) Try.underlying78 info_lev (b := b) (o := o) (n := n) (cap := cap) (k := 0) hlt w
              simpa using h9
            clear hcell hcw i1
            go_wp2
            go_quiet ((first | (go_at_call 139; exact Calls.quiet_of (sHgtQ _ (HW.out _) _ H1.out _)) | (go_at_call 65; exact Calls.quiet_of (sAirAtQ _ _ (HW.out _) _ H2.out _ _ _ c1 c2))))
            clear c0 c1 c2
            go_wp2
            go_roundw
            case rel => exact ⟨1, by omega, by go_num, HF, hid (fun i h => by omega), hid (below_drewN hb.out _)⟩
            case measure => simp [intOf]; omega
          · obtain ⟨j, hj⟩ : ∃ j, k = j + 1 := ⟨k - 1, by omega⟩
            have d0 := cell0 hcw (i := j) (by omega)
            have hpos : (0 : Int) < (k : Int) := by omega
            have hn' := HN.out
            have hwr : IntKind.i64.wrap ((k : Int) - 1) = (k : Int) - 1 := by rw [IntKind.wrap_i64]; omega
            have i0 : ∀ w, (Instr.indexAt 78 (.slice (some ⟨b, o, none⟩) n cap) (.int .i64 ((k : Int) - 1))).run Try.prog w = .ok (.pointer (some ⟨b, o + j * 3, none⟩)) w := by
              intro w
              rw [show (k : Int) - 1 = (j : Int) by omega]
              exact run_indexAt (P := Try.prog) (t := 78) (e := 153) Try.underlying78 info_lev (b := b) (o := o) (n := n) (cap := cap) (k := j) (by omega) w
            clear hcell hcw
            rcases hu : upB x j with _ | _
            · have ho : (FloatKind.f32.format.order (x (j * 3)) (x (k * 3)) == some .lt) = false := by rw [hj]; exact hu
              have hfin : q = false := by
                rw [← HQ.out]
                unfold souB ups
                rw [all_range_f (k := j) (by have := HL.out; omega) hu]; simp
              clear hu
              replace hj := hid hj
              subst hfin
              go_wp2
              go_quiet ((first | (go_at_call 139; exact Calls.quiet_of (sHgtQ _ (HW.out _) _ H1.out _)) | (go_at_call 65; exact Calls.quiet_of (sAirAtQ _ _ (HW.out _) _ H2.out _ _ _ c1 c2))))
              clear c0 c1 c2 i1 i0 d0 ho
              go_wp2
              go_ret
              exact ⟨rfl, below_drewN hb.out _⟩
            · have ho : (FloatKind.f32.format.order (x (j * 3)) (x (k * 3)) == some .lt) = true := by rw [hj]; exact hu
              have HU := hid (fun i (hi : i + 1 < k + 1) => by
                rcases Nat.lt_or_ge i j with h | h
                · exact hU.out i (by omega)
                · rw [show i = j by omega]; exact hu : ∀ i, i + 1 < k + 1 → upB x i = true)
              clear hu
              replace hj := hid hj
              go_wp2
              go_quiet ((first | (go_at_call 139; exact Calls.quiet_of (sHgtQ _ (HW.out _) _ H1.out _)) | (go_at_call 65; exact Calls.quiet_of (sAirAtQ _ _ (HW.out _) _ H2.out _ _ _ c1 c2))))
              clear c0 c1 c2 i1 i0 d0 ho
              go_wp2
              go_roundw
              case rel => exact ⟨k + 1, by omega, by go_num, HF, HU, hid (below_drewN hb.out _)⟩
              case measure => simp [intOf]; omega
    · obtain rfl : k = n := by omega
      by_cases hd : 2 ≤ k ∧ k ≤ 32
      · have hfin : q = true := by
          rw [← HQ.out, souB_iff]
          exact ⟨hd.1, hd.2, hF.out, hU.out⟩
        subst hfin
        go_wp2_with fail
        refine (l00In_t k 2 32 (by omega) (by omega) _).mono ?_
        rintro e w1 ⟨rfl, rfl⟩
        go_wp2
        go_ret
        exact ⟨rfl, hb.out⟩
      · have hfin : q = false := by
          rw [← HQ.out]
          unfold souB
          rcases h : (decide (2 ≤ k) && decide (k ≤ 32)) with _ | _
          · simp
          · rw [Bool.and_eq_true, decide_eq_true_eq, decide_eq_true_eq] at h
            exact absurd h hd
        subst hfin
        go_wp2_with fail
        refine (l00In_f k 2 32 (by omega) _).mono ?_
        rintro e w1 ⟨rfl, rfl⟩
        go_wp2
        go_ret
        exact ⟨rfl, hb.out⟩

set_option maxRecDepth 100000 in
set_option maxHeartbeats 4000000 in
theorem iValidSounding (s : Value) (n : Nat) (x : Nat → Nat) (hn : n ≤ 1048576) (hx : W32 x) (w : World) (hs : Rd w s n x) (q : Bool) (hq : souB n x = q) :
    Calls Try.prog 93 #[s] w fun e w' => e = .returned (.bool q) ∧ Below w.heap.size w w' := by
  obtain ⟨p, cap, rfl, hc⟩ := hs
  have HC := hid hc
  have HX := hid hx
  have HQ := hid hq
  have HN := hid hn
  clear hc hx hq
  have bA := Boxed.new w 4 (.bool false)
  have hBA : Below w.heap.size w (w.alloc (.cells #[.bool false] 4)) := (Below.refl _ w).alloc (Nat.le_refl _) _
  refine (callsIn_wide (n := 9)).1 ?_
  refine callsIn_of_wp_marks Try.func93 rfl trivial ?_ rfl
  simp only [Try.ntmps93, List.size_toArray, List.length_cons, List.length_nil, Nat.reduceAdd, Nat.reduceSub, Array.replicate_succ, Array.replicate_zero, List.push_toArray, List.append_toArray, List.nil_append, List.cons_append]
  by_cases h2 : n < 2
  · have hfin : q = false := by
      rw [← HQ.out]; unfold souB
      rw [decide_eq_false (by omega)]; simp
    subst hfin
    have h2' : (n : Int) < 2 := by omega
    gi_wp2
    exact ⟨_, results_cell1 rfl _ _ ⟨w.heap.size, 0, none⟩ _ rfl (run_loadVar_one Try.underlying4 rfl bA.cell), rfl, hBA⟩
  by_cases h3 : 32 < n
  · have hfin : q = false := by
      rw [← HQ.out]; unfold souB
      rw [decide_eq_false (show ¬ n ≤ 32 by omega)]; simp
    subst hfin
    have h2' : ¬ (n : Int) < 2 := by omega
    have h3' : (n : Int) > 32 := by omega
    gi_wp2
    exact ⟨_, results_cell1 rfl _ _ ⟨w.heap.size, 0, none⟩ _ rfl (run_loadVar_one Try.underlying4 rfl bA.cell), rfl, hBA⟩
  have h2' : ¬ (n : Int) < 2 := by omega
  have h3' : ¬ (n : Int) > 32 := by omega
  gi_wp2
  gi_loopw [17] (fun i wr => ∃ k : Nat, k ≤ n ∧ i = .int .i64 k ∧ Hid (∀ i, i < k → lvB x i = true) ∧ Hid (Boxed wr w.heap.size 4 (.bool false)) ∧ Hid (Below w.heap.size w wr)) (fun i _ => n - (intOf i).toNat)
  case atStart => exact ⟨0, by omega, rfl, hid (fun i h => by omega), hid bA, hid hBA⟩
  case round =>
    obtain ⟨k, hk, rfl, hF, hbx, hb⟩ := hrel
    by_cases hlt : k < n
    · have HL := hid hlt
      have hk3 : (k : Int) < (n : Int) := by omega
      obtain ⟨b, o, rfl, hcell⟩ := HC.out (by omega)
      have hcw : ∀ j, j < 3 * n → wr.cell? ⟨b, o + j, none⟩ = some (.float .f32 (x j)) := fun j hj => by have h1 := hcell j hj; rw [hb.out.cell (block_lt_of_cell h1)]; exact h1
      have c0 := cell0 hcw (i := k) hlt
      have c1 := cell1 hcw (i := k) hlt
      have c2 := cell2 hcw (i := k) hlt
      have i1 := fun w => run_indexAt (P := Try.prog) (t := 78) (e := 153) Try.underlying78 info_lev (b := b) (o := o) (n := n) (cap := cap) (k := k) hlt w
      have l1 := run_loadAt_mid (P := Try.prog) wr b (o + k * 3) 153 _ _ (row3 hcw hlt) Try.underlying153 rfl info_lev
      have HV := fun w => iValidParcel (x (k * 3)) (x (k * 3 + 1)) (x (k * 3 + 2)) (HX.out _) (HX.out _) (lvB x k) rfl w
      clear hcell hcw
      rcases hl : lvB x k with _ | _
      · rw [hl] at HV
        have hfin : q = false := by
          rw [← HQ.out]; unfold souB lvs
          rw [all_range_f (k := k) HL.out hl]; simp
        subst hfin
        gi_wp2_with (refine ⟨trivial, ?_⟩; gi_at_call 104; refine (callsIn_wide.2 (HV _)).mono ?_; rintro e w' ⟨rfl, hb9⟩; have d1 : Boxed w' w.heap.size 4 (.bool false) := (hb9.block _ (hbx.out.alloc _).lt).trans (hbx.out.alloc _); have e1 := d1.cell; have e3 := d1.frozen)
        have b1 := d1.set (.bool false)
        exact ⟨_, results_cell1 rfl _ _ ⟨w.heap.size, 0, none⟩ _ rfl (run_loadVar_one Try.underlying4 rfl b1.cell), rfl, ((hb.out.alloc hb.out.size _).trans (hb9.mono (by have := hb.out.size; simp; omega))).setCell (p := ⟨w.heap.size, 0, none⟩) (Nat.le_refl _) _⟩
      · rw [hl] at HV
        have HF := hid (fun i (hi : i < k + 1) => by
          rcases Nat.lt_or_ge i k with h | h
          · exact hF.out i h
          · rw [show i = k by omega]; exact hl : ∀ i, i < k + 1 → lvB x i = true)
        clear hl
        gi_wp2_with (refine ⟨trivial, ?_⟩; gi_at_call 104; refine (callsIn_wide.2 (HV _)).mono ?_; rintro e w' ⟨rfl, hb9⟩; have d1 : Boxed w' w.heap.size 4 (.bool false) := (hb9.block _ (hbx.out.alloc _).lt).trans (hbx.out.alloc _))
        go_roundw
        case rel => exact ⟨k + 1, by omega, by go_num, HF, hid d1, hid ((hb.out.alloc hb.out.size _).trans (hb9.mono (by have := hb.out.size; simp; omega)))⟩
        case measure => simp [intOf]; omega
    · obtain rfl : k = n := by omega
      have hk3 : ¬ (k : Int) < (k : Int) := by omega
      gi_wp2_with (refine ⟨trivial, ?_⟩; gi_at_call 140; refine (callsIn_wide.2 (iNeighbours _ _ _ _)).mono ?_; rintro e w' ⟨rfl, rfl⟩)
      have bA := hbx.out.alloc (.cells #[.slice p k cap] 78)
      have bC := Boxed.new wr 78 (.slice p k cap)
      have hB0 : Below w.heap.size w (wr.alloc (.cells #[.slice p k cap] 78)) := hb.out.alloc hb.out.size _
      have hsz : (wr.alloc (.cells #[.slice p k cap] 78)).heap.size = wr.heap.size + 1 := by simp
      have hwr := hb.out.size
      obtain ⟨W0, hW0⟩ : ∃ W0, wr.alloc (.cells #[.slice p k cap] 78) = W0 := ⟨_, rfl⟩
      rw [hW0] at bA bC hB0 hsz ⊢
      clear hW0
      refine wpIn_rangeFunc_ownH (α := Fin (k - 1)) rfl (by decide) (gf := 170) (lb := #[.pointer (some ⟨wr.heap.size, 0, none⟩)]) rfl trivial (Go.Proofs.enters_of Try.func170 (by kernel_rfl) rfl)
        (neighbours_stops 8 wr.heap.size W0.heap.size p k cap x hn W0 (by omega) (Nat.le_refl _) bC.cell (fun hp => by
          obtain ⟨b, o, e, hk⟩ := HC.out hp
          have hb := block_lt_of_cell (hk 0 (by omega))
          exact ⟨b, o, e, by simp at hb; omega, fun j hj => (hB0.cell (p := ⟨b, o + j, none⟩) hb).trans (hk j hj)⟩)) belowK_t (belowK_b (Nat.le_refl _)) (Below.refl _ _) (fun _ => rfl)
        (fun pre W => (∀ i ∈ pre, upB x i.1 = true) ∧ Below W0.heap.size W0 W)
        (fun c pre W => (∃ z : List (Fin (k - 1)) × Fin (k - 1), (c = .ret ∧ pre = z.1 ++ [z.2] ∧ upB x z.2.1 = false) ∧ Boxed W w.heap.size 4 (.bool false)) ∧ Below w.heap.size w W)
        (OwnFrom.and (ownFrom_pure _ _) (ownFrom_below (Nat.le_refl _) (Nat.le_refl _)))
        (fun c => OwnFrom.and (fun s X Y row hs hg hr => by
          obtain ⟨z, h1, h3⟩ := hs
          exact ⟨z, h1, boxed_own _ _ (fun (_ : Unit) => _) () X Y row h3 hg (fun r e => (hr r e).2)⟩) (ownFrom_below (Nat.le_refl _) (by omega)))
        ⟨by simp, Below.refl _ _⟩
        (fun j a' W => ∃ Bx, W0.heap.size ≤ Bx ∧ W.heap[Bx]? = some (.cells #[.float .f32 (x (j.1 * 3)), .float .f32 (x (j.1 * 3 + 1)), .float .f32 (x (j.1 * 3 + 2)), .float .f32 (x ((j.1 + 1) * 3)), .float .f32 (x ((j.1 + 1) * 3 + 1)), .float .f32 (x ((j.1 + 1) * 3 + 2))] 214 (0, 0)) ∧ a' = { tmps := #[.slice p k cap, undef, .pointer (some ⟨w.heap.size, 0, none⟩), undef, u4, undef, .pointer (some ⟨Bx, 0, none⟩), .slice p k cap, .int .i64 (k : Int), .bool false, .bool false, .slice p k cap, .int .i64 (k : Int), .bool false, .bool false, .slice p k cap, .int .i64 (k : Int), .int .i64 (k : Int), .bool false, u19, u20, u21, u22, u23, u24, .slice p k cap, .func (.func 170) #[] #[.pointer (some ⟨wr.heap.size, 0, none⟩)], .int .i64 (j.1 : Int), .agg #[.float .f32 (x (j.1 * 3)), .float .f32 (x (j.1 * 3 + 1)), .float .f32 (x (j.1 * 3 + 2)), .float .f32 (x ((j.1 + 1) * 3)), .float .f32 (x ((j.1 + 1) * 3 + 1)), .float .f32 (x ((j.1 + 1) * 3 + 2))], undef, undef, undef, undef, undef, undef, undef], defers := [] })
        (fun j a' _ X Y row hs hg hr => by obtain ⟨Bx, e1, e2, e3⟩ := hs; exact ⟨Bx, e1, row_own Bx 214 (fun (_ : Unit) => _) () X Y row e2 hg (fun r e => (hr r e).2), e3⟩)
        ?assign ?body ?done ?stop
      case assign =>
        rintro l pre j W K ⟨hp, hB⟩ hK
        have hS := hB.size
        unfold encL
        gi_wp2
        exact hK _ _ ((KeepsOthers.alloc _ _).from _) ((Below.refl _ W).alloc (by omega) _) ⟨hp, hB.alloc (by omega) _⟩ ⟨W.heap.size, by omega, heap_alloc_new _ _, rfl⟩
      case body =>
        rintro l pre j a' W hl ⟨r', hr⟩ ⟨hp, hB⟩ ⟨Bx, hBx, bX, rfl⟩ hlt
        have hS := hB.size
        have b1 : Boxed W w.heap.size 4 (.bool false) := (hB.block _ bA.lt).trans bA
        have e1 := b1.cell
        have e3 := b1.frozen
        clear hr
        have g0 : W.cell? ⟨Bx, 0, none⟩ = some (.float .f32 (x (j.1 * 3))) := (cell_of_row W Bx 0 _ _ _ bX).trans rfl
        have g3 : W.cell? ⟨Bx, 3, none⟩ = some (.float .f32 (x ((j.1 + 1) * 3))) := (cell_of_row W Bx 3 _ _ _ bX).trans rfl
        have hge := up_ge (hF.out j.1 (by have := j.2; omega)) (hF.out (j.1 + 1) (by have := j.2; omega))
        rcases hu : upB x j.1 with _ | _
        · rw [hu] at hge
          have ho : (FloatKind.f32.format.order (x (j.1 * 3)) (x ((j.1 + 1) * 3)) == some .gt || FloatKind.f32.format.order (x (j.1 * 3)) (x ((j.1 + 1) * 3)) == some .eq) = true := hge
          clear hge
          gi_wp2
          exact ⟨(KeepsOthers.setCell _ _ _).from _, ⟨(pre, j), ⟨rfl, rfl, hu⟩, b1.set _⟩, (hB0.trans (hB.mono (by omega))).setCell (p := ⟨w.heap.size, 0, none⟩) (Nat.le_refl _) _⟩
        · rw [hu] at hge
          have ho : (FloatKind.f32.format.order (x (j.1 * 3)) (x ((j.1 + 1) * 3)) == some .gt || FloatKind.f32.format.order (x (j.1 * 3)) (x ((j.1 + 1) * 3)) == some .eq) = false := hge
          clear hge
          gi_wp2
          exact ⟨KeepsFrom.refl _ _, Below.refl _ _, fun i hi => (List.mem_append.1 hi).elim (hp i) (fun e => by simp at e; rw [e]; exact hu), hB⟩
      case done =>
        rintro D ys W hD rfl ⟨hp, hB⟩ hK
        have hS := hB.size
        have b1 : Boxed W w.heap.size 4 (.bool false) := (hB.block _ bA.lt).trans bA
        have e1 := b1.cell
        have e3 := b1.frozen
        have hfin : q = true := by
          rw [← HQ.out, souB_iff]
          exact ⟨by omega, by omega, hF.out, fun i hi => hp ⟨i, by omega⟩ (List.mem_finRange _)⟩
        subst hfin
        gi_wp2
        have hK' := (KeepsOthers.setCell W ⟨w.heap.size, 0, none⟩ (.bool true)).same D _ hK rfl
        have c1 := (b1.set (.bool true)).kept (grownBy_putObj' _ D (.deferred none)) (by simp; omega)
        refine ⟨by simp, .inl ⟨_, _, rfl, run_takeDeferred hK', ?_⟩⟩
        exact ⟨_, results_cell1 rfl _ _ ⟨w.heap.size, 0, none⟩ _ rfl (run_loadVar_one Try.underlying4 rfl c1.cell), rfl, ((hB0.trans (hB.mono (by omega))).setCell (p := ⟨w.heap.size, 0, none⟩) (Nat.le_refl _) _).trans (belowK_b (w := w) (Nat.le_refl _) _ D _ _ (by omega) hK' rfl rfl)⟩
      case stop =>
        rintro D c pre W hD hpre ⟨⟨⟨ini, last⟩, ⟨rfl, rfl, hl⟩, b1⟩, hB⟩ hK
        have hfin : q = false := by
          rw [← HQ.out]; unfold souB ups
          rw [all_range_f (k := last.1) last.2 hl]; simp
        subst hfin
        gi_wp2
        have c1 := b1.kept (grownBy_putObj' _ D (.deferred none)) (by simp; omega)
        refine ⟨by simp, .inl ⟨_, _, rfl, run_takeDeferred hK, ?_⟩⟩
        exact ⟨_, results_cell1 rfl _ _ ⟨w.heap.size, 0, none⟩ _ rfl (run_loadVar_one Try.underlying4 rfl c1.cell), rfl, hB.trans (belowK_b (w := w) (Nat.le_refl _) _ D _ _ (by omega) hK rfl rfl)⟩

theorem kept_drewK {w0 : World} {l : List (Nat × Array Value × TypeId)} {w : World} (k : Kept w0 l w) (n : Nat) : Kept w0 l (w.drewN n) := ⟨below_drewN k.1 n, fun x hx => k.2 x hx⟩

set_option maxRecDepth 100000 in
set_option maxHeartbeats 1000000 in
theorem iClone (s : Value) (n : Nat) (x : Nat → Nat) (h0 : 0 < n) (hn : n ≤ 1048576) (w : World) (hs : Rd w s n x) :
    Calls Try.prog 94 #[s] w fun e w' => ∃ B cs cap, e = .returned (.slice (some ⟨B, 0, none⟩) n cap) ∧ w.heap.size ≤ B ∧ LvW cs (3 * n) x ∧ Kept w [(B, cs, 153)] w' := by
  obtain ⟨p, c, rfl, hc⟩ := hs
  obtain ⟨b, o, rfl, hcell⟩ := hc h0
  have HC := hid hcell
  have H0 := hid h0
  have HN := hid hn
  have HD : ∀ k, k < 3 * n → (w.alloc (.cells #[] 153)).cell? ((⟨b, o, none⟩ : Addr).add k) = some (.float .f32 (x k)) := fun k hk => by rw [Addr.add_lit]; exact (((Below.refl _ w).alloc (Nat.le_refl _) _).cell (block_lt_of_cell (hcell k hk))).trans (hcell k hk)
  have he : ∀ w, (binOp .eql 78 (.slice (some ⟨b, o, none⟩) n c) (.slice none 0 0)).run Try.prog w = .ok (.bool false) w := fun w => Go.Lib.run_eql_slice_nil w _ _ _ _ _ _ _ Try.underlying78
  clear hc hcell h0 hn
  go_enter Try.func94, Try.ntmps94
  go_wp2_with (at_builtin; refine wpList_append_all rfl _ _ 78 rfl 153 Try.underlying78 infoz_lev _ _ rfl rfl H0.out HN.out HD (fun B cs cap w1 hB h1 k1 => ?_))
  go_ret
  exact ⟨_, _, _, rfl, Nat.le_trans (by simp) hB, h1, ((Kept.nil w).alloc _).join k1⟩

set_option maxRecDepth 100000 in
set_option maxHeartbeats 1000000 in
theorem toLevelsK (s : Value) (n : Nat) (x : Nat → Nat) (_hx : ∀ k, x k < 4294967296) (w : World) (hs : Rd w s n x) (hn : n ≤ 1048576) :
    Calls Try.prog 41 #[s] w fun e w' => e = .returned (.slice (some ⟨w.heap.size, 0, none⟩) n n) ∧ ∃ cs, LvW cs (3 * n) x ∧ Kept w [(w.heap.size, cs, 153)] w' := by
  obtain ⟨p, cap, rfl, hc⟩ := hs
  have HC := hid hc
  have hmk := fun w => run_make3 (P := Try.prog) (t := 78) (e := 153) Try.underlying78 infoz_lev hn w
  have k0 : Hid (Kept w [(w.heap.size, vls (3 * n) (flw (part3 x 0)), 153)] (w.alloc (.cells (vls (3 * n) (flw fun _ => 0)) 153))) := hid (by rw [part3_zero]; exact (Kept.nil w).push _ _)
  clear hc
  go_enter Try.func41, Try.ntmps41
  go_wp2_with fail
  go_loopw [4] (fun i wr => ∃ k : Nat, k ≤ n ∧ i = .int .i64 k ∧ Hid (Kept w [(w.heap.size, vls (3 * n) (flw (part3 x k)), 153)] wr)) (fun i _ => n - (intOf i).toNat)
  case atStart => exact ⟨0, by omega, rfl, k0⟩
  case round =>
    obtain ⟨k, hk, rfl, h0⟩ := hrel
    clear k0 hmk
    by_cases hlt : k < n
    · have HK := hid hlt
      have hk3 : (k : Int) < (n : Int) := by omega
      obtain ⟨b, o, rfl, hcell⟩ := HC.out (by omega)
      have R1 := hid (fun wq (hb : Below w.heap.size w wq) => row3 (w := wq) (n := n) (x := x) (b := b) (o := o) (fun j hj => by have h1 := hcell j hj; rw [hb.cell (block_lt_of_cell h1)]; exact h1) HK.out)
      clear hcell
      have i1 := fun w => run_indexAt (P := Try.prog) (t := 76) (e := 155) Try.underlying76 info_llev (b := b) (o := o) (n := n) (cap := cap) (k := k) hlt w
      have i2 := fun w9 => run_indexAt (P := Try.prog) (t := 78) (e := 153) Try.underlying78 info_lev (b := w.heap.size) (o := 0) (n := n) (cap := n) (k := k) hlt w9
      simp only [Nat.zero_add] at i2
      go_wp2_with (refine wpList_load_mid rfl 155 _ rfl b (o + k * 3) rfl _ _ (R1.out _ h0.out.1) Try.underlying155 rfl info_llev ?_)
      refine (toLevel _ _ _ _).mono ?_
      rintro e w1 ⟨rfl, hb1⟩
      have h1 := hid (h0.out.stay hb1)
      have V1 : Hid (vAt w1 w.heap.size (3 * n) (flw (part3 x k)) 153) := hid (h1.out.at (x := (w.heap.size, vls (3 * n) (flw (part3 x k)), 153)) (by simp))
      clear i1
      go_wp2_with (refine wpList_store_mid rfl 153 _ _ rfl w.heap.size (k * 3) #[.float .f32 (x (k * 3)), .float .f32 (x (k * 3 + 1)), .float .f32 (x (k * 3 + 2))] rfl rfl (V1.out.there (k * 3) 3 (by have := HK.out; omega)) info_lev (by simp [Value.oneCell']) ?_)
      clear i2
      go_wp2
      go_roundw
      case rel => exact ⟨k + 1, by omega, by go_num, hid (by have h2 := h1.out.three (Nat.le_refl _) (by simp) (k * 3) (x (k * 3)) (x (k * 3 + 1)) (x (k * 3 + 2)); rw [part3_step] at h2; exact h2)⟩
      case measure => simp [intOf]; omega
    · obtain rfl : k = n := by omega
      go_wp2
      go_ret
      exact ⟨rfl, _, (LvW.vls (3 * k) (part3 x k)).ext (fun j hj => if_pos (by omega)), h0.out⟩

theorem info_f : (Try.prog.info? 22).map (·.size) = some 1 := by kernel_rfl

/-- Marks: the words of the whole numbers from q on. -/
def mkW (F : Int → Nat) (q : Int) : Nat → Nat := fun j => F (q + j)

set_option maxRecDepth 100000 in
set_option maxHeartbeats 2000000 in
theorem markLevels1 (F : Int → Nat) (hcv : ∀ (k : Int) (w : World), (convert 3 22 (.int .i64 k)).run Try.prog w = .ok (.float .f32 (F k)) w) (w0 : World) (l : List (Nat × Array Value × TypeId)) (B n cap : Nat) (cs : Array Value) (y : Nat → Nat) (q : Int) (hq : 0 ≤ q ∧ q ≤ 1048576) (w : World) (hk : Kept w0 ((B, cs, 153) :: l) w) (hB : w0.heap.size ≤ B) (hne : ∀ x ∈ l, x.1 ≠ B) (h : LvW cs (3 * n) y) (hn : n ≤ 1048576) :
    Calls Try.prog 44 #[.slice (some ⟨B, 0, none⟩) n cap, .int .i64 q] w fun e w' => e = .returned (.int .i64 (q + 3 * n)) ∧ ∃ cs', LvW cs' (3 * n) (mkW F q) ∧ Kept w0 ((B, cs', 153) :: l) w' := by
  have HN := hid hn
  have HNE := hid hne
  have HBB := hid hB
  have HQ := hid hq
  have h0 : Hid (∃ cs', LvW cs' (3 * n) (mrk F y q (3 * 0)) ∧ Kept w0 ((B, cs', 153) :: l) w) := hid ⟨cs, by rw [Nat.mul_zero, mrk_zero]; exact h, hk⟩
  clear hk h hn hB hne hq
  go_enter Try.func44, Try.ntmps44
  go_wp2_with fail
  go_loopw [1, 5] (fun u i wr => ∃ k : Nat, k ≤ n ∧ i = .int .i64 k ∧ u = .int .i64 (q + 3 * k) ∧ Hid (∃ cs', LvW cs' (3 * n) (mrk F y q (3 * k)) ∧ Kept w0 ((B, cs', 153) :: l) wr)) (fun _ i _ => n - (intOf i).toNat)
  case atStart => exact ⟨0, by omega, rfl, by simp, h0⟩
  case round =>
    obtain ⟨k, hk, rfl, rfl, h1⟩ := hrel
    clear h0
    by_cases hlt : k < n
    · have HL := hid hlt
      have hk3 : (k : Int) < (n : Int) := by omega
      obtain ⟨cs', a1, a2⟩ := h1.out
      have i1 := fun w => run_indexAt (P := Try.prog) (t := 78) (e := 153) Try.underlying78 info_lev (b := B) (o := 0) (n := n) (cap := cap) (k := k) hlt w
      simp only [Nat.zero_add] at i1
      have hw0 : IntKind.i64.wrap (q + 3 * (k : Int) + 1) = q + 3 * (k : Int) + 1 := by rw [IntKind.wrap_i64]; have := HN.out; have := HQ.out; omega
      have hw1 : IntKind.i64.wrap (q + 3 * (k : Int) + 1 + 1) = q + 3 * (k : Int) + 1 + 1 := by rw [IntKind.wrap_i64]; have := HN.out; have := HQ.out; omega
      have hw2 : IntKind.i64.wrap (q + 3 * (k : Int) + 1 + 1 + 1) = q + 3 * (k : Int) + 1 + 1 + 1 := by rw [IntKind.wrap_i64]; have := HN.out; have := HQ.out; omega
      have A1 := hid a1
      have A2 := hid a2
      clear h1 a1 a2
      go_wp2_with (first | (refine store_lv rfl 22 _ _ rfl info_f B (k * 3 + 2) (F (q + 3 * (k : Int) + 1 + 1)) rfl rfl k2.out v2.out (by have := HL.out; omega) HBB.out HNE.out (fun w3 k3 v3 => ?_); replace k3 := hid k3; replace v3 := hid v3) | (refine store_lv rfl 22 _ _ rfl info_f B (k * 3 + 1) (F (q + 3 * (k : Int) + 1)) rfl rfl k1.out v1.out (by have := HL.out; omega) HBB.out HNE.out (fun w2 k2 v2 => ?_); replace k2 := hid k2; replace v2 := hid v2) | (refine store_lv rfl 22 _ _ rfl info_f B (k * 3) (F (q + 3 * (k : Int))) rfl rfl A2.out A1.out (by have := HL.out; omega) HBB.out HNE.out (fun w1 k1 v1 => ?_); replace k1 := hid k1; replace v1 := hid v1))
      have b3 : Hid (∃ cs', LvW cs' (3 * n) (mrk F y q (3 * (k + 1))) ∧ Kept w0 ((B, cs', 153) :: l) w3) := by
        refine hid ⟨_, v3.out.ext fun j _ => ?_, k3.out⟩
        have s1 := mrk_step F y q (3 * k)
        have s2 := mrk_step F y q (3 * k + 1)
        have s3 := mrk_step F y q (3 * k + 2)
        rw [show 3 * (k + 1) = 3 * k + 2 + 1 by omega, ← s3, ← s2, ← s1]
        rw [show q + ((3 * k : Nat) : Int) = q + 3 * (k : Int) by omega, show q + ((3 * k + 1 : Nat) : Int) = q + 3 * (k : Int) + 1 by omega, show q + ((3 * k + 2 : Nat) : Int) = q + 3 * (k : Int) + 1 + 1 by omega, show k * 3 = 3 * k by omega]
      clear A1 A2 k1 v1 k2 v2 k3 v3
      have hn9 := HN.out
      have hw9 : wrap64 ((k : Int) + 1) = (k : Int) + 1 := by unfold wrap64; omega
      go_roundw
      case rel => exact ⟨k + 1, by omega, by go_num, by congr 1; omega, b3⟩
      case measure => rw [hw9]; show n - (((k : Int) + 1)).toNat < n - ((k : Int)).toNat; clear hw0 hw1 hw2 hw9; omega
    · obtain rfl : k = n := by omega
      have hk3 : ¬ (k : Int) < (k : Int) := by omega
      go_wp2
      go_ret
      obtain ⟨cs', a1, a2⟩ := h1.out
      exact ⟨rfl, cs', a1.ext (fun j hj => if_pos hj), a2⟩

set_option maxRecDepth 100000 in
set_option maxHeartbeats 2000000 in
theorem heldLevels1 (F : Int → Nat) (hcv : ∀ (k : Int) (w : World), (convert 3 22 (.int .i64 k)).run Try.prog w = .ok (.float .f32 (F k)) w) (hF : ∀ k : Int, 0 ≤ k → k ≤ 1000000000 → (FloatKind.f32.format.order (F k) (F k) != some .eq) = false)
    (s : Value) (n : Nat) (q : Int) (hq : 0 ≤ q ∧ q ≤ 1048576) (w : World) (hs : Rd w s n (mkW F q)) (hn : n ≤ 1048576) :
    Calls Try.prog 45 #[s, .int .i64 q] w fun e w' => e = .returned (.int .i64 (q + 3 * n)) ∧ w = w' := by
  obtain ⟨p, cap, rfl, hc⟩ := hs
  have HC := hid hc
  have HN := hid hn
  have HQ := hid hq
  have HF := hid hF
  clear hc hn hq hF
  go_enter Try.func45, Try.ntmps45
  go_wp2_with fail
  go_loopw [1, 5] (fun u i wr => ∃ k : Nat, k ≤ n ∧ i = .int .i64 k ∧ u = .int .i64 (q + 3 * k) ∧ w = wr) (fun _ i _ => n - (intOf i).toNat)
  case atStart => exact ⟨0, by omega, rfl, by simp, rfl⟩
  case round =>
    obtain ⟨k, hk, rfl, rfl, rfl⟩ := hrel
    by_cases hlt : k < n
    · have HL := hid hlt
      have hk3 : (k : Int) < (n : Int) := by omega
      obtain ⟨b, o, rfl, hcell⟩ := HC.out (by omega)
      have c0 : w.cell? ⟨b, o + k * 3, none⟩ = some (.float .f32 (F (q + 3 * (k : Int)))) := by rw [hcell (k * 3) (by omega)]; unfold mkW; rw [show q + ((k * 3 : Nat) : Int) = q + 3 * (k : Int) by omega]
      have c1 : w.cell? ⟨b, o + k * 3 + 1, none⟩ = some (.float .f32 (F (q + 3 * (k : Int) + 1))) := by rw [Nat.add_assoc, hcell (k * 3 + 1) (by omega)]; unfold mkW; rw [show q + ((k * 3 + 1 : Nat) : Int) = q + 3 * (k : Int) + 1 by omega]
      have c2 : w.cell? ⟨b, o + k * 3 + 2, none⟩ = some (.float .f32 (F (q + 3 * (k : Int) + 1 + 1))) := by rw [Nat.add_assoc, hcell (k * 3 + 2) (by omega)]; unfold mkW; rw [show q + ((k * 3 + 2 : Nat) : Int) = q + 3 * (k : Int) + 1 + 1 by omega]
      have i1 := fun w => run_indexAt (P := Try.prog) (t := 78) (e := 153) Try.underlying78 info_lev (b := b) (o := o) (n := n) (cap := cap) (k := k) hlt w
      have n0 := HF.out (q + 3 * (k : Int)) (by have := HQ.out; omega) (by have := HQ.out; have := HN.out; omega)
      have n1 := HF.out (q + 3 * (k : Int) + 1) (by have := HQ.out; omega) (by have := HQ.out; have := HN.out; omega)
      have n2 := HF.out (q + 3 * (k : Int) + 1 + 1) (by have := HQ.out; omega) (by have := HQ.out; have := HN.out; omega)
      have hw0 : IntKind.i64.wrap (q + 3 * (k : Int) + 1) = q + 3 * (k : Int) + 1 := by rw [IntKind.wrap_i64]; have := HN.out; have := HQ.out; omega
      have hw1 : IntKind.i64.wrap (q + 3 * (k : Int) + 1 + 1) = q + 3 * (k : Int) + 1 + 1 := by rw [IntKind.wrap_i64]; have := HN.out; have := HQ.out; omega
      have hw2 : IntKind.i64.wrap (q + 3 * (k : Int) + 1 + 1 + 1) = q + 3 * (k : Int) + 1 + 1 + 1 := by rw [IntKind.wrap_i64]; have := HN.out; have := HQ.out; omega
      clear hcell
      go_wp2
      have hn9 := HN.out
      have hw9 : wrap64 ((k : Int) + 1) = (k : Int) + 1 := by unfold wrap64; omega
      go_roundw
      case rel => exact ⟨k + 1, by omega, by go_num, by congr 1; omega, trivial⟩
      case measure => rw [hw9]; show n - (((k : Int) + 1)).toNat < n - ((k : Int)).toNat; clear hw0 hw1 hw2 hw9; omega
    · obtain rfl : k = n := by omega
      have hk3 : ¬ (k : Int) < (k : Int) := by omega
      go_wp2
      go_ret
      exact ⟨rfl, rfl⟩

set_option maxRecDepth 100000 in
theorem fcv (k : Int) (w : World) : (convert 3 22 (.int .i64 k)).run Try.prog w = .ok (.float .f32 (fiW k)) w := rfl

theorem fne (k : Int) (h0 : 0 ≤ k) (h1 : k ≤ 1000000000) : (FloatKind.f32.format.order (fiW k) (fiW k) != some .eq) = false := by rw [fiW_eq h0 h1]; rfl

/-- A slice of levels that a call made. -/
def MadeL (T : TypeId) (n : Nat) (y : Nat → Nat) (w : World) (v : Value) (w' : World) : Prop := ∃ B cs cap, v = .slice (some ⟨B, 0, none⟩) n cap ∧ w.heap.size ≤ B ∧ LvW cs (3 * n) y ∧ Kept w [(B, cs, T)] w'

theorem toLevelsM (s : Value) (n : Nat) (x : Nat → Nat) (hx : ∀ k, x k < 4294967296) (w : World) (hs : Rd w s n x) (hn : n ≤ 1048576) :
    Calls Try.prog 41 #[s] w fun e w' => ∃ v, e = .returned v ∧ MadeL 153 n x w v w' :=
  (toLevelsK s n x hx w hs hn).mono fun _ _ ⟨he, cs, h, k⟩ => ⟨_, he, _, cs, n, rfl, Nat.le_refl _, h, k⟩

theorem markL (w0 : World) (l : List (Nat × Array Value × TypeId)) (B n cap : Nat) (cs : Array Value) (y : Nat → Nat) (w : World) (hk : Kept w0 ((B, cs, 153) :: l) w) (hB : w0.heap.size ≤ B) (hne : ∀ x ∈ l, x.1 ≠ B) (h : LvW cs (3 * n) y) (hn : n ≤ 1048576) :
    Calls Try.prog 44 #[.slice (some ⟨B, 0, none⟩) n cap, .int .i64 1] w fun e w' => e = .returned (.int .i64 (1 + 3 * n)) ∧ ∃ cs', LvW cs' (3 * n) (mkW fiW 1) ∧ Kept w0 ((B, cs', 153) :: l) w' :=
  markLevels1 fiW fcv w0 l B n cap cs y 1 ⟨by omega, by omega⟩ w hk hB hne h hn

theorem heldL (s : Value) (n : Nat) (w : World) (hs : Rd w s n (mkW fiW 1)) (hn : n ≤ 1048576) :
    Calls Try.prog 45 #[s, .int .i64 1] w fun e w' => e = .returned (.int .i64 (1 + 3 * n)) ∧ w = w' :=
  heldLevels1 fiW fcv fne s n 1 ⟨by omega, by omega⟩ w hs hn

theorem held0 (p : Option Addr) (w : World) : Calls Try.prog 45 #[.slice p 0 0, .int .i64 1] w fun e w' => e = .returned (.int .i64 1) ∧ w = w' := by
  have := heldL (.slice p 0 0) 0 w (Rd.zero w p 0 _) (by omega)
  simpa using this

theorem mark0 (p : Option Addr) (w : World) : Calls Try.prog 44 #[.slice p 0 0, .int .i64 1] w fun e w' => e = .returned (.int .i64 1) ∧ w = w' := by
  go_enter Try.func44, Try.ntmps44
  go_wp2_with fail
  go_loopw [1, 5] (fun u i wr => i = .int .i64 0 ∧ u = .int .i64 1 ∧ w = wr) (fun _ _ _ => 0)
  case atStart => exact ⟨rfl, rfl, rfl⟩
  case round =>
    obtain ⟨rfl, rfl, rfl⟩ := hrel
    go_wp2
    go_ret
    exact ⟨rfl, rfl⟩

theorem words_cons : ∀ (v : List Char) (r : List Char), (∀ c ∈ v, c ≠ Char.ofNat 32) → wordsSigns (v ++ Char.ofNat 32 :: r) = v :: wordsSigns r
  | [], r, _ => rfl
  | c :: v, r, h => by
    have ih := words_cons v r (fun x hx => h x (by simp [hx]))
    have hc : c ≠ Char.ofNat 32 := h c (by simp)
    show wordsSigns (c :: (v ++ Char.ofNat 32 :: r)) = _
    rw [wordsSigns.eq_3 _ _ (fun e => hc e), ih]

def w0 : List Nat := [104, 97, 114, 110, 101, 115, 115]

def w1 : List Nat := [99, 51, 54, 52, 56, 54, 53, 52, 51, 50, 97, 52, 52, 52, 101, 99, 51, 56, 52, 98, 48, 52, 50, 55, 102, 100, 102, 49, 49, 55, 52, 48, 49, 99, 100, 49, 50, 50, 97, 52, 51, 53, 50, 98, 56, 101, 57, 52, 97, 56, 99, 57, 48, 99, 56, 52, 55, 98, 97, 55, 52, 57, 50, 101]

def w2 : List Nat := [99, 117, 116]

def w3 : List Nat := [97, 116, 32, 108, 111, 111, 112, 46, 101, 120, 97, 109, 112, 108, 101, 47, 103, 48, 49, 50, 50, 52, 47, 108, 97, 119, 115, 46, 70, 110, 69, 120, 97, 99, 116, 83, 116, 105, 114, 67, 111, 108, 117, 109, 110, 32, 108, 111, 111, 112, 46, 101, 120, 97, 109, 112, 108, 101, 47, 103, 48, 49, 50, 50, 52, 47, 108, 97, 119, 115, 46, 70, 110, 69, 120, 97, 99, 116, 71, 114, 111, 119, 79, 110, 99, 101, 32, 108, 111, 111, 112, 46, 101, 120, 97, 109, 112, 108, 101, 47, 103, 48, 49, 50, 50, 52, 47, 108, 97, 119, 115, 46, 70, 110, 69, 120, 97, 99, 116, 71, 114, 111, 119, 83, 116, 101, 112, 115, 32, 108, 111, 111, 112, 46, 101, 120, 97, 109, 112, 108, 101, 47, 103, 48, 49, 50, 50, 52, 47, 108, 97, 119, 115, 46, 70, 110, 69, 120, 97, 99, 116, 83, 116, 101, 112, 115, 84, 111, 68, 114, 121, 32, 108, 111, 111, 112, 46, 101, 120, 97, 109, 112, 108, 101, 47, 103, 48, 49, 50, 50, 52, 47, 108, 97, 119, 115, 46, 70, 110, 69, 120, 97, 99, 116, 71, 114, 111, 119, 67, 111, 108, 117, 109, 110, 32, 108, 111, 111, 112, 46, 101, 120, 97, 109, 112, 108, 101, 47, 103, 48, 49, 50, 50, 52, 47, 108, 97, 119, 115, 46, 70, 110, 69, 120, 97, 99, 116, 86, 97, 108, 105, 100, 68, 101, 101, 100, 32, 108, 111, 111, 112, 46, 101, 120, 97, 109, 112, 108, 101, 47, 103, 48, 49, 50, 50, 52, 47, 108, 97, 119, 115, 46, 70, 110, 69, 120, 97, 99, 116, 67, 111, 108, 108, 105, 100, 101, 80, 97, 105, 114, 115, 32, 108, 111, 111, 112, 46, 101, 120, 97, 109, 112, 108, 101, 47, 103, 48, 49, 50, 50, 52, 47, 108, 97, 119, 115, 46, 70, 110, 69, 120, 97, 99, 116, 83, 116, 101, 97, 100, 121, 83, 111, 117, 110, 100, 105, 110, 103, 32, 108, 111, 111, 112, 46, 101, 120, 97, 109, 112, 108, 101, 47, 103, 48, 49, 50, 50, 52, 47, 108, 97, 119, 115, 46, 70, 110, 69, 120, 97, 99, 116, 82, 105, 115, 101, 73, 110, 32, 108, 111, 111, 112, 46, 101, 120, 97, 109, 112, 108, 101, 47, 103, 48, 49, 50, 50, 52, 47, 108, 97, 119, 115, 46, 70, 110, 69, 120, 97, 99, 116, 84, 104, 105, 114, 100, 82, 111, 111, 116]

def letters (l : List Nat) : List Char := l.map Char.ofNat

theorem head_reads : Try.prog.initOrder = String.ofList (letters w0 ++ Char.ofNat 32 :: (letters w1 ++ Char.ofNat 32 :: (letters w2 ++ Char.ofNat 32 :: letters w3))) := by kernel_rfl

theorem no_blank {l : List Nat} (h : l.all (fun n => Char.ofNat n != Char.ofNat 32) = true) : ∀ c ∈ letters l, c ≠ Char.ofNat 32 := by
  intro c hc
  obtain ⟨n, hn, rfl⟩ := List.mem_map.1 hc
  have := List.all_eq_true.1 h n hn
  simpa using this

theorem h0 : letters w0 = "harness".toList := by kernel_rfl

theorem h2 : letters w2 = "cut".toList := by kernel_rfl

theorem sums : isSumSigns (letters w1) = true := by kernel_rfl

theorem words : wordsSigns Try.prog.initOrder.toList = "harness".toList :: letters w1 :: "cut".toList :: wordsSigns (letters w3) := by
  rw [head_reads, String.toList_ofList, words_cons _ _ (no_blank (by decide +kernel)), words_cons _ _ (no_blank (by decide +kernel)), words_cons _ _ (no_blank (by decide +kernel)), h0, h2]

theorem behind : ∃ r, behindMainWord (wordsSigns Try.prog.initOrder.toList) = "cut".toList :: r := by
  refine ⟨wordsSigns (letters w3), ?_⟩
  rw [words]
  generalize wordsSigns (letters w3) = r
  have hs := sums
  generalize letters w1 = v at hs
  unfold behindMainWord
  simp [hs]

theorem not_later : Try.prog.laysLater = false := by kernel_rfl

theorem no_reflect : Try.prog.bearsReflect = false := by kernel_rfl

theorem no_doors : Try.prog.doorFits [] = true := by kernel_rfl

theorem strips (r : List (List Char)) : stripLifts liftWords ("cut".toList :: r) = ([], "cut".toList :: r) := by kernel_rfl

theorem may_enter_of (P : Program) (r : List (List Char)) (h : behindMainWord (wordsSigns P.initOrder.toList) = "cut".toList :: r) (h1 : P.laysLater = false) (h2 : P.bearsReflect = false) (h3 : P.doorFits [] = true) : P.mayEnter = true := by
  unfold Program.mayEnter
  rw [h]
  dsimp only
  rw [strips, h1, h2, h3]
  kernel_rfl

theorem lifts_final_of (P : Program) (r : List (List Char)) (h : behindMainWord (wordsSigns P.initOrder.toList) = "cut".toList :: r) : P.liftsFinal = false := by
  unfold Program.liftsFinal Program.headLifts
  rw [h]
  dsimp only
  rw [strips]
  kernel_rfl

theorem made_of (P : Program) (r : List (List Char)) (h : behindMainWord (wordsSigns P.initOrder.toList) = "cut".toList :: r) : P.make = some .cut := by
  unfold Program.make
  rw [h]
  kernel_rfl

theorem may_enter : Try.prog.mayEnter = true := let ⟨r, h⟩ := behind; may_enter_of _ r h not_later no_reflect no_doors

theorem lifts_final : Try.prog.liftsFinal = false := let ⟨r, h⟩ := behind; lifts_final_of _ r h

theorem made : Try.prog.make = some .cut := let ⟨r, h⟩ := behind; made_of _ r h

theorem laid : laidOutB Try.prog = true := by kernel_rfl

theorem rowed : mapsRowed Try.prog = true := by kernel_rfl

theorem no_stops : Try.prog.stops = [] := by kernel_rfl

theorem no_knobs : Try.prog.stopKnobs = [] := by kernel_rfl

theorem plain_keys : Try.prog.plainKeys = false := by kernel_rfl

theorem stops_heard : Try.prog.stopsHeard = true := by kernel_rfl

theorem arr1 {α : Type} {cs : Array α} (h : cs.size = 1) : ∃ c0, cs = #[c0] := by
  obtain ⟨l⟩ := cs
  match l, h with
  | [a], _ => exact ⟨a, rfl⟩

theorem own : ownKnob Try.prog.godebug = none := by kernel_rfl

theorem cells2 : Try.prog.cellsOf 26 = 2 := by kernel_rfl

theorem cellsL : Try.prog.cellsOf 155 = 3 := by kernel_rfl

theorem cellsF : Try.prog.cellsOf 22 = 1 := by kernel_rfl

theorem rds : Try.prog.readableRec 76 = true ∧ 76 < Try.prog.types.size := ⟨by kernel_rfl, of_decide_eq_true (by kernel_rfl)⟩

set_option maxRecDepth 100000 in
set_option maxHeartbeats 1000000 in
theorem iFitAir_t (h v : Nat) (hv : v < 4294967296) (hq : airB h v = true) (w : World) :
    Calls Try.prog 173 #[.agg #[.float .f32 h, .float .f32 v]] w fun e w' => e = .returned (.agg #[.float .f32 h, .float .f32 v]) ∧ Below w.heap.size w w' := by
  have k0 : Hid (Kept w [(w.heap.size, #[.float .f32 h, .float .f32 v], 32), (w.heap.size + 1, #[.float .f32 0, .float .f32 0], 32)] ((w.alloc (.cells #[.float .f32 h, .float .f32 v] 32)).alloc (.cells #[.float .f32 0, .float .f32 0] 32))) := hid ((((Kept.nil w).push _ _).push _ _).sub (by simp))
  have HV := hid (fun u => iValidAir h v hv true hq u)
  clear hv hq
  go_enter Try.func173, Try.ntmps173
  go_wp2_with fail
  refine (HV.out _).mono ?_
  rintro e w1 ⟨rfl, hb1⟩
  have k1 := hid (k0.out.stay hb1)
  have tok1 : True := trivial
  go_wp2_with (first | (refine wpList_load_row rfl 32 _ rfl (w.heap.size) rfl 32 (#[.float .f32 h, .float .f32 v]) (0, 0) _ (k1.out.at (x := (w.heap.size, #[.float .f32 h, .float .f32 v], 32)) (by simp)) Try.underlying32 rfl info_air ?_) | (have _t := tok1; (refine store_kept (w0 := w) (l := [(w.heap.size, #[.float .f32 h, .float .f32 v], 32)]) rfl 32 _ _ rfl (w.heap.size + 1) (#[.float .f32 h, .float .f32 v]) rfl rfl 32 (#[.float .f32 0, .float .f32 0]) (k1.out.swap) (by omega) (by first | (simp; done) | (simp; omega)) info_air rfl (by simp [Value.oneCell']) (fun w7 k7 => ?_); replace k7 := hid k7); clear tok1))
  exact bodyPost_ret (results_cell_row rfl _ _ (w.heap.size + 1) 32 (#[.float .f32 h, .float .f32 v]) (0, 0) _ rfl (k7.out.at (x := (w.heap.size + 1, #[.float .f32 h, .float .f32 v], 32)) (by simp)) Try.underlying32 rfl info_air) rfl ⟨rfl, k7.out.1⟩

set_option maxRecDepth 100000 in
set_option maxHeartbeats 1000000 in
theorem iFitAir_f (h v : Nat) (hv : v < 4294967296) (hq : airB h v = false) (w : World) :
    Calls Try.prog 173 #[.agg #[.float .f32 h, .float .f32 v]] w fun e w' => e = .panicked [{ v := .iface 255 (.agg #[.float .f32 h, .float .f32 v]), recovered := false }] ∧ Below w.heap.size w w' := by
  have k0 : Hid (Kept w [(w.heap.size, #[.float .f32 h, .float .f32 v], 32), (w.heap.size + 1, #[.float .f32 0, .float .f32 0], 32)] ((w.alloc (.cells #[.float .f32 h, .float .f32 v] 32)).alloc (.cells #[.float .f32 0, .float .f32 0] 32))) := hid ((((Kept.nil w).push _ _).push _ _).sub (by simp))
  have HV := hid (fun u => iValidAir h v hv false hq u)
  clear hv hq
  have hcon : Try.prog.concrete 255 = true := by kernel_rfl
  go_enter Try.func173, Try.ntmps173
  go_wp2_with fail
  refine (HV.out _).mono ?_
  rintro e w1 ⟨rfl, hb1⟩
  have k1 := hid (k0.out.stay hb1)
  go_wp2_with (refine wpList_load_row rfl 32 _ rfl (w.heap.size) rfl 32 (#[.float .f32 h, .float .f32 v]) (0, 0) _ (k1.out.at (x := (w.heap.size, #[.float .f32 h, .float .f32 v], 32)) (by simp)) Try.underlying32 rfl info_air ?_)
  exact ⟨rfl, rfl, k1.out.1⟩

set_option maxRecDepth 100000 in
set_option maxHeartbeats 1000000 in
theorem iSteadied_f1 (x : Nat → Nat) (k : Nat) (D : SteF x k) (hq : airB (lohS x k) (vapS x k) = false) (w : World) :
    Calls Try.prog 143 #[.agg #[.float .f32 (x (k * 3)), .float .f32 (x (k * 3 + 1)), .float .f32 (x (k * 3 + 2)), .float .f32 (x ((k + 1) * 3)), .float .f32 (x ((k + 1) * 3 + 1)), .float .f32 (x ((k + 1) * 3 + 2))]] w fun e w' => e = .panicked [{ v := .iface 255 (.agg #[.float .f32 (lohS x k), .float .f32 (vapS x k)]), recovered := false }] ∧ Below w.heap.size w w' := by
  have k0 : Hid (Kept w [(w.heap.size, #[.float .f32 (x (k * 3)), .float .f32 (x (k * 3 + 1)), .float .f32 (x (k * 3 + 2)), .float .f32 (x ((k + 1) * 3)), .float .f32 (x ((k + 1) * 3 + 1)), .float .f32 (x ((k + 1) * 3 + 2))], 214), (w.heap.size + 1, #[.float .f32 (0), .float .f32 (0), .float .f32 (0), .float .f32 (0), .float .f32 (0), .float .f32 (0)], 214)] ((w.alloc (.cells #[.float .f32 (x (k * 3)), .float .f32 (x (k * 3 + 1)), .float .f32 (x (k * 3 + 2)), .float .f32 (x ((k + 1) * 3)), .float .f32 (x ((k + 1) * 3 + 1)), .float .f32 (x ((k + 1) * 3 + 2))] 214)).alloc (.cells #[.float .f32 (0), .float .f32 (0), .float .f32 (0), .float .f32 (0), .float .f32 (0), .float .f32 (0)] 214))) := hid ((((Kept.nil w).push _ _).push _ _).sub (by simp))
  have HD := hid (fun w => iDepth x k D.a3 w)
  have HP := hid (fun u => iFitAir_f (lohS x k) (vapS x k) D.l3 hq u)
  have r1 := fun w => run_float_arith (P := Try.prog) w .add 22 .f32 _ _ _ D.a1
  have r2 := fun w => run_float_arith (P := Try.prog) w .mul 22 .f32 _ _ _ D.a2
  have r3 := fun w => run_float_arith (P := Try.prog) w .mul 22 .f32 _ _ _ D.a4
  have r4 := fun w => run_float_arith (P := Try.prog) w .add 22 .f32 _ _ _ D.a5
  have r5 := fun w => run_float_arith (P := Try.prog) w .mul 22 .f32 _ _ _ D.a6
  have r6 := fun w => run_float_arith (P := Try.prog) w .add 22 .f32 _ _ _ D.a7
  have r7 := fun w => run_float_arith (P := Try.prog) w .sub 22 .f32 _ _ _ D.a8
  clear D hq
  go_enter Try.func143, Try.ntmps143
  go_wp2_with fail
  refine (HD.out _).mono ?_
  rintro e w1 ⟨rfl, hb1⟩
  have k1 := hid (k0.out.stay hb1)
  have c2 : World.cell? w1 ⟨w.heap.size, 2, none⟩ = some (.float .f32 (x (k * 3 + 2))) := (cell_of_row w1 (w.heap.size) 2 _ _ _ (k1.out.at (x := (w.heap.size, #[.float .f32 (x (k * 3)), .float .f32 (x (k * 3 + 1)), .float .f32 (x (k * 3 + 2)), .float .f32 (x ((k + 1) * 3)), .float .f32 (x ((k + 1) * 3 + 1)), .float .f32 (x ((k + 1) * 3 + 2))], 214)) (by simp))).trans rfl
  have c5 : World.cell? w1 ⟨w.heap.size, 5, none⟩ = some (.float .f32 (x ((k + 1) * 3 + 2))) := (cell_of_row w1 (w.heap.size) 5 _ _ _ (k1.out.at (x := (w.heap.size, #[.float .f32 (x (k * 3)), .float .f32 (x (k * 3 + 1)), .float .f32 (x (k * 3 + 2)), .float .f32 (x ((k + 1) * 3)), .float .f32 (x ((k + 1) * 3 + 1)), .float .f32 (x ((k + 1) * 3 + 2))], 214)) (by simp))).trans rfl
  clear k0 hb1
  go_wp2_with fail
  refine (HP.out _).mono ?_
  rintro e w2 ⟨rfl, hb2⟩
  have k2 := hid (k1.out.stay hb2)
  clear k1 hb2 c2 c5 HP
  exact ⟨rfl, rfl, k2.out.1⟩

set_option maxRecDepth 100000 in
set_option maxHeartbeats 1000000 in
theorem iSteadied_f2 (x : Nat → Nat) (k : Nat) (D : SteF x k) (hp : airB (lohS x k) (vapS x k) = true) (hq : airB (hihS x k) (vapS x k) = false) (w : World) :
    Calls Try.prog 143 #[.agg #[.float .f32 (x (k * 3)), .float .f32 (x (k * 3 + 1)), .float .f32 (x (k * 3 + 2)), .float .f32 (x ((k + 1) * 3)), .float .f32 (x ((k + 1) * 3 + 1)), .float .f32 (x ((k + 1) * 3 + 2))]] w fun e w' => e = .panicked [{ v := .iface 255 (.agg #[.float .f32 (hihS x k), .float .f32 (vapS x k)]), recovered := false }] ∧ Below w.heap.size w w' := by
  have k0 : Hid (Kept w [(w.heap.size, #[.float .f32 (x (k * 3)), .float .f32 (x (k * 3 + 1)), .float .f32 (x (k * 3 + 2)), .float .f32 (x ((k + 1) * 3)), .float .f32 (x ((k + 1) * 3 + 1)), .float .f32 (x ((k + 1) * 3 + 2))], 214), (w.heap.size + 1, #[.float .f32 (0), .float .f32 (0), .float .f32 (0), .float .f32 (0), .float .f32 (0), .float .f32 (0)], 214)] ((w.alloc (.cells #[.float .f32 (x (k * 3)), .float .f32 (x (k * 3 + 1)), .float .f32 (x (k * 3 + 2)), .float .f32 (x ((k + 1) * 3)), .float .f32 (x ((k + 1) * 3 + 1)), .float .f32 (x ((k + 1) * 3 + 2))] 214)).alloc (.cells #[.float .f32 (0), .float .f32 (0), .float .f32 (0), .float .f32 (0), .float .f32 (0), .float .f32 (0)] 214))) := hid ((((Kept.nil w).push _ _).push _ _).sub (by simp))
  have HD := hid (fun w => iDepth x k D.a3 w)
  have HP := hid (fun u => iFitAir_t (lohS x k) (vapS x k) D.l3 hp u)
  have HQ := hid (fun u => iFitAir_f (hihS x k) (vapS x k) D.l3 hq u)
  have r1 := fun w => run_float_arith (P := Try.prog) w .add 22 .f32 _ _ _ D.a1
  have r2 := fun w => run_float_arith (P := Try.prog) w .mul 22 .f32 _ _ _ D.a2
  have r3 := fun w => run_float_arith (P := Try.prog) w .mul 22 .f32 _ _ _ D.a4
  have r4 := fun w => run_float_arith (P := Try.prog) w .add 22 .f32 _ _ _ D.a5
  have r5 := fun w => run_float_arith (P := Try.prog) w .mul 22 .f32 _ _ _ D.a6
  have r6 := fun w => run_float_arith (P := Try.prog) w .add 22 .f32 _ _ _ D.a7
  have r7 := fun w => run_float_arith (P := Try.prog) w .sub 22 .f32 _ _ _ D.a8
  clear D hq hp
  go_enter Try.func143, Try.ntmps143
  go_wp2_with fail
  refine (HD.out _).mono ?_
  rintro e w1 ⟨rfl, hb1⟩
  have k1 := hid (k0.out.stay hb1)
  have c2 : World.cell? w1 ⟨w.heap.size, 2, none⟩ = some (.float .f32 (x (k * 3 + 2))) := (cell_of_row w1 (w.heap.size) 2 _ _ _ (k1.out.at (x := (w.heap.size, #[.float .f32 (x (k * 3)), .float .f32 (x (k * 3 + 1)), .float .f32 (x (k * 3 + 2)), .float .f32 (x ((k + 1) * 3)), .float .f32 (x ((k + 1) * 3 + 1)), .float .f32 (x ((k + 1) * 3 + 2))], 214)) (by simp))).trans rfl
  have c5 : World.cell? w1 ⟨w.heap.size, 5, none⟩ = some (.float .f32 (x ((k + 1) * 3 + 2))) := (cell_of_row w1 (w.heap.size) 5 _ _ _ (k1.out.at (x := (w.heap.size, #[.float .f32 (x (k * 3)), .float .f32 (x (k * 3 + 1)), .float .f32 (x (k * 3 + 2)), .float .f32 (x ((k + 1) * 3)), .float .f32 (x ((k + 1) * 3 + 1)), .float .f32 (x ((k + 1) * 3 + 2))], 214)) (by simp))).trans rfl
  clear k0 hb1
  go_wp2_with fail
  refine (HP.out _).mono ?_
  rintro e w2 ⟨rfl, hb2⟩
  have k2 := hid (k1.out.stay hb2)
  clear k1 hb2 c2 c5 HP
  have tok1 : True := trivial
  go_wp2_with (have _t := tok1; clear tok1; refine store_part (w0 := w) (l := [(w.heap.size + 1, #[.float .f32 (0), .float .f32 (0), .float .f32 (0), .float .f32 (0), .float .f32 (0), .float .f32 (0)], 214)]) rfl 32 _ _ rfl (w.heap.size) 1 rfl #[.float .f32 (lohS x k), .float .f32 (vapS x k)] rfl #[.float .f32 (x (k * 3)), .float .f32 (x (k * 3 + 1)), .float .f32 (x (k * 3 + 2)), .float .f32 (x ((k + 1) * 3)), .float .f32 (x ((k + 1) * 3 + 1)), .float .f32 (x ((k + 1) * 3 + 2))] #[.float .f32 (x (k * 3)), .float .f32 (lohS x k), .float .f32 (vapS x k), .float .f32 (x ((k + 1) * 3)), .float .f32 (x ((k + 1) * 3 + 1)), .float .f32 (x ((k + 1) * 3 + 2))] 214 k2.out (Nat.le_refl _) (by first | (simp; done) | (simp; omega)) (by simp) info_air (by simp [Value.oneCell']) rfl (fun w3 k3 => ?_); replace k3 := hid k3; clear k2)
  refine (HQ.out _).mono ?_
  rintro e w4 ⟨rfl, hb4⟩
  have k4 := hid (k3.out.stay hb4)
  clear k3 hb4 HQ
  exact ⟨rfl, rfl, k4.out.1⟩

set_option maxRecDepth 100000 in
set_option maxHeartbeats 1000000 in
theorem iSteadied_ok (x : Nat → Nat) (k : Nat) (D : SteF x k) (hp : airB (lohS x k) (vapS x k) = true) (hq : airB (hihS x k) (vapS x k) = true) (w : World) :
    Calls Try.prog 143 #[.agg #[.float .f32 (x (k * 3)), .float .f32 (x (k * 3 + 1)), .float .f32 (x (k * 3 + 2)), .float .f32 (x ((k + 1) * 3)), .float .f32 (x ((k + 1) * 3 + 1)), .float .f32 (x ((k + 1) * 3 + 2))]] w fun e w' => e = .returned (.agg #[.float .f32 (x (k * 3)), .float .f32 (lohS x k), .float .f32 (vapS x k), .float .f32 (x ((k + 1) * 3)), .float .f32 (hihS x k), .float .f32 (vapS x k)]) ∧ Below w.heap.size w w' := by
  have k0 : Hid (Kept w [(w.heap.size, #[.float .f32 (x (k * 3)), .float .f32 (x (k * 3 + 1)), .float .f32 (x (k * 3 + 2)), .float .f32 (x ((k + 1) * 3)), .float .f32 (x ((k + 1) * 3 + 1)), .float .f32 (x ((k + 1) * 3 + 2))], 214), (w.heap.size + 1, #[.float .f32 (0), .float .f32 (0), .float .f32 (0), .float .f32 (0), .float .f32 (0), .float .f32 (0)], 214)] ((w.alloc (.cells #[.float .f32 (x (k * 3)), .float .f32 (x (k * 3 + 1)), .float .f32 (x (k * 3 + 2)), .float .f32 (x ((k + 1) * 3)), .float .f32 (x ((k + 1) * 3 + 1)), .float .f32 (x ((k + 1) * 3 + 2))] 214)).alloc (.cells #[.float .f32 (0), .float .f32 (0), .float .f32 (0), .float .f32 (0), .float .f32 (0), .float .f32 (0)] 214))) := hid ((((Kept.nil w).push _ _).push _ _).sub (by simp))
  have HD := hid (fun w => iDepth x k D.a3 w)
  have HP := hid (fun u => iFitAir_t (lohS x k) (vapS x k) D.l3 hp u)
  have HQ := hid (fun u => iFitAir_t (hihS x k) (vapS x k) D.l3 hq u)
  have r1 := fun w => run_float_arith (P := Try.prog) w .add 22 .f32 _ _ _ D.a1
  have r2 := fun w => run_float_arith (P := Try.prog) w .mul 22 .f32 _ _ _ D.a2
  have r3 := fun w => run_float_arith (P := Try.prog) w .mul 22 .f32 _ _ _ D.a4
  have r4 := fun w => run_float_arith (P := Try.prog) w .add 22 .f32 _ _ _ D.a5
  have r5 := fun w => run_float_arith (P := Try.prog) w .mul 22 .f32 _ _ _ D.a6
  have r6 := fun w => run_float_arith (P := Try.prog) w .add 22 .f32 _ _ _ D.a7
  have r7 := fun w => run_float_arith (P := Try.prog) w .sub 22 .f32 _ _ _ D.a8
  clear D hq hp
  go_enter Try.func143, Try.ntmps143
  go_wp2_with fail
  refine (HD.out _).mono ?_
  rintro e w1 ⟨rfl, hb1⟩
  have k1 := hid (k0.out.stay hb1)
  have c2 : World.cell? w1 ⟨w.heap.size, 2, none⟩ = some (.float .f32 (x (k * 3 + 2))) := (cell_of_row w1 (w.heap.size) 2 _ _ _ (k1.out.at (x := (w.heap.size, #[.float .f32 (x (k * 3)), .float .f32 (x (k * 3 + 1)), .float .f32 (x (k * 3 + 2)), .float .f32 (x ((k + 1) * 3)), .float .f32 (x ((k + 1) * 3 + 1)), .float .f32 (x ((k + 1) * 3 + 2))], 214)) (by simp))).trans rfl
  have c5 : World.cell? w1 ⟨w.heap.size, 5, none⟩ = some (.float .f32 (x ((k + 1) * 3 + 2))) := (cell_of_row w1 (w.heap.size) 5 _ _ _ (k1.out.at (x := (w.heap.size, #[.float .f32 (x (k * 3)), .float .f32 (x (k * 3 + 1)), .float .f32 (x (k * 3 + 2)), .float .f32 (x ((k + 1) * 3)), .float .f32 (x ((k + 1) * 3 + 1)), .float .f32 (x ((k + 1) * 3 + 2))], 214)) (by simp))).trans rfl
  clear k0 hb1
  go_wp2_with fail
  refine (HP.out _).mono ?_
  rintro e w2 ⟨rfl, hb2⟩
  have k2 := hid (k1.out.stay hb2)
  clear k1 hb2 c2 c5 HP
  have tok1 : True := trivial
  go_wp2_with (have _t := tok1; clear tok1; refine store_part (w0 := w) (l := [(w.heap.size + 1, #[.float .f32 (0), .float .f32 (0), .float .f32 (0), .float .f32 (0), .float .f32 (0), .float .f32 (0)], 214)]) rfl 32 _ _ rfl (w.heap.size) 1 rfl #[.float .f32 (lohS x k), .float .f32 (vapS x k)] rfl #[.float .f32 (x (k * 3)), .float .f32 (x (k * 3 + 1)), .float .f32 (x (k * 3 + 2)), .float .f32 (x ((k + 1) * 3)), .float .f32 (x ((k + 1) * 3 + 1)), .float .f32 (x ((k + 1) * 3 + 2))] #[.float .f32 (x (k * 3)), .float .f32 (lohS x k), .float .f32 (vapS x k), .float .f32 (x ((k + 1) * 3)), .float .f32 (x ((k + 1) * 3 + 1)), .float .f32 (x ((k + 1) * 3 + 2))] 214 k2.out (Nat.le_refl _) (by first | (simp; done) | (simp; omega)) (by simp) info_air (by simp [Value.oneCell']) rfl (fun w3 k3 => ?_); replace k3 := hid k3; clear k2)
  refine (HQ.out _).mono ?_
  rintro e w4 ⟨rfl, hb4⟩
  have k4 := hid (k3.out.stay hb4)
  clear k3 hb4 HQ
  have tok2 : True := trivial
  go_wp2_with (first | (have _t := tok2; clear tok2; refine store_part (w0 := w) (l := [(w.heap.size + 1, #[.float .f32 (0), .float .f32 (0), .float .f32 (0), .float .f32 (0), .float .f32 (0), .float .f32 (0)], 214)]) rfl 32 _ _ rfl (w.heap.size) 4 rfl #[.float .f32 (hihS x k), .float .f32 (vapS x k)] rfl #[.float .f32 (x (k * 3)), .float .f32 (lohS x k), .float .f32 (vapS x k), .float .f32 (x ((k + 1) * 3)), .float .f32 (x ((k + 1) * 3 + 1)), .float .f32 (x ((k + 1) * 3 + 2))] #[.float .f32 (x (k * 3)), .float .f32 (lohS x k), .float .f32 (vapS x k), .float .f32 (x ((k + 1) * 3)), .float .f32 (hihS x k), .float .f32 (vapS x k)] 214 k4.out (Nat.le_refl _) (by first | (simp; done) | (simp; omega)) (by simp) info_air (by simp [Value.oneCell']) rfl (fun w5 k5 => ?_); replace k5 := hid k5; clear k4; have tok3 : True := trivial) | (have _t := tok3; clear tok3; refine wpList_load_row rfl 214 _ rfl (w.heap.size) rfl 214 (#[.float .f32 (x (k * 3)), .float .f32 (lohS x k), .float .f32 (vapS x k), .float .f32 (x ((k + 1) * 3)), .float .f32 (hihS x k), .float .f32 (vapS x k)]) (0, 0) _ (k5.out.at (x := (w.heap.size, #[.float .f32 (x (k * 3)), .float .f32 (lohS x k), .float .f32 (vapS x k), .float .f32 (x ((k + 1) * 3)), .float .f32 (hihS x k), .float .f32 (vapS x k)], 214)) (by simp)) Try.underlying214 rfl info_lay ?_; have tok4 : True := trivial) | (have _t := tok4; clear tok4; refine store_kept (w0 := w) (l := [(w.heap.size, #[.float .f32 (x (k * 3)), .float .f32 (lohS x k), .float .f32 (vapS x k), .float .f32 (x ((k + 1) * 3)), .float .f32 (hihS x k), .float .f32 (vapS x k)], 214)]) rfl 214 _ _ rfl (w.heap.size + 1) (#[.float .f32 (x (k * 3)), .float .f32 (lohS x k), .float .f32 (vapS x k), .float .f32 (x ((k + 1) * 3)), .float .f32 (hihS x k), .float .f32 (vapS x k)]) rfl rfl 214 (#[.float .f32 (0), .float .f32 (0), .float .f32 (0), .float .f32 (0), .float .f32 (0), .float .f32 (0)]) (k5.out.swap) (by omega) (by first | (simp; done) | (simp; omega)) info_lay rfl (by simp [Value.oneCell']) (fun w7 k7 => ?_); replace k7 := hid k7))
  exact bodyPost_ret (results_cell_row rfl _ _ (w.heap.size + 1) 214 (#[.float .f32 (x (k * 3)), .float .f32 (lohS x k), .float .f32 (vapS x k), .float .f32 (x ((k + 1) * 3)), .float .f32 (hihS x k), .float .f32 (vapS x k)]) (0, 0) _ rfl (k7.out.at (x := (w.heap.size + 1, #[.float .f32 (x (k * 3)), .float .f32 (lohS x k), .float .f32 (vapS x k), .float .f32 (x ((k + 1) * 3)), .float .f32 (hihS x k), .float .f32 (vapS x k)], 214)) (by simp)) Try.underlying214 rfl info_lay) rfl ⟨rfl, k7.out.1⟩

set_option maxRecDepth 100000 in
theorem iDemF (n : Int) (hn : n ≠ 0) (w : World) : Calls Try.prog 144 #[.int .i64 n] w fun e w' => e = .panicked [{ v := .iface 241 (.int .i64 n), recovered := false }] ∧ w = w' := by
  have hcon : Try.prog.concrete 241 = true := by kernel_rfl
  go_enter Try.func144, Try.ntmps144
  go_wp2
  exact ⟨rfl, rfl, rfl⟩

theorem iFaultS (n : Int) (w : World) : Calls Try.prog 232 #[.int .i64 n] w fun e w' => e = .returned (.int .i64 n) ∧ w = w' := by
  go_enter Try.func232, Try.ntmps232
  go_wp2
  go_ret
  exact ⟨rfl, rfl⟩

@[go_sem] theorem as_step (v : Value) (w : World) : (Instr.typeAssert (.iface 241 v) 20 193 true).run Try.prog w = .ok (.tuple #[.iface 241 v, .bool true]) w := by kernel_rfl

theorem cm_step (v : Value) (w : World) : (callMethod (.iface 241 v) "loop.example/g01224/impl.fault" #[]).run Try.prog w = .ok (.enter 232 #[v]) w := by kernel_rfl

set_option maxRecDepth 100000 in
theorem iCodeOfS (n : Int) (w : World) : Calls Try.prog 71 #[.iface 241 (.int .i64 n)] w fun e w' => e = .returned (.int .i64 n) ∧ w = w' := by
  have hm := cm_step
  go_enter Try.func71, Try.ntmps71
  go_wp2_with fail
  refine (iFaultS n _).mono ?_
  rintro e w1 ⟨rfl, rfl⟩
  go_wp2
  go_ret
  exact ⟨rfl, rfl⟩

theorem partL {f : Nat → Value} {y : Nat → Nat} {n k : Nat} (hf : ∀ j, j < 3 * n → f j = .float .f32 (y j)) (hk : k < n) : (vls 3 fun j => f (k * 3 + j)) = #[.float .f32 (y (k * 3)), .float .f32 (y (k * 3 + 1)), .float .f32 (y (k * 3 + 2))] := by
  show (#[f (k * 3), f (k * 3 + 1), f (k * 3 + 2)] : Array Value) = _
  rw [hf _ (by omega), hf _ (by omega), hf _ (by omega)]

theorem iSteadied_ok6 (y : Nat → Nat) (k : Nat) (D : SteF y k) (hp : airB (lohS y k) (vapS y k) = true) (hq : airB (hihS y k) (vapS y k) = true) (w : World) :
    Calls Try.prog 143 #[.agg #[.float .f32 (y (k * 3)), .float .f32 (y (k * 3 + 1)), .float .f32 (y (k * 3 + 2)), .float .f32 (y ((k + 1) * 3)), .float .f32 (y ((k + 1) * 3 + 1)), .float .f32 (y ((k + 1) * 3 + 2))]] w fun e w' => e = .returned (.agg (vls 6 (flw fun j => steW y k (k * 3 + j)))) ∧ Below w.heap.size w w' := by
  have h := iSteadied_ok y k D hp hq w
  have e : (#[.float .f32 (y (k * 3)), .float .f32 (lohS y k), .float .f32 (vapS y k), .float .f32 (y ((k + 1) * 3)), .float .f32 (hihS y k), .float .f32 (vapS y k)] : Array Value) = vls 6 (flw fun j => steW y k (k * 3 + j)) := by
    have c0 : steW y k (k * 3) = y (k * 3) := steW_h y k k
    have c1 : steW y k (k * 3 + 1) = lohS y k := if_pos rfl
    have c2 : steW y k (k * 3 + 2) = vapS y k := by unfold steW; rw [if_neg (by omega), if_pos rfl]
    have c3 : steW y k (k * 3 + 3) = y ((k + 1) * 3) := by rw [show k * 3 + 3 = (k + 1) * 3 by omega]; exact steW_h y k (k + 1)
    have c4 : steW y k (k * 3 + 4) = hihS y k := by unfold steW; rw [if_neg (by omega), if_neg (by omega), if_pos (by omega)]
    have c5 : steW y k (k * 3 + 5) = vapS y k := by unfold steW; rw [if_neg (by omega), if_neg (by omega), if_neg (by omega), if_pos (by omega)]
    show _ = (#[.float .f32 (steW y k (k * 3)), .float .f32 (steW y k (k * 3 + 1)), .float .f32 (steW y k (k * 3 + 2)), .float .f32 (steW y k (k * 3 + 3)), .float .f32 (steW y k (k * 3 + 4)), .float .f32 (steW y k (k * 3 + 5))] : Array Value)
    rw [c0, c1, c2, c3, c4, c5]
  rw [e] at h
  exact h

theorem st_upd {f : Nat → Value} {y : Nat → Nat} {n k : Nat} (hf : ∀ j, j < 3 * n → f j = .float .f32 (y j)) : ∀ j, j < 3 * n → updR (updR f (k * 3) 3 (flw fun j => steW y k (k * 3 + j))) ((k + 1) * 3) 3 (flw fun j => steW y k (k * 3 + (3 + j))) j = .float .f32 (steW y k j) := fun j hj => by
  unfold updR
  split
  · show Value.float .f32 (steW y k (k * 3 + (3 + (j - (k + 1) * 3)))) = _
    rw [show k * 3 + (3 + (j - (k + 1) * 3)) = j by omega]
  · split
    · show Value.float .f32 (steW y k (k * 3 + (j - k * 3))) = _
      rw [show k * 3 + (j - k * 3) = j by omega]
    · rw [hf j hj]
      have : steW y k j = y j := by unfold steW; rw [if_neg (by omega), if_neg (by omega), if_neg (by omega), if_neg (by omega)]
      rw [this]

theorem no_st {n : Nat} {y : Nat → Nat} (h : firstB (unB y) (n - 1) = none) : ¬ StOk n y := fun ⟨k, e, _⟩ => by rw [h] at e; cases e

def badS (y : Nat → Nat) (k : Nat) : Nat := if airB (lohS y k) (vapS y k) = true then hihS y k else lohS y k

set_option maxRecDepth 100000 in
set_option maxHeartbeats 1000000 in
theorem iRounds (n cap B N : Nat) (x : Nat → Nat) (hx : W32 x) (hs : SouF n x) (K : Nat) (hK : K ≤ 200) (hM : ∀ j, j < K → StOk n (stR n x j)) (hN : K < 200 → ¬ StOk n (stR n x K)) (E : Ending)
    (h0 : firstB (unB (stR n x K)) (n - 1) = none → E = .returned (.int .i64 K))
    (h7 : K = 200 → ∀ k, firstB (unB (stR n x K)) (n - 1) = some k → E = .panicked [{ v := .iface 241 (.int .i64 7), recovered := false }])
    (h4 : K < 200 → ∀ k, firstB (unB (stR n x K)) (n - 1) = some k → E = .panicked [{ v := .iface 255 (.agg #[.float .f32 (badS (stR n x K) k), .float .f32 (vapS (stR n x K) k)]), recovered := false }])
    (w0 : World) (l : List (Nat × Array Value × TypeId)) (f : Nat → Value) (w : World) (hk : Kept w0 ((B, vls N f, 153) :: l) w) (hf : ∀ j, j < 3 * n → f j = .float .f32 (x j)) (hN3 : 3 * n ≤ N) (hB : w0.heap.size ≤ B) (hl : ∀ x ∈ l, x.1 ≠ B) :
    Calls Try.prog 97 #[.slice (some ⟨B, 0, none⟩) n cap] w fun e w' => e = E ∧ ∃ f', (∀ j, j < 3 * n → f' j = .float .f32 (stR n x K j)) ∧ Kept w0 ((B, vls N f', 153) :: l) w' := by
  have k0 := hid hk
  have HF0 := hid hf
  have HX := hid hx
  have HS := hid hs
  have HM := hid hM
  have HN := hid hN
  have HB := hid hB
  have HLL := hid hl
  have H0 := hid h0
  have H7 := hid h7
  have H4 := hid h4
  have HNN : Hid (n ≤ 1048576) := hid (by have := hs.hi; omega)
  clear hk hf hx hs hM hN hB hl h0 h7 h4
  go_enter Try.func97, Try.ntmps97
  go_wp2_with fail
  go_loopw [9] (fun i wr => ∃ (kk : Nat) (f : Nat → Value), kk ≤ K ∧ i = .int .i64 kk ∧ Hid (∀ j, j < 3 * n → f j = .float .f32 (stR n x kk j)) ∧ Hid (Kept w0 ((B, vls N f, 153) :: l) wr)) (fun i _ => 200 - (intOf i).toNat)
  case atStart => exact ⟨0, f, Nat.zero_le _, rfl, HF0, k0⟩
  case round =>
    clear k0 HF0
    obtain ⟨kk, f, hkk, rfl, HF, h0⟩ := hrel
    have S := stR_ok HX.out HS.out (K := kk) (fun j hj => HM.out j (by omega))
    have HU := hid (fun (r : Int) (q : Bool) hr => iFirstUnsteady (.slice (some ⟨B, 0, none⟩) n cap) n (stR n x kk) HNN.out wr ((lv_vls hN3 HF.out).rd (h0.out.v in0) cap) (fun k hk => un_facts S.1 S.2 hk) r q hr)
    have HST := hid (fun k hk => ste_facts S.1 S.2 (i := k) hk)
    clear S
    by_cases hlt : kk < 200
    · have hk3 : (kk : Int) < 200 := by omega
      rcases hfb : firstB (unB (stR n x kk)) (n - 1) with _ | k
      · obtain rfl : kk = K := by
          by_cases e : kk < K
          · exact absurd (HM.out kk e) (no_st hfb)
          · omega
        have EE := hid (H0.out hfb)
        have HC := hid (HU.out 0 false (by rw [hfb]))
        clear HU HST hfb H0 H7 H4
        go_wp2_with fail
        refine HC.out.mono ?_
        rintro e w2 ⟨rfl, hb2⟩
        have k2 := hid (h0.out.stay hb2)
        clear h0 hb2 HC
        go_wp2
        go_ret
        exact ⟨EE.out.symm, f, HF.out, k2.out⟩
      · have HL : Hid (k + 1 < n) := hid (by have := firstB_lt hfb; omega)
        have SF0 := hid (HST.out k HL.out)
        have HC := hid (HU.out (k : Int) true (by rw [hfb]))
        have hk32 : k < 32 := by have := HS.out.hi; have := HL.out; omega
        have rk : ∀ w, (binOp .add 3 (.int .i64 (k : Int)) (.int .i64 1)).run Try.prog w = .ok (.int .i64 ((k : Int) + 1)) w := fun w => by simp [go_sem]; rw [IntKind.wrap_i64]; omega
        have ix0 := fun w => run_indexAt (P := Try.prog) (t := 78) (e := 153) Try.underlying78 info_lev (b := B) (o := 0) (n := n) (cap := cap) (k := k) (by have := HL.out; omega) w
        have ix1 := fun w => run_indexAt1 (P := Try.prog) (t := 78) (e := 153) Try.underlying78 info_lev (b := B) (o := 0) (n := n) (cap := cap) (k := k) HL.out w
        simp only [Nat.zero_add] at ix0 ix1
        clear HU HST
        by_cases hKk : kk < K
        · have HLT := hid hKk
          have e2 : stR n x (kk + 1) = steW (stR n x kk) k := by simp only [stR, hfb]
          obtain ⟨k', e3, ha⟩ := HM.out kk hKk
          obtain rfl : k = k' := by rw [hfb] at e3; injection e3
          have ha2 : airB (lohS (stR n x kk) k) (vapS (stR n x kk) k) = true ∧ airB (hihS (stR n x kk) k) (vapS (stR n x kk) k) = true := by simpa [airsB] using ha
          have HE := hid e2
          have HP0 := hid ha2.1
          have HQ0 := hid ha2.2
          clear hfb e3 ha ha2 e2 hKk hkk H0 H7 H4
          obtain ⟨y, hy⟩ : ∃ y, stR n x kk = y := ⟨_, rfl⟩
          rw [hy] at HF HE HP0 HQ0 SF0
          have SF := hid SF0.out
          have HP := hid HP0.out
          have HQ := hid HQ0.out
          clear SF0 HP0 HQ0 hy
          go_wp2_with fail
          refine HC.out.mono ?_
          rintro e w2 ⟨rfl, hb2⟩
          have k2 := hid (h0.out.stay hb2)
          clear h0 hb2 HC
          go_wp2_with fail
          refine region_act (w0 := w0) (lk := (B, vls N f, 153) :: l) (fun a0 a1 wq => ∃ g6 : Nat, a1 = ((((((((((((a0.put (some 20) (.slice (some ⟨B, 0, none⟩) n cap)).put (some 21) (.int .i64 (k : Int))).put (some 22) (.pointer (some ⟨B, k * 3, none⟩))).put (some 23) (.agg #[.float .f32 (y (k * 3)), .float .f32 (y (k * 3 + 1)), .float .f32 (y (k * 3 + 2))])).put (some 24) (.slice (some ⟨B, 0, none⟩) n cap)).put (some 25) (.int .i64 (k : Int))).put (some 26) (.int .i64 ((k : Int) + 1))).put (some 27) (.pointer (some ⟨B, (k + 1) * 3, none⟩))).put (some 28) (.agg #[.float .f32 (y ((k + 1) * 3)), .float .f32 (y ((k + 1) * 3 + 1)), .float .f32 (y ((k + 1) * 3 + 2))])).put (some 29) (.agg #[.float .f32 (y (k * 3)), .float .f32 (y (k * 3 + 1)), .float .f32 (y (k * 3 + 2)), .float .f32 (y ((k + 1) * 3)), .float .f32 (y ((k + 1) * 3 + 1)), .float .f32 (y ((k + 1) * 3 + 2))])).put (some 30) (.agg (vls 6 (flw fun j => steW y k (k * 3 + j))))).put (some 6) (.pointer (some ⟨g6, 0, none⟩))) ∧ w0.heap.size ≤ g6 ∧ g6 ≠ B ∧ (∀ x ∈ l, x.1 ≠ g6) ∧ Kept w0 ((g6, vls 6 (flw fun j => steW y k (k * 3 + j)), 214) :: (B, vls N f, 153) :: l) wq) 13 #[false, false, false, false, false, false, false, false, false, false, false, false, false] (by kernel_rfl) rfl rfl ?_ ?_
          · have kd := k2.out.drew
            generalize World.drew _ = wd at kd ⊢
            refine take_val 0 _ _ (.slice (some ⟨B, 0, none⟩) n cap) rfl (by rfl) (by kernel_rfl) (by kernel_rfl) (by kernel_rfl) (fun w => by rfl) rfl rfl kd ?_
            simp only [Act.put, List.setIfInBounds_toArray, List.set_cons_zero, List.set_cons_succ]
            refine take_val 1 _ _ (.int .i64 (k : Int)) rfl (by rfl) (by kernel_rfl) (by kernel_rfl) (by kernel_rfl) (fun w => by rfl) rfl rfl kd ?_
            simp only [Act.put, List.setIfInBounds_toArray, List.set_cons_zero, List.set_cons_succ]
            refine take_val 2 _ _ (.pointer (some ⟨B, k * 3, none⟩)) rfl (by rfl) (by kernel_rfl) (by kernel_rfl) (by kernel_rfl) (fun w => by unfold execOp; go_simp) rfl rfl kd ?_
            simp only [Act.put, List.setIfInBounds_toArray, List.set_cons_zero, List.set_cons_succ]
            refine take_cell 3 _ _ (.agg #[.float .f32 (y (k * 3)), .float .f32 (y (k * 3 + 1)), .float .f32 (y (k * 3 + 2))]) rfl (by rfl) (by kernel_rfl) (by kernel_rfl) (by kernel_rfl) (fun wq hS => run_load_as 153 _ B (k * 3) 3 rfl (hS.v in0) (by have := HL.out; omega) #[.float .f32 (y (k * 3)), .float .f32 (y (k * 3 + 1)), .float .f32 (y (k * 3 + 2))] (partL HF.out (by have := HL.out; omega)) _ Try.underlying153 (by rfl) info_lev) rfl rfl kd ?_
            simp only [Act.put, List.setIfInBounds_toArray, List.set_cons_zero, List.set_cons_succ]
            refine take_val 4 _ _ (.slice (some ⟨B, 0, none⟩) n cap) rfl (by rfl) (by kernel_rfl) (by kernel_rfl) (by kernel_rfl) (fun w => by rfl) rfl rfl kd ?_
            simp only [Act.put, List.setIfInBounds_toArray, List.set_cons_zero, List.set_cons_succ]
            refine take_val 5 _ _ (.int .i64 (k : Int)) rfl (by rfl) (by kernel_rfl) (by kernel_rfl) (by kernel_rfl) (fun w => by rfl) rfl rfl kd ?_
            simp only [Act.put, List.setIfInBounds_toArray, List.set_cons_zero, List.set_cons_succ]
            refine take_val 6 _ _ (.int .i64 ((k : Int) + 1)) rfl (by rfl) (by kernel_rfl) (by kernel_rfl) (by kernel_rfl) (fun w => run_binop_val _ _ _ _ (by rfl) (by rfl) (by simp [eqGuard]) (rk w)) rfl rfl kd ?_
            simp only [Act.put, List.setIfInBounds_toArray, List.set_cons_zero, List.set_cons_succ]
            refine take_val 7 _ _ (.pointer (some ⟨B, (k + 1) * 3, none⟩)) rfl (by rfl) (by kernel_rfl) (by kernel_rfl) (by kernel_rfl) (fun w => by unfold execOp; go_simp) rfl rfl kd ?_
            simp only [Act.put, List.setIfInBounds_toArray, List.set_cons_zero, List.set_cons_succ]
            refine take_cell 8 _ _ (.agg #[.float .f32 (y ((k + 1) * 3)), .float .f32 (y ((k + 1) * 3 + 1)), .float .f32 (y ((k + 1) * 3 + 2))]) rfl (by rfl) (by kernel_rfl) (by kernel_rfl) (by kernel_rfl) (fun wq hS => run_load_as 153 _ B ((k + 1) * 3) 3 rfl (hS.v in0) (by have := HL.out; omega) #[.float .f32 (y ((k + 1) * 3)), .float .f32 (y ((k + 1) * 3 + 1)), .float .f32 (y ((k + 1) * 3 + 2))] (partL HF.out (k := k + 1) (by have := HL.out; omega)) _ Try.underlying153 (by rfl) info_lev) rfl rfl kd ?_
            simp only [Act.put, List.setIfInBounds_toArray, List.set_cons_zero, List.set_cons_succ]
            refine take_val 9 _ _ (.agg #[.float .f32 (y (k * 3)), .float .f32 (y (k * 3 + 1)), .float .f32 (y (k * 3 + 2)), .float .f32 (y ((k + 1) * 3)), .float .f32 (y ((k + 1) * 3 + 1)), .float .f32 (y ((k + 1) * 3 + 2))]) rfl (by rfl) (by kernel_rfl) (by kernel_rfl) (by kernel_rfl) (fun w => by unfold execOp; go_simp) rfl rfl kd ?_
            simp only [Act.put, List.setIfInBounds_toArray, List.set_cons_zero, List.set_cons_succ]
            refine wpAnyH_ready (rs := [10, 11]) (by kernel_rfl) (by simp) ?_
            refine callK 10 _ _ (.agg (vls 6 (flw fun j => steW y k (k * 3 + j)))) kd rfl (by rfl) 143 #[.agg #[.float .f32 (y (k * 3)), .float .f32 (y (k * 3 + 1)), .float .f32 (y (k * 3 + 2)), .float .f32 (y ((k + 1) * 3)), .float .f32 (y ((k + 1) * 3 + 1)), .float .f32 (y ((k + 1) * 3 + 2))]] (fun w => by unfold execOp; go_simp) rfl rfl ?hc1 (fun w1 k1 => ?_) ?_
            case hc1 => exact iSteadied_ok6 y k SF.out HP.out HQ.out _
            · refine ⟨k1, ?_⟩
              simp only [Act.put, List.setIfInBounds_toArray, List.set_cons_zero, List.set_cons_succ]
              refine wpAnyH_ready (rs := [11]) (by kernel_rfl) (by simp) ?_
              refine allocK 11 (fun g => _) _ k1 rfl (by rfl) (#[.float .f32 0, .float .f32 0, .float .f32 0, .float .f32 0, .float .f32 0, .float .f32 0]) 214 (by unfold execOp; go_simp) (fun g => rfl) rfl (fun w2 g2 k2 hB2 hn2 => ?_) AllReadyH.nil
              refine ⟨k2.tail, ?_⟩
              simp only [Act.put, List.setIfInBounds_toArray, List.set_cons_zero, List.set_cons_succ]
              refine wpAnyH_ready (rs := [12]) (by kernel_rfl) (by simp) ?_
              refine storeK 12 _ _ k2 hB2 hn2 rfl (by rfl) 214 _ _ rfl (vls 6 (flw fun j => steW y k (k * 3 + j))) rfl rfl (by rw [vls_size]; exact info_lay) (by simp) (vls_one (fun _ => rfl)) rfl rfl (fun w3 k3 => ?_) AllReadyH.nil
              refine ⟨k3.tail, ?_⟩
              refine wpAnyH_done (by kernel_rfl) ?_ _
              exact ⟨rfl, g2, rfl, hB2, (hn2 (B, vls N f, 153) in0).symm, fun x hx => hn2 x (List.mem_cons_of_mem _ hx), k3⟩
            refine allocK 11 (fun g => _) _ kd rfl (by rfl) (#[.float .f32 0, .float .f32 0, .float .f32 0, .float .f32 0, .float .f32 0, .float .f32 0]) 214 (by unfold execOp; go_simp) (fun g => rfl) rfl (fun w4 g4 k4 hB4 hn4 => ?_) AllReadyH.nil
            refine ⟨k4.tail, ?_⟩
            simp only [Act.put, List.setIfInBounds_toArray, List.set_cons_zero, List.set_cons_succ]
            refine wpAnyH_ready (rs := [10]) (by kernel_rfl) (by simp) ?_
            refine callK 10 _ _ (.agg (vls 6 (flw fun j => steW y k (k * 3 + j)))) k4 rfl (by rfl) 143 #[.agg #[.float .f32 (y (k * 3)), .float .f32 (y (k * 3 + 1)), .float .f32 (y (k * 3 + 2)), .float .f32 (y ((k + 1) * 3)), .float .f32 (y ((k + 1) * 3 + 1)), .float .f32 (y ((k + 1) * 3 + 2))]] (fun w => by unfold execOp; go_simp) rfl rfl ?hc5 (fun w5 k5 => ?_) AllReadyH.nil
            case hc5 => exact iSteadied_ok6 y k SF.out HP.out HQ.out _
            refine ⟨k5.tail, ?_⟩
            simp only [Act.put, List.setIfInBounds_toArray, List.set_cons_zero, List.set_cons_succ]
            refine wpAnyH_ready (rs := [12]) (by kernel_rfl) (by simp) ?_
            refine storeK 12 _ _ k5 hB4 hn4 rfl (by rfl) 214 _ _ rfl (vls 6 (flw fun j => steW y k (k * 3 + j))) rfl rfl (by rw [vls_size]; exact info_lay) (by simp) (vls_one (fun _ => rfl)) rfl rfl (fun w6 k6 => ?_) AllReadyH.nil
            refine ⟨k6.tail, ?_⟩
            refine wpAnyH_done (by kernel_rfl) ?_ _
            exact ⟨rfl, g4, rfl, hB4, (hn4 (B, vls N f, 153) in0).symm, fun x hx => hn4 x (List.mem_cons_of_mem _ hx), k6⟩
          rintro a1 wx ⟨g6, rfl, hB6, hg6, hl6, k3⟩
          have k3 := hid k3
          have HNE : Hid (∀ x ∈ (g6, vls 6 (flw fun j => steW y k (k * 3 + j)), 214) :: l, x.1 ≠ B) := hid (neC hg6 HLL.out)
          clear k2 hB6 hg6 hl6 SF HP HQ
          simp only [Act.put, List.setIfInBounds_toArray, List.set_cons_zero, List.set_cons_succ]
          go_wp2_with fail
          refine region_act (w0 := w0) (lk := (g6, vls 6 (flw fun j => steW y k (k * 3 + j)), 214) :: l) (fun a0 a1 wq => a1 = (((((((((((a0.put (some 31) (.slice (some ⟨B, 0, none⟩) n cap)).put (some 32) (.int .i64 (k : Int))).put (some 33) (.slice (some ⟨B, 0, none⟩) n cap)).put (some 34) (.int .i64 (k : Int))).put (some 35) (.int .i64 ((k : Int) + 1))).put (some 36) (.pointer (some ⟨g6, 0, none⟩))).put (some 37) (.agg (vls 3 (flw fun j => steW y k (k * 3 + j))))).put (some 38) (.pointer (some ⟨g6, 3, none⟩))).put (some 39) (.agg (vls 3 (flw fun j => steW y k (k * 3 + (3 + j)))))).put (some 40) (.pointer (some ⟨B, k * 3, none⟩))).put (some 41) (.pointer (some ⟨B, (k + 1) * 3, none⟩))) ∧ Kept w0 ((B, vls N (updR (updR f (k * 3) 3 (flw fun j => steW y k (k * 3 + j))) ((k + 1) * 3) 3 (flw fun j => steW y k (k * 3 + (3 + j)))), 153) :: (g6, vls 6 (flw fun j => steW y k (k * 3 + j)), 214) :: l) wq) 13 #[false, false, false, false, false, false, false, false, false, false, false, false, false] (by kernel_rfl) rfl rfl ?_ ?_
          · have kd := k3.out.swap.drew
            generalize World.drew _ = wd at kd ⊢
            refine take_val 0 _ _ (.slice (some ⟨B, 0, none⟩) n cap) rfl (by rfl) (by kernel_rfl) (by kernel_rfl) (by kernel_rfl) (fun w => by rfl) rfl rfl kd.tail ?_
            simp only [Act.put, List.setIfInBounds_toArray, List.set_cons_zero, List.set_cons_succ]
            refine take_val 1 _ _ (.int .i64 (k : Int)) rfl (by rfl) (by kernel_rfl) (by kernel_rfl) (by kernel_rfl) (fun w => by rfl) rfl rfl kd.tail ?_
            simp only [Act.put, List.setIfInBounds_toArray, List.set_cons_zero, List.set_cons_succ]
            refine take_val 2 _ _ (.slice (some ⟨B, 0, none⟩) n cap) rfl (by rfl) (by kernel_rfl) (by kernel_rfl) (by kernel_rfl) (fun w => by rfl) rfl rfl kd.tail ?_
            simp only [Act.put, List.setIfInBounds_toArray, List.set_cons_zero, List.set_cons_succ]
            refine take_val 3 _ _ (.int .i64 (k : Int)) rfl (by rfl) (by kernel_rfl) (by kernel_rfl) (by kernel_rfl) (fun w => by rfl) rfl rfl kd.tail ?_
            simp only [Act.put, List.setIfInBounds_toArray, List.set_cons_zero, List.set_cons_succ]
            refine take_val 4 _ _ (.int .i64 ((k : Int) + 1)) rfl (by rfl) (by kernel_rfl) (by kernel_rfl) (by kernel_rfl) (fun w => run_binop_val _ _ _ _ (by rfl) (by rfl) (by simp [eqGuard]) (rk w)) rfl rfl kd.tail ?_
            simp only [Act.put, List.setIfInBounds_toArray, List.set_cons_zero, List.set_cons_succ]
            refine take_val 5 _ _ (.pointer (some ⟨g6, 0, none⟩)) rfl (by rfl) (by kernel_rfl) (by kernel_rfl) (by kernel_rfl) (fun w => by unfold execOp; go_simp) rfl rfl kd.tail ?_
            simp only [Act.put, List.setIfInBounds_toArray, List.set_cons_zero, List.set_cons_succ]
            refine take_cell 6 _ _ (.agg (vls 3 (flw fun j => steW y k (k * 3 + j)))) rfl (by rfl) (by kernel_rfl) (by kernel_rfl) (by kernel_rfl) (fun wq hS => run_load_as 153 _ g6 0 3 rfl (hS.v in0) (by decide) (vls 3 (flw fun j => steW y k (k * 3 + j))) (vls_ext (fun i _ => by rw [Nat.zero_add])) _ Try.underlying153 (by rfl) info_lev) rfl rfl kd.tail ?_
            simp only [Act.put, List.setIfInBounds_toArray, List.set_cons_zero, List.set_cons_succ]
            refine take_val 7 _ _ (.pointer (some ⟨g6, 3, none⟩)) rfl (by rfl) (by kernel_rfl) (by kernel_rfl) (by kernel_rfl) (fun w => by unfold execOp; go_simp) rfl rfl kd.tail ?_
            simp only [Act.put, List.setIfInBounds_toArray, List.set_cons_zero, List.set_cons_succ]
            refine take_cell 8 _ _ (.agg (vls 3 (flw fun j => steW y k (k * 3 + (3 + j))))) rfl (by rfl) (by kernel_rfl) (by kernel_rfl) (by kernel_rfl) (fun wq hS => run_load_as 153 _ g6 3 3 rfl (hS.v in0) (by decide) (vls 3 (flw fun j => steW y k (k * 3 + (3 + j)))) (rfl) _ Try.underlying153 (by rfl) info_lev) rfl rfl kd.tail ?_
            simp only [Act.put, List.setIfInBounds_toArray, List.set_cons_zero, List.set_cons_succ]
            refine take_val 9 _ _ (.pointer (some ⟨B, k * 3, none⟩)) rfl (by rfl) (by kernel_rfl) (by kernel_rfl) (by kernel_rfl) (fun w => by unfold execOp; go_simp) rfl rfl kd.tail ?_
            simp only [Act.put, List.setIfInBounds_toArray, List.set_cons_zero, List.set_cons_succ]
            refine wpAnyH_ready (rs := [10]) (by kernel_rfl) (by simp) ?_
            refine storeCutK 10 _ kd HB.out HNE.out rfl (by rfl) 153 _ _ rfl (k * 3) 3 (flw fun j => steW y k (k * 3 + j)) (vls 3 (flw fun j => steW y k (k * 3 + j))) rfl (by have := HL.out; omega) rfl rfl (fun _ => rfl) info_lev rfl (fun w6 k6 => ?_) AllReadyH.nil
            refine ⟨k6.tail, ?_⟩
            simp only [Act.put, List.setIfInBounds_toArray, List.set_cons_zero, List.set_cons_succ]
            refine take_val 11 _ _ (.pointer (some ⟨B, (k + 1) * 3, none⟩)) rfl (by rfl) (by kernel_rfl) (by kernel_rfl) (by kernel_rfl) (fun w => by unfold execOp; go_simp) rfl rfl k6.tail ?_
            simp only [Act.put, List.setIfInBounds_toArray, List.set_cons_zero, List.set_cons_succ]
            refine wpAnyH_ready (rs := [12]) (by kernel_rfl) (by simp) ?_
            refine storeCutK 12 _ k6 HB.out HNE.out rfl (by rfl) 153 _ _ rfl ((k + 1) * 3) 3 (flw fun j => steW y k (k * 3 + (3 + j))) (vls 3 (flw fun j => steW y k (k * 3 + (3 + j)))) rfl (by have := HL.out; omega) rfl rfl (fun _ => rfl) info_lev rfl (fun w7 k7 => ?_) AllReadyH.nil
            refine ⟨k7.tail, ?_⟩
            refine wpAnyH_done (by kernel_rfl) ?_ _
            exact ⟨rfl, rfl, k7⟩
          rintro a1 wy ⟨rfl, k4⟩
          have k4 := hid k4
          clear k3
          simp only [Act.put, List.setIfInBounds_toArray, List.set_cons_zero, List.set_cons_succ]
          go_wp2_with fail
          go_roundw
          case rel => exact ⟨kk + 1, _, HLT.out, by go_num, hid (by rw [HE.out]; exact st_upd HF.out), hid (k4.out.swap.tail)⟩
          case measure => simp [intOf]; omega
        · obtain rfl : kk = K := by omega
          have hnot : airsB (stR n x kk) k = false := by
            rcases h : airsB (stR n x kk) k with _ | _
            · rfl
            · exact absurd ⟨k, hfb, h⟩ (HN.out hlt)
          have EE0 := hid (H4.out hlt k hfb)
          have HFO := hid HF.out
          clear hfb hKk hkk H0 H7 H4
          rcases hp : airB (lohS (stR n x kk) k) (vapS (stR n x kk) k) with _ | _
          · have hbad : badS (stR n x kk) k = lohS (stR n x kk) k := by unfold badS; rw [if_neg (by rw [hp]; decide)]
            rw [hbad] at EE0
            have HQ := hid hp
            have SF := hid SF0.out
            have EE := hid EE0.out
            clear hp hnot hbad SF0 EE0
            go_wp2_with fail
            refine HC.out.mono ?_
            rintro e w2 ⟨rfl, hb2⟩
            have k2 := hid (h0.out.stay hb2)
            clear h0 hb2 HC
            go_wp2_with fail
            refine region_S (S := Kept w0 ((B, vls N f, 153) :: l)) 13 #[false, false, false, false, false, false, false, false, false, false, false, false, false] (by kernel_rfl) rfl rfl (by intro c a d v w h; cases d <;> exact h) (fun Q' PB _ HPAN => ?_)
            have kd := k2.out.drew
            generalize World.drew _ = wd at kd ⊢
            refine takeP_val PB 0 (.slice (some ⟨B, 0, none⟩) n cap) rfl (by rfl) (by kernel_rfl) (by kernel_rfl) (by kernel_rfl) (fun w => by rfl) kd ?_
            simp only [Act.put, List.setIfInBounds_toArray, List.set_cons_zero, List.set_cons_succ]
            refine takeP_val PB 1 (.int .i64 (k : Int)) rfl (by rfl) (by kernel_rfl) (by kernel_rfl) (by kernel_rfl) (fun w => by rfl) kd ?_
            simp only [Act.put, List.setIfInBounds_toArray, List.set_cons_zero, List.set_cons_succ]
            refine takeP_val PB 2 (.pointer (some ⟨B, k * 3, none⟩)) rfl (by rfl) (by kernel_rfl) (by kernel_rfl) (by kernel_rfl) (fun w => by unfold execOp; go_simp) kd ?_
            simp only [Act.put, List.setIfInBounds_toArray, List.set_cons_zero, List.set_cons_succ]
            refine takeP_cell PB 3 (.agg #[.float .f32 (stR n x kk (k * 3)), .float .f32 (stR n x kk (k * 3 + 1)), .float .f32 (stR n x kk (k * 3 + 2))]) rfl (by rfl) (by kernel_rfl) (by kernel_rfl) (by kernel_rfl) (fun wq hS => run_load_as 153 _ B (k * 3) 3 rfl (hS.v in0) (by have := HL.out; omega) #[.float .f32 (stR n x kk (k * 3)), .float .f32 (stR n x kk (k * 3 + 1)), .float .f32 (stR n x kk (k * 3 + 2))] (partL HF.out (by have := HL.out; omega)) _ Try.underlying153 (by rfl) info_lev) kd ?_
            simp only [Act.put, List.setIfInBounds_toArray, List.set_cons_zero, List.set_cons_succ]
            refine takeP_val PB 4 (.slice (some ⟨B, 0, none⟩) n cap) rfl (by rfl) (by kernel_rfl) (by kernel_rfl) (by kernel_rfl) (fun w => by rfl) kd ?_
            simp only [Act.put, List.setIfInBounds_toArray, List.set_cons_zero, List.set_cons_succ]
            refine takeP_val PB 5 (.int .i64 (k : Int)) rfl (by rfl) (by kernel_rfl) (by kernel_rfl) (by kernel_rfl) (fun w => by rfl) kd ?_
            simp only [Act.put, List.setIfInBounds_toArray, List.set_cons_zero, List.set_cons_succ]
            refine takeP_val PB 6 (.int .i64 ((k : Int) + 1)) rfl (by rfl) (by kernel_rfl) (by kernel_rfl) (by kernel_rfl) (fun w => run_binop_val _ _ _ _ (by rfl) (by rfl) (by simp [eqGuard]) (rk w)) kd ?_
            simp only [Act.put, List.setIfInBounds_toArray, List.set_cons_zero, List.set_cons_succ]
            refine takeP_val PB 7 (.pointer (some ⟨B, (k + 1) * 3, none⟩)) rfl (by rfl) (by kernel_rfl) (by kernel_rfl) (by kernel_rfl) (fun w => by unfold execOp; go_simp) kd ?_
            simp only [Act.put, List.setIfInBounds_toArray, List.set_cons_zero, List.set_cons_succ]
            refine takeP_cell PB 8 (.agg #[.float .f32 (stR n x kk ((k + 1) * 3)), .float .f32 (stR n x kk ((k + 1) * 3 + 1)), .float .f32 (stR n x kk ((k + 1) * 3 + 2))]) rfl (by rfl) (by kernel_rfl) (by kernel_rfl) (by kernel_rfl) (fun wq hS => run_load_as 153 _ B ((k + 1) * 3) 3 rfl (hS.v in0) (by have := HL.out; omega) #[.float .f32 (stR n x kk ((k + 1) * 3)), .float .f32 (stR n x kk ((k + 1) * 3 + 1)), .float .f32 (stR n x kk ((k + 1) * 3 + 2))] (partL HF.out (k := k + 1) (by have := HL.out; omega)) _ Try.underlying153 (by rfl) info_lev) kd ?_
            simp only [Act.put, List.setIfInBounds_toArray, List.set_cons_zero, List.set_cons_succ]
            refine takeP_val PB 9 (.agg #[.float .f32 (stR n x kk (k * 3)), .float .f32 (stR n x kk (k * 3 + 1)), .float .f32 (stR n x kk (k * 3 + 2)), .float .f32 (stR n x kk ((k + 1) * 3)), .float .f32 (stR n x kk ((k + 1) * 3 + 1)), .float .f32 (stR n x kk ((k + 1) * 3 + 2))]) rfl (by rfl) (by kernel_rfl) (by kernel_rfl) (by kernel_rfl) (fun w => by unfold execOp; go_simp) kd ?_
            simp only [Act.put, List.setIfInBounds_toArray, List.set_cons_zero, List.set_cons_succ]
            refine wpAnyH_ready (rs := [10, 11]) (by kernel_rfl) (by simp) ?_
            refine callP 10 _ kd rfl (by rfl) 143 #[.agg #[.float .f32 (stR n x kk (k * 3)), .float .f32 (stR n x kk (k * 3 + 1)), .float .f32 (stR n x kk (k * 3 + 2)), .float .f32 (stR n x kk ((k + 1) * 3)), .float .f32 (stR n x kk ((k + 1) * 3 + 1)), .float .f32 (stR n x kk ((k + 1) * 3 + 2))]] (fun w => by unfold execOp; go_simp) (iSteadied_f1 (stR n x kk) k SF.out HQ.out _) (fun w1 k1 => ?_) ?_
            exact HPAN _ _ _ ⟨rfl, EE.out.symm, f, HF.out, by first | exact k1 | exact k1.tail⟩
            refine allocK 11 (fun g => _) _ kd rfl (by rfl) (#[.float .f32 0, .float .f32 0, .float .f32 0, .float .f32 0, .float .f32 0, .float .f32 0]) 214 (by unfold execOp; go_simp) (fun g => rfl) rfl (fun w2 g2 k2 hB2 hn2 => ?_) AllReadyH.nil
            refine ⟨k2.tail, ?_⟩
            simp only [Act.put, List.setIfInBounds_toArray, List.set_cons_zero, List.set_cons_succ]
            refine wpAnyH_ready (rs := [10]) (by kernel_rfl) (by simp) ?_
            refine callP 10 _ k2 rfl (by rfl) 143 #[.agg #[.float .f32 (stR n x kk (k * 3)), .float .f32 (stR n x kk (k * 3 + 1)), .float .f32 (stR n x kk (k * 3 + 2)), .float .f32 (stR n x kk ((k + 1) * 3)), .float .f32 (stR n x kk ((k + 1) * 3 + 1)), .float .f32 (stR n x kk ((k + 1) * 3 + 2))]] (fun w => by unfold execOp; go_simp) (iSteadied_f1 (stR n x kk) k SF.out HQ.out _) (fun w3 k3 => ?_) AllReadyH.nil
            exact HPAN _ _ _ ⟨rfl, EE.out.symm, f, HF.out, by first | exact k3 | exact k3.tail⟩
          · have hbad : badS (stR n x kk) k = hihS (stR n x kk) k := by unfold badS; rw [if_pos hp]
            have hq : airB (hihS (stR n x kk) k) (vapS (stR n x kk) k) = false := by
              have h2 := hnot
              unfold airsB at h2
              rw [hp, Bool.true_and] at h2
              exact h2
            rw [hbad] at EE0
            have HP := hid hp
            have HQ := hid hq
            have SF := hid SF0.out
            have EE := hid EE0.out
            clear hp hq hnot hbad SF0 EE0
            go_wp2_with fail
            refine HC.out.mono ?_
            rintro e w2 ⟨rfl, hb2⟩
            have k2 := hid (h0.out.stay hb2)
            clear h0 hb2 HC
            go_wp2_with fail
            refine region_S (S := Kept w0 ((B, vls N f, 153) :: l)) 13 #[false, false, false, false, false, false, false, false, false, false, false, false, false] (by kernel_rfl) rfl rfl (by intro c a d v w h; cases d <;> exact h) (fun Q' PB _ HPAN => ?_)
            have kd := k2.out.drew
            generalize World.drew _ = wd at kd ⊢
            refine takeP_val PB 0 (.slice (some ⟨B, 0, none⟩) n cap) rfl (by rfl) (by kernel_rfl) (by kernel_rfl) (by kernel_rfl) (fun w => by rfl) kd ?_
            simp only [Act.put, List.setIfInBounds_toArray, List.set_cons_zero, List.set_cons_succ]
            refine takeP_val PB 1 (.int .i64 (k : Int)) rfl (by rfl) (by kernel_rfl) (by kernel_rfl) (by kernel_rfl) (fun w => by rfl) kd ?_
            simp only [Act.put, List.setIfInBounds_toArray, List.set_cons_zero, List.set_cons_succ]
            refine takeP_val PB 2 (.pointer (some ⟨B, k * 3, none⟩)) rfl (by rfl) (by kernel_rfl) (by kernel_rfl) (by kernel_rfl) (fun w => by unfold execOp; go_simp) kd ?_
            simp only [Act.put, List.setIfInBounds_toArray, List.set_cons_zero, List.set_cons_succ]
            refine takeP_cell PB 3 (.agg #[.float .f32 (stR n x kk (k * 3)), .float .f32 (stR n x kk (k * 3 + 1)), .float .f32 (stR n x kk (k * 3 + 2))]) rfl (by rfl) (by kernel_rfl) (by kernel_rfl) (by kernel_rfl) (fun wq hS => run_load_as 153 _ B (k * 3) 3 rfl (hS.v in0) (by have := HL.out; omega) #[.float .f32 (stR n x kk (k * 3)), .float .f32 (stR n x kk (k * 3 + 1)), .float .f32 (stR n x kk (k * 3 + 2))] (partL HF.out (by have := HL.out; omega)) _ Try.underlying153 (by rfl) info_lev) kd ?_
            simp only [Act.put, List.setIfInBounds_toArray, List.set_cons_zero, List.set_cons_succ]
            refine takeP_val PB 4 (.slice (some ⟨B, 0, none⟩) n cap) rfl (by rfl) (by kernel_rfl) (by kernel_rfl) (by kernel_rfl) (fun w => by rfl) kd ?_
            simp only [Act.put, List.setIfInBounds_toArray, List.set_cons_zero, List.set_cons_succ]
            refine takeP_val PB 5 (.int .i64 (k : Int)) rfl (by rfl) (by kernel_rfl) (by kernel_rfl) (by kernel_rfl) (fun w => by rfl) kd ?_
            simp only [Act.put, List.setIfInBounds_toArray, List.set_cons_zero, List.set_cons_succ]
            refine takeP_val PB 6 (.int .i64 ((k : Int) + 1)) rfl (by rfl) (by kernel_rfl) (by kernel_rfl) (by kernel_rfl) (fun w => run_binop_val _ _ _ _ (by rfl) (by rfl) (by simp [eqGuard]) (rk w)) kd ?_
            simp only [Act.put, List.setIfInBounds_toArray, List.set_cons_zero, List.set_cons_succ]
            refine takeP_val PB 7 (.pointer (some ⟨B, (k + 1) * 3, none⟩)) rfl (by rfl) (by kernel_rfl) (by kernel_rfl) (by kernel_rfl) (fun w => by unfold execOp; go_simp) kd ?_
            simp only [Act.put, List.setIfInBounds_toArray, List.set_cons_zero, List.set_cons_succ]
            refine takeP_cell PB 8 (.agg #[.float .f32 (stR n x kk ((k + 1) * 3)), .float .f32 (stR n x kk ((k + 1) * 3 + 1)), .float .f32 (stR n x kk ((k + 1) * 3 + 2))]) rfl (by rfl) (by kernel_rfl) (by kernel_rfl) (by kernel_rfl) (fun wq hS => run_load_as 153 _ B ((k + 1) * 3) 3 rfl (hS.v in0) (by have := HL.out; omega) #[.float .f32 (stR n x kk ((k + 1) * 3)), .float .f32 (stR n x kk ((k + 1) * 3 + 1)), .float .f32 (stR n x kk ((k + 1) * 3 + 2))] (partL HF.out (k := k + 1) (by have := HL.out; omega)) _ Try.underlying153 (by rfl) info_lev) kd ?_
            simp only [Act.put, List.setIfInBounds_toArray, List.set_cons_zero, List.set_cons_succ]
            refine takeP_val PB 9 (.agg #[.float .f32 (stR n x kk (k * 3)), .float .f32 (stR n x kk (k * 3 + 1)), .float .f32 (stR n x kk (k * 3 + 2)), .float .f32 (stR n x kk ((k + 1) * 3)), .float .f32 (stR n x kk ((k + 1) * 3 + 1)), .float .f32 (stR n x kk ((k + 1) * 3 + 2))]) rfl (by rfl) (by kernel_rfl) (by kernel_rfl) (by kernel_rfl) (fun w => by unfold execOp; go_simp) kd ?_
            simp only [Act.put, List.setIfInBounds_toArray, List.set_cons_zero, List.set_cons_succ]
            refine wpAnyH_ready (rs := [10, 11]) (by kernel_rfl) (by simp) ?_
            refine callP 10 _ kd rfl (by rfl) 143 #[.agg #[.float .f32 (stR n x kk (k * 3)), .float .f32 (stR n x kk (k * 3 + 1)), .float .f32 (stR n x kk (k * 3 + 2)), .float .f32 (stR n x kk ((k + 1) * 3)), .float .f32 (stR n x kk ((k + 1) * 3 + 1)), .float .f32 (stR n x kk ((k + 1) * 3 + 2))]] (fun w => by unfold execOp; go_simp) (iSteadied_f2 (stR n x kk) k SF.out HP.out HQ.out _) (fun w1 k1 => ?_) ?_
            exact HPAN _ _ _ ⟨rfl, EE.out.symm, f, HF.out, by first | exact k1 | exact k1.tail⟩
            refine allocK 11 (fun g => _) _ kd rfl (by rfl) (#[.float .f32 0, .float .f32 0, .float .f32 0, .float .f32 0, .float .f32 0, .float .f32 0]) 214 (by unfold execOp; go_simp) (fun g => rfl) rfl (fun w2 g2 k2 hB2 hn2 => ?_) AllReadyH.nil
            refine ⟨k2.tail, ?_⟩
            simp only [Act.put, List.setIfInBounds_toArray, List.set_cons_zero, List.set_cons_succ]
            refine wpAnyH_ready (rs := [10]) (by kernel_rfl) (by simp) ?_
            refine callP 10 _ k2 rfl (by rfl) 143 #[.agg #[.float .f32 (stR n x kk (k * 3)), .float .f32 (stR n x kk (k * 3 + 1)), .float .f32 (stR n x kk (k * 3 + 2)), .float .f32 (stR n x kk ((k + 1) * 3)), .float .f32 (stR n x kk ((k + 1) * 3 + 1)), .float .f32 (stR n x kk ((k + 1) * 3 + 2))]] (fun w => by unfold execOp; go_simp) (iSteadied_f2 (stR n x kk) k SF.out HP.out HQ.out _) (fun w3 k3 => ?_) AllReadyH.nil
            exact HPAN _ _ _ ⟨rfl, EE.out.symm, f, HF.out, by first | exact k3 | exact k3.tail⟩
    · obtain rfl : kk = 200 := by omega
      obtain rfl : K = 200 := by omega
      rcases hfb : firstB (unB (stR n x 200)) (n - 1) with _ | k
      · have EE := hid (H0.out hfb)
        have HC := hid (HU.out 0 false (by rw [hfb]))
        clear HU HST hfb H0 H7 H4
        go_wp2_with fail
        refine HC.out.mono ?_
        rintro e w2 ⟨rfl, hb2⟩
        have k2 := hid (h0.out.stay hb2)
        clear h0 hb2 HC
        go_wp2
        go_ret
        exact ⟨EE.out.symm, f, HF.out, k2.out⟩
      · have EE := hid (H7.out rfl k hfb)
        have HC := hid (HU.out (k : Int) true (by rw [hfb]))
        clear HU HST hfb H0 H7 H4
        go_wp2_with fail
        refine HC.out.mono ?_
        rintro e w2 ⟨rfl, hb2⟩
        have k2 := hid (h0.out.stay hb2)
        clear h0 hb2 HC
        go_wp2_with fail
        refine (iDemF 7 (by decide) _).mono ?_
        rintro e w3 ⟨rfl, rfl⟩
        exact ⟨rfl, EE.out.symm, f, HF.out, k2.out⟩

theorem iFault (h v : Nat) (w : World) : Calls Try.prog 233 #[.agg #[.float .f32 h, .float .f32 v]] w fun e w' => e = .returned (.int .i64 4) ∧ Below w.heap.size w w' := by
  have b0 := boxed w (.cells #[.float .f32 h, .float .f32 v] 255)
  go_enter Try.func233, Try.ntmps233
  go_wp2
  go_ret
  exact ⟨rfl, b0⟩

@[go_sem] theorem as_unfit (v : Value) (w : World) : (Instr.typeAssert (.iface 255 v) 20 193 true).run Try.prog w = .ok (.tuple #[.iface 255 v, .bool true]) w := by kernel_rfl

theorem cm_unfit (v : Value) (w : World) : (callMethod (.iface 255 v) "loop.example/g01224/impl.fault" #[]).run Try.prog w = .ok (.enter 233 #[v]) w := by kernel_rfl

set_option maxRecDepth 100000 in
theorem iCodeOf (h v : Nat) (w : World) : Calls Try.prog 71 #[.iface 255 (.agg #[.float .f32 h, .float .f32 v])] w fun e w' => e = .returned (.int .i64 4) ∧ Below w.heap.size w w' := by
  have hm := cm_unfit
  go_enter Try.func71, Try.ntmps71
  go_wp2_with fail
  refine (iFault h v _).mono ?_
  rintro e w1 ⟨rfl, hb1⟩
  go_wp2
  go_ret
  exact ⟨rfl, hb1⟩

set_option maxRecDepth 100000 in
theorem iCatchI_panic (v : Value) (n : Int) (hg : ∀ w : World, (eqGuard .neq 20 (Operand.tmp 3) (Operand.const .nilIface) v .nilIface).run Try.prog w = .ok () w) (hne : ∀ w : World, (binOp .neq 20 v .nilIface).run Try.prog w = .ok (.bool true) w)
    (hcode : ∀ w, Calls Try.prog 71 #[v] w fun e w' => e = .returned (.int .i64 n) ∧ Below w.heap.size w w') (gc : Nat) (x : Value) (w : World) (hc : w.cell? ⟨gc, 0, none⟩ = some x) (hz : w.frozen? ⟨gc, 0, none⟩ = false) :
    CallsD Try.prog 141 #[.pointer (some ⟨gc, 0, none⟩)] (.panicking [{ v := v, recovered := false }]) w fun e u' w' =>
      e = .returned (.tuple #[]) ∧ u' = .panicking [{ v := v, recovered := true }] ∧ ∃ w1, Below w.heap.size w w1 ∧ w' = w1.setCell ⟨gc, 0, none⟩ (.int .i64 n) := by
  refine callsD_of_wpS Try.func141 rfl fun c₀ cs hu => ?_
  apply wpS_seq
  apply wpS_region
  simp [wpOpsS, go_sem, recoverD, hu, Try.ntmps141, Exit.thenS]
  refine wpS_of_wp ?_
  simp only [Array.replicate, List.setIfInBounds_toArray, List.replicate, List.set_cons_zero, List.set_cons_succ, List.append_toArray, List.cons_append, List.nil_append]
  go_wp2_with fail
  refine (hcode _).mono ?_
  rintro e w1 ⟨rfl, hb1⟩
  have hc1 := (hb1.cell (block_lt_of_cell hc)).trans hc
  have hz1 : w1.frozen? ⟨gc, 0, none⟩ = false := (hb1.frozen (block_lt_of_cell hc)).trans hz
  clear hc hz hcode
  go_wp2
  exact ⟨rfl, _, rfl, .tuple #[], by simp [results, Try.results141], rfl, rfl, w1, hb1, rfl⟩

theorem iCatchI_idle (gc : Nat) (w : World) :
    CallsD Try.prog 141 #[.pointer (some ⟨gc, 0, none⟩)] .returning w fun e u' w' => e = .returned (.tuple #[]) ∧ u' = .returning ∧ w' = w := by
  have hne : ∀ w : World, (binOp .neq 20 .nilIface .nilIface).run Try.prog w = .ok (.bool false) w := fun _ => by kernel_rfl
  refine callsD_of_wpS Try.func141 rfl fun c₀ cs hu => ?_
  apply wpS_seq
  apply wpS_region
  simp [wpOpsS, go_sem, recoverD, hu, Try.ntmps141, Exit.thenS]
  refine wpS_of_wp ?_
  simp only [Array.replicate, List.setIfInBounds_toArray, List.replicate, List.set_cons_zero, List.set_cons_succ, List.append_toArray, List.cons_append, List.nil_append]
  go_wp2
  exact ⟨rfl, .returning, by cases c₀; simp_all, .tuple #[], by simp [results, Try.results141], rfl, rfl, rfl⟩

set_option maxRecDepth 100000 in
set_option maxHeartbeats 1000000 in
theorem iAttemptI_ok (cl : FuncId) (caps : Array Value) (K : Int) (w0 : World) (l : List (Nat × Array Value × TypeId)) (B N : Nat) (f : Nat → Value) (T : TypeId) (φ : (Nat → Value) → Prop) (w : World) (hk : Kept w0 ((B, vls N f, T) :: l) w) (hl : ∀ x ∈ l, x.1 ≠ B)
    (hcl : ∀ g u, Kept w0 ((B, vls N f, T) :: (g, #[.int .i64 0], 2) :: l) u → (∀ x ∈ (g, #[.int .i64 0], 2) :: l, x.1 ≠ B) → Calls Try.prog cl caps u fun e u' => e = .returned (.int .i64 K) ∧ ∃ f', φ f' ∧ Kept w0 ((B, vls N f', T) :: (g, #[.int .i64 0], 2) :: l) u') (hce : ∀ w : World, (callFunc cl caps).run Try.prog w = .ok (.enter cl caps) w) :
    Calls Try.prog 95 #[.func (.func cl) #[] caps] w fun e w' => e = .returned (.tuple #[.int .i64 K, .int .i64 0]) ∧ ∃ f', φ f' ∧ Kept w0 ((B, vls N f', T) :: l) w' := by
  have hmf : ∀ (fn : Fn) (first cap : Array Value) (w : World), (Instr.makeFunc fn first cap).run Try.prog w = .ok (.func fn first cap) w := fun _ _ _ _ => rfl
  have hBw : B < w.heap.size := hk.lt (x := (B, vls N f, T)) in0
  have hgw : w0.heap.size ≤ w.heap.size := hk.size
  have hgl : ∀ x ∈ l, x.1 ≠ w.heap.size := hk.tail.fresh
  have k0 : Hid (Kept w0 ((B, vls N f, T) :: (w.heap.size, #[.int .i64 0], 2) :: l) (w.alloc (.cells #[.int .i64 0] 2))) := hid (hk.push #[.int .i64 0] 2).swap
  have HC := hid hcl
  have hne2 : Hid (∀ x ∈ (w.heap.size, #[.int .i64 0], 2) :: l, x.1 ≠ B) := hid (neC (by omega) hl)
  clear hcl hk hl
  go_enter_defers Try.func95, Try.ntmps95
  go_wp2_with fail
  refine (HC.out _ _ k0.out hne2.out).mono ?_
  rintro e w1 ⟨rfl, f', hf, k1⟩
  have k1 := hid k1
  clear k0 HC
  have c6 : World.cell? w1 ⟨w.heap.size, 0, none⟩ = some (.int .i64 0) := k1.out.c in1
  have z6 : World.frozen? w1 ⟨w.heap.size, 0, none⟩ = false := frozen_of_row w1 (w.heap.size) 0 _ _ (k1.out.at (x := (w.heap.size, #[.int .i64 0], 2)) in1)
  go_wp2
  refine leaves_cons (f := 141) (args := #[.pointer (some ⟨w.heap.size, 0, none⟩)]) (by simp) (by simp [go_sem]) ?_
  refine (iCatchI_idle (w.heap.size) _).mono ?_
  rintro e u' w'' ⟨rfl, rfl, rfl⟩
  have k7 := hid ((k1.out.swap.cell1 hgw (neC (by omega) hgl) (.int .i64 0)).swap)
  clear c6 z6 k1
  generalize World.setCell w1 _ _ = w7 at k7 ⊢
  have e2 : (loadVar 2 ⟨w.heap.size, 0, none⟩).run Try.prog w7 = .ok (.int .i64 0) w7 := by
    have c7 : World.cell? w7 ⟨w.heap.size, 0, none⟩ = some (.int .i64 0) := k7.out.c in1
    clear k7
    simp [go_sem, c7]
  refine ⟨.tuple #[.int .i64 K, .int .i64 0], ?_, rfl, f', hf, k7.out.swap.tail⟩
  simp [results, Try.results95, asAddr, e2, Result.andThen_ok]

set_option maxRecDepth 100000 in
set_option maxHeartbeats 1000000 in
theorem iAttemptI_f (cl : FuncId) (caps : Array Value) (v : Value) (n : Int) (w0 : World) (l : List (Nat × Array Value × TypeId)) (B N : Nat) (f : Nat → Value) (T : TypeId) (φ : (Nat → Value) → Prop) (w : World) (hk : Kept w0 ((B, vls N f, T) :: l) w) (hl : ∀ x ∈ l, x.1 ≠ B)
    (hcl : ∀ g u, Kept w0 ((B, vls N f, T) :: (g, #[.int .i64 0], 2) :: l) u → (∀ x ∈ (g, #[.int .i64 0], 2) :: l, x.1 ≠ B) → Calls Try.prog cl caps u fun e u' => e = .panicked [{ v := v, recovered := false }] ∧ ∃ f', φ f' ∧ Kept w0 ((B, vls N f', T) :: (g, #[.int .i64 0], 2) :: l) u') (hce : ∀ w : World, (callFunc cl caps).run Try.prog w = .ok (.enter cl caps) w)
    (hg : ∀ w : World, (eqGuard .neq 20 (Operand.tmp 3) (Operand.const .nilIface) v .nilIface).run Try.prog w = .ok () w) (hne : ∀ w : World, (binOp .neq 20 v .nilIface).run Try.prog w = .ok (.bool true) w) (hcode : ∀ w, Calls Try.prog 71 #[v] w fun e w' => e = .returned (.int .i64 n) ∧ Below w.heap.size w w') :
    Calls Try.prog 95 #[.func (.func cl) #[] caps] w fun e w' => e = .returned (.tuple #[.int .i64 0, .int .i64 n]) ∧ ∃ f', φ f' ∧ Kept w0 ((B, vls N f', T) :: l) w' := by
  have hmf : ∀ (fn : Fn) (first cap : Array Value) (w : World), (Instr.makeFunc fn first cap).run Try.prog w = .ok (.func fn first cap) w := fun _ _ _ _ => rfl
  have hBw : B < w.heap.size := hk.lt (x := (B, vls N f, T)) in0
  have hgw : w0.heap.size ≤ w.heap.size := hk.size
  have hgl : ∀ x ∈ l, x.1 ≠ w.heap.size := hk.tail.fresh
  have k0 : Hid (Kept w0 ((B, vls N f, T) :: (w.heap.size, #[.int .i64 0], 2) :: l) (w.alloc (.cells #[.int .i64 0] 2))) := hid (hk.push #[.int .i64 0] 2).swap
  have HC := hid hcl
  have hne2 : Hid (∀ x ∈ (w.heap.size, #[.int .i64 0], 2) :: l, x.1 ≠ B) := hid (neC (by omega) hl)
  clear hcl hk hl
  go_enter_defers Try.func95, Try.ntmps95
  go_wp2_with fail
  refine (HC.out _ _ k0.out hne2.out).mono ?_
  rintro e w1 ⟨rfl, f', hf, k1⟩
  have k1 := hid k1
  clear k0 HC
  have c6 : World.cell? w1 ⟨w.heap.size, 0, none⟩ = some (.int .i64 0) := k1.out.c in1
  have z6 : World.frozen? w1 ⟨w.heap.size, 0, none⟩ = false := frozen_of_row w1 (w.heap.size) 0 _ _ (k1.out.at (x := (w.heap.size, #[.int .i64 0], 2)) in1)
  refine leaves_cons (f := 141) (args := #[.pointer (some ⟨w.heap.size, 0, none⟩)]) (by simp) (by simp [go_sem]) ?_
  refine (iCatchI_panic v n hg hne hcode (w.heap.size) _ _ c6 z6).mono ?_
  rintro e u' w'' ⟨rfl, rfl, w2, hb2, rfl⟩
  have k7 := hid (((k1.out.stay hb2).swap.cell1 hgw (neC (by omega) hgl) (.int .i64 n)).swap)
  clear c6 z6 k1 hb2
  generalize World.setCell w2 _ _ = w7 at k7 ⊢
  have e2 : (loadVar 2 ⟨w.heap.size, 0, none⟩).run Try.prog w7 = .ok (.int .i64 n) w7 := by
    have c7 : World.cell? w7 ⟨w.heap.size, 0, none⟩ = some (.int .i64 n) := k7.out.c in1
    clear k7
    simp [go_sem, c7]
  refine ⟨.tuple #[.int .i64 0, .int .i64 n], ?_, rfl, f', hf, k7.out.swap.tail⟩
  simp [results, Try.results95, asAddr, e2, Result.andThen_ok]

set_option maxRecDepth 100000 in
theorem iSteadyC_ok (n cap B N : Nat) (K : Int) (w0 : World) (f : Nat → Value) (φ : (Nat → Value) → Prop) (g c5 : Nat) (u : World) (hk : Kept w0 [(B, vls N f, 153), (g, #[.int .i64 0], 2), (c5, #[.slice (some ⟨B, 0, none⟩) n cap], 78)] u)
    (hR : Calls Try.prog 97 #[.slice (some ⟨B, 0, none⟩) n cap] u fun e u' => e = .returned (.int .i64 K) ∧ ∃ f', φ f' ∧ Kept w0 [(B, vls N f', 153), (g, #[.int .i64 0], 2), (c5, #[.slice (some ⟨B, 0, none⟩) n cap], 78)] u') :
    Calls Try.prog 96 #[.pointer (some ⟨c5, 0, none⟩)] u fun e u' => e = .returned (.int .i64 K) ∧ ∃ f', φ f' ∧ Kept w0 [(B, vls N f', 153), (g, #[.int .i64 0], 2), (c5, #[.slice (some ⟨B, 0, none⟩) n cap], 78)] u' := by
  have c : World.cell? u ⟨c5, 0, none⟩ = some (.slice (some ⟨B, 0, none⟩) n cap) := hk.c in2
  have HR := hid hR
  clear hk hR
  go_enter Try.func96, Try.ntmps96
  go_wp2_with fail
  refine HR.out.mono ?_
  rintro e u1 ⟨rfl, f', hf, k1⟩
  clear c
  have k1 := hid k1
  go_wp2
  go_ret
  exact ⟨rfl, f', hf, k1.out⟩

set_option maxRecDepth 100000 in
theorem iSteadyC_f (n cap B N : Nat) (ch : List PanicEntry) (w0 : World) (f : Nat → Value) (φ : (Nat → Value) → Prop) (g c5 : Nat) (u : World) (hk : Kept w0 [(B, vls N f, 153), (g, #[.int .i64 0], 2), (c5, #[.slice (some ⟨B, 0, none⟩) n cap], 78)] u)
    (hR : Calls Try.prog 97 #[.slice (some ⟨B, 0, none⟩) n cap] u fun e u' => e = .panicked ch ∧ ∃ f', φ f' ∧ Kept w0 [(B, vls N f', 153), (g, #[.int .i64 0], 2), (c5, #[.slice (some ⟨B, 0, none⟩) n cap], 78)] u') :
    Calls Try.prog 96 #[.pointer (some ⟨c5, 0, none⟩)] u fun e u' => e = .panicked ch ∧ ∃ f', φ f' ∧ Kept w0 [(B, vls N f', 153), (g, #[.int .i64 0], 2), (c5, #[.slice (some ⟨B, 0, none⟩) n cap], 78)] u' := by
  have c : World.cell? u ⟨c5, 0, none⟩ = some (.slice (some ⟨B, 0, none⟩) n cap) := hk.c in2
  have HR := hid hR
  clear hk hR
  go_enter Try.func96, Try.ntmps96
  go_wp2_with fail
  refine HR.out.mono ?_
  rintro e u1 ⟨rfl, f', hf, k1⟩
  clear c
  exact ⟨rfl, rfl, f', hf, k1⟩

/-- A sounding that was made, and how many rounds it took. -/
theorem iSteady_bad (n : Nat) (x : Nat → Nat) (hx : W32 x) (hq : souB n x = false) (w : World) (s : Value) (hs : Rd w s n x) (hn : n ≤ 1048576) :
    Calls Try.prog 42 #[s] w fun e w' => ∃ p, e = .returned (.tuple #[.slice p 0 0, .int .i64 0, .int .i64 1]) ∧ Below w.heap.size w w' := by
  obtain ⟨p, cap, rfl, hc⟩ := id hs
  have HV := hid (iValidSounding _ n x hn hx _ hs false hq)
  clear hc hx hq hs
  go_enter Try.func42, Try.ntmps42
  go_wp2_with fail
  refine HV.out.mono ?_
  rintro e w1 ⟨rfl, hb1⟩
  go_wp2
  go_ret3
  exact ⟨_, rfl, hb1⟩

set_option maxRecDepth 100000 in
set_option maxHeartbeats 1000000 in
theorem iSteady_ok (n : Nat) (x : Nat → Nat) (hx : W32 x) (hq : souB n x = true) (K : Nat) (hK : K ≤ 200) (hM : ∀ j, j < K → StOk n (stR n x j)) (hN : K < 200 → ¬ StOk n (stR n x K)) (hfin : firstB (unB (stR n x K)) (n - 1) = none) (w : World) (s : Value) (hs : Rd w s n x) (hn : n ≤ 1048576) :
    Calls Try.prog 42 #[s] w fun e w' => ∃ v, e = .returned (.tuple #[v, .int .i64 K, .int .i64 0]) ∧ MadeL 153 n (stR n x K) w v w' := by
  have HV := hid (iValidSounding _ n x hn hx _ hs true hq)
  have HS := hid (souB_iff.1 hq)
  have H0 : Hid (0 < n) := hid (by have := HS.out.lo; omega)
  have HNN := hid hn
  have HX := hid hx
  have HK := hid hK
  have HM := hid hM
  have HN := hid hN
  have HFI := hid hfin
  have RS := hid hs
  have hmf : ∀ (fn : Fn) (first cap : Array Value) (w : World), (Instr.makeFunc fn first cap).run Try.prog w = .ok (.func fn first cap) w := fun _ _ _ _ => rfl
  obtain ⟨p, cp, rfl, hc⟩ := hs
  clear hc hx hq hn hK hM hN hfin
  go_enter Try.func42, Try.ntmps42
  go_wp2_with fail
  refine HV.out.mono ?_
  rintro e w1 ⟨rfl, hb1⟩
  go_wp2_with fail
  refine (iClone _ n x H0.out HNN.out w1 (RS.out.stay hb1)).mono ?_
  rintro e w3 ⟨B, cs, cap, rfl, hB, h1, k1⟩
  have j0 := (Kept.nil w).stay hb1
  have hbB : w.heap.size ≤ B := Nat.le_trans hb1.size hB
  have kk : Hid (Kept w [(B, cs, 153)] w3) := hid (j0.join k1)
  have h3w : w.heap.size ≤ w3.heap.size := kk.out.size
  have hBw : B < w3.heap.size := kk.out.lt (x := (B, cs, 153)) in0
  have vv := hid h1
  have k4 : Hid (Kept w [(B, vls cs.size (ofA cs), 153), (w3.heap.size, #[.slice (some ⟨B, 0, none⟩) n cap], 78)] (w3.alloc (.cells #[.slice (some ⟨B, 0, none⟩) n cap] 78))) := by
    have := (kk.out.push #[.slice (some ⟨B, 0, none⟩) n cap] 78).swap
    rw [vls_ofA]
    exact hid this
  clear h1 k1 hb1 j0 kk hB RS
  go_wp2_with fail
  refine (iAttemptI_ok 96 _ (K : Int) w [(w3.heap.size, #[.slice (some ⟨B, 0, none⟩) n cap], 78)] B cs.size (ofA cs) 153 (fun f' => ∀ j, j < 3 * n → f' j = .float .f32 (stR n x K j)) _ k4.out (neC (by omega) ne0)
    (fun g u hu hne => iSteadyC_ok n cap B cs.size _ w (ofA cs) _ g w3.heap.size u hu (iRounds n cap B cs.size x HX.out HS.out K HK.out HM.out HN.out (.returned (.int .i64 K)) (fun _ => rfl) (fun _ k e => by rw [HFI.out] at e; cases e) (fun _ k e => by rw [HFI.out] at e; cases e) w _ (ofA cs) u hu (lv_ofA vv.out) vv.out.1 hbB hne)) (fun _ => rfl)).mono ?_
  rintro e w5 ⟨rfl, f', hf', k5⟩
  have k5 := hid k5
  have c5 : World.cell? w5 ⟨w3.heap.size, 0, none⟩ = some (.slice (some ⟨B, 0, none⟩) n cap) := k5.out.c in1
  clear k4
  skip
  go_wp2
  go_ret3
  exact ⟨_, rfl, B, _, cap, rfl, hbB, lv_vls vv.out.1 hf', k5.out.sub (by simp)⟩

set_option maxRecDepth 100000 in
set_option maxHeartbeats 1000000 in
theorem iSteady_f (n : Nat) (x : Nat → Nat) (hx : W32 x) (hq : souB n x = true) (K : Nat) (hK : K ≤ 200) (hM : ∀ j, j < K → StOk n (stR n x j)) (hN : K < 200 → ¬ StOk n (stR n x K)) (v : Value) (c : Int) (k : Nat) (hfin : firstB (unB (stR n x K)) (n - 1) = some k)
    (hE7 : K = 200 → v = .iface 241 (.int .i64 7) ∧ c = 7) (hE4 : K < 200 → v = .iface 255 (.agg #[.float .f32 (badS (stR n x K) k), .float .f32 (vapS (stR n x K) k)]) ∧ c = 4)
    (hg : ∀ w : World, (eqGuard .neq 20 (Operand.tmp 3) (Operand.const .nilIface) v .nilIface).run Try.prog w = .ok () w) (hne : ∀ w : World, (binOp .neq 20 v .nilIface).run Try.prog w = .ok (.bool true) w) (hcode : ∀ w, Calls Try.prog 71 #[v] w fun e w' => e = .returned (.int .i64 c) ∧ Below w.heap.size w w') (hc0 : c ≠ 0) (w : World) (s : Value) (hs : Rd w s n x) (hn : n ≤ 1048576) :
    Calls Try.prog 42 #[s] w fun e w' => ∃ p, e = .returned (.tuple #[.slice p 0 0, .int .i64 0, .int .i64 c]) ∧ Below w.heap.size w w' := by
  have HV := hid (iValidSounding _ n x hn hx _ hs true hq)
  have HS := hid (souB_iff.1 hq)
  have H0 : Hid (0 < n) := hid (by have := HS.out.lo; omega)
  have HNN := hid hn
  have HX := hid hx
  have HK := hid hK
  have HM := hid hM
  have HN := hid hN
  have HFI := hid hfin
  have HE7 := hid hE7
  have HE4 := hid hE4
  have HC0 := hid hc0
  clear hE7 hE4 hc0
  have RS := hid hs
  have hmf : ∀ (fn : Fn) (first cap : Array Value) (w : World), (Instr.makeFunc fn first cap).run Try.prog w = .ok (.func fn first cap) w := fun _ _ _ _ => rfl
  obtain ⟨p, cp, rfl, hc⟩ := hs
  clear hc hx hq hn hK hM hN hfin
  go_enter Try.func42, Try.ntmps42
  go_wp2_with fail
  refine HV.out.mono ?_
  rintro e w1 ⟨rfl, hb1⟩
  go_wp2_with fail
  refine (iClone _ n x H0.out HNN.out w1 (RS.out.stay hb1)).mono ?_
  rintro e w3 ⟨B, cs, cap, rfl, hB, h1, k1⟩
  have j0 := (Kept.nil w).stay hb1
  have hbB : w.heap.size ≤ B := Nat.le_trans hb1.size hB
  have kk : Hid (Kept w [(B, cs, 153)] w3) := hid (j0.join k1)
  have h3w : w.heap.size ≤ w3.heap.size := kk.out.size
  have hBw : B < w3.heap.size := kk.out.lt (x := (B, cs, 153)) in0
  have vv := hid h1
  have k4 : Hid (Kept w [(B, vls cs.size (ofA cs), 153), (w3.heap.size, #[.slice (some ⟨B, 0, none⟩) n cap], 78)] (w3.alloc (.cells #[.slice (some ⟨B, 0, none⟩) n cap] 78))) := by
    have := (kk.out.push #[.slice (some ⟨B, 0, none⟩) n cap] 78).swap
    rw [vls_ofA]
    exact hid this
  clear h1 k1 hb1 j0 kk hB RS
  go_wp2_with fail
  refine (iAttemptI_f 96 _ v c w [(w3.heap.size, #[.slice (some ⟨B, 0, none⟩) n cap], 78)] B cs.size (ofA cs) 153 (fun f' => ∀ j, j < 3 * n → f' j = .float .f32 (stR n x K j)) _ k4.out (neC (by omega) ne0)
    (fun g u hu hne => iSteadyC_f n cap B cs.size _ w (ofA cs) _ g w3.heap.size u hu (iRounds n cap B cs.size x HX.out HS.out K HK.out HM.out HN.out (.panicked [{ v := v, recovered := false }]) (fun e => by rw [HFI.out] at e; cases e) (fun h _ _ => by rw [(HE7.out h).1]) (fun h k' e => by rw [HFI.out] at e; injection e with e1; rw [(HE4.out h).1, e1]) w _ (ofA cs) u hu (lv_ofA vv.out) vv.out.1 hbB hne)) (fun _ => rfl) hg hne hcode).mono ?_
  rintro e w5 ⟨rfl, f', hf', k5⟩
  have k5 := hid k5
  have c5 : World.cell? w5 ⟨w3.heap.size, 0, none⟩ = some (.slice (some ⟨B, 0, none⟩) n cap) := k5.out.c in1
  clear k4
  have hc0 := HC0.out
  go_wp2
  go_ret3
  exact ⟨_, rfl, k5.out.1⟩

theorem ste_upd2 {f : Nat → Value} {y : Nat → Nat} {n k : Nat} (hf : ∀ j, j < 3 * n → f j = .float .f32 (y j)) : ∀ j, j < 3 * n → (updR (updR f (k * 3 + 1) 2 (fun j => if j = 0 then .float .f32 (lohS y k) else .float .f32 (vapS y k))) ((k + 1) * 3 + 1) 2 (fun j => if j = 0 then .float .f32 (hihS y k) else .float .f32 (vapS y k))) j = .float .f32 (steW y k j) := fun j hj => by
  have e := hf j hj
  unfold updR steW
  rw [e]
  dsimp only
  repeat' split
  all_goals first
    | rfl
    | (exfalso; omega)

def atI (n : Nat) (y : Nat → Nat) : Int := match firstB (unB y) (n - 1) with | some k => (k : Int) | none => -1

theorem sSteady_bad (n : Nat) (x : Nat → Nat) (hx : W32 x) (hq : souB n x = false) (w : World) (s : Value) (hs : Rd w s n x) (hn : n ≤ 1048576) :
    Calls Try.prog 40 #[s] w fun e w' => ∃ p, e = .returned (.tuple #[.slice p 0 0, .int .i64 0, .int .i64 1]) ∧ Below w.heap.size w w' := by
  obtain ⟨p, cap, rfl, hc⟩ := id hs
  have HV := hid (sSounding _ n x hn hx _ hs false hq)
  clear hc hx hq hs
  go_enter Try.func40, Try.ntmps40
  go_wp2_with fail
  refine HV.out.mono ?_
  rintro e w1 ⟨rfl, hb1⟩
  go_wp2
  go_ret3
  exact ⟨_, rfl, hb1.alloc hb1.size _⟩

set_option maxRecDepth 100000 in
set_option maxHeartbeats 2000000 in
theorem sSteady (n : Nat) (x : Nat → Nat) (hx : W32 x) (hq : souB n x = true) (K : Nat) (hK : K ≤ 200) (hM : ∀ j, j < K → StOk n (stR n x j)) (hN : K < 200 → ¬ StOk n (stR n x K)) (c : Int) (h7 : K = 200 → c = 7) (h4 : K < 200 → c = 4) (w : World) (s : Value) (hs : Rd w s n x) (hn : n ≤ 1048576) :
    Calls Try.prog 40 #[s] w fun e w' => (firstB (unB (stR n x K)) (n - 1) = none ∧ ∃ v, e = .returned (.tuple #[v, .int .i64 K, .int .i64 0]) ∧ MadeL 153 n (stR n x K) w v w') ∨
      (firstB (unB (stR n x K)) (n - 1) ≠ none ∧ ∃ p, e = .returned (.tuple #[.slice p 0 0, .int .i64 0, .int .i64 c]) ∧ Below w.heap.size w w') := by
  have HV := hid (sSounding _ n x hn hx _ hs true hq)
  have HS := hid (souB_iff.1 hq)
  have H0 : Hid (0 < n) := hid (by have := HS.out.lo; omega)
  have HNN := hid hn
  have HX := hid hx
  have HM := hid hM
  have HN := hid hN
  have H7 := hid h7
  have H4 := hid h4
  obtain ⟨p, cp, rfl, hc⟩ := hs
  obtain ⟨b, o, rfl, hcell⟩ := hc H0.out
  have HC := hid hcell
  clear hc hx hq hn hM hN h7 h4 hcell
  go_enter Try.func40, Try.ntmps40
  go_wp2_with fail
  refine HV.out.mono ?_
  rintro e w1 ⟨rfl, hb1⟩
  have HD : ∀ k, k < 3 * n → (w1.alloc (.cells #[] 153)).cell? ((⟨b, o, none⟩ : Addr).add k) = some (.float .f32 (x k)) := fun k hk => by
    rw [Addr.add_lit]
    have h0 := HC.out k hk
    have hb2 := hb1.alloc hb1.size (.cells #[] 153)
    exact (hb2.cell (block_lt_of_cell h0)).trans h0
  go_wp2_with (at_builtin; refine wpList_append_all rfl _ _ 78 rfl 153 Try.underlying78 infoz_lev _ _ rfl rfl H0.out HNN.out HD (fun B cs cap w3 hB h1 k1 => ?_); go_loud (have j0 := (Kept.nil w).stay hb1; have HB : Hid (w.heap.size ≤ B) := hid (Nat.le_trans hb1.size (Nat.le_trans (by simp) hB)); have kk : Hid (Kept w [(B, cs, 153)] w3) := hid ((j0.alloc _).join k1); have vv := hid h1; clear h1 k1 hb1 j0))
  have HN3 := hid vv.out.1
  have k0 : Hid (Kept w [(B, vls cs.size (ofA cs), 153)] w3) := hid (by rw [vls_ofA]; exact kk.out)
  have HF0 := hid (lv_ofA vv.out)
  clear kk hB HD HC
  generalize cs.size = N at HN3 k0
  generalize ofA cs = f0 at HF0 k0
  clear vv
  refine (sUnsteady (.slice (some ⟨B, 0, none⟩) n cap) n x HNN.out w3 ((lv_vls HN3.out HF0.out).rd (k0.out.v in0) cap) (fun k hk => un_facts HX.out HS.out hk) (atI n x) rfl).mono ?_
  rintro e w4 ⟨rfl, hb4⟩
  have k4 := hid (k0.out.stay hb4)
  clear k0 hb4
  go_wp2_with fail
  go_loopw [6, 7] (fun d a wr => ∃ (kk : Nat) (f : Nat → Value), kk ≤ K ∧ d = .int .i64 kk ∧ a = .int .i64 (atI n (stR n x kk)) ∧ Hid (∀ j, j < 3 * n → f j = .float .f32 (stR n x kk j)) ∧ Hid (Kept w [(B, vls N f, 153)] wr)) (fun d _ _ => 200 - (intOf d).toNat)
  case atStart => exact ⟨0, f0, Nat.zero_le _, rfl, rfl, HF0, k4⟩
  case round =>
    clear k4 HF0
    obtain ⟨kk, f, hkk, rfl, rfl, HF, h0⟩ := hrel
    have S := stR_ok HX.out HS.out (K := kk) (fun j hj => HM.out j (by omega))
    have HST := hid (fun k hk => ste_facts S.1 S.2 (i := k) hk)
    clear S
    rcases hfb : firstB (unB (stR n x kk)) (n - 1) with _ | k
    · obtain rfl : kk = K := by
        by_cases e : kk < K
        · obtain ⟨k', e3, _⟩ := HM.out kk e
          rw [hfb] at e3; cases e3
        · omega
      have ha : atI n (stR n x kk) = -1 := by unfold atI; rw [hfb]
      have HFB := hid hfb
      rw [ha]
      clear hfb ha HST H7 H4
      go_wp2
      go_ret3
      exact .inl ⟨HFB.out, _, rfl, B, _, cap, rfl, HB.out, lv_vls HN3.out HF.out, h0.out⟩
    · have HL : Hid (k + 1 < n) := hid (by have := firstB_lt hfb; omega)
      have SF0 := hid (HST.out k HL.out)
      have hk32 : k < 32 := by have := HS.out.hi; have := HL.out; omega
      have ha : atI n (stR n x kk) = (k : Int) := by unfold atI; rw [hfb]
      have hNE : Hid (firstB (unB (stR n x kk)) (n - 1) ≠ none) := hid (by rw [hfb]; exact fun e => by cases e)
      rw [ha]
      clear ha HST
      have hk0 : (0 : Int) ≤ (k : Int) := by omega
      by_cases hlt : kk = 200
      · subst hlt
        obtain rfl : K = 200 := by omega
        obtain rfl := H7.out rfl
        clear hfb H7 H4 SF0
        go_wp2
        go_ret3
        exact .inr ⟨hNE.out, _, rfl, (h0.out.alloc _).1⟩
      · have hk3 : ¬ (kk : Int) = 200 := by omega
        have hk4 : kk < 200 := by omega
        have rk : ∀ w, (binOp .add 3 (.int .i64 (k : Int)) (.int .i64 1)).run Try.prog w = .ok (.int .i64 ((k : Int) + 1)) w := fun w => by simp [go_sem]; rw [IntKind.wrap_i64]; omega
        have ix0 := fun w => run_indexAt (P := Try.prog) (t := 78) (e := 153) Try.underlying78 info_lev (b := B) (o := 0) (n := n) (cap := cap) (k := k) (by have := HL.out; omega) w
        have ix1 := fun w => run_indexAt1 (P := Try.prog) (t := 78) (e := 153) Try.underlying78 info_lev (b := B) (o := 0) (n := n) (cap := cap) (k := k) HL.out w
        simp only [Nat.zero_add] at ix0 ix1
        have HFB := hid hfb
        have HKK := hid hkk
        have HLT := hid hlt
        clear hfb hlt hkk
        obtain ⟨y, hy⟩ : ∃ y, stR n x kk = y := ⟨_, rfl⟩
        rw [hy] at HF SF0 HFB
        have HY := hid hy
        clear hy
        have r1 := fun w => run_float_arith (P := Try.prog) w .add 22 .f32 _ _ _ SF0.out.a1
        have r2 := fun w => run_float_arith (P := Try.prog) w .mul 22 .f32 _ _ _ SF0.out.a2
        have r3 := fun w => run_float_arith (P := Try.prog) w .sub 22 .f32 _ _ _ SF0.out.a3
        have r4 := fun w => run_float_arith (P := Try.prog) w .mul 22 .f32 _ _ _ SF0.out.a4
        have r5 := fun w => run_float_arith (P := Try.prog) w .add 22 .f32 _ _ _ SF0.out.a5
        have r6 := fun w => run_float_arith (P := Try.prog) w .mul 22 .f32 _ _ _ SF0.out.a6
        have r7 := fun w => run_float_arith (P := Try.prog) w .add 22 .f32 _ _ _ SF0.out.a7
        have r8 := fun w => run_float_arith (P := Try.prog) w .sub 22 .f32 _ _ _ SF0.out.a8
        go_wp2_with fail
        refine region_kept (w0 := w) (l := [(B, vls N f, 153)]) 10 #[false, false, false, false, false, false, false, false, false, false] (by kernel_rfl) rfl rfl ?_
        have kd := h0.out.drew
        generalize World.drew _ = wd at kd ⊢
        refine take_val 0 _ _ (.pointer (some ⟨B, (k + 1) * 3, none⟩)) rfl (by rfl) (by kernel_rfl) (by kernel_rfl) (by kernel_rfl) (fun w => by rfl) rfl rfl kd ?_
        simp only [Act.put, List.setIfInBounds_toArray, List.set_cons_zero, List.set_cons_succ]
        refine take_val 1 _ _ (.pointer (some ⟨B, (k + 1) * 3, none⟩)) rfl (by rfl) (by kernel_rfl) (by kernel_rfl) (by kernel_rfl) (fun w => by unfold execOp; go_simp) rfl rfl kd ?_
        simp only [Act.put, List.setIfInBounds_toArray, List.set_cons_zero, List.set_cons_succ]
        refine take_val 2 _ _ (.pointer (some ⟨B, (k + 1) * 3, none⟩)) rfl (by rfl) (by kernel_rfl) (by kernel_rfl) (by kernel_rfl) (fun w => by unfold execOp; go_simp) rfl rfl kd ?_
        simp only [Act.put, List.setIfInBounds_toArray, List.set_cons_zero, List.set_cons_succ]
        refine take_cell 3 _ _ (.float .f32 (y ((k + 1) * 3))) rfl (by rfl) (by kernel_rfl) (by kernel_rfl) (by kernel_rfl) (fun wq hS => by have hcell : wq.cell? ⟨B, (k + 1) * 3, none⟩ = some (.float .f32 (y ((k + 1) * 3))) := ((hS.v in0).cell (by have := HL.out; have := HN3.out; omega)).trans (congrArg some (HF.out _ (by have := HL.out; omega))); clear hS; unfold execOp; go_simp) rfl rfl kd ?_
        simp only [Act.put, List.setIfInBounds_toArray, List.set_cons_zero, List.set_cons_succ]
        refine take_val 4 _ _ (.pointer (some ⟨B, k * 3, none⟩)) rfl (by rfl) (by kernel_rfl) (by kernel_rfl) (by kernel_rfl) (fun w => by rfl) rfl rfl kd ?_
        simp only [Act.put, List.setIfInBounds_toArray, List.set_cons_zero, List.set_cons_succ]
        refine take_val 5 _ _ (.pointer (some ⟨B, k * 3, none⟩)) rfl (by rfl) (by kernel_rfl) (by kernel_rfl) (by kernel_rfl) (fun w => by unfold execOp; go_simp) rfl rfl kd ?_
        simp only [Act.put, List.setIfInBounds_toArray, List.set_cons_zero, List.set_cons_succ]
        refine take_val 6 _ _ (.pointer (some ⟨B, k * 3, none⟩)) rfl (by rfl) (by kernel_rfl) (by kernel_rfl) (by kernel_rfl) (fun w => by unfold execOp; go_simp) rfl rfl kd ?_
        simp only [Act.put, List.setIfInBounds_toArray, List.set_cons_zero, List.set_cons_succ]
        refine take_cell 7 _ _ (.float .f32 (y (k * 3))) rfl (by rfl) (by kernel_rfl) (by kernel_rfl) (by kernel_rfl) (fun wq hS => by have hcell : wq.cell? ⟨B, k * 3, none⟩ = some (.float .f32 (y (k * 3))) := ((hS.v in0).cell (by have := HL.out; have := HN3.out; omega)).trans (congrArg some (HF.out _ (by have := HL.out; omega))); clear hS; unfold execOp; go_simp) rfl rfl kd ?_
        simp only [Act.put, List.setIfInBounds_toArray, List.set_cons_zero, List.set_cons_succ]
        refine take_val 8 _ _ (.float .f32 (fsub (y ((k + 1) * 3)) (y (k * 3)))) rfl (by rfl) (by kernel_rfl) (by kernel_rfl) (by kernel_rfl) (fun w => run_binop_val _ _ _ _ (by rfl) (by rfl) (by simp [eqGuard]) (r3 w)) rfl rfl kd ?_
        simp only [Act.put, List.setIfInBounds_toArray, List.set_cons_zero, List.set_cons_succ]
        refine take_val 9 _ _ (.float .f32 (fsub (y ((k + 1) * 3)) (y (k * 3)))) rfl (by rfl) (by kernel_rfl) (by kernel_rfl) (by kernel_rfl) (fun w => by rfl) rfl rfl kd ?_
        simp only [Act.put, List.setIfInBounds_toArray, List.set_cons_zero, List.set_cons_succ]
        refine wpAnyH_done (by kernel_rfl) (NoPanic.normal ?_) _
        have h12 := hid kd
        clear kd h0
        go_wp2_with fail
        refine region_kept (w0 := w) (l := [(B, vls N f, 153)]) 13 #[false, false, false, false, false, false, false, false, false, false, false, false, false] (by kernel_rfl) rfl rfl ?_
        have kd := h12.out.drew
        generalize World.drew _ = wd at kd ⊢
        refine take_val 0 _ _ (.pointer (some ⟨B, k * 3, none⟩)) rfl (by rfl) (by kernel_rfl) (by kernel_rfl) (by kernel_rfl) (fun w => by rfl) rfl rfl kd ?_
        simp only [Act.put, List.setIfInBounds_toArray, List.set_cons_zero, List.set_cons_succ]
        refine take_val 1 _ _ (.pointer (some ⟨B, k * 3, none⟩)) rfl (by rfl) (by kernel_rfl) (by kernel_rfl) (by kernel_rfl) (fun w => by unfold execOp; go_simp) rfl rfl kd ?_
        simp only [Act.put, List.setIfInBounds_toArray, List.set_cons_zero, List.set_cons_succ]
        refine take_val 2 _ _ (.pointer (some ⟨B, k * 3 + 1, none⟩)) rfl (by rfl) (by kernel_rfl) (by kernel_rfl) (by kernel_rfl) (fun w => by unfold execOp; go_simp) rfl rfl kd ?_
        simp only [Act.put, List.setIfInBounds_toArray, List.set_cons_zero, List.set_cons_succ]
        refine take_val 3 _ _ (.pointer (some ⟨B, k * 3 + 1, none⟩)) rfl (by rfl) (by kernel_rfl) (by kernel_rfl) (by kernel_rfl) (fun w => by unfold execOp; go_simp) rfl rfl kd ?_
        simp only [Act.put, List.setIfInBounds_toArray, List.set_cons_zero, List.set_cons_succ]
        refine take_cell 4 _ _ (.float .f32 (y (k * 3 + 1))) rfl (by rfl) (by kernel_rfl) (by kernel_rfl) (by kernel_rfl) (fun wq hS => by have hcell : wq.cell? ⟨B, k * 3 + 1, none⟩ = some (.float .f32 (y (k * 3 + 1))) := ((hS.v in0).cell (by have := HL.out; have := HN3.out; omega)).trans (congrArg some (HF.out _ (by have := HL.out; omega))); clear hS; unfold execOp; go_simp) rfl rfl kd ?_
        simp only [Act.put, List.setIfInBounds_toArray, List.set_cons_zero, List.set_cons_succ]
        refine take_val 5 _ _ (.pointer (some ⟨B, (k + 1) * 3, none⟩)) rfl (by rfl) (by kernel_rfl) (by kernel_rfl) (by kernel_rfl) (fun w => by rfl) rfl rfl kd ?_
        simp only [Act.put, List.setIfInBounds_toArray, List.set_cons_zero, List.set_cons_succ]
        refine take_val 6 _ _ (.pointer (some ⟨B, (k + 1) * 3, none⟩)) rfl (by rfl) (by kernel_rfl) (by kernel_rfl) (by kernel_rfl) (fun w => by unfold execOp; go_simp) rfl rfl kd ?_
        simp only [Act.put, List.setIfInBounds_toArray, List.set_cons_zero, List.set_cons_succ]
        refine take_val 7 _ _ (.pointer (some ⟨B, (k + 1) * 3 + 1, none⟩)) rfl (by rfl) (by kernel_rfl) (by kernel_rfl) (by kernel_rfl) (fun w => by unfold execOp; go_simp) rfl rfl kd ?_
        simp only [Act.put, List.setIfInBounds_toArray, List.set_cons_zero, List.set_cons_succ]
        refine take_val 8 _ _ (.pointer (some ⟨B, (k + 1) * 3 + 1, none⟩)) rfl (by rfl) (by kernel_rfl) (by kernel_rfl) (by kernel_rfl) (fun w => by unfold execOp; go_simp) rfl rfl kd ?_
        simp only [Act.put, List.setIfInBounds_toArray, List.set_cons_zero, List.set_cons_succ]
        refine take_cell 9 _ _ (.float .f32 (y ((k + 1) * 3 + 1))) rfl (by rfl) (by kernel_rfl) (by kernel_rfl) (by kernel_rfl) (fun wq hS => by have hcell : wq.cell? ⟨B, (k + 1) * 3 + 1, none⟩ = some (.float .f32 (y ((k + 1) * 3 + 1))) := ((hS.v in0).cell (by have := HL.out; have := HN3.out; omega)).trans (congrArg some (HF.out _ (by have := HL.out; omega))); clear hS; unfold execOp; go_simp) rfl rfl kd ?_
        simp only [Act.put, List.setIfInBounds_toArray, List.set_cons_zero, List.set_cons_succ]
        refine take_val 10 _ _ (.float .f32 (fadd (y (k * 3 + 1)) (y ((k + 1) * 3 + 1)))) rfl (by rfl) (by kernel_rfl) (by kernel_rfl) (by kernel_rfl) (fun w => run_binop_val _ _ _ _ (by rfl) (by rfl) (by simp [eqGuard]) (r1 w)) rfl rfl kd ?_
        simp only [Act.put, List.setIfInBounds_toArray, List.set_cons_zero, List.set_cons_succ]
        refine take_val 11 _ _ (.float .f32 (midS y k)) rfl (by rfl) (by kernel_rfl) (by kernel_rfl) (by kernel_rfl) (fun w => run_binop_val _ _ _ _ (by rfl) (by rfl) (by simp [eqGuard]) (r2 w)) rfl rfl kd ?_
        simp only [Act.put, List.setIfInBounds_toArray, List.set_cons_zero, List.set_cons_succ]
        refine take_val 12 _ _ (.float .f32 (midS y k)) rfl (by rfl) (by kernel_rfl) (by kernel_rfl) (by kernel_rfl) (fun w => by rfl) rfl rfl kd ?_
        simp only [Act.put, List.setIfInBounds_toArray, List.set_cons_zero, List.set_cons_succ]
        refine wpAnyH_done (by kernel_rfl) (NoPanic.normal ?_) _
        have h13 := hid kd
        clear kd h12
        go_wp2_with fail
        refine region_kept (w0 := w) (l := [(B, vls N f, 153)]) 13 #[false, false, false, false, false, false, false, false, false, false, false, false, false] (by kernel_rfl) rfl rfl ?_
        have kd := h13.out.drew
        generalize World.drew _ = wd at kd ⊢
        refine take_val 0 _ _ (.pointer (some ⟨B, k * 3, none⟩)) rfl (by rfl) (by kernel_rfl) (by kernel_rfl) (by kernel_rfl) (fun w => by rfl) rfl rfl kd ?_
        simp only [Act.put, List.setIfInBounds_toArray, List.set_cons_zero, List.set_cons_succ]
        refine take_val 1 _ _ (.pointer (some ⟨B, k * 3, none⟩)) rfl (by rfl) (by kernel_rfl) (by kernel_rfl) (by kernel_rfl) (fun w => by unfold execOp; go_simp) rfl rfl kd ?_
        simp only [Act.put, List.setIfInBounds_toArray, List.set_cons_zero, List.set_cons_succ]
        refine take_val 2 _ _ (.pointer (some ⟨B, k * 3 + 1, none⟩)) rfl (by rfl) (by kernel_rfl) (by kernel_rfl) (by kernel_rfl) (fun w => by unfold execOp; go_simp) rfl rfl kd ?_
        simp only [Act.put, List.setIfInBounds_toArray, List.set_cons_zero, List.set_cons_succ]
        refine take_val 3 _ _ (.pointer (some ⟨B, k * 3 + 2, none⟩)) rfl (by rfl) (by kernel_rfl) (by kernel_rfl) (by kernel_rfl) (fun w => by unfold execOp; go_simp) rfl rfl kd ?_
        simp only [Act.put, List.setIfInBounds_toArray, List.set_cons_zero, List.set_cons_succ]
        refine take_cell 4 _ _ (.float .f32 (y (k * 3 + 2))) rfl (by rfl) (by kernel_rfl) (by kernel_rfl) (by kernel_rfl) (fun wq hS => by have hcell : wq.cell? ⟨B, k * 3 + 2, none⟩ = some (.float .f32 (y (k * 3 + 2))) := ((hS.v in0).cell (by have := HL.out; have := HN3.out; omega)).trans (congrArg some (HF.out _ (by have := HL.out; omega))); clear hS; unfold execOp; go_simp) rfl rfl kd ?_
        simp only [Act.put, List.setIfInBounds_toArray, List.set_cons_zero, List.set_cons_succ]
        refine take_val 5 _ _ (.pointer (some ⟨B, (k + 1) * 3, none⟩)) rfl (by rfl) (by kernel_rfl) (by kernel_rfl) (by kernel_rfl) (fun w => by rfl) rfl rfl kd ?_
        simp only [Act.put, List.setIfInBounds_toArray, List.set_cons_zero, List.set_cons_succ]
        refine take_val 6 _ _ (.pointer (some ⟨B, (k + 1) * 3, none⟩)) rfl (by rfl) (by kernel_rfl) (by kernel_rfl) (by kernel_rfl) (fun w => by unfold execOp; go_simp) rfl rfl kd ?_
        simp only [Act.put, List.setIfInBounds_toArray, List.set_cons_zero, List.set_cons_succ]
        refine take_val 7 _ _ (.pointer (some ⟨B, (k + 1) * 3 + 1, none⟩)) rfl (by rfl) (by kernel_rfl) (by kernel_rfl) (by kernel_rfl) (fun w => by unfold execOp; go_simp) rfl rfl kd ?_
        simp only [Act.put, List.setIfInBounds_toArray, List.set_cons_zero, List.set_cons_succ]
        refine take_val 8 _ _ (.pointer (some ⟨B, (k + 1) * 3 + 2, none⟩)) rfl (by rfl) (by kernel_rfl) (by kernel_rfl) (by kernel_rfl) (fun w => by unfold execOp; go_simp) rfl rfl kd ?_
        simp only [Act.put, List.setIfInBounds_toArray, List.set_cons_zero, List.set_cons_succ]
        refine take_cell 9 _ _ (.float .f32 (y ((k + 1) * 3 + 2))) rfl (by rfl) (by kernel_rfl) (by kernel_rfl) (by kernel_rfl) (fun wq hS => by have hcell : wq.cell? ⟨B, (k + 1) * 3 + 2, none⟩ = some (.float .f32 (y ((k + 1) * 3 + 2))) := ((hS.v in0).cell (by have := HL.out; have := HN3.out; omega)).trans (congrArg some (HF.out _ (by have := HL.out; omega))); clear hS; unfold execOp; go_simp) rfl rfl kd ?_
        simp only [Act.put, List.setIfInBounds_toArray, List.set_cons_zero, List.set_cons_succ]
        refine take_val 10 _ _ (.float .f32 (fadd (y (k * 3 + 2)) (y ((k + 1) * 3 + 2)))) rfl (by rfl) (by kernel_rfl) (by kernel_rfl) (by kernel_rfl) (fun w => run_binop_val _ _ _ _ (by rfl) (by rfl) (by simp [eqGuard]) (r5 w)) rfl rfl kd ?_
        simp only [Act.put, List.setIfInBounds_toArray, List.set_cons_zero, List.set_cons_succ]
        refine take_val 11 _ _ (.float .f32 (vapS y k)) rfl (by rfl) (by kernel_rfl) (by kernel_rfl) (by kernel_rfl) (fun w => run_binop_val _ _ _ _ (by rfl) (by rfl) (by simp [eqGuard]) (r6 w)) rfl rfl kd ?_
        simp only [Act.put, List.setIfInBounds_toArray, List.set_cons_zero, List.set_cons_succ]
        refine take_val 12 _ _ (.float .f32 (vapS y k)) rfl (by rfl) (by kernel_rfl) (by kernel_rfl) (by kernel_rfl) (fun w => by rfl) rfl rfl kd ?_
        simp only [Act.put, List.setIfInBounds_toArray, List.set_cons_zero, List.set_cons_succ]
        refine wpAnyH_done (by kernel_rfl) (NoPanic.normal ?_) _
        have h14 := hid kd
        clear kd h13
        have tok1 : True := trivial
        go_wp2_with (first | (have _t := tok1; clear tok1; refine store_cut rfl 32 _ _ rfl B (k * 3 + 1) 2 (fun j => if j = 0 then .float .f32 (lohS y k) else .float .f32 (vapS y k)) #[.float .f32 (lohS y k), .float .f32 (vapS y k)] rfl rfl rfl info_air (fun j => by split <;> rfl) h14.out (by have := HL.out; have := HN3.out; omega) HB.out ne0 (fun w15 k15 => ?_); replace k15 := hid k15; clear h14; have tok2 : True := trivial) | (have _t := tok2; clear tok2; refine store_cut rfl 32 _ _ rfl B ((k + 1) * 3 + 1) 2 (fun j => if j = 0 then .float .f32 (hihS y k) else .float .f32 (vapS y k)) #[.float .f32 (hihS y k), .float .f32 (vapS y k)] rfl rfl rfl info_air (fun j => by split <;> rfl) k15.out (by have := HL.out; have := HN3.out; omega) HB.out ne0 (fun w16 k16 => ?_); replace k16 := hid k16; clear k15))
        have HF6 := hid (ste_upd2 (k := k) HF.out)
        clear r1 r2 r3 r4 r5 r6 r7 r8 HF
        obtain ⟨fz, hfz⟩ : ∃ fz, (updR (updR f (k * 3 + 1) 2 (fun j => if j = 0 then .float .f32 (lohS y k) else .float .f32 (vapS y k))) ((k + 1) * 3 + 1) 2 (fun j => if j = 0 then .float .f32 (hihS y k) else .float .f32 (vapS y k))) = fz := ⟨_, rfl⟩
        rw [hfz] at k16 HF6
        clear hfz
        have cc := hid (fun (j : Nat) (hj : j < 3 * n) (wz : World) (kz : Kept w [(B, vls N fz, 153)] wz) => ((kz.v in0).cell (k := j) (by have := HN3.out; omega)).trans (congrArg some (HF6.out j hj)))
        have e1 : steW y k (k * 3 + 1) = lohS y k := if_pos rfl
        have e2 : steW y k (k * 3 + 1 + 1) = vapS y k := by unfold steW; rw [if_neg (by omega), if_pos rfl]
        have e3 : steW y k ((k + 1) * 3 + 1) = hihS y k := by unfold steW; rw [if_neg (by omega), if_neg (by omega), if_pos rfl]
        have e4 : steW y k ((k + 1) * 3 + 1 + 1) = vapS y k := by unfold steW; rw [if_neg (by omega), if_neg (by omega), if_neg (by omega), if_pos rfl]
        have cA := hid (fun wz kz => (by have := cc.out (k * 3 + 1) (by have := HL.out; omega) wz kz; rw [e1] at this; exact this : World.cell? wz ⟨B, k * 3 + 1, none⟩ = some (.float .f32 (lohS y k))))
        have cB := hid (fun wz kz => (by have := cc.out (k * 3 + 1 + 1) (by have := HL.out; omega) wz kz; rw [e2] at this; exact this : World.cell? wz ⟨B, k * 3 + 1 + 1, none⟩ = some (.float .f32 (vapS y k))))
        have cC := hid (fun wz kz => (by have := cc.out ((k + 1) * 3 + 1) (by have := HL.out; omega) wz kz; rw [e3] at this; exact this : World.cell? wz ⟨B, (k + 1) * 3 + 1, none⟩ = some (.float .f32 (hihS y k))))
        have cD := hid (fun wz kz => (by have := cc.out ((k + 1) * 3 + 1 + 1) (by have := HL.out; omega) wz kz; rw [e4] at this; exact this : World.cell? wz ⟨B, (k + 1) * 3 + 1 + 1, none⟩ = some (.float .f32 (vapS y k))))
        clear e1 e2 e3 e4 cc
        rcases hp : airB (lohS y k) (vapS y k) with _ | _
        · have HE : Hid (kk = K) := hid (by
            by_cases e : kk < K
            · obtain ⟨k', e3, ha⟩ := HM.out kk e
              rw [HY.out, HFB.out] at e3
              injection e3 with e4
              subst e4
              rw [HY.out] at ha
              unfold airsB at ha
              rw [hp] at ha
              cases ha
            · have := HKK.out; omega)
          have HP := hid hp
          clear hp
          refine (sAirAtQ (lohS y k) (vapS y k) SF0.out.l3 false HP.out w16 B (k * 3 + 1) (cA.out _ k16.out) (cB.out _ k16.out)).mono ?_
          rintro e w17 ⟨rfl, m17, rfl⟩
          have k17 := hid (kept_drewK k16.out m17)
          clear k16
          go_wp2
          go_ret3
          have hKK := HE.out
          subst hKK
          have hc := H4.out (by have := HLT.out; have := HKK.out; omega)
          subst hc
          exact .inr ⟨hNE.out, _, rfl, (k17.out.alloc _).1⟩
        · have HP := hid hp
          rcases hq2 : airB (hihS y k) (vapS y k) with _ | _
          · have HE : Hid (kk = K) := hid (by
              by_cases e : kk < K
              · obtain ⟨k', e3, ha⟩ := HM.out kk e
                rw [HY.out, HFB.out] at e3
                injection e3 with e4
                subst e4
                rw [HY.out] at ha
                unfold airsB at ha
                rw [hp, hq2] at ha
                cases ha
              · have := HKK.out; omega)
            have HQ := hid hq2
            clear hp hq2
            refine (sAirAtQ (lohS y k) (vapS y k) SF0.out.l3 true HP.out w16 B (k * 3 + 1) (cA.out _ k16.out) (cB.out _ k16.out)).mono ?_
            rintro e w17 ⟨rfl, m17, rfl⟩
            have k17 := hid (kept_drewK k16.out m17)
            clear k16
            generalize World.drewN w16 m17 = w17 at k17 ⊢
            go_wp2_with fail
            refine (sAirAtQ (hihS y k) (vapS y k) SF0.out.l3 false HQ.out _ B ((k + 1) * 3 + 1) (cC.out _ k17.out) (cD.out _ k17.out)).mono ?_
            rintro e w18 ⟨rfl, m18, rfl⟩
            have k18 := hid (kept_drewK k17.out m18)
            clear k17
            go_wp2
            go_ret3
            have hKK := HE.out
            subst hKK
            have hc := H4.out (by have := HLT.out; have := HKK.out; omega)
            subst hc
            exact .inr ⟨hNE.out, _, rfl, (k18.out.alloc _).1⟩
          · have HQ := hid hq2
            have HG : Hid (kk < K) := hid (by
              by_cases e : kk < K
              · exact e
              · have e2 : kk = K := by have := HKK.out; omega
                refine absurd ⟨k, ?_, ?_⟩ (HN.out (by have := HLT.out; have := HKK.out; omega))
                · rw [← e2, HY.out]; exact HFB.out
                · rw [← e2, HY.out]; unfold airsB; rw [hp, hq2]; rfl)
            have e2 : stR n x (kk + 1) = steW y k := by simp only [stR]; rw [HY.out, HFB.out]
            have S := stR_ok HX.out HS.out (K := kk + 1) (fun j hj => HM.out j (by have := HG.out; omega))
            rw [e2] at S
            have HSS := hid S
            have HE2 := hid e2
            clear hp hq2 S e2
            refine (sAirAtQ (lohS y k) (vapS y k) SF0.out.l3 true HP.out w16 B (k * 3 + 1) (cA.out _ k16.out) (cB.out _ k16.out)).mono ?_
            rintro e w17 ⟨rfl, m17, rfl⟩
            have k17 := hid (kept_drewK k16.out m17)
            clear k16
            generalize World.drewN w16 m17 = w17 at k17 ⊢
            go_wp2_with fail
            refine (sAirAtQ (hihS y k) (vapS y k) SF0.out.l3 true HQ.out _ B ((k + 1) * 3 + 1) (cC.out _ k17.out) (cD.out _ k17.out)).mono ?_
            rintro e w18 ⟨rfl, m18, rfl⟩
            have k18 := hid (kept_drewK k17.out m18)
            clear k17
            go_wp2_with fail
            refine (sUnsteady (.slice (some ⟨B, 0, none⟩) n cap) n (steW y k) HNN.out _ ((lv_vls HN3.out HF6.out).rd (k18.out.v in0) cap) (fun k hk => un_facts HSS.out.1 HSS.out.2 hk) (atI n (steW y k)) rfl).mono ?_
            rintro e w19 ⟨rfl, hb19⟩
            have k19 := hid (k18.out.stay hb19)
            clear k18 hb19
            go_wp2_with fail
            go_roundw
            case rel => exact ⟨kk + 1, fz, HG.out, by go_num, by rw [HE2.out], hid (by rw [HE2.out]; exact HF6.out), k19⟩
            case measure => have := HLT.out; have := HKK.out; simp [intOf]; omega

set_option maxRecDepth 100000 in
set_option maxHeartbeats 4000000 in
theorem coreSteadySoundingOk (n : Nat) (x : Nat → Nat) (hx : W32 x)  (K : Int) (y : Nat → Nat) (hy : W32 y)
    (hS : ∀ w s, Rd w s n x → n ≤ 1048576 → Calls Try.prog 40 #[s] w fun e w' => ∃ v, e = .returned (.tuple #[v, .int .i64 K, .int .i64 0]) ∧ MadeL 153 n y w v w')
    (hI : ∀ w s, Rd w s n x → n ≤ 1048576 → Calls Try.prog 42 #[s] w fun e w' => ∃ v, e = .returned (.tuple #[v, .int .i64 K, .int .i64 0]) ∧ MadeL 153 n y w v w') (s : Value) (w : World) (hs : Rd w s n x) (hm : n ≤ maxLen) :
    Calls Try.prog 10 #[s] w fun e w' => e = .returned (.bool true) ∧ Below w.heap.size w w' := by
  have HS := hid hS
  have HI := hid hI
  have HX := hid hx
  have HY := hid hy
  clear hy
  have q0 := hid hs
  have k0 : Hid (Kept w [] w) := hid (Kept.nil w)
  clear hS hI hx
  obtain ⟨p, cap, rfl, _⟩ := hs
  by_cases hn : n ≤ 1048576
  · have HN := hid hn
    have hneg : ¬ (1048576 - (n : Int) < 0) := by omega
    have hneg1 : ¬ (1 + 3 * (n : Int) < 0) := by omega
    clear hn
    go_enter Try.func10, Try.ntmps10
    go_wp2_with fail
    refine (szLevels_ok p n cap HN.out _).mono ?_
    rintro e u ⟨rfl, rfl⟩
    go_wp2_with fail
    refine (toLevels _ n x HX.out _ q0.out HN.out).mono ?_
    rintro e u1 ⟨g1, rfl, R1, hb1⟩
    have q1 := hid (q0.out.stay hb1)
    have k1 : Hid (Kept w [] u1) := hid (k0.out.stay hb1)
    have s1 := hid R1
    clear hb1
    go_wp2_with fail
    refine (HS.out _ _ s1.out HN.out).mono ?_
    rintro e u2 ⟨_, rfl, D, csD, capD, rfl, hBD, LD, KD⟩
    have hwD := Nat.le_trans k1.out.size hBD
    have q2 := hid (q1.out.stay KD.1)
    have s1_2 := hid (s1.out.stay KD.1)
    have k2 : Hid (Kept w [(D, csD, 153)] u2) := hid (k1.out.join KD)
    have vD := hid LD
    clear KD LD hBD
    go_wp2_with fail
    refine (toLevelsM _ n x HX.out _ q2.out HN.out).mono ?_
    rintro e u3 ⟨_, rfl, X, csX, capX, rfl, hBX, LX, KX⟩
    have hDX : D < X := Nat.lt_of_lt_of_le (k2.out.lt (x := (D, csD, 153)) (by simp)) hBX
    have hwX := Nat.le_trans k2.out.size hBX
    have q3 := hid (q2.out.stay KX.1)
    have k3 : Hid (Kept w [(X, csX, 153), (D, csD, 153)] u3) := hid (k2.out.join KX)
    have vX := hid LX
    clear KX LX hBX
    go_wp2_with fail
    refine (HI.out _ _ (Kept.rd (T := 153) k3.out vX.out (by simp) capX) HN.out).mono ?_
    rintro e u4 ⟨_, rfl, G, csG, capG, rfl, hBG, LG, KG⟩
    have hXG : X < G := Nat.lt_of_lt_of_le (k3.out.lt (x := (X, csX, 153)) (by simp)) hBG
    have hDG : D < G := Nat.lt_of_lt_of_le (k3.out.lt (x := (D, csD, 153)) (by simp)) hBG
    have hwG := Nat.le_trans k3.out.size hBG
    have q4 := hid (q3.out.stay KG.1)
    have k4 : Hid (Kept w [(G, csG, 153), (X, csX, 153), (D, csD, 153)] u4) := hid (k3.out.join KG)
    have vG := hid LG
    clear KG LG hBG
    go_wp2_with fail
    refine (eqLevels _ _ n y HY.out _ (Kept.rd (T := 153) k4.out vG.out (by simp) capG) (Kept.rd (T := 153) k4.out vD.out (by simp) capD) HN.out).mono ?_
    rintro e u5 ⟨rfl, hb5⟩
    have q5 := hid (q4.out.stay hb5)
    have k5 : Hid (Kept w [(G, csG, 153), (X, csX, 153), (D, csD, 153)] u5) := hid (k4.out.stay hb5)
    clear hb5
    go_wp2_with fail
    refine (toLevels _ n x HX.out _ q5.out HN.out).mono ?_
    rintro e u6 ⟨g6, rfl, R6, hb6⟩
    have q6 := hid (q5.out.stay hb6)
    have k6 : Hid (Kept w [(G, csG, 153), (X, csX, 153), (D, csD, 153)] u6) := hid (k5.out.stay hb6)
    have s3 := hid R6
    clear hb6
    go_wp2_with fail
    refine (eqLevels _ _ n x HX.out _ (Kept.rd (T := 153) k6.out vX.out (by simp) capX) s3.out HN.out).mono ?_
    rintro e u7 ⟨rfl, hb7⟩
    have q7 := hid (q6.out.stay hb7)
    have s3_7 := hid (s3.out.stay hb7)
    have k7 : Hid (Kept w [(G, csG, 153), (X, csX, 153), (D, csD, 153)] u7) := hid (k6.out.stay hb7)
    clear hb7
    go_wp2_with fail
    refine (markL w _ X n capX csX _ _ ((k7.out).swap) hwX (by intro z hz; simp at hz; rcases hz with rfl | rfl <;> simp <;> omega) vX.out HN.out).mono ?_
    rintro e u8 ⟨rfl, csX8, wX8, kk8⟩
    have k8 : Hid (Kept w [(X, csX8, 153), (G, csG, 153), (D, csD, 153)] u8) := hid kk8
    have vX := hid wX8
    clear kk8 wX8
    have q8 := hid (q0.out.stay k8.out.1)
    go_wp2_with fail
    refine (eqLevels _ _ n y HY.out _ (Kept.rd (T := 153) k8.out vG.out (by simp) capG) (Kept.rd (T := 153) k8.out vD.out (by simp) capD) HN.out).mono ?_
    rintro e u9 ⟨rfl, hb9⟩
    have q9 := hid (q8.out.stay hb9)
    have k9 : Hid (Kept w [(X, csX8, 153), (G, csG, 153), (D, csD, 153)] u9) := hid (k8.out.stay hb9)
    clear hb9
    go_wp2_with fail
    refine (markL w _ G n capG csG _ _ ((k9.out).swap) hwG (by intro z hz; simp at hz; rcases hz with rfl | rfl <;> simp <;> omega) vG.out HN.out).mono ?_
    rintro e u10 ⟨rfl, csG10, wG10, kk10⟩
    have k10 : Hid (Kept w [(G, csG10, 153), (X, csX8, 153), (D, csD, 153)] u10) := hid kk10
    have vG := hid wG10
    clear kk10 wG10
    have q10 := hid (q0.out.stay k10.out.1)
    go_wp2_with fail
    refine (heldL _ n _ (Kept.rd (T := 153) k10.out vG.out (by simp) capG) HN.out).mono ?_
    rintro e z2 ⟨rfl, rfl⟩
    go_wp2_with fail
    refine (toLevels _ n x HX.out _ q10.out HN.out).mono ?_
    rintro e u11 ⟨g11, rfl, R11, hb11⟩
    have q11 := hid (q10.out.stay hb11)
    have k11 : Hid (Kept w [(G, csG10, 153), (X, csX8, 153), (D, csD, 153)] u11) := hid (k10.out.stay hb11)
    have s4 := hid R11
    clear hb11
    go_wp2_with fail
    refine (HI.out _ _ s4.out HN.out).mono ?_
    rintro e u12 ⟨_, rfl, H, csH, capH, rfl, hBH, LH, KH⟩
    have hGH : G < H := Nat.lt_of_lt_of_le (k11.out.lt (x := (G, csG10, 153)) (by simp)) hBH
    have hXH : X < H := Nat.lt_of_lt_of_le (k11.out.lt (x := (X, csX8, 153)) (by simp)) hBH
    have hDH : D < H := Nat.lt_of_lt_of_le (k11.out.lt (x := (D, csD, 153)) (by simp)) hBH
    have hwH := Nat.le_trans k11.out.size hBH
    have q12 := hid (q11.out.stay KH.1)
    have s4_12 := hid (s4.out.stay KH.1)
    have k12 : Hid (Kept w [(H, csH, 153), (G, csG10, 153), (X, csX8, 153), (D, csD, 153)] u12) := hid (k11.out.join KH)
    have vH := hid LH
    clear KH LH hBH
    go_wp2_with fail
    refine (eqLevels _ _ n y HY.out _ (Kept.rd (T := 153) k12.out vH.out (by simp) capH) (Kept.rd (T := 153) k12.out vD.out (by simp) capD) HN.out).mono ?_
    rintro e u13 ⟨rfl, hb13⟩
    have q13 := hid (q12.out.stay hb13)
    have k13 : Hid (Kept w [(H, csH, 153), (G, csG10, 153), (X, csX8, 153), (D, csD, 153)] u13) := hid (k12.out.stay hb13)
    clear hb13
    go_wp2_with fail
    refine (heldL _ n _ (Kept.rd (T := 153) k13.out vG.out (by simp) capG) HN.out).mono ?_
    rintro e z2 ⟨rfl, rfl⟩
    go_wp2
    go_ret
    exact ⟨rfl, k13.out.1⟩
  · have HM : Hid (1048576 < n) := hid (by omega)
    have hneg : 1048576 - (n : Int) < 0 := by omega
    clear hn
    go_enter Try.func10, Try.ntmps10
    go_wp2_with fail
    refine (szLevels_no p n cap HM.out hm _).mono ?_
    rintro e u ⟨rfl, rfl⟩
    go_wp2
    go_ret
    exact ⟨rfl, Below.refl _ _⟩

set_option maxRecDepth 100000 in
set_option maxHeartbeats 4000000 in
theorem coreSteadySoundingErr (n : Nat) (x : Nat → Nat) (hx : W32 x)  (c : Int)
    (hS : ∀ w s, Rd w s n x → n ≤ 1048576 → Calls Try.prog 40 #[s] w fun e w' => ∃ p, e = .returned (.tuple #[.slice p 0 0, .int .i64 0, .int .i64 c]) ∧ Below w.heap.size w w')
    (hI : ∀ w s, Rd w s n x → n ≤ 1048576 → Calls Try.prog 42 #[s] w fun e w' => ∃ p, e = .returned (.tuple #[.slice p 0 0, .int .i64 0, .int .i64 c]) ∧ Below w.heap.size w w') (s : Value) (w : World) (hs : Rd w s n x) (hm : n ≤ maxLen) :
    Calls Try.prog 10 #[s] w fun e w' => e = .returned (.bool true) ∧ Below w.heap.size w w' := by
  have HS := hid hS
  have HI := hid hI
  have HX := hid hx
  have _ := trivial
  have q0 := hid hs
  have k0 : Hid (Kept w [] w) := hid (Kept.nil w)
  clear hS hI hx
  obtain ⟨p, cap, rfl, _⟩ := hs
  by_cases hn : n ≤ 1048576
  · have HN := hid hn
    have hneg : ¬ (1048576 - (n : Int) < 0) := by omega
    have hneg1 : ¬ (1 + 3 * (n : Int) < 0) := by omega
    clear hn
    go_enter Try.func10, Try.ntmps10
    go_wp2_with fail
    refine (szLevels_ok p n cap HN.out _).mono ?_
    rintro e u ⟨rfl, rfl⟩
    go_wp2_with fail
    refine (toLevels _ n x HX.out _ q0.out HN.out).mono ?_
    rintro e u1 ⟨g1, rfl, R1, hb1⟩
    have q1 := hid (q0.out.stay hb1)
    have k1 : Hid (Kept w [] u1) := hid (k0.out.stay hb1)
    have s1 := hid R1
    clear hb1
    go_wp2_with fail
    refine (HS.out _ _ s1.out HN.out).mono ?_
    rintro e u2 ⟨p0, rfl, hb2⟩
    have q2 := hid (q1.out.stay hb2)
    have s1_2 := hid (s1.out.stay hb2)
    have k2 : Hid (Kept w [] u2) := hid (k1.out.stay hb2)
    clear hb2
    go_wp2_with fail
    refine (toLevelsM _ n x HX.out _ q2.out HN.out).mono ?_
    rintro e u3 ⟨_, rfl, X, csX, capX, rfl, hBX, LX, KX⟩
    have hwX := Nat.le_trans k2.out.size hBX
    have q3 := hid (q2.out.stay KX.1)
    have k3 : Hid (Kept w [(X, csX, 153)] u3) := hid (k2.out.join KX)
    have vX := hid LX
    clear KX LX hBX
    go_wp2_with fail
    refine (HI.out _ _ (Kept.rd (T := 153) k3.out vX.out (by simp) capX) HN.out).mono ?_
    rintro e u4 ⟨p1, rfl, hb4⟩
    have q4 := hid (q3.out.stay hb4)
    have k4 : Hid (Kept w [(X, csX, 153)] u4) := hid (k3.out.stay hb4)
    clear hb4
    go_wp2_with fail
    refine (eqLevels _ _ 0 x HX.out _ (Rd.zero _ _ _ _) (Rd.zero _ _ _ _) (by omega)).mono ?_
    rintro e u5 ⟨rfl, hb5⟩
    have q5 := hid (q4.out.stay hb5)
    have k5 : Hid (Kept w [(X, csX, 153)] u5) := hid (k4.out.stay hb5)
    clear hb5
    go_wp2_with fail
    refine (toLevels _ n x HX.out _ q5.out HN.out).mono ?_
    rintro e u6 ⟨g6, rfl, R6, hb6⟩
    have q6 := hid (q5.out.stay hb6)
    have k6 : Hid (Kept w [(X, csX, 153)] u6) := hid (k5.out.stay hb6)
    have s3 := hid R6
    clear hb6
    go_wp2_with fail
    refine (eqLevels _ _ n x HX.out _ (Kept.rd (T := 153) k6.out vX.out (by simp) capX) s3.out HN.out).mono ?_
    rintro e u7 ⟨rfl, hb7⟩
    have q7 := hid (q6.out.stay hb7)
    have s3_7 := hid (s3.out.stay hb7)
    have k7 : Hid (Kept w [(X, csX, 153)] u7) := hid (k6.out.stay hb7)
    clear hb7
    go_wp2_with fail
    refine (markL w _ X n capX csX _ _ (k7.out) hwX (by intro z hz; simp at hz; skip) vX.out HN.out).mono ?_
    rintro e u8 ⟨rfl, csX8, wX8, kk8⟩
    have k8 : Hid (Kept w [(X, csX8, 153)] u8) := hid kk8
    have vX := hid wX8
    clear kk8 wX8
    have q8 := hid (q0.out.stay k8.out.1)
    go_wp2_with fail
    refine (eqLevels _ _ 0 x HX.out _ (Rd.zero _ _ _ _) (Rd.zero _ _ _ _) (by omega)).mono ?_
    rintro e u9 ⟨rfl, hb9⟩
    have q9 := hid (q8.out.stay hb9)
    have k9 : Hid (Kept w [(X, csX8, 153)] u9) := hid (k8.out.stay hb9)
    clear hb9
    go_wp2_with fail
    refine (mark0 _ _).mono ?_
    rintro e z1 ⟨rfl, rfl⟩
    go_wp2_with fail
    refine (held0 _ _).mono ?_
    rintro e z2 ⟨rfl, rfl⟩
    go_wp2_with fail
    refine (toLevels _ n x HX.out _ q9.out HN.out).mono ?_
    rintro e u10 ⟨g10, rfl, R10, hb10⟩
    have q10 := hid (q9.out.stay hb10)
    have k10 : Hid (Kept w [(X, csX8, 153)] u10) := hid (k9.out.stay hb10)
    have s4 := hid R10
    clear hb10
    go_wp2_with fail
    refine (HI.out _ _ s4.out HN.out).mono ?_
    rintro e u11 ⟨p2, rfl, hb11⟩
    have q11 := hid (q10.out.stay hb11)
    have s4_11 := hid (s4.out.stay hb11)
    have k11 : Hid (Kept w [(X, csX8, 153)] u11) := hid (k10.out.stay hb11)
    clear hb11
    go_wp2_with fail
    refine (eqLevels _ _ 0 x HX.out _ (Rd.zero _ _ _ _) (Rd.zero _ _ _ _) (by omega)).mono ?_
    rintro e u12 ⟨rfl, hb12⟩
    have q12 := hid (q11.out.stay hb12)
    have k12 : Hid (Kept w [(X, csX8, 153)] u12) := hid (k11.out.stay hb12)
    clear hb12
    go_wp2_with fail
    refine (held0 _ _).mono ?_
    rintro e z2 ⟨rfl, rfl⟩
    go_wp2
    go_ret
    exact ⟨rfl, k12.out.1⟩
  · have HM : Hid (1048576 < n) := hid (by omega)
    have hneg : 1048576 - (n : Int) < 0 := by omega
    clear hn
    go_enter Try.func10, Try.ntmps10
    go_wp2_with fail
    refine (szLevels_no p n cap HM.out hm _).mono ?_
    rintro e u ⟨rfl, rfl⟩
    go_wp2
    go_ret
    exact ⟨rfl, Below.refl _ _⟩

theorem gU (u : Value) : (∀ w : World, (eqGuard .neq 20 (Operand.tmp 3) (Operand.const .nilIface) (.iface 255 u) .nilIface).run Try.prog w = .ok () w) ∧ (∀ w : World, (binOp .neq 20 (.iface 255 u) .nilIface).run Try.prog w = .ok (.bool true) w) := ⟨fun _ => by kernel_rfl, fun _ => by kernel_rfl⟩

theorem gS (u : Value) : (∀ w : World, (eqGuard .neq 20 (Operand.tmp 3) (Operand.const .nilIface) (.iface 241 u) .nilIface).run Try.prog w = .ok () w) ∧ (∀ w : World, (binOp .neq 20 (.iface 241 u) .nilIface).run Try.prog w = .ok (.bool true) w) := ⟨fun _ => by kernel_rfl, fun _ => by kernel_rfl⟩

theorem lawSteadySounding (n : Nat) (x : Nat → Nat) (s : Value) (hx : ∀ k, x k < 4294967296) {w : World} (hs : Rd w s n x) (hm : n ≤ maxLen) :
    Calls Try.prog 10 #[s] w fun e w' => e = .returned (.bool true) ∧ Below w.heap.size w w' := by
  rcases hq : souB n x with _ | _
  · exact coreSteadySoundingErr n x hx 1 (fun w s hs hn => sSteady_bad n x hx hq w s hs hn) (fun w s hs hn => iSteady_bad n x hx hq w s hs hn) s w hs hm
  · obtain ⟨K, hK, hM, hN⟩ := stR_last n x 200
    have S := stR_ok hx (souB_iff.1 hq) hM
    rcases hf : firstB (unB (stR n x K)) (n - 1) with _ | k
    · refine coreSteadySoundingOk n x hx (K : Int) (stR n x K) S.1 (fun w s hs hn => ?_) (fun w s hs hn => iSteady_ok n x hx hq K hK hM hN hf w s hs hn) s w hs hm
      refine (sSteady n x hx hq K hK hM hN (if K = 200 then 7 else 4) (fun h => if_pos h) (fun h => if_neg (by omega)) w s hs hn).mono ?_
      rintro e w1 (⟨_, h⟩ | ⟨h, _⟩)
      · exact h
      · exact absurd hf h
    · have hS : ∀ c : Int, (K = 200 → c = 7) → (K < 200 → c = 4) → ∀ w s, Rd w s n x → n ≤ 1048576 → Calls Try.prog 40 #[s] w fun e w' => ∃ p, e = .returned (.tuple #[.slice p 0 0, .int .i64 0, .int .i64 c]) ∧ Below w.heap.size w w' := fun c h7 h4 w s hs hn => by
        refine (sSteady n x hx hq K hK hM hN c h7 h4 w s hs hn).mono ?_
        rintro e w1 (⟨h, _⟩ | ⟨_, h⟩)
        · rw [hf] at h; cases h
        · exact h
      by_cases e : K = 200
      · refine coreSteadySoundingErr n x hx 7 (hS 7 (fun _ => rfl) (fun h => by omega)) (fun w s hs hn => ?_) s w hs hm
        exact iSteady_f n x hx hq K hK hM hN _ 7 k hf (fun _ => ⟨rfl, rfl⟩) (fun h => by omega) (gS _).1 (gS _).2 (fun w => (iCodeOfS 7 w).mono fun e w' ⟨h1, h2⟩ => ⟨h1, by rw [← h2]; exact Below.refl _ _⟩) (by decide) w s hs hn
      · refine coreSteadySoundingErr n x hx 4 (hS 4 (fun h => absurd h e) (fun _ => rfl)) (fun w s hs hn => ?_) s w hs hm
        exact iSteady_f n x hx hq K hK hM hN _ 4 k hf (fun h => absurd h e) (fun _ => ⟨rfl, rfl⟩) (gU _).1 (gU _).2 (fun w => iCodeOf _ _ w) (by decide) w s hs hn
end Go.Proofs.Ythpimindkmmkjaa

namespace Go.Proofs.Ythpimindkmmkjaa.fnExactSteadySounding
open Go.RowKit Go.Fl Go.ChangeShapes Go.WideShapes Go.ChangeAt

set_option maxHeartbeats 2000000 in
theorem closed : joinedFacts Try.prog 10 Try.f10 Rows.fnExactSteadySoundingSpec Rows.fnExactSteadySoundingRow = true := by
  unfold joinedFacts
  simp only [Bool.and_eq_true]
  exact ⟨⟨⟨⟨⟨⟨⟨⟨⟨⟨⟨⟨⟨⟨⟨⟨⟨⟨⟨⟨⟨⟨⟨⟨⟨⟨⟨⟨⟨⟨⟨(by as_aux_lemma => kernel_rfl),
    laid⟩,
    rowed⟩,
    (by as_aux_lemma => kernel_rfl)⟩,
    (by as_aux_lemma => kernel_rfl)⟩,
    (by as_aux_lemma => kernel_rfl)⟩,
    (by rw [no_stops]; rfl)⟩,
    (by as_aux_lemma => kernel_rfl)⟩,
    (by rw [no_knobs]; rfl)⟩,
    (by as_aux_lemma => kernel_rfl)⟩,
    (by as_aux_lemma => kernel_rfl)⟩,
    (by as_aux_lemma => kernel_rfl)⟩,
    (by as_aux_lemma => kernel_rfl)⟩,
    (by as_aux_lemma => kernel_rfl)⟩,
    (by as_aux_lemma => kernel_rfl)⟩,
    (by as_aux_lemma => kernel_rfl)⟩,
    (by as_aux_lemma => kernel_rfl)⟩,
    (by as_aux_lemma => kernel_rfl)⟩,
    (by as_aux_lemma => kernel_rfl)⟩,
    (by as_aux_lemma => kernel_rfl)⟩,
    (by as_aux_lemma => kernel_rfl)⟩,
    (by as_aux_lemma => kernel_rfl)⟩,
    (show (Rows.fnExactSteadySoundingRow.plainKeys == Try.prog.plainKeys) = true by rw [plain_keys]; rfl)⟩,
    (by as_aux_lemma => kernel_rfl)⟩,
    stops_heard⟩,
    may_enter⟩,
    (show (Rows.fnExactSteadySoundingRow.lifted == Try.prog.liftsFinal) = true by rw [lifts_final]; rfl)⟩,
    (show (Try.prog.make == some Rows.fnExactSteadySoundingRow.make) = true by rw [made]; rfl)⟩,
    (by as_aux_lemma => kernel_rfl)⟩,
    (by as_aux_lemma => kernel_rfl)⟩,
    (by as_aux_lemma => kernel_rfl)⟩,
    (by as_aux_lemma => kernel_rfl)⟩

set_option maxRecDepth 100000 in
theorem lifted (os : Os) (started : os.Started) (H : Type) (enc : TypeId × Value → H) :
    ReturnsInHanded {} Try.checked os 10 .any (Rows.fnExactSteadySoundingSpec.pre6 enc Try.prog Try.f10 Rows.fnExactSteadySoundingRow.domain false) (Rows.fnExactSteadySoundingSpec.post enc Try.prog Try.f10 false true false false) := by
  refine LawFrame.lifted (C := Try.checked) (fn := Try.f10) (n := 1) (tb := 4) started own (by kernel_rfl) Try.func10 laid ?_ rfl rfl ?_ rfl Try.underlying4
    (ChangeSpec.witness6 (enc := enc) (C := Try.checked) false ⟨#[], #[.slice none 0 0], []⟩ 8 (by kernel_rfl) (by kernel_rfl) (by kernel_rfl) (by kernel_rfl)) ?_
  · intro t ht
    simp only [Try.params10, List.mem_cons, List.not_mem_nil, or_false] at ht
    subst ht; exact rds
  · intro ds hd
    match ds, hd with
    | [_], _ => rfl
  · intro W base args ds ps hval hn hT
    obtain ⟨v0, rfl⟩ : ∃ v0, args = #[v0] := arr1 hn
    simp only [Try.params10] at hT
    obtain ⟨d0, p0, t0⟩ := trodAll_head hT
    obtain ⟨n0, x0, R0, M0, X0⟩ := open_level Try.underlying76 Try.underlying155 Try.underlying26 Try.underlying22 ⟨rfl, rfl⟩ ⟨rfl, rfl⟩ ⟨rfl, rfl⟩ ⟨rfl, rfl⟩ cellsL cells2 cellsF t0 (open_sl Try.underlying76 (hval 0 76 v0 rfl rfl))
    exact lawSteadySounding n0 x0 v0 X0 R0 M0

theorem over : Rows.fnExactSteadySoundingRow.holds Try.pinned (OpenSpec.ofChange Rows.fnExactSteadySoundingSpec) :=
  OpenClaim.holds_of_wide 10 Try.f10 rfl rfl rfl rfl rfl rfl rfl ⟨rfl, rfl, rfl, rfl, rfl⟩ rfl rfl rfl rfl rfl (by kernel_rfl) Try.func10 closed
    (of_decide_eq_true (by kernel_rfl)) (by unfold Func.isWrapper; rw [if_neg (by decide +kernel)]; exact ⟨rfl, rfl⟩)
    (fun os started H enc _ => lifted os started H enc)

theorem proved : Rows.FnExactSteadySoundingSaid := over
#print axioms proved
end Go.Proofs.Ythpimindkmmkjaa.fnExactSteadySounding
