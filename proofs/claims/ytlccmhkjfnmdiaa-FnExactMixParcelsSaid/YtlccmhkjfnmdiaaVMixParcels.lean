import Derived.Test.YtlccmhkjfnmdiaaBMixParcels
import Derived.Test.YtlccmhkjfnmdiaaChecked
import Derived.Test.YtlccmhkjfnmdiaaRows
import Derived.Laws.FloatArith
import Derived.ProofKit
import Derived.WalkKit
import Derived.WalkLawsBesides
import Derived.WalkSpells
import Derived.Deep.QuietTactic
import Derived.BigQuiet
import Derived.Deep.RegionHeld3
import Derived.ChangeKeysEq
import Derived.Laws.BitsAllLaws
import Derived.Deep.MidRow
import Derived.Deep.WholeRow
import Derived.StillTailTactics
import Derived.OpenShut
import Derived.Deep.Slices
import Derived.ChangeSame
/- The law FnExactMixParcels of chapter 1: at every argument the call returns true, and what was there before it is as it was. -/
namespace Go.Proofs.Ytlccmhkjfnmdiaa
open Go.RowKit Go.Fl

@[go_sem] theorem ext_f64bits (y : Nat) (w : World) : (callFunc 260 #[.float .f64 y]).run Try.prog w = .ok (.value (.int .u64 y)) w := by
  rw [run_callFunc_extern Try.func260 (by kernel_rfl) (by kernel_rfl) (by kernel_rfl) (e := Extern.MathFloatBits.float64bits) (by kernel_rfl)]
  rfl

@[go_sem] theorem ext_f64from (n : Int) (w : World) : (callFunc 273 #[.int .u64 n]).run Try.prog w = .ok (.value (.float .f64 n.toNat)) w := by
  rw [run_callFunc_extern Try.func273 (by kernel_rfl) (by kernel_rfl) (by kernel_rfl) (e := Extern.MathFloatBits.float64frombits) (by kernel_rfl)]
  rfl

theorem hid {p : Prop} (h : p) : Hid p := h

theorem clear_sign (y : Nat) (h : y < 18446744073709551616) : (bits BinOp.andNot IntKind.u64 (y : Int) 9223372036854775808).toNat = y % 9223372036854775808 := by
  rw [u64_andNot _ _ (by omega) (by omega) (by omega) (by omega)]
  rw [Int.toNat_natCast, Int.toNat_natCast]
  exact Nat.and_two_pow_sub_one_eq_mod y 63

theorem abs_f64 (y : Nat) (h : y < 18446744073709551616) (w : World) :
    Calls Try.prog 262 #[.float .f64 y] w fun e w' => e = .returned (.float .f64 (y % 9223372036854775808)) ∧ w = w' := by
  have hc := hid (clear_sign y h)
  clear h
  go_enter Try.func262, Try.ntmps262
  go_wp2
  go_ret
  exact ⟨by simp [hc.out], rfl⟩

theorem isNaN_f64 (y : Nat) (w : World) :
    Calls Try.prog 216 #[.float .f64 y] w fun e w' => e = .returned (.bool (FloatKind.f64.format.order y y != some .eq)) ∧ w = w' := by
  go_enter Try.func216, Try.ntmps216
  go_wp2
  go_ret
  exact ⟨rfl, rfl⟩

theorem isInf_f64 (y : Nat) (h : y < 18446744073709551616) (w : World) :
    Calls Try.prog 217 #[.float .f64 y, .int .i64 0] w fun e w' => e = .returned (.bool (FloatKind.f64.format.order (y % 9223372036854775808) 9218868437227405311 == some .gt)) ∧ w = w' := by
  have hc := hid h
  clear h
  go_enter Try.func217, Try.ntmps217
  go_wp2_with (go_at_call 262; refine (abs_f64 y hc.out _).mono ?_; rintro e w' ⟨rfl, rfl⟩)
  go_ret
  exact ⟨rfl, rfl⟩

theorem isFinite_t (x : Nat) (hx : x < 4294967296) (h : finB x = true) (w : World) :
    Calls Try.prog 123 #[.float .f32 x] w fun e w' => e = .returned (.bool true) ∧ w = w' := by
  rw [finB_iff] at h
  have hc := fun w => run_conv_wid (P := Try.prog) w 22 26 x hx Try.underlying22 Try.underlying26 h
  obtain ⟨a, b, m, e, hr⟩ := read_wid_fin hx h
  have hn : (FloatKind.f64.format.order (wid x) (wid x) != some .eq) = false := by
    show (D.order (wid x) (wid x) != some .eq) = false
    rw [order_self hr]; rfl
  have hi : (FloatKind.f64.format.order (wid x % 9223372036854775808) 9218868437227405311 == some .gt) = false := by
    show (D.order (wid x % 9223372036854775808) 9218868437227405311 == some .gt) = false
    rw [b, order_ltD a (by decide)]
    rw [DINF_val] at a
    have hle : wid (mg x) ≤ 9218868437227405311 := by omega
    rcases Nat.lt_or_eq_of_le hle with h' | h'
    · rw [Nat.compare_eq_lt.2 h']; rfl
    · rw [Nat.compare_eq_eq.2 h']; rfl
  have hw : wid x < 18446744073709551616 := D.write_lt _
  have Hn := hid hn
  have Hi := hid hi
  have Hw := hid hw
  clear hn hi hw hr a b h hx
  go_enter Try.func123, Try.ntmps123
  go_wp2_with (first | (go_at_call 216; refine (isNaN_f64 (wid x) _).mono ?_; rintro e w' ⟨rfl, rfl⟩; rw [Hn.out]) | (go_at_call 217; refine (isInf_f64 (wid x) Hw.out _).mono ?_; rintro e w' ⟨rfl, rfl⟩; rw [Hi.out]))
  go_ret
  exact ⟨rfl, rfl⟩

theorem isFinite_f (x : Nat) (hx : x < 4294967296) (h : finB x = false) (w : World) :
    Calls Try.prog 123 #[.float .f32 x] w fun e w' => e = .returned (.bool false) ∧ Below w.heap.size w w' := by
  rw [finB_iff'] at h
  rcases Nat.lt_or_eq_of_le h with h | h
  · obtain ⟨z, hc, h1, _⟩ := run_conv_nan (P := Try.prog) w 22 26 x Try.underlying22 Try.underlying26 h
    obtain ⟨s, t, hr⟩ := read_nanD h1
    have Hn := hid (show (FloatKind.f64.format.order z z != some .eq) = true by
      show (D.order z z != some .eq) = true
      rw [order_nan hr]; rfl)
    clear h h1 hr hx
    go_enter Try.func123, Try.ntmps123
    go_wp2_with (go_at_call 216; refine (isNaN_f64 z _).mono ?_; rintro e w' ⟨rfl, rfl⟩; rw [Hn.out])
    go_ret
    exact ⟨rfl, (Below.refl _ _).drew⟩
  · obtain ⟨z, hc, h1, h2⟩ := run_conv_inf (P := Try.prog) w 22 26 x hx Try.underlying22 Try.underlying26 h.symm
    have hr : D.read z = .infinity (decide (9223372036854775808 ≤ z)) := by rw [read_signD h2, h1, read_DINF]
    have Hn := hid (show (FloatKind.f64.format.order z z != some .eq) = false by
      show (D.order z z != some .eq) = false
      rw [order_inf hr]; rfl)
    have Hi := hid (show (FloatKind.f64.format.order (z % 9223372036854775808) 9218868437227405311 == some .gt) = true by
      rw [h1]; decide)
    have H2 := hid h2
    clear h h1 hr hx h2
    go_enter Try.func123, Try.ntmps123
    go_wp2_with (first | (go_at_call 216; refine (isNaN_f64 z _).mono ?_; rintro e w' ⟨rfl, rfl⟩; rw [Hn.out]) | (go_at_call 217; refine (isInf_f64 z H2.out _).mono ?_; rintro e w' ⟨rfl, rfl⟩; rw [Hi.out]))
    go_ret
    exact ⟨rfl, Below.refl _ _⟩

theorem signbit_f64 (y : Nat) (w : World) :
    Calls Try.prog 211 #[.float .f64 y] w fun e w' => e = .returned (.bool (decide (wrap64 (y : Int) < 0))) ∧ w = w' := by
  go_enter Try.func211, Try.ntmps211
  go_wp2
  go_ret
  exact ⟨rfl, rfl⟩

theorem and_sign (y : Nat) (h : y < 18446744073709551616) : (decide (wrap64 (y : Int) < 0)) = decide (9223372036854775808 ≤ y) := by
  unfold wrap64
  by_cases h' : 9223372036854775808 ≤ y
  · rw [decide_eq_true h']; simp; omega
  · rw [decide_eq_false h']; simp; omega

theorem isAmount_t (x : Nat) (h : amtB x = true) (w : World) :
    Calls Try.prog 117 #[.float .f32 x] w fun e w' => e = .returned (.bool true) ∧ w = w' := by
  have hf := amt_fin h
  rw [amtB_iff, INF_val] at h
  have hx : x < 4294967296 := by omega
  have hc := fun w => run_conv_wid (P := Try.prog) w 22 26 x hx Try.underlying22 Try.underlying26 (finB_iff.1 hf)
  have hw : wid x < 18446744073709551616 := D.write_lt _
  have Hs := hid (show (decide (wrap64 (wid x : Int) < 0)) = false by
    rw [and_sign _ hw]
    have := (wid_val (x := x) (by rw [INF_val]; omega)).1
    rw [DINF_val] at this
    simp; omega)
  have Hx := hid hx
  have Hf := hid hf
  clear h hf hx hw
  go_enter Try.func117, Try.ntmps117
  go_wp2_with (first | (go_at_call 123; refine (isFinite_t x Hx.out Hf.out _).mono ?_; rintro e w' ⟨rfl, rfl⟩) | (go_at_call 211; refine (signbit_f64 (wid x) _).mono ?_; rintro e w' ⟨rfl, rfl⟩; rw [Hs.out]))
  go_ret
  exact ⟨rfl, rfl⟩

theorem isAmount_f (x : Nat) (hx : x < 4294967296) (h : amtB x = false) (w : World) :
    Calls Try.prog 117 #[.float .f32 x] w fun e w' => e = .returned (.bool false) ∧ Below w.heap.size w w' := by
  rcases hf : finB x with _ | _
  · have Hx := hid hx
    have Hf := hid hf
    clear h hf hx
    go_enter Try.func117, Try.ntmps117
    go_wp2_with (go_at_call 123; refine (isFinite_f x Hx.out Hf.out _).mono ?_; rintro e w' ⟨rfl, hb⟩)
    go_ret
    exact ⟨rfl, hb⟩
  · have hc := fun w => run_conv_wid (P := Try.prog) w 22 26 x hx Try.underlying22 Try.underlying26 (finB_iff.1 hf)
    have hw : wid x < 18446744073709551616 := D.write_lt _
    have Hs := hid (show (decide (wrap64 (wid x : Int) < 0)) = true by
      rw [and_sign _ hw, wid_fin hx (finB_iff.1 hf)]
      rw [amtB_iff', INF_val] at h
      rw [finB_iff, INF_val] at hf
      unfold mg at hf ⊢
      rw [if_pos (by omega)]
      simp)
    have Hx := hid hx
    have Hf := hid hf
    clear h hf hx hw
    go_enter Try.func117, Try.ntmps117
    go_wp2_with (first | (go_at_call 123; refine (isFinite_t x Hx.out Hf.out _).mono ?_; rintro e w' ⟨rfl, rfl⟩) | (go_at_call 211; refine (signbit_f64 (wid x) _).mono ?_; rintro e w' ⟨rfl, rfl⟩; rw [Hs.out]))
    go_ret
    exact ⟨rfl, Below.refl _ _⟩

@[go_sem] theorem ext_f32bits (y : Nat) (w : World) : (callFunc 210 #[.float .f32 y]).run Try.prog w = .ok (.value (.int .u32 y)) w := by
  rw [run_callFunc_extern Try.func210 (by kernel_rfl) (by kernel_rfl) (by kernel_rfl) (e := Extern.MathFloatBits.float32bits) (by kernel_rfl)]
  rfl

theorem sFinite_t (x : Nat) (hx : x < 4294967296) (h : finB x = true) (w : World) :
    Calls Try.prog 120 #[.float .f32 x] w fun e w' => e = .returned (.bool true) ∧ w = w' := by
  have hr := fun w => run_float_arith (P := Try.prog) w .sub 22 .f32 x x 0 (sub_self_fin hx h)
  clear h hx
  go_enter Try.func120, Try.ntmps120
  go_wp2
  go_ret
  exact ⟨rfl, rfl⟩

theorem sFinite_f (x : Nat) (hx : x < 4294967296) (h : finB x = false) (w : World) :
    Calls Try.prog 120 #[.float .f32 x] w fun e w' => e = .returned (.bool false) ∧ Below w.heap.size w w' := by
  obtain ⟨z, hr, h1, _⟩ := run_arith_nan (P := Try.prog) w .sub (by simp) 22 x x (sub_self_none hx h)
  have Hn := hid (show (FloatKind.f32.format.order z 0 == some .eq) = false by
    show (S.order z 0 == some .eq) = false
    rw [order_nan32 h1]; rfl)
  clear h hx h1
  go_enter Try.func120, Try.ntmps120
  go_wp2
  go_ret
  exact ⟨by simp [Hn.out], (Below.refl _ _).drew⟩

theorem sAmount_t (x : Nat) (h : amtB x = true) (w : World) :
    Calls Try.prog 115 #[.float .f32 x] w fun e w' => e = .returned (.bool true) ∧ w = w' := by
  have hf := amt_fin h
  have h' := amtB_iff.1 h
  have hx : x < 4294967296 := by rw [INF_val] at h'; omega
  have Hx := hid hx
  have Hf := hid hf
  by_cases h0 : x = 0
  · subst h0
    clear h hf h' hx
    go_enter Try.func115, Try.ntmps115
    go_wp2_with (go_at_call 120; refine (sFinite_t 0 Hx.out Hf.out _).mono ?_; rintro e w' ⟨rfl, rfl⟩)
    go_ret
    exact ⟨rfl, rfl⟩
  · have hg : (FloatKind.f32.format.order x 0 == some .gt) = true := by
      show (S.order x 0 == some .gt) = true
      rw [order_zero_pos h', Nat.compare_eq_gt.2 (by omega)]; rfl
    clear h hf h' hx h0
    go_enter Try.func115, Try.ntmps115
    go_wp2_with (go_at_call 120; refine (sFinite_t x Hx.out Hf.out _).mono ?_; rintro e w' ⟨rfl, rfl⟩)
    go_ret
    exact ⟨rfl, rfl⟩

theorem sAmount_f (x : Nat) (hx : x < 4294967296) (h : amtB x = false) (w : World) :
    Calls Try.prog 115 #[.float .f32 x] w fun e w' => e = .returned (.bool false) ∧ Below w.heap.size w w' := by
  rcases hf : finB x with _ | _
  · have Hx := hid hx
    have Hf := hid hf
    clear h hf hx
    go_enter Try.func115, Try.ntmps115
    go_wp2_with (go_at_call 120; refine (sFinite_f x Hx.out Hf.out _).mono ?_; rintro e w' ⟨rfl, hb⟩)
    go_ret
    exact ⟨rfl, hb⟩
  · have hs : 2147483648 ≤ x := by
      rw [amtB_iff', INF_val] at h
      have := finB_iff.1 hf
      rw [INF_val] at this
      unfold mg at this
      omega
    have hg : (FloatKind.f32.format.order x 0 == some .gt) = false := order_neg_zero hx hf hs
    have hb : ((x : Int) == 0) = false := by simp; omega
    have Hx := hid hx
    have Hf := hid hf
    clear h hf hx hs
    go_enter Try.func115, Try.ntmps115
    go_wp2_with (go_at_call 120; refine (sFinite_t x Hx.out Hf.out _).mono ?_; rintro e w' ⟨rfl, rfl⟩)
    go_ret
    exact ⟨rfl, Below.refl _ _⟩

theorem div_one_some {y m : Nat} {s : Bool} {e : Int} (h : D.read y = .number s m e) : ∃ q, floatBits .quo .f64 4607182418800017408 y = some q := by
  have h1 : D.read 4607182418800017408 = .number false 4503599627370496 (-52) := by decide
  show ∃ q, D.div 4607182418800017408 y = some q
  unfold Ieee.Format.div
  rw [h, h1]
  simp only [Ieee.Datum.quotient]
  by_cases hm : m = 0
  · rw [if_pos hm]; exact ⟨_, rfl⟩
  · rw [if_neg hm]; exact ⟨_, rfl⟩

set_option maxRecDepth 100000 in
theorem sameFloat (x : Nat) (hx : x < 4294967296) (h : finB x = true) (w : World) :
    Calls Try.prog 35 #[.float .f64 (wid x), .float .f64 (wid x)] w fun e w' => e = .returned (.bool true) ∧ w = w' := by
  obtain ⟨a, b, m, e, hr⟩ := read_wid_fin hx (finB_iff.1 h)
  have hn : (FloatKind.f64.format.order (wid x) (wid x) != some .eq) = false := by
    show (D.order (wid x) (wid x) != some .eq) = false
    rw [order_self hr]; rfl
  have hq : (FloatKind.f64.format.order (wid x) (wid x) == some .eq) = true := by
    show (D.order (wid x) (wid x) == some .eq) = true
    rw [order_self hr]; rfl
  obtain ⟨q, hd⟩ := div_one_some hr
  have hdiv := fun w => run_float_arith (P := Try.prog) w .quo 26 .f64 4607182418800017408 (wid x) q hd
  clear hd hr a b h hx
  rcases hz : (FloatKind.f64.format.order (wid x) 0 == some .eq) with _ | _
  · go_enter Try.func35, Try.ntmps35
    go_wp2
    go_ret
    exact ⟨by simp, rfl⟩
  · go_enter Try.func35, Try.ntmps35
    go_wp2
    go_ret
    exact ⟨by simp, rfl⟩

def Share (x : Nat) : Prop := x ≤ 1065353216

theorem share_amt {x : Nat} (h : Share x) : amtB x = true := by unfold Share at h; rw [amtB_iff, INF_val]; omega

theorem leq_one_t {x : Nat} (h : Share x) : (FloatKind.f32.format.order x 1065353216 == some .lt || FloatKind.f32.format.order x 1065353216 == some .eq) = true := by
  show (S.order x 1065353216 == some .lt || S.order x 1065353216 == some .eq) = true
  rw [order_lt (amtB_iff.1 (share_amt h)) (by decide)]
  unfold Share at h
  rcases Nat.lt_or_eq_of_le h with h | h
  · rw [Nat.compare_eq_lt.2 h]; rfl
  · rw [Nat.compare_eq_eq.2 h]; rfl

theorem leq_one_f {x : Nat} (ha : amtB x = true) (h : ¬ Share x) : (FloatKind.f32.format.order x 1065353216 == some .lt || FloatKind.f32.format.order x 1065353216 == some .eq) = false := by
  show (S.order x 1065353216 == some .lt || S.order x 1065353216 == some .eq) = false
  rw [order_lt (amtB_iff.1 ha) (by decide)]
  unfold Share at h
  rw [Nat.compare_eq_gt.2 (by omega)]; rfl

theorem iShare_t (x : Nat) (h : Share x) (w : World) :
    Calls Try.prog 198 #[.float .f32 x] w fun e w' => e = .returned (.bool true) ∧ w = w' := by
  have ho := leq_one_t h
  have Ha := hid (share_amt h)
  clear h
  go_enter Try.func198, Try.ntmps198
  go_wp2_with fail
  refine (isAmount_t x Ha.out _).mono ?_
  rintro e w1 ⟨rfl, rfl⟩
  go_wp2
  go_ret
  exact ⟨by first | rfl | (simp; done), rfl⟩

theorem iShare_f (x : Nat) (hx : x < 4294967296) (h : ¬ Share x) (w : World) :
    Calls Try.prog 198 #[.float .f32 x] w fun e w' => e = .returned (.bool false) ∧ Below w.heap.size w w' := by
  rcases ha : amtB x with _ | _
  · have Ha := hid ha
    have Hx := hid hx
    clear h ha hx
    go_enter Try.func198, Try.ntmps198
    go_wp2_with fail
    refine (isAmount_f x Hx.out Ha.out _).mono ?_
    rintro e w1 ⟨rfl, hb⟩
    go_wp2
    go_ret
    exact ⟨rfl, hb⟩
  · have ho := leq_one_f ha h
    have Ha := hid ha
    clear h ha hx
    go_enter Try.func198, Try.ntmps198
    go_wp2_with fail
    refine (isAmount_t x Ha.out _).mono ?_
    rintro e w1 ⟨rfl, rfl⟩
    go_wp2
    go_ret
    exact ⟨by first | rfl | (simp; done), Below.refl _ _⟩

theorem sShare_t (x : Nat) (h : Share x) (w : World) :
    Calls Try.prog 184 #[.float .f32 x] w fun e w' => e = .returned (.bool true) ∧ w = w' := by
  have ho := leq_one_t h
  have Ha := hid (share_amt h)
  clear h
  go_enter Try.func184, Try.ntmps184
  go_wp2_with fail
  refine (sAmount_t x Ha.out _).mono ?_
  rintro e w1 ⟨rfl, rfl⟩
  go_wp2
  go_ret
  exact ⟨by first | rfl | (simp; done), rfl⟩

theorem sShare_f (x : Nat) (hx : x < 4294967296) (h : ¬ Share x) (w : World) :
    Calls Try.prog 184 #[.float .f32 x] w fun e w' => e = .returned (.bool false) ∧ Below w.heap.size w w' := by
  rcases ha : amtB x with _ | _
  · have Ha := hid ha
    have Hx := hid hx
    clear h ha hx
    go_enter Try.func184, Try.ntmps184
    go_wp2_with fail
    refine (sAmount_f x Hx.out Ha.out _).mono ?_
    rintro e w1 ⟨rfl, hb⟩
    go_wp2
    go_ret
    exact ⟨rfl, hb⟩
  · have ho := leq_one_f ha h
    have Ha := hid ha
    clear h ha hx
    go_enter Try.func184, Try.ntmps184
    go_wp2_with fail
    refine (sAmount_t x Ha.out _).mono ?_
    rintro e w1 ⟨rfl, rfl⟩
    go_wp2
    go_ret
    exact ⟨by first | rfl | (simp; done), Below.refl _ _⟩

theorem loose {P : Program} {f : FuncId} {args : Array Value} {w : World} {v : Value} (h : Calls P f args w fun e w' => e = .returned v ∧ w = w') : Calls P f args w fun e w' => e = .returned v ∧ Below w.heap.size w w' :=
  h.mono fun _ _ ⟨a, b⟩ => ⟨a, b ▸ Below.refl _ _⟩

theorem alloc_air (a : Operand → Value) (d : Option Tmp) (t : TypeId) (ps : String) (af : Array Edge) (gd : Option (Nat × Bool)) (w : World) :
    (execOp a ⟨d, .alloc 38, t, ps, af, gd⟩).run Try.prog w = .ok (.value (.pointer (some ⟨w.heap.size, 0, none⟩))) (w.alloc (.cells (#[.float .f32 0, .float .f32 0]) 38)) := by
  unfold execOp
  go_simp

theorem info_air : (Try.prog.info? 38).map (·.size) = some 2 := by kernel_rfl

theorem info_lair : (Try.prog.info? 37).map (·.size) = some 2 := by kernel_rfl

set_option maxRecDepth 100000 in
theorem toAir (h v : Nat) (w : World) :
    Calls Try.prog 42 #[.agg #[.float .f32 h, .float .f32 v]] w fun e w' => e = .returned (.agg #[.float .f32 h, .float .f32 v]) ∧ Below w.heap.size w w' := by
  have k0 : Hid (Kept w [(w.heap.size + 1, #[.float .f32 h, .float .f32 v], 38)] (((w.alloc (.cells #[.float .f32 h, .float .f32 v] 37)).alloc (.cells #[.float .f32 h, .float .f32 v] 38)).alloc (.cells #[.float .f32 h, .float .f32 v] 38))) := hid (((((Kept.nil w).push _ _).push _ _).push _ _).sub (by simp))
  go_enter Try.func42, Try.ntmps42
  go_wp2
  exact bodyPost_ret (results_cell_row rfl _ _ (w.heap.size + 1) 38 #[.float .f32 h, .float .f32 v] (0, 0) _ rfl (k0.out.at (x := (w.heap.size + 1, #[.float .f32 h, .float .f32 v], 38)) (by simp)) Try.underlying38 rfl info_air) rfl ⟨rfl, k0.out.1⟩

set_option maxRecDepth 100000 in
theorem eqAir (h v : Nat) (hh : h < 4294967296) (hv : v < 4294967296) (fh : finB h = true) (fv : finB v = true) (w : World) :
    Calls Try.prog 44 #[.agg #[.float .f32 h, .float .f32 v], .agg #[.float .f32 h, .float .f32 v]] w fun e w' => e = .returned (.bool true) ∧ Below w.heap.size w w' := by
  have hc0 := fun w => run_conv_wid (P := Try.prog) w 22 26 h hh Try.underlying22 Try.underlying26 (finB_iff.1 fh)
  have hc1 := fun w => run_conv_wid (P := Try.prog) w 22 26 v hv Try.underlying22 Try.underlying26 (finB_iff.1 fv)
  have Hh := hid hh
  have Hv := hid hv
  have Fh := hid fh
  have Fv := hid fv
  have b0 := boxed2 w (.cells #[.float .f32 h, .float .f32 v] 38) (.cells #[.float .f32 h, .float .f32 v] 38)
  clear hh hv fh fv
  go_enter Try.func44, Try.ntmps44
  go_wp2_with fail
  refine (sameFloat h Hh.out Fh.out _).mono ?_
  rintro e w1 ⟨rfl, rfl⟩
  go_wp2_with fail
  refine (sameFloat v Hv.out Fv.out _).mono ?_
  rintro e w1 ⟨rfl, rfl⟩
  go_wp2
  go_ret
  exact ⟨rfl, b0⟩

theorem iHeat (x : Nat) (q : Bool) (hq : heatB x = q) (w : World) :
    Calls Try.prog 241 #[.float .f32 x] w fun e w' => e = .returned (.bool q) ∧ w = w' := by
  have h1 : heatB x = ((FloatKind.f32.format.order x 3262119936 == some .gt || FloatKind.f32.format.order x 3262119936 == some .eq) && (FloatKind.f32.format.order x 1114636288 == some .lt || FloatKind.f32.format.order x 1114636288 == some .eq)) := rfl
  rw [h1] at hq
  clear h1
  rcases a : (FloatKind.f32.format.order x 3262119936 == some .gt || FloatKind.f32.format.order x 3262119936 == some .eq) with _ | _
  · rw [a] at hq
    simp only [Bool.false_and] at hq
    subst hq
    go_enter Try.func241, Try.ntmps241
    go_wp2
    go_ret
    exact ⟨rfl, rfl⟩
  · rw [a] at hq
    simp only [Bool.true_and] at hq
    cases q
    all_goals
      go_enter Try.func241, Try.ntmps241
      go_wp2
      go_ret
      exact ⟨rfl, rfl⟩

theorem sHeat (x : Nat) (q : Bool) (hq : heatB x = q) (w : World) :
    Calls Try.prog 221 #[.float .f32 x] w fun e w' => e = .returned (.bool q) ∧ w = w' := by
  have h1 : heatB x = ((FloatKind.f32.format.order x 3262119936 == some .gt || FloatKind.f32.format.order x 3262119936 == some .eq) && (FloatKind.f32.format.order x 1114636288 == some .lt || FloatKind.f32.format.order x 1114636288 == some .eq)) := rfl
  rw [h1] at hq
  clear h1
  rcases a : (FloatKind.f32.format.order x 3262119936 == some .gt || FloatKind.f32.format.order x 3262119936 == some .eq) with _ | _
  · rw [a] at hq
    simp only [Bool.false_and] at hq
    subst hq
    go_enter Try.func221, Try.ntmps221
    go_wp2
    go_ret
    exact ⟨rfl, rfl⟩
  · rw [a] at hq
    simp only [Bool.true_and] at hq
    cases q
    all_goals
      go_enter Try.func221, Try.ntmps221
      go_wp2
      go_ret
      exact ⟨rfl, rfl⟩

set_option maxRecDepth 100000 in
theorem iValidAir (h v : Nat) (hv : v < 4294967296) (q : Bool) (hq : airB h v = q) (w : World) :
    Calls Try.prog 170 #[.agg #[.float .f32 h, .float .f32 v]] w fun e w' => e = .returned (.bool q) ∧ Below w.heap.size w w' := by
  have b0 := boxed w (.cells #[.float .f32 h, .float .f32 v] 38)
  have Hv := hid hv
  have e1 : airB h v = (heatB h && amtB v && vapB v) := rfl
  rw [e1] at hq
  clear hv e1
  rcases a : heatB h with _ | _
  · have Ha := hid a
    rw [a] at hq
    simp only [Bool.false_and] at hq
    subst hq
    clear a
    go_enter Try.func170, Try.ntmps170
    go_wp2_with fail
    refine (iHeat h false Ha.out _).mono ?_
    rintro e w1 ⟨rfl, rfl⟩
    go_wp2
    go_ret
    exact ⟨rfl, b0⟩
  · have Ha := hid a
    rw [a] at hq
    clear a
    rcases b : amtB v with _ | _
    · have Hb := hid b
      rw [b] at hq
      simp only [Bool.and_false, Bool.false_and] at hq
      subst hq
      clear b
      go_enter Try.func170, Try.ntmps170
      go_wp2_with fail
      refine (iHeat h true Ha.out _).mono ?_
      rintro e w1 ⟨rfl, rfl⟩
      go_wp2_with fail
      refine (isAmount_f v Hv.out Hb.out _).mono ?_
      rintro e w1 ⟨rfl, hb1⟩
      go_wp2
      go_ret
      exact ⟨rfl, stp b0 (Nat.le_refl _) hb1⟩
    · have Hb := hid b
      rw [b] at hq
      simp only [Bool.true_and] at hq
      have hc : (FloatKind.f32.format.order v 1148846080 == some .lt || FloatKind.f32.format.order v 1148846080 == some .eq) = q := hq
      clear b hq
      cases q
      all_goals
        go_enter Try.func170, Try.ntmps170
        go_wp2_with fail
        refine (iHeat h true Ha.out _).mono ?_
        rintro e w1 ⟨rfl, rfl⟩
        go_wp2_with fail
        refine (isAmount_t v Hb.out _).mono ?_
        rintro e w1 ⟨rfl, rfl⟩
        go_wp2
        go_ret
        exact ⟨rfl, b0⟩

theorem iMixN (a b x : Nat) (M : MixF a b x) (w : World) :
    Calls Try.prog 251 #[.float .f32 a, .float .f32 b, .float .f32 x] w fun e w' => e = .returned (.float .f32 (mixW a b x)) ∧ w = w' := by
  have h1 := fun w => run_float_arith (P := Try.prog) w .sub 22 .f32 _ _ _ M.r
  have h2 := fun w => run_float_arith (P := Try.prog) w .mul 22 .f32 _ _ _ M.m1
  have h3 := fun w => run_float_arith (P := Try.prog) w .mul 22 .f32 _ _ _ M.m2
  have h4 := fun w => run_float_arith (P := Try.prog) w .add 22 .f32 _ _ _ M.s
  clear M
  go_enter Try.func251, Try.ntmps251
  go_wp2
  go_ret
  exact ⟨rfl, rfl⟩

set_option maxRecDepth 100000 in
theorem iMixAir_range (ah av bh bv x : Nat) (hv1 : av < 4294967296) (hq1 : airB ah av = true) (hv2 : bv < 4294967296) (hq2 : airB bh bv = true) (hx : x < 4294967296) (hn : ¬ Share x) (w : World) :
    Calls Try.prog 186 #[.agg #[.float .f32 ah, .float .f32 av], .agg #[.float .f32 bh, .float .f32 bv], .float .f32 x] w fun e w' => e = .returned (.tuple #[.agg #[.float .f32 0, .float .f32 0], .int .i64 2]) ∧ Below w.heap.size w w' := by
  have k0 : Hid (Kept w [(w.heap.size, #[.float .f32 ah, .float .f32 av], 38), (w.heap.size + 1, #[.float .f32 bh, .float .f32 bv], 38), (w.heap.size + 1 + 1, #[.float .f32 0, .float .f32 0], 38)] (((w.alloc (.cells (#[.float .f32 ah, .float .f32 av]) 38)).alloc (.cells (#[.float .f32 bh, .float .f32 bv]) 38)).alloc (.cells (#[.float .f32 0, .float .f32 0]) 38))) := hid (((((Kept.nil w).push (#[.float .f32 ah, .float .f32 av]) 38).push (#[.float .f32 bh, .float .f32 bv]) 38).push (#[.float .f32 0, .float .f32 0]) 38).sub (by simp))
  have Hhv1 := hid hv1
  have Hhq1 := hid hq1
  have Hhv2 := hid hv2
  have Hhq2 := hid hq2
  have Hhx := hid hx
  have Hhn := hid hn
  clear hv1 hq1 hv2 hq2 hx hn
  go_enter Try.func186, Try.ntmps186
  go_wp2_with (first | (refine wpList_load_row rfl 38 _ rfl (w.heap.size) rfl 38 (#[.float .f32 ah, .float .f32 av]) (0, 0) _ (k0.out.at (x := (w.heap.size, #[.float .f32 ah, .float .f32 av], 38)) (by simp)) Try.underlying38 rfl (info_air) ?_))
  refine (iValidAir ah av Hhv1.out true Hhq1.out _).mono ?_
  rintro e w0 ⟨rfl, hb0⟩
  have k1 := hid (k0.out.stay hb0)
  clear hb0
  go_wp2_with (first | (refine wpList_load_g rfl 38 _ rfl (w.heap.size + 1) rfl 38 (#[.float .f32 bh, .float .f32 bv]) (0, 0) _ (k1.out.at (x := (w.heap.size + 1, #[.float .f32 bh, .float .f32 bv], 38)) (by simp)) Try.underlying38 rfl (info_air) ?_))
  refine (iValidAir bh bv Hhv2.out true Hhq2.out _).mono ?_
  rintro e w1 ⟨rfl, hb1⟩
  have k2 := hid (k1.out.stay hb1)
  clear hb1
  go_wp2_with fail
  refine (iShare_f x Hhx.out Hhn.out _).mono ?_
  rintro e w2 ⟨rfl, hb2⟩
  have k3 := hid (k2.out.stay hb2)
  clear hb2
  go_wp2_with (first | (refine wpList_store_row rfl 38 _ _ rfl (w.heap.size + 1 + 1) (#[.float .f32 0, .float .f32 0]) rfl rfl 38 _ (k3.out.at (x := (w.heap.size + 1 + 1, #[.float .f32 0, .float .f32 0], 38)) (by simp)) (info_air) (by simp) (by simp [Value.oneCell']) ?_))
  exact bodyPost_ret (results_row_tmp rfl _ _ (w.heap.size + 1 + 1) 38 (#[.float .f32 0, .float .f32 0]) (0, 0) _ rfl (setRow_heap _ _ _ _ _ _ (k3.out.at (x := (w.heap.size + 1 + 1, #[.float .f32 0, .float .f32 0], 38)) (by simp))) Try.underlying38 rfl info_air) rfl ⟨rfl, below_row k3.out.1 (by omega) _⟩

theorem run_mixN3 (a : Act) (x0 : Operand) (v0 : Value) (h0 : a.eval x0 = v0) (x1 : Operand) (v1 : Value) (h1 : a.eval x1 = v1) (x2 : Operand) (v2 : Value) (h2 : a.eval x2 = v2) (d : Option Tmp) (ats : Array TypeId) (t : TypeId) (ps : String) (af : Array Edge) (gd : Option (Nat × Bool)) (w : World) :
    (execOp a.eval ⟨d, .call { callee := .value (.func 251), args := #[x0, x1, x2], argTypes := ats }, t, ps, af, gd⟩).run Try.prog w = .ok (.enter 251 #[v0, v1, v2]) w := by
  subst h0 h1 h2
  unfold execOp
  go_simp

set_option maxRecDepth 100000 in
set_option maxHeartbeats 2000000 in
theorem iMixAir_ok (ah av bh bv x : Nat) (hv1 : av < 4294967296) (hq1 : airB ah av = true) (hv2 : bv < 4294967296) (hq2 : airB bh bv = true) (hx : Share x) (M1 : MixF ah bh x) (M2 : MixF av bv x) (hr : airB (mixW ah bh x) (mixW av bv x) = true) (w : World) :
    Calls Try.prog 186 #[.agg #[.float .f32 ah, .float .f32 av], .agg #[.float .f32 bh, .float .f32 bv], .float .f32 x] w fun e w' => e = .returned (.tuple #[.agg #[.float .f32 (mixW ah bh x), .float .f32 (mixW av bv x)], .int .i64 0]) ∧ Below w.heap.size w w' := by
  have k0 : Hid (Kept w [(w.heap.size, #[.float .f32 ah, .float .f32 av], 38), (w.heap.size + 1, #[.float .f32 bh, .float .f32 bv], 38), (w.heap.size + 1 + 1, #[.float .f32 0, .float .f32 0], 38)] (((w.alloc (.cells (#[.float .f32 ah, .float .f32 av]) 38)).alloc (.cells (#[.float .f32 bh, .float .f32 bv]) 38)).alloc (.cells (#[.float .f32 0, .float .f32 0]) 38))) := hid (((((Kept.nil w).push (#[.float .f32 ah, .float .f32 av]) 38).push (#[.float .f32 bh, .float .f32 bv]) 38).push (#[.float .f32 0, .float .f32 0]) 38).sub (by simp))
  have Hhv1 := hid hv1
  have Hhq1 := hid hq1
  have Hhv2 := hid hv2
  have Hhq2 := hid hq2
  have Hhx := hid hx
  have HM1 := hid M1
  have HM2 := hid M2
  have Hhr := hid hr
  clear hv1 hq1 hv2 hq2 hx M1 M2 hr
  go_enter Try.func186, Try.ntmps186
  go_wp2_with (first | (refine wpList_load_row rfl 38 _ rfl (w.heap.size) rfl 38 (#[.float .f32 ah, .float .f32 av]) (0, 0) _ (k0.out.at (x := (w.heap.size, #[.float .f32 ah, .float .f32 av], 38)) (by simp)) Try.underlying38 rfl (info_air) ?_))
  refine (iValidAir ah av Hhv1.out true Hhq1.out _).mono ?_
  rintro e w0 ⟨rfl, hb0⟩
  have k1 := hid (k0.out.stay hb0)
  clear hb0
  go_wp2_with (first | (refine wpList_load_g rfl 38 _ rfl (w.heap.size + 1) rfl 38 (#[.float .f32 bh, .float .f32 bv]) (0, 0) _ (k1.out.at (x := (w.heap.size + 1, #[.float .f32 bh, .float .f32 bv], 38)) (by simp)) Try.underlying38 rfl (info_air) ?_))
  refine (iValidAir bh bv Hhv2.out true Hhq2.out _).mono ?_
  rintro e w1 ⟨rfl, hb1⟩
  have k2 := hid (k1.out.stay hb1)
  clear hb1
  go_wp2_with fail
  refine (iShare_t x Hhx.out _).mono ?_
  rintro e w2 ⟨rfl, rfl⟩
  go_wp2_with fail
  rename_i Q1 K1 hK1
  have key : ∀ (a0 : Nat) (w1 : World), Hid (Kept w [(a0, #[.float .f32 (mixW ah bh x), .float .f32 (mixW av bv x)], 38), (w.heap.size, #[.float .f32 ah, .float .f32 av], 38), (w.heap.size + 1, #[.float .f32 bh, .float .f32 bv], 38), (w.heap.size + 1 + 1, #[.float .f32 0, .float .f32 0], 38)] w1) → K1 { tmps := (.agg #[.float .f32 ah, .float .f32 av] :: .agg #[.float .f32 bh, .float .f32 bv] :: .float .f32 x :: .pointer (some ⟨w.heap.size, 0, none⟩) :: .pointer (some ⟨w.heap.size + 1, 0, none⟩) :: undef :: .pointer (some ⟨w.heap.size + 1 + 1, 0, none⟩) :: .int .i64 0 :: .pointer (some ⟨a0, 0, none⟩) :: .agg #[.float .f32 ah, .float .f32 av] :: .bool true :: .bool false :: .bool false :: .agg #[.float .f32 bh, .float .f32 bv] :: .bool true :: .bool false :: .bool false :: undef :: .float .f32 x :: .bool true :: .bool false :: undef :: .pointer (some ⟨w.heap.size, 0, none⟩) :: .float .f32 ah :: .pointer (some ⟨w.heap.size + 1, 0, none⟩) :: .float .f32 bh :: .float .f32 x :: .float .f32 (mixW ah bh x) :: .pointer (some ⟨w.heap.size, 1, none⟩) :: .float .f32 av :: .pointer (some ⟨w.heap.size + 1, 1, none⟩) :: .float .f32 bv :: .float .f32 x :: .float .f32 (mixW av bv x) :: .agg #[.float .f32 (mixW ah bh x), .float .f32 (mixW av bv x)] :: undef :: undef :: undef :: undef :: undef :: []).toArray, defers := [] } w1 := by
    intro a0 w1 k1
    clear k2
    go_wp2_with (first | (refine wpList_load_row rfl 38 _ rfl (a0) rfl 38 (#[.float .f32 (mixW ah bh x), .float .f32 (mixW av bv x)]) (0, 0) _ (k1.out.at (x := (a0, #[.float .f32 (mixW ah bh x), .float .f32 (mixW av bv x)], 38)) (by simp)) Try.underlying38 rfl (info_air) ?_))
    refine (iValidAir _ _ HM2.out.lt true Hhr.out _).mono ?_
    rintro e w50 ⟨rfl, hb50⟩
    have k51 := hid (k1.out.stay hb50)
    clear hb50
    go_wp2_with (first | (refine wpList_load_row rfl 38 _ rfl (a0) rfl 38 (#[.float .f32 (mixW ah bh x), .float .f32 (mixW av bv x)]) (0, 0) _ (k51.out.at (x := (a0, #[.float .f32 (mixW ah bh x), .float .f32 (mixW av bv x)], 38)) (by simp)) Try.underlying38 rfl (info_air) ?_) | (refine wpList_store_row rfl 38 _ _ rfl (w.heap.size + 1 + 1) (#[.float .f32 (mixW ah bh x), .float .f32 (mixW av bv x)]) rfl rfl 38 _ (k51.out.at (x := (w.heap.size + 1 + 1, #[.float .f32 0, .float .f32 0], 38)) (by simp)) (info_air) (by simp) (by simp [Value.oneCell']) ?_))
    exact bodyPost_ret (results_row_tmp rfl _ _ (w.heap.size + 1 + 1) 38 (#[.float .f32 (mixW ah bh x), .float .f32 (mixW av bv x)]) (0, 0) _ rfl (setRow_heap _ _ _ _ _ _ (k51.out.at (x := (w.heap.size + 1 + 1, #[.float .f32 0, .float .f32 0], 38)) (by simp))) Try.underlying38 rfl info_air) rfl ⟨rfl, below_row k51.out.1 (by omega) _⟩
  refine region_kept (w0 := w) (l := [(w.heap.size, #[.float .f32 ah, .float .f32 av], 38), (w.heap.size + 1, #[.float .f32 bh, .float .f32 bv], 38), (w.heap.size + 1 + 1, #[.float .f32 0, .float .f32 0], 38)]) 15 #[false, false, false, false, false, false, false, false, false, false, false, false, false, false, false] (by kernel_rfl) rfl rfl ?_
  have kd := k2.out.drew
  clear k2
  generalize World.drew _ = wd at kd ⊢
  refine take_val 0 { tmps := (.agg #[.float .f32 ah, .float .f32 av] :: .agg #[.float .f32 bh, .float .f32 bv] :: .float .f32 x :: .pointer (some ⟨w.heap.size, 0, none⟩) :: .pointer (some ⟨w.heap.size + 1, 0, none⟩) :: undef :: .pointer (some ⟨w.heap.size + 1 + 1, 0, none⟩) :: .int .i64 0 :: undef :: .agg #[.float .f32 ah, .float .f32 av] :: .bool true :: .bool false :: .bool false :: .agg #[.float .f32 bh, .float .f32 bv] :: .bool true :: .bool false :: .bool false :: undef :: .float .f32 x :: .bool true :: .bool false :: undef :: .pointer (some ⟨w.heap.size, 0, none⟩) :: undef :: undef :: undef :: undef :: undef :: undef :: undef :: undef :: undef :: undef :: undef :: undef :: undef :: undef :: undef :: undef :: undef :: []).toArray, defers := [] } #[true, false, false, false, false, false, false, false, false, false, false, false, false, false, false] (.pointer (some ⟨w.heap.size, 0, none⟩)) rfl (by rfl) (by kernel_rfl) (by kernel_rfl) (by kernel_rfl) (fun w => by unfold execOp; go_simp) (by rfl) (by rfl) (kd) ?_
  refine take_cell 1 { tmps := (.agg #[.float .f32 ah, .float .f32 av] :: .agg #[.float .f32 bh, .float .f32 bv] :: .float .f32 x :: .pointer (some ⟨w.heap.size, 0, none⟩) :: .pointer (some ⟨w.heap.size + 1, 0, none⟩) :: undef :: .pointer (some ⟨w.heap.size + 1 + 1, 0, none⟩) :: .int .i64 0 :: undef :: .agg #[.float .f32 ah, .float .f32 av] :: .bool true :: .bool false :: .bool false :: .agg #[.float .f32 bh, .float .f32 bv] :: .bool true :: .bool false :: .bool false :: undef :: .float .f32 x :: .bool true :: .bool false :: undef :: .pointer (some ⟨w.heap.size, 0, none⟩) :: .float .f32 ah :: undef :: undef :: undef :: undef :: undef :: undef :: undef :: undef :: undef :: undef :: undef :: undef :: undef :: undef :: undef :: undef :: []).toArray, defers := [] } #[true, true, false, false, false, false, false, false, false, false, false, false, false, false, false] (.float .f32 ah) rfl (by rfl) (by kernel_rfl) (by kernel_rfl) (by kernel_rfl) (fun wq hS => by have hcell : wq.cell? ⟨w.heap.size, 0, none⟩ = some (.float .f32 ah) := (cell_of_row wq (w.heap.size) 0 _ _ _ (hS.at (x := (w.heap.size, #[.float .f32 ah, .float .f32 av], 38)) (by simp))).trans rfl; clear hS; unfold execOp; go_simp) (by rfl) (by rfl) (kd) ?_
  refine take_val 2 { tmps := (.agg #[.float .f32 ah, .float .f32 av] :: .agg #[.float .f32 bh, .float .f32 bv] :: .float .f32 x :: .pointer (some ⟨w.heap.size, 0, none⟩) :: .pointer (some ⟨w.heap.size + 1, 0, none⟩) :: undef :: .pointer (some ⟨w.heap.size + 1 + 1, 0, none⟩) :: .int .i64 0 :: undef :: .agg #[.float .f32 ah, .float .f32 av] :: .bool true :: .bool false :: .bool false :: .agg #[.float .f32 bh, .float .f32 bv] :: .bool true :: .bool false :: .bool false :: undef :: .float .f32 x :: .bool true :: .bool false :: undef :: .pointer (some ⟨w.heap.size, 0, none⟩) :: .float .f32 ah :: .pointer (some ⟨w.heap.size + 1, 0, none⟩) :: undef :: undef :: undef :: undef :: undef :: undef :: undef :: undef :: undef :: undef :: undef :: undef :: undef :: undef :: undef :: []).toArray, defers := [] } #[true, true, true, false, false, false, false, false, false, false, false, false, false, false, false] (.pointer (some ⟨w.heap.size + 1, 0, none⟩)) rfl (by rfl) (by kernel_rfl) (by kernel_rfl) (by kernel_rfl) (fun w => by unfold execOp; go_simp) (by rfl) (by rfl) (kd) ?_
  refine take_cell 3 { tmps := (.agg #[.float .f32 ah, .float .f32 av] :: .agg #[.float .f32 bh, .float .f32 bv] :: .float .f32 x :: .pointer (some ⟨w.heap.size, 0, none⟩) :: .pointer (some ⟨w.heap.size + 1, 0, none⟩) :: undef :: .pointer (some ⟨w.heap.size + 1 + 1, 0, none⟩) :: .int .i64 0 :: undef :: .agg #[.float .f32 ah, .float .f32 av] :: .bool true :: .bool false :: .bool false :: .agg #[.float .f32 bh, .float .f32 bv] :: .bool true :: .bool false :: .bool false :: undef :: .float .f32 x :: .bool true :: .bool false :: undef :: .pointer (some ⟨w.heap.size, 0, none⟩) :: .float .f32 ah :: .pointer (some ⟨w.heap.size + 1, 0, none⟩) :: .float .f32 bh :: undef :: undef :: undef :: undef :: undef :: undef :: undef :: undef :: undef :: undef :: undef :: undef :: undef :: undef :: []).toArray, defers := [] } #[true, true, true, true, false, false, false, false, false, false, false, false, false, false, false] (.float .f32 bh) rfl (by rfl) (by kernel_rfl) (by kernel_rfl) (by kernel_rfl) (fun wq hS => by have hcell : wq.cell? ⟨w.heap.size + 1, 0, none⟩ = some (.float .f32 bh) := (cell_of_row wq (w.heap.size + 1) 0 _ _ _ (hS.at (x := (w.heap.size + 1, #[.float .f32 bh, .float .f32 bv], 38)) (by simp))).trans rfl; clear hS; unfold execOp; go_simp) (by rfl) (by rfl) (kd) ?_
  refine take_val 4 { tmps := (.agg #[.float .f32 ah, .float .f32 av] :: .agg #[.float .f32 bh, .float .f32 bv] :: .float .f32 x :: .pointer (some ⟨w.heap.size, 0, none⟩) :: .pointer (some ⟨w.heap.size + 1, 0, none⟩) :: undef :: .pointer (some ⟨w.heap.size + 1 + 1, 0, none⟩) :: .int .i64 0 :: undef :: .agg #[.float .f32 ah, .float .f32 av] :: .bool true :: .bool false :: .bool false :: .agg #[.float .f32 bh, .float .f32 bv] :: .bool true :: .bool false :: .bool false :: undef :: .float .f32 x :: .bool true :: .bool false :: undef :: .pointer (some ⟨w.heap.size, 0, none⟩) :: .float .f32 ah :: .pointer (some ⟨w.heap.size + 1, 0, none⟩) :: .float .f32 bh :: .float .f32 x :: undef :: undef :: undef :: undef :: undef :: undef :: undef :: undef :: undef :: undef :: undef :: undef :: undef :: []).toArray, defers := [] } #[true, true, true, true, true, false, false, false, false, false, false, false, false, false, false] (.float .f32 x) rfl (by rfl) (by kernel_rfl) (by kernel_rfl) (by kernel_rfl) (fun w => by rfl) (by rfl) (by rfl) (kd) ?_
  refine take_val 6 { tmps := (.agg #[.float .f32 ah, .float .f32 av] :: .agg #[.float .f32 bh, .float .f32 bv] :: .float .f32 x :: .pointer (some ⟨w.heap.size, 0, none⟩) :: .pointer (some ⟨w.heap.size + 1, 0, none⟩) :: undef :: .pointer (some ⟨w.heap.size + 1 + 1, 0, none⟩) :: .int .i64 0 :: undef :: .agg #[.float .f32 ah, .float .f32 av] :: .bool true :: .bool false :: .bool false :: .agg #[.float .f32 bh, .float .f32 bv] :: .bool true :: .bool false :: .bool false :: undef :: .float .f32 x :: .bool true :: .bool false :: undef :: .pointer (some ⟨w.heap.size, 0, none⟩) :: .float .f32 ah :: .pointer (some ⟨w.heap.size + 1, 0, none⟩) :: .float .f32 bh :: .float .f32 x :: undef :: .pointer (some ⟨w.heap.size, 1, none⟩) :: undef :: undef :: undef :: undef :: undef :: undef :: undef :: undef :: undef :: undef :: undef :: []).toArray, defers := [] } #[true, true, true, true, true, false, true, false, false, false, false, false, false, false, false] (.pointer (some ⟨w.heap.size, 1, none⟩)) rfl (by rfl) (by kernel_rfl) (by kernel_rfl) (by kernel_rfl) (fun w => by unfold execOp; go_simp) (by rfl) (by rfl) (kd) ?_
  refine take_cell 7 { tmps := (.agg #[.float .f32 ah, .float .f32 av] :: .agg #[.float .f32 bh, .float .f32 bv] :: .float .f32 x :: .pointer (some ⟨w.heap.size, 0, none⟩) :: .pointer (some ⟨w.heap.size + 1, 0, none⟩) :: undef :: .pointer (some ⟨w.heap.size + 1 + 1, 0, none⟩) :: .int .i64 0 :: undef :: .agg #[.float .f32 ah, .float .f32 av] :: .bool true :: .bool false :: .bool false :: .agg #[.float .f32 bh, .float .f32 bv] :: .bool true :: .bool false :: .bool false :: undef :: .float .f32 x :: .bool true :: .bool false :: undef :: .pointer (some ⟨w.heap.size, 0, none⟩) :: .float .f32 ah :: .pointer (some ⟨w.heap.size + 1, 0, none⟩) :: .float .f32 bh :: .float .f32 x :: undef :: .pointer (some ⟨w.heap.size, 1, none⟩) :: .float .f32 av :: undef :: undef :: undef :: undef :: undef :: undef :: undef :: undef :: undef :: undef :: []).toArray, defers := [] } #[true, true, true, true, true, false, true, true, false, false, false, false, false, false, false] (.float .f32 av) rfl (by rfl) (by kernel_rfl) (by kernel_rfl) (by kernel_rfl) (fun wq hS => by have hcell : wq.cell? ⟨w.heap.size, 1, none⟩ = some (.float .f32 av) := (cell_of_row wq (w.heap.size) 1 _ _ _ (hS.at (x := (w.heap.size, #[.float .f32 ah, .float .f32 av], 38)) (by simp))).trans rfl; clear hS; unfold execOp; go_simp) (by rfl) (by rfl) (kd) ?_
  refine take_val 8 { tmps := (.agg #[.float .f32 ah, .float .f32 av] :: .agg #[.float .f32 bh, .float .f32 bv] :: .float .f32 x :: .pointer (some ⟨w.heap.size, 0, none⟩) :: .pointer (some ⟨w.heap.size + 1, 0, none⟩) :: undef :: .pointer (some ⟨w.heap.size + 1 + 1, 0, none⟩) :: .int .i64 0 :: undef :: .agg #[.float .f32 ah, .float .f32 av] :: .bool true :: .bool false :: .bool false :: .agg #[.float .f32 bh, .float .f32 bv] :: .bool true :: .bool false :: .bool false :: undef :: .float .f32 x :: .bool true :: .bool false :: undef :: .pointer (some ⟨w.heap.size, 0, none⟩) :: .float .f32 ah :: .pointer (some ⟨w.heap.size + 1, 0, none⟩) :: .float .f32 bh :: .float .f32 x :: undef :: .pointer (some ⟨w.heap.size, 1, none⟩) :: .float .f32 av :: .pointer (some ⟨w.heap.size + 1, 1, none⟩) :: undef :: undef :: undef :: undef :: undef :: undef :: undef :: undef :: undef :: []).toArray, defers := [] } #[true, true, true, true, true, false, true, true, true, false, false, false, false, false, false] (.pointer (some ⟨w.heap.size + 1, 1, none⟩)) rfl (by rfl) (by kernel_rfl) (by kernel_rfl) (by kernel_rfl) (fun w => by unfold execOp; go_simp) (by rfl) (by rfl) (kd) ?_
  refine take_cell 9 { tmps := (.agg #[.float .f32 ah, .float .f32 av] :: .agg #[.float .f32 bh, .float .f32 bv] :: .float .f32 x :: .pointer (some ⟨w.heap.size, 0, none⟩) :: .pointer (some ⟨w.heap.size + 1, 0, none⟩) :: undef :: .pointer (some ⟨w.heap.size + 1 + 1, 0, none⟩) :: .int .i64 0 :: undef :: .agg #[.float .f32 ah, .float .f32 av] :: .bool true :: .bool false :: .bool false :: .agg #[.float .f32 bh, .float .f32 bv] :: .bool true :: .bool false :: .bool false :: undef :: .float .f32 x :: .bool true :: .bool false :: undef :: .pointer (some ⟨w.heap.size, 0, none⟩) :: .float .f32 ah :: .pointer (some ⟨w.heap.size + 1, 0, none⟩) :: .float .f32 bh :: .float .f32 x :: undef :: .pointer (some ⟨w.heap.size, 1, none⟩) :: .float .f32 av :: .pointer (some ⟨w.heap.size + 1, 1, none⟩) :: .float .f32 bv :: undef :: undef :: undef :: undef :: undef :: undef :: undef :: undef :: []).toArray, defers := [] } #[true, true, true, true, true, false, true, true, true, true, false, false, false, false, false] (.float .f32 bv) rfl (by rfl) (by kernel_rfl) (by kernel_rfl) (by kernel_rfl) (fun wq hS => by have hcell : wq.cell? ⟨w.heap.size + 1, 1, none⟩ = some (.float .f32 bv) := (cell_of_row wq (w.heap.size + 1) 1 _ _ _ (hS.at (x := (w.heap.size + 1, #[.float .f32 bh, .float .f32 bv], 38)) (by simp))).trans rfl; clear hS; unfold execOp; go_simp) (by rfl) (by rfl) (kd) ?_
  refine take_val 10 { tmps := (.agg #[.float .f32 ah, .float .f32 av] :: .agg #[.float .f32 bh, .float .f32 bv] :: .float .f32 x :: .pointer (some ⟨w.heap.size, 0, none⟩) :: .pointer (some ⟨w.heap.size + 1, 0, none⟩) :: undef :: .pointer (some ⟨w.heap.size + 1 + 1, 0, none⟩) :: .int .i64 0 :: undef :: .agg #[.float .f32 ah, .float .f32 av] :: .bool true :: .bool false :: .bool false :: .agg #[.float .f32 bh, .float .f32 bv] :: .bool true :: .bool false :: .bool false :: undef :: .float .f32 x :: .bool true :: .bool false :: undef :: .pointer (some ⟨w.heap.size, 0, none⟩) :: .float .f32 ah :: .pointer (some ⟨w.heap.size + 1, 0, none⟩) :: .float .f32 bh :: .float .f32 x :: undef :: .pointer (some ⟨w.heap.size, 1, none⟩) :: .float .f32 av :: .pointer (some ⟨w.heap.size + 1, 1, none⟩) :: .float .f32 bv :: .float .f32 x :: undef :: undef :: undef :: undef :: undef :: undef :: undef :: []).toArray, defers := [] } #[true, true, true, true, true, false, true, true, true, true, true, false, false, false, false] (.float .f32 x) rfl (by rfl) (by kernel_rfl) (by kernel_rfl) (by kernel_rfl) (fun w => by rfl) (by rfl) (by rfl) (kd) ?_
  refine wpAnyH_ready (rs := [5, 13]) (by kernel_rfl) (by simp) ?_
  refine callK 5 { tmps := (.agg #[.float .f32 ah, .float .f32 av] :: .agg #[.float .f32 bh, .float .f32 bv] :: .float .f32 x :: .pointer (some ⟨w.heap.size, 0, none⟩) :: .pointer (some ⟨w.heap.size + 1, 0, none⟩) :: undef :: .pointer (some ⟨w.heap.size + 1 + 1, 0, none⟩) :: .int .i64 0 :: undef :: .agg #[.float .f32 ah, .float .f32 av] :: .bool true :: .bool false :: .bool false :: .agg #[.float .f32 bh, .float .f32 bv] :: .bool true :: .bool false :: .bool false :: undef :: .float .f32 x :: .bool true :: .bool false :: undef :: .pointer (some ⟨w.heap.size, 0, none⟩) :: .float .f32 ah :: .pointer (some ⟨w.heap.size + 1, 0, none⟩) :: .float .f32 bh :: .float .f32 x :: .float .f32 (mixW ah bh x) :: .pointer (some ⟨w.heap.size, 1, none⟩) :: .float .f32 av :: .pointer (some ⟨w.heap.size + 1, 1, none⟩) :: .float .f32 bv :: .float .f32 x :: undef :: undef :: undef :: undef :: undef :: undef :: undef :: []).toArray, defers := [] } #[true, true, true, true, true, true, true, true, true, true, true, false, false, false, false] (.float .f32 (mixW ah bh x)) kd rfl (by rfl) 251 #[.float .f32 ah, .float .f32 bh, .float .f32 x] (run_mixN3 _ _ _ rfl _ _ rfl _ _ rfl _ _ _ _ _ _) (by rfl) (by rfl) (loose (iMixN _ _ _ HM1.out _)) (fun w1 k1 => ?_) ?_
  · refine ⟨k1, ?_⟩
    refine wpAnyH_ready (rs := [11, 13]) (by kernel_rfl) (by simp) ?_
    refine callK 11 { tmps := (.agg #[.float .f32 ah, .float .f32 av] :: .agg #[.float .f32 bh, .float .f32 bv] :: .float .f32 x :: .pointer (some ⟨w.heap.size, 0, none⟩) :: .pointer (some ⟨w.heap.size + 1, 0, none⟩) :: undef :: .pointer (some ⟨w.heap.size + 1 + 1, 0, none⟩) :: .int .i64 0 :: undef :: .agg #[.float .f32 ah, .float .f32 av] :: .bool true :: .bool false :: .bool false :: .agg #[.float .f32 bh, .float .f32 bv] :: .bool true :: .bool false :: .bool false :: undef :: .float .f32 x :: .bool true :: .bool false :: undef :: .pointer (some ⟨w.heap.size, 0, none⟩) :: .float .f32 ah :: .pointer (some ⟨w.heap.size + 1, 0, none⟩) :: .float .f32 bh :: .float .f32 x :: .float .f32 (mixW ah bh x) :: .pointer (some ⟨w.heap.size, 1, none⟩) :: .float .f32 av :: .pointer (some ⟨w.heap.size + 1, 1, none⟩) :: .float .f32 bv :: .float .f32 x :: .float .f32 (mixW av bv x) :: undef :: undef :: undef :: undef :: undef :: undef :: []).toArray, defers := [] } #[true, true, true, true, true, true, true, true, true, true, true, true, false, false, false] (.float .f32 (mixW av bv x)) k1 rfl (by rfl) 251 #[.float .f32 av, .float .f32 bv, .float .f32 x] (run_mixN3 _ _ _ rfl _ _ rfl _ _ rfl _ _ _ _ _ _) (by rfl) (by rfl) (loose (iMixN _ _ _ HM2.out _)) (fun w2 k2 => ?_) ?_
    · refine ⟨k2, ?_⟩
      refine take_val 12 { tmps := (.agg #[.float .f32 ah, .float .f32 av] :: .agg #[.float .f32 bh, .float .f32 bv] :: .float .f32 x :: .pointer (some ⟨w.heap.size, 0, none⟩) :: .pointer (some ⟨w.heap.size + 1, 0, none⟩) :: undef :: .pointer (some ⟨w.heap.size + 1 + 1, 0, none⟩) :: .int .i64 0 :: undef :: .agg #[.float .f32 ah, .float .f32 av] :: .bool true :: .bool false :: .bool false :: .agg #[.float .f32 bh, .float .f32 bv] :: .bool true :: .bool false :: .bool false :: undef :: .float .f32 x :: .bool true :: .bool false :: undef :: .pointer (some ⟨w.heap.size, 0, none⟩) :: .float .f32 ah :: .pointer (some ⟨w.heap.size + 1, 0, none⟩) :: .float .f32 bh :: .float .f32 x :: .float .f32 (mixW ah bh x) :: .pointer (some ⟨w.heap.size, 1, none⟩) :: .float .f32 av :: .pointer (some ⟨w.heap.size + 1, 1, none⟩) :: .float .f32 bv :: .float .f32 x :: .float .f32 (mixW av bv x) :: .agg #[.float .f32 (mixW ah bh x), .float .f32 (mixW av bv x)] :: undef :: undef :: undef :: undef :: undef :: []).toArray, defers := [] } #[true, true, true, true, true, true, true, true, true, true, true, true, true, false, false] (.agg #[.float .f32 (mixW ah bh x), .float .f32 (mixW av bv x)]) rfl (by rfl) (by kernel_rfl) (by kernel_rfl) (by kernel_rfl) (fun w => by unfold execOp; go_simp) (by rfl) (by rfl) (k2) ?_
      refine wpAnyH_ready (rs := [13]) (by kernel_rfl) (by simp) ?_
      refine allocK 13 (fun g3 => { tmps := (.agg #[.float .f32 ah, .float .f32 av] :: .agg #[.float .f32 bh, .float .f32 bv] :: .float .f32 x :: .pointer (some ⟨w.heap.size, 0, none⟩) :: .pointer (some ⟨w.heap.size + 1, 0, none⟩) :: undef :: .pointer (some ⟨w.heap.size + 1 + 1, 0, none⟩) :: .int .i64 0 :: .pointer (some ⟨g3, 0, none⟩) :: .agg #[.float .f32 ah, .float .f32 av] :: .bool true :: .bool false :: .bool false :: .agg #[.float .f32 bh, .float .f32 bv] :: .bool true :: .bool false :: .bool false :: undef :: .float .f32 x :: .bool true :: .bool false :: undef :: .pointer (some ⟨w.heap.size, 0, none⟩) :: .float .f32 ah :: .pointer (some ⟨w.heap.size + 1, 0, none⟩) :: .float .f32 bh :: .float .f32 x :: .float .f32 (mixW ah bh x) :: .pointer (some ⟨w.heap.size, 1, none⟩) :: .float .f32 av :: .pointer (some ⟨w.heap.size + 1, 1, none⟩) :: .float .f32 bv :: .float .f32 x :: .float .f32 (mixW av bv x) :: .agg #[.float .f32 (mixW ah bh x), .float .f32 (mixW av bv x)] :: undef :: undef :: undef :: undef :: undef :: []).toArray, defers := [] }) #[true, true, true, true, true, true, true, true, true, true, true, true, true, true, false] k2 rfl (by rfl) (#[.float .f32 0, .float .f32 0]) 38 (alloc_air _ _ _ _ _ _ _) (fun g => by rfl) (by rfl) (fun w3 g3 k3 hB3 hn3 => ?_) AllReadyH.nil
      refine ⟨k3.tail, ?_⟩
      refine wpAnyH_ready (rs := [14]) (by kernel_rfl) (by simp) ?_
      refine storeK 14 { tmps := (.agg #[.float .f32 ah, .float .f32 av] :: .agg #[.float .f32 bh, .float .f32 bv] :: .float .f32 x :: .pointer (some ⟨w.heap.size, 0, none⟩) :: .pointer (some ⟨w.heap.size + 1, 0, none⟩) :: undef :: .pointer (some ⟨w.heap.size + 1 + 1, 0, none⟩) :: .int .i64 0 :: .pointer (some ⟨g3, 0, none⟩) :: .agg #[.float .f32 ah, .float .f32 av] :: .bool true :: .bool false :: .bool false :: .agg #[.float .f32 bh, .float .f32 bv] :: .bool true :: .bool false :: .bool false :: undef :: .float .f32 x :: .bool true :: .bool false :: undef :: .pointer (some ⟨w.heap.size, 0, none⟩) :: .float .f32 ah :: .pointer (some ⟨w.heap.size + 1, 0, none⟩) :: .float .f32 bh :: .float .f32 x :: .float .f32 (mixW ah bh x) :: .pointer (some ⟨w.heap.size, 1, none⟩) :: .float .f32 av :: .pointer (some ⟨w.heap.size + 1, 1, none⟩) :: .float .f32 bv :: .float .f32 x :: .float .f32 (mixW av bv x) :: .agg #[.float .f32 (mixW ah bh x), .float .f32 (mixW av bv x)] :: undef :: undef :: undef :: undef :: undef :: []).toArray, defers := [] } #[true, true, true, true, true, true, true, true, true, true, true, true, true, true, true] k3 hB3 hn3 rfl (by rfl) 38 _ _ rfl (#[.float .f32 (mixW ah bh x), .float .f32 (mixW av bv x)]) (by rfl) (by rfl) (info_air) (by simp) (by simp [Value.oneCell']) (by rfl) (by rfl) (fun w4 k4 => ?_) AllReadyH.nil
      refine ⟨k4.tail, ?_⟩
      exact wpAnyH_done (by kernel_rfl) (NoPanic.normal (key g3 _ (hid k4))) _
    refine allocK 13 (fun g5 => { tmps := (.agg #[.float .f32 ah, .float .f32 av] :: .agg #[.float .f32 bh, .float .f32 bv] :: .float .f32 x :: .pointer (some ⟨w.heap.size, 0, none⟩) :: .pointer (some ⟨w.heap.size + 1, 0, none⟩) :: undef :: .pointer (some ⟨w.heap.size + 1 + 1, 0, none⟩) :: .int .i64 0 :: .pointer (some ⟨g5, 0, none⟩) :: .agg #[.float .f32 ah, .float .f32 av] :: .bool true :: .bool false :: .bool false :: .agg #[.float .f32 bh, .float .f32 bv] :: .bool true :: .bool false :: .bool false :: undef :: .float .f32 x :: .bool true :: .bool false :: undef :: .pointer (some ⟨w.heap.size, 0, none⟩) :: .float .f32 ah :: .pointer (some ⟨w.heap.size + 1, 0, none⟩) :: .float .f32 bh :: .float .f32 x :: .float .f32 (mixW ah bh x) :: .pointer (some ⟨w.heap.size, 1, none⟩) :: .float .f32 av :: .pointer (some ⟨w.heap.size + 1, 1, none⟩) :: .float .f32 bv :: .float .f32 x :: undef :: undef :: undef :: undef :: undef :: undef :: undef :: []).toArray, defers := [] }) #[true, true, true, true, true, true, true, true, true, true, true, false, false, true, false] k1 rfl (by rfl) (#[.float .f32 0, .float .f32 0]) 38 (alloc_air _ _ _ _ _ _ _) (fun g => by rfl) (by rfl) (fun w5 g5 k5 hB5 hn5 => ?_) AllReadyH.nil
    refine ⟨k5.tail, ?_⟩
    refine wpAnyH_ready (rs := [11]) (by kernel_rfl) (by simp) ?_
    refine callK 11 { tmps := (.agg #[.float .f32 ah, .float .f32 av] :: .agg #[.float .f32 bh, .float .f32 bv] :: .float .f32 x :: .pointer (some ⟨w.heap.size, 0, none⟩) :: .pointer (some ⟨w.heap.size + 1, 0, none⟩) :: undef :: .pointer (some ⟨w.heap.size + 1 + 1, 0, none⟩) :: .int .i64 0 :: .pointer (some ⟨g5, 0, none⟩) :: .agg #[.float .f32 ah, .float .f32 av] :: .bool true :: .bool false :: .bool false :: .agg #[.float .f32 bh, .float .f32 bv] :: .bool true :: .bool false :: .bool false :: undef :: .float .f32 x :: .bool true :: .bool false :: undef :: .pointer (some ⟨w.heap.size, 0, none⟩) :: .float .f32 ah :: .pointer (some ⟨w.heap.size + 1, 0, none⟩) :: .float .f32 bh :: .float .f32 x :: .float .f32 (mixW ah bh x) :: .pointer (some ⟨w.heap.size, 1, none⟩) :: .float .f32 av :: .pointer (some ⟨w.heap.size + 1, 1, none⟩) :: .float .f32 bv :: .float .f32 x :: .float .f32 (mixW av bv x) :: undef :: undef :: undef :: undef :: undef :: undef :: []).toArray, defers := [] } #[true, true, true, true, true, true, true, true, true, true, true, true, false, true, false] (.float .f32 (mixW av bv x)) k5 rfl (by rfl) 251 #[.float .f32 av, .float .f32 bv, .float .f32 x] (run_mixN3 _ _ _ rfl _ _ rfl _ _ rfl _ _ _ _ _ _) (by rfl) (by rfl) (loose (iMixN _ _ _ HM2.out _)) (fun w6 k6 => ?_) AllReadyH.nil
    refine ⟨k6.tail, ?_⟩
    refine take_val 12 { tmps := (.agg #[.float .f32 ah, .float .f32 av] :: .agg #[.float .f32 bh, .float .f32 bv] :: .float .f32 x :: .pointer (some ⟨w.heap.size, 0, none⟩) :: .pointer (some ⟨w.heap.size + 1, 0, none⟩) :: undef :: .pointer (some ⟨w.heap.size + 1 + 1, 0, none⟩) :: .int .i64 0 :: .pointer (some ⟨g5, 0, none⟩) :: .agg #[.float .f32 ah, .float .f32 av] :: .bool true :: .bool false :: .bool false :: .agg #[.float .f32 bh, .float .f32 bv] :: .bool true :: .bool false :: .bool false :: undef :: .float .f32 x :: .bool true :: .bool false :: undef :: .pointer (some ⟨w.heap.size, 0, none⟩) :: .float .f32 ah :: .pointer (some ⟨w.heap.size + 1, 0, none⟩) :: .float .f32 bh :: .float .f32 x :: .float .f32 (mixW ah bh x) :: .pointer (some ⟨w.heap.size, 1, none⟩) :: .float .f32 av :: .pointer (some ⟨w.heap.size + 1, 1, none⟩) :: .float .f32 bv :: .float .f32 x :: .float .f32 (mixW av bv x) :: .agg #[.float .f32 (mixW ah bh x), .float .f32 (mixW av bv x)] :: undef :: undef :: undef :: undef :: undef :: []).toArray, defers := [] } #[true, true, true, true, true, true, true, true, true, true, true, true, true, true, false] (.agg #[.float .f32 (mixW ah bh x), .float .f32 (mixW av bv x)]) rfl (by rfl) (by kernel_rfl) (by kernel_rfl) (by kernel_rfl) (fun w => by unfold execOp; go_simp) (by rfl) (by rfl) (k6.tail) ?_
    refine wpAnyH_ready (rs := [14]) (by kernel_rfl) (by simp) ?_
    refine storeK 14 { tmps := (.agg #[.float .f32 ah, .float .f32 av] :: .agg #[.float .f32 bh, .float .f32 bv] :: .float .f32 x :: .pointer (some ⟨w.heap.size, 0, none⟩) :: .pointer (some ⟨w.heap.size + 1, 0, none⟩) :: undef :: .pointer (some ⟨w.heap.size + 1 + 1, 0, none⟩) :: .int .i64 0 :: .pointer (some ⟨g5, 0, none⟩) :: .agg #[.float .f32 ah, .float .f32 av] :: .bool true :: .bool false :: .bool false :: .agg #[.float .f32 bh, .float .f32 bv] :: .bool true :: .bool false :: .bool false :: undef :: .float .f32 x :: .bool true :: .bool false :: undef :: .pointer (some ⟨w.heap.size, 0, none⟩) :: .float .f32 ah :: .pointer (some ⟨w.heap.size + 1, 0, none⟩) :: .float .f32 bh :: .float .f32 x :: .float .f32 (mixW ah bh x) :: .pointer (some ⟨w.heap.size, 1, none⟩) :: .float .f32 av :: .pointer (some ⟨w.heap.size + 1, 1, none⟩) :: .float .f32 bv :: .float .f32 x :: .float .f32 (mixW av bv x) :: .agg #[.float .f32 (mixW ah bh x), .float .f32 (mixW av bv x)] :: undef :: undef :: undef :: undef :: undef :: []).toArray, defers := [] } #[true, true, true, true, true, true, true, true, true, true, true, true, true, true, true] k6 hB5 hn5 rfl (by rfl) 38 _ _ rfl (#[.float .f32 (mixW ah bh x), .float .f32 (mixW av bv x)]) (by rfl) (by rfl) (info_air) (by simp) (by simp [Value.oneCell']) (by rfl) (by rfl) (fun w7 k7 => ?_) AllReadyH.nil
    refine ⟨k7.tail, ?_⟩
    exact wpAnyH_done (by kernel_rfl) (NoPanic.normal (key g5 _ (hid k7))) _
  refine allocK 13 (fun g8 => { tmps := (.agg #[.float .f32 ah, .float .f32 av] :: .agg #[.float .f32 bh, .float .f32 bv] :: .float .f32 x :: .pointer (some ⟨w.heap.size, 0, none⟩) :: .pointer (some ⟨w.heap.size + 1, 0, none⟩) :: undef :: .pointer (some ⟨w.heap.size + 1 + 1, 0, none⟩) :: .int .i64 0 :: .pointer (some ⟨g8, 0, none⟩) :: .agg #[.float .f32 ah, .float .f32 av] :: .bool true :: .bool false :: .bool false :: .agg #[.float .f32 bh, .float .f32 bv] :: .bool true :: .bool false :: .bool false :: undef :: .float .f32 x :: .bool true :: .bool false :: undef :: .pointer (some ⟨w.heap.size, 0, none⟩) :: .float .f32 ah :: .pointer (some ⟨w.heap.size + 1, 0, none⟩) :: .float .f32 bh :: .float .f32 x :: undef :: .pointer (some ⟨w.heap.size, 1, none⟩) :: .float .f32 av :: .pointer (some ⟨w.heap.size + 1, 1, none⟩) :: .float .f32 bv :: .float .f32 x :: undef :: undef :: undef :: undef :: undef :: undef :: undef :: []).toArray, defers := [] }) #[true, true, true, true, true, false, true, true, true, true, true, false, false, true, false] kd rfl (by rfl) (#[.float .f32 0, .float .f32 0]) 38 (alloc_air _ _ _ _ _ _ _) (fun g => by rfl) (by rfl) (fun w8 g8 k8 hB8 hn8 => ?_) AllReadyH.nil
  refine ⟨k8.tail, ?_⟩
  refine wpAnyH_ready (rs := [5]) (by kernel_rfl) (by simp) ?_
  refine callK 5 { tmps := (.agg #[.float .f32 ah, .float .f32 av] :: .agg #[.float .f32 bh, .float .f32 bv] :: .float .f32 x :: .pointer (some ⟨w.heap.size, 0, none⟩) :: .pointer (some ⟨w.heap.size + 1, 0, none⟩) :: undef :: .pointer (some ⟨w.heap.size + 1 + 1, 0, none⟩) :: .int .i64 0 :: .pointer (some ⟨g8, 0, none⟩) :: .agg #[.float .f32 ah, .float .f32 av] :: .bool true :: .bool false :: .bool false :: .agg #[.float .f32 bh, .float .f32 bv] :: .bool true :: .bool false :: .bool false :: undef :: .float .f32 x :: .bool true :: .bool false :: undef :: .pointer (some ⟨w.heap.size, 0, none⟩) :: .float .f32 ah :: .pointer (some ⟨w.heap.size + 1, 0, none⟩) :: .float .f32 bh :: .float .f32 x :: .float .f32 (mixW ah bh x) :: .pointer (some ⟨w.heap.size, 1, none⟩) :: .float .f32 av :: .pointer (some ⟨w.heap.size + 1, 1, none⟩) :: .float .f32 bv :: .float .f32 x :: undef :: undef :: undef :: undef :: undef :: undef :: undef :: []).toArray, defers := [] } #[true, true, true, true, true, true, true, true, true, true, true, false, false, true, false] (.float .f32 (mixW ah bh x)) k8 rfl (by rfl) 251 #[.float .f32 ah, .float .f32 bh, .float .f32 x] (run_mixN3 _ _ _ rfl _ _ rfl _ _ rfl _ _ _ _ _ _) (by rfl) (by rfl) (loose (iMixN _ _ _ HM1.out _)) (fun w9 k9 => ?_) AllReadyH.nil
  refine ⟨k9.tail, ?_⟩
  refine wpAnyH_ready (rs := [11]) (by kernel_rfl) (by simp) ?_
  refine callK 11 { tmps := (.agg #[.float .f32 ah, .float .f32 av] :: .agg #[.float .f32 bh, .float .f32 bv] :: .float .f32 x :: .pointer (some ⟨w.heap.size, 0, none⟩) :: .pointer (some ⟨w.heap.size + 1, 0, none⟩) :: undef :: .pointer (some ⟨w.heap.size + 1 + 1, 0, none⟩) :: .int .i64 0 :: .pointer (some ⟨g8, 0, none⟩) :: .agg #[.float .f32 ah, .float .f32 av] :: .bool true :: .bool false :: .bool false :: .agg #[.float .f32 bh, .float .f32 bv] :: .bool true :: .bool false :: .bool false :: undef :: .float .f32 x :: .bool true :: .bool false :: undef :: .pointer (some ⟨w.heap.size, 0, none⟩) :: .float .f32 ah :: .pointer (some ⟨w.heap.size + 1, 0, none⟩) :: .float .f32 bh :: .float .f32 x :: .float .f32 (mixW ah bh x) :: .pointer (some ⟨w.heap.size, 1, none⟩) :: .float .f32 av :: .pointer (some ⟨w.heap.size + 1, 1, none⟩) :: .float .f32 bv :: .float .f32 x :: .float .f32 (mixW av bv x) :: undef :: undef :: undef :: undef :: undef :: undef :: []).toArray, defers := [] } #[true, true, true, true, true, true, true, true, true, true, true, true, false, true, false] (.float .f32 (mixW av bv x)) k9 rfl (by rfl) 251 #[.float .f32 av, .float .f32 bv, .float .f32 x] (run_mixN3 _ _ _ rfl _ _ rfl _ _ rfl _ _ _ _ _ _) (by rfl) (by rfl) (loose (iMixN _ _ _ HM2.out _)) (fun w10 k10 => ?_) AllReadyH.nil
  refine ⟨k10.tail, ?_⟩
  refine take_val 12 { tmps := (.agg #[.float .f32 ah, .float .f32 av] :: .agg #[.float .f32 bh, .float .f32 bv] :: .float .f32 x :: .pointer (some ⟨w.heap.size, 0, none⟩) :: .pointer (some ⟨w.heap.size + 1, 0, none⟩) :: undef :: .pointer (some ⟨w.heap.size + 1 + 1, 0, none⟩) :: .int .i64 0 :: .pointer (some ⟨g8, 0, none⟩) :: .agg #[.float .f32 ah, .float .f32 av] :: .bool true :: .bool false :: .bool false :: .agg #[.float .f32 bh, .float .f32 bv] :: .bool true :: .bool false :: .bool false :: undef :: .float .f32 x :: .bool true :: .bool false :: undef :: .pointer (some ⟨w.heap.size, 0, none⟩) :: .float .f32 ah :: .pointer (some ⟨w.heap.size + 1, 0, none⟩) :: .float .f32 bh :: .float .f32 x :: .float .f32 (mixW ah bh x) :: .pointer (some ⟨w.heap.size, 1, none⟩) :: .float .f32 av :: .pointer (some ⟨w.heap.size + 1, 1, none⟩) :: .float .f32 bv :: .float .f32 x :: .float .f32 (mixW av bv x) :: .agg #[.float .f32 (mixW ah bh x), .float .f32 (mixW av bv x)] :: undef :: undef :: undef :: undef :: undef :: []).toArray, defers := [] } #[true, true, true, true, true, true, true, true, true, true, true, true, true, true, false] (.agg #[.float .f32 (mixW ah bh x), .float .f32 (mixW av bv x)]) rfl (by rfl) (by kernel_rfl) (by kernel_rfl) (by kernel_rfl) (fun w => by unfold execOp; go_simp) (by rfl) (by rfl) (k10.tail) ?_
  refine wpAnyH_ready (rs := [14]) (by kernel_rfl) (by simp) ?_
  refine storeK 14 { tmps := (.agg #[.float .f32 ah, .float .f32 av] :: .agg #[.float .f32 bh, .float .f32 bv] :: .float .f32 x :: .pointer (some ⟨w.heap.size, 0, none⟩) :: .pointer (some ⟨w.heap.size + 1, 0, none⟩) :: undef :: .pointer (some ⟨w.heap.size + 1 + 1, 0, none⟩) :: .int .i64 0 :: .pointer (some ⟨g8, 0, none⟩) :: .agg #[.float .f32 ah, .float .f32 av] :: .bool true :: .bool false :: .bool false :: .agg #[.float .f32 bh, .float .f32 bv] :: .bool true :: .bool false :: .bool false :: undef :: .float .f32 x :: .bool true :: .bool false :: undef :: .pointer (some ⟨w.heap.size, 0, none⟩) :: .float .f32 ah :: .pointer (some ⟨w.heap.size + 1, 0, none⟩) :: .float .f32 bh :: .float .f32 x :: .float .f32 (mixW ah bh x) :: .pointer (some ⟨w.heap.size, 1, none⟩) :: .float .f32 av :: .pointer (some ⟨w.heap.size + 1, 1, none⟩) :: .float .f32 bv :: .float .f32 x :: .float .f32 (mixW av bv x) :: .agg #[.float .f32 (mixW ah bh x), .float .f32 (mixW av bv x)] :: undef :: undef :: undef :: undef :: undef :: []).toArray, defers := [] } #[true, true, true, true, true, true, true, true, true, true, true, true, true, true, true] k10 hB8 hn8 rfl (by rfl) 38 _ _ rfl (#[.float .f32 (mixW ah bh x), .float .f32 (mixW av bv x)]) (by rfl) (by rfl) (info_air) (by simp) (by simp [Value.oneCell']) (by rfl) (by rfl) (fun w11 k11 => ?_) AllReadyH.nil
  refine ⟨k11.tail, ?_⟩
  exact wpAnyH_done (by kernel_rfl) (NoPanic.normal (key g8 _ (hid k11))) _

set_option maxRecDepth 100000 in
set_option maxHeartbeats 2000000 in
theorem iMixAir_state (ah av bh bv x : Nat) (hv1 : av < 4294967296) (hq1 : airB ah av = true) (hv2 : bv < 4294967296) (hq2 : airB bh bv = true) (hx : Share x) (M1 : MixF ah bh x) (M2 : MixF av bv x) (hr : airB (mixW ah bh x) (mixW av bv x) = false) (w : World) :
    Calls Try.prog 186 #[.agg #[.float .f32 ah, .float .f32 av], .agg #[.float .f32 bh, .float .f32 bv], .float .f32 x] w fun e w' => e = .returned (.tuple #[.agg #[.float .f32 0, .float .f32 0], .int .i64 4]) ∧ Below w.heap.size w w' := by
  have k0 : Hid (Kept w [(w.heap.size, #[.float .f32 ah, .float .f32 av], 38), (w.heap.size + 1, #[.float .f32 bh, .float .f32 bv], 38), (w.heap.size + 1 + 1, #[.float .f32 0, .float .f32 0], 38)] (((w.alloc (.cells (#[.float .f32 ah, .float .f32 av]) 38)).alloc (.cells (#[.float .f32 bh, .float .f32 bv]) 38)).alloc (.cells (#[.float .f32 0, .float .f32 0]) 38))) := hid (((((Kept.nil w).push (#[.float .f32 ah, .float .f32 av]) 38).push (#[.float .f32 bh, .float .f32 bv]) 38).push (#[.float .f32 0, .float .f32 0]) 38).sub (by simp))
  have Hhv1 := hid hv1
  have Hhq1 := hid hq1
  have Hhv2 := hid hv2
  have Hhq2 := hid hq2
  have Hhx := hid hx
  have HM1 := hid M1
  have HM2 := hid M2
  have Hhr := hid hr
  clear hv1 hq1 hv2 hq2 hx M1 M2 hr
  go_enter Try.func186, Try.ntmps186
  go_wp2_with (first | (refine wpList_load_row rfl 38 _ rfl (w.heap.size) rfl 38 (#[.float .f32 ah, .float .f32 av]) (0, 0) _ (k0.out.at (x := (w.heap.size, #[.float .f32 ah, .float .f32 av], 38)) (by simp)) Try.underlying38 rfl (info_air) ?_))
  refine (iValidAir ah av Hhv1.out true Hhq1.out _).mono ?_
  rintro e w0 ⟨rfl, hb0⟩
  have k1 := hid (k0.out.stay hb0)
  clear hb0
  go_wp2_with (first | (refine wpList_load_g rfl 38 _ rfl (w.heap.size + 1) rfl 38 (#[.float .f32 bh, .float .f32 bv]) (0, 0) _ (k1.out.at (x := (w.heap.size + 1, #[.float .f32 bh, .float .f32 bv], 38)) (by simp)) Try.underlying38 rfl (info_air) ?_))
  refine (iValidAir bh bv Hhv2.out true Hhq2.out _).mono ?_
  rintro e w1 ⟨rfl, hb1⟩
  have k2 := hid (k1.out.stay hb1)
  clear hb1
  go_wp2_with fail
  refine (iShare_t x Hhx.out _).mono ?_
  rintro e w2 ⟨rfl, rfl⟩
  go_wp2_with fail
  rename_i Q1 K1 hK1
  have key : ∀ (a0 : Nat) (w1 : World), Hid (Kept w [(a0, #[.float .f32 (mixW ah bh x), .float .f32 (mixW av bv x)], 38), (w.heap.size, #[.float .f32 ah, .float .f32 av], 38), (w.heap.size + 1, #[.float .f32 bh, .float .f32 bv], 38), (w.heap.size + 1 + 1, #[.float .f32 0, .float .f32 0], 38)] w1) → K1 { tmps := (.agg #[.float .f32 ah, .float .f32 av] :: .agg #[.float .f32 bh, .float .f32 bv] :: .float .f32 x :: .pointer (some ⟨w.heap.size, 0, none⟩) :: .pointer (some ⟨w.heap.size + 1, 0, none⟩) :: undef :: .pointer (some ⟨w.heap.size + 1 + 1, 0, none⟩) :: .int .i64 0 :: .pointer (some ⟨a0, 0, none⟩) :: .agg #[.float .f32 ah, .float .f32 av] :: .bool true :: .bool false :: .bool false :: .agg #[.float .f32 bh, .float .f32 bv] :: .bool true :: .bool false :: .bool false :: undef :: .float .f32 x :: .bool true :: .bool false :: undef :: .pointer (some ⟨w.heap.size, 0, none⟩) :: .float .f32 ah :: .pointer (some ⟨w.heap.size + 1, 0, none⟩) :: .float .f32 bh :: .float .f32 x :: .float .f32 (mixW ah bh x) :: .pointer (some ⟨w.heap.size, 1, none⟩) :: .float .f32 av :: .pointer (some ⟨w.heap.size + 1, 1, none⟩) :: .float .f32 bv :: .float .f32 x :: .float .f32 (mixW av bv x) :: .agg #[.float .f32 (mixW ah bh x), .float .f32 (mixW av bv x)] :: undef :: undef :: undef :: undef :: undef :: []).toArray, defers := [] } w1 := by
    intro a0 w1 k1
    clear k2
    go_wp2_with (first | (refine wpList_load_row rfl 38 _ rfl (a0) rfl 38 (#[.float .f32 (mixW ah bh x), .float .f32 (mixW av bv x)]) (0, 0) _ (k1.out.at (x := (a0, #[.float .f32 (mixW ah bh x), .float .f32 (mixW av bv x)], 38)) (by simp)) Try.underlying38 rfl (info_air) ?_))
    refine (iValidAir _ _ HM2.out.lt false Hhr.out _).mono ?_
    rintro e w50 ⟨rfl, hb50⟩
    have k51 := hid (k1.out.stay hb50)
    clear hb50
    go_wp2_with (first | (refine wpList_store_row rfl 38 _ _ rfl (w.heap.size + 1 + 1) (#[.float .f32 0, .float .f32 0]) rfl rfl 38 _ (k51.out.at (x := (w.heap.size + 1 + 1, #[.float .f32 0, .float .f32 0], 38)) (by simp)) (info_air) (by simp) (by simp [Value.oneCell']) ?_))
    exact bodyPost_ret (results_row_tmp rfl _ _ (w.heap.size + 1 + 1) 38 (#[.float .f32 0, .float .f32 0]) (0, 0) _ rfl (setRow_heap _ _ _ _ _ _ (k51.out.at (x := (w.heap.size + 1 + 1, #[.float .f32 0, .float .f32 0], 38)) (by simp))) Try.underlying38 rfl info_air) rfl ⟨rfl, below_row k51.out.1 (by omega) _⟩
  refine region_kept (w0 := w) (l := [(w.heap.size, #[.float .f32 ah, .float .f32 av], 38), (w.heap.size + 1, #[.float .f32 bh, .float .f32 bv], 38), (w.heap.size + 1 + 1, #[.float .f32 0, .float .f32 0], 38)]) 15 #[false, false, false, false, false, false, false, false, false, false, false, false, false, false, false] (by kernel_rfl) rfl rfl ?_
  have kd := k2.out.drew
  clear k2
  generalize World.drew _ = wd at kd ⊢
  refine take_val 0 { tmps := (.agg #[.float .f32 ah, .float .f32 av] :: .agg #[.float .f32 bh, .float .f32 bv] :: .float .f32 x :: .pointer (some ⟨w.heap.size, 0, none⟩) :: .pointer (some ⟨w.heap.size + 1, 0, none⟩) :: undef :: .pointer (some ⟨w.heap.size + 1 + 1, 0, none⟩) :: .int .i64 0 :: undef :: .agg #[.float .f32 ah, .float .f32 av] :: .bool true :: .bool false :: .bool false :: .agg #[.float .f32 bh, .float .f32 bv] :: .bool true :: .bool false :: .bool false :: undef :: .float .f32 x :: .bool true :: .bool false :: undef :: .pointer (some ⟨w.heap.size, 0, none⟩) :: undef :: undef :: undef :: undef :: undef :: undef :: undef :: undef :: undef :: undef :: undef :: undef :: undef :: undef :: undef :: undef :: undef :: []).toArray, defers := [] } #[true, false, false, false, false, false, false, false, false, false, false, false, false, false, false] (.pointer (some ⟨w.heap.size, 0, none⟩)) rfl (by rfl) (by kernel_rfl) (by kernel_rfl) (by kernel_rfl) (fun w => by unfold execOp; go_simp) (by rfl) (by rfl) (kd) ?_
  refine take_cell 1 { tmps := (.agg #[.float .f32 ah, .float .f32 av] :: .agg #[.float .f32 bh, .float .f32 bv] :: .float .f32 x :: .pointer (some ⟨w.heap.size, 0, none⟩) :: .pointer (some ⟨w.heap.size + 1, 0, none⟩) :: undef :: .pointer (some ⟨w.heap.size + 1 + 1, 0, none⟩) :: .int .i64 0 :: undef :: .agg #[.float .f32 ah, .float .f32 av] :: .bool true :: .bool false :: .bool false :: .agg #[.float .f32 bh, .float .f32 bv] :: .bool true :: .bool false :: .bool false :: undef :: .float .f32 x :: .bool true :: .bool false :: undef :: .pointer (some ⟨w.heap.size, 0, none⟩) :: .float .f32 ah :: undef :: undef :: undef :: undef :: undef :: undef :: undef :: undef :: undef :: undef :: undef :: undef :: undef :: undef :: undef :: undef :: []).toArray, defers := [] } #[true, true, false, false, false, false, false, false, false, false, false, false, false, false, false] (.float .f32 ah) rfl (by rfl) (by kernel_rfl) (by kernel_rfl) (by kernel_rfl) (fun wq hS => by have hcell : wq.cell? ⟨w.heap.size, 0, none⟩ = some (.float .f32 ah) := (cell_of_row wq (w.heap.size) 0 _ _ _ (hS.at (x := (w.heap.size, #[.float .f32 ah, .float .f32 av], 38)) (by simp))).trans rfl; clear hS; unfold execOp; go_simp) (by rfl) (by rfl) (kd) ?_
  refine take_val 2 { tmps := (.agg #[.float .f32 ah, .float .f32 av] :: .agg #[.float .f32 bh, .float .f32 bv] :: .float .f32 x :: .pointer (some ⟨w.heap.size, 0, none⟩) :: .pointer (some ⟨w.heap.size + 1, 0, none⟩) :: undef :: .pointer (some ⟨w.heap.size + 1 + 1, 0, none⟩) :: .int .i64 0 :: undef :: .agg #[.float .f32 ah, .float .f32 av] :: .bool true :: .bool false :: .bool false :: .agg #[.float .f32 bh, .float .f32 bv] :: .bool true :: .bool false :: .bool false :: undef :: .float .f32 x :: .bool true :: .bool false :: undef :: .pointer (some ⟨w.heap.size, 0, none⟩) :: .float .f32 ah :: .pointer (some ⟨w.heap.size + 1, 0, none⟩) :: undef :: undef :: undef :: undef :: undef :: undef :: undef :: undef :: undef :: undef :: undef :: undef :: undef :: undef :: undef :: []).toArray, defers := [] } #[true, true, true, false, false, false, false, false, false, false, false, false, false, false, false] (.pointer (some ⟨w.heap.size + 1, 0, none⟩)) rfl (by rfl) (by kernel_rfl) (by kernel_rfl) (by kernel_rfl) (fun w => by unfold execOp; go_simp) (by rfl) (by rfl) (kd) ?_
  refine take_cell 3 { tmps := (.agg #[.float .f32 ah, .float .f32 av] :: .agg #[.float .f32 bh, .float .f32 bv] :: .float .f32 x :: .pointer (some ⟨w.heap.size, 0, none⟩) :: .pointer (some ⟨w.heap.size + 1, 0, none⟩) :: undef :: .pointer (some ⟨w.heap.size + 1 + 1, 0, none⟩) :: .int .i64 0 :: undef :: .agg #[.float .f32 ah, .float .f32 av] :: .bool true :: .bool false :: .bool false :: .agg #[.float .f32 bh, .float .f32 bv] :: .bool true :: .bool false :: .bool false :: undef :: .float .f32 x :: .bool true :: .bool false :: undef :: .pointer (some ⟨w.heap.size, 0, none⟩) :: .float .f32 ah :: .pointer (some ⟨w.heap.size + 1, 0, none⟩) :: .float .f32 bh :: undef :: undef :: undef :: undef :: undef :: undef :: undef :: undef :: undef :: undef :: undef :: undef :: undef :: undef :: []).toArray, defers := [] } #[true, true, true, true, false, false, false, false, false, false, false, false, false, false, false] (.float .f32 bh) rfl (by rfl) (by kernel_rfl) (by kernel_rfl) (by kernel_rfl) (fun wq hS => by have hcell : wq.cell? ⟨w.heap.size + 1, 0, none⟩ = some (.float .f32 bh) := (cell_of_row wq (w.heap.size + 1) 0 _ _ _ (hS.at (x := (w.heap.size + 1, #[.float .f32 bh, .float .f32 bv], 38)) (by simp))).trans rfl; clear hS; unfold execOp; go_simp) (by rfl) (by rfl) (kd) ?_
  refine take_val 4 { tmps := (.agg #[.float .f32 ah, .float .f32 av] :: .agg #[.float .f32 bh, .float .f32 bv] :: .float .f32 x :: .pointer (some ⟨w.heap.size, 0, none⟩) :: .pointer (some ⟨w.heap.size + 1, 0, none⟩) :: undef :: .pointer (some ⟨w.heap.size + 1 + 1, 0, none⟩) :: .int .i64 0 :: undef :: .agg #[.float .f32 ah, .float .f32 av] :: .bool true :: .bool false :: .bool false :: .agg #[.float .f32 bh, .float .f32 bv] :: .bool true :: .bool false :: .bool false :: undef :: .float .f32 x :: .bool true :: .bool false :: undef :: .pointer (some ⟨w.heap.size, 0, none⟩) :: .float .f32 ah :: .pointer (some ⟨w.heap.size + 1, 0, none⟩) :: .float .f32 bh :: .float .f32 x :: undef :: undef :: undef :: undef :: undef :: undef :: undef :: undef :: undef :: undef :: undef :: undef :: undef :: []).toArray, defers := [] } #[true, true, true, true, true, false, false, false, false, false, false, false, false, false, false] (.float .f32 x) rfl (by rfl) (by kernel_rfl) (by kernel_rfl) (by kernel_rfl) (fun w => by rfl) (by rfl) (by rfl) (kd) ?_
  refine take_val 6 { tmps := (.agg #[.float .f32 ah, .float .f32 av] :: .agg #[.float .f32 bh, .float .f32 bv] :: .float .f32 x :: .pointer (some ⟨w.heap.size, 0, none⟩) :: .pointer (some ⟨w.heap.size + 1, 0, none⟩) :: undef :: .pointer (some ⟨w.heap.size + 1 + 1, 0, none⟩) :: .int .i64 0 :: undef :: .agg #[.float .f32 ah, .float .f32 av] :: .bool true :: .bool false :: .bool false :: .agg #[.float .f32 bh, .float .f32 bv] :: .bool true :: .bool false :: .bool false :: undef :: .float .f32 x :: .bool true :: .bool false :: undef :: .pointer (some ⟨w.heap.size, 0, none⟩) :: .float .f32 ah :: .pointer (some ⟨w.heap.size + 1, 0, none⟩) :: .float .f32 bh :: .float .f32 x :: undef :: .pointer (some ⟨w.heap.size, 1, none⟩) :: undef :: undef :: undef :: undef :: undef :: undef :: undef :: undef :: undef :: undef :: undef :: []).toArray, defers := [] } #[true, true, true, true, true, false, true, false, false, false, false, false, false, false, false] (.pointer (some ⟨w.heap.size, 1, none⟩)) rfl (by rfl) (by kernel_rfl) (by kernel_rfl) (by kernel_rfl) (fun w => by unfold execOp; go_simp) (by rfl) (by rfl) (kd) ?_
  refine take_cell 7 { tmps := (.agg #[.float .f32 ah, .float .f32 av] :: .agg #[.float .f32 bh, .float .f32 bv] :: .float .f32 x :: .pointer (some ⟨w.heap.size, 0, none⟩) :: .pointer (some ⟨w.heap.size + 1, 0, none⟩) :: undef :: .pointer (some ⟨w.heap.size + 1 + 1, 0, none⟩) :: .int .i64 0 :: undef :: .agg #[.float .f32 ah, .float .f32 av] :: .bool true :: .bool false :: .bool false :: .agg #[.float .f32 bh, .float .f32 bv] :: .bool true :: .bool false :: .bool false :: undef :: .float .f32 x :: .bool true :: .bool false :: undef :: .pointer (some ⟨w.heap.size, 0, none⟩) :: .float .f32 ah :: .pointer (some ⟨w.heap.size + 1, 0, none⟩) :: .float .f32 bh :: .float .f32 x :: undef :: .pointer (some ⟨w.heap.size, 1, none⟩) :: .float .f32 av :: undef :: undef :: undef :: undef :: undef :: undef :: undef :: undef :: undef :: undef :: []).toArray, defers := [] } #[true, true, true, true, true, false, true, true, false, false, false, false, false, false, false] (.float .f32 av) rfl (by rfl) (by kernel_rfl) (by kernel_rfl) (by kernel_rfl) (fun wq hS => by have hcell : wq.cell? ⟨w.heap.size, 1, none⟩ = some (.float .f32 av) := (cell_of_row wq (w.heap.size) 1 _ _ _ (hS.at (x := (w.heap.size, #[.float .f32 ah, .float .f32 av], 38)) (by simp))).trans rfl; clear hS; unfold execOp; go_simp) (by rfl) (by rfl) (kd) ?_
  refine take_val 8 { tmps := (.agg #[.float .f32 ah, .float .f32 av] :: .agg #[.float .f32 bh, .float .f32 bv] :: .float .f32 x :: .pointer (some ⟨w.heap.size, 0, none⟩) :: .pointer (some ⟨w.heap.size + 1, 0, none⟩) :: undef :: .pointer (some ⟨w.heap.size + 1 + 1, 0, none⟩) :: .int .i64 0 :: undef :: .agg #[.float .f32 ah, .float .f32 av] :: .bool true :: .bool false :: .bool false :: .agg #[.float .f32 bh, .float .f32 bv] :: .bool true :: .bool false :: .bool false :: undef :: .float .f32 x :: .bool true :: .bool false :: undef :: .pointer (some ⟨w.heap.size, 0, none⟩) :: .float .f32 ah :: .pointer (some ⟨w.heap.size + 1, 0, none⟩) :: .float .f32 bh :: .float .f32 x :: undef :: .pointer (some ⟨w.heap.size, 1, none⟩) :: .float .f32 av :: .pointer (some ⟨w.heap.size + 1, 1, none⟩) :: undef :: undef :: undef :: undef :: undef :: undef :: undef :: undef :: undef :: []).toArray, defers := [] } #[true, true, true, true, true, false, true, true, true, false, false, false, false, false, false] (.pointer (some ⟨w.heap.size + 1, 1, none⟩)) rfl (by rfl) (by kernel_rfl) (by kernel_rfl) (by kernel_rfl) (fun w => by unfold execOp; go_simp) (by rfl) (by rfl) (kd) ?_
  refine take_cell 9 { tmps := (.agg #[.float .f32 ah, .float .f32 av] :: .agg #[.float .f32 bh, .float .f32 bv] :: .float .f32 x :: .pointer (some ⟨w.heap.size, 0, none⟩) :: .pointer (some ⟨w.heap.size + 1, 0, none⟩) :: undef :: .pointer (some ⟨w.heap.size + 1 + 1, 0, none⟩) :: .int .i64 0 :: undef :: .agg #[.float .f32 ah, .float .f32 av] :: .bool true :: .bool false :: .bool false :: .agg #[.float .f32 bh, .float .f32 bv] :: .bool true :: .bool false :: .bool false :: undef :: .float .f32 x :: .bool true :: .bool false :: undef :: .pointer (some ⟨w.heap.size, 0, none⟩) :: .float .f32 ah :: .pointer (some ⟨w.heap.size + 1, 0, none⟩) :: .float .f32 bh :: .float .f32 x :: undef :: .pointer (some ⟨w.heap.size, 1, none⟩) :: .float .f32 av :: .pointer (some ⟨w.heap.size + 1, 1, none⟩) :: .float .f32 bv :: undef :: undef :: undef :: undef :: undef :: undef :: undef :: undef :: []).toArray, defers := [] } #[true, true, true, true, true, false, true, true, true, true, false, false, false, false, false] (.float .f32 bv) rfl (by rfl) (by kernel_rfl) (by kernel_rfl) (by kernel_rfl) (fun wq hS => by have hcell : wq.cell? ⟨w.heap.size + 1, 1, none⟩ = some (.float .f32 bv) := (cell_of_row wq (w.heap.size + 1) 1 _ _ _ (hS.at (x := (w.heap.size + 1, #[.float .f32 bh, .float .f32 bv], 38)) (by simp))).trans rfl; clear hS; unfold execOp; go_simp) (by rfl) (by rfl) (kd) ?_
  refine take_val 10 { tmps := (.agg #[.float .f32 ah, .float .f32 av] :: .agg #[.float .f32 bh, .float .f32 bv] :: .float .f32 x :: .pointer (some ⟨w.heap.size, 0, none⟩) :: .pointer (some ⟨w.heap.size + 1, 0, none⟩) :: undef :: .pointer (some ⟨w.heap.size + 1 + 1, 0, none⟩) :: .int .i64 0 :: undef :: .agg #[.float .f32 ah, .float .f32 av] :: .bool true :: .bool false :: .bool false :: .agg #[.float .f32 bh, .float .f32 bv] :: .bool true :: .bool false :: .bool false :: undef :: .float .f32 x :: .bool true :: .bool false :: undef :: .pointer (some ⟨w.heap.size, 0, none⟩) :: .float .f32 ah :: .pointer (some ⟨w.heap.size + 1, 0, none⟩) :: .float .f32 bh :: .float .f32 x :: undef :: .pointer (some ⟨w.heap.size, 1, none⟩) :: .float .f32 av :: .pointer (some ⟨w.heap.size + 1, 1, none⟩) :: .float .f32 bv :: .float .f32 x :: undef :: undef :: undef :: undef :: undef :: undef :: undef :: []).toArray, defers := [] } #[true, true, true, true, true, false, true, true, true, true, true, false, false, false, false] (.float .f32 x) rfl (by rfl) (by kernel_rfl) (by kernel_rfl) (by kernel_rfl) (fun w => by rfl) (by rfl) (by rfl) (kd) ?_
  refine wpAnyH_ready (rs := [5, 13]) (by kernel_rfl) (by simp) ?_
  refine callK 5 { tmps := (.agg #[.float .f32 ah, .float .f32 av] :: .agg #[.float .f32 bh, .float .f32 bv] :: .float .f32 x :: .pointer (some ⟨w.heap.size, 0, none⟩) :: .pointer (some ⟨w.heap.size + 1, 0, none⟩) :: undef :: .pointer (some ⟨w.heap.size + 1 + 1, 0, none⟩) :: .int .i64 0 :: undef :: .agg #[.float .f32 ah, .float .f32 av] :: .bool true :: .bool false :: .bool false :: .agg #[.float .f32 bh, .float .f32 bv] :: .bool true :: .bool false :: .bool false :: undef :: .float .f32 x :: .bool true :: .bool false :: undef :: .pointer (some ⟨w.heap.size, 0, none⟩) :: .float .f32 ah :: .pointer (some ⟨w.heap.size + 1, 0, none⟩) :: .float .f32 bh :: .float .f32 x :: .float .f32 (mixW ah bh x) :: .pointer (some ⟨w.heap.size, 1, none⟩) :: .float .f32 av :: .pointer (some ⟨w.heap.size + 1, 1, none⟩) :: .float .f32 bv :: .float .f32 x :: undef :: undef :: undef :: undef :: undef :: undef :: undef :: []).toArray, defers := [] } #[true, true, true, true, true, true, true, true, true, true, true, false, false, false, false] (.float .f32 (mixW ah bh x)) kd rfl (by rfl) 251 #[.float .f32 ah, .float .f32 bh, .float .f32 x] (run_mixN3 _ _ _ rfl _ _ rfl _ _ rfl _ _ _ _ _ _) (by rfl) (by rfl) (loose (iMixN _ _ _ HM1.out _)) (fun w1 k1 => ?_) ?_
  · refine ⟨k1, ?_⟩
    refine wpAnyH_ready (rs := [11, 13]) (by kernel_rfl) (by simp) ?_
    refine callK 11 { tmps := (.agg #[.float .f32 ah, .float .f32 av] :: .agg #[.float .f32 bh, .float .f32 bv] :: .float .f32 x :: .pointer (some ⟨w.heap.size, 0, none⟩) :: .pointer (some ⟨w.heap.size + 1, 0, none⟩) :: undef :: .pointer (some ⟨w.heap.size + 1 + 1, 0, none⟩) :: .int .i64 0 :: undef :: .agg #[.float .f32 ah, .float .f32 av] :: .bool true :: .bool false :: .bool false :: .agg #[.float .f32 bh, .float .f32 bv] :: .bool true :: .bool false :: .bool false :: undef :: .float .f32 x :: .bool true :: .bool false :: undef :: .pointer (some ⟨w.heap.size, 0, none⟩) :: .float .f32 ah :: .pointer (some ⟨w.heap.size + 1, 0, none⟩) :: .float .f32 bh :: .float .f32 x :: .float .f32 (mixW ah bh x) :: .pointer (some ⟨w.heap.size, 1, none⟩) :: .float .f32 av :: .pointer (some ⟨w.heap.size + 1, 1, none⟩) :: .float .f32 bv :: .float .f32 x :: .float .f32 (mixW av bv x) :: undef :: undef :: undef :: undef :: undef :: undef :: []).toArray, defers := [] } #[true, true, true, true, true, true, true, true, true, true, true, true, false, false, false] (.float .f32 (mixW av bv x)) k1 rfl (by rfl) 251 #[.float .f32 av, .float .f32 bv, .float .f32 x] (run_mixN3 _ _ _ rfl _ _ rfl _ _ rfl _ _ _ _ _ _) (by rfl) (by rfl) (loose (iMixN _ _ _ HM2.out _)) (fun w2 k2 => ?_) ?_
    · refine ⟨k2, ?_⟩
      refine take_val 12 { tmps := (.agg #[.float .f32 ah, .float .f32 av] :: .agg #[.float .f32 bh, .float .f32 bv] :: .float .f32 x :: .pointer (some ⟨w.heap.size, 0, none⟩) :: .pointer (some ⟨w.heap.size + 1, 0, none⟩) :: undef :: .pointer (some ⟨w.heap.size + 1 + 1, 0, none⟩) :: .int .i64 0 :: undef :: .agg #[.float .f32 ah, .float .f32 av] :: .bool true :: .bool false :: .bool false :: .agg #[.float .f32 bh, .float .f32 bv] :: .bool true :: .bool false :: .bool false :: undef :: .float .f32 x :: .bool true :: .bool false :: undef :: .pointer (some ⟨w.heap.size, 0, none⟩) :: .float .f32 ah :: .pointer (some ⟨w.heap.size + 1, 0, none⟩) :: .float .f32 bh :: .float .f32 x :: .float .f32 (mixW ah bh x) :: .pointer (some ⟨w.heap.size, 1, none⟩) :: .float .f32 av :: .pointer (some ⟨w.heap.size + 1, 1, none⟩) :: .float .f32 bv :: .float .f32 x :: .float .f32 (mixW av bv x) :: .agg #[.float .f32 (mixW ah bh x), .float .f32 (mixW av bv x)] :: undef :: undef :: undef :: undef :: undef :: []).toArray, defers := [] } #[true, true, true, true, true, true, true, true, true, true, true, true, true, false, false] (.agg #[.float .f32 (mixW ah bh x), .float .f32 (mixW av bv x)]) rfl (by rfl) (by kernel_rfl) (by kernel_rfl) (by kernel_rfl) (fun w => by unfold execOp; go_simp) (by rfl) (by rfl) (k2) ?_
      refine wpAnyH_ready (rs := [13]) (by kernel_rfl) (by simp) ?_
      refine allocK 13 (fun g3 => { tmps := (.agg #[.float .f32 ah, .float .f32 av] :: .agg #[.float .f32 bh, .float .f32 bv] :: .float .f32 x :: .pointer (some ⟨w.heap.size, 0, none⟩) :: .pointer (some ⟨w.heap.size + 1, 0, none⟩) :: undef :: .pointer (some ⟨w.heap.size + 1 + 1, 0, none⟩) :: .int .i64 0 :: .pointer (some ⟨g3, 0, none⟩) :: .agg #[.float .f32 ah, .float .f32 av] :: .bool true :: .bool false :: .bool false :: .agg #[.float .f32 bh, .float .f32 bv] :: .bool true :: .bool false :: .bool false :: undef :: .float .f32 x :: .bool true :: .bool false :: undef :: .pointer (some ⟨w.heap.size, 0, none⟩) :: .float .f32 ah :: .pointer (some ⟨w.heap.size + 1, 0, none⟩) :: .float .f32 bh :: .float .f32 x :: .float .f32 (mixW ah bh x) :: .pointer (some ⟨w.heap.size, 1, none⟩) :: .float .f32 av :: .pointer (some ⟨w.heap.size + 1, 1, none⟩) :: .float .f32 bv :: .float .f32 x :: .float .f32 (mixW av bv x) :: .agg #[.float .f32 (mixW ah bh x), .float .f32 (mixW av bv x)] :: undef :: undef :: undef :: undef :: undef :: []).toArray, defers := [] }) #[true, true, true, true, true, true, true, true, true, true, true, true, true, true, false] k2 rfl (by rfl) (#[.float .f32 0, .float .f32 0]) 38 (alloc_air _ _ _ _ _ _ _) (fun g => by rfl) (by rfl) (fun w3 g3 k3 hB3 hn3 => ?_) AllReadyH.nil
      refine ⟨k3.tail, ?_⟩
      refine wpAnyH_ready (rs := [14]) (by kernel_rfl) (by simp) ?_
      refine storeK 14 { tmps := (.agg #[.float .f32 ah, .float .f32 av] :: .agg #[.float .f32 bh, .float .f32 bv] :: .float .f32 x :: .pointer (some ⟨w.heap.size, 0, none⟩) :: .pointer (some ⟨w.heap.size + 1, 0, none⟩) :: undef :: .pointer (some ⟨w.heap.size + 1 + 1, 0, none⟩) :: .int .i64 0 :: .pointer (some ⟨g3, 0, none⟩) :: .agg #[.float .f32 ah, .float .f32 av] :: .bool true :: .bool false :: .bool false :: .agg #[.float .f32 bh, .float .f32 bv] :: .bool true :: .bool false :: .bool false :: undef :: .float .f32 x :: .bool true :: .bool false :: undef :: .pointer (some ⟨w.heap.size, 0, none⟩) :: .float .f32 ah :: .pointer (some ⟨w.heap.size + 1, 0, none⟩) :: .float .f32 bh :: .float .f32 x :: .float .f32 (mixW ah bh x) :: .pointer (some ⟨w.heap.size, 1, none⟩) :: .float .f32 av :: .pointer (some ⟨w.heap.size + 1, 1, none⟩) :: .float .f32 bv :: .float .f32 x :: .float .f32 (mixW av bv x) :: .agg #[.float .f32 (mixW ah bh x), .float .f32 (mixW av bv x)] :: undef :: undef :: undef :: undef :: undef :: []).toArray, defers := [] } #[true, true, true, true, true, true, true, true, true, true, true, true, true, true, true] k3 hB3 hn3 rfl (by rfl) 38 _ _ rfl (#[.float .f32 (mixW ah bh x), .float .f32 (mixW av bv x)]) (by rfl) (by rfl) (info_air) (by simp) (by simp [Value.oneCell']) (by rfl) (by rfl) (fun w4 k4 => ?_) AllReadyH.nil
      refine ⟨k4.tail, ?_⟩
      exact wpAnyH_done (by kernel_rfl) (NoPanic.normal (key g3 _ (hid k4))) _
    refine allocK 13 (fun g5 => { tmps := (.agg #[.float .f32 ah, .float .f32 av] :: .agg #[.float .f32 bh, .float .f32 bv] :: .float .f32 x :: .pointer (some ⟨w.heap.size, 0, none⟩) :: .pointer (some ⟨w.heap.size + 1, 0, none⟩) :: undef :: .pointer (some ⟨w.heap.size + 1 + 1, 0, none⟩) :: .int .i64 0 :: .pointer (some ⟨g5, 0, none⟩) :: .agg #[.float .f32 ah, .float .f32 av] :: .bool true :: .bool false :: .bool false :: .agg #[.float .f32 bh, .float .f32 bv] :: .bool true :: .bool false :: .bool false :: undef :: .float .f32 x :: .bool true :: .bool false :: undef :: .pointer (some ⟨w.heap.size, 0, none⟩) :: .float .f32 ah :: .pointer (some ⟨w.heap.size + 1, 0, none⟩) :: .float .f32 bh :: .float .f32 x :: .float .f32 (mixW ah bh x) :: .pointer (some ⟨w.heap.size, 1, none⟩) :: .float .f32 av :: .pointer (some ⟨w.heap.size + 1, 1, none⟩) :: .float .f32 bv :: .float .f32 x :: undef :: undef :: undef :: undef :: undef :: undef :: undef :: []).toArray, defers := [] }) #[true, true, true, true, true, true, true, true, true, true, true, false, false, true, false] k1 rfl (by rfl) (#[.float .f32 0, .float .f32 0]) 38 (alloc_air _ _ _ _ _ _ _) (fun g => by rfl) (by rfl) (fun w5 g5 k5 hB5 hn5 => ?_) AllReadyH.nil
    refine ⟨k5.tail, ?_⟩
    refine wpAnyH_ready (rs := [11]) (by kernel_rfl) (by simp) ?_
    refine callK 11 { tmps := (.agg #[.float .f32 ah, .float .f32 av] :: .agg #[.float .f32 bh, .float .f32 bv] :: .float .f32 x :: .pointer (some ⟨w.heap.size, 0, none⟩) :: .pointer (some ⟨w.heap.size + 1, 0, none⟩) :: undef :: .pointer (some ⟨w.heap.size + 1 + 1, 0, none⟩) :: .int .i64 0 :: .pointer (some ⟨g5, 0, none⟩) :: .agg #[.float .f32 ah, .float .f32 av] :: .bool true :: .bool false :: .bool false :: .agg #[.float .f32 bh, .float .f32 bv] :: .bool true :: .bool false :: .bool false :: undef :: .float .f32 x :: .bool true :: .bool false :: undef :: .pointer (some ⟨w.heap.size, 0, none⟩) :: .float .f32 ah :: .pointer (some ⟨w.heap.size + 1, 0, none⟩) :: .float .f32 bh :: .float .f32 x :: .float .f32 (mixW ah bh x) :: .pointer (some ⟨w.heap.size, 1, none⟩) :: .float .f32 av :: .pointer (some ⟨w.heap.size + 1, 1, none⟩) :: .float .f32 bv :: .float .f32 x :: .float .f32 (mixW av bv x) :: undef :: undef :: undef :: undef :: undef :: undef :: []).toArray, defers := [] } #[true, true, true, true, true, true, true, true, true, true, true, true, false, true, false] (.float .f32 (mixW av bv x)) k5 rfl (by rfl) 251 #[.float .f32 av, .float .f32 bv, .float .f32 x] (run_mixN3 _ _ _ rfl _ _ rfl _ _ rfl _ _ _ _ _ _) (by rfl) (by rfl) (loose (iMixN _ _ _ HM2.out _)) (fun w6 k6 => ?_) AllReadyH.nil
    refine ⟨k6.tail, ?_⟩
    refine take_val 12 { tmps := (.agg #[.float .f32 ah, .float .f32 av] :: .agg #[.float .f32 bh, .float .f32 bv] :: .float .f32 x :: .pointer (some ⟨w.heap.size, 0, none⟩) :: .pointer (some ⟨w.heap.size + 1, 0, none⟩) :: undef :: .pointer (some ⟨w.heap.size + 1 + 1, 0, none⟩) :: .int .i64 0 :: .pointer (some ⟨g5, 0, none⟩) :: .agg #[.float .f32 ah, .float .f32 av] :: .bool true :: .bool false :: .bool false :: .agg #[.float .f32 bh, .float .f32 bv] :: .bool true :: .bool false :: .bool false :: undef :: .float .f32 x :: .bool true :: .bool false :: undef :: .pointer (some ⟨w.heap.size, 0, none⟩) :: .float .f32 ah :: .pointer (some ⟨w.heap.size + 1, 0, none⟩) :: .float .f32 bh :: .float .f32 x :: .float .f32 (mixW ah bh x) :: .pointer (some ⟨w.heap.size, 1, none⟩) :: .float .f32 av :: .pointer (some ⟨w.heap.size + 1, 1, none⟩) :: .float .f32 bv :: .float .f32 x :: .float .f32 (mixW av bv x) :: .agg #[.float .f32 (mixW ah bh x), .float .f32 (mixW av bv x)] :: undef :: undef :: undef :: undef :: undef :: []).toArray, defers := [] } #[true, true, true, true, true, true, true, true, true, true, true, true, true, true, false] (.agg #[.float .f32 (mixW ah bh x), .float .f32 (mixW av bv x)]) rfl (by rfl) (by kernel_rfl) (by kernel_rfl) (by kernel_rfl) (fun w => by unfold execOp; go_simp) (by rfl) (by rfl) (k6.tail) ?_
    refine wpAnyH_ready (rs := [14]) (by kernel_rfl) (by simp) ?_
    refine storeK 14 { tmps := (.agg #[.float .f32 ah, .float .f32 av] :: .agg #[.float .f32 bh, .float .f32 bv] :: .float .f32 x :: .pointer (some ⟨w.heap.size, 0, none⟩) :: .pointer (some ⟨w.heap.size + 1, 0, none⟩) :: undef :: .pointer (some ⟨w.heap.size + 1 + 1, 0, none⟩) :: .int .i64 0 :: .pointer (some ⟨g5, 0, none⟩) :: .agg #[.float .f32 ah, .float .f32 av] :: .bool true :: .bool false :: .bool false :: .agg #[.float .f32 bh, .float .f32 bv] :: .bool true :: .bool false :: .bool false :: undef :: .float .f32 x :: .bool true :: .bool false :: undef :: .pointer (some ⟨w.heap.size, 0, none⟩) :: .float .f32 ah :: .pointer (some ⟨w.heap.size + 1, 0, none⟩) :: .float .f32 bh :: .float .f32 x :: .float .f32 (mixW ah bh x) :: .pointer (some ⟨w.heap.size, 1, none⟩) :: .float .f32 av :: .pointer (some ⟨w.heap.size + 1, 1, none⟩) :: .float .f32 bv :: .float .f32 x :: .float .f32 (mixW av bv x) :: .agg #[.float .f32 (mixW ah bh x), .float .f32 (mixW av bv x)] :: undef :: undef :: undef :: undef :: undef :: []).toArray, defers := [] } #[true, true, true, true, true, true, true, true, true, true, true, true, true, true, true] k6 hB5 hn5 rfl (by rfl) 38 _ _ rfl (#[.float .f32 (mixW ah bh x), .float .f32 (mixW av bv x)]) (by rfl) (by rfl) (info_air) (by simp) (by simp [Value.oneCell']) (by rfl) (by rfl) (fun w7 k7 => ?_) AllReadyH.nil
    refine ⟨k7.tail, ?_⟩
    exact wpAnyH_done (by kernel_rfl) (NoPanic.normal (key g5 _ (hid k7))) _
  refine allocK 13 (fun g8 => { tmps := (.agg #[.float .f32 ah, .float .f32 av] :: .agg #[.float .f32 bh, .float .f32 bv] :: .float .f32 x :: .pointer (some ⟨w.heap.size, 0, none⟩) :: .pointer (some ⟨w.heap.size + 1, 0, none⟩) :: undef :: .pointer (some ⟨w.heap.size + 1 + 1, 0, none⟩) :: .int .i64 0 :: .pointer (some ⟨g8, 0, none⟩) :: .agg #[.float .f32 ah, .float .f32 av] :: .bool true :: .bool false :: .bool false :: .agg #[.float .f32 bh, .float .f32 bv] :: .bool true :: .bool false :: .bool false :: undef :: .float .f32 x :: .bool true :: .bool false :: undef :: .pointer (some ⟨w.heap.size, 0, none⟩) :: .float .f32 ah :: .pointer (some ⟨w.heap.size + 1, 0, none⟩) :: .float .f32 bh :: .float .f32 x :: undef :: .pointer (some ⟨w.heap.size, 1, none⟩) :: .float .f32 av :: .pointer (some ⟨w.heap.size + 1, 1, none⟩) :: .float .f32 bv :: .float .f32 x :: undef :: undef :: undef :: undef :: undef :: undef :: undef :: []).toArray, defers := [] }) #[true, true, true, true, true, false, true, true, true, true, true, false, false, true, false] kd rfl (by rfl) (#[.float .f32 0, .float .f32 0]) 38 (alloc_air _ _ _ _ _ _ _) (fun g => by rfl) (by rfl) (fun w8 g8 k8 hB8 hn8 => ?_) AllReadyH.nil
  refine ⟨k8.tail, ?_⟩
  refine wpAnyH_ready (rs := [5]) (by kernel_rfl) (by simp) ?_
  refine callK 5 { tmps := (.agg #[.float .f32 ah, .float .f32 av] :: .agg #[.float .f32 bh, .float .f32 bv] :: .float .f32 x :: .pointer (some ⟨w.heap.size, 0, none⟩) :: .pointer (some ⟨w.heap.size + 1, 0, none⟩) :: undef :: .pointer (some ⟨w.heap.size + 1 + 1, 0, none⟩) :: .int .i64 0 :: .pointer (some ⟨g8, 0, none⟩) :: .agg #[.float .f32 ah, .float .f32 av] :: .bool true :: .bool false :: .bool false :: .agg #[.float .f32 bh, .float .f32 bv] :: .bool true :: .bool false :: .bool false :: undef :: .float .f32 x :: .bool true :: .bool false :: undef :: .pointer (some ⟨w.heap.size, 0, none⟩) :: .float .f32 ah :: .pointer (some ⟨w.heap.size + 1, 0, none⟩) :: .float .f32 bh :: .float .f32 x :: .float .f32 (mixW ah bh x) :: .pointer (some ⟨w.heap.size, 1, none⟩) :: .float .f32 av :: .pointer (some ⟨w.heap.size + 1, 1, none⟩) :: .float .f32 bv :: .float .f32 x :: undef :: undef :: undef :: undef :: undef :: undef :: undef :: []).toArray, defers := [] } #[true, true, true, true, true, true, true, true, true, true, true, false, false, true, false] (.float .f32 (mixW ah bh x)) k8 rfl (by rfl) 251 #[.float .f32 ah, .float .f32 bh, .float .f32 x] (run_mixN3 _ _ _ rfl _ _ rfl _ _ rfl _ _ _ _ _ _) (by rfl) (by rfl) (loose (iMixN _ _ _ HM1.out _)) (fun w9 k9 => ?_) AllReadyH.nil
  refine ⟨k9.tail, ?_⟩
  refine wpAnyH_ready (rs := [11]) (by kernel_rfl) (by simp) ?_
  refine callK 11 { tmps := (.agg #[.float .f32 ah, .float .f32 av] :: .agg #[.float .f32 bh, .float .f32 bv] :: .float .f32 x :: .pointer (some ⟨w.heap.size, 0, none⟩) :: .pointer (some ⟨w.heap.size + 1, 0, none⟩) :: undef :: .pointer (some ⟨w.heap.size + 1 + 1, 0, none⟩) :: .int .i64 0 :: .pointer (some ⟨g8, 0, none⟩) :: .agg #[.float .f32 ah, .float .f32 av] :: .bool true :: .bool false :: .bool false :: .agg #[.float .f32 bh, .float .f32 bv] :: .bool true :: .bool false :: .bool false :: undef :: .float .f32 x :: .bool true :: .bool false :: undef :: .pointer (some ⟨w.heap.size, 0, none⟩) :: .float .f32 ah :: .pointer (some ⟨w.heap.size + 1, 0, none⟩) :: .float .f32 bh :: .float .f32 x :: .float .f32 (mixW ah bh x) :: .pointer (some ⟨w.heap.size, 1, none⟩) :: .float .f32 av :: .pointer (some ⟨w.heap.size + 1, 1, none⟩) :: .float .f32 bv :: .float .f32 x :: .float .f32 (mixW av bv x) :: undef :: undef :: undef :: undef :: undef :: undef :: []).toArray, defers := [] } #[true, true, true, true, true, true, true, true, true, true, true, true, false, true, false] (.float .f32 (mixW av bv x)) k9 rfl (by rfl) 251 #[.float .f32 av, .float .f32 bv, .float .f32 x] (run_mixN3 _ _ _ rfl _ _ rfl _ _ rfl _ _ _ _ _ _) (by rfl) (by rfl) (loose (iMixN _ _ _ HM2.out _)) (fun w10 k10 => ?_) AllReadyH.nil
  refine ⟨k10.tail, ?_⟩
  refine take_val 12 { tmps := (.agg #[.float .f32 ah, .float .f32 av] :: .agg #[.float .f32 bh, .float .f32 bv] :: .float .f32 x :: .pointer (some ⟨w.heap.size, 0, none⟩) :: .pointer (some ⟨w.heap.size + 1, 0, none⟩) :: undef :: .pointer (some ⟨w.heap.size + 1 + 1, 0, none⟩) :: .int .i64 0 :: .pointer (some ⟨g8, 0, none⟩) :: .agg #[.float .f32 ah, .float .f32 av] :: .bool true :: .bool false :: .bool false :: .agg #[.float .f32 bh, .float .f32 bv] :: .bool true :: .bool false :: .bool false :: undef :: .float .f32 x :: .bool true :: .bool false :: undef :: .pointer (some ⟨w.heap.size, 0, none⟩) :: .float .f32 ah :: .pointer (some ⟨w.heap.size + 1, 0, none⟩) :: .float .f32 bh :: .float .f32 x :: .float .f32 (mixW ah bh x) :: .pointer (some ⟨w.heap.size, 1, none⟩) :: .float .f32 av :: .pointer (some ⟨w.heap.size + 1, 1, none⟩) :: .float .f32 bv :: .float .f32 x :: .float .f32 (mixW av bv x) :: .agg #[.float .f32 (mixW ah bh x), .float .f32 (mixW av bv x)] :: undef :: undef :: undef :: undef :: undef :: []).toArray, defers := [] } #[true, true, true, true, true, true, true, true, true, true, true, true, true, true, false] (.agg #[.float .f32 (mixW ah bh x), .float .f32 (mixW av bv x)]) rfl (by rfl) (by kernel_rfl) (by kernel_rfl) (by kernel_rfl) (fun w => by unfold execOp; go_simp) (by rfl) (by rfl) (k10.tail) ?_
  refine wpAnyH_ready (rs := [14]) (by kernel_rfl) (by simp) ?_
  refine storeK 14 { tmps := (.agg #[.float .f32 ah, .float .f32 av] :: .agg #[.float .f32 bh, .float .f32 bv] :: .float .f32 x :: .pointer (some ⟨w.heap.size, 0, none⟩) :: .pointer (some ⟨w.heap.size + 1, 0, none⟩) :: undef :: .pointer (some ⟨w.heap.size + 1 + 1, 0, none⟩) :: .int .i64 0 :: .pointer (some ⟨g8, 0, none⟩) :: .agg #[.float .f32 ah, .float .f32 av] :: .bool true :: .bool false :: .bool false :: .agg #[.float .f32 bh, .float .f32 bv] :: .bool true :: .bool false :: .bool false :: undef :: .float .f32 x :: .bool true :: .bool false :: undef :: .pointer (some ⟨w.heap.size, 0, none⟩) :: .float .f32 ah :: .pointer (some ⟨w.heap.size + 1, 0, none⟩) :: .float .f32 bh :: .float .f32 x :: .float .f32 (mixW ah bh x) :: .pointer (some ⟨w.heap.size, 1, none⟩) :: .float .f32 av :: .pointer (some ⟨w.heap.size + 1, 1, none⟩) :: .float .f32 bv :: .float .f32 x :: .float .f32 (mixW av bv x) :: .agg #[.float .f32 (mixW ah bh x), .float .f32 (mixW av bv x)] :: undef :: undef :: undef :: undef :: undef :: []).toArray, defers := [] } #[true, true, true, true, true, true, true, true, true, true, true, true, true, true, true] k10 hB8 hn8 rfl (by rfl) 38 _ _ rfl (#[.float .f32 (mixW ah bh x), .float .f32 (mixW av bv x)]) (by rfl) (by rfl) (info_air) (by simp) (by simp [Value.oneCell']) (by rfl) (by rfl) (fun w11 k11 => ?_) AllReadyH.nil
  refine ⟨k11.tail, ?_⟩
  exact wpAnyH_done (by kernel_rfl) (NoPanic.normal (key g8 _ (hid k11))) _

theorem info_par : (Try.prog.info? 85).map (·.size) = some 3 := by kernel_rfl

theorem info_lpar : (Try.prog.info? 82).map (·.size) = some 3 := by kernel_rfl

theorem iHgt (x : Nat) (hx : x < 4294967296) (q : Bool) (hq : hgtB x = q) (w : World) :
    Calls Try.prog 169 #[.float .f32 x] w fun e w' => e = .returned (.bool q) ∧ Below w.heap.size w w' := by
  have e1 : hgtB x = (amtB x && (FloatKind.f32.format.order x 1106247680 == some .lt || FloatKind.f32.format.order x 1106247680 == some .eq)) := rfl
  rw [e1] at hq
  have Hx := hid hx
  clear e1 hx
  rcases a : amtB x with _ | _
  · have Ha := hid a
    rw [a] at hq
    simp only [Bool.false_and] at hq
    subst hq
    clear a
    go_enter Try.func169, Try.ntmps169
    go_wp2_with fail
    refine (isAmount_f x Hx.out Ha.out _).mono ?_
    rintro e w1 ⟨rfl, hb1⟩
    go_wp2
    go_ret
    exact ⟨rfl, hb1⟩
  · have Ha := hid a
    rw [a] at hq
    simp only [Bool.true_and] at hq
    clear a
    cases q
    all_goals
      go_enter Try.func169, Try.ntmps169
      go_wp2_with fail
      refine (isAmount_t x Ha.out _).mono ?_
      rintro e w1 ⟨rfl, rfl⟩
      go_wp2
      go_ret
      exact ⟨rfl, Below.refl _ _⟩

theorem sHgt (x : Nat) (hx : x < 4294967296) (q : Bool) (hq : hgtB x = q) (w : World) :
    Calls Try.prog 176 #[.float .f32 x] w fun e w' => e = .returned (.bool q) ∧ Below w.heap.size w w' := by
  have e1 : hgtB x = (amtB x && (FloatKind.f32.format.order x 1106247680 == some .lt || FloatKind.f32.format.order x 1106247680 == some .eq)) := rfl
  rw [e1] at hq
  have Hx := hid hx
  clear e1 hx
  rcases a : amtB x with _ | _
  · have Ha := hid a
    rw [a] at hq
    simp only [Bool.false_and] at hq
    subst hq
    clear a
    go_enter Try.func176, Try.ntmps176
    go_wp2_with fail
    refine (sAmount_f x Hx.out Ha.out _).mono ?_
    rintro e w1 ⟨rfl, hb1⟩
    go_wp2
    go_ret
    exact ⟨rfl, hb1⟩
  · have Ha := hid a
    rw [a] at hq
    simp only [Bool.true_and] at hq
    clear a
    cases q
    all_goals
      go_enter Try.func176, Try.ntmps176
      go_wp2_with fail
      refine (sAmount_t x Ha.out _).mono ?_
      rintro e w1 ⟨rfl, rfl⟩
      go_wp2
      go_ret
      exact ⟨rfl, Below.refl _ _⟩

set_option maxRecDepth 100000 in
theorem sAirAt_f (h v : Nat) (hv : v < 4294967296) (hq : airB h v = false) (w : World) (g o : Nat) (c0 : w.cell? ⟨g, o, none⟩ = some (.float .f32 h)) (c1 : w.cell? ⟨g, o + 1, none⟩ = some (.float .f32 v)) :
    Calls Try.prog 126 #[.pointer (some ⟨g, o, none⟩)] w fun e w' => e = .returned (.bool false) ∧ Below w.heap.size w w' := by
  have Hv := hid hv
  have e1 : airB h v = (heatB h && amtB v && vapB v) := rfl
  rw [e1] at hq
  clear hv e1
  rcases a : heatB h with _ | _
  · have Ha := hid a
    clear a hq
    go_enter Try.func126, Try.ntmps126
    go_wp2_with fail
    refine (sHeat h false Ha.out _).mono ?_
    rintro e w1 ⟨rfl, rfl⟩
    go_wp2
    go_ret
    exact ⟨rfl, Below.refl _ _⟩
  · have Ha := hid a
    rw [a] at hq
    clear a
    rcases b : amtB v with _ | _
    · have Hb := hid b
      clear b hq
      go_enter Try.func126, Try.ntmps126
      go_wp2_with fail
      refine (sHeat h true Ha.out _).mono ?_
      rintro e w1 ⟨rfl, rfl⟩
      go_wp2_with fail
      refine (sAmount_f v Hv.out Hb.out _).mono ?_
      rintro e w1 ⟨rfl, hb1⟩
      go_wp2
      go_ret
      exact ⟨rfl, hb1⟩
    · have Hb := hid b
      rw [b] at hq
      simp only [Bool.true_and] at hq
      have hc : (FloatKind.f32.format.order v 1148846080 == some .lt || FloatKind.f32.format.order v 1148846080 == some .eq) = false := hq
      clear b hq
      go_enter Try.func126, Try.ntmps126
      go_wp2_with fail
      refine (sHeat h true Ha.out _).mono ?_
      rintro e w1 ⟨rfl, rfl⟩
      go_wp2_with fail
      refine (sAmount_t v Hb.out _).mono ?_
      rintro e w1 ⟨rfl, rfl⟩
      go_wp2
      go_ret
      exact ⟨rfl, Below.refl _ _⟩

set_option maxRecDepth 100000 in
theorem sAirAt_t (h v : Nat) (hq : airB h v = true) (w : World) (g o : Nat) (c0 : w.cell? ⟨g, o, none⟩ = some (.float .f32 h)) (c1 : w.cell? ⟨g, o + 1, none⟩ = some (.float .f32 v)) :
    Calls Try.prog 126 #[.pointer (some ⟨g, o, none⟩)] w fun e w' => e = .returned (.bool true) ∧ w = w' := by
  obtain ⟨a, b, c⟩ := airB_iff.1 hq
  have hc : (FloatKind.f32.format.order v 1148846080 == some .lt || FloatKind.f32.format.order v 1148846080 == some .eq) = true := c
  have Ha := hid a
  have Hb := hid b
  clear a b c hq
  go_enter Try.func126, Try.ntmps126
  go_wp2_with fail
  refine (sHeat h true Ha.out _).mono ?_
  rintro e w1 ⟨rfl, rfl⟩
  go_wp2_with fail
  refine (sAmount_t v Hb.out _).mono ?_
  rintro e w1 ⟨rfl, rfl⟩
  go_wp2
  go_ret
  exact ⟨rfl, rfl⟩

theorem sAirAt (h v : Nat) (hv : v < 4294967296) (q : Bool) (hq : airB h v = q) (w : World) (g o : Nat) (c0 : w.cell? ⟨g, o, none⟩ = some (.float .f32 h)) (c1 : w.cell? ⟨g, o + 1, none⟩ = some (.float .f32 v)) :
    Calls Try.prog 126 #[.pointer (some ⟨g, o, none⟩)] w fun e w' => e = .returned (.bool q) ∧ Below w.heap.size w w' := by
  cases q
  · exact sAirAt_f h v hv hq w g o c0 c1
  · exact loose (sAirAt_t h v hq w g o c0 c1)

set_option maxRecDepth 100000 in
theorem sParOk (a h v : Nat) (ha : a < 4294967296) (hv : v < 4294967296) (q : Bool) (hq : parB a h v = q) (w : World) (g : Nat) (T : TypeId) (hg : parAt w g a h v T) :
    Calls Try.prog 168 #[.pointer (some ⟨g, 0, none⟩)] w fun e w' => e = .returned (.bool q) ∧ Below w.heap.size w w' := by
  have c0 := hg.c0
  have G := hid hg
  have Ha := hid ha
  have Hv := hid hv
  have e1 : parB a h v = (hgtB a && airB h v) := rfl
  rw [e1] at hq
  clear ha hv e1 hg
  rcases x : hgtB a with _ | _
  · have Hx := hid x
    rw [x] at hq
    simp only [Bool.false_and] at hq
    subst hq
    clear x
    go_enter Try.func168, Try.ntmps168
    go_wp2_with fail
    refine (sHgt a Ha.out false Hx.out _).mono ?_
    rintro e w1 ⟨rfl, hb1⟩
    go_wp2
    go_ret
    exact ⟨rfl, hb1⟩
  · have Hx := hid x
    rw [x] at hq
    simp only [Bool.true_and] at hq
    have Hq := hid hq
    clear x hq
    go_enter Try.func168, Try.ntmps168
    go_wp2_with fail
    refine (sHgt a Ha.out true Hx.out _).mono ?_
    rintro e w1 ⟨rfl, hb1⟩
    have G1 := hid (G.out.stay hb1)
    go_wp2_with fail
    refine (sAirAt h v Hv.out q Hq.out _ g 1 G1.out.c1 G1.out.c2).mono ?_
    rintro e w2 ⟨rfl, hb2⟩
    cases q
    all_goals
      go_wp2
      go_ret
      exact ⟨rfl, stp hb1 (Nat.le_refl _) hb2⟩

set_option maxRecDepth 100000 in
theorem iValidParcel (a h v : Nat) (ha : a < 4294967296) (hv : v < 4294967296) (q : Bool) (hq : parB a h v = q) (w : World) :
    Calls Try.prog 74 #[.agg #[.float .f32 a, .float .f32 h, .float .f32 v]] w fun e w' => e = .returned (.bool q) ∧ Below w.heap.size w w' := by
  have b0 := boxed w (.cells #[.float .f32 a, .float .f32 h, .float .f32 v] 85)
  have A0 := hid (parAt.new w a h v 85)
  have Ha := hid ha
  have Hv := hid hv
  have e1 : parB a h v = (hgtB a && airB h v) := rfl
  rw [e1] at hq
  clear ha hv e1
  rcases x : hgtB a with _ | _
  · have Hx := hid x
    rw [x] at hq
    simp only [Bool.false_and] at hq
    subst hq
    clear x
    go_enter Try.func74, Try.ntmps74
    go_wp2_with fail
    refine (iHgt a Ha.out false Hx.out _).mono ?_
    rintro e w1 ⟨rfl, hb1⟩
    go_wp2
    go_ret
    exact ⟨rfl, stp b0 (Nat.le_refl _) hb1⟩
  · have Hx := hid x
    rw [x] at hq
    simp only [Bool.true_and] at hq
    have Hq := hid hq
    clear x hq
    go_enter Try.func74, Try.ntmps74
    go_wp2_with fail
    refine (iHgt a Ha.out true Hx.out _).mono ?_
    rintro e w1 ⟨rfl, hb1⟩
    have A1 := hid (A0.out.stay hb1)
    have b1 := stp b0 (Nat.le_refl _) hb1
    go_wp2_with (refine wpList_load_air (by rfl) 38 _ rfl w.heap.size rfl a h v 85 A1.out _ Try.underlying38 rfl info_air ?_)
    refine (iValidAir h v Hv.out q Hq.out _).mono ?_
    rintro e w2 ⟨rfl, hb2⟩
    cases q
    all_goals
      go_wp2
      go_ret
      exact ⟨rfl, stp b1 (Nat.le_refl _) hb2⟩

set_option maxRecDepth 100000 in
theorem toParcel (a h v : Nat) (w : World) :
    Calls Try.prog 73 #[.agg #[.float .f32 a, .float .f32 h, .float .f32 v]] w fun e w' => e = .returned (.agg #[.float .f32 a, .float .f32 h, .float .f32 v]) ∧ Below w.heap.size w w' := by
  have k0 : Hid (Kept w [(w.heap.size + 1 + 1, #[.float .f32 a, .float .f32 0, .float .f32 0], 85), (w.heap.size + 1, #[.float .f32 0, .float .f32 0, .float .f32 0], 85)] (((w.alloc (.cells #[.float .f32 a, .float .f32 h, .float .f32 v] 82)).alloc (.cells #[.float .f32 0, .float .f32 0, .float .f32 0] 85)).alloc (.cells #[.float .f32 a, .float .f32 0, .float .f32 0] 85))) := hid (((((Kept.nil w).push _ _).push _ _).push _ _).sub (by simp))
  have A0 : Hid (parAt (((w.alloc (.cells #[.float .f32 a, .float .f32 h, .float .f32 v] 82)).alloc (.cells #[.float .f32 0, .float .f32 0, .float .f32 0] 85)).alloc (.cells #[.float .f32 a, .float .f32 0, .float .f32 0] 85)) w.heap.size a h v 82) := hid (((((Kept.nil w).push _ _).push _ _).push _ _).at (x := (w.heap.size, #[.float .f32 a, .float .f32 h, .float .f32 v], 82)) (by simp))
  go_enter Try.func73, Try.ntmps73
  go_wp2_with (refine wpList_load_air (by rfl) 37 _ rfl w.heap.size rfl a h v 82 A0.out _ Try.underlying37 rfl info_lair ?_)
  refine (toAir h v _).mono ?_
  rintro e w1 ⟨rfl, hb1⟩
  have k1 := hid (k0.out.stay hb1)
  clear k0 A0 hb1
  have tok1 : True := trivial
  go_wp2_with (first | (have _t := tok1; refine store_air (w0 := w) (l := [(w.heap.size + 1, #[.float .f32 0, .float .f32 0, .float .f32 0], 85)]) rfl 38 _ _ rfl (w.heap.size + 1 + 1) rfl h v rfl a 0 0 85 k1.out (by omega) (by simp) info_air ?_; intro w2 k2; have k2 := hid k2; clear tok1) | (have _t := k2; refine wpList_load_row rfl 85 _ rfl (w.heap.size + 1 + 1) rfl 85 (#[.float .f32 a, .float .f32 h, .float .f32 v]) (0, 0) _ (k2.out.at (x := (w.heap.size + 1 + 1, #[.float .f32 a, .float .f32 h, .float .f32 v], 85)) (by simp)) Try.underlying85 rfl (info_par) ?_) | (have _t := k2; refine store_kept (w0 := w) (l := []) rfl 85 _ _ rfl (w.heap.size + 1) (#[.float .f32 a, .float .f32 h, .float .f32 v]) rfl rfl 85 (#[.float .f32 0, .float .f32 0, .float .f32 0]) (k2.out.sub (by simp)) (by omega) (by simp) (info_par) (by simp) (by simp [Value.oneCell']) ?_; intro w3 k3; have k3 := hid k3))
  exact bodyPost_ret (results_cell_row rfl _ _ (w.heap.size + 1) 85 #[.float .f32 a, .float .f32 h, .float .f32 v] (0, 0) _ rfl (k3.out.at (x := (w.heap.size + 1, #[.float .f32 a, .float .f32 h, .float .f32 v], 85)) (by simp)) Try.underlying85 rfl info_par) rfl ⟨rfl, k3.out.1⟩

set_option maxRecDepth 100000 in
theorem eqParcel (a h v : Nat) (ha : a < 4294967296) (hh : h < 4294967296) (hv : v < 4294967296) (fa : finB a = true) (fh : finB h = true) (fv : finB v = true) (w : World) :
    Calls Try.prog 81 #[.agg #[.float .f32 a, .float .f32 h, .float .f32 v], .agg #[.float .f32 a, .float .f32 h, .float .f32 v]] w fun e w' => e = .returned (.bool true) ∧ Below w.heap.size w w' := by
  have hc0 := fun w => run_conv_wid (P := Try.prog) w 22 26 a ha Try.underlying22 Try.underlying26 (finB_iff.1 fa)
  have Ha := hid ha
  have Hh := hid hh
  have Hv := hid hv
  have Fa := hid fa
  have Fh := hid fh
  have Fv := hid fv
  have k0 : Hid (Kept w [(w.heap.size, #[.float .f32 a, .float .f32 h, .float .f32 v], 85), (w.heap.size + 1, #[.float .f32 a, .float .f32 h, .float .f32 v], 85)] ((w.alloc (.cells #[.float .f32 a, .float .f32 h, .float .f32 v] 85)).alloc (.cells #[.float .f32 a, .float .f32 h, .float .f32 v] 85))) := hid ((((Kept.nil w).push _ _).push _ _).sub (by simp))
  have A0 : Hid (parAt ((w.alloc (.cells #[.float .f32 a, .float .f32 h, .float .f32 v] 85)).alloc (.cells #[.float .f32 a, .float .f32 h, .float .f32 v] 85)) w.heap.size a h v 85) := hid (k0.out.at (x := (w.heap.size, _, _)) (by simp))
  have A1 : Hid (parAt ((w.alloc (.cells #[.float .f32 a, .float .f32 h, .float .f32 v] 85)).alloc (.cells #[.float .f32 a, .float .f32 h, .float .f32 v] 85)) (w.heap.size + 1) a h v 85) := hid (k0.out.at (x := (w.heap.size + 1, _, _)) (by simp))
  clear ha hh hv fa fh fv
  go_enter Try.func81, Try.ntmps81
  go_wp2_with fail
  refine (sameFloat a Ha.out Fa.out _).mono ?_
  rintro e w1 ⟨rfl, rfl⟩
  go_wp2_with (first | (refine wpList_load_air (by rfl) 38 _ rfl w.heap.size rfl a h v 85 A0.out _ Try.underlying38 rfl info_air ?_) | (refine wpList_load_air (by rfl) 38 _ rfl (w.heap.size + 1) rfl a h v 85 A1.out _ Try.underlying38 rfl info_air ?_))
  refine (eqAir h v Hh.out Hv.out Fh.out Fv.out _).mono ?_
  rintro e w2 ⟨rfl, hb2⟩
  go_wp2
  go_ret
  exact ⟨rfl, (k0.out.stay hb2).1⟩

set_option maxRecDepth 100000 in
set_option maxHeartbeats 2000000 in
theorem sMixAt (ah av bh bv x : Nat) (M1 : MixF ah bh x) (M2 : MixF av bv x) (w : World) (g o k p : Nat)
    (hC : ∀ w', Below w.heap.size w w' → w'.cell? ⟨g, o, none⟩ = some (.float .f32 ah) ∧ w'.cell? ⟨g, o + 1, none⟩ = some (.float .f32 av) ∧ w'.cell? ⟨k, p, none⟩ = some (.float .f32 bh) ∧ w'.cell? ⟨k, p + 1, none⟩ = some (.float .f32 bv)) :
    Calls Try.prog 250 #[.pointer (some ⟨g, o, none⟩), .pointer (some ⟨k, p, none⟩), .float .f32 x] w fun e w' => e = .returned (.agg #[.float .f32 (mixW ah bh x), .float .f32 (mixW av bv x)]) ∧ Below w.heap.size w w' := by
  have k0 := hid ((Kept.nil w).push #[.float .f32 0, .float .f32 0] 38)
  have HN0 := hid (Kept.nil w).fresh
  have HB0 := hid (Nat.le_refl w.heap.size)
  have HC := hid hC
  have hr := hid (fun w => run_float_arith (P := Try.prog) w .sub 22 .f32 _ _ _ M1.r)
  have h1ah := hid (fun w => run_float_arith (P := Try.prog) w .mul 22 .f32 _ _ _ M1.m1)
  have h2bh := hid (fun w => run_float_arith (P := Try.prog) w .mul 22 .f32 _ _ _ M1.m2)
  have h3h := hid (fun w => run_float_arith (P := Try.prog) w .add 22 .f32 _ _ _ M1.s)
  have h1av := hid (fun w => run_float_arith (P := Try.prog) w .mul 22 .f32 _ _ _ M2.m1)
  have h2bv := hid (fun w => run_float_arith (P := Try.prog) w .mul 22 .f32 _ _ _ M2.m2)
  have h3v := hid (fun w => run_float_arith (P := Try.prog) w .add 22 .f32 _ _ _ M2.s)
  clear M1 M2 hC
  go_enter Try.func250, Try.ntmps250
  go_wp2_with fail
  refine region_kept (w0 := w) (l := []) 30 #[false, false, false, false, false, false, false, false, false, false, false, false, false, false, false, false, false, false, false, false, false, false, false, false, false, false, false, false, false, false] (by kernel_rfl) rfl rfl ?_
  have kd := k0.out.drew
  generalize World.drew _ = wd at kd ⊢
  clear k0
  refine take_val 0 _ _ (.pointer (some ⟨g, o, none⟩)) rfl (by rfl) (by kernel_rfl) (by kernel_rfl) (by kernel_rfl) (fun w => by rfl) rfl rfl kd.tail ?_
  simp only [Act.put, List.setIfInBounds_toArray, List.set_cons_zero, List.set_cons_succ]
  refine take_val 1 _ _ (.pointer (some ⟨g, o, none⟩)) rfl (by rfl) (by kernel_rfl) (by kernel_rfl) (by kernel_rfl) (fun w => by unfold execOp; go_simp) rfl rfl kd.tail ?_
  simp only [Act.put, List.setIfInBounds_toArray, List.set_cons_zero, List.set_cons_succ]
  refine take_val 2 _ _ (.pointer (some ⟨g, o, none⟩)) rfl (by rfl) (by kernel_rfl) (by kernel_rfl) (by kernel_rfl) (fun w => by unfold execOp; go_simp) rfl rfl kd.tail ?_
  simp only [Act.put, List.setIfInBounds_toArray, List.set_cons_zero, List.set_cons_succ]
  refine take_cell 3 _ _ (.float .f32 ah) rfl (by rfl) (by kernel_rfl) (by kernel_rfl) (by kernel_rfl) (fun wq hS => by have hcell : wq.cell? ⟨g, o, none⟩ = some (.float .f32 ah) := (HC.out wq hS.1).1; clear hS; unfold execOp; go_simp) rfl rfl kd.tail ?_
  simp only [Act.put, List.setIfInBounds_toArray, List.set_cons_zero, List.set_cons_succ]
  refine take_val 4 _ _ (.float .f32 x) rfl (by rfl) (by kernel_rfl) (by kernel_rfl) (by kernel_rfl) (fun w => by rfl) rfl rfl kd.tail ?_
  simp only [Act.put, List.setIfInBounds_toArray, List.set_cons_zero, List.set_cons_succ]
  refine take_val 5 _ _ (.float .f32 (restF x)) rfl (by rfl) (by kernel_rfl) (by kernel_rfl) (by kernel_rfl) (fun w => run_binop_val _ _ _ _ (by rfl) (by rfl) (by simp [eqGuard]) (hr.out w)) rfl rfl kd.tail ?_
  simp only [Act.put, List.setIfInBounds_toArray, List.set_cons_zero, List.set_cons_succ]
  refine take_val 6 _ _ (.float .f32 (fmul ah (restF x))) rfl (by rfl) (by kernel_rfl) (by kernel_rfl) (by kernel_rfl) (fun w => run_binop_val _ _ _ _ (by rfl) (by rfl) (by simp [eqGuard]) (h1ah.out w)) rfl rfl kd.tail ?_
  simp only [Act.put, List.setIfInBounds_toArray, List.set_cons_zero, List.set_cons_succ]
  refine take_val 7 _ _ (.pointer (some ⟨k, p, none⟩)) rfl (by rfl) (by kernel_rfl) (by kernel_rfl) (by kernel_rfl) (fun w => by rfl) rfl rfl kd.tail ?_
  simp only [Act.put, List.setIfInBounds_toArray, List.set_cons_zero, List.set_cons_succ]
  refine take_val 8 _ _ (.pointer (some ⟨k, p, none⟩)) rfl (by rfl) (by kernel_rfl) (by kernel_rfl) (by kernel_rfl) (fun w => by unfold execOp; go_simp) rfl rfl kd.tail ?_
  simp only [Act.put, List.setIfInBounds_toArray, List.set_cons_zero, List.set_cons_succ]
  refine take_val 9 _ _ (.pointer (some ⟨k, p, none⟩)) rfl (by rfl) (by kernel_rfl) (by kernel_rfl) (by kernel_rfl) (fun w => by unfold execOp; go_simp) rfl rfl kd.tail ?_
  simp only [Act.put, List.setIfInBounds_toArray, List.set_cons_zero, List.set_cons_succ]
  refine take_cell 10 _ _ (.float .f32 bh) rfl (by rfl) (by kernel_rfl) (by kernel_rfl) (by kernel_rfl) (fun wq hS => by have hcell : wq.cell? ⟨k, p, none⟩ = some (.float .f32 bh) := (HC.out wq hS.1).2.2.1; clear hS; unfold execOp; go_simp) rfl rfl kd.tail ?_
  simp only [Act.put, List.setIfInBounds_toArray, List.set_cons_zero, List.set_cons_succ]
  refine take_val 11 _ _ (.float .f32 x) rfl (by rfl) (by kernel_rfl) (by kernel_rfl) (by kernel_rfl) (fun w => by rfl) rfl rfl kd.tail ?_
  simp only [Act.put, List.setIfInBounds_toArray, List.set_cons_zero, List.set_cons_succ]
  refine take_val 12 _ _ (.float .f32 (fmul bh x)) rfl (by rfl) (by kernel_rfl) (by kernel_rfl) (by kernel_rfl) (fun w => run_binop_val _ _ _ _ (by rfl) (by rfl) (by simp [eqGuard]) (h2bh.out w)) rfl rfl kd.tail ?_
  simp only [Act.put, List.setIfInBounds_toArray, List.set_cons_zero, List.set_cons_succ]
  refine take_val 13 _ _ (.float .f32 (mixW ah bh x)) rfl (by rfl) (by kernel_rfl) (by kernel_rfl) (by kernel_rfl) (fun w => run_binop_val _ _ _ _ (by rfl) (by rfl) (by simp [eqGuard]) (h3h.out w)) rfl rfl kd.tail ?_
  simp only [Act.put, List.setIfInBounds_toArray, List.set_cons_zero, List.set_cons_succ]
  refine take_val 14 _ _ (.pointer (some ⟨g, o, none⟩)) rfl (by rfl) (by kernel_rfl) (by kernel_rfl) (by kernel_rfl) (fun w => by rfl) rfl rfl kd.tail ?_
  simp only [Act.put, List.setIfInBounds_toArray, List.set_cons_zero, List.set_cons_succ]
  refine take_val 15 _ _ (.pointer (some ⟨g, o, none⟩)) rfl (by rfl) (by kernel_rfl) (by kernel_rfl) (by kernel_rfl) (fun w => by unfold execOp; go_simp) rfl rfl kd.tail ?_
  simp only [Act.put, List.setIfInBounds_toArray, List.set_cons_zero, List.set_cons_succ]
  refine take_val 16 _ _ (.pointer (some ⟨g, o + 1, none⟩)) rfl (by rfl) (by kernel_rfl) (by kernel_rfl) (by kernel_rfl) (fun w => by unfold execOp; go_simp) rfl rfl kd.tail ?_
  simp only [Act.put, List.setIfInBounds_toArray, List.set_cons_zero, List.set_cons_succ]
  refine take_cell 17 _ _ (.float .f32 av) rfl (by rfl) (by kernel_rfl) (by kernel_rfl) (by kernel_rfl) (fun wq hS => by have hcell : wq.cell? ⟨g, o + 1, none⟩ = some (.float .f32 av) := (HC.out wq hS.1).2.1; clear hS; unfold execOp; go_simp) rfl rfl kd.tail ?_
  simp only [Act.put, List.setIfInBounds_toArray, List.set_cons_zero, List.set_cons_succ]
  refine take_val 18 _ _ (.float .f32 x) rfl (by rfl) (by kernel_rfl) (by kernel_rfl) (by kernel_rfl) (fun w => by rfl) rfl rfl kd.tail ?_
  simp only [Act.put, List.setIfInBounds_toArray, List.set_cons_zero, List.set_cons_succ]
  refine take_val 19 _ _ (.float .f32 (restF x)) rfl (by rfl) (by kernel_rfl) (by kernel_rfl) (by kernel_rfl) (fun w => run_binop_val _ _ _ _ (by rfl) (by rfl) (by simp [eqGuard]) (hr.out w)) rfl rfl kd.tail ?_
  simp only [Act.put, List.setIfInBounds_toArray, List.set_cons_zero, List.set_cons_succ]
  refine take_val 20 _ _ (.float .f32 (fmul av (restF x))) rfl (by rfl) (by kernel_rfl) (by kernel_rfl) (by kernel_rfl) (fun w => run_binop_val _ _ _ _ (by rfl) (by rfl) (by simp [eqGuard]) (h1av.out w)) rfl rfl kd.tail ?_
  simp only [Act.put, List.setIfInBounds_toArray, List.set_cons_zero, List.set_cons_succ]
  refine take_val 21 _ _ (.pointer (some ⟨k, p, none⟩)) rfl (by rfl) (by kernel_rfl) (by kernel_rfl) (by kernel_rfl) (fun w => by rfl) rfl rfl kd.tail ?_
  simp only [Act.put, List.setIfInBounds_toArray, List.set_cons_zero, List.set_cons_succ]
  refine take_val 22 _ _ (.pointer (some ⟨k, p, none⟩)) rfl (by rfl) (by kernel_rfl) (by kernel_rfl) (by kernel_rfl) (fun w => by unfold execOp; go_simp) rfl rfl kd.tail ?_
  simp only [Act.put, List.setIfInBounds_toArray, List.set_cons_zero, List.set_cons_succ]
  refine take_val 23 _ _ (.pointer (some ⟨k, p + 1, none⟩)) rfl (by rfl) (by kernel_rfl) (by kernel_rfl) (by kernel_rfl) (fun w => by unfold execOp; go_simp) rfl rfl kd.tail ?_
  simp only [Act.put, List.setIfInBounds_toArray, List.set_cons_zero, List.set_cons_succ]
  refine take_cell 24 _ _ (.float .f32 bv) rfl (by rfl) (by kernel_rfl) (by kernel_rfl) (by kernel_rfl) (fun wq hS => by have hcell : wq.cell? ⟨k, p + 1, none⟩ = some (.float .f32 bv) := (HC.out wq hS.1).2.2.2; clear hS; unfold execOp; go_simp) rfl rfl kd.tail ?_
  simp only [Act.put, List.setIfInBounds_toArray, List.set_cons_zero, List.set_cons_succ]
  refine take_val 25 _ _ (.float .f32 x) rfl (by rfl) (by kernel_rfl) (by kernel_rfl) (by kernel_rfl) (fun w => by rfl) rfl rfl kd.tail ?_
  simp only [Act.put, List.setIfInBounds_toArray, List.set_cons_zero, List.set_cons_succ]
  refine take_val 26 _ _ (.float .f32 (fmul bv x)) rfl (by rfl) (by kernel_rfl) (by kernel_rfl) (by kernel_rfl) (fun w => run_binop_val _ _ _ _ (by rfl) (by rfl) (by simp [eqGuard]) (h2bv.out w)) rfl rfl kd.tail ?_
  simp only [Act.put, List.setIfInBounds_toArray, List.set_cons_zero, List.set_cons_succ]
  refine take_val 27 _ _ (.float .f32 (mixW av bv x)) rfl (by rfl) (by kernel_rfl) (by kernel_rfl) (by kernel_rfl) (fun w => run_binop_val _ _ _ _ (by rfl) (by rfl) (by simp [eqGuard]) (h3v.out w)) rfl rfl kd.tail ?_
  simp only [Act.put, List.setIfInBounds_toArray, List.set_cons_zero, List.set_cons_succ]
  refine take_val 28 _ _ (.agg #[.float .f32 (mixW ah bh x), .float .f32 (mixW av bv x)]) rfl (by rfl) (by kernel_rfl) (by kernel_rfl) (by kernel_rfl) (fun w => by unfold execOp; go_simp) rfl rfl kd.tail ?_
  simp only [Act.put, List.setIfInBounds_toArray, List.set_cons_zero, List.set_cons_succ]
  refine wpAnyH_ready (rs := [29]) (by kernel_rfl) (by simp) ?_
  refine storeK 29 _ _ kd HB0.out HN0.out rfl (by rfl) 38 _ _ rfl (#[.float .f32 (mixW ah bh x), .float .f32 (mixW av bv x)]) rfl rfl (info_air) (by simp) (by simp [Value.oneCell']) rfl rfl (fun w1 k1 => ?_) AllReadyH.nil
  refine ⟨k1.tail, ?_⟩
  refine wpAnyH_done (by kernel_rfl) (NoPanic.normal ?_) _
  go_wp2
  exact bodyPost_ret (results_cell_row rfl _ _ (w.heap.size) 38 (#[.float .f32 (mixW ah bh x), .float .f32 (mixW av bv x)]) (0, 0) _ rfl (k1.at (x := (w.heap.size, _, _)) (by simp)) Try.underlying38 rfl info_air) rfl ⟨rfl, k1.1⟩

set_option maxRecDepth 100000 in
theorem sMixed_ok (aa ah av bh bv x : Nat) (M1 : MixF ah bh x) (M2 : MixF av bv x) (hr : airB (mixW ah bh x) (mixW av bv x) = true) (w : World) (k p : Nat)
    (hC : ∀ w', Below w.heap.size w w' → w'.cell? ⟨k, p, none⟩ = some (.float .f32 bh) ∧ w'.cell? ⟨k, p + 1, none⟩ = some (.float .f32 bv)) :
    Calls Try.prog 185 #[.agg #[.float .f32 aa, .float .f32 ah, .float .f32 av], .pointer (some ⟨k, p, none⟩), .float .f32 x] w fun e w' => e = .returned (.tuple #[.agg #[.float .f32 aa, .float .f32 (mixW ah bh x), .float .f32 (mixW av bv x)], .int .i64 0]) ∧ Below w.heap.size w w' := by
  have k0 : Hid (Kept w [(w.heap.size, #[.float .f32 aa, .float .f32 ah, .float .f32 av], 85), (w.heap.size + 1, #[.float .f32 0, .float .f32 0, .float .f32 0], 85)] ((w.alloc (.cells #[.float .f32 aa, .float .f32 ah, .float .f32 av] 85)).alloc (.cells #[.float .f32 0, .float .f32 0, .float .f32 0] 85))) := hid ((((Kept.nil w).push _ _).push _ _).sub (by simp))
  have HC := hid hC
  have HM1 := hid M1
  have HM2 := hid M2
  have HR := hid hr
  clear hC M1 M2 hr
  go_enter Try.func185, Try.ntmps185
  go_wp2_with fail
  refine (sMixAt ah av bh bv x HM1.out HM2.out _ w.heap.size 1 k p (fun w' hb => ?_)).mono ?_
  · have A1 : parAt w' w.heap.size aa ah av 85 := (k0.out.stay hb).at (x := (w.heap.size, _, _)) (by simp)
    exact ⟨A1.c1, A1.c2, HC.out w' (k0.out.1.trans (hb.mono k0.out.1.size))⟩
  rintro e w1 ⟨rfl, hb1⟩
  have k1 := hid (k0.out.stay hb1)
  clear k0 hb1
  have tok1 : True := trivial
  go_wp2_with (have _t := tok1; refine store_air (w0 := w) (l := [(w.heap.size + 1, #[.float .f32 0, .float .f32 0, .float .f32 0], 85)]) rfl 38 _ _ rfl (w.heap.size) rfl (mixW ah bh x) (mixW av bv x) rfl aa ah av 85 k1.out (by omega) (by simp) info_air ?_; intro w2 k2; have k2 := hid k2; clear tok1)
  have A2 : Hid (parAt w2 w.heap.size aa (mixW ah bh x) (mixW av bv x) 85) := hid (k2.out.at (x := (w.heap.size, _, _)) (by simp))

  refine (sAirAt_t _ _ HR.out _ w.heap.size 1 A2.out.c1 A2.out.c2).mono ?_
  rintro e w3 ⟨rfl, rfl⟩
  go_wp2_with (first | (refine wpList_load_row rfl 85 _ rfl (w.heap.size) rfl 85 (#[.float .f32 aa, .float .f32 (mixW ah bh x), .float .f32 (mixW av bv x)]) (0, 0) _ (k2.out.at (x := (w.heap.size, #[.float .f32 aa, .float .f32 (mixW ah bh x), .float .f32 (mixW av bv x)], 85)) (by simp)) Try.underlying85 rfl (info_par) ?_) | (refine store_kept (w0 := w) (l := [(w.heap.size, #[.float .f32 aa, .float .f32 (mixW ah bh x), .float .f32 (mixW av bv x)], 85)]) rfl 85 _ _ rfl (w.heap.size + 1) (#[.float .f32 aa, .float .f32 (mixW ah bh x), .float .f32 (mixW av bv x)]) rfl rfl 85 (#[.float .f32 0, .float .f32 0, .float .f32 0]) (k2.out.sub (by intro x hx; simp only [List.mem_cons, List.not_mem_nil, or_false] at hx; rcases hx with rfl | rfl <;> simp)) (by omega) (by simp) (info_par) (by simp) (by simp [Value.oneCell']) ?_; intro wkz kz; have kz := hid kz))
  exact bodyPost_ret (results_row_tmp rfl _ _ (w.heap.size + 1) 85 (#[.float .f32 aa, .float .f32 (mixW ah bh x), .float .f32 (mixW av bv x)]) (0, 0) _ rfl (kz.out.at (x := (w.heap.size + 1, #[.float .f32 aa, .float .f32 (mixW ah bh x), .float .f32 (mixW av bv x)], 85)) (by simp)) Try.underlying85 rfl info_par) rfl ⟨rfl, kz.out.1⟩

set_option maxRecDepth 100000 in
theorem sMixed_state (aa ah av bh bv x : Nat) (M1 : MixF ah bh x) (M2 : MixF av bv x) (hr : airB (mixW ah bh x) (mixW av bv x) = false) (w : World) (k p : Nat)
    (hC : ∀ w', Below w.heap.size w w' → w'.cell? ⟨k, p, none⟩ = some (.float .f32 bh) ∧ w'.cell? ⟨k, p + 1, none⟩ = some (.float .f32 bv)) :
    Calls Try.prog 185 #[.agg #[.float .f32 aa, .float .f32 ah, .float .f32 av], .pointer (some ⟨k, p, none⟩), .float .f32 x] w fun e w' => e = .returned (.tuple #[.agg #[.float .f32 0, .float .f32 0, .float .f32 0], .int .i64 4]) ∧ Below w.heap.size w w' := by
  have k0 : Hid (Kept w [(w.heap.size, #[.float .f32 aa, .float .f32 ah, .float .f32 av], 85), (w.heap.size + 1, #[.float .f32 0, .float .f32 0, .float .f32 0], 85)] ((w.alloc (.cells #[.float .f32 aa, .float .f32 ah, .float .f32 av] 85)).alloc (.cells #[.float .f32 0, .float .f32 0, .float .f32 0] 85))) := hid ((((Kept.nil w).push _ _).push _ _).sub (by simp))
  have HC := hid hC
  have HM1 := hid M1
  have HM2 := hid M2
  have HR := hid hr
  clear hC M1 M2 hr
  go_enter Try.func185, Try.ntmps185
  go_wp2_with fail
  refine (sMixAt ah av bh bv x HM1.out HM2.out _ w.heap.size 1 k p (fun w' hb => ?_)).mono ?_
  · have A1 : parAt w' w.heap.size aa ah av 85 := (k0.out.stay hb).at (x := (w.heap.size, _, _)) (by simp)
    exact ⟨A1.c1, A1.c2, HC.out w' (k0.out.1.trans (hb.mono k0.out.1.size))⟩
  rintro e w1 ⟨rfl, hb1⟩
  have k1 := hid (k0.out.stay hb1)
  clear k0 hb1
  have tok1 : True := trivial
  go_wp2_with (have _t := tok1; refine store_air (w0 := w) (l := [(w.heap.size + 1, #[.float .f32 0, .float .f32 0, .float .f32 0], 85)]) rfl 38 _ _ rfl (w.heap.size) rfl (mixW ah bh x) (mixW av bv x) rfl aa ah av 85 k1.out (by omega) (by simp) info_air ?_; intro w2 k2; have k2 := hid k2; clear tok1)
  have A2 : Hid (parAt w2 w.heap.size aa (mixW ah bh x) (mixW av bv x) 85) := hid (k2.out.at (x := (w.heap.size, _, _)) (by simp))

  refine (sAirAt_f _ _ HM2.out.lt HR.out _ w.heap.size 1 A2.out.c1 A2.out.c2).mono ?_
  rintro e w3 ⟨rfl, hb3⟩
  have k3 := hid (k2.out.stay hb3)
  go_wp2_with (refine store_kept (w0 := w) (l := []) rfl 85 _ _ rfl (w.heap.size + 1) (#[.float .f32 0, .float .f32 0, .float .f32 0]) rfl rfl 85 (#[.float .f32 0, .float .f32 0, .float .f32 0]) (k3.out.sub (by intro x hx; simp only [List.mem_cons, List.not_mem_nil, or_false] at hx; rcases hx with rfl <;> simp)) (by omega) (by simp) (info_par) (by simp) (by simp [Value.oneCell']) ?_; intro wkz kz; have kz := hid kz)
  exact bodyPost_ret (results_row_tmp rfl _ _ (w.heap.size + 1) 85 (#[.float .f32 0, .float .f32 0, .float .f32 0]) (0, 0) _ rfl (kz.out.at (x := (w.heap.size + 1, #[.float .f32 0, .float .f32 0, .float .f32 0], 85)) (by simp)) Try.underlying85 rfl info_par) rfl ⟨rfl, kz.out.1⟩

set_option maxHeartbeats 1000000 in
set_option maxRecDepth 100000 in
theorem iMixParcels_bad1 (aa ah av ba bh bv x : Nat) (h0 : aa < 4294967296) (h2 : av < 4294967296) (h5 : ba < 4294967296) (h4 : bv < 4294967296) (hp : parB aa ah av = false) (w : World) :
    Calls Try.prog 87 #[.agg #[.float .f32 aa, .float .f32 ah, .float .f32 av], .agg #[.float .f32 ba, .float .f32 bh, .float .f32 bv], .float .f32 x] w fun e w' => e = .returned (.tuple #[.agg #[.float .f32 0, .float .f32 0, .float .f32 0], .int .i64 1]) ∧ Below w.heap.size w w' := by
  have k0 : Hid (Kept w [(w.heap.size, #[.float .f32 aa, .float .f32 ah, .float .f32 av], 85), (w.heap.size + 1, #[.float .f32 ba, .float .f32 bh, .float .f32 bv], 85), (w.heap.size + 1 + 1, #[.float .f32 0, .float .f32 0, .float .f32 0], 85)] (((w.alloc (.cells #[.float .f32 aa, .float .f32 ah, .float .f32 av] 85)).alloc (.cells #[.float .f32 ba, .float .f32 bh, .float .f32 bv] 85)).alloc (.cells #[.float .f32 0, .float .f32 0, .float .f32 0] 85))) := hid (((((Kept.nil w).push _ _).push _ _).push _ _).sub (by simp))
  have H0 := hid h0
  have H2 := hid h2
  have H5 := hid h5
  have H4 := hid h4
  clear h0 h2 h5 h4
  have Xhp := hid hp
  clear hp
  go_enter Try.func87, Try.ntmps87

  go_wp2_with (first | (refine wpList_load_row rfl 85 _ rfl (w.heap.size) rfl 85 (#[.float .f32 aa, .float .f32 ah, .float .f32 av]) (0, 0) _ (k0.out.at (x := (w.heap.size, #[.float .f32 aa, .float .f32 ah, .float .f32 av], 85)) (by simp)) Try.underlying85 rfl (info_par) ?_))
  refine (iValidParcel aa ah av H0.out H2.out false Xhp.out _).mono ?_
  rintro e w0 ⟨rfl, hb0⟩
  have k1 := hid (k0.out.stay hb0)
  clear hb0
  go_wp2_with (first | (refine store_kept (w0 := w) (l := []) rfl 85 _ _ rfl (w.heap.size + 1 + 1) (#[.float .f32 0, .float .f32 0, .float .f32 0]) rfl rfl 85 (#[.float .f32 0, .float .f32 0, .float .f32 0]) (k1.out.sub (by intro x hx; simp only [List.mem_cons, List.not_mem_nil, or_false] at hx; rcases hx with rfl <;> simp)) (by omega) (by simp) (info_par) (by simp) (by simp [Value.oneCell']) ?_; intro wkz kz; have kz := hid kz))
  exact bodyPost_ret (results_row_tmp rfl _ _ (w.heap.size + 1 + 1) 85 (#[.float .f32 0, .float .f32 0, .float .f32 0]) (0, 0) _ rfl (kz.out.at (x := (w.heap.size + 1 + 1, #[.float .f32 0, .float .f32 0, .float .f32 0], 85)) (by simp)) Try.underlying85 rfl info_par) rfl ⟨rfl, kz.out.1⟩

set_option maxHeartbeats 1000000 in
set_option maxRecDepth 100000 in
theorem iMixParcels_bad2 (aa ah av ba bh bv x : Nat) (h0 : aa < 4294967296) (h2 : av < 4294967296) (h5 : ba < 4294967296) (h4 : bv < 4294967296) (hp : parB aa ah av = true) (hq : parB ba bh bv = false) (w : World) :
    Calls Try.prog 87 #[.agg #[.float .f32 aa, .float .f32 ah, .float .f32 av], .agg #[.float .f32 ba, .float .f32 bh, .float .f32 bv], .float .f32 x] w fun e w' => e = .returned (.tuple #[.agg #[.float .f32 0, .float .f32 0, .float .f32 0], .int .i64 1]) ∧ Below w.heap.size w w' := by
  have k0 : Hid (Kept w [(w.heap.size, #[.float .f32 aa, .float .f32 ah, .float .f32 av], 85), (w.heap.size + 1, #[.float .f32 ba, .float .f32 bh, .float .f32 bv], 85), (w.heap.size + 1 + 1, #[.float .f32 0, .float .f32 0, .float .f32 0], 85)] (((w.alloc (.cells #[.float .f32 aa, .float .f32 ah, .float .f32 av] 85)).alloc (.cells #[.float .f32 ba, .float .f32 bh, .float .f32 bv] 85)).alloc (.cells #[.float .f32 0, .float .f32 0, .float .f32 0] 85))) := hid (((((Kept.nil w).push _ _).push _ _).push _ _).sub (by simp))
  have H0 := hid h0
  have H2 := hid h2
  have H5 := hid h5
  have H4 := hid h4
  clear h0 h2 h5 h4
  have Xhp := hid hp
  have Xhq := hid hq
  clear hp hq
  go_enter Try.func87, Try.ntmps87

  go_wp2_with (first | (refine wpList_load_row rfl 85 _ rfl (w.heap.size) rfl 85 (#[.float .f32 aa, .float .f32 ah, .float .f32 av]) (0, 0) _ (k0.out.at (x := (w.heap.size, #[.float .f32 aa, .float .f32 ah, .float .f32 av], 85)) (by simp)) Try.underlying85 rfl (info_par) ?_))
  refine (iValidParcel aa ah av H0.out H2.out true Xhp.out _).mono ?_
  rintro e w0 ⟨rfl, hb0⟩
  have k1 := hid (k0.out.stay hb0)
  clear hb0
  go_wp2_with (first | (refine wpList_load_g rfl 85 _ rfl (w.heap.size + 1) rfl 85 (#[.float .f32 ba, .float .f32 bh, .float .f32 bv]) (0, 0) _ (k1.out.at (x := (w.heap.size + 1, #[.float .f32 ba, .float .f32 bh, .float .f32 bv], 85)) (by simp)) Try.underlying85 rfl (info_par) ?_))
  refine (iValidParcel ba bh bv H5.out H4.out false Xhq.out _).mono ?_
  rintro e w1 ⟨rfl, hb1⟩
  have k2 := hid (k1.out.stay hb1)
  clear hb1
  go_wp2_with (first | (refine store_kept (w0 := w) (l := []) rfl 85 _ _ rfl (w.heap.size + 1 + 1) (#[.float .f32 0, .float .f32 0, .float .f32 0]) rfl rfl 85 (#[.float .f32 0, .float .f32 0, .float .f32 0]) (k2.out.sub (by intro x hx; simp only [List.mem_cons, List.not_mem_nil, or_false] at hx; rcases hx with rfl <;> simp)) (by omega) (by simp) (info_par) (by simp) (by simp [Value.oneCell']) ?_; intro wkz kz; have kz := hid kz))
  exact bodyPost_ret (results_row_tmp rfl _ _ (w.heap.size + 1 + 1) 85 (#[.float .f32 0, .float .f32 0, .float .f32 0]) (0, 0) _ rfl (kz.out.at (x := (w.heap.size + 1 + 1, #[.float .f32 0, .float .f32 0, .float .f32 0], 85)) (by simp)) Try.underlying85 rfl info_par) rfl ⟨rfl, kz.out.1⟩

set_option maxHeartbeats 1000000 in
set_option maxRecDepth 100000 in
theorem iMixParcels_range (aa ah av ba bh bv x : Nat) (h0 : aa < 4294967296) (h2 : av < 4294967296) (h5 : ba < 4294967296) (h4 : bv < 4294967296) (hp : parB aa ah av = true) (hq : parB ba bh bv = true) (hx : x < 4294967296) (hn : ¬ Share x) (w : World) :
    Calls Try.prog 87 #[.agg #[.float .f32 aa, .float .f32 ah, .float .f32 av], .agg #[.float .f32 ba, .float .f32 bh, .float .f32 bv], .float .f32 x] w fun e w' => e = .returned (.tuple #[.agg #[.float .f32 0, .float .f32 0, .float .f32 0], .int .i64 2]) ∧ Below w.heap.size w w' := by
  have k0 : Hid (Kept w [(w.heap.size, #[.float .f32 aa, .float .f32 ah, .float .f32 av], 85), (w.heap.size + 1, #[.float .f32 ba, .float .f32 bh, .float .f32 bv], 85), (w.heap.size + 1 + 1, #[.float .f32 0, .float .f32 0, .float .f32 0], 85)] (((w.alloc (.cells #[.float .f32 aa, .float .f32 ah, .float .f32 av] 85)).alloc (.cells #[.float .f32 ba, .float .f32 bh, .float .f32 bv] 85)).alloc (.cells #[.float .f32 0, .float .f32 0, .float .f32 0] 85))) := hid (((((Kept.nil w).push _ _).push _ _).push _ _).sub (by simp))
  have H0 := hid h0
  have H2 := hid h2
  have H5 := hid h5
  have H4 := hid h4
  clear h0 h2 h5 h4
  have Xhp := hid hp
  have Xhq := hid hq
  have Xhx := hid hx
  have Xhn := hid hn
  clear hp hq hx hn
  go_enter Try.func87, Try.ntmps87

  go_wp2_with (first | (refine wpList_load_row rfl 85 _ rfl (w.heap.size) rfl 85 (#[.float .f32 aa, .float .f32 ah, .float .f32 av]) (0, 0) _ (k0.out.at (x := (w.heap.size, #[.float .f32 aa, .float .f32 ah, .float .f32 av], 85)) (by simp)) Try.underlying85 rfl (info_par) ?_))
  refine (iValidParcel aa ah av H0.out H2.out true Xhp.out _).mono ?_
  rintro e w0 ⟨rfl, hb0⟩
  have k1 := hid (k0.out.stay hb0)
  clear hb0
  go_wp2_with (first | (refine wpList_load_g rfl 85 _ rfl (w.heap.size + 1) rfl 85 (#[.float .f32 ba, .float .f32 bh, .float .f32 bv]) (0, 0) _ (k1.out.at (x := (w.heap.size + 1, #[.float .f32 ba, .float .f32 bh, .float .f32 bv], 85)) (by simp)) Try.underlying85 rfl (info_par) ?_))
  refine (iValidParcel ba bh bv H5.out H4.out true Xhq.out _).mono ?_
  rintro e w1 ⟨rfl, hb1⟩
  have k2 := hid (k1.out.stay hb1)
  clear hb1
  go_wp2_with (first | (refine wpList_load_air (by rfl) 38 _ rfl (w.heap.size) rfl aa ah av 85 (k2.out.at (x := (w.heap.size, #[.float .f32 aa, .float .f32 ah, .float .f32 av], 85)) (by simp)) _ Try.underlying38 rfl info_air ?_) | (refine wpList_load_air (by rfl) 38 _ rfl (w.heap.size + 1) rfl ba bh bv 85 (k2.out.at (x := (w.heap.size + 1, #[.float .f32 ba, .float .f32 bh, .float .f32 bv], 85)) (by simp)) _ Try.underlying38 rfl info_air ?_))
  refine (iMixAir_range ah av bh bv x H2.out (parB_iff.1 Xhp.out).2 H4.out (parB_iff.1 Xhq.out).2 Xhx.out Xhn.out _).mono ?_
  rintro e w2 ⟨rfl, hb2⟩
  have k3 := hid (k2.out.stay hb2)
  clear hb2
  have k9 := hid (k3.out.push #[.float .f32 0, .float .f32 0] 38)
  go_wp2_with (first | (refine store_kept (w0 := w) (l := []) rfl 85 _ _ rfl (w.heap.size + 1 + 1) (#[.float .f32 0, .float .f32 0, .float .f32 0]) rfl rfl 85 (#[.float .f32 0, .float .f32 0, .float .f32 0]) (k9.out.sub (by intro x hx; simp only [List.mem_cons, List.not_mem_nil, or_false] at hx; rcases hx with rfl <;> simp)) (by omega) (by simp) (info_par) (by simp) (by simp [Value.oneCell']) ?_; intro wkz kz; have kz := hid kz))
  exact bodyPost_ret (results_row_tmp rfl _ _ (w.heap.size + 1 + 1) 85 (#[.float .f32 0, .float .f32 0, .float .f32 0]) (0, 0) _ rfl (kz.out.at (x := (w.heap.size + 1 + 1, #[.float .f32 0, .float .f32 0, .float .f32 0], 85)) (by simp)) Try.underlying85 rfl info_par) rfl ⟨rfl, kz.out.1⟩

set_option maxHeartbeats 1000000 in
set_option maxRecDepth 100000 in
theorem iMixParcels_ok (aa ah av ba bh bv x : Nat) (h0 : aa < 4294967296) (h2 : av < 4294967296) (h5 : ba < 4294967296) (h4 : bv < 4294967296) (hp : parB aa ah av = true) (hq : parB ba bh bv = true) (hx : Share x) (M1 : MixF ah bh x) (M2 : MixF av bv x) (hr : airB (mixW ah bh x) (mixW av bv x) = true) (w : World) :
    Calls Try.prog 87 #[.agg #[.float .f32 aa, .float .f32 ah, .float .f32 av], .agg #[.float .f32 ba, .float .f32 bh, .float .f32 bv], .float .f32 x] w fun e w' => e = .returned (.tuple #[.agg #[.float .f32 aa, .float .f32 (mixW ah bh x), .float .f32 (mixW av bv x)], .int .i64 0]) ∧ Below w.heap.size w w' := by
  have k0 : Hid (Kept w [(w.heap.size, #[.float .f32 aa, .float .f32 ah, .float .f32 av], 85), (w.heap.size + 1, #[.float .f32 ba, .float .f32 bh, .float .f32 bv], 85), (w.heap.size + 1 + 1, #[.float .f32 0, .float .f32 0, .float .f32 0], 85)] (((w.alloc (.cells #[.float .f32 aa, .float .f32 ah, .float .f32 av] 85)).alloc (.cells #[.float .f32 ba, .float .f32 bh, .float .f32 bv] 85)).alloc (.cells #[.float .f32 0, .float .f32 0, .float .f32 0] 85))) := hid (((((Kept.nil w).push _ _).push _ _).push _ _).sub (by simp))
  have H0 := hid h0
  have H2 := hid h2
  have H5 := hid h5
  have H4 := hid h4
  clear h0 h2 h5 h4
  have Xhp := hid hp
  have Xhq := hid hq
  have Xhx := hid hx
  have XM1 := hid M1
  have XM2 := hid M2
  have Xhr := hid hr
  clear hp hq hx M1 M2 hr
  go_enter Try.func87, Try.ntmps87

  go_wp2_with (first | (refine wpList_load_row rfl 85 _ rfl (w.heap.size) rfl 85 (#[.float .f32 aa, .float .f32 ah, .float .f32 av]) (0, 0) _ (k0.out.at (x := (w.heap.size, #[.float .f32 aa, .float .f32 ah, .float .f32 av], 85)) (by simp)) Try.underlying85 rfl (info_par) ?_))
  refine (iValidParcel aa ah av H0.out H2.out true Xhp.out _).mono ?_
  rintro e w0 ⟨rfl, hb0⟩
  have k1 := hid (k0.out.stay hb0)
  clear hb0
  go_wp2_with (first | (refine wpList_load_g rfl 85 _ rfl (w.heap.size + 1) rfl 85 (#[.float .f32 ba, .float .f32 bh, .float .f32 bv]) (0, 0) _ (k1.out.at (x := (w.heap.size + 1, #[.float .f32 ba, .float .f32 bh, .float .f32 bv], 85)) (by simp)) Try.underlying85 rfl (info_par) ?_))
  refine (iValidParcel ba bh bv H5.out H4.out true Xhq.out _).mono ?_
  rintro e w1 ⟨rfl, hb1⟩
  have k2 := hid (k1.out.stay hb1)
  clear hb1
  go_wp2_with (first | (refine wpList_load_air (by rfl) 38 _ rfl (w.heap.size) rfl aa ah av 85 (k2.out.at (x := (w.heap.size, #[.float .f32 aa, .float .f32 ah, .float .f32 av], 85)) (by simp)) _ Try.underlying38 rfl info_air ?_) | (refine wpList_load_air (by rfl) 38 _ rfl (w.heap.size + 1) rfl ba bh bv 85 (k2.out.at (x := (w.heap.size + 1, #[.float .f32 ba, .float .f32 bh, .float .f32 bv], 85)) (by simp)) _ Try.underlying38 rfl info_air ?_))
  refine (iMixAir_ok ah av bh bv x H2.out (parB_iff.1 Xhp.out).2 H4.out (parB_iff.1 Xhq.out).2 Xhx.out XM1.out XM2.out Xhr.out _).mono ?_
  rintro e w2 ⟨rfl, hb2⟩
  have k3 := hid (k2.out.stay hb2)
  clear hb2
  have k9 := hid (k3.out.push #[.float .f32 (mixW ah bh x), .float .f32 (mixW av bv x)] 38)
  have c0 : World.cell? (w2.alloc (.cells #[.float .f32 (mixW ah bh x), .float .f32 (mixW av bv x)] 38)) ⟨w.heap.size, 0, none⟩ = some (.float .f32 aa) := parAt.c0 (k9.out.at (x := (w.heap.size, #[.float .f32 aa, .float .f32 ah, .float .f32 av], 85)) (by simp))
  go_wp2_with (first | (refine wpList_load_row rfl 38 _ rfl (w2.heap.size) rfl 38 (#[.float .f32 (mixW ah bh x), .float .f32 (mixW av bv x)]) (0, 0) _ (k9.out.at (x := (w2.heap.size, #[.float .f32 (mixW ah bh x), .float .f32 (mixW av bv x)], 38)) (by simp)) Try.underlying38 rfl (info_air) ?_) | (refine store_kept (w0 := w) (l := []) rfl 85 _ _ rfl (w.heap.size + 1 + 1) (#[.float .f32 aa, .float .f32 (mixW ah bh x), .float .f32 (mixW av bv x)]) rfl rfl 85 (#[.float .f32 0, .float .f32 0, .float .f32 0]) (k9.out.sub (by intro x hx; simp only [List.mem_cons, List.not_mem_nil, or_false] at hx; rcases hx with rfl <;> simp)) (by omega) (by simp) (info_par) (by simp) (by simp [Value.oneCell']) ?_; intro wkz kz; have kz := hid kz))
  exact bodyPost_ret (results_row_tmp rfl _ _ (w.heap.size + 1 + 1) 85 (#[.float .f32 aa, .float .f32 (mixW ah bh x), .float .f32 (mixW av bv x)]) (0, 0) _ rfl (kz.out.at (x := (w.heap.size + 1 + 1, #[.float .f32 aa, .float .f32 (mixW ah bh x), .float .f32 (mixW av bv x)], 85)) (by simp)) Try.underlying85 rfl info_par) rfl ⟨rfl, kz.out.1⟩

set_option maxHeartbeats 1000000 in
set_option maxRecDepth 100000 in
theorem iMixParcels_state (aa ah av ba bh bv x : Nat) (h0 : aa < 4294967296) (h2 : av < 4294967296) (h5 : ba < 4294967296) (h4 : bv < 4294967296) (hp : parB aa ah av = true) (hq : parB ba bh bv = true) (hx : Share x) (M1 : MixF ah bh x) (M2 : MixF av bv x) (hr : airB (mixW ah bh x) (mixW av bv x) = false) (w : World) :
    Calls Try.prog 87 #[.agg #[.float .f32 aa, .float .f32 ah, .float .f32 av], .agg #[.float .f32 ba, .float .f32 bh, .float .f32 bv], .float .f32 x] w fun e w' => e = .returned (.tuple #[.agg #[.float .f32 0, .float .f32 0, .float .f32 0], .int .i64 4]) ∧ Below w.heap.size w w' := by
  have k0 : Hid (Kept w [(w.heap.size, #[.float .f32 aa, .float .f32 ah, .float .f32 av], 85), (w.heap.size + 1, #[.float .f32 ba, .float .f32 bh, .float .f32 bv], 85), (w.heap.size + 1 + 1, #[.float .f32 0, .float .f32 0, .float .f32 0], 85)] (((w.alloc (.cells #[.float .f32 aa, .float .f32 ah, .float .f32 av] 85)).alloc (.cells #[.float .f32 ba, .float .f32 bh, .float .f32 bv] 85)).alloc (.cells #[.float .f32 0, .float .f32 0, .float .f32 0] 85))) := hid (((((Kept.nil w).push _ _).push _ _).push _ _).sub (by simp))
  have H0 := hid h0
  have H2 := hid h2
  have H5 := hid h5
  have H4 := hid h4
  clear h0 h2 h5 h4
  have Xhp := hid hp
  have Xhq := hid hq
  have Xhx := hid hx
  have XM1 := hid M1
  have XM2 := hid M2
  have Xhr := hid hr
  clear hp hq hx M1 M2 hr
  go_enter Try.func87, Try.ntmps87

  go_wp2_with (first | (refine wpList_load_row rfl 85 _ rfl (w.heap.size) rfl 85 (#[.float .f32 aa, .float .f32 ah, .float .f32 av]) (0, 0) _ (k0.out.at (x := (w.heap.size, #[.float .f32 aa, .float .f32 ah, .float .f32 av], 85)) (by simp)) Try.underlying85 rfl (info_par) ?_))
  refine (iValidParcel aa ah av H0.out H2.out true Xhp.out _).mono ?_
  rintro e w0 ⟨rfl, hb0⟩
  have k1 := hid (k0.out.stay hb0)
  clear hb0
  go_wp2_with (first | (refine wpList_load_g rfl 85 _ rfl (w.heap.size + 1) rfl 85 (#[.float .f32 ba, .float .f32 bh, .float .f32 bv]) (0, 0) _ (k1.out.at (x := (w.heap.size + 1, #[.float .f32 ba, .float .f32 bh, .float .f32 bv], 85)) (by simp)) Try.underlying85 rfl (info_par) ?_))
  refine (iValidParcel ba bh bv H5.out H4.out true Xhq.out _).mono ?_
  rintro e w1 ⟨rfl, hb1⟩
  have k2 := hid (k1.out.stay hb1)
  clear hb1
  go_wp2_with (first | (refine wpList_load_air (by rfl) 38 _ rfl (w.heap.size) rfl aa ah av 85 (k2.out.at (x := (w.heap.size, #[.float .f32 aa, .float .f32 ah, .float .f32 av], 85)) (by simp)) _ Try.underlying38 rfl info_air ?_) | (refine wpList_load_air (by rfl) 38 _ rfl (w.heap.size + 1) rfl ba bh bv 85 (k2.out.at (x := (w.heap.size + 1, #[.float .f32 ba, .float .f32 bh, .float .f32 bv], 85)) (by simp)) _ Try.underlying38 rfl info_air ?_))
  refine (iMixAir_state ah av bh bv x H2.out (parB_iff.1 Xhp.out).2 H4.out (parB_iff.1 Xhq.out).2 Xhx.out XM1.out XM2.out Xhr.out _).mono ?_
  rintro e w2 ⟨rfl, hb2⟩
  have k3 := hid (k2.out.stay hb2)
  clear hb2
  have k9 := hid (k3.out.push #[.float .f32 0, .float .f32 0] 38)
  go_wp2_with (first | (refine store_kept (w0 := w) (l := []) rfl 85 _ _ rfl (w.heap.size + 1 + 1) (#[.float .f32 0, .float .f32 0, .float .f32 0]) rfl rfl 85 (#[.float .f32 0, .float .f32 0, .float .f32 0]) (k9.out.sub (by intro x hx; simp only [List.mem_cons, List.not_mem_nil, or_false] at hx; rcases hx with rfl <;> simp)) (by omega) (by simp) (info_par) (by simp) (by simp [Value.oneCell']) ?_; intro wkz kz; have kz := hid kz))
  exact bodyPost_ret (results_row_tmp rfl _ _ (w.heap.size + 1 + 1) 85 (#[.float .f32 0, .float .f32 0, .float .f32 0]) (0, 0) _ rfl (kz.out.at (x := (w.heap.size + 1 + 1, #[.float .f32 0, .float .f32 0, .float .f32 0], 85)) (by simp)) Try.underlying85 rfl info_par) rfl ⟨rfl, kz.out.1⟩

set_option maxHeartbeats 1000000 in
set_option maxRecDepth 100000 in
theorem sMixParcels_bad1 (aa ah av ba bh bv x : Nat) (h0 : aa < 4294967296) (h2 : av < 4294967296) (h5 : ba < 4294967296) (h4 : bv < 4294967296) (hp : parB aa ah av = false) (w : World) :
    Calls Try.prog 86 #[.agg #[.float .f32 aa, .float .f32 ah, .float .f32 av], .agg #[.float .f32 ba, .float .f32 bh, .float .f32 bv], .float .f32 x] w fun e w' => e = .returned (.tuple #[.agg #[.float .f32 0, .float .f32 0, .float .f32 0], .int .i64 1]) ∧ Below w.heap.size w w' := by
  have k0 : Hid (Kept w [(w.heap.size, #[.float .f32 aa, .float .f32 ah, .float .f32 av], 85), (w.heap.size + 1, #[.float .f32 ba, .float .f32 bh, .float .f32 bv], 85), (w.heap.size + 1 + 1, #[.float .f32 0, .float .f32 0, .float .f32 0], 85)] (((w.alloc (.cells #[.float .f32 aa, .float .f32 ah, .float .f32 av] 85)).alloc (.cells #[.float .f32 ba, .float .f32 bh, .float .f32 bv] 85)).alloc (.cells #[.float .f32 0, .float .f32 0, .float .f32 0] 85))) := hid (((((Kept.nil w).push _ _).push _ _).push _ _).sub (by simp))
  have H0 := hid h0
  have H2 := hid h2
  have H5 := hid h5
  have H4 := hid h4
  clear h0 h2 h5 h4
  have Xhp := hid hp
  clear hp
  go_enter Try.func86, Try.ntmps86

  go_wp2_with fail
  refine (sParOk aa ah av H0.out H2.out false Xhp.out _ (w.heap.size) 85 (k0.out.at (x := (w.heap.size, #[.float .f32 aa, .float .f32 ah, .float .f32 av], 85)) (by simp))).mono ?_
  rintro e w0 ⟨rfl, hb0⟩
  have k1 := hid (k0.out.stay hb0)
  clear hb0
  go_wp2_with (first | (refine store_kept (w0 := w) (l := []) rfl 85 _ _ rfl (w.heap.size + 1 + 1) (#[.float .f32 0, .float .f32 0, .float .f32 0]) rfl rfl 85 (#[.float .f32 0, .float .f32 0, .float .f32 0]) (k1.out.sub (by intro x hx; simp only [List.mem_cons, List.not_mem_nil, or_false] at hx; rcases hx with rfl <;> simp)) (by omega) (by simp) (info_par) (by simp) (by simp [Value.oneCell']) ?_; intro wkz kz; have kz := hid kz))
  exact bodyPost_ret (results_row_tmp rfl _ _ (w.heap.size + 1 + 1) 85 (#[.float .f32 0, .float .f32 0, .float .f32 0]) (0, 0) _ rfl (kz.out.at (x := (w.heap.size + 1 + 1, #[.float .f32 0, .float .f32 0, .float .f32 0], 85)) (by simp)) Try.underlying85 rfl info_par) rfl ⟨rfl, kz.out.1⟩

set_option maxHeartbeats 1000000 in
set_option maxRecDepth 100000 in
theorem sMixParcels_bad2 (aa ah av ba bh bv x : Nat) (h0 : aa < 4294967296) (h2 : av < 4294967296) (h5 : ba < 4294967296) (h4 : bv < 4294967296) (hp : parB aa ah av = true) (hq : parB ba bh bv = false) (w : World) :
    Calls Try.prog 86 #[.agg #[.float .f32 aa, .float .f32 ah, .float .f32 av], .agg #[.float .f32 ba, .float .f32 bh, .float .f32 bv], .float .f32 x] w fun e w' => e = .returned (.tuple #[.agg #[.float .f32 0, .float .f32 0, .float .f32 0], .int .i64 1]) ∧ Below w.heap.size w w' := by
  have k0 : Hid (Kept w [(w.heap.size, #[.float .f32 aa, .float .f32 ah, .float .f32 av], 85), (w.heap.size + 1, #[.float .f32 ba, .float .f32 bh, .float .f32 bv], 85), (w.heap.size + 1 + 1, #[.float .f32 0, .float .f32 0, .float .f32 0], 85)] (((w.alloc (.cells #[.float .f32 aa, .float .f32 ah, .float .f32 av] 85)).alloc (.cells #[.float .f32 ba, .float .f32 bh, .float .f32 bv] 85)).alloc (.cells #[.float .f32 0, .float .f32 0, .float .f32 0] 85))) := hid (((((Kept.nil w).push _ _).push _ _).push _ _).sub (by simp))
  have H0 := hid h0
  have H2 := hid h2
  have H5 := hid h5
  have H4 := hid h4
  clear h0 h2 h5 h4
  have Xhp := hid hp
  have Xhq := hid hq
  clear hp hq
  go_enter Try.func86, Try.ntmps86

  go_wp2_with fail
  refine (sParOk aa ah av H0.out H2.out true Xhp.out _ (w.heap.size) 85 (k0.out.at (x := (w.heap.size, #[.float .f32 aa, .float .f32 ah, .float .f32 av], 85)) (by simp))).mono ?_
  rintro e w0 ⟨rfl, hb0⟩
  have k1 := hid (k0.out.stay hb0)
  clear hb0
  go_wp2_with fail
  refine (sParOk ba bh bv H5.out H4.out false Xhq.out _ (w.heap.size + 1) 85 (k1.out.at (x := (w.heap.size + 1, #[.float .f32 ba, .float .f32 bh, .float .f32 bv], 85)) (by simp))).mono ?_
  rintro e w1 ⟨rfl, hb1⟩
  have k2 := hid (k1.out.stay hb1)
  clear hb1
  go_wp2_with (first | (refine store_kept (w0 := w) (l := []) rfl 85 _ _ rfl (w.heap.size + 1 + 1) (#[.float .f32 0, .float .f32 0, .float .f32 0]) rfl rfl 85 (#[.float .f32 0, .float .f32 0, .float .f32 0]) (k2.out.sub (by intro x hx; simp only [List.mem_cons, List.not_mem_nil, or_false] at hx; rcases hx with rfl <;> simp)) (by omega) (by simp) (info_par) (by simp) (by simp [Value.oneCell']) ?_; intro wkz kz; have kz := hid kz))
  exact bodyPost_ret (results_row_tmp rfl _ _ (w.heap.size + 1 + 1) 85 (#[.float .f32 0, .float .f32 0, .float .f32 0]) (0, 0) _ rfl (kz.out.at (x := (w.heap.size + 1 + 1, #[.float .f32 0, .float .f32 0, .float .f32 0], 85)) (by simp)) Try.underlying85 rfl info_par) rfl ⟨rfl, kz.out.1⟩

set_option maxHeartbeats 1000000 in
set_option maxRecDepth 100000 in
theorem sMixParcels_range (aa ah av ba bh bv x : Nat) (h0 : aa < 4294967296) (h2 : av < 4294967296) (h5 : ba < 4294967296) (h4 : bv < 4294967296) (hp : parB aa ah av = true) (hq : parB ba bh bv = true) (hx : x < 4294967296) (hn : ¬ Share x) (w : World) :
    Calls Try.prog 86 #[.agg #[.float .f32 aa, .float .f32 ah, .float .f32 av], .agg #[.float .f32 ba, .float .f32 bh, .float .f32 bv], .float .f32 x] w fun e w' => e = .returned (.tuple #[.agg #[.float .f32 0, .float .f32 0, .float .f32 0], .int .i64 2]) ∧ Below w.heap.size w w' := by
  have k0 : Hid (Kept w [(w.heap.size, #[.float .f32 aa, .float .f32 ah, .float .f32 av], 85), (w.heap.size + 1, #[.float .f32 ba, .float .f32 bh, .float .f32 bv], 85), (w.heap.size + 1 + 1, #[.float .f32 0, .float .f32 0, .float .f32 0], 85)] (((w.alloc (.cells #[.float .f32 aa, .float .f32 ah, .float .f32 av] 85)).alloc (.cells #[.float .f32 ba, .float .f32 bh, .float .f32 bv] 85)).alloc (.cells #[.float .f32 0, .float .f32 0, .float .f32 0] 85))) := hid (((((Kept.nil w).push _ _).push _ _).push _ _).sub (by simp))
  have H0 := hid h0
  have H2 := hid h2
  have H5 := hid h5
  have H4 := hid h4
  clear h0 h2 h5 h4
  have Xhp := hid hp
  have Xhq := hid hq
  have Xhx := hid hx
  have Xhn := hid hn
  clear hp hq hx hn
  go_enter Try.func86, Try.ntmps86

  go_wp2_with fail
  refine (sParOk aa ah av H0.out H2.out true Xhp.out _ (w.heap.size) 85 (k0.out.at (x := (w.heap.size, #[.float .f32 aa, .float .f32 ah, .float .f32 av], 85)) (by simp))).mono ?_
  rintro e w0 ⟨rfl, hb0⟩
  have k1 := hid (k0.out.stay hb0)
  clear hb0
  go_wp2_with fail
  refine (sParOk ba bh bv H5.out H4.out true Xhq.out _ (w.heap.size + 1) 85 (k1.out.at (x := (w.heap.size + 1, #[.float .f32 ba, .float .f32 bh, .float .f32 bv], 85)) (by simp))).mono ?_
  rintro e w1 ⟨rfl, hb1⟩
  have k2 := hid (k1.out.stay hb1)
  clear hb1
  go_wp2_with fail
  refine (sShare_f x Xhx.out Xhn.out _).mono ?_
  rintro e w2 ⟨rfl, hb2⟩
  have k3 := hid (k2.out.stay hb2)
  clear hb2
  go_wp2_with (first | (refine store_kept (w0 := w) (l := []) rfl 85 _ _ rfl (w.heap.size + 1 + 1) (#[.float .f32 0, .float .f32 0, .float .f32 0]) rfl rfl 85 (#[.float .f32 0, .float .f32 0, .float .f32 0]) (k3.out.sub (by intro x hx; simp only [List.mem_cons, List.not_mem_nil, or_false] at hx; rcases hx with rfl <;> simp)) (by omega) (by simp) (info_par) (by simp) (by simp [Value.oneCell']) ?_; intro wkz kz; have kz := hid kz))
  exact bodyPost_ret (results_row_tmp rfl _ _ (w.heap.size + 1 + 1) 85 (#[.float .f32 0, .float .f32 0, .float .f32 0]) (0, 0) _ rfl (kz.out.at (x := (w.heap.size + 1 + 1, #[.float .f32 0, .float .f32 0, .float .f32 0], 85)) (by simp)) Try.underlying85 rfl info_par) rfl ⟨rfl, kz.out.1⟩

set_option maxHeartbeats 1000000 in
set_option maxRecDepth 100000 in
theorem sMixParcels_ok (aa ah av ba bh bv x : Nat) (h0 : aa < 4294967296) (h2 : av < 4294967296) (h5 : ba < 4294967296) (h4 : bv < 4294967296) (hp : parB aa ah av = true) (hq : parB ba bh bv = true) (hx : Share x) (M1 : MixF ah bh x) (M2 : MixF av bv x) (hr : airB (mixW ah bh x) (mixW av bv x) = true) (w : World) :
    Calls Try.prog 86 #[.agg #[.float .f32 aa, .float .f32 ah, .float .f32 av], .agg #[.float .f32 ba, .float .f32 bh, .float .f32 bv], .float .f32 x] w fun e w' => e = .returned (.tuple #[.agg #[.float .f32 aa, .float .f32 (mixW ah bh x), .float .f32 (mixW av bv x)], .int .i64 0]) ∧ Below w.heap.size w w' := by
  have k0 : Hid (Kept w [(w.heap.size, #[.float .f32 aa, .float .f32 ah, .float .f32 av], 85), (w.heap.size + 1, #[.float .f32 ba, .float .f32 bh, .float .f32 bv], 85), (w.heap.size + 1 + 1, #[.float .f32 0, .float .f32 0, .float .f32 0], 85)] (((w.alloc (.cells #[.float .f32 aa, .float .f32 ah, .float .f32 av] 85)).alloc (.cells #[.float .f32 ba, .float .f32 bh, .float .f32 bv] 85)).alloc (.cells #[.float .f32 0, .float .f32 0, .float .f32 0] 85))) := hid (((((Kept.nil w).push _ _).push _ _).push _ _).sub (by simp))
  have H0 := hid h0
  have H2 := hid h2
  have H5 := hid h5
  have H4 := hid h4
  clear h0 h2 h5 h4
  have Xhp := hid hp
  have Xhq := hid hq
  have Xhx := hid hx
  have XM1 := hid M1
  have XM2 := hid M2
  have Xhr := hid hr
  clear hp hq hx M1 M2 hr
  go_enter Try.func86, Try.ntmps86

  go_wp2_with fail
  refine (sParOk aa ah av H0.out H2.out true Xhp.out _ (w.heap.size) 85 (k0.out.at (x := (w.heap.size, #[.float .f32 aa, .float .f32 ah, .float .f32 av], 85)) (by simp))).mono ?_
  rintro e w0 ⟨rfl, hb0⟩
  have k1 := hid (k0.out.stay hb0)
  clear hb0
  go_wp2_with fail
  refine (sParOk ba bh bv H5.out H4.out true Xhq.out _ (w.heap.size + 1) 85 (k1.out.at (x := (w.heap.size + 1, #[.float .f32 ba, .float .f32 bh, .float .f32 bv], 85)) (by simp))).mono ?_
  rintro e w1 ⟨rfl, hb1⟩
  have k2 := hid (k1.out.stay hb1)
  clear hb1
  go_wp2_with fail
  refine (sShare_t x Xhx.out _).mono ?_
  rintro e w7 ⟨rfl, rfl⟩
  go_wp2_with (first | (refine wpList_load_row rfl 85 _ rfl (w.heap.size) rfl 85 (#[.float .f32 aa, .float .f32 ah, .float .f32 av]) (0, 0) _ (k2.out.at (x := (w.heap.size, #[.float .f32 aa, .float .f32 ah, .float .f32 av], 85)) (by simp)) Try.underlying85 rfl (info_par) ?_))
  refine (sMixed_ok aa ah av bh bv x XM1.out XM2.out Xhr.out _ (w.heap.size + 1) 1 (fun w9 hb => ⟨parAt.c1 ((k2.out.stay hb).at (x := (w.heap.size + 1, #[.float .f32 ba, .float .f32 bh, .float .f32 bv], 85)) (by simp)), parAt.c2 ((k2.out.stay hb).at (x := (w.heap.size + 1, #[.float .f32 ba, .float .f32 bh, .float .f32 bv], 85)) (by simp))⟩)).mono ?_
  rintro e w2 ⟨rfl, hb2⟩
  have k3 := hid (k2.out.stay hb2)
  clear hb2
  go_wp2_with (first | (refine store_kept (w0 := w) (l := []) rfl 85 _ _ rfl (w.heap.size + 1 + 1) (#[.float .f32 aa, .float .f32 (mixW ah bh x), .float .f32 (mixW av bv x)]) rfl rfl 85 (#[.float .f32 0, .float .f32 0, .float .f32 0]) (k3.out.sub (by intro x hx; simp only [List.mem_cons, List.not_mem_nil, or_false] at hx; rcases hx with rfl <;> simp)) (by omega) (by simp) (info_par) (by simp) (by simp [Value.oneCell']) ?_; intro wkz kz; have kz := hid kz))
  exact bodyPost_ret (results_row_tmp rfl _ _ (w.heap.size + 1 + 1) 85 (#[.float .f32 aa, .float .f32 (mixW ah bh x), .float .f32 (mixW av bv x)]) (0, 0) _ rfl (kz.out.at (x := (w.heap.size + 1 + 1, #[.float .f32 aa, .float .f32 (mixW ah bh x), .float .f32 (mixW av bv x)], 85)) (by simp)) Try.underlying85 rfl info_par) rfl ⟨rfl, kz.out.1⟩

set_option maxHeartbeats 1000000 in
set_option maxRecDepth 100000 in
theorem sMixParcels_state (aa ah av ba bh bv x : Nat) (h0 : aa < 4294967296) (h2 : av < 4294967296) (h5 : ba < 4294967296) (h4 : bv < 4294967296) (hp : parB aa ah av = true) (hq : parB ba bh bv = true) (hx : Share x) (M1 : MixF ah bh x) (M2 : MixF av bv x) (hr : airB (mixW ah bh x) (mixW av bv x) = false) (w : World) :
    Calls Try.prog 86 #[.agg #[.float .f32 aa, .float .f32 ah, .float .f32 av], .agg #[.float .f32 ba, .float .f32 bh, .float .f32 bv], .float .f32 x] w fun e w' => e = .returned (.tuple #[.agg #[.float .f32 0, .float .f32 0, .float .f32 0], .int .i64 4]) ∧ Below w.heap.size w w' := by
  have k0 : Hid (Kept w [(w.heap.size, #[.float .f32 aa, .float .f32 ah, .float .f32 av], 85), (w.heap.size + 1, #[.float .f32 ba, .float .f32 bh, .float .f32 bv], 85), (w.heap.size + 1 + 1, #[.float .f32 0, .float .f32 0, .float .f32 0], 85)] (((w.alloc (.cells #[.float .f32 aa, .float .f32 ah, .float .f32 av] 85)).alloc (.cells #[.float .f32 ba, .float .f32 bh, .float .f32 bv] 85)).alloc (.cells #[.float .f32 0, .float .f32 0, .float .f32 0] 85))) := hid (((((Kept.nil w).push _ _).push _ _).push _ _).sub (by simp))
  have H0 := hid h0
  have H2 := hid h2
  have H5 := hid h5
  have H4 := hid h4
  clear h0 h2 h5 h4
  have Xhp := hid hp
  have Xhq := hid hq
  have Xhx := hid hx
  have XM1 := hid M1
  have XM2 := hid M2
  have Xhr := hid hr
  clear hp hq hx M1 M2 hr
  go_enter Try.func86, Try.ntmps86

  go_wp2_with fail
  refine (sParOk aa ah av H0.out H2.out true Xhp.out _ (w.heap.size) 85 (k0.out.at (x := (w.heap.size, #[.float .f32 aa, .float .f32 ah, .float .f32 av], 85)) (by simp))).mono ?_
  rintro e w0 ⟨rfl, hb0⟩
  have k1 := hid (k0.out.stay hb0)
  clear hb0
  go_wp2_with fail
  refine (sParOk ba bh bv H5.out H4.out true Xhq.out _ (w.heap.size + 1) 85 (k1.out.at (x := (w.heap.size + 1, #[.float .f32 ba, .float .f32 bh, .float .f32 bv], 85)) (by simp))).mono ?_
  rintro e w1 ⟨rfl, hb1⟩
  have k2 := hid (k1.out.stay hb1)
  clear hb1
  go_wp2_with fail
  refine (sShare_t x Xhx.out _).mono ?_
  rintro e w7 ⟨rfl, rfl⟩
  go_wp2_with (first | (refine wpList_load_row rfl 85 _ rfl (w.heap.size) rfl 85 (#[.float .f32 aa, .float .f32 ah, .float .f32 av]) (0, 0) _ (k2.out.at (x := (w.heap.size, #[.float .f32 aa, .float .f32 ah, .float .f32 av], 85)) (by simp)) Try.underlying85 rfl (info_par) ?_))
  refine (sMixed_state aa ah av bh bv x XM1.out XM2.out Xhr.out _ (w.heap.size + 1) 1 (fun w9 hb => ⟨parAt.c1 ((k2.out.stay hb).at (x := (w.heap.size + 1, #[.float .f32 ba, .float .f32 bh, .float .f32 bv], 85)) (by simp)), parAt.c2 ((k2.out.stay hb).at (x := (w.heap.size + 1, #[.float .f32 ba, .float .f32 bh, .float .f32 bv], 85)) (by simp))⟩)).mono ?_
  rintro e w2 ⟨rfl, hb2⟩
  have k3 := hid (k2.out.stay hb2)
  clear hb2
  go_wp2_with (first | (refine store_kept (w0 := w) (l := []) rfl 85 _ _ rfl (w.heap.size + 1 + 1) (#[.float .f32 0, .float .f32 0, .float .f32 0]) rfl rfl 85 (#[.float .f32 0, .float .f32 0, .float .f32 0]) (k3.out.sub (by intro x hx; simp only [List.mem_cons, List.not_mem_nil, or_false] at hx; rcases hx with rfl <;> simp)) (by omega) (by simp) (info_par) (by simp) (by simp [Value.oneCell']) ?_; intro wkz kz; have kz := hid kz))
  exact bodyPost_ret (results_row_tmp rfl _ _ (w.heap.size + 1 + 1) 85 (#[.float .f32 0, .float .f32 0, .float .f32 0]) (0, 0) _ rfl (kz.out.at (x := (w.heap.size + 1 + 1, #[.float .f32 0, .float .f32 0, .float .f32 0], 85)) (by simp)) Try.underlying85 rfl info_par) rfl ⟨rfl, kz.out.1⟩

theorem run_toParcel1 (a : Act) (x0 : Operand) (v0 : Value) (h0 : a.eval x0 = v0) (d : Option Tmp) (ats : Array TypeId) (t : TypeId) (ps : String) (af : Array Edge) (gd : Option (Nat × Bool)) (w : World) :
    (execOp a.eval ⟨d, .call { callee := .value (.func 73), args := #[x0], argTypes := ats }, t, ps, af, gd⟩).run Try.prog w = .ok (.enter 73 #[v0]) w := by
  subst h0
  unfold execOp
  go_simp

theorem words_cons : ∀ (v : List Char) (r : List Char), (∀ c ∈ v, c ≠ Char.ofNat 32) → wordsSigns (v ++ Char.ofNat 32 :: r) = v :: wordsSigns r
  | [], r, _ => rfl
  | c :: v, r, h => by
    have ih := words_cons v r (fun x hx => h x (by simp [hx]))
    have hc : c ≠ Char.ofNat 32 := h c (by simp)
    show wordsSigns (c :: (v ++ Char.ofNat 32 :: r)) = _
    rw [wordsSigns.eq_3 _ _ (fun e => hc e), ih]

def w0 : List Nat := [104, 97, 114, 110, 101, 115, 115]

def w1 : List Nat := [52, 52, 52, 55, 100, 49, 55, 54, 55, 100, 52, 57, 98, 51, 52, 55, 48, 49, 101, 48, 102, 51, 48, 51, 97, 48, 54, 51, 97, 100, 56, 98, 53, 54, 56, 52, 57, 100, 101, 53, 102, 54, 51, 50, 101, 48, 55, 52, 97, 53, 55, 101, 57, 51, 102, 53, 55, 101, 50, 50, 56, 50, 97, 55]

def w2 : List Nat := [99, 117, 116]

def w3 : List Nat := [97, 116, 32, 108, 111, 111, 112, 46, 101, 120, 97, 109, 112, 108, 101, 47, 103, 48, 49, 50, 50, 52, 47, 108, 97, 119, 115, 46, 70, 110, 69, 120, 97, 99, 116, 84, 104, 105, 114, 100, 82, 111, 111, 116, 32, 108, 111, 111, 112, 46, 101, 120, 97, 109, 112, 108, 101, 47, 103, 48, 49, 50, 50, 52, 47, 108, 97, 119, 115, 46, 70, 110, 69, 120, 97, 99, 116, 83, 104, 105, 102, 116, 77, 97, 115, 115, 101, 115, 32, 108, 111, 111, 112, 46, 101, 120, 97, 109, 112, 108, 101, 47, 103, 48, 49, 50, 50, 52, 47, 108, 97, 119, 115, 46, 70, 110, 69, 120, 97, 99, 116, 71, 114, 111, 119, 79, 110, 99, 101, 32, 108, 111, 111, 112, 46, 101, 120, 97, 109, 112, 108, 101, 47, 103, 48, 49, 50, 50, 52, 47, 108, 97, 119, 115, 46, 70, 110, 69, 120, 97, 99, 116, 71, 114, 111, 119, 83, 116, 101, 112, 115, 32, 108, 111, 111, 112, 46, 101, 120, 97, 109, 112, 108, 101, 47, 103, 48, 49, 50, 50, 52, 47, 108, 97, 119, 115, 46, 70, 110, 69, 120, 97, 99, 116, 83, 116, 101, 112, 115, 84, 111, 68, 114, 121, 32, 108, 111, 111, 112, 46, 101, 120, 97, 109, 112, 108, 101, 47, 103, 48, 49, 50, 50, 52, 47, 108, 97, 119, 115, 46, 70, 110, 69, 120, 97, 99, 116, 69, 118, 101, 110, 116, 115, 79, 102, 32, 108, 111, 111, 112, 46, 101, 120, 97, 109, 112, 108, 101, 47, 103, 48, 49, 50, 50, 52, 47, 108, 97, 119, 115, 46, 70, 110, 69, 120, 97, 99, 116, 76, 111, 115, 115, 101, 115, 79, 102, 32, 108, 111, 111, 112, 46, 101, 120, 97, 109, 112, 108, 101, 47, 103, 48, 49, 50, 50, 52, 47, 108, 97, 119, 115, 46, 70, 110, 69, 120, 97, 99, 116, 67, 111, 108, 108, 105, 100, 101, 32, 108, 111, 111, 112, 46, 101, 120, 97, 109, 112, 108, 101, 47, 103, 48, 49, 50, 50, 52, 47, 108, 97, 119, 115, 46, 70, 110, 69, 120, 97, 99, 116, 67, 111, 108, 108, 105, 100, 101, 83, 116, 101, 112, 115, 32, 108, 111, 111, 112, 46, 101, 120, 97, 109, 112, 108, 101, 47, 103, 48, 49, 50, 50, 52, 47, 108, 97, 119, 115, 46, 70, 110, 69, 120, 97, 99, 116, 82, 97, 105, 110, 77, 97, 100, 101, 32, 108, 111, 111, 112, 46, 101, 120, 97, 109, 112, 108, 101, 47, 103, 48, 49, 50, 50, 52, 47, 108, 97, 119, 115, 46, 70, 110, 69, 120, 97, 99, 116, 67, 111, 108, 108, 105, 100, 101, 80, 97, 105, 114, 115, 32, 108, 111, 111, 112, 46, 101, 120, 97, 109, 112, 108, 101, 47, 103, 48, 49, 50, 50, 52, 47, 108, 97, 119, 115, 46, 70, 110, 69, 120, 97, 99, 116, 68, 114, 97, 119, 80, 97, 105, 114, 115, 32, 108, 111, 111, 112, 46, 101, 120, 97, 109, 112, 108, 101, 47, 103, 48, 49, 50, 50, 52, 47, 108, 97, 119, 115, 46, 70, 110, 69, 120, 97, 99, 116, 86, 97, 108, 105, 100, 80, 97, 114, 99, 101, 108, 32, 108, 111, 111, 112, 46, 101, 120, 97, 109, 112, 108, 101, 47, 103, 48, 49, 50, 50, 52, 47, 108, 97, 119, 115, 46, 70, 110, 69, 120, 97, 99, 116, 83, 97, 109, 101, 80, 97, 114, 99, 101, 108, 32, 108, 111, 111, 112, 46, 101, 120, 97, 109, 112, 108, 101, 47, 103, 48, 49, 50, 50, 52, 47, 108, 97, 119, 115, 46, 70, 110, 69, 120, 97, 99, 116, 83, 101, 116, 116, 108, 101, 65, 105, 114, 32, 108, 111, 111, 112, 46, 101, 120, 97, 109, 112, 108, 101, 47, 103, 48, 49, 50, 50, 52, 47, 108, 97, 119, 115, 46, 70, 110, 69, 120, 97, 99, 116, 82, 97, 105, 115, 101, 68, 114, 121, 32, 108, 111, 111, 112, 46, 101, 120, 97, 109, 112, 108, 101, 47, 103, 48, 49, 50, 50, 52, 47, 108, 97, 119, 115, 46, 70, 110, 69, 120, 97, 99, 116, 82, 97, 105, 115, 101, 77, 111, 105, 115, 116, 32, 108, 111, 111, 112, 46, 101, 120, 97, 109, 112, 108, 101, 47, 103, 48, 49, 50, 50, 52, 47, 108, 97, 119, 115, 46, 70, 110, 69, 120, 97, 99, 116, 66, 97, 115, 101, 79, 102, 32, 108, 111, 111, 112, 46, 101, 120, 97, 109, 112, 108, 101, 47, 103, 48, 49, 50, 50, 52, 47, 108, 97, 119, 115, 46, 70, 110, 69, 120, 97, 99, 116, 77, 105, 120, 80, 97, 114, 99, 101, 108, 115, 32, 108, 111, 111, 112, 46, 101, 120, 97, 109, 112, 108, 101, 47, 103, 48, 49, 50, 50, 52, 47, 108, 97, 119, 115, 46, 70, 110, 69, 120, 97, 99, 116, 86, 97, 108, 105, 100, 83, 111, 117, 110, 100, 105, 110, 103, 32, 108, 111, 111, 112, 46, 101, 120, 97, 109, 112, 108, 101, 47, 103, 48, 49, 50, 50, 52, 47, 108, 97, 119, 115, 46, 70, 110, 69, 120, 97, 99, 116, 83, 97, 109, 101, 83, 111, 117, 110, 100, 105, 110, 103, 32, 108, 111, 111, 112, 46, 101, 120, 97, 109, 112, 108, 101, 47, 103, 48, 49, 50, 50, 52, 47, 108, 97, 119, 115, 46, 70, 110, 69, 120, 97, 99, 116, 69, 118, 101, 110, 83, 111, 117, 110, 100, 105, 110, 103, 32, 108, 111, 111, 112, 46, 101, 120, 97, 109, 112, 108, 101, 47, 103, 48, 49, 50, 50, 52, 47, 108, 97, 119, 115, 46, 70, 110, 69, 120, 97, 99, 116, 65, 105, 114, 65, 116, 32, 108, 111, 111, 112, 46, 101, 120, 97, 109, 112, 108, 101, 47, 103, 48, 49, 50, 50, 52, 47, 108, 97, 119, 115, 46, 70, 110, 69, 120, 97, 99, 116, 76, 105, 102, 116, 79, 102, 32, 108, 111, 111, 112, 46, 101, 120, 97, 109, 112, 108, 101, 47, 103, 48, 49, 50, 50, 52, 47, 108, 97, 119, 115, 46, 70, 110, 69, 120, 97, 99, 116, 82, 105, 115, 101, 73, 110, 32, 108, 111, 111, 112, 46, 101, 120, 97, 109, 112, 108, 101, 47, 103, 48, 49, 50, 50, 52, 47, 108, 97, 119, 115, 46, 70, 110, 69, 120, 97, 99, 116, 70, 105, 114, 115, 116, 85, 110, 115, 116, 101, 97, 100, 121, 32, 108, 111, 111, 112, 46, 101, 120, 97, 109, 112, 108, 101, 47, 103, 48, 49, 50, 50, 52, 47, 108, 97, 119, 115, 46, 70, 110, 69, 120, 97, 99, 116, 83, 116, 101, 97, 100, 121, 83, 111, 117, 110, 100, 105, 110, 103, 32, 108, 111, 111, 112, 46, 101, 120, 97, 109, 112, 108, 101, 47, 103, 48, 49, 50, 50, 52, 47, 108, 97, 119, 115, 46, 70, 110, 69, 120, 97, 99, 116, 87, 97, 114, 109, 76, 111, 119, 101, 115, 116, 32, 108, 111, 111, 112, 46, 101, 120, 97, 109, 112, 108, 101, 47, 103, 48, 49, 50, 50, 52, 47, 108, 97, 119, 115, 46, 70, 110, 69, 120, 97, 99, 116, 86, 97, 112, 111, 117, 114, 65, 98, 111, 118, 101, 32, 108, 111, 111, 112, 46, 101, 120, 97, 109, 112, 108, 101, 47, 103, 48, 49, 50, 50, 52, 47, 108, 97, 119, 115, 46, 70, 110, 69, 120, 97, 99, 116, 72, 101, 105, 103, 104, 116, 79, 102, 72, 101, 97, 116]

def letters (l : List Nat) : List Char := l.map Char.ofNat

theorem head_reads : Try.prog.initOrder = String.ofList (letters w0 ++ Char.ofNat 32 :: (letters w1 ++ Char.ofNat 32 :: (letters w2 ++ Char.ofNat 32 :: letters w3))) := by kernel_rfl

theorem no_blank {l : List Nat} (h : l.all (fun n => Char.ofNat n != Char.ofNat 32) = true) : ∀ c ∈ letters l, c ≠ Char.ofNat 32 := by
  intro c hc
  obtain ⟨n, hn, rfl⟩ := List.mem_map.1 hc
  have := List.all_eq_true.1 h n hn
  simpa using this

theorem h0 : letters w0 = "harness".toList := by kernel_rfl

theorem h2 : letters w2 = "cut".toList := by kernel_rfl

theorem sums : isSumSigns (letters w1) = true := by kernel_rfl

theorem words : wordsSigns Try.prog.initOrder.toList = "harness".toList :: letters w1 :: "cut".toList :: wordsSigns (letters w3) := by
  rw [head_reads, String.toList_ofList, words_cons _ _ (no_blank (by decide +kernel)), words_cons _ _ (no_blank (by decide +kernel)), words_cons _ _ (no_blank (by decide +kernel)), h0, h2]

theorem behind : ∃ r, behindMainWord (wordsSigns Try.prog.initOrder.toList) = "cut".toList :: r := by
  refine ⟨wordsSigns (letters w3), ?_⟩
  rw [words]
  generalize wordsSigns (letters w3) = r
  have hs := sums
  generalize letters w1 = v at hs
  unfold behindMainWord
  simp [hs]

theorem not_later : Try.prog.laysLater = false := by kernel_rfl

theorem no_reflect : Try.prog.bearsReflect = false := by kernel_rfl

theorem no_doors : Try.prog.doorFits [] = true := by kernel_rfl

theorem strips (r : List (List Char)) : stripLifts liftWords ("cut".toList :: r) = ([], "cut".toList :: r) := by kernel_rfl

theorem may_enter_of (P : Program) (r : List (List Char)) (h : behindMainWord (wordsSigns P.initOrder.toList) = "cut".toList :: r) (h1 : P.laysLater = false) (h2 : P.bearsReflect = false) (h3 : P.doorFits [] = true) : P.mayEnter = true := by
  unfold Program.mayEnter
  rw [h]
  dsimp only
  rw [strips, h1, h2, h3]
  kernel_rfl

theorem lifts_final_of (P : Program) (r : List (List Char)) (h : behindMainWord (wordsSigns P.initOrder.toList) = "cut".toList :: r) : P.liftsFinal = false := by
  unfold Program.liftsFinal Program.headLifts
  rw [h]
  dsimp only
  rw [strips]
  kernel_rfl

theorem made_of (P : Program) (r : List (List Char)) (h : behindMainWord (wordsSigns P.initOrder.toList) = "cut".toList :: r) : P.make = some .cut := by
  unfold Program.make
  rw [h]
  kernel_rfl

theorem may_enter : Try.prog.mayEnter = true := let ⟨r, h⟩ := behind; may_enter_of _ r h not_later no_reflect no_doors

theorem lifts_final : Try.prog.liftsFinal = false := let ⟨r, h⟩ := behind; lifts_final_of _ r h

theorem made : Try.prog.make = some .cut := let ⟨r, h⟩ := behind; made_of _ r h

theorem laid : laidOutB Try.prog = true := by kernel_rfl

theorem rowed : mapsRowed Try.prog = true := by kernel_rfl

theorem no_stops : Try.prog.stops = [] := by kernel_rfl

theorem no_knobs : Try.prog.stopKnobs = [] := by kernel_rfl

theorem plain_keys : Try.prog.plainKeys = false := by kernel_rfl

theorem stops_heard : Try.prog.stopsHeard = true := by kernel_rfl

theorem arr3 {α : Type} {cs : Array α} (h : cs.size = 3) : ∃ c0 c1 c2, cs = #[c0, c1, c2] := by
  obtain ⟨l⟩ := cs
  match l, h with
  | [a, b, c], _ => exact ⟨a, b, c, rfl⟩

theorem own : ownKnob Try.prog.godebug = none := by kernel_rfl

theorem rda : Try.prog.readableRec 28 = true ∧ 28 < Try.prog.types.size := ⟨by kernel_rfl, of_decide_eq_true (by kernel_rfl)⟩

theorem rdf : Try.prog.readableRec 22 = true ∧ 22 < Try.prog.types.size := ⟨by kernel_rfl, of_decide_eq_true (by kernel_rfl)⟩

theorem rdA : Try.prog.readableRec 37 = true ∧ 37 < Try.prog.types.size := ⟨by kernel_rfl, of_decide_eq_true (by kernel_rfl)⟩

theorem rdi : Try.prog.readableRec 2 = true ∧ 2 < Try.prog.types.size := ⟨by kernel_rfl, of_decide_eq_true (by kernel_rfl)⟩

theorem rdb : Try.prog.readableRec 62 = true ∧ 62 < Try.prog.types.size := ⟨by kernel_rfl, of_decide_eq_true (by kernel_rfl)⟩

theorem rdp : Try.prog.readableRec 175 = true ∧ 175 < Try.prog.types.size := ⟨by kernel_rfl, of_decide_eq_true (by kernel_rfl)⟩

theorem rdk : Try.prog.readableRec 48 = true ∧ 48 < Try.prog.types.size := ⟨by kernel_rfl, of_decide_eq_true (by kernel_rfl)⟩

theorem vls3 (c : Nat → Nat) : vls 3 (flw c) = #[.float .f32 (c 0), .float .f32 (c 1), .float .f32 (c 2)] := rfl

theorem cells3 : Try.prog.cellsOf 82 = 3 := by kernel_rfl

theorem types3 : Try.prog.cellTypes Try.prog.depth 82 = some (List.replicate 3 22) := by kernel_rfl

theorem rdq : Try.prog.readableRec 82 = true ∧ 82 < Try.prog.types.size := ⟨by kernel_rfl, of_decide_eq_true (by kernel_rfl)⟩

theorem rds : Try.prog.readableRec 102 = true ∧ 102 < Try.prog.types.size := ⟨by kernel_rfl, of_decide_eq_true (by kernel_rfl)⟩
end Go.Proofs.Ytlccmhkjfnmdiaa
